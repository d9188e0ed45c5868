/-
  Slices of bools of the call's own: made, appended to, read. No condition.
-/
import Derived.Test.YtpkadepohgeloaaStc
import Derived.Test.YtpkadepohgeloaaOwnG
import Derived.Test.YtpkadepohgeloaaSameB
namespace Go.Proofs.Ytpkadepohgeloaa
open Go.RowKit
set_option linter.unusedVariables false
set_option maxRecDepth 100000

def bls (l : List Bool) : List Value := l.map fun x => .bool x
theorem bls_len (l : List Bool) : (bls l).length = l.length := by simp [bls]
theorem bls_one (l : List Bool) : ∀ u ∈ bls l, u.oneCell' = true := by
  intro u hu
  simp only [bls, List.mem_map] at hu
  obtain ⟨x, _, rfl⟩ := hu
  rfl
theorem bls_at {l : List Bool} {k : Nat} {x : Bool} (h : l[k]? = some x) : (bls l)[k]? = some (.bool x) := by simp [bls, h]
section
variable {a : Act} {o : Oper} {u : World}
/-- []bool{..} -/
theorem exec_bools (n : Nat) (parts : List (Nat × Operand)) (l : List Bool) (hop : o.op = .buildSlice 26 n parts.toArray) (hn : l.length = n) (h0 : 0 < n) (h1 : n ≤ 100)
    (hp : (parts.map fun (i, x) => (i, a.eval x)) = ((bls l).zipIdx 0).map fun x => (x.2, x.1)) : (execOp a.eval o).run Try.prog u = .ok (.value (.slice (some ⟨u.heap.size, 0, none⟩) n n)) (u.alloc (.cells (bls l).toArray 4)) := by
  have hinfo : (Try.prog.info? 4).map (fun i => (i.zero, i.size)) = some (some (.bool false), 1) := by kernel_rfl
  cases hq : Try.prog.info? 4 with
  | none => simp [hq] at hinfo
  | some ie =>
    have h2 : ie.zero = some (.bool false) ∧ ie.size = 1 := by simpa [hq] using hinfo
    have hr := run_buildSlice (P := Try.prog) u 26 4 n (parts.toArray.map fun (i, x) => (i, a.eval x)) (bls l).toArray ie (.bool false) Try.underlying26 hq h2.1 (by rw [h2.2]; omega) (by rw [h2.2]; omega) (by
      rw [Array.toList_map, hp, h2.2]
      exact Great.fill_flat _ _ (fun v hv => by simp only [bls, List.mem_map] at hv; obtain ⟨m, _, rfl⟩ := hv; rfl) (by simp [bls_len, hn]))
    unfold execOp
    simp only [hop, Sem.run_bind, hr, Result.andThen_ok]
    rfl
end
/-- a slice of bools of the call's own -/
def OwnB (w : World) (base : Nat) (A : Option Addr) (n c : Nat) (l : List Bool) : Prop := OwnG w base 4 1 A n c (bls l)
theorem OwnB.nil (w : World) (base : Nat) : OwnB w base none 0 0 [] := OwnG.nil _ _ _ _
theorem OwnB.len {w : World} {base n c : Nat} {A : Option Addr} {l : List Bool} (h : OwnB w base A n c l) : l.length = n := by
  have := OwnG.len h
  rw [bls_len] at this
  omega
theorem OwnB.rbl {w : World} {base n c : Nat} {A : Option Addr} {l : List Bool} (h : OwnB w base A n c l) : RBl w A l := by
  intro k x hx
  have hk := (List.getElem?_eq_some_iff.1 hx).1
  have hl := h.len
  obtain ⟨g, rfl, _, _⟩ := OwnG.some_ h (by omega)
  refine ⟨_, rfl, ?_⟩
  rw [add_lit, OwnG.cell h k (by omega)]
  exact bls_at hx
theorem OwnB.kept {w w' : World} {base n c : Nat} {A : Option Addr} {l : List Bool} (h : OwnB w base A n c l) (hk : Kept w w') : OwnB w' base A n c l := OwnG.kept h hk
theorem rbl_blk {w : World} {g : Nat} {l : List Bool} (h : Blk w g 4 (bls l)) : RBl w (some ⟨g, 0, none⟩) l := by
  intro k x hx
  refine ⟨_, rfl, ?_⟩
  rw [add_lit, h.cell]
  exact bls_at hx
/-- append of one bool -/
theorem wpl_append_b {ops : Array Oper} {rest : List Oper} {o : Oper} {a : Act} {Q : Exit → Act → World → Prop} (w : World) (hw : Region.wanted o (yielded ops a.tmps) = true) (s x : Operand)
    (hop : o.op = Op.call { callee := Callee.builtin Builtin.append, args := #[s, x], argTypes := #[26, 26] })
    (base n c : Nat) (A : Option Addr) (l : List Bool) (hs : a.eval s = .slice A n c) (hown : OwnB w base A n c l) (hbase : base ≤ w.heap.size)
    (g : Nat) (b : Bool) (hx : a.eval x = .slice (some ⟨g, 0, none⟩) 1 1) (hB : Blk w g 4 (bls [b])) (hn : n ≤ 1000)
    (hK : ∀ w' A' c', OwnB w' base A' (n + 1) c' (l ++ [b]) → Keep (fun j => ∃ ad, A = some ad ∧ ad.block = j) w w' → wpList Try.prog ops Q rest (a.put o.dst (.slice A' (n + 1) c')) w') :
    wpList Try.prog ops Q (o :: rest) a w := by
  have hi : (Try.prog.info? 4).map (fun i => (i.zero, i.size, i.bytes)) = some (some (.bool false), 1, 1) := by kernel_rfl
  refine wpl_append_g w hw s x 26 4 hop (.bool false) 1 1 Try.underlying26 hi rfl (by omega) base n c A (bls l) hs hown hbase ⟨g, 0, none⟩ 1 1 (bls [b]) hx rfl ?_ (bls_one _) (by unfold maxLen; omega) (by omega) ?_
  · intro j u hu
    rw [add_lit, hB.cell]
    exact hu
  · intro w' A' c' h1 h2
    refine hK w' A' c' ?_ h2
    unfold OwnB
    rw [show bls (l ++ [b]) = bls l ++ bls [b] by simp [bls]]
    exact h1
end Go.Proofs.Ytpkadepohgeloaa
