/-
  Slices of ints: among the arguments, and of the call's own; append. No condition.
-/
import Derived.Test.YtliepgmnlhfaiaaSumS
import Derived.Test.YtliepgmnlhfaiaaClose
import Derived.Test.YtliepgmnlhfaiaaOwnG
namespace Go.Proofs.Ytliepgmnlhfaiaa
open Go.RowKit Go.ChangeShapes Go.WideShapes Go.ChangeAt
set_option linter.unusedVariables false
set_option maxRecDepth 100000

/-- a slice of ints among the arguments -/
def IntsA (W : World) (v : Value) (l : List Int) : Prop := ∃ A n c, v = .slice A n c ∧ Hid (l.length = n) ∧ RI W A l ∧ (∀ x ∈ l, In64 x) ∧ n ≤ c ∧ c ≤ maxLen ∧ (A = none → c = 0)
theorem cellsOfI : Try.prog.cellsOf 3 = 1 := by kernel_rfl
theorem infoI : (Try.prog.info? 3).map (fun i => (i.zero, i.size, i.bytes)) = some (some (.int .i64 0), 1, 8) := by kernel_rfl
theorem infoI2 : (Try.prog.info? 3).map (fun i => (i.zero, i.size)) = some (some (.int .i64 0), 1) := by kernel_rfl
theorem infoI1 : (Try.prog.info? 3).map (·.size) = some 1 := by kernel_rfl
theorem open_intsA {H : Type} {enc : TypeId × Value → H} {W : World} {b0 : Nat} {v : Value} {d : DataW H} {p : List MemPlace} (hv : Value.okWide Try.prog W .any b0 40 v)
    (h : DataW.Trod enc Try.prog W 0 (fun _ => true) true 40 v d p) : ∃ l, IntsA W v l := by
  obtain ⟨a0, len0, cap0, rfl⟩ := okWide_slice Try.underlying40 hv
  obtain ⟨fuel, hf⟩ := h
  rcases open_ints Try.underlying40 Try.underlying3 cellsOfI hf with ⟨hcs, _⟩ | ⟨a, len, cap, zs, hcs, _, hl, hm, hz, _, hcell, hwz⟩
  · simp [Value.cells] at hcs
    obtain ⟨rfl, rfl, rfl⟩ := hcs
    exact ⟨[], none, 0, 0, rfl, rfl, RI.nil _ _, (fun x h => by cases h), Nat.le_refl _, by unfold maxLen; omega, fun _ => rfl⟩
  · simp [Value.cells] at hcs
    obtain ⟨rfl, rfl, rfl⟩ := hcs
    simp at hz
    refine ⟨zs.take len0, some a, len0, cap0, rfl, by show _ = _; simp; omega, ?_, ?_, hl, hm, fun h => by cases h⟩
    · intro k x hx
      refine ⟨a, rfl, ?_⟩
      have hk : k < len0 := by
        have := (List.getElem?_eq_some_iff.1 hx).1
        simp at this
        omega
      rw [List.getElem?_take, if_pos hk] at hx
      rw [hcell k (by omega), List.getD_eq_getElem?_getD, hx]
      rfl
    · intro x hx
      exact in64_of_wf (hwz x (List.mem_of_mem_take hx))

/-- a slice of ints of the call's own -/
def OwnI (w : World) (base : Nat) (A : Option Addr) (n c : Nat) (l : List Int) : Prop := OwnG w base 3 1 A n c (i64s l)
theorem OwnI.nil (w : World) (base : Nat) : OwnI w base none 0 0 [] := OwnG.nil _ _ _ _
theorem OwnI.len {w : World} {base n c : Nat} {A : Option Addr} {l : List Int} (h : OwnI w base A n c l) : l.length = n := by
  have := OwnG.len h
  rw [i64s_len] at this
  omega
theorem OwnI.ri {w : World} {base n c : Nat} {A : Option Addr} {l : List Int} (h : OwnI w base A n c l) : RI w A l := by
  intro k x hx
  have hk := (List.getElem?_eq_some_iff.1 hx).1
  have hl := h.len
  obtain ⟨g, rfl, _, _⟩ := OwnG.some_ h (by omega)
  refine ⟨_, rfl, ?_⟩
  rw [add_lit, OwnG.cell h k (by omega)]
  simp [i64s, hx]
theorem OwnI.kept {w w' : World} {base n c : Nat} {A : Option Addr} {l : List Int} (h : OwnI w base A n c l) (hk : Kept w w') : OwnI w' base A n c l := OwnG.kept h hk
theorem OwnI.one (w : World) (x : Int) (base : Nat) (hb : base ≤ w.heap.size) : OwnI (w.alloc (.cells #[.int .i64 x] 3)) base (some ⟨w.heap.size, 0, none⟩) 1 1 [x] :=
  ⟨rfl, .inr ⟨w.heap.size, 1, #[.int .i64 x], rfl, hb, heap_alloc_new w _, Nat.le_refl _, by unfold maxLen; omega, by simp, rfl⟩⟩
theorem OwnI.none_ (w : World) (base : Nat) (hb : base ≤ w.heap.size) : OwnI (w.alloc (.cells #[] 3)) base (some ⟨w.heap.size, 0, none⟩) 0 0 [] :=
  ⟨rfl, .inr ⟨w.heap.size, 0, #[], rfl, hb, heap_alloc_new w _, Nat.le_refl _, by unfold maxLen; omega, by simp, rfl⟩⟩

section
variable {a : Act} {o : Oper} {Q : Exit → Act → World → Prop} {K : Act → World → Prop}
/-- append of ints onto a slice of the call's own; what is appended may be nil -/
theorem op_append_i (w : World) (s x : Operand)
    (hop : o.op = Op.call { callee := Callee.builtin Builtin.append, args := #[s, x], argTypes := #[40, 40] })
    (base n c : Nat) (A : Option Addr) (l : List Int) (hs : a.eval s = .slice A n c) (hown : OwnI w base A n c l) (hbase : base ≤ w.heap.size)
    (B : Option Addr) (m d : Nat) (ys : List Int) (hx : a.eval x = .slice B m d) (hm : ys.length = m) (hR : RI w B ys) (hB : B = none → d = 0) (hlim : n + m ≤ 1000000)
    (hK : ∀ w' A' c', OwnI w' base A' (n + m) c' (l ++ ys) → Keep (fun b => ∃ ad, A = some ad ∧ ad.block = b) w w' → K (a.put o.dst (.slice A' (n + m) c')) w') :
    o.wp Try.prog a w K Q := by
  obtain ⟨i0, hi, hz0, hz1, hz2⟩ := info_parts infoI
  subst hm
  cases B with
  | none =>
    have hd := hB rfl
    subst hd
    have hy : ys = [] := by
      cases ys with
      | nil => rfl
      | cons y ys =>
        obtain ⟨ad, h1, _⟩ := hR 0 y rfl
        cases h1
    subst hy
    have hr := run_append_owned_none (P := Try.prog) w base 40 o.type 3 i0 1 Try.underlying40 hi (.slice A n c) n (i64s l) hown
    unfold Oper.wp execOp
    simp only [hop, resolve, invoke, builtin, Sem.run_bind, Sem.run_pure, Result.andThen_ok, List.map_toArray, List.map_cons, List.map_nil, hs, hx, List.length_nil, hr]
    exact hK w A c (by simpa using hown) (Keep.refl _ _)
  | some ad =>
    refine op_append_g w s x 40 3 hop (.int .i64 0) 1 8 Try.underlying40 infoI rfl (by omega) base n c A (i64s l) hs hown hbase ad ys.length d (i64s ys) hx (by simp [i64s_len]) ?_ (i64s_one ys) (by unfold maxLen; omega) (by omega) ?_
    · intro j u hu
      simp only [i64s, List.getElem?_map, Option.map_eq_some_iff] at hu
      obtain ⟨y, hy, rfl⟩ := hu
      obtain ⟨ad', e, hc⟩ := hR j y hy
      injection e with e
      subst e
      exact hc
    · intro w' A' c' h1 h2
      refine hK w' A' c' ?_ h2
      unfold OwnI
      rw [show i64s (l ++ ys) = i64s l ++ i64s ys by simp [i64s]]
      exact h1
end
theorem wpl_append_i {ops : Array Oper} {rest : List Oper} {a : Act} {o : Oper} {Q : Exit → Act → World → Prop} (w : World) (hw : Region.wanted o (yielded ops a.tmps) = true) (s x : Operand)
    (hop : o.op = Op.call { callee := Callee.builtin Builtin.append, args := #[s, x], argTypes := #[40, 40] })
    (base n c : Nat) (A : Option Addr) (l : List Int) (hs : a.eval s = .slice A n c) (hown : OwnI w base A n c l) (hbase : base ≤ w.heap.size)
    (B : Option Addr) (m d : Nat) (ys : List Int) (hx : a.eval x = .slice B m d) (hm : ys.length = m) (hR : RI w B ys) (hB : B = none → d = 0) (hlim : n + m ≤ 1000000)
    (hK : ∀ w' A' c', OwnI w' base A' (n + m) c' (l ++ ys) → Keep (fun b => ∃ ad, A = some ad ∧ ad.block = b) w w' → wpList Try.prog ops Q rest (a.put o.dst (.slice A' (n + m) c')) w') :
    wpList Try.prog ops Q (o :: rest) a w :=
  wpList_wanted hw fun K hK' => op_append_i w s x hop base n c A l hs hown hbase B m d ys hx hm hR hB hlim fun w' A' c' h1 h2 => hK' _ _ (hK w' A' c' h1 h2)
section
variable {a : Act} {o : Oper} {u : World}
theorem exec_indexA (t e : TypeId) (k : Nat) (x y : Operand) (ad : Addr) (n c i : Nat) (hop : o.op = .indexAddr t x y) (ht : Try.prog.underlying t = some (.slice e)) (hk : (Try.prog.info? e).map (·.size) = some k)
    (hx : a.eval x = .slice (some ad) n c) (hy : a.eval y = .int .i64 (i : Int)) (hi : i < n) : (execOp a.eval o).run Try.prog u = .ok (.value (.pointer (some (ad.add (i * k))))) u := by
  have hin : (0 : Int) ≤ (i : Int) ∧ (i : Int) < (n : Int) := by omega
  cases hq : Try.prog.info? e with
  | none => simp [hq] at hk
  | some t0 =>
    have hs : t0.size = k := by simpa [hq] using hk
    unfold execOp
    simp only [hop, hx, hy]
    simp [Instr.indexAt, asIntOf, run_underlying ht, Sem.run_bind, hin, sizeOf, typeInfo, hq, hs, hi]
end
end Go.Proofs.Ytliepgmnlhfaiaa
