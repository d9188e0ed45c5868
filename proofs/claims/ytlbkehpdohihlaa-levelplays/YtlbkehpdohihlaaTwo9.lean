/-
  []T{x, y}, x and y structs; a number stored into an order of a row. No condition.
-/
import Derived.Test.YtlbkehpdohihlaaLvlX
namespace Go.Proofs.Ytlbkehpdohihlaa
open Go.RowKit
set_option linter.unusedVariables false
theorem fold_setL (l : List Value) : ∀ (k : Nat) (pre suf : List Value), pre.length = k → l.length ≤ suf.length →
    (l.zipIdx k).foldl (fun (cs : Array Value) (x : Value × Nat) => cs.setIfInBounds x.2 x.1) (pre ++ suf).toArray = (pre ++ l ++ suf.drop l.length).toArray := by
  induction l with
  | nil =>
    intro k pre suf h1 h2
    simp
  | cons v l ih =>
    intro k pre suf h1 h2
    cases suf with
    | nil => simp at h2
    | cons s suf =>
      rw [List.zipIdx_cons, List.foldl_cons]
      have e : (pre ++ s :: suf).toArray.setIfInBounds k v = ((pre ++ [v]) ++ suf).toArray := by
        simp [List.set_append_right _ _ (show pre.length ≤ k by omega), h1]
      show List.foldl _ ((pre ++ s :: suf).toArray.setIfInBounds k v) _ = _
      rw [e, ih (k + 1) (pre ++ [v]) suf (by simp [h1]) (by simpa using h2)]
      simp
section
variable {a : Act} {o : Oper} {u : World}
theorem exec_twoS {t T : TypeId} {k bytes : Nat} (ht : SlT t T k bytes) (x y : Operand) (cs ds : List Value) (hk1 : k ≤ 1000) (hop : o.op = .buildSlice t 2 #[(0, x), (1, y)]) (hx : a.eval x = .agg cs.toArray) (hy : a.eval y = .agg ds.toArray) (hl : cs.length = k) (hl2 : ds.length = k) :
    (execOp a.eval o).run Try.prog u = .ok (.value (.slice (some ⟨u.heap.size, 0, none⟩) 2 2)) (u.alloc (.cells (cs ++ ds).toArray T)) := by
  obtain ⟨z, hz, hz2, _⟩ := ht.info
  obtain ⟨i0, hi0, hz0, hz1, _⟩ := info_parts hz
  have hp := ht.pos
  have hlen : (List.map (fun j => z.cells[j % z.cells.size]!) (List.range (2 * k))).length = 2 * k := by simp
  have hf := fold_setL cs 0 [] (List.map (fun j => z.cells[j % z.cells.size]!) (List.range (2 * k))) rfl (by rw [hlen]; omega)
  have hf2 := fold_setL ds k cs ((List.map (fun j => z.cells[j % z.cells.size]!) (List.range (2 * k))).drop cs.length) hl (by rw [List.length_drop, hlen]; omega)
  have he : (((List.map (fun j => z.cells[j % z.cells.size]!) (List.range (2 * k))).drop cs.length).drop ds.length) = [] := List.eq_nil_of_length_eq_zero (by rw [List.length_drop, List.length_drop, hlen]; omega)
  rw [he, List.append_nil] at hf2
  unfold execOp
  simp only [hop, List.map_toArray, List.map_cons, List.map_nil, hx, hy]
  have hn : ¬ 2 * k = 0 := by omega
  have hc : (Value.agg cs.toArray).cells = cs.toArray := rfl
  have hd : (Value.agg ds.toArray).cells = ds.toArray := rfl
  have hr := run_buildSlice (P := Try.prog) u t T 2 #[(0, .agg cs.toArray), (1, .agg ds.toArray)] (cs ++ ds).toArray i0 z ht.und hi0 hz0 (by rw [hz1]; omega) (by rw [hz1]; omega) (by
    have e : Array.map (fun x => z.cells[x % z.cells.size]!) (Array.range (2 * i0.size)) = (List.map (fun j => z.cells[j % z.cells.size]!) (List.range (2 * k))).toArray := by
      apply Array.toList_inj.1
      simp [hz1]
    rw [e, hz1]
    simp only [List.nil_append] at hf
    simp only [Instr.fill, hc, hd]
    simp [hl, hl2]
    rw [hf]
    refine ⟨by omega, by simp only [List.size_toArray, List.length_append, List.length_drop, hlen]; omega, ?_⟩
    rw [← hf2, List.zipIdx_eq_map_add (i := k), List.foldl_map])
  simp only [Sem.run_bind, hr, Result.andThen_ok]
  rfl
end
theorem sl_two (u : World) (T : TypeId) (k : Nat) (cs : List Value) (base : Nat) (hl : cs.length = 2 * k) (hk : k ≤ 1000) (hb : base ≤ u.heap.size) :
    Sl (u.alloc (.cells cs.toArray T)) T k (.slice (some ⟨u.heap.size, 0, none⟩) 2 2) 2 cs ∧ ∀ b, (Value.slice (some ⟨u.heap.size, 0, none⟩) 2 2).ownBlock = some b → base ≤ b := by
  refine ⟨⟨by omega, _, 2, rfl, Nat.le_refl _, by unfold maxLen; omega, fun h => (by cases h), fun ad had => ?_⟩, fun b hb' => by simp [Value.ownBlock] at hb'; omega⟩
  injection had with had
  subst had
  exact ⟨_, 0, cs, rfl, Blk.new u T cs, by omega, by rw [List.drop_zero, List.take_of_length_le (by omega)]⟩
/-- known: a slice of two in a new block -/
def Kn.sl2 (base : Nat) (T : TypeId) (k : Nat) (cs : List Value) : Kn := ⟨fun v w => ∃ g, v = .slice (some ⟨g, 0, none⟩) 2 2 ∧ base ≤ g ∧ Sl w T k (.slice (some ⟨g, 0, none⟩) 2 2) 2 cs, fun _ _ _ ⟨g, h1, h2, h3⟩ hk => ⟨g, h1, h2, h3.kept hk⟩⟩
section
variable {ops : Array Oper} {Q : Exit → Act → World → Prop} {a : Act} {w : World} {o : Oper} {rest : List Oper}
/-- one number stored into an order of a row -/
theorem l_rowo (T : TypeId) (g off n c i j : Nat) (X : List Ord) (e e' : Ord) (z : Int) (ad : Addr) (x y : Operand) (hw : Region.wanted o (yielded ops a.tmps) = true) (hop : o.op = .store 3 x y) (hx : a.eval x = .pointer (some ad)) (hy : a.eval y = .int .i64 z) (had : ad = ⟨g, off + (i * 9 + j), none⟩)
    (hs : Sl w T 9 (.slice (some ⟨g, off, none⟩) n c) n (ords X)) (hn : n = X.length) (he : X[i]? = some e) (hj : j < 9) (he' : e'.cells = e.cells.set j (.int .i64 z))
    (hK : ∀ w', Sl w' T 9 (.slice (some ⟨g, off, none⟩) n c) n (ords (X.set i e')) → Keep (· = g) w w' → w'.heap.size = w.heap.size → wpList Try.prog ops Q rest (a.put o.dst undef) w') : wpList Try.prog ops Q (o :: rest) a w := by
  subst had
  have hi := (List.getElem?_eq_some_iff.1 he).1
  have hm : (i + 1) * 9 ≤ n * 9 := Nat.mul_le_mul_right 9 (by omega)
  obtain ⟨h1, h2, h3, h4⟩ := hs.setCell (i * 9 + j) (.int .i64 z) (by omega)
  refine l_store _ hw (exec_store1 3 x y g _ (.int .i64 z) hop (by kernel_rfl) hx hy rfl rfl h4) (hK _ ?_ h2 h3)
  have := flat_setCell Ord.cells 9 Ord.len9 X i j (.int .i64 z) e e' he hj he'
  unfold ords at h1 ⊢
  rw [← this]
  exact h1
end
end Go.Proofs.Ytlbkehpdohihlaa
