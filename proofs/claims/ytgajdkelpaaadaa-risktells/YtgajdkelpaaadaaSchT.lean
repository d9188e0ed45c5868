/-
  Regions that draw their order, walked by a tree: where two operations may come next, both orders are walked. No condition.
-/
import Derived.Test.YtgajdkelpaaadaaSched
import Derived.Test.YtgajdkelpaaadaaStep
namespace Go.Proofs.Ytgajdkelpaaadaa
open Go.RowKit
set_option linter.unusedVariables false
set_option maxRecDepth 100000

/-- a tree of orders: a value that may come at any time; an operation that comes alone; two, either of which may come -/
inductive Tr where
  | done : Tr
  | val (i : Nat) (r : Tr) : Tr
  | one (i : Nat) (r : Tr) : Tr
  | two (i j : Nat) (r s : Tr) : Tr
section
variable {P : Program} {ops : Array Oper} {S : World → Prop} {Q : Exit → Act → World → Prop}
def wpTr (P : Program) (ops : Array Oper) (S : World → Prop) (Q : Exit → Act → World → Prop) : Tr → Act → World → Prop
  | .done, a, w => wpList P ops Q [] a w
  | .val i r, a, w => ∃ o v, ops[i]? = some o ∧ YieldsIf P ops S o v a ∧ wpTr P ops S Q r (a.put o.dst v) w
  | .one i r, a, w => wpOp P ops Q i (fun a' w' => S w' ∧ wpTr P ops S Q r a' w') a w
  | .two i j r s, a, w => wpOp P ops Q i (fun a' w' => S w' ∧ wpTr P ops S Q r a' w') a w ∧ wpOp P ops Q j (fun a' w' => S w' ∧ wpTr P ops S Q s a' w') a w
def treB (ops : Array Oper) : Tr → Nat → Array Bool → Bool
  | .done, n, ls => n == 0 && (Region.ready .any ops ls).isEmpty
  | .val i r, n, ls => n != 0 && (Region.ready .any ops ls).contains i && Region.free .any ops ls i && treB ops r (n - 1) (ls.setIfInBounds i true)
  | .one i r, n, ls => n != 0 && (Region.ready .any ops ls == [i]) && treB ops r (n - 1) (ls.setIfInBounds i true)
  | .two i j r s, n, ls => n != 0 && (Region.ready .any ops ls == [i, j]) && treB ops r (n - 1) (ls.setIfInBounds i true) && treB ops s (n - 1) (ls.setIfInBounds j true)
theorem X_of_tr (hs : Region.noSelect ops = true) (hQ : ∀ c a d v w, Q (.panic c) (a.put d v) w → Q (.panic c) a w) : ∀ (t : Tr) (n : Nat) (ls : Array Bool) (a : Act) (w : World), S w → treB ops t n ls = true → wpTr P ops S Q t a w → wpX P .any ops Q S (fun _ => false) n ls a w
  | .done, n, ls, a, w, hS, hB, h => by
    simp only [treB, Bool.and_eq_true, beq_iff_eq, List.isEmpty_iff] at hB
    obtain ⟨rfl, hB⟩ := hB
    exact ⟨hB, h⟩
  | .val i r, n, ls, a, w, hS, hB, h => by
    obtain ⟨o, v, ho, hy, h⟩ := h
    simp only [treB, Bool.and_eq_true, bne_iff_ne] at hB
    obtain ⟨⟨⟨hn, hr⟩, hf⟩, hB⟩ := hB
    obtain ⟨k, rfl⟩ : ∃ k, n = k + 1 := ⟨n - 1, by omega⟩
    exact wpX_first (Si := S) ho (Region.noSelect_spec hs) (fun c a w => hQ c a o.dst v w) (fun _ _ _ _ _ _ hw hT => hT rfl hw) k ls a w (Region.free_spec ho hf) (by simpa using hr) hy hS (X_of_tr hs hQ r k _ _ w hS hB h)
  | .one i r, n, ls, a, w, hS, hB, h => by
    simp only [treB, Bool.and_eq_true, bne_iff_ne, beq_iff_eq] at hB
    obtain ⟨⟨hn, hr⟩, hB⟩ := hB
    obtain ⟨k, rfl⟩ : ∃ k, n = k + 1 := ⟨n - 1, by omega⟩
    refine ⟨fun h0 => (by rw [h0] at hr; cases hr), fun j hj => ?_⟩
    obtain rfl : j = i := by rw [hr] at hj; simpa using hj
    exact wpOp_mono (fun a' w' ⟨h1, h2⟩ => ⟨fun _ _ => h1, X_of_tr hs hQ r k _ a' w' h1 hB h2⟩) h
  | .two i j r s, n, ls, a, w, hS, hB, h => by
    simp only [treB, Bool.and_eq_true, bne_iff_ne, beq_iff_eq] at hB
    obtain ⟨⟨⟨hn, hr⟩, hB⟩, hC⟩ := hB
    obtain ⟨k, rfl⟩ : ∃ k, n = k + 1 := ⟨n - 1, by omega⟩
    refine ⟨fun h0 => (by rw [h0] at hr; cases hr), fun q hq => ?_⟩
    rcases (show q = i ∨ q = j by rw [hr] at hq; simpa using hq) with rfl | rfl
    · exact wpOp_mono (fun a' w' ⟨h1, h2⟩ => ⟨fun _ _ => h1, X_of_tr hs hQ r k _ a' w' h1 hB h2⟩) h.1
    · exact wpOp_mono (fun a' w' ⟨h1, h2⟩ => ⟨fun _ _ => h1, X_of_tr hs hQ s k _ a' w' h1 hC h2⟩) h.2
theorem wp_tree {id : Nat} {a : Act} {w : World} {l : List Oper} (S : World → Prop) (t : Tr) (hm : P.follows .mixedOrders = true) (hB : (Region.noSelect l.toArray && treB l.toArray t l.length (Array.replicate l.length false)) = true)
    (hS : S w.drew) (h : wpTr P l.toArray S (NoPanic Q) t a w.drew) : (Code.region id l.toArray true).wp P Q a w := by
  simp only [Bool.and_eq_true] at hB
  refine wp_region_noPanic (wp_region_any hm ?_)
  have := X_of_tr (P := P) (S := S) hB.1 (fun c a d v w h => (h : False).elim) t _ _ a w.drew hS hB.2 h
  have h2 := wpAny_of_X _ _ _ _ this
  simpa using h2
end
section
variable {ops : Array Oper} {S : World → Prop} {Q : Exit → Act → World → Prop} {a : Act} {w : World} {i : Nat} {o : Oper} {r : Tr}
theorem t_done (h : wpList Try.prog ops Q [] a w) : wpTr Try.prog ops S (NoPanic Q) .done a w := NoPanic.normal h
theorem t_val (v : Value) (ho : ops[i]? = some o) (hw : Region.wanted o (yielded ops a.tmps) = true) (h : ∀ u, S u → (execOp a.eval o).run Try.prog u = .ok (.value v) u) (hK : wpTr Try.prog ops S Q r (a.put o.dst v) w) : wpTr Try.prog ops S Q (.val i r) a w :=
  ⟨o, v, ho, .inl ⟨hw, h⟩, hK⟩
theorem t_op (ho : ops[i]? = some o) (hw : Region.wanted o (yielded ops a.tmps) = true) (h : ∀ K : Act → World → Prop, (∀ a' w', S w' → wpTr Try.prog ops S Q r a' w' → K a' w') → o.wp Try.prog a w K Q) : wpOp Try.prog ops Q i (fun a' w' => S w' ∧ wpTr Try.prog ops S Q r a' w') a w := by
  unfold wpOp
  simp only [ho, hw, if_true]
  exact .inl (h _ (fun a' w' h1 h2 => ⟨h1, h2⟩))
/-- a value, and another world -/
theorem t_new (v : Value) (w' : World) (ho : ops[i]? = some o) (hw : Region.wanted o (yielded ops a.tmps) = true) (h : (execOp a.eval o).run Try.prog w = .ok (.value v) w') (hS : S w') (hK : wpTr Try.prog ops S Q r (a.put o.dst v) w') : wpOp Try.prog ops Q i (fun a' w' => S w' ∧ wpTr Try.prog ops S Q r a' w') a w :=
  t_op ho hw fun K hK' => by
    unfold Oper.wp
    rw [h]
    exact hK' _ _ hS hK
/-- a call -/
theorem t_call (f : Nat) (args : Array Value) (ho : ops[i]? = some o) (hw : Region.wanted o (yielded ops a.tmps) = true) (h : ∀ u, (execOp a.eval o).run Try.prog u = .ok (.enter f args) u) (hc : Calls Try.prog f args w fun e w' => ∃ v, e = .returned v ∧ S w' ∧ wpTr Try.prog ops S Q r (a.put o.dst v) w') : wpOp Try.prog ops Q i (fun a' w' => S w' ∧ wpTr Try.prog ops S Q r a' w') a w :=
  t_op ho hw fun K hK' => by
    unfold Oper.wp
    rw [h]
    refine Calls.mono hc fun e w' he => ?_
    obtain ⟨v, rfl, hS, hK⟩ := he
    exact hK' _ _ hS hK
/-- a whole struct stored -/
theorem t_setS (ty : TypeId) (g : Nat) (T : TypeId) (old cells : List Value) (x y : Operand) (ho : ops[i]? = some o) (hw : Region.wanted o (yielded ops a.tmps) = true) (hop : o.op = .store ty x y) (hx : a.eval x = .pointer (some ⟨g, 0, none⟩)) (hy : a.eval y = .agg cells.toArray) (hb : Blk w g T old) (hi : (Try.prog.info? ty).map (·.size) = some cells.length) (hold : old.length = cells.length) (h1 : ∀ u ∈ cells, u.oneCell' = true)
    (hK : ∀ w', Blk w' g T cells → Keep (· = g) w w' → S w' ∧ wpTr Try.prog ops S Q r (a.put o.dst undef) w') : wpOp Try.prog ops Q i (fun a' w' => S w' ∧ wpTr Try.prog ops S Q r a' w') a w :=
  t_op ho hw fun K hK' => op_store_row w ty x y hop g cells hx hy T old hb hi hold h1 (fun w' h2 h3 h4 => hK' _ _ (hK w' h2 h3).1 (hK w' h2 h3).2)
end
end Go.Proofs.Ytgajdkelpaaadaa
