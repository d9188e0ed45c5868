/-
  Regions that draw their order, walked by one schedule: operations that yield one value in every world of a class are taken when the walk wants them; those that turn the world (calls, appends, stores) come up alone, in their order. No condition.
-/
import Derived.Test.YtliepgmnlhfaiaaCmp0
import Derived.OrdersHeld
import Derived.Deep.RegionHeld3
import Derived.Deep.AppendLies
namespace Go.Proofs.Ytliepgmnlhfaiaa
open Go.RowKit
set_option linter.unusedVariables false
set_option maxRecDepth 100000

section
variable {P : Program} {ops : Array Oper} {md : Region.Mode} {S Si : World → Prop} {weak : Nat → Bool} {Q : Exit → Act → World → Prop}

/-- whatever order is picked: S stays behind every operation but the weak ones -/
def wpX (P : Program) (md : Region.Mode) (ops : Array Oper) (Q : Exit → Act → World → Prop) (S : World → Prop) (weak : Nat → Bool) : Nat → Array Bool → Act → World → Prop
  | 0, ls, a, w => Region.ready md ops ls = [] ∧ Q .normal a w
  | f + 1, ls, a, w => (Region.ready md ops ls = [] → Q .normal a w) ∧ ∀ i ∈ Region.ready md ops ls, wpOp P ops Q i (fun a' w' => (weak i = false → S w → S w') ∧ wpX P md ops Q S weak f (ls.setIfInBounds i true) a' w') a w
theorem wpAny_of_X : ∀ (f : Nat) (ls : Array Bool) (a : Act) (w : World), wpX P md ops Q S weak f ls a w → wpAny P md ops Q f ls a w
  | 0, _, _, _, h => h
  | f + 1, _, _, _, h => ⟨h.1, fun i hi => wpOp_mono (fun a' w' h' => wpAny_of_X f _ a' w' h'.2) (h.2 i hi)⟩

/-- what yields one value in every world of Si may be taken first, where whatever may come ahead of it leaves a world of Si -/
theorem wpX_first {i : Nat} {oi : Oper} {v : Value} (hi : ops[i]? = some oi) (hsel : ∀ (j : Nat) (o : Oper) cs b, ops[j]? = some o → o.op ≠ .select cs b) (hQ : ∀ c a w, Q (.panic c) (a.put oi.dst v) w → Q (.panic c) a w)
    (hpre : ∀ j oj, ops[j]? = some oj → (∀ e ∈ oj.after, Region.binds md e = true → e.on ≠ i) → ∀ w w', Si w → (weak j = false → S w → S w') → Si w') :
    ∀ (f : Nat) (ls : Array Bool) (a : Act) (w : World), (∀ j oj, ops[j]? = some oj → j ≠ i → ls.getD j true = false → (∀ e ∈ oj.after, Region.binds md e = true → e.on ≠ i) → oi.apart ops oj = true) →
      i ∈ Region.ready md ops ls → YieldsIf P ops Si oi v a → Si w → wpX P md ops Q S weak f (ls.setIfInBounds i true) (a.put oi.dst v) w → wpX P md ops Q S weak (f + 1) ls a w := by
  intro f
  induction f with
  | zero =>
    intro ls a w _ hr hy hS H
    refine ⟨fun h => (by rw [h] at hr; cases hr), fun j hj => ?_⟩
    by_cases hji : j = i
    · subst hji
      exact hy.wpOp hi hS ⟨fun _ h => h, H⟩
    · have := ready_mono hj hji
      rw [H.1] at this
      cases this
  | succ f ih =>
    intro ls a w hfree hr hy hS H
    refine ⟨fun h => (by rw [h] at hr; cases hr), fun j hj => ?_⟩
    by_cases hji : j = i
    · subst hji
      exact hy.wpOp hi hS ⟨fun _ h => h, H⟩
    · have h1 := H.2 j (ready_mono hj hji)
      obtain ⟨hjun, oj, hoj, hall⟩ := mem_ready.1 hj
      have hnot : ∀ e ∈ oj.after, Region.binds md e = true → e.on ≠ i := fun e he hb heq => by
        have h1 := hall e he hb
        have h0 := (mem_ready.1 hr).1
        rw [heq] at h1
        rcases Nat.lt_or_ge i ls.size with h' | h'
        · simp [h'] at h0 h1
          rw [h0] at h1
          cases h1
        · simp [Array.getElem?_eq_none h'] at h1
      have h2 := wpOp_putIf hoj (hfree j oj hoj hji hjun hnot) (fun cs b => hsel i oi cs b hi) (fun cs b => hsel j oj cs b hoj) hQ hy h1
      refine wpOp_mono (fun a' w' h3 => ⟨h3.2.1, ?_⟩) h2
      have hSi := hpre j oj hoj hnot w w' hS h3.2.1
      refine ih (ls.setIfInBounds j true) a' w' (fun k ok hk hki hun hno => hfree k ok hk hki ?_ hno) (ready_mono hr (Ne.symm hji)) h3.1 hSi ?_
      · by_cases hjk : j = k
        · subst hjk; exact hjun
        · rw [getD_set_ne true hjk] at hun; exact hun
      · rw [Array.setIfInBounds_comm _ _ hji]
        exact h3.2.2

/-- the schedule's walk. A schedule: an operation's number and its kind: 0 one value in every world of the class; 1 it turns the world, within the class; 2 one value in whatever world; 3 it turns the world, all of kind 0 being done -/
def wpSch (P : Program) (ops : Array Oper) (S : World → Prop) (Q : Exit → Act → World → Prop) : List (Nat × Nat) → Act → World → Prop
  | [], a, w => wpList P ops Q [] a w
  | (i, 0) :: r, a, w => ∃ o v, ops[i]? = some o ∧ YieldsIf P ops S o v a ∧ wpSch P ops S Q r (a.put o.dst v) w
  | (i, 1) :: r, a, w => wpOp P ops Q i (fun a' w' => S w' ∧ wpSch P ops S Q r a' w') a w
  | (i, 2) :: r, a, w => ∃ o v, ops[i]? = some o ∧ YieldsIf P ops (fun _ => True) o v a ∧ wpSch P ops S Q r (a.put o.dst v) w
  | (i, _) :: r, a, w => wpOp P ops Q i (fun a' w' => wpSch P ops S Q r a' w') a w
/-- may it be walked so -/
def schB (ops : Array Oper) (weak : List Nat) : List (Nat × Nat) → Array Bool → Bool → Bool
  | [], ls, _ => (Region.ready .any ops ls).isEmpty
  | (i, 0) :: r, ls, late => !late && (Region.ready .any ops ls).contains i && Region.free .any ops ls i && (weak.all fun j => match ops[j]? with | some oj => oj.after.any (fun e => Region.binds .any e && e.on == i) | none => false) && schB ops weak r (ls.setIfInBounds i true) late
  | (i, 1) :: r, ls, late => (Region.ready .any ops ls == [i]) && schB ops weak r (ls.setIfInBounds i true) late
  | (i, 2) :: r, ls, late => (Region.ready .any ops ls).contains i && Region.free .any ops ls i && schB ops weak r (ls.setIfInBounds i true) late
  | (i, _) :: r, ls, _ => (Region.ready .any ops ls == [i]) && weak.contains i && schB ops weak r (ls.setIfInBounds i true) true

theorem X_of_sch {wk : List Nat} (hs : Region.noSelect ops = true) (hQ : ∀ c a d v w, Q (.panic c) (a.put d v) w → Q (.panic c) a w) : ∀ (sch : List (Nat × Nat)) (late : Bool) (ls : Array Bool) (a : Act) (w : World), (late = false → S w) → schB ops wk sch ls late = true → wpSch P ops S Q sch a w → wpX P .any ops Q S (fun i => wk.contains i) sch.length ls a w
  | [], late, ls, a, w, hS, hB, h => by
    have : Region.ready .any ops ls = [] := by simpa [schB] using hB
    exact ⟨this, h⟩
  | (i, 0) :: r, late, ls, a, w, hS, hB, h => by
    obtain ⟨o, v, ho, hy, h⟩ := h
    simp only [schB, Bool.and_eq_true, Bool.not_eq_true'] at hB
    obtain ⟨⟨⟨⟨hl, hr⟩, hf⟩, hall⟩, hB⟩ := hB
    refine wpX_first (Si := S) ho (Region.noSelect_spec hs) (fun c a w => hQ c a o.dst v w) ?_ r.length ls a w (Region.free_spec ho hf) (by simpa using hr) hy (hS hl) (X_of_sch hs hQ r late _ _ w hS hB h)
    intro j oj hoj hno w w' hw hT
    refine hT ?_ hw
    cases hc : wk.contains j with
    | false => rfl
    | true =>
      have h1 := List.all_eq_true.1 hall j (by simpa using hc)
      simp only [hoj, Array.any_eq_true'] at h1
      obtain ⟨e, he, h2⟩ := h1
      simp only [Bool.and_eq_true, beq_iff_eq] at h2
      exact absurd h2.2 (hno e he h2.1)
  | (i, 1) :: r, late, ls, a, w, hS, hB, h => by
    simp only [schB, Bool.and_eq_true, beq_iff_eq] at hB
    obtain ⟨hr, hB⟩ := hB
    show wpX P .any ops Q S (fun i => wk.contains i) (r.length + 1) ls a w
    refine ⟨fun h0 => (by rw [h0] at hr; cases hr), fun j hj => ?_⟩
    obtain rfl : j = i := by rw [hr] at hj; simpa using hj
    exact wpOp_mono (fun a' w' ⟨h1, h2⟩ => ⟨fun _ _ => h1, X_of_sch hs hQ r late _ a' w' (fun _ => h1) hB h2⟩) h
  | (i, 2) :: r, late, ls, a, w, hS, hB, h => by
    obtain ⟨o, v, ho, hy, h⟩ := h
    simp only [schB, Bool.and_eq_true] at hB
    obtain ⟨⟨hr, hf⟩, hB⟩ := hB
    exact wpX_first (Si := fun _ => True) ho (Region.noSelect_spec hs) (fun c a w => hQ c a o.dst v w) (fun _ _ _ _ _ _ _ _ => trivial) r.length ls a w (Region.free_spec ho hf) (by simpa using hr) hy trivial (X_of_sch hs hQ r late _ _ w hS hB h)
  | (i, n + 3) :: r, late, ls, a, w, hS, hB, h => by
    simp only [schB, Bool.and_eq_true, beq_iff_eq] at hB
    obtain ⟨⟨hr, hw⟩, hB⟩ := hB
    show wpX P .any ops Q S (fun i => wk.contains i) (r.length + 1) ls a w
    refine ⟨fun h0 => (by rw [h0] at hr; cases hr), fun j hj => ?_⟩
    obtain rfl : j = i := by rw [hr] at hj; simpa using hj
    exact wpOp_mono (fun a' w' h2 => ⟨fun h => (by have h : wk.contains j = false := h; rw [hw] at h; cases h), X_of_sch hs hQ r true _ a' w' (fun h => by cases h) hB h2⟩) h

/-- the operations of a schedule that need not keep the class -/
def weakOf (sch : List (Nat × Nat)) : List Nat := (sch.filter fun x => 3 ≤ x.2).map (·.1)
/-- the beginning: it does not panic -/
theorem wp_sched {id : Nat} {a : Act} {w : World} {l : List Oper} (S : World → Prop) (sch : List (Nat × Nat)) (hm : P.follows .mixedOrders = true) (hB : (Region.noSelect l.toArray && (sch.length == l.length) && schB l.toArray (weakOf sch) sch (Array.replicate l.length false) false) = true)
    (hS : S w.drew) (h : wpSch P l.toArray S (NoPanic Q) sch a w.drew) : (Code.region id l.toArray true).wp P Q a w := by
  simp only [Bool.and_eq_true, beq_iff_eq] at hB
  refine wp_region_noPanic (wp_region_any hm ?_)
  have := X_of_sch (P := P) (S := S) hB.1.1 (fun c a d v w h => (h : False).elim) sch false _ a w.drew (fun _ => hS) hB.2 h
  rw [hB.1.2] at this
  have h2 := wpAny_of_X _ _ _ _ this
  simpa using h2
end

section
variable {ops : Array Oper} {S : World → Prop} {Q : Exit → Act → World → Prop} {a : Act} {w : World} {i : Nat} {o : Oper} {r : List (Nat × Nat)}

/-- the end -/
theorem s_done (h : wpList Try.prog ops Q [] a w) : wpSch Try.prog ops S (NoPanic Q) [] a w := NoPanic.normal h
/-- a value, in whatever world of the class -/
theorem s_val (v : Value) (ho : ops[i]? = some o) (hw : Region.wanted o (yielded ops a.tmps) = true) (h : ∀ u, S u → (execOp a.eval o).run Try.prog u = .ok (.value v) u) (hK : wpSch Try.prog ops S Q r (a.put o.dst v) w) : wpSch Try.prog ops S Q ((i, 0) :: r) a w :=
  ⟨o, v, ho, .inl ⟨hw, h⟩, hK⟩
/-- an operation that its guard passes over -/
theorem s_skip (ho : ops[i]? = some o) (hw : Region.wanted o (yielded ops a.tmps) = false) (hK : wpSch Try.prog ops S Q r (a.put o.dst undef) w) : wpSch Try.prog ops S Q ((i, 0) :: r) a w :=
  ⟨o, undef, ho, .inr ⟨hw, rfl⟩, hK⟩
/-- one that turns the world, passed over -/
theorem s_skip2 (ho : ops[i]? = some o) (hw : Region.wanted o (yielded ops a.tmps) = false) (hS : S w) (hK : wpSch Try.prog ops S Q r (a.put o.dst undef) w) : wpSch Try.prog ops S Q ((i, 1) :: r) a w := by
  unfold wpSch wpOp
  simp only [ho, hw]
  exact ⟨hS, hK⟩
/-- any operation, by its own law -/
theorem s_oper (ho : ops[i]? = some o) (hw : Region.wanted o (yielded ops a.tmps) = true) (h : ∀ K : Act → World → Prop, (∀ a' w', S w' → wpSch Try.prog ops S Q r a' w' → K a' w') → o.wp Try.prog a w K Q) : wpSch Try.prog ops S Q ((i, 1) :: r) a w := by
  unfold wpSch wpOp
  simp only [ho, hw, if_true]
  exact .inl (h _ (fun a' w' h1 h2 => ⟨h1, h2⟩))
/-- a value, and another world -/
theorem s_turn (v : Value) (w' : World) (ho : ops[i]? = some o) (hw : Region.wanted o (yielded ops a.tmps) = true) (h : (execOp a.eval o).run Try.prog w = .ok (.value v) w') (hS : S w') (hK : wpSch Try.prog ops S Q r (a.put o.dst v) w') : wpSch Try.prog ops S Q ((i, 1) :: r) a w :=
  s_oper ho hw fun K hK' => by
    unfold Oper.wp
    rw [h]
    exact hK' _ _ hS hK
/-- a store -/
theorem s_store (w' : World) (ho : ops[i]? = some o) (hw : Region.wanted o (yielded ops a.tmps) = true) (h : (execOp a.eval o).run Try.prog w = .ok .skip w') (hS : S w') (hK : wpSch Try.prog ops S Q r (a.put o.dst undef) w') : wpSch Try.prog ops S Q ((i, 1) :: r) a w :=
  s_oper ho hw fun K hK' => by
    unfold Oper.wp
    rw [h]
    exact hK' _ _ hS hK
/-- a call -/
theorem s_call (f : Nat) (args : Array Value) (ho : ops[i]? = some o) (hw : Region.wanted o (yielded ops a.tmps) = true) (h : ∀ u, (execOp a.eval o).run Try.prog u = .ok (.enter f args) u) (hc : Calls Try.prog f args w fun e w' => ∃ v, e = .returned v ∧ S w' ∧ wpSch Try.prog ops S Q r (a.put o.dst v) w') : wpSch Try.prog ops S Q ((i, 1) :: r) a w :=
  s_oper ho hw fun K hK' => by
    unfold Oper.wp
    rw [h]
    refine Calls.mono hc fun e w' he => ?_
    obtain ⟨v, rfl, hS, hK⟩ := he
    exact hK' _ _ hS hK
/-- a value in whatever world -/
theorem s_free (v : Value) (ho : ops[i]? = some o) (hw : Region.wanted o (yielded ops a.tmps) = true) (h : ∀ u, (execOp a.eval o).run Try.prog u = .ok (.value v) u) (hK : wpSch Try.prog ops S Q r (a.put o.dst v) w) : wpSch Try.prog ops S Q ((i, 2) :: r) a w :=
  ⟨o, v, ho, .inl ⟨hw, fun u _ => h u⟩, hK⟩
theorem s_skipF (ho : ops[i]? = some o) (hw : Region.wanted o (yielded ops a.tmps) = false) (hK : wpSch Try.prog ops S Q r (a.put o.dst undef) w) : wpSch Try.prog ops S Q ((i, 2) :: r) a w :=
  ⟨o, undef, ho, .inr ⟨hw, rfl⟩, hK⟩
/-- an operation that need not keep the class -/
theorem s_late (ho : ops[i]? = some o) (hw : Region.wanted o (yielded ops a.tmps) = true) (h : ∀ K : Act → World → Prop, (∀ a' w', wpSch Try.prog ops S Q r a' w' → K a' w') → o.wp Try.prog a w K Q) : wpSch Try.prog ops S Q ((i, 3) :: r) a w := by
  unfold wpSch wpOp
  simp only [ho, hw, if_true]
  exact .inl (h _ (fun a' w' h2 => h2))
theorem s_lateStore (w' : World) (ho : ops[i]? = some o) (hw : Region.wanted o (yielded ops a.tmps) = true) (h : (execOp a.eval o).run Try.prog w = .ok .skip w') (hK : wpSch Try.prog ops S Q r (a.put o.dst undef) w') : wpSch Try.prog ops S Q ((i, 3) :: r) a w :=
  s_late ho hw fun K hK' => by
    unfold Oper.wp
    rw [h]
    exact hK' _ _ hK
end
end Go.Proofs.Ytliepgmnlhfaiaa
