/-
  Regions that draw their order, walked by one schedule with a class that changes on the way: from a point on the world's blocks stay, and values may hang on what an earlier operation of the region has turned. No condition.
-/
import Derived.Test.YtpkadepohgeloaaSched
namespace Go.Proofs.Ytpkadepohgeloaa
open Go.RowKit
set_option linter.unusedVariables false
set_option maxRecDepth 100000

section
variable {P : Program} {ops : Array Oper} {md : Region.Mode} {Tr : Nat → World → World → Prop} {Si : World → Prop} {Q : Exit → Act → World → Prop}

/-- whatever order is picked: each operation turns the world as Tr says of it -/
def wpT (P : Program) (md : Region.Mode) (ops : Array Oper) (Q : Exit → Act → World → Prop) (Tr : Nat → World → World → Prop) : Nat → Array Bool → Act → World → Prop
  | 0, ls, a, w => Region.ready md ops ls = [] ∧ Q .normal a w
  | f + 1, ls, a, w => (Region.ready md ops ls = [] → Q .normal a w) ∧ ∀ i ∈ Region.ready md ops ls, wpOp P ops Q i (fun a' w' => Tr i w w' ∧ wpT P md ops Q Tr f (ls.setIfInBounds i true) a' w') a w
theorem wpAny_of_T : ∀ (f : Nat) (ls : Array Bool) (a : Act) (w : World), wpT P md ops Q Tr f ls a w → wpAny P md ops Q f ls a w
  | 0, _, _, _, h => h
  | f + 1, _, _, _, h => ⟨h.1, fun i hi => wpOp_mono (fun a' w' h' => wpAny_of_T f _ a' w' h'.2) (h.2 i hi)⟩

/-- what yields one value in every world of Si may be taken first, where whatever is not done yet, and may come ahead of it, leaves a world of Si -/
theorem wpT_first {i : Nat} {oi : Oper} {v : Value} (hi : ops[i]? = some oi) (hsel : ∀ (j : Nat) (o : Oper) cs b, ops[j]? = some o → o.op ≠ .select cs b) (hQ : ∀ c a w, Q (.panic c) (a.put oi.dst v) w → Q (.panic c) a w) :
    ∀ (f : Nat) (ls : Array Bool) (a : Act) (w : World), (∀ j, ls.getD j true = false → ∀ w w', Si w → Tr j w w' → Si w') → (∀ w, Tr i w w) → (∀ j oj, ops[j]? = some oj → j ≠ i → ls.getD j true = false → (∀ e ∈ oj.after, Region.binds md e = true → e.on ≠ i) → oi.apart ops oj = true) →
      i ∈ Region.ready md ops ls → YieldsIf P ops Si oi v a → Si w → wpT P md ops Q Tr f (ls.setIfInBounds i true) (a.put oi.dst v) w → wpT P md ops Q Tr (f + 1) ls a w := by
  intro f
  induction f with
  | zero =>
    intro ls a w hpre hTi _ hr hy hS H
    refine ⟨fun h => (by rw [h] at hr; cases hr), fun j hj => ?_⟩
    by_cases hji : j = i
    · subst hji
      exact hy.wpOp hi hS ⟨hTi w, H⟩
    · have := ready_mono hj hji
      rw [H.1] at this
      cases this
  | succ f ih =>
    intro ls a w hpre hTi hfree hr hy hS H
    refine ⟨fun h => (by rw [h] at hr; cases hr), fun j hj => ?_⟩
    by_cases hji : j = i
    · subst hji
      exact hy.wpOp hi hS ⟨hTi w, H⟩
    · have h1 := H.2 j (ready_mono hj hji)
      obtain ⟨hjun, oj, hoj, hall⟩ := mem_ready.1 hj
      have hnot : ∀ e ∈ oj.after, Region.binds md e = true → e.on ≠ i := fun e he hb heq => by
        have h1 := hall e he hb
        have h0 := (mem_ready.1 hr).1
        rw [heq] at h1
        rcases Nat.lt_or_ge i ls.size with h' | h'
        · simp [h'] at h0 h1
          rw [h0] at h1
          cases h1
        · simp [Array.getElem?_eq_none h'] at h1
      have h2 := wpOp_putIf hoj (hfree j oj hoj hji hjun hnot) (fun cs b => hsel i oi cs b hi) (fun cs b => hsel j oj cs b hoj) hQ hy h1
      refine wpOp_mono (fun a' w' h3 => ⟨h3.2.1, ?_⟩) h2
      have hSi := hpre j hjun w w' hS h3.2.1
      have hsub : ∀ k, (ls.setIfInBounds j true).getD k true = false → ls.getD k true = false := fun k hk => by
        by_cases hjk : j = k
        · subst hjk; exact hjun
        · rw [getD_set_ne true hjk] at hk; exact hk
      refine ih (ls.setIfInBounds j true) a' w' (fun k hk => hpre k (hsub k hk)) hTi (fun k ok hk hki hun hno => hfree k ok hk hki (hsub k hun) hno) (ready_mono hr (Ne.symm hji)) h3.1 hSi ?_
      rw [Array.setIfInBounds_comm _ _ hji]
      exact h3.2.2

/-- the schedule's walk. Kinds: 0 one value in every world of S; 1 it turns the world, within S; 2 (no operation) from here on no block of the world turns any more; 3 one value in every world in which no block of that one (ws) has turned; 4 it turns the world so, and within S -/
def wpSchT (P : Program) (ops : Array Oper) (S : World → Prop) (Q : Exit → Act → World → Prop) : List (Nat × Nat) → World → Act → World → Prop
  | [], ws, a, w => wpList P ops Q [] a w
  | (i, 0) :: r, ws, a, w => ∃ o v, ops[i]? = some o ∧ YieldsIf P ops S o v a ∧ wpSchT P ops S Q r ws (a.put o.dst v) w
  | (i, 1) :: r, ws, a, w => wpOp P ops Q i (fun a' w' => S w' ∧ wpSchT P ops S Q r ws a' w') a w
  | (_, 2) :: r, ws, a, w => wpSchT P ops S Q r w a w
  | (i, 3) :: r, ws, a, w => ∃ o v, ops[i]? = some o ∧ YieldsIf P ops (Kept ws) o v a ∧ wpSchT P ops S Q r ws (a.put o.dst v) w
  | (i, _) :: r, ws, a, w => wpOp P ops Q i (fun a' w' => S w' ∧ Kept w w' ∧ wpSchT P ops S Q r ws a' w') a w
/-- may it be walked so; L: the operations of the second part -/
def schBT (ops : Array Oper) (L : List Nat) : List (Nat × Nat) → Array Bool → Bool → Bool
  | [], ls, _ => (Region.ready .any ops ls).isEmpty
  | (i, 0) :: r, ls, b => (Region.ready .any ops ls).contains i && Region.free .any ops ls i && schBT ops L r (ls.setIfInBounds i true) b
  | (i, 1) :: r, ls, b => (Region.ready .any ops ls == [i]) && !(L.contains i) && schBT ops L r (ls.setIfInBounds i true) b
  | (_, 2) :: r, ls, _ => ((List.range ls.size).all fun j => ls.getD j true || L.contains j) && schBT ops L r ls true
  | (i, 3) :: r, ls, b => b && (Region.ready .any ops ls).contains i && Region.free .any ops ls i && schBT ops L r (ls.setIfInBounds i true) b
  | (i, _) :: r, ls, b => b && (Region.ready .any ops ls == [i]) && schBT ops L r (ls.setIfInBounds i true) b
def opsOf (sch : List (Nat × Nat)) : Nat := (sch.filter fun x => x.2 != 2).length
/-- what each operation leaves -/
def trOf (S : World → Prop) (L : List Nat) (j : Nat) (w w' : World) : Prop := (S w → S w') ∧ (L.contains j = true → Kept w w')

theorem unset {ls : Array Bool} {i j : Nat} (hj : (ls.setIfInBounds i true).getD j true = false) : ls.getD j true = false := by
  by_cases hij : i = j
  · subst hij
    rcases Nat.lt_or_ge i ls.size with h' | h'
    · simp [h'] at hj
    · simp at hj
  · rw [getD_set_ne true hij] at hj; exact hj
theorem T_of_sch {S : World → Prop} {L : List Nat} (hs : Region.noSelect ops = true) (hQ : ∀ c a d v w, Q (.panic c) (a.put d v) w → Q (.panic c) a w) : ∀ (sch : List (Nat × Nat)) (b : Bool) (ls : Array Bool) (ws : World) (a : Act) (w : World), S w → (b = true → Kept ws w) → (b = true → ∀ j, ls.getD j true = false → L.contains j = true) → schBT ops L sch ls b = true → wpSchT P ops S Q sch ws a w → wpT P .any ops Q (trOf S L) (opsOf sch) ls a w
  | [], b, ls, ws, a, w, hS, hT, hL, hB, h => by
    have : Region.ready .any ops ls = [] := by simpa [schBT] using hB
    exact ⟨this, h⟩
  | (i, 0) :: r, b, ls, ws, a, w, hS, hT, hL, hB, h => by
    obtain ⟨o, v, ho, hy, h⟩ := h
    simp only [schBT, Bool.and_eq_true] at hB
    obtain ⟨⟨hr, hf⟩, hB⟩ := hB
    exact wpT_first (Si := S) ho (Region.noSelect_spec hs) (fun c a w => hQ c a o.dst v w) (opsOf r) ls a w (fun j _ w w' hw ht => ht.1 hw) (fun w => ⟨fun h => h, fun _ => Kept.refl w⟩) (Region.free_spec ho hf) (by simpa using hr) hy hS (T_of_sch hs hQ r b _ ws _ w hS hT (fun hb j hj => hL hb j (unset hj)) hB h)
  | (i, 1) :: r, b, ls, ws, a, w, hS, hT, hL, hB, h => by
    simp only [schBT, Bool.and_eq_true, beq_iff_eq, Bool.not_eq_true'] at hB
    obtain ⟨⟨hr, hn⟩, hB⟩ := hB
    show wpT P .any ops Q (trOf S L) (opsOf r + 1) ls a w
    refine ⟨fun h0 => (by rw [h0] at hr; cases hr), fun j hj => ?_⟩
    obtain rfl : j = i := by rw [hr] at hj; simpa using hj
    have hb : b = false := by
      cases b with
      | false => rfl
      | true =>
        have := hL rfl j (mem_ready.1 (by rw [hr]; simp : j ∈ Region.ready .any ops ls)).1
        rw [hn] at this
        cases this
    subst hb
    exact wpOp_mono (fun a' w' ⟨h1, h2⟩ => ⟨⟨fun _ => h1, fun h => (by rw [hn] at h; cases h)⟩, T_of_sch hs hQ r false _ ws a' w' h1 (fun h => by cases h) (fun h => by cases h) hB h2⟩) h
  | (i, 2) :: r, b, ls, ws, a, w, hS, hT, hL, hB, h => by
    simp only [schBT, Bool.and_eq_true] at hB
    obtain ⟨hall, hB⟩ := hB
    refine T_of_sch hs hQ r true ls w a w hS (fun _ => Kept.refl w) (fun _ j hj => ?_) hB h
    rcases Nat.lt_or_ge j ls.size with h' | h'
    · have := List.all_eq_true.1 hall j (by simpa using h')
      rw [hj] at this
      simpa using this
    · rw [Array.getD_eq_getD_getElem?, Array.getElem?_eq_none h'] at hj
      cases hj
  | (i, 3) :: r, b, ls, ws, a, w, hS, hT, hL, hB, h => by
    obtain ⟨o, v, ho, hy, h⟩ := h
    simp only [schBT, Bool.and_eq_true] at hB
    obtain ⟨⟨⟨hb, hr⟩, hf⟩, hB⟩ := hB
    exact wpT_first (Si := Kept ws) ho (Region.noSelect_spec hs) (fun c a w => hQ c a o.dst v w) (opsOf r) ls a w (fun j hj w w' hw ht => hw.trans (ht.2 (hL hb j hj))) (fun w => ⟨fun h => h, fun _ => Kept.refl w⟩) (Region.free_spec ho hf) (by simpa using hr) hy (hT hb) (T_of_sch hs hQ r b _ ws _ w hS hT (fun hb j hj => hL hb j (unset hj)) hB h)
  | (i, n + 4) :: r, b, ls, ws, a, w, hS, hT, hL, hB, h => by
    simp only [schBT, Bool.and_eq_true, beq_iff_eq] at hB
    obtain ⟨⟨hb, hr⟩, hB⟩ := hB
    show wpT P .any ops Q (trOf S L) (opsOf r + 1) ls a w
    refine ⟨fun h0 => (by rw [h0] at hr; cases hr), fun j hj => ?_⟩
    obtain rfl : j = i := by rw [hr] at hj; simpa using hj
    exact wpOp_mono (fun a' w' ⟨h1, h2, h3⟩ => ⟨⟨fun _ => h1, fun _ => h2⟩, T_of_sch hs hQ r b _ ws a' w' h1 (fun hb => (hT hb).trans h2) (fun hb j hj => hL hb j (unset hj)) hB h3⟩) h
/-- the operations of the second part -/
def lateOf (sch : List (Nat × Nat)) : List Nat := (sch.dropWhile fun x => x.2 != 2).map (·.1)
/-- the beginning: it does not panic -/
theorem wp_sched2 {id : Nat} {a : Act} {w : World} {l : List Oper} (S : World → Prop) (sch : List (Nat × Nat)) (hm : P.follows .mixedOrders = true) (hB : (Region.noSelect l.toArray && (opsOf sch == l.length) && schBT l.toArray (lateOf sch) sch (Array.replicate l.length false) false) = true)
    (hS : S w.drew) (h : wpSchT P l.toArray S (NoPanic Q) sch w.drew a w.drew) : (Code.region id l.toArray true).wp P Q a w := by
  simp only [Bool.and_eq_true, beq_iff_eq] at hB
  refine wp_region_noPanic (wp_region_any hm ?_)
  have := T_of_sch (P := P) (S := S) hB.1.1 (fun c a d v w h => (h : False).elim) sch false _ w.drew a w.drew hS (fun h => by cases h) (fun h => by cases h) hB.2 h
  rw [hB.1.2] at this
  have h2 := wpAny_of_T _ _ _ _ this
  simpa using h2
end

section
variable {ops : Array Oper} {S : World → Prop} {Q : Exit → Act → World → Prop} {a : Act} {w ws : World} {i : Nat} {o : Oper} {r : List (Nat × Nat)}
theorem t_done (h : wpList Try.prog ops Q [] a w) : wpSchT Try.prog ops S (NoPanic Q) [] ws a w := NoPanic.normal h
theorem t_val (v : Value) (ho : ops[i]? = some o) (hw : Region.wanted o (yielded ops a.tmps) = true) (h : ∀ u, S u → (execOp a.eval o).run Try.prog u = .ok (.value v) u) (hK : wpSchT Try.prog ops S Q r ws (a.put o.dst v) w) : wpSchT Try.prog ops S Q ((i, 0) :: r) ws a w :=
  ⟨o, v, ho, .inl ⟨hw, h⟩, hK⟩
theorem t_skip (ho : ops[i]? = some o) (hw : Region.wanted o (yielded ops a.tmps) = false) (hK : wpSchT Try.prog ops S Q r ws (a.put o.dst undef) w) : wpSchT Try.prog ops S Q ((i, 0) :: r) ws a w :=
  ⟨o, undef, ho, .inr ⟨hw, rfl⟩, hK⟩
theorem t_oper (ho : ops[i]? = some o) (hw : Region.wanted o (yielded ops a.tmps) = true) (h : ∀ K : Act → World → Prop, (∀ a' w', S w' → wpSchT Try.prog ops S Q r ws a' w' → K a' w') → o.wp Try.prog a w K Q) : wpSchT Try.prog ops S Q ((i, 1) :: r) ws a w := by
  unfold wpSchT wpOp
  simp only [ho, hw, if_true]
  exact .inl (h _ (fun a' w' h1 h2 => ⟨h1, h2⟩))
theorem t_turn (v : Value) (w' : World) (ho : ops[i]? = some o) (hw : Region.wanted o (yielded ops a.tmps) = true) (h : (execOp a.eval o).run Try.prog w = .ok (.value v) w') (hS : S w') (hK : wpSchT Try.prog ops S Q r ws (a.put o.dst v) w') : wpSchT Try.prog ops S Q ((i, 1) :: r) ws a w :=
  t_oper ho hw fun K hK' => by
    unfold Oper.wp
    rw [h]
    exact hK' _ _ hS hK
theorem t_call (f : Nat) (args : Array Value) (ho : ops[i]? = some o) (hw : Region.wanted o (yielded ops a.tmps) = true) (h : ∀ u, (execOp a.eval o).run Try.prog u = .ok (.enter f args) u) (hc : Calls Try.prog f args w fun e w' => ∃ v, e = .returned v ∧ S w' ∧ wpSchT Try.prog ops S Q r ws (a.put o.dst v) w') : wpSchT Try.prog ops S Q ((i, 1) :: r) ws a w :=
  t_oper ho hw fun K hK' => by
    unfold Oper.wp
    rw [h]
    refine Calls.mono hc fun e w' he => ?_
    obtain ⟨v, rfl, hS, hK⟩ := he
    exact hK' _ _ hS hK
/-- from here on the world's blocks stay -/
theorem t_switch (hK : wpSchT Try.prog ops S Q r w a w) : wpSchT Try.prog ops S Q ((i, 2) :: r) ws a w := hK
theorem t_val2 (v : Value) (ho : ops[i]? = some o) (hw : Region.wanted o (yielded ops a.tmps) = true) (h : ∀ u, Kept ws u → (execOp a.eval o).run Try.prog u = .ok (.value v) u) (hK : wpSchT Try.prog ops S Q r ws (a.put o.dst v) w) : wpSchT Try.prog ops S Q ((i, 3) :: r) ws a w :=
  ⟨o, v, ho, .inl ⟨hw, h⟩, hK⟩
theorem t_oper2 (ho : ops[i]? = some o) (hw : Region.wanted o (yielded ops a.tmps) = true) (h : ∀ K : Act → World → Prop, (∀ a' w', S w' → Kept w w' → wpSchT Try.prog ops S Q r ws a' w' → K a' w') → o.wp Try.prog a w K Q) : wpSchT Try.prog ops S Q ((i, 4) :: r) ws a w := by
  unfold wpSchT wpOp
  simp only [ho, hw, if_true]
  exact .inl (h _ (fun a' w' h1 h2 h3 => ⟨h1, h2, h3⟩))
theorem t_turn2 (v : Value) (w' : World) (ho : ops[i]? = some o) (hw : Region.wanted o (yielded ops a.tmps) = true) (h : (execOp a.eval o).run Try.prog w = .ok (.value v) w') (hS : S w') (hT : Kept w w') (hK : wpSchT Try.prog ops S Q r ws (a.put o.dst v) w') : wpSchT Try.prog ops S Q ((i, 4) :: r) ws a w :=
  t_oper2 ho hw fun K hK' => by
    unfold Oper.wp
    rw [h]
    exact hK' _ _ hS hT hK
theorem t_call2 (f : Nat) (args : Array Value) (ho : ops[i]? = some o) (hw : Region.wanted o (yielded ops a.tmps) = true) (h : ∀ u, (execOp a.eval o).run Try.prog u = .ok (.enter f args) u) (hc : Calls Try.prog f args w fun e w' => ∃ v, e = .returned v ∧ S w' ∧ Kept w w' ∧ wpSchT Try.prog ops S Q r ws (a.put o.dst v) w') : wpSchT Try.prog ops S Q ((i, 4) :: r) ws a w :=
  t_oper2 ho hw fun K hK' => by
    unfold Oper.wp
    rw [h]
    refine Calls.mono hc fun e w' he => ?_
    obtain ⟨v, rfl, hS, hT, hK⟩ := he
    exact hK' _ _ hS hT hK
end
end Go.Proofs.Ytpkadepohgeloaa
