/-
  Regions whose operations may come in any order and make memory of their own, one of which (m) turns blocks: what is known ahead of it outlives it. No condition.
-/
import Derived.Test.YtlkkmpleafpliaaFreeT
import Derived.Test.YtlkkmpleafpliaaSegEx
namespace Go.Proofs.Ytlkkmpleafpliaa
open Go.RowKit
set_option linter.unusedVariables false
set_option maxRecDepth 100000
section
variable {P : Program} {ops : Array Oper} {Q : Exit → Act → World → Prop} {V : List Kn} {n m : Nat} {a0 : Act} {w0 : World} {S : Nat → Prop}
/-- outlives a turn of S -/
def Kn.safe (S : Nat → Prop) (K : Kn) : Prop := ∀ v w w', K.p v w → Keep S w w' → K.p v w'
theorem Kn.safe_eq (S : Nat → Prop) (c : Value) : (Kn.eq c).safe S := fun _ _ _ h _ => h

/-- one value, and what the world is -/
def Kn.both (c : Value) (I : World → Prop) (h : ∀ w w', I w → Kept w w' → I w') : Kn := ⟨fun v w => v = c ∧ I w, fun _ w w' ⟨h1, h2⟩ hk => ⟨h1, h w w' h2 hk⟩⟩
theorem Kn.safe_fresh {S : Nat → Prop} {base : Nat} {T : TypeId} {z : List Value} (h : ∀ b, base ≤ b → ¬ S b) : (Kn.fresh base T z).safe S := fun v w w' ⟨g, h1, h2, h3⟩ hk => ⟨g, h1, h2, h3.keep hk (h g h2)⟩
structure VInv (ops : Array Oper) (V : List Kn) (n m : Nat) (a0 : Act) (w0 : World) (S : Nat → Prop) (ls : Array Bool) (a : Act) (w : World) : Prop where
  head : HeadInv .any ops n ls
  defers : a.defers = a0.defers
  size : a.tmps.size = a0.tmps.size
  env : ∀ t, (∀ i, i < n → ls.getD i false = true → dstOf ops i ≠ some t) → a.tmps[t]? = a0.tmps[t]?
  vals : ∀ i d, i < n → ls.getD i false = true → dstOf ops i = some d → (knOf V i).p (a.tmps.getD d undef) w
  keep : Keep S w0 w
  kept : ls.getD m false = false → Kept w0 w

def VStep (P : Program) (ops : Array Oper) (Q : Exit → Act → World → Prop) (V : List Kn) (n : Nat) (a0 : Act) (w0 : World) (S : Nat → Prop) (i : Nat) (K : Kn) : Prop :=
  ∀ a w, FEnv ops n a0 a → FDep ops V i a w → Keep S w0 w → wpOp P ops Q i (FPost ops i K a w) a w
def VTurn (P : Program) (ops : Array Oper) (Q : Exit → Act → World → Prop) (V : List Kn) (n : Nat) (a0 : Act) (w0 : World) (S : Nat → Prop) (m : Nat) (K : Kn) : Prop :=
  ∀ a w, FEnv ops n a0 a → FDep ops V m a w → Kept w0 w → wpOp P ops Q m (fun a' w' => ∃ v, a' = a.put (dstOf ops m) v ∧ K.p v w' ∧ Keep S w w') a w
/-- all steps but m's -/
def VSteps (P : Program) (ops : Array Oper) (Q : Exit → Act → World → Prop) (V : List Kn) (n m : Nat) (a0 : Act) (w0 : World) (S : Nat → Prop) : Nat → List Kn → Prop
  | _, [] => True
  | i, K :: Ks => (i ≠ m → VStep P ops Q V n a0 w0 S i K) ∧ VSteps P ops Q V n m a0 w0 S (i + 1) Ks
theorem vsteps_nil {i : Nat} : VSteps P ops Q V n m a0 w0 S i [] := trivial
theorem vsteps_cons {i : Nat} (j : Nat) {K : Kn} {Ks : List Kn} (hj : j = i + 1) (h : VStep P ops Q V n a0 w0 S i K) (hr : VSteps P ops Q V n m a0 w0 S j Ks) : VSteps P ops Q V n m a0 w0 S i (K :: Ks) := ⟨fun _ => h, by subst hj; exact hr⟩
theorem vsteps_turn {i : Nat} (j : Nat) {K : Kn} {Ks : List Kn} (hj : j = i + 1) (hm : i = m) (hr : VSteps P ops Q V n m a0 w0 S j Ks) : VSteps P ops Q V n m a0 w0 S i (K :: Ks) := ⟨fun h => (h hm).elim, by subst hj; exact hr⟩
theorem vsteps_at : ∀ (Ks : List Kn) (i : Nat), VSteps P ops Q V n m a0 w0 S i Ks → ∀ k K, Ks[k]? = some K → i + k ≠ m → VStep P ops Q V n a0 w0 S (i + k) K
  | [], _, _, k, K, h, _ => by simp at h
  | K0 :: Ks, i, h, 0, K, hk, hm => by simp at hk; subst hk; exact h.1 hm
  | K0 :: Ks, i, h, k + 1, K, hk, hm => by
    have := vsteps_at Ks (i + 1) h.2 k K (by simpa using hk) (by omega)
    rw [show i + (k + 1) = i + 1 + k by omega]
    exact this
/-- all but the early ones come behind m -/
def lateB (ops : Array Oper) (n m : Nat) (early : List Nat) : Bool := (List.range n).all fun i => i == m || early.contains i || (List.range i).any fun j => (j == m || !early.contains j) && Region.waitsFor .any ops i j

theorem freeV_go (early : List Nat) (hnV : V.length = n) (hmn : m < n) (hB : freeB ops n a0.tmps.size = true) (hL : lateB ops n m early = true) (hsafe : ∀ i, i ∈ early → (knOf V i).safe S) (hst : ∀ i K, V[i]? = some K → i ≠ m → VStep P ops Q V n a0 w0 S i K) (htn : VTurn P ops Q V n a0 w0 S m (knOf V m))
    (hfin : ∀ a w, VInv ops V n m a0 w0 S (Array.replicate n true ++ Array.replicate (ops.size - n) false) a w → wpAny P .any ops Q (ops.size - n) (Array.replicate n true ++ Array.replicate (ops.size - n) false) a w) :
    ∀ (f : Nat) (U : List Nat) (ls : Array Bool) (a : Act) (w : World), U.length = f → U.Nodup → (∀ i, i ∈ U ↔ i < n ∧ ls.getD i true = false) → VInv ops V n m a0 w0 S ls a w → wpAny P .any ops Q (f + (ops.size - n)) ls a w := by
  obtain ⟨hn, hsc, hseq, hall⟩ := freeB_facts hB
  have hop : ∀ i, i < n → ∃ o d, ops[i]? = some o ∧ o.dst = some d ∧ d < a0.tmps.size ∧ (∀ j, j < i → dstOf ops j ≠ some d) ∧ ∀ e ∈ o.after, Region.binds .any e = true → e.on < i := by
    intro i hi
    have h := List.all_eq_true.1 hall i (by simpa using hi)
    cases ho : ops[i]? with
    | none => rw [ho] at h; cases h
    | some o =>
      rw [ho] at h
      simp only [Bool.and_eq_true] at h
      cases hd : o.dst with
      | none => rw [hd] at h; cases h.1
      | some d =>
        rw [hd] at h
        simp only [Bool.and_eq_true, decide_eq_true_eq, List.all_eq_true, List.mem_range, bne_iff_ne] at h
        refine ⟨o, d, rfl, hd, h.1.1, h.1.2, fun e he hb => ?_⟩
        have h2 := (Array.all_eq_true_iff_forall_mem.1 h.2) e he
        simpa [hb] using h2
  intro f
  induction f with
  | zero =>
    intro U ls a w hU _ hmem inv
    have hnil : U = [] := List.eq_nil_of_length_eq_zero hU
    have hls : ls = Array.replicate n true ++ Array.replicate (ops.size - n) false := by
      apply Array.ext
      · simp [inv.head.size]; omega
      · intro i h1 h2
        have hsz := inv.head.size
        by_cases hi : i < n
        · have h3 : ¬ (i < n ∧ ls.getD i true = false) := by
            intro h
            have := (hmem i).2 h
            rw [hnil] at this
            cases this
          have h4 : ls.getD i true = true := by
            cases hq : ls.getD i true with
            | true => rfl
            | false => exact (h3 ⟨hi, hq⟩).elim
          rw [Array.getElem_append_left (by simpa using hi)]
          simp [h1] at h4
          simp [h4]
        · have h4 := inv.head.tail i (by omega) (by omega)
          rw [Array.getElem_append_right (by simpa using hi)]
          simp [h1] at h4
          simp [h4]
    rw [Nat.zero_add]
    subst hls
    exact hfin a w inv
  | succ f ih =>
    intro U ls a w hU hnd hmem inv
    have hsz := inv.head.size
    rw [show f + 1 + (ops.size - n) = (f + (ops.size - n)) + 1 by omega]
    obtain ⟨u, hu⟩ : ∃ u, u ∈ U := by
      cases U with
      | nil => simp at hU
      | cons u U => exact ⟨u, by simp⟩
    obtain ⟨hun, huf⟩ := (hmem u).1 hu
    refine ⟨fun h0 => ?_, fun i hi => ?_⟩
    · exfalso
      have key : ∀ k i, i ≤ k → i < n → ls.getD i true = true := by
        intro k
        induction k using Nat.strongRecOn with
        | _ k ihk =>
          intro i hik hin
          cases hq : ls.getD i true with
          | true => rfl
          | false =>
            obtain ⟨o, d, ho, _, _, _, haft⟩ := hop i hin
            have : i ∈ Region.ready .any ops ls := mem_ready.2 ⟨hq, o, ho, fun e he hb => by
              have hlt := haft e he hb
              have := ihk (k - 1) (by omega) e.on (by omega) (by omega)
              exact getD_tf this (by omega)⟩
            rw [h0] at this
            cases this
      rw [key u u (Nat.le_refl _) hun] at huf
      cases huf
    · have hin : i < n := Nat.lt_of_not_le fun h => tail_waits (hsc (Nat.lt_of_le_of_lt h (by obtain ⟨_, o1, ho1, _⟩ := mem_ready.1 hi; exact (Array.getElem?_eq_some_iff.1 ho1).1))).1 (hsc (Nat.lt_of_le_of_lt h (by obtain ⟨_, o1, ho1, _⟩ := mem_ready.1 hi; exact (Array.getElem?_eq_some_iff.1 ho1).1))).2 (Nat.lt_of_le_of_lt h (by obtain ⟨_, o1, ho1, _⟩ := mem_ready.1 hi; exact (Array.getElem?_eq_some_iff.1 ho1).1)) inv.head _ u rfl hun huf i h hi
      obtain ⟨hiun, oi, hoi, hdeps⟩ := mem_ready.1 hi
      obtain ⟨o, d, ho, hd, hdlt, hne, haft⟩ := hop i hin
      obtain rfl : oi = o := Option.some.inj (hoi.symm.trans ho)
      have hdi : dstOf ops i = some d := by simp [dstOf, ho, hd]
      have hiff : ls.getD i false = false := getD_both hiun
      have hne' : ∀ j, j < n → j ≠ i → dstOf ops j ≠ some d := by
        intro j hj hij hjd
        by_cases hji : j < i
        · exact hne j hji hjd
        · obtain ⟨oj, dj, hoj, hdj, _, hnej, _⟩ := hop j hj
          have : dj = d := by
            have h1 : dstOf ops j = some dj := by simp [dstOf, hoj, hdj]
            rw [h1] at hjd
            injection hjd
          subst this
          exact hnej i (by omega) hdi
      have hdlt' : d < a.tmps.size := by rw [inv.size]; exact hdlt
      have hself : ∀ v, (a.put (some d) v).tmps.getD d undef = v := fun v => by simp [Act.put, hdlt']
      have hoth : ∀ v j e, j < n → j ≠ i → dstOf ops j = some e → (a.put (some d) v).tmps.getD e undef = a.tmps.getD e undef := by
        intro v j e hj hji he
        have : d ≠ e := fun h => hne' j hj hji (by rw [he, h])
        simp only [Act.put, Array.getD_eq_getD_getElem?, slot_set]
        rw [if_neg (fun h => this h.1)]
      have hfe : FEnv ops n a0 a := by
        intro t v ht hv
        have ht' : ∀ k, k < n → ls.getD k false = true → dstOf ops k ≠ some t := fun k hkn _ => by simpa using List.all_eq_true.1 ht k (by simpa using hkn)
        have h1 := inv.env t ht'
        rw [← hv]
        simp only [Act.eval, Array.getD_eq_getD_getElem?, h1]
      have hU' : ∀ k, k ∈ U.erase i ↔ k < n ∧ (ls.setIfInBounds i true).getD k true = false := by
        intro k
        rw [hnd.mem_erase_iff, hmem k]
        by_cases hki : k = i
        · subst hki
          simp
        · rw [getD_set_ne true (fun h => hki h.symm)]
          simp [hki]
      have henv : ∀ v t, (∀ k, k < n → (ls.setIfInBounds i true).getD k false = true → dstOf ops k ≠ some t) → (a.put (some d) v).tmps[t]? = a0.tmps[t]? := by
        intro v t ht
        have h1 := inv.env t (fun k hkn hl => ht k hkn (getD_set_true hl))
        have h2 : d ≠ t := fun h => ht i hin (by simp [show i < ls.size by omega]) (by rw [hdi, h])
        simp only [Act.put, slot_set]
        rw [if_neg (fun h => h2 h.1), h1]
      have hlen : (U.erase i).length = f := by rw [List.length_erase_of_mem ((hmem i).2 ⟨hin, hiun⟩)]; omega
      have hsetk : ∀ k, k ≠ i → (ls.setIfInBounds i true).getD k false = ls.getD k false := fun k hk => getD_set_ne false (fun h => hk h.symm)
      have hseti : (ls.setIfInBounds i true).getD i false = true := by simp [show i < ls.size by omega]
      have hdep : FDep ops V i a w := by
        intro j e hje
        simp only [Bool.and_eq_true, beq_iff_eq, ho, Option.map_some, Option.some.injEq, Array.any_eq_true'] at hje
        obtain ⟨⟨x, hx, hxb, hxj⟩, hdj⟩ := hje
        subst hxj
        exact inv.vals x.on e (by have := haft x hx hxb; omega) (hdeps x hx hxb) hdj
      have hK : V[i]? = some (knOf V i) := by
        unfold knOf
        rw [List.getD_eq_getElem?_getD, List.getElem?_eq_getElem (by omega)]
        rfl
      by_cases him : i = m
      · subst him
        have hk := inv.kept hiff
        have hlate : ∀ j, j < n → ls.getD j false = true → j ∈ early := by
          intro j
          induction j using Nat.strongRecOn with
          | _ j ihj =>
            intro hj hlj
            have h := List.all_eq_true.1 hL j (by simpa using hj)
            simp only [Bool.or_eq_true, beq_iff_eq, List.any_eq_true, List.mem_range, Bool.and_eq_true, Bool.not_eq_true', List.contains_iff_mem] at h
            rcases h with (h | h) | ⟨q, hq1, hq2, hq3⟩
            · subst h
              rw [hiff] at hlj
              cases hlj
            · exact h
            · exfalso
              obtain ⟨oj, dj, hoj, _, _, _, _⟩ := hop j hj
              obtain ⟨e, he, hb, heq⟩ := waits_on hq3 hoj
              have hlq := inv.head.closed j oj hoj hlj e he hb
              rw [heq] at hlq
              rcases hq2 with h | h
              · subst h
                rw [hiff] at hlq
                cases hlq
              · have := ihj q hq1 (by omega) hlq
                have h' : early.contains q = true := by simpa using this
                rw [h'] at h
                cases h
        refine wpOp_mono ?_ (htn a w hfe hdep hk)
        rintro a' w' ⟨v, rfl, hKp, hkS⟩
        rw [hdi]
        refine ih (U.erase i) _ _ w' hlen (hnd.erase _) hU' ⟨inv.head.set hi hin, inv.defers, by simp [Act.put, inv.size], henv v, fun k e hkn hlk he => ?_, inv.keep.trans hkS (fun _ _ h => h), fun hl => ?_⟩
        · by_cases hki : k = i
          · subst hki
            rw [hdi] at he
            injection he with he
            subst he
            rw [hself]
            exact hKp
          · rw [hsetk k hki] at hlk
            rw [hoth v k e hkn hki he]
            exact hsafe k (hlate k hkn hlk) _ _ _ (inv.vals k e hkn hlk he) hkS
        · rw [hseti] at hl
          cases hl
      · refine wpOp_mono ?_ (hst i _ hK him a w hfe hdep inv.keep)
        rintro a' w' ⟨v, rfl, hv, hk⟩
        rw [hdi]
        refine ih (U.erase i) _ _ w' hlen (hnd.erase _) hU' ⟨inv.head.set hi hin, inv.defers, by simp [Act.put, inv.size], henv v, fun k e hkn hlk he => ?_, inv.keep.kept hk, fun hl => ?_⟩
        · by_cases hki : k = i
          · subst hki
            rw [hdi] at he
            injection he with he
            subst he
            rw [hself]
            exact hv
          · rw [hsetk k hki] at hlk
            rw [hoth v k e hkn hki he]
            exact (knOf V k).st _ _ _ (inv.vals k e hkn hlk he) hk
        · rw [hsetk m (fun h => him h.symm)] at hl
          exact (inv.kept hl).trans hk

theorem actV_filled {a : Act} {w : World} {ls : Array Bool} (hl : ∀ i, i < n → ls.getD i false = true) (inv : VInv ops V n m a0 w0 S ls a w) : a = ⟨(dstsOf ops n).foldl (fun t d => t.setIfInBounds d (a.tmps.getD d undef)) a0.tmps, a0.defers⟩ := by
  obtain ⟨t, df⟩ := a
  have h1 := inv.defers
  simp only at h1
  subst h1
  congr 1
  apply Array.ext_getElem?
  intro e
  rw [fold_slots]
  have hsz := inv.size
  simp only at hsz
  by_cases hm : e ∈ dstsOf ops n
  · by_cases hlt : e < a0.tmps.size
    · rw [if_pos ⟨hm, hlt⟩]
      have : e < t.size := by omega
      simp [this]
    · rw [if_neg (fun h => hlt h.2), Array.getElem?_eq_none (by omega), Array.getElem?_eq_none (by omega)]
  · rw [if_neg (fun h => hm h.1)]
    exact inv.env e (fun i hi _ h => hm (List.mem_filterMap.2 ⟨i, by simpa using hi, h⟩))

theorem wp_freeV {id : Nat} {a : Act} {w : World} {l : List Oper} (n m : Nat) (early : List Nat) (V : List Kn) (S : Nat → Prop) (hmo : P.follows Departure.mixedOrders = true) (hV : V.length = n) (hmn : m < n) (hB : freeB l.toArray n a.tmps.size = true) (hL : lateB l.toArray n m early = true)
    (hsafe : ∀ i, i ∈ early → (knOf V i).safe S) (hs : VSteps P l.toArray Q V n m a w S 0 V) (hm : VTurn P l.toArray Q V n a w S m (knOf V m))
    (hf : ∀ (g : Nat → Value) w', FVals l.toArray V g w' → Keep S w w' → wpList P l.toArray Q (l.drop n) ⟨(dstsOf l.toArray n).foldl (fun t d => t.setIfInBounds d (g d)) a.tmps, a.defers⟩ w') : (Code.region id l.toArray true).wp P Q a w := by
  have hB' := hB
  obtain ⟨hn, _, hseq, _⟩ := freeB_facts hB'
  have hn' : n ≤ l.length := by simpa using hn
  have hdl : (l.drop n).length = l.toArray.size - n := by simp
  refine wp_region_any hmo ?_
  have := freeV_go (P := P) (Q := Q) (w0 := w) early hV hmn hB hL hsafe (fun i K hK him => by
    have := vsteps_at V 0 hs i K hK (by omega)
    rwa [Nat.zero_add] at this) hm (fun b u inv => ?_) n (List.range n) (Array.replicate l.toArray.size false) a w.drew (by simp) List.nodup_range ?_ ?_
  · have e : n + (l.toArray.size - n) = l.toArray.size := by omega
    rw [e] at this
    exact this
  · have hl : ∀ i, i < n → (Array.replicate n true ++ Array.replicate (l.toArray.size - n) false).getD i false = true := by
      intro i hi
      have hlt : i < (Array.replicate n true ++ Array.replicate (l.toArray.size - n) false).size := by simp; omega
      rw [Array.getD, dif_pos hlt]
      show (Array.replicate n true ++ Array.replicate (l.toArray.size - n) false)[i] = true
      rw [Array.getElem_append_left (by simpa using hi)]
      simp
    have h4 := hf (fun d => b.tmps.getD d undef) u (fun i d hid => by
      simp only [Bool.and_eq_true, decide_eq_true_eq, beq_iff_eq] at hid
      exact inv.vals i d (by omega) (hl i (by omega)) hid.2) inv.keep
    rw [← actV_filled hl inv] at h4
    have := wpAny_of_seq (P := P) (md := .any) (ops := l.toArray) (Q' := Q) (l.drop n) n _ b u (fun j => by simp) (by rw [hdl]; exact hseq) h4
    rw [hdl] at this
    exact this
  · intro i
    rw [List.mem_range]
    constructor
    · intro hi
      exact ⟨hi, getD_in (by simp; omega) (getD_replicate_false _ _)⟩
    · exact fun h => h.1
  · refine ⟨⟨by simp, fun j oj _ hl => (by rw [getD_replicate_false] at hl; cases hl), fun t _ ht => getD_in (by simpa using ht) (getD_replicate_false _ _)⟩, rfl, rfl, fun _ _ => rfl, fun i d _ hl => (by rw [getD_replicate_false] at hl; cases hl), Keep.drew (Keep.refl _ w), fun _ => Keep.drew (Keep.refl _ w)⟩
variable {a : Act} {w : World} {o : Oper} {K : Kn}
theorem v_call (f : Nat) (args : Array Value) (ho : ops[m]? = some o) (hw : Region.wanted o (yielded ops a.tmps) = true) (h : (execOp a.eval o).run P w = .ok (.enter f args) w)
    (hc : Calls P f args w fun e w' => ∃ v, e = .returned v ∧ K.p v w' ∧ Keep S w w') : wpOp P ops Q m (fun a' w' => ∃ v, a' = a.put (dstOf ops m) v ∧ K.p v w' ∧ Keep S w w') a w := by
  unfold wpOp
  simp only [ho, hw, if_true]
  refine .inl ?_
  unfold Oper.wp
  rw [h, Oper.upon_enter]
  refine hc.mono ?_
  rintro e w' ⟨v, rfl, hv, hk⟩
  exact ⟨v, by simp [dstOf, ho], hv, hk⟩
end
end Go.Proofs.Ytlkkmpleafpliaa
