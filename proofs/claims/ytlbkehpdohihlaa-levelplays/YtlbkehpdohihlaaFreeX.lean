/-
  As FreeV; an operation x of the head (it only tells a value) may also come behind the first one of the tail (a store). No condition.
-/
import Derived.Test.YtlbkehpdohihlaaFreeV
namespace Go.Proofs.Ytlbkehpdohihlaa
open Go.RowKit
set_option linter.unusedVariables false
section
variable {P : Program} {ops : Array Oper} {Q : Exit → Act → World → Prop} {V : List Kn} {n m x : Nat} {a0 : Act} {w0 : World} {S : Nat → Prop}
def lsX (size n x : Nat) : Array Bool := (Array.replicate n true ++ Array.replicate (size - n) false).setIfInBounds x false
def lsN (size n : Nat) : Array Bool := Array.replicate (n + 1) true ++ Array.replicate (size - (n + 1)) false
def freeXB (ops : Array Oper) (n x size : Nat) : Bool :=
  decide (n < ops.size) && decide (x < n) && ((List.range n).all fun i => i == x || (List.range (n + 1)).any fun j => decide (i < j) && (j != x) && Region.waitsFor .any ops j i) && Region.chainB .any ops n
  && Region.seqB .any ops (ops.size - n) n (Array.replicate n true ++ Array.replicate (ops.size - n) false)
  && decide (Region.ready .any ops ((lsX ops.size n x).setIfInBounds n true) = [x]) && Region.seqB .any ops (ops.size - (n + 1)) (n + 1) (lsN ops.size n)
  && ((List.range n).all fun i => match ops[i]? with
    | some o => (match o.dst with | some d => decide (d < size) && ((List.range i).all fun j => dstOf ops j != some d) | none => false) && o.after.all fun e => !Region.binds .any e || decide (e.on < i)
    | none => false)
theorem late_only (hn : n < ops.size) (hs : ((List.range n).all fun i => i == x || (List.range (n + 1)).any fun j => decide (i < j) && (j != x) && Region.waitsFor .any ops j i) = true) (hc : Region.chainB .any ops n = true) {ls : Array Bool} (inv : HeadInv .any ops n ls) : ∀ (k u : Nat), n ≤ u + k → u < n → u ≠ x → ls.getD u true = false → ∀ i, n ≤ i → i ∈ Region.ready .any ops ls → False := by
  intro k
  induction k with
  | zero => intro u h1 h2; omega
  | succ k ih =>
    intro u h1 h2 hux huf i hi hir
    obtain ⟨hiun, oi, hoi, hdeps⟩ := mem_ready.1 hir
    have hisz : i < ops.size := (Array.getElem?_eq_some_iff.1 hoi).1
    by_cases hin : i = n
    · subst hin
      have h := List.all_eq_true.1 hs u (by simpa using h2)
      simp only [Bool.or_eq_true, beq_iff_eq, List.any_eq_true, List.mem_range, Bool.and_eq_true, decide_eq_true_eq, bne_iff_ne] at h
      rcases h with h | ⟨j, hj1, ⟨hj2, hjx⟩, hj3⟩
      · exact hux h
      · by_cases hji : j = i
        · subst hji
          obtain ⟨e, he, hb, heq⟩ := waits_on hj3 hoi
          have := hdeps e he hb
          rw [heq, getD_both huf] at this
          cases this
        · have hjl : ls.getD j true = false := by
            cases hq : ls.getD j true with
            | false => rfl
            | true =>
              exfalso
              have hjsz : j < ls.size := by rw [inv.size]; omega
              have hq' := getD_tf hq hjsz
              have hjo : ∃ oj, ops[j]? = some oj := ⟨_, Array.getElem?_eq_getElem (by omega)⟩
              obtain ⟨oj, hoj⟩ := hjo
              obtain ⟨e, he, hb, heq⟩ := waits_on hj3 hoj
              have := inv.closed j oj hoj hq' e he hb
              rw [heq, getD_both huf] at this
              cases this
          exact ih j (by omega) (by omega) hjx hjl i hi hir
    · have h := List.all_eq_true.1 hc i (by simpa using hisz)
      simp only [Bool.or_eq_true, decide_eq_true_eq] at h
      rcases h with h | h
      · omega
      · obtain ⟨e, he, hb, heq⟩ := waits_on h hoi
        have h1 := hdeps e he hb
        rw [heq, getD_both (inv.tail (i - 1) (by omega) (by omega))] at h1
        cases h1

theorem freeX_go (early : List Nat) (hnV : V.length = n) (hmn : m < n) (hmx : m ≠ x) (hB : freeXB ops n x a0.tmps.size = true) (hL : lateB ops n m early = true) (hsafe : ∀ i, i ∈ early → (knOf V i).safe S) (hst : ∀ i K, V[i]? = some K → i ≠ m → VStep P ops Q V n a0 w0 S i K) (htn : VTurn P ops Q V n a0 w0 S m (knOf V m))
    (hfin : ∀ a w, VInv ops V n m a0 w0 S (Array.replicate n true ++ Array.replicate (ops.size - n) false) a w → wpAny P .any ops Q (ops.size - n) (Array.replicate n true ++ Array.replicate (ops.size - n) false) a w)
    (hfinX : ∀ a w, VInv ops V n m a0 w0 S (lsX ops.size n x) a w → wpOp P ops Q n (fun a1 w1 => wpOp P ops Q x (wpAny P .any ops Q (ops.size - (n + 1)) (lsN ops.size n)) a1 w1) a w) :
    ∀ (f : Nat) (U : List Nat) (ls : Array Bool) (a : Act) (w : World), U.length = f → U.Nodup → (∀ i, i ∈ U ↔ i < n ∧ ls.getD i true = false) → VInv ops V n m a0 w0 S ls a w → wpAny P .any ops Q (f + (ops.size - n)) ls a w := by
  simp only [freeXB, Bool.and_eq_true, decide_eq_true_eq] at hB
  obtain ⟨⟨⟨⟨⟨⟨⟨hn, hxn⟩, hs⟩, hc⟩, hseq⟩, hrx⟩, hseq2⟩, hall⟩ := hB
  have hop : ∀ i, i < n → ∃ o d, ops[i]? = some o ∧ o.dst = some d ∧ d < a0.tmps.size ∧ (∀ j, j < i → dstOf ops j ≠ some d) ∧ ∀ e ∈ o.after, Region.binds .any e = true → e.on < i := by
    intro i hi
    have h := List.all_eq_true.1 hall i (by simpa using hi)
    cases ho : ops[i]? with
    | none => rw [ho] at h; cases h
    | some o =>
      rw [ho] at h
      simp only [Bool.and_eq_true] at h
      cases hd : o.dst with
      | none => rw [hd] at h; cases h.1
      | some d =>
        rw [hd] at h
        simp only [Bool.and_eq_true, decide_eq_true_eq, List.all_eq_true, List.mem_range, bne_iff_ne] at h
        refine ⟨o, d, rfl, hd, h.1.1, h.1.2, fun e he hb => ?_⟩
        have h2 := (Array.all_eq_true_iff_forall_mem.1 h.2) e he
        simpa [hb] using h2
  intro f
  induction f with
  | zero =>
    intro U ls a w hU _ hmem inv
    have hnil : U = [] := List.eq_nil_of_length_eq_zero hU
    have hls : ls = Array.replicate n true ++ Array.replicate (ops.size - n) false := by
      apply Array.ext
      · simp [inv.head.size]; omega
      · intro i h1 h2
        have hsz := inv.head.size
        by_cases hi : i < n
        · have h3 : ¬ (i < n ∧ ls.getD i true = false) := by
            intro h
            have := (hmem i).2 h
            rw [hnil] at this
            cases this
          have h4 : ls.getD i true = true := by
            cases hq : ls.getD i true with
            | true => rfl
            | false => exact (h3 ⟨hi, hq⟩).elim
          rw [Array.getElem_append_left (by simpa using hi)]
          simp [h1] at h4
          simp [h4]
        · have h4 := inv.head.tail i (by omega) (by omega)
          rw [Array.getElem_append_right (by simpa using hi)]
          simp [h1] at h4
          simp [h4]
    rw [Nat.zero_add]
    subst hls
    exact hfin a w inv
  | succ f ih =>
    intro U ls a w hU hnd hmem inv
    have hsz := inv.head.size
    rw [show f + 1 + (ops.size - n) = (f + (ops.size - n)) + 1 by omega]
    obtain ⟨u, hu⟩ : ∃ u, u ∈ U := by
      cases U with
      | nil => simp at hU
      | cons u U => exact ⟨u, by simp⟩
    obtain ⟨hun, huf⟩ := (hmem u).1 hu
    refine ⟨fun h0 => ?_, fun i hi => ?_⟩
    · exfalso
      have key : ∀ k i, i ≤ k → i < n → ls.getD i true = true := by
        intro k
        induction k using Nat.strongRecOn with
        | _ k ihk =>
          intro i hik hin
          cases hq : ls.getD i true with
          | true => rfl
          | false =>
            obtain ⟨o, d, ho, _, _, _, haft⟩ := hop i hin
            have : i ∈ Region.ready .any ops ls := mem_ready.2 ⟨hq, o, ho, fun e he hb => by
              have hlt := haft e he hb
              have := ihk (k - 1) (by omega) e.on (by omega) (by omega)
              exact getD_tf this (by omega)⟩
            rw [h0] at this
            cases this
      rw [key u u (Nat.le_refl _) hun] at huf
      cases huf
    · by_cases hin' : n ≤ i
      · have honly : ∀ j, j ∈ U → j = x := fun j hj => by
          obtain ⟨hj1, hj2⟩ := (hmem j).1 hj
          by_cases hjx : j = x
          · exact hjx
          · exact (late_only hn hs hc inv.head n j (by omega) hj1 hjx hj2 i hin' hi).elim
        have hUx : U = [x] := by
          match U, hU, hnd, honly with
          | [], hU, _, _ => simp at hU
          | [y], _, _, ho => rw [ho y (by simp)]
          | y :: z :: U, _, hnd, ho =>
            have h1 := ho y (by simp)
            have h2 := ho z (by simp)
            rw [h1, h2] at hnd
            simp at hnd
        subst hUx
        have hf0 : f = 0 := by simpa using hU.symm
        subst hf0
        have hlsX : ls = lsX ops.size n x := by
          unfold lsX
          apply Array.ext
          · simp [hsz]; omega
          · intro j h1 h2
            by_cases hjx : j = x
            · subst hjx
              have h3 := ((hmem j).1 (by simp)).2
              simp [h1] at h3
              simp [h3]
            · rw [Array.getElem_setIfInBounds_ne (by simp; omega) (by omega)]
              by_cases hj : j < n
              · have h3 : ¬ (j < n ∧ ls.getD j true = false) := fun h => by
                  have := (hmem j).2 h
                  simp at this
                  exact hjx this
                have h4 : ls.getD j true = true := by
                  cases hq : ls.getD j true with
                  | true => rfl
                  | false => exact (h3 ⟨hj, hq⟩).elim
                rw [Array.getElem_append_left (by simpa using hj)]
                simp [h1] at h4
                simp [h4]
              · have h4 := inv.head.tail j (by omega) (by omega)
                rw [Array.getElem_append_right (by simpa using hj)]
                simp [h1] at h4
                simp [h4]
        have hin : i = n := by
          by_cases h : i = n
          · exact h
          · exfalso
            obtain ⟨hiun, oi, hoi, hdeps⟩ := mem_ready.1 hi
            have hisz : i < ops.size := (Array.getElem?_eq_some_iff.1 hoi).1
            have h1 := List.all_eq_true.1 hc i (by simpa using hisz)
            simp only [Bool.or_eq_true, decide_eq_true_eq] at h1
            rcases h1 with h1 | h1
            · omega
            · obtain ⟨e, he, hb, heq⟩ := waits_on h1 hoi
              have h2 := hdeps e he hb
              rw [heq, getD_both (inv.head.tail (i - 1) (by omega) (by omega))] at h2
              cases h2
        subst hin
        subst hlsX
        refine wpOp_mono ?_ (hfinX a w inv)
        intro a1 w1 h1
        rw [show 0 + (ops.size - i) = (ops.size - (i + 1)) + 1 by omega]
        refine ⟨fun h0 => (by rw [hrx] at h0; cases h0), fun j hj => ?_⟩
        rw [hrx] at hj
        simp at hj
        subst hj
        have hls : ((lsX ops.size i j).setIfInBounds i true).setIfInBounds j true = lsN ops.size i := by
          unfold lsX lsN
          apply Array.ext
          · simp; omega
          · intro q h1 h2
            by_cases hqj : q = j
            · subst hqj
              rw [Array.getElem_append_left (by simp; omega)]
              simp
            · rw [Array.getElem_setIfInBounds_ne (by simp at h1 ⊢; omega) (by omega)]
              by_cases hqi : q = i
              · subst hqi
                rw [Array.getElem_append_left (by simp)]
                simp
              · rw [Array.getElem_setIfInBounds_ne (by simp at h1 ⊢; omega) (by omega), Array.getElem_setIfInBounds_ne (by simp at h1 ⊢; omega) (by omega)]
                by_cases hq : q < i
                · rw [Array.getElem_append_left (by simpa using hq), Array.getElem_append_left (by simp; omega)]
                  simp
                · rw [Array.getElem_append_right (by simpa using hq), Array.getElem_append_right (by simp; omega)]
                  simp
        rw [hls]
        exact h1
      have hin : i < n := Nat.lt_of_not_le hin'
      obtain ⟨hiun, oi, hoi, hdeps⟩ := mem_ready.1 hi
      obtain ⟨o, d, ho, hd, hdlt, hne, haft⟩ := hop i hin
      obtain rfl : oi = o := Option.some.inj (hoi.symm.trans ho)
      have hdi : dstOf ops i = some d := by simp [dstOf, ho, hd]
      have hiff : ls.getD i false = false := getD_both hiun
      have hne' : ∀ j, j < n → j ≠ i → dstOf ops j ≠ some d := by
        intro j hj hij hjd
        by_cases hji : j < i
        · exact hne j hji hjd
        · obtain ⟨oj, dj, hoj, hdj, _, hnej, _⟩ := hop j hj
          have : dj = d := by
            have h1 : dstOf ops j = some dj := by simp [dstOf, hoj, hdj]
            rw [h1] at hjd
            injection hjd
          subst this
          exact hnej i (by omega) hdi
      have hdlt' : d < a.tmps.size := by rw [inv.size]; exact hdlt
      have hself : ∀ v, (a.put (some d) v).tmps.getD d undef = v := fun v => by simp [Act.put, hdlt']
      have hoth : ∀ v j e, j < n → j ≠ i → dstOf ops j = some e → (a.put (some d) v).tmps.getD e undef = a.tmps.getD e undef := by
        intro v j e hj hji he
        have : d ≠ e := fun h => hne' j hj hji (by rw [he, h])
        simp only [Act.put, Array.getD_eq_getD_getElem?, slot_set]
        rw [if_neg (fun h => this h.1)]
      have hfe : FEnv ops n a0 a := by
        intro t v ht hv
        have ht' : ∀ k, k < n → ls.getD k false = true → dstOf ops k ≠ some t := fun k hkn _ => by simpa using List.all_eq_true.1 ht k (by simpa using hkn)
        have h1 := inv.env t ht'
        rw [← hv]
        simp only [Act.eval, Array.getD_eq_getD_getElem?, h1]
      have hU' : ∀ k, k ∈ U.erase i ↔ k < n ∧ (ls.setIfInBounds i true).getD k true = false := by
        intro k
        rw [hnd.mem_erase_iff, hmem k]
        by_cases hki : k = i
        · subst hki
          simp
        · rw [getD_set_ne true (fun h => hki h.symm)]
          simp [hki]
      have henv : ∀ v t, (∀ k, k < n → (ls.setIfInBounds i true).getD k false = true → dstOf ops k ≠ some t) → (a.put (some d) v).tmps[t]? = a0.tmps[t]? := by
        intro v t ht
        have h1 := inv.env t (fun k hkn hl => ht k hkn (getD_set_true hl))
        have h2 : d ≠ t := fun h => ht i hin (by simp [show i < ls.size by omega]) (by rw [hdi, h])
        simp only [Act.put, slot_set]
        rw [if_neg (fun h => h2 h.1), h1]
      have hlen : (U.erase i).length = f := by rw [List.length_erase_of_mem ((hmem i).2 ⟨hin, hiun⟩)]; omega
      have hsetk : ∀ k, k ≠ i → (ls.setIfInBounds i true).getD k false = ls.getD k false := fun k hk => getD_set_ne false (fun h => hk h.symm)
      have hseti : (ls.setIfInBounds i true).getD i false = true := by simp [show i < ls.size by omega]
      have hdep : FDep ops V i a w := by
        intro j e hje
        simp only [Bool.and_eq_true, beq_iff_eq, ho, Option.map_some, Option.some.injEq, Array.any_eq_true'] at hje
        obtain ⟨⟨x, hx, hxb, hxj⟩, hdj⟩ := hje
        subst hxj
        exact inv.vals x.on e (by have := haft x hx hxb; omega) (hdeps x hx hxb) hdj
      have hK : V[i]? = some (knOf V i) := by
        unfold knOf
        rw [List.getD_eq_getElem?_getD, List.getElem?_eq_getElem (by omega)]
        rfl
      by_cases him : i = m
      · subst him
        have hk := inv.kept hiff
        have hlate : ∀ j, j < n → ls.getD j false = true → j ∈ early := by
          intro j
          induction j using Nat.strongRecOn with
          | _ j ihj =>
            intro hj hlj
            have h := List.all_eq_true.1 hL j (by simpa using hj)
            simp only [Bool.or_eq_true, beq_iff_eq, List.any_eq_true, List.mem_range, Bool.and_eq_true, Bool.not_eq_true', List.contains_iff_mem] at h
            rcases h with (h | h) | ⟨q, hq1, hq2, hq3⟩
            · subst h
              rw [hiff] at hlj
              cases hlj
            · exact h
            · exfalso
              obtain ⟨oj, dj, hoj, _, _, _, _⟩ := hop j hj
              obtain ⟨e, he, hb, heq⟩ := waits_on hq3 hoj
              have hlq := inv.head.closed j oj hoj hlj e he hb
              rw [heq] at hlq
              rcases hq2 with h | h
              · subst h
                rw [hiff] at hlq
                cases hlq
              · have := ihj q hq1 (by omega) hlq
                have h' : early.contains q = true := by simpa using this
                rw [h'] at h
                cases h
        refine wpOp_mono ?_ (htn a w hfe hdep hk)
        rintro a' w' ⟨v, rfl, hKp, hkS⟩
        rw [hdi]
        refine ih (U.erase i) _ _ w' hlen (hnd.erase _) hU' ⟨inv.head.set hi hin, inv.defers, by simp [Act.put, inv.size], henv v, fun k e hkn hlk he => ?_, inv.keep.trans hkS (fun _ _ h => h), fun hl => ?_⟩
        · by_cases hki : k = i
          · subst hki
            rw [hdi] at he
            injection he with he
            subst he
            rw [hself]
            exact hKp
          · rw [hsetk k hki] at hlk
            rw [hoth v k e hkn hki he]
            exact hsafe k (hlate k hkn hlk) _ _ _ (inv.vals k e hkn hlk he) hkS
        · rw [hseti] at hl
          cases hl
      · refine wpOp_mono ?_ (hst i _ hK him a w hfe hdep inv.keep)
        rintro a' w' ⟨v, rfl, hv, hk⟩
        rw [hdi]
        refine ih (U.erase i) _ _ w' hlen (hnd.erase _) hU' ⟨inv.head.set hi hin, inv.defers, by simp [Act.put, inv.size], henv v, fun k e hkn hlk he => ?_, inv.keep.kept hk, fun hl => ?_⟩
        · by_cases hki : k = i
          · subst hki
            rw [hdi] at he
            injection he with he
            subst he
            rw [hself]
            exact hv
          · rw [hsetk k hki] at hlk
            rw [hoth v k e hkn hki he]
            exact (knOf V k).st _ _ _ (inv.vals k e hkn hlk he) hk
        · rw [hsetk m (fun h => him h.symm)] at hl
          exact (inv.kept hl).trans hk

theorem actX_filled {a : Act} {w : World} {ls : Array Bool} (hl : ∀ i, i < n → i ≠ x → ls.getD i false = true) (hx : ls.getD x false = false) (inv : VInv ops V n m a0 w0 S ls a w) : a = ⟨((List.range n).filterMap fun i => if i = x then none else dstOf ops i).foldl (fun t d => t.setIfInBounds d (a.tmps.getD d undef)) a0.tmps, a0.defers⟩ := by
  obtain ⟨t, df⟩ := a
  have h1 := inv.defers
  simp only at h1
  subst h1
  congr 1
  apply Array.ext_getElem?
  intro e
  rw [fold_slots]
  have hsz := inv.size
  simp only at hsz
  by_cases hm : e ∈ ((List.range n).filterMap fun i => if i = x then none else dstOf ops i)
  · by_cases hlt : e < a0.tmps.size
    · rw [if_pos ⟨hm, hlt⟩]
      have : e < t.size := by omega
      simp [this]
    · rw [if_neg (fun h => hlt h.2), Array.getElem?_eq_none (by omega), Array.getElem?_eq_none (by omega)]
  · rw [if_neg (fun h => hm h.1)]
    refine inv.env e (fun i hi hl' h => hm (List.mem_filterMap.2 ⟨i, by simpa using hi, ?_⟩))
    by_cases hix : i = x
    · subst hix
      rw [hx] at hl'
      cases hl'
    · rw [if_neg hix]
      exact h
/-- the values of the head but x's -/
def XVals (ops : Array Oper) (V : List Kn) (x : Nat) (g : Nat → Value) (w : World) : Prop := ∀ i d, (decide (i < V.length) && (i != x) && dstOf ops i == some d) = true → (knOf V i).p (g d) w
def dstsX (ops : Array Oper) (n x : Nat) : List Nat := (List.range n).filterMap fun i => if i = x then none else dstOf ops i

theorem wp_freeX {id : Nat} {a : Act} {w : World} {l : List Oper} (n m x : Nat) (on ox : Oper) (early : List Nat) (V : List Kn) (S : Nat → Prop) (hmo : P.follows Departure.mixedOrders = true) (hV : V.length = n) (hmn : m < n) (hmx : m ≠ x) (hB : freeXB l.toArray n x a.tmps.size = true) (hL : lateB l.toArray n m early = true) (hon : l[n]? = some on) (hox : l[x]? = some ox)
    (hsafe : ∀ i, i ∈ early → (knOf V i).safe S) (hs : VSteps P l.toArray Q V n m a w S 0 V) (hm : VTurn P l.toArray Q V n a w S m (knOf V m))
    (hf : ∀ (g : Nat → Value) w', FVals l.toArray V g w' → Keep S w w' → wpList P l.toArray Q (l.drop n) ⟨(dstsOf l.toArray n).foldl (fun t d => t.setIfInBounds d (g d)) a.tmps, a.defers⟩ w')
    (hfx : ∀ (g : Nat → Value) w', XVals l.toArray V x g w' → Keep S w w' → wpList P l.toArray Q (on :: ox :: l.drop (n + 1)) ⟨(dstsX l.toArray n x).foldl (fun t d => t.setIfInBounds d (g d)) a.tmps, a.defers⟩ w') : (Code.region id l.toArray true).wp P Q a w := by
  have hB' := hB
  simp only [freeXB, Bool.and_eq_true, decide_eq_true_eq] at hB'
  obtain ⟨⟨⟨⟨⟨⟨⟨hn, hxn⟩, _⟩, _⟩, hseq⟩, _⟩, hseq2⟩, _⟩ := hB'
  have hn' : n < l.length := by simpa using hn
  have hdl : (l.drop n).length = l.toArray.size - n := by simp
  have hdl2 : (l.drop (n + 1)).length = l.toArray.size - (n + 1) := by simp
  refine wp_region_any hmo ?_
  have := freeX_go (P := P) (Q := Q) (w0 := w) early hV hmn hmx hB hL hsafe (fun i K hK him => by
    have := vsteps_at V 0 hs i K hK (by omega)
    rwa [Nat.zero_add] at this) hm (fun b u inv => ?_) (fun b u inv => ?_) n (List.range n) (Array.replicate l.toArray.size false) a w.drew (by simp) List.nodup_range ?_ ?_
  · have e : n + (l.toArray.size - n) = l.toArray.size := by omega
    rw [e] at this
    exact this
  · have hl : ∀ i, i < n → (Array.replicate n true ++ Array.replicate (l.toArray.size - n) false).getD i false = true := by
      intro i hi
      have hlt : i < (Array.replicate n true ++ Array.replicate (l.toArray.size - n) false).size := by simp; omega
      rw [Array.getD, dif_pos hlt]
      show (Array.replicate n true ++ Array.replicate (l.toArray.size - n) false)[i] = true
      rw [Array.getElem_append_left (by simpa using hi)]
      simp
    have h4 := hf (fun d => b.tmps.getD d undef) u (fun i d hid => by
      simp only [Bool.and_eq_true, decide_eq_true_eq, beq_iff_eq] at hid
      exact inv.vals i d (by omega) (hl i (by omega)) hid.2) inv.keep
    rw [← actV_filled hl inv] at h4
    have := wpAny_of_seq (P := P) (md := .any) (ops := l.toArray) (Q' := Q) (l.drop n) n _ b u (fun j => by simp) (by rw [hdl]; exact hseq) h4
    rw [hdl] at this
    exact this
  · have hlt : x < (Array.replicate n true ++ Array.replicate (l.toArray.size - n) false).size := by simp; omega
    have hlx : (lsX l.toArray.size n x).getD x false = false := by
      unfold lsX
      rw [Array.getD, dif_pos (by simpa using hlt)]
      show ((Array.replicate n true ++ Array.replicate (l.toArray.size - n) false).setIfInBounds x false)[x]'(by simpa using hlt) = false
      simp
    have hl : ∀ i, i < n → i ≠ x → (lsX l.toArray.size n x).getD i false = true := by
      intro i hi hix
      unfold lsX
      have hlt2 : i < (Array.replicate n true ++ Array.replicate (l.toArray.size - n) false).size := by simp; omega
      rw [Array.getD, dif_pos (by simpa using hlt2)]
      show ((Array.replicate n true ++ Array.replicate (l.toArray.size - n) false).setIfInBounds x false)[i]'(by simpa using hlt2) = true
      rw [Array.getElem_setIfInBounds_ne (by simpa using hlt2) (by omega), Array.getElem_append_left (by simpa using hi)]
      simp
    have h4 := hfx (fun d => b.tmps.getD d undef) u (fun i d hid => by
      simp only [Bool.and_eq_true, decide_eq_true_eq, beq_iff_eq, bne_iff_ne] at hid
      exact inv.vals i d (by omega) (hl i (by omega) hid.1.2) hid.2) inv.keep
    unfold dstsX at h4
    rw [← actX_filled hl hlx inv] at h4
    have e1 : l.toArray[n]? = some on := by simpa using hon
    have e2 : l.toArray[x]? = some ox := by simpa using hox
    have h5 : wpOp P l.toArray Q n (wpList P l.toArray Q (ox :: l.drop (n + 1))) b u := by
      unfold wpOp
      simp only [e1]
      exact h4
    refine wpOp_mono ?_ h5
    intro a1 w1 h6
    have h7 : wpOp P l.toArray Q x (wpList P l.toArray Q (l.drop (n + 1))) a1 w1 := by
      unfold wpOp
      simp only [e2]
      exact h6
    refine wpOp_mono ?_ h7
    intro a2 w2 h8
    have := wpAny_of_seq (P := P) (md := .any) (ops := l.toArray) (Q' := Q) (l.drop (n + 1)) (n + 1) _ a2 w2 (fun j => by simp) (by rw [hdl2]; exact hseq2) h8
    rw [hdl2] at this
    exact this
  · intro i
    rw [List.mem_range]
    constructor
    · intro hi
      exact ⟨hi, getD_in (by simp; omega) (getD_replicate_false _ _)⟩
    · exact fun h => h.1
  · refine ⟨⟨by simp, fun j oj _ hl => (by rw [getD_replicate_false] at hl; cases hl), fun t _ ht => getD_in (by simpa using ht) (getD_replicate_false _ _)⟩, rfl, rfl, fun _ _ => rfl, fun i d _ hl => (by rw [getD_replicate_false] at hl; cases hl), Keep.drew (Keep.refl _ w), fun _ => Keep.drew (Keep.refl _ w)⟩
end
end Go.Proofs.Ytlbkehpdohihlaa
