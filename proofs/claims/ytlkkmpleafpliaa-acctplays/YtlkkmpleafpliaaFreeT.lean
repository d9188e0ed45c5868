/-
  Regions whose operations may come in any order and make memory of their own, whose last one (m) turns a block; the first one (a move) may come behind it. No condition.
-/
import Derived.Test.YtlkkmpleafpliaaFree
namespace Go.Proofs.Ytlkkmpleafpliaa
open Go.RowKit
set_option linter.unusedVariables false
set_option maxRecDepth 100000
section
variable {P : Program} {ops : Array Oper} {Q : Exit → Act → World → Prop} {V : List Kn} {m : Nat} {a0 : Act} {w0 : World} {c0 : Value} {R : Value → World → World → Prop}

structure TInv (ops : Array Oper) (V : List Kn) (m : Nat) (a0 : Act) (w0 : World) (c0 : Value) (R : Value → World → World → Prop) (ls : Array Bool) (a : Act) (w : World) : Prop where
  head : HeadInv .any ops (m + 1) ls
  defers : a.defers = a0.defers
  size : a.tmps.size = a0.tmps.size
  env : ∀ t, (∀ i, i < m + 1 → ls.getD i false = true → dstOf ops i ≠ some t) → a.tmps[t]? = a0.tmps[t]?
  zero : ls.getD 0 false = true → ∀ d, dstOf ops 0 = some d → a.tmps.getD d undef = c0
  early : ls.getD m false = false → (∀ i d, i < m → ls.getD i false = true → dstOf ops i = some d → (knOf V i).p (a.tmps.getD d undef) w) ∧ Kept w0 w
  late : ls.getD m false = true → (∀ i, 1 ≤ i → i < m + 1 → ls.getD i false = true) ∧ ∃ w1, Kept w0 w1 ∧ (∀ i d, 1 ≤ i → i < m → dstOf ops i = some d → (knOf V i).p (a.tmps.getD d undef) w1) ∧ ∀ d, dstOf ops m = some d → R (a.tmps.getD d undef) w1 w

/-- a move that may come whenever -/
def TZero (P : Program) (ops : Array Oper) (Q : Exit → Act → World → Prop) (n : Nat) (a0 : Act) (c0 : Value) : Prop := ∀ a w, FEnv ops n a0 a → wpOp P ops Q 0 (fun a' w' => a' = a.put (dstOf ops 0) c0 ∧ w' = w) a w
/-- the operation that turns -/
def TLast (P : Program) (ops : Array Oper) (Q : Exit → Act → World → Prop) (V : List Kn) (m : Nat) (a0 : Act) (w0 : World) (R : Value → World → World → Prop) : Prop :=
  ∀ a w, FEnv ops (m + 1) a0 a → FDep ops V m a w → Kept w0 w → wpOp P ops Q m (fun a' w' => ∃ v, a' = a.put (dstOf ops m) v ∧ R v w w') a w
def sinkT (ops : Array Oper) (m : Nat) : Bool := decide (0 < m) && (List.range m).all fun i => i == 0 || (List.range (m + 1)).any fun j => decide (i < j) && Region.waitsFor .any ops j i

theorem waits_on {j i : Nat} {oj : Oper} (h : Region.waitsFor .any ops j i = true) (ho : ops[j]? = some oj) : ∃ e ∈ oj.after, Region.binds .any e = true ∧ e.on = i := by
  unfold Region.waitsFor at h
  simp only [ho] at h
  simp only [Array.any_eq_true', Bool.and_eq_true, beq_iff_eq] at h
  obtain ⟨e, he, hb⟩ := h
  exact ⟨e, he, by simpa using hb⟩

theorem freeT_go (hV0 : V.length = m) (hK0 : V[0]? = some (.eq c0)) (hB : freeB ops (m + 1) a0.tmps.size = true) (hsk : sinkT ops m = true) (hst : ∀ i K, 1 ≤ i → V[i]? = some K → FStep P ops Q V (m + 1) a0 w0 i K)
    (hz : TZero P ops Q (m + 1) a0 c0) (hm : TLast P ops Q V m a0 w0 R)
    (hfin : ∀ a w, TInv ops V m a0 w0 c0 R (Array.replicate (m + 1) true ++ Array.replicate (ops.size - (m + 1)) false) a w → wpAny P .any ops Q (ops.size - (m + 1)) (Array.replicate (m + 1) true ++ Array.replicate (ops.size - (m + 1)) false) a w) :
    ∀ (f : Nat) (U : List Nat) (ls : Array Bool) (a : Act) (w : World), U.length = f → U.Nodup → (∀ i, i ∈ U ↔ i < m + 1 ∧ ls.getD i true = false) → TInv ops V m a0 w0 c0 R ls a w → wpAny P .any ops Q (f + (ops.size - (m + 1))) ls a w := by
  obtain ⟨hn, hsc, hseq, hall⟩ := freeB_facts hB
  simp only [sinkT, Bool.and_eq_true, decide_eq_true_eq] at hsk
  obtain ⟨hm0, hsk⟩ := hsk
  have hop : ∀ i, i < m + 1 → ∃ o d, ops[i]? = some o ∧ o.dst = some d ∧ d < a0.tmps.size ∧ (∀ j, j < i → dstOf ops j ≠ some d) ∧ ∀ e ∈ o.after, Region.binds .any e = true → e.on < i := by
    intro i hi
    have h := List.all_eq_true.1 hall i (by simpa using hi)
    cases ho : ops[i]? with
    | none => rw [ho] at h; cases h
    | some o =>
      rw [ho] at h
      simp only [Bool.and_eq_true] at h
      cases hd : o.dst with
      | none => rw [hd] at h; cases h.1
      | some d =>
        rw [hd] at h
        simp only [Bool.and_eq_true, decide_eq_true_eq, List.all_eq_true, List.mem_range, bne_iff_ne] at h
        refine ⟨o, d, rfl, hd, h.1.1, h.1.2, fun e he hb => ?_⟩
        have h2 := (Array.all_eq_true_iff_forall_mem.1 h.2) e he
        simpa [hb] using h2
  intro f
  induction f with
  | zero =>
    intro U ls a w hU _ hmem inv
    have hnil : U = [] := List.eq_nil_of_length_eq_zero hU
    have hls : ls = Array.replicate (m + 1) true ++ Array.replicate (ops.size - (m + 1)) false := by
      apply Array.ext
      · simp [inv.head.size]; omega
      · intro i h1 h2
        have hsz := inv.head.size
        by_cases hi : i < m + 1
        · have h3 : ¬ (i < m + 1 ∧ ls.getD i true = false) := by
            intro h
            have := (hmem i).2 h
            rw [hnil] at this
            cases this
          have h4 : ls.getD i true = true := by
            cases hq : ls.getD i true with
            | true => rfl
            | false => exact (h3 ⟨hi, hq⟩).elim
          rw [Array.getElem_append_left (by simpa using hi)]
          simp [h1] at h4
          simp [h4]
        · have h4 := inv.head.tail i (by omega) (by omega)
          rw [Array.getElem_append_right (by simpa using hi)]
          simp [h1] at h4
          simp [h4]
    rw [Nat.zero_add]
    subst hls
    exact hfin a w inv
  | succ f ih =>
    intro U ls a w hU hnd hmem inv
    have hsz := inv.head.size
    rw [show f + 1 + (ops.size - (m + 1)) = (f + (ops.size - (m + 1))) + 1 by omega]
    obtain ⟨u, hu⟩ : ∃ u, u ∈ U := by
      cases U with
      | nil => simp at hU
      | cons u U => exact ⟨u, by simp⟩
    obtain ⟨hun, huf⟩ := (hmem u).1 hu
    refine ⟨fun h0 => ?_, fun i hi => ?_⟩
    · exfalso
      have key : ∀ k i, i ≤ k → i < m + 1 → ls.getD i true = true := by
        intro k
        induction k using Nat.strongRecOn with
        | _ k ihk =>
          intro i hik hin
          cases hq : ls.getD i true with
          | true => rfl
          | false =>
            obtain ⟨o, d, ho, _, _, _, haft⟩ := hop i hin
            have : i ∈ Region.ready .any ops ls := mem_ready.2 ⟨hq, o, ho, fun e he hb => by
              have hlt := haft e he hb
              have := ihk (k - 1) (by omega) e.on (by omega) (by omega)
              exact getD_tf this (by omega)⟩
            rw [h0] at this
            cases this
      rw [key u u (Nat.le_refl _) hun] at huf
      cases huf
    · have hin : i < m + 1 := Nat.lt_of_not_le fun h => tail_waits (hsc (Nat.lt_of_le_of_lt h (by obtain ⟨_, o1, ho1, _⟩ := mem_ready.1 hi; exact (Array.getElem?_eq_some_iff.1 ho1).1))).1 (hsc (Nat.lt_of_le_of_lt h (by obtain ⟨_, o1, ho1, _⟩ := mem_ready.1 hi; exact (Array.getElem?_eq_some_iff.1 ho1).1))).2 (Nat.lt_of_le_of_lt h (by obtain ⟨_, o1, ho1, _⟩ := mem_ready.1 hi; exact (Array.getElem?_eq_some_iff.1 ho1).1)) inv.head _ u rfl hun huf i h hi
      obtain ⟨hiun, oi, hoi, hdeps⟩ := mem_ready.1 hi
      obtain ⟨o, d, ho, hd, hdlt, hne, haft⟩ := hop i hin
      obtain rfl : oi = o := Option.some.inj (hoi.symm.trans ho)
      have hdi : dstOf ops i = some d := by simp [dstOf, ho, hd]
      have hiff : ls.getD i false = false := getD_both hiun
      have hne' : ∀ j, j < m + 1 → j ≠ i → dstOf ops j ≠ some d := by
        intro j hj hij hjd
        by_cases hji : j < i
        · exact hne j hji hjd
        · obtain ⟨oj, dj, hoj, hdj, _, hnej, _⟩ := hop j hj
          have : dj = d := by
            have h1 : dstOf ops j = some dj := by simp [dstOf, hoj, hdj]
            rw [h1] at hjd
            injection hjd
          subst this
          exact hnej i (by omega) hdi
      have hdlt' : d < a.tmps.size := by rw [inv.size]; exact hdlt
      have hself : ∀ v, (a.put (some d) v).tmps.getD d undef = v := fun v => by simp [Act.put, hdlt']
      have hoth : ∀ v j e, j < m + 1 → j ≠ i → dstOf ops j = some e → (a.put (some d) v).tmps.getD e undef = a.tmps.getD e undef := by
        intro v j e hj hji he
        have : d ≠ e := fun h => hne' j hj hji (by rw [he, h])
        simp only [Act.put, Array.getD_eq_getD_getElem?, slot_set]
        rw [if_neg (fun h => this h.1)]
      have hfe : FEnv ops (m + 1) a0 a := by
        intro t v ht hv
        have ht' : ∀ k, k < m + 1 → ls.getD k false = true → dstOf ops k ≠ some t := fun k hkn _ => by simpa using List.all_eq_true.1 ht k (by simpa using hkn)
        have h1 := inv.env t ht'
        rw [← hv]
        simp only [Act.eval, Array.getD_eq_getD_getElem?, h1]
      have hU' : ∀ k, k ∈ U.erase i ↔ k < m + 1 ∧ (ls.setIfInBounds i true).getD k true = false := by
        intro k
        rw [hnd.mem_erase_iff, hmem k]
        by_cases hki : k = i
        · subst hki
          simp
        · rw [getD_set_ne true (fun h => hki h.symm)]
          simp [hki]
      have henv : ∀ v t, (∀ k, k < m + 1 → (ls.setIfInBounds i true).getD k false = true → dstOf ops k ≠ some t) → (a.put (some d) v).tmps[t]? = a0.tmps[t]? := by
        intro v t ht
        have h1 := inv.env t (fun k hkn hl => ht k hkn (getD_set_true hl))
        have h2 : d ≠ t := fun h => ht i hin (by simp [show i < ls.size by omega]) (by rw [hdi, h])
        simp only [Act.put, slot_set]
        rw [if_neg (fun h => h2 h.1), h1]
      have hlen : (U.erase i).length = f := by rw [List.length_erase_of_mem ((hmem i).2 ⟨hin, hiun⟩)]; omega
      have hsetk : ∀ k, k ≠ i → (ls.setIfInBounds i true).getD k false = ls.getD k false := fun k hk => getD_set_ne false (fun h => hk h.symm)
      have hseti : (ls.setIfInBounds i true).getD i false = true := by simp [show i < ls.size by omega]
      have hdep : ls.getD m false = false → FDep ops V i a w := by
        intro hme j e hje
        simp only [Bool.and_eq_true, beq_iff_eq, ho, Option.map_some, Option.some.injEq, Array.any_eq_true'] at hje
        obtain ⟨⟨x, hx, hxb, hxj⟩, hdj⟩ := hje
        subst hxj
        exact (inv.early hme).1 x.on e (by have := haft x hx hxb; omega) (hdeps x hx hxb) hdj
      by_cases him : i = m
      · subst him
        obtain ⟨hv, hk⟩ := inv.early hiff
        have hlau : ∀ k j, 1 ≤ j → j < i → i ≤ j + k → ls.getD j false = true := by
          intro k
          induction k with
          | zero => intro j _ h1 h2; omega
          | succ k ihk =>
            intro j hj1 hj2 hjk
            have h := List.all_eq_true.1 hsk j (by simpa using hj2)
            simp only [Bool.or_eq_true, beq_iff_eq, List.any_eq_true, List.mem_range, Bool.and_eq_true, decide_eq_true_eq] at h
            rcases h with h | ⟨q, hq1, hq2, hq3⟩
            · omega
            · obtain ⟨oq, dq, hoq, _, _, _, _⟩ := hop q hq1
              obtain ⟨e, he, hb, heq⟩ := waits_on hq3 hoq
              by_cases hqi : q = i
              · subst hqi
                obtain rfl : oq = oi := Option.some.inj (hoq.symm.trans ho)
                rw [← heq]
                exact hdeps e he hb
              · have := inv.head.closed q oq hoq (ihk q (by omega) (by omega) (by omega)) e he hb
                rw [← heq]
                exact this
        refine wpOp_mono ?_ (hm a w hfe (hdep hiff) hk)
        rintro a' w' ⟨v, rfl, hR⟩
        rw [hdi]
        refine ih (U.erase i) _ _ w' hlen (hnd.erase _) hU' ⟨inv.head.set hi hin, inv.defers, by simp [Act.put, inv.size], henv v, fun hl e he => ?_, fun hl => ?_, fun _ => ⟨fun k hk1 hk2 => ?_, w, hk, fun k e hk1 hk2 he => ?_, fun e he => ?_⟩⟩
        · rw [hsetk 0 (by omega)] at hl
          rw [hoth v 0 e (by omega) (by omega) he]
          exact inv.zero hl e he
        · rw [hseti] at hl
          cases hl
        · by_cases hki : k = i
          · subst hki; exact hseti
          · rw [hsetk k hki]
            exact hlau i k hk1 (by omega) (by omega)
        · rw [hoth v k e (by omega) (by omega) he]
          exact hv k e hk2 (hlau i k hk1 hk2 (by omega)) he
        · rw [hdi] at he
          injection he with he
          subst he
          rw [hself]
          exact hR
      · by_cases hi0 : i = 0
        · subst hi0
          refine wpOp_mono ?_ (hz a w hfe)
          rintro a' w' ⟨rfl, rfl⟩
          rw [hdi]
          refine ih (U.erase 0) _ _ w' hlen (hnd.erase _) hU' ⟨inv.head.set hi hin, inv.defers, by simp [Act.put, inv.size], henv c0, fun _ e he => ?_, fun hl => ⟨fun k e hkn hlk he => ?_, ?_⟩, fun hl => ?_⟩
          · rw [hdi] at he
            injection he with he
            subst he
            exact hself c0
          · rw [hsetk m (fun h => him h.symm)] at hl
            by_cases hk0 : k = 0
            · subst hk0
              rw [hdi] at he
              injection he with he
              subst he
              rw [hself]
              have : knOf V 0 = .eq c0 := by unfold knOf; rw [List.getD_eq_getElem?_getD, hK0]; rfl
              rw [this]
              exact rfl
            · rw [hsetk k hk0] at hlk
              rw [hoth c0 k e (by omega) hk0 he]
              exact (inv.early hl).1 k e hkn hlk he
          · rw [hsetk m (fun h => him h.symm)] at hl
            exact (inv.early hl).2
          · rw [hsetk m (fun h => him h.symm)] at hl
            obtain ⟨h1, w1, h2, h3, h4⟩ := inv.late hl
            refine ⟨fun k hk1 hk2 => by rw [hsetk k (by omega)]; exact h1 k hk1 hk2, w1, h2, fun k e hk1 hk2 he => ?_, fun e he => ?_⟩
            · rw [hoth c0 k e (by omega) (by omega) he]
              exact h3 k e hk1 hk2 he
            · rw [hoth c0 m e (by omega) (by omega) he]
              exact h4 e he
        · have hme : ls.getD m false = false := by
            cases hq : ls.getD m false with
            | false => rfl
            | true =>
              have := (inv.late hq).1 i (by omega) hin
              rw [hiff] at this
              cases this
          obtain ⟨hv, hk⟩ := inv.early hme
          have hK : V[i]? = some (knOf V i) := by
            unfold knOf
            rw [List.getD_eq_getElem?_getD, List.getElem?_eq_getElem (by omega)]
            rfl
          refine wpOp_mono ?_ (hst i _ (by omega) hK a w hfe (hdep hme) hk)
          rintro a' w' ⟨v, rfl, hv', hk'⟩
          rw [hdi]
          refine ih (U.erase i) _ _ w' hlen (hnd.erase _) hU' ⟨inv.head.set hi hin, inv.defers, by simp [Act.put, inv.size], henv v, fun hl e he => ?_, fun hl => ⟨fun k e hkn hlk he => ?_, hk.trans hk'⟩, fun hl => ?_⟩
          · rw [hsetk 0 (by omega)] at hl
            rw [hoth v 0 e (by omega) (by omega) he]
            exact inv.zero hl e he
          · by_cases hki : k = i
            · subst hki
              rw [hdi] at he
              injection he with he
              subst he
              rw [hself]
              exact hv'
            · rw [hsetk k hki] at hlk
              rw [hoth v k e (by omega) hki he]
              exact (knOf V k).st _ _ _ (hv k e hkn hlk he) hk'
          · rw [hsetk m (fun h => him h.symm), hme] at hl
            cases hl

theorem actT_filled {a : Act} {w : World} {ls : Array Bool} (hl : ∀ i, i < m + 1 → ls.getD i false = true) (inv : TInv ops V m a0 w0 c0 R ls a w) : a = ⟨(dstsOf ops (m + 1)).foldl (fun t d => t.setIfInBounds d (a.tmps.getD d undef)) a0.tmps, a0.defers⟩ := by
  obtain ⟨t, df⟩ := a
  have h1 := inv.defers
  simp only at h1
  subst h1
  congr 1
  apply Array.ext_getElem?
  intro e
  rw [fold_slots]
  have hsz := inv.size
  simp only at hsz
  by_cases hm : e ∈ dstsOf ops (m + 1)
  · by_cases hlt : e < a0.tmps.size
    · rw [if_pos ⟨hm, hlt⟩]
      have : e < t.size := by omega
      simp [this]
    · rw [if_neg (fun h => hlt h.2), Array.getElem?_eq_none (by omega), Array.getElem?_eq_none (by omega)]
  · rw [if_neg (fun h => hm h.1)]
    exact inv.env e (fun i hi _ h => hm (List.mem_filterMap.2 ⟨i, by simpa using hi, h⟩))

/-- the values of the head, by their slots, ahead of the turn -/
def TVals (ops : Array Oper) (V : List Kn) (g : Nat → Value) (w : World) : Prop := ∀ i d, (decide (1 ≤ i) && decide (i < V.length) && dstOf ops i == some d) = true → (knOf V i).p (g d) w

theorem wp_freeT {id : Nat} {a : Act} {w : World} {l : List Oper} (m : Nat) (V : List Kn) (c0 : Value) (R : Value → World → World → Prop) (hmo : P.follows Departure.mixedOrders = true) (hV : V.length = m) (hK0 : V[0]? = some (.eq c0)) (hB : freeB l.toArray (m + 1) a.tmps.size = true) (hsk : sinkT l.toArray m = true)
    (hz : TZero P l.toArray Q (m + 1) a c0) (hs : FSteps P l.toArray Q V (m + 1) a w 1 (V.drop 1)) (hm : TLast P l.toArray Q V m a w R)
    (hf : ∀ (g : Nat → Value) w1 w', TVals l.toArray V g w1 → (∀ d, dstOf l.toArray 0 = some d → g d = c0) → (∀ d, dstOf l.toArray m = some d → R (g d) w1 w') → Kept w w1 → wpList P l.toArray Q (l.drop (m + 1)) ⟨(dstsOf l.toArray (m + 1)).foldl (fun t d => t.setIfInBounds d (g d)) a.tmps, a.defers⟩ w') : (Code.region id l.toArray true).wp P Q a w := by
  have hB' := hB
  obtain ⟨hn, _, hseq, _⟩ := freeB_facts hB'
  have hn' : m + 1 ≤ l.length := by simpa using hn
  have hdl : (l.drop (m + 1)).length = l.toArray.size - (m + 1) := by simp
  refine wp_region_any hmo ?_
  have := freeT_go (P := P) (Q := Q) (w0 := w) hV hK0 hB hsk (fun i K hi hK => by
    have := fsteps_at (V.drop 1) 1 hs (i - 1) K (by rw [List.getElem?_drop, show 1 + (i - 1) = i by omega]; exact hK)
    rwa [show 1 + (i - 1) = i by omega] at this) hz hm (fun b u inv => ?_) (m + 1) (List.range (m + 1)) (Array.replicate l.toArray.size false) a w.drew (by simp) List.nodup_range ?_ ?_
  · have e : m + 1 + (l.toArray.size - (m + 1)) = l.toArray.size := by omega
    rw [e] at this
    exact this
  · have hl : ∀ i, i < m + 1 → (Array.replicate (m + 1) true ++ Array.replicate (l.toArray.size - (m + 1)) false).getD i false = true := by
      intro i hi
      have hlt : i < (Array.replicate (m + 1) true ++ Array.replicate (l.toArray.size - (m + 1)) false).size := by simp; omega
      rw [Array.getD, dif_pos hlt]
      show (Array.replicate (m + 1) true ++ Array.replicate (l.toArray.size - (m + 1)) false)[i] = true
      rw [Array.getElem_append_left (by simpa using hi)]
      simp
    obtain ⟨_, w1, h1, h2, h3⟩ := inv.late (hl m (by omega))
    have h4 := hf (fun d => b.tmps.getD d undef) w1 u (fun i d hid => by
      simp only [Bool.and_eq_true, decide_eq_true_eq, beq_iff_eq] at hid
      exact h2 i d hid.1.1 (by omega) hid.2) (inv.zero (hl 0 (by omega))) h3 h1
    rw [← actT_filled hl inv] at h4
    have := wpAny_of_seq (P := P) (md := .any) (ops := l.toArray) (Q' := Q) (l.drop (m + 1)) (m + 1) _ b u (fun j => by simp) (by rw [hdl]; exact hseq) h4
    rw [hdl] at this
    exact this
  · intro i
    rw [List.mem_range]
    constructor
    · intro hi
      exact ⟨hi, getD_in (by simp; omega) (getD_replicate_false _ _)⟩
    · exact fun h => h.1
  · refine ⟨⟨by simp, fun j oj _ hl => (by rw [getD_replicate_false] at hl; cases hl), fun t _ ht => getD_in (by simpa using ht) (getD_replicate_false _ _)⟩, rfl, rfl, fun _ _ => rfl, fun hl => (by rw [getD_replicate_false] at hl; cases hl), fun _ => ⟨fun i d _ hl => (by rw [getD_replicate_false] at hl; cases hl), Keep.drew (Keep.refl _ w)⟩, fun hl => (by rw [getD_replicate_false] at hl; cases hl)⟩

theorem t_zero {t d : Nat} {n : Nat} (o : Oper) (ho : ops[0]? = some o) (hg : o.guard = none) (hop : o.op = .move (.tmp t)) (ht : ((List.range n).all fun i => dstOf ops i != some t) = true) (hv : a0.eval (.tmp t) = c0) : TZero P ops Q n a0 c0 := by
  intro a w hE
  unfold wpOp
  simp only [ho, wanted_none hg, if_true]
  refine .inl ?_
  unfold Oper.wp
  have : (execOp a.eval o).run P w = .ok (.value c0) w := by
    unfold execOp
    simp only [hop, hE t c0 ht hv]
    simp [go_sem]
  rw [this]
  exact ⟨by simp [dstOf, ho], rfl⟩
theorem t_last {v : Value} {w' : World} {a : Act} {w : World} {o : Oper} (ho : ops[m]? = some o) (hw : Region.wanted o (yielded ops a.tmps) = true) (h : (execOp a.eval o).run P w = .ok (.value v) w') (hR : R v w w') : wpOp P ops Q m (fun a' w' => ∃ v, a' = a.put (dstOf ops m) v ∧ R v w w') a w := by
  unfold wpOp
  simp only [ho, hw, if_true]
  refine .inl ?_
  unfold Oper.wp
  rw [h]
  exact ⟨v, by simp [dstOf, ho], hR⟩
end
end Go.Proofs.Ytlkkmpleafpliaa
