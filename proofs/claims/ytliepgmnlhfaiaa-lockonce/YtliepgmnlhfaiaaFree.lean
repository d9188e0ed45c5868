/-
  Regions whose operations may come in any order and make memory of their own: of each what is known of its value, which stays known while no block turns; a forced tail follows. No condition.
-/
import Derived.Test.YtliepgmnlhfaiaaClass0
namespace Go.Proofs.Ytliepgmnlhfaiaa
open Go.RowKit
set_option linter.unusedVariables false
set_option maxRecDepth 100000

/-- what is known of a value, and stays known while no block turns -/
structure Kn where
  p : Value → World → Prop
  st : ∀ v w w', p v w → Kept w w' → p v w'
def Kn.eq (c : Value) : Kn := ⟨fun v _ => v = c, fun _ _ _ h _ => h⟩
def Kn.any : Kn := ⟨fun _ _ => True, fun _ _ _ _ _ => trivial⟩

/-- known where b says so; else passed over -/
def Kn.cond (b : Bool) (K : Kn) : Kn := ⟨fun v w => (b = true → K.p v w) ∧ (b = false → v = undef), fun v w w' h hk => ⟨fun hb => K.st v w w' (h.1 hb) hk, h.2⟩⟩

def dstOf (ops : Array Oper) (i : Nat) : Option Tmp := (ops[i]?).bind (·.dst)
def knOf (V : List Kn) (i : Nat) : Kn := V.getD i Kn.any

section
variable {P : Program} {ops : Array Oper} {Q : Exit → Act → World → Prop} {V : List Kn} {n : Nat} {a0 : Act} {w0 : World}

structure FInv (ops : Array Oper) (V : List Kn) (n : Nat) (a0 : Act) (w0 : World) (ls : Array Bool) (a : Act) (w : World) : Prop where
  head : HeadInv .any ops n ls
  defers : a.defers = a0.defers
  size : a.tmps.size = a0.tmps.size
  env : ∀ t, (∀ i, i < n → ls.getD i false = true → dstOf ops i ≠ some t) → a.tmps[t]? = a0.tmps[t]?
  vals : ∀ i d, i < n → ls.getD i false = true → dstOf ops i = some d → (knOf V i).p (a.tmps.getD d undef) w
  kept : Kept w0 w

/-- slots that the head does not write -/
def FEnv (ops : Array Oper) (n : Nat) (a0 a : Act) : Prop := ∀ t v, ((List.range n).all fun i => dstOf ops i != some t) = true → a0.eval (.tmp t) = v → a.eval (.tmp t) = v
/-- what an operation waits for is known -/
def FDep (ops : Array Oper) (V : List Kn) (i : Nat) (a : Act) (w : World) : Prop :=
  ∀ j d, (((ops[i]?).map fun o => o.after.any fun e => Region.binds .any e && e.on == j) == some true && dstOf ops j == some d) = true → (knOf V j).p (a.eval (.tmp d)) w
def FPost (ops : Array Oper) (i : Nat) (K : Kn) (a : Act) (w : World) (a' : Act) (w' : World) : Prop := ∃ v, a' = a.put (dstOf ops i) v ∧ K.p v w' ∧ Kept w w'
def FStep (P : Program) (ops : Array Oper) (Q : Exit → Act → World → Prop) (V : List Kn) (n : Nat) (a0 : Act) (w0 : World) (i : Nat) (K : Kn) : Prop :=
  ∀ a w, FEnv ops n a0 a → FDep ops V i a w → Kept w0 w → wpOp P ops Q i (FPost ops i K a w) a w
def FSteps (P : Program) (ops : Array Oper) (Q : Exit → Act → World → Prop) (V : List Kn) (n : Nat) (a0 : Act) (w0 : World) : Nat → List Kn → Prop
  | _, [] => True
  | i, K :: Ks => FStep P ops Q V n a0 w0 i K ∧ FSteps P ops Q V n a0 w0 (i + 1) Ks
theorem fsteps_nil {i : Nat} : FSteps P ops Q V n a0 w0 i [] := trivial
theorem fsteps_cons {i : Nat} (j : Nat) {K : Kn} {Ks : List Kn} (hj : j = i + 1) (h : FStep P ops Q V n a0 w0 i K) (hr : FSteps P ops Q V n a0 w0 j Ks) : FSteps P ops Q V n a0 w0 i (K :: Ks) := ⟨h, by subst hj; exact hr⟩
theorem fsteps_at : ∀ (Ks : List Kn) (i : Nat), FSteps P ops Q V n a0 w0 i Ks → ∀ k K, Ks[k]? = some K → FStep P ops Q V n a0 w0 (i + k) K
  | [], _, _, k, K, h => by simp at h
  | K0 :: Ks, i, h, 0, K, hk => by simp at hk; subst hk; exact h.1
  | K0 :: Ks, i, h, k + 1, K, hk => by
    have := fsteps_at Ks (i + 1) h.2 k K (by simpa using hk)
    rw [show i + (k + 1) = i + 1 + k by omega]
    exact this

/-- may it be walked so: the head's slots are unlike, and lie in the frame; what an operation waits for stands ahead of it; the tail is forced -/
def freeB (ops : Array Oper) (n size : Nat) : Bool :=
  decide (n ≤ ops.size) && (decide (n = ops.size) || (Region.sinkB .any ops n && Region.chainB .any ops n)) && Region.seqB .any ops (ops.size - n) n (Array.replicate n true ++ Array.replicate (ops.size - n) false)
  && ((List.range n).all fun i => match ops[i]? with
    | some o => (match o.dst with | some d => decide (d < size) && ((List.range i).all fun j => dstOf ops j != some d) | none => false) && o.after.all fun e => !Region.binds .any e || decide (e.on < i)
    | none => false)

theorem freeB_facts {ops : Array Oper} {n size : Nat} (h : freeB ops n size = true) : n ≤ ops.size ∧ (n < ops.size → Region.sinkB .any ops n = true ∧ Region.chainB .any ops n = true) ∧ Region.seqB .any ops (ops.size - n) n (Array.replicate n true ++ Array.replicate (ops.size - n) false) = true ∧ ((List.range n).all fun i => match ops[i]? with
    | some o => (match o.dst with | some d => decide (d < size) && ((List.range i).all fun j => dstOf ops j != some d) | none => false) && o.after.all fun e => !Region.binds .any e || decide (e.on < i)
    | none => false) = true := by
  unfold freeB at h
  simp only [Bool.and_eq_true, Bool.or_eq_true, decide_eq_true_eq] at h
  obtain ⟨⟨⟨h1, h2⟩, h3⟩, h4⟩ := h
  exact ⟨h1, fun hl => h2.elim (fun e => by omega) id, h3, h4⟩

theorem getD_tf {ls : Array Bool} {i : Nat} (h : ls.getD i true = true) (hi : i < ls.size) : ls.getD i false = true := by
  simp [hi] at h ⊢; exact h

theorem slot_set (t : Array Value) (d e : Nat) (v : Value) : (t.setIfInBounds d v)[e]? = if d = e ∧ d < t.size then some v else t[e]? := by
  rw [Array.getElem?_setIfInBounds]
  by_cases h : d = e
  · subst h
    by_cases h2 : d < t.size
    · simp [h2]
    · simp [h2]
  · simp [h]

theorem free_go (hnV : V.length = n) (hB : freeB ops n a0.tmps.size = true) (hst : ∀ i K, V[i]? = some K → FStep P ops Q V n a0 w0 i K)
    (hfin : ∀ a w, FInv ops V n a0 w0 (Array.replicate n true ++ Array.replicate (ops.size - n) false) a w → wpAny P .any ops Q (ops.size - n) (Array.replicate n true ++ Array.replicate (ops.size - n) false) a w) :
    ∀ (f : Nat) (U : List Nat) (ls : Array Bool) (a : Act) (w : World), U.length = f → U.Nodup → (∀ i, i ∈ U ↔ i < n ∧ ls.getD i true = false) → FInv ops V n a0 w0 ls a w → wpAny P .any ops Q (f + (ops.size - n)) ls a w := by
  obtain ⟨hn, hsc, hseq, hall⟩ := freeB_facts hB
  have hop : ∀ i, i < n → ∃ o d, ops[i]? = some o ∧ o.dst = some d ∧ d < a0.tmps.size ∧ (∀ j, j < i → dstOf ops j ≠ some d) ∧ ∀ e ∈ o.after, Region.binds .any e = true → e.on < i := by
    intro i hi
    have h := List.all_eq_true.1 hall i (by simpa using hi)
    cases ho : ops[i]? with
    | none => rw [ho] at h; cases h
    | some o =>
      rw [ho] at h
      simp only [Bool.and_eq_true] at h
      cases hd : o.dst with
      | none => rw [hd] at h; cases h.1
      | some d =>
        rw [hd] at h
        simp only [Bool.and_eq_true, decide_eq_true_eq, List.all_eq_true, List.mem_range, bne_iff_ne] at h
        refine ⟨o, d, rfl, hd, h.1.1, h.1.2, fun e he hb => ?_⟩
        have h2 := (Array.all_eq_true_iff_forall_mem.1 h.2) e he
        simpa [hb] using h2
  intro f
  induction f with
  | zero =>
    intro U ls a w hU _ hmem inv
    have hnil : U = [] := List.eq_nil_of_length_eq_zero hU
    have hls : ls = Array.replicate n true ++ Array.replicate (ops.size - n) false := by
      apply Array.ext
      · simp [inv.head.size]; omega
      · intro i h1 h2
        have hsz := inv.head.size
        by_cases hi : i < n
        · have h3 : ¬ (i < n ∧ ls.getD i true = false) := by
            intro h
            have := (hmem i).2 h
            rw [hnil] at this
            cases this
          have h4 : ls.getD i true = true := by
            cases hq : ls.getD i true with
            | true => rfl
            | false => exact (h3 ⟨hi, hq⟩).elim
          rw [Array.getElem_append_left (by simpa using hi)]
          simp [h1] at h4
          simp [h4]
        · have h4 := inv.head.tail i (by omega) (by omega)
          rw [Array.getElem_append_right (by simpa using hi)]
          simp [h1] at h4
          simp [h4]
    rw [Nat.zero_add]
    subst hls
    exact hfin a w inv
  | succ f ih =>
    intro U ls a w hU hnd hmem inv
    have hsz := inv.head.size
    rw [show f + 1 + (ops.size - n) = (f + (ops.size - n)) + 1 by omega]
    obtain ⟨u, hu⟩ : ∃ u, u ∈ U := by
      cases U with
      | nil => simp at hU
      | cons u U => exact ⟨u, by simp⟩
    obtain ⟨hun, huf⟩ := (hmem u).1 hu
    refine ⟨fun h0 => ?_, fun i hi => ?_⟩
    · exfalso
      have key : ∀ k i, i ≤ k → i < n → ls.getD i true = true := by
        intro k
        induction k using Nat.strongRecOn with
        | _ k ihk =>
          intro i hik hin
          cases hq : ls.getD i true with
          | true => rfl
          | false =>
            obtain ⟨o, d, ho, _, _, _, haft⟩ := hop i hin
            have : i ∈ Region.ready .any ops ls := mem_ready.2 ⟨hq, o, ho, fun e he hb => by
              have hlt := haft e he hb
              have := ihk (k - 1) (by omega) e.on (by omega) (by omega)
              exact getD_tf this (by omega)⟩
            rw [h0] at this
            cases this
      rw [key u u (Nat.le_refl _) hun] at huf
      cases huf
    · have hin : i < n := Nat.lt_of_not_le fun h => tail_waits (hsc (Nat.lt_of_le_of_lt h (by obtain ⟨_, o1, ho1, _⟩ := mem_ready.1 hi; exact (Array.getElem?_eq_some_iff.1 ho1).1))).1 (hsc (Nat.lt_of_le_of_lt h (by obtain ⟨_, o1, ho1, _⟩ := mem_ready.1 hi; exact (Array.getElem?_eq_some_iff.1 ho1).1))).2 (Nat.lt_of_le_of_lt h (by obtain ⟨_, o1, ho1, _⟩ := mem_ready.1 hi; exact (Array.getElem?_eq_some_iff.1 ho1).1)) inv.head _ u rfl hun huf i h hi
      obtain ⟨hiun, oi, hoi, hdeps⟩ := mem_ready.1 hi
      obtain ⟨o, d, ho, hd, hdlt, hne, haft⟩ := hop i hin
      obtain rfl : oi = o := Option.some.inj (hoi.symm.trans ho)
      have hdi : dstOf ops i = some d := by simp [dstOf, ho, hd]
      have hiff : ls.getD i false = false := getD_both hiun
      have hne' : ∀ j, j < n → ls.getD j false = true → dstOf ops j ≠ some d := by
        intro j hj hl hjd
        by_cases hji : j < i
        · exact hne j hji hjd
        · by_cases hij : j = i
          · subst hij
            rw [hiff] at hl
            cases hl
          · obtain ⟨oj, dj, hoj, hdj, _, hnej, _⟩ := hop j hj
            have : dj = d := by
              have h1 : dstOf ops j = some dj := by simp [dstOf, hoj, hdj]
              rw [h1] at hjd
              injection hjd
            subst this
            exact hnej i (by omega) hdi
      have hK : V[i]? = some (knOf V i) := by
        unfold knOf
        rw [List.getD_eq_getElem?_getD, List.getElem?_eq_getElem (by omega)]
        rfl
      refine wpOp_mono ?_ (hst i _ hK a w ?_ ?_ inv.kept)
      · rintro a' w' ⟨v, rfl, hv, hk⟩
        rw [hdi]
        refine ih (U.erase i) _ _ w' (by rw [List.length_erase_of_mem ((hmem i).2 ⟨hin, hiun⟩)]; omega) (hnd.erase _) (fun k => ?_) ⟨inv.head.set hi hin, inv.defers, by simp [Act.put, inv.size], fun t ht => ?_, fun k e hkn hl he => ?_, inv.kept.trans hk⟩
        · rw [hnd.mem_erase_iff, hmem k]
          by_cases hki : k = i
          · subst hki
            simp
          · rw [getD_set_ne true (fun h => hki h.symm)]
            simp [hki]
        · have h1 := inv.env t (fun k hkn hl => ht k hkn (getD_set_true hl))
          have h2 : d ≠ t := fun h => ht i hin (by simp [show i < ls.size by omega]) (by rw [hdi, h])
          simp only [Act.put, slot_set]
          rw [if_neg (fun h => h2 h.1), h1]
        · by_cases hki : k = i
          · subst hki
            rw [hdi] at he
            injection he with he
            subst he
            have hlt : d < a.tmps.size := by rw [inv.size]; exact hdlt
            have : (a.put (some d) v).tmps.getD d undef = v := by simp [Act.put, hlt]
            rw [this]
            exact hv
          · rw [getD_set_ne false (fun h => hki h.symm)] at hl
            have hne2 : d ≠ e := fun h => hne' k hkn hl (by rw [he, h])
            have : (a.put (some d) v).tmps.getD e undef = a.tmps.getD e undef := by
              simp only [Act.put, Array.getD_eq_getD_getElem?, slot_set]
              rw [if_neg (fun h => hne2 h.1)]
            rw [this]
            exact (knOf V k).st _ _ _ (inv.vals k e hkn hl he) hk
      · intro t v ht hv
        have ht' : ∀ k, k < n → ls.getD k false = true → dstOf ops k ≠ some t := fun k hkn _ => by simpa using List.all_eq_true.1 ht k (by simpa using hkn)
        have h1 := inv.env t ht'
        rw [← hv]
        simp only [Act.eval, Array.getD_eq_getD_getElem?, h1]
      · intro j e hje
        simp only [Bool.and_eq_true, beq_iff_eq, ho, Option.map_some, Option.some.injEq, Array.any_eq_true'] at hje
        obtain ⟨⟨x, hx, hxb, hxj⟩, hdj⟩ := hje
        subst hxj
        exact inv.vals x.on e (by have := haft x hx hxb; omega) (hdeps x hx hxb) hdj

theorem fold_slots (g : Nat → Value) : ∀ (ds : List Nat) (t : Array Value) (e : Nat), (ds.foldl (fun t d => t.setIfInBounds d (g d)) t)[e]? = if e ∈ ds ∧ e < t.size then some (g e) else t[e]?
  | [], t, e => by simp
  | d :: ds, t, e => by
    rw [List.foldl_cons, fold_slots g ds, slot_set]
    by_cases h : d = e
    · subst h
      by_cases h2 : d < t.size
      · simp [h2]
      · simp [h2]
    · have h' : ¬ e = d := fun x => h x.symm
      simp [h, h']

/-- the slots of the head -/
def dstsOf (ops : Array Oper) (n : Nat) : List Nat := (List.range n).filterMap (dstOf ops)
/-- the values of the head, by their slots -/
def FVals (ops : Array Oper) (V : List Kn) (g : Nat → Value) (w : World) : Prop := ∀ i d, (decide (i < V.length) && dstOf ops i == some d) = true → (knOf V i).p (g d) w

theorem act_filled {ls : Array Bool} {a : Act} {w : World} (hl : ∀ i, i < n → ls.getD i false = true) (inv : FInv ops V n a0 w0 ls a w) : a = ⟨(dstsOf ops n).foldl (fun t d => t.setIfInBounds d (a.tmps.getD d undef)) a0.tmps, a0.defers⟩ := by
  obtain ⟨t, df⟩ := a
  have h1 := inv.defers
  simp only at h1
  subst h1
  congr 1
  apply Array.ext_getElem?
  intro e
  rw [fold_slots]
  have hsz := inv.size
  simp only at hsz
  by_cases hm : e ∈ dstsOf ops n
  · by_cases hlt : e < a0.tmps.size
    · rw [if_pos ⟨hm, hlt⟩]
      have : e < t.size := by omega
      simp [this]
    · rw [if_neg (fun h => hlt h.2), Array.getElem?_eq_none (by omega), Array.getElem?_eq_none (by omega)]
  · rw [if_neg (fun h => hm h.1)]
    exact inv.env e (fun i hi _ h => hm (List.mem_filterMap.2 ⟨i, by simpa using hi, h⟩))

/-- the law -/
theorem wp_free {id : Nat} {a : Act} {w : World} {l : List Oper} (n : Nat) (V : List Kn) (hm : P.follows .mixedOrders = true) (hV : V.length = n) (hB : freeB l.toArray n a.tmps.size = true)
    (hs : FSteps P l.toArray Q V n a w 0 V)
    (hf : ∀ (g : Nat → Value) w', FVals l.toArray V g w' → Kept w w' → wpList P l.toArray Q (l.drop n) ⟨(dstsOf l.toArray n).foldl (fun t d => t.setIfInBounds d (g d)) a.tmps, a.defers⟩ w') : (Code.region id l.toArray true).wp P Q a w := by
  have hB' := hB
  obtain ⟨hn, _, hseq, _⟩ := freeB_facts hB'
  have hn' : n ≤ l.length := by simpa using hn
  have hdl : (l.drop n).length = l.toArray.size - n := by simp
  refine wp_region_any hm ?_
  have := free_go (P := P) (Q := Q) (w0 := w) hV hB (fun i K hK => by have := fsteps_at V 0 hs i K hK; rwa [Nat.zero_add] at this) (fun b u inv => ?_) n (List.range n) (Array.replicate l.toArray.size false) a w.drew (by simp) List.nodup_range ?_ ?_
  · have e : n + (l.toArray.size - n) = l.toArray.size := by omega
    rw [e] at this
    exact this
  · have hl : ∀ i, i < n → (Array.replicate n true ++ Array.replicate (l.toArray.size - n) false).getD i false = true := by
      intro i hi
      have hlt : i < (Array.replicate n true ++ Array.replicate (l.toArray.size - n) false).size := by simp; omega
      rw [Array.getD, dif_pos hlt]
      show (Array.replicate n true ++ Array.replicate (l.toArray.size - n) false)[i] = true
      rw [Array.getElem_append_left (by simpa using hi)]
      simp
    have h2 := hf (fun d => b.tmps.getD d undef) u (fun i d hid => by
      simp only [Bool.and_eq_true, decide_eq_true_eq, beq_iff_eq] at hid
      exact inv.vals i d (by omega) (hl i (by omega)) hid.2) inv.kept
    rw [← act_filled hl inv] at h2
    have := wpAny_of_seq (P := P) (md := .any) (ops := l.toArray) (Q' := Q) (l.drop n) n _ b u (fun j => by simp) (by rw [hdl]; exact hseq) h2
    rw [hdl] at this
    exact this
  · intro i
    rw [List.mem_range]
    constructor
    · intro hi
      exact ⟨hi, getD_in (by simp; omega) (getD_replicate_false _ _)⟩
    · exact fun h => h.1
  · refine ⟨⟨by simp, fun j oj _ hl => (by rw [getD_replicate_false] at hl; cases hl), fun t _ ht => getD_in (by simpa using ht) (getD_replicate_false _ _)⟩, rfl, rfl, fun _ _ => rfl, fun i d _ hl => (by rw [getD_replicate_false] at hl; cases hl), Keep.drew (Keep.refl _ w)⟩

/-! the same of a region whose order is the text's -/
structure SInv (ops : Array Oper) (V : List Kn) (k : Nat) (a0 : Act) (w0 : World) (a : Act) (w : World) : Prop where
  defers : a.defers = a0.defers
  size : a.tmps.size = a0.tmps.size
  env : ∀ t, (∀ i, i < k → dstOf ops i ≠ some t) → a.tmps[t]? = a0.tmps[t]?
  vals : ∀ i d, i < k → dstOf ops i = some d → (knOf V i).p (a.tmps.getD d undef) w
  kept : Kept w0 w

def textB (ops : Array Oper) (n size : Nat) : Bool :=
  decide (n ≤ ops.size) && ((List.range n).all fun i => match ops[i]? with
    | some o => (match o.dst with | some d => decide (d < size) && ((List.range i).all fun j => dstOf ops j != some d) | none => false) && o.after.all fun e => !Region.binds .any e || decide (e.on < i)
    | none => false)

theorem sact_filled {a : Act} {w : World} (inv : SInv ops V n a0 w0 a w) : a = ⟨(dstsOf ops n).foldl (fun t d => t.setIfInBounds d (a.tmps.getD d undef)) a0.tmps, a0.defers⟩ := by
  obtain ⟨t, df⟩ := a
  have h1 := inv.defers
  simp only at h1
  subst h1
  congr 1
  apply Array.ext_getElem?
  intro e
  rw [fold_slots]
  have hsz := inv.size
  simp only at hsz
  by_cases hm : e ∈ dstsOf ops n
  · by_cases hlt : e < a0.tmps.size
    · rw [if_pos ⟨hm, hlt⟩]
      have : e < t.size := by omega
      simp [this]
    · rw [if_neg (fun h => hlt h.2), Array.getElem?_eq_none (by omega), Array.getElem?_eq_none (by omega)]
  · rw [if_neg (fun h => hm h.1)]
    exact inv.env e (fun i hi h => hm (List.mem_filterMap.2 ⟨i, by simpa using hi, h⟩))

theorem text_go {l : List Oper} (hnV : V.length = n) (hB : textB l.toArray n a0.tmps.size = true) (hst : ∀ i K, V[i]? = some K → FStep P l.toArray Q V n a0 w0 i K)
    (hfin : ∀ a w, SInv l.toArray V n a0 w0 a w → wpList P l.toArray Q (l.drop n) a w) : ∀ (f k : Nat) (a : Act) (w : World), k + f = n → SInv l.toArray V k a0 w0 a w → wpList P l.toArray Q (l.drop k) a w := by
  simp only [textB, Bool.and_eq_true, decide_eq_true_eq] at hB
  obtain ⟨hn, hall⟩ := hB
  intro f
  induction f with
  | zero =>
    intro k a w hk inv
    obtain rfl : k = n := by omega
    exact hfin a w inv
  | succ f ih =>
    intro k a w hk inv
    have hkn : k < n := by omega
    have h := List.all_eq_true.1 hall k (by simpa using hkn)
    cases ho : l.toArray[k]? with
    | none => rw [ho] at h; cases h
    | some o =>
      rw [ho] at h
      simp only [Bool.and_eq_true] at h
      cases hd : o.dst with
      | none => rw [hd] at h; cases h.1
      | some d =>
        rw [hd] at h
        simp only [Bool.and_eq_true, decide_eq_true_eq, List.all_eq_true, List.mem_range, bne_iff_ne] at h
        have hdi : dstOf l.toArray k = some d := by simp [dstOf, ho, hd]
        have hne := h.1.2
        have haft : ∀ e ∈ o.after, Region.binds .any e = true → e.on < k := fun e he hb => by
          have h2 := (Array.all_eq_true_iff_forall_mem.1 h.2) e he
          simpa [hb] using h2
        have hK : V[k]? = some (knOf V k) := by
          unfold knOf
          rw [List.getD_eq_getElem?_getD, List.getElem?_eq_getElem (by omega)]
          rfl
        have ho' : l[k]? = some o := by simpa using ho
        have hlk : k < l.length := (List.getElem?_eq_some_iff.1 ho').1
        have hdrop : l.drop k = o :: l.drop (k + 1) := by
          rw [List.drop_eq_getElem_cons hlk]
          congr 1
          exact (List.getElem?_eq_some_iff.1 ho').2
        have key : wpOp P l.toArray Q k (wpList P l.toArray Q (l.drop (k + 1))) a w := by
          refine wpOp_mono ?_ (hst k _ hK a w ?_ ?_ inv.kept)
          · rintro a' w' ⟨v, rfl, hv, hk'⟩
            rw [hdi]
            refine ih (k + 1) _ w' (by omega) ⟨inv.defers, by simp [Act.put, inv.size], fun t ht => ?_, fun i e hi he => ?_, inv.kept.trans hk'⟩
            · have h1 := inv.env t (fun i hi => ht i (by omega))
              have h2 : d ≠ t := fun h => ht k (by omega) (by rw [hdi, h])
              simp only [Act.put, slot_set]
              rw [if_neg (fun h => h2 h.1), h1]
            · by_cases hik : i = k
              · subst hik
                rw [hdi] at he
                injection he with he
                subst he
                have hlt : d < a.tmps.size := by rw [inv.size]; exact h.1.1
                have : (a.put (some d) v).tmps.getD d undef = v := by simp [Act.put, hlt]
                rw [this]
                exact hv
              · have hne2 : d ≠ e := fun hh => hne i (by omega) (by rw [he, hh])
                have : (a.put (some d) v).tmps.getD e undef = a.tmps.getD e undef := by
                  simp only [Act.put, Array.getD_eq_getD_getElem?, slot_set]
                  rw [if_neg (fun h => hne2 h.1)]
                rw [this]
                exact (knOf V i).st _ _ _ (inv.vals i e (by omega) he) hk'
          · intro t v ht hv
            have ht' : ∀ i, i < k → dstOf l.toArray i ≠ some t := fun i hi => by simpa using List.all_eq_true.1 ht i (by simpa using (by omega : i < n))
            have h1 := inv.env t ht'
            rw [← hv]
            simp only [Act.eval, Array.getD_eq_getD_getElem?, h1]
          · intro j e hje
            simp only [Bool.and_eq_true, beq_iff_eq, ho, Option.map_some, Option.some.injEq, Array.any_eq_true'] at hje
            obtain ⟨⟨x, hx, hxb, hxj⟩, hdj⟩ := hje
            subst hxj
            exact inv.vals x.on e (haft x hx hxb) hdj
        rw [hdrop]
        unfold wpOp at key
        simp only [ho] at key
        exact key

theorem wp_text {id : Nat} {a : Act} {w : World} {l : List Oper} (n : Nat) (V : List Kn) (hV : V.length = n) (hB : textB l.toArray n a.tmps.size = true)
    (hs : FSteps P l.toArray Q V n a w 0 V)
    (hf : ∀ (g : Nat → Value) w', FVals l.toArray V g w' → Kept w w' → wpList P l.toArray Q (l.drop n) ⟨(dstsOf l.toArray n).foldl (fun t d => t.setIfInBounds d (g d)) a.tmps, a.defers⟩ w') : (Code.region id l.toArray false).wp P Q a w := by
  refine wp_region_lit ?_
  have := text_go (P := P) (Q := Q) (w0 := w) hV hB (fun i K hK => by have := fsteps_at V 0 hs i K hK; rwa [Nat.zero_add] at this) (fun b u inv => ?_) n 0 a w (by omega) ⟨rfl, rfl, fun _ _ => rfl, fun i d hi => (by omega), Kept.refl w⟩
  · simpa using this
  · have h2 := hf (fun d => b.tmps.getD d undef) u (fun i d hid => by
      simp only [Bool.and_eq_true, decide_eq_true_eq, beq_iff_eq] at hid
      exact inv.vals i d (by omega) hid.2) inv.kept
    rw [← sact_filled inv] at h2
    exact h2

/-! one operation -/
variable {a : Act} {w : World} {i : Nat} {o : Oper} {K : Kn}
theorem wanted_none (hg : o.guard = none) (y : Nat → Option Bool) : Region.wanted o y = true := by simp [Region.wanted, hg]
theorem wanted_at {g d : Nat} {b : Bool} (x : Bool) (hg : o.guard = some (g, b)) (hd : dstOf ops g = some d) (hv : a.eval (.tmp d) = .bool x) : Region.wanted o (yielded ops a.tmps) = (x == b) := by
  have h1 : a.tmps[d]? = some (.bool x) := by
    simp only [Act.eval, Array.getD_eq_getD_getElem?] at hv
    cases hq : a.tmps[d]? with
    | none => rw [hq] at hv; simp [undef] at hv
    | some u => rw [hq] at hv; simp at hv; rw [hv]
  have h2 : yielded ops a.tmps g = some x := by
    unfold yielded
    unfold dstOf at hd
    rw [hd]
    simp [h1]
  cases x <;> cases b <;> simp [Region.wanted, hg, h2]
theorem f_new (v : Value) (w' : World) (ho : ops[i]? = some o) (hw : Region.wanted o (yielded ops a.tmps) = true) (h : (execOp a.eval o).run P w = .ok (.value v) w') (hK : K.p v w') (hk : Kept w w') : wpOp P ops Q i (FPost ops i K a w) a w := by
  unfold wpOp
  simp only [ho, hw, if_true]
  refine .inl ?_
  unfold Oper.wp
  rw [h]
  exact ⟨v, by simp [dstOf, ho], hK, hk⟩
theorem f_val (v : Value) (ho : ops[i]? = some o) (hw : Region.wanted o (yielded ops a.tmps) = true) (h : (execOp a.eval o).run P w = .ok (.value v) w) (hK : K.p v w) : wpOp P ops Q i (FPost ops i K a w) a w :=
  f_new v w ho hw h hK (Kept.refl w)
theorem f_call (f : Nat) (args : Array Value) (ho : ops[i]? = some o) (hw : Region.wanted o (yielded ops a.tmps) = true) (h : (execOp a.eval o).run P w = .ok (.enter f args) w)
    (hc : Calls P f args w fun e w' => ∃ v, e = .returned v ∧ K.p v w' ∧ Kept w w') : wpOp P ops Q i (FPost ops i K a w) a w := by
  unfold wpOp
  simp only [ho, hw, if_true]
  refine .inl ?_
  unfold Oper.wp
  rw [h, Oper.upon_enter]
  refine hc.mono ?_
  rintro e w' ⟨v, rfl, hv, hk⟩
  exact ⟨v, by simp [dstOf, ho], hv, hk⟩
theorem f_skip (ho : ops[i]? = some o) (hw : Region.wanted o (yielded ops a.tmps) = false) (hK : K.p undef w) : wpOp P ops Q i (FPost ops i K a w) a w := by
  unfold wpOp
  simp only [ho, hw]
  exact ⟨undef, by simp [dstOf, ho], hK, Kept.refl w⟩
/-- one value, no guard: a step in few words -/
theorem sv {v : Value} {Ks : List Kn} (j : Nat) (hj : j = i + 1) (ho : ops[i]? = some o) (hg : o.guard = none) (h : ∀ a u, FEnv ops n a0 a → FDep ops V i a u → Kept w0 u → (execOp a.eval o).run P u = .ok (.value v) u) (hr : FSteps P ops Q V n a0 w0 j Ks) : FSteps P ops Q V n a0 w0 i (Kn.eq v :: Ks) :=
  fsteps_cons j hj (fun a u hE hD hk => f_val v ho (wanted_none hg _) (h a u hE hD hk) rfl) hr
/-! guards that are not decided -/
theorem f_if {g d : Nat} (b : Bool) (hg : o.guard = some (g, true)) (ho : ops[i]? = some o) (hd : dstOf ops g = some d) (hv : a.eval (.tmp d) = .bool b) (h : b = true → wpOp P ops Q i (FPost ops i K a w) a w) : wpOp P ops Q i (FPost ops i (Kn.cond b K) a w) a w := by
  cases b with
  | true => exact wpOp_mono (fun a' w' ⟨v, h1, h2, h3⟩ => ⟨v, h1, ⟨fun _ => h2, fun h => (by cases h)⟩, h3⟩) (h rfl)
  | false => exact f_skip ho (wanted_at false hg hd hv) ⟨fun h => (by cases h), fun _ => rfl⟩
theorem f_unless {g d : Nat} (b : Bool) (hg : o.guard = some (g, false)) (ho : ops[i]? = some o) (hd : dstOf ops g = some d) (hv : a.eval (.tmp d) = .bool b) (h : (!b) = true → wpOp P ops Q i (FPost ops i K a w) a w) : wpOp P ops Q i (FPost ops i (Kn.cond (!b) K) a w) a w := by
  cases b with
  | false => exact wpOp_mono (fun a' w' ⟨v, h1, h2, h3⟩ => ⟨v, h1, ⟨fun _ => h2, fun h => (by cases h)⟩, h3⟩) (h rfl)
  | true => exact f_skip ho (wanted_at true hg hd hv) ⟨fun h => (by cases h), fun _ => rfl⟩
theorem wanted_b {g d : Nat} {b c : Bool} (hg : o.guard = some (g, c)) (hd : dstOf ops g = some d) (hv : a.eval (.tmp d) = .bool b) (hb : (b == c) = true) : Region.wanted o (yielded ops a.tmps) = true := (wanted_at b hg hd hv).trans hb
/-! guards within guards -/
theorem and_l {b c : Bool} (h : (b && c) = true) : b = true := by cases b <;> simp_all
theorem and_r {b c : Bool} (h : (b && c) = true) : c = true := by cases b <;> simp_all
theorem and_mk {b c : Bool} (h : b = true) (k : c = true) : (b && c) = true := by rw [h, k]; rfl
theorem wanted_undef {g d : Nat} {b : Bool} (hg : o.guard = some (g, b)) (hd : dstOf ops g = some d) (hv : a.eval (.tmp d) = undef) : Region.wanted o (yielded ops a.tmps) = false := by
  have h2 : yielded ops a.tmps g = none := by
    unfold yielded
    unfold dstOf at hd
    rw [hd]
    simp only [Act.eval, Array.getD_eq_getD_getElem?] at hv
    cases hq : a.tmps[d]? with
    | none => simp [hq]
    | some u => rw [hq] at hv; simp at hv; rw [hv] at hq; simp [hq, undef]
  simp [Region.wanted, hg, h2]
theorem f_if2 {g d : Nat} (c b : Bool) (hg : o.guard = some (g, true)) (ho : ops[i]? = some o) (hd : dstOf ops g = some d) (hv : (c = true → a.eval (.tmp d) = .bool b) ∧ (c = false → a.eval (.tmp d) = undef)) (h : (c && b) = true → wpOp P ops Q i (FPost ops i K a w) a w) : wpOp P ops Q i (FPost ops i (Kn.cond (c && b) K) a w) a w := by
  cases c with
  | false => exact f_skip ho (wanted_undef hg hd (hv.2 rfl)) ⟨fun h => (by cases h), fun _ => rfl⟩
  | true =>
    rw [Bool.true_and] at h ⊢
    exact f_if b hg ho hd (hv.1 rfl) h
theorem f_unless2 {g d : Nat} (c b : Bool) (hg : o.guard = some (g, false)) (ho : ops[i]? = some o) (hd : dstOf ops g = some d) (hv : (c = true → a.eval (.tmp d) = .bool b) ∧ (c = false → a.eval (.tmp d) = undef)) (h : (c && (!b)) = true → wpOp P ops Q i (FPost ops i K a w) a w) : wpOp P ops Q i (FPost ops i (Kn.cond (c && (!b)) K) a w) a w := by
  cases c with
  | false => exact f_skip ho (wanted_undef hg hd (hv.2 rfl)) ⟨fun h => (by cases h), fun _ => rfl⟩
  | true =>
    rw [Bool.true_and] at h ⊢
    exact f_unless b hg ho hd (hv.1 rfl) h
theorem f_as {e b : Bool} (h : e = b) (hp : wpOp P ops Q i (FPost ops i (Kn.eq (.bool e)) a w) a w) : wpOp P ops Q i (FPost ops i (Kn.eq (.bool b)) a w) a w := by
  subst h
  exact hp
theorem eq_true_of {b : Bool} (h : b = true) : (b == true) = true := by rw [h]; rfl
theorem eq_false_of {b : Bool} (h : (!b) = true) : (b == false) = true := by cases b <;> simp_all
theorem exec_pickand (c x y : Operand) (b p : Bool) (hop : o.op = .pick c x y) (hc : a.eval c = .bool b) (hx : b = true → a.eval x = .bool p) (hy : a.eval y = .bool false) : (execOp a.eval o).run P w = .ok (.value (.bool (b && p))) w := by
  unfold execOp
  cases b with
  | true => simp only [hop, hc, hx rfl]; simp [go_sem]
  | false => simp only [hop, hc, hy]; simp [go_sem]
theorem exec_pickor (c x y : Operand) (b p : Bool) (hop : o.op = .pick c x y) (hc : a.eval c = .bool b) (hx : a.eval x = .bool true) (hy : (!b) = true → a.eval y = .bool p) : (execOp a.eval o).run P w = .ok (.value (.bool (b || p))) w := by
  unfold execOp
  cases b with
  | true => simp only [hop, hc, hx]; simp [go_sem]
  | false => simp only [hop, hc, hy rfl]; simp [go_sem]
end
end Go.Proofs.Ytliepgmnlhfaiaa
