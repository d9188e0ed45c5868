/-
 Laws and contracts that the walks rest on, part 5. No condition.
-/
import Derived.Test.YtfpfpmhkkgfdbaaQF04
set_option linter.unusedVariables false
namespace Go.Proofs.Ytfpfpmhkkgfdbaa
open Go.RowKit
set_option maxRecDepth 100000
section
variable {P : Program} {ops : Array Oper} {Q : Exit → Act → World → Prop} {V : (Nat → Prop) → List Kn} {n m m2 x y : Nat} {a0 : Act} {w0 : World} {S S2 : Nat → Prop}
def avd (ops : Array Oper) (x y : Nat) (ls : Array Bool) (a : Act) : Nat → Prop := fun b => (ls.getD x false = true ∧ ∃ d, dstOf ops x = some d ∧ a.tmps.getD d undef = .pointer (some ⟨b, 0, none⟩)) ∨ (ls.getD y false = true ∧ ∃ d, dstOf ops y = some d ∧ a.tmps.getD d undef = .pointer (some ⟨b, 0, none⟩))
structure NInv (ops : Array Oper) (V : (Nat → Prop) → List Kn) (n m m2 x y : Nat) (a0 : Act) (w0 : World) (S S2 : Nat → Prop) (ls : Array Bool) (a : Act) (w : World) : Prop where
 head : HeadInv .any ops n ls
 defers : a.defers = a0.defers
 size : a.tmps.size = a0.tmps.size
 env : ∀ t, (∀ i, i < n → ls.getD i false = true → dstOf ops i ≠ some t) → a.tmps[t]? = a0.tmps[t]?
 vals : ∀ i d, i < n → ls.getD i false = true → dstOf ops i = some d → (knOf (V (avd ops x y ls a)) i).p (a.tmps.getD d undef) w
 keep : Keep (Both S S2) w0 w
 kept : ls.getD m false = false → Kept w0 w
 kept2 : ls.getD m2 false = false → Keep S w0 w
 unl : ls.getD x false = true → ls.getD y false = true → ∀ d e, dstOf ops x = some d → dstOf ops y = some e → a.tmps.getD d undef ≠ a.tmps.getD e undef
def NStep (P : Program) (ops : Array Oper) (Q : Exit → Act → World → Prop) (V : (Nat → Prop) → List Kn) (n : Nat) (a0 : Act) (w0 : World) (S : Nat → Prop) (i : Nat) (K : Kn) : Prop :=
 ∀ Av a w, FEnv ops n a0 a → FDep ops (V Av) i a w → Keep S w0 w → wpOp P ops Q i (fun a' w' => ∃ v, a' = a.put (dstOf ops i) v ∧ K.p v w' ∧ Kept w w' ∧ v = .pointer (some ⟨w.heap.size, 0, none⟩)) a w
def Kn.old (base : Nat) (K : Kn) : Prop := ∀ v w, K.p v w → ∃ g, v = .pointer (some ⟨g, 0, none⟩) ∧ base ≤ g ∧ g < w.heap.size
theorem Kn.old_fresh {base : Nat} {T : TypeId} {z : List Value} : (Kn.fresh base T z).old base := fun v w ⟨g, h1, h2, h3⟩ => ⟨g, h1, h2, h3.lt⟩
theorem n_new {i : Nat} {K : Kn} {a : Act} {w : World} {o : Oper} (v : Value) (w' : World) (ho : ops[i]? = some o) (hw : Region.wanted o (yielded ops a.tmps) = true) (h : (execOp a.eval o).run P w = .ok (.value v) w') (hK : K.p v w') (hk : Kept w w') (he : v = .pointer (some ⟨w.heap.size, 0, none⟩)) : wpOp P ops Q i (fun a' w' => ∃ v, a' = a.put (dstOf ops i) v ∧ K.p v w' ∧ Kept w w' ∧ v = .pointer (some ⟨w.heap.size, 0, none⟩)) a w := by
 unfold wpOp
 simp only [ho, hw, if_true]
 refine .inl ?_
 unfold Oper.wp
 rw [h]
 exact ⟨v, by simp [dstOf, ho], hK, hk, he⟩
def NTurn (P : Program) (ops : Array Oper) (Q : Exit → Act → World → Prop) (V : (Nat → Prop) → List Kn) (n : Nat) (a0 : Act) (w0 : World) (S S2 : Nat → Prop) (m : Nat) : Prop :=
 ∀ Av a w, FEnv ops n a0 a → FDep ops (V Av) m a w → Keep S w0 w → (∀ b, Av b → w0.heap.size ≤ b ∧ b < w.heap.size) → wpOp P ops Q m (fun a' w' => ∃ v, a' = a.put (dstOf ops m) v ∧ (knOf (V Av) m).p v w' ∧ Keep S2 w w') a w
def NSteps (P : Program) (ops : Array Oper) (Q : Exit → Act → World → Prop) (V : List Kn) (n m m2 x y : Nat) (a0 : Act) (w0 : World) (S : Nat → Prop) : Nat → List Kn → Prop
 | _, [] => True
 | i, K :: Ks => (i ≠ m → i ≠ m2 → i ≠ x → i ≠ y → VStep P ops Q V n a0 w0 S i K) ∧ NSteps P ops Q V n m m2 x y a0 w0 S (i + 1) Ks
theorem nsteps_nil {VV : List Kn} {i : Nat} : NSteps P ops Q VV n m m2 x y a0 w0 S i [] := trivial
theorem nsteps_cons {VV : List Kn} {i : Nat} (j : Nat) {K : Kn} {Ks : List Kn} (hj : j = i + 1) (h : VStep P ops Q VV n a0 w0 S i K) (hr : NSteps P ops Q VV n m m2 x y a0 w0 S j Ks) : NSteps P ops Q VV n m m2 x y a0 w0 S i (K :: Ks) := ⟨fun _ _ _ _ => h, by subst hj; exact hr⟩
theorem nsteps_turn {VV : List Kn} {i : Nat} (j : Nat) {K : Kn} {Ks : List Kn} (hj : j = i + 1) (hm : i = m ∨ i = m2 ∨ i = x ∨ i = y) (hr : NSteps P ops Q VV n m m2 x y a0 w0 S j Ks) : NSteps P ops Q VV n m m2 x y a0 w0 S i (K :: Ks) := ⟨fun h h2 h3 h4 => (by rcases hm with h' | h' | h' | h' <;> contradiction), by subst hj; exact hr⟩
theorem nsteps_at {VV : List Kn} : ∀ (Ks : List Kn) (i : Nat), NSteps P ops Q VV n m m2 x y a0 w0 S i Ks → ∀ k K, Ks[k]? = some K → i + k ≠ m → i + k ≠ m2 → i + k ≠ x → i + k ≠ y → VStep P ops Q VV n a0 w0 S (i + k) K
 | [], _, _, k, K, h, _, _, _, _ => by simp at h
 | K0 :: Ks, i, h, 0, K, hk, hm, hm2, hx, hy => by simp at hk; subst hk; exact h.1 hm hm2 hx hy
 | K0 :: Ks, i, h, k + 1, K, hk, hm, hm2, hx, hy => by
  have := nsteps_at Ks (i + 1) h.2 k K (by simpa using hk) (by omega) (by omega) (by omega) (by omega)
  rw [show i + (k + 1) = i + 1 + k by omega]
  exact this
theorem freeN_go (early early2 : List Nat) (hxn : x < n) (hyn : y < n) (hxy : x ≠ y) (hxm : x ≠ m ∧ x ≠ m2) (hym : y ≠ m ∧ y ≠ m2) (hxo : ∀ Av, (knOf (V Av) x).old w0.heap.size) (hyo : ∀ Av, (knOf (V Av) y).old w0.heap.size) (hgr : ∀ Av g j v w, j < n → (knOf (V Av) j).p v w → g = w.heap.size → (knOf (V fun b => Av b ∨ b = g) j).p v w) (Kx Ky : Kn) (hKx : ∀ Av, knOf (V Av) x = Kx) (hKy : ∀ Av, knOf (V Av) y = Ky) (hxs : NStep P ops Q V n a0 w0 (Both S S2) x Kx) (hys : NStep P ops Q V n a0 w0 (Both S S2) y Ky) (hnV : ∀ Av, (V Av).length = n) (hmn : m < n) (hmn2 : m2 < n) (hmm : m ≠ m2) (hwt : Region.waitsFor .any ops m2 m = true) (hB : freeB ops n a0.tmps.size = true) (hL : lateB ops n m early = true) (hL2 : lateB ops n m2 early2 = true) (hsafe : ∀ Av i, i ∈ early → (knOf (V Av) i).safe S) (hsafe2 : ∀ Av i, i ∈ early2 → (∀ b, Av b → w0.heap.size ≤ b) → (knOf (V Av) i).safe S2) (hst : ∀ Av i K, (V Av)[i]? = some K → i ≠ m → i ≠ m2 → i ≠ x → i ≠ y → VStep P ops Q (V Av) n a0 w0 (Both S S2) i K) (htn : NTurn P ops Q V n a0 w0 (fun _ => False) S m) (htn2 : NTurn P ops Q V n a0 w0 S S2 m2)
  (hfin : ∀ a w, NInv ops V n m m2 x y a0 w0 S S2 (Array.replicate n true ++ Array.replicate (ops.size - n) false) a w → wpAny P .any ops Q (ops.size - n) (Array.replicate n true ++ Array.replicate (ops.size - n) false) a w) :
  ∀ (f : Nat) (U : List Nat) (ls : Array Bool) (a : Act) (w : World), U.length = f → U.Nodup → (∀ i, i ∈ U ↔ i < n ∧ ls.getD i true = false) → NInv ops V n m m2 x y a0 w0 S S2 ls a w → wpAny P .any ops Q (f + (ops.size - n)) ls a w := by
 obtain ⟨hn, hsc, hseq, hall⟩ := freeB_facts hB
 have hop : ∀ i, i < n → ∃ o d, ops[i]? = some o ∧ o.dst = some d ∧ d < a0.tmps.size ∧ (∀ j, j < i → dstOf ops j ≠ some d) ∧ ∀ e ∈ o.after, Region.binds .any e = true → e.on < i := by
  intro i hi
  have h := List.all_eq_true.1 hall i (by simpa using hi)
  cases ho : ops[i]? with
  | none => rw [ho] at h; cases h
  | some o =>
   rw [ho] at h
   simp only [Bool.and_eq_true] at h
   cases hd : o.dst with
   | none => rw [hd] at h; cases h.1
   | some d =>
    rw [hd] at h
    simp only [Bool.and_eq_true, decide_eq_true_eq, List.all_eq_true, List.mem_range, bne_iff_ne] at h
    refine ⟨o, d, rfl, hd, h.1.1, h.1.2, fun e he hb => ?_⟩
    have h2 := (Array.all_eq_true_iff_forall_mem.1 h.2) e he
    simpa [hb] using h2
 intro f
 induction f with
 | zero =>
  intro U ls a w hU _ hmem inv
  have hnil : U = [] := List.eq_nil_of_length_eq_zero hU
  have hls : ls = Array.replicate n true ++ Array.replicate (ops.size - n) false := by
   apply Array.ext
   ·simp [inv.head.size]; omega
   ·intro i h1 h2
    have hsz := inv.head.size
    by_cases hi : i < n
    ·have h3 : ¬ (i < n ∧ ls.getD i true = false) := by
      intro h
      have := (hmem i).2 h
      rw [hnil] at this
      cases this
     have h4 : ls.getD i true = true := by
      cases hq : ls.getD i true with
      | true => rfl
      | false => exact (h3 ⟨hi, hq⟩).elim
     rw [Array.getElem_append_left (by simpa using hi)]
     simp [h1] at h4
     simp [h4]
    ·have h4 := inv.head.tail i (by omega) (by omega)
     rw [Array.getElem_append_right (by simpa using hi)]
     simp [h1] at h4
     simp [h4]
  rw [Nat.zero_add]
  subst hls
  exact hfin a w inv
 | succ f ih =>
  intro U ls a w hU hnd hmem inv
  have hsz := inv.head.size
  rw [show f + 1 + (ops.size - n) = (f + (ops.size - n)) + 1 by omega]
  obtain ⟨u, hu⟩ : ∃ u, u ∈ U := by
   cases U with
   | nil => simp at hU
   | cons u U => exact ⟨u, by simp⟩
  obtain ⟨hun, huf⟩ := (hmem u).1 hu
  refine ⟨fun h0 => ?_, fun i hi => ?_⟩
  ·exfalso
   have key : ∀ k i, i ≤ k → i < n → ls.getD i true = true := by
    intro k
    induction k using Nat.strongRecOn with
    | _ k ihk =>
     intro i hik hin
     cases hq : ls.getD i true with
     | true => rfl
     | false =>
      obtain ⟨o, d, ho, _, _, _, haft⟩ := hop i hin
      have : i ∈ Region.ready .any ops ls := mem_ready.2 ⟨hq, o, ho, fun e he hb => by
       have hlt := haft e he hb
       have := ihk (k - 1) (by omega) e.on (by omega) (by omega)
       exact getD_tf this (by omega)⟩
      rw [h0] at this
      cases this
   rw [key u u (Nat.le_refl _) hun] at huf
   cases huf
  ·have hin : i < n := Nat.lt_of_not_le fun h => tail_waits (hsc (Nat.lt_of_le_of_lt h (by obtain ⟨_, o1, ho1, _⟩ := mem_ready.1 hi; exact (Array.getElem?_eq_some_iff.1 ho1).1))).1 (hsc (Nat.lt_of_le_of_lt h (by obtain ⟨_, o1, ho1, _⟩ := mem_ready.1 hi; exact (Array.getElem?_eq_some_iff.1 ho1).1))).2 (Nat.lt_of_le_of_lt h (by obtain ⟨_, o1, ho1, _⟩ := mem_ready.1 hi; exact (Array.getElem?_eq_some_iff.1 ho1).1)) inv.head _ u rfl hun huf i h hi
   obtain ⟨hiun, oi, hoi, hdeps⟩ := mem_ready.1 hi
   obtain ⟨o, d, ho, hd, hdlt, hne, haft⟩ := hop i hin
   obtain rfl : oi = o := Option.some.inj (hoi.symm.trans ho)
   have hdi : dstOf ops i = some d := by simp [dstOf, ho, hd]
   have hiff : ls.getD i false = false := getD_both hiun
   have hne' : ∀ j, j < n → j ≠ i → dstOf ops j ≠ some d := by
    intro j hj hij hjd
    by_cases hji : j < i
    ·exact hne j hji hjd
    ·obtain ⟨oj, dj, hoj, hdj, _, hnej, _⟩ := hop j hj
     have : dj = d := by
      have h1 : dstOf ops j = some dj := by simp [dstOf, hoj, hdj]
      rw [h1] at hjd
      injection hjd
     subst this
     exact hnej i (by omega) hdi
   have hdlt' : d < a.tmps.size := by rw [inv.size]; exact hdlt
   have hself : ∀ v, (a.put (some d) v).tmps.getD d undef = v := fun v => by simp [Act.put, hdlt']
   have hoth : ∀ v j e, j < n → j ≠ i → dstOf ops j = some e → (a.put (some d) v).tmps.getD e undef = a.tmps.getD e undef := by
    intro v j e hj hji he
    have : d ≠ e := fun h => hne' j hj hji (by rw [he, h])
    simp only [Act.put, Array.getD_eq_getD_getElem?, slot_set]
    rw [if_neg (fun h => this h.1)]
   have hfe : FEnv ops n a0 a := by
    intro t v ht hv
    have ht' : ∀ k, k < n → ls.getD k false = true → dstOf ops k ≠ some t := fun k hkn _ => by simpa using List.all_eq_true.1 ht k (by simpa using hkn)
    have h1 := inv.env t ht'
    rw [← hv]
    simp only [Act.eval, Array.getD_eq_getD_getElem?, h1]
   have hU' : ∀ k, k ∈ U.erase i ↔ k < n ∧ (ls.setIfInBounds i true).getD k true = false := by
    intro k
    rw [hnd.mem_erase_iff, hmem k]
    by_cases hki : k = i
    ·subst hki
     simp
    ·rw [getD_set_ne true (fun h => hki h.symm)]
     simp [hki]
   have henv : ∀ v t, (∀ k, k < n → (ls.setIfInBounds i true).getD k false = true → dstOf ops k ≠ some t) → (a.put (some d) v).tmps[t]? = a0.tmps[t]? := by
    intro v t ht
    have h1 := inv.env t (fun k hkn hl => ht k hkn (getD_set_true hl))
    have h2 : d ≠ t := fun h => ht i hin (by simp [show i < ls.size by omega]) (by rw [hdi, h])
    simp only [Act.put, slot_set]
    rw [if_neg (fun h => h2 h.1), h1]
   have hlen : (U.erase i).length = f := by rw [List.length_erase_of_mem ((hmem i).2 ⟨hin, hiun⟩)]; omega
   have hsetk : ∀ k, k ≠ i → (ls.setIfInBounds i true).getD k false = ls.getD k false := fun k hk => getD_set_ne false (fun h => hk h.symm)
   have hseti : (ls.setIfInBounds i true).getD i false = true := by simp [show i < ls.size by omega]
   obtain ⟨Av, hAv⟩ : ∃ A, avd ops x y ls a = A := ⟨_, rfl⟩
   have hvals := inv.vals
   rw [hAv] at hvals
   have hAvb : ∀ b, Av b → w0.heap.size ≤ b ∧ b < w.heap.size := by
    intro b hb
    rw [← hAv] at hb
    rcases hb with ⟨h1, d', h2, h3⟩ | ⟨h1, d', h2, h3⟩
    ·obtain ⟨g, h4, h5, h6⟩ := hxo _ _ _ (hvals x d' hxn h1 h2)
     rw [h3] at h4
     injection h4 with h4
     injection h4 with h4
     injection h4 with h4
     omega
    ·obtain ⟨g, h4, h5, h6⟩ := hyo _ _ _ (hvals y d' hyn h1 h2)
     rw [h3] at h4
     injection h4 with h4
     injection h4 with h4
     injection h4 with h4
     omega
   have hsame : ∀ v, i ≠ x → i ≠ y → avd ops x y (ls.setIfInBounds i true) (a.put (some d) v) = Av := by
    intro v hix hiy
    rw [← hAv]
    funext b
    apply propext
    unfold avd
    rw [hsetk x (fun h => hix h.symm), hsetk y (fun h => hiy h.symm)]
    constructor
    ·rintro (⟨h1, d', h2, h3⟩ | ⟨h1, d', h2, h3⟩)
     ·exact .inl ⟨h1, d', h2, by rw [hoth v x d' hxn (fun h => hix h.symm) h2] at h3; exact h3⟩
     ·exact .inr ⟨h1, d', h2, by rw [hoth v y d' hyn (fun h => hiy h.symm) h2] at h3; exact h3⟩
    ·rintro (⟨h1, d', h2, h3⟩ | ⟨h1, d', h2, h3⟩)
     ·exact .inl ⟨h1, d', h2, by rw [hoth v x d' hxn (fun h => hix h.symm) h2]; exact h3⟩
     ·exact .inr ⟨h1, d', h2, by rw [hoth v y d' hyn (fun h => hiy h.symm) h2]; exact h3⟩
   have hdep : FDep ops (V Av) i a w := by
    intro j e hje
    simp only [Bool.and_eq_true, beq_iff_eq, ho, Option.map_some, Option.some.injEq, Array.any_eq_true'] at hje
    obtain ⟨⟨e0, hx, hxb, hxj⟩, hdj⟩ := hje
    subst hxj
    exact hvals e0.on e (by have := haft e0 hx hxb; omega) (hdeps e0 hx hxb) hdj
   have hK : (V Av)[i]? = some (knOf (V Av) i) := by
    unfold knOf
    rw [List.getD_eq_getElem?_getD, List.getElem?_eq_getElem (by rw [hnV]; exact hin)]
    rfl
   have hunl : ∀ v, i ≠ x → i ≠ y → (ls.setIfInBounds i true).getD x false = true → (ls.setIfInBounds i true).getD y false = true → ∀ d' e, dstOf ops x = some d' → dstOf ops y = some e → (a.put (some d) v).tmps.getD d' undef ≠ (a.put (some d) v).tmps.getD e undef := by
    intro v hix hiy h1 h2 d' e h3 h4
    rw [hsetk x (fun h => hix h.symm)] at h1
    rw [hsetk y (fun h => hiy h.symm)] at h2
    rw [hoth v x d' hxn (fun h => hix h.symm) h3, hoth v y e hyn (fun h => hiy h.symm) h4]
    exact inv.unl h1 h2 d' e h3 h4
   by_cases him : i = m
   ·subst him
    have hk := inv.kept hiff
    have hlate : ∀ j, j < n → ls.getD j false = true → j ∈ early := by
     intro j
     induction j using Nat.strongRecOn with
     | _ j ihj =>
      intro hj hlj
      have h := List.all_eq_true.1 hL j (by simpa using hj)
      simp only [Bool.or_eq_true, beq_iff_eq, List.any_eq_true, List.mem_range, Bool.and_eq_true, Bool.not_eq_true', List.contains_iff_mem] at h
      rcases h with (h | h) | ⟨q, hq1, hq2, hq3⟩
      ·subst h
       rw [hiff] at hlj
       cases hlj
      ·exact h
      ·exfalso
       obtain ⟨oj, dj, hoj, _, _, _, _⟩ := hop j hj
       obtain ⟨e, he, hb, heq⟩ := waits_on hq3 hoj
       have hlq := inv.head.closed j oj hoj hlj e he hb
       rw [heq] at hlq
       rcases hq2 with h | h
       ·subst h
        rw [hiff] at hlq
        cases hlq
       ·have := ihj q hq1 (by omega) hlq
        have h' : early.contains q = true := by simpa using this
        rw [h'] at h
        cases h
    refine wpOp_mono ?_ (htn Av a w hfe hdep hk hAvb)
    rintro a' w' ⟨v, rfl, hKp, hkS⟩
    rw [hdi]
    refine ih (U.erase i) _ _ w' hlen (hnd.erase _) hU' ⟨inv.head.set hi hin, inv.defers, by simp [Act.put, inv.size], henv v, fun k e hkn hlk he => ?_, inv.keep.trans hkS.both1 (fun _ _ h => h), fun hl => ?_, fun hl => ?_, hunl v (fun h => hxm.1 h.symm) (fun h => hym.1 h.symm)⟩
    ·rw [hsame v (fun h => hxm.1 h.symm) (fun h => hym.1 h.symm)]
     by_cases hki : k = i
     ·subst hki
      rw [hdi] at he
      injection he with he
      subst he
      rw [hself]
      exact hKp
     ·rw [hsetk k hki] at hlk
      rw [hoth v k e hkn hki he]
      exact hsafe _ k (hlate k hkn hlk) _ _ _ (hvals k e hkn hlk he) hkS
    ·rw [hseti] at hl
     cases hl
    ·exact (inv.kept2 (by rwa [hsetk m2 (fun h => hmm h.symm)] at hl)).trans hkS (fun _ _ h => h)
   ·by_cases him2 : i = m2
    ·subst him2
     have hk := inv.kept2 hiff
     have hlate : ∀ j, j < n → ls.getD j false = true → j ∈ early2 := by
      intro j
      induction j using Nat.strongRecOn with
      | _ j ihj =>
       intro hj hlj
       have h := List.all_eq_true.1 hL2 j (by simpa using hj)
       simp only [Bool.or_eq_true, beq_iff_eq, List.any_eq_true, List.mem_range, Bool.and_eq_true, Bool.not_eq_true', List.contains_iff_mem] at h
       rcases h with (h | h) | ⟨q, hq1, hq2, hq3⟩
       ·subst h
        rw [hiff] at hlj
        cases hlj
       ·exact h
       ·exfalso
        obtain ⟨oj, dj, hoj, _, _, _, _⟩ := hop j hj
        obtain ⟨e, he, hb, heq⟩ := waits_on hq3 hoj
        have hlq := inv.head.closed j oj hoj hlj e he hb
        rw [heq] at hlq
        rcases hq2 with h | h
        ·subst h
         rw [hiff] at hlq
         cases hlq
        ·have := ihj q hq1 (by omega) hlq
         have h' : early2.contains q = true := by simpa using this
         rw [h'] at h
         cases h
     refine wpOp_mono ?_ (htn2 Av a w hfe hdep hk hAvb)
     rintro a' w' ⟨v, rfl, hKp, hkS⟩
     rw [hdi]
     refine ih (U.erase i) _ _ w' hlen (hnd.erase _) hU' ⟨inv.head.set hi hin, inv.defers, by simp [Act.put, inv.size], henv v, fun k e hkn hlk he => ?_, inv.keep.trans hkS.both2 (fun _ _ h => h), fun hl => ?_, fun hl => ?_, hunl v (fun h => hxm.2 h.symm) (fun h => hym.2 h.symm)⟩
     ·rw [hsame v (fun h => hxm.2 h.symm) (fun h => hym.2 h.symm)]
      by_cases hki : k = i
      ·subst hki
       rw [hdi] at he
       injection he with he
       subst he
       rw [hself]
       exact hKp
      ·rw [hsetk k hki] at hlk
       rw [hoth v k e hkn hki he]
       exact hsafe2 _ k (hlate k hkn hlk) (fun b hb => (hAvb b hb).1) _ _ _ (hvals k e hkn hlk he) hkS
     ·rw [hsetk m (fun h => hmm h)] at hl
      exfalso
      obtain ⟨o2, d2, ho2, _, _, _, _⟩ := hop i hin
      obtain ⟨e, he, hb, heq⟩ := waits_on hwt ho2
      have := inv.head.closed
      obtain rfl : oi = o2 := Option.some.inj (ho.symm.trans ho2)
      have hdm := hdeps e he hb
      rw [heq, hl] at hdm
      cases hdm
     ·rw [hseti] at hl
      cases hl
    ·have hall2 : ∀ v w', (knOf (V (avd ops x y (ls.setIfInBounds i true) (a.put (some d) v))) i).p v w' → Kept w w' → (∀ k e, k < n → k ≠ i → ls.getD k false = true → dstOf ops k = some e → (knOf (V (avd ops x y (ls.setIfInBounds i true) (a.put (some d) v))) k).p (a.tmps.getD e undef) w) → ((ls.setIfInBounds i true).getD x false = true → (ls.setIfInBounds i true).getD y false = true → ∀ d' e, dstOf ops x = some d' → dstOf ops y = some e → (a.put (some d) v).tmps.getD d' undef ≠ (a.put (some d) v).tmps.getD e undef) → wpAny P .any ops Q (f + (ops.size - n)) (ls.setIfInBounds i true) (a.put (some d) v) w' := by
      intro v w' hv hk hold hu
      refine ih (U.erase i) _ _ w' hlen (hnd.erase _) hU' ⟨inv.head.set hi hin, inv.defers, by simp [Act.put, inv.size], henv v, fun k e hkn hlk he => ?_, inv.keep.kept hk, fun hl => ?_, fun hl => ?_, hu⟩
      ·by_cases hki : k = i
       ·subst hki
        rw [hdi] at he
        injection he with he
        subst he
        rw [hself]
        exact hv
       ·rw [hsetk k hki] at hlk
        rw [hoth v k e hkn hki he]
        exact (knOf _ k).st _ _ _ (hold k e hkn hki hlk he) hk
      ·rw [hsetk m (fun h => him h.symm)] at hl
       exact (inv.kept hl).trans hk
      ·rw [hsetk m2 (fun h => him2 h.symm)] at hl
       exact (inv.kept2 hl).kept hk
     have ptr_inj : ∀ b c : Nat, (Value.pointer (some ⟨b, 0, none⟩) = Value.pointer (some ⟨c, 0, none⟩)) → b = c := by
      intro b c h
      injection h with h
      injection h with h
      injection h
     by_cases hix : i = x
     ·subst hix
      refine wpOp_mono ?_ (hxs Av a w hfe hdep inv.keep)
      rintro a' w' ⟨v, rfl, hv, hk, hev⟩
      rw [hdi]
      have hnew : avd ops i y (ls.setIfInBounds i true) (a.put (some d) v) = fun b => Av b ∨ b = w.heap.size := by
       rw [← hAv]
       funext b
       apply propext
       unfold avd
       rw [hseti, hsetk y (fun h => hxy h.symm), hiff]
       constructor
       ·rintro (⟨h1, d', h2, h3⟩ | ⟨h1, d', h2, h3⟩)
        ·rw [hdi] at h2
         injection h2 with h2
         subst h2
         rw [hself, hev] at h3
         exact .inr (ptr_inj _ _ h3).symm
        ·exact .inl (.inr ⟨h1, d', h2, by rw [hoth v y d' hyn (fun h => hxy h.symm) h2] at h3; exact h3⟩)
       ·rintro ((⟨h1, _⟩ | ⟨h1, d', h2, h3⟩) | h)
        ·cases h1
        ·exact .inr ⟨h1, d', h2, by rw [hoth v y d' hyn (fun h => hxy h.symm) h2]; exact h3⟩
        ·exact .inl ⟨rfl, d, hdi, by rw [hself, hev, h]⟩
      refine hall2 v w' (by rw [hKx]; exact hv) hk (fun k e hkn _ hlk he => by rw [hnew]; exact hgr Av _ k _ _ hkn (hvals k e hkn hlk he) rfl) fun _ h2 d' e h3 h4 => ?_
      rw [hsetk y (fun h => hxy h.symm)] at h2
      obtain ⟨g, h5, _, h6⟩ := hyo _ _ _ (hvals y e hyn h2 h4)
      rw [hdi] at h3
      injection h3 with h3
      subst h3
      rw [hself, hoth v y e hyn (fun h => hxy h.symm) h4, h5, hev]
      intro h7
      have := ptr_inj _ _ h7
      omega
     ·by_cases hiy : i = y
      ·subst hiy
       refine wpOp_mono ?_ (hys Av a w hfe hdep inv.keep)
       rintro a' w' ⟨v, rfl, hv, hk, hev⟩
       rw [hdi]
       have hnew : avd ops x i (ls.setIfInBounds i true) (a.put (some d) v) = fun b => Av b ∨ b = w.heap.size := by
        rw [← hAv]
        funext b
        apply propext
        unfold avd
        rw [hseti, hsetk x hxy, hiff]
        constructor
        ·rintro (⟨h1, d', h2, h3⟩ | ⟨h1, d', h2, h3⟩)
         ·exact .inl (.inl ⟨h1, d', h2, by rw [hoth v x d' hxn hxy h2] at h3; exact h3⟩)
         ·rw [hdi] at h2
          injection h2 with h2
          subst h2
          rw [hself, hev] at h3
          exact .inr (ptr_inj _ _ h3).symm
        ·rintro ((⟨h1, d', h2, h3⟩ | ⟨h1, _⟩) | h)
         ·exact .inl ⟨h1, d', h2, by rw [hoth v x d' hxn hxy h2]; exact h3⟩
         ·cases h1
         ·exact .inr ⟨rfl, d, hdi, by rw [hself, hev, h]⟩
       refine hall2 v w' (by rw [hKy]; exact hv) hk (fun k e hkn _ hlk he => by rw [hnew]; exact hgr Av _ k _ _ hkn (hvals k e hkn hlk he) rfl) fun h1 _ d' e h3 h4 => ?_
       rw [hsetk x hxy] at h1
       obtain ⟨g, h5, _, h6⟩ := hxo _ _ _ (hvals x d' hxn h1 h3)
       rw [hdi] at h4
       injection h4 with h4
       subst h4
       rw [hself, hoth v x d' hxn hxy h3, h5, hev]
       intro h7
       have := ptr_inj _ _ h7
       omega
      ·refine wpOp_mono ?_ (hst Av i _ hK him him2 hix hiy a w hfe hdep inv.keep)
       rintro a' w' ⟨v, rfl, hv, hk⟩
       rw [hdi]
       exact hall2 v w' (by rw [hsame v hix hiy]; exact hv) hk (fun k e hkn _ hlk he => by rw [hsame v hix hiy]; exact hvals k e hkn hlk he) (hunl v hix hiy)
theorem actN_filled {a : Act} {w : World} {ls : Array Bool} (hl : ∀ i, i < n → ls.getD i false = true) (inv : NInv ops V n m m2 x y a0 w0 S S2 ls a w) : a = ⟨(dstsOf ops n).foldl (fun t d => t.setIfInBounds d (a.tmps.getD d undef)) a0.tmps, a0.defers⟩ := by
 obtain ⟨t, df⟩ := a
 have h1 := inv.defers
 simp only at h1
 subst h1
 congr 1
 apply Array.ext_getElem?
 intro e
 rw [fold_slots]
 have hsz := inv.size
 simp only at hsz
 by_cases hm : e ∈ dstsOf ops n
 ·by_cases hlt : e < a0.tmps.size
  ·rw [if_pos ⟨hm, hlt⟩]
   have : e < t.size := by omega
   simp [this]
  ·rw [if_neg (fun h => hlt h.2), Array.getElem?_eq_none (by omega), Array.getElem?_eq_none (by omega)]
 ·rw [if_neg (fun h => hm h.1)]
  exact inv.env e (fun i hi _ h => hm (List.mem_filterMap.2 ⟨i, by simpa using hi, h⟩))
theorem wp_freeN {id : Nat} {a : Act} {w : World} {l : List Oper} (n m m2 x y : Nat) (early early2 : List Nat) (V : (Nat → Prop) → List Kn) (S S2 : Nat → Prop) (hmo : P.follows Departure.mixedOrders = true) (hV : ∀ Av, (V Av).length = n) (hmn : m < n) (hmn2 : m2 < n) (hmm : m ≠ m2) (hwt : Region.waitsFor .any l.toArray m2 m = true) (hB : freeB l.toArray n a.tmps.size = true) (hL : lateB l.toArray n m early = true) (hL2 : lateB l.toArray n m2 early2 = true)
  (hsafe : ∀ Av i, i ∈ early → (knOf (V Av) i).safe S) (hsafe2 : ∀ Av i, i ∈ early2 → (∀ b, Av b → w.heap.size ≤ b) → (knOf (V Av) i).safe S2) (hxn : x < n) (hyn : y < n) (hxy : x ≠ y) (hxm : x ≠ m ∧ x ≠ m2) (hym : y ≠ m ∧ y ≠ m2) (hxo : ∀ Av, (knOf (V Av) x).old w.heap.size) (hyo : ∀ Av, (knOf (V Av) y).old w.heap.size) (hgr : ∀ Av g j v w, j < n → (knOf (V Av) j).p v w → g = w.heap.size → (knOf (V fun b => Av b ∨ b = g) j).p v w) (Kx Ky : Kn) (hKx : ∀ Av, knOf (V Av) x = Kx) (hKy : ∀ Av, knOf (V Av) y = Ky) (hxs : NStep P l.toArray Q V n a w (Both S S2) x Kx) (hys : NStep P l.toArray Q V n a w (Both S S2) y Ky) (hs : ∀ Av, NSteps P l.toArray Q (V Av) n m m2 x y a w (Both S S2) 0 (V Av)) (hm : NTurn P l.toArray Q V n a w (fun _ => False) S m) (hm2 : NTurn P l.toArray Q V n a w S S2 m2)
  (hf : ∀ (Av : Nat → Prop) (g : Nat → Value) w', FVals l.toArray (V Av) g w' → Keep (Both S S2) w w' → (∀ d b, dstOf l.toArray x = some d → g d = .pointer (some ⟨b, 0, none⟩) → Av b) → (∀ d b, dstOf l.toArray y = some d → g d = .pointer (some ⟨b, 0, none⟩) → Av b) → (∀ d e, dstOf l.toArray x = some d → dstOf l.toArray y = some e → g d ≠ g e) → wpList P l.toArray Q (l.drop n) ⟨(dstsOf l.toArray n).foldl (fun t d => t.setIfInBounds d (g d)) a.tmps, a.defers⟩ w') : (Code.region id l.toArray true).wp P Q a w := by
 have hB' := hB
 obtain ⟨hn, _, hseq, _⟩ := freeB_facts hB'
 have hn' : n ≤ l.length := by simpa using hn
 have hdl : (l.drop n).length = l.toArray.size - n := by simp
 refine wp_region_any hmo ?_
 have := freeN_go (P := P) (Q := Q) (w0 := w) early early2 hxn hyn hxy hxm hym hxo hyo hgr Kx Ky hKx hKy hxs hys hV hmn hmn2 hmm hwt hB hL hL2 hsafe hsafe2 (fun Av i K hK him him2 hix hiy => by
  have := nsteps_at (V Av) 0 (hs Av) i K hK (by omega) (by omega) (by omega) (by omega)
  rwa [Nat.zero_add] at this) hm hm2 (fun b u inv => ?_) n (List.range n) (Array.replicate l.toArray.size false) a w.drew (by simp) List.nodup_range ?_ ?_
 ·have e : n + (l.toArray.size - n) = l.toArray.size := by omega
  rw [e] at this
  exact this
 ·have hl : ∀ i, i < n → (Array.replicate n true ++ Array.replicate (l.toArray.size - n) false).getD i false = true := by
   intro i hi
   have hlt : i < (Array.replicate n true ++ Array.replicate (l.toArray.size - n) false).size := by simp; omega
   rw [Array.getD, dif_pos hlt]
   show (Array.replicate n true ++ Array.replicate (l.toArray.size - n) false)[i] = true
   rw [Array.getElem_append_left (by simpa using hi)]
   simp
  have h4 := hf (avd l.toArray x y (Array.replicate n true ++ Array.replicate (l.toArray.size - n) false) b) (fun d => b.tmps.getD d undef) u (fun i d hid => by
   simp only [Bool.and_eq_true, decide_eq_true_eq, beq_iff_eq] at hid
   have hln := hV (avd l.toArray x y (Array.replicate n true ++ Array.replicate (l.toArray.size - n) false) b)
   exact inv.vals i d (by omega) (hl i (by omega)) hid.2) inv.keep (fun d c h1 h2 => .inl ⟨hl x hxn, d, h1, h2⟩) (fun d c h1 h2 => .inr ⟨hl y hyn, d, h1, h2⟩) (inv.unl (hl x hxn) (hl y hyn))
  rw [← actN_filled hl inv] at h4
  have := wpAny_of_seq (P := P) (md := .any) (ops := l.toArray) (Q' := Q) (l.drop n) n _ b u (fun j => by simp) (by rw [hdl]; exact hseq) h4
  rw [hdl] at this
  exact this
 ·intro i
  rw [List.mem_range]
  constructor
  ·intro hi
   exact ⟨hi, getD_in (by simp; omega) (getD_replicate_false _ _)⟩
  ·exact fun h => h.1
 ·refine ⟨⟨by simp, fun j oj _ hl => (by rw [getD_replicate_false] at hl; cases hl), fun t _ ht => getD_in (by simpa using ht) (getD_replicate_false _ _)⟩, rfl, rfl, fun _ _ => rfl, fun i d _ hl => (by rw [getD_replicate_false] at hl; cases hl), Keep.drew (Keep.refl _ w), fun _ => Keep.drew (Keep.refl _ w), fun _ => Keep.drew (Keep.refl _ w), fun h => (by rw [getD_replicate_false] at h; cases h)⟩
end
end Go.Proofs.Ytfpfpmhkkgfdbaa
namespace Go.Proofs.Ytfpfpmhkkgfdbaa
open Go.RowKit
set_option maxRecDepth 100000
def Kn.addA (base : Nat) (Av F : Nat → Prop) (p : Nat) (x : Oc × Bok) : Kn := ⟨fun rv w => ∃ F' v, rv = x.1.v v ∧ Bk w F' p x.2 ∧ Sl w 36 21 v x.1.f.length (fls x.1.f) ∧ (∀ b, v.ownBlock = some b → base ≤ b ∧ ¬ F' b ∧ ¬ Av b) ∧ (∀ b, F' b → F b ∨ base ≤ b) ∧ ∀ b, Av b → ¬ F' b, fun _ _ _ ⟨F', v, h1, h2, h3, h4, h5⟩ hk => ⟨F', v, h1, h2.kept hk, h3.kept hk, h4, h5⟩⟩
theorem Kn.addA_grow {base : Nat} {Av F : Nat → Prop} {p g : Nat} {x : Oc × Bok} {rv : Value} {w : World} (h : (Kn.addA base Av F p x).p rv w) (hg : g = w.heap.size) : (Kn.addA base (fun b => Av b ∨ b = g) F p x).p rv w := by
 obtain ⟨F', v, h1, h2, h3, h4, h5, h6⟩ := h
 refine ⟨F', v, h1, h2, h3, fun b hb => ⟨(h4 b hb).1, (h4 b hb).2.1, fun h => h.elim (h4 b hb).2.2 (fun h => ?_)⟩, h5, fun b hb hF => hb.elim (fun h => h6 b h hF) (fun h => ?_)⟩
 ·have := h3.lt hb
  omega
 ·have := h2.lt b hF
  omega
theorem Kn.safe_addA {base : Nat} {Av F S : Nat → Prop} {p : Nat} {x : Oc × Bok} (hd : ∀ b, F b → ¬ S b) (hb : ∀ b, base ≤ b → ¬ S b) : (Kn.addA base Av F p x).safe S := fun _ _ _ ⟨F', v, h1, h2, h3, h4, h5⟩ hk => ⟨F', v, h1, h2.keep hk (fun b h => (h5.1 b h).elim (hd b) (hb b)), h3.keep hk (fun b h => hb b (h4 b h).1), h4, h5⟩
theorem badd_knA (u : World) (Av F : Nat → Prop) (p : Nat) (B : Bok) (o : Ord) (x : Oc × Bok) (base : Nat) (hx : B.add o = x) (h : Bk u F p B) (hI : Inv B) (hn : B.no ≤ 1000000000000) (hb : base ≤ u.heap.size) (hA : ∀ b, Av b → ¬ F b ∧ b < u.heap.size) : Calls Try.prog 15 #[.pointer (some ⟨p, 0, none⟩), o.v] u fun e w' => ∃ v, e = .returned v ∧ (Kn.addA base Av F p x).p v w' ∧ Keep F u w' := by
 subst hx
 refine (badd_any u F p B o h hI hn).mono ?_
 rintro e w' ⟨F', v, rfl, h1, h2, h3, h4, h5⟩
 refine ⟨_, rfl, ⟨F', v, rfl, h1, h2, fun b hb' => ⟨Nat.le_trans hb (h3 b hb').1, (h3 b hb').2, fun ha => ?_⟩, fun b hb' => (h4 b hb').imp id (fun h => Nat.le_trans hb h), fun b ha hF => ?_⟩, h5⟩
 ·have := (hA b ha).2
  have := (h3 b hb').1
  omega
 ·rcases h4 b hF with h | h
  ·exact (hA b ha).1 h
  ·have := (hA b ha).2
   omega
def Kn.twoA (base : Nat) (Av F G : Nat → Prop) (p r : Nat) (x y : Oc × Bok) : Kn := ⟨fun rv w => ∃ F' G' v, rv = y.1.v v ∧ Bk w F' p x.2 ∧ Bk w G' r y.2 ∧ Sl w 36 21 v y.1.f.length (fls y.1.f) ∧ (∀ b, v.ownBlock = some b → base ≤ b ∧ ¬ G' b ∧ ¬ F' b ∧ ¬ Av b) ∧ (∀ b, F' b → F b ∨ base ≤ b) ∧ (∀ b, G' b → G b ∨ base ≤ b) ∧ (∀ b, F' b → ¬ G' b) ∧ ∀ b, Av b → ¬ F' b ∧ ¬ G' b,
 fun _ _ _ ⟨F', G', v, h1, h2, h3, h4, h5⟩ hk => ⟨F', G', v, h1, h2.kept hk, h3.kept hk, h4.kept hk, h5⟩⟩
theorem Kn.twoA_grow {base : Nat} {Av F G : Nat → Prop} {p r g : Nat} {x y : Oc × Bok} {rv : Value} {w : World} (h : (Kn.twoA base Av F G p r x y).p rv w) (hg : g = w.heap.size) : (Kn.twoA base (fun b => Av b ∨ b = g) F G p r x y).p rv w := by
 obtain ⟨F', G', v, h1, h2, h3, h4, h5, h6, h7, h8, h9⟩ := h
 refine ⟨F', G', v, h1, h2, h3, h4, fun b hb => ⟨(h5 b hb).1, (h5 b hb).2.1, (h5 b hb).2.2.1, fun h => h.elim (h5 b hb).2.2.2 (fun h => ?_)⟩, h6, h7, h8, fun b hb => ⟨fun hF => hb.elim (fun h => (h9 b h).1 hF) (fun h => ?_), fun hG => hb.elim (fun h => (h9 b h).2 hG) (fun h => ?_)⟩⟩
 ·have := h4.lt hb
  omega
 ·have := h2.lt b hF
  omega
 ·have := h3.lt b hG
  omega
theorem badd_twoA (u : World) (Av F G : Nat → Prop) (p r : Nat) (B : Bok) (o : Ord) (x y : Oc × Bok) (base : Nat) (hy : B.add o = y) (rv : Value) (h1 : (Kn.addA base Av F p x).p rv u) (h : Bk u G r B) (hI : Inv B) (hn : B.no ≤ 1000000000000) (hb : base ≤ u.heap.size) (hd : ∀ b, F b → ¬ G b) (hg : ∀ b, G b → b < base) (hA : ∀ b, Av b → base ≤ b ∧ b < u.heap.size) : Calls Try.prog 15 #[.pointer (some ⟨r, 0, none⟩), o.v] u fun e w' => ∃ v, e = .returned v ∧ (Kn.twoA base Av F G p r x y).p v w' ∧ Keep G u w' := by
 subst hy
 obtain ⟨F', vx, _, q1, _, _, q2, q3⟩ := h1
 refine (badd_any u G r B o h hI hn).mono ?_
 rintro e w' ⟨G', v, rfl, h1, h2, h3, h4, h5⟩
 have hFG : ∀ b, F' b → ¬ G b := fun b hb' hg' => by
  rcases q2 b hb' with h | h
  ·exact hd b h hg'
  ·have := hg b hg'; omega
 refine ⟨_, rfl, ⟨F', G', v, rfl, q1.keep h5 hFG, h1, h2, fun b hb' => ⟨Nat.le_trans hb (h3 b hb').1, (h3 b hb').2, fun hF => ?_, fun ha => ?_⟩, q2, fun b hb' => (h4 b hb').imp id (fun h => Nat.le_trans hb h), fun b hF hG => ?_, fun b ha => ⟨q3 b ha, fun hG => ?_⟩⟩, h5⟩
 ·have := q1.lt b hF
  have := (h3 b hb').1
  omega
 ·have := (h3 b hb').1
  have := (hA b ha).2
  omega
 ·rcases h4 b hG with h | h
  ·exact hFG b hF h
  ·have := q1.lt b hF
   omega
 ·rcases h4 b hG with h | h
  ·have := hg b h
   have := (hA b ha).1
   omega
  ·have := (hA b ha).2
   omega
end Go.Proofs.Ytfpfpmhkkgfdbaa
namespace Go.Proofs.Ytfpfpmhkkgfdbaa
set_option maxRecDepth 100000
open Go.RowKit
end Go.Proofs.Ytfpfpmhkkgfdbaa
namespace Go.Proofs.Ytfpfpmhkkgfdbaa
open Go.RowKit
set_option maxRecDepth 100000
section
variable {a : Act} {o : Oper} {u : World}
end
end Go.Proofs.Ytfpfpmhkkgfdbaa
namespace Go.Proofs.Ytfpfpmhkkgfdbaa
open Go.RowKit
set_option maxRecDepth 100000
section
variable {P : Program} {ops : Array Oper} {S : World → Prop} {Q : Exit → Act → World → Prop}
def wpPre (P : Program) (ops : Array Oper) (S : World → Prop) : List Nat → Act → (Act → Prop) → Prop
 | [], a, K => K a
 | i :: r, a, K => ∃ o v, ops[i]? = some o ∧ YieldsIf P ops S o v a ∧ wpPre P ops S r (a.put o.dst v) K
def preLs : List Nat → Array Bool → Array Bool
 | [], ls => ls
 | i :: r, ls => preLs r (ls.setIfInBounds i true)
def preB (ops : Array Oper) : List Nat → Array Bool → Bool
 | [], _ => true
 | i :: r, ls => (Region.ready .any ops ls).contains i && Region.free .any ops ls i && preB ops r (ls.setIfInBounds i true)
theorem X_pre (hs : Region.noSelect ops = true) (hQ : ∀ c a d v w, Q (.panic c) (a.put d v) w → Q (.panic c) a w) (f : Nat) (w : World) (hS : S w) : ∀ (pre : List Nat) (ls : Array Bool) (a : Act), preB ops pre ls = true →
  wpPre P ops S pre a (fun a' => wpX P .any ops Q S (fun i => ([] : List Nat).contains i) f (preLs pre ls) a' w) → wpX P .any ops Q S (fun i => ([] : List Nat).contains i) (pre.length + f) ls a w
 | [], ls, a, _, h => by
  rw [List.length_nil, Nat.zero_add]
  exact h
 | i :: r, ls, a, hB, h => by
  obtain ⟨o, v, ho, hy, h⟩ := h
  simp only [preB, Bool.and_eq_true] at hB
  have e : (i :: r).length + f = (r.length + f) + 1 := by rw [List.length_cons]; omega
  rw [e]
  exact wpX_first (Si := S) ho (Region.noSelect_spec hs) (fun c a w => hQ c a o.dst v w) (fun j oj hoj hno w w' hw hT => hT rfl hw) (r.length + f) ls a w (Region.free_spec ho hB.1.2) (by simpa using hB.1.1) hy hS (X_pre hs hQ f w hS r _ _ hB.2 h)
def allocOf (ops : Array Oper) (t : TypeId) (i d : Nat) : Bool := match ops[i]? with
 | some o => (match o.op with | .alloc t' => t' == t | _ => false) && o.guard.isNone && o.dst == some d
 | none => false
theorem wpOp_alloc {t : TypeId} {z : List Value} (hz : (P.info? t).map (·.zero) = some (some (.agg z.toArray))) {i d : Nat} (hB : allocOf ops t i d = true) {K : Act → World → Prop} {a : Act} {w : World}
  (hK : ∀ w', Blk w' w.heap.size t z → w'.heap.size = w.heap.size + 1 → Kept w w' → K (a.put (some d) (.pointer (some ⟨w.heap.size, 0, none⟩))) w') : wpOp P ops Q i K a w := by
 unfold allocOf at hB
 unfold wpOp
 cases ho : ops[i]? with
 | none => rw [ho] at hB; cases hB
 | some o =>
  rw [ho] at hB
  simp only [Bool.and_eq_true, beq_iff_eq, Option.isNone_iff_eq_none] at hB
  obtain ⟨⟨h1, h2⟩, h3⟩ := hB
  have hop : o.op = .alloc t := by
   cases hq : o.op <;> rw [hq] at h1 <;> first | (cases h1; done) | (simp at h1; rw [h1])
  have hw : Region.wanted o (yielded ops a.tmps) = true := by simp [Region.wanted, h2]
  simp only [hw, if_true]
  refine .inl ?_
  cases hq : P.info? t with
  | none => simp [hq] at hz
  | some i0 =>
   have hzz : i0.zero = some (.agg z.toArray) := by simpa [hq] using hz
   unfold Oper.wp execOp
   simp only [hop]
   simp [Instr.alloc, zeroValue, typeInfo, hq, hzz, newVar, Value.cells, go_sem]
   rw [h3]
   exact hK _ (Blk.new w t z) (by simp) ((Keep.refl _ w).alloc _)
theorem put_comm2 (a : Act) (d e : Nat) (u v : Value) (h : d ≠ e) : (a.put (some d) u).put (some e) v = (a.put (some e) v).put (some d) u := by
 simp only [Act.put]
 rw [Array.setIfInBounds_comm _ _ h]
end
section
variable {ops : Array Oper} {S : World → Prop} {Q : Exit → Act → World → Prop} {a : Act} {w : World} {i : Nat} {o : Oper}
theorem p_val {r : List Nat} {K : Act → Prop} (v : Value) (ho : ops[i]? = some o) (hw : Region.wanted o (yielded ops a.tmps) = true) (h : ∀ u, S u → (execOp a.eval o).run Try.prog u = .ok (.value v) u) (hK : wpPre Try.prog ops S r (a.put o.dst v) K) : wpPre Try.prog ops S (i :: r) a K := ⟨o, v, ho, .inl ⟨hw, h⟩, hK⟩
theorem s_setS {r : List (Nat × Nat)} (ty : TypeId) (g : Nat) (T : TypeId) (old cells : List Value) (x y : Operand) (ho : ops[i]? = some o) (hw : Region.wanted o (yielded ops a.tmps) = true) (hop : o.op = .store ty x y) (hx : a.eval x = .pointer (some ⟨g, 0, none⟩)) (hy : a.eval y = .agg cells.toArray) (hb : Blk w g T old) (hi : (Try.prog.info? ty).map (·.size) = some cells.length) (hold : old.length = cells.length) (h1 : ∀ u ∈ cells, u.oneCell' = true) (hS : ∀ w', Keep (· = g) w w' → S w')
  (hK : ∀ w', Blk w' g T cells → Keep (· = g) w w' → wpSch Try.prog ops S Q r (a.put o.dst undef) w') : wpSch Try.prog ops S Q ((i, 1) :: r) a w :=
 s_oper ho hw fun K hK' => op_store_row w ty x y hop g cells hx hy T old hb hi hold h1 (fun w' h2 h3 h4 => hK' _ _ (hS w' h3) (hK w' h2 h3))
end
end Go.Proofs.Ytfpfpmhkkgfdbaa
namespace Go.Proofs.Ytfpfpmhkkgfdbaa
open Go.RowKit
set_option maxRecDepth 100000
section
variable {P : Program} {ops : Array Oper} {S : World → Prop} {Q : Exit → Act → World → Prop}
def allocsB (ops : Array Oper) (t : TypeId) : Nat → List (Nat × Nat) → Array Bool → Bool
 | 0, A, _ => A.isEmpty
 | n + 1, A, ls => (Region.ready .any ops ls == A.map (·.1)) && !A.isEmpty && A.all fun x => allocOf ops t x.1 x.2 && allocsB ops t n (A.erase x) (ls.setIfInBounds x.1 true)
def marks (A : List (Nat × Nat)) (ls : Array Bool) : Array Bool := A.foldl (fun l x => l.setIfInBounds x.1 true) ls
def puts (β : Nat → Nat) (A : List (Nat × Nat)) (a : Act) : Act := A.foldl (fun a x => a.put (some x.2) (.pointer (some ⟨β x.2, 0, none⟩))) a
def apartB (A : List (Nat × Nat)) : Bool := decide ((A.map (·.2)).Nodup)
theorem marks_erase (A : List (Nat × Nat)) (x : Nat × Nat) (hx : x ∈ A) (ls : Array Bool) : marks (A.erase x) (ls.setIfInBounds x.1 true) = marks A ls := by
 have h := (List.perm_cons_erase hx).foldl_eq' (f := fun (l : Array Bool) (y : Nat × Nat) => l.setIfInBounds y.1 true) (fun y _ z _ l => by
  by_cases e : y.1 = z.1
  ·simp only [e]
  ·exact Array.setIfInBounds_comm _ _ (by omega)) ls
 exact h.symm
theorem puts_erase (β : Nat → Nat) (A : List (Nat × Nat)) (x : Nat × Nat) (hx : x ∈ A) (a : Act) : puts β (A.erase x) (a.put (some x.2) (.pointer (some ⟨β x.2, 0, none⟩))) = puts β A a := by
 have h := (List.perm_cons_erase hx).foldl_eq' (f := fun (a : Act) (y : Nat × Nat) => a.put (some y.2) (.pointer (some ⟨β y.2, 0, none⟩))) (fun y _ z _ a => by
  by_cases e : y.2 = z.2
  ·simp only [e]
  ·exact put_comm2 _ _ _ _ _ (by omega)) a
 exact h.symm
theorem puts_congr {β γ : Nat → Nat} : ∀ (A : List (Nat × Nat)) (a : Act), (∀ x ∈ A, β x.2 = γ x.2) → puts β A a = puts γ A a
 | [], _, _ => rfl
 | x :: A, a, h => by
  show puts β A (a.put (some x.2) (.pointer (some ⟨β x.2, 0, none⟩))) = puts γ A (a.put (some x.2) (.pointer (some ⟨γ x.2, 0, none⟩)))
  rw [h x (by simp)]
  exact puts_congr A _ fun y hy => h y (by simp [hy])
theorem X_allocs {weak : Nat → Bool} {t : TypeId} {z : List Value} (hz : (P.info? t).map (·.zero) = some (some (.agg z.toArray))) (hSa : ∀ u u', S u → Kept u u' → S u') (f : Nat) :
  ∀ (n : Nat) (A : List (Nat × Nat)) (ls : Array Bool) (a : Act) (w : World), S w → (A.map (·.2)).Nodup → allocsB ops t n A ls = true →
  (∀ (β : Nat → Nat) u, (∀ x ∈ A, w.heap.size ≤ β x.2 ∧ Blk u (β x.2) t z) → (∀ x ∈ A, ∀ y ∈ A, x.2 ≠ y.2 → β x.2 ≠ β y.2) → Kept w u → wpX P .any ops Q S weak f (marks A ls) (puts β A a) u) → wpX P .any ops Q S weak (n + f) ls a w
 | 0, A, ls, a, w, hS, hd, hB, h => by
  obtain rfl : A = [] := by simpa [allocsB] using hB
  rw [Nat.zero_add]
  exact h (fun _ => 0) w (fun x hx => by cases hx) (fun x hx => by cases hx) (Kept.refl w)
 | n + 1, A, ls, a, w, hS, hd, hB, h => by
  simp only [allocsB, Bool.and_eq_true, beq_iff_eq, List.all_eq_true] at hB
  obtain ⟨⟨hr, hne⟩, hall⟩ := hB
  rw [show n + 1 + f = (n + f) + 1 by omega]
  refine ⟨fun h0 => ?_, fun i hi => ?_⟩
  ·rw [hr] at h0
   have : A = [] := by simpa using h0
   subst this
   cases hne
  ·rw [hr] at hi
   obtain ⟨x, hx, rfl⟩ := List.mem_map.1 hi
   obtain ⟨h1, h2⟩ := hall x hx
   have hnd : (x :: A.erase x).map (·.2) |>.Nodup := ((List.perm_cons_erase hx).map _).nodup_iff.1 hd
   rw [List.map_cons, List.nodup_cons] at hnd
   have hxe : ∀ y ∈ A.erase x, y.2 ≠ x.2 := fun y hy e => hnd.1 (List.mem_map.2 ⟨y, hy, e⟩)
   refine wpOp_alloc hz h1 fun w1 b1 z1 k1 => ⟨fun _ hs => hSa _ _ hs k1, X_allocs hz hSa f n (A.erase x) _ _ w1 (hSa _ _ hS k1) hnd.2 h2 fun β u hβ hβd ku => ?_⟩
   have g := h (fun j => if j = x.2 then w.heap.size else β j) u (fun y hy => ?_) (fun y hy z' hz' hne' => ?_) (k1.trans ku)
   ·rw [← marks_erase A x hx, ← puts_erase _ A x hx] at g
    simp only [if_true] at g
    rw [puts_congr (γ := β) (A.erase x) _ (fun y hy => if_neg (hxe y hy))] at g
    exact g
   ·by_cases e : y.2 = x.2
    ·simp only [e, if_true]
     exact ⟨Nat.le_refl _, b1.kept ku⟩
    ·simp only [if_neg e]
     have hye : y ∈ A.erase x := by
      rcases List.mem_cons.1 ((List.perm_cons_erase hx).mem_iff.1 hy) with rfl | h'
      ·exact (e rfl).elim
      ·exact h'
     have := hβ y hye
     exact ⟨by omega, this.2⟩
   ·have lies : ∀ y ∈ A, y.2 ≠ x.2 → y ∈ A.erase x := fun y hy e => by
     rcases List.mem_cons.1 ((List.perm_cons_erase hx).mem_iff.1 hy) with rfl | h'
     ·exact (e rfl).elim
     ·exact h'
    by_cases e : y.2 = x.2
    ·by_cases e' : z'.2 = x.2
     ·exact (hne' (e.trans e'.symm)).elim
     ·simp only [e, if_true, if_neg e']
      have := (hβ z' (lies z' hz' e')).1
      omega
    ·by_cases e' : z'.2 = x.2
     ·simp only [e', if_true, if_neg e]
      have := (hβ y (lies y hy e)).1
      omega
     ·simp only [if_neg e, if_neg e']
      exact hβd y (lies y hy e) z' (lies z' hz' e') hne'
def allocs2B (ops : Array Oper) (pre : List Nat) (t : TypeId) (A : List (Nat × Nat)) (post : List (Nat × Nat)) : Bool :=
 Region.noSelect ops && (pre.length + (A.length + post.length) == ops.size) && preB ops pre (Array.replicate ops.size false) && apartB A && allocsB ops t A.length A (preLs pre (Array.replicate ops.size false))
 && schB ops [] post (marks A (preLs pre (Array.replicate ops.size false))) false
theorem wp_allocs {id : Nat} {a : Act} {w : World} {l : List Oper} (pre : List Nat) (t : TypeId) (z : List Value) (A : List (Nat × Nat)) (post : List (Nat × Nat)) (hm : P.follows .mixedOrders = true) (hz : (P.info? t).map (·.zero) = some (some (.agg z.toArray))) (hB : allocs2B l.toArray pre t A post = true)
  (h : wpPre P l.toArray (fun u => Kept w u) pre a (fun a' => ∀ (β : Nat → Nat) u, (∀ x ∈ A, w.heap.size ≤ β x.2 ∧ Blk u (β x.2) t z) → (∀ x ∈ A, ∀ y ∈ A, x.2 ≠ y.2 → β x.2 ≠ β y.2) → Kept w u →
   wpSch P l.toArray (fun u => Kept w u) (NoPanic Q) post (puts β A a') u)) : (Code.region id l.toArray true).wp P Q a w := by
 simp only [allocs2B, apartB, Bool.and_eq_true, beq_iff_eq, decide_eq_true_eq] at hB
 obtain ⟨⟨⟨⟨⟨hs, hlen⟩, hpre⟩, hd⟩, hA⟩, hpost⟩ := hB
 refine wp_region_noPanic (wp_region_any hm ?_)
 have kd : Kept w w.drew := Keep.drew (Keep.refl _ w)
 have := X_pre (P := P) (S := fun u => Kept w u) (Q := NoPanic Q) hs (fun c a d v w h => (h : False).elim) (A.length + post.length) w.drew kd pre (Array.replicate l.toArray.size false) a hpre ?_
 ·have h4 := wpAny_of_X _ _ _ _ this
  rw [show pre.length + (A.length + post.length) = l.toArray.size by omega] at h4
  exact h4
 ·have gen : ∀ (pre : List Nat) (a : Act) (K K' : Act → Prop), (∀ a, K a → K' a) → wpPre P l.toArray (fun u => Kept w u) pre a K → wpPre P l.toArray (fun u => Kept w u) pre a K' := by
   intro pre
   induction pre with
   | nil => intro a K K' hk h; exact hk a h
   | cons i r ih =>
    rintro a K K' hk ⟨o, v, ho, hy, h⟩
    exact ⟨o, v, ho, hy, ih _ K K' hk h⟩
  refine gen pre a _ _ (fun a' ha' => ?_) h
  refine X_allocs hz (fun u u' h k => h.trans k) post.length A.length A _ a' w.drew kd hd hA fun β u hβ hβd ku => ?_
  exact X_of_sch (P := P) (S := fun u => Kept w u) hs (fun c a d v w h => (h : False).elim) post false _ _ u (fun _ => kd.trans ku) hpost (ha' β u hβ hβd (kd.trans ku))
end
section
variable {ops : Array Oper} {S : World → Prop} {Q : Exit → Act → World → Prop} {a : Act} {w : World} {i : Nat} {o : Oper}
end
end Go.Proofs.Ytfpfpmhkkgfdbaa
