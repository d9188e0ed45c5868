/-
  The walk of jobberlaw4.ChainHolds. No condition but the tables' contents.
-/
import Derived.Test.YtholpkaicmckfaaDoorFew4
import Derived.Test.YtholpkaicmckfaaDoorClashes4
import Derived.Test.YtholpkaicmckfaaDoorRuns4
import Derived.Test.YtholpkaicmckfaaDoorWithin
namespace Go.Proofs.YtholpkaicmckfaaDoor
open Go.RowKit
set_option linter.unusedVariables false

theorem diff_case (x y : List (List UInt8)) (hl : x.length = y.length) : (diffOf x y = -1 ∧ x = y) ∨ ∃ d : Nat, diffOf x y = (d : Int) ∧ d < x.length := by
  have h : ∀ n i, i + n = x.length → diffFrom x y i n = -1 ∨ ∃ d : Nat, diffFrom x y i n = (d : Int) ∧ d < x.length := by
    intro n
    induction n with
    | zero => intro i hi; left; unfold diffFrom; rw [if_pos hl]
    | succ n ih =>
      intro i hi
      unfold diffFrom
      by_cases e : x[i]? = y[i]?
      · rw [if_pos e]
        exact ih (i + 1) (by omega)
      · rw [if_neg e]
        exact .inr ⟨i, rfl, by omega⟩
  by_cases e : diffOf x y = -1
  · exact .inl ⟨e, diffOf_none x y e⟩
  · rcases h x.length 0 (by omega) with h | h
    · refine absurd ?_ e
      unfold diffOf
      rw [← hl, Nat.min_self]
      exact h
    · right
      obtain ⟨d, h1, h2⟩ := h
      refine ⟨d, ?_, h2⟩
      unfold diffOf
      rw [← hl, Nat.min_self]
      exact h1
theorem last_ahead (a b : List (List UInt8)) (hl : a.length = b.length) (h : linksOf a = linksOf b) : aheadOf a a.length = aheadOf b b.length := by
  rcases Nat.eq_zero_or_pos a.length with h0 | h0
  · rw [← hl, h0]
    rfl
  · have h1 := linksOf_ahead a (a.length - 1) (by omega)
    have h2 := linksOf_ahead b (b.length - 1) (by omega)
    rw [show a.length - 1 + 1 = a.length by omega] at h1
    rw [show b.length - 1 + 1 = b.length by omega, ← h, ← hl] at h2
    rw [h1] at h2
    injection h2 with h2
    rw [h2, hl]

theorem mem_set_le (X : List (List UInt8)) (i : Nat) (y : List UInt8) (hX : ∀ x ∈ X, x.length ≤ 40) (hy : y.length ≤ 40) : ∀ x ∈ X.set i y, x.length ≤ 40 := fun x hx => by
  rcases List.mem_or_eq_of_mem_set hx with h | h
  · exact hX x h
  · rw [h]; exact hy

set_option maxRecDepth 100000 in
set_option maxHeartbeats 6400000 in
theorem chainHolds_any (vl ve : Value) (l : List (List UInt8)) (i_ k_ : Int) (edit : List UInt8) (w : World) (hG : Glob w) (hl : RecV w vl l) (he : Bytes w ve edit) :
    Calls Tryd.prog 5 #[vl, .int .i64 i_, .int .i64 k_, ve] w fun e w' => e = .returned (.bool true) ∧ Kept w w' := by
  have HV := Lib.hid hl
  have HE := Lib.hid he
  go_enter Tryd.func5, Tryd.ntmps5
  go_wp2_with fail
  refine (few_any vl l w HV.out).mono ?_
  rintro e w1 ⟨u, rfl, A1, c1, vs1, rfl, own1, rows1, hk1⟩
  clear hl he
  go_wp2_with fail
  refine (few_any vl l w1 (HV.out.kept hk1)).mono ?_
  rintro e w2 ⟨u, rfl, A2, c2, vs2, rfl, own2, rows2, hk2⟩
  have hkw2 := hk1.trans hk2
  have hX8 := fewOf_length l
  have HXe := Lib.hid (fewOf_each l)
  generalize fewOf l = X at own1 rows1 own2 rows2 hX8 HXe ⊢
  have hcap1 := own1.cap
  have hcap2 := own2.cap
  have HRX1 := Lib.hid (recs_of_own own1 rows1)
  obtain ⟨n, hn⟩ : ∃ n, n = X.length := ⟨_, rfl⟩
  rw [← hn] at own1 own2 hX8 hcap1 hcap2 ⊢
  have hlX : Hid (X.length = n) := hn.symm
  have HO2 := Lib.hid own2
  have HW2 := Lib.hid rows2
  have HVX1 : Hid (RecV w1 (.slice A1 n c1) X) := ⟨A1, n, c1, rfl, hlX, HRX1.out, hcap1.1, hcap1.2.1⟩
  have hw12 := hk2.size
  clear own1 rows1 own2 rows2 hn HRX1 HV
  by_cases hn0 : 0 < n
  · obtain ⟨g2, rfl, hg2, hg2l⟩ := HO2.out.some_ hn0
    have hne : ((n : Int) == 0) = false := by rw [beq_eq_false_iff_ne]; omega
    go_wp2_with fail
    refine (within_nat i_ ((n : Int) - 1) w2 (by omega) (by omega)).mono ?_
    rintro e w3 ⟨p, rfl, hp, rfl⟩
    go_wp2_with fail
    refine (within_nat k_ ((n : Int) - 1) w2 (by omega) (by omega)).mono ?_
    rintro e w3 ⟨q, rfl, hq, rfl⟩
    have hpn : p < n := by omega
    have hqn : q < n := by omega
    have hvl : vs2.length = n := by rw [HW2.out.1, hlX.out]
    have hpX : p < X.length := by rw [hlX.out]; exact hpn
    have hqX : q < X.length := by rw [hlX.out]; exact hqn
    obtain ⟨vp, hvp⟩ : ∃ v, vs2[p]? = some v := ⟨_, List.getElem?_eq_getElem (by omega)⟩
    obtain ⟨vq, hvq⟩ : ∃ v, vs2[q]? = some v := ⟨_, List.getElem?_eq_getElem (by omega)⟩
    obtain ⟨gp, cp, hep, hbp, hrp⟩ := HW2.out.2 p vp X[p] hvp (List.getElem?_eq_getElem hpX)
    obtain ⟨gq, cq, heq, hbq, hrq⟩ := HW2.out.2 q vq X[q] hvq (List.getElem?_eq_getElem hqX)
    have HCp : Hid (w2.cell? ⟨g2, 0 + p * 1, none⟩ = some vp) := by show _ = _; rw [Nat.zero_add, Nat.mul_one, HO2.out.cell p (by omega), hvp]
    have HCq : Hid (w2.cell? ⟨g2, 0 + q * 1, none⟩ = some vq) := by show _ = _; rw [Nat.zero_add, Nat.mul_one, HO2.out.cell q (by omega), hvq]
    obtain ⟨Y, hY⟩ : ∃ Y, Y = (X.set p X[q]).set q X[p] := ⟨_, rfl⟩
    have HYe : Hid (∀ x ∈ Y, x.length ≤ 40) := by
      rw [hY]
      exact mem_set_le _ _ _ (mem_set_le _ _ _ HXe.out (HXe.out _ (List.getElem_mem hqX))) (HXe.out _ (List.getElem_mem hpX))
    have hlY : Hid (Y.length = n) := by show _ = _; rw [hY, List.length_set, List.length_set, hlX.out]
    have hvp1 : Hid (vp.cells = #[vp] ∧ vp.oneCell' = true) := by rw [hep]; exact ⟨rfl, rfl⟩
    have hvq1 : Hid (vq.cells = #[vq] ∧ vq.oneCell' = true) := by rw [heq]; exact ⟨rfl, rfl⟩
    have HFin : Hid (∀ u, Kept w1 u → OwnG u w1.heap.size 22 1 (some ⟨g2, 0, none⟩) n c2 ((vs2.set (0 + p * 1) vq).set (0 + q * 1) vp) → Keep (· = g2) w2 u → RowsE u w1.heap.size ((vs2.set (0 + p * 1) vq).set (0 + q * 1) vp) Y) := fun u hk ho hkk => by
      have hnr : ∀ g c xs, Row8 w2 g c xs → ¬ g = g2 := fun g c xs hr => own_ne HO2.out hr
      have h1 := HW2.out.keep hkk hnr
      have h2 := (h1.set_ p hbq (hrq.keep hkk (hnr _ _ _ hrq))).set_ q hbp (hrp.keep hkk (hnr _ _ _ hrp))
      rw [← hep, ← heq] at h2
      rw [hY, Nat.zero_add, Nat.zero_add, Nat.mul_one, Nat.mul_one]
      exact h2
    have h12 := hk2
    clear hvp hvq hep heq hbp hbq hrp hrq hY hpX hqX hvl hk2
    go_wp2_with fail
    refine wp_sched (fun u => Kept w1 u ∧ u.cell? ⟨g2, 0 + p * 1, none⟩ = some vp ∧ u.cell? ⟨g2, 0 + q * 1, none⟩ = some vq) [(0, 2), (1, 2), (2, 2), (3, 2), (4, 2), (5, 2), (6, 2), (7, 0), (8, 2), (9, 2), (10, 2), (11, 0), (12, 2), (13, 3), (14, 2), (15, 3)] (by kernel_rfl) (by kernel_rfl) (⟨Keep.drew h12, HCp.out, HCq.out⟩) ?_
    refine s_free (o := ⟨some 32, _, _, _, _, _⟩) (.slice (some ⟨g2, 0, none⟩) n c2) rfl (by kernel_rfl) (fun u => exec_move (.tmp 10) (.slice (some ⟨g2, 0, none⟩) n c2) rfl (by kernel_rfl)) ?_
    simp only [Act.put, List.setIfInBounds_toArray, List.set_cons_succ, List.set_cons_zero]
    refine s_free (o := ⟨some 33, _, _, _, _, _⟩) (.int .i64 (p : Int)) rfl (by kernel_rfl) (fun u => exec_move (.tmp 11) (.int .i64 (p : Int)) rfl (by kernel_rfl)) ?_
    simp only [Act.put, List.setIfInBounds_toArray, List.set_cons_succ, List.set_cons_zero]
    refine s_free (o := ⟨some 34, _, _, _, _, _⟩) (.slice (some ⟨g2, 0, none⟩) n c2) rfl (by kernel_rfl) (fun u => exec_move (.tmp 10) (.slice (some ⟨g2, 0, none⟩) n c2) rfl (by kernel_rfl)) ?_
    simp only [Act.put, List.setIfInBounds_toArray, List.set_cons_succ, List.set_cons_zero]
    refine s_free (o := ⟨some 35, _, _, _, _, _⟩) (.int .i64 (q : Int)) rfl (by kernel_rfl) (fun u => exec_move (.tmp 12) (.int .i64 (q : Int)) rfl (by kernel_rfl)) ?_
    simp only [Act.put, List.setIfInBounds_toArray, List.set_cons_succ, List.set_cons_zero]
    refine s_free (o := ⟨some 36, _, _, _, _, _⟩) (.slice (some ⟨g2, 0, none⟩) n c2) rfl (by kernel_rfl) (fun u => exec_move (.tmp 10) (.slice (some ⟨g2, 0, none⟩) n c2) rfl (by kernel_rfl)) ?_
    simp only [Act.put, List.setIfInBounds_toArray, List.set_cons_succ, List.set_cons_zero]
    refine s_free (o := ⟨some 37, _, _, _, _, _⟩) (.int .i64 (q : Int)) rfl (by kernel_rfl) (fun u => exec_move (.tmp 12) (.int .i64 (q : Int)) rfl (by kernel_rfl)) ?_
    simp only [Act.put, List.setIfInBounds_toArray, List.set_cons_succ, List.set_cons_zero]
    refine s_free (o := ⟨some 38, _, _, _, _, _⟩) (.pointer (some ⟨g2, 0 + q * 1, none⟩)) rfl (by kernel_rfl) (fun u => exec_index 23 22 1 (.tmp 36) (.tmp 37) (g2) (0) (n) (c2) (q) rfl Tryd.underlying23 sl_size (by kernel_rfl) (by kernel_rfl) (by omega)) ?_
    simp only [Act.put, List.setIfInBounds_toArray, List.set_cons_succ, List.set_cons_zero]
    refine s_val (o := ⟨some 39, _, _, _, _, _⟩) (vq) rfl (by kernel_rfl) (fun u hu => exec_load_sl (.tmp 38) ⟨g2, 0 + q * 1, none⟩ vq rfl (by kernel_rfl) hu.2.2) ?_
    simp only [Act.put, List.setIfInBounds_toArray, List.set_cons_succ, List.set_cons_zero]
    refine s_free (o := ⟨some 40, _, _, _, _, _⟩) (.slice (some ⟨g2, 0, none⟩) n c2) rfl (by kernel_rfl) (fun u => exec_move (.tmp 10) (.slice (some ⟨g2, 0, none⟩) n c2) rfl (by kernel_rfl)) ?_
    simp only [Act.put, List.setIfInBounds_toArray, List.set_cons_succ, List.set_cons_zero]
    refine s_free (o := ⟨some 41, _, _, _, _, _⟩) (.int .i64 (p : Int)) rfl (by kernel_rfl) (fun u => exec_move (.tmp 11) (.int .i64 (p : Int)) rfl (by kernel_rfl)) ?_
    simp only [Act.put, List.setIfInBounds_toArray, List.set_cons_succ, List.set_cons_zero]
    refine s_free (o := ⟨some 42, _, _, _, _, _⟩) (.pointer (some ⟨g2, 0 + p * 1, none⟩)) rfl (by kernel_rfl) (fun u => exec_index 23 22 1 (.tmp 40) (.tmp 41) (g2) (0) (n) (c2) (p) rfl Tryd.underlying23 sl_size (by kernel_rfl) (by kernel_rfl) (by omega)) ?_
    simp only [Act.put, List.setIfInBounds_toArray, List.set_cons_succ, List.set_cons_zero]
    refine s_val (o := ⟨some 43, _, _, _, _, _⟩) (vp) rfl (by kernel_rfl) (fun u hu => exec_load_sl (.tmp 42) ⟨g2, 0 + p * 1, none⟩ vp rfl (by kernel_rfl) hu.2.1) ?_
    simp only [Act.put, List.setIfInBounds_toArray, List.set_cons_succ, List.set_cons_zero]
    refine s_free (o := ⟨some 44, _, _, _, _, _⟩) (.pointer (some ⟨g2, 0 + p * 1, none⟩)) rfl (by kernel_rfl) (fun u => exec_index 23 22 1 (.tmp 32) (.tmp 33) (g2) (0) (n) (c2) (p) rfl Tryd.underlying23 sl_size (by kernel_rfl) (by kernel_rfl) (by omega)) ?_
    simp only [Act.put, List.setIfInBounds_toArray, List.set_cons_succ, List.set_cons_zero]
    have O3 : OwnG w2.drew w1.heap.size 22 1 (some ⟨g2, 0, none⟩) n c2 vs2 := HO2.out
    have O4 := O3.set_ (0 + p * 1) vq
    have K4 : Keep (· = g2) w2 (w2.drew.setCell ⟨g2, 0 + p * 1, none⟩ vq) := Keep.setCell (S := (· = g2)) (Keep.drew (Keep.refl _ w2)) (p := ⟨g2, 0 + p * 1, none⟩) (fun _ => rfl) _
    refine s_lateStore (o := ⟨none, _, _, _, _, _⟩) _ rfl (by kernel_rfl) (exec_store1 22 (.tmp 44) (.tmp 39) g2 (0 + p * 1) vq rfl sl_size (by kernel_rfl) (by kernel_rfl) hvq1.out.1 hvq1.out.2 (fun j hj => by
      obtain rfl : j = 0 := by omega
      exact ⟨by rw [Nat.add_zero, O3.cell _ (by omega), List.getElem?_eq_getElem (by have := O3.len; omega)]; rfl, O3.frozen _⟩)) ?_
    generalize w2.drew.setCell ⟨g2, 0 + p * 1, none⟩ vq = w4 at O4 K4 ⊢
    simp only [Act.put]
    refine s_free (o := ⟨some 45, _, _, _, _, _⟩) (.pointer (some ⟨g2, 0 + q * 1, none⟩)) rfl (by kernel_rfl) (fun u => exec_index 23 22 1 (.tmp 34) (.tmp 35) (g2) (0) (n) (c2) (q) rfl Tryd.underlying23 sl_size (by kernel_rfl) (by kernel_rfl) (by omega)) ?_
    simp only [Act.put, List.setIfInBounds_toArray, List.set_cons_succ, List.set_cons_zero]
    have O5 := O4.set_ (0 + q * 1) vp
    have K5 : Keep (· = g2) w2 (w4.setCell ⟨g2, 0 + q * 1, none⟩ vp) := Keep.setCell (S := (· = g2)) K4 (p := ⟨g2, 0 + q * 1, none⟩) (fun _ => rfl) _
    refine s_lateStore (o := ⟨none, _, _, _, _, _⟩) _ rfl (by kernel_rfl) (exec_store1 22 (.tmp 45) (.tmp 43) g2 (0 + q * 1) vp rfl sl_size (by kernel_rfl) (by kernel_rfl) hvp1.out.1 hvp1.out.2 (fun j hj => by
      obtain rfl : j = 0 := by omega
      exact ⟨by rw [Nat.add_zero, O4.cell _ (by omega), List.getElem?_eq_getElem (by have := O4.len; omega)]; rfl, O4.frozen _⟩)) ?_
    generalize w4.setCell ⟨g2, 0 + q * 1, none⟩ vp = w5 at O5 K5 ⊢
    simp only [Act.put]
    refine s_done ?_
    have h15 : Kept w1 w5 := Kept.trans' h12 K5 (by omega)
    have W5 := HFin.out w5 h15 O5 K5
    have HO5 := Lib.hid O5
    have HW5 := Lib.hid W5
    have hkw5 := hk1.trans h15
    clear O3 O4 K4 K5 O5 W5 HFin HCp HCq HO2 HW2 hvp1 hvq1 h12
    generalize (vs2.set (0 + p * 1) vq).set (0 + q * 1) vp = vs5 at HO5 HW5
    obtain ⟨Ae, ne, ce, rfl, hle, hRe, hne1, hce, hAe⟩ := HE.out
    by_cases hed : 0 < ne
    · obtain ⟨m, hm⟩ : ∃ m, m = min ne 40 := ⟨_, rfl⟩
      have hm1 : m ≤ 40 := by omega
      have hm2 : m ≤ ne := by omega
      have hmin : (if (40 : Int) < (ne : Int) then (40 : Int) else (ne : Int)) = (m : Int) := by split <;> omega
      obtain ⟨ps, hps⟩ : ∃ ps, ps = edit.take 40 := ⟨_, rfl⟩
      have hlm : Hid (ps.length = m) := by show _ = _; rw [hps, List.length_take, hle.out]; omega
      have HRp : Hid (R8 w Ae ps) := by rw [hps]; exact hRe.take2 40
      have HAe := Lib.hid hAe
      have hcem := hce
      unfold maxLen at hce
      have R0 : Hid (Row8 (w5.alloc (.cells #[] 5)) w5.heap.size 0 []) := row8_new w5 [] (by simp)
      have k0 : Kept w5 (w5.alloc (.cells #[] 5)) := Keep.alloc (Keep.refl _ w5) _
      have HR0 := Lib.hid (HRp.out.kept (hkw5.trans k0))
      obtain ⟨Z, hZ⟩ : ∃ Z, Z = Y.set q ps := ⟨_, rfl⟩
      have hlZ : Hid (Z.length = n) := by show _ = _; rw [hZ, List.length_set, hlY.out]
      have HZe : Hid (∀ x ∈ Z, x.length ≤ 40) := by rw [hZ]; exact mem_set_le _ _ _ HYe.out (by rw [hlm.out]; omega)
      have HZ := Lib.hid hZ
      have h5 := h15.size
      clear hps hZ hm hRe hAe
      go_wp2_with ((with_reducible show wpList _ _ _ _ _ _); (first
        | ((with_reducible refine wpl_append8 (o := ⟨some 57, _, _, _, _, _⟩) _ ?hw (.tmp 51) (.tmp 56) rfl w1.heap.size w5.heap.size 0 0 [] ?hs ?hn0 R0.out h5 Ae m ce ps ?hx hlm.out HR0.out HAe.out ?hm0 ?_); (case hw => rfl); (case hs => rfl); (case hn0 => rfl); (case hx => rfl); (case hm0 => omega); intro w6 g6 c6 R6 hg6 k6; rw [List.nil_append] at R6; have k56 : Kept w5 w6 := Kept.trans' k0 k6 (by omega); have O6 := HO5.out.kept k56; have W6 := HW5.out.kept k56; have HO6 := Lib.hid O6; have HW6 := Lib.hid W6; have HR6 := Lib.hid R6; have hlq : q < vs5.length := (by have := O6.len; omega); have hc6 : w6.cell? ⟨g2, q, none⟩ = some vs5[q] := (by rw [O6.cell _ (by omega), List.getElem?_eq_getElem hlq]); have hf6 : w6.frozen? ⟨g2, q, none⟩ = false := O6.frozen q; clear O6 W6 R6 k6)))
      have O7 := HO6.out.set_ q (.slice (some ⟨g6, 0, none⟩) m c6)
      have K7 : Keep (· = g2) w6 (w6.setCell ⟨g2, q, none⟩ (.slice (some ⟨g6, 0, none⟩) m c6)) := Keep.setCell (S := (· = g2)) (Keep.refl _ w6) (p := ⟨g2, q, none⟩) (fun _ => rfl) _
      generalize w6.setCell ⟨g2, q, none⟩ (.slice (some ⟨g6, 0, none⟩) m c6) = wz at O7 K7 ⊢
      have hk1z : Kept w1 wz := Kept.trans' (h15.trans k56) K7 (by omega)
      have hkz := hk1.trans hk1z
      have HO7 := Lib.hid O7
      have HK7 := Lib.hid K7
      clear O7 K7 hc6 hf6 k56 hlq
      have HVYz : Hid (RecV wz (.slice (some ⟨g2, 0, none⟩) n c2) Z) := by
        have hnr : ∀ g c xs, Row8 w6 g c xs → ¬ g = g2 := fun g c xs hr => own_ne HO6.out hr
        have h1 := (HW6.out.keep HK7.out hnr).set_ q hg6 (HR6.out.keep HK7.out (hnr _ _ _ HR6.out))
        rw [hlm.out, ← HZ.out] at h1
        exact ⟨_, n, c2, rfl, hlZ, recs_of_own HO7.out h1, hcap2.1, hcap2.2.1⟩
      have HGz := Lib.hid (hG.kept hkz)
      have HVXz := Lib.hid (HVX1.out.kept hk1z)
      clear hkw5 h15 HO5 HW5 HVX1 HE hle HO7 HR6 HW6 HO6 HK7 HYe hlY HRp HAe R0 k0 HR0 HZ hlm
      have HYe := HZe
      have hlY := hlZ
      clear HZe hlZ
      refine (links_any (.slice A1 n c1) X wz HGz.out HVXz.out (by have := hlX.out; omega) (fun x hx => by have := HXe.out x hx; omega)).mono ?_
      rintro e v1 ⟨u, rfl, gl, rfl, hgl, hbl, p1⟩
      rw [hlX.out]
      have HS1 := Lib.hid (sums_of_blk hbl (linksOf_each X))
      have HLl := Lib.hid ((linksOf_length X).trans hlX.out)
      have q1 := hkz.trans p1
      have HG1 := Lib.hid (HGz.out.kept p1)
      have HVX1 := Lib.hid (HVXz.out.kept p1)
      have HVY1 := Lib.hid (HVYz.out.kept p1)
      clear hbl p1 hkz HGz HVXz HVYz
      go_wp2_with fail
      refine (check_any _ Z (linksOf X) _ n n v1 HG1.out HVY1.out (by have := hlY.out; omega) (fun x hx => by have := HYe.out x hx; omega) HS1.out HLl (by omega)).mono ?_
      rintro e v2 ⟨rfl, p2⟩
      have q2 := q1.trans p2
      have HG2 := Lib.hid (HG1.out.kept p2)
      have HVX2 := Lib.hid (HVX1.out.kept p2)
      have HVY2 := Lib.hid (HVY1.out.kept p2)
      clear p2 q1 HG1 HVX1 HVY1 HS1
      by_cases hXY : X = Z
      · have hdd : diffOf (linksOf Z) (linksOf X) = -1 := by rw [hXY]; exact diff_self _
        rw [hdd]
        have HXY := Lib.hid hXY
        clear hdd hXY
        go_wp2_with fail
        refine (sameR_any _ _ X Z v2 HVX2.out HVY2.out (by have := hlX.out; omega) (by have := hlY.out; omega)).mono ?_
        rintro e v3 ⟨rfl, p3⟩
        rw [decide_eq_true HXY.out]
        have q3 := q2.trans p3
        have HG3 := Lib.hid (HG2.out.kept p3)
        clear p3 q2 HG2 HVX2 HVY2
        go_wp2_with fail
        refine (chainRuns_any v3 HG3.out).mono ?_
        rintro e v4 ⟨rfl, p4⟩
        have q4 := q3.trans p4
        clear p4 q3
        go_wp2
        go_ret
        exact ⟨rfl, q4⟩
      · have HXY := Lib.hid hXY
        clear hXY
        rcases diff_case (linksOf Z) (linksOf X) (by rw [linksOf_length, HLl.out, hlY.out]) with ⟨hdd, hll⟩ | ⟨dd, hdd, hdl⟩
        · have hla := last_ahead X Z (by rw [hlX.out, hlY.out]) hll.symm
          rcases chain_last X Z (by rw [hlX.out, hlY.out]) hla with h | ⟨j, hj, hcl⟩
          · exact absurd h HXY.out
          rw [hdd]
          have HJ := Lib.hid hj
          have HCL := Lib.hid hcl
          clear hdd hll hla hj hcl
          go_wp2_with fail
          refine (sameR_any _ _ X Z v2 HVX2.out HVY2.out (by have := hlX.out; omega) (by have := hlY.out; omega)).mono ?_
          rintro e v3 ⟨rfl, p3⟩
          rw [decide_eq_false HXY.out]
          have q3 := q2.trans p3
          have HG3 := Lib.hid (HG2.out.kept p3)
          have HVX3 := Lib.hid (HVX2.out.kept p3)
          have HVY3 := Lib.hid (HVY2.out.kept p3)
          clear p3 q2 HG2 HVX2 HVY2
          go_wp2_with fail
          refine (clash_any _ _ X Z v3 HG3.out HVX3.out HVY3.out (by have := hlX.out; omega) (by have := hlY.out; omega) (fun x hx => by have := HXe.out x hx; omega) (fun x hx => by have := HYe.out x hx; omega)).mono ?_
          rintro e v4 ⟨rfl, p4⟩
          rw [HJ.out]
          have q4 := q3.trans p4
          have HG4 := Lib.hid (HG3.out.kept p4)
          have HVX4 := Lib.hid (HVX3.out.kept p4)
          have HVY4 := Lib.hid (HVY3.out.kept p4)
          clear p4 q3 HG3 HVX3 HVY3
          go_wp2_with fail
          refine (clashes_true _ _ X Z j v4 HG4.out HVX4.out HVY4.out (by have := hlX.out; omega) (by have := hlY.out; omega) (fun x hx => by have := HXe.out x hx; omega) (fun x hx => by have := HYe.out x hx; omega) HCL.out).mono ?_
          rintro e v5 ⟨rfl, p5⟩
          have q5 := q4.trans p5
          have HG5 := Lib.hid (HG4.out.kept p5)
          clear p5 q4 HG4 HVX4 HVY4
          go_wp2_with fail
          refine (chainRuns_any v5 HG5.out).mono ?_
          rintro e v6 ⟨rfl, p6⟩
          have q6 := q5.trans p6
          clear p6 q5
          go_wp2
          go_ret
          exact ⟨rfl, q6⟩
        · rw [linksOf_length, hlY.out] at hdl
          rw [hdd]
          clear hdd
          go_wp2_with fail
          refine (sameR_any _ _ X Z v2 HVX2.out HVY2.out (by have := hlX.out; omega) (by have := hlY.out; omega)).mono ?_
          rintro e v3 ⟨rfl, p3⟩
          rw [decide_eq_false HXY.out]
          have q3 := q2.trans p3
          have HG3 := Lib.hid (HG2.out.kept p3)
          clear p3 q2 HG2 HVX2 HVY2
          go_wp2_with fail
          refine (chainRuns_any v3 HG3.out).mono ?_
          rintro e v4 ⟨rfl, p4⟩
          have q4 := q3.trans p4
          clear p4 q3
          go_wp2
          go_ret
          exact ⟨rfl, q4⟩
    · have hed' : ne ≤ 0 := by omega
      have hkz := hkw5
      have HGz := Lib.hid (hG.kept hkz)
      have HVXz := Lib.hid (HVX1.out.kept h15)
      have HVYz : Hid (RecV w5 (.slice (some ⟨g2, 0, none⟩) n c2) Y) := ⟨_, n, c2, rfl, hlY, recs_of_own HO5.out HW5.out, hcap2.1, hcap2.2.1⟩
      clear hkw5 h15 HO5 HW5 HVX1 HE hRe hAe hle
      generalize w5 = wz at hkz HGz HVXz HVYz ⊢
      go_wp2_with fail
      refine (links_any (.slice A1 n c1) X wz HGz.out HVXz.out (by have := hlX.out; omega) (fun x hx => by have := HXe.out x hx; omega)).mono ?_
      rintro e v1 ⟨u, rfl, gl, rfl, hgl, hbl, p1⟩
      rw [hlX.out]
      have HS1 := Lib.hid (sums_of_blk hbl (linksOf_each X))
      have HLl := Lib.hid ((linksOf_length X).trans hlX.out)
      have q1 := hkz.trans p1
      have HG1 := Lib.hid (HGz.out.kept p1)
      have HVX1 := Lib.hid (HVXz.out.kept p1)
      have HVY1 := Lib.hid (HVYz.out.kept p1)
      clear hbl p1 hkz HGz HVXz HVYz
      go_wp2_with fail
      refine (check_any _ Y (linksOf X) _ n n v1 HG1.out HVY1.out (by have := hlY.out; omega) (fun x hx => by have := HYe.out x hx; omega) HS1.out HLl (by omega)).mono ?_
      rintro e v2 ⟨rfl, p2⟩
      have q2 := q1.trans p2
      have HG2 := Lib.hid (HG1.out.kept p2)
      have HVX2 := Lib.hid (HVX1.out.kept p2)
      have HVY2 := Lib.hid (HVY1.out.kept p2)
      clear p2 q1 HG1 HVX1 HVY1 HS1
      by_cases hXY : X = Y
      · have hdd : diffOf (linksOf Y) (linksOf X) = -1 := by rw [hXY]; exact diff_self _
        rw [hdd]
        have HXY := Lib.hid hXY
        clear hdd hXY
        go_wp2_with fail
        refine (sameR_any _ _ X Y v2 HVX2.out HVY2.out (by have := hlX.out; omega) (by have := hlY.out; omega)).mono ?_
        rintro e v3 ⟨rfl, p3⟩
        rw [decide_eq_true HXY.out]
        have q3 := q2.trans p3
        have HG3 := Lib.hid (HG2.out.kept p3)
        clear p3 q2 HG2 HVX2 HVY2
        go_wp2_with fail
        refine (chainRuns_any v3 HG3.out).mono ?_
        rintro e v4 ⟨rfl, p4⟩
        have q4 := q3.trans p4
        clear p4 q3
        go_wp2
        go_ret
        exact ⟨rfl, q4⟩
      · have HXY := Lib.hid hXY
        clear hXY
        rcases diff_case (linksOf Y) (linksOf X) (by rw [linksOf_length, HLl.out, hlY.out]) with ⟨hdd, hll⟩ | ⟨dd, hdd, hdl⟩
        · have hla := last_ahead X Y (by rw [hlX.out, hlY.out]) hll.symm
          rcases chain_last X Y (by rw [hlX.out, hlY.out]) hla with h | ⟨j, hj, hcl⟩
          · exact absurd h HXY.out
          rw [hdd]
          have HJ := Lib.hid hj
          have HCL := Lib.hid hcl
          clear hdd hll hla hj hcl
          go_wp2_with fail
          refine (sameR_any _ _ X Y v2 HVX2.out HVY2.out (by have := hlX.out; omega) (by have := hlY.out; omega)).mono ?_
          rintro e v3 ⟨rfl, p3⟩
          rw [decide_eq_false HXY.out]
          have q3 := q2.trans p3
          have HG3 := Lib.hid (HG2.out.kept p3)
          have HVX3 := Lib.hid (HVX2.out.kept p3)
          have HVY3 := Lib.hid (HVY2.out.kept p3)
          clear p3 q2 HG2 HVX2 HVY2
          go_wp2_with fail
          refine (clash_any _ _ X Y v3 HG3.out HVX3.out HVY3.out (by have := hlX.out; omega) (by have := hlY.out; omega) (fun x hx => by have := HXe.out x hx; omega) (fun x hx => by have := HYe.out x hx; omega)).mono ?_
          rintro e v4 ⟨rfl, p4⟩
          rw [HJ.out]
          have q4 := q3.trans p4
          have HG4 := Lib.hid (HG3.out.kept p4)
          have HVX4 := Lib.hid (HVX3.out.kept p4)
          have HVY4 := Lib.hid (HVY3.out.kept p4)
          clear p4 q3 HG3 HVX3 HVY3
          go_wp2_with fail
          refine (clashes_true _ _ X Y j v4 HG4.out HVX4.out HVY4.out (by have := hlX.out; omega) (by have := hlY.out; omega) (fun x hx => by have := HXe.out x hx; omega) (fun x hx => by have := HYe.out x hx; omega) HCL.out).mono ?_
          rintro e v5 ⟨rfl, p5⟩
          have q5 := q4.trans p5
          have HG5 := Lib.hid (HG4.out.kept p5)
          clear p5 q4 HG4 HVX4 HVY4
          go_wp2_with fail
          refine (chainRuns_any v5 HG5.out).mono ?_
          rintro e v6 ⟨rfl, p6⟩
          have q6 := q5.trans p6
          clear p6 q5
          go_wp2
          go_ret
          exact ⟨rfl, q6⟩
        · rw [linksOf_length, hlY.out] at hdl
          rw [hdd]
          clear hdd
          go_wp2_with fail
          refine (sameR_any _ _ X Y v2 HVX2.out HVY2.out (by have := hlX.out; omega) (by have := hlY.out; omega)).mono ?_
          rintro e v3 ⟨rfl, p3⟩
          rw [decide_eq_false HXY.out]
          have q3 := q2.trans p3
          have HG3 := Lib.hid (HG2.out.kept p3)
          clear p3 q2 HG2 HVX2 HVY2
          go_wp2_with fail
          refine (chainRuns_any v3 HG3.out).mono ?_
          rintro e v4 ⟨rfl, p4⟩
          have q4 := q3.trans p4
          clear p4 q3
          go_wp2
          go_ret
          exact ⟨rfl, q4⟩
  · have hn0' : n ≤ 0 := by omega
    have HG2 := hG.kept hkw2
    have hne : ((n : Int) == 0) = true := by rw [beq_iff_eq]; omega
    go_wp2_with fail
    refine (chainRuns_any w2 HG2).mono ?_
    rintro e w3 ⟨rfl, hk3⟩
    have hkz := hkw2.trans hk3
    go_wp2
    go_ret
    exact ⟨rfl, hkz⟩
end Go.Proofs.YtholpkaicmckfaaDoor
