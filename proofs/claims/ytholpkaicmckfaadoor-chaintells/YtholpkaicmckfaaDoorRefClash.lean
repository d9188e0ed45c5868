/-
  The document's own Clash: jobberref1.Clash. Condition: lengths far below 2^47.
-/
import Derived.Test.YtholpkaicmckfaaDoorRefLinks
import Derived.Test.YtholpkaicmckfaaDoorChnClash
namespace Go.Proofs.YtholpkaicmckfaaDoor
open Go.RowKit
set_option linter.unusedVariables false

set_option maxRecDepth 100000 in
set_option maxHeartbeats 6400000 in
theorem refClash_any (va vb : Value) (La Lb : List (List UInt8)) (w : World) (ha : RecV w va La) (hb : RecV w vb Lb) (hna : La.length ≤ 100000) (hnb : Lb.length ≤ 100000) (hea : ∀ x ∈ La, x.length ≤ 90000) (heb : ∀ x ∈ Lb, x.length ≤ 90000) :
    Calls Tryd.prog 17 #[va, vb] w fun e w' => e = .returned (.int .i64 (clashOf La Lb)) ∧ Kept w w' := by
  have HVA := Lib.hid ha
  have HVB := Lib.hid hb
  obtain ⟨A, n, c, rfl, hla, hA, -, -⟩ := ha
  obtain ⟨B, m, d, rfl, hlb, hB, -, -⟩ := hb
  have hn : n ≤ 100000 := by have := hla.out; omega
  have hm : m ≤ 100000 := by have := hlb.out; omega
  have HA := Lib.hid hA
  have HB := Lib.hid hB
  obtain ⟨D, hD⟩ : ∃ D, D = clashOf La Lb := ⟨_, rfl⟩
  rw [← hD]
  have HD := Lib.hid hD
  clear hA hB hD
  go_enter Tryd.func17, Tryd.ntmps17
  go_wp2_with fail
  refine (refLinks_any _ La w HVA.out hna hea).mono ?_
  rintro e w1 ⟨u, rfl, X, c1, rfl, ho1, hk1⟩
  have hs1 := sums_of_own ho1 (linksOf_each La)
  rw [hla.out]
  go_wp2_with fail
  refine (refLinks_any _ Lb w1 (HVB.out.kept hk1) hnb heb).mono ?_
  rintro e w2 ⟨u, rfl, Y, c2, rfl, ho2, hk2⟩
  have hs2 := sums_of_own ho2 (linksOf_each Lb)
  rw [hlb.out]
  have hkw2 := hk1.trans hk2
  have HX := Lib.hid (hs1.kept hk2)
  have HY := Lib.hid hs2
  clear ho1 ho2 hs1 hs2 hk1 hk2 HVA HVB
  go_wp2_with fail
  go_loopw [7] (fun v wr => ∃ i : Nat, i ≤ n ∧ i ≤ m ∧ v = .int .i64 i ∧ Kept w2 wr ∧ Hid (D = clashFrom La Lb i (min La.length Lb.length - i))) (fun v _ => n - (intOf v).toNat)
  case atStart => exact ⟨0, Nat.zero_le _, Nat.zero_le _, rfl, Kept.refl _, HD⟩
  case round =>
    obtain ⟨i, hi1, hi2, rfl, hkr, HDi⟩ := hrel
    by_cases h1 : i < n
    · by_cases h2 : i < m
      · have hia : i < La.length := by rw [hla.out]; omega
        have hib : i < Lb.length := by rw [hlb.out]; omega
        obtain ⟨b1, o1, u1, rfl, hc1, hu1⟩ := HA.out i La[i] (List.getElem?_eq_getElem hia)
        obtain ⟨b2, o2, u2, rfl, hc2, hu2⟩ := HB.out i Lb[i] (List.getElem?_eq_getElem hib)
        obtain ⟨S, hS⟩ : ∃ S, S = aheadOf La (i + 1) := ⟨_, rfl⟩
        obtain ⟨T, hT⟩ : ∃ T, T = aheadOf Lb (i + 1) := ⟨_, rfl⟩
        obtain ⟨hSl, g1, rfl, hr1⟩ := HX.out i S (by rw [linksOf_ahead La i hia, hS])
        obtain ⟨hTl, g2, rfl, hr2⟩ := HY.out i T (by rw [linksOf_ahead Lb i hib, hT])
        obtain ⟨P, hP⟩ : ∃ P, P = aheadOf La i := ⟨_, rfl⟩
        obtain ⟨R, hR⟩ : ∃ R, R = aheadOf Lb i := ⟨_, rfl⟩
        have hPl : P.length = 32 := by rw [hP]; exact aheadOf_length La i (by omega)
        have hRl : R.length = 32 := by rw [hR]; exact aheadOf_length Lb i (by omega)
        have HP0 : Hid (i = 0 → cells8 P = z32 ∧ cells8 R = z32) := fun h => by subst h; rw [hP, hR]; exact ⟨rfl, rfl⟩
        have HP1 : Hid (0 < i → w2.rangeAt g1 ((i - 1) * 32) (cells8 P) ∧ w2.rangeAt g2 ((i - 1) * 32) (cells8 R)) := fun h => by
          obtain ⟨_, g3, e3, hr3⟩ := HX.out (i - 1) P (by rw [linksOf_ahead La (i - 1) (by omega), show i - 1 + 1 = i by omega, hP])
          obtain ⟨_, g4, e4, hr4⟩ := HY.out (i - 1) R (by rw [linksOf_ahead Lb (i - 1) (by omega), show i - 1 + 1 = i by omega, hR])
          injection e3 with e3
          injection e3 with e3
          injection e4 with e4
          injection e4 with e4
          subst e3 e4
          exact ⟨hr3, hr4⟩
        have hmi : Hid (i < min La.length Lb.length) := by show _ < _; omega
        have HEQ : Hid (clashAt La Lb i ↔ (S = T ∧ (P ≠ R ∨ La[i] ≠ Lb[i]))) := by
          show _ ↔ _
          unfold clashAt
          rw [List.getElem?_eq_getElem hia, List.getElem?_eq_getElem hib, ← hS, ← hT, ← hP, ← hR]
          simp [hia, hib]
        clear hS hT hP hR
        generalize La[i] = xa at hu1 HEQ
        generalize Lb[i] = xb at hu2 HEQ
        have HC1 : Hid (w.cell? ⟨b1, o1 + i * 1, none⟩ = some u1) := by show _ = _; rw [Nat.mul_one]; exact hc1
        have HC2 : Hid (w.cell? ⟨b2, o2 + i * 1, none⟩ = some u2) := by show _ = _; rw [Nat.mul_one]; exact hc2
        have HU1 := Lib.hid hu1
        have HU2 := Lib.hid hu2
        have HR1 := Lib.hid hr1
        have HR2 := Lib.hid hr2
        have HPl := Lib.hid hPl
        have HRl := Lib.hid hRl
        have HSl := Lib.hid hSl
        have HTl := Lib.hid hTl
        have hiP := size_arr P hPl
        have hiR := size_arr R hRl
        have hzP := zlen_arr P hPl
        have hzR := zlen_arr R hRl
        clear hc1 hc2 hu1 hu2 hr1 hr2 hia hib hPl hRl hSl hTl
        by_cases hi0 : i = 0
        · have hgt : decide ((0 : Int) < (i : Int)) = false := by simp; omega
          have HI0 := Lib.hid hi0
          have hle0 : i ≤ 0 := by omega
          clear hi0 hgt
          go_wp2_with ((with_reducible show wpList _ _ _ _ _ _); (first
            | ((with_reducible refine wpl_alloc (o := ⟨some 8, _, _, _, _, _⟩) _ rfl 30 rfl z32 sum_zero ?_); intro w3 hb3 hs3 hk3; clear hs3)
            | ((with_reducible refine wpl_alloc (o := ⟨some 9, _, _, _, _, _⟩) _ rfl 30 rfl z32 sum_zero ?_); intro w4 hb4 hs4 hk4; clear hs4)))
          have hkw4 : Kept w2 w4 := (hkr.trans hk3).trans hk4
          have hb34 := hb3.kept hk4
          have hlt3 := hb3.lt
          have hle := hkr.size
          generalize wr.heap.size = gp at hb34 hb4 hlt3 hle ⊢
          generalize w3.heap.size = gq at hb4 hlt3 ⊢
          clear hk3 hk4 hb3 hkr
          have hbp6 : Blk w4 gp 30 (cells8 P) := by rw [(HP0.out HI0.out).1]; exact hb34
          have hbq6 : Blk w4 gq 30 (cells8 R) := by rw [(HP0.out HI0.out).2]; exact hb4
          generalize w4 = w6 at hbp6 hbq6 hkw4 ⊢
          have hkw6 := hkw4
          clear hkw4 HP0 HP1
          by_cases hST : S = T
          · by_cases hPR : P = R
            · by_cases hxx : xa = xb
              · skip
                refine wp_sched (fun u => Kept w2 u ∧ Blk u gp 30 (cells8 P) ∧ Blk u gq 30 (cells8 R)) [(0, 0), (1, 0), (2, 0), (3, 0), (4, 0), (5, 0), (6, 0), (7, 0), (8, 0), (9, 0), (10, 0), (11, 0), (12, 0), (13, 0), (14, 0), (15, 0), (16, 0), (17, 0), (18, 0), (19, 0), (20, 0), (21, 0), (22, 0), (23, 0), (24, 0), (25, 0), (26, 0)] (by kernel_rfl) (by kernel_rfl) (⟨Keep.drew hkw6, hbp6, hbq6⟩) ?_
                refine s_val (o := ⟨some 38, _, _, _, _, _⟩) (.slice (some ⟨g1, 0, none⟩) n c1) rfl (by kernel_rfl) (fun u hu => exec_move (.tmp 5) (.slice (some ⟨g1, 0, none⟩) n c1) rfl (by kernel_rfl)) ?_
                simp only [Act.put, List.setIfInBounds_toArray, List.set_cons_succ, List.set_cons_zero]
                refine s_val (o := ⟨some 39, _, _, _, _, _⟩) (.int .i64 (i : Int)) rfl (by kernel_rfl) (fun u hu => exec_move (.tmp 7) (.int .i64 (i : Int)) rfl (by kernel_rfl)) ?_
                simp only [Act.put, List.setIfInBounds_toArray, List.set_cons_succ, List.set_cons_zero]
                refine s_val (o := ⟨some 40, _, _, _, _, _⟩) (.pointer (some ⟨g1, 0 + i * 32, none⟩)) rfl (by kernel_rfl) (fun u hu => exec_index 24 30 32 (.tmp 38) (.tmp 39) (g1) (0) (n) (c1) (i) rfl Tryd.underlying24 sum_size (by kernel_rfl) (by kernel_rfl) (by omega)) ?_
                simp only [Act.put, List.setIfInBounds_toArray, List.set_cons_succ, List.set_cons_zero]
                refine s_val (o := ⟨some 41, _, _, _, _, _⟩) (.agg (cells8 S).toArray) rfl (by kernel_rfl) (fun u hu => exec_load_mid (.tmp 40) g1 (0 + i * 32) S rfl (by kernel_rfl) (fun j v hv => by rw [Nat.zero_add]; exact Kept.cell hu.1 (HR1.out j v hv)) HSl.out) ?_
                simp only [Act.put, List.setIfInBounds_toArray, List.set_cons_succ, List.set_cons_zero]
                refine s_val (o := ⟨some 42, _, _, _, _, _⟩) (.slice (some ⟨g2, 0, none⟩) m c2) rfl (by kernel_rfl) (fun u hu => exec_move (.tmp 6) (.slice (some ⟨g2, 0, none⟩) m c2) rfl (by kernel_rfl)) ?_
                simp only [Act.put, List.setIfInBounds_toArray, List.set_cons_succ, List.set_cons_zero]
                refine s_val (o := ⟨some 43, _, _, _, _, _⟩) (.int .i64 (i : Int)) rfl (by kernel_rfl) (fun u hu => exec_move (.tmp 7) (.int .i64 (i : Int)) rfl (by kernel_rfl)) ?_
                simp only [Act.put, List.setIfInBounds_toArray, List.set_cons_succ, List.set_cons_zero]
                refine s_val (o := ⟨some 44, _, _, _, _, _⟩) (.pointer (some ⟨g2, 0 + i * 32, none⟩)) rfl (by kernel_rfl) (fun u hu => exec_index 24 30 32 (.tmp 42) (.tmp 43) (g2) (0) (m) (c2) (i) rfl Tryd.underlying24 sum_size (by kernel_rfl) (by kernel_rfl) (by omega)) ?_
                simp only [Act.put, List.setIfInBounds_toArray, List.set_cons_succ, List.set_cons_zero]
                refine s_val (o := ⟨some 45, _, _, _, _, _⟩) (.agg (cells8 T).toArray) rfl (by kernel_rfl) (fun u hu => exec_load_mid (.tmp 44) g2 (0 + i * 32) T rfl (by kernel_rfl) (fun j v hv => by rw [Nat.zero_add]; exact Kept.cell hu.1 (HR2.out j v hv)) HTl.out) ?_
                simp only [Act.put, List.setIfInBounds_toArray, List.set_cons_succ, List.set_cons_zero]
                refine s_val (o := ⟨some 46, _, _, _, _, _⟩) (.bool true) rfl (by kernel_rfl) (fun u hu => (by rw [exec_eql8 (.tmp 41) (.tmp 45) _ S T rfl (by kernel_rfl) (by kernel_rfl) HSl.out HTl.out, decide_eq_true hST])) ?_
                simp only [Act.put, List.setIfInBounds_toArray, List.set_cons_succ, List.set_cons_zero]
                refine s_val (o := ⟨some 47, _, _, _, _, _⟩) (.bool true) rfl (by kernel_rfl) (fun u hu => exec_move (.tmp 46) (.bool true) rfl (by kernel_rfl)) ?_
                simp only [Act.put, List.setIfInBounds_toArray, List.set_cons_succ, List.set_cons_zero]
                refine s_val (o := ⟨some 48, _, _, _, _, _⟩) (.agg (cells8 P).toArray) rfl (by kernel_rfl) (fun u hu => exec_load_row 30 (.tmp 8) gp 32 30 5 (cells8 P) rfl (by kernel_rfl) hu.2.1 Tryd.underlying30 hiP.out) ?_
                simp only [Act.put, List.setIfInBounds_toArray, List.set_cons_succ, List.set_cons_zero]
                refine s_val (o := ⟨some 49, _, _, _, _, _⟩) (.agg (cells8 R).toArray) rfl (by kernel_rfl) (fun u hu => exec_load_row 30 (.tmp 9) gq 32 30 5 (cells8 R) rfl (by kernel_rfl) hu.2.2 Tryd.underlying30 hiR.out) ?_
                simp only [Act.put, List.setIfInBounds_toArray, List.set_cons_succ, List.set_cons_zero]
                refine s_val (o := ⟨some 50, _, _, _, _, _⟩) (.bool false) rfl (by kernel_rfl) (fun u hu => (by rw [exec_neq8 (.tmp 48) (.tmp 49) _ P R rfl (by kernel_rfl) (by kernel_rfl) HPl.out HRl.out, decide_eq_true hPR]; rfl)) ?_
                simp only [Act.put, List.setIfInBounds_toArray, List.set_cons_succ, List.set_cons_zero]
                refine s_val (o := ⟨some 51, _, _, _, _, _⟩) (.bool false) rfl (by kernel_rfl) (fun u hu => exec_move (.tmp 50) (.bool false) rfl (by kernel_rfl)) ?_
                simp only [Act.put, List.setIfInBounds_toArray, List.set_cons_succ, List.set_cons_zero]
                refine s_val (o := ⟨some 52, _, _, _, _, _⟩) (.slice (some ⟨b1, o1, none⟩) n c) rfl (by kernel_rfl) (fun u hu => exec_move (.tmp 0) (.slice (some ⟨b1, o1, none⟩) n c) rfl (by kernel_rfl)) ?_
                simp only [Act.put, List.setIfInBounds_toArray, List.set_cons_succ, List.set_cons_zero]
                refine s_val (o := ⟨some 53, _, _, _, _, _⟩) (.int .i64 (i : Int)) rfl (by kernel_rfl) (fun u hu => exec_move (.tmp 7) (.int .i64 (i : Int)) rfl (by kernel_rfl)) ?_
                simp only [Act.put, List.setIfInBounds_toArray, List.set_cons_succ, List.set_cons_zero]
                refine s_val (o := ⟨some 54, _, _, _, _, _⟩) (.pointer (some ⟨b1, o1 + i * 1, none⟩)) rfl (by kernel_rfl) (fun u hu => exec_index 23 22 1 (.tmp 52) (.tmp 53) (b1) (o1) (n) (c) (i) rfl Tryd.underlying23 sl_size (by kernel_rfl) (by kernel_rfl) (by omega)) ?_
                simp only [Act.put, List.setIfInBounds_toArray, List.set_cons_succ, List.set_cons_zero]
                refine s_val (o := ⟨some 55, _, _, _, _, _⟩) (u1) rfl (by kernel_rfl) (fun u hu => exec_load_sl (.tmp 54) ⟨b1, o1 + i * 1, none⟩ u1 rfl (by kernel_rfl) (Kept.cell (hkw2.trans hu.1) HC1.out)) ?_
                simp only [Act.put, List.setIfInBounds_toArray, List.set_cons_succ, List.set_cons_zero]
                refine s_val (o := ⟨some 56, _, _, _, _, _⟩) (.string ⟨xa.toArray⟩) rfl (by kernel_rfl) (fun u hu => exec_conv (.tmp 55) u1 xa rfl (by kernel_rfl) (HU1.out.kept (hkw2.trans hu.1))) ?_
                simp only [Act.put, List.setIfInBounds_toArray, List.set_cons_succ, List.set_cons_zero]
                refine s_val (o := ⟨some 57, _, _, _, _, _⟩) (.slice (some ⟨b2, o2, none⟩) m d) rfl (by kernel_rfl) (fun u hu => exec_move (.tmp 1) (.slice (some ⟨b2, o2, none⟩) m d) rfl (by kernel_rfl)) ?_
                simp only [Act.put, List.setIfInBounds_toArray, List.set_cons_succ, List.set_cons_zero]
                refine s_val (o := ⟨some 58, _, _, _, _, _⟩) (.int .i64 (i : Int)) rfl (by kernel_rfl) (fun u hu => exec_move (.tmp 7) (.int .i64 (i : Int)) rfl (by kernel_rfl)) ?_
                simp only [Act.put, List.setIfInBounds_toArray, List.set_cons_succ, List.set_cons_zero]
                refine s_val (o := ⟨some 59, _, _, _, _, _⟩) (.pointer (some ⟨b2, o2 + i * 1, none⟩)) rfl (by kernel_rfl) (fun u hu => exec_index 23 22 1 (.tmp 57) (.tmp 58) (b2) (o2) (m) (d) (i) rfl Tryd.underlying23 sl_size (by kernel_rfl) (by kernel_rfl) (by omega)) ?_
                simp only [Act.put, List.setIfInBounds_toArray, List.set_cons_succ, List.set_cons_zero]
                refine s_val (o := ⟨some 60, _, _, _, _, _⟩) (u2) rfl (by kernel_rfl) (fun u hu => exec_load_sl (.tmp 59) ⟨b2, o2 + i * 1, none⟩ u2 rfl (by kernel_rfl) (Kept.cell (hkw2.trans hu.1) HC2.out)) ?_
                simp only [Act.put, List.setIfInBounds_toArray, List.set_cons_succ, List.set_cons_zero]
                refine s_val (o := ⟨some 61, _, _, _, _, _⟩) (.string ⟨xb.toArray⟩) rfl (by kernel_rfl) (fun u hu => exec_conv (.tmp 60) u2 xb rfl (by kernel_rfl) (HU2.out.kept (hkw2.trans hu.1))) ?_
                simp only [Act.put, List.setIfInBounds_toArray, List.set_cons_succ, List.set_cons_zero]
                refine s_val (o := ⟨some 62, _, _, _, _, _⟩) (.bool false) rfl (by kernel_rfl) (fun u hu => exec_neqs (.tmp 56) (.tmp 61) _ xa xb rfl (by kernel_rfl) (by kernel_rfl) false (by rw [decide_eq_true hxx]; rfl)) ?_
                simp only [Act.put, List.setIfInBounds_toArray, List.set_cons_succ, List.set_cons_zero]
                refine s_val (o := ⟨some 63, _, _, _, _, _⟩) (.bool false) rfl (by kernel_rfl) (fun u hu => exec_pickF (.tmp 51) (.const (.bool true)) (.tmp 62) (.bool false) rfl (by kernel_rfl) (by kernel_rfl)) ?_
                simp only [Act.put, List.setIfInBounds_toArray, List.set_cons_succ, List.set_cons_zero]
                refine s_val (o := ⟨some 64, _, _, _, _, _⟩) (.bool false) rfl (by kernel_rfl) (fun u hu => exec_pick (.tmp 47) (.tmp 63) (.const (.bool false)) (.bool false) rfl (by kernel_rfl) (by kernel_rfl)) ?_
                simp only [Act.put, List.setIfInBounds_toArray, List.set_cons_succ, List.set_cons_zero]
                refine s_done ?_
                have HDn := Lib.hid (HDi.out.trans (clash_next La Lb i hmi.out (fun h => (HEQ.out.1 h).2.elim (fun h => h hPR) (fun h => h hxx))))
                have hkz : Kept w2 w6.drew := Keep.drew hkw6
                clear hST hPR hxx hkw6 hbp6 hbq6
                go_wp2
                exact ⟨⟨i + 1, by omega, by omega, by go_num, hkz, HDn⟩, by simp [intOf]; omega⟩
              · skip
                refine wp_sched (fun u => Kept w2 u ∧ Blk u gp 30 (cells8 P) ∧ Blk u gq 30 (cells8 R)) [(0, 0), (1, 0), (2, 0), (3, 0), (4, 0), (5, 0), (6, 0), (7, 0), (8, 0), (9, 0), (10, 0), (11, 0), (12, 0), (13, 0), (14, 0), (15, 0), (16, 0), (17, 0), (18, 0), (19, 0), (20, 0), (21, 0), (22, 0), (23, 0), (24, 0), (25, 0), (26, 0)] (by kernel_rfl) (by kernel_rfl) (⟨Keep.drew hkw6, hbp6, hbq6⟩) ?_
                refine s_val (o := ⟨some 38, _, _, _, _, _⟩) (.slice (some ⟨g1, 0, none⟩) n c1) rfl (by kernel_rfl) (fun u hu => exec_move (.tmp 5) (.slice (some ⟨g1, 0, none⟩) n c1) rfl (by kernel_rfl)) ?_
                simp only [Act.put, List.setIfInBounds_toArray, List.set_cons_succ, List.set_cons_zero]
                refine s_val (o := ⟨some 39, _, _, _, _, _⟩) (.int .i64 (i : Int)) rfl (by kernel_rfl) (fun u hu => exec_move (.tmp 7) (.int .i64 (i : Int)) rfl (by kernel_rfl)) ?_
                simp only [Act.put, List.setIfInBounds_toArray, List.set_cons_succ, List.set_cons_zero]
                refine s_val (o := ⟨some 40, _, _, _, _, _⟩) (.pointer (some ⟨g1, 0 + i * 32, none⟩)) rfl (by kernel_rfl) (fun u hu => exec_index 24 30 32 (.tmp 38) (.tmp 39) (g1) (0) (n) (c1) (i) rfl Tryd.underlying24 sum_size (by kernel_rfl) (by kernel_rfl) (by omega)) ?_
                simp only [Act.put, List.setIfInBounds_toArray, List.set_cons_succ, List.set_cons_zero]
                refine s_val (o := ⟨some 41, _, _, _, _, _⟩) (.agg (cells8 S).toArray) rfl (by kernel_rfl) (fun u hu => exec_load_mid (.tmp 40) g1 (0 + i * 32) S rfl (by kernel_rfl) (fun j v hv => by rw [Nat.zero_add]; exact Kept.cell hu.1 (HR1.out j v hv)) HSl.out) ?_
                simp only [Act.put, List.setIfInBounds_toArray, List.set_cons_succ, List.set_cons_zero]
                refine s_val (o := ⟨some 42, _, _, _, _, _⟩) (.slice (some ⟨g2, 0, none⟩) m c2) rfl (by kernel_rfl) (fun u hu => exec_move (.tmp 6) (.slice (some ⟨g2, 0, none⟩) m c2) rfl (by kernel_rfl)) ?_
                simp only [Act.put, List.setIfInBounds_toArray, List.set_cons_succ, List.set_cons_zero]
                refine s_val (o := ⟨some 43, _, _, _, _, _⟩) (.int .i64 (i : Int)) rfl (by kernel_rfl) (fun u hu => exec_move (.tmp 7) (.int .i64 (i : Int)) rfl (by kernel_rfl)) ?_
                simp only [Act.put, List.setIfInBounds_toArray, List.set_cons_succ, List.set_cons_zero]
                refine s_val (o := ⟨some 44, _, _, _, _, _⟩) (.pointer (some ⟨g2, 0 + i * 32, none⟩)) rfl (by kernel_rfl) (fun u hu => exec_index 24 30 32 (.tmp 42) (.tmp 43) (g2) (0) (m) (c2) (i) rfl Tryd.underlying24 sum_size (by kernel_rfl) (by kernel_rfl) (by omega)) ?_
                simp only [Act.put, List.setIfInBounds_toArray, List.set_cons_succ, List.set_cons_zero]
                refine s_val (o := ⟨some 45, _, _, _, _, _⟩) (.agg (cells8 T).toArray) rfl (by kernel_rfl) (fun u hu => exec_load_mid (.tmp 44) g2 (0 + i * 32) T rfl (by kernel_rfl) (fun j v hv => by rw [Nat.zero_add]; exact Kept.cell hu.1 (HR2.out j v hv)) HTl.out) ?_
                simp only [Act.put, List.setIfInBounds_toArray, List.set_cons_succ, List.set_cons_zero]
                refine s_val (o := ⟨some 46, _, _, _, _, _⟩) (.bool true) rfl (by kernel_rfl) (fun u hu => (by rw [exec_eql8 (.tmp 41) (.tmp 45) _ S T rfl (by kernel_rfl) (by kernel_rfl) HSl.out HTl.out, decide_eq_true hST])) ?_
                simp only [Act.put, List.setIfInBounds_toArray, List.set_cons_succ, List.set_cons_zero]
                refine s_val (o := ⟨some 47, _, _, _, _, _⟩) (.bool true) rfl (by kernel_rfl) (fun u hu => exec_move (.tmp 46) (.bool true) rfl (by kernel_rfl)) ?_
                simp only [Act.put, List.setIfInBounds_toArray, List.set_cons_succ, List.set_cons_zero]
                refine s_val (o := ⟨some 48, _, _, _, _, _⟩) (.agg (cells8 P).toArray) rfl (by kernel_rfl) (fun u hu => exec_load_row 30 (.tmp 8) gp 32 30 5 (cells8 P) rfl (by kernel_rfl) hu.2.1 Tryd.underlying30 hiP.out) ?_
                simp only [Act.put, List.setIfInBounds_toArray, List.set_cons_succ, List.set_cons_zero]
                refine s_val (o := ⟨some 49, _, _, _, _, _⟩) (.agg (cells8 R).toArray) rfl (by kernel_rfl) (fun u hu => exec_load_row 30 (.tmp 9) gq 32 30 5 (cells8 R) rfl (by kernel_rfl) hu.2.2 Tryd.underlying30 hiR.out) ?_
                simp only [Act.put, List.setIfInBounds_toArray, List.set_cons_succ, List.set_cons_zero]
                refine s_val (o := ⟨some 50, _, _, _, _, _⟩) (.bool false) rfl (by kernel_rfl) (fun u hu => (by rw [exec_neq8 (.tmp 48) (.tmp 49) _ P R rfl (by kernel_rfl) (by kernel_rfl) HPl.out HRl.out, decide_eq_true hPR]; rfl)) ?_
                simp only [Act.put, List.setIfInBounds_toArray, List.set_cons_succ, List.set_cons_zero]
                refine s_val (o := ⟨some 51, _, _, _, _, _⟩) (.bool false) rfl (by kernel_rfl) (fun u hu => exec_move (.tmp 50) (.bool false) rfl (by kernel_rfl)) ?_
                simp only [Act.put, List.setIfInBounds_toArray, List.set_cons_succ, List.set_cons_zero]
                refine s_val (o := ⟨some 52, _, _, _, _, _⟩) (.slice (some ⟨b1, o1, none⟩) n c) rfl (by kernel_rfl) (fun u hu => exec_move (.tmp 0) (.slice (some ⟨b1, o1, none⟩) n c) rfl (by kernel_rfl)) ?_
                simp only [Act.put, List.setIfInBounds_toArray, List.set_cons_succ, List.set_cons_zero]
                refine s_val (o := ⟨some 53, _, _, _, _, _⟩) (.int .i64 (i : Int)) rfl (by kernel_rfl) (fun u hu => exec_move (.tmp 7) (.int .i64 (i : Int)) rfl (by kernel_rfl)) ?_
                simp only [Act.put, List.setIfInBounds_toArray, List.set_cons_succ, List.set_cons_zero]
                refine s_val (o := ⟨some 54, _, _, _, _, _⟩) (.pointer (some ⟨b1, o1 + i * 1, none⟩)) rfl (by kernel_rfl) (fun u hu => exec_index 23 22 1 (.tmp 52) (.tmp 53) (b1) (o1) (n) (c) (i) rfl Tryd.underlying23 sl_size (by kernel_rfl) (by kernel_rfl) (by omega)) ?_
                simp only [Act.put, List.setIfInBounds_toArray, List.set_cons_succ, List.set_cons_zero]
                refine s_val (o := ⟨some 55, _, _, _, _, _⟩) (u1) rfl (by kernel_rfl) (fun u hu => exec_load_sl (.tmp 54) ⟨b1, o1 + i * 1, none⟩ u1 rfl (by kernel_rfl) (Kept.cell (hkw2.trans hu.1) HC1.out)) ?_
                simp only [Act.put, List.setIfInBounds_toArray, List.set_cons_succ, List.set_cons_zero]
                refine s_val (o := ⟨some 56, _, _, _, _, _⟩) (.string ⟨xa.toArray⟩) rfl (by kernel_rfl) (fun u hu => exec_conv (.tmp 55) u1 xa rfl (by kernel_rfl) (HU1.out.kept (hkw2.trans hu.1))) ?_
                simp only [Act.put, List.setIfInBounds_toArray, List.set_cons_succ, List.set_cons_zero]
                refine s_val (o := ⟨some 57, _, _, _, _, _⟩) (.slice (some ⟨b2, o2, none⟩) m d) rfl (by kernel_rfl) (fun u hu => exec_move (.tmp 1) (.slice (some ⟨b2, o2, none⟩) m d) rfl (by kernel_rfl)) ?_
                simp only [Act.put, List.setIfInBounds_toArray, List.set_cons_succ, List.set_cons_zero]
                refine s_val (o := ⟨some 58, _, _, _, _, _⟩) (.int .i64 (i : Int)) rfl (by kernel_rfl) (fun u hu => exec_move (.tmp 7) (.int .i64 (i : Int)) rfl (by kernel_rfl)) ?_
                simp only [Act.put, List.setIfInBounds_toArray, List.set_cons_succ, List.set_cons_zero]
                refine s_val (o := ⟨some 59, _, _, _, _, _⟩) (.pointer (some ⟨b2, o2 + i * 1, none⟩)) rfl (by kernel_rfl) (fun u hu => exec_index 23 22 1 (.tmp 57) (.tmp 58) (b2) (o2) (m) (d) (i) rfl Tryd.underlying23 sl_size (by kernel_rfl) (by kernel_rfl) (by omega)) ?_
                simp only [Act.put, List.setIfInBounds_toArray, List.set_cons_succ, List.set_cons_zero]
                refine s_val (o := ⟨some 60, _, _, _, _, _⟩) (u2) rfl (by kernel_rfl) (fun u hu => exec_load_sl (.tmp 59) ⟨b2, o2 + i * 1, none⟩ u2 rfl (by kernel_rfl) (Kept.cell (hkw2.trans hu.1) HC2.out)) ?_
                simp only [Act.put, List.setIfInBounds_toArray, List.set_cons_succ, List.set_cons_zero]
                refine s_val (o := ⟨some 61, _, _, _, _, _⟩) (.string ⟨xb.toArray⟩) rfl (by kernel_rfl) (fun u hu => exec_conv (.tmp 60) u2 xb rfl (by kernel_rfl) (HU2.out.kept (hkw2.trans hu.1))) ?_
                simp only [Act.put, List.setIfInBounds_toArray, List.set_cons_succ, List.set_cons_zero]
                refine s_val (o := ⟨some 62, _, _, _, _, _⟩) (.bool true) rfl (by kernel_rfl) (fun u hu => exec_neqs (.tmp 56) (.tmp 61) _ xa xb rfl (by kernel_rfl) (by kernel_rfl) true (by rw [decide_eq_false hxx]; rfl)) ?_
                simp only [Act.put, List.setIfInBounds_toArray, List.set_cons_succ, List.set_cons_zero]
                refine s_val (o := ⟨some 63, _, _, _, _, _⟩) (.bool true) rfl (by kernel_rfl) (fun u hu => exec_pickF (.tmp 51) (.const (.bool true)) (.tmp 62) (.bool true) rfl (by kernel_rfl) (by kernel_rfl)) ?_
                simp only [Act.put, List.setIfInBounds_toArray, List.set_cons_succ, List.set_cons_zero]
                refine s_val (o := ⟨some 64, _, _, _, _, _⟩) (.bool true) rfl (by kernel_rfl) (fun u hu => exec_pick (.tmp 47) (.tmp 63) (.const (.bool false)) (.bool true) rfl (by kernel_rfl) (by kernel_rfl)) ?_
                simp only [Act.put, List.setIfInBounds_toArray, List.set_cons_succ, List.set_cons_zero]
                refine s_done ?_
                have HDn := Lib.hid (HDi.out.trans (clash_hit La Lb i hmi.out (HEQ.out.2 ⟨hST, .inr hxx⟩)))
                have hkz : Kept w w6.drew := hkw2.trans (Keep.drew hkw6)
                clear hST hPR hxx hkw6 hbp6 hbq6
                go_wp2
                go_ret
                exact ⟨ret_int HDn.out.symm, hkz⟩
            · skip
              refine wp_sched (fun u => Kept w2 u ∧ Blk u gp 30 (cells8 P) ∧ Blk u gq 30 (cells8 R)) [(0, 0), (1, 0), (2, 0), (3, 0), (4, 0), (5, 0), (6, 0), (7, 0), (8, 0), (9, 0), (10, 0), (11, 0), (12, 0), (13, 0), (14, 0), (15, 0), (16, 0), (17, 0), (18, 0), (19, 0), (20, 0), (21, 0), (22, 0), (23, 0), (24, 0), (25, 0), (26, 0)] (by kernel_rfl) (by kernel_rfl) (⟨Keep.drew hkw6, hbp6, hbq6⟩) ?_
              refine s_val (o := ⟨some 38, _, _, _, _, _⟩) (.slice (some ⟨g1, 0, none⟩) n c1) rfl (by kernel_rfl) (fun u hu => exec_move (.tmp 5) (.slice (some ⟨g1, 0, none⟩) n c1) rfl (by kernel_rfl)) ?_
              simp only [Act.put, List.setIfInBounds_toArray, List.set_cons_succ, List.set_cons_zero]
              refine s_val (o := ⟨some 39, _, _, _, _, _⟩) (.int .i64 (i : Int)) rfl (by kernel_rfl) (fun u hu => exec_move (.tmp 7) (.int .i64 (i : Int)) rfl (by kernel_rfl)) ?_
              simp only [Act.put, List.setIfInBounds_toArray, List.set_cons_succ, List.set_cons_zero]
              refine s_val (o := ⟨some 40, _, _, _, _, _⟩) (.pointer (some ⟨g1, 0 + i * 32, none⟩)) rfl (by kernel_rfl) (fun u hu => exec_index 24 30 32 (.tmp 38) (.tmp 39) (g1) (0) (n) (c1) (i) rfl Tryd.underlying24 sum_size (by kernel_rfl) (by kernel_rfl) (by omega)) ?_
              simp only [Act.put, List.setIfInBounds_toArray, List.set_cons_succ, List.set_cons_zero]
              refine s_val (o := ⟨some 41, _, _, _, _, _⟩) (.agg (cells8 S).toArray) rfl (by kernel_rfl) (fun u hu => exec_load_mid (.tmp 40) g1 (0 + i * 32) S rfl (by kernel_rfl) (fun j v hv => by rw [Nat.zero_add]; exact Kept.cell hu.1 (HR1.out j v hv)) HSl.out) ?_
              simp only [Act.put, List.setIfInBounds_toArray, List.set_cons_succ, List.set_cons_zero]
              refine s_val (o := ⟨some 42, _, _, _, _, _⟩) (.slice (some ⟨g2, 0, none⟩) m c2) rfl (by kernel_rfl) (fun u hu => exec_move (.tmp 6) (.slice (some ⟨g2, 0, none⟩) m c2) rfl (by kernel_rfl)) ?_
              simp only [Act.put, List.setIfInBounds_toArray, List.set_cons_succ, List.set_cons_zero]
              refine s_val (o := ⟨some 43, _, _, _, _, _⟩) (.int .i64 (i : Int)) rfl (by kernel_rfl) (fun u hu => exec_move (.tmp 7) (.int .i64 (i : Int)) rfl (by kernel_rfl)) ?_
              simp only [Act.put, List.setIfInBounds_toArray, List.set_cons_succ, List.set_cons_zero]
              refine s_val (o := ⟨some 44, _, _, _, _, _⟩) (.pointer (some ⟨g2, 0 + i * 32, none⟩)) rfl (by kernel_rfl) (fun u hu => exec_index 24 30 32 (.tmp 42) (.tmp 43) (g2) (0) (m) (c2) (i) rfl Tryd.underlying24 sum_size (by kernel_rfl) (by kernel_rfl) (by omega)) ?_
              simp only [Act.put, List.setIfInBounds_toArray, List.set_cons_succ, List.set_cons_zero]
              refine s_val (o := ⟨some 45, _, _, _, _, _⟩) (.agg (cells8 T).toArray) rfl (by kernel_rfl) (fun u hu => exec_load_mid (.tmp 44) g2 (0 + i * 32) T rfl (by kernel_rfl) (fun j v hv => by rw [Nat.zero_add]; exact Kept.cell hu.1 (HR2.out j v hv)) HTl.out) ?_
              simp only [Act.put, List.setIfInBounds_toArray, List.set_cons_succ, List.set_cons_zero]
              refine s_val (o := ⟨some 46, _, _, _, _, _⟩) (.bool true) rfl (by kernel_rfl) (fun u hu => (by rw [exec_eql8 (.tmp 41) (.tmp 45) _ S T rfl (by kernel_rfl) (by kernel_rfl) HSl.out HTl.out, decide_eq_true hST])) ?_
              simp only [Act.put, List.setIfInBounds_toArray, List.set_cons_succ, List.set_cons_zero]
              refine s_val (o := ⟨some 47, _, _, _, _, _⟩) (.bool true) rfl (by kernel_rfl) (fun u hu => exec_move (.tmp 46) (.bool true) rfl (by kernel_rfl)) ?_
              simp only [Act.put, List.setIfInBounds_toArray, List.set_cons_succ, List.set_cons_zero]
              refine s_val (o := ⟨some 48, _, _, _, _, _⟩) (.agg (cells8 P).toArray) rfl (by kernel_rfl) (fun u hu => exec_load_row 30 (.tmp 8) gp 32 30 5 (cells8 P) rfl (by kernel_rfl) hu.2.1 Tryd.underlying30 hiP.out) ?_
              simp only [Act.put, List.setIfInBounds_toArray, List.set_cons_succ, List.set_cons_zero]
              refine s_val (o := ⟨some 49, _, _, _, _, _⟩) (.agg (cells8 R).toArray) rfl (by kernel_rfl) (fun u hu => exec_load_row 30 (.tmp 9) gq 32 30 5 (cells8 R) rfl (by kernel_rfl) hu.2.2 Tryd.underlying30 hiR.out) ?_
              simp only [Act.put, List.setIfInBounds_toArray, List.set_cons_succ, List.set_cons_zero]
              refine s_val (o := ⟨some 50, _, _, _, _, _⟩) (.bool true) rfl (by kernel_rfl) (fun u hu => (by rw [exec_neq8 (.tmp 48) (.tmp 49) _ P R rfl (by kernel_rfl) (by kernel_rfl) HPl.out HRl.out, decide_eq_false hPR]; rfl)) ?_
              simp only [Act.put, List.setIfInBounds_toArray, List.set_cons_succ, List.set_cons_zero]
              refine s_val (o := ⟨some 51, _, _, _, _, _⟩) (.bool true) rfl (by kernel_rfl) (fun u hu => exec_move (.tmp 50) (.bool true) rfl (by kernel_rfl)) ?_
              simp only [Act.put, List.setIfInBounds_toArray, List.set_cons_succ, List.set_cons_zero]
              refine s_skip (o := ⟨some 52, _, _, _, _, _⟩) rfl (by kernel_rfl) ?_
              simp only [Act.put, List.setIfInBounds_toArray, List.set_cons_succ, List.set_cons_zero]
              refine s_skip (o := ⟨some 53, _, _, _, _, _⟩) rfl (by kernel_rfl) ?_
              simp only [Act.put, List.setIfInBounds_toArray, List.set_cons_succ, List.set_cons_zero]
              refine s_skip (o := ⟨some 54, _, _, _, _, _⟩) rfl (by kernel_rfl) ?_
              simp only [Act.put, List.setIfInBounds_toArray, List.set_cons_succ, List.set_cons_zero]
              refine s_skip (o := ⟨some 55, _, _, _, _, _⟩) rfl (by kernel_rfl) ?_
              simp only [Act.put, List.setIfInBounds_toArray, List.set_cons_succ, List.set_cons_zero]
              refine s_skip (o := ⟨some 56, _, _, _, _, _⟩) rfl (by kernel_rfl) ?_
              simp only [Act.put, List.setIfInBounds_toArray, List.set_cons_succ, List.set_cons_zero]
              refine s_skip (o := ⟨some 57, _, _, _, _, _⟩) rfl (by kernel_rfl) ?_
              simp only [Act.put, List.setIfInBounds_toArray, List.set_cons_succ, List.set_cons_zero]
              refine s_skip (o := ⟨some 58, _, _, _, _, _⟩) rfl (by kernel_rfl) ?_
              simp only [Act.put, List.setIfInBounds_toArray, List.set_cons_succ, List.set_cons_zero]
              refine s_skip (o := ⟨some 59, _, _, _, _, _⟩) rfl (by kernel_rfl) ?_
              simp only [Act.put, List.setIfInBounds_toArray, List.set_cons_succ, List.set_cons_zero]
              refine s_skip (o := ⟨some 60, _, _, _, _, _⟩) rfl (by kernel_rfl) ?_
              simp only [Act.put, List.setIfInBounds_toArray, List.set_cons_succ, List.set_cons_zero]
              refine s_skip (o := ⟨some 61, _, _, _, _, _⟩) rfl (by kernel_rfl) ?_
              simp only [Act.put, List.setIfInBounds_toArray, List.set_cons_succ, List.set_cons_zero]
              refine s_skip (o := ⟨some 62, _, _, _, _, _⟩) rfl (by kernel_rfl) ?_
              simp only [Act.put, List.setIfInBounds_toArray, List.set_cons_succ, List.set_cons_zero]
              refine s_val (o := ⟨some 63, _, _, _, _, _⟩) (.bool true) rfl (by kernel_rfl) (fun u hu => exec_pick (.tmp 51) (.const (.bool true)) (.tmp 62) (.bool true) rfl (by kernel_rfl) (by kernel_rfl)) ?_
              simp only [Act.put, List.setIfInBounds_toArray, List.set_cons_succ, List.set_cons_zero]
              refine s_val (o := ⟨some 64, _, _, _, _, _⟩) (.bool true) rfl (by kernel_rfl) (fun u hu => exec_pick (.tmp 47) (.tmp 63) (.const (.bool false)) (.bool true) rfl (by kernel_rfl) (by kernel_rfl)) ?_
              simp only [Act.put, List.setIfInBounds_toArray, List.set_cons_succ, List.set_cons_zero]
              refine s_done ?_
              have HDn := Lib.hid (HDi.out.trans (clash_hit La Lb i hmi.out (HEQ.out.2 ⟨hST, .inl hPR⟩)))
              have hkz : Kept w w6.drew := hkw2.trans (Keep.drew hkw6)
              clear hST hPR hkw6 hbp6 hbq6
              go_wp2
              go_ret
              exact ⟨ret_int HDn.out.symm, hkz⟩
          · skip
            refine wp_sched (fun u => Kept w2 u ∧ Blk u gp 30 (cells8 P) ∧ Blk u gq 30 (cells8 R)) [(0, 0), (1, 0), (2, 0), (3, 0), (4, 0), (5, 0), (6, 0), (7, 0), (8, 0), (9, 0), (10, 0), (11, 0), (12, 0), (13, 0), (14, 0), (15, 0), (16, 0), (17, 0), (18, 0), (19, 0), (20, 0), (21, 0), (22, 0), (23, 0), (24, 0), (25, 0), (26, 0)] (by kernel_rfl) (by kernel_rfl) (⟨Keep.drew hkw6, hbp6, hbq6⟩) ?_
            refine s_val (o := ⟨some 38, _, _, _, _, _⟩) (.slice (some ⟨g1, 0, none⟩) n c1) rfl (by kernel_rfl) (fun u hu => exec_move (.tmp 5) (.slice (some ⟨g1, 0, none⟩) n c1) rfl (by kernel_rfl)) ?_
            simp only [Act.put, List.setIfInBounds_toArray, List.set_cons_succ, List.set_cons_zero]
            refine s_val (o := ⟨some 39, _, _, _, _, _⟩) (.int .i64 (i : Int)) rfl (by kernel_rfl) (fun u hu => exec_move (.tmp 7) (.int .i64 (i : Int)) rfl (by kernel_rfl)) ?_
            simp only [Act.put, List.setIfInBounds_toArray, List.set_cons_succ, List.set_cons_zero]
            refine s_val (o := ⟨some 40, _, _, _, _, _⟩) (.pointer (some ⟨g1, 0 + i * 32, none⟩)) rfl (by kernel_rfl) (fun u hu => exec_index 24 30 32 (.tmp 38) (.tmp 39) (g1) (0) (n) (c1) (i) rfl Tryd.underlying24 sum_size (by kernel_rfl) (by kernel_rfl) (by omega)) ?_
            simp only [Act.put, List.setIfInBounds_toArray, List.set_cons_succ, List.set_cons_zero]
            refine s_val (o := ⟨some 41, _, _, _, _, _⟩) (.agg (cells8 S).toArray) rfl (by kernel_rfl) (fun u hu => exec_load_mid (.tmp 40) g1 (0 + i * 32) S rfl (by kernel_rfl) (fun j v hv => by rw [Nat.zero_add]; exact Kept.cell hu.1 (HR1.out j v hv)) HSl.out) ?_
            simp only [Act.put, List.setIfInBounds_toArray, List.set_cons_succ, List.set_cons_zero]
            refine s_val (o := ⟨some 42, _, _, _, _, _⟩) (.slice (some ⟨g2, 0, none⟩) m c2) rfl (by kernel_rfl) (fun u hu => exec_move (.tmp 6) (.slice (some ⟨g2, 0, none⟩) m c2) rfl (by kernel_rfl)) ?_
            simp only [Act.put, List.setIfInBounds_toArray, List.set_cons_succ, List.set_cons_zero]
            refine s_val (o := ⟨some 43, _, _, _, _, _⟩) (.int .i64 (i : Int)) rfl (by kernel_rfl) (fun u hu => exec_move (.tmp 7) (.int .i64 (i : Int)) rfl (by kernel_rfl)) ?_
            simp only [Act.put, List.setIfInBounds_toArray, List.set_cons_succ, List.set_cons_zero]
            refine s_val (o := ⟨some 44, _, _, _, _, _⟩) (.pointer (some ⟨g2, 0 + i * 32, none⟩)) rfl (by kernel_rfl) (fun u hu => exec_index 24 30 32 (.tmp 42) (.tmp 43) (g2) (0) (m) (c2) (i) rfl Tryd.underlying24 sum_size (by kernel_rfl) (by kernel_rfl) (by omega)) ?_
            simp only [Act.put, List.setIfInBounds_toArray, List.set_cons_succ, List.set_cons_zero]
            refine s_val (o := ⟨some 45, _, _, _, _, _⟩) (.agg (cells8 T).toArray) rfl (by kernel_rfl) (fun u hu => exec_load_mid (.tmp 44) g2 (0 + i * 32) T rfl (by kernel_rfl) (fun j v hv => by rw [Nat.zero_add]; exact Kept.cell hu.1 (HR2.out j v hv)) HTl.out) ?_
            simp only [Act.put, List.setIfInBounds_toArray, List.set_cons_succ, List.set_cons_zero]
            refine s_val (o := ⟨some 46, _, _, _, _, _⟩) (.bool false) rfl (by kernel_rfl) (fun u hu => (by rw [exec_eql8 (.tmp 41) (.tmp 45) _ S T rfl (by kernel_rfl) (by kernel_rfl) HSl.out HTl.out, decide_eq_false hST])) ?_
            simp only [Act.put, List.setIfInBounds_toArray, List.set_cons_succ, List.set_cons_zero]
            refine s_val (o := ⟨some 47, _, _, _, _, _⟩) (.bool false) rfl (by kernel_rfl) (fun u hu => exec_move (.tmp 46) (.bool false) rfl (by kernel_rfl)) ?_
            simp only [Act.put, List.setIfInBounds_toArray, List.set_cons_succ, List.set_cons_zero]
            refine s_skip (o := ⟨some 48, _, _, _, _, _⟩) rfl (by kernel_rfl) ?_
            simp only [Act.put, List.setIfInBounds_toArray, List.set_cons_succ, List.set_cons_zero]
            refine s_skip (o := ⟨some 49, _, _, _, _, _⟩) rfl (by kernel_rfl) ?_
            simp only [Act.put, List.setIfInBounds_toArray, List.set_cons_succ, List.set_cons_zero]
            refine s_skip (o := ⟨some 50, _, _, _, _, _⟩) rfl (by kernel_rfl) ?_
            simp only [Act.put, List.setIfInBounds_toArray, List.set_cons_succ, List.set_cons_zero]
            refine s_skip (o := ⟨some 51, _, _, _, _, _⟩) rfl (by kernel_rfl) ?_
            simp only [Act.put, List.setIfInBounds_toArray, List.set_cons_succ, List.set_cons_zero]
            refine s_skip (o := ⟨some 52, _, _, _, _, _⟩) rfl (by kernel_rfl) ?_
            simp only [Act.put, List.setIfInBounds_toArray, List.set_cons_succ, List.set_cons_zero]
            refine s_skip (o := ⟨some 53, _, _, _, _, _⟩) rfl (by kernel_rfl) ?_
            simp only [Act.put, List.setIfInBounds_toArray, List.set_cons_succ, List.set_cons_zero]
            refine s_skip (o := ⟨some 54, _, _, _, _, _⟩) rfl (by kernel_rfl) ?_
            simp only [Act.put, List.setIfInBounds_toArray, List.set_cons_succ, List.set_cons_zero]
            refine s_skip (o := ⟨some 55, _, _, _, _, _⟩) rfl (by kernel_rfl) ?_
            simp only [Act.put, List.setIfInBounds_toArray, List.set_cons_succ, List.set_cons_zero]
            refine s_skip (o := ⟨some 56, _, _, _, _, _⟩) rfl (by kernel_rfl) ?_
            simp only [Act.put, List.setIfInBounds_toArray, List.set_cons_succ, List.set_cons_zero]
            refine s_skip (o := ⟨some 57, _, _, _, _, _⟩) rfl (by kernel_rfl) ?_
            simp only [Act.put, List.setIfInBounds_toArray, List.set_cons_succ, List.set_cons_zero]
            refine s_skip (o := ⟨some 58, _, _, _, _, _⟩) rfl (by kernel_rfl) ?_
            simp only [Act.put, List.setIfInBounds_toArray, List.set_cons_succ, List.set_cons_zero]
            refine s_skip (o := ⟨some 59, _, _, _, _, _⟩) rfl (by kernel_rfl) ?_
            simp only [Act.put, List.setIfInBounds_toArray, List.set_cons_succ, List.set_cons_zero]
            refine s_skip (o := ⟨some 60, _, _, _, _, _⟩) rfl (by kernel_rfl) ?_
            simp only [Act.put, List.setIfInBounds_toArray, List.set_cons_succ, List.set_cons_zero]
            refine s_skip (o := ⟨some 61, _, _, _, _, _⟩) rfl (by kernel_rfl) ?_
            simp only [Act.put, List.setIfInBounds_toArray, List.set_cons_succ, List.set_cons_zero]
            refine s_skip (o := ⟨some 62, _, _, _, _, _⟩) rfl (by kernel_rfl) ?_
            simp only [Act.put, List.setIfInBounds_toArray, List.set_cons_succ, List.set_cons_zero]
            refine s_skip (o := ⟨some 63, _, _, _, _, _⟩) rfl (by kernel_rfl) ?_
            simp only [Act.put, List.setIfInBounds_toArray, List.set_cons_succ, List.set_cons_zero]
            refine s_val (o := ⟨some 64, _, _, _, _, _⟩) (.bool false) rfl (by kernel_rfl) (fun u hu => exec_pickF (.tmp 47) (.tmp 63) (.const (.bool false)) (.bool false) rfl (by kernel_rfl) (by kernel_rfl)) ?_
            simp only [Act.put, List.setIfInBounds_toArray, List.set_cons_succ, List.set_cons_zero]
            refine s_done ?_
            have HDn := Lib.hid (HDi.out.trans (clash_next La Lb i hmi.out (fun h => hST (HEQ.out.1 h).1)))
            have hkz : Kept w2 w6.drew := Keep.drew hkw6
            clear hST  hkw6 hbp6 hbq6
            go_wp2
            exact ⟨⟨i + 1, by omega, by omega, by go_num, hkz, HDn⟩, by simp [intOf]; omega⟩
        · replace hi0 : 0 < i := by omega
          have hgt : decide ((0 : Int) < (i : Int)) = true := by simp; omega
          go_wp2_with ((with_reducible show wpList _ _ _ _ _ _); (first
            | ((with_reducible refine wpl_alloc (o := ⟨some 8, _, _, _, _, _⟩) _ rfl 30 rfl z32 sum_zero ?_); intro w3 hb3 hs3 hk3; clear hs3)
            | ((with_reducible refine wpl_alloc (o := ⟨some 9, _, _, _, _, _⟩) _ rfl 30 rfl z32 sum_zero ?_); intro w4 hb4 hs4 hk4; clear hs4)))
          have hkw4 : Kept w2 w4 := (hkr.trans hk3).trans hk4
          have hb34 := hb3.kept hk4
          have hlt3 := hb3.lt
          have hle := hkr.size
          generalize wr.heap.size = gp at hb34 hb4 hlt3 hle ⊢
          generalize w3.heap.size = gq at hb4 hlt3 ⊢
          clear hk3 hk4 hb3 hkr
          have HPP := Lib.hid (HP1.out hi0).1
          have HRR := Lib.hid (HP1.out hi0).2
          refine wp_sched (fun u => Kept w2 u) [(0, 0), (1, 0), (2, 0), (3, 0), (4, 0), (5, 0), (6, 0), (7, 0), (8, 0), (9, 0), (10, 1), (11, 1)] (by kernel_rfl) (by kernel_rfl) (Keep.drew hkw4) ?_
          refine s_val (o := ⟨some 28, _, _, _, _, _⟩) (.slice (some ⟨g1, 0, none⟩) n c1) rfl (by kernel_rfl) (fun u hu => exec_move (.tmp 5) (.slice (some ⟨g1, 0, none⟩) n c1) rfl (by kernel_rfl)) ?_
          simp only [Act.put, List.setIfInBounds_toArray, List.set_cons_succ, List.set_cons_zero]
          refine s_val (o := ⟨some 29, _, _, _, _, _⟩) (.int .i64 (i : Int)) rfl (by kernel_rfl) (fun u hu => exec_move (.tmp 7) (.int .i64 (i : Int)) rfl (by kernel_rfl)) ?_
          simp only [Act.put, List.setIfInBounds_toArray, List.set_cons_succ, List.set_cons_zero]
          refine s_val (o := ⟨some 30, _, _, _, _, _⟩) (.int .i64 (((i - 1 : Nat)) : Int)) rfl (by kernel_rfl) (fun u hu => exec_subi (.tmp 29) (.const (.int .i64 1)) _ (i : Int) 1 (((i - 1 : Nat)) : Int) rfl (by kernel_rfl) (by kernel_rfl) (by omega) (by omega) (by omega)) ?_
          simp only [Act.put, List.setIfInBounds_toArray, List.set_cons_succ, List.set_cons_zero]
          refine s_val (o := ⟨some 31, _, _, _, _, _⟩) (.pointer (some ⟨g1, 0 + (i - 1) * 32, none⟩)) rfl (by kernel_rfl) (fun u hu => exec_index 24 30 32 (.tmp 28) (.tmp 30) g1 0 n c1 (i - 1) rfl Tryd.underlying24 sum_size (by kernel_rfl) (by kernel_rfl) (by omega)) ?_
          simp only [Act.put, List.setIfInBounds_toArray, List.set_cons_succ, List.set_cons_zero]
          refine s_val (o := ⟨some 32, _, _, _, _, _⟩) (.agg (cells8 P).toArray) rfl (by kernel_rfl) (fun u hu => exec_load_mid (.tmp 31) g1 (0 + (i - 1) * 32) P rfl (by kernel_rfl) (fun j v hv => by rw [Nat.zero_add]; exact Kept.cell hu (HPP.out j v hv)) HPl.out) ?_
          simp only [Act.put, List.setIfInBounds_toArray, List.set_cons_succ, List.set_cons_zero]
          refine s_val (o := ⟨some 33, _, _, _, _, _⟩) (.slice (some ⟨g2, 0, none⟩) m c2) rfl (by kernel_rfl) (fun u hu => exec_move (.tmp 6) (.slice (some ⟨g2, 0, none⟩) m c2) rfl (by kernel_rfl)) ?_
          simp only [Act.put, List.setIfInBounds_toArray, List.set_cons_succ, List.set_cons_zero]
          refine s_val (o := ⟨some 34, _, _, _, _, _⟩) (.int .i64 (i : Int)) rfl (by kernel_rfl) (fun u hu => exec_move (.tmp 7) (.int .i64 (i : Int)) rfl (by kernel_rfl)) ?_
          simp only [Act.put, List.setIfInBounds_toArray, List.set_cons_succ, List.set_cons_zero]
          refine s_val (o := ⟨some 35, _, _, _, _, _⟩) (.int .i64 (((i - 1 : Nat)) : Int)) rfl (by kernel_rfl) (fun u hu => exec_subi (.tmp 34) (.const (.int .i64 1)) _ (i : Int) 1 (((i - 1 : Nat)) : Int) rfl (by kernel_rfl) (by kernel_rfl) (by omega) (by omega) (by omega)) ?_
          simp only [Act.put, List.setIfInBounds_toArray, List.set_cons_succ, List.set_cons_zero]
          refine s_val (o := ⟨some 36, _, _, _, _, _⟩) (.pointer (some ⟨g2, 0 + (i - 1) * 32, none⟩)) rfl (by kernel_rfl) (fun u hu => exec_index 24 30 32 (.tmp 33) (.tmp 35) g2 0 m c2 (i - 1) rfl Tryd.underlying24 sum_size (by kernel_rfl) (by kernel_rfl) (by omega)) ?_
          simp only [Act.put, List.setIfInBounds_toArray, List.set_cons_succ, List.set_cons_zero]
          refine s_val (o := ⟨some 37, _, _, _, _, _⟩) (.agg (cells8 R).toArray) rfl (by kernel_rfl) (fun u hu => exec_load_mid (.tmp 36) g2 (0 + (i - 1) * 32) R rfl (by kernel_rfl) (fun j v hv => by rw [Nat.zero_add]; exact Kept.cell hu (HRR.out j v hv)) HRl.out) ?_
          simp only [Act.put, List.setIfInBounds_toArray, List.set_cons_succ, List.set_cons_zero]
          refine s_oper (o := ⟨none, _, _, _, _, _⟩) rfl (by kernel_rfl) fun K hK => ?_
          refine op_store_row w4.drew 30 (.tmp 8) (.tmp 32) rfl gp (cells8 P) (by kernel_rfl) (by kernel_rfl) 30 z32 hb34 hiP.out hzP.out (cells8_one _) ?_
          intro w5 hbp5 hk5 _
          have hkw5 : Kept w2 w5 := Kept.trans' (Keep.drew hkw4) hk5 (by omega)
          have hbq5 : Blk w5 gq 30 z32 := Blk.keep (w := w4.drew) hb4 hk5 (by omega)
          refine hK _ _ hkw5 ?_
          simp only [Act.put]
          refine s_oper (o := ⟨none, _, _, _, _, _⟩) rfl (by kernel_rfl) fun K hK => ?_
          refine op_store_row w5 30 (.tmp 9) (.tmp 37) rfl gq (cells8 R) (by kernel_rfl) (by kernel_rfl) 30 z32 hbq5 hiR.out hzR.out (cells8_one _) ?_
          intro w6 hbq6 hk6 _
          have hkw6 : Kept w2 w6 := Kept.trans' hkw5 hk6 (by omega)
          have hbp6 := hbp5.keep hk6 (by omega)
          refine hK _ _ hkw6 ?_
          simp only [Act.put]
          refine s_done ?_
          clear hbp5 hbq5 hk5 hk6 hkw5 hkw4 hb34 hb4 HPP HRR HP0 HP1
          go_wp2_with fail
          by_cases hST : S = T
          · by_cases hPR : P = R
            · by_cases hxx : xa = xb
              · skip
                refine wp_sched (fun u => Kept w2 u ∧ Blk u gp 30 (cells8 P) ∧ Blk u gq 30 (cells8 R)) [(0, 0), (1, 0), (2, 0), (3, 0), (4, 0), (5, 0), (6, 0), (7, 0), (8, 0), (9, 0), (10, 0), (11, 0), (12, 0), (13, 0), (14, 0), (15, 0), (16, 0), (17, 0), (18, 0), (19, 0), (20, 0), (21, 0), (22, 0), (23, 0), (24, 0), (25, 0), (26, 0)] (by kernel_rfl) (by kernel_rfl) (⟨Keep.drew hkw6, hbp6, hbq6⟩) ?_
                refine s_val (o := ⟨some 38, _, _, _, _, _⟩) (.slice (some ⟨g1, 0, none⟩) n c1) rfl (by kernel_rfl) (fun u hu => exec_move (.tmp 5) (.slice (some ⟨g1, 0, none⟩) n c1) rfl (by kernel_rfl)) ?_
                simp only [Act.put, List.setIfInBounds_toArray, List.set_cons_succ, List.set_cons_zero]
                refine s_val (o := ⟨some 39, _, _, _, _, _⟩) (.int .i64 (i : Int)) rfl (by kernel_rfl) (fun u hu => exec_move (.tmp 7) (.int .i64 (i : Int)) rfl (by kernel_rfl)) ?_
                simp only [Act.put, List.setIfInBounds_toArray, List.set_cons_succ, List.set_cons_zero]
                refine s_val (o := ⟨some 40, _, _, _, _, _⟩) (.pointer (some ⟨g1, 0 + i * 32, none⟩)) rfl (by kernel_rfl) (fun u hu => exec_index 24 30 32 (.tmp 38) (.tmp 39) (g1) (0) (n) (c1) (i) rfl Tryd.underlying24 sum_size (by kernel_rfl) (by kernel_rfl) (by omega)) ?_
                simp only [Act.put, List.setIfInBounds_toArray, List.set_cons_succ, List.set_cons_zero]
                refine s_val (o := ⟨some 41, _, _, _, _, _⟩) (.agg (cells8 S).toArray) rfl (by kernel_rfl) (fun u hu => exec_load_mid (.tmp 40) g1 (0 + i * 32) S rfl (by kernel_rfl) (fun j v hv => by rw [Nat.zero_add]; exact Kept.cell hu.1 (HR1.out j v hv)) HSl.out) ?_
                simp only [Act.put, List.setIfInBounds_toArray, List.set_cons_succ, List.set_cons_zero]
                refine s_val (o := ⟨some 42, _, _, _, _, _⟩) (.slice (some ⟨g2, 0, none⟩) m c2) rfl (by kernel_rfl) (fun u hu => exec_move (.tmp 6) (.slice (some ⟨g2, 0, none⟩) m c2) rfl (by kernel_rfl)) ?_
                simp only [Act.put, List.setIfInBounds_toArray, List.set_cons_succ, List.set_cons_zero]
                refine s_val (o := ⟨some 43, _, _, _, _, _⟩) (.int .i64 (i : Int)) rfl (by kernel_rfl) (fun u hu => exec_move (.tmp 7) (.int .i64 (i : Int)) rfl (by kernel_rfl)) ?_
                simp only [Act.put, List.setIfInBounds_toArray, List.set_cons_succ, List.set_cons_zero]
                refine s_val (o := ⟨some 44, _, _, _, _, _⟩) (.pointer (some ⟨g2, 0 + i * 32, none⟩)) rfl (by kernel_rfl) (fun u hu => exec_index 24 30 32 (.tmp 42) (.tmp 43) (g2) (0) (m) (c2) (i) rfl Tryd.underlying24 sum_size (by kernel_rfl) (by kernel_rfl) (by omega)) ?_
                simp only [Act.put, List.setIfInBounds_toArray, List.set_cons_succ, List.set_cons_zero]
                refine s_val (o := ⟨some 45, _, _, _, _, _⟩) (.agg (cells8 T).toArray) rfl (by kernel_rfl) (fun u hu => exec_load_mid (.tmp 44) g2 (0 + i * 32) T rfl (by kernel_rfl) (fun j v hv => by rw [Nat.zero_add]; exact Kept.cell hu.1 (HR2.out j v hv)) HTl.out) ?_
                simp only [Act.put, List.setIfInBounds_toArray, List.set_cons_succ, List.set_cons_zero]
                refine s_val (o := ⟨some 46, _, _, _, _, _⟩) (.bool true) rfl (by kernel_rfl) (fun u hu => (by rw [exec_eql8 (.tmp 41) (.tmp 45) _ S T rfl (by kernel_rfl) (by kernel_rfl) HSl.out HTl.out, decide_eq_true hST])) ?_
                simp only [Act.put, List.setIfInBounds_toArray, List.set_cons_succ, List.set_cons_zero]
                refine s_val (o := ⟨some 47, _, _, _, _, _⟩) (.bool true) rfl (by kernel_rfl) (fun u hu => exec_move (.tmp 46) (.bool true) rfl (by kernel_rfl)) ?_
                simp only [Act.put, List.setIfInBounds_toArray, List.set_cons_succ, List.set_cons_zero]
                refine s_val (o := ⟨some 48, _, _, _, _, _⟩) (.agg (cells8 P).toArray) rfl (by kernel_rfl) (fun u hu => exec_load_row 30 (.tmp 8) gp 32 30 5 (cells8 P) rfl (by kernel_rfl) hu.2.1 Tryd.underlying30 hiP.out) ?_
                simp only [Act.put, List.setIfInBounds_toArray, List.set_cons_succ, List.set_cons_zero]
                refine s_val (o := ⟨some 49, _, _, _, _, _⟩) (.agg (cells8 R).toArray) rfl (by kernel_rfl) (fun u hu => exec_load_row 30 (.tmp 9) gq 32 30 5 (cells8 R) rfl (by kernel_rfl) hu.2.2 Tryd.underlying30 hiR.out) ?_
                simp only [Act.put, List.setIfInBounds_toArray, List.set_cons_succ, List.set_cons_zero]
                refine s_val (o := ⟨some 50, _, _, _, _, _⟩) (.bool false) rfl (by kernel_rfl) (fun u hu => (by rw [exec_neq8 (.tmp 48) (.tmp 49) _ P R rfl (by kernel_rfl) (by kernel_rfl) HPl.out HRl.out, decide_eq_true hPR]; rfl)) ?_
                simp only [Act.put, List.setIfInBounds_toArray, List.set_cons_succ, List.set_cons_zero]
                refine s_val (o := ⟨some 51, _, _, _, _, _⟩) (.bool false) rfl (by kernel_rfl) (fun u hu => exec_move (.tmp 50) (.bool false) rfl (by kernel_rfl)) ?_
                simp only [Act.put, List.setIfInBounds_toArray, List.set_cons_succ, List.set_cons_zero]
                refine s_val (o := ⟨some 52, _, _, _, _, _⟩) (.slice (some ⟨b1, o1, none⟩) n c) rfl (by kernel_rfl) (fun u hu => exec_move (.tmp 0) (.slice (some ⟨b1, o1, none⟩) n c) rfl (by kernel_rfl)) ?_
                simp only [Act.put, List.setIfInBounds_toArray, List.set_cons_succ, List.set_cons_zero]
                refine s_val (o := ⟨some 53, _, _, _, _, _⟩) (.int .i64 (i : Int)) rfl (by kernel_rfl) (fun u hu => exec_move (.tmp 7) (.int .i64 (i : Int)) rfl (by kernel_rfl)) ?_
                simp only [Act.put, List.setIfInBounds_toArray, List.set_cons_succ, List.set_cons_zero]
                refine s_val (o := ⟨some 54, _, _, _, _, _⟩) (.pointer (some ⟨b1, o1 + i * 1, none⟩)) rfl (by kernel_rfl) (fun u hu => exec_index 23 22 1 (.tmp 52) (.tmp 53) (b1) (o1) (n) (c) (i) rfl Tryd.underlying23 sl_size (by kernel_rfl) (by kernel_rfl) (by omega)) ?_
                simp only [Act.put, List.setIfInBounds_toArray, List.set_cons_succ, List.set_cons_zero]
                refine s_val (o := ⟨some 55, _, _, _, _, _⟩) (u1) rfl (by kernel_rfl) (fun u hu => exec_load_sl (.tmp 54) ⟨b1, o1 + i * 1, none⟩ u1 rfl (by kernel_rfl) (Kept.cell (hkw2.trans hu.1) HC1.out)) ?_
                simp only [Act.put, List.setIfInBounds_toArray, List.set_cons_succ, List.set_cons_zero]
                refine s_val (o := ⟨some 56, _, _, _, _, _⟩) (.string ⟨xa.toArray⟩) rfl (by kernel_rfl) (fun u hu => exec_conv (.tmp 55) u1 xa rfl (by kernel_rfl) (HU1.out.kept (hkw2.trans hu.1))) ?_
                simp only [Act.put, List.setIfInBounds_toArray, List.set_cons_succ, List.set_cons_zero]
                refine s_val (o := ⟨some 57, _, _, _, _, _⟩) (.slice (some ⟨b2, o2, none⟩) m d) rfl (by kernel_rfl) (fun u hu => exec_move (.tmp 1) (.slice (some ⟨b2, o2, none⟩) m d) rfl (by kernel_rfl)) ?_
                simp only [Act.put, List.setIfInBounds_toArray, List.set_cons_succ, List.set_cons_zero]
                refine s_val (o := ⟨some 58, _, _, _, _, _⟩) (.int .i64 (i : Int)) rfl (by kernel_rfl) (fun u hu => exec_move (.tmp 7) (.int .i64 (i : Int)) rfl (by kernel_rfl)) ?_
                simp only [Act.put, List.setIfInBounds_toArray, List.set_cons_succ, List.set_cons_zero]
                refine s_val (o := ⟨some 59, _, _, _, _, _⟩) (.pointer (some ⟨b2, o2 + i * 1, none⟩)) rfl (by kernel_rfl) (fun u hu => exec_index 23 22 1 (.tmp 57) (.tmp 58) (b2) (o2) (m) (d) (i) rfl Tryd.underlying23 sl_size (by kernel_rfl) (by kernel_rfl) (by omega)) ?_
                simp only [Act.put, List.setIfInBounds_toArray, List.set_cons_succ, List.set_cons_zero]
                refine s_val (o := ⟨some 60, _, _, _, _, _⟩) (u2) rfl (by kernel_rfl) (fun u hu => exec_load_sl (.tmp 59) ⟨b2, o2 + i * 1, none⟩ u2 rfl (by kernel_rfl) (Kept.cell (hkw2.trans hu.1) HC2.out)) ?_
                simp only [Act.put, List.setIfInBounds_toArray, List.set_cons_succ, List.set_cons_zero]
                refine s_val (o := ⟨some 61, _, _, _, _, _⟩) (.string ⟨xb.toArray⟩) rfl (by kernel_rfl) (fun u hu => exec_conv (.tmp 60) u2 xb rfl (by kernel_rfl) (HU2.out.kept (hkw2.trans hu.1))) ?_
                simp only [Act.put, List.setIfInBounds_toArray, List.set_cons_succ, List.set_cons_zero]
                refine s_val (o := ⟨some 62, _, _, _, _, _⟩) (.bool false) rfl (by kernel_rfl) (fun u hu => exec_neqs (.tmp 56) (.tmp 61) _ xa xb rfl (by kernel_rfl) (by kernel_rfl) false (by rw [decide_eq_true hxx]; rfl)) ?_
                simp only [Act.put, List.setIfInBounds_toArray, List.set_cons_succ, List.set_cons_zero]
                refine s_val (o := ⟨some 63, _, _, _, _, _⟩) (.bool false) rfl (by kernel_rfl) (fun u hu => exec_pickF (.tmp 51) (.const (.bool true)) (.tmp 62) (.bool false) rfl (by kernel_rfl) (by kernel_rfl)) ?_
                simp only [Act.put, List.setIfInBounds_toArray, List.set_cons_succ, List.set_cons_zero]
                refine s_val (o := ⟨some 64, _, _, _, _, _⟩) (.bool false) rfl (by kernel_rfl) (fun u hu => exec_pick (.tmp 47) (.tmp 63) (.const (.bool false)) (.bool false) rfl (by kernel_rfl) (by kernel_rfl)) ?_
                simp only [Act.put, List.setIfInBounds_toArray, List.set_cons_succ, List.set_cons_zero]
                refine s_done ?_
                have HDn := Lib.hid (HDi.out.trans (clash_next La Lb i hmi.out (fun h => (HEQ.out.1 h).2.elim (fun h => h hPR) (fun h => h hxx))))
                have hkz : Kept w2 w6.drew := Keep.drew hkw6
                clear hST hPR hxx hkw6 hbp6 hbq6
                go_wp2
                exact ⟨⟨i + 1, by omega, by omega, by go_num, hkz, HDn⟩, by simp [intOf]; omega⟩
              · skip
                refine wp_sched (fun u => Kept w2 u ∧ Blk u gp 30 (cells8 P) ∧ Blk u gq 30 (cells8 R)) [(0, 0), (1, 0), (2, 0), (3, 0), (4, 0), (5, 0), (6, 0), (7, 0), (8, 0), (9, 0), (10, 0), (11, 0), (12, 0), (13, 0), (14, 0), (15, 0), (16, 0), (17, 0), (18, 0), (19, 0), (20, 0), (21, 0), (22, 0), (23, 0), (24, 0), (25, 0), (26, 0)] (by kernel_rfl) (by kernel_rfl) (⟨Keep.drew hkw6, hbp6, hbq6⟩) ?_
                refine s_val (o := ⟨some 38, _, _, _, _, _⟩) (.slice (some ⟨g1, 0, none⟩) n c1) rfl (by kernel_rfl) (fun u hu => exec_move (.tmp 5) (.slice (some ⟨g1, 0, none⟩) n c1) rfl (by kernel_rfl)) ?_
                simp only [Act.put, List.setIfInBounds_toArray, List.set_cons_succ, List.set_cons_zero]
                refine s_val (o := ⟨some 39, _, _, _, _, _⟩) (.int .i64 (i : Int)) rfl (by kernel_rfl) (fun u hu => exec_move (.tmp 7) (.int .i64 (i : Int)) rfl (by kernel_rfl)) ?_
                simp only [Act.put, List.setIfInBounds_toArray, List.set_cons_succ, List.set_cons_zero]
                refine s_val (o := ⟨some 40, _, _, _, _, _⟩) (.pointer (some ⟨g1, 0 + i * 32, none⟩)) rfl (by kernel_rfl) (fun u hu => exec_index 24 30 32 (.tmp 38) (.tmp 39) (g1) (0) (n) (c1) (i) rfl Tryd.underlying24 sum_size (by kernel_rfl) (by kernel_rfl) (by omega)) ?_
                simp only [Act.put, List.setIfInBounds_toArray, List.set_cons_succ, List.set_cons_zero]
                refine s_val (o := ⟨some 41, _, _, _, _, _⟩) (.agg (cells8 S).toArray) rfl (by kernel_rfl) (fun u hu => exec_load_mid (.tmp 40) g1 (0 + i * 32) S rfl (by kernel_rfl) (fun j v hv => by rw [Nat.zero_add]; exact Kept.cell hu.1 (HR1.out j v hv)) HSl.out) ?_
                simp only [Act.put, List.setIfInBounds_toArray, List.set_cons_succ, List.set_cons_zero]
                refine s_val (o := ⟨some 42, _, _, _, _, _⟩) (.slice (some ⟨g2, 0, none⟩) m c2) rfl (by kernel_rfl) (fun u hu => exec_move (.tmp 6) (.slice (some ⟨g2, 0, none⟩) m c2) rfl (by kernel_rfl)) ?_
                simp only [Act.put, List.setIfInBounds_toArray, List.set_cons_succ, List.set_cons_zero]
                refine s_val (o := ⟨some 43, _, _, _, _, _⟩) (.int .i64 (i : Int)) rfl (by kernel_rfl) (fun u hu => exec_move (.tmp 7) (.int .i64 (i : Int)) rfl (by kernel_rfl)) ?_
                simp only [Act.put, List.setIfInBounds_toArray, List.set_cons_succ, List.set_cons_zero]
                refine s_val (o := ⟨some 44, _, _, _, _, _⟩) (.pointer (some ⟨g2, 0 + i * 32, none⟩)) rfl (by kernel_rfl) (fun u hu => exec_index 24 30 32 (.tmp 42) (.tmp 43) (g2) (0) (m) (c2) (i) rfl Tryd.underlying24 sum_size (by kernel_rfl) (by kernel_rfl) (by omega)) ?_
                simp only [Act.put, List.setIfInBounds_toArray, List.set_cons_succ, List.set_cons_zero]
                refine s_val (o := ⟨some 45, _, _, _, _, _⟩) (.agg (cells8 T).toArray) rfl (by kernel_rfl) (fun u hu => exec_load_mid (.tmp 44) g2 (0 + i * 32) T rfl (by kernel_rfl) (fun j v hv => by rw [Nat.zero_add]; exact Kept.cell hu.1 (HR2.out j v hv)) HTl.out) ?_
                simp only [Act.put, List.setIfInBounds_toArray, List.set_cons_succ, List.set_cons_zero]
                refine s_val (o := ⟨some 46, _, _, _, _, _⟩) (.bool true) rfl (by kernel_rfl) (fun u hu => (by rw [exec_eql8 (.tmp 41) (.tmp 45) _ S T rfl (by kernel_rfl) (by kernel_rfl) HSl.out HTl.out, decide_eq_true hST])) ?_
                simp only [Act.put, List.setIfInBounds_toArray, List.set_cons_succ, List.set_cons_zero]
                refine s_val (o := ⟨some 47, _, _, _, _, _⟩) (.bool true) rfl (by kernel_rfl) (fun u hu => exec_move (.tmp 46) (.bool true) rfl (by kernel_rfl)) ?_
                simp only [Act.put, List.setIfInBounds_toArray, List.set_cons_succ, List.set_cons_zero]
                refine s_val (o := ⟨some 48, _, _, _, _, _⟩) (.agg (cells8 P).toArray) rfl (by kernel_rfl) (fun u hu => exec_load_row 30 (.tmp 8) gp 32 30 5 (cells8 P) rfl (by kernel_rfl) hu.2.1 Tryd.underlying30 hiP.out) ?_
                simp only [Act.put, List.setIfInBounds_toArray, List.set_cons_succ, List.set_cons_zero]
                refine s_val (o := ⟨some 49, _, _, _, _, _⟩) (.agg (cells8 R).toArray) rfl (by kernel_rfl) (fun u hu => exec_load_row 30 (.tmp 9) gq 32 30 5 (cells8 R) rfl (by kernel_rfl) hu.2.2 Tryd.underlying30 hiR.out) ?_
                simp only [Act.put, List.setIfInBounds_toArray, List.set_cons_succ, List.set_cons_zero]
                refine s_val (o := ⟨some 50, _, _, _, _, _⟩) (.bool false) rfl (by kernel_rfl) (fun u hu => (by rw [exec_neq8 (.tmp 48) (.tmp 49) _ P R rfl (by kernel_rfl) (by kernel_rfl) HPl.out HRl.out, decide_eq_true hPR]; rfl)) ?_
                simp only [Act.put, List.setIfInBounds_toArray, List.set_cons_succ, List.set_cons_zero]
                refine s_val (o := ⟨some 51, _, _, _, _, _⟩) (.bool false) rfl (by kernel_rfl) (fun u hu => exec_move (.tmp 50) (.bool false) rfl (by kernel_rfl)) ?_
                simp only [Act.put, List.setIfInBounds_toArray, List.set_cons_succ, List.set_cons_zero]
                refine s_val (o := ⟨some 52, _, _, _, _, _⟩) (.slice (some ⟨b1, o1, none⟩) n c) rfl (by kernel_rfl) (fun u hu => exec_move (.tmp 0) (.slice (some ⟨b1, o1, none⟩) n c) rfl (by kernel_rfl)) ?_
                simp only [Act.put, List.setIfInBounds_toArray, List.set_cons_succ, List.set_cons_zero]
                refine s_val (o := ⟨some 53, _, _, _, _, _⟩) (.int .i64 (i : Int)) rfl (by kernel_rfl) (fun u hu => exec_move (.tmp 7) (.int .i64 (i : Int)) rfl (by kernel_rfl)) ?_
                simp only [Act.put, List.setIfInBounds_toArray, List.set_cons_succ, List.set_cons_zero]
                refine s_val (o := ⟨some 54, _, _, _, _, _⟩) (.pointer (some ⟨b1, o1 + i * 1, none⟩)) rfl (by kernel_rfl) (fun u hu => exec_index 23 22 1 (.tmp 52) (.tmp 53) (b1) (o1) (n) (c) (i) rfl Tryd.underlying23 sl_size (by kernel_rfl) (by kernel_rfl) (by omega)) ?_
                simp only [Act.put, List.setIfInBounds_toArray, List.set_cons_succ, List.set_cons_zero]
                refine s_val (o := ⟨some 55, _, _, _, _, _⟩) (u1) rfl (by kernel_rfl) (fun u hu => exec_load_sl (.tmp 54) ⟨b1, o1 + i * 1, none⟩ u1 rfl (by kernel_rfl) (Kept.cell (hkw2.trans hu.1) HC1.out)) ?_
                simp only [Act.put, List.setIfInBounds_toArray, List.set_cons_succ, List.set_cons_zero]
                refine s_val (o := ⟨some 56, _, _, _, _, _⟩) (.string ⟨xa.toArray⟩) rfl (by kernel_rfl) (fun u hu => exec_conv (.tmp 55) u1 xa rfl (by kernel_rfl) (HU1.out.kept (hkw2.trans hu.1))) ?_
                simp only [Act.put, List.setIfInBounds_toArray, List.set_cons_succ, List.set_cons_zero]
                refine s_val (o := ⟨some 57, _, _, _, _, _⟩) (.slice (some ⟨b2, o2, none⟩) m d) rfl (by kernel_rfl) (fun u hu => exec_move (.tmp 1) (.slice (some ⟨b2, o2, none⟩) m d) rfl (by kernel_rfl)) ?_
                simp only [Act.put, List.setIfInBounds_toArray, List.set_cons_succ, List.set_cons_zero]
                refine s_val (o := ⟨some 58, _, _, _, _, _⟩) (.int .i64 (i : Int)) rfl (by kernel_rfl) (fun u hu => exec_move (.tmp 7) (.int .i64 (i : Int)) rfl (by kernel_rfl)) ?_
                simp only [Act.put, List.setIfInBounds_toArray, List.set_cons_succ, List.set_cons_zero]
                refine s_val (o := ⟨some 59, _, _, _, _, _⟩) (.pointer (some ⟨b2, o2 + i * 1, none⟩)) rfl (by kernel_rfl) (fun u hu => exec_index 23 22 1 (.tmp 57) (.tmp 58) (b2) (o2) (m) (d) (i) rfl Tryd.underlying23 sl_size (by kernel_rfl) (by kernel_rfl) (by omega)) ?_
                simp only [Act.put, List.setIfInBounds_toArray, List.set_cons_succ, List.set_cons_zero]
                refine s_val (o := ⟨some 60, _, _, _, _, _⟩) (u2) rfl (by kernel_rfl) (fun u hu => exec_load_sl (.tmp 59) ⟨b2, o2 + i * 1, none⟩ u2 rfl (by kernel_rfl) (Kept.cell (hkw2.trans hu.1) HC2.out)) ?_
                simp only [Act.put, List.setIfInBounds_toArray, List.set_cons_succ, List.set_cons_zero]
                refine s_val (o := ⟨some 61, _, _, _, _, _⟩) (.string ⟨xb.toArray⟩) rfl (by kernel_rfl) (fun u hu => exec_conv (.tmp 60) u2 xb rfl (by kernel_rfl) (HU2.out.kept (hkw2.trans hu.1))) ?_
                simp only [Act.put, List.setIfInBounds_toArray, List.set_cons_succ, List.set_cons_zero]
                refine s_val (o := ⟨some 62, _, _, _, _, _⟩) (.bool true) rfl (by kernel_rfl) (fun u hu => exec_neqs (.tmp 56) (.tmp 61) _ xa xb rfl (by kernel_rfl) (by kernel_rfl) true (by rw [decide_eq_false hxx]; rfl)) ?_
                simp only [Act.put, List.setIfInBounds_toArray, List.set_cons_succ, List.set_cons_zero]
                refine s_val (o := ⟨some 63, _, _, _, _, _⟩) (.bool true) rfl (by kernel_rfl) (fun u hu => exec_pickF (.tmp 51) (.const (.bool true)) (.tmp 62) (.bool true) rfl (by kernel_rfl) (by kernel_rfl)) ?_
                simp only [Act.put, List.setIfInBounds_toArray, List.set_cons_succ, List.set_cons_zero]
                refine s_val (o := ⟨some 64, _, _, _, _, _⟩) (.bool true) rfl (by kernel_rfl) (fun u hu => exec_pick (.tmp 47) (.tmp 63) (.const (.bool false)) (.bool true) rfl (by kernel_rfl) (by kernel_rfl)) ?_
                simp only [Act.put, List.setIfInBounds_toArray, List.set_cons_succ, List.set_cons_zero]
                refine s_done ?_
                have HDn := Lib.hid (HDi.out.trans (clash_hit La Lb i hmi.out (HEQ.out.2 ⟨hST, .inr hxx⟩)))
                have hkz : Kept w w6.drew := hkw2.trans (Keep.drew hkw6)
                clear hST hPR hxx hkw6 hbp6 hbq6
                go_wp2
                go_ret
                exact ⟨ret_int HDn.out.symm, hkz⟩
            · skip
              refine wp_sched (fun u => Kept w2 u ∧ Blk u gp 30 (cells8 P) ∧ Blk u gq 30 (cells8 R)) [(0, 0), (1, 0), (2, 0), (3, 0), (4, 0), (5, 0), (6, 0), (7, 0), (8, 0), (9, 0), (10, 0), (11, 0), (12, 0), (13, 0), (14, 0), (15, 0), (16, 0), (17, 0), (18, 0), (19, 0), (20, 0), (21, 0), (22, 0), (23, 0), (24, 0), (25, 0), (26, 0)] (by kernel_rfl) (by kernel_rfl) (⟨Keep.drew hkw6, hbp6, hbq6⟩) ?_
              refine s_val (o := ⟨some 38, _, _, _, _, _⟩) (.slice (some ⟨g1, 0, none⟩) n c1) rfl (by kernel_rfl) (fun u hu => exec_move (.tmp 5) (.slice (some ⟨g1, 0, none⟩) n c1) rfl (by kernel_rfl)) ?_
              simp only [Act.put, List.setIfInBounds_toArray, List.set_cons_succ, List.set_cons_zero]
              refine s_val (o := ⟨some 39, _, _, _, _, _⟩) (.int .i64 (i : Int)) rfl (by kernel_rfl) (fun u hu => exec_move (.tmp 7) (.int .i64 (i : Int)) rfl (by kernel_rfl)) ?_
              simp only [Act.put, List.setIfInBounds_toArray, List.set_cons_succ, List.set_cons_zero]
              refine s_val (o := ⟨some 40, _, _, _, _, _⟩) (.pointer (some ⟨g1, 0 + i * 32, none⟩)) rfl (by kernel_rfl) (fun u hu => exec_index 24 30 32 (.tmp 38) (.tmp 39) (g1) (0) (n) (c1) (i) rfl Tryd.underlying24 sum_size (by kernel_rfl) (by kernel_rfl) (by omega)) ?_
              simp only [Act.put, List.setIfInBounds_toArray, List.set_cons_succ, List.set_cons_zero]
              refine s_val (o := ⟨some 41, _, _, _, _, _⟩) (.agg (cells8 S).toArray) rfl (by kernel_rfl) (fun u hu => exec_load_mid (.tmp 40) g1 (0 + i * 32) S rfl (by kernel_rfl) (fun j v hv => by rw [Nat.zero_add]; exact Kept.cell hu.1 (HR1.out j v hv)) HSl.out) ?_
              simp only [Act.put, List.setIfInBounds_toArray, List.set_cons_succ, List.set_cons_zero]
              refine s_val (o := ⟨some 42, _, _, _, _, _⟩) (.slice (some ⟨g2, 0, none⟩) m c2) rfl (by kernel_rfl) (fun u hu => exec_move (.tmp 6) (.slice (some ⟨g2, 0, none⟩) m c2) rfl (by kernel_rfl)) ?_
              simp only [Act.put, List.setIfInBounds_toArray, List.set_cons_succ, List.set_cons_zero]
              refine s_val (o := ⟨some 43, _, _, _, _, _⟩) (.int .i64 (i : Int)) rfl (by kernel_rfl) (fun u hu => exec_move (.tmp 7) (.int .i64 (i : Int)) rfl (by kernel_rfl)) ?_
              simp only [Act.put, List.setIfInBounds_toArray, List.set_cons_succ, List.set_cons_zero]
              refine s_val (o := ⟨some 44, _, _, _, _, _⟩) (.pointer (some ⟨g2, 0 + i * 32, none⟩)) rfl (by kernel_rfl) (fun u hu => exec_index 24 30 32 (.tmp 42) (.tmp 43) (g2) (0) (m) (c2) (i) rfl Tryd.underlying24 sum_size (by kernel_rfl) (by kernel_rfl) (by omega)) ?_
              simp only [Act.put, List.setIfInBounds_toArray, List.set_cons_succ, List.set_cons_zero]
              refine s_val (o := ⟨some 45, _, _, _, _, _⟩) (.agg (cells8 T).toArray) rfl (by kernel_rfl) (fun u hu => exec_load_mid (.tmp 44) g2 (0 + i * 32) T rfl (by kernel_rfl) (fun j v hv => by rw [Nat.zero_add]; exact Kept.cell hu.1 (HR2.out j v hv)) HTl.out) ?_
              simp only [Act.put, List.setIfInBounds_toArray, List.set_cons_succ, List.set_cons_zero]
              refine s_val (o := ⟨some 46, _, _, _, _, _⟩) (.bool true) rfl (by kernel_rfl) (fun u hu => (by rw [exec_eql8 (.tmp 41) (.tmp 45) _ S T rfl (by kernel_rfl) (by kernel_rfl) HSl.out HTl.out, decide_eq_true hST])) ?_
              simp only [Act.put, List.setIfInBounds_toArray, List.set_cons_succ, List.set_cons_zero]
              refine s_val (o := ⟨some 47, _, _, _, _, _⟩) (.bool true) rfl (by kernel_rfl) (fun u hu => exec_move (.tmp 46) (.bool true) rfl (by kernel_rfl)) ?_
              simp only [Act.put, List.setIfInBounds_toArray, List.set_cons_succ, List.set_cons_zero]
              refine s_val (o := ⟨some 48, _, _, _, _, _⟩) (.agg (cells8 P).toArray) rfl (by kernel_rfl) (fun u hu => exec_load_row 30 (.tmp 8) gp 32 30 5 (cells8 P) rfl (by kernel_rfl) hu.2.1 Tryd.underlying30 hiP.out) ?_
              simp only [Act.put, List.setIfInBounds_toArray, List.set_cons_succ, List.set_cons_zero]
              refine s_val (o := ⟨some 49, _, _, _, _, _⟩) (.agg (cells8 R).toArray) rfl (by kernel_rfl) (fun u hu => exec_load_row 30 (.tmp 9) gq 32 30 5 (cells8 R) rfl (by kernel_rfl) hu.2.2 Tryd.underlying30 hiR.out) ?_
              simp only [Act.put, List.setIfInBounds_toArray, List.set_cons_succ, List.set_cons_zero]
              refine s_val (o := ⟨some 50, _, _, _, _, _⟩) (.bool true) rfl (by kernel_rfl) (fun u hu => (by rw [exec_neq8 (.tmp 48) (.tmp 49) _ P R rfl (by kernel_rfl) (by kernel_rfl) HPl.out HRl.out, decide_eq_false hPR]; rfl)) ?_
              simp only [Act.put, List.setIfInBounds_toArray, List.set_cons_succ, List.set_cons_zero]
              refine s_val (o := ⟨some 51, _, _, _, _, _⟩) (.bool true) rfl (by kernel_rfl) (fun u hu => exec_move (.tmp 50) (.bool true) rfl (by kernel_rfl)) ?_
              simp only [Act.put, List.setIfInBounds_toArray, List.set_cons_succ, List.set_cons_zero]
              refine s_skip (o := ⟨some 52, _, _, _, _, _⟩) rfl (by kernel_rfl) ?_
              simp only [Act.put, List.setIfInBounds_toArray, List.set_cons_succ, List.set_cons_zero]
              refine s_skip (o := ⟨some 53, _, _, _, _, _⟩) rfl (by kernel_rfl) ?_
              simp only [Act.put, List.setIfInBounds_toArray, List.set_cons_succ, List.set_cons_zero]
              refine s_skip (o := ⟨some 54, _, _, _, _, _⟩) rfl (by kernel_rfl) ?_
              simp only [Act.put, List.setIfInBounds_toArray, List.set_cons_succ, List.set_cons_zero]
              refine s_skip (o := ⟨some 55, _, _, _, _, _⟩) rfl (by kernel_rfl) ?_
              simp only [Act.put, List.setIfInBounds_toArray, List.set_cons_succ, List.set_cons_zero]
              refine s_skip (o := ⟨some 56, _, _, _, _, _⟩) rfl (by kernel_rfl) ?_
              simp only [Act.put, List.setIfInBounds_toArray, List.set_cons_succ, List.set_cons_zero]
              refine s_skip (o := ⟨some 57, _, _, _, _, _⟩) rfl (by kernel_rfl) ?_
              simp only [Act.put, List.setIfInBounds_toArray, List.set_cons_succ, List.set_cons_zero]
              refine s_skip (o := ⟨some 58, _, _, _, _, _⟩) rfl (by kernel_rfl) ?_
              simp only [Act.put, List.setIfInBounds_toArray, List.set_cons_succ, List.set_cons_zero]
              refine s_skip (o := ⟨some 59, _, _, _, _, _⟩) rfl (by kernel_rfl) ?_
              simp only [Act.put, List.setIfInBounds_toArray, List.set_cons_succ, List.set_cons_zero]
              refine s_skip (o := ⟨some 60, _, _, _, _, _⟩) rfl (by kernel_rfl) ?_
              simp only [Act.put, List.setIfInBounds_toArray, List.set_cons_succ, List.set_cons_zero]
              refine s_skip (o := ⟨some 61, _, _, _, _, _⟩) rfl (by kernel_rfl) ?_
              simp only [Act.put, List.setIfInBounds_toArray, List.set_cons_succ, List.set_cons_zero]
              refine s_skip (o := ⟨some 62, _, _, _, _, _⟩) rfl (by kernel_rfl) ?_
              simp only [Act.put, List.setIfInBounds_toArray, List.set_cons_succ, List.set_cons_zero]
              refine s_val (o := ⟨some 63, _, _, _, _, _⟩) (.bool true) rfl (by kernel_rfl) (fun u hu => exec_pick (.tmp 51) (.const (.bool true)) (.tmp 62) (.bool true) rfl (by kernel_rfl) (by kernel_rfl)) ?_
              simp only [Act.put, List.setIfInBounds_toArray, List.set_cons_succ, List.set_cons_zero]
              refine s_val (o := ⟨some 64, _, _, _, _, _⟩) (.bool true) rfl (by kernel_rfl) (fun u hu => exec_pick (.tmp 47) (.tmp 63) (.const (.bool false)) (.bool true) rfl (by kernel_rfl) (by kernel_rfl)) ?_
              simp only [Act.put, List.setIfInBounds_toArray, List.set_cons_succ, List.set_cons_zero]
              refine s_done ?_
              have HDn := Lib.hid (HDi.out.trans (clash_hit La Lb i hmi.out (HEQ.out.2 ⟨hST, .inl hPR⟩)))
              have hkz : Kept w w6.drew := hkw2.trans (Keep.drew hkw6)
              clear hST hPR hkw6 hbp6 hbq6
              go_wp2
              go_ret
              exact ⟨ret_int HDn.out.symm, hkz⟩
          · skip
            refine wp_sched (fun u => Kept w2 u ∧ Blk u gp 30 (cells8 P) ∧ Blk u gq 30 (cells8 R)) [(0, 0), (1, 0), (2, 0), (3, 0), (4, 0), (5, 0), (6, 0), (7, 0), (8, 0), (9, 0), (10, 0), (11, 0), (12, 0), (13, 0), (14, 0), (15, 0), (16, 0), (17, 0), (18, 0), (19, 0), (20, 0), (21, 0), (22, 0), (23, 0), (24, 0), (25, 0), (26, 0)] (by kernel_rfl) (by kernel_rfl) (⟨Keep.drew hkw6, hbp6, hbq6⟩) ?_
            refine s_val (o := ⟨some 38, _, _, _, _, _⟩) (.slice (some ⟨g1, 0, none⟩) n c1) rfl (by kernel_rfl) (fun u hu => exec_move (.tmp 5) (.slice (some ⟨g1, 0, none⟩) n c1) rfl (by kernel_rfl)) ?_
            simp only [Act.put, List.setIfInBounds_toArray, List.set_cons_succ, List.set_cons_zero]
            refine s_val (o := ⟨some 39, _, _, _, _, _⟩) (.int .i64 (i : Int)) rfl (by kernel_rfl) (fun u hu => exec_move (.tmp 7) (.int .i64 (i : Int)) rfl (by kernel_rfl)) ?_
            simp only [Act.put, List.setIfInBounds_toArray, List.set_cons_succ, List.set_cons_zero]
            refine s_val (o := ⟨some 40, _, _, _, _, _⟩) (.pointer (some ⟨g1, 0 + i * 32, none⟩)) rfl (by kernel_rfl) (fun u hu => exec_index 24 30 32 (.tmp 38) (.tmp 39) (g1) (0) (n) (c1) (i) rfl Tryd.underlying24 sum_size (by kernel_rfl) (by kernel_rfl) (by omega)) ?_
            simp only [Act.put, List.setIfInBounds_toArray, List.set_cons_succ, List.set_cons_zero]
            refine s_val (o := ⟨some 41, _, _, _, _, _⟩) (.agg (cells8 S).toArray) rfl (by kernel_rfl) (fun u hu => exec_load_mid (.tmp 40) g1 (0 + i * 32) S rfl (by kernel_rfl) (fun j v hv => by rw [Nat.zero_add]; exact Kept.cell hu.1 (HR1.out j v hv)) HSl.out) ?_
            simp only [Act.put, List.setIfInBounds_toArray, List.set_cons_succ, List.set_cons_zero]
            refine s_val (o := ⟨some 42, _, _, _, _, _⟩) (.slice (some ⟨g2, 0, none⟩) m c2) rfl (by kernel_rfl) (fun u hu => exec_move (.tmp 6) (.slice (some ⟨g2, 0, none⟩) m c2) rfl (by kernel_rfl)) ?_
            simp only [Act.put, List.setIfInBounds_toArray, List.set_cons_succ, List.set_cons_zero]
            refine s_val (o := ⟨some 43, _, _, _, _, _⟩) (.int .i64 (i : Int)) rfl (by kernel_rfl) (fun u hu => exec_move (.tmp 7) (.int .i64 (i : Int)) rfl (by kernel_rfl)) ?_
            simp only [Act.put, List.setIfInBounds_toArray, List.set_cons_succ, List.set_cons_zero]
            refine s_val (o := ⟨some 44, _, _, _, _, _⟩) (.pointer (some ⟨g2, 0 + i * 32, none⟩)) rfl (by kernel_rfl) (fun u hu => exec_index 24 30 32 (.tmp 42) (.tmp 43) (g2) (0) (m) (c2) (i) rfl Tryd.underlying24 sum_size (by kernel_rfl) (by kernel_rfl) (by omega)) ?_
            simp only [Act.put, List.setIfInBounds_toArray, List.set_cons_succ, List.set_cons_zero]
            refine s_val (o := ⟨some 45, _, _, _, _, _⟩) (.agg (cells8 T).toArray) rfl (by kernel_rfl) (fun u hu => exec_load_mid (.tmp 44) g2 (0 + i * 32) T rfl (by kernel_rfl) (fun j v hv => by rw [Nat.zero_add]; exact Kept.cell hu.1 (HR2.out j v hv)) HTl.out) ?_
            simp only [Act.put, List.setIfInBounds_toArray, List.set_cons_succ, List.set_cons_zero]
            refine s_val (o := ⟨some 46, _, _, _, _, _⟩) (.bool false) rfl (by kernel_rfl) (fun u hu => (by rw [exec_eql8 (.tmp 41) (.tmp 45) _ S T rfl (by kernel_rfl) (by kernel_rfl) HSl.out HTl.out, decide_eq_false hST])) ?_
            simp only [Act.put, List.setIfInBounds_toArray, List.set_cons_succ, List.set_cons_zero]
            refine s_val (o := ⟨some 47, _, _, _, _, _⟩) (.bool false) rfl (by kernel_rfl) (fun u hu => exec_move (.tmp 46) (.bool false) rfl (by kernel_rfl)) ?_
            simp only [Act.put, List.setIfInBounds_toArray, List.set_cons_succ, List.set_cons_zero]
            refine s_skip (o := ⟨some 48, _, _, _, _, _⟩) rfl (by kernel_rfl) ?_
            simp only [Act.put, List.setIfInBounds_toArray, List.set_cons_succ, List.set_cons_zero]
            refine s_skip (o := ⟨some 49, _, _, _, _, _⟩) rfl (by kernel_rfl) ?_
            simp only [Act.put, List.setIfInBounds_toArray, List.set_cons_succ, List.set_cons_zero]
            refine s_skip (o := ⟨some 50, _, _, _, _, _⟩) rfl (by kernel_rfl) ?_
            simp only [Act.put, List.setIfInBounds_toArray, List.set_cons_succ, List.set_cons_zero]
            refine s_skip (o := ⟨some 51, _, _, _, _, _⟩) rfl (by kernel_rfl) ?_
            simp only [Act.put, List.setIfInBounds_toArray, List.set_cons_succ, List.set_cons_zero]
            refine s_skip (o := ⟨some 52, _, _, _, _, _⟩) rfl (by kernel_rfl) ?_
            simp only [Act.put, List.setIfInBounds_toArray, List.set_cons_succ, List.set_cons_zero]
            refine s_skip (o := ⟨some 53, _, _, _, _, _⟩) rfl (by kernel_rfl) ?_
            simp only [Act.put, List.setIfInBounds_toArray, List.set_cons_succ, List.set_cons_zero]
            refine s_skip (o := ⟨some 54, _, _, _, _, _⟩) rfl (by kernel_rfl) ?_
            simp only [Act.put, List.setIfInBounds_toArray, List.set_cons_succ, List.set_cons_zero]
            refine s_skip (o := ⟨some 55, _, _, _, _, _⟩) rfl (by kernel_rfl) ?_
            simp only [Act.put, List.setIfInBounds_toArray, List.set_cons_succ, List.set_cons_zero]
            refine s_skip (o := ⟨some 56, _, _, _, _, _⟩) rfl (by kernel_rfl) ?_
            simp only [Act.put, List.setIfInBounds_toArray, List.set_cons_succ, List.set_cons_zero]
            refine s_skip (o := ⟨some 57, _, _, _, _, _⟩) rfl (by kernel_rfl) ?_
            simp only [Act.put, List.setIfInBounds_toArray, List.set_cons_succ, List.set_cons_zero]
            refine s_skip (o := ⟨some 58, _, _, _, _, _⟩) rfl (by kernel_rfl) ?_
            simp only [Act.put, List.setIfInBounds_toArray, List.set_cons_succ, List.set_cons_zero]
            refine s_skip (o := ⟨some 59, _, _, _, _, _⟩) rfl (by kernel_rfl) ?_
            simp only [Act.put, List.setIfInBounds_toArray, List.set_cons_succ, List.set_cons_zero]
            refine s_skip (o := ⟨some 60, _, _, _, _, _⟩) rfl (by kernel_rfl) ?_
            simp only [Act.put, List.setIfInBounds_toArray, List.set_cons_succ, List.set_cons_zero]
            refine s_skip (o := ⟨some 61, _, _, _, _, _⟩) rfl (by kernel_rfl) ?_
            simp only [Act.put, List.setIfInBounds_toArray, List.set_cons_succ, List.set_cons_zero]
            refine s_skip (o := ⟨some 62, _, _, _, _, _⟩) rfl (by kernel_rfl) ?_
            simp only [Act.put, List.setIfInBounds_toArray, List.set_cons_succ, List.set_cons_zero]
            refine s_skip (o := ⟨some 63, _, _, _, _, _⟩) rfl (by kernel_rfl) ?_
            simp only [Act.put, List.setIfInBounds_toArray, List.set_cons_succ, List.set_cons_zero]
            refine s_val (o := ⟨some 64, _, _, _, _, _⟩) (.bool false) rfl (by kernel_rfl) (fun u hu => exec_pickF (.tmp 47) (.tmp 63) (.const (.bool false)) (.bool false) rfl (by kernel_rfl) (by kernel_rfl)) ?_
            simp only [Act.put, List.setIfInBounds_toArray, List.set_cons_succ, List.set_cons_zero]
            refine s_done ?_
            have HDn := Lib.hid (HDi.out.trans (clash_next La Lb i hmi.out (fun h => hST (HEQ.out.1 h).1)))
            have hkz : Kept w2 w6.drew := Keep.drew hkw6
            clear hST  hkw6 hbp6 hbq6
            go_wp2
            exact ⟨⟨i + 1, by omega, by omega, by go_num, hkz, HDn⟩, by simp [intOf]; omega⟩
      · have hdl : decide ((i : Int) < (m : Int)) = false := by simp; omega
        have hD0 : D = -1 := by
          have h1 := hla.out
          have h2 := hlb.out
          have := HDi.out
          rw [show min La.length Lb.length - i = 0 by omega] at this
          exact this
        have HD0 := Lib.hid hD0
        have hkz := hkw2.trans hkr
        clear hD0 HDi hkr
        go_wp2
        go_ret
        exact ⟨ret_int HD0.out.symm, hkz⟩
    · have hdl : decide ((i : Int) < (n : Int)) = false := by simp; omega
      have hD0 : D = -1 := by
        have h1 := hla.out
        have h2 := hlb.out
        have := HDi.out
        rw [show min La.length Lb.length - i = 0 by omega] at this
        exact this
      have HD0 := Lib.hid hD0
      have hkz := hkw2.trans hkr
      clear hD0 HDi hkr
      go_wp2
      go_ret
      exact ⟨ret_int HD0.out.symm, hkz⟩
end Go.Proofs.YtholpkaicmckfaaDoor
