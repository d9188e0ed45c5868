/-
  The contract of jobberlaw4.clashes where two rows do clash: it says so. Condition: lengths far below 2^47.
-/
import Derived.Test.YtholpkaicmckfaaDoorChnClash
import Derived.Test.YtholpkaicmckfaaDoorSame4
namespace Go.Proofs.YtholpkaicmckfaaDoor
open Go.RowKit
set_option linter.unusedVariables false

set_option maxRecDepth 100000 in
set_option maxHeartbeats 6400000 in
theorem clashes_true (va vb : Value) (La Lb : List (List UInt8)) (j : Nat) (w : World) (hG : Glob w) (ha : RecV w va La) (hb : RecV w vb Lb) (hna : La.length ≤ 1000000) (hnb : Lb.length ≤ 1000000) (hea : ∀ x ∈ La, x.length ≤ 800000) (heb : ∀ x ∈ Lb, x.length ≤ 800000) (hcl : clashAt La Lb j) :
    Calls Tryd.prog 19 #[va, vb, .int .i64 (j : Int)] w fun e w' => e = .returned (.bool true) ∧ Kept w w' := by
  obtain ⟨A, n, c, rfl, hla, hA, -, -⟩ := ha
  obtain ⟨B, m, d, rfl, hlb, hB, -, -⟩ := hb
  have hn : n ≤ 1000000 := by have := hla.out; omega
  have hm : m ≤ 1000000 := by have := hlb.out; omega
  have HA := Lib.hid hA
  have HB := Lib.hid hB
  have HG := Lib.hid hG
  have HEA := Lib.hid hea
  have HEB := Lib.hid heb
  have hja : j < La.length := hcl.1
  have hjb : j < Lb.length := hcl.2.1
  have hjn : j < n := by rw [← hla.out]; exact hja
  have hjm : j < m := by rw [← hlb.out]; exact hjb
  obtain ⟨b1, o1, v1, eA, hd1, hv1⟩ := hA j La[j] (List.getElem?_eq_getElem hja)
  obtain ⟨b2, o2, v2, eB, hd2, hv2⟩ := hB j Lb[j] (List.getElem?_eq_getElem hjb)
  subst eA eB
  have HJ : Hid (aheadOf La (j + 1) = aheadOf Lb (j + 1) ∧ (aheadOf La j ≠ aheadOf Lb j ∨ La[j] ≠ Lb[j])) := by
    obtain ⟨_, _, h3, h4⟩ := hcl
    rw [List.getElem?_eq_getElem hja, List.getElem?_eq_getElem hjb] at h4
    exact ⟨h3, by simpa using h4⟩
  have HJ1 : Hid (aheadOf La (j + 1) = linkOf (aheadOf La j) La[j]) := aheadOf_succ La j _ (List.getElem?_eq_getElem hja)
  have HJ2 : Hid (aheadOf Lb (j + 1) = linkOf (aheadOf Lb j) Lb[j]) := aheadOf_succ Lb j _ (List.getElem?_eq_getElem hjb)
  have HJa := Lib.hid (HEA.out La[j] (List.getElem_mem hja))
  have HJb := Lib.hid (HEB.out Lb[j] (List.getElem_mem hjb))
  have HLA := Lib.hid (aheadOf_length La j (by omega))
  have HLB := Lib.hid (aheadOf_length Lb j (by omega))
  generalize La[j] = ya at hv1 HJ HJ1 HJa
  generalize Lb[j] = yb at hv2 HJ HJ2 HJb
  have HD1 : Hid (w.cell? ⟨b1, o1 + j * 1, none⟩ = some v1) := by show _ = _; rw [Nat.mul_one]; exact hd1
  have HD2 : Hid (w.cell? ⟨b2, o2 + j * 1, none⟩ = some v2) := by show _ = _; rw [Nat.mul_one]; exact hd2
  have HV1 := Lib.hid hv1
  have HV2 := Lib.hid hv2
  clear hA hB hG hea heb hcl hna hnb hja hjb hd1 hd2 hv1 hv2
  go_enter Tryd.func19, Tryd.ntmps19
  go_wp2_with ((with_reducible show wpList _ _ _ _ _ _); (first
    | ((with_reducible refine wpl_alloc (o := ⟨some 7, _, _, _, _, _⟩) _ rfl 30 rfl z32 sum_zero ?_); intro w1 hb1 hs1 hk1w; clear hs1)
    | ((with_reducible refine wpl_alloc (o := ⟨some 8, _, _, _, _, _⟩) _ rfl 30 rfl z32 sum_zero ?_); intro w2 hb2 hs2 hk2w; clear hs2)))
  have hkw2 := hk1w.trans hk2w
  have hbp2 : Blk w2 w.heap.size 30 (cells8 (aheadOf La 0)) := hb1.kept hk2w
  have hbq2 : Blk w2 w1.heap.size 30 (cells8 (aheadOf Lb 0)) := hb2
  have hgg : w.heap.size < w1.heap.size := hb1.lt
  clear hk1w hk2w hb1 hb2
  generalize hgp : w.heap.size = gp at hbp2 hgg ⊢
  generalize w1.heap.size = gq at hbq2 hgg ⊢
  have hgw2 : w.heap.size ≤ gp := by omega
  clear hgp
  go_loopw [9] (fun v wr => ∃ i : Nat, i ≤ j ∧ v = .int .i64 i ∧ Kept w wr ∧ Blk wr gp 30 (cells8 (aheadOf La i)) ∧ Blk wr gq 30 (cells8 (aheadOf Lb i))) (fun v _ => j - (intOf v).toNat)
  case atStart => exact ⟨0, Nat.zero_le _, rfl, hkw2, hbp2, hbq2⟩
  case round =>
    obtain ⟨i, hi, rfl, hkr, hbp, hbq⟩ := hrel
    by_cases hlt : i < j
    · have hia : i < La.length := by rw [hla.out]; omega
      have hib : i < Lb.length := by rw [hlb.out]; omega
      obtain ⟨b1', o1', u1, e1, hc1, hu1⟩ := HA.out i La[i] (List.getElem?_eq_getElem hia)
      obtain ⟨b2', o2', u2, e2, hc2, hu2⟩ := HB.out i Lb[i] (List.getElem?_eq_getElem hib)
      injection e1 with e1
      injection e1 with e11 e12
      subst e11 e12
      injection e2 with e2
      injection e2 with e21 e22
      subst e21 e22
      obtain ⟨P, hP⟩ : ∃ P, P = aheadOf La i := ⟨_, rfl⟩
      obtain ⟨R, hR⟩ : ∃ R, R = aheadOf Lb i := ⟨_, rfl⟩
      obtain ⟨S, hS⟩ : ∃ S, S = aheadOf La (i + 1) := ⟨_, rfl⟩
      obtain ⟨T, hT⟩ : ∃ T, T = aheadOf Lb (i + 1) := ⟨_, rfl⟩
      have hPl : P.length = 32 := by rw [hP]; exact aheadOf_length La i (by omega)
      have hRl : R.length = 32 := by rw [hR]; exact aheadOf_length Lb i (by omega)
      have hSl : S.length = 32 := by rw [hS]; exact aheadOf_length La (i + 1) (by omega)
      have hTl : T.length = 32 := by rw [hT]; exact aheadOf_length Lb (i + 1) (by omega)
      have HSS : Hid (∀ t, t = linkOf P La[i] → t = S) := fun t h => by rw [h, hS, hP, aheadOf_succ La i _ (List.getElem?_eq_getElem hia)]
      have HTT : Hid (∀ t, t = linkOf R Lb[i] → t = T) := fun t h => by rw [h, hT, hR, aheadOf_succ Lb i _ (List.getElem?_eq_getElem hib)]
      have HXa := Lib.hid (HEA.out La[i] (List.getElem_mem hia))
      have HXb := Lib.hid (HEB.out Lb[i] (List.getElem_mem hib))
      rw [← hP] at hbp
      rw [← hR] at hbq
      have HS := Lib.hid hS
      have HT := Lib.hid hT
      clear hP hR hS hT
      generalize La[i] = xa at hu1 HSS HXa
      generalize Lb[i] = xb at hu2 HTT HXb
      have HC1 : Hid (w.cell? ⟨b1, o1 + i * 1, none⟩ = some u1) := by show _ = _; rw [Nat.mul_one]; exact hc1
      have HC2 : Hid (w.cell? ⟨b2, o2 + i * 1, none⟩ = some u2) := by show _ = _; rw [Nat.mul_one]; exact hc2
      have HU1 := Lib.hid hu1
      have HU2 := Lib.hid hu2
      have hiP := size_arr P hPl
      have hiR := size_arr R hRl
      have hiS := size_arr S hSl
      have hiT := size_arr T hTl
      have hzS : Hid ((cells8 P).length = (cells8 S).length) := by show _ = _; rw [len8, len8, hPl, hSl]
      have hzT : Hid ((cells8 R).length = (cells8 T).length) := by show _ = _; rw [len8, len8, hRl, hTl]
      have HPl := Lib.hid hPl
      have HRl := Lib.hid hRl
      clear hc1 hc2 hu1 hu2 hia hib hPl hRl hSl hTl
      go_wp2_with fail
      refine wp_class_tail (C := fun u => Kept w u ∧ Blk u gp 30 (cells8 P) ∧ Blk u gq 30 (cells8 R)) 12 (by kernel_rfl) (by kernel_rfl) (⟨Keep.drew hkr, hbp, hbq⟩) ?_
      simp only [List.take_succ_cons, List.take_zero, List.drop_succ_cons, List.drop_zero]
      refine q_val (.agg (cells8 P).toArray) (by kernel_rfl) (fun u hu => exec_load_row 30 (.tmp 7) gp 32 30 5 (cells8 P) rfl (by kernel_rfl) hu.2.1 Tryd.underlying30 hiP.out) ?_
      simp only [Act.put, List.setIfInBounds_toArray, List.set_cons_succ, List.set_cons_zero]
      refine q_val (.slice (some ⟨b1, o1, none⟩) n c) (by kernel_rfl) (fun u hu => exec_move (.tmp 0) (.slice (some ⟨b1, o1, none⟩) n c) rfl (by kernel_rfl)) ?_
      simp only [Act.put, List.setIfInBounds_toArray, List.set_cons_succ, List.set_cons_zero]
      refine q_val (.int .i64 (i : Int)) (by kernel_rfl) (fun u hu => exec_move (.tmp 9) (.int .i64 (i : Int)) rfl (by kernel_rfl)) ?_
      simp only [Act.put, List.setIfInBounds_toArray, List.set_cons_succ, List.set_cons_zero]
      refine q_val (.pointer (some ⟨b1, o1 + i * 1, none⟩)) (by kernel_rfl) (fun u hu => exec_index 23 22 1 (.tmp 30) (.tmp 31) b1 o1 n c i rfl Tryd.underlying23 sl_size (by kernel_rfl) (by kernel_rfl) (by omega)) ?_
      simp only [Act.put, List.setIfInBounds_toArray, List.set_cons_succ, List.set_cons_zero]
      refine q_val (u1) (by kernel_rfl) (fun u hu => exec_load_sl (.tmp 32) ⟨b1, o1 + i * 1, none⟩ u1 rfl (by kernel_rfl) (Kept.cell hu.1 HC1.out)) ?_
      simp only [Act.put, List.setIfInBounds_toArray, List.set_cons_succ, List.set_cons_zero]
      refine q_call (.agg (cells8 S).toArray) 14 #[.agg (cells8 P).toArray, u1] (by kernel_rfl) (exec_call 14 _ [.tmp 29, .tmp 33] _ _ Tryd.func14 (by kernel_rfl) (by kernel_rfl) rfl (by kernel_rfl)) (fun u hu => (link_any P xa u1 u (HG.out.kept hu.1) HPl.out (HU1.out.kept hu.1) HXa.out).mono fun e w' ⟨h1, h2⟩ => ⟨by rw [h1, HSS.out _ rfl], Kept.trans hu.1 h2, hu.2.1.kept h2, hu.2.2.kept h2⟩) ?_
      simp only [Act.put, List.setIfInBounds_toArray, List.set_cons_succ, List.set_cons_zero]
      refine q_val (.agg (cells8 R).toArray) (by kernel_rfl) (fun u hu => exec_load_row 30 (.tmp 8) gq 32 30 5 (cells8 R) rfl (by kernel_rfl) hu.2.2 Tryd.underlying30 hiR.out) ?_
      simp only [Act.put, List.setIfInBounds_toArray, List.set_cons_succ, List.set_cons_zero]
      refine q_val (.slice (some ⟨b2, o2, none⟩) m d) (by kernel_rfl) (fun u hu => exec_move (.tmp 1) (.slice (some ⟨b2, o2, none⟩) m d) rfl (by kernel_rfl)) ?_
      simp only [Act.put, List.setIfInBounds_toArray, List.set_cons_succ, List.set_cons_zero]
      refine q_val (.int .i64 (i : Int)) (by kernel_rfl) (fun u hu => exec_move (.tmp 9) (.int .i64 (i : Int)) rfl (by kernel_rfl)) ?_
      simp only [Act.put, List.setIfInBounds_toArray, List.set_cons_succ, List.set_cons_zero]
      refine q_val (.pointer (some ⟨b2, o2 + i * 1, none⟩)) (by kernel_rfl) (fun u hu => exec_index 23 22 1 (.tmp 36) (.tmp 37) b2 o2 m d i rfl Tryd.underlying23 sl_size (by kernel_rfl) (by kernel_rfl) (by omega)) ?_
      simp only [Act.put, List.setIfInBounds_toArray, List.set_cons_succ, List.set_cons_zero]
      refine q_val (u2) (by kernel_rfl) (fun u hu => exec_load_sl (.tmp 38) ⟨b2, o2 + i * 1, none⟩ u2 rfl (by kernel_rfl) (Kept.cell hu.1 HC2.out)) ?_
      simp only [Act.put, List.setIfInBounds_toArray, List.set_cons_succ, List.set_cons_zero]
      refine q_call (.agg (cells8 T).toArray) 14 #[.agg (cells8 R).toArray, u2] (by kernel_rfl) (exec_call 14 _ [.tmp 35, .tmp 39] _ _ Tryd.func14 (by kernel_rfl) (by kernel_rfl) rfl (by kernel_rfl)) (fun u hu => (link_any R xb u2 u (HG.out.kept hu.1) HRl.out (HU2.out.kept hu.1) HXb.out).mono fun e w' ⟨h1, h2⟩ => ⟨by rw [h1, HTT.out _ rfl], Kept.trans hu.1 h2, hu.2.1.kept h2, hu.2.2.kept h2⟩) ?_
      simp only [Act.put, List.setIfInBounds_toArray, List.set_cons_succ, List.set_cons_zero]
      refine wpQuiet_nil ?_
      intro w3 ⟨hk3, hbp3, hbq3⟩
      have hltp := hbp3.lt
      have hltq := hbq3.lt
      clear hkr hbp hbq
      go_wp2_with ((with_reducible show wpList _ _ _ _ _ _); (first
        | ((with_reducible refine wpl_store_row (o := ⟨none, _, _, _, _, _⟩) _ rfl 30 (.tmp 7) (.tmp 34) rfl gp (cells8 S) ?hp ?hv 30 (cells8 P) hbp3 hiS.out hzS.out (cells8_one _) ?_); (case hp => rfl); (case hv => rfl); intro w4 hbp4 hk4 hs4; clear hs4; have hbq4 := hbq3.keep hk4 (by omega); have hkw4 : Kept w w4 := Kept.trans' hk3 hk4 (by omega))
        | ((with_reducible refine wpl_store_row (o := ⟨none, _, _, _, _, _⟩) _ rfl 30 (.tmp 8) (.tmp 40) rfl gq (cells8 T) ?hp2 ?hv2 30 (cells8 R) hbq4 hiT.out hzT.out (cells8_one _) ?_); (case hp2 => rfl); (case hv2 => rfl); intro w5 hbq5 hk5 hs5; clear hs5; have hbp5 := hbp4.keep hk5 (by omega); have hkw5 : Kept w w5 := Kept.trans' hkw4 hk5 (by omega))))
      rw [HS.out] at hbp5
      rw [HT.out] at hbq5
      exact ⟨⟨i + 1, by omega, by go_num, hkw5, hbp5, hbq5⟩, by simp [intOf]; omega⟩
    · obtain rfl : i = j := by omega
      obtain ⟨P, hP⟩ : ∃ P, P = aheadOf La i := ⟨_, rfl⟩
      obtain ⟨R, hR⟩ : ∃ R, R = aheadOf Lb i := ⟨_, rfl⟩
      obtain ⟨S, hS⟩ : ∃ S, S = aheadOf La (i + 1) := ⟨_, rfl⟩
      have HSS : Hid (∀ t, t = linkOf P ya → t = S) := fun t h => by rw [h, hS, hP, HJ1.out]
      have HTT : Hid (∀ t, t = linkOf R yb → t = S) := fun t h => by rw [h, hS, HJ.out.1, hR, HJ2.out]
      have HOR : Hid (P ≠ R ∨ ya ≠ yb) := by rw [hP, hR]; exact HJ.out.2
      have hSl : S.length = 32 := by rw [hS]; exact aheadOf_length La (i + 1) (by have := hla.out; omega)
      have hPl : P.length = 32 := by rw [hP]; exact HLA.out
      have hRl : R.length = 32 := by rw [hR]; exact HLB.out
      rw [← hP] at hbp
      rw [← hR] at hbq
      have hiP := size_arr P hPl
      have hiR := size_arr R hRl
      have HPl := Lib.hid hPl
      have HRl := Lib.hid hRl
      have HSl := Lib.hid hSl
      clear hP hR hS hSl hPl hRl HJ HJ1 HJ2 HLA HLB
      obtain ⟨A1, n1, k1, rfl, hl1, hR1, hn1, hm1, hz1⟩ := HV1.out
      obtain ⟨A2, n2, k2, rfl, hl2, hR2, hn2, hm2, hz2⟩ := HV2.out
      have HR1 := Lib.hid hR1
      have HR2 := Lib.hid hR2
      have HZ1 := Lib.hid hz1
      have HZ2 := Lib.hid hz2
      have HM1 := Lib.hid hm1
      have HM2 := Lib.hid hm2
      clear hR1 hR2 hz1 hz2 hm1 hm2
      go_wp2_with fail
      by_cases hPR : P = R
      · have hyy : ¬ ya = yb := HOR.out.elim (fun h => absurd hPR h) (fun h => h)
        refine wp_sched (fun u => Kept w u ∧ Blk u gp 30 (cells8 P) ∧ Blk u gq 30 (cells8 R)) [(0, 0), (1, 0), (2, 0), (3, 0), (4, 0), (5, 0), (6, 0), (7, 0), (8, 0), (9, 0), (10, 0), (11, 0), (12, 1), (13, 0), (14, 0), (15, 0), (16, 0), (17, 0), (18, 0), (19, 0), (20, 0), (22, 0), (23, 0), (24, 0), (25, 0), (26, 0), (21, 1), (27, 1), (28, 0), (29, 0), (30, 0)] (by kernel_rfl) (by kernel_rfl) (⟨Keep.drew hkr, hbp, hbq⟩) ?_
        refine s_val (o := ⟨some 41, _, _, _, _, _⟩) (.agg (cells8 P).toArray) rfl (by kernel_rfl) (fun u hu => exec_load_row 30 (.tmp 7) gp 32 30 5 (cells8 P) rfl (by kernel_rfl) hu.2.1 Tryd.underlying30 hiP.out) ?_
        simp only [Act.put, List.setIfInBounds_toArray, List.set_cons_succ, List.set_cons_zero]
        refine s_val (o := ⟨some 42, _, _, _, _, _⟩) (.agg (cells8 R).toArray) rfl (by kernel_rfl) (fun u hu => exec_load_row 30 (.tmp 8) gq 32 30 5 (cells8 R) rfl (by kernel_rfl) hu.2.2 Tryd.underlying30 hiR.out) ?_
        simp only [Act.put, List.setIfInBounds_toArray, List.set_cons_succ, List.set_cons_zero]
        refine s_val (o := ⟨some 43, _, _, _, _, _⟩) (.bool false) rfl (by kernel_rfl) (fun u hu => (by rw [exec_neq8 (.tmp 41) (.tmp 42) _ P R rfl (by kernel_rfl) (by kernel_rfl) HPl.out HRl.out, decide_eq_true hPR]; rfl)) ?_
        simp only [Act.put, List.setIfInBounds_toArray, List.set_cons_succ, List.set_cons_zero]
        refine s_val (o := ⟨some 44, _, _, _, _, _⟩) (.bool false) rfl (by kernel_rfl) (fun u hu => exec_move (.tmp 43) (.bool false) rfl (by kernel_rfl)) ?_
        simp only [Act.put, List.setIfInBounds_toArray, List.set_cons_succ, List.set_cons_zero]
        refine s_val (o := ⟨some 45, _, _, _, _, _⟩) (.slice (some ⟨b1, o1, none⟩) n c) rfl (by kernel_rfl) (fun u hu => exec_move (.tmp 0) (.slice (some ⟨b1, o1, none⟩) n c) rfl (by kernel_rfl)) ?_
        simp only [Act.put, List.setIfInBounds_toArray, List.set_cons_succ, List.set_cons_zero]
        refine s_val (o := ⟨some 46, _, _, _, _, _⟩) (.int .i64 (i : Int)) rfl (by kernel_rfl) (fun u hu => exec_move (.tmp 2) (.int .i64 (i : Int)) rfl (by kernel_rfl)) ?_
        simp only [Act.put, List.setIfInBounds_toArray, List.set_cons_succ, List.set_cons_zero]
        refine s_val (o := ⟨some 47, _, _, _, _, _⟩) (.pointer (some ⟨b1, o1 + i * 1, none⟩)) rfl (by kernel_rfl) (fun u hu => exec_index 23 22 1 (.tmp 45) (.tmp 46) (b1) (o1) (n) (c) (i) rfl Tryd.underlying23 sl_size (by kernel_rfl) (by kernel_rfl) (by omega)) ?_
        simp only [Act.put, List.setIfInBounds_toArray, List.set_cons_succ, List.set_cons_zero]
        refine s_val (o := ⟨some 48, _, _, _, _, _⟩) (.slice A1 n1 k1) rfl (by kernel_rfl) (fun u hu => exec_load_sl (.tmp 47) ⟨b1, o1 + i * 1, none⟩ (.slice A1 n1 k1) rfl (by kernel_rfl) (Kept.cell hu.1 HD1.out)) ?_
        simp only [Act.put, List.setIfInBounds_toArray, List.set_cons_succ, List.set_cons_zero]
        refine s_val (o := ⟨some 49, _, _, _, _, _⟩) (.slice (some ⟨b2, o2, none⟩) m d) rfl (by kernel_rfl) (fun u hu => exec_move (.tmp 1) (.slice (some ⟨b2, o2, none⟩) m d) rfl (by kernel_rfl)) ?_
        simp only [Act.put, List.setIfInBounds_toArray, List.set_cons_succ, List.set_cons_zero]
        refine s_val (o := ⟨some 50, _, _, _, _, _⟩) (.int .i64 (i : Int)) rfl (by kernel_rfl) (fun u hu => exec_move (.tmp 2) (.int .i64 (i : Int)) rfl (by kernel_rfl)) ?_
        simp only [Act.put, List.setIfInBounds_toArray, List.set_cons_succ, List.set_cons_zero]
        refine s_val (o := ⟨some 51, _, _, _, _, _⟩) (.pointer (some ⟨b2, o2 + i * 1, none⟩)) rfl (by kernel_rfl) (fun u hu => exec_index 23 22 1 (.tmp 49) (.tmp 50) (b2) (o2) (m) (d) (i) rfl Tryd.underlying23 sl_size (by kernel_rfl) (by kernel_rfl) (by omega)) ?_
        simp only [Act.put, List.setIfInBounds_toArray, List.set_cons_succ, List.set_cons_zero]
        refine s_val (o := ⟨some 52, _, _, _, _, _⟩) (.slice A2 n2 k2) rfl (by kernel_rfl) (fun u hu => exec_load_sl (.tmp 51) ⟨b2, o2 + i * 1, none⟩ (.slice A2 n2 k2) rfl (by kernel_rfl) (Kept.cell hu.1 HD2.out)) ?_
        simp only [Act.put, List.setIfInBounds_toArray, List.set_cons_succ, List.set_cons_zero]
        refine s_call (o := ⟨some 53, _, _, _, _, _⟩) 28 #[.slice A1 n1 k1, .slice A2 n2 k2] rfl (by kernel_rfl) (exec_call 28 _ [.tmp 48, .tmp 52] _ _ Tryd.func28 (by kernel_rfl) (by kernel_rfl) rfl (by kernel_rfl)) ?_
        refine (same_is A1 A2 n1 n2 k1 k2 ya yb false wr.drew (decide_eq_false hyy) (HR1.out.kept (Keep.drew hkr)) (HR2.out.kept (Keep.drew hkr)) (Nat.le_trans hn1 HM1.out) hl1 hl2).mono ?_
        rintro e w3 ⟨rfl, k3, rfl⟩
        have hk3 : Kept w (wr.drew.drewN k3) := Keep.drewN (Keep.drew hkr) k3
        have hbp3 : Blk (wr.drew.drewN k3) gp 30 (cells8 P) := hbp
        have hbq3 : Blk (wr.drew.drewN k3) gq 30 (cells8 R) := hbq
        generalize wr.drew.drewN k3 = w3 at hk3 hbp3 hbq3 ⊢
        refine ⟨_, rfl, ⟨hk3, hbp3, hbq3⟩, ?_⟩
        simp only [Act.put, List.setIfInBounds_toArray, List.set_cons_succ, List.set_cons_zero]
        refine s_val (o := ⟨some 54, _, _, _, _, _⟩) (.bool true) rfl (by kernel_rfl) (fun u hu => exec_not _ (.tmp 53) false rfl (by kernel_rfl)) ?_
        simp only [Act.put, List.setIfInBounds_toArray, List.set_cons_succ, List.set_cons_zero]
        refine s_val (o := ⟨some 55, _, _, _, _, _⟩) (.bool true) rfl (by kernel_rfl) (fun u hu => exec_pickF (.tmp 44) (.const (.bool true)) (.tmp 54) (.bool true) rfl (by kernel_rfl) (by kernel_rfl)) ?_
        simp only [Act.put, List.setIfInBounds_toArray, List.set_cons_succ, List.set_cons_zero]
        refine s_val (o := ⟨some 56, _, _, _, _, _⟩) (.bool true) rfl (by kernel_rfl) (fun u hu => exec_move (.tmp 55) (.bool true) rfl (by kernel_rfl)) ?_
        simp only [Act.put, List.setIfInBounds_toArray, List.set_cons_succ, List.set_cons_zero]
        refine s_val (o := ⟨some 57, _, _, _, _, _⟩) (.agg (cells8 P).toArray) rfl (by kernel_rfl) (fun u hu => exec_load_row 30 (.tmp 7) gp 32 30 5 (cells8 P) rfl (by kernel_rfl) hu.2.1 Tryd.underlying30 hiP.out) ?_
        simp only [Act.put, List.setIfInBounds_toArray, List.set_cons_succ, List.set_cons_zero]
        refine s_val (o := ⟨some 58, _, _, _, _, _⟩) (.slice (some ⟨b1, o1, none⟩) n c) rfl (by kernel_rfl) (fun u hu => exec_move (.tmp 0) (.slice (some ⟨b1, o1, none⟩) n c) rfl (by kernel_rfl)) ?_
        simp only [Act.put, List.setIfInBounds_toArray, List.set_cons_succ, List.set_cons_zero]
        refine s_val (o := ⟨some 59, _, _, _, _, _⟩) (.int .i64 (i : Int)) rfl (by kernel_rfl) (fun u hu => exec_move (.tmp 2) (.int .i64 (i : Int)) rfl (by kernel_rfl)) ?_
        simp only [Act.put, List.setIfInBounds_toArray, List.set_cons_succ, List.set_cons_zero]
        refine s_val (o := ⟨some 60, _, _, _, _, _⟩) (.pointer (some ⟨b1, o1 + i * 1, none⟩)) rfl (by kernel_rfl) (fun u hu => exec_index 23 22 1 (.tmp 58) (.tmp 59) (b1) (o1) (n) (c) (i) rfl Tryd.underlying23 sl_size (by kernel_rfl) (by kernel_rfl) (by omega)) ?_
        simp only [Act.put, List.setIfInBounds_toArray, List.set_cons_succ, List.set_cons_zero]
        refine s_val (o := ⟨some 61, _, _, _, _, _⟩) (.slice A1 n1 k1) rfl (by kernel_rfl) (fun u hu => exec_load_sl (.tmp 60) ⟨b1, o1 + i * 1, none⟩ (.slice A1 n1 k1) rfl (by kernel_rfl) (Kept.cell hu.1 HD1.out)) ?_
        simp only [Act.put, List.setIfInBounds_toArray, List.set_cons_succ, List.set_cons_zero]
        refine s_val (o := ⟨some 63, _, _, _, _, _⟩) (.agg (cells8 R).toArray) rfl (by kernel_rfl) (fun u hu => exec_load_row 30 (.tmp 8) gq 32 30 5 (cells8 R) rfl (by kernel_rfl) hu.2.2 Tryd.underlying30 hiR.out) ?_
        simp only [Act.put, List.setIfInBounds_toArray, List.set_cons_succ, List.set_cons_zero]
        refine s_val (o := ⟨some 64, _, _, _, _, _⟩) (.slice (some ⟨b2, o2, none⟩) m d) rfl (by kernel_rfl) (fun u hu => exec_move (.tmp 1) (.slice (some ⟨b2, o2, none⟩) m d) rfl (by kernel_rfl)) ?_
        simp only [Act.put, List.setIfInBounds_toArray, List.set_cons_succ, List.set_cons_zero]
        refine s_val (o := ⟨some 65, _, _, _, _, _⟩) (.int .i64 (i : Int)) rfl (by kernel_rfl) (fun u hu => exec_move (.tmp 2) (.int .i64 (i : Int)) rfl (by kernel_rfl)) ?_
        simp only [Act.put, List.setIfInBounds_toArray, List.set_cons_succ, List.set_cons_zero]
        refine s_val (o := ⟨some 66, _, _, _, _, _⟩) (.pointer (some ⟨b2, o2 + i * 1, none⟩)) rfl (by kernel_rfl) (fun u hu => exec_index 23 22 1 (.tmp 64) (.tmp 65) (b2) (o2) (m) (d) (i) rfl Tryd.underlying23 sl_size (by kernel_rfl) (by kernel_rfl) (by omega)) ?_
        simp only [Act.put, List.setIfInBounds_toArray, List.set_cons_succ, List.set_cons_zero]
        refine s_val (o := ⟨some 67, _, _, _, _, _⟩) (.slice A2 n2 k2) rfl (by kernel_rfl) (fun u hu => exec_load_sl (.tmp 66) ⟨b2, o2 + i * 1, none⟩ (.slice A2 n2 k2) rfl (by kernel_rfl) (Kept.cell hu.1 HD2.out)) ?_
        simp only [Act.put, List.setIfInBounds_toArray, List.set_cons_succ, List.set_cons_zero]
        refine s_call (o := ⟨some 62, _, _, _, _, _⟩) 14 #[.agg (cells8 P).toArray, .slice A1 n1 k1] rfl (by kernel_rfl) (exec_call 14 _ [.tmp 57, .tmp 61] _ _ Tryd.func14 (by kernel_rfl) (by kernel_rfl) rfl (by kernel_rfl)) ?_
        refine (link_any P ya (.slice A1 n1 k1) w3 (HG.out.kept hk3) HPl.out ⟨A1, n1, k1, rfl, hl1, HR1.out.kept hk3, hn1, HM1.out, HZ1.out⟩ HJa.out).mono ?_
        rintro e w4 ⟨rfl, hk4⟩
        rw [HSS.out _ rfl]
        have hkw4 := Kept.trans hk3 hk4
        have hbp4 := Blk.kept (w := w3) hbp3 hk4
        have hbq4 := Blk.kept (w := w3) hbq3 hk4
        refine ⟨_, rfl, ⟨hkw4, hbp4, hbq4⟩, ?_⟩
        simp only [Act.put, List.setIfInBounds_toArray, List.set_cons_succ, List.set_cons_zero]
        refine s_call (o := ⟨some 68, _, _, _, _, _⟩) 14 #[.agg (cells8 R).toArray, .slice A2 n2 k2] rfl (by kernel_rfl) (exec_call 14 _ [.tmp 63, .tmp 67] _ _ Tryd.func14 (by kernel_rfl) (by kernel_rfl) rfl (by kernel_rfl)) ?_
        refine (link_any R yb (.slice A2 n2 k2) w4 (HG.out.kept hkw4) HRl.out ⟨A2, n2, k2, rfl, hl2, HR2.out.kept hkw4, hn2, HM2.out, HZ2.out⟩ HJb.out).mono ?_
        rintro e w5 ⟨rfl, hk5⟩
        rw [HTT.out _ rfl]
        have hkw5 := Kept.trans hkw4 hk5
        have hbp5 := Blk.kept (w := w4) hbp4 hk5
        have hbq5 := Blk.kept (w := w4) hbq4 hk5
        refine ⟨_, rfl, ⟨hkw5, hbp5, hbq5⟩, ?_⟩
        simp only [Act.put, List.setIfInBounds_toArray, List.set_cons_succ, List.set_cons_zero]
        refine s_val (o := ⟨some 69, _, _, _, _, _⟩) (.bool true) rfl (by kernel_rfl) (fun u hu => (by rw [exec_eql8 (.tmp 62) (.tmp 68) _ S S rfl (by kernel_rfl) (by kernel_rfl) HSl.out HSl.out, decide_eq_true rfl])) ?_
        simp only [Act.put, List.setIfInBounds_toArray, List.set_cons_succ, List.set_cons_zero]
        refine s_val (o := ⟨some 70, _, _, _, _, _⟩) (.bool true) rfl (by kernel_rfl) (fun u hu => exec_pick (.tmp 56) (.tmp 69) (.const (.bool false)) (.bool true) rfl (by kernel_rfl) (by kernel_rfl)) ?_
        simp only [Act.put, List.setIfInBounds_toArray, List.set_cons_succ, List.set_cons_zero]
        refine s_val (o := ⟨some 6, _, _, _, _, _⟩) (.bool true) rfl (by kernel_rfl) (fun u hu => exec_assign (.tmp 70) (.bool true) rfl (by kernel_rfl)) ?_
        simp only [Act.put, List.setIfInBounds_toArray, List.set_cons_succ, List.set_cons_zero]
        refine s_done ?_
        clear hkr hbp hbq hbp4 hbq4 hbp5 hbq5
        go_wp2
        go_ret
        exact ⟨rfl, hkw5⟩
      · skip
        refine wp_sched (fun u => Kept w u ∧ Blk u gp 30 (cells8 P) ∧ Blk u gq 30 (cells8 R)) [(0, 0), (1, 0), (2, 0), (3, 0), (4, 0), (5, 0), (6, 0), (7, 0), (8, 0), (9, 0), (10, 0), (11, 0), (12, 0), (13, 0), (14, 0), (15, 0), (16, 0), (17, 0), (18, 0), (19, 0), (20, 0), (22, 0), (23, 0), (24, 0), (25, 0), (26, 0), (21, 1), (27, 1), (28, 0), (29, 0), (30, 0)] (by kernel_rfl) (by kernel_rfl) (⟨Keep.drew hkr, hbp, hbq⟩) ?_
        refine s_val (o := ⟨some 41, _, _, _, _, _⟩) (.agg (cells8 P).toArray) rfl (by kernel_rfl) (fun u hu => exec_load_row 30 (.tmp 7) gp 32 30 5 (cells8 P) rfl (by kernel_rfl) hu.2.1 Tryd.underlying30 hiP.out) ?_
        simp only [Act.put, List.setIfInBounds_toArray, List.set_cons_succ, List.set_cons_zero]
        refine s_val (o := ⟨some 42, _, _, _, _, _⟩) (.agg (cells8 R).toArray) rfl (by kernel_rfl) (fun u hu => exec_load_row 30 (.tmp 8) gq 32 30 5 (cells8 R) rfl (by kernel_rfl) hu.2.2 Tryd.underlying30 hiR.out) ?_
        simp only [Act.put, List.setIfInBounds_toArray, List.set_cons_succ, List.set_cons_zero]
        refine s_val (o := ⟨some 43, _, _, _, _, _⟩) (.bool true) rfl (by kernel_rfl) (fun u hu => (by rw [exec_neq8 (.tmp 41) (.tmp 42) _ P R rfl (by kernel_rfl) (by kernel_rfl) HPl.out HRl.out, decide_eq_false hPR]; rfl)) ?_
        simp only [Act.put, List.setIfInBounds_toArray, List.set_cons_succ, List.set_cons_zero]
        refine s_val (o := ⟨some 44, _, _, _, _, _⟩) (.bool true) rfl (by kernel_rfl) (fun u hu => exec_move (.tmp 43) (.bool true) rfl (by kernel_rfl)) ?_
        simp only [Act.put, List.setIfInBounds_toArray, List.set_cons_succ, List.set_cons_zero]
        refine s_skip (o := ⟨some 45, _, _, _, _, _⟩) rfl (by kernel_rfl) ?_
        simp only [Act.put, List.setIfInBounds_toArray, List.set_cons_succ, List.set_cons_zero]
        refine s_skip (o := ⟨some 46, _, _, _, _, _⟩) rfl (by kernel_rfl) ?_
        simp only [Act.put, List.setIfInBounds_toArray, List.set_cons_succ, List.set_cons_zero]
        refine s_skip (o := ⟨some 47, _, _, _, _, _⟩) rfl (by kernel_rfl) ?_
        simp only [Act.put, List.setIfInBounds_toArray, List.set_cons_succ, List.set_cons_zero]
        refine s_skip (o := ⟨some 48, _, _, _, _, _⟩) rfl (by kernel_rfl) ?_
        simp only [Act.put, List.setIfInBounds_toArray, List.set_cons_succ, List.set_cons_zero]
        refine s_skip (o := ⟨some 49, _, _, _, _, _⟩) rfl (by kernel_rfl) ?_
        simp only [Act.put, List.setIfInBounds_toArray, List.set_cons_succ, List.set_cons_zero]
        refine s_skip (o := ⟨some 50, _, _, _, _, _⟩) rfl (by kernel_rfl) ?_
        simp only [Act.put, List.setIfInBounds_toArray, List.set_cons_succ, List.set_cons_zero]
        refine s_skip (o := ⟨some 51, _, _, _, _, _⟩) rfl (by kernel_rfl) ?_
        simp only [Act.put, List.setIfInBounds_toArray, List.set_cons_succ, List.set_cons_zero]
        refine s_skip (o := ⟨some 52, _, _, _, _, _⟩) rfl (by kernel_rfl) ?_
        simp only [Act.put, List.setIfInBounds_toArray, List.set_cons_succ, List.set_cons_zero]
        refine s_skip (o := ⟨some 53, _, _, _, _, _⟩) rfl (by kernel_rfl) ?_
        simp only [Act.put, List.setIfInBounds_toArray, List.set_cons_succ, List.set_cons_zero]
        refine s_skip (o := ⟨some 54, _, _, _, _, _⟩) rfl (by kernel_rfl) ?_
        simp only [Act.put, List.setIfInBounds_toArray, List.set_cons_succ, List.set_cons_zero]
        refine s_val (o := ⟨some 55, _, _, _, _, _⟩) (.bool true) rfl (by kernel_rfl) (fun u hu => exec_pick (.tmp 44) (.const (.bool true)) (.tmp 54) (.bool true) rfl (by kernel_rfl) (by kernel_rfl)) ?_
        simp only [Act.put, List.setIfInBounds_toArray, List.set_cons_succ, List.set_cons_zero]
        refine s_val (o := ⟨some 56, _, _, _, _, _⟩) (.bool true) rfl (by kernel_rfl) (fun u hu => exec_move (.tmp 55) (.bool true) rfl (by kernel_rfl)) ?_
        simp only [Act.put, List.setIfInBounds_toArray, List.set_cons_succ, List.set_cons_zero]
        refine s_val (o := ⟨some 57, _, _, _, _, _⟩) (.agg (cells8 P).toArray) rfl (by kernel_rfl) (fun u hu => exec_load_row 30 (.tmp 7) gp 32 30 5 (cells8 P) rfl (by kernel_rfl) hu.2.1 Tryd.underlying30 hiP.out) ?_
        simp only [Act.put, List.setIfInBounds_toArray, List.set_cons_succ, List.set_cons_zero]
        refine s_val (o := ⟨some 58, _, _, _, _, _⟩) (.slice (some ⟨b1, o1, none⟩) n c) rfl (by kernel_rfl) (fun u hu => exec_move (.tmp 0) (.slice (some ⟨b1, o1, none⟩) n c) rfl (by kernel_rfl)) ?_
        simp only [Act.put, List.setIfInBounds_toArray, List.set_cons_succ, List.set_cons_zero]
        refine s_val (o := ⟨some 59, _, _, _, _, _⟩) (.int .i64 (i : Int)) rfl (by kernel_rfl) (fun u hu => exec_move (.tmp 2) (.int .i64 (i : Int)) rfl (by kernel_rfl)) ?_
        simp only [Act.put, List.setIfInBounds_toArray, List.set_cons_succ, List.set_cons_zero]
        refine s_val (o := ⟨some 60, _, _, _, _, _⟩) (.pointer (some ⟨b1, o1 + i * 1, none⟩)) rfl (by kernel_rfl) (fun u hu => exec_index 23 22 1 (.tmp 58) (.tmp 59) (b1) (o1) (n) (c) (i) rfl Tryd.underlying23 sl_size (by kernel_rfl) (by kernel_rfl) (by omega)) ?_
        simp only [Act.put, List.setIfInBounds_toArray, List.set_cons_succ, List.set_cons_zero]
        refine s_val (o := ⟨some 61, _, _, _, _, _⟩) (.slice A1 n1 k1) rfl (by kernel_rfl) (fun u hu => exec_load_sl (.tmp 60) ⟨b1, o1 + i * 1, none⟩ (.slice A1 n1 k1) rfl (by kernel_rfl) (Kept.cell hu.1 HD1.out)) ?_
        simp only [Act.put, List.setIfInBounds_toArray, List.set_cons_succ, List.set_cons_zero]
        refine s_val (o := ⟨some 63, _, _, _, _, _⟩) (.agg (cells8 R).toArray) rfl (by kernel_rfl) (fun u hu => exec_load_row 30 (.tmp 8) gq 32 30 5 (cells8 R) rfl (by kernel_rfl) hu.2.2 Tryd.underlying30 hiR.out) ?_
        simp only [Act.put, List.setIfInBounds_toArray, List.set_cons_succ, List.set_cons_zero]
        refine s_val (o := ⟨some 64, _, _, _, _, _⟩) (.slice (some ⟨b2, o2, none⟩) m d) rfl (by kernel_rfl) (fun u hu => exec_move (.tmp 1) (.slice (some ⟨b2, o2, none⟩) m d) rfl (by kernel_rfl)) ?_
        simp only [Act.put, List.setIfInBounds_toArray, List.set_cons_succ, List.set_cons_zero]
        refine s_val (o := ⟨some 65, _, _, _, _, _⟩) (.int .i64 (i : Int)) rfl (by kernel_rfl) (fun u hu => exec_move (.tmp 2) (.int .i64 (i : Int)) rfl (by kernel_rfl)) ?_
        simp only [Act.put, List.setIfInBounds_toArray, List.set_cons_succ, List.set_cons_zero]
        refine s_val (o := ⟨some 66, _, _, _, _, _⟩) (.pointer (some ⟨b2, o2 + i * 1, none⟩)) rfl (by kernel_rfl) (fun u hu => exec_index 23 22 1 (.tmp 64) (.tmp 65) (b2) (o2) (m) (d) (i) rfl Tryd.underlying23 sl_size (by kernel_rfl) (by kernel_rfl) (by omega)) ?_
        simp only [Act.put, List.setIfInBounds_toArray, List.set_cons_succ, List.set_cons_zero]
        refine s_val (o := ⟨some 67, _, _, _, _, _⟩) (.slice A2 n2 k2) rfl (by kernel_rfl) (fun u hu => exec_load_sl (.tmp 66) ⟨b2, o2 + i * 1, none⟩ (.slice A2 n2 k2) rfl (by kernel_rfl) (Kept.cell hu.1 HD2.out)) ?_
        simp only [Act.put, List.setIfInBounds_toArray, List.set_cons_succ, List.set_cons_zero]
        refine s_call (o := ⟨some 62, _, _, _, _, _⟩) 14 #[.agg (cells8 P).toArray, .slice A1 n1 k1] rfl (by kernel_rfl) (exec_call 14 _ [.tmp 57, .tmp 61] _ _ Tryd.func14 (by kernel_rfl) (by kernel_rfl) rfl (by kernel_rfl)) ?_
        refine (link_any P ya (.slice A1 n1 k1) wr.drew (HG.out.kept (Keep.drew hkr)) HPl.out ⟨A1, n1, k1, rfl, hl1, HR1.out.kept (Keep.drew hkr), hn1, HM1.out, HZ1.out⟩ HJa.out).mono ?_
        rintro e w4 ⟨rfl, hk4⟩
        rw [HSS.out _ rfl]
        have hkw4 := Kept.trans (Keep.drew hkr) hk4
        have hbp4 := Blk.kept (w := wr.drew) hbp hk4
        have hbq4 := Blk.kept (w := wr.drew) hbq hk4
        refine ⟨_, rfl, ⟨hkw4, hbp4, hbq4⟩, ?_⟩
        simp only [Act.put, List.setIfInBounds_toArray, List.set_cons_succ, List.set_cons_zero]
        refine s_call (o := ⟨some 68, _, _, _, _, _⟩) 14 #[.agg (cells8 R).toArray, .slice A2 n2 k2] rfl (by kernel_rfl) (exec_call 14 _ [.tmp 63, .tmp 67] _ _ Tryd.func14 (by kernel_rfl) (by kernel_rfl) rfl (by kernel_rfl)) ?_
        refine (link_any R yb (.slice A2 n2 k2) w4 (HG.out.kept hkw4) HRl.out ⟨A2, n2, k2, rfl, hl2, HR2.out.kept hkw4, hn2, HM2.out, HZ2.out⟩ HJb.out).mono ?_
        rintro e w5 ⟨rfl, hk5⟩
        rw [HTT.out _ rfl]
        have hkw5 := Kept.trans hkw4 hk5
        have hbp5 := Blk.kept (w := w4) hbp4 hk5
        have hbq5 := Blk.kept (w := w4) hbq4 hk5
        refine ⟨_, rfl, ⟨hkw5, hbp5, hbq5⟩, ?_⟩
        simp only [Act.put, List.setIfInBounds_toArray, List.set_cons_succ, List.set_cons_zero]
        refine s_val (o := ⟨some 69, _, _, _, _, _⟩) (.bool true) rfl (by kernel_rfl) (fun u hu => (by rw [exec_eql8 (.tmp 62) (.tmp 68) _ S S rfl (by kernel_rfl) (by kernel_rfl) HSl.out HSl.out, decide_eq_true rfl])) ?_
        simp only [Act.put, List.setIfInBounds_toArray, List.set_cons_succ, List.set_cons_zero]
        refine s_val (o := ⟨some 70, _, _, _, _, _⟩) (.bool true) rfl (by kernel_rfl) (fun u hu => exec_pick (.tmp 56) (.tmp 69) (.const (.bool false)) (.bool true) rfl (by kernel_rfl) (by kernel_rfl)) ?_
        simp only [Act.put, List.setIfInBounds_toArray, List.set_cons_succ, List.set_cons_zero]
        refine s_val (o := ⟨some 6, _, _, _, _, _⟩) (.bool true) rfl (by kernel_rfl) (fun u hu => exec_assign (.tmp 70) (.bool true) rfl (by kernel_rfl)) ?_
        simp only [Act.put, List.setIfInBounds_toArray, List.set_cons_succ, List.set_cons_zero]
        refine s_done ?_
        clear hkr hbp hbq hbp4 hbq4 hbp5 hbq5
        go_wp2
        go_ret
        exact ⟨rfl, hkw5⟩
end Go.Proofs.YtholpkaicmckfaaDoor
