/-
  The contracts of chain.firstClash and chain.Clash: the first place at which two rows come to one link by unlike things. Condition: lengths far below 2^47.
-/
import Derived.Test.YtholpkaicmckfaaDoorChnCheck
import Derived.Test.YtholpkaicmckfaaDoorChnEq
namespace Go.Proofs.YtholpkaicmckfaaDoor
open Go.RowKit
set_option linter.unusedVariables false

theorem clash_next (a b : List (List UInt8)) (i : Nat) (h : i < min a.length b.length) (e : ¬ clashAt a b i) : clashFrom a b i (min a.length b.length - i) = clashFrom a b (i + 1) (min a.length b.length - (i + 1)) := by
  rw [show min a.length b.length - i = (min a.length b.length - (i + 1)) + 1 by omega, clashFrom, if_neg e]
theorem clash_hit (a b : List (List UInt8)) (i : Nat) (h : i < min a.length b.length) (e : clashAt a b i) : clashFrom a b i (min a.length b.length - i) = (i : Int) := by
  rw [show min a.length b.length - i = (min a.length b.length - (i + 1)) + 1 by omega, clashFrom, if_pos e]

set_option maxRecDepth 100000 in
set_option maxHeartbeats 3200000 in
theorem firstClash_any (La Lb : List (List UInt8)) (A B X Y : Option Addr) (n m c d c1 c2 : Nat) (w : World) (hA : Recs w A La) (hB : Recs w B Lb) (hX : Sums w X (linksOf La)) (hY : Sums w Y (linksOf Lb)) (hla : Hid (La.length = n)) (hlb : Hid (Lb.length = m)) (hn : n ≤ 1000000) (hm : m ≤ 1000000) :
    Calls Tryd.prog 22 #[.slice A n c, .slice B m d, .slice X n c1, .slice Y m c2] w fun e w' => e = .returned (.int .i64 (clashOf La Lb)) ∧ Kept w w' := by
  have HA := Lib.hid hA
  have HB := Lib.hid hB
  have HX := Lib.hid hX
  have HY := Lib.hid hY
  obtain ⟨D, hD⟩ : ∃ D, D = clashOf La Lb := ⟨_, rfl⟩
  rw [← hD]
  have HD := Lib.hid hD
  clear hA hB hX hY hD
  obtain ⟨k, hk⟩ : ∃ k, k = min n m := ⟨_, rfl⟩
  have hmin : (if m < n then (m : Int) else (n : Int)) = (k : Int) := by split <;> omega
  have hk1 : k ≤ n := by omega
  have hk2 : k ≤ m := by omega
  have HK := Lib.hid hk
  clear hk
  go_enter Tryd.func22, Tryd.ntmps22
  go_wp2_with ((with_reducible show wpList _ _ _ _ _ _); (first
    | ((with_reducible refine wpl_alloc (o := ⟨some 9, _, _, _, _, _⟩) _ rfl 30 rfl z32 sum_zero ?_); intro w1 hb1 hs1 hk1w; clear hs1)
    | ((with_reducible refine wpl_alloc (o := ⟨some 10, _, _, _, _, _⟩) _ rfl 30 rfl z32 sum_zero ?_); intro w2 hb2 hs2 hk2w; clear hs2)))
  have hkw2 := hk1w.trans hk2w
  have hbp2 : Blk w2 w.heap.size 30 (cells8 (aheadOf La 0)) := hb1.kept hk2w
  have hbq2 : Blk w2 w1.heap.size 30 (cells8 (aheadOf Lb 0)) := hb2
  have hgw : w.heap.size ≤ w.heap.size := Nat.le_refl _
  have hgg : w.heap.size < w1.heap.size := hb1.lt
  clear hk1w hk2w hb1 hb2
  generalize hgp : w.heap.size = gp at hbp2 hgg hgw ⊢
  generalize w1.heap.size = gq at hbq2 hgg ⊢
  have hgw2 : w.heap.size ≤ gp := by omega
  clear hgp hgw
  go_loopw [18] (fun v wr => ∃ i : Nat, i ≤ k ∧ v = .int .i64 i ∧ Kept w wr ∧ Blk wr gp 30 (cells8 (aheadOf La i)) ∧ Blk wr gq 30 (cells8 (aheadOf Lb i)) ∧ Hid (D = clashFrom La Lb i (min La.length Lb.length - i))) (fun v _ => k - (intOf v).toNat)
  case atStart => exact ⟨0, Nat.zero_le _, rfl, hkw2, hbp2, hbq2, HD⟩
  case round =>
    obtain ⟨i, hi, rfl, hkr, hbp, hbq, HDi⟩ := hrel
    by_cases hlt : i < k
    · have hia : i < La.length := by rw [hla.out]; omega
      have hib : i < Lb.length := by rw [hlb.out]; omega
      obtain ⟨b1, o1, u1, rfl, hc1, hu1⟩ := HA.out i La[i] (List.getElem?_eq_getElem hia)
      obtain ⟨b2, o2, u2, rfl, hc2, hu2⟩ := HB.out i Lb[i] (List.getElem?_eq_getElem hib)
      obtain ⟨S, hS⟩ : ∃ S, S = aheadOf La (i + 1) := ⟨_, rfl⟩
      obtain ⟨T, hT⟩ : ∃ T, T = aheadOf Lb (i + 1) := ⟨_, rfl⟩
      obtain ⟨hSl, g1, rfl, hr1⟩ := HX.out i S (by rw [linksOf_ahead La i hia, hS])
      obtain ⟨hTl, g2, rfl, hr2⟩ := HY.out i T (by rw [linksOf_ahead Lb i hib, hT])
      obtain ⟨P, hP⟩ : ∃ P, P = aheadOf La i := ⟨_, rfl⟩
      obtain ⟨R, hR⟩ : ∃ R, R = aheadOf Lb i := ⟨_, rfl⟩
      have hPl : P.length = 32 := by rw [hP]; exact aheadOf_length La i (by omega)
      have hRl : R.length = 32 := by rw [hR]; exact aheadOf_length Lb i (by omega)
      have hmi : Hid (i < min La.length Lb.length) := by show _ < _; omega
      have HEQ : Hid (clashAt La Lb i ↔ (S = T ∧ (P ≠ R ∨ La[i] ≠ Lb[i]))) := by
        show _ ↔ _
        unfold clashAt
        rw [List.getElem?_eq_getElem hia, List.getElem?_eq_getElem hib, ← hS, ← hT, ← hP, ← hR]
        simp [hia, hib]
      rw [← hP] at hbp
      rw [← hR] at hbq
      have HS := Lib.hid hS
      have HT := Lib.hid hT
      clear hS hT hP hR
      generalize La[i] = xa at hu1 HEQ
      generalize Lb[i] = xb at hu2 HEQ
      have HC1 : Hid (w.cell? ⟨b1, o1 + i * 1, none⟩ = some u1) := by show _ = _; rw [Nat.mul_one]; exact hc1
      have HC2 : Hid (w.cell? ⟨b2, o2 + i * 1, none⟩ = some u2) := by show _ = _; rw [Nat.mul_one]; exact hc2
      have HU1 := Lib.hid hu1
      have HU2 := Lib.hid hu2
      have HR1 := Lib.hid hr1
      have HR2 := Lib.hid hr2
      have hiS := size_arr S hSl
      have hiT := size_arr T hTl
      have hzS : Hid ((cells8 P).length = (cells8 S).length) := by show _ = _; rw [len8, len8, hPl, hSl]
      have hzT : Hid ((cells8 R).length = (cells8 T).length) := by show _ = _; rw [len8, len8, hRl, hTl]
      have HPl := Lib.hid hPl
      have HRl := Lib.hid hRl
      have HSl := Lib.hid hSl
      have HTl := Lib.hid hTl
      clear hc1 hc2 hu1 hu2 hr1 hr2 hia hib hPl hRl hSl hTl
      go_wp2_with fail
      by_cases hPR : P = R
      · by_cases hxx : xa = xb
        · skip
          refine wp_sched (fun u => Kept w u ∧ Blk u gp 30 (cells8 P) ∧ Blk u gq 30 (cells8 R)) [(0, 0), (1, 0), (2, 0), (3, 0), (4, 0), (5, 0), (6, 0), (7, 0), (8, 0), (9, 0), (10, 0), (11, 0), (12, 1), (13, 0), (14, 0)] (by kernel_rfl) (by kernel_rfl) (⟨Keep.drew hkr, hbp, hbq⟩) ?_
          refine s_val (o := ⟨some 21, _, _, _, _, _⟩) (.agg (cells8 P).toArray) rfl (by kernel_rfl) (fun u hu => exec_load_row 30 (.tmp 9) gp 32 30 5 (cells8 P) rfl (by kernel_rfl) hu.2.1 Tryd.underlying30 (size_arr P HPl.out).out) ?_
          simp only [Act.put, List.setIfInBounds_toArray, List.set_cons_succ, List.set_cons_zero]
          refine s_val (o := ⟨some 22, _, _, _, _, _⟩) (.agg (cells8 R).toArray) rfl (by kernel_rfl) (fun u hu => exec_load_row 30 (.tmp 10) gq 32 30 5 (cells8 R) rfl (by kernel_rfl) hu.2.2 Tryd.underlying30 (size_arr R HRl.out).out) ?_
          simp only [Act.put, List.setIfInBounds_toArray, List.set_cons_succ, List.set_cons_zero]
          refine s_val (o := ⟨some 23, _, _, _, _, _⟩) (.bool true) rfl (by kernel_rfl) (fun u hu => (by rw [exec_eql8 (.tmp 21) (.tmp 22) _ P R rfl (by kernel_rfl) (by kernel_rfl) HPl.out HRl.out, decide_eq_true hPR])) ?_
          simp only [Act.put, List.setIfInBounds_toArray, List.set_cons_succ, List.set_cons_zero]
          refine s_val (o := ⟨some 24, _, _, _, _, _⟩) (.bool true) rfl (by kernel_rfl) (fun u hu => exec_move (.tmp 23) (.bool true) rfl (by kernel_rfl)) ?_
          simp only [Act.put, List.setIfInBounds_toArray, List.set_cons_succ, List.set_cons_zero]
          refine s_val (o := ⟨some 25, _, _, _, _, _⟩) (.slice (some ⟨b1, o1, none⟩) n c) rfl (by kernel_rfl) (fun u hu => exec_move (.tmp 0) (.slice (some ⟨b1, o1, none⟩) n c) rfl (by kernel_rfl)) ?_
          simp only [Act.put, List.setIfInBounds_toArray, List.set_cons_succ, List.set_cons_zero]
          refine s_val (o := ⟨some 26, _, _, _, _, _⟩) (.int .i64 (i : Int)) rfl (by kernel_rfl) (fun u hu => exec_move (.tmp 11) (.int .i64 (i : Int)) rfl (by kernel_rfl)) ?_
          simp only [Act.put, List.setIfInBounds_toArray, List.set_cons_succ, List.set_cons_zero]
          refine s_val (o := ⟨some 27, _, _, _, _, _⟩) (.pointer (some ⟨b1, o1 + i * 1, none⟩)) rfl (by kernel_rfl) (fun u hu => exec_index 23 22 1 (.tmp 25) (.tmp 26) (b1) (o1) (n) (c) (i) rfl Tryd.underlying23 sl_size (by kernel_rfl) (by kernel_rfl) (by omega)) ?_
          simp only [Act.put, List.setIfInBounds_toArray, List.set_cons_succ, List.set_cons_zero]
          refine s_val (o := ⟨some 28, _, _, _, _, _⟩) (u1) rfl (by kernel_rfl) (fun u hu => exec_load_sl (.tmp 27) ⟨b1, o1 + i * 1, none⟩ u1 rfl (by kernel_rfl) (Kept.cell hu.1 HC1.out)) ?_
          simp only [Act.put, List.setIfInBounds_toArray, List.set_cons_succ, List.set_cons_zero]
          refine s_val (o := ⟨some 29, _, _, _, _, _⟩) (.slice (some ⟨b2, o2, none⟩) m d) rfl (by kernel_rfl) (fun u hu => exec_move (.tmp 1) (.slice (some ⟨b2, o2, none⟩) m d) rfl (by kernel_rfl)) ?_
          simp only [Act.put, List.setIfInBounds_toArray, List.set_cons_succ, List.set_cons_zero]
          refine s_val (o := ⟨some 30, _, _, _, _, _⟩) (.int .i64 (i : Int)) rfl (by kernel_rfl) (fun u hu => exec_move (.tmp 11) (.int .i64 (i : Int)) rfl (by kernel_rfl)) ?_
          simp only [Act.put, List.setIfInBounds_toArray, List.set_cons_succ, List.set_cons_zero]
          refine s_val (o := ⟨some 31, _, _, _, _, _⟩) (.pointer (some ⟨b2, o2 + i * 1, none⟩)) rfl (by kernel_rfl) (fun u hu => exec_index 23 22 1 (.tmp 29) (.tmp 30) (b2) (o2) (m) (d) (i) rfl Tryd.underlying23 sl_size (by kernel_rfl) (by kernel_rfl) (by omega)) ?_
          simp only [Act.put, List.setIfInBounds_toArray, List.set_cons_succ, List.set_cons_zero]
          refine s_val (o := ⟨some 32, _, _, _, _, _⟩) (u2) rfl (by kernel_rfl) (fun u hu => exec_load_sl (.tmp 31) ⟨b2, o2 + i * 1, none⟩ u2 rfl (by kernel_rfl) (Kept.cell hu.1 HC2.out)) ?_
          simp only [Act.put, List.setIfInBounds_toArray, List.set_cons_succ, List.set_cons_zero]
          refine s_call (o := ⟨some 33, _, _, _, _, _⟩) 30 #[u1, u2] rfl (by kernel_rfl) (exec_call 30 _ [.tmp 28, .tmp 32] _ _ Tryd.func30 (by kernel_rfl) (by kernel_rfl) rfl (by kernel_rfl)) ?_
          refine (equalb_any u1 u2 xa xb _ (HU1.out.kept (Keep.drew hkr)) (HU2.out.kept (Keep.drew hkr))).mono ?_
          rintro e w3 ⟨rfl, rfl⟩
          refine ⟨_, rfl, ⟨Keep.drew hkr, hbp, hbq⟩, ?_⟩
          rw [decide_eq_true hxx]
          simp only [Act.put, List.setIfInBounds_toArray, List.set_cons_succ, List.set_cons_zero]
          refine s_val (o := ⟨some 34, _, _, _, _, _⟩) (.bool true) rfl (by kernel_rfl) (fun u hu => exec_pick (.tmp 24) (.tmp 33) (.const (.bool false)) (.bool true) rfl (by kernel_rfl) (by kernel_rfl)) ?_
          simp only [Act.put, List.setIfInBounds_toArray, List.set_cons_succ, List.set_cons_zero]
          refine s_val (o := ⟨some 12, _, _, _, _, _⟩) (.bool true) rfl (by kernel_rfl) (fun u hu => exec_assign (.tmp 34) (.bool true) rfl (by kernel_rfl)) ?_
          simp only [Act.put, List.setIfInBounds_toArray, List.set_cons_succ, List.set_cons_zero]
          refine s_done ?_
          have hkr3 : Kept w wr.drew := Keep.drew hkr
          have hbp3 : Blk wr.drew gp 30 (cells8 P) := hbp
          have hbq3 : Blk wr.drew gq 30 (cells8 R) := hbq
          generalize wr.drew = w3 at hkr3 hbp3 hbq3 ⊢
          clear hkr hbp hbq
          have hltp := hbp3.lt
          have hltq := hbq3.lt
          go_wp2_with fail
          refine wp_sched (fun u => Kept w u) [(0, 0), (1, 0), (2, 0), (3, 0), (4, 0), (5, 0), (6, 0), (7, 0), (8, 1), (9, 1)] (by kernel_rfl) (by kernel_rfl) (Keep.drew hkr3) ?_
          refine s_val (o := ⟨some 35, _, _, _, _, _⟩) (.slice (some ⟨g1, 0, none⟩) n c1) rfl (by kernel_rfl) (fun u hu => exec_move (.tmp 2) (.slice (some ⟨g1, 0, none⟩) n c1) rfl (by kernel_rfl)) ?_
          simp only [Act.put, List.setIfInBounds_toArray, List.set_cons_succ, List.set_cons_zero]
          refine s_val (o := ⟨some 36, _, _, _, _, _⟩) (.int .i64 (i : Int)) rfl (by kernel_rfl) (fun u hu => exec_move (.tmp 11) (.int .i64 (i : Int)) rfl (by kernel_rfl)) ?_
          simp only [Act.put, List.setIfInBounds_toArray, List.set_cons_succ, List.set_cons_zero]
          refine s_val (o := ⟨some 37, _, _, _, _, _⟩) (.pointer (some ⟨g1, 0 + i * 32, none⟩)) rfl (by kernel_rfl) (fun u hu => exec_index 24 30 32 (.tmp 35) (.tmp 36) (g1) (0) (n) (c1) (i) rfl Tryd.underlying24 sum_size (by kernel_rfl) (by kernel_rfl) (by omega)) ?_
          simp only [Act.put, List.setIfInBounds_toArray, List.set_cons_succ, List.set_cons_zero]
          refine s_val (o := ⟨some 38, _, _, _, _, _⟩) (.agg (cells8 S).toArray) rfl (by kernel_rfl) (fun u hu => exec_load_mid (.tmp 37) g1 (0 + i * 32) S rfl (by kernel_rfl) (fun j v hv => by rw [Nat.zero_add]; exact Kept.cell hu (HR1.out j v hv)) HSl.out) ?_
          simp only [Act.put, List.setIfInBounds_toArray, List.set_cons_succ, List.set_cons_zero]
          refine s_val (o := ⟨some 39, _, _, _, _, _⟩) (.slice (some ⟨g2, 0, none⟩) m c2) rfl (by kernel_rfl) (fun u hu => exec_move (.tmp 3) (.slice (some ⟨g2, 0, none⟩) m c2) rfl (by kernel_rfl)) ?_
          simp only [Act.put, List.setIfInBounds_toArray, List.set_cons_succ, List.set_cons_zero]
          refine s_val (o := ⟨some 40, _, _, _, _, _⟩) (.int .i64 (i : Int)) rfl (by kernel_rfl) (fun u hu => exec_move (.tmp 11) (.int .i64 (i : Int)) rfl (by kernel_rfl)) ?_
          simp only [Act.put, List.setIfInBounds_toArray, List.set_cons_succ, List.set_cons_zero]
          refine s_val (o := ⟨some 41, _, _, _, _, _⟩) (.pointer (some ⟨g2, 0 + i * 32, none⟩)) rfl (by kernel_rfl) (fun u hu => exec_index 24 30 32 (.tmp 39) (.tmp 40) (g2) (0) (m) (c2) (i) rfl Tryd.underlying24 sum_size (by kernel_rfl) (by kernel_rfl) (by omega)) ?_
          simp only [Act.put, List.setIfInBounds_toArray, List.set_cons_succ, List.set_cons_zero]
          refine s_val (o := ⟨some 42, _, _, _, _, _⟩) (.agg (cells8 T).toArray) rfl (by kernel_rfl) (fun u hu => exec_load_mid (.tmp 41) g2 (0 + i * 32) T rfl (by kernel_rfl) (fun j v hv => by rw [Nat.zero_add]; exact Kept.cell hu (HR2.out j v hv)) HTl.out) ?_
          simp only [Act.put, List.setIfInBounds_toArray, List.set_cons_succ, List.set_cons_zero]
          refine s_oper (o := ⟨none, _, _, _, _, _⟩) rfl (by kernel_rfl) fun K hK => ?_
          refine op_store_row w3.drew 30 (.tmp 9) (.tmp 38) rfl gp (cells8 S) (by kernel_rfl) (by kernel_rfl) 30 (cells8 P) hbp3 hiS.out hzS.out (cells8_one _) ?_
          intro w4 hbp4 hk4 _
          have hkw4 : Kept w w4 := Kept.trans' (Keep.drew hkr3) hk4 (by omega)
          have hbq4 : Blk w4 gq 30 (cells8 R) := Blk.keep (w := w3.drew) hbq3 hk4 (by omega)
          refine hK _ _ hkw4 ?_
          simp only [Act.put]
          refine s_oper (o := ⟨none, _, _, _, _, _⟩) rfl (by kernel_rfl) fun K hK => ?_
          refine op_store_row w4 30 (.tmp 10) (.tmp 42) rfl gq (cells8 T) (by kernel_rfl) (by kernel_rfl) 30 (cells8 R) hbq4 hiT.out hzT.out (cells8_one _) ?_
          intro w5 hbq5 hk5 _
          have hkw5 : Kept w w5 := Kept.trans' hkw4 hk5 (by omega)
          have hbp5 := hbp4.keep hk5 (by omega)
          refine hK _ _ hkw5 ?_
          simp only [Act.put]
          refine s_done ?_
          clear hkr3 hbp3 hbq3 hbp4 hbq4 hk4 hk5 hkw4
          by_cases hST : S = T
          · have hq := eq_as S T HSl.out HTl.out true (decide_eq_true hST)
            have HDn := Lib.hid (HDi.out.trans (clash_next La Lb i hmi.out (fun h => (HEQ.out.1 h).2.elim (fun h => h hPR) (fun h => h hxx))))
            clear hST
            go_wp2_with ((with_reducible show wpList _ _ _ _ _ _); (first
              | ((with_reducible refine wpl_load_row (o := ⟨some 43, _, _, _, _, _⟩) _ rfl 30 (.tmp 9) rfl gp ?hxAa 30 (cells8 S) 32 5 hbp5 Tryd.underlying30 hiS.out ?_); (case hxAa => rfl))
              | ((with_reducible refine wpl_load_row (o := ⟨some 44, _, _, _, _, _⟩) _ rfl 30 (.tmp 10) rfl gq ?hyAa 30 (cells8 T) 32 5 hbq5 Tryd.underlying30 hiT.out ?_); (case hyAa => rfl))))
            rw [HS.out] at hbp5
            rw [HT.out] at hbq5
            exact ⟨⟨i + 1, by omega, by go_num, hkw5, hbp5, hbq5, HDn⟩, by simp [intOf]; omega⟩
          · have hq := eq_as S T HSl.out HTl.out false (decide_eq_false hST)
            have HDn := Lib.hid (HDi.out.trans (clash_next La Lb i hmi.out (fun h => hST (HEQ.out.1 h).1)))
            clear hST
            go_wp2_with ((with_reducible show wpList _ _ _ _ _ _); (first
              | ((with_reducible refine wpl_load_row (o := ⟨some 43, _, _, _, _, _⟩) _ rfl 30 (.tmp 9) rfl gp ?hxAb 30 (cells8 S) 32 5 hbp5 Tryd.underlying30 hiS.out ?_); (case hxAb => rfl))
              | ((with_reducible refine wpl_load_row (o := ⟨some 44, _, _, _, _, _⟩) _ rfl 30 (.tmp 10) rfl gq ?hyAb 30 (cells8 T) 32 5 hbq5 Tryd.underlying30 hiT.out ?_); (case hyAb => rfl))))
            rw [HS.out] at hbp5
            rw [HT.out] at hbq5
            exact ⟨⟨i + 1, by omega, by go_num, hkw5, hbp5, hbq5, HDn⟩, by simp [intOf]; omega⟩
        · skip
          refine wp_sched (fun u => Kept w u ∧ Blk u gp 30 (cells8 P) ∧ Blk u gq 30 (cells8 R)) [(0, 0), (1, 0), (2, 0), (3, 0), (4, 0), (5, 0), (6, 0), (7, 0), (8, 0), (9, 0), (10, 0), (11, 0), (12, 1), (13, 0), (14, 0)] (by kernel_rfl) (by kernel_rfl) (⟨Keep.drew hkr, hbp, hbq⟩) ?_
          refine s_val (o := ⟨some 21, _, _, _, _, _⟩) (.agg (cells8 P).toArray) rfl (by kernel_rfl) (fun u hu => exec_load_row 30 (.tmp 9) gp 32 30 5 (cells8 P) rfl (by kernel_rfl) hu.2.1 Tryd.underlying30 (size_arr P HPl.out).out) ?_
          simp only [Act.put, List.setIfInBounds_toArray, List.set_cons_succ, List.set_cons_zero]
          refine s_val (o := ⟨some 22, _, _, _, _, _⟩) (.agg (cells8 R).toArray) rfl (by kernel_rfl) (fun u hu => exec_load_row 30 (.tmp 10) gq 32 30 5 (cells8 R) rfl (by kernel_rfl) hu.2.2 Tryd.underlying30 (size_arr R HRl.out).out) ?_
          simp only [Act.put, List.setIfInBounds_toArray, List.set_cons_succ, List.set_cons_zero]
          refine s_val (o := ⟨some 23, _, _, _, _, _⟩) (.bool true) rfl (by kernel_rfl) (fun u hu => (by rw [exec_eql8 (.tmp 21) (.tmp 22) _ P R rfl (by kernel_rfl) (by kernel_rfl) HPl.out HRl.out, decide_eq_true hPR])) ?_
          simp only [Act.put, List.setIfInBounds_toArray, List.set_cons_succ, List.set_cons_zero]
          refine s_val (o := ⟨some 24, _, _, _, _, _⟩) (.bool true) rfl (by kernel_rfl) (fun u hu => exec_move (.tmp 23) (.bool true) rfl (by kernel_rfl)) ?_
          simp only [Act.put, List.setIfInBounds_toArray, List.set_cons_succ, List.set_cons_zero]
          refine s_val (o := ⟨some 25, _, _, _, _, _⟩) (.slice (some ⟨b1, o1, none⟩) n c) rfl (by kernel_rfl) (fun u hu => exec_move (.tmp 0) (.slice (some ⟨b1, o1, none⟩) n c) rfl (by kernel_rfl)) ?_
          simp only [Act.put, List.setIfInBounds_toArray, List.set_cons_succ, List.set_cons_zero]
          refine s_val (o := ⟨some 26, _, _, _, _, _⟩) (.int .i64 (i : Int)) rfl (by kernel_rfl) (fun u hu => exec_move (.tmp 11) (.int .i64 (i : Int)) rfl (by kernel_rfl)) ?_
          simp only [Act.put, List.setIfInBounds_toArray, List.set_cons_succ, List.set_cons_zero]
          refine s_val (o := ⟨some 27, _, _, _, _, _⟩) (.pointer (some ⟨b1, o1 + i * 1, none⟩)) rfl (by kernel_rfl) (fun u hu => exec_index 23 22 1 (.tmp 25) (.tmp 26) (b1) (o1) (n) (c) (i) rfl Tryd.underlying23 sl_size (by kernel_rfl) (by kernel_rfl) (by omega)) ?_
          simp only [Act.put, List.setIfInBounds_toArray, List.set_cons_succ, List.set_cons_zero]
          refine s_val (o := ⟨some 28, _, _, _, _, _⟩) (u1) rfl (by kernel_rfl) (fun u hu => exec_load_sl (.tmp 27) ⟨b1, o1 + i * 1, none⟩ u1 rfl (by kernel_rfl) (Kept.cell hu.1 HC1.out)) ?_
          simp only [Act.put, List.setIfInBounds_toArray, List.set_cons_succ, List.set_cons_zero]
          refine s_val (o := ⟨some 29, _, _, _, _, _⟩) (.slice (some ⟨b2, o2, none⟩) m d) rfl (by kernel_rfl) (fun u hu => exec_move (.tmp 1) (.slice (some ⟨b2, o2, none⟩) m d) rfl (by kernel_rfl)) ?_
          simp only [Act.put, List.setIfInBounds_toArray, List.set_cons_succ, List.set_cons_zero]
          refine s_val (o := ⟨some 30, _, _, _, _, _⟩) (.int .i64 (i : Int)) rfl (by kernel_rfl) (fun u hu => exec_move (.tmp 11) (.int .i64 (i : Int)) rfl (by kernel_rfl)) ?_
          simp only [Act.put, List.setIfInBounds_toArray, List.set_cons_succ, List.set_cons_zero]
          refine s_val (o := ⟨some 31, _, _, _, _, _⟩) (.pointer (some ⟨b2, o2 + i * 1, none⟩)) rfl (by kernel_rfl) (fun u hu => exec_index 23 22 1 (.tmp 29) (.tmp 30) (b2) (o2) (m) (d) (i) rfl Tryd.underlying23 sl_size (by kernel_rfl) (by kernel_rfl) (by omega)) ?_
          simp only [Act.put, List.setIfInBounds_toArray, List.set_cons_succ, List.set_cons_zero]
          refine s_val (o := ⟨some 32, _, _, _, _, _⟩) (u2) rfl (by kernel_rfl) (fun u hu => exec_load_sl (.tmp 31) ⟨b2, o2 + i * 1, none⟩ u2 rfl (by kernel_rfl) (Kept.cell hu.1 HC2.out)) ?_
          simp only [Act.put, List.setIfInBounds_toArray, List.set_cons_succ, List.set_cons_zero]
          refine s_call (o := ⟨some 33, _, _, _, _, _⟩) 30 #[u1, u2] rfl (by kernel_rfl) (exec_call 30 _ [.tmp 28, .tmp 32] _ _ Tryd.func30 (by kernel_rfl) (by kernel_rfl) rfl (by kernel_rfl)) ?_
          refine (equalb_any u1 u2 xa xb _ (HU1.out.kept (Keep.drew hkr)) (HU2.out.kept (Keep.drew hkr))).mono ?_
          rintro e w3 ⟨rfl, rfl⟩
          refine ⟨_, rfl, ⟨Keep.drew hkr, hbp, hbq⟩, ?_⟩
          rw [decide_eq_false hxx]
          simp only [Act.put, List.setIfInBounds_toArray, List.set_cons_succ, List.set_cons_zero]
          refine s_val (o := ⟨some 34, _, _, _, _, _⟩) (.bool false) rfl (by kernel_rfl) (fun u hu => exec_pick (.tmp 24) (.tmp 33) (.const (.bool false)) (.bool false) rfl (by kernel_rfl) (by kernel_rfl)) ?_
          simp only [Act.put, List.setIfInBounds_toArray, List.set_cons_succ, List.set_cons_zero]
          refine s_val (o := ⟨some 12, _, _, _, _, _⟩) (.bool false) rfl (by kernel_rfl) (fun u hu => exec_assign (.tmp 34) (.bool false) rfl (by kernel_rfl)) ?_
          simp only [Act.put, List.setIfInBounds_toArray, List.set_cons_succ, List.set_cons_zero]
          refine s_done ?_
          have hkr3 : Kept w wr.drew := Keep.drew hkr
          have hbp3 : Blk wr.drew gp 30 (cells8 P) := hbp
          have hbq3 : Blk wr.drew gq 30 (cells8 R) := hbq
          generalize wr.drew = w3 at hkr3 hbp3 hbq3 ⊢
          clear hkr hbp hbq
          have hltp := hbp3.lt
          have hltq := hbq3.lt
          go_wp2_with fail
          refine wp_sched (fun u => Kept w u) [(0, 0), (1, 0), (2, 0), (3, 0), (4, 0), (5, 0), (6, 0), (7, 0), (8, 1), (9, 1)] (by kernel_rfl) (by kernel_rfl) (Keep.drew hkr3) ?_
          refine s_val (o := ⟨some 35, _, _, _, _, _⟩) (.slice (some ⟨g1, 0, none⟩) n c1) rfl (by kernel_rfl) (fun u hu => exec_move (.tmp 2) (.slice (some ⟨g1, 0, none⟩) n c1) rfl (by kernel_rfl)) ?_
          simp only [Act.put, List.setIfInBounds_toArray, List.set_cons_succ, List.set_cons_zero]
          refine s_val (o := ⟨some 36, _, _, _, _, _⟩) (.int .i64 (i : Int)) rfl (by kernel_rfl) (fun u hu => exec_move (.tmp 11) (.int .i64 (i : Int)) rfl (by kernel_rfl)) ?_
          simp only [Act.put, List.setIfInBounds_toArray, List.set_cons_succ, List.set_cons_zero]
          refine s_val (o := ⟨some 37, _, _, _, _, _⟩) (.pointer (some ⟨g1, 0 + i * 32, none⟩)) rfl (by kernel_rfl) (fun u hu => exec_index 24 30 32 (.tmp 35) (.tmp 36) (g1) (0) (n) (c1) (i) rfl Tryd.underlying24 sum_size (by kernel_rfl) (by kernel_rfl) (by omega)) ?_
          simp only [Act.put, List.setIfInBounds_toArray, List.set_cons_succ, List.set_cons_zero]
          refine s_val (o := ⟨some 38, _, _, _, _, _⟩) (.agg (cells8 S).toArray) rfl (by kernel_rfl) (fun u hu => exec_load_mid (.tmp 37) g1 (0 + i * 32) S rfl (by kernel_rfl) (fun j v hv => by rw [Nat.zero_add]; exact Kept.cell hu (HR1.out j v hv)) HSl.out) ?_
          simp only [Act.put, List.setIfInBounds_toArray, List.set_cons_succ, List.set_cons_zero]
          refine s_val (o := ⟨some 39, _, _, _, _, _⟩) (.slice (some ⟨g2, 0, none⟩) m c2) rfl (by kernel_rfl) (fun u hu => exec_move (.tmp 3) (.slice (some ⟨g2, 0, none⟩) m c2) rfl (by kernel_rfl)) ?_
          simp only [Act.put, List.setIfInBounds_toArray, List.set_cons_succ, List.set_cons_zero]
          refine s_val (o := ⟨some 40, _, _, _, _, _⟩) (.int .i64 (i : Int)) rfl (by kernel_rfl) (fun u hu => exec_move (.tmp 11) (.int .i64 (i : Int)) rfl (by kernel_rfl)) ?_
          simp only [Act.put, List.setIfInBounds_toArray, List.set_cons_succ, List.set_cons_zero]
          refine s_val (o := ⟨some 41, _, _, _, _, _⟩) (.pointer (some ⟨g2, 0 + i * 32, none⟩)) rfl (by kernel_rfl) (fun u hu => exec_index 24 30 32 (.tmp 39) (.tmp 40) (g2) (0) (m) (c2) (i) rfl Tryd.underlying24 sum_size (by kernel_rfl) (by kernel_rfl) (by omega)) ?_
          simp only [Act.put, List.setIfInBounds_toArray, List.set_cons_succ, List.set_cons_zero]
          refine s_val (o := ⟨some 42, _, _, _, _, _⟩) (.agg (cells8 T).toArray) rfl (by kernel_rfl) (fun u hu => exec_load_mid (.tmp 41) g2 (0 + i * 32) T rfl (by kernel_rfl) (fun j v hv => by rw [Nat.zero_add]; exact Kept.cell hu (HR2.out j v hv)) HTl.out) ?_
          simp only [Act.put, List.setIfInBounds_toArray, List.set_cons_succ, List.set_cons_zero]
          refine s_oper (o := ⟨none, _, _, _, _, _⟩) rfl (by kernel_rfl) fun K hK => ?_
          refine op_store_row w3.drew 30 (.tmp 9) (.tmp 38) rfl gp (cells8 S) (by kernel_rfl) (by kernel_rfl) 30 (cells8 P) hbp3 hiS.out hzS.out (cells8_one _) ?_
          intro w4 hbp4 hk4 _
          have hkw4 : Kept w w4 := Kept.trans' (Keep.drew hkr3) hk4 (by omega)
          have hbq4 : Blk w4 gq 30 (cells8 R) := Blk.keep (w := w3.drew) hbq3 hk4 (by omega)
          refine hK _ _ hkw4 ?_
          simp only [Act.put]
          refine s_oper (o := ⟨none, _, _, _, _, _⟩) rfl (by kernel_rfl) fun K hK => ?_
          refine op_store_row w4 30 (.tmp 10) (.tmp 42) rfl gq (cells8 T) (by kernel_rfl) (by kernel_rfl) 30 (cells8 R) hbq4 hiT.out hzT.out (cells8_one _) ?_
          intro w5 hbq5 hk5 _
          have hkw5 : Kept w w5 := Kept.trans' hkw4 hk5 (by omega)
          have hbp5 := hbp4.keep hk5 (by omega)
          refine hK _ _ hkw5 ?_
          simp only [Act.put]
          refine s_done ?_
          clear hkr3 hbp3 hbq3 hbp4 hbq4 hk4 hk5 hkw4
          by_cases hST : S = T
          · have hq := eq_as S T HSl.out HTl.out true (decide_eq_true hST)
            have HDn := Lib.hid (HDi.out.trans (clash_hit La Lb i hmi.out (HEQ.out.2 ⟨hST, .inr hxx⟩)))
            clear hST
            go_wp2_with ((with_reducible show wpList _ _ _ _ _ _); (first
              | ((with_reducible refine wpl_load_row (o := ⟨some 43, _, _, _, _, _⟩) _ rfl 30 (.tmp 9) rfl gp ?hxBa 30 (cells8 S) 32 5 hbp5 Tryd.underlying30 hiS.out ?_); (case hxBa => rfl))
              | ((with_reducible refine wpl_load_row (o := ⟨some 44, _, _, _, _, _⟩) _ rfl 30 (.tmp 10) rfl gq ?hyBa 30 (cells8 T) 32 5 hbq5 Tryd.underlying30 hiT.out ?_); (case hyBa => rfl))))
            go_ret
            exact ⟨ret_int HDn.out.symm, hkw5⟩
          · have hq := eq_as S T HSl.out HTl.out false (decide_eq_false hST)
            have HDn := Lib.hid (HDi.out.trans (clash_next La Lb i hmi.out (fun h => hST (HEQ.out.1 h).1)))
            clear hST
            go_wp2_with ((with_reducible show wpList _ _ _ _ _ _); (first
              | ((with_reducible refine wpl_load_row (o := ⟨some 43, _, _, _, _, _⟩) _ rfl 30 (.tmp 9) rfl gp ?hxBb 30 (cells8 S) 32 5 hbp5 Tryd.underlying30 hiS.out ?_); (case hxBb => rfl))
              | ((with_reducible refine wpl_load_row (o := ⟨some 44, _, _, _, _, _⟩) _ rfl 30 (.tmp 10) rfl gq ?hyBb 30 (cells8 T) 32 5 hbq5 Tryd.underlying30 hiT.out ?_); (case hyBb => rfl))))
            rw [HS.out] at hbp5
            rw [HT.out] at hbq5
            exact ⟨⟨i + 1, by omega, by go_num, hkw5, hbp5, hbq5, HDn⟩, by simp [intOf]; omega⟩
      · skip
        refine wp_sched (fun u => Kept w u ∧ Blk u gp 30 (cells8 P) ∧ Blk u gq 30 (cells8 R)) [(0, 0), (1, 0), (2, 0), (3, 0), (4, 0), (5, 0), (6, 0), (7, 0), (8, 0), (9, 0), (10, 0), (11, 0), (12, 0), (13, 0), (14, 0)] (by kernel_rfl) (by kernel_rfl) (⟨Keep.drew hkr, hbp, hbq⟩) ?_
        refine s_val (o := ⟨some 21, _, _, _, _, _⟩) (.agg (cells8 P).toArray) rfl (by kernel_rfl) (fun u hu => exec_load_row 30 (.tmp 9) gp 32 30 5 (cells8 P) rfl (by kernel_rfl) hu.2.1 Tryd.underlying30 (size_arr P HPl.out).out) ?_
        simp only [Act.put, List.setIfInBounds_toArray, List.set_cons_succ, List.set_cons_zero]
        refine s_val (o := ⟨some 22, _, _, _, _, _⟩) (.agg (cells8 R).toArray) rfl (by kernel_rfl) (fun u hu => exec_load_row 30 (.tmp 10) gq 32 30 5 (cells8 R) rfl (by kernel_rfl) hu.2.2 Tryd.underlying30 (size_arr R HRl.out).out) ?_
        simp only [Act.put, List.setIfInBounds_toArray, List.set_cons_succ, List.set_cons_zero]
        refine s_val (o := ⟨some 23, _, _, _, _, _⟩) (.bool false) rfl (by kernel_rfl) (fun u hu => (by rw [exec_eql8 (.tmp 21) (.tmp 22) _ P R rfl (by kernel_rfl) (by kernel_rfl) HPl.out HRl.out, decide_eq_false hPR])) ?_
        simp only [Act.put, List.setIfInBounds_toArray, List.set_cons_succ, List.set_cons_zero]
        refine s_val (o := ⟨some 24, _, _, _, _, _⟩) (.bool false) rfl (by kernel_rfl) (fun u hu => exec_move (.tmp 23) (.bool false) rfl (by kernel_rfl)) ?_
        simp only [Act.put, List.setIfInBounds_toArray, List.set_cons_succ, List.set_cons_zero]
        refine s_skip (o := ⟨some 25, _, _, _, _, _⟩) rfl (by kernel_rfl) ?_
        simp only [Act.put, List.setIfInBounds_toArray, List.set_cons_succ, List.set_cons_zero]
        refine s_skip (o := ⟨some 26, _, _, _, _, _⟩) rfl (by kernel_rfl) ?_
        simp only [Act.put, List.setIfInBounds_toArray, List.set_cons_succ, List.set_cons_zero]
        refine s_skip (o := ⟨some 27, _, _, _, _, _⟩) rfl (by kernel_rfl) ?_
        simp only [Act.put, List.setIfInBounds_toArray, List.set_cons_succ, List.set_cons_zero]
        refine s_skip (o := ⟨some 28, _, _, _, _, _⟩) rfl (by kernel_rfl) ?_
        simp only [Act.put, List.setIfInBounds_toArray, List.set_cons_succ, List.set_cons_zero]
        refine s_skip (o := ⟨some 29, _, _, _, _, _⟩) rfl (by kernel_rfl) ?_
        simp only [Act.put, List.setIfInBounds_toArray, List.set_cons_succ, List.set_cons_zero]
        refine s_skip (o := ⟨some 30, _, _, _, _, _⟩) rfl (by kernel_rfl) ?_
        simp only [Act.put, List.setIfInBounds_toArray, List.set_cons_succ, List.set_cons_zero]
        refine s_skip (o := ⟨some 31, _, _, _, _, _⟩) rfl (by kernel_rfl) ?_
        simp only [Act.put, List.setIfInBounds_toArray, List.set_cons_succ, List.set_cons_zero]
        refine s_skip (o := ⟨some 32, _, _, _, _, _⟩) rfl (by kernel_rfl) ?_
        simp only [Act.put, List.setIfInBounds_toArray, List.set_cons_succ, List.set_cons_zero]
        refine s_skip (o := ⟨some 33, _, _, _, _, _⟩) rfl (by kernel_rfl) ?_
        simp only [Act.put, List.setIfInBounds_toArray, List.set_cons_succ, List.set_cons_zero]
        refine s_val (o := ⟨some 34, _, _, _, _, _⟩) (.bool false) rfl (by kernel_rfl) (fun u hu => exec_pickF (.tmp 24) (.tmp 33) (.const (.bool false)) (.bool false) rfl (by kernel_rfl) (by kernel_rfl)) ?_
        simp only [Act.put, List.setIfInBounds_toArray, List.set_cons_succ, List.set_cons_zero]
        refine s_val (o := ⟨some 12, _, _, _, _, _⟩) (.bool false) rfl (by kernel_rfl) (fun u hu => exec_assign (.tmp 34) (.bool false) rfl (by kernel_rfl)) ?_
        simp only [Act.put, List.setIfInBounds_toArray, List.set_cons_succ, List.set_cons_zero]
        refine s_done ?_
        have hkr3 : Kept w wr.drew := Keep.drew hkr
        have hbp3 : Blk wr.drew gp 30 (cells8 P) := hbp
        have hbq3 : Blk wr.drew gq 30 (cells8 R) := hbq
        generalize wr.drew = w3 at hkr3 hbp3 hbq3 ⊢
        clear hkr hbp hbq
        have hltp := hbp3.lt
        have hltq := hbq3.lt
        go_wp2_with fail
        refine wp_sched (fun u => Kept w u) [(0, 0), (1, 0), (2, 0), (3, 0), (4, 0), (5, 0), (6, 0), (7, 0), (8, 1), (9, 1)] (by kernel_rfl) (by kernel_rfl) (Keep.drew hkr3) ?_
        refine s_val (o := ⟨some 35, _, _, _, _, _⟩) (.slice (some ⟨g1, 0, none⟩) n c1) rfl (by kernel_rfl) (fun u hu => exec_move (.tmp 2) (.slice (some ⟨g1, 0, none⟩) n c1) rfl (by kernel_rfl)) ?_
        simp only [Act.put, List.setIfInBounds_toArray, List.set_cons_succ, List.set_cons_zero]
        refine s_val (o := ⟨some 36, _, _, _, _, _⟩) (.int .i64 (i : Int)) rfl (by kernel_rfl) (fun u hu => exec_move (.tmp 11) (.int .i64 (i : Int)) rfl (by kernel_rfl)) ?_
        simp only [Act.put, List.setIfInBounds_toArray, List.set_cons_succ, List.set_cons_zero]
        refine s_val (o := ⟨some 37, _, _, _, _, _⟩) (.pointer (some ⟨g1, 0 + i * 32, none⟩)) rfl (by kernel_rfl) (fun u hu => exec_index 24 30 32 (.tmp 35) (.tmp 36) (g1) (0) (n) (c1) (i) rfl Tryd.underlying24 sum_size (by kernel_rfl) (by kernel_rfl) (by omega)) ?_
        simp only [Act.put, List.setIfInBounds_toArray, List.set_cons_succ, List.set_cons_zero]
        refine s_val (o := ⟨some 38, _, _, _, _, _⟩) (.agg (cells8 S).toArray) rfl (by kernel_rfl) (fun u hu => exec_load_mid (.tmp 37) g1 (0 + i * 32) S rfl (by kernel_rfl) (fun j v hv => by rw [Nat.zero_add]; exact Kept.cell hu (HR1.out j v hv)) HSl.out) ?_
        simp only [Act.put, List.setIfInBounds_toArray, List.set_cons_succ, List.set_cons_zero]
        refine s_val (o := ⟨some 39, _, _, _, _, _⟩) (.slice (some ⟨g2, 0, none⟩) m c2) rfl (by kernel_rfl) (fun u hu => exec_move (.tmp 3) (.slice (some ⟨g2, 0, none⟩) m c2) rfl (by kernel_rfl)) ?_
        simp only [Act.put, List.setIfInBounds_toArray, List.set_cons_succ, List.set_cons_zero]
        refine s_val (o := ⟨some 40, _, _, _, _, _⟩) (.int .i64 (i : Int)) rfl (by kernel_rfl) (fun u hu => exec_move (.tmp 11) (.int .i64 (i : Int)) rfl (by kernel_rfl)) ?_
        simp only [Act.put, List.setIfInBounds_toArray, List.set_cons_succ, List.set_cons_zero]
        refine s_val (o := ⟨some 41, _, _, _, _, _⟩) (.pointer (some ⟨g2, 0 + i * 32, none⟩)) rfl (by kernel_rfl) (fun u hu => exec_index 24 30 32 (.tmp 39) (.tmp 40) (g2) (0) (m) (c2) (i) rfl Tryd.underlying24 sum_size (by kernel_rfl) (by kernel_rfl) (by omega)) ?_
        simp only [Act.put, List.setIfInBounds_toArray, List.set_cons_succ, List.set_cons_zero]
        refine s_val (o := ⟨some 42, _, _, _, _, _⟩) (.agg (cells8 T).toArray) rfl (by kernel_rfl) (fun u hu => exec_load_mid (.tmp 41) g2 (0 + i * 32) T rfl (by kernel_rfl) (fun j v hv => by rw [Nat.zero_add]; exact Kept.cell hu (HR2.out j v hv)) HTl.out) ?_
        simp only [Act.put, List.setIfInBounds_toArray, List.set_cons_succ, List.set_cons_zero]
        refine s_oper (o := ⟨none, _, _, _, _, _⟩) rfl (by kernel_rfl) fun K hK => ?_
        refine op_store_row w3.drew 30 (.tmp 9) (.tmp 38) rfl gp (cells8 S) (by kernel_rfl) (by kernel_rfl) 30 (cells8 P) hbp3 hiS.out hzS.out (cells8_one _) ?_
        intro w4 hbp4 hk4 _
        have hkw4 : Kept w w4 := Kept.trans' (Keep.drew hkr3) hk4 (by omega)
        have hbq4 : Blk w4 gq 30 (cells8 R) := Blk.keep (w := w3.drew) hbq3 hk4 (by omega)
        refine hK _ _ hkw4 ?_
        simp only [Act.put]
        refine s_oper (o := ⟨none, _, _, _, _, _⟩) rfl (by kernel_rfl) fun K hK => ?_
        refine op_store_row w4 30 (.tmp 10) (.tmp 42) rfl gq (cells8 T) (by kernel_rfl) (by kernel_rfl) 30 (cells8 R) hbq4 hiT.out hzT.out (cells8_one _) ?_
        intro w5 hbq5 hk5 _
        have hkw5 : Kept w w5 := Kept.trans' hkw4 hk5 (by omega)
        have hbp5 := hbp4.keep hk5 (by omega)
        refine hK _ _ hkw5 ?_
        simp only [Act.put]
        refine s_done ?_
        clear hkr3 hbp3 hbq3 hbp4 hbq4 hk4 hk5 hkw4
        by_cases hST : S = T
        · have hq := eq_as S T HSl.out HTl.out true (decide_eq_true hST)
          have HDn := Lib.hid (HDi.out.trans (clash_hit La Lb i hmi.out (HEQ.out.2 ⟨hST, .inl hPR⟩)))
          clear hST
          go_wp2_with ((with_reducible show wpList _ _ _ _ _ _); (first
            | ((with_reducible refine wpl_load_row (o := ⟨some 43, _, _, _, _, _⟩) _ rfl 30 (.tmp 9) rfl gp ?hxCa 30 (cells8 S) 32 5 hbp5 Tryd.underlying30 hiS.out ?_); (case hxCa => rfl))
            | ((with_reducible refine wpl_load_row (o := ⟨some 44, _, _, _, _, _⟩) _ rfl 30 (.tmp 10) rfl gq ?hyCa 30 (cells8 T) 32 5 hbq5 Tryd.underlying30 hiT.out ?_); (case hyCa => rfl))))
          go_ret
          exact ⟨ret_int HDn.out.symm, hkw5⟩
        · have hq := eq_as S T HSl.out HTl.out false (decide_eq_false hST)
          have HDn := Lib.hid (HDi.out.trans (clash_next La Lb i hmi.out (fun h => hST (HEQ.out.1 h).1)))
          clear hST
          go_wp2_with ((with_reducible show wpList _ _ _ _ _ _); (first
            | ((with_reducible refine wpl_load_row (o := ⟨some 43, _, _, _, _, _⟩) _ rfl 30 (.tmp 9) rfl gp ?hxCb 30 (cells8 S) 32 5 hbp5 Tryd.underlying30 hiS.out ?_); (case hxCb => rfl))
            | ((with_reducible refine wpl_load_row (o := ⟨some 44, _, _, _, _, _⟩) _ rfl 30 (.tmp 10) rfl gq ?hyCb 30 (cells8 T) 32 5 hbq5 Tryd.underlying30 hiT.out ?_); (case hyCb => rfl))))
          rw [HS.out] at hbp5
          rw [HT.out] at hbq5
          exact ⟨⟨i + 1, by omega, by go_num, hkw5, hbp5, hbq5, HDn⟩, by simp [intOf]; omega⟩
    · obtain rfl : i = k := by omega
      have hD0 : D = -1 := by
        have h1 := HK.out
        have h2 := hla.out
        have h3 := hlb.out
        have := HDi.out
        rw [show min La.length Lb.length - i = 0 by omega] at this
        exact this
      have HD0 := Lib.hid hD0
      clear hD0 HDi hmin
      go_wp2
      go_ret
      exact ⟨ret_int HD0.out.symm, hkr⟩

set_option maxRecDepth 100000 in
set_option maxHeartbeats 800000 in
theorem clash_any (va vb : Value) (La Lb : List (List UInt8)) (w : World) (hG : Glob w) (ha : RecV w va La) (hb : RecV w vb Lb) (hna : La.length ≤ 1000000) (hnb : Lb.length ≤ 1000000) (hea : ∀ x ∈ La, x.length ≤ 800000) (heb : ∀ x ∈ Lb, x.length ≤ 800000) :
    Calls Tryd.prog 9 #[va, vb] w fun e w' => e = .returned (.int .i64 (clashOf La Lb)) ∧ Kept w w' := by
  have HA := Lib.hid ha
  have HB := Lib.hid hb
  obtain ⟨A, n, c, rfl, hla, hA, -, -⟩ := ha
  obtain ⟨B, m, d, rfl, hlb, hB, -, -⟩ := hb
  have hn : n ≤ 1000000 := by have := hla.out; omega
  have hm : m ≤ 1000000 := by have := hlb.out; omega
  go_enter Tryd.func9, Tryd.ntmps9
  go_wp2_with fail
  refine (links_any _ La w hG HA.out hna hea).mono ?_
  rintro e w1 ⟨u, rfl, g1, rfl, hg1, hb1, hk1⟩
  have hs1 := sums_of_blk hb1 (linksOf_each La)
  rw [hla.out]
  go_wp2_with fail
  refine (links_any _ Lb w1 (hG.kept hk1) (HB.out.kept hk1) hnb heb).mono ?_
  rintro e w2 ⟨u, rfl, g2, rfl, hg2, hb2, hk2⟩
  have hs2 := sums_of_blk hb2 (linksOf_each Lb)
  have hkw2 := hk1.trans hk2
  rw [hlb.out]
  go_wp2_with fail
  refine (firstClash_any La Lb A B _ _ n m c d n m w2 (hA.kept hkw2) (hB.kept hkw2) (hs1.kept hk2) hs2 hla hlb hn hm).mono ?_
  rintro e w3 ⟨rfl, hk3⟩
  have hkz := hkw2.trans hk3
  clear hk1 hk2 hk3 hb1 hb2 hs1 hs2
  go_wp2
  go_ret
  exact ⟨rfl, hkz⟩
end Go.Proofs.YtholpkaicmckfaaDoor
