/-
  The walk of jobberlaw1.WireBack. No condition.
-/
import Derived.Test.YtojdhhlcildodaaTexts1
import Derived.Test.YtojdhhlcildodaaBad1
namespace Go.Proofs.Ytojdhhlcildodaa
open Go.RowKit
set_option linter.unusedVariables false

theorem and255 (n : Int) : bits BinOp.and IntKind.i64 n 255 = n % 256 := by
  have h : (BitVec.ofInt 64 n &&& BitVec.ofInt 64 255).toNat = (n % 256).toNat := by
    rw [BitVec.toNat_and, BitVec.toNat_ofInt]
    have e : (BitVec.ofInt 64 255).toNat = 2 ^ 8 - 1 := by decide
    rw [e, Nat.and_two_pow_sub_one_eq_mod]
    omega
  show IntKind.i64.wrap ((BitVec.ofInt 64 n &&& BitVec.ofInt 64 255).toNat : Int) = _
  rw [h, IntKind.wrap_i64]
  omega

/-- what is written -/
def back (n u v : Int) (s : ByteArray) : List UInt8 := (([UInt8.ofNat (n % 256).toNat] ++ be u.toNat 4) ++ be v.toNat 8) ++ txt s

theorem back_length (n u v : Int) (s : ByteArray) : (back n u v s).length = 13 + (1 + min s.size 255) := by
  simp [back, be_length, txt_length]
  omega

theorem bad_take (s : RS) (n : Nat) (h : s.bad = true) : (s.take n).1.bad = true := by rw [RS.take_bad s h]; exact h
theorem bad_text (s : RS) (m : Int) (h : s.bad = true) : (s.text m).1.bad = true := by
  unfold RS.text
  rw [RS.take_bad s h]
  simp only
  split
  · rw [RS.take_bad _ (by rfl)]; simp
  · rw [RS.take_bad _ h]; simp [h]
theorem short_take (xs : List UInt8) (p n : Nat) (h : xs.length - p < n) : (RS.take ⟨xs, p, false⟩ n).1.bad = true := by
  unfold RS.take
  rw [if_pos (.inr h)]
theorem long_take (xs : List UInt8) (p n : Nat) (h : n ≤ xs.length - p) : RS.take ⟨xs, p, false⟩ n = (⟨xs, p + n, false⟩, (xs.drop p).take n) := by
  unfold RS.take
  rw [if_neg (by simp; omega)]

/-- the four calls -/
def four (s : RS) : RS := (((((s.take 1).1).take 4).1.take 8).1.text 255).1

theorem cut_bad (n u v : Int) (s : ByteArray) (k : Nat) (hk : k < 13 + (1 + min s.size 255)) : (four ⟨(back n u v s).take k, 0, false⟩).bad = true := by
  have hL := back_length n u v s
  obtain ⟨ys, hys⟩ : ∃ ys, ys = (back n u v s).take k := ⟨_, rfl⟩
  have hl : ys.length = k := by rw [hys, List.length_take]; omega
  have hd : ys.drop 13 = (txt s).take (k - 13) := by
    rw [hys, List.drop_take]
    have e : 13 = (([UInt8.ofNat (n % 256).toNat] ++ be u.toNat 4) ++ be v.toNat 8).length := by simp [be_length]
    have e2 : (back n u v s).drop 13 = txt s := by
      unfold back
      rw [e, List.drop_left]
    rw [e2]
  rw [← hys]
  clear hys
  unfold four
  by_cases h1 : k < 1
  · exact bad_text _ _ (bad_take _ _ (bad_take _ _ (short_take ys 0 1 (by omega))))
  rw [long_take ys 0 1 (by omega)]
  by_cases h2 : k < 5
  · exact bad_text _ _ (bad_take _ _ (short_take ys _ 4 (by omega)))
  rw [long_take ys _ 4 (by omega)]
  by_cases h3 : k < 13
  · exact bad_text _ _ (short_take ys _ 8 (by omega))
  rw [long_take ys _ 8 (by omega)]
  show (RS.text ⟨ys, 13, false⟩ 255).1.bad = true
  unfold RS.text
  simp only
  by_cases h4 : k < 14
  · have hb := short_take ys 13 1 (by omega)
    generalize (RS.take ⟨ys, 13, false⟩ 1) = t at *
    split
    · rw [RS.take_bad _ (by rfl)]; simp
    · rw [RS.take_bad _ hb]; simp [hb]
  · rw [long_take ys 13 1 (by omega), hd]
    have hv : val (((txt s).take (k - 13)).take 1) = min s.size 255 := by
      rw [List.take_take, Nat.min_eq_left (by omega)]
      show 0 * 256 + _ = _
      rw [min255]; omega
    simp only [hv]
    have h255 : ¬ (255 : Int) < ((min s.size 255 : Nat) : Int) := by omega
    have hb := short_take ys (13 + 1) (min s.size 255) (by omega)
    simp only [if_neg h255, if_pos hb]
    exact hb

set_option maxRecDepth 100000 in
set_option maxHeartbeats 2000000 in
theorem wireBack_any (n u v : Int) (s : ByteArray) (cut : Int) (w : World) (hs : s.size ≤ maxLen) (wu : (Lit.int .u32 u).wf = true) (wv : (Lit.int .u64 v).wf = true) :
    Calls Try.prog 6 #[.int .i64 n, .int .u32 u, .int .u64 v, .string s, .int .i64 cut] w fun e w' => e = .returned (.bool true) ∧ Kept w w' := by
  unfold maxLen at hs
  have bu : 0 ≤ u ∧ u ≤ 4294967295 := by simpa [Lit.wf, IntKind.min, IntKind.max, IntKind.signed, IntKind.bits] using wu
  have bv : 0 ≤ v ∧ v ≤ 18446744073709551615 := by simpa [Lit.wf, IntKind.min, IntKind.max, IntKind.signed, IntKind.bits] using wv
  clear wu wv
  obtain ⟨u0, u1⟩ := bu
  obtain ⟨v0, v1⟩ := bv
  have hand := and255 n
  go_enter Try.func6, Try.ntmps6
  go_upto_region 1 with fail
  go_cut [3] (fun x wx => ∃ s' : ByteArray, x = .string s' ∧ s'.size ≤ 100 ∧ w = wx)
  case first =>
    go_wp2
    all_goals go_meet
    all_goals refine ⟨_, rfl, ?_, rfl⟩
    all_goals first | (rw [ByteArray.size_extract]; omega) | omega
  case rest =>
    obtain ⟨s', rfl, hs', rfl⟩ := hcut
    obtain ⟨m, hm⟩ : ∃ m, m = min s'.size 255 := ⟨_, rfl⟩
    have hm1 : m ≤ 100 := by omega
    have HM := Lib.hid hm
    clear hm
    go_wp2_with fail
    refine (u8_any none 0 _ [] _ _ (R8.nil _ _) (by omega) rfl).mono ?_
    rintro e w1 ⟨g1, d1, rfl, hg1, hrow1, hk⟩
    have hk1 : Kept w w1 := hk
    clear hk
    go_wp2_with fail
    refine (u32_any _ 1 _ _ _ _ hrow1.r8 (by omega) rfl (by omega) (by omega)).mono ?_
    rintro e w2 ⟨g2, d2, rfl, hg2, hrow2, hk⟩
    have hk2 := hk1.trans hk
    clear hk hk1 hrow1
    go_wp2_with fail
    refine (u64_any _ 5 _ _ _ _ hrow2.r8 (by omega) ?_ (by omega) (by omega)).mono ?_
    · show _ = _; simp [be_length]
    rintro e w3 ⟨g3, d3, rfl, hg3, hrow3, hk⟩
    have hk3 := hk2.trans hk
    clear hk hk2 hrow2
    go_wp2_with fail
    have hT := text_any (some ⟨g3, 0, none⟩) 13 d3 _ s' w3 hrow3.r8 (by omega) (by show _ = _; simp [be_length]) (by unfold maxLen; omega)
    rw [← HM.out] at hT
    refine hT.mono ?_
    rintro e w4 ⟨g4, d4, rfl, hg4, hrow4, hk⟩
    have hk4 := hk3.trans hk
    clear hk hk3 hrow3 hT
    have hlen : Hid ((back n u v s').length = 14 + m) := by show _ = _; rw [back_length, HM.out]; omega
    replace hrow4 : Row8 w4 g4 d4 (back n u v s') := hrow4
    have hd4 : 14 + m ≤ d4 := by have := hrow4.le; rw [hlen.out] at this; exact this
    go_wp2_with fail
    refine (read_any _ (14 + m) _ _ _ hrow4.r8 (by omega) hlen).mono ?_
    rintro e w5 ⟨g, b, rfl, hg, hb, hrd, hk⟩
    replace hrow4 := hrow4.kept hk
    have hk5 := hk4.trans hk
    have hlt := hrd.lt
    have hz4 := hk4.size
    clear hk hk4
    go_wp2_with fail
    refine (within_nat _ _ _ (by omega) (by omega)).mono ?_
    rintro e w6 ⟨k, rfl, hkk, rfl⟩
    have hk0 : k < 14 + m := by omega
    have hlk : Hid (((back n u v s').take k).length = k) := by show _ = _; rw [List.length_take, hlen.out]; omega
    have HB := Lib.hid (cut_bad n u v s' k (by rw [← HM.out]; omega))
    go_wp2_with fail
    refine (read_any _ k _ _ _ (hrow4.r8.take k) (by omega) hlk).mono ?_
    rintro e w6 ⟨g', b', rfl, hg', hb', hq, hk⟩
    have hr := hrd.kept hk
    have hk6 := hk5.trans hk
    clear hk hk5 hrd hrow4
    have ok0 : RS.ok ⟨back n u v s', 0, false⟩ := ⟨Nat.zero_le _, by show _ ≤ _; rw [hlen.out]; omega⟩
    have okq : RS.ok ⟨(back n u v s').take k, 0, false⟩ := ⟨Nat.zero_le _, by show _ ≤ _; rw [hlk.out]; omega⟩
    have x1 := RS.take_at (back n u v s') 0 [UInt8.ofNat (n % 256).toNat] ((be u.toNat 4 ++ be v.toNat 8) ++ txt s') (by simp [back])
    have d1 := drop_next (xs := back n u v s') (p := 0) (ys := [UInt8.ofNat (n % 256).toNat]) (rest := (be u.toNat 4 ++ be v.toNat 8) ++ txt s') (by simp [back])
    have x2 := RS.take_at (back n u v s') 1 (be u.toNat 4) (be v.toNat 8 ++ txt s') (by simpa using d1)
    have d2 := drop_next (xs := back n u v s') (p := 1) (ys := be u.toNat 4) (rest := be v.toNat 8 ++ txt s') (by simpa using d1)
    have x3 := RS.take_at (back n u v s') 5 (be v.toNat 8) (txt s') (by simpa [be_length] using d2)
    have d3 := drop_next (xs := back n u v s') (p := 5) (ys := be v.toNat 8) (rest := txt s') (by simpa [be_length] using d2)
    have x4 := RS.text_at (back n u v s') 13 s' [] 255 (by simpa [be_length] using d3)
    rw [← HM.out, if_neg (by omega)] at x4
    rw [be_length] at x2 x3
    simp only [List.length_singleton] at x1
    have X1 := Lib.hid x1
    have X2 := Lib.hid x2
    have X3 := Lib.hid x3
    have X4 := Lib.hid x4
    clear x1 x2 x3 x4 d1 d2 d3
    have hv1 : Hid ((val [UInt8.ofNat (n % 256).toNat] : Int) = n % 256) := by
      show ((0 * 256 + (UInt8.ofNat (n % 256).toNat).toNat : Nat) : Int) = _
      simp only [UInt8.toNat_ofNat']
      omega
    have hv2 : Hid ((val (be u.toNat 4) : Int) = u) := by
      show _ = _
      rw [val_be, Nat.mod_eq_of_lt (by omega)]; omega
    have hv3 : Hid ((val (be v.toNat 8) : Int) = v) := by
      show _ = _
      rw [val_be, Nat.mod_eq_of_lt (by omega)]; omega
    have hne1 : ¬ g' = g := by omega
    have hne2 : ¬ b' = g := by omega
    have hne3 : ¬ g < w.heap.size := by omega
    have hne4 : ¬ g' < w.heap.size := by omega
    go_wp2_with fail
    refine (ru8_any g b _ _ hr ok0).mono ?_
    rintro e w7 ⟨rfl, hr7, hk⟩
    rw [X1.out] at hr7
    rw [X1.out]
    simp only
    rw [hv1.out]
    replace hq := hq.keep hk hne1 hne2
    replace hk6 := hk6.trans' hk hne3
    clear hk hr
    go_wp2_with fail
    refine (ru32_any g b _ _ hr7 ⟨by simp only [hlen.out]; omega, ok0.2⟩).mono ?_
    rintro e w8 ⟨rfl, hr8, hk⟩
    simp only [Nat.zero_add] at hr8
    rw [X2.out] at hr8
    simp only [Nat.zero_add]
    rw [X2.out]
    simp only
    rw [hv2.out]
    replace hq := hq.keep hk hne1 hne2
    replace hk6 := hk6.trans' hk hne3
    clear hk hr7
    go_wp2_with fail
    refine (ru64_any g b _ _ hr8 ⟨by simp only [hlen.out]; omega, ok0.2⟩).mono ?_
    rintro e w9 ⟨rfl, hr9, hk⟩
    rw [X3.out] at hr9
    rw [X3.out]
    simp only
    rw [hv3.out]
    replace hq := hq.keep hk hne1 hne2
    replace hk6 := hk6.trans' hk hne3
    clear hk hr8
    go_wp2_with fail
    refine (rtext_any g b _ _ _ hr9 ⟨by simp only [hlen.out]; omega, ok0.2⟩).mono ?_
    rintro e w10 ⟨rfl, hr10, hk⟩
    rw [X4.out] at hr10
    rw [X4.out]
    simp only
    rw [show s'.data.toList.take 255 = s'.toList from (List.take_of_length_le (by rw [ba_len]; omega)).trans (Lib.toList_data s').symm]
    replace hq := hq.keep hk hne1 hne2
    replace hk6 := hk6.trans' hk hne3
    clear hk hr9
    go_wp2_with fail
    refine (end_any g b _ _ hr10 ⟨by simp only [hlen.out]; omega, ok0.2⟩).mono ?_
    rintro e w11 ⟨rfl, k11, rfl⟩
    have hf : RS.fin ⟨back n u v s', 13 + (1 + m), false⟩ = true := by
      unfold RS.fin
      simp only [hlen.out]
      simp
      omega
    rw [hf]
    replace hk6 := hk6.drewN k11
    replace hr10 : Rd (w10.drewN k11) g b ⟨back n u v s', 13 + (1 + m), false⟩ := hr10
    replace hq : Rd (w10.drewN k11) g' b' ⟨(back n u v s').take k, 0, false⟩ := hq
    go_wp2_with fail
    refine (bad_any g b _ _ hr10).mono ?_
    rintro e w12 ⟨rfl, rfl⟩
    go_wp2_with fail
    refine (at_any g b _ _ hr10).mono ?_
    rintro e w12 ⟨rfl, rfl⟩
    simp only
    have hat : (((13 + (1 + m) : Nat) : Int) != 14 + (m : Int)) = false := by simp; omega
    go_wp2_with fail
    refine (ru8_any g' b' _ _ hq okq).mono ?_
    rintro e w13 ⟨rfl, hq13, hk⟩
    replace hk6 := Kept.trans' hk6 hk hne4
    have okq1 := RS.take_ok okq 1
    clear hk hq hat
    go_wp2_with fail
    refine (ru32_any g' b' _ _ hq13 okq1).mono ?_
    rintro e w14 ⟨rfl, hq14, hk⟩
    replace hk6 := Kept.trans' hk6 hk hne4
    have okq2 := RS.take_ok okq1 4
    clear hk hq13
    go_wp2_with fail
    refine (ru64_any g' b' _ _ hq14 okq2).mono ?_
    rintro e w15 ⟨rfl, hq15, hk⟩
    replace hk6 := Kept.trans' hk6 hk hne4
    have okq3 := RS.take_ok okq2 8
    clear hk hq14
    go_wp2_with fail
    refine (rtext_any g' b' _ _ _ hq15 okq3).mono ?_
    rintro e w16 ⟨rfl, hq16, hk⟩
    replace hk6 := Kept.trans' hk6 hk hne4
    have okq4 := RS.text_ok okq3 255
    clear hk hq15
    obtain ⟨sq, hsq⟩ : ∃ sq, sq = four ⟨(back n u v s').take k, 0, false⟩ := ⟨_, rfl⟩
    replace hq16 : Rd w16 g' b' sq := by rw [hsq]; exact hq16
    have okq5 : sq.ok := by rw [hsq]; exact okq4
    have hbq := HB.out
    rw [← hsq] at hbq
    have hff : RS.fin sq = false := by unfold RS.fin; rw [hbq]; rfl
    clear hsq okq4 okq3 okq2 okq1
    go_wp2_with fail
    refine (bad_any g' b' _ _ hq16).mono ?_
    rintro e w17 ⟨rfl, rfl⟩
    rw [hbq]
    go_wp2_with fail
    refine (end_any g' b' _ _ hq16 okq5).mono ?_
    rintro e w18 ⟨rfl, k18, rfl⟩
    rw [hff]
    replace hk6 := Keep.drewN hk6 k18
    go_wp2_with fail
    refine (wireRuns_any _).mono ?_
    rintro e w19 ⟨rfl, hk⟩
    have hk19 := Kept.trans hk6 hk
    go_wp2
    go_ret
    exact ⟨rfl, hk19⟩

end Go.Proofs.Ytojdhhlcildodaa
