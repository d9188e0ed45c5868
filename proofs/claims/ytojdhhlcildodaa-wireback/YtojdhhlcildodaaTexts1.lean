/-
  The walk of jobberlaw1.WireTexts. No condition.
-/
import Derived.Test.YtojdhhlcildodaaRuns1
import Derived.Test.YtojdhhlcildodaaBe
import Derived.Test.YtojdhhlcildodaaWithin
import Derived.Deep.DeepCutAuto
import Derived.Lib.Strings
namespace Go.Proofs.Ytojdhhlcildodaa
open Go.RowKit
set_option linter.unusedVariables false

theorem RS.take_at (xs : List UInt8) (p : Nat) (ys rest : List UInt8) (h : xs.drop p = ys ++ rest) : RS.take ⟨xs, p, false⟩ ys.length = (⟨xs, p + ys.length, false⟩, ys) := by
  have hl := congrArg List.length h
  rw [List.length_drop, List.length_append] at hl
  unfold RS.take
  rw [if_neg (by simp; omega)]
  simp only
  rw [h, List.take_left]
theorem drop_next {xs : List UInt8} {p : Nat} {ys rest : List UInt8} (h : xs.drop p = ys ++ rest) : xs.drop (p + ys.length) = rest := by
  rw [← List.drop_drop, h, List.drop_left]

/-- a text that was written is read, or is too long -/
theorem RS.text_at (xs : List UInt8) (p : Nat) (s : ByteArray) (rest : List UInt8) (k : Int) (h : xs.drop p = txt s ++ rest) :
    RS.text ⟨xs, p, false⟩ k = if k < ((min s.size 255 : Nat) : Int) then (⟨xs, p, true⟩, []) else (⟨xs, p + (1 + min s.size 255), false⟩, s.data.toList.take 255) := by
  have h1 : xs.drop p = [UInt8.ofNat (min s.size 255)] ++ (s.data.toList.take 255 ++ rest) := by rw [h]; rfl
  have t1 := RS.take_at xs p _ _ h1
  have h2 := drop_next h1
  simp only [List.length_singleton] at t1 h2
  have hv : val [UInt8.ofNat (min s.size 255)] = min s.size 255 := by
    show 0 * 256 + _ = _
    rw [min255]; omega
  have hl : (s.data.toList.take 255).length = min s.size 255 := by rw [List.length_take, ba_len]; omega
  unfold RS.text
  simp only
  rw [t1]
  simp only [hv]
  by_cases hk : k < ((min s.size 255 : Nat) : Int)
  · rw [if_pos hk, if_pos hk]
    simp [RS.take]
  · rw [if_neg hk, if_neg hk]
    have t2 := RS.take_at xs (p + 1) _ _ h2
    rw [hl] at t2
    rw [t2]
    simp [Nat.add_assoc]

set_option maxHeartbeats 1000000 in
theorem wireTexts_any (s : ByteArray) (most : Int) (w : World) (hs : s.size ≤ maxLen) :
    Calls Try.prog 9 #[.string s, .int .i64 most] w fun e w' => e = .returned (.bool true) ∧ Kept w w' := by
  unfold maxLen at hs
  go_enter Try.func9, Try.ntmps9
  go_upto_region 1 with fail
  go_cut [0] (fun v wx => ∃ s' : ByteArray, v = .string s' ∧ s'.size ≤ 300 ∧ w = wx)
  case first =>
    go_wp2
    all_goals go_meet
    all_goals refine ⟨_, rfl, ?_, rfl⟩
    all_goals first | (rw [ByteArray.size_extract]; omega) | omega
  case rest =>
    obtain ⟨s', rfl, hs', rfl⟩ := hcut
    obtain ⟨m, hm⟩ : ∃ m, m = min s'.size 255 := ⟨_, rfl⟩
    have hm1 : m ≤ 255 := by omega
    have hm2 : m ≤ s'.size := by omega
    have hmin : (if (255 : Int) < (s'.size : Int) then (255 : Int) else (s'.size : Int)) = (m : Int) := by split <;> omega
    have HM := Lib.hid hm
    have hT := text_any none 0 0 [] s' w (R8.nil _ _) (by omega) rfl (by unfold maxLen; omega)
    rw [← hm, Nat.zero_add, List.nil_append] at hT
    have HT := Lib.hid hT
    have hlen : Hid ((txt s').length = 1 + m) := by show _ = _; rw [txt_length, ← hm]
    clear hm hT
    go_wp2_with fail
    refine HT.out.mono ?_
    rintro e w1 ⟨g1, d1, rfl, hg1, hrow1, hk1⟩
    clear HT
    go_wp2_with fail
    refine (read_any _ (1 + m) _ _ _ hrow1.r8 (by omega) hlen).mono ?_
    rintro e w2 ⟨g2, b2, rfl, hg2, hb2, hrd2, hk2⟩
    replace hk2 := hk1.trans hk2
    have hgz : ¬ g2 < w.heap.size := by have := hk1.size; omega
    clear hrow1 hk1
    go_wp2_with fail
    refine (within_any _ _ _ _ (by omega) (by omega) (by omega)).mono ?_
    rintro e w3 ⟨rfl, rfl⟩
    obtain ⟨k, hk⟩ : ∃ k : Int, k = 0 + most % (260 - 0 + 1) := ⟨_, rfl⟩
    rw [← hk]
    have hk0 : 0 ≤ k ∧ k ≤ 260 := by omega
    clear hk
    go_wp2_with fail
    refine (rtext_any g2 b2 _ k _ hrd2 ⟨by simp, by show _ ≤ _; rw [hlen.out]; omega⟩).mono ?_
    rintro e w4 ⟨rfl, hrd4, hk4⟩
    replace hk4 := hk2.trans' hk4 hgz
    have hx := RS.text_at (txt s') 0 s' [] k (by simp)
    rw [← HM.out] at hx
    rw [hx] at hrd4
    rw [hx]
    clear hx hrd2 hk2
    have hex : (s'.extract 0 m).toList = s'.data.toList.take 255 := by
      rw [Lib.extract_toList, List.drop_zero, Nat.sub_zero, HM.out]
      exact List.take_eq_take_iff.2 (by rw [ba_len]; omega)
    by_cases hf : (m : Int) ≤ k
    · rw [if_neg (by omega)] at hrd4
      rw [if_neg (by omega)]
      simp only at hrd4
      go_wp2_with fail
      refine (bad_any g2 b2 _ _ hrd4).mono ?_
      rintro e w5 ⟨rfl, rfl⟩
      go_wp2_with fail
      refine (wireRuns_any _).mono ?_
      rintro e w8 ⟨rfl, hk⟩
      have hk8 := hk4.trans hk
      go_wp2
      go_ret
      exact ⟨rfl, hk8⟩
    · rw [if_pos (by omega)] at hrd4
      rw [if_pos (by omega)]
      simp only at hrd4
      have hne : ([] == s'.data.toList.take 255) = false := by
        have : s'.data.toList.take 255 ≠ [] := by
          intro h
          have hl2 := congrArg List.length h
          rw [List.length_take, ba_len, List.length_nil] at hl2
          omega
        cases h : s'.data.toList.take 255 with
        | nil => exact (this h).elim
        | cons => rfl
      have hz : ((s'.size : Int) == 0) = false := beq_eq_false_iff_ne.2 (by omega)
      have hff : decide ((m : Int) ≤ k) = false := by simpa using hf
      go_wp2_with fail
      refine (bad_any g2 b2 _ _ hrd4).mono ?_
      rintro e w5 ⟨rfl, rfl⟩
      go_wp2_with fail
      refine (at_any g2 b2 _ _ hrd4).mono ?_
      rintro e w6 ⟨rfl, rfl⟩
      go_wp2_with fail
      refine (wireRuns_any _).mono ?_
      rintro e w8 ⟨rfl, hk⟩
      have hk8 := hk4.trans hk
      go_wp2
      go_ret
      exact ⟨rfl, hk8⟩
end Go.Proofs.Ytojdhhlcildodaa
