/-
  The walk of jobberlaw1.WireOrder. No condition.
-/
import Derived.Test.YtojdhhlcildodaaRuns1
import Derived.Test.YtojdhhlcildodaaBe
namespace Go.Proofs.Ytojdhhlcildodaa
open Go.RowKit
set_option linter.unusedVariables false

set_option maxHeartbeats 1000000 in
theorem wireOrder_any (a b c : Int) (w : World) (wa : (Lit.int .u32 a).wf = true) (wb : (Lit.int .u32 b).wf = true) (wc : (Lit.int .u64 c).wf = true) :
    Calls Try.prog 8 #[.int .u32 a, .int .u32 b, .int .u64 c] w fun e w' => e = .returned (.bool true) ∧ Kept w w' := by
  have ba : 0 ≤ a ∧ a ≤ 4294967295 := by simpa [Lit.wf, IntKind.min, IntKind.max, IntKind.signed, IntKind.bits] using wa
  have bb : 0 ≤ b ∧ b ≤ 4294967295 := by simpa [Lit.wf, IntKind.min, IntKind.max, IntKind.signed, IntKind.bits] using wb
  have bc : 0 ≤ c ∧ c ≤ 18446744073709551615 := by simpa [Lit.wf, IntKind.min, IntKind.max, IntKind.signed, IntKind.bits] using wc
  clear wa wb wc
  obtain ⟨a0, a1⟩ := ba
  obtain ⟨b0, b1⟩ := bb
  obtain ⟨c0, c1⟩ := bc
  go_enter Try.func8, Try.ntmps8
  go_wp2_with fail
  refine (u32_any none 0 _ [] _ _ (R8.nil _ _) (by omega) rfl (by omega) (by omega)).mono ?_
  rintro e w1 ⟨g1, d1, rfl, hg1, hrow1, hk⟩
  have hk1 : Kept w w1 := hk
  clear hk
  go_wp2_with fail
  refine (u32_any none 0 _ [] _ _ (R8.nil _ _) (by omega) rfl (by omega) (by omega)).mono ?_
  rintro e w2 ⟨g2, d2, rfl, hg2, hrow2, hk⟩
  have hk2 := hk1.trans hk
  replace hrow1 := hrow1.kept hk
  clear hk hk1
  go_wp2_with fail
  refine (u64_any none 0 _ [] _ _ (R8.nil _ _) (by omega) rfl (by omega) (by omega)).mono ?_
  rintro e w3 ⟨g3, d3, rfl, hg3, hrow3, hk⟩
  have hk3 := hk2.trans hk
  replace hrow1 := hrow1.kept hk
  replace hrow2 := hrow2.kept hk
  clear hk hk2
  have s1 := run_str8 w3 _ 4 d1 _ hrow1.r8 (by simp [be_length])
  have s2 := run_str8 w3 _ 4 d2 _ hrow2.r8 (by simp [be_length])
  simp only [List.nil_append] at s1 s2 hrow3
  clear hrow1 hrow2
  have hless : Op.bytesLess (be a.toNat 4) (be b.toNat 4) = decide (a < b) := by
    rw [less_be, Nat.mod_eq_of_lt (by omega), Nat.mod_eq_of_lt (by omega)]
    by_cases h : a < b
    · rw [decide_eq_true h, decide_eq_true (by omega)]
    · rw [decide_eq_false h, decide_eq_false (by omega)]
  have HC : Hid (be c.toNat 8 = ([] ++ be (c / 4294967296).toNat 4) ++ be (c % 4294967296).toNat 4) := by
    show _ = _
    have e1 : (c / 4294967296).toNat = c.toNat / 256 ^ 4 := by omega
    have e2 : (c % 4294967296).toNat = c.toNat % 256 ^ 4 := by omega
    rw [List.nil_append, e1, e2, be_mod _ 4 4 (Nat.le_refl _)]
    exact be_add c.toNat 4 4
  go_wp2_with fail
  refine (u32_any none 0 _ [] _ _ (R8.nil _ _) (by omega) rfl (by omega) (by omega)).mono ?_
  rintro e w4 ⟨g4, d4, rfl, hg4, hrow4, hk⟩
  have hk4 := hk3.trans hk
  replace hrow3 := hrow3.kept hk
  clear hk hk3 s1 s2 hless
  go_wp2_with fail
  refine (u32_any _ 4 _ _ _ _ hrow4.r8 (by omega) ?_ (by omega) (by omega)).mono ?_
  · show _ = _; simp [be_length]
  rintro e w5 ⟨g5, d5, rfl, hg5, hrow5, hk⟩
  have hk5 := hk4.trans hk
  replace hrow3 := hrow3.kept hk
  clear hk hk4 hrow4
  go_wp2_with fail
  refine (same_is _ _ 8 8 _ _ _ _ true _ ?_ hrow3.r8 hrow5.r8 (by unfold maxLen; omega) ?_ ?_).mono ?_
  · exact decide_eq_true HC.out
  · show _ = _; simp [be_length]
  · show _ = _; simp [be_length]
  rintro e w6 ⟨rfl, k6, rfl⟩
  replace hk5 := hk5.drewN k6
  clear hrow3 hrow5
  go_wp2_with fail
  refine (u8_any none 0 _ [] _ _ (R8.nil _ _) (by omega) rfl).mono ?_
  rintro e w7 ⟨g7, d7, rfl, hg7, hrow7, hk⟩
  have hk7 := Kept.trans hk5 hk
  clear hk hk5
  go_wp2_with fail
  refine (wireRuns_any _).mono ?_
  rintro e w8 ⟨rfl, hk⟩
  have hk8 := hk7.trans hk
  go_wp2
  go_ret
  exact ⟨rfl, hk8⟩
end Go.Proofs.Ytojdhhlcildodaa
