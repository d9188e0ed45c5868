/-
  The contract of jobberbook.Within: the number brought into lo .. hi, as the remainder that is not below nought. Condition: 0 ≤ lo ≤ hi ≤ 2^40.
-/
import Derived.Test.YtliepgmnlhfaiaaLib
namespace Go.Proofs.Ytliepgmnlhfaiaa
open Go.RowKit
set_option linter.unusedVariables false
set_option maxRecDepth 100000

theorem wrap64_id (x : Int) (h0 : -9223372036854775808 ≤ x) (h1 : x ≤ 9223372036854775807) : IntKind.i64.wrap x = x := by
  rw [IntKind.wrap_i64]; omega

theorem tmod_lo (n m : Int) (hm : 0 < m) : -m < n.tmod m ∧ n.tmod m < m := ⟨Int.neg_lt_of_neg_lt (by have := Int.tmod_lt_of_pos (-n) hm; rwa [Int.neg_tmod] at this), Int.tmod_lt_of_pos n hm⟩
theorem tmod_emod (n m : Int) (hm : 0 < m) : n % m = if n.tmod m < 0 then n.tmod m + m else n.tmod m := by
  have h1 := Int.emod_nonneg n (show m ≠ 0 by omega)
  have h2 := Int.emod_lt_of_pos n hm
  obtain ⟨h3, h4⟩ := tmod_lo n m hm
  have e1 := Int.mul_ediv_add_emod n m
  have e2 := Int.mul_tdiv_add_tmod n m
  have e3 : n % m - n.tmod m = m * (n.tdiv m - n / m) := by rw [Int.mul_sub]; omega
  generalize n.tdiv m - n / m = q at e3
  have hq1 : m * q < m * 2 := by omega
  have hq2 : m * (-1) < m * q := by omega
  have hq3 := Int.lt_of_mul_lt_mul_left hq1 (by omega)
  have hq4 := Int.lt_of_mul_lt_mul_left hq2 (by omega)
  have hq : q = 0 ∨ q = 1 := by omega
  rcases hq with rfl | rfl
  · rw [if_neg (by omega)]; omega
  · rw [if_pos (by omega)]; omega

set_option maxHeartbeats 400000 in
theorem within_any (n lo hi : Int) (w : World) (h0 : 0 ≤ lo) (h1 : lo ≤ hi) (h2 : hi ≤ 1099511627776) :
    Calls Try.prog 14 #[.int .i64 n, .int .i64 lo, .int .i64 hi] w fun e w' => e = .returned (.int .i64 (lo + n % (hi - lo + 1))) ∧ w = w' := by
  obtain ⟨m1, m2⟩ := tmod_lo n (hi - lo + 1) (by omega)
  have E := Lib.hid (tmod_emod n (hi - lo + 1) (by omega))
  have hz : ((hi - lo + 1) == 0) = false := by simp; omega
  go_enter Try.func14, Try.ntmps14
  go_wp2
  · go_ret
    refine ⟨ret_int ?_, rfl⟩
    rw [E.out, if_pos (by assumption)]
    omega
  · go_ret
    refine ⟨ret_int ?_, rfl⟩
    rw [E.out, if_neg (by omega)]

theorem within_nat (n hi : Int) (w : World) (h1 : 0 ≤ hi) (h2 : hi ≤ 1099511627776) :
    Calls Try.prog 14 #[.int .i64 n, .int .i64 0, .int .i64 hi] w fun e w' => ∃ k : Nat, e = .returned (.int .i64 (k : Int)) ∧ (k : Int) ≤ hi ∧ w = w' := by
  refine (within_any n 0 hi w (by omega) h1 h2).mono ?_
  rintro e w' ⟨rfl, rfl⟩
  have a := Int.emod_nonneg n (show hi - 0 + 1 ≠ 0 by omega)
  have b := Int.emod_lt_of_pos n (show 0 < hi - 0 + 1 by omega)
  refine ⟨(0 + n % (hi - 0 + 1)).toNat, ret_int ?_, ?_, rfl⟩ <;> omega
end Go.Proofs.Ytliepgmnlhfaiaa
