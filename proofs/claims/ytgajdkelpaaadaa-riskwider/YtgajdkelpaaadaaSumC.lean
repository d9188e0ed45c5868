/-
  Sums, products, quotients as mathematics; the contracts of Plus, Times, Ceil, the program's and the document's own. Condition: the numbers are an int's.
-/
import Derived.Test.YtgajdkelpaaadaaWithin
import Derived.Test.YtgajdkelpaaadaaStc
namespace Go.Proofs.Ytgajdkelpaaadaa
open Go.RowKit
set_option linter.unusedVariables false
set_option maxRecDepth 100000

/-- the number is an int's -/
def In64 (x : Int) : Prop := -9223372036854775808 ≤ x ∧ x ≤ 9223372036854775807
theorem in64_of_wf {n : Int} (h : (Lit.int .i64 n).wf = true) : In64 n := by
  simpa [Lit.wf, IntKind.min, IntKind.max, IntKind.signed, IntKind.bits, In64] using h
def plusM (a b : Int) : Int × Int := if a < 0 ∨ b < 0 then (0, 1) else if 9223372036854775807 < a + b then (0, 3) else (a + b, 0)
def timesM (a b : Int) : Int × Int := if a < 0 ∨ b < 0 then (0, 1) else if 9223372036854775807 < a * b then (0, 3) else (a * b, 0)
def ceilM (a b : Int) : Int × Int := if a < 0 ∨ b < 1 then (0, 1) else (if 0 < a % b then a / b + 1 else a / b, 0)
/-- two ints as a call's answer -/
def two (p : Int × Int) : Value := .tuple #[.int .i64 p.1, .int .i64 p.2]
theorem ret_two {p q : Int × Int} (h : p = q) : Ending.returned (two p) = .returned (two q) := by rw [h]

theorem over_iff (a b : Int) (hb : 0 < b) : 9223372036854775807 / b < a ↔ 9223372036854775807 < a * b := by
  rw [Int.ediv_lt_iff_lt_mul hb]
theorem tdiv_pos (a b : Int) (ha : 0 ≤ a) : a.tdiv b = a / b := Int.tdiv_eq_ediv_of_nonneg ha
theorem tmod_pos (a b : Int) (ha : 0 ≤ a) : a.tmod b = a % b := Int.tmod_eq_emod_of_nonneg ha
theorem div_le (a b : Int) (ha : 0 ≤ a) (hb : 0 < b) : 0 ≤ a / b ∧ a / b ≤ a := ⟨Int.ediv_nonneg ha (by omega), Int.ediv_le_self _ ha⟩


set_option maxHeartbeats 400000 in
theorem sums_times (a b : Int) (w : World) (ha : In64 a) (hb : In64 b) : Calls Try.prog 46 #[.int .i64 a, .int .i64 b] w fun e w' => e = .returned (two (timesM a b)) ∧ w = w' := by
  obtain ⟨a1, a2⟩ := ha
  obtain ⟨b1, b2⟩ := hb
  unfold timesM
  by_cases h1 : a < 0
  · have d1 : decide (a < 0) = true := by simpa using h1
    rw [if_pos (.inl h1)]
    go_enter Try.func46, Try.ntmps46
    go_wp2
    go_ret2
    exact ⟨rfl, rfl⟩
  · have d1 : decide (a < 0) = false := by simpa using h1
    by_cases h2 : b < 0
    · have d2 : decide (b < 0) = true := by simpa using h2
      rw [if_pos (.inr h2)]
      go_enter Try.func46, Try.ntmps46
      go_wp2
      go_ret2
      exact ⟨rfl, rfl⟩
    · have d2 : decide (b < 0) = false := by simpa using h2
      rw [if_neg (by omega)]
      have hp := Int.mul_nonneg (show 0 ≤ a by omega) (show 0 ≤ b by omega)
      by_cases h4 : 0 < b
      · have d4 : decide (b > 0) = true := by simpa using h4
        have hz : (b == 0) = false := by simp; omega
        have hq := tdiv_pos 9223372036854775807 b (by omega)
        obtain ⟨q1, q2⟩ := div_le 9223372036854775807 b (by omega) h4
        have ho := over_iff a b h4
        by_cases h3 : 9223372036854775807 < a * b
        · rw [if_pos h3]
          have h5 := ho.2 h3
          clear ho
          generalize 9223372036854775807 / b = q at hq q1 q2 h5
          go_enter Try.func46, Try.ntmps46
          go_wp2
          go_ret2
          exact ⟨rfl, rfl⟩
        · rw [if_neg h3]
          have h5 : ¬ 9223372036854775807 / b < a := fun h => h3 (ho.1 h)
          clear ho
          generalize 9223372036854775807 / b = q at hq q1 q2 h5
          go_enter Try.func46, Try.ntmps46
          go_wp2
          go_ret2
          exact ⟨rfl, rfl⟩
      · have d4 : decide (b > 0) = false := by simpa using h4
        obtain rfl : b = 0 := by omega
        rw [if_neg (by omega)]
        go_enter Try.func46, Try.ntmps46
        go_wp2
        go_ret2
        exact ⟨rfl, rfl⟩

set_option maxHeartbeats 400000 in
theorem ref_times (a b : Int) (w : World) (ha : In64 a) (hb : In64 b) : Calls Try.prog 43 #[.int .i64 a, .int .i64 b] w fun e w' => e = .returned (two (timesM a b)) ∧ w = w' := by
  obtain ⟨a1, a2⟩ := ha
  obtain ⟨b1, b2⟩ := hb
  unfold timesM
  by_cases h1 : a < 0
  · have d1 : decide (a < 0) = true := by simpa using h1
    rw [if_pos (.inl h1)]
    go_enter Try.func43, Try.ntmps43
    go_wp2
    go_ret2
    exact ⟨rfl, rfl⟩
  · have d1 : decide (a < 0) = false := by simpa using h1
    by_cases h2 : b < 0
    · have d2 : decide (b < 0) = true := by simpa using h2
      rw [if_pos (.inr h2)]
      go_enter Try.func43, Try.ntmps43
      go_wp2
      go_ret2
      exact ⟨rfl, rfl⟩
    · have d2 : decide (b < 0) = false := by simpa using h2
      rw [if_neg (by omega)]
      have hp := Int.mul_nonneg (show 0 ≤ a by omega) (show 0 ≤ b by omega)
      by_cases h4 : 0 < b
      · have d4 : decide (b > 0) = true := by simpa using h4
        have hz : (b == 0) = false := by simp; omega
        have hq := tdiv_pos 9223372036854775807 b (by omega)
        obtain ⟨q1, q2⟩ := div_le 9223372036854775807 b (by omega) h4
        have ho := over_iff a b h4
        by_cases h3 : 9223372036854775807 < a * b
        · rw [if_pos h3]
          have h5 := ho.2 h3
          clear ho
          generalize 9223372036854775807 / b = q at hq q1 q2 h5
          go_enter Try.func43, Try.ntmps43
          go_wp2
          go_ret2
          exact ⟨rfl, rfl⟩
        · rw [if_neg h3]
          have h5 : ¬ 9223372036854775807 / b < a := fun h => h3 (ho.1 h)
          clear ho
          generalize 9223372036854775807 / b = q at hq q1 q2 h5
          go_enter Try.func43, Try.ntmps43
          go_wp2
          go_ret2
          exact ⟨rfl, rfl⟩
      · have d4 : decide (b > 0) = false := by simpa using h4
        obtain rfl : b = 0 := by omega
        rw [if_neg (by omega)]
        go_enter Try.func43, Try.ntmps43
        go_wp2
        go_ret2
        exact ⟨rfl, rfl⟩

end Go.Proofs.Ytgajdkelpaaadaa
