/-
  Sums, products, quotients as mathematics; the contracts of Plus, Times, Ceil, the program's and the document's own. Condition: the numbers are an int's.
-/
import Derived.Test.YtliepgmnlhfaiaaWithin
import Derived.Test.YtliepgmnlhfaiaaStc
namespace Go.Proofs.Ytliepgmnlhfaiaa
open Go.RowKit
set_option linter.unusedVariables false
set_option maxRecDepth 100000

/-- the number is an int's -/
def In64 (x : Int) : Prop := -9223372036854775808 ≤ x ∧ x ≤ 9223372036854775807
theorem in64_of_wf {n : Int} (h : (Lit.int .i64 n).wf = true) : In64 n := by
  simpa [Lit.wf, IntKind.min, IntKind.max, IntKind.signed, IntKind.bits, In64] using h
def plusM (a b : Int) : Int × Int := if a < 0 ∨ b < 0 then (0, 1) else if 9223372036854775807 < a + b then (0, 3) else (a + b, 0)
def timesM (a b : Int) : Int × Int := if a < 0 ∨ b < 0 then (0, 1) else if 9223372036854775807 < a * b then (0, 3) else (a * b, 0)
def ceilM (a b : Int) : Int × Int := if a < 0 ∨ b < 1 then (0, 1) else (if 0 < a % b then a / b + 1 else a / b, 0)
/-- two ints as a call's answer -/
def two (p : Int × Int) : Value := .tuple #[.int .i64 p.1, .int .i64 p.2]
theorem ret_two {p q : Int × Int} (h : p = q) : Ending.returned (two p) = .returned (two q) := by rw [h]

theorem over_iff (a b : Int) (hb : 0 < b) : 9223372036854775807 / b < a ↔ 9223372036854775807 < a * b := by
  rw [Int.ediv_lt_iff_lt_mul hb]
theorem tdiv_pos (a b : Int) (ha : 0 ≤ a) : a.tdiv b = a / b := Int.tdiv_eq_ediv_of_nonneg ha
theorem tmod_pos (a b : Int) (ha : 0 ≤ a) : a.tmod b = a % b := Int.tmod_eq_emod_of_nonneg ha
theorem div_le (a b : Int) (ha : 0 ≤ a) (hb : 0 < b) : 0 ≤ a / b ∧ a / b ≤ a := ⟨Int.ediv_nonneg ha (by omega), Int.ediv_le_self _ ha⟩


end Go.Proofs.Ytliepgmnlhfaiaa
