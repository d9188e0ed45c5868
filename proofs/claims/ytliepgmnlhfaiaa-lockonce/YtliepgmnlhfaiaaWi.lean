/-
  A number brought into bounds (jobberbook.Within). Condition: the bounds are in their order, and not too great.
-/
import Derived.Test.YtliepgmnlhfaiaaWithin
import Derived.Test.YtliepgmnlhfaiaaStc
namespace Go.Proofs.Ytliepgmnlhfaiaa
open Go.RowKit
set_option linter.unusedVariables false
set_option maxRecDepth 100000

/-- a number brought into lo .. hi -/
def wi (n lo hi : Int) : Int := lo + n % (hi - lo + 1)
theorem wi_in (n lo hi : Int) (h : lo ≤ hi) : lo ≤ wi n lo hi ∧ wi n lo hi ≤ hi := by
  unfold wi
  have p := Int.emod_nonneg n (show hi - lo + 1 ≠ 0 by omega)
  have q := Int.emod_lt_of_pos n (show 0 < hi - lo + 1 by omega)
  omega
theorem within_is (n lo hi : Int) (w : World) (h0 : 0 ≤ lo) (h1 : lo ≤ hi) (h2 : hi ≤ 1099511627776) : Gives 14 #[.int .i64 n, .int .i64 lo, .int .i64 hi] w (.eq (.int .i64 (wi n lo hi))) :=
  gives_eq ((within_any n lo hi w h0 h1 h2).mono fun e w' ⟨he, hw⟩ => ⟨he, by subst hw; exact Kept.refl _⟩)
theorem half_in (t : Int) (h0 : 0 ≤ t) (h1 : t ≤ 3) : 0 ≤ t.tdiv 2 ∧ t.tdiv 2 ≤ 3 := by
  have : t = 0 ∨ t = 1 ∨ t = 2 ∨ t = 3 := by omega
  rcases this with rfl | rfl | rfl | rfl <;> decide
theorem wf_small (x : Int) (h0 : 0 ≤ x) (h1 : x ≤ 100) : (Lit.int .i64 x).wf = true := by
  unfold Lit.wf
  have e1 : IntKind.i64.min = -9223372036854775808 := by decide
  have e2 : IntKind.i64.max = 9223372036854775807 := by decide
  simp [e1, e2]
  omega
end Go.Proofs.Ytliepgmnlhfaiaa
