/-
  Is a number from lo to hi: the contract of the document's in. No condition.
-/
import Derived.Test.YtgajdkelpaaadaaStc
import Derived.Deep.DeepCutAuto
namespace Go.Proofs.Ytgajdkelpaaadaa
open Go.RowKit
set_option linter.unusedVariables false
set_option maxRecDepth 100000

/-- a number is from lo to hi -/
def rng (x lo hi : Int) : Bool := decide (lo ≤ x) && decide (x ≤ hi)

set_option maxHeartbeats 400000 in
theorem in_any (n lo hi : Int) (w : World) : Gives 42 #[.int .i64 n, .int .i64 lo, .int .i64 hi] w (.eq (.bool (rng n lo hi))) := by
  refine gives_eq ?_
  unfold rng
  by_cases h : lo ≤ n
  · have h1 : decide (lo ≤ n) = true := by simpa using h
    have h2 : decide (n ≥ lo) = true := by simpa using h
    rw [h1]
    go_enter Try.func42, Try.ntmps42
    go_wp2
    go_ret
    exact ⟨ret_bool (by simp), Kept.refl w⟩
  · have h1 : decide (lo ≤ n) = false := by simpa using h
    have h2 : decide (n ≥ lo) = false := by simpa using h
    rw [h1]
    go_enter Try.func42, Try.ntmps42
    go_wp2
    go_ret
    exact ⟨ret_bool (by simp), Kept.refl w⟩

end Go.Proofs.Ytgajdkelpaaadaa
