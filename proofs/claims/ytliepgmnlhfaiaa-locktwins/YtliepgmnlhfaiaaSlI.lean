/-
  What is known of the type of slices of ints. No condition.
-/
import Derived.Test.YtliepgmnlhfaiaaSegOp
namespace Go.Proofs.Ytliepgmnlhfaiaa
open Go.RowKit
set_option linter.unusedVariables false
set_option maxRecDepth 100000
theorem slI : SlT 40 3 1 8 := ⟨Try.underlying40, by kernel_rfl, ⟨.int .i64 0, by kernel_rfl, rfl, by intro u hu; simp [Value.cells] at hu; subst hu; rfl⟩, by omega⟩
end Go.Proofs.Ytliepgmnlhfaiaa
