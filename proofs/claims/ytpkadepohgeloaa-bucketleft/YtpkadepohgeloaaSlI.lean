/-
  What is known of the type of slices of ints. No condition.
-/
import Derived.Test.YtpkadepohgeloaaSegOp
namespace Go.Proofs.Ytpkadepohgeloaa
open Go.RowKit
set_option linter.unusedVariables false
set_option maxRecDepth 100000
theorem slI : SlT 27 3 1 8 := ⟨Try.underlying27, by kernel_rfl, ⟨.int .i64 0, by kernel_rfl, rfl, by intro u hu; simp [Value.cells] at hu; subst hu; rfl⟩, by omega⟩
end Go.Proofs.Ytpkadepohgeloaa
