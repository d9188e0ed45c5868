/-
  AcctRuns: chapter 15's runs; it answers true. No condition.
-/
import Derived.Test.YtgajdkelpaaadaaSom15
namespace Go.Proofs.Ytgajdkelpaaadaa
open Go.RowKit
set_option linter.unusedVariables false
set_option maxRecDepth 100000

theorem opens_at {g : Nat} {B B' : Bal} {n i q : Int} {b : Bool} {w : World} (hB : Blk w g 53 B.lc) (hO : B.Ok) (h1 : opB B n i q = b) (h2 : opM B n i q = B') : Calls Try.prog 17 #[.pointer (some ⟨g, 0, none⟩), .int .i64 n, .int .i64 i, .int .i64 q] w fun e w' => e = .returned (.bool b) ∧ Blk w' g 53 B'.lc ∧ Keep (· = g) w w' := by
  rw [← h1, ← h2]
  exact opens_any g B hO n i q w hB
theorem trades_at {g : Nat} {B B' : Bal} {n i s q : Int} {b : Bool} {w : World} (hB : Blk w g 53 B.lc) (hO : B.Ok) (h1 : trB B n i s q = b) (h2 : trM B n i s q = B') : Calls Try.prog 18 #[.pointer (some ⟨g, 0, none⟩), .int .i64 n, .int .i64 i, .int .i64 s, .int .i64 q] w fun e w' => e = .returned (.bool b) ∧ Blk w' g 53 B'.lc ∧ Keep (· = g) w w' := by
  rw [← h1, ← h2]
  exact trades_any g B hO n i s q w hB
theorem all_at {g : Nat} {B : Bal} {n V : Int} {w : World} (hB : Blk w g 53 B.lc) (hO : B.Ok) (h : B.all n = V) : Gives 22 #[.pointer (some ⟨g, 0, none⟩), .int .i64 n] w (.eq (.int .i64 V)) := by
  rw [← h]
  exact openAll_any g B hO n w hB
theorem pos_at {g : Nat} {B : Bal} {n i V : Int} {w : World} (hB : Blk w g 53 B.lc) (h : B.pAt n i = V) : Gives 41 #[.pointer (some ⟨g, 0, none⟩), .int .i64 n, .int .i64 i] w (.eq (.int .i64 V)) := by
  rw [← h]
  exact pos_any g B n i w hB
theorem openAt_at {g : Nat} {B : Bal} {n i V : Int} {w : World} (hB : Blk w g 53 B.lc) (h : B.oAt n i = V) : Gives 40 #[.pointer (some ⟨g, 0, none⟩), .int .i64 n, .int .i64 i] w (.eq (.int .i64 V)) := by
  rw [← h]
  exact openAt_any g B n i w hB
/-- what a call of Opens or of Trades keeps, beside a block of the call's own -/
theorem kept_own {w w1 w2 : World} {g : Nat} (k : Kept w w1) (hg : w.heap.size ≤ g) (h : Keep (· = g) w1 w2) : Kept w w2 := k.trans' h (by omega)
def run1 : Bal := opM zeroB 1 2 5
def run2 : Bal := opM run1 1 3 4
def run3 : Bal := trM run2 1 2 2 3
theorem run_1 : opB zeroB 1 2 5 = true := by decide +kernel
theorem run_2 : opB run1 1 3 4 = true := by decide +kernel
theorem run_3 : opB run2 1 2 (-6) = false := by decide +kernel
theorem run_4 : run2.all 1 = 9 := by decide +kernel
theorem run_5 : trB run2 1 2 2 3 = true := by decide +kernel
theorem run_6 : run3.pAt 1 2 = -3 := by decide +kernel
end Go.Proofs.Ytgajdkelpaaadaa
