/-
  The element of a slice of ints at its address. No condition.
-/
import Derived.Test.YtliepgmnlhfaiaaInts
import Derived.Test.YtliepgmnlhfaiaaWi
namespace Go.Proofs.Ytliepgmnlhfaiaa
open Go.RowKit
set_option linter.unusedVariables false
set_option maxRecDepth 100000

def ElAt (w : World) (ad : Addr) (k : Nat) (x : Int) : Prop := w.cell? (ad.add (k * 1)) = some (.int .i64 x)
theorem ElAt.go {w u : World} {ad : Addr} {k : Nat} {x : Int} (h : ElAt w ad k x) (hk : Kept w u) : ElAt u ad k x := hk.cell h
theorem ElAt.at_ {w u : World} {ad : Addr} {k : Nat} {x : Int} (h : ElAt w ad k x) (hk : Kept w u) : u.cell? (ad.add (k * 1)) = some (.int .i64 x) := hk.cell h
theorem elat {w : World} {ad : Addr} {k : Nat} {x : Int} (h : w.cell? (ad.add k) = some (.int .i64 x)) : ElAt w ad k x := by unfold ElAt; rw [Nat.mul_one]; exact h
end Go.Proofs.Ytliepgmnlhfaiaa
