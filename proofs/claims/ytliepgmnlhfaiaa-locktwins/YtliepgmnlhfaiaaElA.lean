/-
  The element of a slice of ints at its address. No condition.
-/
import Derived.Test.YtliepgmnlhfaiaaInts
import Derived.Test.YtliepgmnlhfaiaaWi
namespace Go.Proofs.Ytliepgmnlhfaiaa
open Go.RowKit
set_option linter.unusedVariables false
set_option maxRecDepth 100000

def ElAt (w : World) (ad : Addr) (k : Nat) (x : Int) : Prop := w.cell? (ad.add (k * 1)) = some (.int .i64 x)
theorem ElAt.go {w u : World} {ad : Addr} {k : Nat} {x : Int} (h : ElAt w ad k x) (hk : Kept w u) : ElAt u ad k x := hk.cell h
theorem ElAt.at_ {w u : World} {ad : Addr} {k : Nat} {x : Int} (h : ElAt w ad k x) (hk : Kept w u) : u.cell? (ad.add (k * 1)) = some (.int .i64 x) := hk.cell h
theorem elat {w : World} {ad : Addr} {k : Nat} {x : Int} (h : w.cell? (ad.add k) = some (.int .i64 x)) : ElAt w ad k x := by unfold ElAt; rw [Nat.mul_one]; exact h
/-- the element of a slice of ints of the call's own -/
theorem owni_el {w : World} {base n c g : Nat} {X : List Int} {k : Nat} {x : Int} (h : OwnI w base (some ⟨g, 0, none⟩) n c X) (hk : k < n) (hx : X[k]? = some x) : w.cell? ⟨g, 0 + k * 1, none⟩ = some (.int .i64 x) := by
  rw [Nat.zero_add, Nat.mul_one, OwnG.cell h k (by omega)]
  simp [i64s, hx]
end Go.Proofs.Ytliepgmnlhfaiaa
