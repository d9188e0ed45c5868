/-
  The contract of jobberbook.Same at bytes: the answer is whether the two lists are the same. No condition but that lengths fit an int.
-/
import Derived.Test.YtliepgmnlhfaiaaLib
namespace Go.Proofs.Ytliepgmnlhfaiaa
set_option maxRecDepth 100000
open Go.RowKit

theorem take_eq_succ {xs ys : List UInt8} {k : Nat} (hk : k < xs.length) (hk' : k < ys.length) (h : xs.take k = ys.take k) (he : xs[k] = ys[k]) : xs.take (k + 1) = ys.take (k + 1) := by
  rw [List.take_succ_eq_append_getElem hk, List.take_succ_eq_append_getElem hk', h, he]

end Go.Proofs.Ytliepgmnlhfaiaa
