/-
  The walk of jobberlaw2.ShaTells. No condition but the tables' contents.
-/
import Derived.Test.YtgkepkakddbomaaDoorTwins2
import Derived.Test.YtgkepkakddbomaaDoorRefSha
import Derived.Test.YtgkepkakddbomaaDoorRoomy
namespace Go.Proofs.YtgkepkakddbomaaDoor
open Go.RowKit
set_option linter.unusedVariables false

set_option maxRecDepth 100000 in
set_option maxHeartbeats 1600000 in
theorem shaTells_any (v1 : Value) (xs0 : List UInt8) (w : World) (hG : Glob w) (h1 : Bytes w v1 xs0) :
    Calls Tryd.prog 4 #[v1] w fun e w' => e = .returned (.bool true) ∧ Kept w w' := by
  obtain ⟨A, n1, c, rfl, hl1, hx1, hnc, hc, hA⟩ := h1
  have hcm := hc
  unfold maxLen at hc
  obtain ⟨m, hm⟩ : ∃ m, m = min n1 300 := ⟨_, rfl⟩
  have hm1 : m ≤ 300 := by omega
  have hm2 : m ≤ n1 := by omega
  have hmin : (if (300 : Int) < (n1 : Int) then (300 : Int) else (n1 : Int)) = (m : Int) := by split <;> omega
  have hl : Hid ((xs0.take m).length = m) := by show _ = _; rw [List.length_take, hl1.out]; omega
  have hx := hx1.take2 m
  generalize xs0.take m = xs at hl hx
  have hq := eq_same (shaOf xs) (shaOf_length _)
  have hxl : xs.length ≤ 900000 := by rw [hl.out]; omega
  have HX := Lib.hid hx
  have HA := Lib.hid hA
  clear hm hl1 hx1 hx hA
  go_enter Tryd.func4, Tryd.ntmps4
  go_wp2_with fail
  refine (roomy_any A m c xs 7 7 _ rfl HX.out (by omega) hl).mono ?_
  rintro e w1 ⟨gf, rfl, hgf, hrow, hk1⟩
  have hG1 := hG.kept hk1
  have hlt := hrow.lt
  have hv : ∀ g, w1.heap.size ≤ g → SliceIs w1 g (.slice (some ⟨gf, 0, none⟩) m (m + 80)) xs := fun g hg => ⟨_, m, m + 80, rfl, hl, R8.pad2 hrow, by omega, by unfold maxLen; omega, fun ad h _ => by
    injection h with h
    subst h
    show gf ≠ g
    omega⟩
  go_wp2_with fail
  refine (sum_any _ xs w1 hG1 hv hxl).mono ?_
  rintro e w2 ⟨rfl, hk2⟩
  have hkw2 := hk1.trans hk2
  have hrow2 := hrow.kept hk2
  clear hk1 hk2 hrow hv hG1
  go_wp2_with fail
  refine (refSha_any A m c xs w2 (HX.out.kept hkw2) HA.out hl (by omega)).mono ?_
  rintro e w3 ⟨rfl, hk3⟩
  have hkw3 := hkw2.trans hk3
  have hrow3 := hrow2.kept hk3
  clear hk3 hrow2 hkw2
  go_wp2_with fail
  refine (intact_any A gf m c xs 7 7 _ rfl hrow3 (HX.out.kept hkw3) (by omega) hl).mono ?_
  rintro e w4 ⟨rfl, k4, rfl⟩
  have hkw4 := hkw3.drewN k4
  have hG4 := hG.kept hkw4
  clear hkw3 hrow3
  go_wp2_with fail
  refine (shaRuns_any _ hG4).mono ?_
  rintro e w5 ⟨rfl, hk5⟩
  have hkz := Kept.trans hkw4 hk5
  go_wp2
  go_ret
  exact ⟨rfl, hkz⟩
end Go.Proofs.YtgkepkakddbomaaDoor
