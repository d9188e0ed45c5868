/-
  The walk of jobberlaw3.MacTells. No condition but the tables' contents.
-/
import Derived.Test.YthadjcgebnlpiaaDoorRuns3
import Derived.Test.YthadjcgebnlpiaaDoorRefMac
import Derived.Test.YthadjcgebnlpiaaDoorRoomy
namespace Go.Proofs.YthadjcgebnlpiaaDoor
open Go.RowKit
set_option linter.unusedVariables false

/-- the front of a row with room behind it -/
theorem pad_bytes {w : World} {g m : Nat} {xs : List UInt8} {mk : UInt8} (hrow : Row8 w g (m + 80) (pad xs mk)) (hl : Hid (xs.length = m)) (hm : m ≤ 100000) : Bytes w (.slice (some ⟨g, 0, none⟩) m (m + 80)) xs :=
  ⟨_, m, m + 80, rfl, hl, R8.pad2 hrow, by omega, by unfold maxLen; omega, fun h => by cases h⟩

set_option maxRecDepth 100000 in
set_option maxHeartbeats 1600000 in
theorem macTells_any (v1 v2 : Value) (xs0 ys0 : List UInt8) (w : World) (hG : Glob w) (h1 : Bytes w v1 xs0) (h2 : Bytes w v2 ys0) :
    Calls Tryd.prog 4 #[v1, v2] w fun e w' => e = .returned (.bool true) ∧ Kept w w' := by
  obtain ⟨A, n1, c, rfl, hl1, hx1, hnc, hc, hA⟩ := h1
  obtain ⟨B, n2, d, rfl, hl2, hx2, hnd, hd, hB⟩ := h2
  have hcm := hc
  have hdm := hd
  unfold maxLen at hc hd
  obtain ⟨m, hm⟩ : ∃ m, m = min n1 140 := ⟨_, rfl⟩
  obtain ⟨k, hk⟩ : ∃ k, k = min n2 140 := ⟨_, rfl⟩
  have hm1 : m ≤ 140 := by omega
  have hm2 : m ≤ n1 := by omega
  have hk1 : k ≤ 140 := by omega
  have hk2 : k ≤ n2 := by omega
  have hmin : (if (140 : Int) < (n1 : Int) then (140 : Int) else (n1 : Int)) = (m : Int) := by split <;> omega
  have kmin : (if (140 : Int) < (n2 : Int) then (140 : Int) else (n2 : Int)) = (k : Int) := by split <;> omega
  have hl : Hid ((xs0.take m).length = m) := by show _ = _; rw [List.length_take, hl1.out]; omega
  have hl' : Hid ((ys0.take k).length = k) := by show _ = _; rw [List.length_take, hl2.out]; omega
  have hx := hx1.take2 m
  have hy := hx2.take2 k
  generalize xs0.take m = xs at hl hx
  generalize ys0.take k = ys at hl' hy
  have hxl : xs.length ≤ 800000 := by rw [hl.out]; omega
  have hyl : ys.length ≤ 800000 := by rw [hl'.out]; omega
  have hq := eq_same (hmac xs ys) (hmac_length _ _)
  have HX := Lib.hid hx
  have HY := Lib.hid hy
  have HA := Lib.hid hA
  have HB := Lib.hid hB
  clear hm hk hl1 hl2 hx1 hx2 hx hy hA hB
  go_enter Tryd.func4, Tryd.ntmps4
  go_wp2_with fail
  go_quiet (fail)
  have hG0 : Glob (w.drewN nq) := hG.kept (kept_drewN w nq)
  have hk0 : Kept w (w.drewN nq) := kept_drewN w nq
  generalize w.drewN nq = w0 at hG0 hk0 ⊢
  clear hmin kmin
  go_wp2_with fail
  refine (roomy_any A m c xs 7 7 _ rfl (HX.out.kept hk0) (by omega) hl).mono ?_
  rintro e w1 ⟨gf, rfl, hgf, hrow, hk1⟩
  have hkw1 := hk0.trans hk1
  have hltf := hrow.lt
  go_wp2_with fail
  refine (roomy_any B k d ys 7 7 _ rfl (HY.out.kept hkw1) (by omega) hl').mono ?_
  rintro e w2 ⟨gm, rfl, hgm, hrow', hk2⟩
  have hkw2 := hkw1.trans hk2
  have hrow2 := hrow.kept hk2
  have hG2 := hG.kept hkw2
  have hltm := hrow'.lt
  clear hk1 hk2 hkw1 hG0 hk0 hrow
  go_wp2_with fail
  refine (macnew_any _ xs w2 hG2 (pad_bytes hrow2 hl (by omega)) (by omega)).mono ?_
  rintro e w3 ⟨g, rfl, hm3, hk3⟩
  have hkw3 := hkw2.trans hk3
  have hG3 := hG2.kept hk3
  have hrow3 := hrow2.kept hk3
  have hrow3' := hrow'.kept hk3
  have hgle := hm3.le
  have hsz2 := hkw2.size
  clear hk3 hkw2 hG2 hrow2 hrow'
  go_wp2_with fail
  refine (tag_any g _ xs _ ys w3 hG3 hm3 (pad_bytes hrow3' hl' (by omega)) (fun ad n' c' e hne => ⟨Nat.zero_le _, by injection e with e; injection e with e; subst e; show gm ≠ g; omega⟩) (by omega) hyl).mono ?_
  rintro e w4 ⟨rfl, hm4, hk4⟩
  have hkw4 : Kept w w4 := Kept.trans' hkw3 hk4 (by omega)
  have hrow4 := hrow3.keep hk4 (by omega)
  have hrow4' := hrow3'.keep hk4 (by omega)
  clear hm3 hm4 hk4 hkw3 hG3 hrow3 hrow3'
  go_wp2_with fail
  refine (refMac_any A B m k c d xs ys w4 (HX.out.kept hkw4) HA.out hl (by omega) (HY.out.kept hkw4) HB.out hl' (by omega)).mono ?_
  rintro e w5 ⟨rfl, hk5⟩
  have hkw5 := hkw4.trans hk5
  have hrow5 := hrow4.kept hk5
  have hrow5' := hrow4'.kept hk5
  clear hk5 hkw4 hrow4 hrow4'
  go_wp2_with fail
  refine (intact_any A gf m c xs 7 7 _ rfl hrow5 (HX.out.kept hkw5) (by omega) hl).mono ?_
  rintro e w6 ⟨rfl, k6, rfl⟩
  have hkw6 := hkw5.drewN k6
  have hrow6' := hrow5'.keep (kept_drewN w5 k6) (fun h => h)
  generalize w5.drewN k6 = w6 at hkw6 hrow6' ⊢
  clear hkw5 hrow5 hrow5'
  go_wp2_with fail
  refine (intact_any B gm k d ys 7 7 _ rfl hrow6' (HY.out.kept hkw6) (by omega) hl').mono ?_
  rintro e w7 ⟨rfl, k7, rfl⟩
  have hkw7 := hkw6.drewN k7
  have hG7 := hG.kept hkw7
  clear hkw6 hrow6'
  go_wp2_with fail
  refine (macRuns_any _ hG7).mono ?_
  rintro e w8 ⟨rfl, hk8⟩
  have hkz := Kept.trans hkw7 hk8
  go_wp2
  go_ret
  exact ⟨rfl, hkz⟩
end Go.Proofs.YthadjcgebnlpiaaDoor
