/-
  Chapter 3's runs, as a contract of jobberlaw3.MacRuns: it answers true and turns no block. No condition but the tables' contents.
-/
import Derived.Test.YthadjcgebnlpiaaDoorMacNew
import Derived.Lib.SlBytesConst
namespace Go.Proofs.YthadjcgebnlpiaaDoor
open Go.RowKit
set_option linter.unusedVariables false

theorem eq_run1 : ∀ w : World, (Op.equalIn 10000 24 (.agg (cells8 (hmac key1 hi1)).toArray) (.agg #[.int .u8 176, .int .u8 52, .int .u8 76, .int .u8 97, .int .u8 216, .int .u8 219, .int .u8 56, .int .u8 83, .int .u8 92, .int .u8 168, .int .u8 175, .int .u8 206, .int .u8 175, .int .u8 11, .int .u8 241, .int .u8 43, .int .u8 136, .int .u8 29, .int .u8 194, .int .u8 0, .int .u8 201, .int .u8 131, .int .u8 61, .int .u8 167, .int .u8 38, .int .u8 233, .int .u8 55, .int .u8 108, .int .u8 46, .int .u8 50, .int .u8 207, .int .u8 247])).run Tryd.prog w = .ok true w := fun w => by
  have h := run_arr8 24 32 Tryd.underlying24 (hmac key1 hi1) tag1 (hmac_length _ _) rfl w
  rw [decide_eq_true run1] at h
  exact h
theorem eq_run2 : ∀ w : World, (Op.equalIn 10000 24 (.agg (cells8 (hmac key2 hi2)).toArray) (.agg #[.int .u8 91, .int .u8 220, .int .u8 193, .int .u8 70, .int .u8 191, .int .u8 96, .int .u8 117, .int .u8 78, .int .u8 106, .int .u8 4, .int .u8 36, .int .u8 38, .int .u8 8, .int .u8 149, .int .u8 117, .int .u8 199, .int .u8 90, .int .u8 0, .int .u8 63, .int .u8 8, .int .u8 157, .int .u8 39, .int .u8 57, .int .u8 131, .int .u8 157, .int .u8 236, .int .u8 88, .int .u8 185, .int .u8 100, .int .u8 236, .int .u8 56, .int .u8 67])).run Tryd.prog w = .ok true w := fun w => by
  have h := run_arr8 24 32 Tryd.underlying24 (hmac key2 hi2) tag2 (hmac_length _ _) rfl w
  rw [decide_eq_true run2] at h
  exact h

/-- a constant's bytes, laid anew -/
theorem bytes_marked (w : World) (xs : List UInt8) (fr : Nat × Nat) (c : Nat) (hc : xs.length ≤ c) (hm : c ≤ 1000000) : Bytes (w.alloc (.cells (cells8 xs).toArray 5 fr)) (.slice (some ⟨w.heap.size, 0, none⟩) xs.length c) xs :=
  ⟨_, _, c, rfl, rfl, r8_marked w xs _ fr, hc, by unfold maxLen; omega, fun h => by cases h⟩

set_option maxRecDepth 100000 in
set_option maxHeartbeats 800000 in
theorem macRuns_any (w : World) (hG : Glob w) : Calls Tryd.prog 3 #[] w fun e w' => e = .returned (.bool true) ∧ Kept w w' := by
  have kc := fun (w : World) (C : Array Value) (n c : Nat) => Lib.run_convert_bytes_const (P := Tryd.prog) w 22 5 C n c Tryd.underlying22 Tryd.underlying5
  have kc2 : ∀ (w : World) (X : Obj) (C : Array Value) (n c : Nat), (convert 22 22 (.slice (some ⟨w.heap.size + 1, 0, none⟩) n c)).run Tryd.prog ((w.alloc X).alloc (.cells C 5)) = .ok (.slice (some ⟨w.heap.size + 1, 0, none⟩) n c) ((w.alloc X).alloc (.cells C 5 (C.size, C.size + 1))) := fun w X C n c => by
    have h := Lib.run_convert_bytes_const (P := Tryd.prog) (w.alloc X) 22 5 C n c Tryd.underlying22 Tryd.underlying5
    rw [show (w.alloc X).heap.size = w.heap.size + 1 by simp] at h
    exact h
  have hq1 := eq_run1
  have hq2 := eq_run2
  obtain ⟨S1, hS1⟩ : ∃ S, S = hmac key1 hi1 := ⟨_, rfl⟩
  obtain ⟨S2, hS2⟩ : ∃ S, S = hmac key2 hi2 := ⟨_, rfl⟩
  rw [← hS1] at hq1
  rw [← hS2] at hq2
  have HS1 : Hid (∀ S, S = hmac key1 hi1 → S = S1) := fun S h => h.trans hS1.symm
  have HS2 : Hid (∀ S, S = hmac key2 hi2 → S = S2) := fun S h => h.trans hS2.symm
  clear hS1 hS2
  go_enter Tryd.func3, Tryd.ntmps3
  go_wp2_with fail
  have hk1 : Kept w ((w.alloc (.cells (cells8 key1).toArray 5 (0, 0))).alloc (.cells (cells8 hi1).toArray 5 (8, 9))) := Keep.alloc (Keep.alloc (Keep.refl _ w) _) _
  have b1 := (bytes_marked w key1 (0, 0) 20 (by decide) (by omega)).kept ((Keep.refl _ (w.alloc (.cells (cells8 key1).toArray 5 (0, 0)))).alloc (.cells (cells8 hi1).toArray 5 (8, 9)))
  have b2 := bytes_marked (w.alloc (.cells (cells8 key1).toArray 5 (0, 0))) hi1 (8, 9) 8 (by decide) (by omega)
  rw [show (w.alloc (.cells (cells8 key1).toArray 5 (0, 0))).heap.size = w.heap.size + 1 by simp] at b2
  refine (tagf_any (.slice (some ⟨w.heap.size, 0, none⟩) 20 20) (.slice (some ⟨w.heap.size + 1, 0, none⟩) 8 8) key1 hi1 _ (hG.kept hk1) b1 b2 (by decide) (by decide)).mono ?_
  rintro e w1 ⟨rfl, hk1'⟩
  rw [HS1.out _ rfl]
  have hkw1 : Kept w w1 := hk1.trans hk1'
  have hG1 := hG.kept hkw1
  clear hk1 b1 b2 hk1' HS1 hG
  go_wp2_with fail
  have hk2 : Kept w1 ((w1.alloc (.cells (cells8 key2).toArray 5 (4, 5))).alloc (.cells (cells8 hi2).toArray 5 (28, 29))) := Keep.alloc (Keep.alloc (Keep.refl _ w1) _) _
  have b1 := (bytes_marked w1 key2 (4, 5) 4 (by decide) (by omega)).kept ((Keep.refl _ (w1.alloc (.cells (cells8 key2).toArray 5 (4, 5)))).alloc (.cells (cells8 hi2).toArray 5 (28, 29)))
  have b2 := bytes_marked (w1.alloc (.cells (cells8 key2).toArray 5 (4, 5))) hi2 (28, 29) 28 (by decide) (by omega)
  rw [show (w1.alloc (.cells (cells8 key2).toArray 5 (4, 5))).heap.size = w1.heap.size + 1 by simp] at b2
  refine (tagf_any (.slice (some ⟨w1.heap.size, 0, none⟩) 4 4) (.slice (some ⟨w1.heap.size + 1, 0, none⟩) 28 28) key2 hi2 _ (hG1.kept hk2) b1 b2 (by decide) (by decide)).mono ?_
  rintro e w2 ⟨rfl, hk2'⟩
  rw [HS2.out _ rfl]
  have hkw2 : Kept w w2 := (hkw1.trans hk2).trans hk2'
  clear hk2 b1 b2 hk2' HS2 hG1 hkw1
  go_wp2
  go_ret
  exact ⟨rfl, hkw2⟩
end Go.Proofs.YthadjcgebnlpiaaDoor
