/-
  Chapter 1's runs, as a contract of jobberlaw1.WireRuns: it answers true and turns no block. No condition.
-/
import Derived.Test.YtojdhhlcildodaaSame
import Derived.Test.YtojdhhlcildodaaWireT
namespace Go.Proofs.Ytojdhhlcildodaa
open Go.RowKit
set_option linter.unusedVariables false

theorem r8_new (w : World) (xs : List UInt8) (t : TypeId) : R8 (w.alloc (.cells (cells8 xs).toArray t)) (some ⟨w.heap.size, 0, none⟩) xs := by
  intro k x hx
  refine ⟨_, rfl, ?_⟩
  rw [add_lit, (Blk.new w t (cells8 xs)).cell]
  simp [cells8, hx]

set_option maxHeartbeats 800000 in
theorem wireRuns_any (w : World) : Calls Try.prog 3 #[] w fun e w' => e = .returned (.bool true) ∧ Kept w w' := by
  go_enter Try.func3, Try.ntmps3
  go_wp2_with fail
  refine (read_any _ 2 _ [2, 97] _ (r8_new w [2, 97] _) (by omega) rfl).mono ?_
  rintro e w1 ⟨g, b, rfl, hg, hb, hrd, hk⟩
  have hk1 : Kept w w1 := Kept.trans ((Keep.refl _ w).alloc _) hk
  clear hk
  go_wp2_with fail
  refine (rtext_any g b _ _ _ hrd ⟨by simp, by simp⟩).mono ?_
  rintro e w2 ⟨rfl, hrd2, hk⟩
  have e1 : RS.text ⟨[2, 97], 0, false⟩ 9 = (⟨[2, 97], 0, true⟩, []) := by kernel_rfl
  rw [e1] at hrd2
  rw [e1]
  have hk2 : Kept w w2 := hk1.trans' hk (by simp at hg; omega)
  clear hk hrd hk1
  go_wp2_with fail
  refine (u32_any none 0 _ [] _ _ (R8.nil _ _) (by omega) rfl (by omega) (by omega)).mono ?_
  rintro e w3 ⟨g3, d3, rfl, hg3, hrow3, hk⟩
  have hk3 := hk2.trans hk
  have hrd3 := hrd2.kept hk
  clear hk hrd2 hk2
  go_wp2_with fail
  refine (same_is _ _ 4 4 _ _ _ [0, 0, 1, 2] true _ ?_ (hrow3.kept ((Keep.refl _ _).alloc _)).r8 (r8_new w3 [0, 0, 1, 2] _) (by unfold maxLen; omega) rfl rfl).mono ?_
  · kernel_rfl
  rintro e w4 ⟨rfl, k4, rfl⟩
  have hk4 : Kept w ((w3.alloc (.cells (cells8 [0, 0, 1, 2]).toArray 5)).drewN k4) := (Keep.alloc hk3 _).drewN _
  have hrd4 : Rd ((w3.alloc (.cells (cells8 [0, 0, 1, 2]).toArray 5)).drewN k4) g b ⟨[2, 97], 0, true⟩ := hrd3.kept (((Keep.refl _ _).alloc _).drewN _)
  clear hk3 hrd3 hrow3
  go_wp2_with fail
  refine (text_any none 0 _ [] _ _ (R8.nil _ _) (by omega) rfl (by decide)).mono ?_
  rintro e w5 ⟨g5, d5, rfl, hg5, hrow5, hk⟩
  have hk5 := hk4.trans hk
  have hrd5 := hrd4.kept hk
  clear hk4 hrd4 hk
  go_wp2_with fail
  refine (same_is _ _ 3 3 _ _ _ [2, 97, 98] true _ ?_ (hrow5.kept ((Keep.refl _ _).alloc _)).r8 (r8_new w5 [2, 97, 98] _) (by unfold maxLen; omega) rfl rfl).mono ?_
  · kernel_rfl
  rintro e w6 ⟨rfl, k6, rfl⟩
  have hk6 : Kept w ((w5.alloc (.cells (cells8 [2, 97, 98]).toArray 5)).drewN k6) := (Keep.alloc hk5 _).drewN _
  have hrd6 : Rd ((w5.alloc (.cells (cells8 [2, 97, 98]).toArray 5)).drewN k6) g b ⟨[2, 97], 0, true⟩ := hrd5.kept (((Keep.refl _ _).alloc _).drewN _)
  clear hk5 hrd5 hrow5
  go_wp2_with fail
  refine (bad_any g b _ _ hrd6).mono ?_
  rintro e w7 ⟨rfl, rfl⟩
  go_wp2_with fail
  refine (at_any g b _ _ hrd6).mono ?_
  rintro e w8 ⟨rfl, rfl⟩
  go_wp2
  go_ret
  exact ⟨rfl, hk6⟩
end Go.Proofs.Ytojdhhlcildodaa
