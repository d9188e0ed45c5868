/-
  Contracts of package msg's Right, Put, Get. Conditions: a tag has 32 bytes; lengths.
-/
import Derived.Test.YtdmeiffofmagjaaMsgE
import Derived.Test.YtdmeiffofmagjaaMsgW
import Derived.Test.YtdmeiffofmagjaaMsgRd
namespace Go.Proofs.Ytdmeiffofmagjaa
open Go.RowKit
set_option linter.unusedVariables false

set_option maxRecDepth 100000 in
set_option maxHeartbeats 3200000 in
theorem right_k (c : Cmd) (w : World) (HT : Hid (c.tag.length = 32)) (hK : Hid (isKindB c.k = false)) : Gives 13 #[c.v] w (.eq (.bool (false))) := by
  unfold Gives Cmd.v
  have HB0 : Hid (Blk (w.alloc (.cells c.cells.toArray 28)) w.heap.size 28 c.cells) := Blk.new w _ _
  have kw0 : Kept w (w.alloc (.cells c.cells.toArray 28)) := (Keep.refl _ w).alloc _
  go_enter Try.func13, Try.ntmps13
  go_upto_region 1 with fail
  generalize w.alloc (.cells c.cells.toArray 28) = w0 at HB0 kw0 ⊢
  generalize w.heap.size = g at HB0 ⊢
  refine wp_sched (fun u => Kept w0 u) [(0, 0), (1, 0), (2, 1), (3, 0), (4, 0), (5, 0), (6, 0), (7, 0), (8, 0), (9, 0), (10, 0), (11, 0), (12, 0), (13, 0), (14, 0), (15, 0)] (by kernel_rfl) (by kernel_rfl) (Keep.drew (Keep.refl _ w0)) ?_
  refine s_val (o := ⟨some 3, _, _, _, _, _⟩) (.pointer (some ⟨g, 0, none⟩)) rfl (by kernel_rfl) (fun u hu => exec_fld 28 0 0 (.tmp 1) g rfl (by kernel_rfl) (by kernel_rfl)) ?_
  simp only [Act.put, List.setIfInBounds_toArray, List.set_cons_succ, List.set_cons_zero]
  refine s_val (o := ⟨some 4, _, _, _, _, _⟩) (.int .i64 c.k) rfl (by kernel_rfl) (fun u hu => exec_loadi 3 Try.underlying3 (.tmp 3) ⟨g, 0, none⟩ (.int .i64 c.k) rfl (by kernel_rfl) ((HB0.out.kept hu).fld 0 _ rfl)) ?_
  simp only [Act.put, List.setIfInBounds_toArray, List.set_cons_succ, List.set_cons_zero]
  refine s_call (o := ⟨some 5, _, _, _, _, _⟩) 26 #[.int .i64 c.k] rfl (by kernel_rfl) (exec_call 26 _ [.tmp 4] _ _ Try.func26 (by kernel_rfl) (by kernel_rfl) rfl (by kernel_rfl)) ?_
  refine (isKind_any c.k w0.drew).mono ?_
  rintro e w1 ⟨v, rfl, hv, k1⟩
  obtain rfl : v = .bool false := hv.trans (by rw [hK.out])
  have k1' : Kept w0 w1 := Kept.trans (Keep.drew (Keep.refl _ w0)) k1
  refine ⟨_, rfl, k1', ?_⟩
  clear hv k1
  simp only [Act.put, List.setIfInBounds_toArray, List.set_cons_succ, List.set_cons_zero]
  refine s_val (o := ⟨some 6, _, _, _, _, _⟩) (.bool false) rfl (by kernel_rfl) (fun u hu => exec_move (.tmp 5) (.bool false) rfl (by kernel_rfl)) ?_
  simp only [Act.put, List.setIfInBounds_toArray, List.set_cons_succ, List.set_cons_zero]
  refine s_skip (o := ⟨some 7, _, _, _, _, _⟩) rfl (by kernel_rfl) ?_
  simp only [Act.put, List.setIfInBounds_toArray, List.set_cons_succ, List.set_cons_zero]
  refine s_skip (o := ⟨some 8, _, _, _, _, _⟩) rfl (by kernel_rfl) ?_
  simp only [Act.put, List.setIfInBounds_toArray, List.set_cons_succ, List.set_cons_zero]
  refine s_val (o := ⟨some 9, _, _, _, _, _⟩) (.bool false) rfl (by kernel_rfl) (fun u hu => exec_pickF (.tmp 6) (.tmp 8) (.const (.bool false)) (.bool false) rfl (by kernel_rfl) (by kernel_rfl)) ?_
  simp only [Act.put, List.setIfInBounds_toArray, List.set_cons_succ, List.set_cons_zero]
  refine s_val (o := ⟨some 10, _, _, _, _, _⟩) (.bool false) rfl (by kernel_rfl) (fun u hu => exec_move (.tmp 9) (.bool false) rfl (by kernel_rfl)) ?_
  simp only [Act.put, List.setIfInBounds_toArray, List.set_cons_succ, List.set_cons_zero]
  refine s_skip (o := ⟨some 11, _, _, _, _, _⟩) rfl (by kernel_rfl) ?_
  simp only [Act.put, List.setIfInBounds_toArray, List.set_cons_succ, List.set_cons_zero]
  refine s_skip (o := ⟨some 12, _, _, _, _, _⟩) rfl (by kernel_rfl) ?_
  simp only [Act.put, List.setIfInBounds_toArray, List.set_cons_succ, List.set_cons_zero]
  refine s_skip (o := ⟨some 13, _, _, _, _, _⟩) rfl (by kernel_rfl) ?_
  simp only [Act.put, List.setIfInBounds_toArray, List.set_cons_succ, List.set_cons_zero]
  refine s_skip (o := ⟨some 14, _, _, _, _, _⟩) rfl (by kernel_rfl) ?_
  simp only [Act.put, List.setIfInBounds_toArray, List.set_cons_succ, List.set_cons_zero]
  refine s_skip (o := ⟨some 15, _, _, _, _, _⟩) rfl (by kernel_rfl) ?_
  simp only [Act.put, List.setIfInBounds_toArray, List.set_cons_succ, List.set_cons_zero]
  refine s_skip (o := ⟨some 16, _, _, _, _, _⟩) rfl (by kernel_rfl) ?_
  simp only [Act.put, List.setIfInBounds_toArray, List.set_cons_succ, List.set_cons_zero]
  refine s_val (o := ⟨some 17, _, _, _, _, _⟩) (.bool false) rfl (by kernel_rfl) (fun u hu => exec_pickF (.tmp 10) (.tmp 16) (.const (.bool false)) (.bool false) rfl (by kernel_rfl) (by kernel_rfl)) ?_
  simp only [Act.put, List.setIfInBounds_toArray, List.set_cons_succ, List.set_cons_zero]
  refine s_val (o := ⟨some 2, _, _, _, _, _⟩) (.bool false) rfl (by kernel_rfl) (fun u hu => exec_assign (.tmp 17) (.bool false) rfl (by kernel_rfl)) ?_
  simp only [Act.put, List.setIfInBounds_toArray, List.set_cons_succ, List.set_cons_zero]
  refine s_done ?_
  have kw := kw0.trans k1'
  go_wp2
  go_ret
  exact ⟨_, rfl, rfl, kw⟩

set_option maxRecDepth 100000 in
set_option maxHeartbeats 3200000 in
theorem right_r (c : Cmd) (w : World) (HT : Hid (c.tag.length = 32)) (hK : Hid (isKindB c.k = true)) (hI : Hid (c.inR = false)) : Gives 13 #[c.v] w (.eq (.bool (false))) := by
  unfold Gives Cmd.v
  have HB0 : Hid (Blk (w.alloc (.cells c.cells.toArray 28)) w.heap.size 28 c.cells) := Blk.new w _ _
  have kw0 : Kept w (w.alloc (.cells c.cells.toArray 28)) := (Keep.refl _ w).alloc _
  go_enter Try.func13, Try.ntmps13
  go_upto_region 1 with fail
  generalize w.alloc (.cells c.cells.toArray 28) = w0 at HB0 kw0 ⊢
  generalize w.heap.size = g at HB0 ⊢
  refine wp_sched (fun u => Kept w0 u) [(0, 0), (1, 0), (2, 1), (3, 0), (4, 0), (5, 1), (6, 0), (7, 0), (8, 0), (9, 0), (10, 0), (11, 0), (12, 0), (13, 0), (14, 0), (15, 0)] (by kernel_rfl) (by kernel_rfl) (Keep.drew (Keep.refl _ w0)) ?_
  refine s_val (o := ⟨some 3, _, _, _, _, _⟩) (.pointer (some ⟨g, 0, none⟩)) rfl (by kernel_rfl) (fun u hu => exec_fld 28 0 0 (.tmp 1) g rfl (by kernel_rfl) (by kernel_rfl)) ?_
  simp only [Act.put, List.setIfInBounds_toArray, List.set_cons_succ, List.set_cons_zero]
  refine s_val (o := ⟨some 4, _, _, _, _, _⟩) (.int .i64 c.k) rfl (by kernel_rfl) (fun u hu => exec_loadi 3 Try.underlying3 (.tmp 3) ⟨g, 0, none⟩ (.int .i64 c.k) rfl (by kernel_rfl) ((HB0.out.kept hu).fld 0 _ rfl)) ?_
  simp only [Act.put, List.setIfInBounds_toArray, List.set_cons_succ, List.set_cons_zero]
  refine s_call (o := ⟨some 5, _, _, _, _, _⟩) 26 #[.int .i64 c.k] rfl (by kernel_rfl) (exec_call 26 _ [.tmp 4] _ _ Try.func26 (by kernel_rfl) (by kernel_rfl) rfl (by kernel_rfl)) ?_
  refine (isKind_any c.k w0.drew).mono ?_
  rintro e w1 ⟨v, rfl, hv, k1⟩
  obtain rfl : v = .bool true := hv.trans (by rw [hK.out])
  have k1' : Kept w0 w1 := Kept.trans (Keep.drew (Keep.refl _ w0)) k1
  refine ⟨_, rfl, k1', ?_⟩
  clear hv k1
  simp only [Act.put, List.setIfInBounds_toArray, List.set_cons_succ, List.set_cons_zero]
  refine s_val (o := ⟨some 6, _, _, _, _, _⟩) (.bool true) rfl (by kernel_rfl) (fun u hu => exec_move (.tmp 5) (.bool true) rfl (by kernel_rfl)) ?_
  simp only [Act.put, List.setIfInBounds_toArray, List.set_cons_succ, List.set_cons_zero]
  refine s_val (o := ⟨some 7, _, _, _, _, _⟩) (c.v) rfl (by kernel_rfl) (fun u hu => exec_loadS 28 (.tmp 1) g 28 c.cells _ rfl (by kernel_rfl) (HB0.out.kept hu) Try.underlying28 (by rw [Cmd.cells_len c HT.out]; exact cmd_size)) ?_
  simp only [Act.put, List.setIfInBounds_toArray, List.set_cons_succ, List.set_cons_zero]
  refine s_call (o := ⟨some 8, _, _, _, _, _⟩) 27 #[c.v] rfl (by kernel_rfl) (exec_call 27 _ [.tmp 7] _ _ Try.func27 (by kernel_rfl) (by kernel_rfl) rfl (by kernel_rfl)) ?_
  refine (inRange_any c w1 HT).mono ?_
  rintro e w2 ⟨v, rfl, hv, k2⟩
  obtain rfl : v = .bool false := hv.trans (by rw [hI.out])
  have k2' := k1'.trans k2
  refine ⟨_, rfl, k2', ?_⟩
  clear hv k2
  simp only [Act.put, List.setIfInBounds_toArray, List.set_cons_succ, List.set_cons_zero]
  refine s_val (o := ⟨some 9, _, _, _, _, _⟩) (.bool false) rfl (by kernel_rfl) (fun u hu => exec_pick (.tmp 6) (.tmp 8) (.const (.bool false)) (.bool false) rfl (by kernel_rfl) (by kernel_rfl)) ?_
  simp only [Act.put, List.setIfInBounds_toArray, List.set_cons_succ, List.set_cons_zero]
  refine s_val (o := ⟨some 10, _, _, _, _, _⟩) (.bool false) rfl (by kernel_rfl) (fun u hu => exec_move (.tmp 9) (.bool false) rfl (by kernel_rfl)) ?_
  simp only [Act.put, List.setIfInBounds_toArray, List.set_cons_succ, List.set_cons_zero]
  refine s_skip (o := ⟨some 11, _, _, _, _, _⟩) rfl (by kernel_rfl) ?_
  simp only [Act.put, List.setIfInBounds_toArray, List.set_cons_succ, List.set_cons_zero]
  refine s_skip (o := ⟨some 12, _, _, _, _, _⟩) rfl (by kernel_rfl) ?_
  simp only [Act.put, List.setIfInBounds_toArray, List.set_cons_succ, List.set_cons_zero]
  refine s_skip (o := ⟨some 13, _, _, _, _, _⟩) rfl (by kernel_rfl) ?_
  simp only [Act.put, List.setIfInBounds_toArray, List.set_cons_succ, List.set_cons_zero]
  refine s_skip (o := ⟨some 14, _, _, _, _, _⟩) rfl (by kernel_rfl) ?_
  simp only [Act.put, List.setIfInBounds_toArray, List.set_cons_succ, List.set_cons_zero]
  refine s_skip (o := ⟨some 15, _, _, _, _, _⟩) rfl (by kernel_rfl) ?_
  simp only [Act.put, List.setIfInBounds_toArray, List.set_cons_succ, List.set_cons_zero]
  refine s_skip (o := ⟨some 16, _, _, _, _, _⟩) rfl (by kernel_rfl) ?_
  simp only [Act.put, List.setIfInBounds_toArray, List.set_cons_succ, List.set_cons_zero]
  refine s_val (o := ⟨some 17, _, _, _, _, _⟩) (.bool false) rfl (by kernel_rfl) (fun u hu => exec_pickF (.tmp 10) (.tmp 16) (.const (.bool false)) (.bool false) rfl (by kernel_rfl) (by kernel_rfl)) ?_
  simp only [Act.put, List.setIfInBounds_toArray, List.set_cons_succ, List.set_cons_zero]
  refine s_val (o := ⟨some 2, _, _, _, _, _⟩) (.bool false) rfl (by kernel_rfl) (fun u hu => exec_assign (.tmp 17) (.bool false) rfl (by kernel_rfl)) ?_
  simp only [Act.put, List.setIfInBounds_toArray, List.set_cons_succ, List.set_cons_zero]
  refine s_done ?_
  have kw := kw0.trans k2'
  go_wp2
  go_ret
  exact ⟨_, rfl, rfl, kw⟩

set_option maxRecDepth 100000 in
set_option maxHeartbeats 3200000 in
theorem right_b (c : Cmd) (w : World) (HT : Hid (c.tag.length = 32)) (hK : Hid (isKindB c.k = true)) (hI : Hid (c.inR = true)) : Gives 13 #[c.v] w (.eq (.bool (decide (c = c.bare)))) := by
  obtain ⟨b, hb⟩ : ∃ b, decide (c = c.bare) = b := ⟨_, rfl⟩
  rw [hb]
  have Hb : Hid (decide (c = (RS.new c.enc).cmd) = b) := by show _ = _; rw [enc_back c hK.out hI.out HT.out]; exact hb
  have HL : Hid (c.enc.length ≤ 1000000) := by show _ ≤ _; rw [enc_len c HT.out]; have := plan_le c.k; omega
  clear hb
  unfold Gives Cmd.v
  have HB0 : Hid (Blk (w.alloc (.cells c.cells.toArray 28)) w.heap.size 28 c.cells) := Blk.new w _ _
  have kw0 : Kept w (w.alloc (.cells c.cells.toArray 28)) := (Keep.refl _ w).alloc _
  go_enter Try.func13, Try.ntmps13
  go_upto_region 1 with fail
  generalize w.alloc (.cells c.cells.toArray 28) = w0 at HB0 kw0 ⊢
  generalize w.heap.size = g at HB0 ⊢
  refine wp_sched (fun u => Kept w0 u) [(0, 0), (1, 0), (2, 1), (3, 0), (4, 0), (5, 1), (6, 0), (7, 0), (8, 0), (9, 0), (10, 1), (11, 1), (12, 1), (13, 0), (14, 0), (15, 0)] (by kernel_rfl) (by kernel_rfl) (Keep.drew (Keep.refl _ w0)) ?_
  refine s_val (o := ⟨some 3, _, _, _, _, _⟩) (.pointer (some ⟨g, 0, none⟩)) rfl (by kernel_rfl) (fun u hu => exec_fld 28 0 0 (.tmp 1) g rfl (by kernel_rfl) (by kernel_rfl)) ?_
  simp only [Act.put, List.setIfInBounds_toArray, List.set_cons_succ, List.set_cons_zero]
  refine s_val (o := ⟨some 4, _, _, _, _, _⟩) (.int .i64 c.k) rfl (by kernel_rfl) (fun u hu => exec_loadi 3 Try.underlying3 (.tmp 3) ⟨g, 0, none⟩ (.int .i64 c.k) rfl (by kernel_rfl) ((HB0.out.kept hu).fld 0 _ rfl)) ?_
  simp only [Act.put, List.setIfInBounds_toArray, List.set_cons_succ, List.set_cons_zero]
  refine s_call (o := ⟨some 5, _, _, _, _, _⟩) 26 #[.int .i64 c.k] rfl (by kernel_rfl) (exec_call 26 _ [.tmp 4] _ _ Try.func26 (by kernel_rfl) (by kernel_rfl) rfl (by kernel_rfl)) ?_
  refine (isKind_any c.k w0.drew).mono ?_
  rintro e w1 ⟨v, rfl, hv, k1⟩
  obtain rfl : v = .bool true := hv.trans (by rw [hK.out])
  have k1' : Kept w0 w1 := Kept.trans (Keep.drew (Keep.refl _ w0)) k1
  refine ⟨_, rfl, k1', ?_⟩
  clear hv k1
  simp only [Act.put, List.setIfInBounds_toArray, List.set_cons_succ, List.set_cons_zero]
  refine s_val (o := ⟨some 6, _, _, _, _, _⟩) (.bool true) rfl (by kernel_rfl) (fun u hu => exec_move (.tmp 5) (.bool true) rfl (by kernel_rfl)) ?_
  simp only [Act.put, List.setIfInBounds_toArray, List.set_cons_succ, List.set_cons_zero]
  refine s_val (o := ⟨some 7, _, _, _, _, _⟩) (c.v) rfl (by kernel_rfl) (fun u hu => exec_loadS 28 (.tmp 1) g 28 c.cells _ rfl (by kernel_rfl) (HB0.out.kept hu) Try.underlying28 (by rw [Cmd.cells_len c HT.out]; exact cmd_size)) ?_
  simp only [Act.put, List.setIfInBounds_toArray, List.set_cons_succ, List.set_cons_zero]
  refine s_call (o := ⟨some 8, _, _, _, _, _⟩) 27 #[c.v] rfl (by kernel_rfl) (exec_call 27 _ [.tmp 7] _ _ Try.func27 (by kernel_rfl) (by kernel_rfl) rfl (by kernel_rfl)) ?_
  refine (inRange_any c w1 HT).mono ?_
  rintro e w2 ⟨v, rfl, hv, k2⟩
  obtain rfl : v = .bool true := hv.trans (by rw [hI.out])
  have k2' := k1'.trans k2
  refine ⟨_, rfl, k2', ?_⟩
  clear hv k2
  simp only [Act.put, List.setIfInBounds_toArray, List.set_cons_succ, List.set_cons_zero]
  refine s_val (o := ⟨some 9, _, _, _, _, _⟩) (.bool true) rfl (by kernel_rfl) (fun u hu => exec_pick (.tmp 6) (.tmp 8) (.const (.bool false)) (.bool true) rfl (by kernel_rfl) (by kernel_rfl)) ?_
  simp only [Act.put, List.setIfInBounds_toArray, List.set_cons_succ, List.set_cons_zero]
  refine s_val (o := ⟨some 10, _, _, _, _, _⟩) (.bool true) rfl (by kernel_rfl) (fun u hu => exec_move (.tmp 9) (.bool true) rfl (by kernel_rfl)) ?_
  simp only [Act.put, List.setIfInBounds_toArray, List.set_cons_succ, List.set_cons_zero]
  refine s_val (o := ⟨some 11, _, _, _, _, _⟩) (c.v) rfl (by kernel_rfl) (fun u hu => exec_loadS 28 (.tmp 1) g 28 c.cells _ rfl (by kernel_rfl) (HB0.out.kept hu) Try.underlying28 (by rw [Cmd.cells_len c HT.out]; exact cmd_size)) ?_
  simp only [Act.put, List.setIfInBounds_toArray, List.set_cons_succ, List.set_cons_zero]
  refine s_val (o := ⟨some 12, _, _, _, _, _⟩) (c.v) rfl (by kernel_rfl) (fun u hu => exec_loadS 28 (.tmp 1) g 28 c.cells _ rfl (by kernel_rfl) (HB0.out.kept hu) Try.underlying28 (by rw [Cmd.cells_len c HT.out]; exact cmd_size)) ?_
  simp only [Act.put, List.setIfInBounds_toArray, List.set_cons_succ, List.set_cons_zero]
  refine s_call (o := ⟨some 13, _, _, _, _, _⟩) 22 #[c.v] rfl (by kernel_rfl) (exec_call 22 _ [.tmp 12] _ _ Try.func22 (by kernel_rfl) (by kernel_rfl) rfl (by kernel_rfl)) ?_
  refine (write_any c w2 HT).mono ?_
  rintro e w3 ⟨v, rfl, hv, k3⟩
  obtain ⟨A3, n3, c3, rfl, hA3⟩ := hv
  have k3' := k2'.trans k3
  refine ⟨_, rfl, k3', ?_⟩
  have hn3 : n3 ≤ 1000000 := by rw [← hA3.len]; exact HL.out
  simp only [Act.put, List.setIfInBounds_toArray, List.set_cons_succ, List.set_cons_zero]
  refine s_call (o := ⟨some 14, _, _, _, _, _⟩) 29 #[.slice A3 n3 c3] rfl (by kernel_rfl) (exec_call 29 _ [.tmp 13] _ _ Try.func29 (by kernel_rfl) (by kernel_rfl) rfl (by kernel_rfl)) ?_
  refine (read_any A3 n3 c3 c.enc w3 hA3.r8 hn3 hA3.len).mono ?_
  rintro e w4 ⟨g4, b4, rfl, hg4, hb4, hr4, k4⟩
  have k4' := k3'.trans k4
  refine ⟨_, rfl, k4', ?_⟩
  simp only [Act.put, List.setIfInBounds_toArray, List.set_cons_succ, List.set_cons_zero]
  refine s_call (o := ⟨some 15, _, _, _, _, _⟩) 28 #[.pointer (some ⟨g4, 0, none⟩)] rfl (by kernel_rfl) (exec_call 28 _ [.tmp 14] _ _ Try.func28 (by kernel_rfl) (by kernel_rfl) rfl (by kernel_rfl)) ?_
  refine (readc_any g4 b4 (RS.new c.enc) w4 hr4 ⟨Nat.zero_le _, HL.out⟩).mono ?_
  rintro e w5 ⟨rfl, hr5, k5⟩
  have k5' : Kept w0 w5 := Kept.trans' k4' k5 (by have := k3'.size; omega)
  refine ⟨_, rfl, k5', ?_⟩
  simp only [Act.put, List.setIfInBounds_toArray, List.set_cons_succ, List.set_cons_zero]
  refine s_val (o := ⟨some 16, _, _, _, _, _⟩) (.bool b) rfl (by kernel_rfl) (fun u hu => exec_eqCmd (.tmp 11) (.tmp 15) _ c (RS.new c.enc).cmd b rfl (by kernel_rfl) (by kernel_rfl) HT.out (RS.cmd_tag _) Hb.out) ?_
  simp only [Act.put, List.setIfInBounds_toArray, List.set_cons_succ, List.set_cons_zero]
  refine s_val (o := ⟨some 17, _, _, _, _, _⟩) (.bool b) rfl (by kernel_rfl) (fun u hu => exec_pick (.tmp 10) (.tmp 16) (.const (.bool false)) (.bool b) rfl (by kernel_rfl) (by kernel_rfl)) ?_
  simp only [Act.put, List.setIfInBounds_toArray, List.set_cons_succ, List.set_cons_zero]
  refine s_val (o := ⟨some 2, _, _, _, _, _⟩) (.bool b) rfl (by kernel_rfl) (fun u hu => exec_assign (.tmp 17) (.bool b) rfl (by kernel_rfl)) ?_
  simp only [Act.put, List.setIfInBounds_toArray, List.set_cons_succ, List.set_cons_zero]
  refine s_done ?_
  have kw := kw0.trans k5'
  go_wp2
  go_ret
  exact ⟨_, rfl, rfl, kw⟩

theorem right_any (c : Cmd) (w : World) (HT : Hid (c.tag.length = 32)) : Gives 13 #[c.v] w (.eq (.bool c.right)) := by
  unfold Cmd.right
  cases hK : isKindB c.k with
  | false => exact right_k c w HT hK
  | true =>
    cases hI : c.inR with
    | false => exact right_r c w HT hK hI
    | true => exact right_b c w HT hK hI
theorem msgRight_is (c : Cmd) (b : Bool) (w : World) (HT : Hid (c.tag.length = 32)) (hb : c.right = b) : Gives 13 #[c.v] w (.eq (.bool b)) := by
  subst hb
  exact right_any c w HT

/-- what Put answers -/
def Cmd.putB (c : Cmd) : List UInt8 := if c.right = true then c.enc else []

set_option maxRecDepth 100000 in
set_option maxHeartbeats 1600000 in
theorem put_t (c : Cmd) (w : World) (HT : Hid (c.tag.length = 32)) (hR : Hid (c.right = true)) : Gives 11 #[c.v] w (.own w.heap.size c.enc) := by
  unfold Gives Cmd.v
  have HB0 : Hid (Blk (w.alloc (.cells c.cells.toArray 28)) w.heap.size 28 c.cells) := Blk.new w _ _
  have kw0 : Kept w (w.alloc (.cells c.cells.toArray 28)) := (Keep.refl _ w).alloc _
  go_enter Try.func11, Try.ntmps11
  go_upto_region 1 with fail
  generalize w.alloc (.cells c.cells.toArray 28) = w0 at HB0 kw0 ⊢
  generalize w.heap.size = g at HB0 ⊢
  refine wp_text 2 [.eq (c.v), .eq (.bool true)] rfl (by kernel_rfl) ?_ ?_
  · refine fsteps_cons 1 rfl (fun a u hE hD hk => f_val (o := ⟨some 3, _, _, _, _, _⟩) (c.v) rfl (wanted_none rfl _) (exec_loadS 28 (.tmp 1) (g) _ c.cells _ rfl (hE 1 (.pointer (some ⟨g, 0, none⟩)) (by kernel_rfl) (by kernel_rfl)) (HB0.out.kept hk) Try.underlying28 (by rw [Cmd.cells_len _ HT.out]; exact cmd_size)) rfl) ?_
    refine fsteps_cons 2 rfl (fun a u hE hD hk => f_call (o := ⟨some 4, _, _, _, _, _⟩) 13 #[c.v] rfl (wanted_none rfl _) (exec_call 13 _ [.tmp 3] _ [c.v] Try.func13 (by kernel_rfl) (by kernel_rfl) rfl (show [a.eval (.tmp 3)] = [c.v] from (by rw [show a.eval (.tmp 3) = c.v from (hD 0 3 (by kernel_rfl))] <;> rfl)) u) (msgRight_is c true u HT hR.out)) ?_
    exact fsteps_nil
  intro gv w1 hV k1
  rw [show dstsOf _ 2 = [3, 4] by kernel_rfl]
  simp only [List.foldl_cons, List.foldl_nil, List.setIfInBounds_toArray, List.set_cons_succ, List.set_cons_zero, List.drop_succ_cons, List.drop_zero]
  rw [show gv 4 = .bool true from hV 1 4 (by kernel_rfl)]
  clear hV
  have HB1 := Lib.hid (HB0.out.kept k1)
  have kw1 := kw0.trans k1
  clear k1 kw0
  go_upto_region 3 with fail
  have hs : w.heap.size ≤ w1.heap.size := kw1.size
  refine wp_text 2 [.eq (c.v), .own w.heap.size c.enc] rfl (by kernel_rfl) ?_ ?_
  · refine fsteps_cons 1 rfl (fun a u hE hD hk => f_val (o := ⟨some 6, _, _, _, _, _⟩) (c.v) rfl (wanted_none rfl _) (exec_loadS 28 (.tmp 1) (g) _ c.cells _ rfl (hE 1 (.pointer (some ⟨g, 0, none⟩)) (by kernel_rfl) (by kernel_rfl)) (HB1.out.kept hk) Try.underlying28 (by rw [Cmd.cells_len _ HT.out]; exact cmd_size)) rfl) ?_
    refine fsteps_cons 2 rfl (fun a u hE hD hk => f_call (o := ⟨some 7, _, _, _, _, _⟩) 22 #[c.v] rfl (wanted_none rfl _) (exec_call 22 _ [.tmp 6] _ [c.v] Try.func22 (by kernel_rfl) (by kernel_rfl) rfl (show [a.eval (.tmp 6)] = [c.v] from (by rw [show a.eval (.tmp 6) = c.v from (hD 0 6 (by kernel_rfl))] <;> rfl)) u) ((write_any c u HT).mono (fun e w' ⟨v, h1, h2, h3⟩ => ⟨v, h1, OwnV.low h2 (by have := hk.size; omega), h3⟩))) ?_
    exact fsteps_nil
  intro gv w2 hV k2
  rw [show dstsOf _ 2 = [6, 7] by kernel_rfl]
  simp only [List.foldl_cons, List.foldl_nil, List.setIfInBounds_toArray, List.set_cons_succ, List.set_cons_zero, List.drop_succ_cons, List.drop_zero]
  have hv7 : (.own w.heap.size c.enc : Kn).p (gv 7) w2 := hV 1 7 (by kernel_rfl)
  generalize gv 7 = v7 at hv7 ⊢
  clear hV
  have kw2 := kw1.trans k2
  go_wp2
  go_ret
  exact ⟨_, rfl, hv7, kw2⟩
set_option maxRecDepth 100000 in
set_option maxHeartbeats 1600000 in
theorem put_f (c : Cmd) (w : World) (HT : Hid (c.tag.length = 32)) (hR : Hid (c.right = false)) : Gives 11 #[c.v] w (.own w.heap.size []) := by
  unfold Gives Cmd.v
  have HB0 : Hid (Blk (w.alloc (.cells c.cells.toArray 28)) w.heap.size 28 c.cells) := Blk.new w _ _
  have kw0 : Kept w (w.alloc (.cells c.cells.toArray 28)) := (Keep.refl _ w).alloc _
  go_enter Try.func11, Try.ntmps11
  go_upto_region 1 with fail
  generalize w.alloc (.cells c.cells.toArray 28) = w0 at HB0 kw0 ⊢
  generalize w.heap.size = g at HB0 ⊢
  refine wp_text 2 [.eq (c.v), .eq (.bool false)] rfl (by kernel_rfl) ?_ ?_
  · refine fsteps_cons 1 rfl (fun a u hE hD hk => f_val (o := ⟨some 3, _, _, _, _, _⟩) (c.v) rfl (wanted_none rfl _) (exec_loadS 28 (.tmp 1) (g) _ c.cells _ rfl (hE 1 (.pointer (some ⟨g, 0, none⟩)) (by kernel_rfl) (by kernel_rfl)) (HB0.out.kept hk) Try.underlying28 (by rw [Cmd.cells_len _ HT.out]; exact cmd_size)) rfl) ?_
    refine fsteps_cons 2 rfl (fun a u hE hD hk => f_call (o := ⟨some 4, _, _, _, _, _⟩) 13 #[c.v] rfl (wanted_none rfl _) (exec_call 13 _ [.tmp 3] _ [c.v] Try.func13 (by kernel_rfl) (by kernel_rfl) rfl (show [a.eval (.tmp 3)] = [c.v] from (by rw [show a.eval (.tmp 3) = c.v from (hD 0 3 (by kernel_rfl))] <;> rfl)) u) (msgRight_is c false u HT hR.out)) ?_
    exact fsteps_nil
  intro gv w1 hV k1
  rw [show dstsOf _ 2 = [3, 4] by kernel_rfl]
  simp only [List.foldl_cons, List.foldl_nil, List.setIfInBounds_toArray, List.set_cons_succ, List.set_cons_zero, List.drop_succ_cons, List.drop_zero]
  rw [show gv 4 = .bool false from hV 1 4 (by kernel_rfl)]
  clear hV
  have kw1 := kw0.trans k1
  go_wp2
  go_ret
  exact ⟨_, rfl, OwnV.nil _ _, kw1⟩
theorem put_any (c : Cmd) (w : World) (HT : Hid (c.tag.length = 32)) : Gives 11 #[c.v] w (.own w.heap.size c.putB) := by
  unfold Cmd.putB
  by_cases h : c.right = true
  · rw [if_pos h]
    exact put_t c w HT h
  · rw [if_neg h]
    have h' : c.right = false := by simpa using h
    exact put_f c w HT h'

/-- a command and whether -/
theorem results_cmd {fn : Func} {p q : Tmp} (h : fn.results = #[.cell p 28, .tmp q]) (tmps : Array Value) (w : World) (g : Nat) (T : TypeId) (cs : List Value) (b : Bool) (hp : tmps.getD p undef = .pointer (some ⟨g, 0, none⟩)) (hq : tmps.getD q undef = .bool b) (hg : Blk w g T cs) (hl : cs.length = 46) :
    (results fn tmps).run Try.prog w = .ok (.tuple #[.agg cs.toArray, .bool b]) w := by
  have hp' : tmps[p]?.getD undef = .pointer (some ⟨g, 0, none⟩) := by simpa using hp
  have hq' : tmps[q]?.getD undef = .bool b := by simpa using hq
  have hr := run_loadVar_row (P := Try.prog) w g T 28 cs.toArray (0, 0) _ hg Try.underlying28 rfl (by simpa [hl] using cmd_size)
  simp [results, h, hp', hq', asAddr, hr]
def GotIn (w : World) (xs : List UInt8) (e : Ending) (w' : World) : Prop := e = .returned (.tuple #[(getB xs).1.v, .bool (getB xs).2]) ∧ Kept w w'
set_option maxRecDepth 100000 in
set_option maxHeartbeats 3200000 in
theorem get_f (v : Value) (xs : List UInt8) (w : World) (hv : Bytes w v xs) (hl : xs.length ≤ 1000) (hF : Hid ((RS.new xs).rest.fin = false)) : Calls Try.prog 18 #[v] w (GotIn w xs) := by
  obtain ⟨A, n, c, rfl, hn, hx, h1, h2, h3⟩ := hv
  have HX := Lib.hid hx
  have hn1 : n ≤ 1000000 := by rw [← hn.out]; omega
  have hok : Hid (RS.new xs).ok := ⟨Nat.zero_le _, by show xs.length ≤ _; omega⟩
  have HG : Hid (getB xs = (Cmd.z 0, false)) := by show _ = _; unfold getB; rw [hF.out]; rfl
  clear hx h1 h2 h3 hl
  go_enter Try.func18, Try.ntmps18
  go_upto_region 0 with fail
  refine wp_region_lit ?_
  refine l_alloc (o := ⟨some 2, _, _, _, _, _⟩) 28 (Cmd.z 0).cells rfl rfl cmd_zero ?_
  intro w0 b0 z0 k0
  simp only [Act.put, List.setIfInBounds_toArray, List.set_cons_succ, List.set_cons_zero]
  refine l_val (o := ⟨some 3, _, _, _, _, _⟩) (.bool false) rfl (exec_assign (.const (.bool false)) (.bool false) rfl (by kernel_rfl)) ?_
  simp only [Act.put, List.setIfInBounds_toArray, List.set_cons_succ, List.set_cons_zero]
  refine wpList_nil ?_
  obtain ⟨n0, hn0⟩ : ∃ n0, n0 = w.heap.size := ⟨_, rfl⟩
  rw [← hn0] at b0 ⊢
  have hs0 : Hid (w.heap.size ≤ n0) := by show _ ≤ _; omega
  have HX0 := Lib.hid (HX.out.kept k0)
  have B0 := Lib.hid b0
  clear hn0 b0 z0
  go_upto_region 1 with fail
  refine wp_region_lit ?_
  refine l_val (o := ⟨some 6, _, _, _, _, _⟩) (.slice A n c) rfl (exec_move (.tmp 0) (.slice A n c) rfl (by kernel_rfl)) ?_
  simp only [Act.put, List.setIfInBounds_toArray, List.set_cons_succ, List.set_cons_zero]
  refine l_call (o := ⟨some 7, _, _, _, _, _⟩) 29 #[.slice A n c] rfl (exec_call 29 _ [.tmp 6] _ _ Try.func29 (by kernel_rfl) (by kernel_rfl) rfl (by kernel_rfl) _) ?_
  refine (read_any A n c xs w0 HX0.out hn1 hn).mono ?_
  rintro e w1 ⟨g, b, rfl, hg, hb, hr1, k1⟩
  have B1 := Lib.hid (B0.out.kept k1)
  have kw1 := k0.trans k1
  have hgn : Hid (n0 < g) := by show _ < _; have := B0.out.lt; omega
  have hbn : Hid (n0 < b) := by show _ < _; have := B0.out.lt; omega
  have HR1 : Hid (Rd w1 g b (RS.new xs)) := hr1
  refine ⟨_, rfl, ?_⟩
  clear hr1 hg hb B0
  simp only [Act.put, List.setIfInBounds_toArray, List.set_cons_succ, List.set_cons_zero]
  refine l_val (o := ⟨some 4, _, _, _, _, _⟩) (.pointer (some ⟨g, 0, none⟩)) rfl (exec_assign (.tmp 7) (.pointer (some ⟨g, 0, none⟩)) rfl (by kernel_rfl)) ?_
  simp only [Act.put, List.setIfInBounds_toArray, List.set_cons_succ, List.set_cons_zero]
  refine wpList_nil ?_
  go_upto_region 2 with fail
  refine wp_region_lit ?_
  refine l_val (o := ⟨some 8, _, _, _, _, _⟩) (.pointer (some ⟨g, 0, none⟩)) rfl (exec_move (.tmp 4) (.pointer (some ⟨g, 0, none⟩)) rfl (by kernel_rfl)) ?_
  simp only [Act.put, List.setIfInBounds_toArray, List.set_cons_succ, List.set_cons_zero]
  refine l_call (o := ⟨some 9, _, _, _, _, _⟩) 28 #[.pointer (some ⟨g, 0, none⟩)] rfl (exec_call 28 _ [.tmp 8] _ _ Try.func28 (by kernel_rfl) (by kernel_rfl) rfl (by kernel_rfl) _) ?_
  refine (readc_any g b (RS.new xs) w1 HR1 hok).mono ?_
  rintro e w2 ⟨rfl, hr2, k2⟩
  have kw2 : Kept w w2 := Kept.trans' kw1 k2 (by have := hgn.out; have := hs0.out; omega)
  have B2 := Lib.hid (B1.out.keep k2 (by have := hgn.out; omega))
  refine ⟨_, rfl, ?_⟩
  simp only [Act.put, List.setIfInBounds_toArray, List.set_cons_succ, List.set_cons_zero]
  refine l_alloc (o := ⟨some 5, _, _, _, _, _⟩) 28 (Cmd.z 0).cells rfl rfl cmd_zero ?_
  intro w3 b3 z3 k3
  obtain ⟨gc, hgc⟩ : ∃ gc, gc = w2.heap.size := ⟨_, rfl⟩
  rw [← hgc] at b3 ⊢
  have hnc : Hid (n0 < gc) := by show _ < _; have := B2.out.lt; omega
  have hgg : Hid (g < gc ∧ b < gc) := by show _ ∧ _; have := hr2.lt; omega
  have kw3 := kw2.trans k3
  have B3 := Lib.hid (B2.out.kept k3)
  have hr3 := hr2.kept k3
  clear hgc
  simp only [Act.put, List.setIfInBounds_toArray, List.set_cons_succ, List.set_cons_zero]
  refine l_setS (o := ⟨none, _, _, _, _, _⟩) 28 gc 28 (Cmd.z 0).cells (RS.new xs).cmd.cells (.tmp 5) (.tmp 9) rfl rfl (by kernel_rfl) (by kernel_rfl) b3 (by rw [Cmd.cells_len _ (RS.cmd_tag _)]; exact cmd_size) (by rw [Cmd.cells_len _ (RS.cmd_tag _)]; rfl) (stc_one _ _) ?_
  intro w4 b4 k4 z4
  have kw4 : Kept w w4 := Kept.trans' kw3 k4 (by have := hnc.out; have := hs0.out; omega)
  have B4 := Lib.hid (B3.out.keep k4 (by have := hnc.out; omega))
  have HR4 := Lib.hid (hr3.keep k4 (by have := hgg.out; omega) (by have := hgg.out; omega))
  simp only [Act.put]
  refine wpList_nil ?_
  obtain ⟨d, hd⟩ : ∃ d, d = (RS.new xs).cmd := ⟨_, rfl⟩
  have HC4 : Hid (Blk w4 gc 28 d.cells) := by rw [hd]; exact b4
  have HTd : Hid (d.tag.length = 32) := by rw [hd]; exact RS.cmd_tag _
  have hro : (RS.new xs).rest.ok := RS.rest_ok hok.out
  have Hd := Lib.hid hd
  clear hd b4 k4 b3 hr3 hr2 k3 k2 kw1 kw2 kw3 B1 B2 B3 HR1 z4 z3
  go_upto_region 3 with fail
  refine wp_text 7 [.eq (.pointer (some ⟨g, 0, none⟩)), .eq (.bool false), .eq (.bool true), .eq (.bool true), .eq undef, .eq undef, .eq undef] rfl (by kernel_rfl) ?_ ?_
  · refine fsteps_cons 1 rfl (fun a u hE hD hk => f_val (o := ⟨some 10, _, _, _, _, _⟩) (.pointer (some ⟨g, 0, none⟩)) rfl (wanted_none rfl _) (exec_move (.tmp 4) (.pointer (some ⟨g, 0, none⟩)) rfl (hE 4 (.pointer (some ⟨g, 0, none⟩)) (by kernel_rfl) (by kernel_rfl))) rfl) ?_
    refine fsteps_cons 2 rfl (fun a u hE hD hk => f_call (o := ⟨some 11, _, _, _, _, _⟩) 33 #[.pointer (some ⟨g, 0, none⟩)] rfl (wanted_none rfl _) (exec_call 33 _ [.tmp 10] _ [.pointer (some ⟨g, 0, none⟩)] Try.func33 (by kernel_rfl) (by kernel_rfl) rfl (show [a.eval (.tmp 10)] = [.pointer (some ⟨g, 0, none⟩)] from (by rw [show a.eval (.tmp 10) = .pointer (some ⟨g, 0, none⟩) from (hD 0 10 (by kernel_rfl))] <;> rfl)) u) ((end_any g b (RS.new xs).rest u (HR4.out.kept hk) hro).mono (fun e w' ⟨h1, k, h2⟩ => ⟨_, h1, by rw [hF.out]; rfl, by rw [h2]; exact kept_drewN u k⟩))) ?_
    refine fsteps_cons 3 rfl (fun a u hE hD hk => f_val (o := ⟨some 12, _, _, _, _, _⟩) (.bool true) rfl (wanted_none rfl _) (exec_not _ (.tmp 11) false rfl (hD 1 11 (by kernel_rfl))) rfl) ?_
    refine fsteps_cons 4 rfl (fun a u hE hD hk => f_val (o := ⟨some 13, _, _, _, _, _⟩) (.bool true) rfl (wanted_none rfl _) (exec_move (.tmp 12) (.bool true) rfl (hD 2 12 (by kernel_rfl))) rfl) ?_
    refine fsteps_cons 5 rfl (fun a u hE hD hk => f_skip (o := ⟨some 14, _, _, _, _, _⟩) rfl (wanted_at (b := false) true rfl rfl (hD 3 13 (by kernel_rfl))) rfl) ?_
    refine fsteps_cons 6 rfl (fun a u hE hD hk => f_skip (o := ⟨some 15, _, _, _, _, _⟩) rfl (wanted_at (b := false) true rfl rfl (hD 3 13 (by kernel_rfl))) rfl) ?_
    refine fsteps_cons 7 rfl (fun a u hE hD hk => f_skip (o := ⟨some 16, _, _, _, _, _⟩) rfl (wanted_at (b := false) true rfl rfl (hD 3 13 (by kernel_rfl))) rfl) ?_
    exact fsteps_nil
  intro gv w5 hV k5
  rw [show dstsOf _ 7 = [10, 11, 12, 13, 14, 15, 16] by kernel_rfl]
  simp only [List.foldl_cons, List.foldl_nil, List.setIfInBounds_toArray, List.set_cons_succ, List.set_cons_zero, List.drop_succ_cons, List.drop_zero]
  rw [show gv 13 = .bool true from hV 3 13 (by kernel_rfl)]
  rw [show gv 16 = undef from hV 6 16 (by kernel_rfl)]
  clear hV
  have kw5 := kw4.trans k5
  have B5 := Lib.hid (B4.out.kept k5)
  have HC5 := Lib.hid (HC4.out.kept k5)
  clear k5 kw4 B4 HC4
  go_upto_region 4 with fail
  refine wp_region_lit ?_
  refine l_val (o := ⟨some 18, _, _, _, _, _⟩) ((Cmd.z 0).v) rfl (exec_build 28 [] (Cmd.z 0).cells rfl (by kernel_rfl)) ?_
  simp only [Act.put, List.setIfInBounds_toArray, List.set_cons_succ, List.set_cons_zero]
  refine l_setS (o := ⟨none, _, _, _, _, _⟩) 28 n0 28 (Cmd.z 0).cells (Cmd.z 0).cells (.tmp 2) (.tmp 18) rfl rfl (by kernel_rfl) (by kernel_rfl) B5.out cmd_size rfl (stc_one _ _) ?_
  intro w6 b6 k6 z6
  have kw6 : Kept w w6 := Kept.trans' kw5 k6 (by have := hs0.out; omega)
  simp only [Act.put]
  refine l_val (o := ⟨some 3, _, _, _, _, _⟩) (.bool false) rfl (exec_assign (.const (.bool false)) (.bool false) rfl (by kernel_rfl)) ?_
  simp only [Act.put, List.setIfInBounds_toArray, List.set_cons_succ, List.set_cons_zero]
  refine wpList_nil ?_
  go_wp2
  refine bodyPost_ret (results_cmd (p := 2) (q := 3) rfl _ _ n0 _ (Cmd.z 0).cells false rfl rfl b6 rfl) rfl ?_
  refine ⟨?_, kw6⟩
  rw [HG.out]
  rfl
set_option maxRecDepth 100000 in
set_option maxHeartbeats 3200000 in
theorem get_tf (v : Value) (xs : List UInt8) (w : World) (hv : Bytes w v xs) (hl : xs.length ≤ 1000) (hF : Hid ((RS.new xs).rest.fin = true)) (hR : Hid ((RS.new xs).cmd.right = false)) : Calls Try.prog 18 #[v] w (GotIn w xs) := by
  obtain ⟨A, n, c, rfl, hn, hx, h1, h2, h3⟩ := hv
  have HX := Lib.hid hx
  have hn1 : n ≤ 1000000 := by rw [← hn.out]; omega
  have hok : Hid (RS.new xs).ok := ⟨Nat.zero_le _, by show xs.length ≤ _; omega⟩
  have HG : Hid (getB xs = (Cmd.z 0, false)) := by show _ = _; unfold getB; rw [hF.out, hR.out]; rfl
  clear hx h1 h2 h3 hl
  go_enter Try.func18, Try.ntmps18
  go_upto_region 0 with fail
  refine wp_region_lit ?_
  refine l_alloc (o := ⟨some 2, _, _, _, _, _⟩) 28 (Cmd.z 0).cells rfl rfl cmd_zero ?_
  intro w0 b0 z0 k0
  simp only [Act.put, List.setIfInBounds_toArray, List.set_cons_succ, List.set_cons_zero]
  refine l_val (o := ⟨some 3, _, _, _, _, _⟩) (.bool false) rfl (exec_assign (.const (.bool false)) (.bool false) rfl (by kernel_rfl)) ?_
  simp only [Act.put, List.setIfInBounds_toArray, List.set_cons_succ, List.set_cons_zero]
  refine wpList_nil ?_
  obtain ⟨n0, hn0⟩ : ∃ n0, n0 = w.heap.size := ⟨_, rfl⟩
  rw [← hn0] at b0 ⊢
  have hs0 : Hid (w.heap.size ≤ n0) := by show _ ≤ _; omega
  have HX0 := Lib.hid (HX.out.kept k0)
  have B0 := Lib.hid b0
  clear hn0 b0 z0
  go_upto_region 1 with fail
  refine wp_region_lit ?_
  refine l_val (o := ⟨some 6, _, _, _, _, _⟩) (.slice A n c) rfl (exec_move (.tmp 0) (.slice A n c) rfl (by kernel_rfl)) ?_
  simp only [Act.put, List.setIfInBounds_toArray, List.set_cons_succ, List.set_cons_zero]
  refine l_call (o := ⟨some 7, _, _, _, _, _⟩) 29 #[.slice A n c] rfl (exec_call 29 _ [.tmp 6] _ _ Try.func29 (by kernel_rfl) (by kernel_rfl) rfl (by kernel_rfl) _) ?_
  refine (read_any A n c xs w0 HX0.out hn1 hn).mono ?_
  rintro e w1 ⟨g, b, rfl, hg, hb, hr1, k1⟩
  have B1 := Lib.hid (B0.out.kept k1)
  have kw1 := k0.trans k1
  have hgn : Hid (n0 < g) := by show _ < _; have := B0.out.lt; omega
  have hbn : Hid (n0 < b) := by show _ < _; have := B0.out.lt; omega
  have HR1 : Hid (Rd w1 g b (RS.new xs)) := hr1
  refine ⟨_, rfl, ?_⟩
  clear hr1 hg hb B0
  simp only [Act.put, List.setIfInBounds_toArray, List.set_cons_succ, List.set_cons_zero]
  refine l_val (o := ⟨some 4, _, _, _, _, _⟩) (.pointer (some ⟨g, 0, none⟩)) rfl (exec_assign (.tmp 7) (.pointer (some ⟨g, 0, none⟩)) rfl (by kernel_rfl)) ?_
  simp only [Act.put, List.setIfInBounds_toArray, List.set_cons_succ, List.set_cons_zero]
  refine wpList_nil ?_
  go_upto_region 2 with fail
  refine wp_region_lit ?_
  refine l_val (o := ⟨some 8, _, _, _, _, _⟩) (.pointer (some ⟨g, 0, none⟩)) rfl (exec_move (.tmp 4) (.pointer (some ⟨g, 0, none⟩)) rfl (by kernel_rfl)) ?_
  simp only [Act.put, List.setIfInBounds_toArray, List.set_cons_succ, List.set_cons_zero]
  refine l_call (o := ⟨some 9, _, _, _, _, _⟩) 28 #[.pointer (some ⟨g, 0, none⟩)] rfl (exec_call 28 _ [.tmp 8] _ _ Try.func28 (by kernel_rfl) (by kernel_rfl) rfl (by kernel_rfl) _) ?_
  refine (readc_any g b (RS.new xs) w1 HR1 hok).mono ?_
  rintro e w2 ⟨rfl, hr2, k2⟩
  have kw2 : Kept w w2 := Kept.trans' kw1 k2 (by have := hgn.out; have := hs0.out; omega)
  have B2 := Lib.hid (B1.out.keep k2 (by have := hgn.out; omega))
  refine ⟨_, rfl, ?_⟩
  simp only [Act.put, List.setIfInBounds_toArray, List.set_cons_succ, List.set_cons_zero]
  refine l_alloc (o := ⟨some 5, _, _, _, _, _⟩) 28 (Cmd.z 0).cells rfl rfl cmd_zero ?_
  intro w3 b3 z3 k3
  obtain ⟨gc, hgc⟩ : ∃ gc, gc = w2.heap.size := ⟨_, rfl⟩
  rw [← hgc] at b3 ⊢
  have hnc : Hid (n0 < gc) := by show _ < _; have := B2.out.lt; omega
  have hgg : Hid (g < gc ∧ b < gc) := by show _ ∧ _; have := hr2.lt; omega
  have kw3 := kw2.trans k3
  have B3 := Lib.hid (B2.out.kept k3)
  have hr3 := hr2.kept k3
  clear hgc
  simp only [Act.put, List.setIfInBounds_toArray, List.set_cons_succ, List.set_cons_zero]
  refine l_setS (o := ⟨none, _, _, _, _, _⟩) 28 gc 28 (Cmd.z 0).cells (RS.new xs).cmd.cells (.tmp 5) (.tmp 9) rfl rfl (by kernel_rfl) (by kernel_rfl) b3 (by rw [Cmd.cells_len _ (RS.cmd_tag _)]; exact cmd_size) (by rw [Cmd.cells_len _ (RS.cmd_tag _)]; rfl) (stc_one _ _) ?_
  intro w4 b4 k4 z4
  have kw4 : Kept w w4 := Kept.trans' kw3 k4 (by have := hnc.out; have := hs0.out; omega)
  have B4 := Lib.hid (B3.out.keep k4 (by have := hnc.out; omega))
  have HR4 := Lib.hid (hr3.keep k4 (by have := hgg.out; omega) (by have := hgg.out; omega))
  simp only [Act.put]
  refine wpList_nil ?_
  obtain ⟨d, hd⟩ : ∃ d, d = (RS.new xs).cmd := ⟨_, rfl⟩
  have HC4 : Hid (Blk w4 gc 28 d.cells) := by rw [hd]; exact b4
  have HTd : Hid (d.tag.length = 32) := by rw [hd]; exact RS.cmd_tag _
  have hro : (RS.new xs).rest.ok := RS.rest_ok hok.out
  have hRd : Hid (d.right = false) := by rw [hd]; exact hR.out
  have Hd := Lib.hid hd
  clear hd b4 k4 b3 hr3 hr2 k3 k2 kw1 kw2 kw3 B1 B2 B3 HR1 z4 z3
  go_upto_region 3 with fail
  refine wp_text 7 [.eq (.pointer (some ⟨g, 0, none⟩)), .eq (.bool true), .eq (.bool false), .eq (.bool false), .eq (d.v), .eq (.bool false), .eq (.bool true)] rfl (by kernel_rfl) ?_ ?_
  · refine fsteps_cons 1 rfl (fun a u hE hD hk => f_val (o := ⟨some 10, _, _, _, _, _⟩) (.pointer (some ⟨g, 0, none⟩)) rfl (wanted_none rfl _) (exec_move (.tmp 4) (.pointer (some ⟨g, 0, none⟩)) rfl (hE 4 (.pointer (some ⟨g, 0, none⟩)) (by kernel_rfl) (by kernel_rfl))) rfl) ?_
    refine fsteps_cons 2 rfl (fun a u hE hD hk => f_call (o := ⟨some 11, _, _, _, _, _⟩) 33 #[.pointer (some ⟨g, 0, none⟩)] rfl (wanted_none rfl _) (exec_call 33 _ [.tmp 10] _ [.pointer (some ⟨g, 0, none⟩)] Try.func33 (by kernel_rfl) (by kernel_rfl) rfl (show [a.eval (.tmp 10)] = [.pointer (some ⟨g, 0, none⟩)] from (by rw [show a.eval (.tmp 10) = .pointer (some ⟨g, 0, none⟩) from (hD 0 10 (by kernel_rfl))] <;> rfl)) u) ((end_any g b (RS.new xs).rest u (HR4.out.kept hk) hro).mono (fun e w' ⟨h1, k, h2⟩ => ⟨_, h1, by rw [hF.out]; rfl, by rw [h2]; exact kept_drewN u k⟩))) ?_
    refine fsteps_cons 3 rfl (fun a u hE hD hk => f_val (o := ⟨some 12, _, _, _, _, _⟩) (.bool false) rfl (wanted_none rfl _) (exec_not _ (.tmp 11) true rfl (hD 1 11 (by kernel_rfl))) rfl) ?_
    refine fsteps_cons 4 rfl (fun a u hE hD hk => f_val (o := ⟨some 13, _, _, _, _, _⟩) (.bool false) rfl (wanted_none rfl _) (exec_move (.tmp 12) (.bool false) rfl (hD 2 12 (by kernel_rfl))) rfl) ?_
    refine fsteps_cons 5 rfl (fun a u hE hD hk => f_val (o := ⟨some 14, _, _, _, _, _⟩) (d.v) rfl (wanted_at (b := false) false rfl rfl (hD 3 13 (by kernel_rfl))) (exec_loadS 28 (.tmp 5) (gc) _ d.cells _ rfl (hE 5 (.pointer (some ⟨gc, 0, none⟩)) (by kernel_rfl) (by kernel_rfl)) (HC4.out.kept hk) Try.underlying28 (by rw [Cmd.cells_len _ HTd.out]; exact cmd_size)) rfl) ?_
    refine fsteps_cons 6 rfl (fun a u hE hD hk => f_call (o := ⟨some 15, _, _, _, _, _⟩) 13 #[d.v] rfl (wanted_at (b := false) false rfl rfl (hD 3 13 (by kernel_rfl))) (exec_call 13 _ [.tmp 14] _ [d.v] Try.func13 (by kernel_rfl) (by kernel_rfl) rfl (show [a.eval (.tmp 14)] = [d.v] from (by rw [show a.eval (.tmp 14) = d.v from (hD 4 14 (by kernel_rfl))] <;> rfl)) u) (msgRight_is d false u HTd hRd.out)) ?_
    refine fsteps_cons 7 rfl (fun a u hE hD hk => f_val (o := ⟨some 16, _, _, _, _, _⟩) (.bool true) rfl (wanted_at (b := false) false rfl rfl (hD 3 13 (by kernel_rfl))) (exec_not _ (.tmp 15) false rfl (hD 5 15 (by kernel_rfl))) rfl) ?_
    exact fsteps_nil
  intro gv w5 hV k5
  rw [show dstsOf _ 7 = [10, 11, 12, 13, 14, 15, 16] by kernel_rfl]
  simp only [List.foldl_cons, List.foldl_nil, List.setIfInBounds_toArray, List.set_cons_succ, List.set_cons_zero, List.drop_succ_cons, List.drop_zero]
  rw [show gv 13 = .bool false from hV 3 13 (by kernel_rfl)]
  rw [show gv 16 = .bool true from hV 6 16 (by kernel_rfl)]
  clear hV
  have kw5 := kw4.trans k5
  have B5 := Lib.hid (B4.out.kept k5)
  have HC5 := Lib.hid (HC4.out.kept k5)
  clear k5 kw4 B4 HC4
  go_upto_region 4 with fail
  refine wp_region_lit ?_
  refine l_val (o := ⟨some 18, _, _, _, _, _⟩) ((Cmd.z 0).v) rfl (exec_build 28 [] (Cmd.z 0).cells rfl (by kernel_rfl)) ?_
  simp only [Act.put, List.setIfInBounds_toArray, List.set_cons_succ, List.set_cons_zero]
  refine l_setS (o := ⟨none, _, _, _, _, _⟩) 28 n0 28 (Cmd.z 0).cells (Cmd.z 0).cells (.tmp 2) (.tmp 18) rfl rfl (by kernel_rfl) (by kernel_rfl) B5.out cmd_size rfl (stc_one _ _) ?_
  intro w6 b6 k6 z6
  have kw6 : Kept w w6 := Kept.trans' kw5 k6 (by have := hs0.out; omega)
  simp only [Act.put]
  refine l_val (o := ⟨some 3, _, _, _, _, _⟩) (.bool false) rfl (exec_assign (.const (.bool false)) (.bool false) rfl (by kernel_rfl)) ?_
  simp only [Act.put, List.setIfInBounds_toArray, List.set_cons_succ, List.set_cons_zero]
  refine wpList_nil ?_
  go_wp2
  refine bodyPost_ret (results_cmd (p := 2) (q := 3) rfl _ _ n0 _ (Cmd.z 0).cells false rfl rfl b6 rfl) rfl ?_
  refine ⟨?_, kw6⟩
  rw [HG.out]
  rfl
set_option maxRecDepth 100000 in
set_option maxHeartbeats 3200000 in
theorem get_tt (v : Value) (xs : List UInt8) (w : World) (hv : Bytes w v xs) (hl : xs.length ≤ 1000) (hF : Hid ((RS.new xs).rest.fin = true)) (hR : Hid ((RS.new xs).cmd.right = true)) : Calls Try.prog 18 #[v] w (GotIn w xs) := by
  obtain ⟨A, n, c, rfl, hn, hx, h1, h2, h3⟩ := hv
  have HX := Lib.hid hx
  have hn1 : n ≤ 1000000 := by rw [← hn.out]; omega
  have hok : Hid (RS.new xs).ok := ⟨Nat.zero_le _, by show xs.length ≤ _; omega⟩
  have HG : Hid (getB xs = ((RS.new xs).cmd, true)) := by show _ = _; unfold getB; rw [hF.out, hR.out]; rfl
  clear hx h1 h2 h3 hl
  go_enter Try.func18, Try.ntmps18
  go_upto_region 0 with fail
  refine wp_region_lit ?_
  refine l_alloc (o := ⟨some 2, _, _, _, _, _⟩) 28 (Cmd.z 0).cells rfl rfl cmd_zero ?_
  intro w0 b0 z0 k0
  simp only [Act.put, List.setIfInBounds_toArray, List.set_cons_succ, List.set_cons_zero]
  refine l_val (o := ⟨some 3, _, _, _, _, _⟩) (.bool false) rfl (exec_assign (.const (.bool false)) (.bool false) rfl (by kernel_rfl)) ?_
  simp only [Act.put, List.setIfInBounds_toArray, List.set_cons_succ, List.set_cons_zero]
  refine wpList_nil ?_
  obtain ⟨n0, hn0⟩ : ∃ n0, n0 = w.heap.size := ⟨_, rfl⟩
  rw [← hn0] at b0 ⊢
  have hs0 : Hid (w.heap.size ≤ n0) := by show _ ≤ _; omega
  have HX0 := Lib.hid (HX.out.kept k0)
  have B0 := Lib.hid b0
  clear hn0 b0 z0
  go_upto_region 1 with fail
  refine wp_region_lit ?_
  refine l_val (o := ⟨some 6, _, _, _, _, _⟩) (.slice A n c) rfl (exec_move (.tmp 0) (.slice A n c) rfl (by kernel_rfl)) ?_
  simp only [Act.put, List.setIfInBounds_toArray, List.set_cons_succ, List.set_cons_zero]
  refine l_call (o := ⟨some 7, _, _, _, _, _⟩) 29 #[.slice A n c] rfl (exec_call 29 _ [.tmp 6] _ _ Try.func29 (by kernel_rfl) (by kernel_rfl) rfl (by kernel_rfl) _) ?_
  refine (read_any A n c xs w0 HX0.out hn1 hn).mono ?_
  rintro e w1 ⟨g, b, rfl, hg, hb, hr1, k1⟩
  have B1 := Lib.hid (B0.out.kept k1)
  have kw1 := k0.trans k1
  have hgn : Hid (n0 < g) := by show _ < _; have := B0.out.lt; omega
  have hbn : Hid (n0 < b) := by show _ < _; have := B0.out.lt; omega
  have HR1 : Hid (Rd w1 g b (RS.new xs)) := hr1
  refine ⟨_, rfl, ?_⟩
  clear hr1 hg hb B0
  simp only [Act.put, List.setIfInBounds_toArray, List.set_cons_succ, List.set_cons_zero]
  refine l_val (o := ⟨some 4, _, _, _, _, _⟩) (.pointer (some ⟨g, 0, none⟩)) rfl (exec_assign (.tmp 7) (.pointer (some ⟨g, 0, none⟩)) rfl (by kernel_rfl)) ?_
  simp only [Act.put, List.setIfInBounds_toArray, List.set_cons_succ, List.set_cons_zero]
  refine wpList_nil ?_
  go_upto_region 2 with fail
  refine wp_region_lit ?_
  refine l_val (o := ⟨some 8, _, _, _, _, _⟩) (.pointer (some ⟨g, 0, none⟩)) rfl (exec_move (.tmp 4) (.pointer (some ⟨g, 0, none⟩)) rfl (by kernel_rfl)) ?_
  simp only [Act.put, List.setIfInBounds_toArray, List.set_cons_succ, List.set_cons_zero]
  refine l_call (o := ⟨some 9, _, _, _, _, _⟩) 28 #[.pointer (some ⟨g, 0, none⟩)] rfl (exec_call 28 _ [.tmp 8] _ _ Try.func28 (by kernel_rfl) (by kernel_rfl) rfl (by kernel_rfl) _) ?_
  refine (readc_any g b (RS.new xs) w1 HR1 hok).mono ?_
  rintro e w2 ⟨rfl, hr2, k2⟩
  have kw2 : Kept w w2 := Kept.trans' kw1 k2 (by have := hgn.out; have := hs0.out; omega)
  have B2 := Lib.hid (B1.out.keep k2 (by have := hgn.out; omega))
  refine ⟨_, rfl, ?_⟩
  simp only [Act.put, List.setIfInBounds_toArray, List.set_cons_succ, List.set_cons_zero]
  refine l_alloc (o := ⟨some 5, _, _, _, _, _⟩) 28 (Cmd.z 0).cells rfl rfl cmd_zero ?_
  intro w3 b3 z3 k3
  obtain ⟨gc, hgc⟩ : ∃ gc, gc = w2.heap.size := ⟨_, rfl⟩
  rw [← hgc] at b3 ⊢
  have hnc : Hid (n0 < gc) := by show _ < _; have := B2.out.lt; omega
  have hgg : Hid (g < gc ∧ b < gc) := by show _ ∧ _; have := hr2.lt; omega
  have kw3 := kw2.trans k3
  have B3 := Lib.hid (B2.out.kept k3)
  have hr3 := hr2.kept k3
  clear hgc
  simp only [Act.put, List.setIfInBounds_toArray, List.set_cons_succ, List.set_cons_zero]
  refine l_setS (o := ⟨none, _, _, _, _, _⟩) 28 gc 28 (Cmd.z 0).cells (RS.new xs).cmd.cells (.tmp 5) (.tmp 9) rfl rfl (by kernel_rfl) (by kernel_rfl) b3 (by rw [Cmd.cells_len _ (RS.cmd_tag _)]; exact cmd_size) (by rw [Cmd.cells_len _ (RS.cmd_tag _)]; rfl) (stc_one _ _) ?_
  intro w4 b4 k4 z4
  have kw4 : Kept w w4 := Kept.trans' kw3 k4 (by have := hnc.out; have := hs0.out; omega)
  have B4 := Lib.hid (B3.out.keep k4 (by have := hnc.out; omega))
  have HR4 := Lib.hid (hr3.keep k4 (by have := hgg.out; omega) (by have := hgg.out; omega))
  simp only [Act.put]
  refine wpList_nil ?_
  obtain ⟨d, hd⟩ : ∃ d, d = (RS.new xs).cmd := ⟨_, rfl⟩
  have HC4 : Hid (Blk w4 gc 28 d.cells) := by rw [hd]; exact b4
  have HTd : Hid (d.tag.length = 32) := by rw [hd]; exact RS.cmd_tag _
  have hro : (RS.new xs).rest.ok := RS.rest_ok hok.out
  have hRd : Hid (d.right = true) := by rw [hd]; exact hR.out
  have Hd := Lib.hid hd
  clear hd b4 k4 b3 hr3 hr2 k3 k2 kw1 kw2 kw3 B1 B2 B3 HR1 z4 z3
  go_upto_region 3 with fail
  refine wp_text 7 [.eq (.pointer (some ⟨g, 0, none⟩)), .eq (.bool true), .eq (.bool false), .eq (.bool false), .eq (d.v), .eq (.bool true), .eq (.bool false)] rfl (by kernel_rfl) ?_ ?_
  · refine fsteps_cons 1 rfl (fun a u hE hD hk => f_val (o := ⟨some 10, _, _, _, _, _⟩) (.pointer (some ⟨g, 0, none⟩)) rfl (wanted_none rfl _) (exec_move (.tmp 4) (.pointer (some ⟨g, 0, none⟩)) rfl (hE 4 (.pointer (some ⟨g, 0, none⟩)) (by kernel_rfl) (by kernel_rfl))) rfl) ?_
    refine fsteps_cons 2 rfl (fun a u hE hD hk => f_call (o := ⟨some 11, _, _, _, _, _⟩) 33 #[.pointer (some ⟨g, 0, none⟩)] rfl (wanted_none rfl _) (exec_call 33 _ [.tmp 10] _ [.pointer (some ⟨g, 0, none⟩)] Try.func33 (by kernel_rfl) (by kernel_rfl) rfl (show [a.eval (.tmp 10)] = [.pointer (some ⟨g, 0, none⟩)] from (by rw [show a.eval (.tmp 10) = .pointer (some ⟨g, 0, none⟩) from (hD 0 10 (by kernel_rfl))] <;> rfl)) u) ((end_any g b (RS.new xs).rest u (HR4.out.kept hk) hro).mono (fun e w' ⟨h1, k, h2⟩ => ⟨_, h1, by rw [hF.out]; rfl, by rw [h2]; exact kept_drewN u k⟩))) ?_
    refine fsteps_cons 3 rfl (fun a u hE hD hk => f_val (o := ⟨some 12, _, _, _, _, _⟩) (.bool false) rfl (wanted_none rfl _) (exec_not _ (.tmp 11) true rfl (hD 1 11 (by kernel_rfl))) rfl) ?_
    refine fsteps_cons 4 rfl (fun a u hE hD hk => f_val (o := ⟨some 13, _, _, _, _, _⟩) (.bool false) rfl (wanted_none rfl _) (exec_move (.tmp 12) (.bool false) rfl (hD 2 12 (by kernel_rfl))) rfl) ?_
    refine fsteps_cons 5 rfl (fun a u hE hD hk => f_val (o := ⟨some 14, _, _, _, _, _⟩) (d.v) rfl (wanted_at (b := false) false rfl rfl (hD 3 13 (by kernel_rfl))) (exec_loadS 28 (.tmp 5) (gc) _ d.cells _ rfl (hE 5 (.pointer (some ⟨gc, 0, none⟩)) (by kernel_rfl) (by kernel_rfl)) (HC4.out.kept hk) Try.underlying28 (by rw [Cmd.cells_len _ HTd.out]; exact cmd_size)) rfl) ?_
    refine fsteps_cons 6 rfl (fun a u hE hD hk => f_call (o := ⟨some 15, _, _, _, _, _⟩) 13 #[d.v] rfl (wanted_at (b := false) false rfl rfl (hD 3 13 (by kernel_rfl))) (exec_call 13 _ [.tmp 14] _ [d.v] Try.func13 (by kernel_rfl) (by kernel_rfl) rfl (show [a.eval (.tmp 14)] = [d.v] from (by rw [show a.eval (.tmp 14) = d.v from (hD 4 14 (by kernel_rfl))] <;> rfl)) u) (msgRight_is d true u HTd hRd.out)) ?_
    refine fsteps_cons 7 rfl (fun a u hE hD hk => f_val (o := ⟨some 16, _, _, _, _, _⟩) (.bool false) rfl (wanted_at (b := false) false rfl rfl (hD 3 13 (by kernel_rfl))) (exec_not _ (.tmp 15) true rfl (hD 5 15 (by kernel_rfl))) rfl) ?_
    exact fsteps_nil
  intro gv w5 hV k5
  rw [show dstsOf _ 7 = [10, 11, 12, 13, 14, 15, 16] by kernel_rfl]
  simp only [List.foldl_cons, List.foldl_nil, List.setIfInBounds_toArray, List.set_cons_succ, List.set_cons_zero, List.drop_succ_cons, List.drop_zero]
  rw [show gv 13 = .bool false from hV 3 13 (by kernel_rfl)]
  rw [show gv 16 = .bool false from hV 6 16 (by kernel_rfl)]
  clear hV
  have kw5 := kw4.trans k5
  have B5 := Lib.hid (B4.out.kept k5)
  have HC5 := Lib.hid (HC4.out.kept k5)
  clear k5 kw4 B4 HC4
  go_upto_region 5 with fail
  refine wp_region_lit ?_
  refine l_val (o := ⟨some 19, _, _, _, _, _⟩) (d.v) rfl (exec_loadS 28 (.tmp 5) gc 28 d.cells _ rfl (by kernel_rfl) HC5.out Try.underlying28 (by rw [Cmd.cells_len d HTd.out]; exact cmd_size)) ?_
  simp only [Act.put, List.setIfInBounds_toArray, List.set_cons_succ, List.set_cons_zero]
  refine l_setS (o := ⟨none, _, _, _, _, _⟩) 28 n0 28 (Cmd.z 0).cells d.cells (.tmp 2) (.tmp 19) rfl rfl (by kernel_rfl) (by kernel_rfl) B5.out (by rw [Cmd.cells_len d HTd.out]; exact cmd_size) (by rw [Cmd.cells_len d HTd.out]; rfl) (stc_one _ _) ?_
  intro w6 b6 k6 z6
  have kw6 : Kept w w6 := Kept.trans' kw5 k6 (by have := hs0.out; omega)
  simp only [Act.put]
  refine l_val (o := ⟨some 3, _, _, _, _, _⟩) (.bool true) rfl (exec_assign (.const (.bool true)) (.bool true) rfl (by kernel_rfl)) ?_
  simp only [Act.put, List.setIfInBounds_toArray, List.set_cons_succ, List.set_cons_zero]
  refine wpList_nil ?_
  go_wp2
  refine bodyPost_ret (results_cmd (p := 2) (q := 3) rfl _ _ n0 _ d.cells true rfl rfl b6 (Cmd.cells_len d HTd.out)) rfl ?_
  refine ⟨?_, kw6⟩
  rw [HG.out]
  rw [← Hd.out]
  rfl
theorem get_any (v : Value) (xs : List UInt8) (w : World) (hv : Bytes w v xs) (hl : xs.length ≤ 1000) : Calls Try.prog 18 #[v] w (GotIn w xs) := by
  cases hF : (RS.new xs).rest.fin with
  | false => exact get_f v xs w hv hl hF
  | true =>
    cases hR : (RS.new xs).cmd.right with
    | false => exact get_tf v xs w hv hl hF hR
    | true => exact get_tt v xs w hv hl hF hR
end Go.Proofs.Ytdmeiffofmagjaa
