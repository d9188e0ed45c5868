/-
  The contract of package msg's Note: a note as bytes. Condition: its sum has 32 bytes.
-/
import Derived.Test.YtdmeiffofmagjaaMsgSum
namespace Go.Proofs.Ytdmeiffofmagjaa
open Go.RowKit
set_option linter.unusedVariables false

set_option maxRecDepth 100000 in
set_option maxHeartbeats 3200000 in
theorem note_1 (c : Nte) (w : World) (hkk : Hid (c.k = 1)) (HT : Hid (c.sum.length = 32)) : Gives 12 #[c.v] w (.own w.heap.size c.enc) := by
  unfold Gives Nte.v
  have HB0 : Hid (Blk (w.alloc (.cells c.cells.toArray 32)) w.heap.size 32 c.cells) := Blk.new w _ _
  have kw0 : Kept w (w.alloc (.cells c.cells.toArray 32)) := (Keep.refl _ w).alloc _
  go_enter Try.func12, Try.ntmps12
  go_upto_region 1 with fail
  generalize w.alloc (.cells c.cells.toArray 32) = w0 at HB0 kw0 ⊢
  obtain ⟨g, hg⟩ : ∃ g, g = w.heap.size := ⟨_, rfl⟩
  rw [← hg] at HB0 ⊢
  have hgb0 : Hid (g ≤ w0.heap.size) := by show g ≤ _; have := kw0.size; omega
  have hgw : Hid (w.heap.size ≤ g) := by show _ ≤ g; omega
  clear hg
  refine wp_text 4 [.eq (.pointer (some ⟨g, 0, none⟩)), .eq (.int .i64 c.k), .ints [(c.k)], .own g (u8s [c.k])] rfl (by kernel_rfl) ?_ ?_
  · refine fsteps_cons 1 rfl (fun a u hE hD hk => f_val (o := ⟨some 4, _, _, _, _, _⟩) (.pointer (some ⟨g, 0, none⟩)) rfl (wanted_none rfl _) (exec_fld 32 0 0 (.tmp 1) (g) rfl (hE 1 (.pointer (some ⟨g, 0, none⟩)) (by kernel_rfl) (by kernel_rfl)) (by kernel_rfl)) rfl) ?_
    refine fsteps_cons 2 rfl (fun a u hE hD hk => f_val (o := ⟨some 5, _, _, _, _, _⟩) (.int .i64 c.k) rfl (wanted_none rfl _) (exec_loadi 3 Try.underlying3 (.tmp 4) ⟨g, 0, none⟩ (.int .i64 c.k) rfl (hD 0 4 (by kernel_rfl)) ((HB0.out.kept hk).fld 0 _ rfl)) rfl) ?_
    refine fsteps_cons 3 rfl (fun a u hE hD hk => f_new (o := ⟨some 6, _, _, _, _, _⟩) (.slice (some ⟨u.heap.size, 0, none⟩) 1 1) _ rfl (wanted_none rfl _) (exec_ints 1 _ [(c.k)] rfl rfl (by omega) (by omega) (by show [(0, a.eval (.tmp 5))] = [(0, .int .i64 c.k)]; rw [show a.eval (.tmp 5) = .int .i64 c.k from (hD 1 5 (by kernel_rfl))])) (ints_new u [(c.k)] 1 rfl) ((Keep.refl _ u).alloc _)) ?_
    refine fsteps_cons 4 rfl (fun a u hE hD hk => f_call (o := ⟨some 7, _, _, _, _, _⟩) 23 #[.slice none 0 0, a.eval (.tmp 6)] rfl (wanted_none rfl _) (exec_call 23 _ [.const (.slice none 0 0), .tmp 6] _ [.slice none 0 0, a.eval (.tmp 6)] Try.func23 (by kernel_rfl) (by kernel_rfl) rfl rfl u) (bytes_any _ _ g [] [c.k] u (OwnV.nil _ _) (hD 2 6 (by kernel_rfl)) (by have := hgb0.out; have := hk.size; omega) (Nat.le_of_ble_eq_true (by kernel_rfl)) (Nat.le_of_ble_eq_true (by kernel_rfl)))) ?_
    exact fsteps_nil
  intro gv w1 hV k1
  rw [show dstsOf _ 4 = [4, 5, 6, 7] by kernel_rfl]
  simp only [List.foldl_cons, List.foldl_nil, List.setIfInBounds_toArray, List.set_cons_succ, List.set_cons_zero, List.drop_succ_cons, List.drop_zero]
  have hv7 : (.own g (u8s [c.k]) : Kn).p (gv 7) w1 := hV 3 7 (by kernel_rfl)
  generalize gv 7 = v7 at hv7 ⊢
  clear hV
  have HP1 := Lib.hid hv7
  generalize v7 = v3_1 at HP1 hv7 ⊢
  clear hv7
  have HB1 := Lib.hid (HB0.out.kept k1)
  have hgb1 : Hid (g ≤ w1.heap.size) := by show g ≤ _; have := k1.size; have := hgb0.out; omega
  have kw1 := kw0.trans k1
  clear kw0 k1
  have hc : w1.cell? ⟨g, 0, none⟩ = some (.int .i64 1) := by rw [← hkk.out]; exact HB1.out.fld 0 _ rfl
  go_upto_region 5 with fail
  refine wp_text 3 [.eq (v3_1), .eq (.pointer (some ⟨g, 10, none⟩)), .eq (.agg (cells8 c.sum).toArray)] rfl (by kernel_rfl) ?_ ?_
  · refine fsteps_cons 1 rfl (fun a u hE hD hk => f_val (o := ⟨some 12, _, _, _, _, _⟩) (v3_1) rfl (wanted_none rfl _) (exec_move (.tmp 3) (v3_1) rfl (hE 3 (v3_1) (by kernel_rfl) (by kernel_rfl))) rfl) ?_
    refine fsteps_cons 2 rfl (fun a u hE hD hk => f_val (o := ⟨some 13, _, _, _, _, _⟩) (.pointer (some ⟨g, 10, none⟩)) rfl (wanted_none rfl _) (exec_fld 32 10 10 (.tmp 1) (g) rfl (hE 1 (.pointer (some ⟨g, 0, none⟩)) (by kernel_rfl) (by kernel_rfl)) (by kernel_rfl)) rfl) ?_
    refine fsteps_cons 3 rfl (fun a u hE hD hk => f_val (o := ⟨some 14, _, _, _, _, _⟩) (.agg (cells8 c.sum).toArray) rfl (wanted_none rfl _) (exec_loadT 26 (.tmp 13) (g) 10 (cells8 c.sum) 32 _ rfl (hD 1 13 (by kernel_rfl)) ((HB1.out.kept hk).tagAt 10 rfl) Try.underlying26 (by rw [len8, HT.out]; exact sum_size)) rfl) ?_
    exact fsteps_nil
  intro gv w2 hV k2
  rw [show dstsOf _ 3 = [12, 13, 14] by kernel_rfl]
  simp only [List.foldl_cons, List.foldl_nil, List.setIfInBounds_toArray, List.set_cons_succ, List.set_cons_zero, List.drop_succ_cons, List.drop_zero]
  rw [show gv 12 = v3_1 from hV 0 12 (by kernel_rfl)]
  rw [show gv 14 = .agg (cells8 c.sum).toArray from hV 2 14 (by kernel_rfl)]
  clear hV
  have hgb2 : g ≤ w2.heap.size := by have := k2.size; have := hgb1.out; omega
  go_wp2_with fail
  refine (sum_any v3_1 g (u8s [c.k]) c.sum w2 (HP1.out.kept k2) hgb2 (Nat.le_of_ble_eq_true (by kernel_rfl)) HT).mono ?_
  rintro e w9 ⟨v9, rfl, ho9, hk9⟩
  have kw9 : Kept w w9 := Keep.trans (kw1.trans k2) hk9 (fun i hi h => by have := hgw.out; omega)
  go_wp2
  go_ret
  have he : u8s [c.k] ++ c.sum = c.enc := by simp [Nte.enc, hkk.out, u8s]
  rw [← he]
  exact ⟨_, rfl, ho9.low hgw.out, kw9⟩

set_option maxRecDepth 100000 in
set_option maxHeartbeats 3200000 in
theorem note_2 (c : Nte) (w : World) (hkk : Hid (c.k = 2)) (HT : Hid (c.sum.length = 32)) : Gives 12 #[c.v] w (.own w.heap.size c.enc) := by
  unfold Gives Nte.v
  have HB0 : Hid (Blk (w.alloc (.cells c.cells.toArray 32)) w.heap.size 32 c.cells) := Blk.new w _ _
  have kw0 : Kept w (w.alloc (.cells c.cells.toArray 32)) := (Keep.refl _ w).alloc _
  go_enter Try.func12, Try.ntmps12
  go_upto_region 1 with fail
  generalize w.alloc (.cells c.cells.toArray 32) = w0 at HB0 kw0 ⊢
  obtain ⟨g, hg⟩ : ∃ g, g = w.heap.size := ⟨_, rfl⟩
  rw [← hg] at HB0 ⊢
  have hgb0 : Hid (g ≤ w0.heap.size) := by show g ≤ _; have := kw0.size; omega
  have hgw : Hid (w.heap.size ≤ g) := by show _ ≤ g; omega
  clear hg
  refine wp_text 4 [.eq (.pointer (some ⟨g, 0, none⟩)), .eq (.int .i64 c.k), .ints [(c.k)], .own g (u8s [c.k])] rfl (by kernel_rfl) ?_ ?_
  · refine fsteps_cons 1 rfl (fun a u hE hD hk => f_val (o := ⟨some 4, _, _, _, _, _⟩) (.pointer (some ⟨g, 0, none⟩)) rfl (wanted_none rfl _) (exec_fld 32 0 0 (.tmp 1) (g) rfl (hE 1 (.pointer (some ⟨g, 0, none⟩)) (by kernel_rfl) (by kernel_rfl)) (by kernel_rfl)) rfl) ?_
    refine fsteps_cons 2 rfl (fun a u hE hD hk => f_val (o := ⟨some 5, _, _, _, _, _⟩) (.int .i64 c.k) rfl (wanted_none rfl _) (exec_loadi 3 Try.underlying3 (.tmp 4) ⟨g, 0, none⟩ (.int .i64 c.k) rfl (hD 0 4 (by kernel_rfl)) ((HB0.out.kept hk).fld 0 _ rfl)) rfl) ?_
    refine fsteps_cons 3 rfl (fun a u hE hD hk => f_new (o := ⟨some 6, _, _, _, _, _⟩) (.slice (some ⟨u.heap.size, 0, none⟩) 1 1) _ rfl (wanted_none rfl _) (exec_ints 1 _ [(c.k)] rfl rfl (by omega) (by omega) (by show [(0, a.eval (.tmp 5))] = [(0, .int .i64 c.k)]; rw [show a.eval (.tmp 5) = .int .i64 c.k from (hD 1 5 (by kernel_rfl))])) (ints_new u [(c.k)] 1 rfl) ((Keep.refl _ u).alloc _)) ?_
    refine fsteps_cons 4 rfl (fun a u hE hD hk => f_call (o := ⟨some 7, _, _, _, _, _⟩) 23 #[.slice none 0 0, a.eval (.tmp 6)] rfl (wanted_none rfl _) (exec_call 23 _ [.const (.slice none 0 0), .tmp 6] _ [.slice none 0 0, a.eval (.tmp 6)] Try.func23 (by kernel_rfl) (by kernel_rfl) rfl rfl u) (bytes_any _ _ g [] [c.k] u (OwnV.nil _ _) (hD 2 6 (by kernel_rfl)) (by have := hgb0.out; have := hk.size; omega) (Nat.le_of_ble_eq_true (by kernel_rfl)) (Nat.le_of_ble_eq_true (by kernel_rfl)))) ?_
    exact fsteps_nil
  intro gv w1 hV k1
  rw [show dstsOf _ 4 = [4, 5, 6, 7] by kernel_rfl]
  simp only [List.foldl_cons, List.foldl_nil, List.setIfInBounds_toArray, List.set_cons_succ, List.set_cons_zero, List.drop_succ_cons, List.drop_zero]
  have hv7 : (.own g (u8s [c.k]) : Kn).p (gv 7) w1 := hV 3 7 (by kernel_rfl)
  generalize gv 7 = v7 at hv7 ⊢
  clear hV
  have HP1 := Lib.hid hv7
  generalize v7 = v3_1 at HP1 hv7 ⊢
  clear hv7
  have HB1 := Lib.hid (HB0.out.kept k1)
  have hgb1 : Hid (g ≤ w1.heap.size) := by show g ≤ _; have := k1.size; have := hgb0.out; omega
  have kw1 := kw0.trans k1
  clear kw0 k1
  have hc : w1.cell? ⟨g, 0, none⟩ = some (.int .i64 2) := by rw [← hkk.out]; exact HB1.out.fld 0 _ rfl
  go_wp2
  go_ret
  have he : (u8s [c.k]) = c.enc := by simp [Nte.enc, hkk.out, u8s]
  rw [← he]
  exact ⟨_, rfl, HP1.out.low hgw.out, kw1⟩

set_option maxRecDepth 100000 in
set_option maxHeartbeats 3200000 in
theorem note_3 (c : Nte) (w : World) (hkk : Hid (c.k = 3)) (HT : Hid (c.sum.length = 32)) : Gives 12 #[c.v] w (.own w.heap.size c.enc) := by
  unfold Gives Nte.v
  have HB0 : Hid (Blk (w.alloc (.cells c.cells.toArray 32)) w.heap.size 32 c.cells) := Blk.new w _ _
  have kw0 : Kept w (w.alloc (.cells c.cells.toArray 32)) := (Keep.refl _ w).alloc _
  go_enter Try.func12, Try.ntmps12
  go_upto_region 1 with fail
  generalize w.alloc (.cells c.cells.toArray 32) = w0 at HB0 kw0 ⊢
  obtain ⟨g, hg⟩ : ∃ g, g = w.heap.size := ⟨_, rfl⟩
  rw [← hg] at HB0 ⊢
  have hgb0 : Hid (g ≤ w0.heap.size) := by show g ≤ _; have := kw0.size; omega
  have hgw : Hid (w.heap.size ≤ g) := by show _ ≤ g; omega
  clear hg
  refine wp_text 4 [.eq (.pointer (some ⟨g, 0, none⟩)), .eq (.int .i64 c.k), .ints [(c.k)], .own g (u8s [c.k])] rfl (by kernel_rfl) ?_ ?_
  · refine fsteps_cons 1 rfl (fun a u hE hD hk => f_val (o := ⟨some 4, _, _, _, _, _⟩) (.pointer (some ⟨g, 0, none⟩)) rfl (wanted_none rfl _) (exec_fld 32 0 0 (.tmp 1) (g) rfl (hE 1 (.pointer (some ⟨g, 0, none⟩)) (by kernel_rfl) (by kernel_rfl)) (by kernel_rfl)) rfl) ?_
    refine fsteps_cons 2 rfl (fun a u hE hD hk => f_val (o := ⟨some 5, _, _, _, _, _⟩) (.int .i64 c.k) rfl (wanted_none rfl _) (exec_loadi 3 Try.underlying3 (.tmp 4) ⟨g, 0, none⟩ (.int .i64 c.k) rfl (hD 0 4 (by kernel_rfl)) ((HB0.out.kept hk).fld 0 _ rfl)) rfl) ?_
    refine fsteps_cons 3 rfl (fun a u hE hD hk => f_new (o := ⟨some 6, _, _, _, _, _⟩) (.slice (some ⟨u.heap.size, 0, none⟩) 1 1) _ rfl (wanted_none rfl _) (exec_ints 1 _ [(c.k)] rfl rfl (by omega) (by omega) (by show [(0, a.eval (.tmp 5))] = [(0, .int .i64 c.k)]; rw [show a.eval (.tmp 5) = .int .i64 c.k from (hD 1 5 (by kernel_rfl))])) (ints_new u [(c.k)] 1 rfl) ((Keep.refl _ u).alloc _)) ?_
    refine fsteps_cons 4 rfl (fun a u hE hD hk => f_call (o := ⟨some 7, _, _, _, _, _⟩) 23 #[.slice none 0 0, a.eval (.tmp 6)] rfl (wanted_none rfl _) (exec_call 23 _ [.const (.slice none 0 0), .tmp 6] _ [.slice none 0 0, a.eval (.tmp 6)] Try.func23 (by kernel_rfl) (by kernel_rfl) rfl rfl u) (bytes_any _ _ g [] [c.k] u (OwnV.nil _ _) (hD 2 6 (by kernel_rfl)) (by have := hgb0.out; have := hk.size; omega) (Nat.le_of_ble_eq_true (by kernel_rfl)) (Nat.le_of_ble_eq_true (by kernel_rfl)))) ?_
    exact fsteps_nil
  intro gv w1 hV k1
  rw [show dstsOf _ 4 = [4, 5, 6, 7] by kernel_rfl]
  simp only [List.foldl_cons, List.foldl_nil, List.setIfInBounds_toArray, List.set_cons_succ, List.set_cons_zero, List.drop_succ_cons, List.drop_zero]
  have hv7 : (.own g (u8s [c.k]) : Kn).p (gv 7) w1 := hV 3 7 (by kernel_rfl)
  generalize gv 7 = v7 at hv7 ⊢
  clear hV
  have HP1 := Lib.hid hv7
  generalize v7 = v3_1 at HP1 hv7 ⊢
  clear hv7
  have HB1 := Lib.hid (HB0.out.kept k1)
  have hgb1 : Hid (g ≤ w1.heap.size) := by show g ≤ _; have := k1.size; have := hgb0.out; omega
  have kw1 := kw0.trans k1
  clear kw0 k1
  have hc : w1.cell? ⟨g, 0, none⟩ = some (.int .i64 3) := by rw [← hkk.out]; exact HB1.out.fld 0 _ rfl
  go_upto_region 10 with fail
  refine wp_text 5 [.eq (v3_1), .eq (.pointer (some ⟨g, 2, none⟩)), .eq (.int .i64 c.seq), .ints [(c.seq)], .own g ((u8s [c.k]) ++ w32s [c.seq])] rfl (by kernel_rfl) ?_ ?_
  · refine fsteps_cons 1 rfl (fun a u hE hD hk => f_val (o := ⟨some 22, _, _, _, _, _⟩) (v3_1) rfl (wanted_none rfl _) (exec_move (.tmp 3) (v3_1) rfl (hE 3 (v3_1) (by kernel_rfl) (by kernel_rfl))) rfl) ?_
    refine fsteps_cons 2 rfl (fun a u hE hD hk => f_val (o := ⟨some 23, _, _, _, _, _⟩) (.pointer (some ⟨g, 2, none⟩)) rfl (wanted_none rfl _) (exec_fld 32 2 2 (.tmp 1) (g) rfl (hE 1 (.pointer (some ⟨g, 0, none⟩)) (by kernel_rfl) (by kernel_rfl)) (by kernel_rfl)) rfl) ?_
    refine fsteps_cons 3 rfl (fun a u hE hD hk => f_val (o := ⟨some 24, _, _, _, _, _⟩) (.int .i64 c.seq) rfl (wanted_none rfl _) (exec_loadi 3 Try.underlying3 (.tmp 23) ⟨g, 2, none⟩ (.int .i64 c.seq) rfl (hD 1 23 (by kernel_rfl)) ((HB1.out.kept hk).fld 2 _ rfl)) rfl) ?_
    refine fsteps_cons 4 rfl (fun a u hE hD hk => f_new (o := ⟨some 25, _, _, _, _, _⟩) (.slice (some ⟨u.heap.size, 0, none⟩) 1 1) _ rfl (wanted_none rfl _) (exec_ints 1 _ [(c.seq)] rfl rfl (by omega) (by omega) (by show [(0, a.eval (.tmp 24))] = [(0, .int .i64 c.seq)]; rw [show a.eval (.tmp 24) = .int .i64 c.seq from (hD 2 24 (by kernel_rfl))])) (ints_new u [(c.seq)] 1 rfl) ((Keep.refl _ u).alloc _)) ?_
    refine fsteps_cons 5 rfl (fun a u hE hD hk => f_call (o := ⟨some 26, _, _, _, _, _⟩) 25 #[v3_1, a.eval (.tmp 25)] rfl (wanted_none rfl _) (exec_call 25 _ [.tmp 22, .tmp 25] _ [v3_1, a.eval (.tmp 25)] Try.func25 (by kernel_rfl) (by kernel_rfl) rfl (show [a.eval (.tmp 22), a.eval (.tmp 25)] = [v3_1, a.eval (.tmp 25)] from (by rw [show a.eval (.tmp 22) = v3_1 from (hD 0 22 (by kernel_rfl))] <;> rfl)) u) (words_any _ _ g (u8s [c.k]) [c.seq] u (HP1.out.kept hk) (hD 3 25 (by kernel_rfl)) (by have := hgb1.out; have := hk.size; omega) (Nat.le_of_ble_eq_true (by kernel_rfl)) (Nat.le_of_ble_eq_true (by kernel_rfl)))) ?_
    exact fsteps_nil
  intro gv w2 hV k2
  rw [show dstsOf _ 5 = [22, 23, 24, 25, 26] by kernel_rfl]
  simp only [List.foldl_cons, List.foldl_nil, List.setIfInBounds_toArray, List.set_cons_succ, List.set_cons_zero, List.drop_succ_cons, List.drop_zero]
  have hv26 : (.own g ((u8s [c.k]) ++ w32s [c.seq]) : Kn).p (gv 26) w2 := hV 4 26 (by kernel_rfl)
  generalize gv 26 = v26 at hv26 ⊢
  clear hV
  have HP2 := Lib.hid hv26
  generalize v26 = v3_2 at HP2 hv26 ⊢
  clear hv26
  have HB2 := Lib.hid (HB1.out.kept k2)
  have hgb2 : Hid (g ≤ w2.heap.size) := by show g ≤ _; have := k2.size; have := hgb1.out; omega
  have kw2 := kw1.trans k2
  clear kw1 k2
  go_wp2
  go_ret
  have he : ((u8s [c.k]) ++ w32s [c.seq]) = c.enc := by simp [Nte.enc, hkk.out, u8s, w32s]
  rw [← he]
  exact ⟨_, rfl, HP2.out.low hgw.out, kw2⟩

set_option maxRecDepth 100000 in
set_option maxHeartbeats 3200000 in
theorem note_4 (c : Nte) (w : World) (hkk : Hid (c.k = 4)) (HT : Hid (c.sum.length = 32)) : Gives 12 #[c.v] w (.own w.heap.size c.enc) := by
  unfold Gives Nte.v
  have HB0 : Hid (Blk (w.alloc (.cells c.cells.toArray 32)) w.heap.size 32 c.cells) := Blk.new w _ _
  have kw0 : Kept w (w.alloc (.cells c.cells.toArray 32)) := (Keep.refl _ w).alloc _
  go_enter Try.func12, Try.ntmps12
  go_upto_region 1 with fail
  generalize w.alloc (.cells c.cells.toArray 32) = w0 at HB0 kw0 ⊢
  obtain ⟨g, hg⟩ : ∃ g, g = w.heap.size := ⟨_, rfl⟩
  rw [← hg] at HB0 ⊢
  have hgb0 : Hid (g ≤ w0.heap.size) := by show g ≤ _; have := kw0.size; omega
  have hgw : Hid (w.heap.size ≤ g) := by show _ ≤ g; omega
  clear hg
  refine wp_text 4 [.eq (.pointer (some ⟨g, 0, none⟩)), .eq (.int .i64 c.k), .ints [(c.k)], .own g (u8s [c.k])] rfl (by kernel_rfl) ?_ ?_
  · refine fsteps_cons 1 rfl (fun a u hE hD hk => f_val (o := ⟨some 4, _, _, _, _, _⟩) (.pointer (some ⟨g, 0, none⟩)) rfl (wanted_none rfl _) (exec_fld 32 0 0 (.tmp 1) (g) rfl (hE 1 (.pointer (some ⟨g, 0, none⟩)) (by kernel_rfl) (by kernel_rfl)) (by kernel_rfl)) rfl) ?_
    refine fsteps_cons 2 rfl (fun a u hE hD hk => f_val (o := ⟨some 5, _, _, _, _, _⟩) (.int .i64 c.k) rfl (wanted_none rfl _) (exec_loadi 3 Try.underlying3 (.tmp 4) ⟨g, 0, none⟩ (.int .i64 c.k) rfl (hD 0 4 (by kernel_rfl)) ((HB0.out.kept hk).fld 0 _ rfl)) rfl) ?_
    refine fsteps_cons 3 rfl (fun a u hE hD hk => f_new (o := ⟨some 6, _, _, _, _, _⟩) (.slice (some ⟨u.heap.size, 0, none⟩) 1 1) _ rfl (wanted_none rfl _) (exec_ints 1 _ [(c.k)] rfl rfl (by omega) (by omega) (by show [(0, a.eval (.tmp 5))] = [(0, .int .i64 c.k)]; rw [show a.eval (.tmp 5) = .int .i64 c.k from (hD 1 5 (by kernel_rfl))])) (ints_new u [(c.k)] 1 rfl) ((Keep.refl _ u).alloc _)) ?_
    refine fsteps_cons 4 rfl (fun a u hE hD hk => f_call (o := ⟨some 7, _, _, _, _, _⟩) 23 #[.slice none 0 0, a.eval (.tmp 6)] rfl (wanted_none rfl _) (exec_call 23 _ [.const (.slice none 0 0), .tmp 6] _ [.slice none 0 0, a.eval (.tmp 6)] Try.func23 (by kernel_rfl) (by kernel_rfl) rfl rfl u) (bytes_any _ _ g [] [c.k] u (OwnV.nil _ _) (hD 2 6 (by kernel_rfl)) (by have := hgb0.out; have := hk.size; omega) (Nat.le_of_ble_eq_true (by kernel_rfl)) (Nat.le_of_ble_eq_true (by kernel_rfl)))) ?_
    exact fsteps_nil
  intro gv w1 hV k1
  rw [show dstsOf _ 4 = [4, 5, 6, 7] by kernel_rfl]
  simp only [List.foldl_cons, List.foldl_nil, List.setIfInBounds_toArray, List.set_cons_succ, List.set_cons_zero, List.drop_succ_cons, List.drop_zero]
  have hv7 : (.own g (u8s [c.k]) : Kn).p (gv 7) w1 := hV 3 7 (by kernel_rfl)
  generalize gv 7 = v7 at hv7 ⊢
  clear hV
  have HP1 := Lib.hid hv7
  generalize v7 = v3_1 at HP1 hv7 ⊢
  clear hv7
  have HB1 := Lib.hid (HB0.out.kept k1)
  have hgb1 : Hid (g ≤ w1.heap.size) := by show g ≤ _; have := k1.size; have := hgb0.out; omega
  have kw1 := kw0.trans k1
  clear kw0 k1
  have hc : w1.cell? ⟨g, 0, none⟩ = some (.int .i64 4) := by rw [← hkk.out]; exact HB1.out.fld 0 _ rfl
  go_upto_region 12 with fail
  refine wp_free 9 [.eq (v3_1), .eq (.pointer (some ⟨g, 2, none⟩)), .eq (.int .i64 c.seq), .ints [(c.seq)], .own g ((u8s [c.k]) ++ w32s [c.seq]), .eq (.pointer (some ⟨g, 1, none⟩)), .eq (.int .i64 c.err), .ints [(c.err)], .own g (((u8s [c.k]) ++ w32s [c.seq]) ++ u8s [c.err])] (by kernel_rfl) rfl (by kernel_rfl) ?_ ?_
  · refine fsteps_cons 1 rfl (fun a u hE hD hk => f_val (o := ⟨some 29, _, _, _, _, _⟩) (v3_1) rfl (wanted_none rfl _) (exec_move (.tmp 3) (v3_1) rfl (hE 3 (v3_1) (by kernel_rfl) (by kernel_rfl))) rfl) ?_
    refine fsteps_cons 2 rfl (fun a u hE hD hk => f_val (o := ⟨some 30, _, _, _, _, _⟩) (.pointer (some ⟨g, 2, none⟩)) rfl (wanted_none rfl _) (exec_fld 32 2 2 (.tmp 1) (g) rfl (hE 1 (.pointer (some ⟨g, 0, none⟩)) (by kernel_rfl) (by kernel_rfl)) (by kernel_rfl)) rfl) ?_
    refine fsteps_cons 3 rfl (fun a u hE hD hk => f_val (o := ⟨some 31, _, _, _, _, _⟩) (.int .i64 c.seq) rfl (wanted_none rfl _) (exec_loadi 3 Try.underlying3 (.tmp 30) ⟨g, 2, none⟩ (.int .i64 c.seq) rfl (hD 1 30 (by kernel_rfl)) ((HB1.out.kept hk).fld 2 _ rfl)) rfl) ?_
    refine fsteps_cons 4 rfl (fun a u hE hD hk => f_new (o := ⟨some 32, _, _, _, _, _⟩) (.slice (some ⟨u.heap.size, 0, none⟩) 1 1) _ rfl (wanted_none rfl _) (exec_ints 1 _ [(c.seq)] rfl rfl (by omega) (by omega) (by show [(0, a.eval (.tmp 31))] = [(0, .int .i64 c.seq)]; rw [show a.eval (.tmp 31) = .int .i64 c.seq from (hD 2 31 (by kernel_rfl))])) (ints_new u [(c.seq)] 1 rfl) ((Keep.refl _ u).alloc _)) ?_
    refine fsteps_cons 5 rfl (fun a u hE hD hk => f_call (o := ⟨some 33, _, _, _, _, _⟩) 25 #[v3_1, a.eval (.tmp 32)] rfl (wanted_none rfl _) (exec_call 25 _ [.tmp 29, .tmp 32] _ [v3_1, a.eval (.tmp 32)] Try.func25 (by kernel_rfl) (by kernel_rfl) rfl (show [a.eval (.tmp 29), a.eval (.tmp 32)] = [v3_1, a.eval (.tmp 32)] from (by rw [show a.eval (.tmp 29) = v3_1 from (hD 0 29 (by kernel_rfl))] <;> rfl)) u) (words_any _ _ g (u8s [c.k]) [c.seq] u (HP1.out.kept hk) (hD 3 32 (by kernel_rfl)) (by have := hgb1.out; have := hk.size; omega) (Nat.le_of_ble_eq_true (by kernel_rfl)) (Nat.le_of_ble_eq_true (by kernel_rfl)))) ?_
    refine fsteps_cons 6 rfl (fun a u hE hD hk => f_val (o := ⟨some 34, _, _, _, _, _⟩) (.pointer (some ⟨g, 1, none⟩)) rfl (wanted_none rfl _) (exec_fld 32 1 1 (.tmp 1) (g) rfl (hE 1 (.pointer (some ⟨g, 0, none⟩)) (by kernel_rfl) (by kernel_rfl)) (by kernel_rfl)) rfl) ?_
    refine fsteps_cons 7 rfl (fun a u hE hD hk => f_val (o := ⟨some 35, _, _, _, _, _⟩) (.int .i64 c.err) rfl (wanted_none rfl _) (exec_loadi 30 Try.underlying30 (.tmp 34) ⟨g, 1, none⟩ (.int .i64 c.err) rfl (hD 5 34 (by kernel_rfl)) ((HB1.out.kept hk).fld 1 _ rfl)) rfl) ?_
    refine fsteps_cons 8 rfl (fun a u hE hD hk => f_new (o := ⟨some 36, _, _, _, _, _⟩) (.slice (some ⟨u.heap.size, 0, none⟩) 1 1) _ rfl (wanted_none rfl _) (exec_ints 1 _ [(c.err)] rfl rfl (by omega) (by omega) (by show [(0, a.eval (.tmp 35))] = [(0, .int .i64 c.err)]; rw [show a.eval (.tmp 35) = .int .i64 c.err from (hD 6 35 (by kernel_rfl))])) (ints_new u [(c.err)] 1 rfl) ((Keep.refl _ u).alloc _)) ?_
    refine fsteps_cons 9 rfl (fun a u hE hD hk => f_call (o := ⟨some 37, _, _, _, _, _⟩) 23 #[a.eval (.tmp 33), a.eval (.tmp 36)] rfl (wanted_none rfl _) (exec_call 23 _ [.tmp 33, .tmp 36] _ [a.eval (.tmp 33), a.eval (.tmp 36)] Try.func23 (by kernel_rfl) (by kernel_rfl) rfl rfl u) (bytes_any _ _ g ((u8s [c.k]) ++ w32s [c.seq]) [c.err] u (hD 4 33 (by kernel_rfl)) (hD 7 36 (by kernel_rfl)) (by have := hgb1.out; have := hk.size; omega) (Nat.le_of_ble_eq_true (by kernel_rfl)) (Nat.le_of_ble_eq_true (by kernel_rfl)))) ?_
    exact fsteps_nil
  intro gv w2 hV k2
  rw [show dstsOf _ 9 = [29, 30, 31, 32, 33, 34, 35, 36, 37] by kernel_rfl]
  simp only [List.foldl_cons, List.foldl_nil, List.setIfInBounds_toArray, List.set_cons_succ, List.set_cons_zero, List.drop_succ_cons, List.drop_zero]
  have hv37 : (.own g (((u8s [c.k]) ++ w32s [c.seq]) ++ u8s [c.err]) : Kn).p (gv 37) w2 := hV 8 37 (by kernel_rfl)
  generalize gv 37 = v37 at hv37 ⊢
  clear hV
  have HP2 := Lib.hid hv37
  generalize v37 = v3_2 at HP2 hv37 ⊢
  clear hv37
  have HB2 := Lib.hid (HB1.out.kept k2)
  have hgb2 : Hid (g ≤ w2.heap.size) := by show g ≤ _; have := k2.size; have := hgb1.out; omega
  have kw2 := kw1.trans k2
  clear kw1 k2
  go_wp2
  go_ret
  have he : (((u8s [c.k]) ++ w32s [c.seq]) ++ u8s [c.err]) = c.enc := by simp [Nte.enc, hkk.out, u8s, w32s]
  rw [← he]
  exact ⟨_, rfl, HP2.out.low hgw.out, kw2⟩

set_option maxRecDepth 100000 in
set_option maxHeartbeats 3200000 in
theorem note_5 (c : Nte) (w : World) (hkk : Hid (c.k = 5)) (HT : Hid (c.sum.length = 32)) : Gives 12 #[c.v] w (.own w.heap.size c.enc) := by
  unfold Gives Nte.v
  have HB0 : Hid (Blk (w.alloc (.cells c.cells.toArray 32)) w.heap.size 32 c.cells) := Blk.new w _ _
  have kw0 : Kept w (w.alloc (.cells c.cells.toArray 32)) := (Keep.refl _ w).alloc _
  go_enter Try.func12, Try.ntmps12
  go_upto_region 1 with fail
  generalize w.alloc (.cells c.cells.toArray 32) = w0 at HB0 kw0 ⊢
  obtain ⟨g, hg⟩ : ∃ g, g = w.heap.size := ⟨_, rfl⟩
  rw [← hg] at HB0 ⊢
  have hgb0 : Hid (g ≤ w0.heap.size) := by show g ≤ _; have := kw0.size; omega
  have hgw : Hid (w.heap.size ≤ g) := by show _ ≤ g; omega
  clear hg
  refine wp_text 4 [.eq (.pointer (some ⟨g, 0, none⟩)), .eq (.int .i64 c.k), .ints [(c.k)], .own g (u8s [c.k])] rfl (by kernel_rfl) ?_ ?_
  · refine fsteps_cons 1 rfl (fun a u hE hD hk => f_val (o := ⟨some 4, _, _, _, _, _⟩) (.pointer (some ⟨g, 0, none⟩)) rfl (wanted_none rfl _) (exec_fld 32 0 0 (.tmp 1) (g) rfl (hE 1 (.pointer (some ⟨g, 0, none⟩)) (by kernel_rfl) (by kernel_rfl)) (by kernel_rfl)) rfl) ?_
    refine fsteps_cons 2 rfl (fun a u hE hD hk => f_val (o := ⟨some 5, _, _, _, _, _⟩) (.int .i64 c.k) rfl (wanted_none rfl _) (exec_loadi 3 Try.underlying3 (.tmp 4) ⟨g, 0, none⟩ (.int .i64 c.k) rfl (hD 0 4 (by kernel_rfl)) ((HB0.out.kept hk).fld 0 _ rfl)) rfl) ?_
    refine fsteps_cons 3 rfl (fun a u hE hD hk => f_new (o := ⟨some 6, _, _, _, _, _⟩) (.slice (some ⟨u.heap.size, 0, none⟩) 1 1) _ rfl (wanted_none rfl _) (exec_ints 1 _ [(c.k)] rfl rfl (by omega) (by omega) (by show [(0, a.eval (.tmp 5))] = [(0, .int .i64 c.k)]; rw [show a.eval (.tmp 5) = .int .i64 c.k from (hD 1 5 (by kernel_rfl))])) (ints_new u [(c.k)] 1 rfl) ((Keep.refl _ u).alloc _)) ?_
    refine fsteps_cons 4 rfl (fun a u hE hD hk => f_call (o := ⟨some 7, _, _, _, _, _⟩) 23 #[.slice none 0 0, a.eval (.tmp 6)] rfl (wanted_none rfl _) (exec_call 23 _ [.const (.slice none 0 0), .tmp 6] _ [.slice none 0 0, a.eval (.tmp 6)] Try.func23 (by kernel_rfl) (by kernel_rfl) rfl rfl u) (bytes_any _ _ g [] [c.k] u (OwnV.nil _ _) (hD 2 6 (by kernel_rfl)) (by have := hgb0.out; have := hk.size; omega) (Nat.le_of_ble_eq_true (by kernel_rfl)) (Nat.le_of_ble_eq_true (by kernel_rfl)))) ?_
    exact fsteps_nil
  intro gv w1 hV k1
  rw [show dstsOf _ 4 = [4, 5, 6, 7] by kernel_rfl]
  simp only [List.foldl_cons, List.foldl_nil, List.setIfInBounds_toArray, List.set_cons_succ, List.set_cons_zero, List.drop_succ_cons, List.drop_zero]
  have hv7 : (.own g (u8s [c.k]) : Kn).p (gv 7) w1 := hV 3 7 (by kernel_rfl)
  generalize gv 7 = v7 at hv7 ⊢
  clear hV
  have HP1 := Lib.hid hv7
  generalize v7 = v3_1 at HP1 hv7 ⊢
  clear hv7
  have HB1 := Lib.hid (HB0.out.kept k1)
  have hgb1 : Hid (g ≤ w1.heap.size) := by show g ≤ _; have := k1.size; have := hgb0.out; omega
  have kw1 := kw0.trans k1
  clear kw0 k1
  have hc : w1.cell? ⟨g, 0, none⟩ = some (.int .i64 5) := by rw [← hkk.out]; exact HB1.out.fld 0 _ rfl
  go_upto_region 14 with fail
  refine wp_free 17 [.eq (v3_1), .eq (.pointer (some ⟨g, 3, none⟩)), .eq (.int .i64 c.inst), .ints [(c.inst)], .own g ((u8s [c.k]) ++ u8s [c.inst]), .eq (.pointer (some ⟨g, 4, none⟩)), .eq (.int .i64 c.id), .eq (.pointer (some ⟨g, 5, none⟩)), .eq (.int .i64 c.no), .eq (.pointer (some ⟨g, 7, none⟩)), .eq (.int .i64 c.price), .eq (.pointer (some ⟨g, 8, none⟩)), .eq (.int .i64 c.qty), .eq (.pointer (some ⟨g, 9, none⟩)), .eq (.int .i64 c.left), .ints [(c.id), (c.no), (c.price), (c.qty), (c.left)], .own g (((u8s [c.k]) ++ u8s [c.inst]) ++ w32s [c.id, c.no, c.price, c.qty, c.left])] (by kernel_rfl) rfl (by kernel_rfl) ?_ ?_
  · refine fsteps_cons 1 rfl (fun a u hE hD hk => f_val (o := ⟨some 40, _, _, _, _, _⟩) (v3_1) rfl (wanted_none rfl _) (exec_move (.tmp 3) (v3_1) rfl (hE 3 (v3_1) (by kernel_rfl) (by kernel_rfl))) rfl) ?_
    refine fsteps_cons 2 rfl (fun a u hE hD hk => f_val (o := ⟨some 41, _, _, _, _, _⟩) (.pointer (some ⟨g, 3, none⟩)) rfl (wanted_none rfl _) (exec_fld 32 3 3 (.tmp 1) (g) rfl (hE 1 (.pointer (some ⟨g, 0, none⟩)) (by kernel_rfl) (by kernel_rfl)) (by kernel_rfl)) rfl) ?_
    refine fsteps_cons 3 rfl (fun a u hE hD hk => f_val (o := ⟨some 42, _, _, _, _, _⟩) (.int .i64 c.inst) rfl (wanted_none rfl _) (exec_loadi 3 Try.underlying3 (.tmp 41) ⟨g, 3, none⟩ (.int .i64 c.inst) rfl (hD 1 41 (by kernel_rfl)) ((HB1.out.kept hk).fld 3 _ rfl)) rfl) ?_
    refine fsteps_cons 4 rfl (fun a u hE hD hk => f_new (o := ⟨some 43, _, _, _, _, _⟩) (.slice (some ⟨u.heap.size, 0, none⟩) 1 1) _ rfl (wanted_none rfl _) (exec_ints 1 _ [(c.inst)] rfl rfl (by omega) (by omega) (by show [(0, a.eval (.tmp 42))] = [(0, .int .i64 c.inst)]; rw [show a.eval (.tmp 42) = .int .i64 c.inst from (hD 2 42 (by kernel_rfl))])) (ints_new u [(c.inst)] 1 rfl) ((Keep.refl _ u).alloc _)) ?_
    refine fsteps_cons 5 rfl (fun a u hE hD hk => f_call (o := ⟨some 44, _, _, _, _, _⟩) 23 #[v3_1, a.eval (.tmp 43)] rfl (wanted_none rfl _) (exec_call 23 _ [.tmp 40, .tmp 43] _ [v3_1, a.eval (.tmp 43)] Try.func23 (by kernel_rfl) (by kernel_rfl) rfl (show [a.eval (.tmp 40), a.eval (.tmp 43)] = [v3_1, a.eval (.tmp 43)] from (by rw [show a.eval (.tmp 40) = v3_1 from (hD 0 40 (by kernel_rfl))] <;> rfl)) u) (bytes_any _ _ g (u8s [c.k]) [c.inst] u (HP1.out.kept hk) (hD 3 43 (by kernel_rfl)) (by have := hgb1.out; have := hk.size; omega) (Nat.le_of_ble_eq_true (by kernel_rfl)) (Nat.le_of_ble_eq_true (by kernel_rfl)))) ?_
    refine fsteps_cons 6 rfl (fun a u hE hD hk => f_val (o := ⟨some 45, _, _, _, _, _⟩) (.pointer (some ⟨g, 4, none⟩)) rfl (wanted_none rfl _) (exec_fld 32 4 4 (.tmp 1) (g) rfl (hE 1 (.pointer (some ⟨g, 0, none⟩)) (by kernel_rfl) (by kernel_rfl)) (by kernel_rfl)) rfl) ?_
    refine fsteps_cons 7 rfl (fun a u hE hD hk => f_val (o := ⟨some 46, _, _, _, _, _⟩) (.int .i64 c.id) rfl (wanted_none rfl _) (exec_loadi 3 Try.underlying3 (.tmp 45) ⟨g, 4, none⟩ (.int .i64 c.id) rfl (hD 5 45 (by kernel_rfl)) ((HB1.out.kept hk).fld 4 _ rfl)) rfl) ?_
    refine fsteps_cons 8 rfl (fun a u hE hD hk => f_val (o := ⟨some 47, _, _, _, _, _⟩) (.pointer (some ⟨g, 5, none⟩)) rfl (wanted_none rfl _) (exec_fld 32 5 5 (.tmp 1) (g) rfl (hE 1 (.pointer (some ⟨g, 0, none⟩)) (by kernel_rfl) (by kernel_rfl)) (by kernel_rfl)) rfl) ?_
    refine fsteps_cons 9 rfl (fun a u hE hD hk => f_val (o := ⟨some 48, _, _, _, _, _⟩) (.int .i64 c.no) rfl (wanted_none rfl _) (exec_loadi 3 Try.underlying3 (.tmp 47) ⟨g, 5, none⟩ (.int .i64 c.no) rfl (hD 7 47 (by kernel_rfl)) ((HB1.out.kept hk).fld 5 _ rfl)) rfl) ?_
    refine fsteps_cons 10 rfl (fun a u hE hD hk => f_val (o := ⟨some 49, _, _, _, _, _⟩) (.pointer (some ⟨g, 7, none⟩)) rfl (wanted_none rfl _) (exec_fld 32 7 7 (.tmp 1) (g) rfl (hE 1 (.pointer (some ⟨g, 0, none⟩)) (by kernel_rfl) (by kernel_rfl)) (by kernel_rfl)) rfl) ?_
    refine fsteps_cons 11 rfl (fun a u hE hD hk => f_val (o := ⟨some 50, _, _, _, _, _⟩) (.int .i64 c.price) rfl (wanted_none rfl _) (exec_loadi 3 Try.underlying3 (.tmp 49) ⟨g, 7, none⟩ (.int .i64 c.price) rfl (hD 9 49 (by kernel_rfl)) ((HB1.out.kept hk).fld 7 _ rfl)) rfl) ?_
    refine fsteps_cons 12 rfl (fun a u hE hD hk => f_val (o := ⟨some 51, _, _, _, _, _⟩) (.pointer (some ⟨g, 8, none⟩)) rfl (wanted_none rfl _) (exec_fld 32 8 8 (.tmp 1) (g) rfl (hE 1 (.pointer (some ⟨g, 0, none⟩)) (by kernel_rfl) (by kernel_rfl)) (by kernel_rfl)) rfl) ?_
    refine fsteps_cons 13 rfl (fun a u hE hD hk => f_val (o := ⟨some 52, _, _, _, _, _⟩) (.int .i64 c.qty) rfl (wanted_none rfl _) (exec_loadi 3 Try.underlying3 (.tmp 51) ⟨g, 8, none⟩ (.int .i64 c.qty) rfl (hD 11 51 (by kernel_rfl)) ((HB1.out.kept hk).fld 8 _ rfl)) rfl) ?_
    refine fsteps_cons 14 rfl (fun a u hE hD hk => f_val (o := ⟨some 53, _, _, _, _, _⟩) (.pointer (some ⟨g, 9, none⟩)) rfl (wanted_none rfl _) (exec_fld 32 9 9 (.tmp 1) (g) rfl (hE 1 (.pointer (some ⟨g, 0, none⟩)) (by kernel_rfl) (by kernel_rfl)) (by kernel_rfl)) rfl) ?_
    refine fsteps_cons 15 rfl (fun a u hE hD hk => f_val (o := ⟨some 54, _, _, _, _, _⟩) (.int .i64 c.left) rfl (wanted_none rfl _) (exec_loadi 3 Try.underlying3 (.tmp 53) ⟨g, 9, none⟩ (.int .i64 c.left) rfl (hD 13 53 (by kernel_rfl)) ((HB1.out.kept hk).fld 9 _ rfl)) rfl) ?_
    refine fsteps_cons 16 rfl (fun a u hE hD hk => f_new (o := ⟨some 55, _, _, _, _, _⟩) (.slice (some ⟨u.heap.size, 0, none⟩) 5 5) _ rfl (wanted_none rfl _) (exec_ints 5 _ [(c.id), (c.no), (c.price), (c.qty), (c.left)] rfl rfl (by omega) (by omega) (by show [(0, a.eval (.tmp 46)), (1, a.eval (.tmp 48)), (2, a.eval (.tmp 50)), (3, a.eval (.tmp 52)), (4, a.eval (.tmp 54))] = [(0, .int .i64 c.id), (1, .int .i64 c.no), (2, .int .i64 c.price), (3, .int .i64 c.qty), (4, .int .i64 c.left)]; rw [show a.eval (.tmp 46) = .int .i64 c.id from (hD 6 46 (by kernel_rfl)), show a.eval (.tmp 48) = .int .i64 c.no from (hD 8 48 (by kernel_rfl)), show a.eval (.tmp 50) = .int .i64 c.price from (hD 10 50 (by kernel_rfl)), show a.eval (.tmp 52) = .int .i64 c.qty from (hD 12 52 (by kernel_rfl)), show a.eval (.tmp 54) = .int .i64 c.left from (hD 14 54 (by kernel_rfl))])) (ints_new u [(c.id), (c.no), (c.price), (c.qty), (c.left)] 5 rfl) ((Keep.refl _ u).alloc _)) ?_
    refine fsteps_cons 17 rfl (fun a u hE hD hk => f_call (o := ⟨some 56, _, _, _, _, _⟩) 25 #[a.eval (.tmp 44), a.eval (.tmp 55)] rfl (wanted_none rfl _) (exec_call 25 _ [.tmp 44, .tmp 55] _ [a.eval (.tmp 44), a.eval (.tmp 55)] Try.func25 (by kernel_rfl) (by kernel_rfl) rfl rfl u) (words_any _ _ g ((u8s [c.k]) ++ u8s [c.inst]) [c.id, c.no, c.price, c.qty, c.left] u (hD 4 44 (by kernel_rfl)) (hD 15 55 (by kernel_rfl)) (by have := hgb1.out; have := hk.size; omega) (Nat.le_of_ble_eq_true (by kernel_rfl)) (Nat.le_of_ble_eq_true (by kernel_rfl)))) ?_
    exact fsteps_nil
  intro gv w2 hV k2
  rw [show dstsOf _ 17 = [40, 41, 42, 43, 44, 45, 46, 47, 48, 49, 50, 51, 52, 53, 54, 55, 56] by kernel_rfl]
  simp only [List.foldl_cons, List.foldl_nil, List.setIfInBounds_toArray, List.set_cons_succ, List.set_cons_zero, List.drop_succ_cons, List.drop_zero]
  have hv56 : (.own g (((u8s [c.k]) ++ u8s [c.inst]) ++ w32s [c.id, c.no, c.price, c.qty, c.left]) : Kn).p (gv 56) w2 := hV 16 56 (by kernel_rfl)
  generalize gv 56 = v56 at hv56 ⊢
  clear hV
  have HP2 := Lib.hid hv56
  generalize v56 = v3_2 at HP2 hv56 ⊢
  clear hv56
  have HB2 := Lib.hid (HB1.out.kept k2)
  have hgb2 : Hid (g ≤ w2.heap.size) := by show g ≤ _; have := k2.size; have := hgb1.out; omega
  have kw2 := kw1.trans k2
  clear kw1 k2
  go_wp2
  go_ret
  have he : (((u8s [c.k]) ++ u8s [c.inst]) ++ w32s [c.id, c.no, c.price, c.qty, c.left]) = c.enc := by simp [Nte.enc, hkk.out, u8s, w32s]
  rw [← he]
  exact ⟨_, rfl, HP2.out.low hgw.out, kw2⟩

set_option maxRecDepth 100000 in
set_option maxHeartbeats 3200000 in
theorem note_6 (c : Nte) (w : World) (hkk : Hid (c.k = 6)) (HT : Hid (c.sum.length = 32)) : Gives 12 #[c.v] w (.own w.heap.size c.enc) := by
  unfold Gives Nte.v
  have HB0 : Hid (Blk (w.alloc (.cells c.cells.toArray 32)) w.heap.size 32 c.cells) := Blk.new w _ _
  have kw0 : Kept w (w.alloc (.cells c.cells.toArray 32)) := (Keep.refl _ w).alloc _
  go_enter Try.func12, Try.ntmps12
  go_upto_region 1 with fail
  generalize w.alloc (.cells c.cells.toArray 32) = w0 at HB0 kw0 ⊢
  obtain ⟨g, hg⟩ : ∃ g, g = w.heap.size := ⟨_, rfl⟩
  rw [← hg] at HB0 ⊢
  have hgb0 : Hid (g ≤ w0.heap.size) := by show g ≤ _; have := kw0.size; omega
  have hgw : Hid (w.heap.size ≤ g) := by show _ ≤ g; omega
  clear hg
  refine wp_text 4 [.eq (.pointer (some ⟨g, 0, none⟩)), .eq (.int .i64 c.k), .ints [(c.k)], .own g (u8s [c.k])] rfl (by kernel_rfl) ?_ ?_
  · refine fsteps_cons 1 rfl (fun a u hE hD hk => f_val (o := ⟨some 4, _, _, _, _, _⟩) (.pointer (some ⟨g, 0, none⟩)) rfl (wanted_none rfl _) (exec_fld 32 0 0 (.tmp 1) (g) rfl (hE 1 (.pointer (some ⟨g, 0, none⟩)) (by kernel_rfl) (by kernel_rfl)) (by kernel_rfl)) rfl) ?_
    refine fsteps_cons 2 rfl (fun a u hE hD hk => f_val (o := ⟨some 5, _, _, _, _, _⟩) (.int .i64 c.k) rfl (wanted_none rfl _) (exec_loadi 3 Try.underlying3 (.tmp 4) ⟨g, 0, none⟩ (.int .i64 c.k) rfl (hD 0 4 (by kernel_rfl)) ((HB0.out.kept hk).fld 0 _ rfl)) rfl) ?_
    refine fsteps_cons 3 rfl (fun a u hE hD hk => f_new (o := ⟨some 6, _, _, _, _, _⟩) (.slice (some ⟨u.heap.size, 0, none⟩) 1 1) _ rfl (wanted_none rfl _) (exec_ints 1 _ [(c.k)] rfl rfl (by omega) (by omega) (by show [(0, a.eval (.tmp 5))] = [(0, .int .i64 c.k)]; rw [show a.eval (.tmp 5) = .int .i64 c.k from (hD 1 5 (by kernel_rfl))])) (ints_new u [(c.k)] 1 rfl) ((Keep.refl _ u).alloc _)) ?_
    refine fsteps_cons 4 rfl (fun a u hE hD hk => f_call (o := ⟨some 7, _, _, _, _, _⟩) 23 #[.slice none 0 0, a.eval (.tmp 6)] rfl (wanted_none rfl _) (exec_call 23 _ [.const (.slice none 0 0), .tmp 6] _ [.slice none 0 0, a.eval (.tmp 6)] Try.func23 (by kernel_rfl) (by kernel_rfl) rfl rfl u) (bytes_any _ _ g [] [c.k] u (OwnV.nil _ _) (hD 2 6 (by kernel_rfl)) (by have := hgb0.out; have := hk.size; omega) (Nat.le_of_ble_eq_true (by kernel_rfl)) (Nat.le_of_ble_eq_true (by kernel_rfl)))) ?_
    exact fsteps_nil
  intro gv w1 hV k1
  rw [show dstsOf _ 4 = [4, 5, 6, 7] by kernel_rfl]
  simp only [List.foldl_cons, List.foldl_nil, List.setIfInBounds_toArray, List.set_cons_succ, List.set_cons_zero, List.drop_succ_cons, List.drop_zero]
  have hv7 : (.own g (u8s [c.k]) : Kn).p (gv 7) w1 := hV 3 7 (by kernel_rfl)
  generalize gv 7 = v7 at hv7 ⊢
  clear hV
  have HP1 := Lib.hid hv7
  generalize v7 = v3_1 at HP1 hv7 ⊢
  clear hv7
  have HB1 := Lib.hid (HB0.out.kept k1)
  have hgb1 : Hid (g ≤ w1.heap.size) := by show g ≤ _; have := k1.size; have := hgb0.out; omega
  have kw1 := kw0.trans k1
  clear kw0 k1
  have hc : w1.cell? ⟨g, 0, none⟩ = some (.int .i64 6) := by rw [← hkk.out]; exact HB1.out.fld 0 _ rfl
  go_upto_region 16 with fail
  refine wp_free 11 [.eq (v3_1), .eq (.pointer (some ⟨g, 3, none⟩)), .eq (.int .i64 c.inst), .ints [(c.inst)], .own g ((u8s [c.k]) ++ u8s [c.inst]), .eq (.pointer (some ⟨g, 4, none⟩)), .eq (.int .i64 c.id), .eq (.pointer (some ⟨g, 9, none⟩)), .eq (.int .i64 c.left), .ints [(c.id), (c.left)], .own g (((u8s [c.k]) ++ u8s [c.inst]) ++ w32s [c.id, c.left])] (by kernel_rfl) rfl (by kernel_rfl) ?_ ?_
  · refine fsteps_cons 1 rfl (fun a u hE hD hk => f_val (o := ⟨some 59, _, _, _, _, _⟩) (v3_1) rfl (wanted_none rfl _) (exec_move (.tmp 3) (v3_1) rfl (hE 3 (v3_1) (by kernel_rfl) (by kernel_rfl))) rfl) ?_
    refine fsteps_cons 2 rfl (fun a u hE hD hk => f_val (o := ⟨some 60, _, _, _, _, _⟩) (.pointer (some ⟨g, 3, none⟩)) rfl (wanted_none rfl _) (exec_fld 32 3 3 (.tmp 1) (g) rfl (hE 1 (.pointer (some ⟨g, 0, none⟩)) (by kernel_rfl) (by kernel_rfl)) (by kernel_rfl)) rfl) ?_
    refine fsteps_cons 3 rfl (fun a u hE hD hk => f_val (o := ⟨some 61, _, _, _, _, _⟩) (.int .i64 c.inst) rfl (wanted_none rfl _) (exec_loadi 3 Try.underlying3 (.tmp 60) ⟨g, 3, none⟩ (.int .i64 c.inst) rfl (hD 1 60 (by kernel_rfl)) ((HB1.out.kept hk).fld 3 _ rfl)) rfl) ?_
    refine fsteps_cons 4 rfl (fun a u hE hD hk => f_new (o := ⟨some 62, _, _, _, _, _⟩) (.slice (some ⟨u.heap.size, 0, none⟩) 1 1) _ rfl (wanted_none rfl _) (exec_ints 1 _ [(c.inst)] rfl rfl (by omega) (by omega) (by show [(0, a.eval (.tmp 61))] = [(0, .int .i64 c.inst)]; rw [show a.eval (.tmp 61) = .int .i64 c.inst from (hD 2 61 (by kernel_rfl))])) (ints_new u [(c.inst)] 1 rfl) ((Keep.refl _ u).alloc _)) ?_
    refine fsteps_cons 5 rfl (fun a u hE hD hk => f_call (o := ⟨some 63, _, _, _, _, _⟩) 23 #[v3_1, a.eval (.tmp 62)] rfl (wanted_none rfl _) (exec_call 23 _ [.tmp 59, .tmp 62] _ [v3_1, a.eval (.tmp 62)] Try.func23 (by kernel_rfl) (by kernel_rfl) rfl (show [a.eval (.tmp 59), a.eval (.tmp 62)] = [v3_1, a.eval (.tmp 62)] from (by rw [show a.eval (.tmp 59) = v3_1 from (hD 0 59 (by kernel_rfl))] <;> rfl)) u) (bytes_any _ _ g (u8s [c.k]) [c.inst] u (HP1.out.kept hk) (hD 3 62 (by kernel_rfl)) (by have := hgb1.out; have := hk.size; omega) (Nat.le_of_ble_eq_true (by kernel_rfl)) (Nat.le_of_ble_eq_true (by kernel_rfl)))) ?_
    refine fsteps_cons 6 rfl (fun a u hE hD hk => f_val (o := ⟨some 64, _, _, _, _, _⟩) (.pointer (some ⟨g, 4, none⟩)) rfl (wanted_none rfl _) (exec_fld 32 4 4 (.tmp 1) (g) rfl (hE 1 (.pointer (some ⟨g, 0, none⟩)) (by kernel_rfl) (by kernel_rfl)) (by kernel_rfl)) rfl) ?_
    refine fsteps_cons 7 rfl (fun a u hE hD hk => f_val (o := ⟨some 65, _, _, _, _, _⟩) (.int .i64 c.id) rfl (wanted_none rfl _) (exec_loadi 3 Try.underlying3 (.tmp 64) ⟨g, 4, none⟩ (.int .i64 c.id) rfl (hD 5 64 (by kernel_rfl)) ((HB1.out.kept hk).fld 4 _ rfl)) rfl) ?_
    refine fsteps_cons 8 rfl (fun a u hE hD hk => f_val (o := ⟨some 66, _, _, _, _, _⟩) (.pointer (some ⟨g, 9, none⟩)) rfl (wanted_none rfl _) (exec_fld 32 9 9 (.tmp 1) (g) rfl (hE 1 (.pointer (some ⟨g, 0, none⟩)) (by kernel_rfl) (by kernel_rfl)) (by kernel_rfl)) rfl) ?_
    refine fsteps_cons 9 rfl (fun a u hE hD hk => f_val (o := ⟨some 67, _, _, _, _, _⟩) (.int .i64 c.left) rfl (wanted_none rfl _) (exec_loadi 3 Try.underlying3 (.tmp 66) ⟨g, 9, none⟩ (.int .i64 c.left) rfl (hD 7 66 (by kernel_rfl)) ((HB1.out.kept hk).fld 9 _ rfl)) rfl) ?_
    refine fsteps_cons 10 rfl (fun a u hE hD hk => f_new (o := ⟨some 68, _, _, _, _, _⟩) (.slice (some ⟨u.heap.size, 0, none⟩) 2 2) _ rfl (wanted_none rfl _) (exec_ints 2 _ [(c.id), (c.left)] rfl rfl (by omega) (by omega) (by show [(0, a.eval (.tmp 65)), (1, a.eval (.tmp 67))] = [(0, .int .i64 c.id), (1, .int .i64 c.left)]; rw [show a.eval (.tmp 65) = .int .i64 c.id from (hD 6 65 (by kernel_rfl)), show a.eval (.tmp 67) = .int .i64 c.left from (hD 8 67 (by kernel_rfl))])) (ints_new u [(c.id), (c.left)] 2 rfl) ((Keep.refl _ u).alloc _)) ?_
    refine fsteps_cons 11 rfl (fun a u hE hD hk => f_call (o := ⟨some 69, _, _, _, _, _⟩) 25 #[a.eval (.tmp 63), a.eval (.tmp 68)] rfl (wanted_none rfl _) (exec_call 25 _ [.tmp 63, .tmp 68] _ [a.eval (.tmp 63), a.eval (.tmp 68)] Try.func25 (by kernel_rfl) (by kernel_rfl) rfl rfl u) (words_any _ _ g ((u8s [c.k]) ++ u8s [c.inst]) [c.id, c.left] u (hD 4 63 (by kernel_rfl)) (hD 9 68 (by kernel_rfl)) (by have := hgb1.out; have := hk.size; omega) (Nat.le_of_ble_eq_true (by kernel_rfl)) (Nat.le_of_ble_eq_true (by kernel_rfl)))) ?_
    exact fsteps_nil
  intro gv w2 hV k2
  rw [show dstsOf _ 11 = [59, 60, 61, 62, 63, 64, 65, 66, 67, 68, 69] by kernel_rfl]
  simp only [List.foldl_cons, List.foldl_nil, List.setIfInBounds_toArray, List.set_cons_succ, List.set_cons_zero, List.drop_succ_cons, List.drop_zero]
  have hv69 : (.own g (((u8s [c.k]) ++ u8s [c.inst]) ++ w32s [c.id, c.left]) : Kn).p (gv 69) w2 := hV 10 69 (by kernel_rfl)
  generalize gv 69 = v69 at hv69 ⊢
  clear hV
  have HP2 := Lib.hid hv69
  generalize v69 = v3_2 at HP2 hv69 ⊢
  clear hv69
  have HB2 := Lib.hid (HB1.out.kept k2)
  have hgb2 : Hid (g ≤ w2.heap.size) := by show g ≤ _; have := k2.size; have := hgb1.out; omega
  have kw2 := kw1.trans k2
  clear kw1 k2
  go_wp2
  go_ret
  have he : (((u8s [c.k]) ++ u8s [c.inst]) ++ w32s [c.id, c.left]) = c.enc := by simp [Nte.enc, hkk.out, u8s, w32s]
  rw [← he]
  exact ⟨_, rfl, HP2.out.low hgw.out, kw2⟩

set_option maxRecDepth 100000 in
set_option maxHeartbeats 3200000 in
theorem note_7 (c : Nte) (w : World) (hkk : Hid (c.k = 7)) (HT : Hid (c.sum.length = 32)) : Gives 12 #[c.v] w (.own w.heap.size c.enc) := by
  unfold Gives Nte.v
  have HB0 : Hid (Blk (w.alloc (.cells c.cells.toArray 32)) w.heap.size 32 c.cells) := Blk.new w _ _
  have kw0 : Kept w (w.alloc (.cells c.cells.toArray 32)) := (Keep.refl _ w).alloc _
  go_enter Try.func12, Try.ntmps12
  go_upto_region 1 with fail
  generalize w.alloc (.cells c.cells.toArray 32) = w0 at HB0 kw0 ⊢
  obtain ⟨g, hg⟩ : ∃ g, g = w.heap.size := ⟨_, rfl⟩
  rw [← hg] at HB0 ⊢
  have hgb0 : Hid (g ≤ w0.heap.size) := by show g ≤ _; have := kw0.size; omega
  have hgw : Hid (w.heap.size ≤ g) := by show _ ≤ g; omega
  clear hg
  refine wp_text 4 [.eq (.pointer (some ⟨g, 0, none⟩)), .eq (.int .i64 c.k), .ints [(c.k)], .own g (u8s [c.k])] rfl (by kernel_rfl) ?_ ?_
  · refine fsteps_cons 1 rfl (fun a u hE hD hk => f_val (o := ⟨some 4, _, _, _, _, _⟩) (.pointer (some ⟨g, 0, none⟩)) rfl (wanted_none rfl _) (exec_fld 32 0 0 (.tmp 1) (g) rfl (hE 1 (.pointer (some ⟨g, 0, none⟩)) (by kernel_rfl) (by kernel_rfl)) (by kernel_rfl)) rfl) ?_
    refine fsteps_cons 2 rfl (fun a u hE hD hk => f_val (o := ⟨some 5, _, _, _, _, _⟩) (.int .i64 c.k) rfl (wanted_none rfl _) (exec_loadi 3 Try.underlying3 (.tmp 4) ⟨g, 0, none⟩ (.int .i64 c.k) rfl (hD 0 4 (by kernel_rfl)) ((HB0.out.kept hk).fld 0 _ rfl)) rfl) ?_
    refine fsteps_cons 3 rfl (fun a u hE hD hk => f_new (o := ⟨some 6, _, _, _, _, _⟩) (.slice (some ⟨u.heap.size, 0, none⟩) 1 1) _ rfl (wanted_none rfl _) (exec_ints 1 _ [(c.k)] rfl rfl (by omega) (by omega) (by show [(0, a.eval (.tmp 5))] = [(0, .int .i64 c.k)]; rw [show a.eval (.tmp 5) = .int .i64 c.k from (hD 1 5 (by kernel_rfl))])) (ints_new u [(c.k)] 1 rfl) ((Keep.refl _ u).alloc _)) ?_
    refine fsteps_cons 4 rfl (fun a u hE hD hk => f_call (o := ⟨some 7, _, _, _, _, _⟩) 23 #[.slice none 0 0, a.eval (.tmp 6)] rfl (wanted_none rfl _) (exec_call 23 _ [.const (.slice none 0 0), .tmp 6] _ [.slice none 0 0, a.eval (.tmp 6)] Try.func23 (by kernel_rfl) (by kernel_rfl) rfl rfl u) (bytes_any _ _ g [] [c.k] u (OwnV.nil _ _) (hD 2 6 (by kernel_rfl)) (by have := hgb0.out; have := hk.size; omega) (Nat.le_of_ble_eq_true (by kernel_rfl)) (Nat.le_of_ble_eq_true (by kernel_rfl)))) ?_
    exact fsteps_nil
  intro gv w1 hV k1
  rw [show dstsOf _ 4 = [4, 5, 6, 7] by kernel_rfl]
  simp only [List.foldl_cons, List.foldl_nil, List.setIfInBounds_toArray, List.set_cons_succ, List.set_cons_zero, List.drop_succ_cons, List.drop_zero]
  have hv7 : (.own g (u8s [c.k]) : Kn).p (gv 7) w1 := hV 3 7 (by kernel_rfl)
  generalize gv 7 = v7 at hv7 ⊢
  clear hV
  have HP1 := Lib.hid hv7
  generalize v7 = v3_1 at HP1 hv7 ⊢
  clear hv7
  have HB1 := Lib.hid (HB0.out.kept k1)
  have hgb1 : Hid (g ≤ w1.heap.size) := by show g ≤ _; have := k1.size; have := hgb0.out; omega
  have kw1 := kw0.trans k1
  clear kw0 k1
  have hc : w1.cell? ⟨g, 0, none⟩ = some (.int .i64 7) := by rw [← hkk.out]; exact HB1.out.fld 0 _ rfl
  go_upto_region 18 with fail
  refine wp_free 13 [.eq (v3_1), .eq (.pointer (some ⟨g, 3, none⟩)), .eq (.int .i64 c.inst), .ints [(c.inst)], .own g ((u8s [c.k]) ++ u8s [c.inst]), .eq (.pointer (some ⟨g, 5, none⟩)), .eq (.int .i64 c.no), .eq (.pointer (some ⟨g, 7, none⟩)), .eq (.int .i64 c.price), .eq (.pointer (some ⟨g, 8, none⟩)), .eq (.int .i64 c.qty), .ints [(c.no), (c.price), (c.qty)], .own g (((u8s [c.k]) ++ u8s [c.inst]) ++ w32s [c.no, c.price, c.qty])] (by kernel_rfl) rfl (by kernel_rfl) ?_ ?_
  · refine fsteps_cons 1 rfl (fun a u hE hD hk => f_val (o := ⟨some 72, _, _, _, _, _⟩) (v3_1) rfl (wanted_none rfl _) (exec_move (.tmp 3) (v3_1) rfl (hE 3 (v3_1) (by kernel_rfl) (by kernel_rfl))) rfl) ?_
    refine fsteps_cons 2 rfl (fun a u hE hD hk => f_val (o := ⟨some 73, _, _, _, _, _⟩) (.pointer (some ⟨g, 3, none⟩)) rfl (wanted_none rfl _) (exec_fld 32 3 3 (.tmp 1) (g) rfl (hE 1 (.pointer (some ⟨g, 0, none⟩)) (by kernel_rfl) (by kernel_rfl)) (by kernel_rfl)) rfl) ?_
    refine fsteps_cons 3 rfl (fun a u hE hD hk => f_val (o := ⟨some 74, _, _, _, _, _⟩) (.int .i64 c.inst) rfl (wanted_none rfl _) (exec_loadi 3 Try.underlying3 (.tmp 73) ⟨g, 3, none⟩ (.int .i64 c.inst) rfl (hD 1 73 (by kernel_rfl)) ((HB1.out.kept hk).fld 3 _ rfl)) rfl) ?_
    refine fsteps_cons 4 rfl (fun a u hE hD hk => f_new (o := ⟨some 75, _, _, _, _, _⟩) (.slice (some ⟨u.heap.size, 0, none⟩) 1 1) _ rfl (wanted_none rfl _) (exec_ints 1 _ [(c.inst)] rfl rfl (by omega) (by omega) (by show [(0, a.eval (.tmp 74))] = [(0, .int .i64 c.inst)]; rw [show a.eval (.tmp 74) = .int .i64 c.inst from (hD 2 74 (by kernel_rfl))])) (ints_new u [(c.inst)] 1 rfl) ((Keep.refl _ u).alloc _)) ?_
    refine fsteps_cons 5 rfl (fun a u hE hD hk => f_call (o := ⟨some 76, _, _, _, _, _⟩) 23 #[v3_1, a.eval (.tmp 75)] rfl (wanted_none rfl _) (exec_call 23 _ [.tmp 72, .tmp 75] _ [v3_1, a.eval (.tmp 75)] Try.func23 (by kernel_rfl) (by kernel_rfl) rfl (show [a.eval (.tmp 72), a.eval (.tmp 75)] = [v3_1, a.eval (.tmp 75)] from (by rw [show a.eval (.tmp 72) = v3_1 from (hD 0 72 (by kernel_rfl))] <;> rfl)) u) (bytes_any _ _ g (u8s [c.k]) [c.inst] u (HP1.out.kept hk) (hD 3 75 (by kernel_rfl)) (by have := hgb1.out; have := hk.size; omega) (Nat.le_of_ble_eq_true (by kernel_rfl)) (Nat.le_of_ble_eq_true (by kernel_rfl)))) ?_
    refine fsteps_cons 6 rfl (fun a u hE hD hk => f_val (o := ⟨some 77, _, _, _, _, _⟩) (.pointer (some ⟨g, 5, none⟩)) rfl (wanted_none rfl _) (exec_fld 32 5 5 (.tmp 1) (g) rfl (hE 1 (.pointer (some ⟨g, 0, none⟩)) (by kernel_rfl) (by kernel_rfl)) (by kernel_rfl)) rfl) ?_
    refine fsteps_cons 7 rfl (fun a u hE hD hk => f_val (o := ⟨some 78, _, _, _, _, _⟩) (.int .i64 c.no) rfl (wanted_none rfl _) (exec_loadi 3 Try.underlying3 (.tmp 77) ⟨g, 5, none⟩ (.int .i64 c.no) rfl (hD 5 77 (by kernel_rfl)) ((HB1.out.kept hk).fld 5 _ rfl)) rfl) ?_
    refine fsteps_cons 8 rfl (fun a u hE hD hk => f_val (o := ⟨some 79, _, _, _, _, _⟩) (.pointer (some ⟨g, 7, none⟩)) rfl (wanted_none rfl _) (exec_fld 32 7 7 (.tmp 1) (g) rfl (hE 1 (.pointer (some ⟨g, 0, none⟩)) (by kernel_rfl) (by kernel_rfl)) (by kernel_rfl)) rfl) ?_
    refine fsteps_cons 9 rfl (fun a u hE hD hk => f_val (o := ⟨some 80, _, _, _, _, _⟩) (.int .i64 c.price) rfl (wanted_none rfl _) (exec_loadi 3 Try.underlying3 (.tmp 79) ⟨g, 7, none⟩ (.int .i64 c.price) rfl (hD 7 79 (by kernel_rfl)) ((HB1.out.kept hk).fld 7 _ rfl)) rfl) ?_
    refine fsteps_cons 10 rfl (fun a u hE hD hk => f_val (o := ⟨some 81, _, _, _, _, _⟩) (.pointer (some ⟨g, 8, none⟩)) rfl (wanted_none rfl _) (exec_fld 32 8 8 (.tmp 1) (g) rfl (hE 1 (.pointer (some ⟨g, 0, none⟩)) (by kernel_rfl) (by kernel_rfl)) (by kernel_rfl)) rfl) ?_
    refine fsteps_cons 11 rfl (fun a u hE hD hk => f_val (o := ⟨some 82, _, _, _, _, _⟩) (.int .i64 c.qty) rfl (wanted_none rfl _) (exec_loadi 3 Try.underlying3 (.tmp 81) ⟨g, 8, none⟩ (.int .i64 c.qty) rfl (hD 9 81 (by kernel_rfl)) ((HB1.out.kept hk).fld 8 _ rfl)) rfl) ?_
    refine fsteps_cons 12 rfl (fun a u hE hD hk => f_new (o := ⟨some 83, _, _, _, _, _⟩) (.slice (some ⟨u.heap.size, 0, none⟩) 3 3) _ rfl (wanted_none rfl _) (exec_ints 3 _ [(c.no), (c.price), (c.qty)] rfl rfl (by omega) (by omega) (by show [(0, a.eval (.tmp 78)), (1, a.eval (.tmp 80)), (2, a.eval (.tmp 82))] = [(0, .int .i64 c.no), (1, .int .i64 c.price), (2, .int .i64 c.qty)]; rw [show a.eval (.tmp 78) = .int .i64 c.no from (hD 6 78 (by kernel_rfl)), show a.eval (.tmp 80) = .int .i64 c.price from (hD 8 80 (by kernel_rfl)), show a.eval (.tmp 82) = .int .i64 c.qty from (hD 10 82 (by kernel_rfl))])) (ints_new u [(c.no), (c.price), (c.qty)] 3 rfl) ((Keep.refl _ u).alloc _)) ?_
    refine fsteps_cons 13 rfl (fun a u hE hD hk => f_call (o := ⟨some 84, _, _, _, _, _⟩) 25 #[a.eval (.tmp 76), a.eval (.tmp 83)] rfl (wanted_none rfl _) (exec_call 25 _ [.tmp 76, .tmp 83] _ [a.eval (.tmp 76), a.eval (.tmp 83)] Try.func25 (by kernel_rfl) (by kernel_rfl) rfl rfl u) (words_any _ _ g ((u8s [c.k]) ++ u8s [c.inst]) [c.no, c.price, c.qty] u (hD 4 76 (by kernel_rfl)) (hD 11 83 (by kernel_rfl)) (by have := hgb1.out; have := hk.size; omega) (Nat.le_of_ble_eq_true (by kernel_rfl)) (Nat.le_of_ble_eq_true (by kernel_rfl)))) ?_
    exact fsteps_nil
  intro gv w2 hV k2
  rw [show dstsOf _ 13 = [72, 73, 74, 75, 76, 77, 78, 79, 80, 81, 82, 83, 84] by kernel_rfl]
  simp only [List.foldl_cons, List.foldl_nil, List.setIfInBounds_toArray, List.set_cons_succ, List.set_cons_zero, List.drop_succ_cons, List.drop_zero]
  have hv84 : (.own g (((u8s [c.k]) ++ u8s [c.inst]) ++ w32s [c.no, c.price, c.qty]) : Kn).p (gv 84) w2 := hV 12 84 (by kernel_rfl)
  generalize gv 84 = v84 at hv84 ⊢
  clear hV
  have HP2 := Lib.hid hv84
  generalize v84 = v3_2 at HP2 hv84 ⊢
  clear hv84
  have HB2 := Lib.hid (HB1.out.kept k2)
  have hgb2 : Hid (g ≤ w2.heap.size) := by show g ≤ _; have := k2.size; have := hgb1.out; omega
  have kw2 := kw1.trans k2
  clear kw1 k2
  go_wp2
  go_ret
  have he : (((u8s [c.k]) ++ u8s [c.inst]) ++ w32s [c.no, c.price, c.qty]) = c.enc := by simp [Nte.enc, hkk.out, u8s, w32s]
  rw [← he]
  exact ⟨_, rfl, HP2.out.low hgw.out, kw2⟩

set_option maxRecDepth 100000 in
set_option maxHeartbeats 3200000 in
theorem note_8 (c : Nte) (w : World) (hkk : Hid (c.k = 8)) (HT : Hid (c.sum.length = 32)) : Gives 12 #[c.v] w (.own w.heap.size c.enc) := by
  unfold Gives Nte.v
  have HB0 : Hid (Blk (w.alloc (.cells c.cells.toArray 32)) w.heap.size 32 c.cells) := Blk.new w _ _
  have kw0 : Kept w (w.alloc (.cells c.cells.toArray 32)) := (Keep.refl _ w).alloc _
  go_enter Try.func12, Try.ntmps12
  go_upto_region 1 with fail
  generalize w.alloc (.cells c.cells.toArray 32) = w0 at HB0 kw0 ⊢
  obtain ⟨g, hg⟩ : ∃ g, g = w.heap.size := ⟨_, rfl⟩
  rw [← hg] at HB0 ⊢
  have hgb0 : Hid (g ≤ w0.heap.size) := by show g ≤ _; have := kw0.size; omega
  have hgw : Hid (w.heap.size ≤ g) := by show _ ≤ g; omega
  clear hg
  refine wp_text 4 [.eq (.pointer (some ⟨g, 0, none⟩)), .eq (.int .i64 c.k), .ints [(c.k)], .own g (u8s [c.k])] rfl (by kernel_rfl) ?_ ?_
  · refine fsteps_cons 1 rfl (fun a u hE hD hk => f_val (o := ⟨some 4, _, _, _, _, _⟩) (.pointer (some ⟨g, 0, none⟩)) rfl (wanted_none rfl _) (exec_fld 32 0 0 (.tmp 1) (g) rfl (hE 1 (.pointer (some ⟨g, 0, none⟩)) (by kernel_rfl) (by kernel_rfl)) (by kernel_rfl)) rfl) ?_
    refine fsteps_cons 2 rfl (fun a u hE hD hk => f_val (o := ⟨some 5, _, _, _, _, _⟩) (.int .i64 c.k) rfl (wanted_none rfl _) (exec_loadi 3 Try.underlying3 (.tmp 4) ⟨g, 0, none⟩ (.int .i64 c.k) rfl (hD 0 4 (by kernel_rfl)) ((HB0.out.kept hk).fld 0 _ rfl)) rfl) ?_
    refine fsteps_cons 3 rfl (fun a u hE hD hk => f_new (o := ⟨some 6, _, _, _, _, _⟩) (.slice (some ⟨u.heap.size, 0, none⟩) 1 1) _ rfl (wanted_none rfl _) (exec_ints 1 _ [(c.k)] rfl rfl (by omega) (by omega) (by show [(0, a.eval (.tmp 5))] = [(0, .int .i64 c.k)]; rw [show a.eval (.tmp 5) = .int .i64 c.k from (hD 1 5 (by kernel_rfl))])) (ints_new u [(c.k)] 1 rfl) ((Keep.refl _ u).alloc _)) ?_
    refine fsteps_cons 4 rfl (fun a u hE hD hk => f_call (o := ⟨some 7, _, _, _, _, _⟩) 23 #[.slice none 0 0, a.eval (.tmp 6)] rfl (wanted_none rfl _) (exec_call 23 _ [.const (.slice none 0 0), .tmp 6] _ [.slice none 0 0, a.eval (.tmp 6)] Try.func23 (by kernel_rfl) (by kernel_rfl) rfl rfl u) (bytes_any _ _ g [] [c.k] u (OwnV.nil _ _) (hD 2 6 (by kernel_rfl)) (by have := hgb0.out; have := hk.size; omega) (Nat.le_of_ble_eq_true (by kernel_rfl)) (Nat.le_of_ble_eq_true (by kernel_rfl)))) ?_
    exact fsteps_nil
  intro gv w1 hV k1
  rw [show dstsOf _ 4 = [4, 5, 6, 7] by kernel_rfl]
  simp only [List.foldl_cons, List.foldl_nil, List.setIfInBounds_toArray, List.set_cons_succ, List.set_cons_zero, List.drop_succ_cons, List.drop_zero]
  have hv7 : (.own g (u8s [c.k]) : Kn).p (gv 7) w1 := hV 3 7 (by kernel_rfl)
  generalize gv 7 = v7 at hv7 ⊢
  clear hV
  have HP1 := Lib.hid hv7
  generalize v7 = v3_1 at HP1 hv7 ⊢
  clear hv7
  have HB1 := Lib.hid (HB0.out.kept k1)
  have hgb1 : Hid (g ≤ w1.heap.size) := by show g ≤ _; have := k1.size; have := hgb0.out; omega
  have kw1 := kw0.trans k1
  clear kw0 k1
  have hc : w1.cell? ⟨g, 0, none⟩ = some (.int .i64 8) := by rw [← hkk.out]; exact HB1.out.fld 0 _ rfl
  go_upto_region 20 with fail
  refine wp_free 13 [.eq (v3_1), .eq (.pointer (some ⟨g, 3, none⟩)), .eq (.int .i64 c.inst), .eq (.pointer (some ⟨g, 6, none⟩)), .eq (.int .i64 c.side), .ints [(c.inst), (c.side)], .own g ((u8s [c.k]) ++ u8s [c.inst, c.side]), .eq (.pointer (some ⟨g, 7, none⟩)), .eq (.int .i64 c.price), .eq (.pointer (some ⟨g, 8, none⟩)), .eq (.int .i64 c.qty), .ints [(c.price), (c.qty)], .own g (((u8s [c.k]) ++ u8s [c.inst, c.side]) ++ w32s [c.price, c.qty])] (by kernel_rfl) rfl (by kernel_rfl) ?_ ?_
  · refine fsteps_cons 1 rfl (fun a u hE hD hk => f_val (o := ⟨some 87, _, _, _, _, _⟩) (v3_1) rfl (wanted_none rfl _) (exec_move (.tmp 3) (v3_1) rfl (hE 3 (v3_1) (by kernel_rfl) (by kernel_rfl))) rfl) ?_
    refine fsteps_cons 2 rfl (fun a u hE hD hk => f_val (o := ⟨some 88, _, _, _, _, _⟩) (.pointer (some ⟨g, 3, none⟩)) rfl (wanted_none rfl _) (exec_fld 32 3 3 (.tmp 1) (g) rfl (hE 1 (.pointer (some ⟨g, 0, none⟩)) (by kernel_rfl) (by kernel_rfl)) (by kernel_rfl)) rfl) ?_
    refine fsteps_cons 3 rfl (fun a u hE hD hk => f_val (o := ⟨some 89, _, _, _, _, _⟩) (.int .i64 c.inst) rfl (wanted_none rfl _) (exec_loadi 3 Try.underlying3 (.tmp 88) ⟨g, 3, none⟩ (.int .i64 c.inst) rfl (hD 1 88 (by kernel_rfl)) ((HB1.out.kept hk).fld 3 _ rfl)) rfl) ?_
    refine fsteps_cons 4 rfl (fun a u hE hD hk => f_val (o := ⟨some 90, _, _, _, _, _⟩) (.pointer (some ⟨g, 6, none⟩)) rfl (wanted_none rfl _) (exec_fld 32 6 6 (.tmp 1) (g) rfl (hE 1 (.pointer (some ⟨g, 0, none⟩)) (by kernel_rfl) (by kernel_rfl)) (by kernel_rfl)) rfl) ?_
    refine fsteps_cons 5 rfl (fun a u hE hD hk => f_val (o := ⟨some 91, _, _, _, _, _⟩) (.int .i64 c.side) rfl (wanted_none rfl _) (exec_loadi 3 Try.underlying3 (.tmp 90) ⟨g, 6, none⟩ (.int .i64 c.side) rfl (hD 3 90 (by kernel_rfl)) ((HB1.out.kept hk).fld 6 _ rfl)) rfl) ?_
    refine fsteps_cons 6 rfl (fun a u hE hD hk => f_new (o := ⟨some 92, _, _, _, _, _⟩) (.slice (some ⟨u.heap.size, 0, none⟩) 2 2) _ rfl (wanted_none rfl _) (exec_ints 2 _ [(c.inst), (c.side)] rfl rfl (by omega) (by omega) (by show [(0, a.eval (.tmp 89)), (1, a.eval (.tmp 91))] = [(0, .int .i64 c.inst), (1, .int .i64 c.side)]; rw [show a.eval (.tmp 89) = .int .i64 c.inst from (hD 2 89 (by kernel_rfl)), show a.eval (.tmp 91) = .int .i64 c.side from (hD 4 91 (by kernel_rfl))])) (ints_new u [(c.inst), (c.side)] 2 rfl) ((Keep.refl _ u).alloc _)) ?_
    refine fsteps_cons 7 rfl (fun a u hE hD hk => f_call (o := ⟨some 93, _, _, _, _, _⟩) 23 #[v3_1, a.eval (.tmp 92)] rfl (wanted_none rfl _) (exec_call 23 _ [.tmp 87, .tmp 92] _ [v3_1, a.eval (.tmp 92)] Try.func23 (by kernel_rfl) (by kernel_rfl) rfl (show [a.eval (.tmp 87), a.eval (.tmp 92)] = [v3_1, a.eval (.tmp 92)] from (by rw [show a.eval (.tmp 87) = v3_1 from (hD 0 87 (by kernel_rfl))] <;> rfl)) u) (bytes_any _ _ g (u8s [c.k]) [c.inst, c.side] u (HP1.out.kept hk) (hD 5 92 (by kernel_rfl)) (by have := hgb1.out; have := hk.size; omega) (Nat.le_of_ble_eq_true (by kernel_rfl)) (Nat.le_of_ble_eq_true (by kernel_rfl)))) ?_
    refine fsteps_cons 8 rfl (fun a u hE hD hk => f_val (o := ⟨some 94, _, _, _, _, _⟩) (.pointer (some ⟨g, 7, none⟩)) rfl (wanted_none rfl _) (exec_fld 32 7 7 (.tmp 1) (g) rfl (hE 1 (.pointer (some ⟨g, 0, none⟩)) (by kernel_rfl) (by kernel_rfl)) (by kernel_rfl)) rfl) ?_
    refine fsteps_cons 9 rfl (fun a u hE hD hk => f_val (o := ⟨some 95, _, _, _, _, _⟩) (.int .i64 c.price) rfl (wanted_none rfl _) (exec_loadi 3 Try.underlying3 (.tmp 94) ⟨g, 7, none⟩ (.int .i64 c.price) rfl (hD 7 94 (by kernel_rfl)) ((HB1.out.kept hk).fld 7 _ rfl)) rfl) ?_
    refine fsteps_cons 10 rfl (fun a u hE hD hk => f_val (o := ⟨some 96, _, _, _, _, _⟩) (.pointer (some ⟨g, 8, none⟩)) rfl (wanted_none rfl _) (exec_fld 32 8 8 (.tmp 1) (g) rfl (hE 1 (.pointer (some ⟨g, 0, none⟩)) (by kernel_rfl) (by kernel_rfl)) (by kernel_rfl)) rfl) ?_
    refine fsteps_cons 11 rfl (fun a u hE hD hk => f_val (o := ⟨some 97, _, _, _, _, _⟩) (.int .i64 c.qty) rfl (wanted_none rfl _) (exec_loadi 3 Try.underlying3 (.tmp 96) ⟨g, 8, none⟩ (.int .i64 c.qty) rfl (hD 9 96 (by kernel_rfl)) ((HB1.out.kept hk).fld 8 _ rfl)) rfl) ?_
    refine fsteps_cons 12 rfl (fun a u hE hD hk => f_new (o := ⟨some 98, _, _, _, _, _⟩) (.slice (some ⟨u.heap.size, 0, none⟩) 2 2) _ rfl (wanted_none rfl _) (exec_ints 2 _ [(c.price), (c.qty)] rfl rfl (by omega) (by omega) (by show [(0, a.eval (.tmp 95)), (1, a.eval (.tmp 97))] = [(0, .int .i64 c.price), (1, .int .i64 c.qty)]; rw [show a.eval (.tmp 95) = .int .i64 c.price from (hD 8 95 (by kernel_rfl)), show a.eval (.tmp 97) = .int .i64 c.qty from (hD 10 97 (by kernel_rfl))])) (ints_new u [(c.price), (c.qty)] 2 rfl) ((Keep.refl _ u).alloc _)) ?_
    refine fsteps_cons 13 rfl (fun a u hE hD hk => f_call (o := ⟨some 99, _, _, _, _, _⟩) 25 #[a.eval (.tmp 93), a.eval (.tmp 98)] rfl (wanted_none rfl _) (exec_call 25 _ [.tmp 93, .tmp 98] _ [a.eval (.tmp 93), a.eval (.tmp 98)] Try.func25 (by kernel_rfl) (by kernel_rfl) rfl rfl u) (words_any _ _ g ((u8s [c.k]) ++ u8s [c.inst, c.side]) [c.price, c.qty] u (hD 6 93 (by kernel_rfl)) (hD 11 98 (by kernel_rfl)) (by have := hgb1.out; have := hk.size; omega) (Nat.le_of_ble_eq_true (by kernel_rfl)) (Nat.le_of_ble_eq_true (by kernel_rfl)))) ?_
    exact fsteps_nil
  intro gv w2 hV k2
  rw [show dstsOf _ 13 = [87, 88, 89, 90, 91, 92, 93, 94, 95, 96, 97, 98, 99] by kernel_rfl]
  simp only [List.foldl_cons, List.foldl_nil, List.setIfInBounds_toArray, List.set_cons_succ, List.set_cons_zero, List.drop_succ_cons, List.drop_zero]
  have hv99 : (.own g (((u8s [c.k]) ++ u8s [c.inst, c.side]) ++ w32s [c.price, c.qty]) : Kn).p (gv 99) w2 := hV 12 99 (by kernel_rfl)
  generalize gv 99 = v99 at hv99 ⊢
  clear hV
  have HP2 := Lib.hid hv99
  generalize v99 = v3_2 at HP2 hv99 ⊢
  clear hv99
  have HB2 := Lib.hid (HB1.out.kept k2)
  have hgb2 : Hid (g ≤ w2.heap.size) := by show g ≤ _; have := k2.size; have := hgb1.out; omega
  have kw2 := kw1.trans k2
  clear kw1 k2
  go_wp2
  go_ret
  have he : (((u8s [c.k]) ++ u8s [c.inst, c.side]) ++ w32s [c.price, c.qty]) = c.enc := by simp [Nte.enc, hkk.out, u8s, w32s]
  rw [← he]
  exact ⟨_, rfl, HP2.out.low hgw.out, kw2⟩

set_option maxRecDepth 100000 in
set_option maxHeartbeats 3200000 in
theorem note_9 (c : Nte) (w : World) (hkk : Hid (c.k = 9)) (HT : Hid (c.sum.length = 32)) : Gives 12 #[c.v] w (.own w.heap.size c.enc) := by
  unfold Gives Nte.v
  have HB0 : Hid (Blk (w.alloc (.cells c.cells.toArray 32)) w.heap.size 32 c.cells) := Blk.new w _ _
  have kw0 : Kept w (w.alloc (.cells c.cells.toArray 32)) := (Keep.refl _ w).alloc _
  go_enter Try.func12, Try.ntmps12
  go_upto_region 1 with fail
  generalize w.alloc (.cells c.cells.toArray 32) = w0 at HB0 kw0 ⊢
  obtain ⟨g, hg⟩ : ∃ g, g = w.heap.size := ⟨_, rfl⟩
  rw [← hg] at HB0 ⊢
  have hgb0 : Hid (g ≤ w0.heap.size) := by show g ≤ _; have := kw0.size; omega
  have hgw : Hid (w.heap.size ≤ g) := by show _ ≤ g; omega
  clear hg
  refine wp_text 4 [.eq (.pointer (some ⟨g, 0, none⟩)), .eq (.int .i64 c.k), .ints [(c.k)], .own g (u8s [c.k])] rfl (by kernel_rfl) ?_ ?_
  · refine fsteps_cons 1 rfl (fun a u hE hD hk => f_val (o := ⟨some 4, _, _, _, _, _⟩) (.pointer (some ⟨g, 0, none⟩)) rfl (wanted_none rfl _) (exec_fld 32 0 0 (.tmp 1) (g) rfl (hE 1 (.pointer (some ⟨g, 0, none⟩)) (by kernel_rfl) (by kernel_rfl)) (by kernel_rfl)) rfl) ?_
    refine fsteps_cons 2 rfl (fun a u hE hD hk => f_val (o := ⟨some 5, _, _, _, _, _⟩) (.int .i64 c.k) rfl (wanted_none rfl _) (exec_loadi 3 Try.underlying3 (.tmp 4) ⟨g, 0, none⟩ (.int .i64 c.k) rfl (hD 0 4 (by kernel_rfl)) ((HB0.out.kept hk).fld 0 _ rfl)) rfl) ?_
    refine fsteps_cons 3 rfl (fun a u hE hD hk => f_new (o := ⟨some 6, _, _, _, _, _⟩) (.slice (some ⟨u.heap.size, 0, none⟩) 1 1) _ rfl (wanted_none rfl _) (exec_ints 1 _ [(c.k)] rfl rfl (by omega) (by omega) (by show [(0, a.eval (.tmp 5))] = [(0, .int .i64 c.k)]; rw [show a.eval (.tmp 5) = .int .i64 c.k from (hD 1 5 (by kernel_rfl))])) (ints_new u [(c.k)] 1 rfl) ((Keep.refl _ u).alloc _)) ?_
    refine fsteps_cons 4 rfl (fun a u hE hD hk => f_call (o := ⟨some 7, _, _, _, _, _⟩) 23 #[.slice none 0 0, a.eval (.tmp 6)] rfl (wanted_none rfl _) (exec_call 23 _ [.const (.slice none 0 0), .tmp 6] _ [.slice none 0 0, a.eval (.tmp 6)] Try.func23 (by kernel_rfl) (by kernel_rfl) rfl rfl u) (bytes_any _ _ g [] [c.k] u (OwnV.nil _ _) (hD 2 6 (by kernel_rfl)) (by have := hgb0.out; have := hk.size; omega) (Nat.le_of_ble_eq_true (by kernel_rfl)) (Nat.le_of_ble_eq_true (by kernel_rfl)))) ?_
    exact fsteps_nil
  intro gv w1 hV k1
  rw [show dstsOf _ 4 = [4, 5, 6, 7] by kernel_rfl]
  simp only [List.foldl_cons, List.foldl_nil, List.setIfInBounds_toArray, List.set_cons_succ, List.set_cons_zero, List.drop_succ_cons, List.drop_zero]
  have hv7 : (.own g (u8s [c.k]) : Kn).p (gv 7) w1 := hV 3 7 (by kernel_rfl)
  generalize gv 7 = v7 at hv7 ⊢
  clear hV
  have HP1 := Lib.hid hv7
  generalize v7 = v3_1 at HP1 hv7 ⊢
  clear hv7
  have HB1 := Lib.hid (HB0.out.kept k1)
  have hgb1 : Hid (g ≤ w1.heap.size) := by show g ≤ _; have := k1.size; have := hgb0.out; omega
  have kw1 := kw0.trans k1
  clear kw0 k1
  have hc : w1.cell? ⟨g, 0, none⟩ = some (.int .i64 9) := by rw [← hkk.out]; exact HB1.out.fld 0 _ rfl
  go_wp2
  go_ret
  have he : (u8s [c.k]) = c.enc := by simp [Nte.enc, hkk.out, u8s]
  rw [← he]
  exact ⟨_, rfl, HP1.out.low hgw.out, kw1⟩

set_option maxRecDepth 100000 in
set_option maxHeartbeats 3200000 in
theorem note_d (c : Nte) (w : World) (d1 : ((c.k : Int) == 1) = false) (d2 : ((c.k : Int) == 2) = false) (d3 : ((c.k : Int) == 3) = false) (d4 : ((c.k : Int) == 4) = false) (d5 : ((c.k : Int) == 5) = false) (d6 : ((c.k : Int) == 6) = false) (d7 : ((c.k : Int) == 7) = false) (d8 : ((c.k : Int) == 8) = false) (d9 : ((c.k : Int) == 9) = false) (HT : Hid (c.sum.length = 32)) : Gives 12 #[c.v] w (.own w.heap.size c.enc) := by
  unfold Gives Nte.v
  have HB0 : Hid (Blk (w.alloc (.cells c.cells.toArray 32)) w.heap.size 32 c.cells) := Blk.new w _ _
  have kw0 : Kept w (w.alloc (.cells c.cells.toArray 32)) := (Keep.refl _ w).alloc _
  go_enter Try.func12, Try.ntmps12
  go_upto_region 1 with fail
  generalize w.alloc (.cells c.cells.toArray 32) = w0 at HB0 kw0 ⊢
  obtain ⟨g, hg⟩ : ∃ g, g = w.heap.size := ⟨_, rfl⟩
  rw [← hg] at HB0 ⊢
  have hgb0 : Hid (g ≤ w0.heap.size) := by show g ≤ _; have := kw0.size; omega
  have hgw : Hid (w.heap.size ≤ g) := by show _ ≤ g; omega
  clear hg
  refine wp_text 4 [.eq (.pointer (some ⟨g, 0, none⟩)), .eq (.int .i64 c.k), .ints [(c.k)], .own g (u8s [c.k])] rfl (by kernel_rfl) ?_ ?_
  · refine fsteps_cons 1 rfl (fun a u hE hD hk => f_val (o := ⟨some 4, _, _, _, _, _⟩) (.pointer (some ⟨g, 0, none⟩)) rfl (wanted_none rfl _) (exec_fld 32 0 0 (.tmp 1) (g) rfl (hE 1 (.pointer (some ⟨g, 0, none⟩)) (by kernel_rfl) (by kernel_rfl)) (by kernel_rfl)) rfl) ?_
    refine fsteps_cons 2 rfl (fun a u hE hD hk => f_val (o := ⟨some 5, _, _, _, _, _⟩) (.int .i64 c.k) rfl (wanted_none rfl _) (exec_loadi 3 Try.underlying3 (.tmp 4) ⟨g, 0, none⟩ (.int .i64 c.k) rfl (hD 0 4 (by kernel_rfl)) ((HB0.out.kept hk).fld 0 _ rfl)) rfl) ?_
    refine fsteps_cons 3 rfl (fun a u hE hD hk => f_new (o := ⟨some 6, _, _, _, _, _⟩) (.slice (some ⟨u.heap.size, 0, none⟩) 1 1) _ rfl (wanted_none rfl _) (exec_ints 1 _ [(c.k)] rfl rfl (by omega) (by omega) (by show [(0, a.eval (.tmp 5))] = [(0, .int .i64 c.k)]; rw [show a.eval (.tmp 5) = .int .i64 c.k from (hD 1 5 (by kernel_rfl))])) (ints_new u [(c.k)] 1 rfl) ((Keep.refl _ u).alloc _)) ?_
    refine fsteps_cons 4 rfl (fun a u hE hD hk => f_call (o := ⟨some 7, _, _, _, _, _⟩) 23 #[.slice none 0 0, a.eval (.tmp 6)] rfl (wanted_none rfl _) (exec_call 23 _ [.const (.slice none 0 0), .tmp 6] _ [.slice none 0 0, a.eval (.tmp 6)] Try.func23 (by kernel_rfl) (by kernel_rfl) rfl rfl u) (bytes_any _ _ g [] [c.k] u (OwnV.nil _ _) (hD 2 6 (by kernel_rfl)) (by have := hgb0.out; have := hk.size; omega) (Nat.le_of_ble_eq_true (by kernel_rfl)) (Nat.le_of_ble_eq_true (by kernel_rfl)))) ?_
    exact fsteps_nil
  intro gv w1 hV k1
  rw [show dstsOf _ 4 = [4, 5, 6, 7] by kernel_rfl]
  simp only [List.foldl_cons, List.foldl_nil, List.setIfInBounds_toArray, List.set_cons_succ, List.set_cons_zero, List.drop_succ_cons, List.drop_zero]
  have hv7 : (.own g (u8s [c.k]) : Kn).p (gv 7) w1 := hV 3 7 (by kernel_rfl)
  generalize gv 7 = v7 at hv7 ⊢
  clear hV
  have HP1 := Lib.hid hv7
  generalize v7 = v3_1 at HP1 hv7 ⊢
  clear hv7
  have HB1 := Lib.hid (HB0.out.kept k1)
  have hgb1 : Hid (g ≤ w1.heap.size) := by show g ≤ _; have := k1.size; have := hgb0.out; omega
  have kw1 := kw0.trans k1
  clear kw0 k1
  have hc : w1.cell? ⟨g, 0, none⟩ = some (.int .i64 c.k) := HB1.out.fld 0 _ rfl
  go_wp2
  go_ret
  have E1 : c.k ≠ 1 := by simpa using d1
  have E2 : c.k ≠ 2 := by simpa using d2
  have E3 : c.k ≠ 3 := by simpa using d3
  have E4 : c.k ≠ 4 := by simpa using d4
  have E5 : c.k ≠ 5 := by simpa using d5
  have E6 : c.k ≠ 6 := by simpa using d6
  have E7 : c.k ≠ 7 := by simpa using d7
  have E8 : c.k ≠ 8 := by simpa using d8
  have E9 : c.k ≠ 9 := by simpa using d9
  have he : ([] : List UInt8) = c.enc := by simp [Nte.enc, E1, E2, E3, E4, E5, E6, E7, E8, E9]
  rw [← he]
  exact ⟨_, rfl, OwnV.nil _ _, kw1⟩

theorem note_any (c : Nte) (w : World) (HT : Hid (c.sum.length = 32)) : Gives 12 #[c.v] w (.own w.heap.size c.enc) := by
  by_cases h1 : c.k = 1
  · exact note_1 c w h1 HT
  by_cases h2 : c.k = 2
  · exact note_2 c w h2 HT
  by_cases h3 : c.k = 3
  · exact note_3 c w h3 HT
  by_cases h4 : c.k = 4
  · exact note_4 c w h4 HT
  by_cases h5 : c.k = 5
  · exact note_5 c w h5 HT
  by_cases h6 : c.k = 6
  · exact note_6 c w h6 HT
  by_cases h7 : c.k = 7
  · exact note_7 c w h7 HT
  by_cases h8 : c.k = 8
  · exact note_8 c w h8 HT
  by_cases h9 : c.k = 9
  · exact note_9 c w h9 HT
  exact note_d c w (by simpa using h1) (by simpa using h2) (by simpa using h3) (by simpa using h4) (by simpa using h5) (by simpa using h6) (by simpa using h7) (by simpa using h8) (by simpa using h9) HT
end Go.Proofs.Ytdmeiffofmagjaa
