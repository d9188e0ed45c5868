/-
  The contract of package msg's write: a command as bytes. Condition: its tag has 32 bytes.
-/
import Derived.Test.YtdmeiffofmagjaaMsgSum
namespace Go.Proofs.Ytdmeiffofmagjaa
open Go.RowKit
set_option linter.unusedVariables false

set_option maxRecDepth 100000 in
set_option maxHeartbeats 3200000 in
theorem write_1 (c : Cmd) (w : World) (hkk : Hid (c.k = 1)) (HT : Hid (c.tag.length = 32)) : Gives 22 #[c.v] w (.own w.heap.size c.enc) := by
  unfold Gives Cmd.v
  have HB0 : Hid (Blk (w.alloc (.cells c.cells.toArray 28)) w.heap.size 28 c.cells) := Blk.new w _ _
  have kw0 : Kept w (w.alloc (.cells c.cells.toArray 28)) := (Keep.refl _ w).alloc _
  go_enter Try.func22, Try.ntmps22
  go_upto_region 1 with fail
  generalize w.alloc (.cells c.cells.toArray 28) = w0 at HB0 kw0 ⊢
  obtain ⟨g, hg⟩ : ∃ g, g = w.heap.size := ⟨_, rfl⟩
  rw [← hg] at HB0 ⊢
  have hgb0 : Hid (g ≤ w0.heap.size) := by show g ≤ _; have := kw0.size; omega
  have hgw : Hid (w.heap.size ≤ g) := by show _ ≤ g; omega
  clear hg
  refine wp_text 4 [.eq (.pointer (some ⟨g, 0, none⟩)), .eq (.int .i64 c.k), .ints [(c.k)], .own g (u8s [c.k])] rfl (by kernel_rfl) ?_ ?_
  · refine fsteps_cons 1 rfl (fun a u hE hD hk => f_val (o := ⟨some 4, _, _, _, _, _⟩) (.pointer (some ⟨g, 0, none⟩)) rfl (wanted_none rfl _) (exec_fld 28 0 0 (.tmp 1) (g) rfl (hE 1 (.pointer (some ⟨g, 0, none⟩)) (by kernel_rfl) (by kernel_rfl)) (by kernel_rfl)) rfl) ?_
    refine fsteps_cons 2 rfl (fun a u hE hD hk => f_val (o := ⟨some 5, _, _, _, _, _⟩) (.int .i64 c.k) rfl (wanted_none rfl _) (exec_loadi 3 Try.underlying3 (.tmp 4) ⟨g, 0, none⟩ (.int .i64 c.k) rfl (hD 0 4 (by kernel_rfl)) ((HB0.out.kept hk).fld 0 _ rfl)) rfl) ?_
    refine fsteps_cons 3 rfl (fun a u hE hD hk => f_new (o := ⟨some 6, _, _, _, _, _⟩) (.slice (some ⟨u.heap.size, 0, none⟩) 1 1) _ rfl (wanted_none rfl _) (exec_ints 1 _ [(c.k)] rfl rfl (by omega) (by omega) (by show [(0, a.eval (.tmp 5))] = [(0, .int .i64 c.k)]; rw [show a.eval (.tmp 5) = .int .i64 c.k from (hD 1 5 (by kernel_rfl))])) (ints_new u [(c.k)] 1 rfl) ((Keep.refl _ u).alloc _)) ?_
    refine fsteps_cons 4 rfl (fun a u hE hD hk => f_call (o := ⟨some 7, _, _, _, _, _⟩) 23 #[.slice none 0 0, a.eval (.tmp 6)] rfl (wanted_none rfl _) (exec_call 23 _ [.const (.slice none 0 0), .tmp 6] _ [.slice none 0 0, a.eval (.tmp 6)] Try.func23 (by kernel_rfl) (by kernel_rfl) rfl rfl u) (bytes_any _ _ g [] [c.k] u (OwnV.nil _ _) (hD 2 6 (by kernel_rfl)) (by have := hgb0.out; have := hk.size; omega) (Nat.le_of_ble_eq_true (by kernel_rfl)) (Nat.le_of_ble_eq_true (by kernel_rfl)))) ?_
    exact fsteps_nil
  intro gv w1 hV k1
  rw [show dstsOf _ 4 = [4, 5, 6, 7] by kernel_rfl]
  simp only [List.foldl_cons, List.foldl_nil, List.setIfInBounds_toArray, List.set_cons_succ, List.set_cons_zero, List.drop_succ_cons, List.drop_zero]
  have hv7 : (.own g (u8s [c.k]) : Kn).p (gv 7) w1 := hV 3 7 (by kernel_rfl)
  generalize gv 7 = v7 at hv7 ⊢
  clear hV
  have HP1 := Lib.hid hv7
  generalize v7 = v3_1 at HP1 hv7 ⊢
  clear hv7
  have HB1 := Lib.hid (HB0.out.kept k1)
  have hgb1 : Hid (g ≤ w1.heap.size) := by show g ≤ _; have := k1.size; have := hgb0.out; omega
  have kw1 := kw0.trans k1
  clear kw0 k1
  have hc : w1.cell? ⟨g, 0, none⟩ = some (.int .i64 1) := by rw [← hkk.out]; exact HB1.out.fld 0 _ rfl
  go_upto_region 5 with fail
  refine wp_text 5 [.eq (v3_1), .eq (.pointer (some ⟨g, 2, none⟩)), .eq (.int .i64 c.tr), .ints [(c.tr)], .own g ((u8s [c.k]) ++ u8s [c.tr])] rfl (by kernel_rfl) ?_ ?_
  · refine fsteps_cons 1 rfl (fun a u hE hD hk => f_val (o := ⟨some 13, _, _, _, _, _⟩) (v3_1) rfl (wanted_none rfl _) (exec_move (.tmp 3) (v3_1) rfl (hE 3 (v3_1) (by kernel_rfl) (by kernel_rfl))) rfl) ?_
    refine fsteps_cons 2 rfl (fun a u hE hD hk => f_val (o := ⟨some 14, _, _, _, _, _⟩) (.pointer (some ⟨g, 2, none⟩)) rfl (wanted_none rfl _) (exec_fld 28 2 2 (.tmp 1) (g) rfl (hE 1 (.pointer (some ⟨g, 0, none⟩)) (by kernel_rfl) (by kernel_rfl)) (by kernel_rfl)) rfl) ?_
    refine fsteps_cons 3 rfl (fun a u hE hD hk => f_val (o := ⟨some 15, _, _, _, _, _⟩) (.int .i64 c.tr) rfl (wanted_none rfl _) (exec_loadi 3 Try.underlying3 (.tmp 14) ⟨g, 2, none⟩ (.int .i64 c.tr) rfl (hD 1 14 (by kernel_rfl)) ((HB1.out.kept hk).fld 2 _ rfl)) rfl) ?_
    refine fsteps_cons 4 rfl (fun a u hE hD hk => f_new (o := ⟨some 16, _, _, _, _, _⟩) (.slice (some ⟨u.heap.size, 0, none⟩) 1 1) _ rfl (wanted_none rfl _) (exec_ints 1 _ [(c.tr)] rfl rfl (by omega) (by omega) (by show [(0, a.eval (.tmp 15))] = [(0, .int .i64 c.tr)]; rw [show a.eval (.tmp 15) = .int .i64 c.tr from (hD 2 15 (by kernel_rfl))])) (ints_new u [(c.tr)] 1 rfl) ((Keep.refl _ u).alloc _)) ?_
    refine fsteps_cons 5 rfl (fun a u hE hD hk => f_call (o := ⟨some 17, _, _, _, _, _⟩) 23 #[v3_1, a.eval (.tmp 16)] rfl (wanted_none rfl _) (exec_call 23 _ [.tmp 13, .tmp 16] _ [v3_1, a.eval (.tmp 16)] Try.func23 (by kernel_rfl) (by kernel_rfl) rfl (show [a.eval (.tmp 13), a.eval (.tmp 16)] = [v3_1, a.eval (.tmp 16)] from (by rw [show a.eval (.tmp 13) = v3_1 from (hD 0 13 (by kernel_rfl))] <;> rfl)) u) (bytes_any _ _ g (u8s [c.k]) [c.tr] u (HP1.out.kept hk) (hD 3 16 (by kernel_rfl)) (by have := hgb1.out; have := hk.size; omega) (Nat.le_of_ble_eq_true (by kernel_rfl)) (Nat.le_of_ble_eq_true (by kernel_rfl)))) ?_
    exact fsteps_nil
  intro gv w2 hV k2
  rw [show dstsOf _ 5 = [13, 14, 15, 16, 17] by kernel_rfl]
  simp only [List.foldl_cons, List.foldl_nil, List.setIfInBounds_toArray, List.set_cons_succ, List.set_cons_zero, List.drop_succ_cons, List.drop_zero]
  have hv17 : (.own g ((u8s [c.k]) ++ u8s [c.tr]) : Kn).p (gv 17) w2 := hV 4 17 (by kernel_rfl)
  generalize gv 17 = v17 at hv17 ⊢
  clear hV
  have HP2 := Lib.hid hv17
  generalize v17 = v3_2 at HP2 hv17 ⊢
  clear hv17
  have HB2 := Lib.hid (HB1.out.kept k2)
  have hgb2 : Hid (g ≤ w2.heap.size) := by show g ≤ _; have := k2.size; have := hgb1.out; omega
  have kw2 := kw1.trans k2
  clear kw1 k2
  go_wp2
  go_ret
  have he : ((u8s [c.k]) ++ u8s [c.tr]) = c.enc := by simp [Cmd.enc, Cmd.body, hkk.out, u8s]
  rw [← he]
  exact ⟨_, rfl, HP2.out.low hgw.out, kw2⟩

set_option maxRecDepth 100000 in
set_option maxHeartbeats 3200000 in
theorem write_2 (c : Cmd) (w : World) (hkk : Hid (c.k = 2)) (HT : Hid (c.tag.length = 32)) : Gives 22 #[c.v] w (.own w.heap.size c.enc) := by
  unfold Gives Cmd.v
  have HB0 : Hid (Blk (w.alloc (.cells c.cells.toArray 28)) w.heap.size 28 c.cells) := Blk.new w _ _
  have kw0 : Kept w (w.alloc (.cells c.cells.toArray 28)) := (Keep.refl _ w).alloc _
  go_enter Try.func22, Try.ntmps22
  go_upto_region 1 with fail
  generalize w.alloc (.cells c.cells.toArray 28) = w0 at HB0 kw0 ⊢
  obtain ⟨g, hg⟩ : ∃ g, g = w.heap.size := ⟨_, rfl⟩
  rw [← hg] at HB0 ⊢
  have hgb0 : Hid (g ≤ w0.heap.size) := by show g ≤ _; have := kw0.size; omega
  have hgw : Hid (w.heap.size ≤ g) := by show _ ≤ g; omega
  clear hg
  refine wp_text 4 [.eq (.pointer (some ⟨g, 0, none⟩)), .eq (.int .i64 c.k), .ints [(c.k)], .own g (u8s [c.k])] rfl (by kernel_rfl) ?_ ?_
  · refine fsteps_cons 1 rfl (fun a u hE hD hk => f_val (o := ⟨some 4, _, _, _, _, _⟩) (.pointer (some ⟨g, 0, none⟩)) rfl (wanted_none rfl _) (exec_fld 28 0 0 (.tmp 1) (g) rfl (hE 1 (.pointer (some ⟨g, 0, none⟩)) (by kernel_rfl) (by kernel_rfl)) (by kernel_rfl)) rfl) ?_
    refine fsteps_cons 2 rfl (fun a u hE hD hk => f_val (o := ⟨some 5, _, _, _, _, _⟩) (.int .i64 c.k) rfl (wanted_none rfl _) (exec_loadi 3 Try.underlying3 (.tmp 4) ⟨g, 0, none⟩ (.int .i64 c.k) rfl (hD 0 4 (by kernel_rfl)) ((HB0.out.kept hk).fld 0 _ rfl)) rfl) ?_
    refine fsteps_cons 3 rfl (fun a u hE hD hk => f_new (o := ⟨some 6, _, _, _, _, _⟩) (.slice (some ⟨u.heap.size, 0, none⟩) 1 1) _ rfl (wanted_none rfl _) (exec_ints 1 _ [(c.k)] rfl rfl (by omega) (by omega) (by show [(0, a.eval (.tmp 5))] = [(0, .int .i64 c.k)]; rw [show a.eval (.tmp 5) = .int .i64 c.k from (hD 1 5 (by kernel_rfl))])) (ints_new u [(c.k)] 1 rfl) ((Keep.refl _ u).alloc _)) ?_
    refine fsteps_cons 4 rfl (fun a u hE hD hk => f_call (o := ⟨some 7, _, _, _, _, _⟩) 23 #[.slice none 0 0, a.eval (.tmp 6)] rfl (wanted_none rfl _) (exec_call 23 _ [.const (.slice none 0 0), .tmp 6] _ [.slice none 0 0, a.eval (.tmp 6)] Try.func23 (by kernel_rfl) (by kernel_rfl) rfl rfl u) (bytes_any _ _ g [] [c.k] u (OwnV.nil _ _) (hD 2 6 (by kernel_rfl)) (by have := hgb0.out; have := hk.size; omega) (Nat.le_of_ble_eq_true (by kernel_rfl)) (Nat.le_of_ble_eq_true (by kernel_rfl)))) ?_
    exact fsteps_nil
  intro gv w1 hV k1
  rw [show dstsOf _ 4 = [4, 5, 6, 7] by kernel_rfl]
  simp only [List.foldl_cons, List.foldl_nil, List.setIfInBounds_toArray, List.set_cons_succ, List.set_cons_zero, List.drop_succ_cons, List.drop_zero]
  have hv7 : (.own g (u8s [c.k]) : Kn).p (gv 7) w1 := hV 3 7 (by kernel_rfl)
  generalize gv 7 = v7 at hv7 ⊢
  clear hV
  have HP1 := Lib.hid hv7
  generalize v7 = v3_1 at HP1 hv7 ⊢
  clear hv7
  have HB1 := Lib.hid (HB0.out.kept k1)
  have hgb1 : Hid (g ≤ w1.heap.size) := by show g ≤ _; have := k1.size; have := hgb0.out; omega
  have kw1 := kw0.trans k1
  clear kw0 k1
  have hc : w1.cell? ⟨g, 0, none⟩ = some (.int .i64 2) := by rw [← hkk.out]; exact HB1.out.fld 0 _ rfl
  go_upto_region 7 with fail
  refine wp_text 3 [.eq (v3_1), .eq (.pointer (some ⟨g, 14, none⟩)), .eq (.agg (cells8 c.tag).toArray)] rfl (by kernel_rfl) ?_ ?_
  · refine fsteps_cons 1 rfl (fun a u hE hD hk => f_val (o := ⟨some 20, _, _, _, _, _⟩) (v3_1) rfl (wanted_none rfl _) (exec_move (.tmp 3) (v3_1) rfl (hE 3 (v3_1) (by kernel_rfl) (by kernel_rfl))) rfl) ?_
    refine fsteps_cons 2 rfl (fun a u hE hD hk => f_val (o := ⟨some 21, _, _, _, _, _⟩) (.pointer (some ⟨g, 14, none⟩)) rfl (wanted_none rfl _) (exec_fld 28 14 14 (.tmp 1) (g) rfl (hE 1 (.pointer (some ⟨g, 0, none⟩)) (by kernel_rfl) (by kernel_rfl)) (by kernel_rfl)) rfl) ?_
    refine fsteps_cons 3 rfl (fun a u hE hD hk => f_val (o := ⟨some 22, _, _, _, _, _⟩) (.agg (cells8 c.tag).toArray) rfl (wanted_none rfl _) (exec_loadT 26 (.tmp 21) (g) 14 (cells8 c.tag) 32 _ rfl (hD 1 21 (by kernel_rfl)) ((HB1.out.kept hk).tagAt 14 rfl) Try.underlying26 (by rw [len8, HT.out]; exact sum_size)) rfl) ?_
    exact fsteps_nil
  intro gv w2 hV k2
  rw [show dstsOf _ 3 = [20, 21, 22] by kernel_rfl]
  simp only [List.foldl_cons, List.foldl_nil, List.setIfInBounds_toArray, List.set_cons_succ, List.set_cons_zero, List.drop_succ_cons, List.drop_zero]
  rw [show gv 20 = v3_1 from hV 0 20 (by kernel_rfl)]
  rw [show gv 22 = .agg (cells8 c.tag).toArray from hV 2 22 (by kernel_rfl)]
  clear hV
  have hgb2 : g ≤ w2.heap.size := by have := k2.size; have := hgb1.out; omega
  go_wp2_with fail
  refine (sum_any v3_1 g (u8s [c.k]) c.tag w2 (HP1.out.kept k2) hgb2 (Nat.le_of_ble_eq_true (by kernel_rfl)) HT).mono ?_
  rintro e w9 ⟨v9, rfl, ho9, hk9⟩
  have kw9 : Kept w w9 := Keep.trans (kw1.trans k2) hk9 (fun i hi h => by have := hgw.out; omega)
  go_wp2
  go_ret
  have he : u8s [c.k] ++ c.tag = c.enc := by simp [Cmd.enc, Cmd.body, hkk.out, u8s]
  rw [← he]
  exact ⟨_, rfl, ho9.low hgw.out, kw9⟩

set_option maxRecDepth 100000 in
set_option maxHeartbeats 3200000 in
theorem write_3 (c : Cmd) (w : World) (hkk : Hid (c.k = 3)) (HT : Hid (c.tag.length = 32)) : Gives 22 #[c.v] w (.own w.heap.size c.enc) := by
  unfold Gives Cmd.v
  have HB0 : Hid (Blk (w.alloc (.cells c.cells.toArray 28)) w.heap.size 28 c.cells) := Blk.new w _ _
  have kw0 : Kept w (w.alloc (.cells c.cells.toArray 28)) := (Keep.refl _ w).alloc _
  go_enter Try.func22, Try.ntmps22
  go_upto_region 1 with fail
  generalize w.alloc (.cells c.cells.toArray 28) = w0 at HB0 kw0 ⊢
  obtain ⟨g, hg⟩ : ∃ g, g = w.heap.size := ⟨_, rfl⟩
  rw [← hg] at HB0 ⊢
  have hgb0 : Hid (g ≤ w0.heap.size) := by show g ≤ _; have := kw0.size; omega
  have hgw : Hid (w.heap.size ≤ g) := by show _ ≤ g; omega
  clear hg
  refine wp_text 4 [.eq (.pointer (some ⟨g, 0, none⟩)), .eq (.int .i64 c.k), .ints [(c.k)], .own g (u8s [c.k])] rfl (by kernel_rfl) ?_ ?_
  · refine fsteps_cons 1 rfl (fun a u hE hD hk => f_val (o := ⟨some 4, _, _, _, _, _⟩) (.pointer (some ⟨g, 0, none⟩)) rfl (wanted_none rfl _) (exec_fld 28 0 0 (.tmp 1) (g) rfl (hE 1 (.pointer (some ⟨g, 0, none⟩)) (by kernel_rfl) (by kernel_rfl)) (by kernel_rfl)) rfl) ?_
    refine fsteps_cons 2 rfl (fun a u hE hD hk => f_val (o := ⟨some 5, _, _, _, _, _⟩) (.int .i64 c.k) rfl (wanted_none rfl _) (exec_loadi 3 Try.underlying3 (.tmp 4) ⟨g, 0, none⟩ (.int .i64 c.k) rfl (hD 0 4 (by kernel_rfl)) ((HB0.out.kept hk).fld 0 _ rfl)) rfl) ?_
    refine fsteps_cons 3 rfl (fun a u hE hD hk => f_new (o := ⟨some 6, _, _, _, _, _⟩) (.slice (some ⟨u.heap.size, 0, none⟩) 1 1) _ rfl (wanted_none rfl _) (exec_ints 1 _ [(c.k)] rfl rfl (by omega) (by omega) (by show [(0, a.eval (.tmp 5))] = [(0, .int .i64 c.k)]; rw [show a.eval (.tmp 5) = .int .i64 c.k from (hD 1 5 (by kernel_rfl))])) (ints_new u [(c.k)] 1 rfl) ((Keep.refl _ u).alloc _)) ?_
    refine fsteps_cons 4 rfl (fun a u hE hD hk => f_call (o := ⟨some 7, _, _, _, _, _⟩) 23 #[.slice none 0 0, a.eval (.tmp 6)] rfl (wanted_none rfl _) (exec_call 23 _ [.const (.slice none 0 0), .tmp 6] _ [.slice none 0 0, a.eval (.tmp 6)] Try.func23 (by kernel_rfl) (by kernel_rfl) rfl rfl u) (bytes_any _ _ g [] [c.k] u (OwnV.nil _ _) (hD 2 6 (by kernel_rfl)) (by have := hgb0.out; have := hk.size; omega) (Nat.le_of_ble_eq_true (by kernel_rfl)) (Nat.le_of_ble_eq_true (by kernel_rfl)))) ?_
    exact fsteps_nil
  intro gv w1 hV k1
  rw [show dstsOf _ 4 = [4, 5, 6, 7] by kernel_rfl]
  simp only [List.foldl_cons, List.foldl_nil, List.setIfInBounds_toArray, List.set_cons_succ, List.set_cons_zero, List.drop_succ_cons, List.drop_zero]
  have hv7 : (.own g (u8s [c.k]) : Kn).p (gv 7) w1 := hV 3 7 (by kernel_rfl)
  generalize gv 7 = v7 at hv7 ⊢
  clear hV
  have HP1 := Lib.hid hv7
  generalize v7 = v3_1 at HP1 hv7 ⊢
  clear hv7
  have HB1 := Lib.hid (HB0.out.kept k1)
  have hgb1 : Hid (g ≤ w1.heap.size) := by show g ≤ _; have := k1.size; have := hgb0.out; omega
  have kw1 := kw0.trans k1
  clear kw0 k1
  have hc : w1.cell? ⟨g, 0, none⟩ = some (.int .i64 3) := by rw [← hkk.out]; exact HB1.out.fld 0 _ rfl
  go_upto_region 9 with fail
  refine wp_free 29 [.eq (v3_1), .eq (.pointer (some ⟨g, 1, none⟩)), .eq (.int .i64 c.seq), .ints [(c.seq)], .own g ((u8s [c.k]) ++ w32s [c.seq]), .eq (.pointer (some ⟨g, 3, none⟩)), .eq (.int .i64 c.inst), .ints [(c.inst)], .own g (((u8s [c.k]) ++ w32s [c.seq]) ++ u8s [c.inst]), .eq (.pointer (some ⟨g, 4, none⟩)), .eq (.int .i64 c.id), .ints [(c.id)], .own g ((((u8s [c.k]) ++ w32s [c.seq]) ++ u8s [c.inst]) ++ w32s [c.id]), .eq (.pointer (some ⟨g, 5, none⟩)), .eq (.int .i64 c.side), .eq (.pointer (some ⟨g, 6, none⟩)), .eq (.int .i64 c.ord), .ints [(c.side), (c.ord)], .own g (((((u8s [c.k]) ++ w32s [c.seq]) ++ u8s [c.inst]) ++ w32s [c.id]) ++ u8s [c.side, c.ord]), .eq (.pointer (some ⟨g, 7, none⟩)), .eq (.int .i64 c.price), .eq (.pointer (some ⟨g, 8, none⟩)), .eq (.int .i64 c.qty), .eq (.pointer (some ⟨g, 9, none⟩)), .eq (.int .i64 c.shw), .eq (.pointer (some ⟨g, 10, none⟩)), .eq (.int .i64 c.stop), .ints [(c.price), (c.qty), (c.shw), (c.stop)], .own g ((((((u8s [c.k]) ++ w32s [c.seq]) ++ u8s [c.inst]) ++ w32s [c.id]) ++ u8s [c.side, c.ord]) ++ w32s [c.price, c.qty, c.shw, c.stop])] (by kernel_rfl) rfl (by kernel_rfl) ?_ ?_
  · refine fsteps_cons 1 rfl (fun a u hE hD hk => f_val (o := ⟨some 26, _, _, _, _, _⟩) (v3_1) rfl (wanted_none rfl _) (exec_move (.tmp 3) (v3_1) rfl (hE 3 (v3_1) (by kernel_rfl) (by kernel_rfl))) rfl) ?_
    refine fsteps_cons 2 rfl (fun a u hE hD hk => f_val (o := ⟨some 27, _, _, _, _, _⟩) (.pointer (some ⟨g, 1, none⟩)) rfl (wanted_none rfl _) (exec_fld 28 1 1 (.tmp 1) (g) rfl (hE 1 (.pointer (some ⟨g, 0, none⟩)) (by kernel_rfl) (by kernel_rfl)) (by kernel_rfl)) rfl) ?_
    refine fsteps_cons 3 rfl (fun a u hE hD hk => f_val (o := ⟨some 28, _, _, _, _, _⟩) (.int .i64 c.seq) rfl (wanted_none rfl _) (exec_loadi 3 Try.underlying3 (.tmp 27) ⟨g, 1, none⟩ (.int .i64 c.seq) rfl (hD 1 27 (by kernel_rfl)) ((HB1.out.kept hk).fld 1 _ rfl)) rfl) ?_
    refine fsteps_cons 4 rfl (fun a u hE hD hk => f_new (o := ⟨some 29, _, _, _, _, _⟩) (.slice (some ⟨u.heap.size, 0, none⟩) 1 1) _ rfl (wanted_none rfl _) (exec_ints 1 _ [(c.seq)] rfl rfl (by omega) (by omega) (by show [(0, a.eval (.tmp 28))] = [(0, .int .i64 c.seq)]; rw [show a.eval (.tmp 28) = .int .i64 c.seq from (hD 2 28 (by kernel_rfl))])) (ints_new u [(c.seq)] 1 rfl) ((Keep.refl _ u).alloc _)) ?_
    refine fsteps_cons 5 rfl (fun a u hE hD hk => f_call (o := ⟨some 30, _, _, _, _, _⟩) 25 #[v3_1, a.eval (.tmp 29)] rfl (wanted_none rfl _) (exec_call 25 _ [.tmp 26, .tmp 29] _ [v3_1, a.eval (.tmp 29)] Try.func25 (by kernel_rfl) (by kernel_rfl) rfl (show [a.eval (.tmp 26), a.eval (.tmp 29)] = [v3_1, a.eval (.tmp 29)] from (by rw [show a.eval (.tmp 26) = v3_1 from (hD 0 26 (by kernel_rfl))] <;> rfl)) u) (words_any _ _ g (u8s [c.k]) [c.seq] u (HP1.out.kept hk) (hD 3 29 (by kernel_rfl)) (by have := hgb1.out; have := hk.size; omega) (Nat.le_of_ble_eq_true (by kernel_rfl)) (Nat.le_of_ble_eq_true (by kernel_rfl)))) ?_
    refine fsteps_cons 6 rfl (fun a u hE hD hk => f_val (o := ⟨some 31, _, _, _, _, _⟩) (.pointer (some ⟨g, 3, none⟩)) rfl (wanted_none rfl _) (exec_fld 28 3 3 (.tmp 1) (g) rfl (hE 1 (.pointer (some ⟨g, 0, none⟩)) (by kernel_rfl) (by kernel_rfl)) (by kernel_rfl)) rfl) ?_
    refine fsteps_cons 7 rfl (fun a u hE hD hk => f_val (o := ⟨some 32, _, _, _, _, _⟩) (.int .i64 c.inst) rfl (wanted_none rfl _) (exec_loadi 3 Try.underlying3 (.tmp 31) ⟨g, 3, none⟩ (.int .i64 c.inst) rfl (hD 5 31 (by kernel_rfl)) ((HB1.out.kept hk).fld 3 _ rfl)) rfl) ?_
    refine fsteps_cons 8 rfl (fun a u hE hD hk => f_new (o := ⟨some 33, _, _, _, _, _⟩) (.slice (some ⟨u.heap.size, 0, none⟩) 1 1) _ rfl (wanted_none rfl _) (exec_ints 1 _ [(c.inst)] rfl rfl (by omega) (by omega) (by show [(0, a.eval (.tmp 32))] = [(0, .int .i64 c.inst)]; rw [show a.eval (.tmp 32) = .int .i64 c.inst from (hD 6 32 (by kernel_rfl))])) (ints_new u [(c.inst)] 1 rfl) ((Keep.refl _ u).alloc _)) ?_
    refine fsteps_cons 9 rfl (fun a u hE hD hk => f_call (o := ⟨some 34, _, _, _, _, _⟩) 23 #[a.eval (.tmp 30), a.eval (.tmp 33)] rfl (wanted_none rfl _) (exec_call 23 _ [.tmp 30, .tmp 33] _ [a.eval (.tmp 30), a.eval (.tmp 33)] Try.func23 (by kernel_rfl) (by kernel_rfl) rfl rfl u) (bytes_any _ _ g ((u8s [c.k]) ++ w32s [c.seq]) [c.inst] u (hD 4 30 (by kernel_rfl)) (hD 7 33 (by kernel_rfl)) (by have := hgb1.out; have := hk.size; omega) (Nat.le_of_ble_eq_true (by kernel_rfl)) (Nat.le_of_ble_eq_true (by kernel_rfl)))) ?_
    refine fsteps_cons 10 rfl (fun a u hE hD hk => f_val (o := ⟨some 35, _, _, _, _, _⟩) (.pointer (some ⟨g, 4, none⟩)) rfl (wanted_none rfl _) (exec_fld 28 4 4 (.tmp 1) (g) rfl (hE 1 (.pointer (some ⟨g, 0, none⟩)) (by kernel_rfl) (by kernel_rfl)) (by kernel_rfl)) rfl) ?_
    refine fsteps_cons 11 rfl (fun a u hE hD hk => f_val (o := ⟨some 36, _, _, _, _, _⟩) (.int .i64 c.id) rfl (wanted_none rfl _) (exec_loadi 3 Try.underlying3 (.tmp 35) ⟨g, 4, none⟩ (.int .i64 c.id) rfl (hD 9 35 (by kernel_rfl)) ((HB1.out.kept hk).fld 4 _ rfl)) rfl) ?_
    refine fsteps_cons 12 rfl (fun a u hE hD hk => f_new (o := ⟨some 37, _, _, _, _, _⟩) (.slice (some ⟨u.heap.size, 0, none⟩) 1 1) _ rfl (wanted_none rfl _) (exec_ints 1 _ [(c.id)] rfl rfl (by omega) (by omega) (by show [(0, a.eval (.tmp 36))] = [(0, .int .i64 c.id)]; rw [show a.eval (.tmp 36) = .int .i64 c.id from (hD 10 36 (by kernel_rfl))])) (ints_new u [(c.id)] 1 rfl) ((Keep.refl _ u).alloc _)) ?_
    refine fsteps_cons 13 rfl (fun a u hE hD hk => f_call (o := ⟨some 38, _, _, _, _, _⟩) 25 #[a.eval (.tmp 34), a.eval (.tmp 37)] rfl (wanted_none rfl _) (exec_call 25 _ [.tmp 34, .tmp 37] _ [a.eval (.tmp 34), a.eval (.tmp 37)] Try.func25 (by kernel_rfl) (by kernel_rfl) rfl rfl u) (words_any _ _ g (((u8s [c.k]) ++ w32s [c.seq]) ++ u8s [c.inst]) [c.id] u (hD 8 34 (by kernel_rfl)) (hD 11 37 (by kernel_rfl)) (by have := hgb1.out; have := hk.size; omega) (Nat.le_of_ble_eq_true (by kernel_rfl)) (Nat.le_of_ble_eq_true (by kernel_rfl)))) ?_
    refine fsteps_cons 14 rfl (fun a u hE hD hk => f_val (o := ⟨some 39, _, _, _, _, _⟩) (.pointer (some ⟨g, 5, none⟩)) rfl (wanted_none rfl _) (exec_fld 28 5 5 (.tmp 1) (g) rfl (hE 1 (.pointer (some ⟨g, 0, none⟩)) (by kernel_rfl) (by kernel_rfl)) (by kernel_rfl)) rfl) ?_
    refine fsteps_cons 15 rfl (fun a u hE hD hk => f_val (o := ⟨some 40, _, _, _, _, _⟩) (.int .i64 c.side) rfl (wanted_none rfl _) (exec_loadi 3 Try.underlying3 (.tmp 39) ⟨g, 5, none⟩ (.int .i64 c.side) rfl (hD 13 39 (by kernel_rfl)) ((HB1.out.kept hk).fld 5 _ rfl)) rfl) ?_
    refine fsteps_cons 16 rfl (fun a u hE hD hk => f_val (o := ⟨some 41, _, _, _, _, _⟩) (.pointer (some ⟨g, 6, none⟩)) rfl (wanted_none rfl _) (exec_fld 28 6 6 (.tmp 1) (g) rfl (hE 1 (.pointer (some ⟨g, 0, none⟩)) (by kernel_rfl) (by kernel_rfl)) (by kernel_rfl)) rfl) ?_
    refine fsteps_cons 17 rfl (fun a u hE hD hk => f_val (o := ⟨some 42, _, _, _, _, _⟩) (.int .i64 c.ord) rfl (wanted_none rfl _) (exec_loadi 3 Try.underlying3 (.tmp 41) ⟨g, 6, none⟩ (.int .i64 c.ord) rfl (hD 15 41 (by kernel_rfl)) ((HB1.out.kept hk).fld 6 _ rfl)) rfl) ?_
    refine fsteps_cons 18 rfl (fun a u hE hD hk => f_new (o := ⟨some 43, _, _, _, _, _⟩) (.slice (some ⟨u.heap.size, 0, none⟩) 2 2) _ rfl (wanted_none rfl _) (exec_ints 2 _ [(c.side), (c.ord)] rfl rfl (by omega) (by omega) (by show [(0, a.eval (.tmp 40)), (1, a.eval (.tmp 42))] = [(0, .int .i64 c.side), (1, .int .i64 c.ord)]; rw [show a.eval (.tmp 40) = .int .i64 c.side from (hD 14 40 (by kernel_rfl)), show a.eval (.tmp 42) = .int .i64 c.ord from (hD 16 42 (by kernel_rfl))])) (ints_new u [(c.side), (c.ord)] 2 rfl) ((Keep.refl _ u).alloc _)) ?_
    refine fsteps_cons 19 rfl (fun a u hE hD hk => f_call (o := ⟨some 44, _, _, _, _, _⟩) 23 #[a.eval (.tmp 38), a.eval (.tmp 43)] rfl (wanted_none rfl _) (exec_call 23 _ [.tmp 38, .tmp 43] _ [a.eval (.tmp 38), a.eval (.tmp 43)] Try.func23 (by kernel_rfl) (by kernel_rfl) rfl rfl u) (bytes_any _ _ g ((((u8s [c.k]) ++ w32s [c.seq]) ++ u8s [c.inst]) ++ w32s [c.id]) [c.side, c.ord] u (hD 12 38 (by kernel_rfl)) (hD 17 43 (by kernel_rfl)) (by have := hgb1.out; have := hk.size; omega) (Nat.le_of_ble_eq_true (by kernel_rfl)) (Nat.le_of_ble_eq_true (by kernel_rfl)))) ?_
    refine fsteps_cons 20 rfl (fun a u hE hD hk => f_val (o := ⟨some 45, _, _, _, _, _⟩) (.pointer (some ⟨g, 7, none⟩)) rfl (wanted_none rfl _) (exec_fld 28 7 7 (.tmp 1) (g) rfl (hE 1 (.pointer (some ⟨g, 0, none⟩)) (by kernel_rfl) (by kernel_rfl)) (by kernel_rfl)) rfl) ?_
    refine fsteps_cons 21 rfl (fun a u hE hD hk => f_val (o := ⟨some 46, _, _, _, _, _⟩) (.int .i64 c.price) rfl (wanted_none rfl _) (exec_loadi 3 Try.underlying3 (.tmp 45) ⟨g, 7, none⟩ (.int .i64 c.price) rfl (hD 19 45 (by kernel_rfl)) ((HB1.out.kept hk).fld 7 _ rfl)) rfl) ?_
    refine fsteps_cons 22 rfl (fun a u hE hD hk => f_val (o := ⟨some 47, _, _, _, _, _⟩) (.pointer (some ⟨g, 8, none⟩)) rfl (wanted_none rfl _) (exec_fld 28 8 8 (.tmp 1) (g) rfl (hE 1 (.pointer (some ⟨g, 0, none⟩)) (by kernel_rfl) (by kernel_rfl)) (by kernel_rfl)) rfl) ?_
    refine fsteps_cons 23 rfl (fun a u hE hD hk => f_val (o := ⟨some 48, _, _, _, _, _⟩) (.int .i64 c.qty) rfl (wanted_none rfl _) (exec_loadi 3 Try.underlying3 (.tmp 47) ⟨g, 8, none⟩ (.int .i64 c.qty) rfl (hD 21 47 (by kernel_rfl)) ((HB1.out.kept hk).fld 8 _ rfl)) rfl) ?_
    refine fsteps_cons 24 rfl (fun a u hE hD hk => f_val (o := ⟨some 49, _, _, _, _, _⟩) (.pointer (some ⟨g, 9, none⟩)) rfl (wanted_none rfl _) (exec_fld 28 9 9 (.tmp 1) (g) rfl (hE 1 (.pointer (some ⟨g, 0, none⟩)) (by kernel_rfl) (by kernel_rfl)) (by kernel_rfl)) rfl) ?_
    refine fsteps_cons 25 rfl (fun a u hE hD hk => f_val (o := ⟨some 50, _, _, _, _, _⟩) (.int .i64 c.shw) rfl (wanted_none rfl _) (exec_loadi 3 Try.underlying3 (.tmp 49) ⟨g, 9, none⟩ (.int .i64 c.shw) rfl (hD 23 49 (by kernel_rfl)) ((HB1.out.kept hk).fld 9 _ rfl)) rfl) ?_
    refine fsteps_cons 26 rfl (fun a u hE hD hk => f_val (o := ⟨some 51, _, _, _, _, _⟩) (.pointer (some ⟨g, 10, none⟩)) rfl (wanted_none rfl _) (exec_fld 28 10 10 (.tmp 1) (g) rfl (hE 1 (.pointer (some ⟨g, 0, none⟩)) (by kernel_rfl) (by kernel_rfl)) (by kernel_rfl)) rfl) ?_
    refine fsteps_cons 27 rfl (fun a u hE hD hk => f_val (o := ⟨some 52, _, _, _, _, _⟩) (.int .i64 c.stop) rfl (wanted_none rfl _) (exec_loadi 3 Try.underlying3 (.tmp 51) ⟨g, 10, none⟩ (.int .i64 c.stop) rfl (hD 25 51 (by kernel_rfl)) ((HB1.out.kept hk).fld 10 _ rfl)) rfl) ?_
    refine fsteps_cons 28 rfl (fun a u hE hD hk => f_new (o := ⟨some 53, _, _, _, _, _⟩) (.slice (some ⟨u.heap.size, 0, none⟩) 4 4) _ rfl (wanted_none rfl _) (exec_ints 4 _ [(c.price), (c.qty), (c.shw), (c.stop)] rfl rfl (by omega) (by omega) (by show [(0, a.eval (.tmp 46)), (1, a.eval (.tmp 48)), (2, a.eval (.tmp 50)), (3, a.eval (.tmp 52))] = [(0, .int .i64 c.price), (1, .int .i64 c.qty), (2, .int .i64 c.shw), (3, .int .i64 c.stop)]; rw [show a.eval (.tmp 46) = .int .i64 c.price from (hD 20 46 (by kernel_rfl)), show a.eval (.tmp 48) = .int .i64 c.qty from (hD 22 48 (by kernel_rfl)), show a.eval (.tmp 50) = .int .i64 c.shw from (hD 24 50 (by kernel_rfl)), show a.eval (.tmp 52) = .int .i64 c.stop from (hD 26 52 (by kernel_rfl))])) (ints_new u [(c.price), (c.qty), (c.shw), (c.stop)] 4 rfl) ((Keep.refl _ u).alloc _)) ?_
    refine fsteps_cons 29 rfl (fun a u hE hD hk => f_call (o := ⟨some 54, _, _, _, _, _⟩) 25 #[a.eval (.tmp 44), a.eval (.tmp 53)] rfl (wanted_none rfl _) (exec_call 25 _ [.tmp 44, .tmp 53] _ [a.eval (.tmp 44), a.eval (.tmp 53)] Try.func25 (by kernel_rfl) (by kernel_rfl) rfl rfl u) (words_any _ _ g (((((u8s [c.k]) ++ w32s [c.seq]) ++ u8s [c.inst]) ++ w32s [c.id]) ++ u8s [c.side, c.ord]) [c.price, c.qty, c.shw, c.stop] u (hD 18 44 (by kernel_rfl)) (hD 27 53 (by kernel_rfl)) (by have := hgb1.out; have := hk.size; omega) (Nat.le_of_ble_eq_true (by kernel_rfl)) (Nat.le_of_ble_eq_true (by kernel_rfl)))) ?_
    exact fsteps_nil
  intro gv w2 hV k2
  rw [show dstsOf _ 29 = [26, 27, 28, 29, 30, 31, 32, 33, 34, 35, 36, 37, 38, 39, 40, 41, 42, 43, 44, 45, 46, 47, 48, 49, 50, 51, 52, 53, 54] by kernel_rfl]
  simp only [List.foldl_cons, List.foldl_nil, List.setIfInBounds_toArray, List.set_cons_succ, List.set_cons_zero, List.drop_succ_cons, List.drop_zero]
  have hv54 : (.own g ((((((u8s [c.k]) ++ w32s [c.seq]) ++ u8s [c.inst]) ++ w32s [c.id]) ++ u8s [c.side, c.ord]) ++ w32s [c.price, c.qty, c.shw, c.stop]) : Kn).p (gv 54) w2 := hV 28 54 (by kernel_rfl)
  generalize gv 54 = v54 at hv54 ⊢
  clear hV
  have HP2 := Lib.hid hv54
  generalize v54 = v3_2 at HP2 hv54 ⊢
  clear hv54
  have HB2 := Lib.hid (HB1.out.kept k2)
  have hgb2 : Hid (g ≤ w2.heap.size) := by show g ≤ _; have := k2.size; have := hgb1.out; omega
  have kw2 := kw1.trans k2
  clear kw1 k2
  go_wp2
  go_ret
  have he : ((((((u8s [c.k]) ++ w32s [c.seq]) ++ u8s [c.inst]) ++ w32s [c.id]) ++ u8s [c.side, c.ord]) ++ w32s [c.price, c.qty, c.shw, c.stop]) = c.enc := by simp [Cmd.enc, Cmd.body, hkk.out, u8s, w32s]
  rw [← he]
  exact ⟨_, rfl, HP2.out.low hgw.out, kw2⟩

set_option maxRecDepth 100000 in
set_option maxHeartbeats 3200000 in
theorem write_4 (c : Cmd) (w : World) (hkk : Hid (c.k = 4)) (HT : Hid (c.tag.length = 32)) : Gives 22 #[c.v] w (.own w.heap.size c.enc) := by
  unfold Gives Cmd.v
  have HB0 : Hid (Blk (w.alloc (.cells c.cells.toArray 28)) w.heap.size 28 c.cells) := Blk.new w _ _
  have kw0 : Kept w (w.alloc (.cells c.cells.toArray 28)) := (Keep.refl _ w).alloc _
  go_enter Try.func22, Try.ntmps22
  go_upto_region 1 with fail
  generalize w.alloc (.cells c.cells.toArray 28) = w0 at HB0 kw0 ⊢
  obtain ⟨g, hg⟩ : ∃ g, g = w.heap.size := ⟨_, rfl⟩
  rw [← hg] at HB0 ⊢
  have hgb0 : Hid (g ≤ w0.heap.size) := by show g ≤ _; have := kw0.size; omega
  have hgw : Hid (w.heap.size ≤ g) := by show _ ≤ g; omega
  clear hg
  refine wp_text 4 [.eq (.pointer (some ⟨g, 0, none⟩)), .eq (.int .i64 c.k), .ints [(c.k)], .own g (u8s [c.k])] rfl (by kernel_rfl) ?_ ?_
  · refine fsteps_cons 1 rfl (fun a u hE hD hk => f_val (o := ⟨some 4, _, _, _, _, _⟩) (.pointer (some ⟨g, 0, none⟩)) rfl (wanted_none rfl _) (exec_fld 28 0 0 (.tmp 1) (g) rfl (hE 1 (.pointer (some ⟨g, 0, none⟩)) (by kernel_rfl) (by kernel_rfl)) (by kernel_rfl)) rfl) ?_
    refine fsteps_cons 2 rfl (fun a u hE hD hk => f_val (o := ⟨some 5, _, _, _, _, _⟩) (.int .i64 c.k) rfl (wanted_none rfl _) (exec_loadi 3 Try.underlying3 (.tmp 4) ⟨g, 0, none⟩ (.int .i64 c.k) rfl (hD 0 4 (by kernel_rfl)) ((HB0.out.kept hk).fld 0 _ rfl)) rfl) ?_
    refine fsteps_cons 3 rfl (fun a u hE hD hk => f_new (o := ⟨some 6, _, _, _, _, _⟩) (.slice (some ⟨u.heap.size, 0, none⟩) 1 1) _ rfl (wanted_none rfl _) (exec_ints 1 _ [(c.k)] rfl rfl (by omega) (by omega) (by show [(0, a.eval (.tmp 5))] = [(0, .int .i64 c.k)]; rw [show a.eval (.tmp 5) = .int .i64 c.k from (hD 1 5 (by kernel_rfl))])) (ints_new u [(c.k)] 1 rfl) ((Keep.refl _ u).alloc _)) ?_
    refine fsteps_cons 4 rfl (fun a u hE hD hk => f_call (o := ⟨some 7, _, _, _, _, _⟩) 23 #[.slice none 0 0, a.eval (.tmp 6)] rfl (wanted_none rfl _) (exec_call 23 _ [.const (.slice none 0 0), .tmp 6] _ [.slice none 0 0, a.eval (.tmp 6)] Try.func23 (by kernel_rfl) (by kernel_rfl) rfl rfl u) (bytes_any _ _ g [] [c.k] u (OwnV.nil _ _) (hD 2 6 (by kernel_rfl)) (by have := hgb0.out; have := hk.size; omega) (Nat.le_of_ble_eq_true (by kernel_rfl)) (Nat.le_of_ble_eq_true (by kernel_rfl)))) ?_
    exact fsteps_nil
  intro gv w1 hV k1
  rw [show dstsOf _ 4 = [4, 5, 6, 7] by kernel_rfl]
  simp only [List.foldl_cons, List.foldl_nil, List.setIfInBounds_toArray, List.set_cons_succ, List.set_cons_zero, List.drop_succ_cons, List.drop_zero]
  have hv7 : (.own g (u8s [c.k]) : Kn).p (gv 7) w1 := hV 3 7 (by kernel_rfl)
  generalize gv 7 = v7 at hv7 ⊢
  clear hV
  have HP1 := Lib.hid hv7
  generalize v7 = v3_1 at HP1 hv7 ⊢
  clear hv7
  have HB1 := Lib.hid (HB0.out.kept k1)
  have hgb1 : Hid (g ≤ w1.heap.size) := by show g ≤ _; have := k1.size; have := hgb0.out; omega
  have kw1 := kw0.trans k1
  clear kw0 k1
  have hc : w1.cell? ⟨g, 0, none⟩ = some (.int .i64 4) := by rw [← hkk.out]; exact HB1.out.fld 0 _ rfl
  go_upto_region 11 with fail
  refine wp_free 17 [.eq (v3_1), .eq (.pointer (some ⟨g, 1, none⟩)), .eq (.int .i64 c.seq), .ints [(c.seq)], .own g ((u8s [c.k]) ++ w32s [c.seq]), .eq (.pointer (some ⟨g, 3, none⟩)), .eq (.int .i64 c.inst), .ints [(c.inst)], .own g (((u8s [c.k]) ++ w32s [c.seq]) ++ u8s [c.inst]), .eq (.pointer (some ⟨g, 4, none⟩)), .eq (.int .i64 c.id), .ints [(c.id)], .own g ((((u8s [c.k]) ++ w32s [c.seq]) ++ u8s [c.inst]) ++ w32s [c.id]), .eq (.pointer (some ⟨g, 2, none⟩)), .eq (.int .i64 c.tr), .ints [(c.tr)], .own g (((((u8s [c.k]) ++ w32s [c.seq]) ++ u8s [c.inst]) ++ w32s [c.id]) ++ u8s [c.tr])] (by kernel_rfl) rfl (by kernel_rfl) ?_ ?_
  · refine fsteps_cons 1 rfl (fun a u hE hD hk => f_val (o := ⟨some 57, _, _, _, _, _⟩) (v3_1) rfl (wanted_none rfl _) (exec_move (.tmp 3) (v3_1) rfl (hE 3 (v3_1) (by kernel_rfl) (by kernel_rfl))) rfl) ?_
    refine fsteps_cons 2 rfl (fun a u hE hD hk => f_val (o := ⟨some 58, _, _, _, _, _⟩) (.pointer (some ⟨g, 1, none⟩)) rfl (wanted_none rfl _) (exec_fld 28 1 1 (.tmp 1) (g) rfl (hE 1 (.pointer (some ⟨g, 0, none⟩)) (by kernel_rfl) (by kernel_rfl)) (by kernel_rfl)) rfl) ?_
    refine fsteps_cons 3 rfl (fun a u hE hD hk => f_val (o := ⟨some 59, _, _, _, _, _⟩) (.int .i64 c.seq) rfl (wanted_none rfl _) (exec_loadi 3 Try.underlying3 (.tmp 58) ⟨g, 1, none⟩ (.int .i64 c.seq) rfl (hD 1 58 (by kernel_rfl)) ((HB1.out.kept hk).fld 1 _ rfl)) rfl) ?_
    refine fsteps_cons 4 rfl (fun a u hE hD hk => f_new (o := ⟨some 60, _, _, _, _, _⟩) (.slice (some ⟨u.heap.size, 0, none⟩) 1 1) _ rfl (wanted_none rfl _) (exec_ints 1 _ [(c.seq)] rfl rfl (by omega) (by omega) (by show [(0, a.eval (.tmp 59))] = [(0, .int .i64 c.seq)]; rw [show a.eval (.tmp 59) = .int .i64 c.seq from (hD 2 59 (by kernel_rfl))])) (ints_new u [(c.seq)] 1 rfl) ((Keep.refl _ u).alloc _)) ?_
    refine fsteps_cons 5 rfl (fun a u hE hD hk => f_call (o := ⟨some 61, _, _, _, _, _⟩) 25 #[v3_1, a.eval (.tmp 60)] rfl (wanted_none rfl _) (exec_call 25 _ [.tmp 57, .tmp 60] _ [v3_1, a.eval (.tmp 60)] Try.func25 (by kernel_rfl) (by kernel_rfl) rfl (show [a.eval (.tmp 57), a.eval (.tmp 60)] = [v3_1, a.eval (.tmp 60)] from (by rw [show a.eval (.tmp 57) = v3_1 from (hD 0 57 (by kernel_rfl))] <;> rfl)) u) (words_any _ _ g (u8s [c.k]) [c.seq] u (HP1.out.kept hk) (hD 3 60 (by kernel_rfl)) (by have := hgb1.out; have := hk.size; omega) (Nat.le_of_ble_eq_true (by kernel_rfl)) (Nat.le_of_ble_eq_true (by kernel_rfl)))) ?_
    refine fsteps_cons 6 rfl (fun a u hE hD hk => f_val (o := ⟨some 62, _, _, _, _, _⟩) (.pointer (some ⟨g, 3, none⟩)) rfl (wanted_none rfl _) (exec_fld 28 3 3 (.tmp 1) (g) rfl (hE 1 (.pointer (some ⟨g, 0, none⟩)) (by kernel_rfl) (by kernel_rfl)) (by kernel_rfl)) rfl) ?_
    refine fsteps_cons 7 rfl (fun a u hE hD hk => f_val (o := ⟨some 63, _, _, _, _, _⟩) (.int .i64 c.inst) rfl (wanted_none rfl _) (exec_loadi 3 Try.underlying3 (.tmp 62) ⟨g, 3, none⟩ (.int .i64 c.inst) rfl (hD 5 62 (by kernel_rfl)) ((HB1.out.kept hk).fld 3 _ rfl)) rfl) ?_
    refine fsteps_cons 8 rfl (fun a u hE hD hk => f_new (o := ⟨some 64, _, _, _, _, _⟩) (.slice (some ⟨u.heap.size, 0, none⟩) 1 1) _ rfl (wanted_none rfl _) (exec_ints 1 _ [(c.inst)] rfl rfl (by omega) (by omega) (by show [(0, a.eval (.tmp 63))] = [(0, .int .i64 c.inst)]; rw [show a.eval (.tmp 63) = .int .i64 c.inst from (hD 6 63 (by kernel_rfl))])) (ints_new u [(c.inst)] 1 rfl) ((Keep.refl _ u).alloc _)) ?_
    refine fsteps_cons 9 rfl (fun a u hE hD hk => f_call (o := ⟨some 65, _, _, _, _, _⟩) 23 #[a.eval (.tmp 61), a.eval (.tmp 64)] rfl (wanted_none rfl _) (exec_call 23 _ [.tmp 61, .tmp 64] _ [a.eval (.tmp 61), a.eval (.tmp 64)] Try.func23 (by kernel_rfl) (by kernel_rfl) rfl rfl u) (bytes_any _ _ g ((u8s [c.k]) ++ w32s [c.seq]) [c.inst] u (hD 4 61 (by kernel_rfl)) (hD 7 64 (by kernel_rfl)) (by have := hgb1.out; have := hk.size; omega) (Nat.le_of_ble_eq_true (by kernel_rfl)) (Nat.le_of_ble_eq_true (by kernel_rfl)))) ?_
    refine fsteps_cons 10 rfl (fun a u hE hD hk => f_val (o := ⟨some 66, _, _, _, _, _⟩) (.pointer (some ⟨g, 4, none⟩)) rfl (wanted_none rfl _) (exec_fld 28 4 4 (.tmp 1) (g) rfl (hE 1 (.pointer (some ⟨g, 0, none⟩)) (by kernel_rfl) (by kernel_rfl)) (by kernel_rfl)) rfl) ?_
    refine fsteps_cons 11 rfl (fun a u hE hD hk => f_val (o := ⟨some 67, _, _, _, _, _⟩) (.int .i64 c.id) rfl (wanted_none rfl _) (exec_loadi 3 Try.underlying3 (.tmp 66) ⟨g, 4, none⟩ (.int .i64 c.id) rfl (hD 9 66 (by kernel_rfl)) ((HB1.out.kept hk).fld 4 _ rfl)) rfl) ?_
    refine fsteps_cons 12 rfl (fun a u hE hD hk => f_new (o := ⟨some 68, _, _, _, _, _⟩) (.slice (some ⟨u.heap.size, 0, none⟩) 1 1) _ rfl (wanted_none rfl _) (exec_ints 1 _ [(c.id)] rfl rfl (by omega) (by omega) (by show [(0, a.eval (.tmp 67))] = [(0, .int .i64 c.id)]; rw [show a.eval (.tmp 67) = .int .i64 c.id from (hD 10 67 (by kernel_rfl))])) (ints_new u [(c.id)] 1 rfl) ((Keep.refl _ u).alloc _)) ?_
    refine fsteps_cons 13 rfl (fun a u hE hD hk => f_call (o := ⟨some 69, _, _, _, _, _⟩) 25 #[a.eval (.tmp 65), a.eval (.tmp 68)] rfl (wanted_none rfl _) (exec_call 25 _ [.tmp 65, .tmp 68] _ [a.eval (.tmp 65), a.eval (.tmp 68)] Try.func25 (by kernel_rfl) (by kernel_rfl) rfl rfl u) (words_any _ _ g (((u8s [c.k]) ++ w32s [c.seq]) ++ u8s [c.inst]) [c.id] u (hD 8 65 (by kernel_rfl)) (hD 11 68 (by kernel_rfl)) (by have := hgb1.out; have := hk.size; omega) (Nat.le_of_ble_eq_true (by kernel_rfl)) (Nat.le_of_ble_eq_true (by kernel_rfl)))) ?_
    refine fsteps_cons 14 rfl (fun a u hE hD hk => f_val (o := ⟨some 70, _, _, _, _, _⟩) (.pointer (some ⟨g, 2, none⟩)) rfl (wanted_none rfl _) (exec_fld 28 2 2 (.tmp 1) (g) rfl (hE 1 (.pointer (some ⟨g, 0, none⟩)) (by kernel_rfl) (by kernel_rfl)) (by kernel_rfl)) rfl) ?_
    refine fsteps_cons 15 rfl (fun a u hE hD hk => f_val (o := ⟨some 71, _, _, _, _, _⟩) (.int .i64 c.tr) rfl (wanted_none rfl _) (exec_loadi 3 Try.underlying3 (.tmp 70) ⟨g, 2, none⟩ (.int .i64 c.tr) rfl (hD 13 70 (by kernel_rfl)) ((HB1.out.kept hk).fld 2 _ rfl)) rfl) ?_
    refine fsteps_cons 16 rfl (fun a u hE hD hk => f_new (o := ⟨some 72, _, _, _, _, _⟩) (.slice (some ⟨u.heap.size, 0, none⟩) 1 1) _ rfl (wanted_none rfl _) (exec_ints 1 _ [(c.tr)] rfl rfl (by omega) (by omega) (by show [(0, a.eval (.tmp 71))] = [(0, .int .i64 c.tr)]; rw [show a.eval (.tmp 71) = .int .i64 c.tr from (hD 14 71 (by kernel_rfl))])) (ints_new u [(c.tr)] 1 rfl) ((Keep.refl _ u).alloc _)) ?_
    refine fsteps_cons 17 rfl (fun a u hE hD hk => f_call (o := ⟨some 73, _, _, _, _, _⟩) 23 #[a.eval (.tmp 69), a.eval (.tmp 72)] rfl (wanted_none rfl _) (exec_call 23 _ [.tmp 69, .tmp 72] _ [a.eval (.tmp 69), a.eval (.tmp 72)] Try.func23 (by kernel_rfl) (by kernel_rfl) rfl rfl u) (bytes_any _ _ g ((((u8s [c.k]) ++ w32s [c.seq]) ++ u8s [c.inst]) ++ w32s [c.id]) [c.tr] u (hD 12 69 (by kernel_rfl)) (hD 15 72 (by kernel_rfl)) (by have := hgb1.out; have := hk.size; omega) (Nat.le_of_ble_eq_true (by kernel_rfl)) (Nat.le_of_ble_eq_true (by kernel_rfl)))) ?_
    exact fsteps_nil
  intro gv w2 hV k2
  rw [show dstsOf _ 17 = [57, 58, 59, 60, 61, 62, 63, 64, 65, 66, 67, 68, 69, 70, 71, 72, 73] by kernel_rfl]
  simp only [List.foldl_cons, List.foldl_nil, List.setIfInBounds_toArray, List.set_cons_succ, List.set_cons_zero, List.drop_succ_cons, List.drop_zero]
  have hv73 : (.own g (((((u8s [c.k]) ++ w32s [c.seq]) ++ u8s [c.inst]) ++ w32s [c.id]) ++ u8s [c.tr]) : Kn).p (gv 73) w2 := hV 16 73 (by kernel_rfl)
  generalize gv 73 = v73 at hv73 ⊢
  clear hV
  have HP2 := Lib.hid hv73
  generalize v73 = v3_2 at HP2 hv73 ⊢
  clear hv73
  have HB2 := Lib.hid (HB1.out.kept k2)
  have hgb2 : Hid (g ≤ w2.heap.size) := by show g ≤ _; have := k2.size; have := hgb1.out; omega
  have kw2 := kw1.trans k2
  clear kw1 k2
  go_wp2
  go_ret
  have he : (((((u8s [c.k]) ++ w32s [c.seq]) ++ u8s [c.inst]) ++ w32s [c.id]) ++ u8s [c.tr]) = c.enc := by simp [Cmd.enc, Cmd.body, hkk.out, u8s, w32s]
  rw [← he]
  exact ⟨_, rfl, HP2.out.low hgw.out, kw2⟩

set_option maxRecDepth 100000 in
set_option maxHeartbeats 3200000 in
theorem write_5 (c : Cmd) (w : World) (hkk : Hid (c.k = 5)) (HT : Hid (c.tag.length = 32)) : Gives 22 #[c.v] w (.own w.heap.size c.enc) := by
  unfold Gives Cmd.v
  have HB0 : Hid (Blk (w.alloc (.cells c.cells.toArray 28)) w.heap.size 28 c.cells) := Blk.new w _ _
  have kw0 : Kept w (w.alloc (.cells c.cells.toArray 28)) := (Keep.refl _ w).alloc _
  go_enter Try.func22, Try.ntmps22
  go_upto_region 1 with fail
  generalize w.alloc (.cells c.cells.toArray 28) = w0 at HB0 kw0 ⊢
  obtain ⟨g, hg⟩ : ∃ g, g = w.heap.size := ⟨_, rfl⟩
  rw [← hg] at HB0 ⊢
  have hgb0 : Hid (g ≤ w0.heap.size) := by show g ≤ _; have := kw0.size; omega
  have hgw : Hid (w.heap.size ≤ g) := by show _ ≤ g; omega
  clear hg
  refine wp_text 4 [.eq (.pointer (some ⟨g, 0, none⟩)), .eq (.int .i64 c.k), .ints [(c.k)], .own g (u8s [c.k])] rfl (by kernel_rfl) ?_ ?_
  · refine fsteps_cons 1 rfl (fun a u hE hD hk => f_val (o := ⟨some 4, _, _, _, _, _⟩) (.pointer (some ⟨g, 0, none⟩)) rfl (wanted_none rfl _) (exec_fld 28 0 0 (.tmp 1) (g) rfl (hE 1 (.pointer (some ⟨g, 0, none⟩)) (by kernel_rfl) (by kernel_rfl)) (by kernel_rfl)) rfl) ?_
    refine fsteps_cons 2 rfl (fun a u hE hD hk => f_val (o := ⟨some 5, _, _, _, _, _⟩) (.int .i64 c.k) rfl (wanted_none rfl _) (exec_loadi 3 Try.underlying3 (.tmp 4) ⟨g, 0, none⟩ (.int .i64 c.k) rfl (hD 0 4 (by kernel_rfl)) ((HB0.out.kept hk).fld 0 _ rfl)) rfl) ?_
    refine fsteps_cons 3 rfl (fun a u hE hD hk => f_new (o := ⟨some 6, _, _, _, _, _⟩) (.slice (some ⟨u.heap.size, 0, none⟩) 1 1) _ rfl (wanted_none rfl _) (exec_ints 1 _ [(c.k)] rfl rfl (by omega) (by omega) (by show [(0, a.eval (.tmp 5))] = [(0, .int .i64 c.k)]; rw [show a.eval (.tmp 5) = .int .i64 c.k from (hD 1 5 (by kernel_rfl))])) (ints_new u [(c.k)] 1 rfl) ((Keep.refl _ u).alloc _)) ?_
    refine fsteps_cons 4 rfl (fun a u hE hD hk => f_call (o := ⟨some 7, _, _, _, _, _⟩) 23 #[.slice none 0 0, a.eval (.tmp 6)] rfl (wanted_none rfl _) (exec_call 23 _ [.const (.slice none 0 0), .tmp 6] _ [.slice none 0 0, a.eval (.tmp 6)] Try.func23 (by kernel_rfl) (by kernel_rfl) rfl rfl u) (bytes_any _ _ g [] [c.k] u (OwnV.nil _ _) (hD 2 6 (by kernel_rfl)) (by have := hgb0.out; have := hk.size; omega) (Nat.le_of_ble_eq_true (by kernel_rfl)) (Nat.le_of_ble_eq_true (by kernel_rfl)))) ?_
    exact fsteps_nil
  intro gv w1 hV k1
  rw [show dstsOf _ 4 = [4, 5, 6, 7] by kernel_rfl]
  simp only [List.foldl_cons, List.foldl_nil, List.setIfInBounds_toArray, List.set_cons_succ, List.set_cons_zero, List.drop_succ_cons, List.drop_zero]
  have hv7 : (.own g (u8s [c.k]) : Kn).p (gv 7) w1 := hV 3 7 (by kernel_rfl)
  generalize gv 7 = v7 at hv7 ⊢
  clear hV
  have HP1 := Lib.hid hv7
  generalize v7 = v3_1 at HP1 hv7 ⊢
  clear hv7
  have HB1 := Lib.hid (HB0.out.kept k1)
  have hgb1 : Hid (g ≤ w1.heap.size) := by show g ≤ _; have := k1.size; have := hgb0.out; omega
  have kw1 := kw0.trans k1
  clear kw0 k1
  have hc : w1.cell? ⟨g, 0, none⟩ = some (.int .i64 5) := by rw [← hkk.out]; exact HB1.out.fld 0 _ rfl
  go_upto_region 13 with fail
  refine wp_free 17 [.eq (v3_1), .eq (.pointer (some ⟨g, 1, none⟩)), .eq (.int .i64 c.seq), .ints [(c.seq)], .own g ((u8s [c.k]) ++ w32s [c.seq]), .eq (.pointer (some ⟨g, 3, none⟩)), .eq (.int .i64 c.inst), .ints [(c.inst)], .own g (((u8s [c.k]) ++ w32s [c.seq]) ++ u8s [c.inst]), .eq (.pointer (some ⟨g, 4, none⟩)), .eq (.int .i64 c.id), .eq (.pointer (some ⟨g, 7, none⟩)), .eq (.int .i64 c.price), .eq (.pointer (some ⟨g, 8, none⟩)), .eq (.int .i64 c.qty), .ints [(c.id), (c.price), (c.qty)], .own g ((((u8s [c.k]) ++ w32s [c.seq]) ++ u8s [c.inst]) ++ w32s [c.id, c.price, c.qty])] (by kernel_rfl) rfl (by kernel_rfl) ?_ ?_
  · refine fsteps_cons 1 rfl (fun a u hE hD hk => f_val (o := ⟨some 76, _, _, _, _, _⟩) (v3_1) rfl (wanted_none rfl _) (exec_move (.tmp 3) (v3_1) rfl (hE 3 (v3_1) (by kernel_rfl) (by kernel_rfl))) rfl) ?_
    refine fsteps_cons 2 rfl (fun a u hE hD hk => f_val (o := ⟨some 77, _, _, _, _, _⟩) (.pointer (some ⟨g, 1, none⟩)) rfl (wanted_none rfl _) (exec_fld 28 1 1 (.tmp 1) (g) rfl (hE 1 (.pointer (some ⟨g, 0, none⟩)) (by kernel_rfl) (by kernel_rfl)) (by kernel_rfl)) rfl) ?_
    refine fsteps_cons 3 rfl (fun a u hE hD hk => f_val (o := ⟨some 78, _, _, _, _, _⟩) (.int .i64 c.seq) rfl (wanted_none rfl _) (exec_loadi 3 Try.underlying3 (.tmp 77) ⟨g, 1, none⟩ (.int .i64 c.seq) rfl (hD 1 77 (by kernel_rfl)) ((HB1.out.kept hk).fld 1 _ rfl)) rfl) ?_
    refine fsteps_cons 4 rfl (fun a u hE hD hk => f_new (o := ⟨some 79, _, _, _, _, _⟩) (.slice (some ⟨u.heap.size, 0, none⟩) 1 1) _ rfl (wanted_none rfl _) (exec_ints 1 _ [(c.seq)] rfl rfl (by omega) (by omega) (by show [(0, a.eval (.tmp 78))] = [(0, .int .i64 c.seq)]; rw [show a.eval (.tmp 78) = .int .i64 c.seq from (hD 2 78 (by kernel_rfl))])) (ints_new u [(c.seq)] 1 rfl) ((Keep.refl _ u).alloc _)) ?_
    refine fsteps_cons 5 rfl (fun a u hE hD hk => f_call (o := ⟨some 80, _, _, _, _, _⟩) 25 #[v3_1, a.eval (.tmp 79)] rfl (wanted_none rfl _) (exec_call 25 _ [.tmp 76, .tmp 79] _ [v3_1, a.eval (.tmp 79)] Try.func25 (by kernel_rfl) (by kernel_rfl) rfl (show [a.eval (.tmp 76), a.eval (.tmp 79)] = [v3_1, a.eval (.tmp 79)] from (by rw [show a.eval (.tmp 76) = v3_1 from (hD 0 76 (by kernel_rfl))] <;> rfl)) u) (words_any _ _ g (u8s [c.k]) [c.seq] u (HP1.out.kept hk) (hD 3 79 (by kernel_rfl)) (by have := hgb1.out; have := hk.size; omega) (Nat.le_of_ble_eq_true (by kernel_rfl)) (Nat.le_of_ble_eq_true (by kernel_rfl)))) ?_
    refine fsteps_cons 6 rfl (fun a u hE hD hk => f_val (o := ⟨some 81, _, _, _, _, _⟩) (.pointer (some ⟨g, 3, none⟩)) rfl (wanted_none rfl _) (exec_fld 28 3 3 (.tmp 1) (g) rfl (hE 1 (.pointer (some ⟨g, 0, none⟩)) (by kernel_rfl) (by kernel_rfl)) (by kernel_rfl)) rfl) ?_
    refine fsteps_cons 7 rfl (fun a u hE hD hk => f_val (o := ⟨some 82, _, _, _, _, _⟩) (.int .i64 c.inst) rfl (wanted_none rfl _) (exec_loadi 3 Try.underlying3 (.tmp 81) ⟨g, 3, none⟩ (.int .i64 c.inst) rfl (hD 5 81 (by kernel_rfl)) ((HB1.out.kept hk).fld 3 _ rfl)) rfl) ?_
    refine fsteps_cons 8 rfl (fun a u hE hD hk => f_new (o := ⟨some 83, _, _, _, _, _⟩) (.slice (some ⟨u.heap.size, 0, none⟩) 1 1) _ rfl (wanted_none rfl _) (exec_ints 1 _ [(c.inst)] rfl rfl (by omega) (by omega) (by show [(0, a.eval (.tmp 82))] = [(0, .int .i64 c.inst)]; rw [show a.eval (.tmp 82) = .int .i64 c.inst from (hD 6 82 (by kernel_rfl))])) (ints_new u [(c.inst)] 1 rfl) ((Keep.refl _ u).alloc _)) ?_
    refine fsteps_cons 9 rfl (fun a u hE hD hk => f_call (o := ⟨some 84, _, _, _, _, _⟩) 23 #[a.eval (.tmp 80), a.eval (.tmp 83)] rfl (wanted_none rfl _) (exec_call 23 _ [.tmp 80, .tmp 83] _ [a.eval (.tmp 80), a.eval (.tmp 83)] Try.func23 (by kernel_rfl) (by kernel_rfl) rfl rfl u) (bytes_any _ _ g ((u8s [c.k]) ++ w32s [c.seq]) [c.inst] u (hD 4 80 (by kernel_rfl)) (hD 7 83 (by kernel_rfl)) (by have := hgb1.out; have := hk.size; omega) (Nat.le_of_ble_eq_true (by kernel_rfl)) (Nat.le_of_ble_eq_true (by kernel_rfl)))) ?_
    refine fsteps_cons 10 rfl (fun a u hE hD hk => f_val (o := ⟨some 85, _, _, _, _, _⟩) (.pointer (some ⟨g, 4, none⟩)) rfl (wanted_none rfl _) (exec_fld 28 4 4 (.tmp 1) (g) rfl (hE 1 (.pointer (some ⟨g, 0, none⟩)) (by kernel_rfl) (by kernel_rfl)) (by kernel_rfl)) rfl) ?_
    refine fsteps_cons 11 rfl (fun a u hE hD hk => f_val (o := ⟨some 86, _, _, _, _, _⟩) (.int .i64 c.id) rfl (wanted_none rfl _) (exec_loadi 3 Try.underlying3 (.tmp 85) ⟨g, 4, none⟩ (.int .i64 c.id) rfl (hD 9 85 (by kernel_rfl)) ((HB1.out.kept hk).fld 4 _ rfl)) rfl) ?_
    refine fsteps_cons 12 rfl (fun a u hE hD hk => f_val (o := ⟨some 87, _, _, _, _, _⟩) (.pointer (some ⟨g, 7, none⟩)) rfl (wanted_none rfl _) (exec_fld 28 7 7 (.tmp 1) (g) rfl (hE 1 (.pointer (some ⟨g, 0, none⟩)) (by kernel_rfl) (by kernel_rfl)) (by kernel_rfl)) rfl) ?_
    refine fsteps_cons 13 rfl (fun a u hE hD hk => f_val (o := ⟨some 88, _, _, _, _, _⟩) (.int .i64 c.price) rfl (wanted_none rfl _) (exec_loadi 3 Try.underlying3 (.tmp 87) ⟨g, 7, none⟩ (.int .i64 c.price) rfl (hD 11 87 (by kernel_rfl)) ((HB1.out.kept hk).fld 7 _ rfl)) rfl) ?_
    refine fsteps_cons 14 rfl (fun a u hE hD hk => f_val (o := ⟨some 89, _, _, _, _, _⟩) (.pointer (some ⟨g, 8, none⟩)) rfl (wanted_none rfl _) (exec_fld 28 8 8 (.tmp 1) (g) rfl (hE 1 (.pointer (some ⟨g, 0, none⟩)) (by kernel_rfl) (by kernel_rfl)) (by kernel_rfl)) rfl) ?_
    refine fsteps_cons 15 rfl (fun a u hE hD hk => f_val (o := ⟨some 90, _, _, _, _, _⟩) (.int .i64 c.qty) rfl (wanted_none rfl _) (exec_loadi 3 Try.underlying3 (.tmp 89) ⟨g, 8, none⟩ (.int .i64 c.qty) rfl (hD 13 89 (by kernel_rfl)) ((HB1.out.kept hk).fld 8 _ rfl)) rfl) ?_
    refine fsteps_cons 16 rfl (fun a u hE hD hk => f_new (o := ⟨some 91, _, _, _, _, _⟩) (.slice (some ⟨u.heap.size, 0, none⟩) 3 3) _ rfl (wanted_none rfl _) (exec_ints 3 _ [(c.id), (c.price), (c.qty)] rfl rfl (by omega) (by omega) (by show [(0, a.eval (.tmp 86)), (1, a.eval (.tmp 88)), (2, a.eval (.tmp 90))] = [(0, .int .i64 c.id), (1, .int .i64 c.price), (2, .int .i64 c.qty)]; rw [show a.eval (.tmp 86) = .int .i64 c.id from (hD 10 86 (by kernel_rfl)), show a.eval (.tmp 88) = .int .i64 c.price from (hD 12 88 (by kernel_rfl)), show a.eval (.tmp 90) = .int .i64 c.qty from (hD 14 90 (by kernel_rfl))])) (ints_new u [(c.id), (c.price), (c.qty)] 3 rfl) ((Keep.refl _ u).alloc _)) ?_
    refine fsteps_cons 17 rfl (fun a u hE hD hk => f_call (o := ⟨some 92, _, _, _, _, _⟩) 25 #[a.eval (.tmp 84), a.eval (.tmp 91)] rfl (wanted_none rfl _) (exec_call 25 _ [.tmp 84, .tmp 91] _ [a.eval (.tmp 84), a.eval (.tmp 91)] Try.func25 (by kernel_rfl) (by kernel_rfl) rfl rfl u) (words_any _ _ g (((u8s [c.k]) ++ w32s [c.seq]) ++ u8s [c.inst]) [c.id, c.price, c.qty] u (hD 8 84 (by kernel_rfl)) (hD 15 91 (by kernel_rfl)) (by have := hgb1.out; have := hk.size; omega) (Nat.le_of_ble_eq_true (by kernel_rfl)) (Nat.le_of_ble_eq_true (by kernel_rfl)))) ?_
    exact fsteps_nil
  intro gv w2 hV k2
  rw [show dstsOf _ 17 = [76, 77, 78, 79, 80, 81, 82, 83, 84, 85, 86, 87, 88, 89, 90, 91, 92] by kernel_rfl]
  simp only [List.foldl_cons, List.foldl_nil, List.setIfInBounds_toArray, List.set_cons_succ, List.set_cons_zero, List.drop_succ_cons, List.drop_zero]
  have hv92 : (.own g ((((u8s [c.k]) ++ w32s [c.seq]) ++ u8s [c.inst]) ++ w32s [c.id, c.price, c.qty]) : Kn).p (gv 92) w2 := hV 16 92 (by kernel_rfl)
  generalize gv 92 = v92 at hv92 ⊢
  clear hV
  have HP2 := Lib.hid hv92
  generalize v92 = v3_2 at HP2 hv92 ⊢
  clear hv92
  have HB2 := Lib.hid (HB1.out.kept k2)
  have hgb2 : Hid (g ≤ w2.heap.size) := by show g ≤ _; have := k2.size; have := hgb1.out; omega
  have kw2 := kw1.trans k2
  clear kw1 k2
  go_wp2
  go_ret
  have he : ((((u8s [c.k]) ++ w32s [c.seq]) ++ u8s [c.inst]) ++ w32s [c.id, c.price, c.qty]) = c.enc := by simp [Cmd.enc, Cmd.body, hkk.out, u8s, w32s]
  rw [← he]
  exact ⟨_, rfl, HP2.out.low hgw.out, kw2⟩

set_option maxRecDepth 100000 in
set_option maxHeartbeats 3200000 in
theorem write_6 (c : Cmd) (w : World) (hkk : Hid (c.k = 6)) (HT : Hid (c.tag.length = 32)) : Gives 22 #[c.v] w (.own w.heap.size c.enc) := by
  unfold Gives Cmd.v
  have HB0 : Hid (Blk (w.alloc (.cells c.cells.toArray 28)) w.heap.size 28 c.cells) := Blk.new w _ _
  have kw0 : Kept w (w.alloc (.cells c.cells.toArray 28)) := (Keep.refl _ w).alloc _
  go_enter Try.func22, Try.ntmps22
  go_upto_region 1 with fail
  generalize w.alloc (.cells c.cells.toArray 28) = w0 at HB0 kw0 ⊢
  obtain ⟨g, hg⟩ : ∃ g, g = w.heap.size := ⟨_, rfl⟩
  rw [← hg] at HB0 ⊢
  have hgb0 : Hid (g ≤ w0.heap.size) := by show g ≤ _; have := kw0.size; omega
  have hgw : Hid (w.heap.size ≤ g) := by show _ ≤ g; omega
  clear hg
  refine wp_text 4 [.eq (.pointer (some ⟨g, 0, none⟩)), .eq (.int .i64 c.k), .ints [(c.k)], .own g (u8s [c.k])] rfl (by kernel_rfl) ?_ ?_
  · refine fsteps_cons 1 rfl (fun a u hE hD hk => f_val (o := ⟨some 4, _, _, _, _, _⟩) (.pointer (some ⟨g, 0, none⟩)) rfl (wanted_none rfl _) (exec_fld 28 0 0 (.tmp 1) (g) rfl (hE 1 (.pointer (some ⟨g, 0, none⟩)) (by kernel_rfl) (by kernel_rfl)) (by kernel_rfl)) rfl) ?_
    refine fsteps_cons 2 rfl (fun a u hE hD hk => f_val (o := ⟨some 5, _, _, _, _, _⟩) (.int .i64 c.k) rfl (wanted_none rfl _) (exec_loadi 3 Try.underlying3 (.tmp 4) ⟨g, 0, none⟩ (.int .i64 c.k) rfl (hD 0 4 (by kernel_rfl)) ((HB0.out.kept hk).fld 0 _ rfl)) rfl) ?_
    refine fsteps_cons 3 rfl (fun a u hE hD hk => f_new (o := ⟨some 6, _, _, _, _, _⟩) (.slice (some ⟨u.heap.size, 0, none⟩) 1 1) _ rfl (wanted_none rfl _) (exec_ints 1 _ [(c.k)] rfl rfl (by omega) (by omega) (by show [(0, a.eval (.tmp 5))] = [(0, .int .i64 c.k)]; rw [show a.eval (.tmp 5) = .int .i64 c.k from (hD 1 5 (by kernel_rfl))])) (ints_new u [(c.k)] 1 rfl) ((Keep.refl _ u).alloc _)) ?_
    refine fsteps_cons 4 rfl (fun a u hE hD hk => f_call (o := ⟨some 7, _, _, _, _, _⟩) 23 #[.slice none 0 0, a.eval (.tmp 6)] rfl (wanted_none rfl _) (exec_call 23 _ [.const (.slice none 0 0), .tmp 6] _ [.slice none 0 0, a.eval (.tmp 6)] Try.func23 (by kernel_rfl) (by kernel_rfl) rfl rfl u) (bytes_any _ _ g [] [c.k] u (OwnV.nil _ _) (hD 2 6 (by kernel_rfl)) (by have := hgb0.out; have := hk.size; omega) (Nat.le_of_ble_eq_true (by kernel_rfl)) (Nat.le_of_ble_eq_true (by kernel_rfl)))) ?_
    exact fsteps_nil
  intro gv w1 hV k1
  rw [show dstsOf _ 4 = [4, 5, 6, 7] by kernel_rfl]
  simp only [List.foldl_cons, List.foldl_nil, List.setIfInBounds_toArray, List.set_cons_succ, List.set_cons_zero, List.drop_succ_cons, List.drop_zero]
  have hv7 : (.own g (u8s [c.k]) : Kn).p (gv 7) w1 := hV 3 7 (by kernel_rfl)
  generalize gv 7 = v7 at hv7 ⊢
  clear hV
  have HP1 := Lib.hid hv7
  generalize v7 = v3_1 at HP1 hv7 ⊢
  clear hv7
  have HB1 := Lib.hid (HB0.out.kept k1)
  have hgb1 : Hid (g ≤ w1.heap.size) := by show g ≤ _; have := k1.size; have := hgb0.out; omega
  have kw1 := kw0.trans k1
  clear kw0 k1
  have hc : w1.cell? ⟨g, 0, none⟩ = some (.int .i64 6) := by rw [← hkk.out]; exact HB1.out.fld 0 _ rfl
  go_upto_region 15 with fail
  refine wp_free 11 [.eq (v3_1), .eq (.pointer (some ⟨g, 1, none⟩)), .eq (.int .i64 c.seq), .ints [(c.seq)], .own g ((u8s [c.k]) ++ w32s [c.seq]), .eq (.pointer (some ⟨g, 3, none⟩)), .eq (.int .i64 c.inst), .eq (.pointer (some ⟨g, 11, none⟩)), .eq (.int .i64 c.what), .ints [(c.inst), (c.what)], .own g (((u8s [c.k]) ++ w32s [c.seq]) ++ u8s [c.inst, c.what])] (by kernel_rfl) rfl (by kernel_rfl) ?_ ?_
  · refine fsteps_cons 1 rfl (fun a u hE hD hk => f_val (o := ⟨some 95, _, _, _, _, _⟩) (v3_1) rfl (wanted_none rfl _) (exec_move (.tmp 3) (v3_1) rfl (hE 3 (v3_1) (by kernel_rfl) (by kernel_rfl))) rfl) ?_
    refine fsteps_cons 2 rfl (fun a u hE hD hk => f_val (o := ⟨some 96, _, _, _, _, _⟩) (.pointer (some ⟨g, 1, none⟩)) rfl (wanted_none rfl _) (exec_fld 28 1 1 (.tmp 1) (g) rfl (hE 1 (.pointer (some ⟨g, 0, none⟩)) (by kernel_rfl) (by kernel_rfl)) (by kernel_rfl)) rfl) ?_
    refine fsteps_cons 3 rfl (fun a u hE hD hk => f_val (o := ⟨some 97, _, _, _, _, _⟩) (.int .i64 c.seq) rfl (wanted_none rfl _) (exec_loadi 3 Try.underlying3 (.tmp 96) ⟨g, 1, none⟩ (.int .i64 c.seq) rfl (hD 1 96 (by kernel_rfl)) ((HB1.out.kept hk).fld 1 _ rfl)) rfl) ?_
    refine fsteps_cons 4 rfl (fun a u hE hD hk => f_new (o := ⟨some 98, _, _, _, _, _⟩) (.slice (some ⟨u.heap.size, 0, none⟩) 1 1) _ rfl (wanted_none rfl _) (exec_ints 1 _ [(c.seq)] rfl rfl (by omega) (by omega) (by show [(0, a.eval (.tmp 97))] = [(0, .int .i64 c.seq)]; rw [show a.eval (.tmp 97) = .int .i64 c.seq from (hD 2 97 (by kernel_rfl))])) (ints_new u [(c.seq)] 1 rfl) ((Keep.refl _ u).alloc _)) ?_
    refine fsteps_cons 5 rfl (fun a u hE hD hk => f_call (o := ⟨some 99, _, _, _, _, _⟩) 25 #[v3_1, a.eval (.tmp 98)] rfl (wanted_none rfl _) (exec_call 25 _ [.tmp 95, .tmp 98] _ [v3_1, a.eval (.tmp 98)] Try.func25 (by kernel_rfl) (by kernel_rfl) rfl (show [a.eval (.tmp 95), a.eval (.tmp 98)] = [v3_1, a.eval (.tmp 98)] from (by rw [show a.eval (.tmp 95) = v3_1 from (hD 0 95 (by kernel_rfl))] <;> rfl)) u) (words_any _ _ g (u8s [c.k]) [c.seq] u (HP1.out.kept hk) (hD 3 98 (by kernel_rfl)) (by have := hgb1.out; have := hk.size; omega) (Nat.le_of_ble_eq_true (by kernel_rfl)) (Nat.le_of_ble_eq_true (by kernel_rfl)))) ?_
    refine fsteps_cons 6 rfl (fun a u hE hD hk => f_val (o := ⟨some 100, _, _, _, _, _⟩) (.pointer (some ⟨g, 3, none⟩)) rfl (wanted_none rfl _) (exec_fld 28 3 3 (.tmp 1) (g) rfl (hE 1 (.pointer (some ⟨g, 0, none⟩)) (by kernel_rfl) (by kernel_rfl)) (by kernel_rfl)) rfl) ?_
    refine fsteps_cons 7 rfl (fun a u hE hD hk => f_val (o := ⟨some 101, _, _, _, _, _⟩) (.int .i64 c.inst) rfl (wanted_none rfl _) (exec_loadi 3 Try.underlying3 (.tmp 100) ⟨g, 3, none⟩ (.int .i64 c.inst) rfl (hD 5 100 (by kernel_rfl)) ((HB1.out.kept hk).fld 3 _ rfl)) rfl) ?_
    refine fsteps_cons 8 rfl (fun a u hE hD hk => f_val (o := ⟨some 102, _, _, _, _, _⟩) (.pointer (some ⟨g, 11, none⟩)) rfl (wanted_none rfl _) (exec_fld 28 11 11 (.tmp 1) (g) rfl (hE 1 (.pointer (some ⟨g, 0, none⟩)) (by kernel_rfl) (by kernel_rfl)) (by kernel_rfl)) rfl) ?_
    refine fsteps_cons 9 rfl (fun a u hE hD hk => f_val (o := ⟨some 103, _, _, _, _, _⟩) (.int .i64 c.what) rfl (wanted_none rfl _) (exec_loadi 3 Try.underlying3 (.tmp 102) ⟨g, 11, none⟩ (.int .i64 c.what) rfl (hD 7 102 (by kernel_rfl)) ((HB1.out.kept hk).fld 11 _ rfl)) rfl) ?_
    refine fsteps_cons 10 rfl (fun a u hE hD hk => f_new (o := ⟨some 104, _, _, _, _, _⟩) (.slice (some ⟨u.heap.size, 0, none⟩) 2 2) _ rfl (wanted_none rfl _) (exec_ints 2 _ [(c.inst), (c.what)] rfl rfl (by omega) (by omega) (by show [(0, a.eval (.tmp 101)), (1, a.eval (.tmp 103))] = [(0, .int .i64 c.inst), (1, .int .i64 c.what)]; rw [show a.eval (.tmp 101) = .int .i64 c.inst from (hD 6 101 (by kernel_rfl)), show a.eval (.tmp 103) = .int .i64 c.what from (hD 8 103 (by kernel_rfl))])) (ints_new u [(c.inst), (c.what)] 2 rfl) ((Keep.refl _ u).alloc _)) ?_
    refine fsteps_cons 11 rfl (fun a u hE hD hk => f_call (o := ⟨some 105, _, _, _, _, _⟩) 23 #[a.eval (.tmp 99), a.eval (.tmp 104)] rfl (wanted_none rfl _) (exec_call 23 _ [.tmp 99, .tmp 104] _ [a.eval (.tmp 99), a.eval (.tmp 104)] Try.func23 (by kernel_rfl) (by kernel_rfl) rfl rfl u) (bytes_any _ _ g ((u8s [c.k]) ++ w32s [c.seq]) [c.inst, c.what] u (hD 4 99 (by kernel_rfl)) (hD 9 104 (by kernel_rfl)) (by have := hgb1.out; have := hk.size; omega) (Nat.le_of_ble_eq_true (by kernel_rfl)) (Nat.le_of_ble_eq_true (by kernel_rfl)))) ?_
    exact fsteps_nil
  intro gv w2 hV k2
  rw [show dstsOf _ 11 = [95, 96, 97, 98, 99, 100, 101, 102, 103, 104, 105] by kernel_rfl]
  simp only [List.foldl_cons, List.foldl_nil, List.setIfInBounds_toArray, List.set_cons_succ, List.set_cons_zero, List.drop_succ_cons, List.drop_zero]
  have hv105 : (.own g (((u8s [c.k]) ++ w32s [c.seq]) ++ u8s [c.inst, c.what]) : Kn).p (gv 105) w2 := hV 10 105 (by kernel_rfl)
  generalize gv 105 = v105 at hv105 ⊢
  clear hV
  have HP2 := Lib.hid hv105
  generalize v105 = v3_2 at HP2 hv105 ⊢
  clear hv105
  have HB2 := Lib.hid (HB1.out.kept k2)
  have hgb2 : Hid (g ≤ w2.heap.size) := by show g ≤ _; have := k2.size; have := hgb1.out; omega
  have kw2 := kw1.trans k2
  clear kw1 k2
  go_wp2
  go_ret
  have he : (((u8s [c.k]) ++ w32s [c.seq]) ++ u8s [c.inst, c.what]) = c.enc := by simp [Cmd.enc, Cmd.body, hkk.out, u8s, w32s]
  rw [← he]
  exact ⟨_, rfl, HP2.out.low hgw.out, kw2⟩

set_option maxRecDepth 100000 in
set_option maxHeartbeats 3200000 in
theorem write_9 (c : Cmd) (w : World) (hkk : Hid (c.k = 9)) (HT : Hid (c.tag.length = 32)) : Gives 22 #[c.v] w (.own w.heap.size c.enc) := by
  unfold Gives Cmd.v
  have HB0 : Hid (Blk (w.alloc (.cells c.cells.toArray 28)) w.heap.size 28 c.cells) := Blk.new w _ _
  have kw0 : Kept w (w.alloc (.cells c.cells.toArray 28)) := (Keep.refl _ w).alloc _
  go_enter Try.func22, Try.ntmps22
  go_upto_region 1 with fail
  generalize w.alloc (.cells c.cells.toArray 28) = w0 at HB0 kw0 ⊢
  obtain ⟨g, hg⟩ : ∃ g, g = w.heap.size := ⟨_, rfl⟩
  rw [← hg] at HB0 ⊢
  have hgb0 : Hid (g ≤ w0.heap.size) := by show g ≤ _; have := kw0.size; omega
  have hgw : Hid (w.heap.size ≤ g) := by show _ ≤ g; omega
  clear hg
  refine wp_text 4 [.eq (.pointer (some ⟨g, 0, none⟩)), .eq (.int .i64 c.k), .ints [(c.k)], .own g (u8s [c.k])] rfl (by kernel_rfl) ?_ ?_
  · refine fsteps_cons 1 rfl (fun a u hE hD hk => f_val (o := ⟨some 4, _, _, _, _, _⟩) (.pointer (some ⟨g, 0, none⟩)) rfl (wanted_none rfl _) (exec_fld 28 0 0 (.tmp 1) (g) rfl (hE 1 (.pointer (some ⟨g, 0, none⟩)) (by kernel_rfl) (by kernel_rfl)) (by kernel_rfl)) rfl) ?_
    refine fsteps_cons 2 rfl (fun a u hE hD hk => f_val (o := ⟨some 5, _, _, _, _, _⟩) (.int .i64 c.k) rfl (wanted_none rfl _) (exec_loadi 3 Try.underlying3 (.tmp 4) ⟨g, 0, none⟩ (.int .i64 c.k) rfl (hD 0 4 (by kernel_rfl)) ((HB0.out.kept hk).fld 0 _ rfl)) rfl) ?_
    refine fsteps_cons 3 rfl (fun a u hE hD hk => f_new (o := ⟨some 6, _, _, _, _, _⟩) (.slice (some ⟨u.heap.size, 0, none⟩) 1 1) _ rfl (wanted_none rfl _) (exec_ints 1 _ [(c.k)] rfl rfl (by omega) (by omega) (by show [(0, a.eval (.tmp 5))] = [(0, .int .i64 c.k)]; rw [show a.eval (.tmp 5) = .int .i64 c.k from (hD 1 5 (by kernel_rfl))])) (ints_new u [(c.k)] 1 rfl) ((Keep.refl _ u).alloc _)) ?_
    refine fsteps_cons 4 rfl (fun a u hE hD hk => f_call (o := ⟨some 7, _, _, _, _, _⟩) 23 #[.slice none 0 0, a.eval (.tmp 6)] rfl (wanted_none rfl _) (exec_call 23 _ [.const (.slice none 0 0), .tmp 6] _ [.slice none 0 0, a.eval (.tmp 6)] Try.func23 (by kernel_rfl) (by kernel_rfl) rfl rfl u) (bytes_any _ _ g [] [c.k] u (OwnV.nil _ _) (hD 2 6 (by kernel_rfl)) (by have := hgb0.out; have := hk.size; omega) (Nat.le_of_ble_eq_true (by kernel_rfl)) (Nat.le_of_ble_eq_true (by kernel_rfl)))) ?_
    exact fsteps_nil
  intro gv w1 hV k1
  rw [show dstsOf _ 4 = [4, 5, 6, 7] by kernel_rfl]
  simp only [List.foldl_cons, List.foldl_nil, List.setIfInBounds_toArray, List.set_cons_succ, List.set_cons_zero, List.drop_succ_cons, List.drop_zero]
  have hv7 : (.own g (u8s [c.k]) : Kn).p (gv 7) w1 := hV 3 7 (by kernel_rfl)
  generalize gv 7 = v7 at hv7 ⊢
  clear hV
  have HP1 := Lib.hid hv7
  generalize v7 = v3_1 at HP1 hv7 ⊢
  clear hv7
  have HB1 := Lib.hid (HB0.out.kept k1)
  have hgb1 : Hid (g ≤ w1.heap.size) := by show g ≤ _; have := k1.size; have := hgb0.out; omega
  have kw1 := kw0.trans k1
  clear kw0 k1
  have hc : w1.cell? ⟨g, 0, none⟩ = some (.int .i64 9) := by rw [← hkk.out]; exact HB1.out.fld 0 _ rfl
  go_upto_region 17 with fail
  refine wp_free 13 [.eq (v3_1), .eq (.pointer (some ⟨g, 1, none⟩)), .eq (.int .i64 c.seq), .ints [(c.seq)], .own g ((u8s [c.k]) ++ w32s [c.seq]), .eq (.pointer (some ⟨g, 11, none⟩)), .eq (.int .i64 c.what), .eq (.pointer (some ⟨g, 12, none⟩)), .eq (.int .i64 c.fa), .eq (.pointer (some ⟨g, 13, none⟩)), .eq (.int .i64 c.fb), .ints [(c.what), (c.fa), (c.fb)], .own g (((u8s [c.k]) ++ w32s [c.seq]) ++ u8s [c.what, c.fa, c.fb])] (by kernel_rfl) rfl (by kernel_rfl) ?_ ?_
  · refine fsteps_cons 1 rfl (fun a u hE hD hk => f_val (o := ⟨some 108, _, _, _, _, _⟩) (v3_1) rfl (wanted_none rfl _) (exec_move (.tmp 3) (v3_1) rfl (hE 3 (v3_1) (by kernel_rfl) (by kernel_rfl))) rfl) ?_
    refine fsteps_cons 2 rfl (fun a u hE hD hk => f_val (o := ⟨some 109, _, _, _, _, _⟩) (.pointer (some ⟨g, 1, none⟩)) rfl (wanted_none rfl _) (exec_fld 28 1 1 (.tmp 1) (g) rfl (hE 1 (.pointer (some ⟨g, 0, none⟩)) (by kernel_rfl) (by kernel_rfl)) (by kernel_rfl)) rfl) ?_
    refine fsteps_cons 3 rfl (fun a u hE hD hk => f_val (o := ⟨some 110, _, _, _, _, _⟩) (.int .i64 c.seq) rfl (wanted_none rfl _) (exec_loadi 3 Try.underlying3 (.tmp 109) ⟨g, 1, none⟩ (.int .i64 c.seq) rfl (hD 1 109 (by kernel_rfl)) ((HB1.out.kept hk).fld 1 _ rfl)) rfl) ?_
    refine fsteps_cons 4 rfl (fun a u hE hD hk => f_new (o := ⟨some 111, _, _, _, _, _⟩) (.slice (some ⟨u.heap.size, 0, none⟩) 1 1) _ rfl (wanted_none rfl _) (exec_ints 1 _ [(c.seq)] rfl rfl (by omega) (by omega) (by show [(0, a.eval (.tmp 110))] = [(0, .int .i64 c.seq)]; rw [show a.eval (.tmp 110) = .int .i64 c.seq from (hD 2 110 (by kernel_rfl))])) (ints_new u [(c.seq)] 1 rfl) ((Keep.refl _ u).alloc _)) ?_
    refine fsteps_cons 5 rfl (fun a u hE hD hk => f_call (o := ⟨some 112, _, _, _, _, _⟩) 25 #[v3_1, a.eval (.tmp 111)] rfl (wanted_none rfl _) (exec_call 25 _ [.tmp 108, .tmp 111] _ [v3_1, a.eval (.tmp 111)] Try.func25 (by kernel_rfl) (by kernel_rfl) rfl (show [a.eval (.tmp 108), a.eval (.tmp 111)] = [v3_1, a.eval (.tmp 111)] from (by rw [show a.eval (.tmp 108) = v3_1 from (hD 0 108 (by kernel_rfl))] <;> rfl)) u) (words_any _ _ g (u8s [c.k]) [c.seq] u (HP1.out.kept hk) (hD 3 111 (by kernel_rfl)) (by have := hgb1.out; have := hk.size; omega) (Nat.le_of_ble_eq_true (by kernel_rfl)) (Nat.le_of_ble_eq_true (by kernel_rfl)))) ?_
    refine fsteps_cons 6 rfl (fun a u hE hD hk => f_val (o := ⟨some 113, _, _, _, _, _⟩) (.pointer (some ⟨g, 11, none⟩)) rfl (wanted_none rfl _) (exec_fld 28 11 11 (.tmp 1) (g) rfl (hE 1 (.pointer (some ⟨g, 0, none⟩)) (by kernel_rfl) (by kernel_rfl)) (by kernel_rfl)) rfl) ?_
    refine fsteps_cons 7 rfl (fun a u hE hD hk => f_val (o := ⟨some 114, _, _, _, _, _⟩) (.int .i64 c.what) rfl (wanted_none rfl _) (exec_loadi 3 Try.underlying3 (.tmp 113) ⟨g, 11, none⟩ (.int .i64 c.what) rfl (hD 5 113 (by kernel_rfl)) ((HB1.out.kept hk).fld 11 _ rfl)) rfl) ?_
    refine fsteps_cons 8 rfl (fun a u hE hD hk => f_val (o := ⟨some 115, _, _, _, _, _⟩) (.pointer (some ⟨g, 12, none⟩)) rfl (wanted_none rfl _) (exec_fld 28 12 12 (.tmp 1) (g) rfl (hE 1 (.pointer (some ⟨g, 0, none⟩)) (by kernel_rfl) (by kernel_rfl)) (by kernel_rfl)) rfl) ?_
    refine fsteps_cons 9 rfl (fun a u hE hD hk => f_val (o := ⟨some 116, _, _, _, _, _⟩) (.int .i64 c.fa) rfl (wanted_none rfl _) (exec_loadi 3 Try.underlying3 (.tmp 115) ⟨g, 12, none⟩ (.int .i64 c.fa) rfl (hD 7 115 (by kernel_rfl)) ((HB1.out.kept hk).fld 12 _ rfl)) rfl) ?_
    refine fsteps_cons 10 rfl (fun a u hE hD hk => f_val (o := ⟨some 117, _, _, _, _, _⟩) (.pointer (some ⟨g, 13, none⟩)) rfl (wanted_none rfl _) (exec_fld 28 13 13 (.tmp 1) (g) rfl (hE 1 (.pointer (some ⟨g, 0, none⟩)) (by kernel_rfl) (by kernel_rfl)) (by kernel_rfl)) rfl) ?_
    refine fsteps_cons 11 rfl (fun a u hE hD hk => f_val (o := ⟨some 118, _, _, _, _, _⟩) (.int .i64 c.fb) rfl (wanted_none rfl _) (exec_loadi 3 Try.underlying3 (.tmp 117) ⟨g, 13, none⟩ (.int .i64 c.fb) rfl (hD 9 117 (by kernel_rfl)) ((HB1.out.kept hk).fld 13 _ rfl)) rfl) ?_
    refine fsteps_cons 12 rfl (fun a u hE hD hk => f_new (o := ⟨some 119, _, _, _, _, _⟩) (.slice (some ⟨u.heap.size, 0, none⟩) 3 3) _ rfl (wanted_none rfl _) (exec_ints 3 _ [(c.what), (c.fa), (c.fb)] rfl rfl (by omega) (by omega) (by show [(0, a.eval (.tmp 114)), (1, a.eval (.tmp 116)), (2, a.eval (.tmp 118))] = [(0, .int .i64 c.what), (1, .int .i64 c.fa), (2, .int .i64 c.fb)]; rw [show a.eval (.tmp 114) = .int .i64 c.what from (hD 6 114 (by kernel_rfl)), show a.eval (.tmp 116) = .int .i64 c.fa from (hD 8 116 (by kernel_rfl)), show a.eval (.tmp 118) = .int .i64 c.fb from (hD 10 118 (by kernel_rfl))])) (ints_new u [(c.what), (c.fa), (c.fb)] 3 rfl) ((Keep.refl _ u).alloc _)) ?_
    refine fsteps_cons 13 rfl (fun a u hE hD hk => f_call (o := ⟨some 120, _, _, _, _, _⟩) 23 #[a.eval (.tmp 112), a.eval (.tmp 119)] rfl (wanted_none rfl _) (exec_call 23 _ [.tmp 112, .tmp 119] _ [a.eval (.tmp 112), a.eval (.tmp 119)] Try.func23 (by kernel_rfl) (by kernel_rfl) rfl rfl u) (bytes_any _ _ g ((u8s [c.k]) ++ w32s [c.seq]) [c.what, c.fa, c.fb] u (hD 4 112 (by kernel_rfl)) (hD 11 119 (by kernel_rfl)) (by have := hgb1.out; have := hk.size; omega) (Nat.le_of_ble_eq_true (by kernel_rfl)) (Nat.le_of_ble_eq_true (by kernel_rfl)))) ?_
    exact fsteps_nil
  intro gv w2 hV k2
  rw [show dstsOf _ 13 = [108, 109, 110, 111, 112, 113, 114, 115, 116, 117, 118, 119, 120] by kernel_rfl]
  simp only [List.foldl_cons, List.foldl_nil, List.setIfInBounds_toArray, List.set_cons_succ, List.set_cons_zero, List.drop_succ_cons, List.drop_zero]
  have hv120 : (.own g (((u8s [c.k]) ++ w32s [c.seq]) ++ u8s [c.what, c.fa, c.fb]) : Kn).p (gv 120) w2 := hV 12 120 (by kernel_rfl)
  generalize gv 120 = v120 at hv120 ⊢
  clear hV
  have HP2 := Lib.hid hv120
  generalize v120 = v3_2 at HP2 hv120 ⊢
  clear hv120
  have HB2 := Lib.hid (HB1.out.kept k2)
  have hgb2 : Hid (g ≤ w2.heap.size) := by show g ≤ _; have := k2.size; have := hgb1.out; omega
  have kw2 := kw1.trans k2
  clear kw1 k2
  go_wp2
  go_ret
  have he : (((u8s [c.k]) ++ w32s [c.seq]) ++ u8s [c.what, c.fa, c.fb]) = c.enc := by simp [Cmd.enc, Cmd.body, hkk.out, u8s, w32s]
  rw [← he]
  exact ⟨_, rfl, HP2.out.low hgw.out, kw2⟩

set_option maxRecDepth 100000 in
set_option maxHeartbeats 3200000 in
theorem write_d (c : Cmd) (w : World) (d1 : ((c.k : Int) == 1) = false) (d2 : ((c.k : Int) == 2) = false) (d3 : ((c.k : Int) == 3) = false) (d4 : ((c.k : Int) == 4) = false) (d5 : ((c.k : Int) == 5) = false) (d6 : ((c.k : Int) == 6) = false) (d9 : ((c.k : Int) == 9) = false) (HT : Hid (c.tag.length = 32)) : Gives 22 #[c.v] w (.own w.heap.size c.enc) := by
  unfold Gives Cmd.v
  have HB0 : Hid (Blk (w.alloc (.cells c.cells.toArray 28)) w.heap.size 28 c.cells) := Blk.new w _ _
  have kw0 : Kept w (w.alloc (.cells c.cells.toArray 28)) := (Keep.refl _ w).alloc _
  go_enter Try.func22, Try.ntmps22
  go_upto_region 1 with fail
  generalize w.alloc (.cells c.cells.toArray 28) = w0 at HB0 kw0 ⊢
  obtain ⟨g, hg⟩ : ∃ g, g = w.heap.size := ⟨_, rfl⟩
  rw [← hg] at HB0 ⊢
  have hgb0 : Hid (g ≤ w0.heap.size) := by show g ≤ _; have := kw0.size; omega
  have hgw : Hid (w.heap.size ≤ g) := by show _ ≤ g; omega
  clear hg
  refine wp_text 4 [.eq (.pointer (some ⟨g, 0, none⟩)), .eq (.int .i64 c.k), .ints [(c.k)], .own g (u8s [c.k])] rfl (by kernel_rfl) ?_ ?_
  · refine fsteps_cons 1 rfl (fun a u hE hD hk => f_val (o := ⟨some 4, _, _, _, _, _⟩) (.pointer (some ⟨g, 0, none⟩)) rfl (wanted_none rfl _) (exec_fld 28 0 0 (.tmp 1) (g) rfl (hE 1 (.pointer (some ⟨g, 0, none⟩)) (by kernel_rfl) (by kernel_rfl)) (by kernel_rfl)) rfl) ?_
    refine fsteps_cons 2 rfl (fun a u hE hD hk => f_val (o := ⟨some 5, _, _, _, _, _⟩) (.int .i64 c.k) rfl (wanted_none rfl _) (exec_loadi 3 Try.underlying3 (.tmp 4) ⟨g, 0, none⟩ (.int .i64 c.k) rfl (hD 0 4 (by kernel_rfl)) ((HB0.out.kept hk).fld 0 _ rfl)) rfl) ?_
    refine fsteps_cons 3 rfl (fun a u hE hD hk => f_new (o := ⟨some 6, _, _, _, _, _⟩) (.slice (some ⟨u.heap.size, 0, none⟩) 1 1) _ rfl (wanted_none rfl _) (exec_ints 1 _ [(c.k)] rfl rfl (by omega) (by omega) (by show [(0, a.eval (.tmp 5))] = [(0, .int .i64 c.k)]; rw [show a.eval (.tmp 5) = .int .i64 c.k from (hD 1 5 (by kernel_rfl))])) (ints_new u [(c.k)] 1 rfl) ((Keep.refl _ u).alloc _)) ?_
    refine fsteps_cons 4 rfl (fun a u hE hD hk => f_call (o := ⟨some 7, _, _, _, _, _⟩) 23 #[.slice none 0 0, a.eval (.tmp 6)] rfl (wanted_none rfl _) (exec_call 23 _ [.const (.slice none 0 0), .tmp 6] _ [.slice none 0 0, a.eval (.tmp 6)] Try.func23 (by kernel_rfl) (by kernel_rfl) rfl rfl u) (bytes_any _ _ g [] [c.k] u (OwnV.nil _ _) (hD 2 6 (by kernel_rfl)) (by have := hgb0.out; have := hk.size; omega) (Nat.le_of_ble_eq_true (by kernel_rfl)) (Nat.le_of_ble_eq_true (by kernel_rfl)))) ?_
    exact fsteps_nil
  intro gv w1 hV k1
  rw [show dstsOf _ 4 = [4, 5, 6, 7] by kernel_rfl]
  simp only [List.foldl_cons, List.foldl_nil, List.setIfInBounds_toArray, List.set_cons_succ, List.set_cons_zero, List.drop_succ_cons, List.drop_zero]
  have hv7 : (.own g (u8s [c.k]) : Kn).p (gv 7) w1 := hV 3 7 (by kernel_rfl)
  generalize gv 7 = v7 at hv7 ⊢
  clear hV
  have HP1 := Lib.hid hv7
  generalize v7 = v3_1 at HP1 hv7 ⊢
  clear hv7
  have HB1 := Lib.hid (HB0.out.kept k1)
  have hgb1 : Hid (g ≤ w1.heap.size) := by show g ≤ _; have := k1.size; have := hgb0.out; omega
  have kw1 := kw0.trans k1
  clear kw0 k1
  have hc : w1.cell? ⟨g, 0, none⟩ = some (.int .i64 c.k) := HB1.out.fld 0 _ rfl
  go_wp2
  go_ret
  have E1 : c.k ≠ 1 := by simpa using d1
  have E2 : c.k ≠ 2 := by simpa using d2
  have E3 : c.k ≠ 3 := by simpa using d3
  have E4 : c.k ≠ 4 := by simpa using d4
  have E5 : c.k ≠ 5 := by simpa using d5
  have E6 : c.k ≠ 6 := by simpa using d6
  have E9 : c.k ≠ 9 := by simpa using d9
  have he : (u8s [c.k]) = c.enc := by simp [Cmd.enc, Cmd.body, E1, E2, E3, E4, E5, E6, E9, u8s]
  rw [← he]
  exact ⟨_, rfl, HP1.out.low hgw.out, kw1⟩

theorem write_any (c : Cmd) (w : World) (HT : Hid (c.tag.length = 32)) : Gives 22 #[c.v] w (.own w.heap.size c.enc) := by
  by_cases h1 : c.k = 1
  · exact write_1 c w h1 HT
  by_cases h2 : c.k = 2
  · exact write_2 c w h2 HT
  by_cases h3 : c.k = 3
  · exact write_3 c w h3 HT
  by_cases h4 : c.k = 4
  · exact write_4 c w h4 HT
  by_cases h5 : c.k = 5
  · exact write_5 c w h5 HT
  by_cases h6 : c.k = 6
  · exact write_6 c w h6 HT
  by_cases h9 : c.k = 9
  · exact write_9 c w h9 HT
  exact write_d c w (by simpa using h1) (by simpa using h2) (by simpa using h3) (by simpa using h4) (by simpa using h5) (by simpa using h6) (by simpa using h9) HT
end Go.Proofs.Ytdmeiffofmagjaa
