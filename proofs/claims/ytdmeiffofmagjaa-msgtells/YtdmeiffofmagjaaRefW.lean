/-
  The contract of the document's PutCmd: a right command as bytes. Condition: its tag has 32 bytes.
-/
import Derived.Test.YtdmeiffofmagjaaMsgSum
import Derived.Test.YtdmeiffofmagjaaRefRight
namespace Go.Proofs.Ytdmeiffofmagjaa
open Go.RowKit
set_option linter.unusedVariables false

set_option maxRecDepth 100000 in
set_option maxHeartbeats 3200000 in
theorem putCmd_1 (c : Cmd) (w : World) (hkk : Hid (c.k = 1)) (HT : Hid (c.tag.length = 32)) (hR : Hid (c.right = true)) : Gives 15 #[c.v] w (.own w.heap.size c.enc) := by
  unfold Gives Cmd.v
  have HB0 : Hid (Blk (w.alloc (.cells c.cells.toArray 28)) w.heap.size 28 c.cells) := Blk.new w _ _
  have kw0 : Kept w (w.alloc (.cells c.cells.toArray 28)) := (Keep.refl _ w).alloc _
  go_enter Try.func15, Try.ntmps15
  go_upto_region 1 with fail
  generalize w.alloc (.cells c.cells.toArray 28) = w0 at HB0 kw0 ⊢
  obtain ⟨g, hg⟩ : ∃ g, g = w.heap.size := ⟨_, rfl⟩
  rw [← hg] at HB0 ⊢
  have hgb0 : Hid (g ≤ w0.heap.size) := by show g ≤ _; have := kw0.size; omega
  have hgw : Hid (w.heap.size ≤ g) := by show _ ≤ g; omega
  clear hg
  refine wp_text 2 [.eq (c.v), .eq (.bool true)] rfl (by kernel_rfl) ?_ ?_
  · refine fsteps_cons 1 rfl (fun a u hE hD hk => f_val (o := ⟨some 4, _, _, _, _, _⟩) (c.v) rfl (wanted_none rfl _) (exec_loadS 28 (.tmp 1) (g) _ c.cells _ rfl (hE 1 (.pointer (some ⟨g, 0, none⟩)) (by kernel_rfl) (by kernel_rfl)) (HB0.out.kept hk) Try.underlying28 (by rw [Cmd.cells_len _ HT.out]; exact cmd_size)) rfl) ?_
    refine fsteps_cons 2 rfl (fun a u hE hD hk => f_call (o := ⟨some 5, _, _, _, _, _⟩) 14 #[c.v] rfl (wanted_none rfl _) (exec_call 14 _ [.tmp 4] _ [c.v] Try.func14 (by kernel_rfl) (by kernel_rfl) rfl (show [a.eval (.tmp 4)] = [c.v] from (by rw [show a.eval (.tmp 4) = c.v from (hD 0 4 (by kernel_rfl))] <;> rfl)) u) (right_is c true u HT hR.out)) ?_
    exact fsteps_nil
  intro gv w1 hV k1
  rw [show dstsOf _ 2 = [4, 5] by kernel_rfl]
  simp only [List.foldl_cons, List.foldl_nil, List.setIfInBounds_toArray, List.set_cons_succ, List.set_cons_zero, List.drop_succ_cons, List.drop_zero]
  rw [show gv 5 = .bool true from hV 1 5 (by kernel_rfl)]
  clear hV
  have HB1 := Lib.hid (HB0.out.kept k1)
  have hgb1 : Hid (g ≤ w1.heap.size) := by show g ≤ _; have := k1.size; have := hgb0.out; omega
  have kw1 := kw0.trans k1
  clear kw0 k1
  go_upto_region 3 with fail
  refine wp_text 3 [.eq (.pointer (some ⟨g, 0, none⟩)), .eq (.int .i64 c.k), .own g [u8 c.k]] rfl (by kernel_rfl) ?_ ?_
  · refine fsteps_cons 1 rfl (fun a u hE hD hk => f_val (o := ⟨some 7, _, _, _, _, _⟩) (.pointer (some ⟨g, 0, none⟩)) rfl (wanted_none rfl _) (exec_fld 28 0 0 (.tmp 1) (g) rfl (hE 1 (.pointer (some ⟨g, 0, none⟩)) (by kernel_rfl) (by kernel_rfl)) (by kernel_rfl)) rfl) ?_
    refine fsteps_cons 2 rfl (fun a u hE hD hk => f_val (o := ⟨some 8, _, _, _, _, _⟩) (.int .i64 c.k) rfl (wanted_none rfl _) (exec_loadi 3 Try.underlying3 (.tmp 7) ⟨g, 0, none⟩ (.int .i64 c.k) rfl (hD 0 7 (by kernel_rfl)) ((HB1.out.kept hk).fld 0 _ rfl)) rfl) ?_
    refine fsteps_cons 3 rfl (fun a u hE hD hk => f_call (o := ⟨some 9, _, _, _, _, _⟩) 31 #[.slice none 0 0, .int .i64 c.k] rfl (wanted_none rfl _) (exec_call 31 _ [.const (.slice none 0 0), .tmp 8] _ [.slice none 0 0, .int .i64 c.k] Try.func31 (by kernel_rfl) (by kernel_rfl) rfl (show [a.eval (.const (.slice none 0 0)), a.eval (.tmp 8)] = [.slice none 0 0, .int .i64 c.k] from (by rw [show a.eval (.tmp 8) = .int .i64 c.k from (hD 1 8 (by kernel_rfl))] <;> rfl)) u) (fu8_gives _ (c.k) g [] u (OwnV.nil _ _) (by have := hgb1.out; have := hk.size; omega) (Nat.le_of_ble_eq_true (by kernel_rfl)))) ?_
    exact fsteps_nil
  intro gv w2 hV k2
  rw [show dstsOf _ 3 = [7, 8, 9] by kernel_rfl]
  simp only [List.foldl_cons, List.foldl_nil, List.setIfInBounds_toArray, List.set_cons_succ, List.set_cons_zero, List.drop_succ_cons, List.drop_zero]
  have hv9 : (.own g [u8 c.k] : Kn).p (gv 9) w2 := hV 2 9 (by kernel_rfl)
  generalize gv 9 = v9 at hv9 ⊢
  clear hV
  have HP2 := Lib.hid hv9
  generalize v9 = v3_2 at HP2 hv9 ⊢
  clear hv9
  have HB2 := Lib.hid (HB1.out.kept k2)
  have hgb2 : Hid (g ≤ w2.heap.size) := by show g ≤ _; have := k2.size; have := hgb1.out; omega
  have kw2 := kw1.trans k2
  clear kw1 k2
  have hc : w2.cell? ⟨g, 0, none⟩ = some (.int .i64 1) := by rw [← hkk.out]; exact HB2.out.fld 0 _ rfl
  go_upto_region 6 with fail
  refine wp_text 4 [.eq (v3_2), .eq (.pointer (some ⟨g, 2, none⟩)), .eq (.int .i64 c.tr), .own g ([u8 c.k] ++ [u8 c.tr])] rfl (by kernel_rfl) ?_ ?_
  · refine fsteps_cons 1 rfl (fun a u hE hD hk => f_val (o := ⟨some 14, _, _, _, _, _⟩) (v3_2) rfl (wanted_none rfl _) (exec_move (.tmp 3) (v3_2) rfl (hE 3 (v3_2) (by kernel_rfl) (by kernel_rfl))) rfl) ?_
    refine fsteps_cons 2 rfl (fun a u hE hD hk => f_val (o := ⟨some 15, _, _, _, _, _⟩) (.pointer (some ⟨g, 2, none⟩)) rfl (wanted_none rfl _) (exec_fld 28 2 2 (.tmp 1) (g) rfl (hE 1 (.pointer (some ⟨g, 0, none⟩)) (by kernel_rfl) (by kernel_rfl)) (by kernel_rfl)) rfl) ?_
    refine fsteps_cons 3 rfl (fun a u hE hD hk => f_val (o := ⟨some 16, _, _, _, _, _⟩) (.int .i64 c.tr) rfl (wanted_none rfl _) (exec_loadi 3 Try.underlying3 (.tmp 15) ⟨g, 2, none⟩ (.int .i64 c.tr) rfl (hD 1 15 (by kernel_rfl)) ((HB2.out.kept hk).fld 2 _ rfl)) rfl) ?_
    refine fsteps_cons 4 rfl (fun a u hE hD hk => f_call (o := ⟨some 17, _, _, _, _, _⟩) 31 #[v3_2, .int .i64 c.tr] rfl (wanted_none rfl _) (exec_call 31 _ [.tmp 14, .tmp 16] _ [v3_2, .int .i64 c.tr] Try.func31 (by kernel_rfl) (by kernel_rfl) rfl (show [a.eval (.tmp 14), a.eval (.tmp 16)] = [v3_2, .int .i64 c.tr] from (by rw [show a.eval (.tmp 14) = v3_2 from (hD 0 14 (by kernel_rfl)), show a.eval (.tmp 16) = .int .i64 c.tr from (hD 2 16 (by kernel_rfl))] <;> rfl)) u) (fu8_gives _ (c.tr) g [u8 c.k] u (HP2.out.kept hk) (by have := hgb2.out; have := hk.size; omega) (Nat.le_of_ble_eq_true (by kernel_rfl)))) ?_
    exact fsteps_nil
  intro gv w3 hV k3
  rw [show dstsOf _ 4 = [14, 15, 16, 17] by kernel_rfl]
  simp only [List.foldl_cons, List.foldl_nil, List.setIfInBounds_toArray, List.set_cons_succ, List.set_cons_zero, List.drop_succ_cons, List.drop_zero]
  have hv17 : (.own g ([u8 c.k] ++ [u8 c.tr]) : Kn).p (gv 17) w3 := hV 3 17 (by kernel_rfl)
  generalize gv 17 = v17 at hv17 ⊢
  clear hV
  have HP3 := Lib.hid hv17
  generalize v17 = v3_3 at HP3 hv17 ⊢
  clear hv17
  have HB3 := Lib.hid (HB2.out.kept k3)
  have hgb3 : Hid (g ≤ w3.heap.size) := by show g ≤ _; have := k3.size; have := hgb2.out; omega
  have kw3 := kw2.trans k3
  clear kw2 k3
  go_wp2
  go_ret
  have he : ([u8 c.k] ++ [u8 c.tr]) = c.enc := by simp [Cmd.enc, Cmd.body, hkk.out]
  rw [← he]
  exact ⟨_, rfl, HP3.out.low hgw.out, kw3⟩

set_option maxRecDepth 100000 in
set_option maxHeartbeats 3200000 in
theorem putCmd_2 (c : Cmd) (w : World) (hkk : Hid (c.k = 2)) (HT : Hid (c.tag.length = 32)) (hR : Hid (c.right = true)) : Gives 15 #[c.v] w (.own w.heap.size c.enc) := by
  unfold Gives Cmd.v
  have HB0 : Hid (Blk (w.alloc (.cells c.cells.toArray 28)) w.heap.size 28 c.cells) := Blk.new w _ _
  have kw0 : Kept w (w.alloc (.cells c.cells.toArray 28)) := (Keep.refl _ w).alloc _
  go_enter Try.func15, Try.ntmps15
  go_upto_region 1 with fail
  generalize w.alloc (.cells c.cells.toArray 28) = w0 at HB0 kw0 ⊢
  obtain ⟨g, hg⟩ : ∃ g, g = w.heap.size := ⟨_, rfl⟩
  rw [← hg] at HB0 ⊢
  have hgb0 : Hid (g ≤ w0.heap.size) := by show g ≤ _; have := kw0.size; omega
  have hgw : Hid (w.heap.size ≤ g) := by show _ ≤ g; omega
  clear hg
  refine wp_text 2 [.eq (c.v), .eq (.bool true)] rfl (by kernel_rfl) ?_ ?_
  · refine fsteps_cons 1 rfl (fun a u hE hD hk => f_val (o := ⟨some 4, _, _, _, _, _⟩) (c.v) rfl (wanted_none rfl _) (exec_loadS 28 (.tmp 1) (g) _ c.cells _ rfl (hE 1 (.pointer (some ⟨g, 0, none⟩)) (by kernel_rfl) (by kernel_rfl)) (HB0.out.kept hk) Try.underlying28 (by rw [Cmd.cells_len _ HT.out]; exact cmd_size)) rfl) ?_
    refine fsteps_cons 2 rfl (fun a u hE hD hk => f_call (o := ⟨some 5, _, _, _, _, _⟩) 14 #[c.v] rfl (wanted_none rfl _) (exec_call 14 _ [.tmp 4] _ [c.v] Try.func14 (by kernel_rfl) (by kernel_rfl) rfl (show [a.eval (.tmp 4)] = [c.v] from (by rw [show a.eval (.tmp 4) = c.v from (hD 0 4 (by kernel_rfl))] <;> rfl)) u) (right_is c true u HT hR.out)) ?_
    exact fsteps_nil
  intro gv w1 hV k1
  rw [show dstsOf _ 2 = [4, 5] by kernel_rfl]
  simp only [List.foldl_cons, List.foldl_nil, List.setIfInBounds_toArray, List.set_cons_succ, List.set_cons_zero, List.drop_succ_cons, List.drop_zero]
  rw [show gv 5 = .bool true from hV 1 5 (by kernel_rfl)]
  clear hV
  have HB1 := Lib.hid (HB0.out.kept k1)
  have hgb1 : Hid (g ≤ w1.heap.size) := by show g ≤ _; have := k1.size; have := hgb0.out; omega
  have kw1 := kw0.trans k1
  clear kw0 k1
  go_upto_region 3 with fail
  refine wp_text 3 [.eq (.pointer (some ⟨g, 0, none⟩)), .eq (.int .i64 c.k), .own g [u8 c.k]] rfl (by kernel_rfl) ?_ ?_
  · refine fsteps_cons 1 rfl (fun a u hE hD hk => f_val (o := ⟨some 7, _, _, _, _, _⟩) (.pointer (some ⟨g, 0, none⟩)) rfl (wanted_none rfl _) (exec_fld 28 0 0 (.tmp 1) (g) rfl (hE 1 (.pointer (some ⟨g, 0, none⟩)) (by kernel_rfl) (by kernel_rfl)) (by kernel_rfl)) rfl) ?_
    refine fsteps_cons 2 rfl (fun a u hE hD hk => f_val (o := ⟨some 8, _, _, _, _, _⟩) (.int .i64 c.k) rfl (wanted_none rfl _) (exec_loadi 3 Try.underlying3 (.tmp 7) ⟨g, 0, none⟩ (.int .i64 c.k) rfl (hD 0 7 (by kernel_rfl)) ((HB1.out.kept hk).fld 0 _ rfl)) rfl) ?_
    refine fsteps_cons 3 rfl (fun a u hE hD hk => f_call (o := ⟨some 9, _, _, _, _, _⟩) 31 #[.slice none 0 0, .int .i64 c.k] rfl (wanted_none rfl _) (exec_call 31 _ [.const (.slice none 0 0), .tmp 8] _ [.slice none 0 0, .int .i64 c.k] Try.func31 (by kernel_rfl) (by kernel_rfl) rfl (show [a.eval (.const (.slice none 0 0)), a.eval (.tmp 8)] = [.slice none 0 0, .int .i64 c.k] from (by rw [show a.eval (.tmp 8) = .int .i64 c.k from (hD 1 8 (by kernel_rfl))] <;> rfl)) u) (fu8_gives _ (c.k) g [] u (OwnV.nil _ _) (by have := hgb1.out; have := hk.size; omega) (Nat.le_of_ble_eq_true (by kernel_rfl)))) ?_
    exact fsteps_nil
  intro gv w2 hV k2
  rw [show dstsOf _ 3 = [7, 8, 9] by kernel_rfl]
  simp only [List.foldl_cons, List.foldl_nil, List.setIfInBounds_toArray, List.set_cons_succ, List.set_cons_zero, List.drop_succ_cons, List.drop_zero]
  have hv9 : (.own g [u8 c.k] : Kn).p (gv 9) w2 := hV 2 9 (by kernel_rfl)
  generalize gv 9 = v9 at hv9 ⊢
  clear hV
  have HP2 := Lib.hid hv9
  generalize v9 = v3_2 at HP2 hv9 ⊢
  clear hv9
  have HB2 := Lib.hid (HB1.out.kept k2)
  have hgb2 : Hid (g ≤ w2.heap.size) := by show g ≤ _; have := k2.size; have := hgb1.out; omega
  have kw2 := kw1.trans k2
  clear kw1 k2
  have hc : w2.cell? ⟨g, 0, none⟩ = some (.int .i64 2) := by rw [← hkk.out]; exact HB2.out.fld 0 _ rfl
  go_upto_region 8 with fail
  refine wp_text 3 [.eq (v3_2), .eq (.pointer (some ⟨g, 14, none⟩)), .eq (.slice (some ⟨g, 14, none⟩) 32 32)] rfl (by kernel_rfl) ?_ ?_
  · refine fsteps_cons 1 rfl (fun a u hE hD hk => f_val (o := ⟨some 20, _, _, _, _, _⟩) (v3_2) rfl (wanted_none rfl _) (exec_move (.tmp 3) (v3_2) rfl (hE 3 (v3_2) (by kernel_rfl) (by kernel_rfl))) rfl) ?_
    refine fsteps_cons 2 rfl (fun a u hE hD hk => f_val (o := ⟨some 21, _, _, _, _, _⟩) (.pointer (some ⟨g, 14, none⟩)) rfl (wanted_none rfl _) (exec_fld 28 14 14 (.tmp 1) (g) rfl (hE 1 (.pointer (some ⟨g, 0, none⟩)) (by kernel_rfl) (by kernel_rfl)) (by kernel_rfl)) rfl) ?_
    refine fsteps_cons 3 rfl (fun a u hE hD hk => f_val (o := ⟨some 22, _, _, _, _, _⟩) (.slice (some ⟨g, 14, none⟩) 32 32) rfl (wanted_none rfl _) (exec_sliceT (.tmp 21) g 14 rfl (hD 1 21 (by kernel_rfl))) rfl) ?_
    exact fsteps_nil
  intro gv w3 hV k3
  rw [show dstsOf _ 3 = [20, 21, 22] by kernel_rfl]
  simp only [List.foldl_cons, List.foldl_nil, List.setIfInBounds_toArray, List.set_cons_succ, List.set_cons_zero, List.drop_succ_cons, List.drop_zero]
  rw [show gv 20 = v3_2 from hV 0 20 (by kernel_rfl)]
  rw [show gv 22 = .slice (some ⟨g, 14, none⟩) 32 32 from hV 2 22 (by kernel_rfl)]
  clear hV
  have hgb3 : g ≤ w3.heap.size := by have := k3.size; have := hgb2.out; omega
  obtain ⟨A3, n3, c3, e3, hA3⟩ := HP2.out.kept k3
  subst e3
  have hn3 : n3 = 1 := by have h := hA3.len; simpa using h.symm
  subst hn3
  have HA3 := Lib.hid hA3
  clear hA3 HP2
  have HR3 : Hid (R8 w3 (some ⟨g, 14, none⟩) c.tag) := range_r8 ((HB2.out.kept k3).tagAt 14 rfl)
  go_wp2_with (at_builtin; refine wpList_wanted rfl fun K hK' => op_append_own8 _ 23 Try.underlying23 (.tmp 20) (.tmp 22) rfl g 1 c3 A3 [u8 c.k] rfl HA3.out hgb3 ⟨g, 14, none⟩ 32 32 c.tag rfl HT.out HR3.out (by omega) ?_)
  intro w9 A9 c9 ho9 hk9
  refine hK' _ _ ?_
  have kw9 : Kept w w9 := Keep.trans (kw2.trans k3) hk9 (fun i hi h => by have := hgw.out; omega)
  go_wp2
  go_ret
  have he : [u8 c.k] ++ c.tag = c.enc := by simp [Cmd.enc, Cmd.body, hkk.out]
  rw [← he]
  exact ⟨_, rfl, OwnV.low ⟨A9, _, c9, rfl, ho9⟩ hgw.out, kw9⟩

set_option maxRecDepth 100000 in
set_option maxHeartbeats 3200000 in
theorem putCmd_3 (c : Cmd) (w : World) (hkk : Hid (c.k = 3)) (HT : Hid (c.tag.length = 32)) (hR : Hid (c.right = true)) : Gives 15 #[c.v] w (.own w.heap.size c.enc) := by
  unfold Gives Cmd.v
  have HB0 : Hid (Blk (w.alloc (.cells c.cells.toArray 28)) w.heap.size 28 c.cells) := Blk.new w _ _
  have kw0 : Kept w (w.alloc (.cells c.cells.toArray 28)) := (Keep.refl _ w).alloc _
  go_enter Try.func15, Try.ntmps15
  go_upto_region 1 with fail
  generalize w.alloc (.cells c.cells.toArray 28) = w0 at HB0 kw0 ⊢
  obtain ⟨g, hg⟩ : ∃ g, g = w.heap.size := ⟨_, rfl⟩
  rw [← hg] at HB0 ⊢
  have hgb0 : Hid (g ≤ w0.heap.size) := by show g ≤ _; have := kw0.size; omega
  have hgw : Hid (w.heap.size ≤ g) := by show _ ≤ g; omega
  clear hg
  refine wp_text 2 [.eq (c.v), .eq (.bool true)] rfl (by kernel_rfl) ?_ ?_
  · refine fsteps_cons 1 rfl (fun a u hE hD hk => f_val (o := ⟨some 4, _, _, _, _, _⟩) (c.v) rfl (wanted_none rfl _) (exec_loadS 28 (.tmp 1) (g) _ c.cells _ rfl (hE 1 (.pointer (some ⟨g, 0, none⟩)) (by kernel_rfl) (by kernel_rfl)) (HB0.out.kept hk) Try.underlying28 (by rw [Cmd.cells_len _ HT.out]; exact cmd_size)) rfl) ?_
    refine fsteps_cons 2 rfl (fun a u hE hD hk => f_call (o := ⟨some 5, _, _, _, _, _⟩) 14 #[c.v] rfl (wanted_none rfl _) (exec_call 14 _ [.tmp 4] _ [c.v] Try.func14 (by kernel_rfl) (by kernel_rfl) rfl (show [a.eval (.tmp 4)] = [c.v] from (by rw [show a.eval (.tmp 4) = c.v from (hD 0 4 (by kernel_rfl))] <;> rfl)) u) (right_is c true u HT hR.out)) ?_
    exact fsteps_nil
  intro gv w1 hV k1
  rw [show dstsOf _ 2 = [4, 5] by kernel_rfl]
  simp only [List.foldl_cons, List.foldl_nil, List.setIfInBounds_toArray, List.set_cons_succ, List.set_cons_zero, List.drop_succ_cons, List.drop_zero]
  rw [show gv 5 = .bool true from hV 1 5 (by kernel_rfl)]
  clear hV
  have HB1 := Lib.hid (HB0.out.kept k1)
  have hgb1 : Hid (g ≤ w1.heap.size) := by show g ≤ _; have := k1.size; have := hgb0.out; omega
  have kw1 := kw0.trans k1
  clear kw0 k1
  go_upto_region 3 with fail
  refine wp_text 3 [.eq (.pointer (some ⟨g, 0, none⟩)), .eq (.int .i64 c.k), .own g [u8 c.k]] rfl (by kernel_rfl) ?_ ?_
  · refine fsteps_cons 1 rfl (fun a u hE hD hk => f_val (o := ⟨some 7, _, _, _, _, _⟩) (.pointer (some ⟨g, 0, none⟩)) rfl (wanted_none rfl _) (exec_fld 28 0 0 (.tmp 1) (g) rfl (hE 1 (.pointer (some ⟨g, 0, none⟩)) (by kernel_rfl) (by kernel_rfl)) (by kernel_rfl)) rfl) ?_
    refine fsteps_cons 2 rfl (fun a u hE hD hk => f_val (o := ⟨some 8, _, _, _, _, _⟩) (.int .i64 c.k) rfl (wanted_none rfl _) (exec_loadi 3 Try.underlying3 (.tmp 7) ⟨g, 0, none⟩ (.int .i64 c.k) rfl (hD 0 7 (by kernel_rfl)) ((HB1.out.kept hk).fld 0 _ rfl)) rfl) ?_
    refine fsteps_cons 3 rfl (fun a u hE hD hk => f_call (o := ⟨some 9, _, _, _, _, _⟩) 31 #[.slice none 0 0, .int .i64 c.k] rfl (wanted_none rfl _) (exec_call 31 _ [.const (.slice none 0 0), .tmp 8] _ [.slice none 0 0, .int .i64 c.k] Try.func31 (by kernel_rfl) (by kernel_rfl) rfl (show [a.eval (.const (.slice none 0 0)), a.eval (.tmp 8)] = [.slice none 0 0, .int .i64 c.k] from (by rw [show a.eval (.tmp 8) = .int .i64 c.k from (hD 1 8 (by kernel_rfl))] <;> rfl)) u) (fu8_gives _ (c.k) g [] u (OwnV.nil _ _) (by have := hgb1.out; have := hk.size; omega) (Nat.le_of_ble_eq_true (by kernel_rfl)))) ?_
    exact fsteps_nil
  intro gv w2 hV k2
  rw [show dstsOf _ 3 = [7, 8, 9] by kernel_rfl]
  simp only [List.foldl_cons, List.foldl_nil, List.setIfInBounds_toArray, List.set_cons_succ, List.set_cons_zero, List.drop_succ_cons, List.drop_zero]
  have hv9 : (.own g [u8 c.k] : Kn).p (gv 9) w2 := hV 2 9 (by kernel_rfl)
  generalize gv 9 = v9 at hv9 ⊢
  clear hV
  have HP2 := Lib.hid hv9
  generalize v9 = v3_2 at HP2 hv9 ⊢
  clear hv9
  have HB2 := Lib.hid (HB1.out.kept k2)
  have hgb2 : Hid (g ≤ w2.heap.size) := by show g ≤ _; have := k2.size; have := hgb1.out; omega
  have kw2 := kw1.trans k2
  clear kw1 k2
  have hc : w2.cell? ⟨g, 0, none⟩ = some (.int .i64 3) := by rw [← hkk.out]; exact HB2.out.fld 0 _ rfl
  go_upto_region 10 with fail
  refine wp_free 8 [.eq (v3_2), .eq (.pointer (some ⟨g, 1, none⟩)), .eq (.int .i64 c.seq), .ints [(c.seq)], .own g ([u8 c.k] ++ w32s [c.seq]), .eq (.pointer (some ⟨g, 3, none⟩)), .eq (.int .i64 c.inst), .own g (([u8 c.k] ++ w32s [c.seq]) ++ [u8 c.inst])] (by kernel_rfl) rfl (by kernel_rfl) ?_ ?_
  · refine fsteps_cons 1 rfl (fun a u hE hD hk => f_val (o := ⟨some 26, _, _, _, _, _⟩) (v3_2) rfl (wanted_none rfl _) (exec_move (.tmp 3) (v3_2) rfl (hE 3 (v3_2) (by kernel_rfl) (by kernel_rfl))) rfl) ?_
    refine fsteps_cons 2 rfl (fun a u hE hD hk => f_val (o := ⟨some 27, _, _, _, _, _⟩) (.pointer (some ⟨g, 1, none⟩)) rfl (wanted_none rfl _) (exec_fld 28 1 1 (.tmp 1) (g) rfl (hE 1 (.pointer (some ⟨g, 0, none⟩)) (by kernel_rfl) (by kernel_rfl)) (by kernel_rfl)) rfl) ?_
    refine fsteps_cons 3 rfl (fun a u hE hD hk => f_val (o := ⟨some 28, _, _, _, _, _⟩) (.int .i64 c.seq) rfl (wanted_none rfl _) (exec_loadi 3 Try.underlying3 (.tmp 27) ⟨g, 1, none⟩ (.int .i64 c.seq) rfl (hD 1 27 (by kernel_rfl)) ((HB2.out.kept hk).fld 1 _ rfl)) rfl) ?_
    refine fsteps_cons 4 rfl (fun a u hE hD hk => f_new (o := ⟨some 29, _, _, _, _, _⟩) (.slice (some ⟨u.heap.size, 0, none⟩) 1 1) _ rfl (wanted_none rfl _) (exec_ints 1 _ [(c.seq)] rfl rfl (by omega) (by omega) (by show [(0, a.eval (.tmp 28))] = [(0, .int .i64 c.seq)]; rw [show a.eval (.tmp 28) = .int .i64 c.seq from (hD 2 28 (by kernel_rfl))])) (ints_new u [(c.seq)] 1 rfl) ((Keep.refl _ u).alloc _)) ?_
    refine fsteps_cons 5 rfl (fun a u hE hD hk => f_call (o := ⟨some 30, _, _, _, _, _⟩) 32 #[v3_2, a.eval (.tmp 29)] rfl (wanted_none rfl _) (exec_call 32 _ [.tmp 26, .tmp 29] _ [v3_2, a.eval (.tmp 29)] Try.func32 (by kernel_rfl) (by kernel_rfl) rfl (show [a.eval (.tmp 26), a.eval (.tmp 29)] = [v3_2, a.eval (.tmp 29)] from (by rw [show a.eval (.tmp 26) = v3_2 from (hD 0 26 (by kernel_rfl))] <;> rfl)) u) (u32s_any _ _ g [u8 c.k] [c.seq] u (HP2.out.kept hk) (hD 3 29 (by kernel_rfl)) (by have := hgb2.out; have := hk.size; omega) (Nat.le_of_ble_eq_true (by kernel_rfl)) (Nat.le_of_ble_eq_true (by kernel_rfl)))) ?_
    refine fsteps_cons 6 rfl (fun a u hE hD hk => f_val (o := ⟨some 31, _, _, _, _, _⟩) (.pointer (some ⟨g, 3, none⟩)) rfl (wanted_none rfl _) (exec_fld 28 3 3 (.tmp 1) (g) rfl (hE 1 (.pointer (some ⟨g, 0, none⟩)) (by kernel_rfl) (by kernel_rfl)) (by kernel_rfl)) rfl) ?_
    refine fsteps_cons 7 rfl (fun a u hE hD hk => f_val (o := ⟨some 32, _, _, _, _, _⟩) (.int .i64 c.inst) rfl (wanted_none rfl _) (exec_loadi 3 Try.underlying3 (.tmp 31) ⟨g, 3, none⟩ (.int .i64 c.inst) rfl (hD 5 31 (by kernel_rfl)) ((HB2.out.kept hk).fld 3 _ rfl)) rfl) ?_
    refine fsteps_cons 8 rfl (fun a u hE hD hk => f_call (o := ⟨some 33, _, _, _, _, _⟩) 31 #[a.eval (.tmp 30), .int .i64 c.inst] rfl (wanted_none rfl _) (exec_call 31 _ [.tmp 30, .tmp 32] _ [a.eval (.tmp 30), .int .i64 c.inst] Try.func31 (by kernel_rfl) (by kernel_rfl) rfl (show [a.eval (.tmp 30), a.eval (.tmp 32)] = [a.eval (.tmp 30), .int .i64 c.inst] from (by rw [show a.eval (.tmp 32) = .int .i64 c.inst from (hD 6 32 (by kernel_rfl))] <;> rfl)) u) (fu8_gives _ (c.inst) g ([u8 c.k] ++ w32s [c.seq]) u (hD 4 30 (by kernel_rfl)) (by have := hgb2.out; have := hk.size; omega) (Nat.le_of_ble_eq_true (by kernel_rfl)))) ?_
    exact fsteps_nil
  intro gv w3 hV k3
  rw [show dstsOf _ 8 = [26, 27, 28, 29, 30, 31, 32, 33] by kernel_rfl]
  simp only [List.foldl_cons, List.foldl_nil, List.setIfInBounds_toArray, List.set_cons_succ, List.set_cons_zero, List.drop_succ_cons, List.drop_zero]
  have hv33 : (.own g (([u8 c.k] ++ w32s [c.seq]) ++ [u8 c.inst]) : Kn).p (gv 33) w3 := hV 7 33 (by kernel_rfl)
  generalize gv 33 = v33 at hv33 ⊢
  clear hV
  have HP3 := Lib.hid hv33
  generalize v33 = v3_3 at HP3 hv33 ⊢
  clear hv33
  have HB3 := Lib.hid (HB2.out.kept k3)
  have hgb3 : Hid (g ≤ w3.heap.size) := by show g ≤ _; have := k3.size; have := hgb2.out; omega
  have kw3 := kw2.trans k3
  clear kw2 k3
  go_upto_region 11 with fail
  refine wp_free 11 [.eq (v3_3), .eq (.pointer (some ⟨g, 4, none⟩)), .eq (.int .i64 c.id), .ints [(c.id)], .own g ((([u8 c.k] ++ w32s [c.seq]) ++ [u8 c.inst]) ++ w32s [c.id]), .eq (.pointer (some ⟨g, 5, none⟩)), .eq (.int .i64 c.side), .own g (((([u8 c.k] ++ w32s [c.seq]) ++ [u8 c.inst]) ++ w32s [c.id]) ++ [u8 c.side]), .eq (.pointer (some ⟨g, 6, none⟩)), .eq (.int .i64 c.ord), .own g ((((([u8 c.k] ++ w32s [c.seq]) ++ [u8 c.inst]) ++ w32s [c.id]) ++ [u8 c.side]) ++ [u8 c.ord])] (by kernel_rfl) rfl (by kernel_rfl) ?_ ?_
  · refine fsteps_cons 1 rfl (fun a u hE hD hk => f_val (o := ⟨some 34, _, _, _, _, _⟩) (v3_3) rfl (wanted_none rfl _) (exec_move (.tmp 3) (v3_3) rfl (hE 3 (v3_3) (by kernel_rfl) (by kernel_rfl))) rfl) ?_
    refine fsteps_cons 2 rfl (fun a u hE hD hk => f_val (o := ⟨some 35, _, _, _, _, _⟩) (.pointer (some ⟨g, 4, none⟩)) rfl (wanted_none rfl _) (exec_fld 28 4 4 (.tmp 1) (g) rfl (hE 1 (.pointer (some ⟨g, 0, none⟩)) (by kernel_rfl) (by kernel_rfl)) (by kernel_rfl)) rfl) ?_
    refine fsteps_cons 3 rfl (fun a u hE hD hk => f_val (o := ⟨some 36, _, _, _, _, _⟩) (.int .i64 c.id) rfl (wanted_none rfl _) (exec_loadi 3 Try.underlying3 (.tmp 35) ⟨g, 4, none⟩ (.int .i64 c.id) rfl (hD 1 35 (by kernel_rfl)) ((HB3.out.kept hk).fld 4 _ rfl)) rfl) ?_
    refine fsteps_cons 4 rfl (fun a u hE hD hk => f_new (o := ⟨some 37, _, _, _, _, _⟩) (.slice (some ⟨u.heap.size, 0, none⟩) 1 1) _ rfl (wanted_none rfl _) (exec_ints 1 _ [(c.id)] rfl rfl (by omega) (by omega) (by show [(0, a.eval (.tmp 36))] = [(0, .int .i64 c.id)]; rw [show a.eval (.tmp 36) = .int .i64 c.id from (hD 2 36 (by kernel_rfl))])) (ints_new u [(c.id)] 1 rfl) ((Keep.refl _ u).alloc _)) ?_
    refine fsteps_cons 5 rfl (fun a u hE hD hk => f_call (o := ⟨some 38, _, _, _, _, _⟩) 32 #[v3_3, a.eval (.tmp 37)] rfl (wanted_none rfl _) (exec_call 32 _ [.tmp 34, .tmp 37] _ [v3_3, a.eval (.tmp 37)] Try.func32 (by kernel_rfl) (by kernel_rfl) rfl (show [a.eval (.tmp 34), a.eval (.tmp 37)] = [v3_3, a.eval (.tmp 37)] from (by rw [show a.eval (.tmp 34) = v3_3 from (hD 0 34 (by kernel_rfl))] <;> rfl)) u) (u32s_any _ _ g (([u8 c.k] ++ w32s [c.seq]) ++ [u8 c.inst]) [c.id] u (HP3.out.kept hk) (hD 3 37 (by kernel_rfl)) (by have := hgb3.out; have := hk.size; omega) (Nat.le_of_ble_eq_true (by kernel_rfl)) (Nat.le_of_ble_eq_true (by kernel_rfl)))) ?_
    refine fsteps_cons 6 rfl (fun a u hE hD hk => f_val (o := ⟨some 39, _, _, _, _, _⟩) (.pointer (some ⟨g, 5, none⟩)) rfl (wanted_none rfl _) (exec_fld 28 5 5 (.tmp 1) (g) rfl (hE 1 (.pointer (some ⟨g, 0, none⟩)) (by kernel_rfl) (by kernel_rfl)) (by kernel_rfl)) rfl) ?_
    refine fsteps_cons 7 rfl (fun a u hE hD hk => f_val (o := ⟨some 40, _, _, _, _, _⟩) (.int .i64 c.side) rfl (wanted_none rfl _) (exec_loadi 3 Try.underlying3 (.tmp 39) ⟨g, 5, none⟩ (.int .i64 c.side) rfl (hD 5 39 (by kernel_rfl)) ((HB3.out.kept hk).fld 5 _ rfl)) rfl) ?_
    refine fsteps_cons 8 rfl (fun a u hE hD hk => f_call (o := ⟨some 41, _, _, _, _, _⟩) 31 #[a.eval (.tmp 38), .int .i64 c.side] rfl (wanted_none rfl _) (exec_call 31 _ [.tmp 38, .tmp 40] _ [a.eval (.tmp 38), .int .i64 c.side] Try.func31 (by kernel_rfl) (by kernel_rfl) rfl (show [a.eval (.tmp 38), a.eval (.tmp 40)] = [a.eval (.tmp 38), .int .i64 c.side] from (by rw [show a.eval (.tmp 40) = .int .i64 c.side from (hD 6 40 (by kernel_rfl))] <;> rfl)) u) (fu8_gives _ (c.side) g ((([u8 c.k] ++ w32s [c.seq]) ++ [u8 c.inst]) ++ w32s [c.id]) u (hD 4 38 (by kernel_rfl)) (by have := hgb3.out; have := hk.size; omega) (Nat.le_of_ble_eq_true (by kernel_rfl)))) ?_
    refine fsteps_cons 9 rfl (fun a u hE hD hk => f_val (o := ⟨some 42, _, _, _, _, _⟩) (.pointer (some ⟨g, 6, none⟩)) rfl (wanted_none rfl _) (exec_fld 28 6 6 (.tmp 1) (g) rfl (hE 1 (.pointer (some ⟨g, 0, none⟩)) (by kernel_rfl) (by kernel_rfl)) (by kernel_rfl)) rfl) ?_
    refine fsteps_cons 10 rfl (fun a u hE hD hk => f_val (o := ⟨some 43, _, _, _, _, _⟩) (.int .i64 c.ord) rfl (wanted_none rfl _) (exec_loadi 3 Try.underlying3 (.tmp 42) ⟨g, 6, none⟩ (.int .i64 c.ord) rfl (hD 8 42 (by kernel_rfl)) ((HB3.out.kept hk).fld 6 _ rfl)) rfl) ?_
    refine fsteps_cons 11 rfl (fun a u hE hD hk => f_call (o := ⟨some 44, _, _, _, _, _⟩) 31 #[a.eval (.tmp 41), .int .i64 c.ord] rfl (wanted_none rfl _) (exec_call 31 _ [.tmp 41, .tmp 43] _ [a.eval (.tmp 41), .int .i64 c.ord] Try.func31 (by kernel_rfl) (by kernel_rfl) rfl (show [a.eval (.tmp 41), a.eval (.tmp 43)] = [a.eval (.tmp 41), .int .i64 c.ord] from (by rw [show a.eval (.tmp 43) = .int .i64 c.ord from (hD 9 43 (by kernel_rfl))] <;> rfl)) u) (fu8_gives _ (c.ord) g (((([u8 c.k] ++ w32s [c.seq]) ++ [u8 c.inst]) ++ w32s [c.id]) ++ [u8 c.side]) u (hD 7 41 (by kernel_rfl)) (by have := hgb3.out; have := hk.size; omega) (Nat.le_of_ble_eq_true (by kernel_rfl)))) ?_
    exact fsteps_nil
  intro gv w4 hV k4
  rw [show dstsOf _ 11 = [34, 35, 36, 37, 38, 39, 40, 41, 42, 43, 44] by kernel_rfl]
  simp only [List.foldl_cons, List.foldl_nil, List.setIfInBounds_toArray, List.set_cons_succ, List.set_cons_zero, List.drop_succ_cons, List.drop_zero]
  have hv44 : (.own g ((((([u8 c.k] ++ w32s [c.seq]) ++ [u8 c.inst]) ++ w32s [c.id]) ++ [u8 c.side]) ++ [u8 c.ord]) : Kn).p (gv 44) w4 := hV 10 44 (by kernel_rfl)
  generalize gv 44 = v44 at hv44 ⊢
  clear hV
  have HP4 := Lib.hid hv44
  generalize v44 = v3_4 at HP4 hv44 ⊢
  clear hv44
  have HB4 := Lib.hid (HB3.out.kept k4)
  have hgb4 : Hid (g ≤ w4.heap.size) := by show g ≤ _; have := k4.size; have := hgb3.out; omega
  have kw4 := kw3.trans k4
  clear kw3 k4
  go_upto_region 12 with fail
  refine wp_text 11 [.eq (v3_4), .eq (.pointer (some ⟨g, 7, none⟩)), .eq (.int .i64 c.price), .eq (.pointer (some ⟨g, 8, none⟩)), .eq (.int .i64 c.qty), .eq (.pointer (some ⟨g, 9, none⟩)), .eq (.int .i64 c.shw), .eq (.pointer (some ⟨g, 10, none⟩)), .eq (.int .i64 c.stop), .ints [(c.price), (c.qty), (c.shw), (c.stop)], .own g (((((([u8 c.k] ++ w32s [c.seq]) ++ [u8 c.inst]) ++ w32s [c.id]) ++ [u8 c.side]) ++ [u8 c.ord]) ++ w32s [c.price, c.qty, c.shw, c.stop])] rfl (by kernel_rfl) ?_ ?_
  · refine fsteps_cons 1 rfl (fun a u hE hD hk => f_val (o := ⟨some 45, _, _, _, _, _⟩) (v3_4) rfl (wanted_none rfl _) (exec_move (.tmp 3) (v3_4) rfl (hE 3 (v3_4) (by kernel_rfl) (by kernel_rfl))) rfl) ?_
    refine fsteps_cons 2 rfl (fun a u hE hD hk => f_val (o := ⟨some 46, _, _, _, _, _⟩) (.pointer (some ⟨g, 7, none⟩)) rfl (wanted_none rfl _) (exec_fld 28 7 7 (.tmp 1) (g) rfl (hE 1 (.pointer (some ⟨g, 0, none⟩)) (by kernel_rfl) (by kernel_rfl)) (by kernel_rfl)) rfl) ?_
    refine fsteps_cons 3 rfl (fun a u hE hD hk => f_val (o := ⟨some 47, _, _, _, _, _⟩) (.int .i64 c.price) rfl (wanted_none rfl _) (exec_loadi 3 Try.underlying3 (.tmp 46) ⟨g, 7, none⟩ (.int .i64 c.price) rfl (hD 1 46 (by kernel_rfl)) ((HB4.out.kept hk).fld 7 _ rfl)) rfl) ?_
    refine fsteps_cons 4 rfl (fun a u hE hD hk => f_val (o := ⟨some 48, _, _, _, _, _⟩) (.pointer (some ⟨g, 8, none⟩)) rfl (wanted_none rfl _) (exec_fld 28 8 8 (.tmp 1) (g) rfl (hE 1 (.pointer (some ⟨g, 0, none⟩)) (by kernel_rfl) (by kernel_rfl)) (by kernel_rfl)) rfl) ?_
    refine fsteps_cons 5 rfl (fun a u hE hD hk => f_val (o := ⟨some 49, _, _, _, _, _⟩) (.int .i64 c.qty) rfl (wanted_none rfl _) (exec_loadi 3 Try.underlying3 (.tmp 48) ⟨g, 8, none⟩ (.int .i64 c.qty) rfl (hD 3 48 (by kernel_rfl)) ((HB4.out.kept hk).fld 8 _ rfl)) rfl) ?_
    refine fsteps_cons 6 rfl (fun a u hE hD hk => f_val (o := ⟨some 50, _, _, _, _, _⟩) (.pointer (some ⟨g, 9, none⟩)) rfl (wanted_none rfl _) (exec_fld 28 9 9 (.tmp 1) (g) rfl (hE 1 (.pointer (some ⟨g, 0, none⟩)) (by kernel_rfl) (by kernel_rfl)) (by kernel_rfl)) rfl) ?_
    refine fsteps_cons 7 rfl (fun a u hE hD hk => f_val (o := ⟨some 51, _, _, _, _, _⟩) (.int .i64 c.shw) rfl (wanted_none rfl _) (exec_loadi 3 Try.underlying3 (.tmp 50) ⟨g, 9, none⟩ (.int .i64 c.shw) rfl (hD 5 50 (by kernel_rfl)) ((HB4.out.kept hk).fld 9 _ rfl)) rfl) ?_
    refine fsteps_cons 8 rfl (fun a u hE hD hk => f_val (o := ⟨some 52, _, _, _, _, _⟩) (.pointer (some ⟨g, 10, none⟩)) rfl (wanted_none rfl _) (exec_fld 28 10 10 (.tmp 1) (g) rfl (hE 1 (.pointer (some ⟨g, 0, none⟩)) (by kernel_rfl) (by kernel_rfl)) (by kernel_rfl)) rfl) ?_
    refine fsteps_cons 9 rfl (fun a u hE hD hk => f_val (o := ⟨some 53, _, _, _, _, _⟩) (.int .i64 c.stop) rfl (wanted_none rfl _) (exec_loadi 3 Try.underlying3 (.tmp 52) ⟨g, 10, none⟩ (.int .i64 c.stop) rfl (hD 7 52 (by kernel_rfl)) ((HB4.out.kept hk).fld 10 _ rfl)) rfl) ?_
    refine fsteps_cons 10 rfl (fun a u hE hD hk => f_new (o := ⟨some 54, _, _, _, _, _⟩) (.slice (some ⟨u.heap.size, 0, none⟩) 4 4) _ rfl (wanted_none rfl _) (exec_ints 4 _ [(c.price), (c.qty), (c.shw), (c.stop)] rfl rfl (by omega) (by omega) (by show [(0, a.eval (.tmp 47)), (1, a.eval (.tmp 49)), (2, a.eval (.tmp 51)), (3, a.eval (.tmp 53))] = [(0, .int .i64 c.price), (1, .int .i64 c.qty), (2, .int .i64 c.shw), (3, .int .i64 c.stop)]; rw [show a.eval (.tmp 47) = .int .i64 c.price from (hD 2 47 (by kernel_rfl)), show a.eval (.tmp 49) = .int .i64 c.qty from (hD 4 49 (by kernel_rfl)), show a.eval (.tmp 51) = .int .i64 c.shw from (hD 6 51 (by kernel_rfl)), show a.eval (.tmp 53) = .int .i64 c.stop from (hD 8 53 (by kernel_rfl))])) (ints_new u [(c.price), (c.qty), (c.shw), (c.stop)] 4 rfl) ((Keep.refl _ u).alloc _)) ?_
    refine fsteps_cons 11 rfl (fun a u hE hD hk => f_call (o := ⟨some 55, _, _, _, _, _⟩) 32 #[v3_4, a.eval (.tmp 54)] rfl (wanted_none rfl _) (exec_call 32 _ [.tmp 45, .tmp 54] _ [v3_4, a.eval (.tmp 54)] Try.func32 (by kernel_rfl) (by kernel_rfl) rfl (show [a.eval (.tmp 45), a.eval (.tmp 54)] = [v3_4, a.eval (.tmp 54)] from (by rw [show a.eval (.tmp 45) = v3_4 from (hD 0 45 (by kernel_rfl))] <;> rfl)) u) (u32s_any _ _ g ((((([u8 c.k] ++ w32s [c.seq]) ++ [u8 c.inst]) ++ w32s [c.id]) ++ [u8 c.side]) ++ [u8 c.ord]) [c.price, c.qty, c.shw, c.stop] u (HP4.out.kept hk) (hD 9 54 (by kernel_rfl)) (by have := hgb4.out; have := hk.size; omega) (Nat.le_of_ble_eq_true (by kernel_rfl)) (Nat.le_of_ble_eq_true (by kernel_rfl)))) ?_
    exact fsteps_nil
  intro gv w5 hV k5
  rw [show dstsOf _ 11 = [45, 46, 47, 48, 49, 50, 51, 52, 53, 54, 55] by kernel_rfl]
  simp only [List.foldl_cons, List.foldl_nil, List.setIfInBounds_toArray, List.set_cons_succ, List.set_cons_zero, List.drop_succ_cons, List.drop_zero]
  have hv55 : (.own g (((((([u8 c.k] ++ w32s [c.seq]) ++ [u8 c.inst]) ++ w32s [c.id]) ++ [u8 c.side]) ++ [u8 c.ord]) ++ w32s [c.price, c.qty, c.shw, c.stop]) : Kn).p (gv 55) w5 := hV 10 55 (by kernel_rfl)
  generalize gv 55 = v55 at hv55 ⊢
  clear hV
  have HP5 := Lib.hid hv55
  generalize v55 = v3_5 at HP5 hv55 ⊢
  clear hv55
  have HB5 := Lib.hid (HB4.out.kept k5)
  have hgb5 : Hid (g ≤ w5.heap.size) := by show g ≤ _; have := k5.size; have := hgb4.out; omega
  have kw5 := kw4.trans k5
  clear kw4 k5
  go_wp2
  go_ret
  have he : (((((([u8 c.k] ++ w32s [c.seq]) ++ [u8 c.inst]) ++ w32s [c.id]) ++ [u8 c.side]) ++ [u8 c.ord]) ++ w32s [c.price, c.qty, c.shw, c.stop]) = c.enc := by simp [Cmd.enc, Cmd.body, hkk.out, w32s]
  rw [← he]
  exact ⟨_, rfl, HP5.out.low hgw.out, kw5⟩

set_option maxRecDepth 100000 in
set_option maxHeartbeats 3200000 in
theorem putCmd_4 (c : Cmd) (w : World) (hkk : Hid (c.k = 4)) (HT : Hid (c.tag.length = 32)) (hR : Hid (c.right = true)) : Gives 15 #[c.v] w (.own w.heap.size c.enc) := by
  unfold Gives Cmd.v
  have HB0 : Hid (Blk (w.alloc (.cells c.cells.toArray 28)) w.heap.size 28 c.cells) := Blk.new w _ _
  have kw0 : Kept w (w.alloc (.cells c.cells.toArray 28)) := (Keep.refl _ w).alloc _
  go_enter Try.func15, Try.ntmps15
  go_upto_region 1 with fail
  generalize w.alloc (.cells c.cells.toArray 28) = w0 at HB0 kw0 ⊢
  obtain ⟨g, hg⟩ : ∃ g, g = w.heap.size := ⟨_, rfl⟩
  rw [← hg] at HB0 ⊢
  have hgb0 : Hid (g ≤ w0.heap.size) := by show g ≤ _; have := kw0.size; omega
  have hgw : Hid (w.heap.size ≤ g) := by show _ ≤ g; omega
  clear hg
  refine wp_text 2 [.eq (c.v), .eq (.bool true)] rfl (by kernel_rfl) ?_ ?_
  · refine fsteps_cons 1 rfl (fun a u hE hD hk => f_val (o := ⟨some 4, _, _, _, _, _⟩) (c.v) rfl (wanted_none rfl _) (exec_loadS 28 (.tmp 1) (g) _ c.cells _ rfl (hE 1 (.pointer (some ⟨g, 0, none⟩)) (by kernel_rfl) (by kernel_rfl)) (HB0.out.kept hk) Try.underlying28 (by rw [Cmd.cells_len _ HT.out]; exact cmd_size)) rfl) ?_
    refine fsteps_cons 2 rfl (fun a u hE hD hk => f_call (o := ⟨some 5, _, _, _, _, _⟩) 14 #[c.v] rfl (wanted_none rfl _) (exec_call 14 _ [.tmp 4] _ [c.v] Try.func14 (by kernel_rfl) (by kernel_rfl) rfl (show [a.eval (.tmp 4)] = [c.v] from (by rw [show a.eval (.tmp 4) = c.v from (hD 0 4 (by kernel_rfl))] <;> rfl)) u) (right_is c true u HT hR.out)) ?_
    exact fsteps_nil
  intro gv w1 hV k1
  rw [show dstsOf _ 2 = [4, 5] by kernel_rfl]
  simp only [List.foldl_cons, List.foldl_nil, List.setIfInBounds_toArray, List.set_cons_succ, List.set_cons_zero, List.drop_succ_cons, List.drop_zero]
  rw [show gv 5 = .bool true from hV 1 5 (by kernel_rfl)]
  clear hV
  have HB1 := Lib.hid (HB0.out.kept k1)
  have hgb1 : Hid (g ≤ w1.heap.size) := by show g ≤ _; have := k1.size; have := hgb0.out; omega
  have kw1 := kw0.trans k1
  clear kw0 k1
  go_upto_region 3 with fail
  refine wp_text 3 [.eq (.pointer (some ⟨g, 0, none⟩)), .eq (.int .i64 c.k), .own g [u8 c.k]] rfl (by kernel_rfl) ?_ ?_
  · refine fsteps_cons 1 rfl (fun a u hE hD hk => f_val (o := ⟨some 7, _, _, _, _, _⟩) (.pointer (some ⟨g, 0, none⟩)) rfl (wanted_none rfl _) (exec_fld 28 0 0 (.tmp 1) (g) rfl (hE 1 (.pointer (some ⟨g, 0, none⟩)) (by kernel_rfl) (by kernel_rfl)) (by kernel_rfl)) rfl) ?_
    refine fsteps_cons 2 rfl (fun a u hE hD hk => f_val (o := ⟨some 8, _, _, _, _, _⟩) (.int .i64 c.k) rfl (wanted_none rfl _) (exec_loadi 3 Try.underlying3 (.tmp 7) ⟨g, 0, none⟩ (.int .i64 c.k) rfl (hD 0 7 (by kernel_rfl)) ((HB1.out.kept hk).fld 0 _ rfl)) rfl) ?_
    refine fsteps_cons 3 rfl (fun a u hE hD hk => f_call (o := ⟨some 9, _, _, _, _, _⟩) 31 #[.slice none 0 0, .int .i64 c.k] rfl (wanted_none rfl _) (exec_call 31 _ [.const (.slice none 0 0), .tmp 8] _ [.slice none 0 0, .int .i64 c.k] Try.func31 (by kernel_rfl) (by kernel_rfl) rfl (show [a.eval (.const (.slice none 0 0)), a.eval (.tmp 8)] = [.slice none 0 0, .int .i64 c.k] from (by rw [show a.eval (.tmp 8) = .int .i64 c.k from (hD 1 8 (by kernel_rfl))] <;> rfl)) u) (fu8_gives _ (c.k) g [] u (OwnV.nil _ _) (by have := hgb1.out; have := hk.size; omega) (Nat.le_of_ble_eq_true (by kernel_rfl)))) ?_
    exact fsteps_nil
  intro gv w2 hV k2
  rw [show dstsOf _ 3 = [7, 8, 9] by kernel_rfl]
  simp only [List.foldl_cons, List.foldl_nil, List.setIfInBounds_toArray, List.set_cons_succ, List.set_cons_zero, List.drop_succ_cons, List.drop_zero]
  have hv9 : (.own g [u8 c.k] : Kn).p (gv 9) w2 := hV 2 9 (by kernel_rfl)
  generalize gv 9 = v9 at hv9 ⊢
  clear hV
  have HP2 := Lib.hid hv9
  generalize v9 = v3_2 at HP2 hv9 ⊢
  clear hv9
  have HB2 := Lib.hid (HB1.out.kept k2)
  have hgb2 : Hid (g ≤ w2.heap.size) := by show g ≤ _; have := k2.size; have := hgb1.out; omega
  have kw2 := kw1.trans k2
  clear kw1 k2
  have hc : w2.cell? ⟨g, 0, none⟩ = some (.int .i64 4) := by rw [← hkk.out]; exact HB2.out.fld 0 _ rfl
  go_upto_region 14 with fail
  refine wp_free 8 [.eq (v3_2), .eq (.pointer (some ⟨g, 1, none⟩)), .eq (.int .i64 c.seq), .ints [(c.seq)], .own g ([u8 c.k] ++ w32s [c.seq]), .eq (.pointer (some ⟨g, 3, none⟩)), .eq (.int .i64 c.inst), .own g (([u8 c.k] ++ w32s [c.seq]) ++ [u8 c.inst])] (by kernel_rfl) rfl (by kernel_rfl) ?_ ?_
  · refine fsteps_cons 1 rfl (fun a u hE hD hk => f_val (o := ⟨some 58, _, _, _, _, _⟩) (v3_2) rfl (wanted_none rfl _) (exec_move (.tmp 3) (v3_2) rfl (hE 3 (v3_2) (by kernel_rfl) (by kernel_rfl))) rfl) ?_
    refine fsteps_cons 2 rfl (fun a u hE hD hk => f_val (o := ⟨some 59, _, _, _, _, _⟩) (.pointer (some ⟨g, 1, none⟩)) rfl (wanted_none rfl _) (exec_fld 28 1 1 (.tmp 1) (g) rfl (hE 1 (.pointer (some ⟨g, 0, none⟩)) (by kernel_rfl) (by kernel_rfl)) (by kernel_rfl)) rfl) ?_
    refine fsteps_cons 3 rfl (fun a u hE hD hk => f_val (o := ⟨some 60, _, _, _, _, _⟩) (.int .i64 c.seq) rfl (wanted_none rfl _) (exec_loadi 3 Try.underlying3 (.tmp 59) ⟨g, 1, none⟩ (.int .i64 c.seq) rfl (hD 1 59 (by kernel_rfl)) ((HB2.out.kept hk).fld 1 _ rfl)) rfl) ?_
    refine fsteps_cons 4 rfl (fun a u hE hD hk => f_new (o := ⟨some 61, _, _, _, _, _⟩) (.slice (some ⟨u.heap.size, 0, none⟩) 1 1) _ rfl (wanted_none rfl _) (exec_ints 1 _ [(c.seq)] rfl rfl (by omega) (by omega) (by show [(0, a.eval (.tmp 60))] = [(0, .int .i64 c.seq)]; rw [show a.eval (.tmp 60) = .int .i64 c.seq from (hD 2 60 (by kernel_rfl))])) (ints_new u [(c.seq)] 1 rfl) ((Keep.refl _ u).alloc _)) ?_
    refine fsteps_cons 5 rfl (fun a u hE hD hk => f_call (o := ⟨some 62, _, _, _, _, _⟩) 32 #[v3_2, a.eval (.tmp 61)] rfl (wanted_none rfl _) (exec_call 32 _ [.tmp 58, .tmp 61] _ [v3_2, a.eval (.tmp 61)] Try.func32 (by kernel_rfl) (by kernel_rfl) rfl (show [a.eval (.tmp 58), a.eval (.tmp 61)] = [v3_2, a.eval (.tmp 61)] from (by rw [show a.eval (.tmp 58) = v3_2 from (hD 0 58 (by kernel_rfl))] <;> rfl)) u) (u32s_any _ _ g [u8 c.k] [c.seq] u (HP2.out.kept hk) (hD 3 61 (by kernel_rfl)) (by have := hgb2.out; have := hk.size; omega) (Nat.le_of_ble_eq_true (by kernel_rfl)) (Nat.le_of_ble_eq_true (by kernel_rfl)))) ?_
    refine fsteps_cons 6 rfl (fun a u hE hD hk => f_val (o := ⟨some 63, _, _, _, _, _⟩) (.pointer (some ⟨g, 3, none⟩)) rfl (wanted_none rfl _) (exec_fld 28 3 3 (.tmp 1) (g) rfl (hE 1 (.pointer (some ⟨g, 0, none⟩)) (by kernel_rfl) (by kernel_rfl)) (by kernel_rfl)) rfl) ?_
    refine fsteps_cons 7 rfl (fun a u hE hD hk => f_val (o := ⟨some 64, _, _, _, _, _⟩) (.int .i64 c.inst) rfl (wanted_none rfl _) (exec_loadi 3 Try.underlying3 (.tmp 63) ⟨g, 3, none⟩ (.int .i64 c.inst) rfl (hD 5 63 (by kernel_rfl)) ((HB2.out.kept hk).fld 3 _ rfl)) rfl) ?_
    refine fsteps_cons 8 rfl (fun a u hE hD hk => f_call (o := ⟨some 65, _, _, _, _, _⟩) 31 #[a.eval (.tmp 62), .int .i64 c.inst] rfl (wanted_none rfl _) (exec_call 31 _ [.tmp 62, .tmp 64] _ [a.eval (.tmp 62), .int .i64 c.inst] Try.func31 (by kernel_rfl) (by kernel_rfl) rfl (show [a.eval (.tmp 62), a.eval (.tmp 64)] = [a.eval (.tmp 62), .int .i64 c.inst] from (by rw [show a.eval (.tmp 64) = .int .i64 c.inst from (hD 6 64 (by kernel_rfl))] <;> rfl)) u) (fu8_gives _ (c.inst) g ([u8 c.k] ++ w32s [c.seq]) u (hD 4 62 (by kernel_rfl)) (by have := hgb2.out; have := hk.size; omega) (Nat.le_of_ble_eq_true (by kernel_rfl)))) ?_
    exact fsteps_nil
  intro gv w3 hV k3
  rw [show dstsOf _ 8 = [58, 59, 60, 61, 62, 63, 64, 65] by kernel_rfl]
  simp only [List.foldl_cons, List.foldl_nil, List.setIfInBounds_toArray, List.set_cons_succ, List.set_cons_zero, List.drop_succ_cons, List.drop_zero]
  have hv65 : (.own g (([u8 c.k] ++ w32s [c.seq]) ++ [u8 c.inst]) : Kn).p (gv 65) w3 := hV 7 65 (by kernel_rfl)
  generalize gv 65 = v65 at hv65 ⊢
  clear hV
  have HP3 := Lib.hid hv65
  generalize v65 = v3_3 at HP3 hv65 ⊢
  clear hv65
  have HB3 := Lib.hid (HB2.out.kept k3)
  have hgb3 : Hid (g ≤ w3.heap.size) := by show g ≤ _; have := k3.size; have := hgb2.out; omega
  have kw3 := kw2.trans k3
  clear kw2 k3
  go_upto_region 15 with fail
  refine wp_free 8 [.eq (v3_3), .eq (.pointer (some ⟨g, 4, none⟩)), .eq (.int .i64 c.id), .ints [(c.id)], .own g ((([u8 c.k] ++ w32s [c.seq]) ++ [u8 c.inst]) ++ w32s [c.id]), .eq (.pointer (some ⟨g, 2, none⟩)), .eq (.int .i64 c.tr), .own g (((([u8 c.k] ++ w32s [c.seq]) ++ [u8 c.inst]) ++ w32s [c.id]) ++ [u8 c.tr])] (by kernel_rfl) rfl (by kernel_rfl) ?_ ?_
  · refine fsteps_cons 1 rfl (fun a u hE hD hk => f_val (o := ⟨some 66, _, _, _, _, _⟩) (v3_3) rfl (wanted_none rfl _) (exec_move (.tmp 3) (v3_3) rfl (hE 3 (v3_3) (by kernel_rfl) (by kernel_rfl))) rfl) ?_
    refine fsteps_cons 2 rfl (fun a u hE hD hk => f_val (o := ⟨some 67, _, _, _, _, _⟩) (.pointer (some ⟨g, 4, none⟩)) rfl (wanted_none rfl _) (exec_fld 28 4 4 (.tmp 1) (g) rfl (hE 1 (.pointer (some ⟨g, 0, none⟩)) (by kernel_rfl) (by kernel_rfl)) (by kernel_rfl)) rfl) ?_
    refine fsteps_cons 3 rfl (fun a u hE hD hk => f_val (o := ⟨some 68, _, _, _, _, _⟩) (.int .i64 c.id) rfl (wanted_none rfl _) (exec_loadi 3 Try.underlying3 (.tmp 67) ⟨g, 4, none⟩ (.int .i64 c.id) rfl (hD 1 67 (by kernel_rfl)) ((HB3.out.kept hk).fld 4 _ rfl)) rfl) ?_
    refine fsteps_cons 4 rfl (fun a u hE hD hk => f_new (o := ⟨some 69, _, _, _, _, _⟩) (.slice (some ⟨u.heap.size, 0, none⟩) 1 1) _ rfl (wanted_none rfl _) (exec_ints 1 _ [(c.id)] rfl rfl (by omega) (by omega) (by show [(0, a.eval (.tmp 68))] = [(0, .int .i64 c.id)]; rw [show a.eval (.tmp 68) = .int .i64 c.id from (hD 2 68 (by kernel_rfl))])) (ints_new u [(c.id)] 1 rfl) ((Keep.refl _ u).alloc _)) ?_
    refine fsteps_cons 5 rfl (fun a u hE hD hk => f_call (o := ⟨some 70, _, _, _, _, _⟩) 32 #[v3_3, a.eval (.tmp 69)] rfl (wanted_none rfl _) (exec_call 32 _ [.tmp 66, .tmp 69] _ [v3_3, a.eval (.tmp 69)] Try.func32 (by kernel_rfl) (by kernel_rfl) rfl (show [a.eval (.tmp 66), a.eval (.tmp 69)] = [v3_3, a.eval (.tmp 69)] from (by rw [show a.eval (.tmp 66) = v3_3 from (hD 0 66 (by kernel_rfl))] <;> rfl)) u) (u32s_any _ _ g (([u8 c.k] ++ w32s [c.seq]) ++ [u8 c.inst]) [c.id] u (HP3.out.kept hk) (hD 3 69 (by kernel_rfl)) (by have := hgb3.out; have := hk.size; omega) (Nat.le_of_ble_eq_true (by kernel_rfl)) (Nat.le_of_ble_eq_true (by kernel_rfl)))) ?_
    refine fsteps_cons 6 rfl (fun a u hE hD hk => f_val (o := ⟨some 71, _, _, _, _, _⟩) (.pointer (some ⟨g, 2, none⟩)) rfl (wanted_none rfl _) (exec_fld 28 2 2 (.tmp 1) (g) rfl (hE 1 (.pointer (some ⟨g, 0, none⟩)) (by kernel_rfl) (by kernel_rfl)) (by kernel_rfl)) rfl) ?_
    refine fsteps_cons 7 rfl (fun a u hE hD hk => f_val (o := ⟨some 72, _, _, _, _, _⟩) (.int .i64 c.tr) rfl (wanted_none rfl _) (exec_loadi 3 Try.underlying3 (.tmp 71) ⟨g, 2, none⟩ (.int .i64 c.tr) rfl (hD 5 71 (by kernel_rfl)) ((HB3.out.kept hk).fld 2 _ rfl)) rfl) ?_
    refine fsteps_cons 8 rfl (fun a u hE hD hk => f_call (o := ⟨some 73, _, _, _, _, _⟩) 31 #[a.eval (.tmp 70), .int .i64 c.tr] rfl (wanted_none rfl _) (exec_call 31 _ [.tmp 70, .tmp 72] _ [a.eval (.tmp 70), .int .i64 c.tr] Try.func31 (by kernel_rfl) (by kernel_rfl) rfl (show [a.eval (.tmp 70), a.eval (.tmp 72)] = [a.eval (.tmp 70), .int .i64 c.tr] from (by rw [show a.eval (.tmp 72) = .int .i64 c.tr from (hD 6 72 (by kernel_rfl))] <;> rfl)) u) (fu8_gives _ (c.tr) g ((([u8 c.k] ++ w32s [c.seq]) ++ [u8 c.inst]) ++ w32s [c.id]) u (hD 4 70 (by kernel_rfl)) (by have := hgb3.out; have := hk.size; omega) (Nat.le_of_ble_eq_true (by kernel_rfl)))) ?_
    exact fsteps_nil
  intro gv w4 hV k4
  rw [show dstsOf _ 8 = [66, 67, 68, 69, 70, 71, 72, 73] by kernel_rfl]
  simp only [List.foldl_cons, List.foldl_nil, List.setIfInBounds_toArray, List.set_cons_succ, List.set_cons_zero, List.drop_succ_cons, List.drop_zero]
  have hv73 : (.own g (((([u8 c.k] ++ w32s [c.seq]) ++ [u8 c.inst]) ++ w32s [c.id]) ++ [u8 c.tr]) : Kn).p (gv 73) w4 := hV 7 73 (by kernel_rfl)
  generalize gv 73 = v73 at hv73 ⊢
  clear hV
  have HP4 := Lib.hid hv73
  generalize v73 = v3_4 at HP4 hv73 ⊢
  clear hv73
  have HB4 := Lib.hid (HB3.out.kept k4)
  have hgb4 : Hid (g ≤ w4.heap.size) := by show g ≤ _; have := k4.size; have := hgb3.out; omega
  have kw4 := kw3.trans k4
  clear kw3 k4
  go_wp2
  go_ret
  have he : (((([u8 c.k] ++ w32s [c.seq]) ++ [u8 c.inst]) ++ w32s [c.id]) ++ [u8 c.tr]) = c.enc := by simp [Cmd.enc, Cmd.body, hkk.out, w32s]
  rw [← he]
  exact ⟨_, rfl, HP4.out.low hgw.out, kw4⟩

set_option maxRecDepth 100000 in
set_option maxHeartbeats 3200000 in
theorem putCmd_5 (c : Cmd) (w : World) (hkk : Hid (c.k = 5)) (HT : Hid (c.tag.length = 32)) (hR : Hid (c.right = true)) : Gives 15 #[c.v] w (.own w.heap.size c.enc) := by
  unfold Gives Cmd.v
  have HB0 : Hid (Blk (w.alloc (.cells c.cells.toArray 28)) w.heap.size 28 c.cells) := Blk.new w _ _
  have kw0 : Kept w (w.alloc (.cells c.cells.toArray 28)) := (Keep.refl _ w).alloc _
  go_enter Try.func15, Try.ntmps15
  go_upto_region 1 with fail
  generalize w.alloc (.cells c.cells.toArray 28) = w0 at HB0 kw0 ⊢
  obtain ⟨g, hg⟩ : ∃ g, g = w.heap.size := ⟨_, rfl⟩
  rw [← hg] at HB0 ⊢
  have hgb0 : Hid (g ≤ w0.heap.size) := by show g ≤ _; have := kw0.size; omega
  have hgw : Hid (w.heap.size ≤ g) := by show _ ≤ g; omega
  clear hg
  refine wp_text 2 [.eq (c.v), .eq (.bool true)] rfl (by kernel_rfl) ?_ ?_
  · refine fsteps_cons 1 rfl (fun a u hE hD hk => f_val (o := ⟨some 4, _, _, _, _, _⟩) (c.v) rfl (wanted_none rfl _) (exec_loadS 28 (.tmp 1) (g) _ c.cells _ rfl (hE 1 (.pointer (some ⟨g, 0, none⟩)) (by kernel_rfl) (by kernel_rfl)) (HB0.out.kept hk) Try.underlying28 (by rw [Cmd.cells_len _ HT.out]; exact cmd_size)) rfl) ?_
    refine fsteps_cons 2 rfl (fun a u hE hD hk => f_call (o := ⟨some 5, _, _, _, _, _⟩) 14 #[c.v] rfl (wanted_none rfl _) (exec_call 14 _ [.tmp 4] _ [c.v] Try.func14 (by kernel_rfl) (by kernel_rfl) rfl (show [a.eval (.tmp 4)] = [c.v] from (by rw [show a.eval (.tmp 4) = c.v from (hD 0 4 (by kernel_rfl))] <;> rfl)) u) (right_is c true u HT hR.out)) ?_
    exact fsteps_nil
  intro gv w1 hV k1
  rw [show dstsOf _ 2 = [4, 5] by kernel_rfl]
  simp only [List.foldl_cons, List.foldl_nil, List.setIfInBounds_toArray, List.set_cons_succ, List.set_cons_zero, List.drop_succ_cons, List.drop_zero]
  rw [show gv 5 = .bool true from hV 1 5 (by kernel_rfl)]
  clear hV
  have HB1 := Lib.hid (HB0.out.kept k1)
  have hgb1 : Hid (g ≤ w1.heap.size) := by show g ≤ _; have := k1.size; have := hgb0.out; omega
  have kw1 := kw0.trans k1
  clear kw0 k1
  go_upto_region 3 with fail
  refine wp_text 3 [.eq (.pointer (some ⟨g, 0, none⟩)), .eq (.int .i64 c.k), .own g [u8 c.k]] rfl (by kernel_rfl) ?_ ?_
  · refine fsteps_cons 1 rfl (fun a u hE hD hk => f_val (o := ⟨some 7, _, _, _, _, _⟩) (.pointer (some ⟨g, 0, none⟩)) rfl (wanted_none rfl _) (exec_fld 28 0 0 (.tmp 1) (g) rfl (hE 1 (.pointer (some ⟨g, 0, none⟩)) (by kernel_rfl) (by kernel_rfl)) (by kernel_rfl)) rfl) ?_
    refine fsteps_cons 2 rfl (fun a u hE hD hk => f_val (o := ⟨some 8, _, _, _, _, _⟩) (.int .i64 c.k) rfl (wanted_none rfl _) (exec_loadi 3 Try.underlying3 (.tmp 7) ⟨g, 0, none⟩ (.int .i64 c.k) rfl (hD 0 7 (by kernel_rfl)) ((HB1.out.kept hk).fld 0 _ rfl)) rfl) ?_
    refine fsteps_cons 3 rfl (fun a u hE hD hk => f_call (o := ⟨some 9, _, _, _, _, _⟩) 31 #[.slice none 0 0, .int .i64 c.k] rfl (wanted_none rfl _) (exec_call 31 _ [.const (.slice none 0 0), .tmp 8] _ [.slice none 0 0, .int .i64 c.k] Try.func31 (by kernel_rfl) (by kernel_rfl) rfl (show [a.eval (.const (.slice none 0 0)), a.eval (.tmp 8)] = [.slice none 0 0, .int .i64 c.k] from (by rw [show a.eval (.tmp 8) = .int .i64 c.k from (hD 1 8 (by kernel_rfl))] <;> rfl)) u) (fu8_gives _ (c.k) g [] u (OwnV.nil _ _) (by have := hgb1.out; have := hk.size; omega) (Nat.le_of_ble_eq_true (by kernel_rfl)))) ?_
    exact fsteps_nil
  intro gv w2 hV k2
  rw [show dstsOf _ 3 = [7, 8, 9] by kernel_rfl]
  simp only [List.foldl_cons, List.foldl_nil, List.setIfInBounds_toArray, List.set_cons_succ, List.set_cons_zero, List.drop_succ_cons, List.drop_zero]
  have hv9 : (.own g [u8 c.k] : Kn).p (gv 9) w2 := hV 2 9 (by kernel_rfl)
  generalize gv 9 = v9 at hv9 ⊢
  clear hV
  have HP2 := Lib.hid hv9
  generalize v9 = v3_2 at HP2 hv9 ⊢
  clear hv9
  have HB2 := Lib.hid (HB1.out.kept k2)
  have hgb2 : Hid (g ≤ w2.heap.size) := by show g ≤ _; have := k2.size; have := hgb1.out; omega
  have kw2 := kw1.trans k2
  clear kw1 k2
  have hc : w2.cell? ⟨g, 0, none⟩ = some (.int .i64 5) := by rw [← hkk.out]; exact HB2.out.fld 0 _ rfl
  go_upto_region 17 with fail
  refine wp_free 8 [.eq (v3_2), .eq (.pointer (some ⟨g, 1, none⟩)), .eq (.int .i64 c.seq), .ints [(c.seq)], .own g ([u8 c.k] ++ w32s [c.seq]), .eq (.pointer (some ⟨g, 3, none⟩)), .eq (.int .i64 c.inst), .own g (([u8 c.k] ++ w32s [c.seq]) ++ [u8 c.inst])] (by kernel_rfl) rfl (by kernel_rfl) ?_ ?_
  · refine fsteps_cons 1 rfl (fun a u hE hD hk => f_val (o := ⟨some 76, _, _, _, _, _⟩) (v3_2) rfl (wanted_none rfl _) (exec_move (.tmp 3) (v3_2) rfl (hE 3 (v3_2) (by kernel_rfl) (by kernel_rfl))) rfl) ?_
    refine fsteps_cons 2 rfl (fun a u hE hD hk => f_val (o := ⟨some 77, _, _, _, _, _⟩) (.pointer (some ⟨g, 1, none⟩)) rfl (wanted_none rfl _) (exec_fld 28 1 1 (.tmp 1) (g) rfl (hE 1 (.pointer (some ⟨g, 0, none⟩)) (by kernel_rfl) (by kernel_rfl)) (by kernel_rfl)) rfl) ?_
    refine fsteps_cons 3 rfl (fun a u hE hD hk => f_val (o := ⟨some 78, _, _, _, _, _⟩) (.int .i64 c.seq) rfl (wanted_none rfl _) (exec_loadi 3 Try.underlying3 (.tmp 77) ⟨g, 1, none⟩ (.int .i64 c.seq) rfl (hD 1 77 (by kernel_rfl)) ((HB2.out.kept hk).fld 1 _ rfl)) rfl) ?_
    refine fsteps_cons 4 rfl (fun a u hE hD hk => f_new (o := ⟨some 79, _, _, _, _, _⟩) (.slice (some ⟨u.heap.size, 0, none⟩) 1 1) _ rfl (wanted_none rfl _) (exec_ints 1 _ [(c.seq)] rfl rfl (by omega) (by omega) (by show [(0, a.eval (.tmp 78))] = [(0, .int .i64 c.seq)]; rw [show a.eval (.tmp 78) = .int .i64 c.seq from (hD 2 78 (by kernel_rfl))])) (ints_new u [(c.seq)] 1 rfl) ((Keep.refl _ u).alloc _)) ?_
    refine fsteps_cons 5 rfl (fun a u hE hD hk => f_call (o := ⟨some 80, _, _, _, _, _⟩) 32 #[v3_2, a.eval (.tmp 79)] rfl (wanted_none rfl _) (exec_call 32 _ [.tmp 76, .tmp 79] _ [v3_2, a.eval (.tmp 79)] Try.func32 (by kernel_rfl) (by kernel_rfl) rfl (show [a.eval (.tmp 76), a.eval (.tmp 79)] = [v3_2, a.eval (.tmp 79)] from (by rw [show a.eval (.tmp 76) = v3_2 from (hD 0 76 (by kernel_rfl))] <;> rfl)) u) (u32s_any _ _ g [u8 c.k] [c.seq] u (HP2.out.kept hk) (hD 3 79 (by kernel_rfl)) (by have := hgb2.out; have := hk.size; omega) (Nat.le_of_ble_eq_true (by kernel_rfl)) (Nat.le_of_ble_eq_true (by kernel_rfl)))) ?_
    refine fsteps_cons 6 rfl (fun a u hE hD hk => f_val (o := ⟨some 81, _, _, _, _, _⟩) (.pointer (some ⟨g, 3, none⟩)) rfl (wanted_none rfl _) (exec_fld 28 3 3 (.tmp 1) (g) rfl (hE 1 (.pointer (some ⟨g, 0, none⟩)) (by kernel_rfl) (by kernel_rfl)) (by kernel_rfl)) rfl) ?_
    refine fsteps_cons 7 rfl (fun a u hE hD hk => f_val (o := ⟨some 82, _, _, _, _, _⟩) (.int .i64 c.inst) rfl (wanted_none rfl _) (exec_loadi 3 Try.underlying3 (.tmp 81) ⟨g, 3, none⟩ (.int .i64 c.inst) rfl (hD 5 81 (by kernel_rfl)) ((HB2.out.kept hk).fld 3 _ rfl)) rfl) ?_
    refine fsteps_cons 8 rfl (fun a u hE hD hk => f_call (o := ⟨some 83, _, _, _, _, _⟩) 31 #[a.eval (.tmp 80), .int .i64 c.inst] rfl (wanted_none rfl _) (exec_call 31 _ [.tmp 80, .tmp 82] _ [a.eval (.tmp 80), .int .i64 c.inst] Try.func31 (by kernel_rfl) (by kernel_rfl) rfl (show [a.eval (.tmp 80), a.eval (.tmp 82)] = [a.eval (.tmp 80), .int .i64 c.inst] from (by rw [show a.eval (.tmp 82) = .int .i64 c.inst from (hD 6 82 (by kernel_rfl))] <;> rfl)) u) (fu8_gives _ (c.inst) g ([u8 c.k] ++ w32s [c.seq]) u (hD 4 80 (by kernel_rfl)) (by have := hgb2.out; have := hk.size; omega) (Nat.le_of_ble_eq_true (by kernel_rfl)))) ?_
    exact fsteps_nil
  intro gv w3 hV k3
  rw [show dstsOf _ 8 = [76, 77, 78, 79, 80, 81, 82, 83] by kernel_rfl]
  simp only [List.foldl_cons, List.foldl_nil, List.setIfInBounds_toArray, List.set_cons_succ, List.set_cons_zero, List.drop_succ_cons, List.drop_zero]
  have hv83 : (.own g (([u8 c.k] ++ w32s [c.seq]) ++ [u8 c.inst]) : Kn).p (gv 83) w3 := hV 7 83 (by kernel_rfl)
  generalize gv 83 = v83 at hv83 ⊢
  clear hV
  have HP3 := Lib.hid hv83
  generalize v83 = v3_3 at HP3 hv83 ⊢
  clear hv83
  have HB3 := Lib.hid (HB2.out.kept k3)
  have hgb3 : Hid (g ≤ w3.heap.size) := by show g ≤ _; have := k3.size; have := hgb2.out; omega
  have kw3 := kw2.trans k3
  clear kw2 k3
  go_upto_region 18 with fail
  refine wp_text 9 [.eq (v3_3), .eq (.pointer (some ⟨g, 4, none⟩)), .eq (.int .i64 c.id), .eq (.pointer (some ⟨g, 7, none⟩)), .eq (.int .i64 c.price), .eq (.pointer (some ⟨g, 8, none⟩)), .eq (.int .i64 c.qty), .ints [(c.id), (c.price), (c.qty)], .own g ((([u8 c.k] ++ w32s [c.seq]) ++ [u8 c.inst]) ++ w32s [c.id, c.price, c.qty])] rfl (by kernel_rfl) ?_ ?_
  · refine fsteps_cons 1 rfl (fun a u hE hD hk => f_val (o := ⟨some 84, _, _, _, _, _⟩) (v3_3) rfl (wanted_none rfl _) (exec_move (.tmp 3) (v3_3) rfl (hE 3 (v3_3) (by kernel_rfl) (by kernel_rfl))) rfl) ?_
    refine fsteps_cons 2 rfl (fun a u hE hD hk => f_val (o := ⟨some 85, _, _, _, _, _⟩) (.pointer (some ⟨g, 4, none⟩)) rfl (wanted_none rfl _) (exec_fld 28 4 4 (.tmp 1) (g) rfl (hE 1 (.pointer (some ⟨g, 0, none⟩)) (by kernel_rfl) (by kernel_rfl)) (by kernel_rfl)) rfl) ?_
    refine fsteps_cons 3 rfl (fun a u hE hD hk => f_val (o := ⟨some 86, _, _, _, _, _⟩) (.int .i64 c.id) rfl (wanted_none rfl _) (exec_loadi 3 Try.underlying3 (.tmp 85) ⟨g, 4, none⟩ (.int .i64 c.id) rfl (hD 1 85 (by kernel_rfl)) ((HB3.out.kept hk).fld 4 _ rfl)) rfl) ?_
    refine fsteps_cons 4 rfl (fun a u hE hD hk => f_val (o := ⟨some 87, _, _, _, _, _⟩) (.pointer (some ⟨g, 7, none⟩)) rfl (wanted_none rfl _) (exec_fld 28 7 7 (.tmp 1) (g) rfl (hE 1 (.pointer (some ⟨g, 0, none⟩)) (by kernel_rfl) (by kernel_rfl)) (by kernel_rfl)) rfl) ?_
    refine fsteps_cons 5 rfl (fun a u hE hD hk => f_val (o := ⟨some 88, _, _, _, _, _⟩) (.int .i64 c.price) rfl (wanted_none rfl _) (exec_loadi 3 Try.underlying3 (.tmp 87) ⟨g, 7, none⟩ (.int .i64 c.price) rfl (hD 3 87 (by kernel_rfl)) ((HB3.out.kept hk).fld 7 _ rfl)) rfl) ?_
    refine fsteps_cons 6 rfl (fun a u hE hD hk => f_val (o := ⟨some 89, _, _, _, _, _⟩) (.pointer (some ⟨g, 8, none⟩)) rfl (wanted_none rfl _) (exec_fld 28 8 8 (.tmp 1) (g) rfl (hE 1 (.pointer (some ⟨g, 0, none⟩)) (by kernel_rfl) (by kernel_rfl)) (by kernel_rfl)) rfl) ?_
    refine fsteps_cons 7 rfl (fun a u hE hD hk => f_val (o := ⟨some 90, _, _, _, _, _⟩) (.int .i64 c.qty) rfl (wanted_none rfl _) (exec_loadi 3 Try.underlying3 (.tmp 89) ⟨g, 8, none⟩ (.int .i64 c.qty) rfl (hD 5 89 (by kernel_rfl)) ((HB3.out.kept hk).fld 8 _ rfl)) rfl) ?_
    refine fsteps_cons 8 rfl (fun a u hE hD hk => f_new (o := ⟨some 91, _, _, _, _, _⟩) (.slice (some ⟨u.heap.size, 0, none⟩) 3 3) _ rfl (wanted_none rfl _) (exec_ints 3 _ [(c.id), (c.price), (c.qty)] rfl rfl (by omega) (by omega) (by show [(0, a.eval (.tmp 86)), (1, a.eval (.tmp 88)), (2, a.eval (.tmp 90))] = [(0, .int .i64 c.id), (1, .int .i64 c.price), (2, .int .i64 c.qty)]; rw [show a.eval (.tmp 86) = .int .i64 c.id from (hD 2 86 (by kernel_rfl)), show a.eval (.tmp 88) = .int .i64 c.price from (hD 4 88 (by kernel_rfl)), show a.eval (.tmp 90) = .int .i64 c.qty from (hD 6 90 (by kernel_rfl))])) (ints_new u [(c.id), (c.price), (c.qty)] 3 rfl) ((Keep.refl _ u).alloc _)) ?_
    refine fsteps_cons 9 rfl (fun a u hE hD hk => f_call (o := ⟨some 92, _, _, _, _, _⟩) 32 #[v3_3, a.eval (.tmp 91)] rfl (wanted_none rfl _) (exec_call 32 _ [.tmp 84, .tmp 91] _ [v3_3, a.eval (.tmp 91)] Try.func32 (by kernel_rfl) (by kernel_rfl) rfl (show [a.eval (.tmp 84), a.eval (.tmp 91)] = [v3_3, a.eval (.tmp 91)] from (by rw [show a.eval (.tmp 84) = v3_3 from (hD 0 84 (by kernel_rfl))] <;> rfl)) u) (u32s_any _ _ g (([u8 c.k] ++ w32s [c.seq]) ++ [u8 c.inst]) [c.id, c.price, c.qty] u (HP3.out.kept hk) (hD 7 91 (by kernel_rfl)) (by have := hgb3.out; have := hk.size; omega) (Nat.le_of_ble_eq_true (by kernel_rfl)) (Nat.le_of_ble_eq_true (by kernel_rfl)))) ?_
    exact fsteps_nil
  intro gv w4 hV k4
  rw [show dstsOf _ 9 = [84, 85, 86, 87, 88, 89, 90, 91, 92] by kernel_rfl]
  simp only [List.foldl_cons, List.foldl_nil, List.setIfInBounds_toArray, List.set_cons_succ, List.set_cons_zero, List.drop_succ_cons, List.drop_zero]
  have hv92 : (.own g ((([u8 c.k] ++ w32s [c.seq]) ++ [u8 c.inst]) ++ w32s [c.id, c.price, c.qty]) : Kn).p (gv 92) w4 := hV 8 92 (by kernel_rfl)
  generalize gv 92 = v92 at hv92 ⊢
  clear hV
  have HP4 := Lib.hid hv92
  generalize v92 = v3_4 at HP4 hv92 ⊢
  clear hv92
  have HB4 := Lib.hid (HB3.out.kept k4)
  have hgb4 : Hid (g ≤ w4.heap.size) := by show g ≤ _; have := k4.size; have := hgb3.out; omega
  have kw4 := kw3.trans k4
  clear kw3 k4
  go_wp2
  go_ret
  have he : ((([u8 c.k] ++ w32s [c.seq]) ++ [u8 c.inst]) ++ w32s [c.id, c.price, c.qty]) = c.enc := by simp [Cmd.enc, Cmd.body, hkk.out, w32s]
  rw [← he]
  exact ⟨_, rfl, HP4.out.low hgw.out, kw4⟩

set_option maxRecDepth 100000 in
set_option maxHeartbeats 3200000 in
theorem putCmd_6 (c : Cmd) (w : World) (hkk : Hid (c.k = 6)) (HT : Hid (c.tag.length = 32)) (hR : Hid (c.right = true)) : Gives 15 #[c.v] w (.own w.heap.size c.enc) := by
  unfold Gives Cmd.v
  have HB0 : Hid (Blk (w.alloc (.cells c.cells.toArray 28)) w.heap.size 28 c.cells) := Blk.new w _ _
  have kw0 : Kept w (w.alloc (.cells c.cells.toArray 28)) := (Keep.refl _ w).alloc _
  go_enter Try.func15, Try.ntmps15
  go_upto_region 1 with fail
  generalize w.alloc (.cells c.cells.toArray 28) = w0 at HB0 kw0 ⊢
  obtain ⟨g, hg⟩ : ∃ g, g = w.heap.size := ⟨_, rfl⟩
  rw [← hg] at HB0 ⊢
  have hgb0 : Hid (g ≤ w0.heap.size) := by show g ≤ _; have := kw0.size; omega
  have hgw : Hid (w.heap.size ≤ g) := by show _ ≤ g; omega
  clear hg
  refine wp_text 2 [.eq (c.v), .eq (.bool true)] rfl (by kernel_rfl) ?_ ?_
  · refine fsteps_cons 1 rfl (fun a u hE hD hk => f_val (o := ⟨some 4, _, _, _, _, _⟩) (c.v) rfl (wanted_none rfl _) (exec_loadS 28 (.tmp 1) (g) _ c.cells _ rfl (hE 1 (.pointer (some ⟨g, 0, none⟩)) (by kernel_rfl) (by kernel_rfl)) (HB0.out.kept hk) Try.underlying28 (by rw [Cmd.cells_len _ HT.out]; exact cmd_size)) rfl) ?_
    refine fsteps_cons 2 rfl (fun a u hE hD hk => f_call (o := ⟨some 5, _, _, _, _, _⟩) 14 #[c.v] rfl (wanted_none rfl _) (exec_call 14 _ [.tmp 4] _ [c.v] Try.func14 (by kernel_rfl) (by kernel_rfl) rfl (show [a.eval (.tmp 4)] = [c.v] from (by rw [show a.eval (.tmp 4) = c.v from (hD 0 4 (by kernel_rfl))] <;> rfl)) u) (right_is c true u HT hR.out)) ?_
    exact fsteps_nil
  intro gv w1 hV k1
  rw [show dstsOf _ 2 = [4, 5] by kernel_rfl]
  simp only [List.foldl_cons, List.foldl_nil, List.setIfInBounds_toArray, List.set_cons_succ, List.set_cons_zero, List.drop_succ_cons, List.drop_zero]
  rw [show gv 5 = .bool true from hV 1 5 (by kernel_rfl)]
  clear hV
  have HB1 := Lib.hid (HB0.out.kept k1)
  have hgb1 : Hid (g ≤ w1.heap.size) := by show g ≤ _; have := k1.size; have := hgb0.out; omega
  have kw1 := kw0.trans k1
  clear kw0 k1
  go_upto_region 3 with fail
  refine wp_text 3 [.eq (.pointer (some ⟨g, 0, none⟩)), .eq (.int .i64 c.k), .own g [u8 c.k]] rfl (by kernel_rfl) ?_ ?_
  · refine fsteps_cons 1 rfl (fun a u hE hD hk => f_val (o := ⟨some 7, _, _, _, _, _⟩) (.pointer (some ⟨g, 0, none⟩)) rfl (wanted_none rfl _) (exec_fld 28 0 0 (.tmp 1) (g) rfl (hE 1 (.pointer (some ⟨g, 0, none⟩)) (by kernel_rfl) (by kernel_rfl)) (by kernel_rfl)) rfl) ?_
    refine fsteps_cons 2 rfl (fun a u hE hD hk => f_val (o := ⟨some 8, _, _, _, _, _⟩) (.int .i64 c.k) rfl (wanted_none rfl _) (exec_loadi 3 Try.underlying3 (.tmp 7) ⟨g, 0, none⟩ (.int .i64 c.k) rfl (hD 0 7 (by kernel_rfl)) ((HB1.out.kept hk).fld 0 _ rfl)) rfl) ?_
    refine fsteps_cons 3 rfl (fun a u hE hD hk => f_call (o := ⟨some 9, _, _, _, _, _⟩) 31 #[.slice none 0 0, .int .i64 c.k] rfl (wanted_none rfl _) (exec_call 31 _ [.const (.slice none 0 0), .tmp 8] _ [.slice none 0 0, .int .i64 c.k] Try.func31 (by kernel_rfl) (by kernel_rfl) rfl (show [a.eval (.const (.slice none 0 0)), a.eval (.tmp 8)] = [.slice none 0 0, .int .i64 c.k] from (by rw [show a.eval (.tmp 8) = .int .i64 c.k from (hD 1 8 (by kernel_rfl))] <;> rfl)) u) (fu8_gives _ (c.k) g [] u (OwnV.nil _ _) (by have := hgb1.out; have := hk.size; omega) (Nat.le_of_ble_eq_true (by kernel_rfl)))) ?_
    exact fsteps_nil
  intro gv w2 hV k2
  rw [show dstsOf _ 3 = [7, 8, 9] by kernel_rfl]
  simp only [List.foldl_cons, List.foldl_nil, List.setIfInBounds_toArray, List.set_cons_succ, List.set_cons_zero, List.drop_succ_cons, List.drop_zero]
  have hv9 : (.own g [u8 c.k] : Kn).p (gv 9) w2 := hV 2 9 (by kernel_rfl)
  generalize gv 9 = v9 at hv9 ⊢
  clear hV
  have HP2 := Lib.hid hv9
  generalize v9 = v3_2 at HP2 hv9 ⊢
  clear hv9
  have HB2 := Lib.hid (HB1.out.kept k2)
  have hgb2 : Hid (g ≤ w2.heap.size) := by show g ≤ _; have := k2.size; have := hgb1.out; omega
  have kw2 := kw1.trans k2
  clear kw1 k2
  have hc : w2.cell? ⟨g, 0, none⟩ = some (.int .i64 6) := by rw [← hkk.out]; exact HB2.out.fld 0 _ rfl
  go_upto_region 20 with fail
  refine wp_free 11 [.eq (v3_2), .eq (.pointer (some ⟨g, 1, none⟩)), .eq (.int .i64 c.seq), .ints [(c.seq)], .own g ([u8 c.k] ++ w32s [c.seq]), .eq (.pointer (some ⟨g, 3, none⟩)), .eq (.int .i64 c.inst), .own g (([u8 c.k] ++ w32s [c.seq]) ++ [u8 c.inst]), .eq (.pointer (some ⟨g, 11, none⟩)), .eq (.int .i64 c.what), .own g ((([u8 c.k] ++ w32s [c.seq]) ++ [u8 c.inst]) ++ [u8 c.what])] (by kernel_rfl) rfl (by kernel_rfl) ?_ ?_
  · refine fsteps_cons 1 rfl (fun a u hE hD hk => f_val (o := ⟨some 95, _, _, _, _, _⟩) (v3_2) rfl (wanted_none rfl _) (exec_move (.tmp 3) (v3_2) rfl (hE 3 (v3_2) (by kernel_rfl) (by kernel_rfl))) rfl) ?_
    refine fsteps_cons 2 rfl (fun a u hE hD hk => f_val (o := ⟨some 96, _, _, _, _, _⟩) (.pointer (some ⟨g, 1, none⟩)) rfl (wanted_none rfl _) (exec_fld 28 1 1 (.tmp 1) (g) rfl (hE 1 (.pointer (some ⟨g, 0, none⟩)) (by kernel_rfl) (by kernel_rfl)) (by kernel_rfl)) rfl) ?_
    refine fsteps_cons 3 rfl (fun a u hE hD hk => f_val (o := ⟨some 97, _, _, _, _, _⟩) (.int .i64 c.seq) rfl (wanted_none rfl _) (exec_loadi 3 Try.underlying3 (.tmp 96) ⟨g, 1, none⟩ (.int .i64 c.seq) rfl (hD 1 96 (by kernel_rfl)) ((HB2.out.kept hk).fld 1 _ rfl)) rfl) ?_
    refine fsteps_cons 4 rfl (fun a u hE hD hk => f_new (o := ⟨some 98, _, _, _, _, _⟩) (.slice (some ⟨u.heap.size, 0, none⟩) 1 1) _ rfl (wanted_none rfl _) (exec_ints 1 _ [(c.seq)] rfl rfl (by omega) (by omega) (by show [(0, a.eval (.tmp 97))] = [(0, .int .i64 c.seq)]; rw [show a.eval (.tmp 97) = .int .i64 c.seq from (hD 2 97 (by kernel_rfl))])) (ints_new u [(c.seq)] 1 rfl) ((Keep.refl _ u).alloc _)) ?_
    refine fsteps_cons 5 rfl (fun a u hE hD hk => f_call (o := ⟨some 99, _, _, _, _, _⟩) 32 #[v3_2, a.eval (.tmp 98)] rfl (wanted_none rfl _) (exec_call 32 _ [.tmp 95, .tmp 98] _ [v3_2, a.eval (.tmp 98)] Try.func32 (by kernel_rfl) (by kernel_rfl) rfl (show [a.eval (.tmp 95), a.eval (.tmp 98)] = [v3_2, a.eval (.tmp 98)] from (by rw [show a.eval (.tmp 95) = v3_2 from (hD 0 95 (by kernel_rfl))] <;> rfl)) u) (u32s_any _ _ g [u8 c.k] [c.seq] u (HP2.out.kept hk) (hD 3 98 (by kernel_rfl)) (by have := hgb2.out; have := hk.size; omega) (Nat.le_of_ble_eq_true (by kernel_rfl)) (Nat.le_of_ble_eq_true (by kernel_rfl)))) ?_
    refine fsteps_cons 6 rfl (fun a u hE hD hk => f_val (o := ⟨some 100, _, _, _, _, _⟩) (.pointer (some ⟨g, 3, none⟩)) rfl (wanted_none rfl _) (exec_fld 28 3 3 (.tmp 1) (g) rfl (hE 1 (.pointer (some ⟨g, 0, none⟩)) (by kernel_rfl) (by kernel_rfl)) (by kernel_rfl)) rfl) ?_
    refine fsteps_cons 7 rfl (fun a u hE hD hk => f_val (o := ⟨some 101, _, _, _, _, _⟩) (.int .i64 c.inst) rfl (wanted_none rfl _) (exec_loadi 3 Try.underlying3 (.tmp 100) ⟨g, 3, none⟩ (.int .i64 c.inst) rfl (hD 5 100 (by kernel_rfl)) ((HB2.out.kept hk).fld 3 _ rfl)) rfl) ?_
    refine fsteps_cons 8 rfl (fun a u hE hD hk => f_call (o := ⟨some 102, _, _, _, _, _⟩) 31 #[a.eval (.tmp 99), .int .i64 c.inst] rfl (wanted_none rfl _) (exec_call 31 _ [.tmp 99, .tmp 101] _ [a.eval (.tmp 99), .int .i64 c.inst] Try.func31 (by kernel_rfl) (by kernel_rfl) rfl (show [a.eval (.tmp 99), a.eval (.tmp 101)] = [a.eval (.tmp 99), .int .i64 c.inst] from (by rw [show a.eval (.tmp 101) = .int .i64 c.inst from (hD 6 101 (by kernel_rfl))] <;> rfl)) u) (fu8_gives _ (c.inst) g ([u8 c.k] ++ w32s [c.seq]) u (hD 4 99 (by kernel_rfl)) (by have := hgb2.out; have := hk.size; omega) (Nat.le_of_ble_eq_true (by kernel_rfl)))) ?_
    refine fsteps_cons 9 rfl (fun a u hE hD hk => f_val (o := ⟨some 103, _, _, _, _, _⟩) (.pointer (some ⟨g, 11, none⟩)) rfl (wanted_none rfl _) (exec_fld 28 11 11 (.tmp 1) (g) rfl (hE 1 (.pointer (some ⟨g, 0, none⟩)) (by kernel_rfl) (by kernel_rfl)) (by kernel_rfl)) rfl) ?_
    refine fsteps_cons 10 rfl (fun a u hE hD hk => f_val (o := ⟨some 104, _, _, _, _, _⟩) (.int .i64 c.what) rfl (wanted_none rfl _) (exec_loadi 3 Try.underlying3 (.tmp 103) ⟨g, 11, none⟩ (.int .i64 c.what) rfl (hD 8 103 (by kernel_rfl)) ((HB2.out.kept hk).fld 11 _ rfl)) rfl) ?_
    refine fsteps_cons 11 rfl (fun a u hE hD hk => f_call (o := ⟨some 105, _, _, _, _, _⟩) 31 #[a.eval (.tmp 102), .int .i64 c.what] rfl (wanted_none rfl _) (exec_call 31 _ [.tmp 102, .tmp 104] _ [a.eval (.tmp 102), .int .i64 c.what] Try.func31 (by kernel_rfl) (by kernel_rfl) rfl (show [a.eval (.tmp 102), a.eval (.tmp 104)] = [a.eval (.tmp 102), .int .i64 c.what] from (by rw [show a.eval (.tmp 104) = .int .i64 c.what from (hD 9 104 (by kernel_rfl))] <;> rfl)) u) (fu8_gives _ (c.what) g (([u8 c.k] ++ w32s [c.seq]) ++ [u8 c.inst]) u (hD 7 102 (by kernel_rfl)) (by have := hgb2.out; have := hk.size; omega) (Nat.le_of_ble_eq_true (by kernel_rfl)))) ?_
    exact fsteps_nil
  intro gv w3 hV k3
  rw [show dstsOf _ 11 = [95, 96, 97, 98, 99, 100, 101, 102, 103, 104, 105] by kernel_rfl]
  simp only [List.foldl_cons, List.foldl_nil, List.setIfInBounds_toArray, List.set_cons_succ, List.set_cons_zero, List.drop_succ_cons, List.drop_zero]
  have hv105 : (.own g ((([u8 c.k] ++ w32s [c.seq]) ++ [u8 c.inst]) ++ [u8 c.what]) : Kn).p (gv 105) w3 := hV 10 105 (by kernel_rfl)
  generalize gv 105 = v105 at hv105 ⊢
  clear hV
  have HP3 := Lib.hid hv105
  generalize v105 = v3_3 at HP3 hv105 ⊢
  clear hv105
  have HB3 := Lib.hid (HB2.out.kept k3)
  have hgb3 : Hid (g ≤ w3.heap.size) := by show g ≤ _; have := k3.size; have := hgb2.out; omega
  have kw3 := kw2.trans k3
  clear kw2 k3
  go_wp2
  go_ret
  have he : ((([u8 c.k] ++ w32s [c.seq]) ++ [u8 c.inst]) ++ [u8 c.what]) = c.enc := by simp [Cmd.enc, Cmd.body, hkk.out, w32s]
  rw [← he]
  exact ⟨_, rfl, HP3.out.low hgw.out, kw3⟩

set_option maxRecDepth 100000 in
set_option maxHeartbeats 3200000 in
theorem putCmd_9 (c : Cmd) (w : World) (hkk : Hid (c.k = 9)) (HT : Hid (c.tag.length = 32)) (hR : Hid (c.right = true)) : Gives 15 #[c.v] w (.own w.heap.size c.enc) := by
  unfold Gives Cmd.v
  have HB0 : Hid (Blk (w.alloc (.cells c.cells.toArray 28)) w.heap.size 28 c.cells) := Blk.new w _ _
  have kw0 : Kept w (w.alloc (.cells c.cells.toArray 28)) := (Keep.refl _ w).alloc _
  go_enter Try.func15, Try.ntmps15
  go_upto_region 1 with fail
  generalize w.alloc (.cells c.cells.toArray 28) = w0 at HB0 kw0 ⊢
  obtain ⟨g, hg⟩ : ∃ g, g = w.heap.size := ⟨_, rfl⟩
  rw [← hg] at HB0 ⊢
  have hgb0 : Hid (g ≤ w0.heap.size) := by show g ≤ _; have := kw0.size; omega
  have hgw : Hid (w.heap.size ≤ g) := by show _ ≤ g; omega
  clear hg
  refine wp_text 2 [.eq (c.v), .eq (.bool true)] rfl (by kernel_rfl) ?_ ?_
  · refine fsteps_cons 1 rfl (fun a u hE hD hk => f_val (o := ⟨some 4, _, _, _, _, _⟩) (c.v) rfl (wanted_none rfl _) (exec_loadS 28 (.tmp 1) (g) _ c.cells _ rfl (hE 1 (.pointer (some ⟨g, 0, none⟩)) (by kernel_rfl) (by kernel_rfl)) (HB0.out.kept hk) Try.underlying28 (by rw [Cmd.cells_len _ HT.out]; exact cmd_size)) rfl) ?_
    refine fsteps_cons 2 rfl (fun a u hE hD hk => f_call (o := ⟨some 5, _, _, _, _, _⟩) 14 #[c.v] rfl (wanted_none rfl _) (exec_call 14 _ [.tmp 4] _ [c.v] Try.func14 (by kernel_rfl) (by kernel_rfl) rfl (show [a.eval (.tmp 4)] = [c.v] from (by rw [show a.eval (.tmp 4) = c.v from (hD 0 4 (by kernel_rfl))] <;> rfl)) u) (right_is c true u HT hR.out)) ?_
    exact fsteps_nil
  intro gv w1 hV k1
  rw [show dstsOf _ 2 = [4, 5] by kernel_rfl]
  simp only [List.foldl_cons, List.foldl_nil, List.setIfInBounds_toArray, List.set_cons_succ, List.set_cons_zero, List.drop_succ_cons, List.drop_zero]
  rw [show gv 5 = .bool true from hV 1 5 (by kernel_rfl)]
  clear hV
  have HB1 := Lib.hid (HB0.out.kept k1)
  have hgb1 : Hid (g ≤ w1.heap.size) := by show g ≤ _; have := k1.size; have := hgb0.out; omega
  have kw1 := kw0.trans k1
  clear kw0 k1
  go_upto_region 3 with fail
  refine wp_text 3 [.eq (.pointer (some ⟨g, 0, none⟩)), .eq (.int .i64 c.k), .own g [u8 c.k]] rfl (by kernel_rfl) ?_ ?_
  · refine fsteps_cons 1 rfl (fun a u hE hD hk => f_val (o := ⟨some 7, _, _, _, _, _⟩) (.pointer (some ⟨g, 0, none⟩)) rfl (wanted_none rfl _) (exec_fld 28 0 0 (.tmp 1) (g) rfl (hE 1 (.pointer (some ⟨g, 0, none⟩)) (by kernel_rfl) (by kernel_rfl)) (by kernel_rfl)) rfl) ?_
    refine fsteps_cons 2 rfl (fun a u hE hD hk => f_val (o := ⟨some 8, _, _, _, _, _⟩) (.int .i64 c.k) rfl (wanted_none rfl _) (exec_loadi 3 Try.underlying3 (.tmp 7) ⟨g, 0, none⟩ (.int .i64 c.k) rfl (hD 0 7 (by kernel_rfl)) ((HB1.out.kept hk).fld 0 _ rfl)) rfl) ?_
    refine fsteps_cons 3 rfl (fun a u hE hD hk => f_call (o := ⟨some 9, _, _, _, _, _⟩) 31 #[.slice none 0 0, .int .i64 c.k] rfl (wanted_none rfl _) (exec_call 31 _ [.const (.slice none 0 0), .tmp 8] _ [.slice none 0 0, .int .i64 c.k] Try.func31 (by kernel_rfl) (by kernel_rfl) rfl (show [a.eval (.const (.slice none 0 0)), a.eval (.tmp 8)] = [.slice none 0 0, .int .i64 c.k] from (by rw [show a.eval (.tmp 8) = .int .i64 c.k from (hD 1 8 (by kernel_rfl))] <;> rfl)) u) (fu8_gives _ (c.k) g [] u (OwnV.nil _ _) (by have := hgb1.out; have := hk.size; omega) (Nat.le_of_ble_eq_true (by kernel_rfl)))) ?_
    exact fsteps_nil
  intro gv w2 hV k2
  rw [show dstsOf _ 3 = [7, 8, 9] by kernel_rfl]
  simp only [List.foldl_cons, List.foldl_nil, List.setIfInBounds_toArray, List.set_cons_succ, List.set_cons_zero, List.drop_succ_cons, List.drop_zero]
  have hv9 : (.own g [u8 c.k] : Kn).p (gv 9) w2 := hV 2 9 (by kernel_rfl)
  generalize gv 9 = v9 at hv9 ⊢
  clear hV
  have HP2 := Lib.hid hv9
  generalize v9 = v3_2 at HP2 hv9 ⊢
  clear hv9
  have HB2 := Lib.hid (HB1.out.kept k2)
  have hgb2 : Hid (g ≤ w2.heap.size) := by show g ≤ _; have := k2.size; have := hgb1.out; omega
  have kw2 := kw1.trans k2
  clear kw1 k2
  have hc : w2.cell? ⟨g, 0, none⟩ = some (.int .i64 9) := by rw [← hkk.out]; exact HB2.out.fld 0 _ rfl
  go_upto_region 22 with fail
  refine wp_free 14 [.eq (v3_2), .eq (.pointer (some ⟨g, 1, none⟩)), .eq (.int .i64 c.seq), .ints [(c.seq)], .own g ([u8 c.k] ++ w32s [c.seq]), .eq (.pointer (some ⟨g, 11, none⟩)), .eq (.int .i64 c.what), .own g (([u8 c.k] ++ w32s [c.seq]) ++ [u8 c.what]), .eq (.pointer (some ⟨g, 12, none⟩)), .eq (.int .i64 c.fa), .own g ((([u8 c.k] ++ w32s [c.seq]) ++ [u8 c.what]) ++ [u8 c.fa]), .eq (.pointer (some ⟨g, 13, none⟩)), .eq (.int .i64 c.fb), .own g (((([u8 c.k] ++ w32s [c.seq]) ++ [u8 c.what]) ++ [u8 c.fa]) ++ [u8 c.fb])] (by kernel_rfl) rfl (by kernel_rfl) ?_ ?_
  · refine fsteps_cons 1 rfl (fun a u hE hD hk => f_val (o := ⟨some 108, _, _, _, _, _⟩) (v3_2) rfl (wanted_none rfl _) (exec_move (.tmp 3) (v3_2) rfl (hE 3 (v3_2) (by kernel_rfl) (by kernel_rfl))) rfl) ?_
    refine fsteps_cons 2 rfl (fun a u hE hD hk => f_val (o := ⟨some 109, _, _, _, _, _⟩) (.pointer (some ⟨g, 1, none⟩)) rfl (wanted_none rfl _) (exec_fld 28 1 1 (.tmp 1) (g) rfl (hE 1 (.pointer (some ⟨g, 0, none⟩)) (by kernel_rfl) (by kernel_rfl)) (by kernel_rfl)) rfl) ?_
    refine fsteps_cons 3 rfl (fun a u hE hD hk => f_val (o := ⟨some 110, _, _, _, _, _⟩) (.int .i64 c.seq) rfl (wanted_none rfl _) (exec_loadi 3 Try.underlying3 (.tmp 109) ⟨g, 1, none⟩ (.int .i64 c.seq) rfl (hD 1 109 (by kernel_rfl)) ((HB2.out.kept hk).fld 1 _ rfl)) rfl) ?_
    refine fsteps_cons 4 rfl (fun a u hE hD hk => f_new (o := ⟨some 111, _, _, _, _, _⟩) (.slice (some ⟨u.heap.size, 0, none⟩) 1 1) _ rfl (wanted_none rfl _) (exec_ints 1 _ [(c.seq)] rfl rfl (by omega) (by omega) (by show [(0, a.eval (.tmp 110))] = [(0, .int .i64 c.seq)]; rw [show a.eval (.tmp 110) = .int .i64 c.seq from (hD 2 110 (by kernel_rfl))])) (ints_new u [(c.seq)] 1 rfl) ((Keep.refl _ u).alloc _)) ?_
    refine fsteps_cons 5 rfl (fun a u hE hD hk => f_call (o := ⟨some 112, _, _, _, _, _⟩) 32 #[v3_2, a.eval (.tmp 111)] rfl (wanted_none rfl _) (exec_call 32 _ [.tmp 108, .tmp 111] _ [v3_2, a.eval (.tmp 111)] Try.func32 (by kernel_rfl) (by kernel_rfl) rfl (show [a.eval (.tmp 108), a.eval (.tmp 111)] = [v3_2, a.eval (.tmp 111)] from (by rw [show a.eval (.tmp 108) = v3_2 from (hD 0 108 (by kernel_rfl))] <;> rfl)) u) (u32s_any _ _ g [u8 c.k] [c.seq] u (HP2.out.kept hk) (hD 3 111 (by kernel_rfl)) (by have := hgb2.out; have := hk.size; omega) (Nat.le_of_ble_eq_true (by kernel_rfl)) (Nat.le_of_ble_eq_true (by kernel_rfl)))) ?_
    refine fsteps_cons 6 rfl (fun a u hE hD hk => f_val (o := ⟨some 113, _, _, _, _, _⟩) (.pointer (some ⟨g, 11, none⟩)) rfl (wanted_none rfl _) (exec_fld 28 11 11 (.tmp 1) (g) rfl (hE 1 (.pointer (some ⟨g, 0, none⟩)) (by kernel_rfl) (by kernel_rfl)) (by kernel_rfl)) rfl) ?_
    refine fsteps_cons 7 rfl (fun a u hE hD hk => f_val (o := ⟨some 114, _, _, _, _, _⟩) (.int .i64 c.what) rfl (wanted_none rfl _) (exec_loadi 3 Try.underlying3 (.tmp 113) ⟨g, 11, none⟩ (.int .i64 c.what) rfl (hD 5 113 (by kernel_rfl)) ((HB2.out.kept hk).fld 11 _ rfl)) rfl) ?_
    refine fsteps_cons 8 rfl (fun a u hE hD hk => f_call (o := ⟨some 115, _, _, _, _, _⟩) 31 #[a.eval (.tmp 112), .int .i64 c.what] rfl (wanted_none rfl _) (exec_call 31 _ [.tmp 112, .tmp 114] _ [a.eval (.tmp 112), .int .i64 c.what] Try.func31 (by kernel_rfl) (by kernel_rfl) rfl (show [a.eval (.tmp 112), a.eval (.tmp 114)] = [a.eval (.tmp 112), .int .i64 c.what] from (by rw [show a.eval (.tmp 114) = .int .i64 c.what from (hD 6 114 (by kernel_rfl))] <;> rfl)) u) (fu8_gives _ (c.what) g ([u8 c.k] ++ w32s [c.seq]) u (hD 4 112 (by kernel_rfl)) (by have := hgb2.out; have := hk.size; omega) (Nat.le_of_ble_eq_true (by kernel_rfl)))) ?_
    refine fsteps_cons 9 rfl (fun a u hE hD hk => f_val (o := ⟨some 116, _, _, _, _, _⟩) (.pointer (some ⟨g, 12, none⟩)) rfl (wanted_none rfl _) (exec_fld 28 12 12 (.tmp 1) (g) rfl (hE 1 (.pointer (some ⟨g, 0, none⟩)) (by kernel_rfl) (by kernel_rfl)) (by kernel_rfl)) rfl) ?_
    refine fsteps_cons 10 rfl (fun a u hE hD hk => f_val (o := ⟨some 117, _, _, _, _, _⟩) (.int .i64 c.fa) rfl (wanted_none rfl _) (exec_loadi 3 Try.underlying3 (.tmp 116) ⟨g, 12, none⟩ (.int .i64 c.fa) rfl (hD 8 116 (by kernel_rfl)) ((HB2.out.kept hk).fld 12 _ rfl)) rfl) ?_
    refine fsteps_cons 11 rfl (fun a u hE hD hk => f_call (o := ⟨some 118, _, _, _, _, _⟩) 31 #[a.eval (.tmp 115), .int .i64 c.fa] rfl (wanted_none rfl _) (exec_call 31 _ [.tmp 115, .tmp 117] _ [a.eval (.tmp 115), .int .i64 c.fa] Try.func31 (by kernel_rfl) (by kernel_rfl) rfl (show [a.eval (.tmp 115), a.eval (.tmp 117)] = [a.eval (.tmp 115), .int .i64 c.fa] from (by rw [show a.eval (.tmp 117) = .int .i64 c.fa from (hD 9 117 (by kernel_rfl))] <;> rfl)) u) (fu8_gives _ (c.fa) g (([u8 c.k] ++ w32s [c.seq]) ++ [u8 c.what]) u (hD 7 115 (by kernel_rfl)) (by have := hgb2.out; have := hk.size; omega) (Nat.le_of_ble_eq_true (by kernel_rfl)))) ?_
    refine fsteps_cons 12 rfl (fun a u hE hD hk => f_val (o := ⟨some 119, _, _, _, _, _⟩) (.pointer (some ⟨g, 13, none⟩)) rfl (wanted_none rfl _) (exec_fld 28 13 13 (.tmp 1) (g) rfl (hE 1 (.pointer (some ⟨g, 0, none⟩)) (by kernel_rfl) (by kernel_rfl)) (by kernel_rfl)) rfl) ?_
    refine fsteps_cons 13 rfl (fun a u hE hD hk => f_val (o := ⟨some 120, _, _, _, _, _⟩) (.int .i64 c.fb) rfl (wanted_none rfl _) (exec_loadi 3 Try.underlying3 (.tmp 119) ⟨g, 13, none⟩ (.int .i64 c.fb) rfl (hD 11 119 (by kernel_rfl)) ((HB2.out.kept hk).fld 13 _ rfl)) rfl) ?_
    refine fsteps_cons 14 rfl (fun a u hE hD hk => f_call (o := ⟨some 121, _, _, _, _, _⟩) 31 #[a.eval (.tmp 118), .int .i64 c.fb] rfl (wanted_none rfl _) (exec_call 31 _ [.tmp 118, .tmp 120] _ [a.eval (.tmp 118), .int .i64 c.fb] Try.func31 (by kernel_rfl) (by kernel_rfl) rfl (show [a.eval (.tmp 118), a.eval (.tmp 120)] = [a.eval (.tmp 118), .int .i64 c.fb] from (by rw [show a.eval (.tmp 120) = .int .i64 c.fb from (hD 12 120 (by kernel_rfl))] <;> rfl)) u) (fu8_gives _ (c.fb) g ((([u8 c.k] ++ w32s [c.seq]) ++ [u8 c.what]) ++ [u8 c.fa]) u (hD 10 118 (by kernel_rfl)) (by have := hgb2.out; have := hk.size; omega) (Nat.le_of_ble_eq_true (by kernel_rfl)))) ?_
    exact fsteps_nil
  intro gv w3 hV k3
  rw [show dstsOf _ 14 = [108, 109, 110, 111, 112, 113, 114, 115, 116, 117, 118, 119, 120, 121] by kernel_rfl]
  simp only [List.foldl_cons, List.foldl_nil, List.setIfInBounds_toArray, List.set_cons_succ, List.set_cons_zero, List.drop_succ_cons, List.drop_zero]
  have hv121 : (.own g (((([u8 c.k] ++ w32s [c.seq]) ++ [u8 c.what]) ++ [u8 c.fa]) ++ [u8 c.fb]) : Kn).p (gv 121) w3 := hV 13 121 (by kernel_rfl)
  generalize gv 121 = v121 at hv121 ⊢
  clear hV
  have HP3 := Lib.hid hv121
  generalize v121 = v3_3 at HP3 hv121 ⊢
  clear hv121
  have HB3 := Lib.hid (HB2.out.kept k3)
  have hgb3 : Hid (g ≤ w3.heap.size) := by show g ≤ _; have := k3.size; have := hgb2.out; omega
  have kw3 := kw2.trans k3
  clear kw2 k3
  go_wp2
  go_ret
  have he : (((([u8 c.k] ++ w32s [c.seq]) ++ [u8 c.what]) ++ [u8 c.fa]) ++ [u8 c.fb]) = c.enc := by simp [Cmd.enc, Cmd.body, hkk.out, w32s]
  rw [← he]
  exact ⟨_, rfl, HP3.out.low hgw.out, kw3⟩

set_option maxRecDepth 100000 in
set_option maxHeartbeats 3200000 in
theorem putCmd_d (c : Cmd) (w : World) (d1 : ((c.k : Int) == 1) = false) (d2 : ((c.k : Int) == 2) = false) (d3 : ((c.k : Int) == 3) = false) (d4 : ((c.k : Int) == 4) = false) (d5 : ((c.k : Int) == 5) = false) (d6 : ((c.k : Int) == 6) = false) (d9 : ((c.k : Int) == 9) = false) (HT : Hid (c.tag.length = 32)) (hR : Hid (c.right = true)) : Gives 15 #[c.v] w (.own w.heap.size c.enc) := by
  unfold Gives Cmd.v
  have HB0 : Hid (Blk (w.alloc (.cells c.cells.toArray 28)) w.heap.size 28 c.cells) := Blk.new w _ _
  have kw0 : Kept w (w.alloc (.cells c.cells.toArray 28)) := (Keep.refl _ w).alloc _
  go_enter Try.func15, Try.ntmps15
  go_upto_region 1 with fail
  generalize w.alloc (.cells c.cells.toArray 28) = w0 at HB0 kw0 ⊢
  obtain ⟨g, hg⟩ : ∃ g, g = w.heap.size := ⟨_, rfl⟩
  rw [← hg] at HB0 ⊢
  have hgb0 : Hid (g ≤ w0.heap.size) := by show g ≤ _; have := kw0.size; omega
  have hgw : Hid (w.heap.size ≤ g) := by show _ ≤ g; omega
  clear hg
  refine wp_text 2 [.eq (c.v), .eq (.bool true)] rfl (by kernel_rfl) ?_ ?_
  · refine fsteps_cons 1 rfl (fun a u hE hD hk => f_val (o := ⟨some 4, _, _, _, _, _⟩) (c.v) rfl (wanted_none rfl _) (exec_loadS 28 (.tmp 1) (g) _ c.cells _ rfl (hE 1 (.pointer (some ⟨g, 0, none⟩)) (by kernel_rfl) (by kernel_rfl)) (HB0.out.kept hk) Try.underlying28 (by rw [Cmd.cells_len _ HT.out]; exact cmd_size)) rfl) ?_
    refine fsteps_cons 2 rfl (fun a u hE hD hk => f_call (o := ⟨some 5, _, _, _, _, _⟩) 14 #[c.v] rfl (wanted_none rfl _) (exec_call 14 _ [.tmp 4] _ [c.v] Try.func14 (by kernel_rfl) (by kernel_rfl) rfl (show [a.eval (.tmp 4)] = [c.v] from (by rw [show a.eval (.tmp 4) = c.v from (hD 0 4 (by kernel_rfl))] <;> rfl)) u) (right_is c true u HT hR.out)) ?_
    exact fsteps_nil
  intro gv w1 hV k1
  rw [show dstsOf _ 2 = [4, 5] by kernel_rfl]
  simp only [List.foldl_cons, List.foldl_nil, List.setIfInBounds_toArray, List.set_cons_succ, List.set_cons_zero, List.drop_succ_cons, List.drop_zero]
  rw [show gv 5 = .bool true from hV 1 5 (by kernel_rfl)]
  clear hV
  have HB1 := Lib.hid (HB0.out.kept k1)
  have hgb1 : Hid (g ≤ w1.heap.size) := by show g ≤ _; have := k1.size; have := hgb0.out; omega
  have kw1 := kw0.trans k1
  clear kw0 k1
  go_upto_region 3 with fail
  refine wp_text 3 [.eq (.pointer (some ⟨g, 0, none⟩)), .eq (.int .i64 c.k), .own g [u8 c.k]] rfl (by kernel_rfl) ?_ ?_
  · refine fsteps_cons 1 rfl (fun a u hE hD hk => f_val (o := ⟨some 7, _, _, _, _, _⟩) (.pointer (some ⟨g, 0, none⟩)) rfl (wanted_none rfl _) (exec_fld 28 0 0 (.tmp 1) (g) rfl (hE 1 (.pointer (some ⟨g, 0, none⟩)) (by kernel_rfl) (by kernel_rfl)) (by kernel_rfl)) rfl) ?_
    refine fsteps_cons 2 rfl (fun a u hE hD hk => f_val (o := ⟨some 8, _, _, _, _, _⟩) (.int .i64 c.k) rfl (wanted_none rfl _) (exec_loadi 3 Try.underlying3 (.tmp 7) ⟨g, 0, none⟩ (.int .i64 c.k) rfl (hD 0 7 (by kernel_rfl)) ((HB1.out.kept hk).fld 0 _ rfl)) rfl) ?_
    refine fsteps_cons 3 rfl (fun a u hE hD hk => f_call (o := ⟨some 9, _, _, _, _, _⟩) 31 #[.slice none 0 0, .int .i64 c.k] rfl (wanted_none rfl _) (exec_call 31 _ [.const (.slice none 0 0), .tmp 8] _ [.slice none 0 0, .int .i64 c.k] Try.func31 (by kernel_rfl) (by kernel_rfl) rfl (show [a.eval (.const (.slice none 0 0)), a.eval (.tmp 8)] = [.slice none 0 0, .int .i64 c.k] from (by rw [show a.eval (.tmp 8) = .int .i64 c.k from (hD 1 8 (by kernel_rfl))] <;> rfl)) u) (fu8_gives _ (c.k) g [] u (OwnV.nil _ _) (by have := hgb1.out; have := hk.size; omega) (Nat.le_of_ble_eq_true (by kernel_rfl)))) ?_
    exact fsteps_nil
  intro gv w2 hV k2
  rw [show dstsOf _ 3 = [7, 8, 9] by kernel_rfl]
  simp only [List.foldl_cons, List.foldl_nil, List.setIfInBounds_toArray, List.set_cons_succ, List.set_cons_zero, List.drop_succ_cons, List.drop_zero]
  have hv9 : (.own g [u8 c.k] : Kn).p (gv 9) w2 := hV 2 9 (by kernel_rfl)
  generalize gv 9 = v9 at hv9 ⊢
  clear hV
  have HP2 := Lib.hid hv9
  generalize v9 = v3_2 at HP2 hv9 ⊢
  clear hv9
  have HB2 := Lib.hid (HB1.out.kept k2)
  have hgb2 : Hid (g ≤ w2.heap.size) := by show g ≤ _; have := k2.size; have := hgb1.out; omega
  have kw2 := kw1.trans k2
  clear kw1 k2
  have hc : w2.cell? ⟨g, 0, none⟩ = some (.int .i64 c.k) := HB2.out.fld 0 _ rfl
  go_wp2
  go_ret
  have E1 : c.k ≠ 1 := by simpa using d1
  have E2 : c.k ≠ 2 := by simpa using d2
  have E3 : c.k ≠ 3 := by simpa using d3
  have E4 : c.k ≠ 4 := by simpa using d4
  have E5 : c.k ≠ 5 := by simpa using d5
  have E6 : c.k ≠ 6 := by simpa using d6
  have E9 : c.k ≠ 9 := by simpa using d9
  have he : [u8 c.k] = c.enc := by simp [Cmd.enc, Cmd.body, E1, E2, E3, E4, E5, E6, E9]
  rw [← he]
  exact ⟨_, rfl, HP2.out.low hgw.out, kw2⟩

theorem putCmd_any (c : Cmd) (w : World) (HT : Hid (c.tag.length = 32)) (hR : Hid (c.right = true)) : Gives 15 #[c.v] w (.own w.heap.size c.enc) := by
  by_cases h1 : c.k = 1
  · exact putCmd_1 c w h1 HT hR
  by_cases h2 : c.k = 2
  · exact putCmd_2 c w h2 HT hR
  by_cases h3 : c.k = 3
  · exact putCmd_3 c w h3 HT hR
  by_cases h4 : c.k = 4
  · exact putCmd_4 c w h4 HT hR
  by_cases h5 : c.k = 5
  · exact putCmd_5 c w h5 HT hR
  by_cases h6 : c.k = 6
  · exact putCmd_6 c w h6 HT hR
  by_cases h9 : c.k = 9
  · exact putCmd_9 c w h9 HT hR
  exact putCmd_d c w (by simpa using h1) (by simpa using h2) (by simpa using h3) (by simpa using h4) (by simpa using h5) (by simpa using h6) (by simpa using h9) HT hR
end Go.Proofs.Ytdmeiffofmagjaa
