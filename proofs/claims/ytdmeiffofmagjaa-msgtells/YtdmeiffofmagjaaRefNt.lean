/-
  The contract of the document's PutNote: a note as bytes. Condition: its sum has 32 bytes.
-/
import Derived.Test.YtdmeiffofmagjaaMsgSum
namespace Go.Proofs.Ytdmeiffofmagjaa
open Go.RowKit
set_option linter.unusedVariables false

set_option maxRecDepth 100000 in
set_option maxHeartbeats 3200000 in
theorem putNote_1 (c : Nte) (w : World) (hkk : Hid (c.k = 1)) (HT : Hid (c.sum.length = 32)) : Gives 16 #[c.v] w (.own w.heap.size c.enc) := by
  unfold Gives Nte.v
  have HB0 : Hid (Blk (w.alloc (.cells c.cells.toArray 32)) w.heap.size 32 c.cells) := Blk.new w _ _
  have kw0 : Kept w (w.alloc (.cells c.cells.toArray 32)) := (Keep.refl _ w).alloc _
  go_enter Try.func16, Try.ntmps16
  go_upto_region 1 with fail
  generalize w.alloc (.cells c.cells.toArray 32) = w0 at HB0 kw0 ⊢
  obtain ⟨g, hg⟩ : ∃ g, g = w.heap.size := ⟨_, rfl⟩
  rw [← hg] at HB0 ⊢
  have hgb0 : Hid (g ≤ w0.heap.size) := by show g ≤ _; have := kw0.size; omega
  have hgw : Hid (w.heap.size ≤ g) := by show _ ≤ g; omega
  clear hg
  refine wp_text 3 [.eq (.pointer (some ⟨g, 0, none⟩)), .eq (.int .i64 c.k), .own g [u8 c.k]] rfl (by kernel_rfl) ?_ ?_
  · refine fsteps_cons 1 rfl (fun a u hE hD hk => f_val (o := ⟨some 4, _, _, _, _, _⟩) (.pointer (some ⟨g, 0, none⟩)) rfl (wanted_none rfl _) (exec_fld 32 0 0 (.tmp 1) (g) rfl (hE 1 (.pointer (some ⟨g, 0, none⟩)) (by kernel_rfl) (by kernel_rfl)) (by kernel_rfl)) rfl) ?_
    refine fsteps_cons 2 rfl (fun a u hE hD hk => f_val (o := ⟨some 5, _, _, _, _, _⟩) (.int .i64 c.k) rfl (wanted_none rfl _) (exec_loadi 3 Try.underlying3 (.tmp 4) ⟨g, 0, none⟩ (.int .i64 c.k) rfl (hD 0 4 (by kernel_rfl)) ((HB0.out.kept hk).fld 0 _ rfl)) rfl) ?_
    refine fsteps_cons 3 rfl (fun a u hE hD hk => f_call (o := ⟨some 6, _, _, _, _, _⟩) 31 #[.slice none 0 0, .int .i64 c.k] rfl (wanted_none rfl _) (exec_call 31 _ [.const (.slice none 0 0), .tmp 5] _ [.slice none 0 0, .int .i64 c.k] Try.func31 (by kernel_rfl) (by kernel_rfl) rfl (show [a.eval (.const (.slice none 0 0)), a.eval (.tmp 5)] = [.slice none 0 0, .int .i64 c.k] from (by rw [show a.eval (.tmp 5) = .int .i64 c.k from (hD 1 5 (by kernel_rfl))] <;> rfl)) u) (fu8_gives _ (c.k) g [] u (OwnV.nil _ _) (by have := hgb0.out; have := hk.size; omega) (Nat.le_of_ble_eq_true (by kernel_rfl)))) ?_
    exact fsteps_nil
  intro gv w1 hV k1
  rw [show dstsOf _ 3 = [4, 5, 6] by kernel_rfl]
  simp only [List.foldl_cons, List.foldl_nil, List.setIfInBounds_toArray, List.set_cons_succ, List.set_cons_zero, List.drop_succ_cons, List.drop_zero]
  have hv6 : (.own g [u8 c.k] : Kn).p (gv 6) w1 := hV 2 6 (by kernel_rfl)
  generalize gv 6 = v6 at hv6 ⊢
  clear hV
  have HP1 := Lib.hid hv6
  generalize v6 = v3_1 at HP1 hv6 ⊢
  clear hv6
  have HB1 := Lib.hid (HB0.out.kept k1)
  have hgb1 : Hid (g ≤ w1.heap.size) := by show g ≤ _; have := k1.size; have := hgb0.out; omega
  have kw1 := kw0.trans k1
  clear kw0 k1
  have hc : w1.cell? ⟨g, 0, none⟩ = some (.int .i64 1) := by rw [← hkk.out]; exact HB1.out.fld 0 _ rfl
  go_upto_region 4 with fail
  refine wp_text 3 [.eq (v3_1), .eq (.pointer (some ⟨g, 10, none⟩)), .eq (.slice (some ⟨g, 10, none⟩) 32 32)] rfl (by kernel_rfl) ?_ ?_
  · refine fsteps_cons 1 rfl (fun a u hE hD hk => f_val (o := ⟨some 11, _, _, _, _, _⟩) (v3_1) rfl (wanted_none rfl _) (exec_move (.tmp 3) (v3_1) rfl (hE 3 (v3_1) (by kernel_rfl) (by kernel_rfl))) rfl) ?_
    refine fsteps_cons 2 rfl (fun a u hE hD hk => f_val (o := ⟨some 12, _, _, _, _, _⟩) (.pointer (some ⟨g, 10, none⟩)) rfl (wanted_none rfl _) (exec_fld 32 10 10 (.tmp 1) (g) rfl (hE 1 (.pointer (some ⟨g, 0, none⟩)) (by kernel_rfl) (by kernel_rfl)) (by kernel_rfl)) rfl) ?_
    refine fsteps_cons 3 rfl (fun a u hE hD hk => f_val (o := ⟨some 13, _, _, _, _, _⟩) (.slice (some ⟨g, 10, none⟩) 32 32) rfl (wanted_none rfl _) (exec_sliceT (.tmp 12) g 10 rfl (hD 1 12 (by kernel_rfl))) rfl) ?_
    exact fsteps_nil
  intro gv w2 hV k2
  rw [show dstsOf _ 3 = [11, 12, 13] by kernel_rfl]
  simp only [List.foldl_cons, List.foldl_nil, List.setIfInBounds_toArray, List.set_cons_succ, List.set_cons_zero, List.drop_succ_cons, List.drop_zero]
  rw [show gv 11 = v3_1 from hV 0 11 (by kernel_rfl)]
  rw [show gv 13 = .slice (some ⟨g, 10, none⟩) 32 32 from hV 2 13 (by kernel_rfl)]
  clear hV
  have hgb2 : g ≤ w2.heap.size := by have := k2.size; have := hgb1.out; omega
  obtain ⟨A3, n3, c3, e3, hA3⟩ := HP1.out.kept k2
  subst e3
  have hn3 : n3 = 1 := by have h := hA3.len; simpa using h.symm
  subst hn3
  have HA3 := Lib.hid hA3
  clear hA3 HP1
  have HR3 : Hid (R8 w2 (some ⟨g, 10, none⟩) c.sum) := range_r8 ((HB1.out.kept k2).tagAt 10 rfl)
  go_wp2_with (at_builtin; refine wpList_wanted rfl fun K hK' => op_append_own8 _ 23 Try.underlying23 (.tmp 11) (.tmp 13) rfl g 1 c3 A3 [u8 c.k] rfl HA3.out hgb2 ⟨g, 10, none⟩ 32 32 c.sum rfl HT.out HR3.out (by omega) ?_)
  intro w9 A9 c9 ho9 hk9
  refine hK' _ _ ?_
  have kw9 : Kept w w9 := Keep.trans (kw1.trans k2) hk9 (fun i hi h => by have := hgw.out; omega)
  go_wp2
  go_ret
  have he : [u8 c.k] ++ c.sum = c.enc := by simp [Nte.enc, hkk.out]
  rw [← he]
  exact ⟨_, rfl, OwnV.low ⟨A9, _, c9, rfl, ho9⟩ hgw.out, kw9⟩

set_option maxRecDepth 100000 in
set_option maxHeartbeats 3200000 in
theorem putNote_2 (c : Nte) (w : World) (hkk : Hid (c.k = 2)) (HT : Hid (c.sum.length = 32)) : Gives 16 #[c.v] w (.own w.heap.size c.enc) := by
  unfold Gives Nte.v
  have HB0 : Hid (Blk (w.alloc (.cells c.cells.toArray 32)) w.heap.size 32 c.cells) := Blk.new w _ _
  have kw0 : Kept w (w.alloc (.cells c.cells.toArray 32)) := (Keep.refl _ w).alloc _
  go_enter Try.func16, Try.ntmps16
  go_upto_region 1 with fail
  generalize w.alloc (.cells c.cells.toArray 32) = w0 at HB0 kw0 ⊢
  obtain ⟨g, hg⟩ : ∃ g, g = w.heap.size := ⟨_, rfl⟩
  rw [← hg] at HB0 ⊢
  have hgb0 : Hid (g ≤ w0.heap.size) := by show g ≤ _; have := kw0.size; omega
  have hgw : Hid (w.heap.size ≤ g) := by show _ ≤ g; omega
  clear hg
  refine wp_text 3 [.eq (.pointer (some ⟨g, 0, none⟩)), .eq (.int .i64 c.k), .own g [u8 c.k]] rfl (by kernel_rfl) ?_ ?_
  · refine fsteps_cons 1 rfl (fun a u hE hD hk => f_val (o := ⟨some 4, _, _, _, _, _⟩) (.pointer (some ⟨g, 0, none⟩)) rfl (wanted_none rfl _) (exec_fld 32 0 0 (.tmp 1) (g) rfl (hE 1 (.pointer (some ⟨g, 0, none⟩)) (by kernel_rfl) (by kernel_rfl)) (by kernel_rfl)) rfl) ?_
    refine fsteps_cons 2 rfl (fun a u hE hD hk => f_val (o := ⟨some 5, _, _, _, _, _⟩) (.int .i64 c.k) rfl (wanted_none rfl _) (exec_loadi 3 Try.underlying3 (.tmp 4) ⟨g, 0, none⟩ (.int .i64 c.k) rfl (hD 0 4 (by kernel_rfl)) ((HB0.out.kept hk).fld 0 _ rfl)) rfl) ?_
    refine fsteps_cons 3 rfl (fun a u hE hD hk => f_call (o := ⟨some 6, _, _, _, _, _⟩) 31 #[.slice none 0 0, .int .i64 c.k] rfl (wanted_none rfl _) (exec_call 31 _ [.const (.slice none 0 0), .tmp 5] _ [.slice none 0 0, .int .i64 c.k] Try.func31 (by kernel_rfl) (by kernel_rfl) rfl (show [a.eval (.const (.slice none 0 0)), a.eval (.tmp 5)] = [.slice none 0 0, .int .i64 c.k] from (by rw [show a.eval (.tmp 5) = .int .i64 c.k from (hD 1 5 (by kernel_rfl))] <;> rfl)) u) (fu8_gives _ (c.k) g [] u (OwnV.nil _ _) (by have := hgb0.out; have := hk.size; omega) (Nat.le_of_ble_eq_true (by kernel_rfl)))) ?_
    exact fsteps_nil
  intro gv w1 hV k1
  rw [show dstsOf _ 3 = [4, 5, 6] by kernel_rfl]
  simp only [List.foldl_cons, List.foldl_nil, List.setIfInBounds_toArray, List.set_cons_succ, List.set_cons_zero, List.drop_succ_cons, List.drop_zero]
  have hv6 : (.own g [u8 c.k] : Kn).p (gv 6) w1 := hV 2 6 (by kernel_rfl)
  generalize gv 6 = v6 at hv6 ⊢
  clear hV
  have HP1 := Lib.hid hv6
  generalize v6 = v3_1 at HP1 hv6 ⊢
  clear hv6
  have HB1 := Lib.hid (HB0.out.kept k1)
  have hgb1 : Hid (g ≤ w1.heap.size) := by show g ≤ _; have := k1.size; have := hgb0.out; omega
  have kw1 := kw0.trans k1
  clear kw0 k1
  have hc : w1.cell? ⟨g, 0, none⟩ = some (.int .i64 2) := by rw [← hkk.out]; exact HB1.out.fld 0 _ rfl
  go_wp2
  go_ret
  have he : [u8 c.k] = c.enc := by simp [Nte.enc, hkk.out]
  rw [← he]
  exact ⟨_, rfl, HP1.out.low hgw.out, kw1⟩

set_option maxRecDepth 100000 in
set_option maxHeartbeats 3200000 in
theorem putNote_3 (c : Nte) (w : World) (hkk : Hid (c.k = 3)) (HT : Hid (c.sum.length = 32)) : Gives 16 #[c.v] w (.own w.heap.size c.enc) := by
  unfold Gives Nte.v
  have HB0 : Hid (Blk (w.alloc (.cells c.cells.toArray 32)) w.heap.size 32 c.cells) := Blk.new w _ _
  have kw0 : Kept w (w.alloc (.cells c.cells.toArray 32)) := (Keep.refl _ w).alloc _
  go_enter Try.func16, Try.ntmps16
  go_upto_region 1 with fail
  generalize w.alloc (.cells c.cells.toArray 32) = w0 at HB0 kw0 ⊢
  obtain ⟨g, hg⟩ : ∃ g, g = w.heap.size := ⟨_, rfl⟩
  rw [← hg] at HB0 ⊢
  have hgb0 : Hid (g ≤ w0.heap.size) := by show g ≤ _; have := kw0.size; omega
  have hgw : Hid (w.heap.size ≤ g) := by show _ ≤ g; omega
  clear hg
  refine wp_text 3 [.eq (.pointer (some ⟨g, 0, none⟩)), .eq (.int .i64 c.k), .own g [u8 c.k]] rfl (by kernel_rfl) ?_ ?_
  · refine fsteps_cons 1 rfl (fun a u hE hD hk => f_val (o := ⟨some 4, _, _, _, _, _⟩) (.pointer (some ⟨g, 0, none⟩)) rfl (wanted_none rfl _) (exec_fld 32 0 0 (.tmp 1) (g) rfl (hE 1 (.pointer (some ⟨g, 0, none⟩)) (by kernel_rfl) (by kernel_rfl)) (by kernel_rfl)) rfl) ?_
    refine fsteps_cons 2 rfl (fun a u hE hD hk => f_val (o := ⟨some 5, _, _, _, _, _⟩) (.int .i64 c.k) rfl (wanted_none rfl _) (exec_loadi 3 Try.underlying3 (.tmp 4) ⟨g, 0, none⟩ (.int .i64 c.k) rfl (hD 0 4 (by kernel_rfl)) ((HB0.out.kept hk).fld 0 _ rfl)) rfl) ?_
    refine fsteps_cons 3 rfl (fun a u hE hD hk => f_call (o := ⟨some 6, _, _, _, _, _⟩) 31 #[.slice none 0 0, .int .i64 c.k] rfl (wanted_none rfl _) (exec_call 31 _ [.const (.slice none 0 0), .tmp 5] _ [.slice none 0 0, .int .i64 c.k] Try.func31 (by kernel_rfl) (by kernel_rfl) rfl (show [a.eval (.const (.slice none 0 0)), a.eval (.tmp 5)] = [.slice none 0 0, .int .i64 c.k] from (by rw [show a.eval (.tmp 5) = .int .i64 c.k from (hD 1 5 (by kernel_rfl))] <;> rfl)) u) (fu8_gives _ (c.k) g [] u (OwnV.nil _ _) (by have := hgb0.out; have := hk.size; omega) (Nat.le_of_ble_eq_true (by kernel_rfl)))) ?_
    exact fsteps_nil
  intro gv w1 hV k1
  rw [show dstsOf _ 3 = [4, 5, 6] by kernel_rfl]
  simp only [List.foldl_cons, List.foldl_nil, List.setIfInBounds_toArray, List.set_cons_succ, List.set_cons_zero, List.drop_succ_cons, List.drop_zero]
  have hv6 : (.own g [u8 c.k] : Kn).p (gv 6) w1 := hV 2 6 (by kernel_rfl)
  generalize gv 6 = v6 at hv6 ⊢
  clear hV
  have HP1 := Lib.hid hv6
  generalize v6 = v3_1 at HP1 hv6 ⊢
  clear hv6
  have HB1 := Lib.hid (HB0.out.kept k1)
  have hgb1 : Hid (g ≤ w1.heap.size) := by show g ≤ _; have := k1.size; have := hgb0.out; omega
  have kw1 := kw0.trans k1
  clear kw0 k1
  have hc : w1.cell? ⟨g, 0, none⟩ = some (.int .i64 3) := by rw [← hkk.out]; exact HB1.out.fld 0 _ rfl
  go_upto_region 9 with fail
  refine wp_text 5 [.eq (v3_1), .eq (.pointer (some ⟨g, 2, none⟩)), .eq (.int .i64 c.seq), .ints [(c.seq)], .own g ([u8 c.k] ++ w32s [c.seq])] rfl (by kernel_rfl) ?_ ?_
  · refine fsteps_cons 1 rfl (fun a u hE hD hk => f_val (o := ⟨some 21, _, _, _, _, _⟩) (v3_1) rfl (wanted_none rfl _) (exec_move (.tmp 3) (v3_1) rfl (hE 3 (v3_1) (by kernel_rfl) (by kernel_rfl))) rfl) ?_
    refine fsteps_cons 2 rfl (fun a u hE hD hk => f_val (o := ⟨some 22, _, _, _, _, _⟩) (.pointer (some ⟨g, 2, none⟩)) rfl (wanted_none rfl _) (exec_fld 32 2 2 (.tmp 1) (g) rfl (hE 1 (.pointer (some ⟨g, 0, none⟩)) (by kernel_rfl) (by kernel_rfl)) (by kernel_rfl)) rfl) ?_
    refine fsteps_cons 3 rfl (fun a u hE hD hk => f_val (o := ⟨some 23, _, _, _, _, _⟩) (.int .i64 c.seq) rfl (wanted_none rfl _) (exec_loadi 3 Try.underlying3 (.tmp 22) ⟨g, 2, none⟩ (.int .i64 c.seq) rfl (hD 1 22 (by kernel_rfl)) ((HB1.out.kept hk).fld 2 _ rfl)) rfl) ?_
    refine fsteps_cons 4 rfl (fun a u hE hD hk => f_new (o := ⟨some 24, _, _, _, _, _⟩) (.slice (some ⟨u.heap.size, 0, none⟩) 1 1) _ rfl (wanted_none rfl _) (exec_ints 1 _ [(c.seq)] rfl rfl (by omega) (by omega) (by show [(0, a.eval (.tmp 23))] = [(0, .int .i64 c.seq)]; rw [show a.eval (.tmp 23) = .int .i64 c.seq from (hD 2 23 (by kernel_rfl))])) (ints_new u [(c.seq)] 1 rfl) ((Keep.refl _ u).alloc _)) ?_
    refine fsteps_cons 5 rfl (fun a u hE hD hk => f_call (o := ⟨some 25, _, _, _, _, _⟩) 32 #[v3_1, a.eval (.tmp 24)] rfl (wanted_none rfl _) (exec_call 32 _ [.tmp 21, .tmp 24] _ [v3_1, a.eval (.tmp 24)] Try.func32 (by kernel_rfl) (by kernel_rfl) rfl (show [a.eval (.tmp 21), a.eval (.tmp 24)] = [v3_1, a.eval (.tmp 24)] from (by rw [show a.eval (.tmp 21) = v3_1 from (hD 0 21 (by kernel_rfl))] <;> rfl)) u) (u32s_any _ _ g [u8 c.k] [c.seq] u (HP1.out.kept hk) (hD 3 24 (by kernel_rfl)) (by have := hgb1.out; have := hk.size; omega) (Nat.le_of_ble_eq_true (by kernel_rfl)) (Nat.le_of_ble_eq_true (by kernel_rfl)))) ?_
    exact fsteps_nil
  intro gv w2 hV k2
  rw [show dstsOf _ 5 = [21, 22, 23, 24, 25] by kernel_rfl]
  simp only [List.foldl_cons, List.foldl_nil, List.setIfInBounds_toArray, List.set_cons_succ, List.set_cons_zero, List.drop_succ_cons, List.drop_zero]
  have hv25 : (.own g ([u8 c.k] ++ w32s [c.seq]) : Kn).p (gv 25) w2 := hV 4 25 (by kernel_rfl)
  generalize gv 25 = v25 at hv25 ⊢
  clear hV
  have HP2 := Lib.hid hv25
  generalize v25 = v3_2 at HP2 hv25 ⊢
  clear hv25
  have HB2 := Lib.hid (HB1.out.kept k2)
  have hgb2 : Hid (g ≤ w2.heap.size) := by show g ≤ _; have := k2.size; have := hgb1.out; omega
  have kw2 := kw1.trans k2
  clear kw1 k2
  go_wp2
  go_ret
  have he : ([u8 c.k] ++ w32s [c.seq]) = c.enc := by simp [Nte.enc, hkk.out, w32s]
  rw [← he]
  exact ⟨_, rfl, HP2.out.low hgw.out, kw2⟩

set_option maxRecDepth 100000 in
set_option maxHeartbeats 3200000 in
theorem putNote_4 (c : Nte) (w : World) (hkk : Hid (c.k = 4)) (HT : Hid (c.sum.length = 32)) : Gives 16 #[c.v] w (.own w.heap.size c.enc) := by
  unfold Gives Nte.v
  have HB0 : Hid (Blk (w.alloc (.cells c.cells.toArray 32)) w.heap.size 32 c.cells) := Blk.new w _ _
  have kw0 : Kept w (w.alloc (.cells c.cells.toArray 32)) := (Keep.refl _ w).alloc _
  go_enter Try.func16, Try.ntmps16
  go_upto_region 1 with fail
  generalize w.alloc (.cells c.cells.toArray 32) = w0 at HB0 kw0 ⊢
  obtain ⟨g, hg⟩ : ∃ g, g = w.heap.size := ⟨_, rfl⟩
  rw [← hg] at HB0 ⊢
  have hgb0 : Hid (g ≤ w0.heap.size) := by show g ≤ _; have := kw0.size; omega
  have hgw : Hid (w.heap.size ≤ g) := by show _ ≤ g; omega
  clear hg
  refine wp_text 3 [.eq (.pointer (some ⟨g, 0, none⟩)), .eq (.int .i64 c.k), .own g [u8 c.k]] rfl (by kernel_rfl) ?_ ?_
  · refine fsteps_cons 1 rfl (fun a u hE hD hk => f_val (o := ⟨some 4, _, _, _, _, _⟩) (.pointer (some ⟨g, 0, none⟩)) rfl (wanted_none rfl _) (exec_fld 32 0 0 (.tmp 1) (g) rfl (hE 1 (.pointer (some ⟨g, 0, none⟩)) (by kernel_rfl) (by kernel_rfl)) (by kernel_rfl)) rfl) ?_
    refine fsteps_cons 2 rfl (fun a u hE hD hk => f_val (o := ⟨some 5, _, _, _, _, _⟩) (.int .i64 c.k) rfl (wanted_none rfl _) (exec_loadi 3 Try.underlying3 (.tmp 4) ⟨g, 0, none⟩ (.int .i64 c.k) rfl (hD 0 4 (by kernel_rfl)) ((HB0.out.kept hk).fld 0 _ rfl)) rfl) ?_
    refine fsteps_cons 3 rfl (fun a u hE hD hk => f_call (o := ⟨some 6, _, _, _, _, _⟩) 31 #[.slice none 0 0, .int .i64 c.k] rfl (wanted_none rfl _) (exec_call 31 _ [.const (.slice none 0 0), .tmp 5] _ [.slice none 0 0, .int .i64 c.k] Try.func31 (by kernel_rfl) (by kernel_rfl) rfl (show [a.eval (.const (.slice none 0 0)), a.eval (.tmp 5)] = [.slice none 0 0, .int .i64 c.k] from (by rw [show a.eval (.tmp 5) = .int .i64 c.k from (hD 1 5 (by kernel_rfl))] <;> rfl)) u) (fu8_gives _ (c.k) g [] u (OwnV.nil _ _) (by have := hgb0.out; have := hk.size; omega) (Nat.le_of_ble_eq_true (by kernel_rfl)))) ?_
    exact fsteps_nil
  intro gv w1 hV k1
  rw [show dstsOf _ 3 = [4, 5, 6] by kernel_rfl]
  simp only [List.foldl_cons, List.foldl_nil, List.setIfInBounds_toArray, List.set_cons_succ, List.set_cons_zero, List.drop_succ_cons, List.drop_zero]
  have hv6 : (.own g [u8 c.k] : Kn).p (gv 6) w1 := hV 2 6 (by kernel_rfl)
  generalize gv 6 = v6 at hv6 ⊢
  clear hV
  have HP1 := Lib.hid hv6
  generalize v6 = v3_1 at HP1 hv6 ⊢
  clear hv6
  have HB1 := Lib.hid (HB0.out.kept k1)
  have hgb1 : Hid (g ≤ w1.heap.size) := by show g ≤ _; have := k1.size; have := hgb0.out; omega
  have kw1 := kw0.trans k1
  clear kw0 k1
  have hc : w1.cell? ⟨g, 0, none⟩ = some (.int .i64 4) := by rw [← hkk.out]; exact HB1.out.fld 0 _ rfl
  go_upto_region 11 with fail
  refine wp_free 8 [.eq (v3_1), .eq (.pointer (some ⟨g, 2, none⟩)), .eq (.int .i64 c.seq), .ints [(c.seq)], .own g ([u8 c.k] ++ w32s [c.seq]), .eq (.pointer (some ⟨g, 1, none⟩)), .eq (.int .i64 c.err), .own g (([u8 c.k] ++ w32s [c.seq]) ++ [u8 c.err])] (by kernel_rfl) rfl (by kernel_rfl) ?_ ?_
  · refine fsteps_cons 1 rfl (fun a u hE hD hk => f_val (o := ⟨some 28, _, _, _, _, _⟩) (v3_1) rfl (wanted_none rfl _) (exec_move (.tmp 3) (v3_1) rfl (hE 3 (v3_1) (by kernel_rfl) (by kernel_rfl))) rfl) ?_
    refine fsteps_cons 2 rfl (fun a u hE hD hk => f_val (o := ⟨some 29, _, _, _, _, _⟩) (.pointer (some ⟨g, 2, none⟩)) rfl (wanted_none rfl _) (exec_fld 32 2 2 (.tmp 1) (g) rfl (hE 1 (.pointer (some ⟨g, 0, none⟩)) (by kernel_rfl) (by kernel_rfl)) (by kernel_rfl)) rfl) ?_
    refine fsteps_cons 3 rfl (fun a u hE hD hk => f_val (o := ⟨some 30, _, _, _, _, _⟩) (.int .i64 c.seq) rfl (wanted_none rfl _) (exec_loadi 3 Try.underlying3 (.tmp 29) ⟨g, 2, none⟩ (.int .i64 c.seq) rfl (hD 1 29 (by kernel_rfl)) ((HB1.out.kept hk).fld 2 _ rfl)) rfl) ?_
    refine fsteps_cons 4 rfl (fun a u hE hD hk => f_new (o := ⟨some 31, _, _, _, _, _⟩) (.slice (some ⟨u.heap.size, 0, none⟩) 1 1) _ rfl (wanted_none rfl _) (exec_ints 1 _ [(c.seq)] rfl rfl (by omega) (by omega) (by show [(0, a.eval (.tmp 30))] = [(0, .int .i64 c.seq)]; rw [show a.eval (.tmp 30) = .int .i64 c.seq from (hD 2 30 (by kernel_rfl))])) (ints_new u [(c.seq)] 1 rfl) ((Keep.refl _ u).alloc _)) ?_
    refine fsteps_cons 5 rfl (fun a u hE hD hk => f_call (o := ⟨some 32, _, _, _, _, _⟩) 32 #[v3_1, a.eval (.tmp 31)] rfl (wanted_none rfl _) (exec_call 32 _ [.tmp 28, .tmp 31] _ [v3_1, a.eval (.tmp 31)] Try.func32 (by kernel_rfl) (by kernel_rfl) rfl (show [a.eval (.tmp 28), a.eval (.tmp 31)] = [v3_1, a.eval (.tmp 31)] from (by rw [show a.eval (.tmp 28) = v3_1 from (hD 0 28 (by kernel_rfl))] <;> rfl)) u) (u32s_any _ _ g [u8 c.k] [c.seq] u (HP1.out.kept hk) (hD 3 31 (by kernel_rfl)) (by have := hgb1.out; have := hk.size; omega) (Nat.le_of_ble_eq_true (by kernel_rfl)) (Nat.le_of_ble_eq_true (by kernel_rfl)))) ?_
    refine fsteps_cons 6 rfl (fun a u hE hD hk => f_val (o := ⟨some 33, _, _, _, _, _⟩) (.pointer (some ⟨g, 1, none⟩)) rfl (wanted_none rfl _) (exec_fld 32 1 1 (.tmp 1) (g) rfl (hE 1 (.pointer (some ⟨g, 0, none⟩)) (by kernel_rfl) (by kernel_rfl)) (by kernel_rfl)) rfl) ?_
    refine fsteps_cons 7 rfl (fun a u hE hD hk => f_val (o := ⟨some 34, _, _, _, _, _⟩) (.int .i64 c.err) rfl (wanted_none rfl _) (exec_loadi 30 Try.underlying30 (.tmp 33) ⟨g, 1, none⟩ (.int .i64 c.err) rfl (hD 5 33 (by kernel_rfl)) ((HB1.out.kept hk).fld 1 _ rfl)) rfl) ?_
    refine fsteps_cons 8 rfl (fun a u hE hD hk => f_call (o := ⟨some 35, _, _, _, _, _⟩) 31 #[a.eval (.tmp 32), .int .i64 c.err] rfl (wanted_none rfl _) (exec_call 31 _ [.tmp 32, .tmp 34] _ [a.eval (.tmp 32), .int .i64 c.err] Try.func31 (by kernel_rfl) (by kernel_rfl) rfl (show [a.eval (.tmp 32), a.eval (.tmp 34)] = [a.eval (.tmp 32), .int .i64 c.err] from (by rw [show a.eval (.tmp 34) = .int .i64 c.err from (hD 6 34 (by kernel_rfl))] <;> rfl)) u) (fu8_gives _ (c.err) g ([u8 c.k] ++ w32s [c.seq]) u (hD 4 32 (by kernel_rfl)) (by have := hgb1.out; have := hk.size; omega) (Nat.le_of_ble_eq_true (by kernel_rfl)))) ?_
    exact fsteps_nil
  intro gv w2 hV k2
  rw [show dstsOf _ 8 = [28, 29, 30, 31, 32, 33, 34, 35] by kernel_rfl]
  simp only [List.foldl_cons, List.foldl_nil, List.setIfInBounds_toArray, List.set_cons_succ, List.set_cons_zero, List.drop_succ_cons, List.drop_zero]
  have hv35 : (.own g (([u8 c.k] ++ w32s [c.seq]) ++ [u8 c.err]) : Kn).p (gv 35) w2 := hV 7 35 (by kernel_rfl)
  generalize gv 35 = v35 at hv35 ⊢
  clear hV
  have HP2 := Lib.hid hv35
  generalize v35 = v3_2 at HP2 hv35 ⊢
  clear hv35
  have HB2 := Lib.hid (HB1.out.kept k2)
  have hgb2 : Hid (g ≤ w2.heap.size) := by show g ≤ _; have := k2.size; have := hgb1.out; omega
  have kw2 := kw1.trans k2
  clear kw1 k2
  go_wp2
  go_ret
  have he : (([u8 c.k] ++ w32s [c.seq]) ++ [u8 c.err]) = c.enc := by simp [Nte.enc, hkk.out, w32s]
  rw [← he]
  exact ⟨_, rfl, HP2.out.low hgw.out, kw2⟩

set_option maxRecDepth 100000 in
set_option maxHeartbeats 3200000 in
theorem putNote_5 (c : Nte) (w : World) (hkk : Hid (c.k = 5)) (HT : Hid (c.sum.length = 32)) : Gives 16 #[c.v] w (.own w.heap.size c.enc) := by
  unfold Gives Nte.v
  have HB0 : Hid (Blk (w.alloc (.cells c.cells.toArray 32)) w.heap.size 32 c.cells) := Blk.new w _ _
  have kw0 : Kept w (w.alloc (.cells c.cells.toArray 32)) := (Keep.refl _ w).alloc _
  go_enter Try.func16, Try.ntmps16
  go_upto_region 1 with fail
  generalize w.alloc (.cells c.cells.toArray 32) = w0 at HB0 kw0 ⊢
  obtain ⟨g, hg⟩ : ∃ g, g = w.heap.size := ⟨_, rfl⟩
  rw [← hg] at HB0 ⊢
  have hgb0 : Hid (g ≤ w0.heap.size) := by show g ≤ _; have := kw0.size; omega
  have hgw : Hid (w.heap.size ≤ g) := by show _ ≤ g; omega
  clear hg
  refine wp_text 3 [.eq (.pointer (some ⟨g, 0, none⟩)), .eq (.int .i64 c.k), .own g [u8 c.k]] rfl (by kernel_rfl) ?_ ?_
  · refine fsteps_cons 1 rfl (fun a u hE hD hk => f_val (o := ⟨some 4, _, _, _, _, _⟩) (.pointer (some ⟨g, 0, none⟩)) rfl (wanted_none rfl _) (exec_fld 32 0 0 (.tmp 1) (g) rfl (hE 1 (.pointer (some ⟨g, 0, none⟩)) (by kernel_rfl) (by kernel_rfl)) (by kernel_rfl)) rfl) ?_
    refine fsteps_cons 2 rfl (fun a u hE hD hk => f_val (o := ⟨some 5, _, _, _, _, _⟩) (.int .i64 c.k) rfl (wanted_none rfl _) (exec_loadi 3 Try.underlying3 (.tmp 4) ⟨g, 0, none⟩ (.int .i64 c.k) rfl (hD 0 4 (by kernel_rfl)) ((HB0.out.kept hk).fld 0 _ rfl)) rfl) ?_
    refine fsteps_cons 3 rfl (fun a u hE hD hk => f_call (o := ⟨some 6, _, _, _, _, _⟩) 31 #[.slice none 0 0, .int .i64 c.k] rfl (wanted_none rfl _) (exec_call 31 _ [.const (.slice none 0 0), .tmp 5] _ [.slice none 0 0, .int .i64 c.k] Try.func31 (by kernel_rfl) (by kernel_rfl) rfl (show [a.eval (.const (.slice none 0 0)), a.eval (.tmp 5)] = [.slice none 0 0, .int .i64 c.k] from (by rw [show a.eval (.tmp 5) = .int .i64 c.k from (hD 1 5 (by kernel_rfl))] <;> rfl)) u) (fu8_gives _ (c.k) g [] u (OwnV.nil _ _) (by have := hgb0.out; have := hk.size; omega) (Nat.le_of_ble_eq_true (by kernel_rfl)))) ?_
    exact fsteps_nil
  intro gv w1 hV k1
  rw [show dstsOf _ 3 = [4, 5, 6] by kernel_rfl]
  simp only [List.foldl_cons, List.foldl_nil, List.setIfInBounds_toArray, List.set_cons_succ, List.set_cons_zero, List.drop_succ_cons, List.drop_zero]
  have hv6 : (.own g [u8 c.k] : Kn).p (gv 6) w1 := hV 2 6 (by kernel_rfl)
  generalize gv 6 = v6 at hv6 ⊢
  clear hV
  have HP1 := Lib.hid hv6
  generalize v6 = v3_1 at HP1 hv6 ⊢
  clear hv6
  have HB1 := Lib.hid (HB0.out.kept k1)
  have hgb1 : Hid (g ≤ w1.heap.size) := by show g ≤ _; have := k1.size; have := hgb0.out; omega
  have kw1 := kw0.trans k1
  clear kw0 k1
  have hc : w1.cell? ⟨g, 0, none⟩ = some (.int .i64 5) := by rw [← hkk.out]; exact HB1.out.fld 0 _ rfl
  go_upto_region 13 with fail
  refine wp_free 16 [.eq (v3_1), .eq (.pointer (some ⟨g, 3, none⟩)), .eq (.int .i64 c.inst), .own g ([u8 c.k] ++ [u8 c.inst]), .eq (.pointer (some ⟨g, 4, none⟩)), .eq (.int .i64 c.id), .eq (.pointer (some ⟨g, 5, none⟩)), .eq (.int .i64 c.no), .eq (.pointer (some ⟨g, 7, none⟩)), .eq (.int .i64 c.price), .eq (.pointer (some ⟨g, 8, none⟩)), .eq (.int .i64 c.qty), .eq (.pointer (some ⟨g, 9, none⟩)), .eq (.int .i64 c.left), .ints [(c.id), (c.no), (c.price), (c.qty), (c.left)], .own g (([u8 c.k] ++ [u8 c.inst]) ++ w32s [c.id, c.no, c.price, c.qty, c.left])] (by kernel_rfl) rfl (by kernel_rfl) ?_ ?_
  · refine fsteps_cons 1 rfl (fun a u hE hD hk => f_val (o := ⟨some 38, _, _, _, _, _⟩) (v3_1) rfl (wanted_none rfl _) (exec_move (.tmp 3) (v3_1) rfl (hE 3 (v3_1) (by kernel_rfl) (by kernel_rfl))) rfl) ?_
    refine fsteps_cons 2 rfl (fun a u hE hD hk => f_val (o := ⟨some 39, _, _, _, _, _⟩) (.pointer (some ⟨g, 3, none⟩)) rfl (wanted_none rfl _) (exec_fld 32 3 3 (.tmp 1) (g) rfl (hE 1 (.pointer (some ⟨g, 0, none⟩)) (by kernel_rfl) (by kernel_rfl)) (by kernel_rfl)) rfl) ?_
    refine fsteps_cons 3 rfl (fun a u hE hD hk => f_val (o := ⟨some 40, _, _, _, _, _⟩) (.int .i64 c.inst) rfl (wanted_none rfl _) (exec_loadi 3 Try.underlying3 (.tmp 39) ⟨g, 3, none⟩ (.int .i64 c.inst) rfl (hD 1 39 (by kernel_rfl)) ((HB1.out.kept hk).fld 3 _ rfl)) rfl) ?_
    refine fsteps_cons 4 rfl (fun a u hE hD hk => f_call (o := ⟨some 41, _, _, _, _, _⟩) 31 #[v3_1, .int .i64 c.inst] rfl (wanted_none rfl _) (exec_call 31 _ [.tmp 38, .tmp 40] _ [v3_1, .int .i64 c.inst] Try.func31 (by kernel_rfl) (by kernel_rfl) rfl (show [a.eval (.tmp 38), a.eval (.tmp 40)] = [v3_1, .int .i64 c.inst] from (by rw [show a.eval (.tmp 38) = v3_1 from (hD 0 38 (by kernel_rfl)), show a.eval (.tmp 40) = .int .i64 c.inst from (hD 2 40 (by kernel_rfl))] <;> rfl)) u) (fu8_gives _ (c.inst) g [u8 c.k] u (HP1.out.kept hk) (by have := hgb1.out; have := hk.size; omega) (Nat.le_of_ble_eq_true (by kernel_rfl)))) ?_
    refine fsteps_cons 5 rfl (fun a u hE hD hk => f_val (o := ⟨some 42, _, _, _, _, _⟩) (.pointer (some ⟨g, 4, none⟩)) rfl (wanted_none rfl _) (exec_fld 32 4 4 (.tmp 1) (g) rfl (hE 1 (.pointer (some ⟨g, 0, none⟩)) (by kernel_rfl) (by kernel_rfl)) (by kernel_rfl)) rfl) ?_
    refine fsteps_cons 6 rfl (fun a u hE hD hk => f_val (o := ⟨some 43, _, _, _, _, _⟩) (.int .i64 c.id) rfl (wanted_none rfl _) (exec_loadi 3 Try.underlying3 (.tmp 42) ⟨g, 4, none⟩ (.int .i64 c.id) rfl (hD 4 42 (by kernel_rfl)) ((HB1.out.kept hk).fld 4 _ rfl)) rfl) ?_
    refine fsteps_cons 7 rfl (fun a u hE hD hk => f_val (o := ⟨some 44, _, _, _, _, _⟩) (.pointer (some ⟨g, 5, none⟩)) rfl (wanted_none rfl _) (exec_fld 32 5 5 (.tmp 1) (g) rfl (hE 1 (.pointer (some ⟨g, 0, none⟩)) (by kernel_rfl) (by kernel_rfl)) (by kernel_rfl)) rfl) ?_
    refine fsteps_cons 8 rfl (fun a u hE hD hk => f_val (o := ⟨some 45, _, _, _, _, _⟩) (.int .i64 c.no) rfl (wanted_none rfl _) (exec_loadi 3 Try.underlying3 (.tmp 44) ⟨g, 5, none⟩ (.int .i64 c.no) rfl (hD 6 44 (by kernel_rfl)) ((HB1.out.kept hk).fld 5 _ rfl)) rfl) ?_
    refine fsteps_cons 9 rfl (fun a u hE hD hk => f_val (o := ⟨some 46, _, _, _, _, _⟩) (.pointer (some ⟨g, 7, none⟩)) rfl (wanted_none rfl _) (exec_fld 32 7 7 (.tmp 1) (g) rfl (hE 1 (.pointer (some ⟨g, 0, none⟩)) (by kernel_rfl) (by kernel_rfl)) (by kernel_rfl)) rfl) ?_
    refine fsteps_cons 10 rfl (fun a u hE hD hk => f_val (o := ⟨some 47, _, _, _, _, _⟩) (.int .i64 c.price) rfl (wanted_none rfl _) (exec_loadi 3 Try.underlying3 (.tmp 46) ⟨g, 7, none⟩ (.int .i64 c.price) rfl (hD 8 46 (by kernel_rfl)) ((HB1.out.kept hk).fld 7 _ rfl)) rfl) ?_
    refine fsteps_cons 11 rfl (fun a u hE hD hk => f_val (o := ⟨some 48, _, _, _, _, _⟩) (.pointer (some ⟨g, 8, none⟩)) rfl (wanted_none rfl _) (exec_fld 32 8 8 (.tmp 1) (g) rfl (hE 1 (.pointer (some ⟨g, 0, none⟩)) (by kernel_rfl) (by kernel_rfl)) (by kernel_rfl)) rfl) ?_
    refine fsteps_cons 12 rfl (fun a u hE hD hk => f_val (o := ⟨some 49, _, _, _, _, _⟩) (.int .i64 c.qty) rfl (wanted_none rfl _) (exec_loadi 3 Try.underlying3 (.tmp 48) ⟨g, 8, none⟩ (.int .i64 c.qty) rfl (hD 10 48 (by kernel_rfl)) ((HB1.out.kept hk).fld 8 _ rfl)) rfl) ?_
    refine fsteps_cons 13 rfl (fun a u hE hD hk => f_val (o := ⟨some 50, _, _, _, _, _⟩) (.pointer (some ⟨g, 9, none⟩)) rfl (wanted_none rfl _) (exec_fld 32 9 9 (.tmp 1) (g) rfl (hE 1 (.pointer (some ⟨g, 0, none⟩)) (by kernel_rfl) (by kernel_rfl)) (by kernel_rfl)) rfl) ?_
    refine fsteps_cons 14 rfl (fun a u hE hD hk => f_val (o := ⟨some 51, _, _, _, _, _⟩) (.int .i64 c.left) rfl (wanted_none rfl _) (exec_loadi 3 Try.underlying3 (.tmp 50) ⟨g, 9, none⟩ (.int .i64 c.left) rfl (hD 12 50 (by kernel_rfl)) ((HB1.out.kept hk).fld 9 _ rfl)) rfl) ?_
    refine fsteps_cons 15 rfl (fun a u hE hD hk => f_new (o := ⟨some 52, _, _, _, _, _⟩) (.slice (some ⟨u.heap.size, 0, none⟩) 5 5) _ rfl (wanted_none rfl _) (exec_ints 5 _ [(c.id), (c.no), (c.price), (c.qty), (c.left)] rfl rfl (by omega) (by omega) (by show [(0, a.eval (.tmp 43)), (1, a.eval (.tmp 45)), (2, a.eval (.tmp 47)), (3, a.eval (.tmp 49)), (4, a.eval (.tmp 51))] = [(0, .int .i64 c.id), (1, .int .i64 c.no), (2, .int .i64 c.price), (3, .int .i64 c.qty), (4, .int .i64 c.left)]; rw [show a.eval (.tmp 43) = .int .i64 c.id from (hD 5 43 (by kernel_rfl)), show a.eval (.tmp 45) = .int .i64 c.no from (hD 7 45 (by kernel_rfl)), show a.eval (.tmp 47) = .int .i64 c.price from (hD 9 47 (by kernel_rfl)), show a.eval (.tmp 49) = .int .i64 c.qty from (hD 11 49 (by kernel_rfl)), show a.eval (.tmp 51) = .int .i64 c.left from (hD 13 51 (by kernel_rfl))])) (ints_new u [(c.id), (c.no), (c.price), (c.qty), (c.left)] 5 rfl) ((Keep.refl _ u).alloc _)) ?_
    refine fsteps_cons 16 rfl (fun a u hE hD hk => f_call (o := ⟨some 53, _, _, _, _, _⟩) 32 #[a.eval (.tmp 41), a.eval (.tmp 52)] rfl (wanted_none rfl _) (exec_call 32 _ [.tmp 41, .tmp 52] _ [a.eval (.tmp 41), a.eval (.tmp 52)] Try.func32 (by kernel_rfl) (by kernel_rfl) rfl rfl u) (u32s_any _ _ g ([u8 c.k] ++ [u8 c.inst]) [c.id, c.no, c.price, c.qty, c.left] u (hD 3 41 (by kernel_rfl)) (hD 14 52 (by kernel_rfl)) (by have := hgb1.out; have := hk.size; omega) (Nat.le_of_ble_eq_true (by kernel_rfl)) (Nat.le_of_ble_eq_true (by kernel_rfl)))) ?_
    exact fsteps_nil
  intro gv w2 hV k2
  rw [show dstsOf _ 16 = [38, 39, 40, 41, 42, 43, 44, 45, 46, 47, 48, 49, 50, 51, 52, 53] by kernel_rfl]
  simp only [List.foldl_cons, List.foldl_nil, List.setIfInBounds_toArray, List.set_cons_succ, List.set_cons_zero, List.drop_succ_cons, List.drop_zero]
  have hv53 : (.own g (([u8 c.k] ++ [u8 c.inst]) ++ w32s [c.id, c.no, c.price, c.qty, c.left]) : Kn).p (gv 53) w2 := hV 15 53 (by kernel_rfl)
  generalize gv 53 = v53 at hv53 ⊢
  clear hV
  have HP2 := Lib.hid hv53
  generalize v53 = v3_2 at HP2 hv53 ⊢
  clear hv53
  have HB2 := Lib.hid (HB1.out.kept k2)
  have hgb2 : Hid (g ≤ w2.heap.size) := by show g ≤ _; have := k2.size; have := hgb1.out; omega
  have kw2 := kw1.trans k2
  clear kw1 k2
  go_wp2
  go_ret
  have he : (([u8 c.k] ++ [u8 c.inst]) ++ w32s [c.id, c.no, c.price, c.qty, c.left]) = c.enc := by simp [Nte.enc, hkk.out, w32s]
  rw [← he]
  exact ⟨_, rfl, HP2.out.low hgw.out, kw2⟩

set_option maxRecDepth 100000 in
set_option maxHeartbeats 3200000 in
theorem putNote_6 (c : Nte) (w : World) (hkk : Hid (c.k = 6)) (HT : Hid (c.sum.length = 32)) : Gives 16 #[c.v] w (.own w.heap.size c.enc) := by
  unfold Gives Nte.v
  have HB0 : Hid (Blk (w.alloc (.cells c.cells.toArray 32)) w.heap.size 32 c.cells) := Blk.new w _ _
  have kw0 : Kept w (w.alloc (.cells c.cells.toArray 32)) := (Keep.refl _ w).alloc _
  go_enter Try.func16, Try.ntmps16
  go_upto_region 1 with fail
  generalize w.alloc (.cells c.cells.toArray 32) = w0 at HB0 kw0 ⊢
  obtain ⟨g, hg⟩ : ∃ g, g = w.heap.size := ⟨_, rfl⟩
  rw [← hg] at HB0 ⊢
  have hgb0 : Hid (g ≤ w0.heap.size) := by show g ≤ _; have := kw0.size; omega
  have hgw : Hid (w.heap.size ≤ g) := by show _ ≤ g; omega
  clear hg
  refine wp_text 3 [.eq (.pointer (some ⟨g, 0, none⟩)), .eq (.int .i64 c.k), .own g [u8 c.k]] rfl (by kernel_rfl) ?_ ?_
  · refine fsteps_cons 1 rfl (fun a u hE hD hk => f_val (o := ⟨some 4, _, _, _, _, _⟩) (.pointer (some ⟨g, 0, none⟩)) rfl (wanted_none rfl _) (exec_fld 32 0 0 (.tmp 1) (g) rfl (hE 1 (.pointer (some ⟨g, 0, none⟩)) (by kernel_rfl) (by kernel_rfl)) (by kernel_rfl)) rfl) ?_
    refine fsteps_cons 2 rfl (fun a u hE hD hk => f_val (o := ⟨some 5, _, _, _, _, _⟩) (.int .i64 c.k) rfl (wanted_none rfl _) (exec_loadi 3 Try.underlying3 (.tmp 4) ⟨g, 0, none⟩ (.int .i64 c.k) rfl (hD 0 4 (by kernel_rfl)) ((HB0.out.kept hk).fld 0 _ rfl)) rfl) ?_
    refine fsteps_cons 3 rfl (fun a u hE hD hk => f_call (o := ⟨some 6, _, _, _, _, _⟩) 31 #[.slice none 0 0, .int .i64 c.k] rfl (wanted_none rfl _) (exec_call 31 _ [.const (.slice none 0 0), .tmp 5] _ [.slice none 0 0, .int .i64 c.k] Try.func31 (by kernel_rfl) (by kernel_rfl) rfl (show [a.eval (.const (.slice none 0 0)), a.eval (.tmp 5)] = [.slice none 0 0, .int .i64 c.k] from (by rw [show a.eval (.tmp 5) = .int .i64 c.k from (hD 1 5 (by kernel_rfl))] <;> rfl)) u) (fu8_gives _ (c.k) g [] u (OwnV.nil _ _) (by have := hgb0.out; have := hk.size; omega) (Nat.le_of_ble_eq_true (by kernel_rfl)))) ?_
    exact fsteps_nil
  intro gv w1 hV k1
  rw [show dstsOf _ 3 = [4, 5, 6] by kernel_rfl]
  simp only [List.foldl_cons, List.foldl_nil, List.setIfInBounds_toArray, List.set_cons_succ, List.set_cons_zero, List.drop_succ_cons, List.drop_zero]
  have hv6 : (.own g [u8 c.k] : Kn).p (gv 6) w1 := hV 2 6 (by kernel_rfl)
  generalize gv 6 = v6 at hv6 ⊢
  clear hV
  have HP1 := Lib.hid hv6
  generalize v6 = v3_1 at HP1 hv6 ⊢
  clear hv6
  have HB1 := Lib.hid (HB0.out.kept k1)
  have hgb1 : Hid (g ≤ w1.heap.size) := by show g ≤ _; have := k1.size; have := hgb0.out; omega
  have kw1 := kw0.trans k1
  clear kw0 k1
  have hc : w1.cell? ⟨g, 0, none⟩ = some (.int .i64 6) := by rw [← hkk.out]; exact HB1.out.fld 0 _ rfl
  go_upto_region 15 with fail
  refine wp_free 10 [.eq (v3_1), .eq (.pointer (some ⟨g, 3, none⟩)), .eq (.int .i64 c.inst), .own g ([u8 c.k] ++ [u8 c.inst]), .eq (.pointer (some ⟨g, 4, none⟩)), .eq (.int .i64 c.id), .eq (.pointer (some ⟨g, 9, none⟩)), .eq (.int .i64 c.left), .ints [(c.id), (c.left)], .own g (([u8 c.k] ++ [u8 c.inst]) ++ w32s [c.id, c.left])] (by kernel_rfl) rfl (by kernel_rfl) ?_ ?_
  · refine fsteps_cons 1 rfl (fun a u hE hD hk => f_val (o := ⟨some 56, _, _, _, _, _⟩) (v3_1) rfl (wanted_none rfl _) (exec_move (.tmp 3) (v3_1) rfl (hE 3 (v3_1) (by kernel_rfl) (by kernel_rfl))) rfl) ?_
    refine fsteps_cons 2 rfl (fun a u hE hD hk => f_val (o := ⟨some 57, _, _, _, _, _⟩) (.pointer (some ⟨g, 3, none⟩)) rfl (wanted_none rfl _) (exec_fld 32 3 3 (.tmp 1) (g) rfl (hE 1 (.pointer (some ⟨g, 0, none⟩)) (by kernel_rfl) (by kernel_rfl)) (by kernel_rfl)) rfl) ?_
    refine fsteps_cons 3 rfl (fun a u hE hD hk => f_val (o := ⟨some 58, _, _, _, _, _⟩) (.int .i64 c.inst) rfl (wanted_none rfl _) (exec_loadi 3 Try.underlying3 (.tmp 57) ⟨g, 3, none⟩ (.int .i64 c.inst) rfl (hD 1 57 (by kernel_rfl)) ((HB1.out.kept hk).fld 3 _ rfl)) rfl) ?_
    refine fsteps_cons 4 rfl (fun a u hE hD hk => f_call (o := ⟨some 59, _, _, _, _, _⟩) 31 #[v3_1, .int .i64 c.inst] rfl (wanted_none rfl _) (exec_call 31 _ [.tmp 56, .tmp 58] _ [v3_1, .int .i64 c.inst] Try.func31 (by kernel_rfl) (by kernel_rfl) rfl (show [a.eval (.tmp 56), a.eval (.tmp 58)] = [v3_1, .int .i64 c.inst] from (by rw [show a.eval (.tmp 56) = v3_1 from (hD 0 56 (by kernel_rfl)), show a.eval (.tmp 58) = .int .i64 c.inst from (hD 2 58 (by kernel_rfl))] <;> rfl)) u) (fu8_gives _ (c.inst) g [u8 c.k] u (HP1.out.kept hk) (by have := hgb1.out; have := hk.size; omega) (Nat.le_of_ble_eq_true (by kernel_rfl)))) ?_
    refine fsteps_cons 5 rfl (fun a u hE hD hk => f_val (o := ⟨some 60, _, _, _, _, _⟩) (.pointer (some ⟨g, 4, none⟩)) rfl (wanted_none rfl _) (exec_fld 32 4 4 (.tmp 1) (g) rfl (hE 1 (.pointer (some ⟨g, 0, none⟩)) (by kernel_rfl) (by kernel_rfl)) (by kernel_rfl)) rfl) ?_
    refine fsteps_cons 6 rfl (fun a u hE hD hk => f_val (o := ⟨some 61, _, _, _, _, _⟩) (.int .i64 c.id) rfl (wanted_none rfl _) (exec_loadi 3 Try.underlying3 (.tmp 60) ⟨g, 4, none⟩ (.int .i64 c.id) rfl (hD 4 60 (by kernel_rfl)) ((HB1.out.kept hk).fld 4 _ rfl)) rfl) ?_
    refine fsteps_cons 7 rfl (fun a u hE hD hk => f_val (o := ⟨some 62, _, _, _, _, _⟩) (.pointer (some ⟨g, 9, none⟩)) rfl (wanted_none rfl _) (exec_fld 32 9 9 (.tmp 1) (g) rfl (hE 1 (.pointer (some ⟨g, 0, none⟩)) (by kernel_rfl) (by kernel_rfl)) (by kernel_rfl)) rfl) ?_
    refine fsteps_cons 8 rfl (fun a u hE hD hk => f_val (o := ⟨some 63, _, _, _, _, _⟩) (.int .i64 c.left) rfl (wanted_none rfl _) (exec_loadi 3 Try.underlying3 (.tmp 62) ⟨g, 9, none⟩ (.int .i64 c.left) rfl (hD 6 62 (by kernel_rfl)) ((HB1.out.kept hk).fld 9 _ rfl)) rfl) ?_
    refine fsteps_cons 9 rfl (fun a u hE hD hk => f_new (o := ⟨some 64, _, _, _, _, _⟩) (.slice (some ⟨u.heap.size, 0, none⟩) 2 2) _ rfl (wanted_none rfl _) (exec_ints 2 _ [(c.id), (c.left)] rfl rfl (by omega) (by omega) (by show [(0, a.eval (.tmp 61)), (1, a.eval (.tmp 63))] = [(0, .int .i64 c.id), (1, .int .i64 c.left)]; rw [show a.eval (.tmp 61) = .int .i64 c.id from (hD 5 61 (by kernel_rfl)), show a.eval (.tmp 63) = .int .i64 c.left from (hD 7 63 (by kernel_rfl))])) (ints_new u [(c.id), (c.left)] 2 rfl) ((Keep.refl _ u).alloc _)) ?_
    refine fsteps_cons 10 rfl (fun a u hE hD hk => f_call (o := ⟨some 65, _, _, _, _, _⟩) 32 #[a.eval (.tmp 59), a.eval (.tmp 64)] rfl (wanted_none rfl _) (exec_call 32 _ [.tmp 59, .tmp 64] _ [a.eval (.tmp 59), a.eval (.tmp 64)] Try.func32 (by kernel_rfl) (by kernel_rfl) rfl rfl u) (u32s_any _ _ g ([u8 c.k] ++ [u8 c.inst]) [c.id, c.left] u (hD 3 59 (by kernel_rfl)) (hD 8 64 (by kernel_rfl)) (by have := hgb1.out; have := hk.size; omega) (Nat.le_of_ble_eq_true (by kernel_rfl)) (Nat.le_of_ble_eq_true (by kernel_rfl)))) ?_
    exact fsteps_nil
  intro gv w2 hV k2
  rw [show dstsOf _ 10 = [56, 57, 58, 59, 60, 61, 62, 63, 64, 65] by kernel_rfl]
  simp only [List.foldl_cons, List.foldl_nil, List.setIfInBounds_toArray, List.set_cons_succ, List.set_cons_zero, List.drop_succ_cons, List.drop_zero]
  have hv65 : (.own g (([u8 c.k] ++ [u8 c.inst]) ++ w32s [c.id, c.left]) : Kn).p (gv 65) w2 := hV 9 65 (by kernel_rfl)
  generalize gv 65 = v65 at hv65 ⊢
  clear hV
  have HP2 := Lib.hid hv65
  generalize v65 = v3_2 at HP2 hv65 ⊢
  clear hv65
  have HB2 := Lib.hid (HB1.out.kept k2)
  have hgb2 : Hid (g ≤ w2.heap.size) := by show g ≤ _; have := k2.size; have := hgb1.out; omega
  have kw2 := kw1.trans k2
  clear kw1 k2
  go_wp2
  go_ret
  have he : (([u8 c.k] ++ [u8 c.inst]) ++ w32s [c.id, c.left]) = c.enc := by simp [Nte.enc, hkk.out, w32s]
  rw [← he]
  exact ⟨_, rfl, HP2.out.low hgw.out, kw2⟩

set_option maxRecDepth 100000 in
set_option maxHeartbeats 3200000 in
theorem putNote_7 (c : Nte) (w : World) (hkk : Hid (c.k = 7)) (HT : Hid (c.sum.length = 32)) : Gives 16 #[c.v] w (.own w.heap.size c.enc) := by
  unfold Gives Nte.v
  have HB0 : Hid (Blk (w.alloc (.cells c.cells.toArray 32)) w.heap.size 32 c.cells) := Blk.new w _ _
  have kw0 : Kept w (w.alloc (.cells c.cells.toArray 32)) := (Keep.refl _ w).alloc _
  go_enter Try.func16, Try.ntmps16
  go_upto_region 1 with fail
  generalize w.alloc (.cells c.cells.toArray 32) = w0 at HB0 kw0 ⊢
  obtain ⟨g, hg⟩ : ∃ g, g = w.heap.size := ⟨_, rfl⟩
  rw [← hg] at HB0 ⊢
  have hgb0 : Hid (g ≤ w0.heap.size) := by show g ≤ _; have := kw0.size; omega
  have hgw : Hid (w.heap.size ≤ g) := by show _ ≤ g; omega
  clear hg
  refine wp_text 3 [.eq (.pointer (some ⟨g, 0, none⟩)), .eq (.int .i64 c.k), .own g [u8 c.k]] rfl (by kernel_rfl) ?_ ?_
  · refine fsteps_cons 1 rfl (fun a u hE hD hk => f_val (o := ⟨some 4, _, _, _, _, _⟩) (.pointer (some ⟨g, 0, none⟩)) rfl (wanted_none rfl _) (exec_fld 32 0 0 (.tmp 1) (g) rfl (hE 1 (.pointer (some ⟨g, 0, none⟩)) (by kernel_rfl) (by kernel_rfl)) (by kernel_rfl)) rfl) ?_
    refine fsteps_cons 2 rfl (fun a u hE hD hk => f_val (o := ⟨some 5, _, _, _, _, _⟩) (.int .i64 c.k) rfl (wanted_none rfl _) (exec_loadi 3 Try.underlying3 (.tmp 4) ⟨g, 0, none⟩ (.int .i64 c.k) rfl (hD 0 4 (by kernel_rfl)) ((HB0.out.kept hk).fld 0 _ rfl)) rfl) ?_
    refine fsteps_cons 3 rfl (fun a u hE hD hk => f_call (o := ⟨some 6, _, _, _, _, _⟩) 31 #[.slice none 0 0, .int .i64 c.k] rfl (wanted_none rfl _) (exec_call 31 _ [.const (.slice none 0 0), .tmp 5] _ [.slice none 0 0, .int .i64 c.k] Try.func31 (by kernel_rfl) (by kernel_rfl) rfl (show [a.eval (.const (.slice none 0 0)), a.eval (.tmp 5)] = [.slice none 0 0, .int .i64 c.k] from (by rw [show a.eval (.tmp 5) = .int .i64 c.k from (hD 1 5 (by kernel_rfl))] <;> rfl)) u) (fu8_gives _ (c.k) g [] u (OwnV.nil _ _) (by have := hgb0.out; have := hk.size; omega) (Nat.le_of_ble_eq_true (by kernel_rfl)))) ?_
    exact fsteps_nil
  intro gv w1 hV k1
  rw [show dstsOf _ 3 = [4, 5, 6] by kernel_rfl]
  simp only [List.foldl_cons, List.foldl_nil, List.setIfInBounds_toArray, List.set_cons_succ, List.set_cons_zero, List.drop_succ_cons, List.drop_zero]
  have hv6 : (.own g [u8 c.k] : Kn).p (gv 6) w1 := hV 2 6 (by kernel_rfl)
  generalize gv 6 = v6 at hv6 ⊢
  clear hV
  have HP1 := Lib.hid hv6
  generalize v6 = v3_1 at HP1 hv6 ⊢
  clear hv6
  have HB1 := Lib.hid (HB0.out.kept k1)
  have hgb1 : Hid (g ≤ w1.heap.size) := by show g ≤ _; have := k1.size; have := hgb0.out; omega
  have kw1 := kw0.trans k1
  clear kw0 k1
  have hc : w1.cell? ⟨g, 0, none⟩ = some (.int .i64 7) := by rw [← hkk.out]; exact HB1.out.fld 0 _ rfl
  go_upto_region 17 with fail
  refine wp_free 12 [.eq (v3_1), .eq (.pointer (some ⟨g, 3, none⟩)), .eq (.int .i64 c.inst), .own g ([u8 c.k] ++ [u8 c.inst]), .eq (.pointer (some ⟨g, 5, none⟩)), .eq (.int .i64 c.no), .eq (.pointer (some ⟨g, 7, none⟩)), .eq (.int .i64 c.price), .eq (.pointer (some ⟨g, 8, none⟩)), .eq (.int .i64 c.qty), .ints [(c.no), (c.price), (c.qty)], .own g (([u8 c.k] ++ [u8 c.inst]) ++ w32s [c.no, c.price, c.qty])] (by kernel_rfl) rfl (by kernel_rfl) ?_ ?_
  · refine fsteps_cons 1 rfl (fun a u hE hD hk => f_val (o := ⟨some 68, _, _, _, _, _⟩) (v3_1) rfl (wanted_none rfl _) (exec_move (.tmp 3) (v3_1) rfl (hE 3 (v3_1) (by kernel_rfl) (by kernel_rfl))) rfl) ?_
    refine fsteps_cons 2 rfl (fun a u hE hD hk => f_val (o := ⟨some 69, _, _, _, _, _⟩) (.pointer (some ⟨g, 3, none⟩)) rfl (wanted_none rfl _) (exec_fld 32 3 3 (.tmp 1) (g) rfl (hE 1 (.pointer (some ⟨g, 0, none⟩)) (by kernel_rfl) (by kernel_rfl)) (by kernel_rfl)) rfl) ?_
    refine fsteps_cons 3 rfl (fun a u hE hD hk => f_val (o := ⟨some 70, _, _, _, _, _⟩) (.int .i64 c.inst) rfl (wanted_none rfl _) (exec_loadi 3 Try.underlying3 (.tmp 69) ⟨g, 3, none⟩ (.int .i64 c.inst) rfl (hD 1 69 (by kernel_rfl)) ((HB1.out.kept hk).fld 3 _ rfl)) rfl) ?_
    refine fsteps_cons 4 rfl (fun a u hE hD hk => f_call (o := ⟨some 71, _, _, _, _, _⟩) 31 #[v3_1, .int .i64 c.inst] rfl (wanted_none rfl _) (exec_call 31 _ [.tmp 68, .tmp 70] _ [v3_1, .int .i64 c.inst] Try.func31 (by kernel_rfl) (by kernel_rfl) rfl (show [a.eval (.tmp 68), a.eval (.tmp 70)] = [v3_1, .int .i64 c.inst] from (by rw [show a.eval (.tmp 68) = v3_1 from (hD 0 68 (by kernel_rfl)), show a.eval (.tmp 70) = .int .i64 c.inst from (hD 2 70 (by kernel_rfl))] <;> rfl)) u) (fu8_gives _ (c.inst) g [u8 c.k] u (HP1.out.kept hk) (by have := hgb1.out; have := hk.size; omega) (Nat.le_of_ble_eq_true (by kernel_rfl)))) ?_
    refine fsteps_cons 5 rfl (fun a u hE hD hk => f_val (o := ⟨some 72, _, _, _, _, _⟩) (.pointer (some ⟨g, 5, none⟩)) rfl (wanted_none rfl _) (exec_fld 32 5 5 (.tmp 1) (g) rfl (hE 1 (.pointer (some ⟨g, 0, none⟩)) (by kernel_rfl) (by kernel_rfl)) (by kernel_rfl)) rfl) ?_
    refine fsteps_cons 6 rfl (fun a u hE hD hk => f_val (o := ⟨some 73, _, _, _, _, _⟩) (.int .i64 c.no) rfl (wanted_none rfl _) (exec_loadi 3 Try.underlying3 (.tmp 72) ⟨g, 5, none⟩ (.int .i64 c.no) rfl (hD 4 72 (by kernel_rfl)) ((HB1.out.kept hk).fld 5 _ rfl)) rfl) ?_
    refine fsteps_cons 7 rfl (fun a u hE hD hk => f_val (o := ⟨some 74, _, _, _, _, _⟩) (.pointer (some ⟨g, 7, none⟩)) rfl (wanted_none rfl _) (exec_fld 32 7 7 (.tmp 1) (g) rfl (hE 1 (.pointer (some ⟨g, 0, none⟩)) (by kernel_rfl) (by kernel_rfl)) (by kernel_rfl)) rfl) ?_
    refine fsteps_cons 8 rfl (fun a u hE hD hk => f_val (o := ⟨some 75, _, _, _, _, _⟩) (.int .i64 c.price) rfl (wanted_none rfl _) (exec_loadi 3 Try.underlying3 (.tmp 74) ⟨g, 7, none⟩ (.int .i64 c.price) rfl (hD 6 74 (by kernel_rfl)) ((HB1.out.kept hk).fld 7 _ rfl)) rfl) ?_
    refine fsteps_cons 9 rfl (fun a u hE hD hk => f_val (o := ⟨some 76, _, _, _, _, _⟩) (.pointer (some ⟨g, 8, none⟩)) rfl (wanted_none rfl _) (exec_fld 32 8 8 (.tmp 1) (g) rfl (hE 1 (.pointer (some ⟨g, 0, none⟩)) (by kernel_rfl) (by kernel_rfl)) (by kernel_rfl)) rfl) ?_
    refine fsteps_cons 10 rfl (fun a u hE hD hk => f_val (o := ⟨some 77, _, _, _, _, _⟩) (.int .i64 c.qty) rfl (wanted_none rfl _) (exec_loadi 3 Try.underlying3 (.tmp 76) ⟨g, 8, none⟩ (.int .i64 c.qty) rfl (hD 8 76 (by kernel_rfl)) ((HB1.out.kept hk).fld 8 _ rfl)) rfl) ?_
    refine fsteps_cons 11 rfl (fun a u hE hD hk => f_new (o := ⟨some 78, _, _, _, _, _⟩) (.slice (some ⟨u.heap.size, 0, none⟩) 3 3) _ rfl (wanted_none rfl _) (exec_ints 3 _ [(c.no), (c.price), (c.qty)] rfl rfl (by omega) (by omega) (by show [(0, a.eval (.tmp 73)), (1, a.eval (.tmp 75)), (2, a.eval (.tmp 77))] = [(0, .int .i64 c.no), (1, .int .i64 c.price), (2, .int .i64 c.qty)]; rw [show a.eval (.tmp 73) = .int .i64 c.no from (hD 5 73 (by kernel_rfl)), show a.eval (.tmp 75) = .int .i64 c.price from (hD 7 75 (by kernel_rfl)), show a.eval (.tmp 77) = .int .i64 c.qty from (hD 9 77 (by kernel_rfl))])) (ints_new u [(c.no), (c.price), (c.qty)] 3 rfl) ((Keep.refl _ u).alloc _)) ?_
    refine fsteps_cons 12 rfl (fun a u hE hD hk => f_call (o := ⟨some 79, _, _, _, _, _⟩) 32 #[a.eval (.tmp 71), a.eval (.tmp 78)] rfl (wanted_none rfl _) (exec_call 32 _ [.tmp 71, .tmp 78] _ [a.eval (.tmp 71), a.eval (.tmp 78)] Try.func32 (by kernel_rfl) (by kernel_rfl) rfl rfl u) (u32s_any _ _ g ([u8 c.k] ++ [u8 c.inst]) [c.no, c.price, c.qty] u (hD 3 71 (by kernel_rfl)) (hD 10 78 (by kernel_rfl)) (by have := hgb1.out; have := hk.size; omega) (Nat.le_of_ble_eq_true (by kernel_rfl)) (Nat.le_of_ble_eq_true (by kernel_rfl)))) ?_
    exact fsteps_nil
  intro gv w2 hV k2
  rw [show dstsOf _ 12 = [68, 69, 70, 71, 72, 73, 74, 75, 76, 77, 78, 79] by kernel_rfl]
  simp only [List.foldl_cons, List.foldl_nil, List.setIfInBounds_toArray, List.set_cons_succ, List.set_cons_zero, List.drop_succ_cons, List.drop_zero]
  have hv79 : (.own g (([u8 c.k] ++ [u8 c.inst]) ++ w32s [c.no, c.price, c.qty]) : Kn).p (gv 79) w2 := hV 11 79 (by kernel_rfl)
  generalize gv 79 = v79 at hv79 ⊢
  clear hV
  have HP2 := Lib.hid hv79
  generalize v79 = v3_2 at HP2 hv79 ⊢
  clear hv79
  have HB2 := Lib.hid (HB1.out.kept k2)
  have hgb2 : Hid (g ≤ w2.heap.size) := by show g ≤ _; have := k2.size; have := hgb1.out; omega
  have kw2 := kw1.trans k2
  clear kw1 k2
  go_wp2
  go_ret
  have he : (([u8 c.k] ++ [u8 c.inst]) ++ w32s [c.no, c.price, c.qty]) = c.enc := by simp [Nte.enc, hkk.out, w32s]
  rw [← he]
  exact ⟨_, rfl, HP2.out.low hgw.out, kw2⟩

set_option maxRecDepth 100000 in
set_option maxHeartbeats 3200000 in
theorem putNote_8 (c : Nte) (w : World) (hkk : Hid (c.k = 8)) (HT : Hid (c.sum.length = 32)) : Gives 16 #[c.v] w (.own w.heap.size c.enc) := by
  unfold Gives Nte.v
  have HB0 : Hid (Blk (w.alloc (.cells c.cells.toArray 32)) w.heap.size 32 c.cells) := Blk.new w _ _
  have kw0 : Kept w (w.alloc (.cells c.cells.toArray 32)) := (Keep.refl _ w).alloc _
  go_enter Try.func16, Try.ntmps16
  go_upto_region 1 with fail
  generalize w.alloc (.cells c.cells.toArray 32) = w0 at HB0 kw0 ⊢
  obtain ⟨g, hg⟩ : ∃ g, g = w.heap.size := ⟨_, rfl⟩
  rw [← hg] at HB0 ⊢
  have hgb0 : Hid (g ≤ w0.heap.size) := by show g ≤ _; have := kw0.size; omega
  have hgw : Hid (w.heap.size ≤ g) := by show _ ≤ g; omega
  clear hg
  refine wp_text 3 [.eq (.pointer (some ⟨g, 0, none⟩)), .eq (.int .i64 c.k), .own g [u8 c.k]] rfl (by kernel_rfl) ?_ ?_
  · refine fsteps_cons 1 rfl (fun a u hE hD hk => f_val (o := ⟨some 4, _, _, _, _, _⟩) (.pointer (some ⟨g, 0, none⟩)) rfl (wanted_none rfl _) (exec_fld 32 0 0 (.tmp 1) (g) rfl (hE 1 (.pointer (some ⟨g, 0, none⟩)) (by kernel_rfl) (by kernel_rfl)) (by kernel_rfl)) rfl) ?_
    refine fsteps_cons 2 rfl (fun a u hE hD hk => f_val (o := ⟨some 5, _, _, _, _, _⟩) (.int .i64 c.k) rfl (wanted_none rfl _) (exec_loadi 3 Try.underlying3 (.tmp 4) ⟨g, 0, none⟩ (.int .i64 c.k) rfl (hD 0 4 (by kernel_rfl)) ((HB0.out.kept hk).fld 0 _ rfl)) rfl) ?_
    refine fsteps_cons 3 rfl (fun a u hE hD hk => f_call (o := ⟨some 6, _, _, _, _, _⟩) 31 #[.slice none 0 0, .int .i64 c.k] rfl (wanted_none rfl _) (exec_call 31 _ [.const (.slice none 0 0), .tmp 5] _ [.slice none 0 0, .int .i64 c.k] Try.func31 (by kernel_rfl) (by kernel_rfl) rfl (show [a.eval (.const (.slice none 0 0)), a.eval (.tmp 5)] = [.slice none 0 0, .int .i64 c.k] from (by rw [show a.eval (.tmp 5) = .int .i64 c.k from (hD 1 5 (by kernel_rfl))] <;> rfl)) u) (fu8_gives _ (c.k) g [] u (OwnV.nil _ _) (by have := hgb0.out; have := hk.size; omega) (Nat.le_of_ble_eq_true (by kernel_rfl)))) ?_
    exact fsteps_nil
  intro gv w1 hV k1
  rw [show dstsOf _ 3 = [4, 5, 6] by kernel_rfl]
  simp only [List.foldl_cons, List.foldl_nil, List.setIfInBounds_toArray, List.set_cons_succ, List.set_cons_zero, List.drop_succ_cons, List.drop_zero]
  have hv6 : (.own g [u8 c.k] : Kn).p (gv 6) w1 := hV 2 6 (by kernel_rfl)
  generalize gv 6 = v6 at hv6 ⊢
  clear hV
  have HP1 := Lib.hid hv6
  generalize v6 = v3_1 at HP1 hv6 ⊢
  clear hv6
  have HB1 := Lib.hid (HB0.out.kept k1)
  have hgb1 : Hid (g ≤ w1.heap.size) := by show g ≤ _; have := k1.size; have := hgb0.out; omega
  have kw1 := kw0.trans k1
  clear kw0 k1
  have hc : w1.cell? ⟨g, 0, none⟩ = some (.int .i64 8) := by rw [← hkk.out]; exact HB1.out.fld 0 _ rfl
  go_upto_region 19 with fail
  refine wp_free 13 [.eq (v3_1), .eq (.pointer (some ⟨g, 3, none⟩)), .eq (.int .i64 c.inst), .own g ([u8 c.k] ++ [u8 c.inst]), .eq (.pointer (some ⟨g, 6, none⟩)), .eq (.int .i64 c.side), .own g (([u8 c.k] ++ [u8 c.inst]) ++ [u8 c.side]), .eq (.pointer (some ⟨g, 7, none⟩)), .eq (.int .i64 c.price), .eq (.pointer (some ⟨g, 8, none⟩)), .eq (.int .i64 c.qty), .ints [(c.price), (c.qty)], .own g ((([u8 c.k] ++ [u8 c.inst]) ++ [u8 c.side]) ++ w32s [c.price, c.qty])] (by kernel_rfl) rfl (by kernel_rfl) ?_ ?_
  · refine fsteps_cons 1 rfl (fun a u hE hD hk => f_val (o := ⟨some 82, _, _, _, _, _⟩) (v3_1) rfl (wanted_none rfl _) (exec_move (.tmp 3) (v3_1) rfl (hE 3 (v3_1) (by kernel_rfl) (by kernel_rfl))) rfl) ?_
    refine fsteps_cons 2 rfl (fun a u hE hD hk => f_val (o := ⟨some 83, _, _, _, _, _⟩) (.pointer (some ⟨g, 3, none⟩)) rfl (wanted_none rfl _) (exec_fld 32 3 3 (.tmp 1) (g) rfl (hE 1 (.pointer (some ⟨g, 0, none⟩)) (by kernel_rfl) (by kernel_rfl)) (by kernel_rfl)) rfl) ?_
    refine fsteps_cons 3 rfl (fun a u hE hD hk => f_val (o := ⟨some 84, _, _, _, _, _⟩) (.int .i64 c.inst) rfl (wanted_none rfl _) (exec_loadi 3 Try.underlying3 (.tmp 83) ⟨g, 3, none⟩ (.int .i64 c.inst) rfl (hD 1 83 (by kernel_rfl)) ((HB1.out.kept hk).fld 3 _ rfl)) rfl) ?_
    refine fsteps_cons 4 rfl (fun a u hE hD hk => f_call (o := ⟨some 85, _, _, _, _, _⟩) 31 #[v3_1, .int .i64 c.inst] rfl (wanted_none rfl _) (exec_call 31 _ [.tmp 82, .tmp 84] _ [v3_1, .int .i64 c.inst] Try.func31 (by kernel_rfl) (by kernel_rfl) rfl (show [a.eval (.tmp 82), a.eval (.tmp 84)] = [v3_1, .int .i64 c.inst] from (by rw [show a.eval (.tmp 82) = v3_1 from (hD 0 82 (by kernel_rfl)), show a.eval (.tmp 84) = .int .i64 c.inst from (hD 2 84 (by kernel_rfl))] <;> rfl)) u) (fu8_gives _ (c.inst) g [u8 c.k] u (HP1.out.kept hk) (by have := hgb1.out; have := hk.size; omega) (Nat.le_of_ble_eq_true (by kernel_rfl)))) ?_
    refine fsteps_cons 5 rfl (fun a u hE hD hk => f_val (o := ⟨some 86, _, _, _, _, _⟩) (.pointer (some ⟨g, 6, none⟩)) rfl (wanted_none rfl _) (exec_fld 32 6 6 (.tmp 1) (g) rfl (hE 1 (.pointer (some ⟨g, 0, none⟩)) (by kernel_rfl) (by kernel_rfl)) (by kernel_rfl)) rfl) ?_
    refine fsteps_cons 6 rfl (fun a u hE hD hk => f_val (o := ⟨some 87, _, _, _, _, _⟩) (.int .i64 c.side) rfl (wanted_none rfl _) (exec_loadi 3 Try.underlying3 (.tmp 86) ⟨g, 6, none⟩ (.int .i64 c.side) rfl (hD 4 86 (by kernel_rfl)) ((HB1.out.kept hk).fld 6 _ rfl)) rfl) ?_
    refine fsteps_cons 7 rfl (fun a u hE hD hk => f_call (o := ⟨some 88, _, _, _, _, _⟩) 31 #[a.eval (.tmp 85), .int .i64 c.side] rfl (wanted_none rfl _) (exec_call 31 _ [.tmp 85, .tmp 87] _ [a.eval (.tmp 85), .int .i64 c.side] Try.func31 (by kernel_rfl) (by kernel_rfl) rfl (show [a.eval (.tmp 85), a.eval (.tmp 87)] = [a.eval (.tmp 85), .int .i64 c.side] from (by rw [show a.eval (.tmp 87) = .int .i64 c.side from (hD 5 87 (by kernel_rfl))] <;> rfl)) u) (fu8_gives _ (c.side) g ([u8 c.k] ++ [u8 c.inst]) u (hD 3 85 (by kernel_rfl)) (by have := hgb1.out; have := hk.size; omega) (Nat.le_of_ble_eq_true (by kernel_rfl)))) ?_
    refine fsteps_cons 8 rfl (fun a u hE hD hk => f_val (o := ⟨some 89, _, _, _, _, _⟩) (.pointer (some ⟨g, 7, none⟩)) rfl (wanted_none rfl _) (exec_fld 32 7 7 (.tmp 1) (g) rfl (hE 1 (.pointer (some ⟨g, 0, none⟩)) (by kernel_rfl) (by kernel_rfl)) (by kernel_rfl)) rfl) ?_
    refine fsteps_cons 9 rfl (fun a u hE hD hk => f_val (o := ⟨some 90, _, _, _, _, _⟩) (.int .i64 c.price) rfl (wanted_none rfl _) (exec_loadi 3 Try.underlying3 (.tmp 89) ⟨g, 7, none⟩ (.int .i64 c.price) rfl (hD 7 89 (by kernel_rfl)) ((HB1.out.kept hk).fld 7 _ rfl)) rfl) ?_
    refine fsteps_cons 10 rfl (fun a u hE hD hk => f_val (o := ⟨some 91, _, _, _, _, _⟩) (.pointer (some ⟨g, 8, none⟩)) rfl (wanted_none rfl _) (exec_fld 32 8 8 (.tmp 1) (g) rfl (hE 1 (.pointer (some ⟨g, 0, none⟩)) (by kernel_rfl) (by kernel_rfl)) (by kernel_rfl)) rfl) ?_
    refine fsteps_cons 11 rfl (fun a u hE hD hk => f_val (o := ⟨some 92, _, _, _, _, _⟩) (.int .i64 c.qty) rfl (wanted_none rfl _) (exec_loadi 3 Try.underlying3 (.tmp 91) ⟨g, 8, none⟩ (.int .i64 c.qty) rfl (hD 9 91 (by kernel_rfl)) ((HB1.out.kept hk).fld 8 _ rfl)) rfl) ?_
    refine fsteps_cons 12 rfl (fun a u hE hD hk => f_new (o := ⟨some 93, _, _, _, _, _⟩) (.slice (some ⟨u.heap.size, 0, none⟩) 2 2) _ rfl (wanted_none rfl _) (exec_ints 2 _ [(c.price), (c.qty)] rfl rfl (by omega) (by omega) (by show [(0, a.eval (.tmp 90)), (1, a.eval (.tmp 92))] = [(0, .int .i64 c.price), (1, .int .i64 c.qty)]; rw [show a.eval (.tmp 90) = .int .i64 c.price from (hD 8 90 (by kernel_rfl)), show a.eval (.tmp 92) = .int .i64 c.qty from (hD 10 92 (by kernel_rfl))])) (ints_new u [(c.price), (c.qty)] 2 rfl) ((Keep.refl _ u).alloc _)) ?_
    refine fsteps_cons 13 rfl (fun a u hE hD hk => f_call (o := ⟨some 94, _, _, _, _, _⟩) 32 #[a.eval (.tmp 88), a.eval (.tmp 93)] rfl (wanted_none rfl _) (exec_call 32 _ [.tmp 88, .tmp 93] _ [a.eval (.tmp 88), a.eval (.tmp 93)] Try.func32 (by kernel_rfl) (by kernel_rfl) rfl rfl u) (u32s_any _ _ g (([u8 c.k] ++ [u8 c.inst]) ++ [u8 c.side]) [c.price, c.qty] u (hD 6 88 (by kernel_rfl)) (hD 11 93 (by kernel_rfl)) (by have := hgb1.out; have := hk.size; omega) (Nat.le_of_ble_eq_true (by kernel_rfl)) (Nat.le_of_ble_eq_true (by kernel_rfl)))) ?_
    exact fsteps_nil
  intro gv w2 hV k2
  rw [show dstsOf _ 13 = [82, 83, 84, 85, 86, 87, 88, 89, 90, 91, 92, 93, 94] by kernel_rfl]
  simp only [List.foldl_cons, List.foldl_nil, List.setIfInBounds_toArray, List.set_cons_succ, List.set_cons_zero, List.drop_succ_cons, List.drop_zero]
  have hv94 : (.own g ((([u8 c.k] ++ [u8 c.inst]) ++ [u8 c.side]) ++ w32s [c.price, c.qty]) : Kn).p (gv 94) w2 := hV 12 94 (by kernel_rfl)
  generalize gv 94 = v94 at hv94 ⊢
  clear hV
  have HP2 := Lib.hid hv94
  generalize v94 = v3_2 at HP2 hv94 ⊢
  clear hv94
  have HB2 := Lib.hid (HB1.out.kept k2)
  have hgb2 : Hid (g ≤ w2.heap.size) := by show g ≤ _; have := k2.size; have := hgb1.out; omega
  have kw2 := kw1.trans k2
  clear kw1 k2
  go_wp2
  go_ret
  have he : ((([u8 c.k] ++ [u8 c.inst]) ++ [u8 c.side]) ++ w32s [c.price, c.qty]) = c.enc := by simp [Nte.enc, hkk.out, w32s]
  rw [← he]
  exact ⟨_, rfl, HP2.out.low hgw.out, kw2⟩

set_option maxRecDepth 100000 in
set_option maxHeartbeats 3200000 in
theorem putNote_9 (c : Nte) (w : World) (hkk : Hid (c.k = 9)) (HT : Hid (c.sum.length = 32)) : Gives 16 #[c.v] w (.own w.heap.size c.enc) := by
  unfold Gives Nte.v
  have HB0 : Hid (Blk (w.alloc (.cells c.cells.toArray 32)) w.heap.size 32 c.cells) := Blk.new w _ _
  have kw0 : Kept w (w.alloc (.cells c.cells.toArray 32)) := (Keep.refl _ w).alloc _
  go_enter Try.func16, Try.ntmps16
  go_upto_region 1 with fail
  generalize w.alloc (.cells c.cells.toArray 32) = w0 at HB0 kw0 ⊢
  obtain ⟨g, hg⟩ : ∃ g, g = w.heap.size := ⟨_, rfl⟩
  rw [← hg] at HB0 ⊢
  have hgb0 : Hid (g ≤ w0.heap.size) := by show g ≤ _; have := kw0.size; omega
  have hgw : Hid (w.heap.size ≤ g) := by show _ ≤ g; omega
  clear hg
  refine wp_text 3 [.eq (.pointer (some ⟨g, 0, none⟩)), .eq (.int .i64 c.k), .own g [u8 c.k]] rfl (by kernel_rfl) ?_ ?_
  · refine fsteps_cons 1 rfl (fun a u hE hD hk => f_val (o := ⟨some 4, _, _, _, _, _⟩) (.pointer (some ⟨g, 0, none⟩)) rfl (wanted_none rfl _) (exec_fld 32 0 0 (.tmp 1) (g) rfl (hE 1 (.pointer (some ⟨g, 0, none⟩)) (by kernel_rfl) (by kernel_rfl)) (by kernel_rfl)) rfl) ?_
    refine fsteps_cons 2 rfl (fun a u hE hD hk => f_val (o := ⟨some 5, _, _, _, _, _⟩) (.int .i64 c.k) rfl (wanted_none rfl _) (exec_loadi 3 Try.underlying3 (.tmp 4) ⟨g, 0, none⟩ (.int .i64 c.k) rfl (hD 0 4 (by kernel_rfl)) ((HB0.out.kept hk).fld 0 _ rfl)) rfl) ?_
    refine fsteps_cons 3 rfl (fun a u hE hD hk => f_call (o := ⟨some 6, _, _, _, _, _⟩) 31 #[.slice none 0 0, .int .i64 c.k] rfl (wanted_none rfl _) (exec_call 31 _ [.const (.slice none 0 0), .tmp 5] _ [.slice none 0 0, .int .i64 c.k] Try.func31 (by kernel_rfl) (by kernel_rfl) rfl (show [a.eval (.const (.slice none 0 0)), a.eval (.tmp 5)] = [.slice none 0 0, .int .i64 c.k] from (by rw [show a.eval (.tmp 5) = .int .i64 c.k from (hD 1 5 (by kernel_rfl))] <;> rfl)) u) (fu8_gives _ (c.k) g [] u (OwnV.nil _ _) (by have := hgb0.out; have := hk.size; omega) (Nat.le_of_ble_eq_true (by kernel_rfl)))) ?_
    exact fsteps_nil
  intro gv w1 hV k1
  rw [show dstsOf _ 3 = [4, 5, 6] by kernel_rfl]
  simp only [List.foldl_cons, List.foldl_nil, List.setIfInBounds_toArray, List.set_cons_succ, List.set_cons_zero, List.drop_succ_cons, List.drop_zero]
  have hv6 : (.own g [u8 c.k] : Kn).p (gv 6) w1 := hV 2 6 (by kernel_rfl)
  generalize gv 6 = v6 at hv6 ⊢
  clear hV
  have HP1 := Lib.hid hv6
  generalize v6 = v3_1 at HP1 hv6 ⊢
  clear hv6
  have HB1 := Lib.hid (HB0.out.kept k1)
  have hgb1 : Hid (g ≤ w1.heap.size) := by show g ≤ _; have := k1.size; have := hgb0.out; omega
  have kw1 := kw0.trans k1
  clear kw0 k1
  have hc : w1.cell? ⟨g, 0, none⟩ = some (.int .i64 9) := by rw [← hkk.out]; exact HB1.out.fld 0 _ rfl
  go_wp2
  go_ret
  have he : [u8 c.k] = c.enc := by simp [Nte.enc, hkk.out]
  rw [← he]
  exact ⟨_, rfl, HP1.out.low hgw.out, kw1⟩

set_option maxRecDepth 100000 in
set_option maxHeartbeats 3200000 in
theorem putNote_d (c : Nte) (w : World) (d1 : ((c.k : Int) == 1) = false) (d2 : ((c.k : Int) == 2) = false) (d3 : ((c.k : Int) == 3) = false) (d4 : ((c.k : Int) == 4) = false) (d5 : ((c.k : Int) == 5) = false) (d6 : ((c.k : Int) == 6) = false) (d7 : ((c.k : Int) == 7) = false) (d8 : ((c.k : Int) == 8) = false) (d9 : ((c.k : Int) == 9) = false) (HT : Hid (c.sum.length = 32)) : Gives 16 #[c.v] w (.own w.heap.size c.enc) := by
  unfold Gives Nte.v
  have HB0 : Hid (Blk (w.alloc (.cells c.cells.toArray 32)) w.heap.size 32 c.cells) := Blk.new w _ _
  have kw0 : Kept w (w.alloc (.cells c.cells.toArray 32)) := (Keep.refl _ w).alloc _
  go_enter Try.func16, Try.ntmps16
  go_upto_region 1 with fail
  generalize w.alloc (.cells c.cells.toArray 32) = w0 at HB0 kw0 ⊢
  obtain ⟨g, hg⟩ : ∃ g, g = w.heap.size := ⟨_, rfl⟩
  rw [← hg] at HB0 ⊢
  have hgb0 : Hid (g ≤ w0.heap.size) := by show g ≤ _; have := kw0.size; omega
  have hgw : Hid (w.heap.size ≤ g) := by show _ ≤ g; omega
  clear hg
  refine wp_text 3 [.eq (.pointer (some ⟨g, 0, none⟩)), .eq (.int .i64 c.k), .own g [u8 c.k]] rfl (by kernel_rfl) ?_ ?_
  · refine fsteps_cons 1 rfl (fun a u hE hD hk => f_val (o := ⟨some 4, _, _, _, _, _⟩) (.pointer (some ⟨g, 0, none⟩)) rfl (wanted_none rfl _) (exec_fld 32 0 0 (.tmp 1) (g) rfl (hE 1 (.pointer (some ⟨g, 0, none⟩)) (by kernel_rfl) (by kernel_rfl)) (by kernel_rfl)) rfl) ?_
    refine fsteps_cons 2 rfl (fun a u hE hD hk => f_val (o := ⟨some 5, _, _, _, _, _⟩) (.int .i64 c.k) rfl (wanted_none rfl _) (exec_loadi 3 Try.underlying3 (.tmp 4) ⟨g, 0, none⟩ (.int .i64 c.k) rfl (hD 0 4 (by kernel_rfl)) ((HB0.out.kept hk).fld 0 _ rfl)) rfl) ?_
    refine fsteps_cons 3 rfl (fun a u hE hD hk => f_call (o := ⟨some 6, _, _, _, _, _⟩) 31 #[.slice none 0 0, .int .i64 c.k] rfl (wanted_none rfl _) (exec_call 31 _ [.const (.slice none 0 0), .tmp 5] _ [.slice none 0 0, .int .i64 c.k] Try.func31 (by kernel_rfl) (by kernel_rfl) rfl (show [a.eval (.const (.slice none 0 0)), a.eval (.tmp 5)] = [.slice none 0 0, .int .i64 c.k] from (by rw [show a.eval (.tmp 5) = .int .i64 c.k from (hD 1 5 (by kernel_rfl))] <;> rfl)) u) (fu8_gives _ (c.k) g [] u (OwnV.nil _ _) (by have := hgb0.out; have := hk.size; omega) (Nat.le_of_ble_eq_true (by kernel_rfl)))) ?_
    exact fsteps_nil
  intro gv w1 hV k1
  rw [show dstsOf _ 3 = [4, 5, 6] by kernel_rfl]
  simp only [List.foldl_cons, List.foldl_nil, List.setIfInBounds_toArray, List.set_cons_succ, List.set_cons_zero, List.drop_succ_cons, List.drop_zero]
  have hv6 : (.own g [u8 c.k] : Kn).p (gv 6) w1 := hV 2 6 (by kernel_rfl)
  generalize gv 6 = v6 at hv6 ⊢
  clear hV
  have HP1 := Lib.hid hv6
  generalize v6 = v3_1 at HP1 hv6 ⊢
  clear hv6
  have HB1 := Lib.hid (HB0.out.kept k1)
  have hgb1 : Hid (g ≤ w1.heap.size) := by show g ≤ _; have := k1.size; have := hgb0.out; omega
  have kw1 := kw0.trans k1
  clear kw0 k1
  have hc : w1.cell? ⟨g, 0, none⟩ = some (.int .i64 c.k) := HB1.out.fld 0 _ rfl
  go_wp2
  go_ret
  have E1 : c.k ≠ 1 := by simpa using d1
  have E2 : c.k ≠ 2 := by simpa using d2
  have E3 : c.k ≠ 3 := by simpa using d3
  have E4 : c.k ≠ 4 := by simpa using d4
  have E5 : c.k ≠ 5 := by simpa using d5
  have E6 : c.k ≠ 6 := by simpa using d6
  have E7 : c.k ≠ 7 := by simpa using d7
  have E8 : c.k ≠ 8 := by simpa using d8
  have E9 : c.k ≠ 9 := by simpa using d9
  have he : ([] : List UInt8) = c.enc := by simp [Nte.enc, E1, E2, E3, E4, E5, E6, E7, E8, E9]
  rw [← he]
  exact ⟨_, rfl, OwnV.nil _ _, kw1⟩

theorem putNote_any (c : Nte) (w : World) (HT : Hid (c.sum.length = 32)) : Gives 16 #[c.v] w (.own w.heap.size c.enc) := by
  by_cases h1 : c.k = 1
  · exact putNote_1 c w h1 HT
  by_cases h2 : c.k = 2
  · exact putNote_2 c w h2 HT
  by_cases h3 : c.k = 3
  · exact putNote_3 c w h3 HT
  by_cases h4 : c.k = 4
  · exact putNote_4 c w h4 HT
  by_cases h5 : c.k = 5
  · exact putNote_5 c w h5 HT
  by_cases h6 : c.k = 6
  · exact putNote_6 c w h6 HT
  by_cases h7 : c.k = 7
  · exact putNote_7 c w h7 HT
  by_cases h8 : c.k = 8
  · exact putNote_8 c w h8 HT
  by_cases h9 : c.k = 9
  · exact putNote_9 c w h9 HT
  exact putNote_d c w (by simpa using h1) (by simpa using h2) (by simpa using h3) (by simpa using h4) (by simpa using h5) (by simpa using h6) (by simpa using h7) (by simpa using h8) (by simpa using h9) HT
end Go.Proofs.Ytdmeiffofmagjaa
