/-
  The contract of jobberlaw6.MsgTells: any command, any note: the program's answers are the document's own; it answers true. Condition: the sums have 32 bytes.
-/
import Derived.Test.YtdmeiffofmagjaaRuns6
import Derived.Test.YtdmeiffofmagjaaRefW
import Derived.Test.YtdmeiffofmagjaaRefNt
namespace Go.Proofs.Ytdmeiffofmagjaa
open Go.RowKit
set_option linter.unusedVariables false

set_option maxRecDepth 100000 in
set_option maxHeartbeats 1600000 in
theorem putCmd_f (c : Cmd) (w : World) (HT : Hid (c.tag.length = 32)) (hR : Hid (c.right = false)) : Gives 15 #[c.v] w (.bytes []) := by
  unfold Gives Cmd.v
  have HB0 : Hid (Blk (w.alloc (.cells c.cells.toArray 28)) w.heap.size 28 c.cells) := Blk.new w _ _
  have kw0 : Kept w (w.alloc (.cells c.cells.toArray 28)) := (Keep.refl _ w).alloc _
  go_enter Try.func15, Try.ntmps15
  go_upto_region 1 with fail
  generalize w.alloc (.cells c.cells.toArray 28) = w0 at HB0 kw0 ⊢
  generalize w.heap.size = g at HB0 ⊢
  refine wp_text 2 [.eq (c.v), .eq (.bool false)] rfl (by kernel_rfl) ?_ ?_
  · refine fsteps_cons 1 rfl (fun a u hE hD hk => f_val (o := ⟨some 4, _, _, _, _, _⟩) (c.v) rfl (wanted_none rfl _) (exec_loadS 28 (.tmp 1) (g) _ c.cells _ rfl (hE 1 (.pointer (some ⟨g, 0, none⟩)) (by kernel_rfl) (by kernel_rfl)) (HB0.out.kept hk) Try.underlying28 (by rw [Cmd.cells_len _ HT.out]; exact cmd_size)) rfl) ?_
    refine fsteps_cons 2 rfl (fun a u hE hD hk => f_call (o := ⟨some 5, _, _, _, _, _⟩) 14 #[c.v] rfl (wanted_none rfl _) (exec_call 14 _ [.tmp 4] _ [c.v] Try.func14 (by kernel_rfl) (by kernel_rfl) rfl (show [a.eval (.tmp 4)] = [c.v] from (by rw [show a.eval (.tmp 4) = c.v from (hD 0 4 (by kernel_rfl))] <;> rfl)) u) (right_is c false u HT hR.out)) ?_
    exact fsteps_nil
  intro gv w1 hV k1
  rw [show dstsOf _ 2 = [4, 5] by kernel_rfl]
  simp only [List.foldl_cons, List.foldl_nil, List.setIfInBounds_toArray, List.set_cons_succ, List.set_cons_zero, List.drop_succ_cons, List.drop_zero]
  rw [show gv 5 = .bool false from hV 1 5 (by kernel_rfl)]
  clear hV
  have kw1 := kw0.trans k1
  go_wp2
  go_ret
  exact ⟨_, rfl, OwnV.bytes (OwnV.nil 0 _), kw1⟩
theorem putCmd_bytes (c : Cmd) (w : World) (HT : Hid (c.tag.length = 32)) : Gives 15 #[c.v] w (.bytes c.putB) := by
  unfold Cmd.putB
  cases h : c.right with
  | false => exact putCmd_f c w HT h
  | true => exact (putCmd_any c w HT h).mono fun e w' ⟨v, h1, h2, h3⟩ => ⟨v, h1, OwnV.bytes h2, h3⟩
theorem putNote_bytes (c : Nte) (w : World) (HT : Hid (c.sum.length = 32)) : Gives 16 #[c.v] w (.bytes c.enc) :=
  (putNote_any c w HT).mono fun e w' ⟨v, h1, h2, h3⟩ => ⟨v, h1, OwnV.bytes h2, h3⟩

set_option maxRecDepth 100000 in
set_option maxHeartbeats 3200000 in
theorem msgTells_any (c : Cmd) (d : Nte) (w : World) (HTc : Hid (c.tag.length = 32)) (HTd : Hid (d.sum.length = 32)) : Calls Try.prog 4 #[c.v, d.v] w fun e w' => e = .returned (.bool true) ∧ Kept w w' := by
  unfold Cmd.v Nte.v
  have k1 : Kept w (w.alloc (.cells c.cells.toArray 28)) := (Keep.refl _ w).alloc _
  have B1 := Blk.new w 28 c.cells
  have k2 : Kept (w.alloc (.cells c.cells.toArray 28)) ((w.alloc (.cells c.cells.toArray 28)).alloc (.cells d.cells.toArray 32)) := (Keep.refl _ _).alloc _
  have B2 := Blk.new (w.alloc (.cells c.cells.toArray 28)) 32 d.cells
  have HC : Hid (Blk ((w.alloc (.cells c.cells.toArray 28)).alloc (.cells d.cells.toArray 32)) w.heap.size 28 c.cells) := B1.kept k2
  have HD : Hid (Blk ((w.alloc (.cells c.cells.toArray 28)).alloc (.cells d.cells.toArray 32)) (w.heap.size + 1) 32 d.cells) := by
    have h := B2
    rw [show (w.alloc (.cells c.cells.toArray 28)).heap.size = w.heap.size + 1 by simp] at h
    exact h
  have kw0 := k1.trans k2
  clear B1 B2 k1 k2
  go_enter Try.func4, Try.ntmps4
  go_upto_region 1 with fail
  generalize w.heap.size + 1 = gd at HD ⊢
  generalize w.heap.size = gc at HC ⊢
  generalize (w.alloc (.cells c.cells.toArray 28)).alloc (.cells d.cells.toArray 32) = w0 at HC HD kw0 ⊢
  refine wp_free 22 [.eq (c.v), .eq (.bool (c.right)), .eq (c.v), .eq (.bool (c.right)), .eq (.bool true), .eq (.bool true), .eq (c.v), .bytes c.putB, .eq (c.v), .bytes c.putB, .eq (.bool true), .eq (.bool true), .eq (.bool true), .eq (d.v), .bytes d.enc, .eq (d.v), .bytes d.enc, .eq (.bool true), .eq (.bool true), .eq (.bool true), .eq (.bool true), .eq (.bool true)] (by kernel_rfl) rfl (by kernel_rfl) ?_ ?_
  · refine fsteps_cons 1 rfl (fun a u hE hD hk => f_val (o := ⟨some 5, _, _, _, _, _⟩) (c.v) rfl (wanted_none rfl _) (exec_loadS 28 (.tmp 2) (gc) _ c.cells _ rfl (hE 2 (.pointer (some ⟨gc, 0, none⟩)) (by kernel_rfl) (by kernel_rfl)) (HC.out.kept hk) Try.underlying28 (by rw [Cmd.cells_len _ HTc.out]; exact cmd_size)) rfl) ?_
    refine fsteps_cons 2 rfl (fun a u hE hD hk => f_call (o := ⟨some 6, _, _, _, _, _⟩) 13 #[c.v] rfl (wanted_none rfl _) (exec_call 13 _ [.tmp 5] _ [c.v] Try.func13 (by kernel_rfl) (by kernel_rfl) rfl (show [a.eval (.tmp 5)] = [c.v] from (by rw [show a.eval (.tmp 5) = c.v from (hD 0 5 (by kernel_rfl))] <;> rfl)) u) (msgRight_is c c.right u HTc rfl)) ?_
    refine fsteps_cons 3 rfl (fun a u hE hD hk => f_val (o := ⟨some 7, _, _, _, _, _⟩) (c.v) rfl (wanted_none rfl _) (exec_loadS 28 (.tmp 2) (gc) _ c.cells _ rfl (hE 2 (.pointer (some ⟨gc, 0, none⟩)) (by kernel_rfl) (by kernel_rfl)) (HC.out.kept hk) Try.underlying28 (by rw [Cmd.cells_len _ HTc.out]; exact cmd_size)) rfl) ?_
    refine fsteps_cons 4 rfl (fun a u hE hD hk => f_call (o := ⟨some 8, _, _, _, _, _⟩) 14 #[c.v] rfl (wanted_none rfl _) (exec_call 14 _ [.tmp 7] _ [c.v] Try.func14 (by kernel_rfl) (by kernel_rfl) rfl (show [a.eval (.tmp 7)] = [c.v] from (by rw [show a.eval (.tmp 7) = c.v from (hD 2 7 (by kernel_rfl))] <;> rfl)) u) (right_is c c.right u HTc rfl)) ?_
    refine fsteps_cons 5 rfl (fun a u hE hD hk => f_val (o := ⟨some 9, _, _, _, _, _⟩) (.bool true) rfl (wanted_none rfl _) (exec_eqb (.tmp 6) (.tmp 8) _ c.right c.right true rfl (hD 1 6 (by kernel_rfl)) (hD 3 8 (by kernel_rfl)) (by simp)) rfl) ?_
    refine fsteps_cons 6 rfl (fun a u hE hD hk => f_val (o := ⟨some 10, _, _, _, _, _⟩) (.bool true) rfl (wanted_none rfl _) (exec_move (.tmp 9) (.bool true) rfl (hD 4 9 (by kernel_rfl))) rfl) ?_
    refine fsteps_cons 7 rfl (fun a u hE hD hk => f_val (o := ⟨some 11, _, _, _, _, _⟩) (c.v) rfl (wanted_at (b := true) true rfl rfl (hD 5 10 (by kernel_rfl))) (exec_loadS 28 (.tmp 2) (gc) _ c.cells _ rfl (hE 2 (.pointer (some ⟨gc, 0, none⟩)) (by kernel_rfl) (by kernel_rfl)) (HC.out.kept hk) Try.underlying28 (by rw [Cmd.cells_len _ HTc.out]; exact cmd_size)) rfl) ?_
    refine fsteps_cons 8 rfl (fun a u hE hD hk => f_call (o := ⟨some 12, _, _, _, _, _⟩) 11 #[c.v] rfl (wanted_at (b := true) true rfl rfl (hD 5 10 (by kernel_rfl))) (exec_call 11 _ [.tmp 11] _ [c.v] Try.func11 (by kernel_rfl) (by kernel_rfl) rfl (show [a.eval (.tmp 11)] = [c.v] from (by rw [show a.eval (.tmp 11) = c.v from (hD 6 11 (by kernel_rfl))] <;> rfl)) u) (put_bytes c _ u HTc rfl)) ?_
    refine fsteps_cons 9 rfl (fun a u hE hD hk => f_val (o := ⟨some 13, _, _, _, _, _⟩) (c.v) rfl (wanted_at (b := true) true rfl rfl (hD 5 10 (by kernel_rfl))) (exec_loadS 28 (.tmp 2) (gc) _ c.cells _ rfl (hE 2 (.pointer (some ⟨gc, 0, none⟩)) (by kernel_rfl) (by kernel_rfl)) (HC.out.kept hk) Try.underlying28 (by rw [Cmd.cells_len _ HTc.out]; exact cmd_size)) rfl) ?_
    refine fsteps_cons 10 rfl (fun a u hE hD hk => f_call (o := ⟨some 14, _, _, _, _, _⟩) 15 #[c.v] rfl (wanted_at (b := true) true rfl rfl (hD 5 10 (by kernel_rfl))) (exec_call 15 _ [.tmp 13] _ [c.v] Try.func15 (by kernel_rfl) (by kernel_rfl) rfl (show [a.eval (.tmp 13)] = [c.v] from (by rw [show a.eval (.tmp 13) = c.v from (hD 8 13 (by kernel_rfl))] <;> rfl)) u) (putCmd_bytes c u HTc)) ?_
    refine fsteps_cons 11 rfl (fun a u hE hD hk => f_call (o := ⟨some 15, _, _, _, _, _⟩) 10 #[a.eval (.tmp 12), a.eval (.tmp 14)] rfl (wanted_at (b := true) true rfl rfl (hD 5 10 (by kernel_rfl))) (exec_call 10 _ [.tmp 12, .tmp 14] _ [a.eval (.tmp 12), a.eval (.tmp 14)] Try.func10 (by kernel_rfl) (by kernel_rfl) rfl rfl u) (same_v _ _ _ _ true u (hD 7 12 (by kernel_rfl)) (hD 9 14 (by kernel_rfl)) (by simp))) ?_
    refine fsteps_cons 12 rfl (fun a u hE hD hk => f_val (o := ⟨some 16, _, _, _, _, _⟩) (.bool true) rfl (wanted_none rfl _) (exec_pick (.tmp 10) (.tmp 15) (.const (.bool false)) (.bool true) rfl (hD 5 10 (by kernel_rfl)) (hD 10 15 (by kernel_rfl))) rfl) ?_
    refine fsteps_cons 13 rfl (fun a u hE hD hk => f_val (o := ⟨some 17, _, _, _, _, _⟩) (.bool true) rfl (wanted_none rfl _) (exec_move (.tmp 16) (.bool true) rfl (hD 11 16 (by kernel_rfl))) rfl) ?_
    refine fsteps_cons 14 rfl (fun a u hE hD hk => f_val (o := ⟨some 18, _, _, _, _, _⟩) (d.v) rfl (wanted_at (b := true) true rfl rfl (hD 12 17 (by kernel_rfl))) (exec_loadS 32 (.tmp 3) (gd) _ d.cells _ rfl (hE 3 (.pointer (some ⟨gd, 0, none⟩)) (by kernel_rfl) (by kernel_rfl)) (HD.out.kept hk) Try.underlying32 (by rw [Nte.cells_len _ HTd.out]; exact nte_size)) rfl) ?_
    refine fsteps_cons 15 rfl (fun a u hE hD hk => f_call (o := ⟨some 19, _, _, _, _, _⟩) 12 #[d.v] rfl (wanted_at (b := true) true rfl rfl (hD 12 17 (by kernel_rfl))) (exec_call 12 _ [.tmp 18] _ [d.v] Try.func12 (by kernel_rfl) (by kernel_rfl) rfl (show [a.eval (.tmp 18)] = [d.v] from (by rw [show a.eval (.tmp 18) = d.v from (hD 13 18 (by kernel_rfl))] <;> rfl)) u) (note_bytes d _ u HTd rfl)) ?_
    refine fsteps_cons 16 rfl (fun a u hE hD hk => f_val (o := ⟨some 20, _, _, _, _, _⟩) (d.v) rfl (wanted_at (b := true) true rfl rfl (hD 12 17 (by kernel_rfl))) (exec_loadS 32 (.tmp 3) (gd) _ d.cells _ rfl (hE 3 (.pointer (some ⟨gd, 0, none⟩)) (by kernel_rfl) (by kernel_rfl)) (HD.out.kept hk) Try.underlying32 (by rw [Nte.cells_len _ HTd.out]; exact nte_size)) rfl) ?_
    refine fsteps_cons 17 rfl (fun a u hE hD hk => f_call (o := ⟨some 21, _, _, _, _, _⟩) 16 #[d.v] rfl (wanted_at (b := true) true rfl rfl (hD 12 17 (by kernel_rfl))) (exec_call 16 _ [.tmp 20] _ [d.v] Try.func16 (by kernel_rfl) (by kernel_rfl) rfl (show [a.eval (.tmp 20)] = [d.v] from (by rw [show a.eval (.tmp 20) = d.v from (hD 15 20 (by kernel_rfl))] <;> rfl)) u) (putNote_bytes d u HTd)) ?_
    refine fsteps_cons 18 rfl (fun a u hE hD hk => f_call (o := ⟨some 22, _, _, _, _, _⟩) 10 #[a.eval (.tmp 19), a.eval (.tmp 21)] rfl (wanted_at (b := true) true rfl rfl (hD 12 17 (by kernel_rfl))) (exec_call 10 _ [.tmp 19, .tmp 21] _ [a.eval (.tmp 19), a.eval (.tmp 21)] Try.func10 (by kernel_rfl) (by kernel_rfl) rfl rfl u) (same_v _ _ _ _ true u (hD 14 19 (by kernel_rfl)) (hD 16 21 (by kernel_rfl)) (by simp))) ?_
    refine fsteps_cons 19 rfl (fun a u hE hD hk => f_val (o := ⟨some 23, _, _, _, _, _⟩) (.bool true) rfl (wanted_none rfl _) (exec_pick (.tmp 17) (.tmp 22) (.const (.bool false)) (.bool true) rfl (hD 12 17 (by kernel_rfl)) (hD 17 22 (by kernel_rfl))) rfl) ?_
    refine fsteps_cons 20 rfl (fun a u hE hD hk => f_val (o := ⟨some 24, _, _, _, _, _⟩) (.bool true) rfl (wanted_none rfl _) (exec_move (.tmp 23) (.bool true) rfl (hD 18 23 (by kernel_rfl))) rfl) ?_
    refine fsteps_cons 21 rfl (fun a u hE hD hk => f_call (o := ⟨some 25, _, _, _, _, _⟩) 3 #[] rfl (wanted_at (b := true) true rfl rfl (hD 19 24 (by kernel_rfl))) (exec_call 3 _ [] _ [] Try.func3 (by kernel_rfl) (by kernel_rfl) rfl rfl u) (runs_gives u)) ?_
    refine fsteps_cons 22 rfl (fun a u hE hD hk => f_val (o := ⟨some 26, _, _, _, _, _⟩) (.bool true) rfl (wanted_none rfl _) (exec_pick (.tmp 24) (.tmp 25) (.const (.bool false)) (.bool true) rfl (hD 19 24 (by kernel_rfl)) (hD 20 25 (by kernel_rfl))) rfl) ?_
    exact fsteps_nil
  intro gv w1 hV k1
  rw [show dstsOf _ 22 = [5, 6, 7, 8, 9, 10, 11, 12, 13, 14, 15, 16, 17, 18, 19, 20, 21, 22, 23, 24, 25, 26] by kernel_rfl]
  simp only [List.foldl_cons, List.foldl_nil, List.setIfInBounds_toArray, List.set_cons_succ, List.set_cons_zero, List.drop_succ_cons, List.drop_zero]
  rw [show gv 26 = .bool true from hV 21 26 (by kernel_rfl)]
  clear hV
  have kw1 := kw0.trans k1
  go_wp2
  go_ret
  exact ⟨rfl, kw1⟩
end Go.Proofs.Ytdmeiffofmagjaa
