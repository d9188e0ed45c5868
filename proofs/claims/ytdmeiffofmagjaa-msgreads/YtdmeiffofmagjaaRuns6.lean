/-
  The contract of jobberlaw6.MsgRuns: chapter 6's runs; it answers true. No condition.
-/
import Derived.Test.YtdmeiffofmagjaaMsgRt
import Derived.Test.YtdmeiffofmagjaaMsgN
import Derived.Test.YtdmeiffofmagjaaSame6
namespace Go.Proofs.Ytdmeiffofmagjaa
open Go.RowKit
set_option linter.unusedVariables false

def Nte.z (k : Int) : Nte := ⟨k, 0, 0, 0, 0, 0, 0, 0, 0, 0, zeros32⟩
theorem put_bytes (c : Cmd) (xs : List UInt8) (w : World) (HT : Hid (c.tag.length = 32)) (h : c.putB = xs) : Gives 11 #[c.v] w (.bytes xs) := by
  subst h
  exact (put_any c w HT).mono fun e w' ⟨v, h1, h2, h3⟩ => ⟨v, h1, OwnV.bytes h2, h3⟩
theorem note_bytes (c : Nte) (xs : List UInt8) (w : World) (HT : Hid (c.sum.length = 32)) (h : c.enc = xs) : Gives 12 #[c.v] w (.bytes xs) := by
  subst h
  exact (note_any c w HT).mono fun e w' ⟨v, h1, h2, h3⟩ => ⟨v, h1, OwnV.bytes h2, h3⟩

def run1 : Cmd := { Cmd.z 1 with tr := 3 }
def run2 : Cmd := { Cmd.z 6 with seq := 1, inst := 8, what := 2 }
def run3 : Nte := { Nte.z 3 with seq := 258 }
theorem run1_is : run1.putB = [1, 3] := by decide +kernel
theorem run2_is : run2.putB = [6, 0, 0, 0, 1, 8, 2] := by decide +kernel
theorem run3_is : run3.enc = [3, 0, 0, 1, 2] := by decide +kernel

set_option maxRecDepth 100000 in
set_option maxHeartbeats 1600000 in
theorem msgRuns_any (w : World) : Calls Try.prog 3 #[] w fun e w' => e = .returned (.bool true) ∧ Kept w w' := by
  have t1 : Hid (run1.tag.length = 32) := zeros32_len
  have t2 : Hid (run2.tag.length = 32) := zeros32_len
  have t3 : Hid (run3.sum.length = 32) := zeros32_len
  go_enter Try.func3, Try.ntmps3
  go_upto_region 1 with fail
  refine wp_text 16 [.eq (run1.v), .bytes [1, 3], .bytes [1, 3], .eq (.bool true), .eq (.bool true), .eq (run2.v), .bytes [6, 0, 0, 0, 1, 8, 2], .bytes [6, 0, 0, 0, 1, 8, 2], .eq (.bool true), .eq (.bool true), .eq (.bool true), .eq (run3.v), .bytes [3, 0, 0, 1, 2], .bytes [3, 0, 0, 1, 2], .eq (.bool true), .eq (.bool true)] rfl (by kernel_rfl) ?_ ?_
  · refine fsteps_cons 1 rfl (fun a u hE hD hk => f_val (o := ⟨some 1, _, _, _, _, _⟩) (run1.v) rfl (wanted_none rfl _) (exec_build 28 _ run1.cells rfl (by kernel_rfl)) rfl) ?_
    refine fsteps_cons 2 rfl (fun a u hE hD hk => f_call (o := ⟨some 2, _, _, _, _, _⟩) 11 #[run1.v] rfl (wanted_none rfl _) (exec_call 11 _ [.tmp 1] _ [run1.v] Try.func11 (by kernel_rfl) (by kernel_rfl) rfl (show [a.eval (.tmp 1)] = [run1.v] from (by rw [show a.eval (.tmp 1) = run1.v from (hD 0 1 (by kernel_rfl))] <;> rfl)) u) (put_bytes run1 _ u t1 run1_is)) ?_
    refine fsteps_cons 3 rfl (fun a u hE hD hk => f_new (o := ⟨some 3, _, _, _, _, _⟩) (.slice (some ⟨u.heap.size, 0, none⟩) 2 2) _ rfl (wanted_none rfl _) (exec_bytesL 2 _ [1, 3] rfl rfl (by omega) (by omega) rfl) (bytes_lit u [1, 3] 2 rfl (by omega)) ((Keep.refl _ u).alloc _)) ?_
    refine fsteps_cons 4 rfl (fun a u hE hD hk => f_call (o := ⟨some 4, _, _, _, _, _⟩) 10 #[a.eval (.tmp 2), a.eval (.tmp 3)] rfl (wanted_none rfl _) (exec_call 10 _ [.tmp 2, .tmp 3] _ [a.eval (.tmp 2), a.eval (.tmp 3)] Try.func10 (by kernel_rfl) (by kernel_rfl) rfl rfl u) (same_v _ _ _ _ true u (hD 1 2 (by kernel_rfl)) (hD 2 3 (by kernel_rfl)) (by decide))) ?_
    refine fsteps_cons 5 rfl (fun a u hE hD hk => f_val (o := ⟨some 5, _, _, _, _, _⟩) (.bool true) rfl (wanted_none rfl _) (exec_move (.tmp 4) (.bool true) rfl (hD 3 4 (by kernel_rfl))) rfl) ?_
    refine fsteps_cons 6 rfl (fun a u hE hD hk => f_val (o := ⟨some 6, _, _, _, _, _⟩) (run2.v) rfl (wanted_at (b := true) true rfl rfl (hD 4 5 (by kernel_rfl))) (exec_build 28 _ run2.cells rfl (by kernel_rfl)) rfl) ?_
    refine fsteps_cons 7 rfl (fun a u hE hD hk => f_call (o := ⟨some 7, _, _, _, _, _⟩) 11 #[run2.v] rfl (wanted_at (b := true) true rfl rfl (hD 4 5 (by kernel_rfl))) (exec_call 11 _ [.tmp 6] _ [run2.v] Try.func11 (by kernel_rfl) (by kernel_rfl) rfl (show [a.eval (.tmp 6)] = [run2.v] from (by rw [show a.eval (.tmp 6) = run2.v from (hD 5 6 (by kernel_rfl))] <;> rfl)) u) (put_bytes run2 _ u t2 run2_is)) ?_
    refine fsteps_cons 8 rfl (fun a u hE hD hk => f_new (o := ⟨some 8, _, _, _, _, _⟩) (.slice (some ⟨u.heap.size, 0, none⟩) 7 7) _ rfl (wanted_at (b := true) true rfl rfl (hD 4 5 (by kernel_rfl))) (exec_bytesL 7 _ [6, 0, 0, 0, 1, 8, 2] rfl rfl (by omega) (by omega) rfl) (bytes_lit u [6, 0, 0, 0, 1, 8, 2] 7 rfl (by omega)) ((Keep.refl _ u).alloc _)) ?_
    refine fsteps_cons 9 rfl (fun a u hE hD hk => f_call (o := ⟨some 9, _, _, _, _, _⟩) 10 #[a.eval (.tmp 7), a.eval (.tmp 8)] rfl (wanted_at (b := true) true rfl rfl (hD 4 5 (by kernel_rfl))) (exec_call 10 _ [.tmp 7, .tmp 8] _ [a.eval (.tmp 7), a.eval (.tmp 8)] Try.func10 (by kernel_rfl) (by kernel_rfl) rfl rfl u) (same_v _ _ _ _ true u (hD 6 7 (by kernel_rfl)) (hD 7 8 (by kernel_rfl)) (by decide))) ?_
    refine fsteps_cons 10 rfl (fun a u hE hD hk => f_val (o := ⟨some 10, _, _, _, _, _⟩) (.bool true) rfl (wanted_none rfl _) (exec_pick (.tmp 5) (.tmp 9) (.const (.bool false)) (.bool true) rfl (hD 4 5 (by kernel_rfl)) (hD 8 9 (by kernel_rfl))) rfl) ?_
    refine fsteps_cons 11 rfl (fun a u hE hD hk => f_val (o := ⟨some 11, _, _, _, _, _⟩) (.bool true) rfl (wanted_none rfl _) (exec_move (.tmp 10) (.bool true) rfl (hD 9 10 (by kernel_rfl))) rfl) ?_
    refine fsteps_cons 12 rfl (fun a u hE hD hk => f_val (o := ⟨some 12, _, _, _, _, _⟩) (run3.v) rfl (wanted_at (b := true) true rfl rfl (hD 10 11 (by kernel_rfl))) (exec_build 32 _ run3.cells rfl (by kernel_rfl)) rfl) ?_
    refine fsteps_cons 13 rfl (fun a u hE hD hk => f_call (o := ⟨some 13, _, _, _, _, _⟩) 12 #[run3.v] rfl (wanted_at (b := true) true rfl rfl (hD 10 11 (by kernel_rfl))) (exec_call 12 _ [.tmp 12] _ [run3.v] Try.func12 (by kernel_rfl) (by kernel_rfl) rfl (show [a.eval (.tmp 12)] = [run3.v] from (by rw [show a.eval (.tmp 12) = run3.v from (hD 11 12 (by kernel_rfl))] <;> rfl)) u) (note_bytes run3 _ u t3 run3_is)) ?_
    refine fsteps_cons 14 rfl (fun a u hE hD hk => f_new (o := ⟨some 14, _, _, _, _, _⟩) (.slice (some ⟨u.heap.size, 0, none⟩) 5 5) _ rfl (wanted_at (b := true) true rfl rfl (hD 10 11 (by kernel_rfl))) (exec_bytesL 5 _ [3, 0, 0, 1, 2] rfl rfl (by omega) (by omega) rfl) (bytes_lit u [3, 0, 0, 1, 2] 5 rfl (by omega)) ((Keep.refl _ u).alloc _)) ?_
    refine fsteps_cons 15 rfl (fun a u hE hD hk => f_call (o := ⟨some 15, _, _, _, _, _⟩) 10 #[a.eval (.tmp 13), a.eval (.tmp 14)] rfl (wanted_at (b := true) true rfl rfl (hD 10 11 (by kernel_rfl))) (exec_call 10 _ [.tmp 13, .tmp 14] _ [a.eval (.tmp 13), a.eval (.tmp 14)] Try.func10 (by kernel_rfl) (by kernel_rfl) rfl rfl u) (same_v _ _ _ _ true u (hD 12 13 (by kernel_rfl)) (hD 13 14 (by kernel_rfl)) (by decide))) ?_
    refine fsteps_cons 16 rfl (fun a u hE hD hk => f_val (o := ⟨some 16, _, _, _, _, _⟩) (.bool true) rfl (wanted_none rfl _) (exec_pick (.tmp 11) (.tmp 15) (.const (.bool false)) (.bool true) rfl (hD 10 11 (by kernel_rfl)) (hD 14 15 (by kernel_rfl))) rfl) ?_
    exact fsteps_nil
  intro gv w1 hV k1
  rw [show dstsOf _ 16 = [1, 2, 3, 4, 5, 6, 7, 8, 9, 10, 11, 12, 13, 14, 15, 16] by kernel_rfl]
  simp only [List.foldl_cons, List.foldl_nil, List.setIfInBounds_toArray, List.set_cons_succ, List.set_cons_zero, List.drop_succ_cons, List.drop_zero]
  rw [show gv 16 = .bool true from hV 15 16 (by kernel_rfl)]
  clear hV
  go_wp2
  go_ret
  exact ⟨rfl, k1⟩
theorem runs_gives (w : World) : Gives 3 #[] w (.eq (.bool true)) := gives_eq (msgRuns_any w)
end Go.Proofs.Ytdmeiffofmagjaa
