/-
 Laws and contracts that the walks rest on, part 5. No condition.
-/
import Derived.Test.YtfpfpmhkkgfdbaaQI04
set_option linter.unusedVariables false
namespace Go.Proofs.Ytfpfpmhkkgfdbaa
open Go.RowKit
set_option maxRecDepth 100000
set_option maxRecDepth 100000 in
set_option maxHeartbeats 3200000 in
theorem refusal_any (w : World) (F : Nat → Prop) (p : Nat) (B : Bok) (o : Ord) (h : Bk w F p B) (hI : Inv B) : Gives 39 #[.pointer (some ⟨p, 0, none⟩), o.v] w (.eq (.int .i64 (B.err o))) := by
 refine gives_eq ?_
 have HB := Lib.hid h
 have HI := Lib.hid hI
 clear h hI
 go_enter Try.func39, Try.ntmps39
 go_upto_region 0 with fail
 refine wp_text 2 [.fresh w.heap.size 25 (o.cells), .eq (.int .i64 0)] rfl (by kernel_rfl) ?_ ?_
 ·refine fsteps_cons 1 rfl (fun a u hE hD hk => f_new (o := ⟨some 3, _, _, _, _, _⟩) (.pointer (some ⟨u.heap.size, 0, none⟩)) _ rfl (wanted_none rfl _) (exec_box 25 (.tmp 1) (o.cells) rfl (hE 1 (o.v) (by kernel_rfl) (by kernel_rfl))) ⟨_, rfl, hk.size, Blk.new u _ _⟩ ((Keep.refl _ u).alloc _)) ?_
  refine sv 2 rfl rfl rfl (fun a u hE hD hk => exec_assign (.const (.int .i64 0)) _ rfl rfl) ?_
  exact fsteps_nil
 intro gv w0 hV k0
 rw [show dstsOf _ 2 = [3, 4] by kernel_rfl]
 simp only [fC, fN, sA, sS, sZ, dS, dZ]
 have hv3 : (.fresh w.heap.size 25 (o.cells) : Kn).p (gv 3) w0 := hV 0 3 (by kernel_rfl)
 generalize gv 3 = v3 at hv3 ⊢
 rw [show gv 4 = .int .i64 0 from hV 1 4 (by kernel_rfl)]
 clear hV
 obtain ⟨g, rfl, hg, hBo⟩ := hv3
 refine wpList_nil ?_
 have HO := Lib.hid (blk_range hBo)
 clear hBo
 by_cases hr : o.right = true
 ·have hr1 : ¬ o.err ≠ 0 := by unfold Ord.err; rw [if_pos hr]; simp
  have HR := Lib.hid hr
  clear hr
  by_cases hst : o.stop ≠ 0
  ·have HE : Hid (B.err o = 1) := by show _ = _; unfold Bok.err; rw [if_pos (fun h => hst h.2)]
   go_upto_region 1 with fail
   refine wp_text 8 [.eq (o.v), .eq (.int .i64 o.err), .eq (.bool false), .eq (.bool false), .eq (.pointer (some ⟨g, 8, none⟩)), .eq (.int .i64 o.stop), .eq (.bool true), .eq (.bool true)] rfl (by kernel_rfl) ?_ ?_
   ·refine sv 1 rfl rfl rfl (fun a u hE hD hk => exec_ldS 25 _ (.tmp 3) (g) (0) (o.cells) rfl (hE 3 (.pointer (some ⟨g, 0, none⟩)) (by kernel_rfl) (by kernel_rfl)) (range_kept HO.out hk) Try.underlying25 (by rw [o.len9]; exact ord_size)) ?_
    refine fsteps_cons 2 rfl (fun a u hE hD hk => f_call (o := ⟨some 8, _, _, _, _, _⟩) 62 #[o.v] rfl (wanted_none rfl _) (exec_call 62 _ [.tmp 7] _ [o.v] Try.func62 (by kernel_rfl) (by kernel_rfl) rfl (show [a.eval (.tmp 7)] = [o.v] from (by rw [show a.eval (.tmp 7) = o.v from (hD 0 7 (by kernel_rfl))] <;> rfl)) u) (ordRight_any o u)) ?_
    refine fsteps_cons 3 rfl (fun a u hE hD hk => f_as (show ((decide ((o.err : Int) ≠ (0 : Int))) : Bool) = false from decide_eq_false hr1) (f_val (o := ⟨some 9, _, _, _, _, _⟩) (.bool (decide ((o.err : Int) ≠ (0 : Int)))) rfl (wanted_none rfl _) (exec_nen (p := o.err) (q := 0) rfl (hD 1 8 (by kernel_rfl)) rfl) rfl)) ?_
    refine sv 4 rfl rfl rfl (fun a u hE hD hk => exec_move (.tmp 9) _ rfl (hD 2 9 (by kernel_rfl))) ?_
    refine fsteps_cons 5 rfl (fun a u hE hD hk => f_val (o := ⟨some 11, _, _, _, _, _⟩) (.pointer (some ⟨g, 8, none⟩)) rfl (wanted_at (b := false) false rfl rfl (hD 3 10 (by kernel_rfl))) (exec_fldo 25 8 8 (.tmp 3) (g) (0) (8) rfl (hE 3 (.pointer (some ⟨g, 0, none⟩)) (by kernel_rfl) (by kernel_rfl)) (by kernel_rfl) rfl) rfl) ?_
    refine fsteps_cons 6 rfl (fun a u hE hD hk => f_val (o := ⟨some 12, _, _, _, _, _⟩) (.int .i64 o.stop) rfl (wanted_at (b := false) false rfl rfl (hD 3 10 (by kernel_rfl))) (exec_loadi 3 Try.underlying3 (.tmp 11) ⟨g, 8, none⟩ (.int .i64 o.stop) rfl (hD 4 11 (by kernel_rfl)) (range_int (range_kept HO.out hk) 8 _ rfl)) rfl) ?_
    refine fsteps_cons 7 rfl (fun a u hE hD hk => f_as (show ((decide ((o.stop : Int) ≠ (0 : Int))) : Bool) = true from decide_eq_true hst) (f_val (o := ⟨some 13, _, _, _, _, _⟩) (.bool (decide ((o.stop : Int) ≠ (0 : Int)))) rfl (wanted_at (b := false) false rfl rfl (hD 3 10 (by kernel_rfl))) (exec_nen (p := o.stop) (q := 0) rfl (hD 5 12 (by kernel_rfl)) rfl) rfl)) ?_
    refine sv 8 rfl rfl rfl (fun a u hE hD hk => exec_pickF (.tmp 10) (.const (.bool true)) (.tmp 13) (.bool true) rfl (hD 3 10 (by kernel_rfl)) (hD 6 13 (by kernel_rfl))) ?_
    exact fsteps_nil
   intro gv w1 hV k1
   rw [show dstsOf _ 8 = [7, 8, 9, 10, 11, 12, 13, 14] by kernel_rfl]
   simp only [fC, fN, sA, sS, sZ, dS, dZ]
   rw [show gv 14 = .bool true from hV 7 14 (by kernel_rfl)]
   clear hV
   refine wpList_nil ?_
   have kx := k0.trans k1
   clear HO hr1 hst
   go_wp2
   go_ret
   exact ⟨by rw [HE.out]; rfl, kx⟩
  ·skip
   go_upto_region 1 with fail
   refine wp_text 8 [.eq (o.v), .eq (.int .i64 o.err), .eq (.bool false), .eq (.bool false), .eq (.pointer (some ⟨g, 8, none⟩)), .eq (.int .i64 o.stop), .eq (.bool false), .eq (.bool false)] rfl (by kernel_rfl) ?_ ?_
   ·refine sv 1 rfl rfl rfl (fun a u hE hD hk => exec_ldS 25 _ (.tmp 3) (g) (0) (o.cells) rfl (hE 3 (.pointer (some ⟨g, 0, none⟩)) (by kernel_rfl) (by kernel_rfl)) (range_kept HO.out hk) Try.underlying25 (by rw [o.len9]; exact ord_size)) ?_
    refine fsteps_cons 2 rfl (fun a u hE hD hk => f_call (o := ⟨some 8, _, _, _, _, _⟩) 62 #[o.v] rfl (wanted_none rfl _) (exec_call 62 _ [.tmp 7] _ [o.v] Try.func62 (by kernel_rfl) (by kernel_rfl) rfl (show [a.eval (.tmp 7)] = [o.v] from (by rw [show a.eval (.tmp 7) = o.v from (hD 0 7 (by kernel_rfl))] <;> rfl)) u) (ordRight_any o u)) ?_
    refine fsteps_cons 3 rfl (fun a u hE hD hk => f_as (show ((decide ((o.err : Int) ≠ (0 : Int))) : Bool) = false from decide_eq_false hr1) (f_val (o := ⟨some 9, _, _, _, _, _⟩) (.bool (decide ((o.err : Int) ≠ (0 : Int)))) rfl (wanted_none rfl _) (exec_nen (p := o.err) (q := 0) rfl (hD 1 8 (by kernel_rfl)) rfl) rfl)) ?_
    refine sv 4 rfl rfl rfl (fun a u hE hD hk => exec_move (.tmp 9) _ rfl (hD 2 9 (by kernel_rfl))) ?_
    refine fsteps_cons 5 rfl (fun a u hE hD hk => f_val (o := ⟨some 11, _, _, _, _, _⟩) (.pointer (some ⟨g, 8, none⟩)) rfl (wanted_at (b := false) false rfl rfl (hD 3 10 (by kernel_rfl))) (exec_fldo 25 8 8 (.tmp 3) (g) (0) (8) rfl (hE 3 (.pointer (some ⟨g, 0, none⟩)) (by kernel_rfl) (by kernel_rfl)) (by kernel_rfl) rfl) rfl) ?_
    refine fsteps_cons 6 rfl (fun a u hE hD hk => f_val (o := ⟨some 12, _, _, _, _, _⟩) (.int .i64 o.stop) rfl (wanted_at (b := false) false rfl rfl (hD 3 10 (by kernel_rfl))) (exec_loadi 3 Try.underlying3 (.tmp 11) ⟨g, 8, none⟩ (.int .i64 o.stop) rfl (hD 4 11 (by kernel_rfl)) (range_int (range_kept HO.out hk) 8 _ rfl)) rfl) ?_
    refine fsteps_cons 7 rfl (fun a u hE hD hk => f_as (show ((decide ((o.stop : Int) ≠ (0 : Int))) : Bool) = false from decide_eq_false hst) (f_val (o := ⟨some 13, _, _, _, _, _⟩) (.bool (decide ((o.stop : Int) ≠ (0 : Int)))) rfl (wanted_at (b := false) false rfl rfl (hD 3 10 (by kernel_rfl))) (exec_nen (p := o.stop) (q := 0) rfl (hD 5 12 (by kernel_rfl)) rfl) rfl)) ?_
    refine sv 8 rfl rfl rfl (fun a u hE hD hk => exec_pickF (.tmp 10) (.const (.bool true)) (.tmp 13) (.bool false) rfl (hD 3 10 (by kernel_rfl)) (hD 6 13 (by kernel_rfl))) ?_
    exact fsteps_nil
   intro gv w1 hV k1
   rw [show dstsOf _ 8 = [7, 8, 9, 10, 11, 12, 13, 14] by kernel_rfl]
   simp only [fC, fN, sA, sS, sZ, dS, dZ]
   rw [show gv 14 = .bool false from hV 7 14 (by kernel_rfl)]
   clear hV
   refine wpList_nil ?_
   have kx := k0.trans k1
   have hst0 : o.stop = 0 := Classical.not_not.1 hst
   have HST := Lib.hid hst0
   have HO1 := Lib.hid (range_kept HO.out k1)
   have HSD := Lib.hid (right_side HR.out)
   have HQ := Lib.hid (right_qty HR.out)
   have HS3 : Hid (3 - o.side = 1 ∨ 3 - o.side = 2) := by have := HSD.out; show _ ∨ _; omega
   have HSID := Lib.hid (HI.out.side HSD.out).theirs
   have HL64 : Hid ((B.sd (3 - o.side)).length ≤ 1000) := by have := HSID.out.ok.len; show _ ≤ _; omega
   clear HO hr1 hst hst0 k0 k1
   obtain ⟨fo, hfo⟩ : ∃ x, (B.find o.tr o.id).1 = x := ⟨_, rfl⟩
   obtain ⟨hb, hhb⟩ : ∃ x, (B.find o.tr o.id).2 = x := ⟨_, rfl⟩
   have HFO := Lib.hid hfo
   have HHB := Lib.hid hhb
   clear hfo hhb
   go_upto_region 3 with fail
   refine wp_text 10 [.eq (.pointer (some ⟨p, 0, none⟩)), .eq (.pointer (some ⟨g, 0, none⟩)), .eq (.int .i64 o.tr), .eq (.pointer (some ⟨g, 1, none⟩)), .eq (.int .i64 o.id), .eq (.tuple #[fo.v, .bool hb]), .eq (.tuple #[fo.v, .bool hb]), .eq (fo.v), .eq (.bool hb), .fresh w1.heap.size 25 zeroO.cells] rfl (by kernel_rfl) ?_ ?_
   ·refine sv 1 rfl rfl rfl (fun a u hE hD hk => exec_move (.tmp 0) _ rfl (hE 0 (.pointer (some ⟨p, 0, none⟩)) (by kernel_rfl) (by kernel_rfl))) ?_
    refine sv 2 rfl rfl rfl (fun a u hE hD hk => exec_fldo 25 0 0 (.tmp 3) (g) (0) (0) rfl (hE 3 (.pointer (some ⟨g, 0, none⟩)) (by kernel_rfl) (by kernel_rfl)) (by kernel_rfl) rfl) ?_
    refine sv 3 rfl rfl rfl (fun a u hE hD hk => exec_loadi 3 Try.underlying3 (.tmp 17) ⟨g, 0, none⟩ (.int .i64 o.tr) rfl (hD 1 17 (by kernel_rfl)) (range_int (range_kept HO1.out hk) 0 _ rfl)) ?_
    refine sv 4 rfl rfl rfl (fun a u hE hD hk => exec_fldo 25 1 1 (.tmp 3) (g) (0) (1) rfl (hE 3 (.pointer (some ⟨g, 0, none⟩)) (by kernel_rfl) (by kernel_rfl)) (by kernel_rfl) rfl) ?_
    refine sv 5 rfl rfl rfl (fun a u hE hD hk => exec_loadi 3 Try.underlying3 (.tmp 19) ⟨g, 1, none⟩ (.int .i64 o.id) rfl (hD 3 19 (by kernel_rfl)) (range_int (range_kept HO1.out hk) 1 _ rfl)) ?_
    refine fsteps_cons 6 rfl (fun a u hE hD hk => f_call (o := ⟨some 21, _, _, _, _, _⟩) 28 #[.pointer (some ⟨p, 0, none⟩), .int .i64 o.tr, .int .i64 o.id] rfl (wanted_none rfl _) (exec_call 28 _ [.tmp 16, .tmp 18, .tmp 20] _ [.pointer (some ⟨p, 0, none⟩), .int .i64 o.tr, .int .i64 o.id] Try.func28 (by kernel_rfl) (by kernel_rfl) rfl (show [a.eval (.tmp 16), a.eval (.tmp 18), a.eval (.tmp 20)] = [.pointer (some ⟨p, 0, none⟩), .int .i64 o.tr, .int .i64 o.id] from (by rw [show a.eval (.tmp 16) = .pointer (some ⟨p, 0, none⟩) from (hD 0 16 (by kernel_rfl)), show a.eval (.tmp 18) = .int .i64 o.tr from (hD 2 18 (by kernel_rfl)), show a.eval (.tmp 20) = .int .i64 o.id from (hD 4 20 (by kernel_rfl))] <;> rfl)) u) ((by rw [← HFO.out, ← HHB.out]; exact bfind_any u F p B o.tr o.id (HB.out.kept (kx.trans hk)) HI.out))) ?_
    refine sv 7 rfl rfl rfl (fun a u hE hD hk => exec_move (.tmp 21) _ rfl (hD 5 21 (by kernel_rfl))) ?_
    refine sv 8 rfl rfl rfl (fun a u hE hD hk => exec_extract (.tmp 15) [fo.v, .bool hb] 0 (fo.v) rfl (hD 6 15 (by kernel_rfl)) rfl) ?_
    refine sv 9 rfl rfl rfl (fun a u hE hD hk => exec_extract (.tmp 15) [fo.v, .bool hb] 1 (.bool hb) rfl (hD 6 15 (by kernel_rfl)) rfl) ?_
    refine fsteps_cons 10 rfl (fun a u hE hD hk => f_new (o := ⟨some 5, _, _, _, _, _⟩) (.pointer (some ⟨u.heap.size, 0, none⟩)) _ rfl (wanted_none rfl _) (exec_alc 25 zeroO.cells rfl zO) ⟨_, rfl, hk.size, Blk.new u _ _⟩ ((Keep.refl _ u).alloc _)) ?_
    exact fsteps_nil
   intro gv w2 hV k2
   rw [show dstsOf _ 10 = [16, 17, 18, 19, 20, 21, 15, 22, 23, 5] by kernel_rfl]
   simp only [fC, fN, sA, sS, sZ, dS, dZ]
   have hv5 : (.fresh w1.heap.size 25 zeroO.cells : Kn).p (gv 5) w2 := hV 9 5 (by kernel_rfl)
   generalize gv 5 = v5 at hv5 ⊢
   rw [show gv 22 = fo.v from hV 7 22 (by kernel_rfl)]
   rw [show gv 23 = .bool hb from hV 8 23 (by kernel_rfl)]
   clear hV
   obtain ⟨b5, rfl, hb5, hB5⟩ := hv5
   refine l_setS (o := ⟨none, _, _, _, _, _⟩) 25 b5 25 zeroO.cells fo.cells (.tmp 5) (.tmp 22) rfl rfl (by kernel_rfl) (by kernel_rfl) hB5 (by rw [Ord.len9]; exact ord_size) (by rw [Ord.len9, Ord.len9]) (Ord.one1 _) ?_
   intro w3 hB3 hk3 hs3
   simp only [Act.put]
   refine l_val (o := ⟨some 6, _, _, _, _, _⟩) (.bool hb) rfl (exec_assign (.tmp 23) (.bool hb) rfl (by kernel_rfl)) ?_
   simp only [Act.put, sA, sS, sZ]
   refine wpList_nil ?_
   have k13 : Kept w1 w3 := k2.trans' hk3 (by omega)
   have kx3 := kx.trans k13
   have HO3 := Lib.hid (range_kept HO1.out k13)
   clear hB5 hB3 hk3 hs3 k2 k13 HO1
   cases hb with
   | true =>
    have HE : Hid (B.err o = 5) := by show _ = _; unfold Bok.err; rw [if_neg (fun h => h ⟨HR.out, HST.out⟩), if_pos (show B.has o.tr o.id = true from HHB.out)]
    have kx := kx3
    clear HO3 HFO HHB kx3
    go_wp2
    go_ret
    exact ⟨by rw [HE.out]; rfl, kx⟩
   | false =>
    have HNH : Hid (¬ B.has o.tr o.id = true) := by show ¬ _; unfold Bok.has; rw [HHB.out]; simp
    clear HFO HHB kx
    obtain ⟨mr, hmr⟩ : ∃ x, (decide (o.k = 1) || decide (o.k = 5)) = x := ⟨_, rfl⟩
    have HMR := Lib.hid hmr
    have hmr1 : mr = true ↔ (o.k = 1 ∨ o.k = 5) := by rw [← hmr]; simp
    have HM1 := Lib.hid hmr1
    clear hmr hmr1
    by_cases hfull : mr = true ∧ 64 ≤ B.len
    ·obtain ⟨hm1, hln0⟩ := hfull
     subst hm1
     have hln : (64 : Int) ≤ (B.len : Int) := by omega
     have HE : Hid (B.err o = 4) := by show _ = _; unfold Bok.err; rw [if_neg (fun h => h ⟨HR.out, HST.out⟩), if_neg HNH.out, if_pos ⟨HM1.out.1 rfl, hln0⟩]
     go_upto_region 6 with fail
     refine wp_text 7 [.eq (o.v), .eq (.bool true), .eq (.bool true), .eq (.pointer (some ⟨p, 0, none⟩)), .eq (.int .i64 (B.len : Int)), .eq (.bool true), .eq (.bool true)] rfl (by kernel_rfl) ?_ ?_
     ·refine sv 1 rfl rfl rfl (fun a u hE hD hk => exec_ldS 25 _ (.tmp 3) (g) (0) (o.cells) rfl (hE 3 (.pointer (some ⟨g, 0, none⟩)) (by kernel_rfl) (by kernel_rfl)) (range_kept HO3.out hk) Try.underlying25 (by rw [o.len9]; exact ord_size)) ?_
      refine fsteps_cons 2 rfl (fun a u hE hD hk => f_call (o := ⟨some 26, _, _, _, _, _⟩) 41 #[o.v] rfl (wanted_none rfl _) (exec_call 41 _ [.tmp 25] _ [o.v] Try.func41 (by kernel_rfl) (by kernel_rfl) rfl (show [a.eval (.tmp 25)] = [o.v] from (by rw [show a.eval (.tmp 25) = o.v from (hD 0 25 (by kernel_rfl))] <;> rfl)) u) ((by rw [← HMR.out]; exact mayRest_any u o))) ?_
      refine sv 3 rfl rfl rfl (fun a u hE hD hk => exec_move (.tmp 26) _ rfl (hD 1 26 (by kernel_rfl))) ?_
      refine fsteps_cons 4 rfl (fun a u hE hD hk => f_val (o := ⟨some 28, _, _, _, _, _⟩) (.pointer (some ⟨p, 0, none⟩)) rfl (wanted_at (b := true) true rfl rfl (hD 2 27 (by kernel_rfl))) (exec_move (.tmp 0) _ rfl (hE 0 (.pointer (some ⟨p, 0, none⟩)) (by kernel_rfl) (by kernel_rfl))) rfl) ?_
      refine fsteps_cons 5 rfl (fun a u hE hD hk => f_call (o := ⟨some 29, _, _, _, _, _⟩) 33 #[.pointer (some ⟨p, 0, none⟩)] rfl (wanted_at (b := true) true rfl rfl (hD 2 27 (by kernel_rfl))) (exec_call 33 _ [.tmp 28] _ [.pointer (some ⟨p, 0, none⟩)] Try.func33 (by kernel_rfl) (by kernel_rfl) rfl (show [a.eval (.tmp 28)] = [.pointer (some ⟨p, 0, none⟩)] from (by rw [show a.eval (.tmp 28) = .pointer (some ⟨p, 0, none⟩) from (hD 3 28 (by kernel_rfl))] <;> rfl)) u) (blen_any u F p B (HB.out.kept (kx3.trans hk)) HI.out)) ?_
      refine fsteps_cons 6 rfl (fun a u hE hD hk => f_as (show ((decide ((64 : Int) ≤ ((B.len : Int) : Int))) : Bool) = true from decide_eq_true hln) (f_val (o := ⟨some 30, _, _, _, _, _⟩) (.bool (decide ((64 : Int) ≤ ((B.len : Int) : Int)))) rfl (wanted_at (b := true) true rfl rfl (hD 2 27 (by kernel_rfl))) (exec_gen (p := (B.len : Int)) (q := 64) rfl (hD 4 29 (by kernel_rfl)) rfl) rfl)) ?_
      refine sv 7 rfl rfl rfl (fun a u hE hD hk => exec_pick (.tmp 27) (.tmp 30) (.const (.bool false)) (.bool true) rfl (hD 2 27 (by kernel_rfl)) (hD 5 30 (by kernel_rfl))) ?_
      exact fsteps_nil
     intro gv w4 hV k4
     rw [show dstsOf _ 7 = [25, 26, 27, 28, 29, 30, 31] by kernel_rfl]
     simp only [fC, fN, sA, sS, sZ, dS, dZ]
     rw [show gv 31 = .bool true from hV 6 31 (by kernel_rfl)]
     clear hV
     refine wpList_nil ?_
     have kx := kx3.trans k4
     clear HO3 k4 kx3 hln hln0
     go_wp2
     go_ret
     exact ⟨by rw [HE.out]; rfl, kx⟩
    ·have HNF : Hid (¬ ((o.k = 1 ∨ o.k = 5) ∧ 64 ≤ B.len)) := fun h => hfull ⟨HM1.out.2 h.1, h.2⟩
     have hE0 : B.err o = if o.k = 5 ∧ o.meets (B.sd (3 - o.side)) = true then 11 else if o.k = 4 ∧ 0 < (B.matched o).left then 12 else 0 := by
      unfold Bok.err
      rw [if_neg (fun h => h ⟨HR.out, HST.out⟩), if_neg HNH.out, if_neg HNF.out]
     have HE0 := Lib.hid hE0
     clear hE0
     have h4 : ∀ (K : Nat → Prop), True := fun _ => trivial
     clear h4
     obtain ⟨mb, hmb⟩ : ∃ x, o.meets (B.sd (3 - o.side)) = x := ⟨_, rfl⟩
     have HCR := Lib.hid hmb
     obtain ⟨gv0, hgv0⟩ : ∃ x, givesM o (B.sd (3 - o.side)) = x := ⟨_, rfl⟩
     have HGV := Lib.hid hgv0
     have HGL : Hid (gv0 < o.qty ↔ 0 < (B.matched o).left) := by
      have h1 := gives_left o (B.sd (3 - o.side)) B.no o.qty (by have := HQ.out; omega) HSID.out
      show _ ↔ _
      rw [hgv0] at h1
      unfold Bok.matched
      omega
     clear hmb hgv0
     cases mr with
     | true =>
      have hln : ¬ (64 : Int) ≤ (B.len : Int) := fun h => hfull ⟨rfl, by omega⟩
      clear hfull
      go_upto_region 6 with fail
      refine wp_text 7 [.eq (o.v), .eq (.bool true), .eq (.bool true), .eq (.pointer (some ⟨p, 0, none⟩)), .eq (.int .i64 (B.len : Int)), .eq (.bool false), .eq (.bool false)] rfl (by kernel_rfl) ?_ ?_
      ·refine sv 1 rfl rfl rfl (fun a u hE hD hk => exec_ldS 25 _ (.tmp 3) (g) (0) (o.cells) rfl (hE 3 (.pointer (some ⟨g, 0, none⟩)) (by kernel_rfl) (by kernel_rfl)) (range_kept HO3.out hk) Try.underlying25 (by rw [o.len9]; exact ord_size)) ?_
       refine fsteps_cons 2 rfl (fun a u hE hD hk => f_call (o := ⟨some 26, _, _, _, _, _⟩) 41 #[o.v] rfl (wanted_none rfl _) (exec_call 41 _ [.tmp 25] _ [o.v] Try.func41 (by kernel_rfl) (by kernel_rfl) rfl (show [a.eval (.tmp 25)] = [o.v] from (by rw [show a.eval (.tmp 25) = o.v from (hD 0 25 (by kernel_rfl))] <;> rfl)) u) ((by rw [← HMR.out]; exact mayRest_any u o))) ?_
       refine sv 3 rfl rfl rfl (fun a u hE hD hk => exec_move (.tmp 26) _ rfl (hD 1 26 (by kernel_rfl))) ?_
       refine fsteps_cons 4 rfl (fun a u hE hD hk => f_val (o := ⟨some 28, _, _, _, _, _⟩) (.pointer (some ⟨p, 0, none⟩)) rfl (wanted_at (b := true) true rfl rfl (hD 2 27 (by kernel_rfl))) (exec_move (.tmp 0) _ rfl (hE 0 (.pointer (some ⟨p, 0, none⟩)) (by kernel_rfl) (by kernel_rfl))) rfl) ?_
       refine fsteps_cons 5 rfl (fun a u hE hD hk => f_call (o := ⟨some 29, _, _, _, _, _⟩) 33 #[.pointer (some ⟨p, 0, none⟩)] rfl (wanted_at (b := true) true rfl rfl (hD 2 27 (by kernel_rfl))) (exec_call 33 _ [.tmp 28] _ [.pointer (some ⟨p, 0, none⟩)] Try.func33 (by kernel_rfl) (by kernel_rfl) rfl (show [a.eval (.tmp 28)] = [.pointer (some ⟨p, 0, none⟩)] from (by rw [show a.eval (.tmp 28) = .pointer (some ⟨p, 0, none⟩) from (hD 3 28 (by kernel_rfl))] <;> rfl)) u) (blen_any u F p B (HB.out.kept (kx3.trans hk)) HI.out)) ?_
       refine fsteps_cons 6 rfl (fun a u hE hD hk => f_as (show ((decide ((64 : Int) ≤ ((B.len : Int) : Int))) : Bool) = false from decide_eq_false hln) (f_val (o := ⟨some 30, _, _, _, _, _⟩) (.bool (decide ((64 : Int) ≤ ((B.len : Int) : Int)))) rfl (wanted_at (b := true) true rfl rfl (hD 2 27 (by kernel_rfl))) (exec_gen (p := (B.len : Int)) (q := 64) rfl (hD 4 29 (by kernel_rfl)) rfl) rfl)) ?_
       refine sv 7 rfl rfl rfl (fun a u hE hD hk => exec_pick (.tmp 27) (.tmp 30) (.const (.bool false)) (.bool false) rfl (hD 2 27 (by kernel_rfl)) (hD 5 30 (by kernel_rfl))) ?_
       exact fsteps_nil
      intro gv w4 hV k4
      rw [show dstsOf _ 7 = [25, 26, 27, 28, 29, 30, 31] by kernel_rfl]
      simp only [fC, fN, sA, sS, sZ, dS, dZ]
      rw [show gv 31 = .bool false from hV 6 31 (by kernel_rfl)]
      clear hV
      refine wpList_nil ?_
      clear hln
      have kx4 := kx3.trans k4
      have HO4 := Lib.hid (range_kept HO3.out k4)
      clear HO3 k4 kx3
      by_cases hk5 : o.k = 5
      ·skip
       have HK5 := Lib.hid hk5
       have hk4 : ¬ o.k = 4 := by omega
       cases mb with
       | true =>
        have HE : Hid (B.err o = 11) := by show _ = _; rw [HE0.out, if_pos ⟨hk5, HCR.out⟩]
        go_upto_region 8 with fail
        refine wp_free 10 [.eq (.pointer (some ⟨g, 4, none⟩)), .eq (.int .i64 o.k), .eq (.bool true), .eq (.bool true), .eq (.pointer (some ⟨p, 0, none⟩)), .eq (o.v), .eq (.pointer (some ⟨p, offS (3 - o.side), none⟩)), .eq (o.v), .eq (.bool true), .eq (.bool true)] (by kernel_rfl) rfl (by kernel_rfl) ?_ ?_
        ·refine sv 1 rfl rfl rfl (fun a u hE hD hk => exec_fldo 25 4 4 (.tmp 3) (g) (0) (4) rfl (hE 3 (.pointer (some ⟨g, 0, none⟩)) (by kernel_rfl) (by kernel_rfl)) (by kernel_rfl) rfl) ?_
         refine sv 2 rfl rfl rfl (fun a u hE hD hk => exec_loadi 3 Try.underlying3 (.tmp 32) ⟨g, 4, none⟩ (.int .i64 o.k) rfl (hD 0 32 (by kernel_rfl)) (range_int (range_kept HO4.out hk) 4 _ rfl)) ?_
         refine fsteps_cons 3 rfl (fun a u hE hD hk => f_as (show ((decide ((o.k : Int) = (5 : Int))) : Bool) = true from decide_eq_true hk5) (f_val (o := ⟨some 34, _, _, _, _, _⟩) (.bool (decide ((o.k : Int) = (5 : Int)))) rfl (wanted_none rfl _) (exec_eqn (p := o.k) (q := 5) rfl (hD 1 33 (by kernel_rfl)) rfl) rfl)) ?_
         refine sv 4 rfl rfl rfl (fun a u hE hD hk => exec_move (.tmp 34) _ rfl (hD 2 34 (by kernel_rfl))) ?_
         refine fsteps_cons 5 rfl (fun a u hE hD hk => f_val (o := ⟨some 36, _, _, _, _, _⟩) (.pointer (some ⟨p, 0, none⟩)) rfl (wanted_at (b := true) true rfl rfl (hD 3 35 (by kernel_rfl))) (exec_move (.tmp 0) _ rfl (hE 0 (.pointer (some ⟨p, 0, none⟩)) (by kernel_rfl) (by kernel_rfl))) rfl) ?_
         refine fsteps_cons 6 rfl (fun a u hE hD hk => f_val (o := ⟨some 37, _, _, _, _, _⟩) (o.v) rfl (wanted_at (b := true) true rfl rfl (hD 3 35 (by kernel_rfl))) (exec_ldS 25 _ (.tmp 3) (g) (0) (o.cells) rfl (hE 3 (.pointer (some ⟨g, 0, none⟩)) (by kernel_rfl) (by kernel_rfl)) (range_kept HO4.out hk) Try.underlying25 (by rw [o.len9]; exact ord_size)) rfl) ?_
         refine fsteps_cons 7 rfl (fun a u hE hD hk => f_call (o := ⟨some 38, _, _, _, _, _⟩) 63 #[.pointer (some ⟨p, 0, none⟩), o.v] rfl (wanted_at (b := true) true rfl rfl (hD 3 35 (by kernel_rfl))) (exec_call 63 _ [.tmp 36, .tmp 37] _ [.pointer (some ⟨p, 0, none⟩), o.v] Try.func63 (by kernel_rfl) (by kernel_rfl) rfl (show [a.eval (.tmp 36), a.eval (.tmp 37)] = [.pointer (some ⟨p, 0, none⟩), o.v] from (by rw [show a.eval (.tmp 36) = .pointer (some ⟨p, 0, none⟩) from (hD 4 36 (by kernel_rfl)), show a.eval (.tmp 37) = o.v from (hD 5 37 (by kernel_rfl))] <;> rfl)) u) (against_any u p o HSD.out)) ?_
         refine fsteps_cons 8 rfl (fun a u hE hD hk => f_val (o := ⟨some 39, _, _, _, _, _⟩) (o.v) rfl (wanted_at (b := true) true rfl rfl (hD 3 35 (by kernel_rfl))) (exec_ldS 25 _ (.tmp 3) (g) (0) (o.cells) rfl (hE 3 (.pointer (some ⟨g, 0, none⟩)) (by kernel_rfl) (by kernel_rfl)) (range_kept HO4.out hk) Try.underlying25 (by rw [o.len9]; exact ord_size)) rfl) ?_
         refine fsteps_cons 9 rfl (fun a u hE hD hk => f_call (o := ⟨some 40, _, _, _, _, _⟩) 64 #[.pointer (some ⟨p, offS (3 - o.side), none⟩), o.v] rfl (wanted_at (b := true) true rfl rfl (hD 3 35 (by kernel_rfl))) (exec_call 64 _ [.tmp 38, .tmp 39] _ [.pointer (some ⟨p, offS (3 - o.side), none⟩), o.v] Try.func64 (by kernel_rfl) (by kernel_rfl) rfl (show [a.eval (.tmp 38), a.eval (.tmp 39)] = [.pointer (some ⟨p, offS (3 - o.side), none⟩), o.v] from (by rw [show a.eval (.tmp 38) = .pointer (some ⟨p, offS (3 - o.side), none⟩) from (hD 6 38 (by kernel_rfl)), show a.eval (.tmp 39) = o.v from (hD 7 39 (by kernel_rfl))] <;> rfl)) u) ((by obtain ⟨F', hLd⟩ := (HB.out.kept (kx4.trans hk)).lad HS3.out; rw [← HCR.out]; exact crossed_any u F' p (offS (3 - o.side)) (3 - o.side) _ o hLd HL64.out))) ?_
         refine sv 10 rfl rfl rfl (fun a u hE hD hk => exec_pick (.tmp 35) (.tmp 40) (.const (.bool false)) (.bool true) rfl (hD 3 35 (by kernel_rfl)) (hD 8 40 (by kernel_rfl))) ?_
         exact fsteps_nil
        intro gv w5 hV k5
        rw [show dstsOf _ 10 = [32, 33, 34, 35, 36, 37, 38, 39, 40, 41] by kernel_rfl]
        simp only [fC, fN, sA, sS, sZ, dS, dZ]
        rw [show gv 41 = .bool true from hV 9 41 (by kernel_rfl)]
        clear hV
        refine wpList_nil ?_
        have kx := kx4.trans k5
        clear HO4 k5 kx4 hk5 hk4
        go_wp2
        go_ret
        exact ⟨by rw [HE.out]; rfl, kx⟩
       | false =>
        have HE : Hid (B.err o = 0) := by show _ = _; rw [HE0.out, if_neg (fun h => by rw [HCR.out] at h; cases h.2), if_neg (fun h => hk4 h.1)]
        go_upto_region 8 with fail
        refine wp_free 10 [.eq (.pointer (some ⟨g, 4, none⟩)), .eq (.int .i64 o.k), .eq (.bool true), .eq (.bool true), .eq (.pointer (some ⟨p, 0, none⟩)), .eq (o.v), .eq (.pointer (some ⟨p, offS (3 - o.side), none⟩)), .eq (o.v), .eq (.bool false), .eq (.bool false)] (by kernel_rfl) rfl (by kernel_rfl) ?_ ?_
        ·refine sv 1 rfl rfl rfl (fun a u hE hD hk => exec_fldo 25 4 4 (.tmp 3) (g) (0) (4) rfl (hE 3 (.pointer (some ⟨g, 0, none⟩)) (by kernel_rfl) (by kernel_rfl)) (by kernel_rfl) rfl) ?_
         refine sv 2 rfl rfl rfl (fun a u hE hD hk => exec_loadi 3 Try.underlying3 (.tmp 32) ⟨g, 4, none⟩ (.int .i64 o.k) rfl (hD 0 32 (by kernel_rfl)) (range_int (range_kept HO4.out hk) 4 _ rfl)) ?_
         refine fsteps_cons 3 rfl (fun a u hE hD hk => f_as (show ((decide ((o.k : Int) = (5 : Int))) : Bool) = true from decide_eq_true hk5) (f_val (o := ⟨some 34, _, _, _, _, _⟩) (.bool (decide ((o.k : Int) = (5 : Int)))) rfl (wanted_none rfl _) (exec_eqn (p := o.k) (q := 5) rfl (hD 1 33 (by kernel_rfl)) rfl) rfl)) ?_
         refine sv 4 rfl rfl rfl (fun a u hE hD hk => exec_move (.tmp 34) _ rfl (hD 2 34 (by kernel_rfl))) ?_
         refine fsteps_cons 5 rfl (fun a u hE hD hk => f_val (o := ⟨some 36, _, _, _, _, _⟩) (.pointer (some ⟨p, 0, none⟩)) rfl (wanted_at (b := true) true rfl rfl (hD 3 35 (by kernel_rfl))) (exec_move (.tmp 0) _ rfl (hE 0 (.pointer (some ⟨p, 0, none⟩)) (by kernel_rfl) (by kernel_rfl))) rfl) ?_
         refine fsteps_cons 6 rfl (fun a u hE hD hk => f_val (o := ⟨some 37, _, _, _, _, _⟩) (o.v) rfl (wanted_at (b := true) true rfl rfl (hD 3 35 (by kernel_rfl))) (exec_ldS 25 _ (.tmp 3) (g) (0) (o.cells) rfl (hE 3 (.pointer (some ⟨g, 0, none⟩)) (by kernel_rfl) (by kernel_rfl)) (range_kept HO4.out hk) Try.underlying25 (by rw [o.len9]; exact ord_size)) rfl) ?_
         refine fsteps_cons 7 rfl (fun a u hE hD hk => f_call (o := ⟨some 38, _, _, _, _, _⟩) 63 #[.pointer (some ⟨p, 0, none⟩), o.v] rfl (wanted_at (b := true) true rfl rfl (hD 3 35 (by kernel_rfl))) (exec_call 63 _ [.tmp 36, .tmp 37] _ [.pointer (some ⟨p, 0, none⟩), o.v] Try.func63 (by kernel_rfl) (by kernel_rfl) rfl (show [a.eval (.tmp 36), a.eval (.tmp 37)] = [.pointer (some ⟨p, 0, none⟩), o.v] from (by rw [show a.eval (.tmp 36) = .pointer (some ⟨p, 0, none⟩) from (hD 4 36 (by kernel_rfl)), show a.eval (.tmp 37) = o.v from (hD 5 37 (by kernel_rfl))] <;> rfl)) u) (against_any u p o HSD.out)) ?_
         refine fsteps_cons 8 rfl (fun a u hE hD hk => f_val (o := ⟨some 39, _, _, _, _, _⟩) (o.v) rfl (wanted_at (b := true) true rfl rfl (hD 3 35 (by kernel_rfl))) (exec_ldS 25 _ (.tmp 3) (g) (0) (o.cells) rfl (hE 3 (.pointer (some ⟨g, 0, none⟩)) (by kernel_rfl) (by kernel_rfl)) (range_kept HO4.out hk) Try.underlying25 (by rw [o.len9]; exact ord_size)) rfl) ?_
         refine fsteps_cons 9 rfl (fun a u hE hD hk => f_call (o := ⟨some 40, _, _, _, _, _⟩) 64 #[.pointer (some ⟨p, offS (3 - o.side), none⟩), o.v] rfl (wanted_at (b := true) true rfl rfl (hD 3 35 (by kernel_rfl))) (exec_call 64 _ [.tmp 38, .tmp 39] _ [.pointer (some ⟨p, offS (3 - o.side), none⟩), o.v] Try.func64 (by kernel_rfl) (by kernel_rfl) rfl (show [a.eval (.tmp 38), a.eval (.tmp 39)] = [.pointer (some ⟨p, offS (3 - o.side), none⟩), o.v] from (by rw [show a.eval (.tmp 38) = .pointer (some ⟨p, offS (3 - o.side), none⟩) from (hD 6 38 (by kernel_rfl)), show a.eval (.tmp 39) = o.v from (hD 7 39 (by kernel_rfl))] <;> rfl)) u) ((by obtain ⟨F', hLd⟩ := (HB.out.kept (kx4.trans hk)).lad HS3.out; rw [← HCR.out]; exact crossed_any u F' p (offS (3 - o.side)) (3 - o.side) _ o hLd HL64.out))) ?_
         refine sv 10 rfl rfl rfl (fun a u hE hD hk => exec_pick (.tmp 35) (.tmp 40) (.const (.bool false)) (.bool false) rfl (hD 3 35 (by kernel_rfl)) (hD 8 40 (by kernel_rfl))) ?_
         exact fsteps_nil
        intro gv w5 hV k5
        rw [show dstsOf _ 10 = [32, 33, 34, 35, 36, 37, 38, 39, 40, 41] by kernel_rfl]
        simp only [fC, fN, sA, sS, sZ, dS, dZ]
        rw [show gv 41 = .bool false from hV 9 41 (by kernel_rfl)]
        clear hV
        refine wpList_nil ?_
        have kx5 := kx4.trans k5
        have HO5 := Lib.hid (range_kept HO4.out k5)
        clear HO4 k5 kx4 hk5
        go_upto_region 10 with fail
        refine wp_free 13 [.eq (.pointer (some ⟨g, 4, none⟩)), .eq (.int .i64 o.k), .eq (.bool false), .eq (.bool false), .eq undef, .eq undef, .eq undef, .eq undef, .eq undef, .eq undef, .eq undef, .eq undef, .eq (.bool false)] (by kernel_rfl) rfl (by kernel_rfl) ?_ ?_
        ·refine sv 1 rfl rfl rfl (fun a u hE hD hk => exec_fldo 25 4 4 (.tmp 3) (g) (0) (4) rfl (hE 3 (.pointer (some ⟨g, 0, none⟩)) (by kernel_rfl) (by kernel_rfl)) (by kernel_rfl) rfl) ?_
         refine sv 2 rfl rfl rfl (fun a u hE hD hk => exec_loadi 3 Try.underlying3 (.tmp 42) ⟨g, 4, none⟩ (.int .i64 o.k) rfl (hD 0 42 (by kernel_rfl)) (range_int (range_kept HO5.out hk) 4 _ rfl)) ?_
         refine fsteps_cons 3 rfl (fun a u hE hD hk => f_as (show ((decide ((o.k : Int) = (4 : Int))) : Bool) = false from decide_eq_false hk4) (f_val (o := ⟨some 44, _, _, _, _, _⟩) (.bool (decide ((o.k : Int) = (4 : Int)))) rfl (wanted_none rfl _) (exec_eqn (p := o.k) (q := 4) rfl (hD 1 43 (by kernel_rfl)) rfl) rfl)) ?_
         refine sv 4 rfl rfl rfl (fun a u hE hD hk => exec_move (.tmp 44) _ rfl (hD 2 44 (by kernel_rfl))) ?_
         refine fsteps_cons 5 rfl (fun a u hE hD hk => f_skip (o := ⟨some 46, _, _, _, _, _⟩) rfl (wanted_at (b := true) false rfl rfl (hD 3 45 (by kernel_rfl))) rfl) ?_
         refine fsteps_cons 6 rfl (fun a u hE hD hk => f_skip (o := ⟨some 47, _, _, _, _, _⟩) rfl (wanted_at (b := true) false rfl rfl (hD 3 45 (by kernel_rfl))) rfl) ?_
         refine fsteps_cons 7 rfl (fun a u hE hD hk => f_skip (o := ⟨some 48, _, _, _, _, _⟩) rfl (wanted_at (b := true) false rfl rfl (hD 3 45 (by kernel_rfl))) rfl) ?_
         refine fsteps_cons 8 rfl (fun a u hE hD hk => f_skip (o := ⟨some 49, _, _, _, _, _⟩) rfl (wanted_at (b := true) false rfl rfl (hD 3 45 (by kernel_rfl))) rfl) ?_
         refine fsteps_cons 9 rfl (fun a u hE hD hk => f_skip (o := ⟨some 50, _, _, _, _, _⟩) rfl (wanted_at (b := true) false rfl rfl (hD 3 45 (by kernel_rfl))) rfl) ?_
         refine fsteps_cons 10 rfl (fun a u hE hD hk => f_skip (o := ⟨some 51, _, _, _, _, _⟩) rfl (wanted_at (b := true) false rfl rfl (hD 3 45 (by kernel_rfl))) rfl) ?_
         refine fsteps_cons 11 rfl (fun a u hE hD hk => f_skip (o := ⟨some 52, _, _, _, _, _⟩) rfl (wanted_at (b := true) false rfl rfl (hD 3 45 (by kernel_rfl))) rfl) ?_
         refine fsteps_cons 12 rfl (fun a u hE hD hk => f_skip (o := ⟨some 53, _, _, _, _, _⟩) rfl (wanted_at (b := true) false rfl rfl (hD 3 45 (by kernel_rfl))) rfl) ?_
         refine sv 13 rfl rfl rfl (fun a u hE hD hk => exec_pickF (.tmp 45) (.tmp 53) (.const (.bool false)) (.bool false) rfl (hD 3 45 (by kernel_rfl)) rfl) ?_
         exact fsteps_nil
        intro gv w6 hV k6
        rw [show dstsOf _ 13 = [42, 43, 44, 45, 46, 47, 48, 49, 50, 51, 52, 53, 54] by kernel_rfl]
        simp only [fC, fN, sA, sS, sZ, dS, dZ]
        rw [show gv 54 = .bool false from hV 12 54 (by kernel_rfl)]
        clear hV
        refine wpList_nil ?_
        have kx := kx5.trans k6
        clear HO5 k6 kx5 hk4
        go_wp2
        go_ret
        exact ⟨by rw [HE.out]; rfl, kx⟩
      ·skip
       go_upto_region 8 with fail
       refine wp_free 10 [.eq (.pointer (some ⟨g, 4, none⟩)), .eq (.int .i64 o.k), .eq (.bool false), .eq (.bool false), .eq undef, .eq undef, .eq undef, .eq undef, .eq undef, .eq (.bool false)] (by kernel_rfl) rfl (by kernel_rfl) ?_ ?_
       ·refine sv 1 rfl rfl rfl (fun a u hE hD hk => exec_fldo 25 4 4 (.tmp 3) (g) (0) (4) rfl (hE 3 (.pointer (some ⟨g, 0, none⟩)) (by kernel_rfl) (by kernel_rfl)) (by kernel_rfl) rfl) ?_
        refine sv 2 rfl rfl rfl (fun a u hE hD hk => exec_loadi 3 Try.underlying3 (.tmp 32) ⟨g, 4, none⟩ (.int .i64 o.k) rfl (hD 0 32 (by kernel_rfl)) (range_int (range_kept HO4.out hk) 4 _ rfl)) ?_
        refine fsteps_cons 3 rfl (fun a u hE hD hk => f_as (show ((decide ((o.k : Int) = (5 : Int))) : Bool) = false from decide_eq_false hk5) (f_val (o := ⟨some 34, _, _, _, _, _⟩) (.bool (decide ((o.k : Int) = (5 : Int)))) rfl (wanted_none rfl _) (exec_eqn (p := o.k) (q := 5) rfl (hD 1 33 (by kernel_rfl)) rfl) rfl)) ?_
        refine sv 4 rfl rfl rfl (fun a u hE hD hk => exec_move (.tmp 34) _ rfl (hD 2 34 (by kernel_rfl))) ?_
        refine fsteps_cons 5 rfl (fun a u hE hD hk => f_skip (o := ⟨some 36, _, _, _, _, _⟩) rfl (wanted_at (b := true) false rfl rfl (hD 3 35 (by kernel_rfl))) rfl) ?_
        refine fsteps_cons 6 rfl (fun a u hE hD hk => f_skip (o := ⟨some 37, _, _, _, _, _⟩) rfl (wanted_at (b := true) false rfl rfl (hD 3 35 (by kernel_rfl))) rfl) ?_
        refine fsteps_cons 7 rfl (fun a u hE hD hk => f_skip (o := ⟨some 38, _, _, _, _, _⟩) rfl (wanted_at (b := true) false rfl rfl (hD 3 35 (by kernel_rfl))) rfl) ?_
        refine fsteps_cons 8 rfl (fun a u hE hD hk => f_skip (o := ⟨some 39, _, _, _, _, _⟩) rfl (wanted_at (b := true) false rfl rfl (hD 3 35 (by kernel_rfl))) rfl) ?_
        refine fsteps_cons 9 rfl (fun a u hE hD hk => f_skip (o := ⟨some 40, _, _, _, _, _⟩) rfl (wanted_at (b := true) false rfl rfl (hD 3 35 (by kernel_rfl))) rfl) ?_
        refine sv 10 rfl rfl rfl (fun a u hE hD hk => exec_pickF (.tmp 35) (.tmp 40) (.const (.bool false)) (.bool false) rfl (hD 3 35 (by kernel_rfl)) rfl) ?_
        exact fsteps_nil
       intro gv w5 hV k5
       rw [show dstsOf _ 10 = [32, 33, 34, 35, 36, 37, 38, 39, 40, 41] by kernel_rfl]
       simp only [fC, fN, sA, sS, sZ, dS, dZ]
       rw [show gv 41 = .bool false from hV 9 41 (by kernel_rfl)]
       clear hV
       refine wpList_nil ?_
       have kx5 := kx4.trans k5
       have HO5 := Lib.hid (range_kept HO4.out k5)
       have HN5 := Lib.hid hk5
       clear HO4 k5 kx4 hk5
       by_cases hk4 : o.k = 4
       ·skip
        have HK4 := Lib.hid hk4
        by_cases hgv : gv0 < o.qty
        ·have HE : Hid (B.err o = 12) := by show _ = _; rw [HE0.out, if_neg (fun h => HN5.out h.1), if_pos ⟨hk4, HGL.out.1 hgv⟩]
         go_upto_region 10 with fail
         refine wp_free 13 [.eq (.pointer (some ⟨g, 4, none⟩)), .eq (.int .i64 o.k), .eq (.bool true), .eq (.bool true), .eq (.pointer (some ⟨p, 0, none⟩)), .eq (o.v), .eq (.pointer (some ⟨p, offS (3 - o.side), none⟩)), .eq (o.v), .eq (.int .i64 gv0), .eq (.pointer (some ⟨g, 6, none⟩)), .eq (.int .i64 o.qty), .eq (.bool true), .eq (.bool true)] (by kernel_rfl) rfl (by kernel_rfl) ?_ ?_
         ·refine sv 1 rfl rfl rfl (fun a u hE hD hk => exec_fldo 25 4 4 (.tmp 3) (g) (0) (4) rfl (hE 3 (.pointer (some ⟨g, 0, none⟩)) (by kernel_rfl) (by kernel_rfl)) (by kernel_rfl) rfl) ?_
          refine sv 2 rfl rfl rfl (fun a u hE hD hk => exec_loadi 3 Try.underlying3 (.tmp 42) ⟨g, 4, none⟩ (.int .i64 o.k) rfl (hD 0 42 (by kernel_rfl)) (range_int (range_kept HO5.out hk) 4 _ rfl)) ?_
          refine fsteps_cons 3 rfl (fun a u hE hD hk => f_as (show ((decide ((o.k : Int) = (4 : Int))) : Bool) = true from decide_eq_true hk4) (f_val (o := ⟨some 44, _, _, _, _, _⟩) (.bool (decide ((o.k : Int) = (4 : Int)))) rfl (wanted_none rfl _) (exec_eqn (p := o.k) (q := 4) rfl (hD 1 43 (by kernel_rfl)) rfl) rfl)) ?_
          refine sv 4 rfl rfl rfl (fun a u hE hD hk => exec_move (.tmp 44) _ rfl (hD 2 44 (by kernel_rfl))) ?_
          refine fsteps_cons 5 rfl (fun a u hE hD hk => f_val (o := ⟨some 46, _, _, _, _, _⟩) (.pointer (some ⟨p, 0, none⟩)) rfl (wanted_at (b := true) true rfl rfl (hD 3 45 (by kernel_rfl))) (exec_move (.tmp 0) _ rfl (hE 0 (.pointer (some ⟨p, 0, none⟩)) (by kernel_rfl) (by kernel_rfl))) rfl) ?_
          refine fsteps_cons 6 rfl (fun a u hE hD hk => f_val (o := ⟨some 47, _, _, _, _, _⟩) (o.v) rfl (wanted_at (b := true) true rfl rfl (hD 3 45 (by kernel_rfl))) (exec_ldS 25 _ (.tmp 3) (g) (0) (o.cells) rfl (hE 3 (.pointer (some ⟨g, 0, none⟩)) (by kernel_rfl) (by kernel_rfl)) (range_kept HO5.out hk) Try.underlying25 (by rw [o.len9]; exact ord_size)) rfl) ?_
          refine fsteps_cons 7 rfl (fun a u hE hD hk => f_call (o := ⟨some 48, _, _, _, _, _⟩) 63 #[.pointer (some ⟨p, 0, none⟩), o.v] rfl (wanted_at (b := true) true rfl rfl (hD 3 45 (by kernel_rfl))) (exec_call 63 _ [.tmp 46, .tmp 47] _ [.pointer (some ⟨p, 0, none⟩), o.v] Try.func63 (by kernel_rfl) (by kernel_rfl) rfl (show [a.eval (.tmp 46), a.eval (.tmp 47)] = [.pointer (some ⟨p, 0, none⟩), o.v] from (by rw [show a.eval (.tmp 46) = .pointer (some ⟨p, 0, none⟩) from (hD 4 46 (by kernel_rfl)), show a.eval (.tmp 47) = o.v from (hD 5 47 (by kernel_rfl))] <;> rfl)) u) (against_any u p o HSD.out)) ?_
          refine fsteps_cons 8 rfl (fun a u hE hD hk => f_val (o := ⟨some 49, _, _, _, _, _⟩) (o.v) rfl (wanted_at (b := true) true rfl rfl (hD 3 45 (by kernel_rfl))) (exec_ldS 25 _ (.tmp 3) (g) (0) (o.cells) rfl (hE 3 (.pointer (some ⟨g, 0, none⟩)) (by kernel_rfl) (by kernel_rfl)) (range_kept HO5.out hk) Try.underlying25 (by rw [o.len9]; exact ord_size)) rfl) ?_
          refine fsteps_cons 9 rfl (fun a u hE hD hk => f_call (o := ⟨some 50, _, _, _, _, _⟩) 65 #[.pointer (some ⟨p, offS (3 - o.side), none⟩), o.v] rfl (wanted_at (b := true) true rfl rfl (hD 3 45 (by kernel_rfl))) (exec_call 65 _ [.tmp 48, .tmp 49] _ [.pointer (some ⟨p, offS (3 - o.side), none⟩), o.v] Try.func65 (by kernel_rfl) (by kernel_rfl) rfl (show [a.eval (.tmp 48), a.eval (.tmp 49)] = [.pointer (some ⟨p, offS (3 - o.side), none⟩), o.v] from (by rw [show a.eval (.tmp 48) = .pointer (some ⟨p, offS (3 - o.side), none⟩) from (hD 6 48 (by kernel_rfl)), show a.eval (.tmp 49) = o.v from (hD 7 49 (by kernel_rfl))] <;> rfl)) u) ((by obtain ⟨F', hLd⟩ := (HB.out.kept (kx5.trans hk)).lad HS3.out; rw [← HGV.out]; exact gives_any u F' p (offS (3 - o.side)) (3 - o.side) (3 - o.side) _ o hLd HSID.out))) ?_
          refine fsteps_cons 10 rfl (fun a u hE hD hk => f_val (o := ⟨some 51, _, _, _, _, _⟩) (.pointer (some ⟨g, 6, none⟩)) rfl (wanted_at (b := true) true rfl rfl (hD 3 45 (by kernel_rfl))) (exec_fldo 25 6 6 (.tmp 3) (g) (0) (6) rfl (hE 3 (.pointer (some ⟨g, 0, none⟩)) (by kernel_rfl) (by kernel_rfl)) (by kernel_rfl) rfl) rfl) ?_
          refine fsteps_cons 11 rfl (fun a u hE hD hk => f_val (o := ⟨some 52, _, _, _, _, _⟩) (.int .i64 o.qty) rfl (wanted_at (b := true) true rfl rfl (hD 3 45 (by kernel_rfl))) (exec_loadi 3 Try.underlying3 (.tmp 51) ⟨g, 6, none⟩ (.int .i64 o.qty) rfl (hD 9 51 (by kernel_rfl)) (range_int (range_kept HO5.out hk) 6 _ rfl)) rfl) ?_
          refine fsteps_cons 12 rfl (fun a u hE hD hk => f_as (show ((decide ((gv0 : Int) < (o.qty : Int))) : Bool) = true from decide_eq_true hgv) (f_val (o := ⟨some 53, _, _, _, _, _⟩) (.bool (decide ((gv0 : Int) < (o.qty : Int)))) rfl (wanted_at (b := true) true rfl rfl (hD 3 45 (by kernel_rfl))) (exec_ltn (p := gv0) (q := o.qty) rfl (hD 8 50 (by kernel_rfl)) (hD 10 52 (by kernel_rfl))) rfl)) ?_
          refine sv 13 rfl rfl rfl (fun a u hE hD hk => exec_pick (.tmp 45) (.tmp 53) (.const (.bool false)) (.bool true) rfl (hD 3 45 (by kernel_rfl)) (hD 11 53 (by kernel_rfl))) ?_
          exact fsteps_nil
         intro gv w6 hV k6
         rw [show dstsOf _ 13 = [42, 43, 44, 45, 46, 47, 48, 49, 50, 51, 52, 53, 54] by kernel_rfl]
         simp only [fC, fN, sA, sS, sZ, dS, dZ]
         rw [show gv 54 = .bool true from hV 12 54 (by kernel_rfl)]
         clear hV
         refine wpList_nil ?_
         have kx := kx5.trans k6
         clear HO5 k6 kx5 hk4 hgv
         go_wp2
         go_ret
         exact ⟨by rw [HE.out]; rfl, kx⟩
        ·have HE : Hid (B.err o = 0) := by show _ = _; rw [HE0.out, if_neg (fun h => HN5.out h.1), if_neg (fun h => hgv (HGL.out.2 h.2))]
         go_upto_region 10 with fail
         refine wp_free 13 [.eq (.pointer (some ⟨g, 4, none⟩)), .eq (.int .i64 o.k), .eq (.bool true), .eq (.bool true), .eq (.pointer (some ⟨p, 0, none⟩)), .eq (o.v), .eq (.pointer (some ⟨p, offS (3 - o.side), none⟩)), .eq (o.v), .eq (.int .i64 gv0), .eq (.pointer (some ⟨g, 6, none⟩)), .eq (.int .i64 o.qty), .eq (.bool false), .eq (.bool false)] (by kernel_rfl) rfl (by kernel_rfl) ?_ ?_
         ·refine sv 1 rfl rfl rfl (fun a u hE hD hk => exec_fldo 25 4 4 (.tmp 3) (g) (0) (4) rfl (hE 3 (.pointer (some ⟨g, 0, none⟩)) (by kernel_rfl) (by kernel_rfl)) (by kernel_rfl) rfl) ?_
          refine sv 2 rfl rfl rfl (fun a u hE hD hk => exec_loadi 3 Try.underlying3 (.tmp 42) ⟨g, 4, none⟩ (.int .i64 o.k) rfl (hD 0 42 (by kernel_rfl)) (range_int (range_kept HO5.out hk) 4 _ rfl)) ?_
          refine fsteps_cons 3 rfl (fun a u hE hD hk => f_as (show ((decide ((o.k : Int) = (4 : Int))) : Bool) = true from decide_eq_true hk4) (f_val (o := ⟨some 44, _, _, _, _, _⟩) (.bool (decide ((o.k : Int) = (4 : Int)))) rfl (wanted_none rfl _) (exec_eqn (p := o.k) (q := 4) rfl (hD 1 43 (by kernel_rfl)) rfl) rfl)) ?_
          refine sv 4 rfl rfl rfl (fun a u hE hD hk => exec_move (.tmp 44) _ rfl (hD 2 44 (by kernel_rfl))) ?_
          refine fsteps_cons 5 rfl (fun a u hE hD hk => f_val (o := ⟨some 46, _, _, _, _, _⟩) (.pointer (some ⟨p, 0, none⟩)) rfl (wanted_at (b := true) true rfl rfl (hD 3 45 (by kernel_rfl))) (exec_move (.tmp 0) _ rfl (hE 0 (.pointer (some ⟨p, 0, none⟩)) (by kernel_rfl) (by kernel_rfl))) rfl) ?_
          refine fsteps_cons 6 rfl (fun a u hE hD hk => f_val (o := ⟨some 47, _, _, _, _, _⟩) (o.v) rfl (wanted_at (b := true) true rfl rfl (hD 3 45 (by kernel_rfl))) (exec_ldS 25 _ (.tmp 3) (g) (0) (o.cells) rfl (hE 3 (.pointer (some ⟨g, 0, none⟩)) (by kernel_rfl) (by kernel_rfl)) (range_kept HO5.out hk) Try.underlying25 (by rw [o.len9]; exact ord_size)) rfl) ?_
          refine fsteps_cons 7 rfl (fun a u hE hD hk => f_call (o := ⟨some 48, _, _, _, _, _⟩) 63 #[.pointer (some ⟨p, 0, none⟩), o.v] rfl (wanted_at (b := true) true rfl rfl (hD 3 45 (by kernel_rfl))) (exec_call 63 _ [.tmp 46, .tmp 47] _ [.pointer (some ⟨p, 0, none⟩), o.v] Try.func63 (by kernel_rfl) (by kernel_rfl) rfl (show [a.eval (.tmp 46), a.eval (.tmp 47)] = [.pointer (some ⟨p, 0, none⟩), o.v] from (by rw [show a.eval (.tmp 46) = .pointer (some ⟨p, 0, none⟩) from (hD 4 46 (by kernel_rfl)), show a.eval (.tmp 47) = o.v from (hD 5 47 (by kernel_rfl))] <;> rfl)) u) (against_any u p o HSD.out)) ?_
          refine fsteps_cons 8 rfl (fun a u hE hD hk => f_val (o := ⟨some 49, _, _, _, _, _⟩) (o.v) rfl (wanted_at (b := true) true rfl rfl (hD 3 45 (by kernel_rfl))) (exec_ldS 25 _ (.tmp 3) (g) (0) (o.cells) rfl (hE 3 (.pointer (some ⟨g, 0, none⟩)) (by kernel_rfl) (by kernel_rfl)) (range_kept HO5.out hk) Try.underlying25 (by rw [o.len9]; exact ord_size)) rfl) ?_
          refine fsteps_cons 9 rfl (fun a u hE hD hk => f_call (o := ⟨some 50, _, _, _, _, _⟩) 65 #[.pointer (some ⟨p, offS (3 - o.side), none⟩), o.v] rfl (wanted_at (b := true) true rfl rfl (hD 3 45 (by kernel_rfl))) (exec_call 65 _ [.tmp 48, .tmp 49] _ [.pointer (some ⟨p, offS (3 - o.side), none⟩), o.v] Try.func65 (by kernel_rfl) (by kernel_rfl) rfl (show [a.eval (.tmp 48), a.eval (.tmp 49)] = [.pointer (some ⟨p, offS (3 - o.side), none⟩), o.v] from (by rw [show a.eval (.tmp 48) = .pointer (some ⟨p, offS (3 - o.side), none⟩) from (hD 6 48 (by kernel_rfl)), show a.eval (.tmp 49) = o.v from (hD 7 49 (by kernel_rfl))] <;> rfl)) u) ((by obtain ⟨F', hLd⟩ := (HB.out.kept (kx5.trans hk)).lad HS3.out; rw [← HGV.out]; exact gives_any u F' p (offS (3 - o.side)) (3 - o.side) (3 - o.side) _ o hLd HSID.out))) ?_
          refine fsteps_cons 10 rfl (fun a u hE hD hk => f_val (o := ⟨some 51, _, _, _, _, _⟩) (.pointer (some ⟨g, 6, none⟩)) rfl (wanted_at (b := true) true rfl rfl (hD 3 45 (by kernel_rfl))) (exec_fldo 25 6 6 (.tmp 3) (g) (0) (6) rfl (hE 3 (.pointer (some ⟨g, 0, none⟩)) (by kernel_rfl) (by kernel_rfl)) (by kernel_rfl) rfl) rfl) ?_
          refine fsteps_cons 11 rfl (fun a u hE hD hk => f_val (o := ⟨some 52, _, _, _, _, _⟩) (.int .i64 o.qty) rfl (wanted_at (b := true) true rfl rfl (hD 3 45 (by kernel_rfl))) (exec_loadi 3 Try.underlying3 (.tmp 51) ⟨g, 6, none⟩ (.int .i64 o.qty) rfl (hD 9 51 (by kernel_rfl)) (range_int (range_kept HO5.out hk) 6 _ rfl)) rfl) ?_
          refine fsteps_cons 12 rfl (fun a u hE hD hk => f_as (show ((decide ((gv0 : Int) < (o.qty : Int))) : Bool) = false from decide_eq_false hgv) (f_val (o := ⟨some 53, _, _, _, _, _⟩) (.bool (decide ((gv0 : Int) < (o.qty : Int)))) rfl (wanted_at (b := true) true rfl rfl (hD 3 45 (by kernel_rfl))) (exec_ltn (p := gv0) (q := o.qty) rfl (hD 8 50 (by kernel_rfl)) (hD 10 52 (by kernel_rfl))) rfl)) ?_
          refine sv 13 rfl rfl rfl (fun a u hE hD hk => exec_pick (.tmp 45) (.tmp 53) (.const (.bool false)) (.bool false) rfl (hD 3 45 (by kernel_rfl)) (hD 11 53 (by kernel_rfl))) ?_
          exact fsteps_nil
         intro gv w6 hV k6
         rw [show dstsOf _ 13 = [42, 43, 44, 45, 46, 47, 48, 49, 50, 51, 52, 53, 54] by kernel_rfl]
         simp only [fC, fN, sA, sS, sZ, dS, dZ]
         rw [show gv 54 = .bool false from hV 12 54 (by kernel_rfl)]
         clear hV
         refine wpList_nil ?_
         have kx := kx5.trans k6
         clear HO5 k6 kx5 hk4 hgv
         go_wp2
         go_ret
         exact ⟨by rw [HE.out]; rfl, kx⟩
       ·have HE : Hid (B.err o = 0) := by show _ = _; rw [HE0.out, if_neg (fun h => HN5.out h.1), if_neg (fun h => hk4 h.1)]
        go_upto_region 10 with fail
        refine wp_free 13 [.eq (.pointer (some ⟨g, 4, none⟩)), .eq (.int .i64 o.k), .eq (.bool false), .eq (.bool false), .eq undef, .eq undef, .eq undef, .eq undef, .eq undef, .eq undef, .eq undef, .eq undef, .eq (.bool false)] (by kernel_rfl) rfl (by kernel_rfl) ?_ ?_
        ·refine sv 1 rfl rfl rfl (fun a u hE hD hk => exec_fldo 25 4 4 (.tmp 3) (g) (0) (4) rfl (hE 3 (.pointer (some ⟨g, 0, none⟩)) (by kernel_rfl) (by kernel_rfl)) (by kernel_rfl) rfl) ?_
         refine sv 2 rfl rfl rfl (fun a u hE hD hk => exec_loadi 3 Try.underlying3 (.tmp 42) ⟨g, 4, none⟩ (.int .i64 o.k) rfl (hD 0 42 (by kernel_rfl)) (range_int (range_kept HO5.out hk) 4 _ rfl)) ?_
         refine fsteps_cons 3 rfl (fun a u hE hD hk => f_as (show ((decide ((o.k : Int) = (4 : Int))) : Bool) = false from decide_eq_false hk4) (f_val (o := ⟨some 44, _, _, _, _, _⟩) (.bool (decide ((o.k : Int) = (4 : Int)))) rfl (wanted_none rfl _) (exec_eqn (p := o.k) (q := 4) rfl (hD 1 43 (by kernel_rfl)) rfl) rfl)) ?_
         refine sv 4 rfl rfl rfl (fun a u hE hD hk => exec_move (.tmp 44) _ rfl (hD 2 44 (by kernel_rfl))) ?_
         refine fsteps_cons 5 rfl (fun a u hE hD hk => f_skip (o := ⟨some 46, _, _, _, _, _⟩) rfl (wanted_at (b := true) false rfl rfl (hD 3 45 (by kernel_rfl))) rfl) ?_
         refine fsteps_cons 6 rfl (fun a u hE hD hk => f_skip (o := ⟨some 47, _, _, _, _, _⟩) rfl (wanted_at (b := true) false rfl rfl (hD 3 45 (by kernel_rfl))) rfl) ?_
         refine fsteps_cons 7 rfl (fun a u hE hD hk => f_skip (o := ⟨some 48, _, _, _, _, _⟩) rfl (wanted_at (b := true) false rfl rfl (hD 3 45 (by kernel_rfl))) rfl) ?_
         refine fsteps_cons 8 rfl (fun a u hE hD hk => f_skip (o := ⟨some 49, _, _, _, _, _⟩) rfl (wanted_at (b := true) false rfl rfl (hD 3 45 (by kernel_rfl))) rfl) ?_
         refine fsteps_cons 9 rfl (fun a u hE hD hk => f_skip (o := ⟨some 50, _, _, _, _, _⟩) rfl (wanted_at (b := true) false rfl rfl (hD 3 45 (by kernel_rfl))) rfl) ?_
         refine fsteps_cons 10 rfl (fun a u hE hD hk => f_skip (o := ⟨some 51, _, _, _, _, _⟩) rfl (wanted_at (b := true) false rfl rfl (hD 3 45 (by kernel_rfl))) rfl) ?_
         refine fsteps_cons 11 rfl (fun a u hE hD hk => f_skip (o := ⟨some 52, _, _, _, _, _⟩) rfl (wanted_at (b := true) false rfl rfl (hD 3 45 (by kernel_rfl))) rfl) ?_
         refine fsteps_cons 12 rfl (fun a u hE hD hk => f_skip (o := ⟨some 53, _, _, _, _, _⟩) rfl (wanted_at (b := true) false rfl rfl (hD 3 45 (by kernel_rfl))) rfl) ?_
         refine sv 13 rfl rfl rfl (fun a u hE hD hk => exec_pickF (.tmp 45) (.tmp 53) (.const (.bool false)) (.bool false) rfl (hD 3 45 (by kernel_rfl)) rfl) ?_
         exact fsteps_nil
        intro gv w6 hV k6
        rw [show dstsOf _ 13 = [42, 43, 44, 45, 46, 47, 48, 49, 50, 51, 52, 53, 54] by kernel_rfl]
        simp only [fC, fN, sA, sS, sZ, dS, dZ]
        rw [show gv 54 = .bool false from hV 12 54 (by kernel_rfl)]
        clear hV
        refine wpList_nil ?_
        have kx := kx5.trans k6
        clear HO5 k6 kx5 hk4
        go_wp2
        go_ret
        exact ⟨by rw [HE.out]; rfl, kx⟩
     | false =>
      clear hfull
      go_upto_region 6 with fail
      refine wp_text 7 [.eq (o.v), .eq (.bool false), .eq (.bool false), .eq undef, .eq undef, .eq undef, .eq (.bool false)] rfl (by kernel_rfl) ?_ ?_
      ·refine sv 1 rfl rfl rfl (fun a u hE hD hk => exec_ldS 25 _ (.tmp 3) (g) (0) (o.cells) rfl (hE 3 (.pointer (some ⟨g, 0, none⟩)) (by kernel_rfl) (by kernel_rfl)) (range_kept HO3.out hk) Try.underlying25 (by rw [o.len9]; exact ord_size)) ?_
       refine fsteps_cons 2 rfl (fun a u hE hD hk => f_call (o := ⟨some 26, _, _, _, _, _⟩) 41 #[o.v] rfl (wanted_none rfl _) (exec_call 41 _ [.tmp 25] _ [o.v] Try.func41 (by kernel_rfl) (by kernel_rfl) rfl (show [a.eval (.tmp 25)] = [o.v] from (by rw [show a.eval (.tmp 25) = o.v from (hD 0 25 (by kernel_rfl))] <;> rfl)) u) ((by rw [← HMR.out]; exact mayRest_any u o))) ?_
       refine sv 3 rfl rfl rfl (fun a u hE hD hk => exec_move (.tmp 26) _ rfl (hD 1 26 (by kernel_rfl))) ?_
       refine fsteps_cons 4 rfl (fun a u hE hD hk => f_skip (o := ⟨some 28, _, _, _, _, _⟩) rfl (wanted_at (b := true) false rfl rfl (hD 2 27 (by kernel_rfl))) rfl) ?_
       refine fsteps_cons 5 rfl (fun a u hE hD hk => f_skip (o := ⟨some 29, _, _, _, _, _⟩) rfl (wanted_at (b := true) false rfl rfl (hD 2 27 (by kernel_rfl))) rfl) ?_
       refine fsteps_cons 6 rfl (fun a u hE hD hk => f_skip (o := ⟨some 30, _, _, _, _, _⟩) rfl (wanted_at (b := true) false rfl rfl (hD 2 27 (by kernel_rfl))) rfl) ?_
       refine sv 7 rfl rfl rfl (fun a u hE hD hk => exec_pickF (.tmp 27) (.tmp 30) (.const (.bool false)) (.bool false) rfl (hD 2 27 (by kernel_rfl)) rfl) ?_
       exact fsteps_nil
      intro gv w4 hV k4
      rw [show dstsOf _ 7 = [25, 26, 27, 28, 29, 30, 31] by kernel_rfl]
      simp only [fC, fN, sA, sS, sZ, dS, dZ]
      rw [show gv 31 = .bool false from hV 6 31 (by kernel_rfl)]
      clear hV
      refine wpList_nil ?_
      have kx4 := kx3.trans k4
      have HO4 := Lib.hid (range_kept HO3.out k4)
      clear HO3 k4 kx3
      by_cases hk5 : o.k = 5
      ·skip
       have HK5 := Lib.hid hk5
       have hk4 : ¬ o.k = 4 := by omega
       cases mb with
       | true =>
        have HE : Hid (B.err o = 11) := by show _ = _; rw [HE0.out, if_pos ⟨hk5, HCR.out⟩]
        go_upto_region 8 with fail
        refine wp_free 10 [.eq (.pointer (some ⟨g, 4, none⟩)), .eq (.int .i64 o.k), .eq (.bool true), .eq (.bool true), .eq (.pointer (some ⟨p, 0, none⟩)), .eq (o.v), .eq (.pointer (some ⟨p, offS (3 - o.side), none⟩)), .eq (o.v), .eq (.bool true), .eq (.bool true)] (by kernel_rfl) rfl (by kernel_rfl) ?_ ?_
        ·refine sv 1 rfl rfl rfl (fun a u hE hD hk => exec_fldo 25 4 4 (.tmp 3) (g) (0) (4) rfl (hE 3 (.pointer (some ⟨g, 0, none⟩)) (by kernel_rfl) (by kernel_rfl)) (by kernel_rfl) rfl) ?_
         refine sv 2 rfl rfl rfl (fun a u hE hD hk => exec_loadi 3 Try.underlying3 (.tmp 32) ⟨g, 4, none⟩ (.int .i64 o.k) rfl (hD 0 32 (by kernel_rfl)) (range_int (range_kept HO4.out hk) 4 _ rfl)) ?_
         refine fsteps_cons 3 rfl (fun a u hE hD hk => f_as (show ((decide ((o.k : Int) = (5 : Int))) : Bool) = true from decide_eq_true hk5) (f_val (o := ⟨some 34, _, _, _, _, _⟩) (.bool (decide ((o.k : Int) = (5 : Int)))) rfl (wanted_none rfl _) (exec_eqn (p := o.k) (q := 5) rfl (hD 1 33 (by kernel_rfl)) rfl) rfl)) ?_
         refine sv 4 rfl rfl rfl (fun a u hE hD hk => exec_move (.tmp 34) _ rfl (hD 2 34 (by kernel_rfl))) ?_
         refine fsteps_cons 5 rfl (fun a u hE hD hk => f_val (o := ⟨some 36, _, _, _, _, _⟩) (.pointer (some ⟨p, 0, none⟩)) rfl (wanted_at (b := true) true rfl rfl (hD 3 35 (by kernel_rfl))) (exec_move (.tmp 0) _ rfl (hE 0 (.pointer (some ⟨p, 0, none⟩)) (by kernel_rfl) (by kernel_rfl))) rfl) ?_
         refine fsteps_cons 6 rfl (fun a u hE hD hk => f_val (o := ⟨some 37, _, _, _, _, _⟩) (o.v) rfl (wanted_at (b := true) true rfl rfl (hD 3 35 (by kernel_rfl))) (exec_ldS 25 _ (.tmp 3) (g) (0) (o.cells) rfl (hE 3 (.pointer (some ⟨g, 0, none⟩)) (by kernel_rfl) (by kernel_rfl)) (range_kept HO4.out hk) Try.underlying25 (by rw [o.len9]; exact ord_size)) rfl) ?_
         refine fsteps_cons 7 rfl (fun a u hE hD hk => f_call (o := ⟨some 38, _, _, _, _, _⟩) 63 #[.pointer (some ⟨p, 0, none⟩), o.v] rfl (wanted_at (b := true) true rfl rfl (hD 3 35 (by kernel_rfl))) (exec_call 63 _ [.tmp 36, .tmp 37] _ [.pointer (some ⟨p, 0, none⟩), o.v] Try.func63 (by kernel_rfl) (by kernel_rfl) rfl (show [a.eval (.tmp 36), a.eval (.tmp 37)] = [.pointer (some ⟨p, 0, none⟩), o.v] from (by rw [show a.eval (.tmp 36) = .pointer (some ⟨p, 0, none⟩) from (hD 4 36 (by kernel_rfl)), show a.eval (.tmp 37) = o.v from (hD 5 37 (by kernel_rfl))] <;> rfl)) u) (against_any u p o HSD.out)) ?_
         refine fsteps_cons 8 rfl (fun a u hE hD hk => f_val (o := ⟨some 39, _, _, _, _, _⟩) (o.v) rfl (wanted_at (b := true) true rfl rfl (hD 3 35 (by kernel_rfl))) (exec_ldS 25 _ (.tmp 3) (g) (0) (o.cells) rfl (hE 3 (.pointer (some ⟨g, 0, none⟩)) (by kernel_rfl) (by kernel_rfl)) (range_kept HO4.out hk) Try.underlying25 (by rw [o.len9]; exact ord_size)) rfl) ?_
         refine fsteps_cons 9 rfl (fun a u hE hD hk => f_call (o := ⟨some 40, _, _, _, _, _⟩) 64 #[.pointer (some ⟨p, offS (3 - o.side), none⟩), o.v] rfl (wanted_at (b := true) true rfl rfl (hD 3 35 (by kernel_rfl))) (exec_call 64 _ [.tmp 38, .tmp 39] _ [.pointer (some ⟨p, offS (3 - o.side), none⟩), o.v] Try.func64 (by kernel_rfl) (by kernel_rfl) rfl (show [a.eval (.tmp 38), a.eval (.tmp 39)] = [.pointer (some ⟨p, offS (3 - o.side), none⟩), o.v] from (by rw [show a.eval (.tmp 38) = .pointer (some ⟨p, offS (3 - o.side), none⟩) from (hD 6 38 (by kernel_rfl)), show a.eval (.tmp 39) = o.v from (hD 7 39 (by kernel_rfl))] <;> rfl)) u) ((by obtain ⟨F', hLd⟩ := (HB.out.kept (kx4.trans hk)).lad HS3.out; rw [← HCR.out]; exact crossed_any u F' p (offS (3 - o.side)) (3 - o.side) _ o hLd HL64.out))) ?_
         refine sv 10 rfl rfl rfl (fun a u hE hD hk => exec_pick (.tmp 35) (.tmp 40) (.const (.bool false)) (.bool true) rfl (hD 3 35 (by kernel_rfl)) (hD 8 40 (by kernel_rfl))) ?_
         exact fsteps_nil
        intro gv w5 hV k5
        rw [show dstsOf _ 10 = [32, 33, 34, 35, 36, 37, 38, 39, 40, 41] by kernel_rfl]
        simp only [fC, fN, sA, sS, sZ, dS, dZ]
        rw [show gv 41 = .bool true from hV 9 41 (by kernel_rfl)]
        clear hV
        refine wpList_nil ?_
        have kx := kx4.trans k5
        clear HO4 k5 kx4 hk5 hk4
        go_wp2
        go_ret
        exact ⟨by rw [HE.out]; rfl, kx⟩
       | false =>
        have HE : Hid (B.err o = 0) := by show _ = _; rw [HE0.out, if_neg (fun h => by rw [HCR.out] at h; cases h.2), if_neg (fun h => hk4 h.1)]
        go_upto_region 8 with fail
        refine wp_free 10 [.eq (.pointer (some ⟨g, 4, none⟩)), .eq (.int .i64 o.k), .eq (.bool true), .eq (.bool true), .eq (.pointer (some ⟨p, 0, none⟩)), .eq (o.v), .eq (.pointer (some ⟨p, offS (3 - o.side), none⟩)), .eq (o.v), .eq (.bool false), .eq (.bool false)] (by kernel_rfl) rfl (by kernel_rfl) ?_ ?_
        ·refine sv 1 rfl rfl rfl (fun a u hE hD hk => exec_fldo 25 4 4 (.tmp 3) (g) (0) (4) rfl (hE 3 (.pointer (some ⟨g, 0, none⟩)) (by kernel_rfl) (by kernel_rfl)) (by kernel_rfl) rfl) ?_
         refine sv 2 rfl rfl rfl (fun a u hE hD hk => exec_loadi 3 Try.underlying3 (.tmp 32) ⟨g, 4, none⟩ (.int .i64 o.k) rfl (hD 0 32 (by kernel_rfl)) (range_int (range_kept HO4.out hk) 4 _ rfl)) ?_
         refine fsteps_cons 3 rfl (fun a u hE hD hk => f_as (show ((decide ((o.k : Int) = (5 : Int))) : Bool) = true from decide_eq_true hk5) (f_val (o := ⟨some 34, _, _, _, _, _⟩) (.bool (decide ((o.k : Int) = (5 : Int)))) rfl (wanted_none rfl _) (exec_eqn (p := o.k) (q := 5) rfl (hD 1 33 (by kernel_rfl)) rfl) rfl)) ?_
         refine sv 4 rfl rfl rfl (fun a u hE hD hk => exec_move (.tmp 34) _ rfl (hD 2 34 (by kernel_rfl))) ?_
         refine fsteps_cons 5 rfl (fun a u hE hD hk => f_val (o := ⟨some 36, _, _, _, _, _⟩) (.pointer (some ⟨p, 0, none⟩)) rfl (wanted_at (b := true) true rfl rfl (hD 3 35 (by kernel_rfl))) (exec_move (.tmp 0) _ rfl (hE 0 (.pointer (some ⟨p, 0, none⟩)) (by kernel_rfl) (by kernel_rfl))) rfl) ?_
         refine fsteps_cons 6 rfl (fun a u hE hD hk => f_val (o := ⟨some 37, _, _, _, _, _⟩) (o.v) rfl (wanted_at (b := true) true rfl rfl (hD 3 35 (by kernel_rfl))) (exec_ldS 25 _ (.tmp 3) (g) (0) (o.cells) rfl (hE 3 (.pointer (some ⟨g, 0, none⟩)) (by kernel_rfl) (by kernel_rfl)) (range_kept HO4.out hk) Try.underlying25 (by rw [o.len9]; exact ord_size)) rfl) ?_
         refine fsteps_cons 7 rfl (fun a u hE hD hk => f_call (o := ⟨some 38, _, _, _, _, _⟩) 63 #[.pointer (some ⟨p, 0, none⟩), o.v] rfl (wanted_at (b := true) true rfl rfl (hD 3 35 (by kernel_rfl))) (exec_call 63 _ [.tmp 36, .tmp 37] _ [.pointer (some ⟨p, 0, none⟩), o.v] Try.func63 (by kernel_rfl) (by kernel_rfl) rfl (show [a.eval (.tmp 36), a.eval (.tmp 37)] = [.pointer (some ⟨p, 0, none⟩), o.v] from (by rw [show a.eval (.tmp 36) = .pointer (some ⟨p, 0, none⟩) from (hD 4 36 (by kernel_rfl)), show a.eval (.tmp 37) = o.v from (hD 5 37 (by kernel_rfl))] <;> rfl)) u) (against_any u p o HSD.out)) ?_
         refine fsteps_cons 8 rfl (fun a u hE hD hk => f_val (o := ⟨some 39, _, _, _, _, _⟩) (o.v) rfl (wanted_at (b := true) true rfl rfl (hD 3 35 (by kernel_rfl))) (exec_ldS 25 _ (.tmp 3) (g) (0) (o.cells) rfl (hE 3 (.pointer (some ⟨g, 0, none⟩)) (by kernel_rfl) (by kernel_rfl)) (range_kept HO4.out hk) Try.underlying25 (by rw [o.len9]; exact ord_size)) rfl) ?_
         refine fsteps_cons 9 rfl (fun a u hE hD hk => f_call (o := ⟨some 40, _, _, _, _, _⟩) 64 #[.pointer (some ⟨p, offS (3 - o.side), none⟩), o.v] rfl (wanted_at (b := true) true rfl rfl (hD 3 35 (by kernel_rfl))) (exec_call 64 _ [.tmp 38, .tmp 39] _ [.pointer (some ⟨p, offS (3 - o.side), none⟩), o.v] Try.func64 (by kernel_rfl) (by kernel_rfl) rfl (show [a.eval (.tmp 38), a.eval (.tmp 39)] = [.pointer (some ⟨p, offS (3 - o.side), none⟩), o.v] from (by rw [show a.eval (.tmp 38) = .pointer (some ⟨p, offS (3 - o.side), none⟩) from (hD 6 38 (by kernel_rfl)), show a.eval (.tmp 39) = o.v from (hD 7 39 (by kernel_rfl))] <;> rfl)) u) ((by obtain ⟨F', hLd⟩ := (HB.out.kept (kx4.trans hk)).lad HS3.out; rw [← HCR.out]; exact crossed_any u F' p (offS (3 - o.side)) (3 - o.side) _ o hLd HL64.out))) ?_
         refine sv 10 rfl rfl rfl (fun a u hE hD hk => exec_pick (.tmp 35) (.tmp 40) (.const (.bool false)) (.bool false) rfl (hD 3 35 (by kernel_rfl)) (hD 8 40 (by kernel_rfl))) ?_
         exact fsteps_nil
        intro gv w5 hV k5
        rw [show dstsOf _ 10 = [32, 33, 34, 35, 36, 37, 38, 39, 40, 41] by kernel_rfl]
        simp only [fC, fN, sA, sS, sZ, dS, dZ]
        rw [show gv 41 = .bool false from hV 9 41 (by kernel_rfl)]
        clear hV
        refine wpList_nil ?_
        have kx5 := kx4.trans k5
        have HO5 := Lib.hid (range_kept HO4.out k5)
        clear HO4 k5 kx4 hk5
        go_upto_region 10 with fail
        refine wp_free 13 [.eq (.pointer (some ⟨g, 4, none⟩)), .eq (.int .i64 o.k), .eq (.bool false), .eq (.bool false), .eq undef, .eq undef, .eq undef, .eq undef, .eq undef, .eq undef, .eq undef, .eq undef, .eq (.bool false)] (by kernel_rfl) rfl (by kernel_rfl) ?_ ?_
        ·refine sv 1 rfl rfl rfl (fun a u hE hD hk => exec_fldo 25 4 4 (.tmp 3) (g) (0) (4) rfl (hE 3 (.pointer (some ⟨g, 0, none⟩)) (by kernel_rfl) (by kernel_rfl)) (by kernel_rfl) rfl) ?_
         refine sv 2 rfl rfl rfl (fun a u hE hD hk => exec_loadi 3 Try.underlying3 (.tmp 42) ⟨g, 4, none⟩ (.int .i64 o.k) rfl (hD 0 42 (by kernel_rfl)) (range_int (range_kept HO5.out hk) 4 _ rfl)) ?_
         refine fsteps_cons 3 rfl (fun a u hE hD hk => f_as (show ((decide ((o.k : Int) = (4 : Int))) : Bool) = false from decide_eq_false hk4) (f_val (o := ⟨some 44, _, _, _, _, _⟩) (.bool (decide ((o.k : Int) = (4 : Int)))) rfl (wanted_none rfl _) (exec_eqn (p := o.k) (q := 4) rfl (hD 1 43 (by kernel_rfl)) rfl) rfl)) ?_
         refine sv 4 rfl rfl rfl (fun a u hE hD hk => exec_move (.tmp 44) _ rfl (hD 2 44 (by kernel_rfl))) ?_
         refine fsteps_cons 5 rfl (fun a u hE hD hk => f_skip (o := ⟨some 46, _, _, _, _, _⟩) rfl (wanted_at (b := true) false rfl rfl (hD 3 45 (by kernel_rfl))) rfl) ?_
         refine fsteps_cons 6 rfl (fun a u hE hD hk => f_skip (o := ⟨some 47, _, _, _, _, _⟩) rfl (wanted_at (b := true) false rfl rfl (hD 3 45 (by kernel_rfl))) rfl) ?_
         refine fsteps_cons 7 rfl (fun a u hE hD hk => f_skip (o := ⟨some 48, _, _, _, _, _⟩) rfl (wanted_at (b := true) false rfl rfl (hD 3 45 (by kernel_rfl))) rfl) ?_
         refine fsteps_cons 8 rfl (fun a u hE hD hk => f_skip (o := ⟨some 49, _, _, _, _, _⟩) rfl (wanted_at (b := true) false rfl rfl (hD 3 45 (by kernel_rfl))) rfl) ?_
         refine fsteps_cons 9 rfl (fun a u hE hD hk => f_skip (o := ⟨some 50, _, _, _, _, _⟩) rfl (wanted_at (b := true) false rfl rfl (hD 3 45 (by kernel_rfl))) rfl) ?_
         refine fsteps_cons 10 rfl (fun a u hE hD hk => f_skip (o := ⟨some 51, _, _, _, _, _⟩) rfl (wanted_at (b := true) false rfl rfl (hD 3 45 (by kernel_rfl))) rfl) ?_
         refine fsteps_cons 11 rfl (fun a u hE hD hk => f_skip (o := ⟨some 52, _, _, _, _, _⟩) rfl (wanted_at (b := true) false rfl rfl (hD 3 45 (by kernel_rfl))) rfl) ?_
         refine fsteps_cons 12 rfl (fun a u hE hD hk => f_skip (o := ⟨some 53, _, _, _, _, _⟩) rfl (wanted_at (b := true) false rfl rfl (hD 3 45 (by kernel_rfl))) rfl) ?_
         refine sv 13 rfl rfl rfl (fun a u hE hD hk => exec_pickF (.tmp 45) (.tmp 53) (.const (.bool false)) (.bool false) rfl (hD 3 45 (by kernel_rfl)) rfl) ?_
         exact fsteps_nil
        intro gv w6 hV k6
        rw [show dstsOf _ 13 = [42, 43, 44, 45, 46, 47, 48, 49, 50, 51, 52, 53, 54] by kernel_rfl]
        simp only [fC, fN, sA, sS, sZ, dS, dZ]
        rw [show gv 54 = .bool false from hV 12 54 (by kernel_rfl)]
        clear hV
        refine wpList_nil ?_
        have kx := kx5.trans k6
        clear HO5 k6 kx5 hk4
        go_wp2
        go_ret
        exact ⟨by rw [HE.out]; rfl, kx⟩
      ·skip
       go_upto_region 8 with fail
       refine wp_free 10 [.eq (.pointer (some ⟨g, 4, none⟩)), .eq (.int .i64 o.k), .eq (.bool false), .eq (.bool false), .eq undef, .eq undef, .eq undef, .eq undef, .eq undef, .eq (.bool false)] (by kernel_rfl) rfl (by kernel_rfl) ?_ ?_
       ·refine sv 1 rfl rfl rfl (fun a u hE hD hk => exec_fldo 25 4 4 (.tmp 3) (g) (0) (4) rfl (hE 3 (.pointer (some ⟨g, 0, none⟩)) (by kernel_rfl) (by kernel_rfl)) (by kernel_rfl) rfl) ?_
        refine sv 2 rfl rfl rfl (fun a u hE hD hk => exec_loadi 3 Try.underlying3 (.tmp 32) ⟨g, 4, none⟩ (.int .i64 o.k) rfl (hD 0 32 (by kernel_rfl)) (range_int (range_kept HO4.out hk) 4 _ rfl)) ?_
        refine fsteps_cons 3 rfl (fun a u hE hD hk => f_as (show ((decide ((o.k : Int) = (5 : Int))) : Bool) = false from decide_eq_false hk5) (f_val (o := ⟨some 34, _, _, _, _, _⟩) (.bool (decide ((o.k : Int) = (5 : Int)))) rfl (wanted_none rfl _) (exec_eqn (p := o.k) (q := 5) rfl (hD 1 33 (by kernel_rfl)) rfl) rfl)) ?_
        refine sv 4 rfl rfl rfl (fun a u hE hD hk => exec_move (.tmp 34) _ rfl (hD 2 34 (by kernel_rfl))) ?_
        refine fsteps_cons 5 rfl (fun a u hE hD hk => f_skip (o := ⟨some 36, _, _, _, _, _⟩) rfl (wanted_at (b := true) false rfl rfl (hD 3 35 (by kernel_rfl))) rfl) ?_
        refine fsteps_cons 6 rfl (fun a u hE hD hk => f_skip (o := ⟨some 37, _, _, _, _, _⟩) rfl (wanted_at (b := true) false rfl rfl (hD 3 35 (by kernel_rfl))) rfl) ?_
        refine fsteps_cons 7 rfl (fun a u hE hD hk => f_skip (o := ⟨some 38, _, _, _, _, _⟩) rfl (wanted_at (b := true) false rfl rfl (hD 3 35 (by kernel_rfl))) rfl) ?_
        refine fsteps_cons 8 rfl (fun a u hE hD hk => f_skip (o := ⟨some 39, _, _, _, _, _⟩) rfl (wanted_at (b := true) false rfl rfl (hD 3 35 (by kernel_rfl))) rfl) ?_
        refine fsteps_cons 9 rfl (fun a u hE hD hk => f_skip (o := ⟨some 40, _, _, _, _, _⟩) rfl (wanted_at (b := true) false rfl rfl (hD 3 35 (by kernel_rfl))) rfl) ?_
        refine sv 10 rfl rfl rfl (fun a u hE hD hk => exec_pickF (.tmp 35) (.tmp 40) (.const (.bool false)) (.bool false) rfl (hD 3 35 (by kernel_rfl)) rfl) ?_
        exact fsteps_nil
       intro gv w5 hV k5
       rw [show dstsOf _ 10 = [32, 33, 34, 35, 36, 37, 38, 39, 40, 41] by kernel_rfl]
       simp only [fC, fN, sA, sS, sZ, dS, dZ]
       rw [show gv 41 = .bool false from hV 9 41 (by kernel_rfl)]
       clear hV
       refine wpList_nil ?_
       have kx5 := kx4.trans k5
       have HO5 := Lib.hid (range_kept HO4.out k5)
       have HN5 := Lib.hid hk5
       clear HO4 k5 kx4 hk5
       by_cases hk4 : o.k = 4
       ·skip
        have HK4 := Lib.hid hk4
        by_cases hgv : gv0 < o.qty
        ·have HE : Hid (B.err o = 12) := by show _ = _; rw [HE0.out, if_neg (fun h => HN5.out h.1), if_pos ⟨hk4, HGL.out.1 hgv⟩]
         go_upto_region 10 with fail
         refine wp_free 13 [.eq (.pointer (some ⟨g, 4, none⟩)), .eq (.int .i64 o.k), .eq (.bool true), .eq (.bool true), .eq (.pointer (some ⟨p, 0, none⟩)), .eq (o.v), .eq (.pointer (some ⟨p, offS (3 - o.side), none⟩)), .eq (o.v), .eq (.int .i64 gv0), .eq (.pointer (some ⟨g, 6, none⟩)), .eq (.int .i64 o.qty), .eq (.bool true), .eq (.bool true)] (by kernel_rfl) rfl (by kernel_rfl) ?_ ?_
         ·refine sv 1 rfl rfl rfl (fun a u hE hD hk => exec_fldo 25 4 4 (.tmp 3) (g) (0) (4) rfl (hE 3 (.pointer (some ⟨g, 0, none⟩)) (by kernel_rfl) (by kernel_rfl)) (by kernel_rfl) rfl) ?_
          refine sv 2 rfl rfl rfl (fun a u hE hD hk => exec_loadi 3 Try.underlying3 (.tmp 42) ⟨g, 4, none⟩ (.int .i64 o.k) rfl (hD 0 42 (by kernel_rfl)) (range_int (range_kept HO5.out hk) 4 _ rfl)) ?_
          refine fsteps_cons 3 rfl (fun a u hE hD hk => f_as (show ((decide ((o.k : Int) = (4 : Int))) : Bool) = true from decide_eq_true hk4) (f_val (o := ⟨some 44, _, _, _, _, _⟩) (.bool (decide ((o.k : Int) = (4 : Int)))) rfl (wanted_none rfl _) (exec_eqn (p := o.k) (q := 4) rfl (hD 1 43 (by kernel_rfl)) rfl) rfl)) ?_
          refine sv 4 rfl rfl rfl (fun a u hE hD hk => exec_move (.tmp 44) _ rfl (hD 2 44 (by kernel_rfl))) ?_
          refine fsteps_cons 5 rfl (fun a u hE hD hk => f_val (o := ⟨some 46, _, _, _, _, _⟩) (.pointer (some ⟨p, 0, none⟩)) rfl (wanted_at (b := true) true rfl rfl (hD 3 45 (by kernel_rfl))) (exec_move (.tmp 0) _ rfl (hE 0 (.pointer (some ⟨p, 0, none⟩)) (by kernel_rfl) (by kernel_rfl))) rfl) ?_
          refine fsteps_cons 6 rfl (fun a u hE hD hk => f_val (o := ⟨some 47, _, _, _, _, _⟩) (o.v) rfl (wanted_at (b := true) true rfl rfl (hD 3 45 (by kernel_rfl))) (exec_ldS 25 _ (.tmp 3) (g) (0) (o.cells) rfl (hE 3 (.pointer (some ⟨g, 0, none⟩)) (by kernel_rfl) (by kernel_rfl)) (range_kept HO5.out hk) Try.underlying25 (by rw [o.len9]; exact ord_size)) rfl) ?_
          refine fsteps_cons 7 rfl (fun a u hE hD hk => f_call (o := ⟨some 48, _, _, _, _, _⟩) 63 #[.pointer (some ⟨p, 0, none⟩), o.v] rfl (wanted_at (b := true) true rfl rfl (hD 3 45 (by kernel_rfl))) (exec_call 63 _ [.tmp 46, .tmp 47] _ [.pointer (some ⟨p, 0, none⟩), o.v] Try.func63 (by kernel_rfl) (by kernel_rfl) rfl (show [a.eval (.tmp 46), a.eval (.tmp 47)] = [.pointer (some ⟨p, 0, none⟩), o.v] from (by rw [show a.eval (.tmp 46) = .pointer (some ⟨p, 0, none⟩) from (hD 4 46 (by kernel_rfl)), show a.eval (.tmp 47) = o.v from (hD 5 47 (by kernel_rfl))] <;> rfl)) u) (against_any u p o HSD.out)) ?_
          refine fsteps_cons 8 rfl (fun a u hE hD hk => f_val (o := ⟨some 49, _, _, _, _, _⟩) (o.v) rfl (wanted_at (b := true) true rfl rfl (hD 3 45 (by kernel_rfl))) (exec_ldS 25 _ (.tmp 3) (g) (0) (o.cells) rfl (hE 3 (.pointer (some ⟨g, 0, none⟩)) (by kernel_rfl) (by kernel_rfl)) (range_kept HO5.out hk) Try.underlying25 (by rw [o.len9]; exact ord_size)) rfl) ?_
          refine fsteps_cons 9 rfl (fun a u hE hD hk => f_call (o := ⟨some 50, _, _, _, _, _⟩) 65 #[.pointer (some ⟨p, offS (3 - o.side), none⟩), o.v] rfl (wanted_at (b := true) true rfl rfl (hD 3 45 (by kernel_rfl))) (exec_call 65 _ [.tmp 48, .tmp 49] _ [.pointer (some ⟨p, offS (3 - o.side), none⟩), o.v] Try.func65 (by kernel_rfl) (by kernel_rfl) rfl (show [a.eval (.tmp 48), a.eval (.tmp 49)] = [.pointer (some ⟨p, offS (3 - o.side), none⟩), o.v] from (by rw [show a.eval (.tmp 48) = .pointer (some ⟨p, offS (3 - o.side), none⟩) from (hD 6 48 (by kernel_rfl)), show a.eval (.tmp 49) = o.v from (hD 7 49 (by kernel_rfl))] <;> rfl)) u) ((by obtain ⟨F', hLd⟩ := (HB.out.kept (kx5.trans hk)).lad HS3.out; rw [← HGV.out]; exact gives_any u F' p (offS (3 - o.side)) (3 - o.side) (3 - o.side) _ o hLd HSID.out))) ?_
          refine fsteps_cons 10 rfl (fun a u hE hD hk => f_val (o := ⟨some 51, _, _, _, _, _⟩) (.pointer (some ⟨g, 6, none⟩)) rfl (wanted_at (b := true) true rfl rfl (hD 3 45 (by kernel_rfl))) (exec_fldo 25 6 6 (.tmp 3) (g) (0) (6) rfl (hE 3 (.pointer (some ⟨g, 0, none⟩)) (by kernel_rfl) (by kernel_rfl)) (by kernel_rfl) rfl) rfl) ?_
          refine fsteps_cons 11 rfl (fun a u hE hD hk => f_val (o := ⟨some 52, _, _, _, _, _⟩) (.int .i64 o.qty) rfl (wanted_at (b := true) true rfl rfl (hD 3 45 (by kernel_rfl))) (exec_loadi 3 Try.underlying3 (.tmp 51) ⟨g, 6, none⟩ (.int .i64 o.qty) rfl (hD 9 51 (by kernel_rfl)) (range_int (range_kept HO5.out hk) 6 _ rfl)) rfl) ?_
          refine fsteps_cons 12 rfl (fun a u hE hD hk => f_as (show ((decide ((gv0 : Int) < (o.qty : Int))) : Bool) = true from decide_eq_true hgv) (f_val (o := ⟨some 53, _, _, _, _, _⟩) (.bool (decide ((gv0 : Int) < (o.qty : Int)))) rfl (wanted_at (b := true) true rfl rfl (hD 3 45 (by kernel_rfl))) (exec_ltn (p := gv0) (q := o.qty) rfl (hD 8 50 (by kernel_rfl)) (hD 10 52 (by kernel_rfl))) rfl)) ?_
          refine sv 13 rfl rfl rfl (fun a u hE hD hk => exec_pick (.tmp 45) (.tmp 53) (.const (.bool false)) (.bool true) rfl (hD 3 45 (by kernel_rfl)) (hD 11 53 (by kernel_rfl))) ?_
          exact fsteps_nil
         intro gv w6 hV k6
         rw [show dstsOf _ 13 = [42, 43, 44, 45, 46, 47, 48, 49, 50, 51, 52, 53, 54] by kernel_rfl]
         simp only [fC, fN, sA, sS, sZ, dS, dZ]
         rw [show gv 54 = .bool true from hV 12 54 (by kernel_rfl)]
         clear hV
         refine wpList_nil ?_
         have kx := kx5.trans k6
         clear HO5 k6 kx5 hk4 hgv
         go_wp2
         go_ret
         exact ⟨by rw [HE.out]; rfl, kx⟩
        ·have HE : Hid (B.err o = 0) := by show _ = _; rw [HE0.out, if_neg (fun h => HN5.out h.1), if_neg (fun h => hgv (HGL.out.2 h.2))]
         go_upto_region 10 with fail
         refine wp_free 13 [.eq (.pointer (some ⟨g, 4, none⟩)), .eq (.int .i64 o.k), .eq (.bool true), .eq (.bool true), .eq (.pointer (some ⟨p, 0, none⟩)), .eq (o.v), .eq (.pointer (some ⟨p, offS (3 - o.side), none⟩)), .eq (o.v), .eq (.int .i64 gv0), .eq (.pointer (some ⟨g, 6, none⟩)), .eq (.int .i64 o.qty), .eq (.bool false), .eq (.bool false)] (by kernel_rfl) rfl (by kernel_rfl) ?_ ?_
         ·refine sv 1 rfl rfl rfl (fun a u hE hD hk => exec_fldo 25 4 4 (.tmp 3) (g) (0) (4) rfl (hE 3 (.pointer (some ⟨g, 0, none⟩)) (by kernel_rfl) (by kernel_rfl)) (by kernel_rfl) rfl) ?_
          refine sv 2 rfl rfl rfl (fun a u hE hD hk => exec_loadi 3 Try.underlying3 (.tmp 42) ⟨g, 4, none⟩ (.int .i64 o.k) rfl (hD 0 42 (by kernel_rfl)) (range_int (range_kept HO5.out hk) 4 _ rfl)) ?_
          refine fsteps_cons 3 rfl (fun a u hE hD hk => f_as (show ((decide ((o.k : Int) = (4 : Int))) : Bool) = true from decide_eq_true hk4) (f_val (o := ⟨some 44, _, _, _, _, _⟩) (.bool (decide ((o.k : Int) = (4 : Int)))) rfl (wanted_none rfl _) (exec_eqn (p := o.k) (q := 4) rfl (hD 1 43 (by kernel_rfl)) rfl) rfl)) ?_
          refine sv 4 rfl rfl rfl (fun a u hE hD hk => exec_move (.tmp 44) _ rfl (hD 2 44 (by kernel_rfl))) ?_
          refine fsteps_cons 5 rfl (fun a u hE hD hk => f_val (o := ⟨some 46, _, _, _, _, _⟩) (.pointer (some ⟨p, 0, none⟩)) rfl (wanted_at (b := true) true rfl rfl (hD 3 45 (by kernel_rfl))) (exec_move (.tmp 0) _ rfl (hE 0 (.pointer (some ⟨p, 0, none⟩)) (by kernel_rfl) (by kernel_rfl))) rfl) ?_
          refine fsteps_cons 6 rfl (fun a u hE hD hk => f_val (o := ⟨some 47, _, _, _, _, _⟩) (o.v) rfl (wanted_at (b := true) true rfl rfl (hD 3 45 (by kernel_rfl))) (exec_ldS 25 _ (.tmp 3) (g) (0) (o.cells) rfl (hE 3 (.pointer (some ⟨g, 0, none⟩)) (by kernel_rfl) (by kernel_rfl)) (range_kept HO5.out hk) Try.underlying25 (by rw [o.len9]; exact ord_size)) rfl) ?_
          refine fsteps_cons 7 rfl (fun a u hE hD hk => f_call (o := ⟨some 48, _, _, _, _, _⟩) 63 #[.pointer (some ⟨p, 0, none⟩), o.v] rfl (wanted_at (b := true) true rfl rfl (hD 3 45 (by kernel_rfl))) (exec_call 63 _ [.tmp 46, .tmp 47] _ [.pointer (some ⟨p, 0, none⟩), o.v] Try.func63 (by kernel_rfl) (by kernel_rfl) rfl (show [a.eval (.tmp 46), a.eval (.tmp 47)] = [.pointer (some ⟨p, 0, none⟩), o.v] from (by rw [show a.eval (.tmp 46) = .pointer (some ⟨p, 0, none⟩) from (hD 4 46 (by kernel_rfl)), show a.eval (.tmp 47) = o.v from (hD 5 47 (by kernel_rfl))] <;> rfl)) u) (against_any u p o HSD.out)) ?_
          refine fsteps_cons 8 rfl (fun a u hE hD hk => f_val (o := ⟨some 49, _, _, _, _, _⟩) (o.v) rfl (wanted_at (b := true) true rfl rfl (hD 3 45 (by kernel_rfl))) (exec_ldS 25 _ (.tmp 3) (g) (0) (o.cells) rfl (hE 3 (.pointer (some ⟨g, 0, none⟩)) (by kernel_rfl) (by kernel_rfl)) (range_kept HO5.out hk) Try.underlying25 (by rw [o.len9]; exact ord_size)) rfl) ?_
          refine fsteps_cons 9 rfl (fun a u hE hD hk => f_call (o := ⟨some 50, _, _, _, _, _⟩) 65 #[.pointer (some ⟨p, offS (3 - o.side), none⟩), o.v] rfl (wanted_at (b := true) true rfl rfl (hD 3 45 (by kernel_rfl))) (exec_call 65 _ [.tmp 48, .tmp 49] _ [.pointer (some ⟨p, offS (3 - o.side), none⟩), o.v] Try.func65 (by kernel_rfl) (by kernel_rfl) rfl (show [a.eval (.tmp 48), a.eval (.tmp 49)] = [.pointer (some ⟨p, offS (3 - o.side), none⟩), o.v] from (by rw [show a.eval (.tmp 48) = .pointer (some ⟨p, offS (3 - o.side), none⟩) from (hD 6 48 (by kernel_rfl)), show a.eval (.tmp 49) = o.v from (hD 7 49 (by kernel_rfl))] <;> rfl)) u) ((by obtain ⟨F', hLd⟩ := (HB.out.kept (kx5.trans hk)).lad HS3.out; rw [← HGV.out]; exact gives_any u F' p (offS (3 - o.side)) (3 - o.side) (3 - o.side) _ o hLd HSID.out))) ?_
          refine fsteps_cons 10 rfl (fun a u hE hD hk => f_val (o := ⟨some 51, _, _, _, _, _⟩) (.pointer (some ⟨g, 6, none⟩)) rfl (wanted_at (b := true) true rfl rfl (hD 3 45 (by kernel_rfl))) (exec_fldo 25 6 6 (.tmp 3) (g) (0) (6) rfl (hE 3 (.pointer (some ⟨g, 0, none⟩)) (by kernel_rfl) (by kernel_rfl)) (by kernel_rfl) rfl) rfl) ?_
          refine fsteps_cons 11 rfl (fun a u hE hD hk => f_val (o := ⟨some 52, _, _, _, _, _⟩) (.int .i64 o.qty) rfl (wanted_at (b := true) true rfl rfl (hD 3 45 (by kernel_rfl))) (exec_loadi 3 Try.underlying3 (.tmp 51) ⟨g, 6, none⟩ (.int .i64 o.qty) rfl (hD 9 51 (by kernel_rfl)) (range_int (range_kept HO5.out hk) 6 _ rfl)) rfl) ?_
          refine fsteps_cons 12 rfl (fun a u hE hD hk => f_as (show ((decide ((gv0 : Int) < (o.qty : Int))) : Bool) = false from decide_eq_false hgv) (f_val (o := ⟨some 53, _, _, _, _, _⟩) (.bool (decide ((gv0 : Int) < (o.qty : Int)))) rfl (wanted_at (b := true) true rfl rfl (hD 3 45 (by kernel_rfl))) (exec_ltn (p := gv0) (q := o.qty) rfl (hD 8 50 (by kernel_rfl)) (hD 10 52 (by kernel_rfl))) rfl)) ?_
          refine sv 13 rfl rfl rfl (fun a u hE hD hk => exec_pick (.tmp 45) (.tmp 53) (.const (.bool false)) (.bool false) rfl (hD 3 45 (by kernel_rfl)) (hD 11 53 (by kernel_rfl))) ?_
          exact fsteps_nil
         intro gv w6 hV k6
         rw [show dstsOf _ 13 = [42, 43, 44, 45, 46, 47, 48, 49, 50, 51, 52, 53, 54] by kernel_rfl]
         simp only [fC, fN, sA, sS, sZ, dS, dZ]
         rw [show gv 54 = .bool false from hV 12 54 (by kernel_rfl)]
         clear hV
         refine wpList_nil ?_
         have kx := kx5.trans k6
         clear HO5 k6 kx5 hk4 hgv
         go_wp2
         go_ret
         exact ⟨by rw [HE.out]; rfl, kx⟩
       ·have HE : Hid (B.err o = 0) := by show _ = _; rw [HE0.out, if_neg (fun h => HN5.out h.1), if_neg (fun h => hk4 h.1)]
        go_upto_region 10 with fail
        refine wp_free 13 [.eq (.pointer (some ⟨g, 4, none⟩)), .eq (.int .i64 o.k), .eq (.bool false), .eq (.bool false), .eq undef, .eq undef, .eq undef, .eq undef, .eq undef, .eq undef, .eq undef, .eq undef, .eq (.bool false)] (by kernel_rfl) rfl (by kernel_rfl) ?_ ?_
        ·refine sv 1 rfl rfl rfl (fun a u hE hD hk => exec_fldo 25 4 4 (.tmp 3) (g) (0) (4) rfl (hE 3 (.pointer (some ⟨g, 0, none⟩)) (by kernel_rfl) (by kernel_rfl)) (by kernel_rfl) rfl) ?_
         refine sv 2 rfl rfl rfl (fun a u hE hD hk => exec_loadi 3 Try.underlying3 (.tmp 42) ⟨g, 4, none⟩ (.int .i64 o.k) rfl (hD 0 42 (by kernel_rfl)) (range_int (range_kept HO5.out hk) 4 _ rfl)) ?_
         refine fsteps_cons 3 rfl (fun a u hE hD hk => f_as (show ((decide ((o.k : Int) = (4 : Int))) : Bool) = false from decide_eq_false hk4) (f_val (o := ⟨some 44, _, _, _, _, _⟩) (.bool (decide ((o.k : Int) = (4 : Int)))) rfl (wanted_none rfl _) (exec_eqn (p := o.k) (q := 4) rfl (hD 1 43 (by kernel_rfl)) rfl) rfl)) ?_
         refine sv 4 rfl rfl rfl (fun a u hE hD hk => exec_move (.tmp 44) _ rfl (hD 2 44 (by kernel_rfl))) ?_
         refine fsteps_cons 5 rfl (fun a u hE hD hk => f_skip (o := ⟨some 46, _, _, _, _, _⟩) rfl (wanted_at (b := true) false rfl rfl (hD 3 45 (by kernel_rfl))) rfl) ?_
         refine fsteps_cons 6 rfl (fun a u hE hD hk => f_skip (o := ⟨some 47, _, _, _, _, _⟩) rfl (wanted_at (b := true) false rfl rfl (hD 3 45 (by kernel_rfl))) rfl) ?_
         refine fsteps_cons 7 rfl (fun a u hE hD hk => f_skip (o := ⟨some 48, _, _, _, _, _⟩) rfl (wanted_at (b := true) false rfl rfl (hD 3 45 (by kernel_rfl))) rfl) ?_
         refine fsteps_cons 8 rfl (fun a u hE hD hk => f_skip (o := ⟨some 49, _, _, _, _, _⟩) rfl (wanted_at (b := true) false rfl rfl (hD 3 45 (by kernel_rfl))) rfl) ?_
         refine fsteps_cons 9 rfl (fun a u hE hD hk => f_skip (o := ⟨some 50, _, _, _, _, _⟩) rfl (wanted_at (b := true) false rfl rfl (hD 3 45 (by kernel_rfl))) rfl) ?_
         refine fsteps_cons 10 rfl (fun a u hE hD hk => f_skip (o := ⟨some 51, _, _, _, _, _⟩) rfl (wanted_at (b := true) false rfl rfl (hD 3 45 (by kernel_rfl))) rfl) ?_
         refine fsteps_cons 11 rfl (fun a u hE hD hk => f_skip (o := ⟨some 52, _, _, _, _, _⟩) rfl (wanted_at (b := true) false rfl rfl (hD 3 45 (by kernel_rfl))) rfl) ?_
         refine fsteps_cons 12 rfl (fun a u hE hD hk => f_skip (o := ⟨some 53, _, _, _, _, _⟩) rfl (wanted_at (b := true) false rfl rfl (hD 3 45 (by kernel_rfl))) rfl) ?_
         refine sv 13 rfl rfl rfl (fun a u hE hD hk => exec_pickF (.tmp 45) (.tmp 53) (.const (.bool false)) (.bool false) rfl (hD 3 45 (by kernel_rfl)) rfl) ?_
         exact fsteps_nil
        intro gv w6 hV k6
        rw [show dstsOf _ 13 = [42, 43, 44, 45, 46, 47, 48, 49, 50, 51, 52, 53, 54] by kernel_rfl]
        simp only [fC, fN, sA, sS, sZ, dS, dZ]
        rw [show gv 54 = .bool false from hV 12 54 (by kernel_rfl)]
        clear hV
        refine wpList_nil ?_
        have kx := kx5.trans k6
        clear HO5 k6 kx5 hk4
        go_wp2
        go_ret
        exact ⟨by rw [HE.out]; rfl, kx⟩
 ·have HE : Hid (B.err o = 1) := by show _ = _; unfold Bok.err; rw [if_pos (fun h => hr h.1)]
  have hr1 : o.err ≠ 0 := by unfold Ord.err; rw [if_neg hr]; decide
  go_upto_region 1 with fail
  refine wp_text 8 [.eq (o.v), .eq (.int .i64 o.err), .eq (.bool true), .eq (.bool true), .eq undef, .eq undef, .eq undef, .eq (.bool true)] rfl (by kernel_rfl) ?_ ?_
  ·refine sv 1 rfl rfl rfl (fun a u hE hD hk => exec_ldS 25 _ (.tmp 3) (g) (0) (o.cells) rfl (hE 3 (.pointer (some ⟨g, 0, none⟩)) (by kernel_rfl) (by kernel_rfl)) (range_kept HO.out hk) Try.underlying25 (by rw [o.len9]; exact ord_size)) ?_
   refine fsteps_cons 2 rfl (fun a u hE hD hk => f_call (o := ⟨some 8, _, _, _, _, _⟩) 62 #[o.v] rfl (wanted_none rfl _) (exec_call 62 _ [.tmp 7] _ [o.v] Try.func62 (by kernel_rfl) (by kernel_rfl) rfl (show [a.eval (.tmp 7)] = [o.v] from (by rw [show a.eval (.tmp 7) = o.v from (hD 0 7 (by kernel_rfl))] <;> rfl)) u) (ordRight_any o u)) ?_
   refine fsteps_cons 3 rfl (fun a u hE hD hk => f_as (show ((decide ((o.err : Int) ≠ (0 : Int))) : Bool) = true from decide_eq_true hr1) (f_val (o := ⟨some 9, _, _, _, _, _⟩) (.bool (decide ((o.err : Int) ≠ (0 : Int)))) rfl (wanted_none rfl _) (exec_nen (p := o.err) (q := 0) rfl (hD 1 8 (by kernel_rfl)) rfl) rfl)) ?_
   refine sv 4 rfl rfl rfl (fun a u hE hD hk => exec_move (.tmp 9) _ rfl (hD 2 9 (by kernel_rfl))) ?_
   refine fsteps_cons 5 rfl (fun a u hE hD hk => f_skip (o := ⟨some 11, _, _, _, _, _⟩) rfl (wanted_at (b := false) true rfl rfl (hD 3 10 (by kernel_rfl))) rfl) ?_
   refine fsteps_cons 6 rfl (fun a u hE hD hk => f_skip (o := ⟨some 12, _, _, _, _, _⟩) rfl (wanted_at (b := false) true rfl rfl (hD 3 10 (by kernel_rfl))) rfl) ?_
   refine fsteps_cons 7 rfl (fun a u hE hD hk => f_skip (o := ⟨some 13, _, _, _, _, _⟩) rfl (wanted_at (b := false) true rfl rfl (hD 3 10 (by kernel_rfl))) rfl) ?_
   refine sv 8 rfl rfl rfl (fun a u hE hD hk => exec_pick (.tmp 10) (.const (.bool true)) (.tmp 13) (.bool true) rfl (hD 3 10 (by kernel_rfl)) rfl) ?_
   exact fsteps_nil
  intro gv w1 hV k1
  rw [show dstsOf _ 8 = [7, 8, 9, 10, 11, 12, 13, 14] by kernel_rfl]
  simp only [fC, fN, sA, sS, sZ, dS, dZ]
  rw [show gv 14 = .bool true from hV 7 14 (by kernel_rfl)]
  clear hV
  refine wpList_nil ?_
  have kx := k0.trans k1
  clear HO hr1 hr
  go_wp2
  go_ret
  exact ⟨by rw [HE.out]; rfl, kx⟩
def AddIn (w : World) (F : Nat → Prop) (p : Nat) (x : Oc × Bok) (r : Ending) (w' : World) : Prop :=
 ∃ F' v, r = .returned (x.1.v v) ∧ Bk w' F' p x.2 ∧ Sl w' 36 21 v x.1.f.length (fls x.1.f) ∧ (∀ b, v.ownBlock = some b → w.heap.size ≤ b ∧ ¬ F' b) ∧ Grow w F F' ∧ Keep F w w'
theorem built_oce (o : Ord) (n e : Int) : Try.prog.built 29 [(0, o.v), (2, .int .i64 n), (6, .int .i64 e)] = some ((Oc.mk o [] n false false e).cells (.slice none 0 0)).toArray := by kernel_rfl
theorem Bok.traded_to (B : Bok) (o : Ord) : B.traded o = B.to (3 - o.side) (B.matched o).L (lastOf B.last (B.matched o).f) (B.no + (B.matched o).f.length) := rfl
set_option maxRecDepth 100000 in
set_option maxHeartbeats 3200000 in
theorem badd_any (w : World) (F : Nat → Prop) (p : Nat) (B : Bok) (o : Ord) (h : Bk w F p B) (hI : Inv B) (hn : B.no ≤ 1000000000000) : Calls Try.prog 15 #[.pointer (some ⟨p, 0, none⟩), o.v] w (AddIn w F p (B.add o)) := by
 have hFl := h.lt
 have HB := Lib.hid h
 have HI := Lib.hid hI
 have hpF := h.1
 clear h hI
 go_enter Try.func15, Try.ntmps15
 go_upto_region 0 with fail
 refine wp_text 2 [.fresh w.heap.size 25 (o.cells), .fresh w.heap.size 29 (zeroC.cells (.slice none 0 0))] rfl (by kernel_rfl) ?_ ?_
 ·refine fsteps_cons 1 rfl (fun a u hE hD hk => f_new (o := ⟨some 3, _, _, _, _, _⟩) (.pointer (some ⟨u.heap.size, 0, none⟩)) _ rfl (wanted_none rfl _) (exec_box 25 (.tmp 1) (o.cells) rfl (hE 1 (o.v) (by kernel_rfl) (by kernel_rfl))) ⟨_, rfl, hk.size, Blk.new u _ _⟩ ((Keep.refl _ u).alloc _)) ?_
  refine fsteps_cons 2 rfl (fun a u hE hD hk => f_new (o := ⟨some 4, _, _, _, _, _⟩) (.pointer (some ⟨u.heap.size, 0, none⟩)) _ rfl (wanted_none rfl _) (exec_alc 29 (zeroC.cells (.slice none 0 0)) rfl zC) ⟨_, rfl, hk.size, Blk.new u _ _⟩ ((Keep.refl _ u).alloc _)) ?_
  exact fsteps_nil
 intro gv w0 hV k0
 rw [show dstsOf _ 2 = [3, 4] by kernel_rfl]
 simp only [fC, fN, sA, sS, sZ, dS, dZ]
 have hv3 : (.fresh w.heap.size 25 (o.cells) : Kn).p (gv 3) w0 := hV 0 3 (by kernel_rfl)
 generalize gv 3 = v3 at hv3 ⊢
 have hv4 : (.fresh w.heap.size 29 (zeroC.cells (.slice none 0 0)) : Kn).p (gv 4) w0 := hV 1 4 (by kernel_rfl)
 generalize gv 4 = v4 at hv4 ⊢
 clear hV
 obtain ⟨bi, rfl, hbi, hBi⟩ := hv3
 obtain ⟨b4, rfl, hb4, hB4⟩ := hv4
 refine wpList_nil ?_
 have HO := Lib.hid (blk_range hBi)
 have HB4 := Lib.hid hB4
 have li := hBi.lt
 have l4 := hB4.lt
 clear hBi hB4
 obtain ⟨e, he⟩ : ∃ e, B.err o = e := ⟨_, rfl⟩
 have HE := Lib.hid he
 clear he
 go_upto_region 1 with fail
 refine wp_text 4 [.eq (.pointer (some ⟨p, 0, none⟩)), .eq (o.v), .eq (.int .i64 e), .eq (.int .i64 e)] rfl (by kernel_rfl) ?_ ?_
 ·refine sv 1 rfl rfl rfl (fun a u hE hD hk => exec_move (.tmp 0) _ rfl (hE 0 (.pointer (some ⟨p, 0, none⟩)) (by kernel_rfl) (by kernel_rfl))) ?_
  refine sv 2 rfl rfl rfl (fun a u hE hD hk => exec_ldS 25 _ (.tmp 3) (bi) (0) (o.cells) rfl (hE 3 (.pointer (some ⟨bi, 0, none⟩)) (by kernel_rfl) (by kernel_rfl)) (range_kept HO.out hk) Try.underlying25 (by rw [o.len9]; exact ord_size)) ?_
  refine fsteps_cons 3 rfl (fun a u hE hD hk => f_call (o := ⟨some 9, _, _, _, _, _⟩) 39 #[.pointer (some ⟨p, 0, none⟩), o.v] rfl (wanted_none rfl _) (exec_call 39 _ [.tmp 7, .tmp 8] _ [.pointer (some ⟨p, 0, none⟩), o.v] Try.func39 (by kernel_rfl) (by kernel_rfl) rfl (show [a.eval (.tmp 7), a.eval (.tmp 8)] = [.pointer (some ⟨p, 0, none⟩), o.v] from (by rw [show a.eval (.tmp 7) = .pointer (some ⟨p, 0, none⟩) from (hD 0 7 (by kernel_rfl)), show a.eval (.tmp 8) = o.v from (hD 1 8 (by kernel_rfl))] <;> rfl)) u) ((by rw [← HE.out]; exact refusal_any u F p B o (HB.out.kept (k0.trans hk)) HI.out))) ?_
  refine sv 4 rfl rfl rfl (fun a u hE hD hk => exec_assign (.tmp 9) _ rfl (hD 2 9 (by kernel_rfl))) ?_
  exact fsteps_nil
 intro gv w1 hV k1
 rw [show dstsOf _ 4 = [7, 8, 9, 5] by kernel_rfl]
 simp only [fC, fN, sA, sS, sZ, dS, dZ]
 rw [show gv 5 = .int .i64 e from hV 3 5 (by kernel_rfl)]
 clear hV
 refine wpList_nil ?_
 have k01 := k0.trans k1
 have HO1 := Lib.hid (range_kept HO.out k1)
 have HB41 := Lib.hid (HB4.out.kept k1)
 have z0 := k0.size
 have z1 := k1.size
 have h4F : ¬ F b4 := fun h => by have := hFl b4 h; omega
 have hiF : ¬ F bi := fun h => by have := hFl bi h; omega
 clear HO HB4 k0 k1
 by_cases he0 : e ≠ 0
 ·have HA : Hid (B.add o = (⟨o, [], o.qty, false, false, e⟩, B)) := by show _ = _; rw [add_err (by rw [HE.out]; exact he0), HE.out]
  go_upto_region 2 with fail
  refine wp_text 2 [.eq (.int .i64 e), .eq (.bool true)] rfl (by kernel_rfl) ?_ ?_
  ·refine sv 1 rfl rfl rfl (fun a u hE hD hk => exec_move (.tmp 5) _ rfl (hE 5 (.int .i64 e) (by kernel_rfl) (by kernel_rfl))) ?_
   refine fsteps_cons 2 rfl (fun a u hE hD hk => f_as (show ((decide ((e : Int) ≠ (0 : Int))) : Bool) = true from decide_eq_true he0) (f_val (o := ⟨some 11, _, _, _, _, _⟩) (.bool (decide ((e : Int) ≠ (0 : Int)))) rfl (wanted_none rfl _) (exec_nen (p := e) (q := 0) rfl (hD 0 10 (by kernel_rfl)) rfl) rfl)) ?_
   exact fsteps_nil
  intro gv w2 hV k2
  rw [show dstsOf _ 2 = [10, 11] by kernel_rfl]
  simp only [fC, fN, sA, sS, sZ, dS, dZ]
  rw [show gv 11 = .bool true from hV 1 11 (by kernel_rfl)]
  clear hV
  refine wpList_nil ?_
  have HO2 := Lib.hid (range_kept HO1.out k2)
  have HB42 := Lib.hid (HB41.out.kept k2)
  clear he0
  go_upto_region 3 with fail
  refine wp_text 5 [.eq (o.v), .eq (.pointer (some ⟨bi, 6, none⟩)), .eq (.int .i64 o.qty), .eq (.int .i64 e), .eq ((Oc.mk o [] o.qty false false e).v (.slice none 0 0))] rfl (by kernel_rfl) ?_ ?_
  ·refine sv 1 rfl rfl rfl (fun a u hE hD hk => exec_ldS 25 _ (.tmp 3) (bi) (0) (o.cells) rfl (hE 3 (.pointer (some ⟨bi, 0, none⟩)) (by kernel_rfl) (by kernel_rfl)) (range_kept HO2.out hk) Try.underlying25 (by rw [o.len9]; exact ord_size)) ?_
   refine sv 2 rfl rfl rfl (fun a u hE hD hk => exec_fldo 25 6 6 (.tmp 3) (bi) (0) (6) rfl (hE 3 (.pointer (some ⟨bi, 0, none⟩)) (by kernel_rfl) (by kernel_rfl)) (by kernel_rfl) rfl) ?_
   refine sv 3 rfl rfl rfl (fun a u hE hD hk => exec_loadi 3 Try.underlying3 (.tmp 13) ⟨bi, 6, none⟩ (.int .i64 o.qty) rfl (hD 1 13 (by kernel_rfl)) (range_int (range_kept HO2.out hk) 6 _ rfl)) ?_
   refine sv 4 rfl rfl rfl (fun a u hE hD hk => exec_move (.tmp 5) _ rfl (hE 5 (.int .i64 e) (by kernel_rfl) (by kernel_rfl))) ?_
   refine sv 5 rfl rfl rfl (fun a u hE hD hk => exec_build _ [(0, .tmp 12), (2, .tmp 14), (6, .tmp 15)] ((Oc.mk o [] o.qty false false e).cells (.slice none 0 0)) rfl (by simp only [List.map_cons, List.map_nil]; rw [show a.eval (.tmp 12) = o.v from (hD 0 12 (by kernel_rfl)), show a.eval (.tmp 14) = .int .i64 o.qty from (hD 2 14 (by kernel_rfl)), show a.eval (.tmp 15) = .int .i64 e from (hD 3 15 (by kernel_rfl))]; exact built_oce o o.qty e)) ?_
   exact fsteps_nil
  intro gv w3 hV k3
  rw [show dstsOf _ 5 = [12, 13, 14, 15, 16] by kernel_rfl]
  simp only [fC, fN, sA, sS, sZ, dS, dZ]
  rw [show gv 16 = (Oc.mk o [] o.qty false false e).v (.slice none 0 0) from hV 4 16 (by kernel_rfl)]
  clear hV
  refine l_setS (o := ⟨none, _, _, _, _, _⟩) 29 b4 29 (zeroC.cells (.slice none 0 0)) ((Oc.mk o [] o.qty false false e).cells (.slice none 0 0)) (.tmp 4) (.tmp 16) rfl rfl (by kernel_rfl) (by kernel_rfl) (HB42.out.kept k3) (by rw [Oc.len15]; exact szC) (by rw [Oc.len15, Oc.len15]) (Oc.one _ _ rfl) ?_
  intro w4 hB4 hk4 hs4
  simp only [Act.put]
  refine wpList_nil ?_
  go_wp2
  refine bodyPost_ret (results_cell (p := 4) rfl _ _ b4 _ ((Oc.mk o [] o.qty false false e).cells (.slice none 0 0)) rfl hB4 Try.underlying29 (by rw [Oc.len15]; exact szC)) rfl ?_
  rw [HA.out]
  have kk : Kept w w4 := ((k01.trans k2).trans k3).trans' hk4 (by omega)
  exact ⟨F, .slice none 0 0, rfl, HB.out.kept kk, Sl.nil _ _ _, fun b hb => by simp [Value.ownBlock] at hb, Grow.refl _ _, Keep.mono (T := F) kk (fun _ _ h => h.elim)⟩
 ·have he1 : e = 0 := Classical.not_not.1 he0
  subst he1
  have HEZ := Lib.hid (err_zero HE.out)
  have HAI := Lib.hid (add_is HI.out HE.out)
  go_upto_region 2 with fail
  refine wp_text 2 [.eq (.int .i64 0), .eq (.bool false)] rfl (by kernel_rfl) ?_ ?_
  ·refine sv 1 rfl rfl rfl (fun a u hE hD hk => exec_move (.tmp 5) _ rfl (hE 5 (.int .i64 0) (by kernel_rfl) (by kernel_rfl))) ?_
   refine fsteps_cons 2 rfl (fun a u hE hD hk => f_as (show ((decide ((0 : Int) ≠ (0 : Int))) : Bool) = false from by decide) (f_val (o := ⟨some 11, _, _, _, _, _⟩) (.bool (decide ((0 : Int) ≠ (0 : Int)))) rfl (wanted_none rfl _) (exec_nen (p := 0) (q := 0) rfl (hD 0 10 (by kernel_rfl)) rfl) rfl)) ?_
   exact fsteps_nil
  intro gv w2 hV k2
  rw [show dstsOf _ 2 = [10, 11] by kernel_rfl]
  simp only [fC, fN, sA, sS, sZ, dS, dZ]
  rw [show gv 11 = .bool false from hV 1 11 (by kernel_rfl)]
  clear hV
  refine wpList_nil ?_
  have k02 := k01.trans k2
  have z2 := k2.size
  have HO2 := Lib.hid (range_kept HO1.out k2)
  have HB42 := Lib.hid (HB41.out.kept k2)
  clear he0 k01 HO1 HB41
  obtain ⟨m, hm⟩ : ∃ m, B.matched o = m := ⟨_, rfl⟩
  have HMM := Lib.hid hm
  clear hm
  go_upto_region 4 with fail
  refine wp_text 2 [.eq (.pointer (some ⟨p, 0, none⟩)), .eq (o.v)] rfl (by kernel_rfl) ?_ ?_
  ·refine sv 1 rfl rfl rfl (fun a u hE hD hk => exec_move (.tmp 0) _ rfl (hE 0 (.pointer (some ⟨p, 0, none⟩)) (by kernel_rfl) (by kernel_rfl))) ?_
   refine sv 2 rfl rfl rfl (fun a u hE hD hk => exec_ldS 25 _ (.tmp 3) (bi) (0) (o.cells) rfl (hE 3 (.pointer (some ⟨bi, 0, none⟩)) (by kernel_rfl) (by kernel_rfl)) (range_kept HO2.out hk) Try.underlying25 (by rw [o.len9]; exact ord_size)) ?_
   exact fsteps_nil
  intro gv w3 hV k3
  rw [show dstsOf _ 2 = [17, 18] by kernel_rfl]
  simp only [fC, fN, sA, sS, sZ, dS, dZ]
  rw [show gv 17 = .pointer (some ⟨p, 0, none⟩) from hV 0 17 (by kernel_rfl)]
  rw [show gv 18 = o.v from hV 1 18 (by kernel_rfl)]
  clear hV
  refine l_call (o := ⟨some 19, _, _, _, _, _⟩) 40 #[.pointer (some ⟨p, 0, none⟩), o.v] rfl (exec_call 40 _ [.tmp 17, .tmp 18] _ _ Try.func40 (by kernel_rfl) (by kernel_rfl) rfl (by kernel_rfl) _) ?_
  refine (match_any w3 F p B o (HB.out.kept (k02.trans k3)) HI.out HAI.out.sd (right_qty HAI.out.rt) hn).mono ?_
  rintro r w4 ⟨F4, vf, rfl, hb4', hv4, ho4, hg4, hk4⟩
  rw [HMM.out] at hb4' hv4
  refine ⟨(Oc.mk o m.f m.left false m.self 0).v vf, by rw [HMM.out], ?_⟩
  simp only [Act.put, sA, sS, sZ]
  refine l_new (o := ⟨some 6, _, _, _, _, _⟩) (.pointer (some ⟨w4.heap.size, 0, none⟩)) (w4.alloc (.cells (zeroC.cells (.slice none 0 0)).toArray 29)) rfl (exec_alc 29 (zeroC.cells (.slice none 0 0)) rfl zC) ?_
  have hNw5 := Blk.new w4 29 (zeroC.cells (.slice none 0 0))
  have kw5 : Kept w4 (w4.alloc (.cells (zeroC.cells (.slice none 0 0)).toArray 29)) := (Keep.refl _ w4).alloc _
  generalize w4.alloc (.cells (zeroC.cells (.slice none 0 0)).toArray 29) = w5 at hNw5 kw5 ⊢
  simp only [Act.put, sA, sS, sZ]
  refine l_setS (o := ⟨none, _, _, _, _, _⟩) 29 w4.heap.size 29 (zeroC.cells (.slice none 0 0)) ((Oc.mk o m.f m.left false m.self 0).cells vf) (.tmp 6) (.tmp 19) rfl rfl (by kernel_rfl) (by kernel_rfl) hNw5 (by rw [Oc.len15]; exact szC) (by rw [Oc.len15, Oc.len15]) (Oc.one _ _ (sl_onec hv4)) ?_
  intro w6 hB6 hk6 hs6
  simp only [Act.put]
  refine wpList_nil ?_
  obtain ⟨bo, hbo⟩ : ∃ x, w4.heap.size = x := ⟨_, rfl⟩
  rw [hbo] at hNw5 hB6 hk6 ⊢
  have lo := hB6.lt
  have k46 : Kept w4 w6 := kw5.trans' hk6 (by omega)
  have k03 := k02.trans k3
  have z3 := k3.size
  have z4 := hk4.size
  have zz := k46.size
  have hbw : w.heap.size ≤ bo := by have := k03.size; omega
  have KF6 : Keep F w w6 := (Keep.any k03 hk4).kept k46
  have HB6 := Lib.hid (hb4'.kept k46)
  have HV6 := Lib.hid (hv4.kept k46)
  have HOo := Lib.hid hB6
  have HO6 := Lib.hid (range_kept (range_keep (range_kept HO2.out k3) hk4 hiF) k46)
  have HB46 := Lib.hid (((HB42.out.kept k3).keep hk4 h4F).kept k46)
  have HG4 : Hid (Grow w F F4) := hg4.wide k03.size
  have hoF4 : ¬ F4 bo := fun h => by have := hb4'.lt bo h; omega
  have hiF4 : ¬ F4 bi := fun h => (hg4 bi h).elim hiF (fun h => by omega)
  have h4F4 : ¬ F4 b4 := fun h => (hg4 b4 h).elim h4F (fun h => by omega)
  have HOw : Hid (∀ b, vf.ownBlock = some b → w.heap.size ≤ b ∧ ¬ F4 b) := fun b hb => ⟨by have := (ho4 b hb).1; have := k03.size; omega, (ho4 b hb).2⟩
  have HVL : Hid (∀ b, vf.ownBlock = some b → b < bo) := fun b hb => by have := hv4.lt hb; omega
  have hbo4 : bo ≠ b4 := by omega
  have hv4' : ∀ b, vf.ownBlock = some b → b ≠ b4 := fun b hb e => by
   have h1 := (ho4 b hb).1
   omega
  have HV4N := Lib.hid hv4'
  clear hb4' hv4 ho4 hg4 hk4 hNw5 hB6 hk6 hs6 kw5 k46 HO2 HB42 k3 hbo hv4'
  have HST : Hid (B.stays o = (decide (0 < m.left) && !m.self && (decide (o.k = 1) || decide (o.k = 5)))) := by show _ = _; unfold Bok.stays; rw [HMM.out]
  obtain ⟨st, hst⟩ : ∃ st, B.stays o = st := ⟨_, rfl⟩
  rw [hst] at HST
  have HSTY := Lib.hid hst
  have hst' : (decide (0 < m.left) && !m.self && (decide (o.k = 1) || decide (o.k = 5))) = st := HST.out.symm
  clear hst HST
  have HADD : Hid (B.add o = (⟨o, m.f, m.left, st, m.self, 0⟩, if st = true then (B.traded o).put o.side (restM (o.cut m.left) ((B.traded o).sd o.side)) else B.traded o)) := by
   show _ = _
   unfold Bok.add
   rw [if_neg (by rw [HE.out]; simp), HSTY.out, HMM.out]
  have HSTH := Lib.hid hst'
  clear hst'
  by_cases hl : 0 < m.left
  ·by_cases hsf0 : m.self = true
   ·have hsf := hsf0
    have hst : st = false := by rw [← HSTH.out, hsf]; simp
    subst hst
    clear hsf0
    go_upto_region 5 with fail
    refine wp_text 12 [.eq (.pointer (some ⟨bo, 10, none⟩)), .eq (.int .i64 (Oc.mk o m.f m.left false m.self 0).left), .eq (.bool true), .eq (.bool true), .eq (.pointer (some ⟨bo, 13, none⟩)), .eq (.bool (Oc.mk o m.f m.left false m.self 0).self), .eq (.bool false), .eq (.bool false), .eq (.bool false), .eq undef, .eq undef, .eq (.bool false)] rfl (by kernel_rfl) ?_ ?_
    ·refine sv 1 rfl rfl rfl (fun a u hE hD hk => exec_fldo 29 2 10 (.tmp 6) (bo) (0) (10) rfl (hE 6 (.pointer (some ⟨bo, 0, none⟩)) (by kernel_rfl) (by kernel_rfl)) (by kernel_rfl) rfl) ?_
     refine sv 2 rfl rfl rfl (fun a u hE hD hk => exec_loadi 3 Try.underlying3 (.tmp 20) ⟨bo, 10, none⟩ (.int .i64 (Oc.mk o m.f m.left false m.self 0).left) rfl (hD 0 20 (by kernel_rfl)) (by rw [(HOo.out.kept hk).cell]; rfl)) ?_
     refine fsteps_cons 3 rfl (fun a u hE hD hk => f_as (show ((decide ((0 : Int) < ((Oc.mk o m.f m.left false m.self 0).left : Int))) : Bool) = true from decide_eq_true hl) (f_val (o := ⟨some 22, _, _, _, _, _⟩) (.bool (decide ((0 : Int) < ((Oc.mk o m.f m.left false m.self 0).left : Int)))) rfl (wanted_none rfl _) (exec_gtn (p := (Oc.mk o m.f m.left false m.self 0).left) (q := 0) rfl (hD 1 21 (by kernel_rfl)) rfl) rfl)) ?_
     refine sv 4 rfl rfl rfl (fun a u hE hD hk => exec_move (.tmp 22) _ rfl (hD 2 22 (by kernel_rfl))) ?_
     refine fsteps_cons 5 rfl (fun a u hE hD hk => f_val (o := ⟨some 24, _, _, _, _, _⟩) (.pointer (some ⟨bo, 13, none⟩)) rfl (wanted_at (b := true) true rfl rfl (hD 3 23 (by kernel_rfl))) (exec_fldo 29 5 13 (.tmp 6) (bo) (0) (13) rfl (hE 6 (.pointer (some ⟨bo, 0, none⟩)) (by kernel_rfl) (by kernel_rfl)) (by kernel_rfl) rfl) rfl) ?_
     refine fsteps_cons 6 rfl (fun a u hE hD hk => f_val (o := ⟨some 25, _, _, _, _, _⟩) (.bool (Oc.mk o m.f m.left false m.self 0).self) rfl (wanted_at (b := true) true rfl rfl (hD 3 23 (by kernel_rfl))) (exec_ldb 4 Try.underlying4 (.tmp 24) ⟨bo, 13, none⟩ (.bool (Oc.mk o m.f m.left false m.self 0).self) rfl (hD 4 24 (by kernel_rfl)) (by rw [(HOo.out.kept hk).cell]; rfl)) rfl) ?_
     refine fsteps_cons 7 rfl (fun a u hE hD hk => f_as (show ((!(Oc.mk o m.f m.left false m.self 0).self) : Bool) = false from (by rw [hsf]; rfl)) (f_val (o := ⟨some 26, _, _, _, _, _⟩) (.bool (!(Oc.mk o m.f m.left false m.self 0).self)) rfl (wanted_at (b := true) true rfl rfl (hD 3 23 (by kernel_rfl))) (exec_not _ (.tmp 25) (Oc.mk o m.f m.left false m.self 0).self rfl (hD 5 25 (by kernel_rfl))) rfl)) ?_
     refine sv 8 rfl rfl rfl (fun a u hE hD hk => exec_pick (.tmp 23) (.tmp 26) (.const (.bool false)) (.bool false) rfl (hD 3 23 (by kernel_rfl)) (hD 6 26 (by kernel_rfl))) ?_
     refine sv 9 rfl rfl rfl (fun a u hE hD hk => exec_move (.tmp 27) _ rfl (hD 7 27 (by kernel_rfl))) ?_
     refine fsteps_cons 10 rfl (fun a u hE hD hk => f_skip (o := ⟨some 29, _, _, _, _, _⟩) rfl (wanted_at (b := true) false rfl rfl (hD 8 28 (by kernel_rfl))) rfl) ?_
     refine fsteps_cons 11 rfl (fun a u hE hD hk => f_skip (o := ⟨some 30, _, _, _, _, _⟩) rfl (wanted_at (b := true) false rfl rfl (hD 8 28 (by kernel_rfl))) rfl) ?_
     refine sv 12 rfl rfl rfl (fun a u hE hD hk => exec_pickF (.tmp 28) (.tmp 30) (.const (.bool false)) (.bool false) rfl (hD 8 28 (by kernel_rfl)) rfl) ?_
     exact fsteps_nil
    intro gv w7 hV k7
    rw [show dstsOf _ 12 = [20, 21, 22, 23, 24, 25, 26, 27, 28, 29, 30, 31] by kernel_rfl]
    simp only [fC, fN, sA, sS, sZ, dS, dZ]
    rw [show gv 31 = .bool false from hV 11 31 (by kernel_rfl)]
    clear hV
    refine wpList_nil ?_
    have HB7 := Lib.hid (HB6.out.kept k7)
    have HV7 := Lib.hid (HV6.out.kept k7)
    have HO7 := Lib.hid (HOo.out.kept k7)
    have HB47 := Lib.hid (HB46.out.kept k7)
    have KF7 := KF6.kept k7
    clear HB6 HV6 HOo HB46 HO6 KF6 k7
    go_upto_region 8 with fail
    refine wp_text 1 [.eq ((Oc.mk o m.f m.left false m.self 0).v vf)] rfl (by kernel_rfl) ?_ ?_
    ·refine sv 1 rfl rfl rfl (fun a u hE hD hk => exec_ldS 29 _ (.tmp 6) bo 0 ((Oc.mk o m.f m.left false m.self 0).cells vf) rfl (hE 6 (.pointer (some ⟨bo, 0, none⟩)) (by kernel_rfl) (by kernel_rfl)) (blk_range (HO7.out.kept hk)) Try.underlying29 (by rw [Oc.len15]; exact szC)) ?_
     exact fsteps_nil
    intro gv wy hV ky
    rw [show dstsOf _ 1 = [38] by kernel_rfl]
    simp only [fC, fN, sA, sS, sZ, dS, dZ]
    rw [show gv 38 = (Oc.mk o m.f m.left false m.self 0).v vf from hV 0 38 (by kernel_rfl)]
    clear hV
    refine l_setS (o := ⟨none, _, _, _, _, _⟩) 29 b4 29 (zeroC.cells (.slice none 0 0)) ((Oc.mk o m.f m.left false m.self 0).cells vf) (.tmp 4) (.tmp 38) rfl rfl (by kernel_rfl) (by kernel_rfl) (HB47.out.kept ky) (by rw [Oc.len15]; exact szC) (by rw [Oc.len15, Oc.len15]) (Oc.one _ _ (sl_onec HV7.out)) ?_
    intro wx hBx hkx hsx
    simp only [Act.put]
    refine wpList_nil ?_
    go_wp2
    refine bodyPost_ret (results_cell (p := 4) rfl _ _ b4 _ ((Oc.mk o m.f m.left false m.self 0).cells vf) rfl hBx Try.underlying29 (by rw [Oc.len15]; exact szC)) rfl ?_
    rw [HADD.out]
    refine ⟨F4, vf, rfl, ?_, (HV7.out.kept ky).keep hkx (fun b hb e => HV4N.out b hb e), HOw.out, HG4.out, (KF7.kept ky).trans hkx (fun b hb e => by omega)⟩
    have h1 := (HB7.out.kept ky).keep hkx (fun b hb e => h4F4 (by rw [← e]; exact hb))
    simp only [Bool.false_eq_true, if_false]
    rw [Bok.traded_to, HMM.out]
    exact h1
   ·have hsf : m.self = false := by simpa using hsf0
    clear hsf0
    obtain ⟨mr, hmr⟩ : ∃ x, (decide (o.k = 1) || decide (o.k = 5)) = x := ⟨_, rfl⟩
    have HMR := Lib.hid hmr
    cases mr with
    | false =>
     have hst : st = false := by rw [← HSTH.out, hmr]; simp
     subst hst
     clear hmr
     go_upto_region 5 with fail
     refine wp_text 12 [.eq (.pointer (some ⟨bo, 10, none⟩)), .eq (.int .i64 (Oc.mk o m.f m.left false m.self 0).left), .eq (.bool true), .eq (.bool true), .eq (.pointer (some ⟨bo, 13, none⟩)), .eq (.bool (Oc.mk o m.f m.left false m.self 0).self), .eq (.bool true), .eq (.bool true), .eq (.bool true), .eq (o.v), .eq (.bool false), .eq (.bool false)] rfl (by kernel_rfl) ?_ ?_
     ·refine sv 1 rfl rfl rfl (fun a u hE hD hk => exec_fldo 29 2 10 (.tmp 6) (bo) (0) (10) rfl (hE 6 (.pointer (some ⟨bo, 0, none⟩)) (by kernel_rfl) (by kernel_rfl)) (by kernel_rfl) rfl) ?_
      refine sv 2 rfl rfl rfl (fun a u hE hD hk => exec_loadi 3 Try.underlying3 (.tmp 20) ⟨bo, 10, none⟩ (.int .i64 (Oc.mk o m.f m.left false m.self 0).left) rfl (hD 0 20 (by kernel_rfl)) (by rw [(HOo.out.kept hk).cell]; rfl)) ?_
      refine fsteps_cons 3 rfl (fun a u hE hD hk => f_as (show ((decide ((0 : Int) < ((Oc.mk o m.f m.left false m.self 0).left : Int))) : Bool) = true from decide_eq_true hl) (f_val (o := ⟨some 22, _, _, _, _, _⟩) (.bool (decide ((0 : Int) < ((Oc.mk o m.f m.left false m.self 0).left : Int)))) rfl (wanted_none rfl _) (exec_gtn (p := (Oc.mk o m.f m.left false m.self 0).left) (q := 0) rfl (hD 1 21 (by kernel_rfl)) rfl) rfl)) ?_
      refine sv 4 rfl rfl rfl (fun a u hE hD hk => exec_move (.tmp 22) _ rfl (hD 2 22 (by kernel_rfl))) ?_
      refine fsteps_cons 5 rfl (fun a u hE hD hk => f_val (o := ⟨some 24, _, _, _, _, _⟩) (.pointer (some ⟨bo, 13, none⟩)) rfl (wanted_at (b := true) true rfl rfl (hD 3 23 (by kernel_rfl))) (exec_fldo 29 5 13 (.tmp 6) (bo) (0) (13) rfl (hE 6 (.pointer (some ⟨bo, 0, none⟩)) (by kernel_rfl) (by kernel_rfl)) (by kernel_rfl) rfl) rfl) ?_
      refine fsteps_cons 6 rfl (fun a u hE hD hk => f_val (o := ⟨some 25, _, _, _, _, _⟩) (.bool (Oc.mk o m.f m.left false m.self 0).self) rfl (wanted_at (b := true) true rfl rfl (hD 3 23 (by kernel_rfl))) (exec_ldb 4 Try.underlying4 (.tmp 24) ⟨bo, 13, none⟩ (.bool (Oc.mk o m.f m.left false m.self 0).self) rfl (hD 4 24 (by kernel_rfl)) (by rw [(HOo.out.kept hk).cell]; rfl)) rfl) ?_
      refine fsteps_cons 7 rfl (fun a u hE hD hk => f_as (show ((!(Oc.mk o m.f m.left false m.self 0).self) : Bool) = true from (by rw [hsf]; rfl)) (f_val (o := ⟨some 26, _, _, _, _, _⟩) (.bool (!(Oc.mk o m.f m.left false m.self 0).self)) rfl (wanted_at (b := true) true rfl rfl (hD 3 23 (by kernel_rfl))) (exec_not _ (.tmp 25) (Oc.mk o m.f m.left false m.self 0).self rfl (hD 5 25 (by kernel_rfl))) rfl)) ?_
      refine sv 8 rfl rfl rfl (fun a u hE hD hk => exec_pick (.tmp 23) (.tmp 26) (.const (.bool false)) (.bool true) rfl (hD 3 23 (by kernel_rfl)) (hD 6 26 (by kernel_rfl))) ?_
      refine sv 9 rfl rfl rfl (fun a u hE hD hk => exec_move (.tmp 27) _ rfl (hD 7 27 (by kernel_rfl))) ?_
      refine fsteps_cons 10 rfl (fun a u hE hD hk => f_val (o := ⟨some 29, _, _, _, _, _⟩) (o.v) rfl (wanted_at (b := true) true rfl rfl (hD 8 28 (by kernel_rfl))) (exec_ldS 25 _ (.tmp 3) (bi) (0) (o.cells) rfl (hE 3 (.pointer (some ⟨bi, 0, none⟩)) (by kernel_rfl) (by kernel_rfl)) (range_kept HO6.out hk) Try.underlying25 (by rw [o.len9]; exact ord_size)) rfl) ?_
      refine fsteps_cons 11 rfl (fun a u hE hD hk => f_call (o := ⟨some 30, _, _, _, _, _⟩) 41 #[o.v] rfl (wanted_at (b := true) true rfl rfl (hD 8 28 (by kernel_rfl))) (exec_call 41 _ [.tmp 29] _ [o.v] Try.func41 (by kernel_rfl) (by kernel_rfl) rfl (show [a.eval (.tmp 29)] = [o.v] from (by rw [show a.eval (.tmp 29) = o.v from (hD 9 29 (by kernel_rfl))] <;> rfl)) u) ((by rw [← HMR.out]; exact mayRest_any u o))) ?_
      refine sv 12 rfl rfl rfl (fun a u hE hD hk => exec_pick (.tmp 28) (.tmp 30) (.const (.bool false)) (.bool false) rfl (hD 8 28 (by kernel_rfl)) (hD 10 30 (by kernel_rfl))) ?_
      exact fsteps_nil
     intro gv w7 hV k7
     rw [show dstsOf _ 12 = [20, 21, 22, 23, 24, 25, 26, 27, 28, 29, 30, 31] by kernel_rfl]
     simp only [fC, fN, sA, sS, sZ, dS, dZ]
     rw [show gv 31 = .bool false from hV 11 31 (by kernel_rfl)]
     clear hV
     refine wpList_nil ?_
     have HB7 := Lib.hid (HB6.out.kept k7)
     have HV7 := Lib.hid (HV6.out.kept k7)
     have HO7 := Lib.hid (HOo.out.kept k7)
     have HB47 := Lib.hid (HB46.out.kept k7)
     have KF7 := KF6.kept k7
     clear HB6 HV6 HOo HB46 HO6 KF6 k7
     go_upto_region 8 with fail
     refine wp_text 1 [.eq ((Oc.mk o m.f m.left false m.self 0).v vf)] rfl (by kernel_rfl) ?_ ?_
     ·refine sv 1 rfl rfl rfl (fun a u hE hD hk => exec_ldS 29 _ (.tmp 6) bo 0 ((Oc.mk o m.f m.left false m.self 0).cells vf) rfl (hE 6 (.pointer (some ⟨bo, 0, none⟩)) (by kernel_rfl) (by kernel_rfl)) (blk_range (HO7.out.kept hk)) Try.underlying29 (by rw [Oc.len15]; exact szC)) ?_
      exact fsteps_nil
     intro gv wy hV ky
     rw [show dstsOf _ 1 = [38] by kernel_rfl]
     simp only [fC, fN, sA, sS, sZ, dS, dZ]
     rw [show gv 38 = (Oc.mk o m.f m.left false m.self 0).v vf from hV 0 38 (by kernel_rfl)]
     clear hV
     refine l_setS (o := ⟨none, _, _, _, _, _⟩) 29 b4 29 (zeroC.cells (.slice none 0 0)) ((Oc.mk o m.f m.left false m.self 0).cells vf) (.tmp 4) (.tmp 38) rfl rfl (by kernel_rfl) (by kernel_rfl) (HB47.out.kept ky) (by rw [Oc.len15]; exact szC) (by rw [Oc.len15, Oc.len15]) (Oc.one _ _ (sl_onec HV7.out)) ?_
     intro wx hBx hkx hsx
     simp only [Act.put]
     refine wpList_nil ?_
     go_wp2
     refine bodyPost_ret (results_cell (p := 4) rfl _ _ b4 _ ((Oc.mk o m.f m.left false m.self 0).cells vf) rfl hBx Try.underlying29 (by rw [Oc.len15]; exact szC)) rfl ?_
     rw [HADD.out]
     refine ⟨F4, vf, rfl, ?_, (HV7.out.kept ky).keep hkx (fun b hb e => HV4N.out b hb e), HOw.out, HG4.out, (KF7.kept ky).trans hkx (fun b hb e => by omega)⟩
     have h1 := (HB7.out.kept ky).keep hkx (fun b hb e => h4F4 (by rw [← e]; exact hb))
     simp only [Bool.false_eq_true, if_false]
     rw [Bok.traded_to, HMM.out]
     exact h1
    | true =>
     have hst : st = true := by rw [← HSTH.out, hmr, hsf]; simp; exact hl
     subst hst
     clear hmr
     go_upto_region 5 with fail
     refine wp_text 12 [.eq (.pointer (some ⟨bo, 10, none⟩)), .eq (.int .i64 (Oc.mk o m.f m.left false m.self 0).left), .eq (.bool true), .eq (.bool true), .eq (.pointer (some ⟨bo, 13, none⟩)), .eq (.bool (Oc.mk o m.f m.left false m.self 0).self), .eq (.bool true), .eq (.bool true), .eq (.bool true), .eq (o.v), .eq (.bool true), .eq (.bool true)] rfl (by kernel_rfl) ?_ ?_
     ·refine sv 1 rfl rfl rfl (fun a u hE hD hk => exec_fldo 29 2 10 (.tmp 6) (bo) (0) (10) rfl (hE 6 (.pointer (some ⟨bo, 0, none⟩)) (by kernel_rfl) (by kernel_rfl)) (by kernel_rfl) rfl) ?_
      refine sv 2 rfl rfl rfl (fun a u hE hD hk => exec_loadi 3 Try.underlying3 (.tmp 20) ⟨bo, 10, none⟩ (.int .i64 (Oc.mk o m.f m.left false m.self 0).left) rfl (hD 0 20 (by kernel_rfl)) (by rw [(HOo.out.kept hk).cell]; rfl)) ?_
      refine fsteps_cons 3 rfl (fun a u hE hD hk => f_as (show ((decide ((0 : Int) < ((Oc.mk o m.f m.left false m.self 0).left : Int))) : Bool) = true from decide_eq_true hl) (f_val (o := ⟨some 22, _, _, _, _, _⟩) (.bool (decide ((0 : Int) < ((Oc.mk o m.f m.left false m.self 0).left : Int)))) rfl (wanted_none rfl _) (exec_gtn (p := (Oc.mk o m.f m.left false m.self 0).left) (q := 0) rfl (hD 1 21 (by kernel_rfl)) rfl) rfl)) ?_
      refine sv 4 rfl rfl rfl (fun a u hE hD hk => exec_move (.tmp 22) _ rfl (hD 2 22 (by kernel_rfl))) ?_
      refine fsteps_cons 5 rfl (fun a u hE hD hk => f_val (o := ⟨some 24, _, _, _, _, _⟩) (.pointer (some ⟨bo, 13, none⟩)) rfl (wanted_at (b := true) true rfl rfl (hD 3 23 (by kernel_rfl))) (exec_fldo 29 5 13 (.tmp 6) (bo) (0) (13) rfl (hE 6 (.pointer (some ⟨bo, 0, none⟩)) (by kernel_rfl) (by kernel_rfl)) (by kernel_rfl) rfl) rfl) ?_
      refine fsteps_cons 6 rfl (fun a u hE hD hk => f_val (o := ⟨some 25, _, _, _, _, _⟩) (.bool (Oc.mk o m.f m.left false m.self 0).self) rfl (wanted_at (b := true) true rfl rfl (hD 3 23 (by kernel_rfl))) (exec_ldb 4 Try.underlying4 (.tmp 24) ⟨bo, 13, none⟩ (.bool (Oc.mk o m.f m.left false m.self 0).self) rfl (hD 4 24 (by kernel_rfl)) (by rw [(HOo.out.kept hk).cell]; rfl)) rfl) ?_
      refine fsteps_cons 7 rfl (fun a u hE hD hk => f_as (show ((!(Oc.mk o m.f m.left false m.self 0).self) : Bool) = true from (by rw [hsf]; rfl)) (f_val (o := ⟨some 26, _, _, _, _, _⟩) (.bool (!(Oc.mk o m.f m.left false m.self 0).self)) rfl (wanted_at (b := true) true rfl rfl (hD 3 23 (by kernel_rfl))) (exec_not _ (.tmp 25) (Oc.mk o m.f m.left false m.self 0).self rfl (hD 5 25 (by kernel_rfl))) rfl)) ?_
      refine sv 8 rfl rfl rfl (fun a u hE hD hk => exec_pick (.tmp 23) (.tmp 26) (.const (.bool false)) (.bool true) rfl (hD 3 23 (by kernel_rfl)) (hD 6 26 (by kernel_rfl))) ?_
      refine sv 9 rfl rfl rfl (fun a u hE hD hk => exec_move (.tmp 27) _ rfl (hD 7 27 (by kernel_rfl))) ?_
      refine fsteps_cons 10 rfl (fun a u hE hD hk => f_val (o := ⟨some 29, _, _, _, _, _⟩) (o.v) rfl (wanted_at (b := true) true rfl rfl (hD 8 28 (by kernel_rfl))) (exec_ldS 25 _ (.tmp 3) (bi) (0) (o.cells) rfl (hE 3 (.pointer (some ⟨bi, 0, none⟩)) (by kernel_rfl) (by kernel_rfl)) (range_kept HO6.out hk) Try.underlying25 (by rw [o.len9]; exact ord_size)) rfl) ?_
      refine fsteps_cons 11 rfl (fun a u hE hD hk => f_call (o := ⟨some 30, _, _, _, _, _⟩) 41 #[o.v] rfl (wanted_at (b := true) true rfl rfl (hD 8 28 (by kernel_rfl))) (exec_call 41 _ [.tmp 29] _ [o.v] Try.func41 (by kernel_rfl) (by kernel_rfl) rfl (show [a.eval (.tmp 29)] = [o.v] from (by rw [show a.eval (.tmp 29) = o.v from (hD 9 29 (by kernel_rfl))] <;> rfl)) u) ((by rw [← HMR.out]; exact mayRest_any u o))) ?_
      refine sv 12 rfl rfl rfl (fun a u hE hD hk => exec_pick (.tmp 28) (.tmp 30) (.const (.bool false)) (.bool true) rfl (hD 8 28 (by kernel_rfl)) (hD 10 30 (by kernel_rfl))) ?_
      exact fsteps_nil
     intro gv w7 hV k7
     rw [show dstsOf _ 12 = [20, 21, 22, 23, 24, 25, 26, 27, 28, 29, 30, 31] by kernel_rfl]
     simp only [fC, fN, sA, sS, sZ, dS, dZ]
     rw [show gv 31 = .bool true from hV 11 31 (by kernel_rfl)]
     clear hV
     refine wpList_nil ?_
     have HB7 := Lib.hid (HB6.out.kept k7)
     have HV7 := Lib.hid (HV6.out.kept k7)
     have HO7 := Lib.hid (HOo.out.kept k7)
     have HI7 := Lib.hid (range_kept HO6.out k7)
     have HB47 := Lib.hid (HB46.out.kept k7)
     have KF7 := KF6.kept k7
     have zk7 := k7.size
     have HLO : Hid (LvsOk ((B.to (3 - o.side) m.L (lastOf B.last m.f) (B.no + m.f.length)).sd o.side)) := by
      show LvsOk _
      have h1 := HI.out.ok o.side
      rcases HAI.out.sd with h2 | h2 <;> rw [h2] at h1 ⊢ <;> exact h1
     clear HB6 HV6 HOo HB46 HO6 KF6 k7 hl hsf
     go_upto_region 6 with fail
     refine wp_text 4 [.eq (.pointer (some ⟨p, 0, none⟩)), .eq (o.v), .eq (.pointer (some ⟨bo, 10, none⟩)), .eq (.int .i64 (Oc.mk o m.f m.left false m.self 0).left)] rfl (by kernel_rfl) ?_ ?_
     ·refine sv 1 rfl rfl rfl (fun a u hE hD hk => exec_move (.tmp 0) _ rfl (hE 0 (.pointer (some ⟨p, 0, none⟩)) (by kernel_rfl) (by kernel_rfl))) ?_
      refine sv 2 rfl rfl rfl (fun a u hE hD hk => exec_ldS 25 _ (.tmp 3) (bi) (0) (o.cells) rfl (hE 3 (.pointer (some ⟨bi, 0, none⟩)) (by kernel_rfl) (by kernel_rfl)) (range_kept HI7.out hk) Try.underlying25 (by rw [o.len9]; exact ord_size)) ?_
      refine sv 3 rfl rfl rfl (fun a u hE hD hk => exec_fldo 29 2 10 (.tmp 6) (bo) (0) (10) rfl (hE 6 (.pointer (some ⟨bo, 0, none⟩)) (by kernel_rfl) (by kernel_rfl)) (by kernel_rfl) rfl) ?_
      refine sv 4 rfl rfl rfl (fun a u hE hD hk => exec_loadi 3 Try.underlying3 (.tmp 34) ⟨bo, 10, none⟩ (.int .i64 (Oc.mk o m.f m.left false m.self 0).left) rfl (hD 2 34 (by kernel_rfl)) (by rw [(HO7.out.kept hk).cell]; rfl)) ?_
      exact fsteps_nil
     intro gv w8 hV k8
     rw [show dstsOf _ 4 = [32, 33, 34, 35] by kernel_rfl]
     simp only [fC, fN, sA, sS, sZ, dS, dZ]
     rw [show gv 32 = .pointer (some ⟨p, 0, none⟩) from hV 0 32 (by kernel_rfl)]
     rw [show gv 33 = o.v from hV 1 33 (by kernel_rfl)]
     rw [show gv 35 = .int .i64 (Oc.mk o m.f m.left false m.self 0).left from hV 3 35 (by kernel_rfl)]
     clear hV
     refine l_call (o := ⟨some 36, _, _, _, _, _⟩) 42 #[.pointer (some ⟨p, 0, none⟩), o.v, .int .i64 (Oc.mk o m.f m.left false m.self 0).left] rfl (exec_call 42 _ [.tmp 32, .tmp 33, .tmp 35] _ _ Try.func42 (by kernel_rfl) (by kernel_rfl) rfl (by kernel_rfl) _) ?_
     refine (rest_any w8 F4 p _ o m.left (HB7.out.kept k8) HAI.out.sd HLO.out).mono ?_
     rintro r w9 ⟨F9, rfl, hb9, hg9, hk9⟩
     refine ⟨_, rfl, ?_⟩
     simp only [Act.put, sA, sS, sZ]
     refine wpList_nil ?_
     have zk8 := k8.size
     have zk9 := hk9.size
     have HO9 := Lib.hid ((HO7.out.kept k8).keep hk9 hoF4)
     have HB49 := Lib.hid ((HB47.out.kept k8).keep hk9 h4F4)
     have HV9 := Lib.hid ((HV7.out.kept k8).keep hk9 (fun b hb e => (HOw.out b hb).2 e))
     have KF9 : Keep F w w9 := (KF7.kept k8).trans hk9 (fun b hb e => (HG4.out b e).elim id (fun e => by omega))
     have hF9 : ∀ b, F9 b → F4 b ∨ w8.heap.size ≤ b := hg9
     have ho9 : ¬ F9 bo := fun h => (hF9 bo h).elim hoF4 (fun h => by omega)
     have h49 : ¬ F9 b4 := fun h => (hF9 b4 h).elim h4F4 (fun h => by omega)
     have HOw9 : Hid (∀ b, vf.ownBlock = some b → w.heap.size ≤ b ∧ ¬ F9 b) := fun b hb => ⟨(HOw.out b hb).1, fun e => (hF9 b e).elim (HOw.out b hb).2 (fun e => by have := HVL.out b hb; omega)⟩
     have HG9 : Hid (Grow w F F9) := fun b hb => by
      rcases hF9 b hb with h | h
      ·exact HG4.out b h
      ·exact .inr (by have := KF7.size; omega)
     have HB9 := Lib.hid hb9
     clear hb9 hg9 hk9 k8 HB7 HV7 HO7 HI7 HB47 KF7 hF9
     go_upto_region 7 with fail
     refine wp_text 1 [.eq (.pointer (some ⟨bo, 11, none⟩))] rfl (by kernel_rfl) ?_ ?_
     ·refine sv 1 rfl rfl rfl (fun a u hE hD hk => exec_fldo 29 3 11 (.tmp 6) (bo) (0) (11) rfl (hE 6 (.pointer (some ⟨bo, 0, none⟩)) (by kernel_rfl) (by kernel_rfl)) (by kernel_rfl) rfl) ?_
      exact fsteps_nil
     intro gv wa hV ka
     rw [show dstsOf _ 1 = [37] by kernel_rfl]
     simp only [fC, fN, sA, sS, sZ, dS, dZ]
     rw [show gv 37 = .pointer (some ⟨bo, 11, none⟩) from hV 0 37 (by kernel_rfl)]
     clear hV
     refine l_st1 (o := ⟨none, _, _, _, _, _⟩) 4 bo 11 29 _ (.bool true) (.tmp 37) (.const (.bool true)) rfl rfl (by kernel_rfl) (by kernel_rfl) rfl rfl rfl (HO9.out.kept ka) (by rw [Oc.len15]; omega) ?_
     intro wb hOb hkb hsb
     simp only [Act.put]
     refine wpList_nil ?_
     rw [Oc.set_rests] at hOb
     have HOb := Lib.hid hOb
     have HBb := Lib.hid ((HB9.out.kept ka).keep hkb (fun b hb e => ho9 (by rw [← e]; exact hb)))
     have HVb := Lib.hid ((HV9.out.kept ka).keep hkb (fun b hb e => by have := HVL.out b hb; omega))
     have HB4b := Lib.hid ((HB49.out.kept ka).keep hkb (fun e => hbo4 e.symm))
     have KFb : Keep F w wb := (KF9.kept ka).trans hkb (fun b hb e => by omega)
     clear hOb hkb hsb ka HO9 HB9 HV9 HB49 KF9
     go_upto_region 8 with fail
     refine wp_text 1 [.eq ((Oc.mk o m.f m.left true m.self 0).v vf)] rfl (by kernel_rfl) ?_ ?_
     ·refine sv 1 rfl rfl rfl (fun a u hE hD hk => exec_ldS 29 _ (.tmp 6) bo 0 ((Oc.mk o m.f m.left true m.self 0).cells vf) rfl (hE 6 (.pointer (some ⟨bo, 0, none⟩)) (by kernel_rfl) (by kernel_rfl)) (blk_range (HOb.out.kept hk)) Try.underlying29 (by rw [Oc.len15]; exact szC)) ?_
      exact fsteps_nil
     intro gv wy hV ky
     rw [show dstsOf _ 1 = [38] by kernel_rfl]
     simp only [fC, fN, sA, sS, sZ, dS, dZ]
     rw [show gv 38 = (Oc.mk o m.f m.left true m.self 0).v vf from hV 0 38 (by kernel_rfl)]
     clear hV
     refine l_setS (o := ⟨none, _, _, _, _, _⟩) 29 b4 29 (zeroC.cells (.slice none 0 0)) ((Oc.mk o m.f m.left true m.self 0).cells vf) (.tmp 4) (.tmp 38) rfl rfl (by kernel_rfl) (by kernel_rfl) (HB4b.out.kept ky) (by rw [Oc.len15]; exact szC) (by rw [Oc.len15, Oc.len15]) (Oc.one _ _ (sl_onec HVb.out)) ?_
     intro wx hBx hkx hsx
     simp only [Act.put]
     refine wpList_nil ?_
     go_wp2
     refine bodyPost_ret (results_cell (p := 4) rfl _ _ b4 _ ((Oc.mk o m.f m.left true m.self 0).cells vf) rfl hBx Try.underlying29 (by rw [Oc.len15]; exact szC)) rfl ?_
     rw [HADD.out]
     refine ⟨F9, vf, rfl, ?_, (HVb.out.kept ky).keep hkx (fun b hb e => HV4N.out b hb e), HOw9.out, HG9.out, (KFb.kept ky).trans hkx (fun b hb e => by omega)⟩
     have h1 := (HBb.out.kept ky).keep hkx (fun b hb e => h49 (by rw [← e]; exact hb))
     simp only [if_true]
     rw [Bok.traded_to, HMM.out]
     rcases HAI.out.sd with h2 | h2
     ·rw [h2] at h1 ⊢
      exact h1
     ·rw [h2] at h1 ⊢
      exact h1
  ·have hst : st = false := by rw [← HSTH.out]; simp [hl]
   subst hst
   go_upto_region 5 with fail
   refine wp_text 12 [.eq (.pointer (some ⟨bo, 10, none⟩)), .eq (.int .i64 (Oc.mk o m.f m.left false m.self 0).left), .eq (.bool false), .eq (.bool false), .eq undef, .eq undef, .eq undef, .eq (.bool false), .eq (.bool false), .eq undef, .eq undef, .eq (.bool false)] rfl (by kernel_rfl) ?_ ?_
   ·refine sv 1 rfl rfl rfl (fun a u hE hD hk => exec_fldo 29 2 10 (.tmp 6) (bo) (0) (10) rfl (hE 6 (.pointer (some ⟨bo, 0, none⟩)) (by kernel_rfl) (by kernel_rfl)) (by kernel_rfl) rfl) ?_
    refine sv 2 rfl rfl rfl (fun a u hE hD hk => exec_loadi 3 Try.underlying3 (.tmp 20) ⟨bo, 10, none⟩ (.int .i64 (Oc.mk o m.f m.left false m.self 0).left) rfl (hD 0 20 (by kernel_rfl)) (by rw [(HOo.out.kept hk).cell]; rfl)) ?_
    refine fsteps_cons 3 rfl (fun a u hE hD hk => f_as (show ((decide ((0 : Int) < ((Oc.mk o m.f m.left false m.self 0).left : Int))) : Bool) = false from decide_eq_false hl) (f_val (o := ⟨some 22, _, _, _, _, _⟩) (.bool (decide ((0 : Int) < ((Oc.mk o m.f m.left false m.self 0).left : Int)))) rfl (wanted_none rfl _) (exec_gtn (p := (Oc.mk o m.f m.left false m.self 0).left) (q := 0) rfl (hD 1 21 (by kernel_rfl)) rfl) rfl)) ?_
    refine sv 4 rfl rfl rfl (fun a u hE hD hk => exec_move (.tmp 22) _ rfl (hD 2 22 (by kernel_rfl))) ?_
    refine fsteps_cons 5 rfl (fun a u hE hD hk => f_skip (o := ⟨some 24, _, _, _, _, _⟩) rfl (wanted_at (b := true) false rfl rfl (hD 3 23 (by kernel_rfl))) rfl) ?_
    refine fsteps_cons 6 rfl (fun a u hE hD hk => f_skip (o := ⟨some 25, _, _, _, _, _⟩) rfl (wanted_at (b := true) false rfl rfl (hD 3 23 (by kernel_rfl))) rfl) ?_
    refine fsteps_cons 7 rfl (fun a u hE hD hk => f_skip (o := ⟨some 26, _, _, _, _, _⟩) rfl (wanted_at (b := true) false rfl rfl (hD 3 23 (by kernel_rfl))) rfl) ?_
    refine sv 8 rfl rfl rfl (fun a u hE hD hk => exec_pickF (.tmp 23) (.tmp 26) (.const (.bool false)) (.bool false) rfl (hD 3 23 (by kernel_rfl)) rfl) ?_
    refine sv 9 rfl rfl rfl (fun a u hE hD hk => exec_move (.tmp 27) _ rfl (hD 7 27 (by kernel_rfl))) ?_
    refine fsteps_cons 10 rfl (fun a u hE hD hk => f_skip (o := ⟨some 29, _, _, _, _, _⟩) rfl (wanted_at (b := true) false rfl rfl (hD 8 28 (by kernel_rfl))) rfl) ?_
    refine fsteps_cons 11 rfl (fun a u hE hD hk => f_skip (o := ⟨some 30, _, _, _, _, _⟩) rfl (wanted_at (b := true) false rfl rfl (hD 8 28 (by kernel_rfl))) rfl) ?_
    refine sv 12 rfl rfl rfl (fun a u hE hD hk => exec_pickF (.tmp 28) (.tmp 30) (.const (.bool false)) (.bool false) rfl (hD 8 28 (by kernel_rfl)) rfl) ?_
    exact fsteps_nil
   intro gv w7 hV k7
   rw [show dstsOf _ 12 = [20, 21, 22, 23, 24, 25, 26, 27, 28, 29, 30, 31] by kernel_rfl]
   simp only [fC, fN, sA, sS, sZ, dS, dZ]
   rw [show gv 31 = .bool false from hV 11 31 (by kernel_rfl)]
   clear hV
   refine wpList_nil ?_
   have HB7 := Lib.hid (HB6.out.kept k7)
   have HV7 := Lib.hid (HV6.out.kept k7)
   have HO7 := Lib.hid (HOo.out.kept k7)
   have HB47 := Lib.hid (HB46.out.kept k7)
   have KF7 := KF6.kept k7
   clear HB6 HV6 HOo HB46 HO6 KF6 k7
   go_upto_region 8 with fail
   refine wp_text 1 [.eq ((Oc.mk o m.f m.left false m.self 0).v vf)] rfl (by kernel_rfl) ?_ ?_
   ·refine sv 1 rfl rfl rfl (fun a u hE hD hk => exec_ldS 29 _ (.tmp 6) bo 0 ((Oc.mk o m.f m.left false m.self 0).cells vf) rfl (hE 6 (.pointer (some ⟨bo, 0, none⟩)) (by kernel_rfl) (by kernel_rfl)) (blk_range (HO7.out.kept hk)) Try.underlying29 (by rw [Oc.len15]; exact szC)) ?_
    exact fsteps_nil
   intro gv wy hV ky
   rw [show dstsOf _ 1 = [38] by kernel_rfl]
   simp only [fC, fN, sA, sS, sZ, dS, dZ]
   rw [show gv 38 = (Oc.mk o m.f m.left false m.self 0).v vf from hV 0 38 (by kernel_rfl)]
   clear hV
   refine l_setS (o := ⟨none, _, _, _, _, _⟩) 29 b4 29 (zeroC.cells (.slice none 0 0)) ((Oc.mk o m.f m.left false m.self 0).cells vf) (.tmp 4) (.tmp 38) rfl rfl (by kernel_rfl) (by kernel_rfl) (HB47.out.kept ky) (by rw [Oc.len15]; exact szC) (by rw [Oc.len15, Oc.len15]) (Oc.one _ _ (sl_onec HV7.out)) ?_
   intro wx hBx hkx hsx
   simp only [Act.put]
   refine wpList_nil ?_
   go_wp2
   refine bodyPost_ret (results_cell (p := 4) rfl _ _ b4 _ ((Oc.mk o m.f m.left false m.self 0).cells vf) rfl hBx Try.underlying29 (by rw [Oc.len15]; exact szC)) rfl ?_
   rw [HADD.out]
   refine ⟨F4, vf, rfl, ?_, (HV7.out.kept ky).keep hkx (fun b hb e => HV4N.out b hb e), HOw.out, HG4.out, (KF7.kept ky).trans hkx (fun b hb e => by omega)⟩
   have h1 := (HB7.out.kept ky).keep hkx (fun b hb e => h4F4 (by rw [← e]; exact hb))
   simp only [Bool.false_eq_true, if_false]
   rw [Bok.traded_to, HMM.out]
   exact h1
end Go.Proofs.Ytfpfpmhkkgfdbaa
namespace Go.Proofs.Ytfpfpmhkkgfdbaa
open Go.RowKit
set_option maxRecDepth 100000
theorem Bok.to1 (B : Bok) (L : List Lev) : B.to 1 L B.last B.no = { B with buys := L } := rfl
theorem Bok.to2 (B : Bok) (L : List Lev) : B.to 2 L B.last B.no = { B with sells := L } := rfl
set_option maxRecDepth 100000 in
set_option maxHeartbeats 1600000 in
theorem bremove_any (w : World) (F : Nat → Prop) (p : Nat) (B : Bok) (t i : Int) (h : Bk w F p B) (hI : Inv B) : Calls Try.prog 24 #[.pointer (some ⟨p, 0, none⟩), .int .i64 t, .int .i64 i] w fun r w' => ∃ F', r = .returned (.tuple #[(B.remove t i).1.v, .bool (B.remove t i).2.1]) ∧ Bk w' F' p (B.remove t i).2.2 ∧ Grow w F F' ∧ Keep F w w' := by
 have hFl := h.lt
 have HK := Lib.hid h
 have HI := Lib.hid hI
 clear h hI
 go_enter Try.func24, Try.ntmps24
 go_upto_region 0 with fail
 refine wp_text 2 [.fresh w.heap.size 25 zeroO.cells, .eq (.bool false)] rfl (by kernel_rfl) ?_ ?_
 ·refine fsteps_cons 1 rfl (fun a u hE hD hk => f_new (o := ⟨some 6, _, _, _, _, _⟩) (.pointer (some ⟨u.heap.size, 0, none⟩)) _ rfl (wanted_none rfl _) (exec_alc 25 zeroO.cells rfl zO) ⟨_, rfl, hk.size, Blk.new u _ _⟩ ((Keep.refl _ u).alloc _)) ?_
  refine sv 2 rfl rfl rfl (fun a u hE hD hk => exec_assign (.const (.bool false)) _ rfl rfl) ?_
  exact fsteps_nil
 intro gv w0 hV k0
 rw [show dstsOf _ 2 = [6, 7] by kernel_rfl]
 simp only [fC, fN, sA, sS, sZ, dS, dZ]
 have hv6 : (.fresh w.heap.size 25 zeroO.cells : Kn).p (gv 6) w0 := hV 0 6 (by kernel_rfl)
 generalize gv 6 = v6 at hv6 ⊢
 rw [show gv 7 = .bool false from hV 1 7 (by kernel_rfl)]
 clear hV
 obtain ⟨b6, rfl, hb6, hB6⟩ := hv6
 refine wpList_nil ?_
 have h6F : ¬ F b6 := fun h => by have := hFl b6 h; omega
 have HB6 := Lib.hid hB6
 have l6 := hB6.lt
 have HK0 := Lib.hid (HK.out.kept k0)
 have z0 := k0.size
 clear hB6 hFl
 obtain ⟨b, hb⟩ : ∃ b, (removeL t i B.buys).2.1 = b := ⟨_, rfl⟩
 obtain ⟨e, he⟩ : ∃ e, (removeL t i B.buys).1 = e := ⟨_, rfl⟩
 have HB := Lib.hid hb
 have HE := Lib.hid he
 clear hb he
 go_upto_region 1 with fail
 refine wp_text 5 [.eq (.pointer (some ⟨p, 0, none⟩)), .eq (.pointer (some ⟨p, 0, none⟩)), .eq (.pointer (some ⟨p, 0, none⟩)), .eq (.int .i64 t), .eq (.int .i64 i)] rfl (by kernel_rfl) ?_ ?_
 ·refine sv 1 rfl rfl rfl (fun a u hE hD hk => exec_move (.tmp 0) _ rfl (hE 0 (.pointer (some ⟨p, 0, none⟩)) (by kernel_rfl) (by kernel_rfl))) ?_
  refine sv 2 rfl rfl rfl (fun a u hE hD hk => exec_nilp (.tmp 11) ⟨p, 0, none⟩ rfl (hD 0 11 (by kernel_rfl))) ?_
  refine sv 3 rfl rfl rfl (fun a u hE hD hk => exec_fldo 75 0 0 (.tmp 12) (p) (0) (0) rfl (hD 1 12 (by kernel_rfl)) (by kernel_rfl) rfl) ?_
  refine sv 4 rfl rfl rfl (fun a u hE hD hk => exec_move (.tmp 1) _ rfl (hE 1 (.int .i64 t) (by kernel_rfl) (by kernel_rfl))) ?_
  refine sv 5 rfl rfl rfl (fun a u hE hD hk => exec_move (.tmp 2) _ rfl (hE 2 (.int .i64 i) (by kernel_rfl) (by kernel_rfl))) ?_
  exact fsteps_nil
 intro gv w1 hV k1
 rw [show dstsOf _ 5 = [11, 12, 13, 14, 15] by kernel_rfl]
 simp only [fC, fN, sA, sS, sZ, dS, dZ]
 rw [show gv 13 = .pointer (some ⟨p, 0, none⟩) from hV 2 13 (by kernel_rfl)]
 rw [show gv 14 = .int .i64 t from hV 3 14 (by kernel_rfl)]
 rw [show gv 15 = .int .i64 i from hV 4 15 (by kernel_rfl)]
 clear hV
 refine l_call (o := ⟨some 16, _, _, _, _, _⟩) 52 #[.pointer (some ⟨p, 0, none⟩), .int .i64 t, .int .i64 i] rfl (exec_call 52 _ [.tmp 13, .tmp 14, .tmp 15] _ _ Try.func52 (by kernel_rfl) (by kernel_rfl) rfl (by kernel_rfl) _) ?_
 refine (lremove_any w1 F p B 1 t i (HK0.out.kept k1) (.inl rfl) (HI.out.ok 1)).mono ?_
 rintro r w3 ⟨F1, rfl, h1, g1, q1, n1⟩
 have e1 : B.sd 1 = B.buys := rfl
 rw [e1] at h1 n1 ⊢
 rw [Bok.to1] at h1
 refine ⟨.tuple #[e.v, .bool b], by rw [HB.out, HE.out], ?_⟩
 rw [HB.out] at n1
 simp only [Act.put, sA, sS, sZ]
 refine l_val (o := ⟨some 10, _, _, _, _, _⟩) (.tuple #[e.v, .bool b]) rfl (exec_move (.tmp 16) (.tuple #[e.v, .bool b]) rfl (by kernel_rfl)) ?_
 simp only [Act.put, sA, sS, sZ]
 refine l_val (o := ⟨some 17, _, _, _, _, _⟩) (e.v) rfl (exec_extract (.tmp 10) [e.v, .bool b] 0 (e.v) rfl (by kernel_rfl) rfl) ?_
 simp only [Act.put, sA, sS, sZ]
 refine l_val (o := ⟨some 18, _, _, _, _, _⟩) (.bool b) rfl (exec_extract (.tmp 10) [e.v, .bool b] 1 (.bool b) rfl (by kernel_rfl) rfl) ?_
 simp only [Act.put, sA, sS, sZ]
 refine l_new (o := ⟨some 8, _, _, _, _, _⟩) (.pointer (some ⟨w3.heap.size, 0, none⟩)) (w3.alloc (.cells zeroO.cells.toArray 25)) rfl (exec_alc 25 zeroO.cells rfl zO) ?_
 have hNw4 := Blk.new w3 25 zeroO.cells
 have kw4 : Kept w3 (w3.alloc (.cells zeroO.cells.toArray 25)) := (Keep.refl _ w3).alloc _
 generalize w3.alloc (.cells zeroO.cells.toArray 25) = w4 at hNw4 kw4 ⊢
 simp only [Act.put, sA, sS, sZ]
 refine l_setS (o := ⟨none, _, _, _, _, _⟩) 25 w3.heap.size 25 zeroO.cells e.cells (.tmp 8) (.tmp 17) rfl rfl (by kernel_rfl) (by kernel_rfl) hNw4 (by rw [Ord.len9]; exact ord_size) (by rw [Ord.len9, Ord.len9]) (Ord.one1 _) ?_
 intro w5 hB5 hk5 hs5
 simp only [Act.put]
 refine l_val (o := ⟨some 9, _, _, _, _, _⟩) (.bool b) rfl (exec_assign (.tmp 18) (.bool b) rfl (by kernel_rfl)) ?_
 simp only [Act.put, sA, sS, sZ]
 refine wpList_nil ?_
 obtain ⟨b8, hb8⟩ : ∃ x, w3.heap.size = x := ⟨_, rfl⟩
 rw [hb8] at hNw4 hB5 hk5 ⊢
 have l8 := hB5.lt
 have K35 : Kept w3 w5 := kw4.trans' hk5 (by omega)
 have z1 := k1.size
 have z3 := q1.size
 have H1 := Lib.hid h1
 have N1 := Lib.hid n1
 have HB8 := Lib.hid (blk_range hB5)
 clear hNw4 hB5 hk5 hs5 kw4 h1 n1
 cases b with
 | true =>
  have HR : Hid (B.remove t i = (e, true, { B with buys := (removeL t i B.buys).2.2 })) := by show _ = _; unfold Bok.remove; rw [if_pos HB.out, HE.out]
  have h6F1 : ¬ F1 b6 := fun h => (g1 b6 h).elim h6F (fun h => by omega)
  have HB65 := Lib.hid (((HB6.out.kept k1).keep q1 h6F).kept K35)
  have H15 := Lib.hid (H1.out.kept K35)
  have KK : Keep F w w5 := (Keep.any (k0.trans k1) q1).kept K35
  have GG : Grow w F F1 := g1.wide (k0.trans k1).size
  have z5 := KK.size
  clear HB6 H1 N1 K35 q1 g1
  go_upto_region 3 with fail
  refine wp_text 1 [.eq (e.v)] rfl (by kernel_rfl) ?_ ?_
  ·refine sv 1 rfl rfl rfl (fun a u hE hD hk => exec_ldS 25 _ (.tmp 8) (b8) (0) (e.cells) rfl (hE 8 (.pointer (some ⟨b8, 0, none⟩)) (by kernel_rfl) (by kernel_rfl)) (range_kept HB8.out hk) Try.underlying25 (by rw [e.len9]; exact ord_size)) ?_
   exact fsteps_nil
  intro gv w6 hV k6
  rw [show dstsOf _ 1 = [20] by kernel_rfl]
  simp only [fC, fN, sA, sS, sZ, dS, dZ]
  rw [show gv 20 = e.v from hV 0 20 (by kernel_rfl)]
  clear hV
  refine l_setS (o := ⟨none, _, _, _, _, _⟩) 25 b6 25 zeroO.cells e.cells (.tmp 6) (.tmp 20) rfl rfl (by kernel_rfl) (by kernel_rfl) (HB65.out.kept k6) (by rw [Ord.len9]; exact ord_size) (by rw [Ord.len9, Ord.len9]) (Ord.one1 _) ?_
  intro w7 hB7 hk7 hs7
  simp only [Act.put]
  refine l_val (o := ⟨some 7, _, _, _, _, _⟩) (.bool true) rfl (exec_assign (.const (.bool true)) (.bool true) rfl (by kernel_rfl)) ?_
  simp only [Act.put, sA, sS, sZ]
  refine wpList_nil ?_
  go_wp2
  refine bodyPost_ret (results_cell2 (p := 6) (q := 7) rfl _ _ b6 _ e.cells true rfl rfl hB7 Try.underlying25 (by rw [Ord.len9]; exact ord_size)) rfl ?_
  rw [HR.out]
  have h9 := (H15.out.kept k6).keep hk7 (fun b hb h => h6F1 (by subst h; exact hb))
  have k9 : Keep F w w7 := (KK.kept k6).trans hk7 (fun b hb h => by subst h; omega)
  first | exact ⟨rfl, F1, h9, GG, k9⟩ | exact ⟨F1, rfl, h9, GG, k9⟩
 | false =>
  have kk := (k1.trans (N1.out rfl)).trans K35
  have HK5 := Lib.hid (HK0.out.kept kk)
  have HB65 := Lib.hid (HB6.out.kept kk)
  have zk := kk.size
  clear H1 N1 K35 HB6 HK0 q1 g1 k1 z1 z3 HB8 l8
  obtain ⟨b, hb⟩ : ∃ b, (removeL t i B.sells).2.1 = b := ⟨_, rfl⟩
  obtain ⟨e2, he⟩ : ∃ e, (removeL t i B.sells).1 = e := ⟨_, rfl⟩
  have HBB := Lib.hid hb
  have HEE := Lib.hid he
  clear hb he
  go_upto_region 4 with fail
  refine wp_text 5 [.eq (.pointer (some ⟨p, 0, none⟩)), .eq (.pointer (some ⟨p, 0, none⟩)), .eq (.pointer (some ⟨p, 2, none⟩)), .eq (.int .i64 t), .eq (.int .i64 i)] rfl (by kernel_rfl) ?_ ?_
  ·refine sv 1 rfl rfl rfl (fun a u hE hD hk => exec_move (.tmp 0) _ rfl (hE 0 (.pointer (some ⟨p, 0, none⟩)) (by kernel_rfl) (by kernel_rfl))) ?_
   refine sv 2 rfl rfl rfl (fun a u hE hD hk => exec_nilp (.tmp 21) ⟨p, 0, none⟩ rfl (hD 0 21 (by kernel_rfl))) ?_
   refine sv 3 rfl rfl rfl (fun a u hE hD hk => exec_fldo 75 1 2 (.tmp 22) (p) (0) (2) rfl (hD 1 22 (by kernel_rfl)) (by kernel_rfl) rfl) ?_
   refine sv 4 rfl rfl rfl (fun a u hE hD hk => exec_move (.tmp 1) _ rfl (hE 1 (.int .i64 t) (by kernel_rfl) (by kernel_rfl))) ?_
   refine sv 5 rfl rfl rfl (fun a u hE hD hk => exec_move (.tmp 2) _ rfl (hE 2 (.int .i64 i) (by kernel_rfl) (by kernel_rfl))) ?_
   exact fsteps_nil
  intro gv w6 hV k6
  rw [show dstsOf _ 5 = [21, 22, 23, 24, 25] by kernel_rfl]
  simp only [fC, fN, sA, sS, sZ, dS, dZ]
  rw [show gv 23 = .pointer (some ⟨p, 2, none⟩) from hV 2 23 (by kernel_rfl)]
  rw [show gv 24 = .int .i64 t from hV 3 24 (by kernel_rfl)]
  rw [show gv 25 = .int .i64 i from hV 4 25 (by kernel_rfl)]
  clear hV
  refine l_call (o := ⟨some 26, _, _, _, _, _⟩) 52 #[.pointer (some ⟨p, 2, none⟩), .int .i64 t, .int .i64 i] rfl (exec_call 52 _ [.tmp 23, .tmp 24, .tmp 25] _ _ Try.func52 (by kernel_rfl) (by kernel_rfl) rfl (by kernel_rfl) _) ?_
  refine (lremove_any w6 F p B 2 t i (HK5.out.kept k6) (.inr rfl) (HI.out.ok 2)).mono ?_
  rintro r w7 ⟨F2, rfl, h2, g2, q2, n2⟩
  have es : B.sd 2 = B.sells := rfl
  rw [es] at h2 n2 ⊢
  rw [Bok.to2] at h2
  refine ⟨.tuple #[e2.v, .bool b], by rw [HBB.out, HEE.out], ?_⟩
  rw [HBB.out] at n2
  simp only [Act.put, sA, sS, sZ]
  refine l_val (o := ⟨some 27, _, _, _, _, _⟩) (e2.v) rfl (exec_extract (.tmp 26) [e2.v, .bool b] 0 (e2.v) rfl (by kernel_rfl) rfl) ?_
  simp only [Act.put, sA, sS, sZ]
  refine l_val (o := ⟨some 28, _, _, _, _, _⟩) (.bool b) rfl (exec_extract (.tmp 26) [e2.v, .bool b] 1 (.bool b) rfl (by kernel_rfl) rfl) ?_
  simp only [Act.put, sA, sS, sZ]
  refine l_setS (o := ⟨none, _, _, _, _, _⟩) 25 b6 25 zeroO.cells e2.cells (.tmp 6) (.tmp 27) rfl rfl (by kernel_rfl) (by kernel_rfl) ((HB65.out.kept k6).keep q2 h6F) (by rw [Ord.len9]; exact ord_size) (by rw [Ord.len9, Ord.len9]) (Ord.one1 _) ?_
  intro w8 hB8 hk8 hs8
  simp only [Act.put]
  refine l_val (o := ⟨some 7, _, _, _, _, _⟩) (.bool b) rfl (exec_assign (.tmp 28) (.bool b) rfl (by kernel_rfl)) ?_
  simp only [Act.put, sA, sS, sZ]
  refine wpList_nil ?_
  have HR : Hid (B.remove t i = (if b = true then (e2, true, { B with sells := (removeL t i B.sells).2.2 }) else (zeroO, false, B))) := by
   show _ = _
   unfold Bok.remove
   rw [if_neg (by rw [HB.out]; simp), HBB.out, HEE.out]
  have z6 := k6.size
  have h6F2 : ¬ F2 b6 := fun h => (g2 b6 h).elim h6F (fun h => by omega)
  have KW := (k0.trans kk).trans k6
  have GG : Grow w F F2 := g2.wide KW.size
  have k9 : Keep F w w8 := (Keep.any KW q2).trans hk8 (fun b hb h => by subst h; omega)
  have h9 := Lib.hid (h2.keep hk8 (fun b hb h => h6F2 (by subst h; exact hb)))
  have N2 := Lib.hid n2
  have HK6 := Lib.hid (HK.out.kept KW)
  have hk8' := hk8
  clear h2 n2 q2 g2
  have hw : b = false → removeL t i B.sells = (zeroO, false, B.sells) := fun hb => by
   have h0 := HBB.out
   rw [hb] at h0
   obtain ⟨a1, a2, _⟩ := (remove_facts t i B.sells HI.out.two.theirs).no h0
   exact Prod.ext a2 (Prod.ext h0 a1)
  have HW := Lib.hid hw
  clear hw
  go_wp2
  refine bodyPost_ret (results_cell2 (p := 6) (q := 7) rfl _ _ b6 _ e2.cells b rfl rfl hB8 Try.underlying25 (by rw [Ord.len9]; exact ord_size)) rfl ?_
  rw [HR.out]
  cases b with
  | true => first | exact ⟨rfl, F2, h9.out, GG, k9⟩ | exact ⟨F2, rfl, h9.out, GG, k9⟩
  | false =>
   have h0 := HW.out rfl
   have he2 : e2 = zeroO := by rw [← HEE.out, h0]
   have h9' := h9.out
   rw [h0] at h9'
   subst he2
   first | exact ⟨rfl, F2, h9', GG, k9⟩ | exact ⟨F2, rfl, h9', GG, k9⟩
end Go.Proofs.Ytfpfpmhkkgfdbaa
namespace Go.Proofs.Ytfpfpmhkkgfdbaa
open Go.RowKit
set_option maxRecDepth 100000
section
variable {P : Program} {ops : Array Oper} {Q : Exit → Act → World → Prop} {V : List Kn} {n m m2 : Nat} {a0 : Act} {w0 : World} {S S2 : Nat → Prop}
def Both (S S2 : Nat → Prop) : Nat → Prop := fun b => S b ∨ S2 b
theorem Keep.both1 {a b : World} (h : Keep S a b) : Keep (Both S S2) a b := h.mono fun _ _ h => .inl h
theorem Keep.both2 {a b : World} (h : Keep S2 a b) : Keep (Both S S2) a b := h.mono fun _ _ h => .inr h
end
end Go.Proofs.Ytfpfpmhkkgfdbaa
namespace Go.Proofs.Ytfpfpmhkkgfdbaa
open Go.RowKit
set_option maxRecDepth 100000
theorem add_frame {wa wb wc wd we : World} {F F' : Nat → Prop} {p n : Nat} {B' : Bok} {v : Value} {cs : List Value} {T : TypeId} {k : Nat} (k1 : Kept wa wb) (hB : Bk wc F' p B') (hS : Sl wc T k v n cs) (hO : ∀ b, v.ownBlock = some b → wb.heap.size ≤ b ∧ ¬ F' b) (hG : Grow wb F F') (hk : Keep F wb wc) (k2 : Kept wc wd) (hk3 : Keep (· = wc.heap.size) wd we) :
  Keep F wa we ∧ Bk we F' p B' ∧ Sl we T k v n cs ∧ (∀ b, v.ownBlock = some b → wa.heap.size ≤ b ∧ ¬ F' b ∧ b < wc.heap.size) ∧ Grow wa F F' ∧ (∀ b, F' b → b < wc.heap.size) ∧ wa.heap.size ≤ wc.heap.size := by
 have z1 := k1.size
 have z2 := hk.size
 have K : Keep (· = wc.heap.size) wc we := Keep.any k2 hk3
 refine ⟨(Keep.any k1 hk).new K (by omega), hB.keep K (fun b hb e => ?_), hS.keep K (fun b hb e => ?_), fun b hb => ⟨?_, (hO b hb).2, hS.lt hb⟩, hG.wide z1, hB.lt, by omega⟩
 ·have := hB.lt b hb; omega
 ·have := hS.lt hb; omega
 ·have := (hO b hb).1; omega
def Kn.add (base : Nat) (F : Nat → Prop) (p : Nat) (x : Oc × Bok) : Kn := ⟨fun rv w => ∃ F' v, rv = x.1.v v ∧ Bk w F' p x.2 ∧ Sl w 36 21 v x.1.f.length (fls x.1.f) ∧ (∀ b, v.ownBlock = some b → base ≤ b ∧ ¬ F' b) ∧ ∀ b, F' b → F b ∨ base ≤ b, fun _ _ _ ⟨F', v, h1, h2, h3, h4, h5⟩ hk => ⟨F', v, h1, h2.kept hk, h3.kept hk, h4, h5⟩⟩
def Kn.two (base : Nat) (F G : Nat → Prop) (p r : Nat) (x y : Oc × Bok) : Kn := ⟨fun rv w => ∃ F' G' v, rv = y.1.v v ∧ Bk w F' p x.2 ∧ Bk w G' r y.2 ∧ Sl w 36 21 v y.1.f.length (fls y.1.f) ∧ (∀ b, v.ownBlock = some b → base ≤ b ∧ ¬ G' b ∧ ¬ F' b) ∧ (∀ b, F' b → F b ∨ base ≤ b) ∧ (∀ b, G' b → G b ∨ base ≤ b) ∧ ∀ b, F' b → ¬ G' b,
 fun _ _ _ ⟨F', G', v, h1, h2, h3, h4, h5⟩ hk => ⟨F', G', v, h1, h2.kept hk, h3.kept hk, h4.kept hk, h5⟩⟩
end Go.Proofs.Ytfpfpmhkkgfdbaa
namespace Go.Proofs.Ytfpfpmhkkgfdbaa
open Go.RowKit
set_option maxRecDepth 100000
def wi (n lo hi : Int) : Int := lo + n % (hi - lo + 1)
theorem wi_in (n lo hi : Int) (h : lo ≤ hi) : lo ≤ wi n lo hi ∧ wi n lo hi ≤ hi := by
 unfold wi
 have p := Int.emod_nonneg n (show hi - lo + 1 ≠ 0 by omega)
 have q := Int.emod_lt_of_pos n (show 0 < hi - lo + 1 by omega)
 omega
theorem within_is (n lo hi : Int) (w : World) (h0 : 0 ≤ lo) (h1 : lo ≤ hi) (h2 : hi ≤ 1099511627776) : Gives 38 #[.int .i64 n, .int .i64 lo, .int .i64 hi] w (.eq (.int .i64 (wi n lo hi))) :=
 gives_eq ((within_any n lo hi w h0 h1 h2).mono fun e w' ⟨he, hw⟩ => ⟨he, by subst hw; exact Kept.refl _⟩)
end Go.Proofs.Ytfpfpmhkkgfdbaa
namespace Go.Proofs.Ytfpfpmhkkgfdbaa
open Go.RowKit
set_option maxRecDepth 100000
section
variable {P : Program} {ops : Array Oper} {Q : Exit → Act → World → Prop} {V : (Nat → Prop) → List Kn} {n m m2 x y : Nat} {a0 : Act} {w0 : World} {S S2 : Nat → Prop}
def avd (ops : Array Oper) (x y : Nat) (ls : Array Bool) (a : Act) : Nat → Prop := fun b => (ls.getD x false = true ∧ ∃ d, dstOf ops x = some d ∧ a.tmps.getD d undef = .pointer (some ⟨b, 0, none⟩)) ∨ (ls.getD y false = true ∧ ∃ d, dstOf ops y = some d ∧ a.tmps.getD d undef = .pointer (some ⟨b, 0, none⟩))
structure NInv (ops : Array Oper) (V : (Nat → Prop) → List Kn) (n m m2 x y : Nat) (a0 : Act) (w0 : World) (S S2 : Nat → Prop) (ls : Array Bool) (a : Act) (w : World) : Prop where
 head : HeadInv .any ops n ls
 defers : a.defers = a0.defers
 size : a.tmps.size = a0.tmps.size
 env : ∀ t, (∀ i, i < n → ls.getD i false = true → dstOf ops i ≠ some t) → a.tmps[t]? = a0.tmps[t]?
 vals : ∀ i d, i < n → ls.getD i false = true → dstOf ops i = some d → (knOf (V (avd ops x y ls a)) i).p (a.tmps.getD d undef) w
 keep : Keep (Both S S2) w0 w
 kept : ls.getD m false = false → Kept w0 w
 kept2 : ls.getD m2 false = false → Keep S w0 w
 unl : ls.getD x false = true → ls.getD y false = true → ∀ d e, dstOf ops x = some d → dstOf ops y = some e → a.tmps.getD d undef ≠ a.tmps.getD e undef
def NStep (P : Program) (ops : Array Oper) (Q : Exit → Act → World → Prop) (V : (Nat → Prop) → List Kn) (n : Nat) (a0 : Act) (w0 : World) (S : Nat → Prop) (i : Nat) (K : Kn) : Prop :=
 ∀ Av a w, FEnv ops n a0 a → FDep ops (V Av) i a w → Keep S w0 w → wpOp P ops Q i (fun a' w' => ∃ v, a' = a.put (dstOf ops i) v ∧ K.p v w' ∧ Kept w w' ∧ v = .pointer (some ⟨w.heap.size, 0, none⟩)) a w
def Kn.old (base : Nat) (K : Kn) : Prop := ∀ v w, K.p v w → ∃ g, v = .pointer (some ⟨g, 0, none⟩) ∧ base ≤ g ∧ g < w.heap.size
theorem Kn.old_fresh {base : Nat} {T : TypeId} {z : List Value} : (Kn.fresh base T z).old base := fun v w ⟨g, h1, h2, h3⟩ => ⟨g, h1, h2, h3.lt⟩
theorem n_new {i : Nat} {K : Kn} {a : Act} {w : World} {o : Oper} (v : Value) (w' : World) (ho : ops[i]? = some o) (hw : Region.wanted o (yielded ops a.tmps) = true) (h : (execOp a.eval o).run P w = .ok (.value v) w') (hK : K.p v w') (hk : Kept w w') (he : v = .pointer (some ⟨w.heap.size, 0, none⟩)) : wpOp P ops Q i (fun a' w' => ∃ v, a' = a.put (dstOf ops i) v ∧ K.p v w' ∧ Kept w w' ∧ v = .pointer (some ⟨w.heap.size, 0, none⟩)) a w := by
 unfold wpOp
 simp only [ho, hw, if_true]
 refine .inl ?_
 unfold Oper.wp
 rw [h]
 exact ⟨v, by simp [dstOf, ho], hK, hk, he⟩
def NTurn (P : Program) (ops : Array Oper) (Q : Exit → Act → World → Prop) (V : (Nat → Prop) → List Kn) (n : Nat) (a0 : Act) (w0 : World) (S S2 : Nat → Prop) (m : Nat) : Prop :=
 ∀ Av a w, FEnv ops n a0 a → FDep ops (V Av) m a w → Keep S w0 w → (∀ b, Av b → w0.heap.size ≤ b ∧ b < w.heap.size) → wpOp P ops Q m (fun a' w' => ∃ v, a' = a.put (dstOf ops m) v ∧ (knOf (V Av) m).p v w' ∧ Keep S2 w w') a w
def NSteps (P : Program) (ops : Array Oper) (Q : Exit → Act → World → Prop) (V : List Kn) (n m m2 x y : Nat) (a0 : Act) (w0 : World) (S : Nat → Prop) : Nat → List Kn → Prop
 | _, [] => True
 | i, K :: Ks => (i ≠ m → i ≠ m2 → i ≠ x → i ≠ y → VStep P ops Q V n a0 w0 S i K) ∧ NSteps P ops Q V n m m2 x y a0 w0 S (i + 1) Ks
theorem nsteps_nil {VV : List Kn} {i : Nat} : NSteps P ops Q VV n m m2 x y a0 w0 S i [] := trivial
theorem nsteps_cons {VV : List Kn} {i : Nat} (j : Nat) {K : Kn} {Ks : List Kn} (hj : j = i + 1) (h : VStep P ops Q VV n a0 w0 S i K) (hr : NSteps P ops Q VV n m m2 x y a0 w0 S j Ks) : NSteps P ops Q VV n m m2 x y a0 w0 S i (K :: Ks) := ⟨fun _ _ _ _ => h, by subst hj; exact hr⟩
theorem nsteps_turn {VV : List Kn} {i : Nat} (j : Nat) {K : Kn} {Ks : List Kn} (hj : j = i + 1) (hm : i = m ∨ i = m2 ∨ i = x ∨ i = y) (hr : NSteps P ops Q VV n m m2 x y a0 w0 S j Ks) : NSteps P ops Q VV n m m2 x y a0 w0 S i (K :: Ks) := ⟨fun h h2 h3 h4 => (by rcases hm with h' | h' | h' | h' <;> contradiction), by subst hj; exact hr⟩
theorem nsteps_at {VV : List Kn} : ∀ (Ks : List Kn) (i : Nat), NSteps P ops Q VV n m m2 x y a0 w0 S i Ks → ∀ k K, Ks[k]? = some K → i + k ≠ m → i + k ≠ m2 → i + k ≠ x → i + k ≠ y → VStep P ops Q VV n a0 w0 S (i + k) K
 | [], _, _, k, K, h, _, _, _, _ => by simp at h
 | K0 :: Ks, i, h, 0, K, hk, hm, hm2, hx, hy => by simp at hk; subst hk; exact h.1 hm hm2 hx hy
 | K0 :: Ks, i, h, k + 1, K, hk, hm, hm2, hx, hy => by
  have := nsteps_at Ks (i + 1) h.2 k K (by simpa using hk) (by omega) (by omega) (by omega) (by omega)
  rw [show i + (k + 1) = i + 1 + k by omega]
  exact this
theorem freeN_go (early early2 : List Nat) (hxn : x < n) (hyn : y < n) (hxy : x ≠ y) (hxm : x ≠ m ∧ x ≠ m2) (hym : y ≠ m ∧ y ≠ m2) (hxo : ∀ Av, (knOf (V Av) x).old w0.heap.size) (hyo : ∀ Av, (knOf (V Av) y).old w0.heap.size) (hgr : ∀ Av g j v w, j < n → (knOf (V Av) j).p v w → g = w.heap.size → (knOf (V fun b => Av b ∨ b = g) j).p v w) (Kx Ky : Kn) (hKx : ∀ Av, knOf (V Av) x = Kx) (hKy : ∀ Av, knOf (V Av) y = Ky) (hxs : NStep P ops Q V n a0 w0 (Both S S2) x Kx) (hys : NStep P ops Q V n a0 w0 (Both S S2) y Ky) (hnV : ∀ Av, (V Av).length = n) (hmn : m < n) (hmn2 : m2 < n) (hmm : m ≠ m2) (hwt : Region.waitsFor .any ops m2 m = true) (hB : freeB ops n a0.tmps.size = true) (hL : lateB ops n m early = true) (hL2 : lateB ops n m2 early2 = true) (hsafe : ∀ Av i, i ∈ early → (knOf (V Av) i).safe S) (hsafe2 : ∀ Av i, i ∈ early2 → (∀ b, Av b → w0.heap.size ≤ b) → (knOf (V Av) i).safe S2) (hst : ∀ Av i K, (V Av)[i]? = some K → i ≠ m → i ≠ m2 → i ≠ x → i ≠ y → VStep P ops Q (V Av) n a0 w0 (Both S S2) i K) (htn : NTurn P ops Q V n a0 w0 (fun _ => False) S m) (htn2 : NTurn P ops Q V n a0 w0 S S2 m2)
  (hfin : ∀ a w, NInv ops V n m m2 x y a0 w0 S S2 (Array.replicate n true ++ Array.replicate (ops.size - n) false) a w → wpAny P .any ops Q (ops.size - n) (Array.replicate n true ++ Array.replicate (ops.size - n) false) a w) :
  ∀ (f : Nat) (U : List Nat) (ls : Array Bool) (a : Act) (w : World), U.length = f → U.Nodup → (∀ i, i ∈ U ↔ i < n ∧ ls.getD i true = false) → NInv ops V n m m2 x y a0 w0 S S2 ls a w → wpAny P .any ops Q (f + (ops.size - n)) ls a w := by
 obtain ⟨hn, hsc, hseq, hall⟩ := freeB_facts hB
 have hop : ∀ i, i < n → ∃ o d, ops[i]? = some o ∧ o.dst = some d ∧ d < a0.tmps.size ∧ (∀ j, j < i → dstOf ops j ≠ some d) ∧ ∀ e ∈ o.after, Region.binds .any e = true → e.on < i := by
  intro i hi
  have h := List.all_eq_true.1 hall i (by simpa using hi)
  cases ho : ops[i]? with
  | none => rw [ho] at h; cases h
  | some o =>
   rw [ho] at h
   simp only [Bool.and_eq_true] at h
   cases hd : o.dst with
   | none => rw [hd] at h; cases h.1
   | some d =>
    rw [hd] at h
    simp only [Bool.and_eq_true, decide_eq_true_eq, List.all_eq_true, List.mem_range, bne_iff_ne] at h
    refine ⟨o, d, rfl, hd, h.1.1, h.1.2, fun e he hb => ?_⟩
    have h2 := (Array.all_eq_true_iff_forall_mem.1 h.2) e he
    simpa [hb] using h2
 intro f
 induction f with
 | zero =>
  intro U ls a w hU _ hmem inv
  have hnil : U = [] := List.eq_nil_of_length_eq_zero hU
  have hls : ls = Array.replicate n true ++ Array.replicate (ops.size - n) false := by
   apply Array.ext
   ·simp [inv.head.size]; omega
   ·intro i h1 h2
    have hsz := inv.head.size
    by_cases hi : i < n
    ·have h3 : ¬ (i < n ∧ ls.getD i true = false) := by
      intro h
      have := (hmem i).2 h
      rw [hnil] at this
      cases this
     have h4 : ls.getD i true = true := by
      cases hq : ls.getD i true with
      | true => rfl
      | false => exact (h3 ⟨hi, hq⟩).elim
     rw [Array.getElem_append_left (by simpa using hi)]
     simp [h1] at h4
     simp [h4]
    ·have h4 := inv.head.tail i (by omega) (by omega)
     rw [Array.getElem_append_right (by simpa using hi)]
     simp [h1] at h4
     simp [h4]
  rw [Nat.zero_add]
  subst hls
  exact hfin a w inv
 | succ f ih =>
  intro U ls a w hU hnd hmem inv
  have hsz := inv.head.size
  rw [show f + 1 + (ops.size - n) = (f + (ops.size - n)) + 1 by omega]
  obtain ⟨u, hu⟩ : ∃ u, u ∈ U := by
   cases U with
   | nil => simp at hU
   | cons u U => exact ⟨u, by simp⟩
  obtain ⟨hun, huf⟩ := (hmem u).1 hu
  refine ⟨fun h0 => ?_, fun i hi => ?_⟩
  ·exfalso
   have key : ∀ k i, i ≤ k → i < n → ls.getD i true = true := by
    intro k
    induction k using Nat.strongRecOn with
    | _ k ihk =>
     intro i hik hin
     cases hq : ls.getD i true with
     | true => rfl
     | false =>
      obtain ⟨o, d, ho, _, _, _, haft⟩ := hop i hin
      have : i ∈ Region.ready .any ops ls := mem_ready.2 ⟨hq, o, ho, fun e he hb => by
       have hlt := haft e he hb
       have := ihk (k - 1) (by omega) e.on (by omega) (by omega)
       exact getD_tf this (by omega)⟩
      rw [h0] at this
      cases this
   rw [key u u (Nat.le_refl _) hun] at huf
   cases huf
  ·have hin : i < n := Nat.lt_of_not_le fun h => tail_waits (hsc (Nat.lt_of_le_of_lt h (by obtain ⟨_, o1, ho1, _⟩ := mem_ready.1 hi; exact (Array.getElem?_eq_some_iff.1 ho1).1))).1 (hsc (Nat.lt_of_le_of_lt h (by obtain ⟨_, o1, ho1, _⟩ := mem_ready.1 hi; exact (Array.getElem?_eq_some_iff.1 ho1).1))).2 (Nat.lt_of_le_of_lt h (by obtain ⟨_, o1, ho1, _⟩ := mem_ready.1 hi; exact (Array.getElem?_eq_some_iff.1 ho1).1)) inv.head _ u rfl hun huf i h hi
   obtain ⟨hiun, oi, hoi, hdeps⟩ := mem_ready.1 hi
   obtain ⟨o, d, ho, hd, hdlt, hne, haft⟩ := hop i hin
   obtain rfl : oi = o := Option.some.inj (hoi.symm.trans ho)
   have hdi : dstOf ops i = some d := by simp [dstOf, ho, hd]
   have hiff : ls.getD i false = false := getD_both hiun
   have hne' : ∀ j, j < n → j ≠ i → dstOf ops j ≠ some d := by
    intro j hj hij hjd
    by_cases hji : j < i
    ·exact hne j hji hjd
    ·obtain ⟨oj, dj, hoj, hdj, _, hnej, _⟩ := hop j hj
     have : dj = d := by
      have h1 : dstOf ops j = some dj := by simp [dstOf, hoj, hdj]
      rw [h1] at hjd
      injection hjd
     subst this
     exact hnej i (by omega) hdi
   have hdlt' : d < a.tmps.size := by rw [inv.size]; exact hdlt
   have hself : ∀ v, (a.put (some d) v).tmps.getD d undef = v := fun v => by simp [Act.put, hdlt']
   have hoth : ∀ v j e, j < n → j ≠ i → dstOf ops j = some e → (a.put (some d) v).tmps.getD e undef = a.tmps.getD e undef := by
    intro v j e hj hji he
    have : d ≠ e := fun h => hne' j hj hji (by rw [he, h])
    simp only [Act.put, Array.getD_eq_getD_getElem?, slot_set]
    rw [if_neg (fun h => this h.1)]
   have hfe : FEnv ops n a0 a := by
    intro t v ht hv
    have ht' : ∀ k, k < n → ls.getD k false = true → dstOf ops k ≠ some t := fun k hkn _ => by simpa using List.all_eq_true.1 ht k (by simpa using hkn)
    have h1 := inv.env t ht'
    rw [← hv]
    simp only [Act.eval, Array.getD_eq_getD_getElem?, h1]
   have hU' : ∀ k, k ∈ U.erase i ↔ k < n ∧ (ls.setIfInBounds i true).getD k true = false := by
    intro k
    rw [hnd.mem_erase_iff, hmem k]
    by_cases hki : k = i
    ·subst hki
     simp
    ·rw [getD_set_ne true (fun h => hki h.symm)]
     simp [hki]
   have henv : ∀ v t, (∀ k, k < n → (ls.setIfInBounds i true).getD k false = true → dstOf ops k ≠ some t) → (a.put (some d) v).tmps[t]? = a0.tmps[t]? := by
    intro v t ht
    have h1 := inv.env t (fun k hkn hl => ht k hkn (getD_set_true hl))
    have h2 : d ≠ t := fun h => ht i hin (by simp [show i < ls.size by omega]) (by rw [hdi, h])
    simp only [Act.put, slot_set]
    rw [if_neg (fun h => h2 h.1), h1]
   have hlen : (U.erase i).length = f := by rw [List.length_erase_of_mem ((hmem i).2 ⟨hin, hiun⟩)]; omega
   have hsetk : ∀ k, k ≠ i → (ls.setIfInBounds i true).getD k false = ls.getD k false := fun k hk => getD_set_ne false (fun h => hk h.symm)
   have hseti : (ls.setIfInBounds i true).getD i false = true := by simp [show i < ls.size by omega]
   obtain ⟨Av, hAv⟩ : ∃ A, avd ops x y ls a = A := ⟨_, rfl⟩
   have hvals := inv.vals
   rw [hAv] at hvals
   have hAvb : ∀ b, Av b → w0.heap.size ≤ b ∧ b < w.heap.size := by
    intro b hb
    rw [← hAv] at hb
    rcases hb with ⟨h1, d', h2, h3⟩ | ⟨h1, d', h2, h3⟩
    ·obtain ⟨g, h4, h5, h6⟩ := hxo _ _ _ (hvals x d' hxn h1 h2)
     rw [h3] at h4
     injection h4 with h4
     injection h4 with h4
     injection h4 with h4
     omega
    ·obtain ⟨g, h4, h5, h6⟩ := hyo _ _ _ (hvals y d' hyn h1 h2)
     rw [h3] at h4
     injection h4 with h4
     injection h4 with h4
     injection h4 with h4
     omega
   have hsame : ∀ v, i ≠ x → i ≠ y → avd ops x y (ls.setIfInBounds i true) (a.put (some d) v) = Av := by
    intro v hix hiy
    rw [← hAv]
    funext b
    apply propext
    unfold avd
    rw [hsetk x (fun h => hix h.symm), hsetk y (fun h => hiy h.symm)]
    constructor
    ·rintro (⟨h1, d', h2, h3⟩ | ⟨h1, d', h2, h3⟩)
     ·exact .inl ⟨h1, d', h2, by rw [hoth v x d' hxn (fun h => hix h.symm) h2] at h3; exact h3⟩
     ·exact .inr ⟨h1, d', h2, by rw [hoth v y d' hyn (fun h => hiy h.symm) h2] at h3; exact h3⟩
    ·rintro (⟨h1, d', h2, h3⟩ | ⟨h1, d', h2, h3⟩)
     ·exact .inl ⟨h1, d', h2, by rw [hoth v x d' hxn (fun h => hix h.symm) h2]; exact h3⟩
     ·exact .inr ⟨h1, d', h2, by rw [hoth v y d' hyn (fun h => hiy h.symm) h2]; exact h3⟩
   have hdep : FDep ops (V Av) i a w := by
    intro j e hje
    simp only [Bool.and_eq_true, beq_iff_eq, ho, Option.map_some, Option.some.injEq, Array.any_eq_true'] at hje
    obtain ⟨⟨e0, hx, hxb, hxj⟩, hdj⟩ := hje
    subst hxj
    exact hvals e0.on e (by have := haft e0 hx hxb; omega) (hdeps e0 hx hxb) hdj
   have hK : (V Av)[i]? = some (knOf (V Av) i) := by
    unfold knOf
    rw [List.getD_eq_getElem?_getD, List.getElem?_eq_getElem (by rw [hnV]; exact hin)]
    rfl
   have hunl : ∀ v, i ≠ x → i ≠ y → (ls.setIfInBounds i true).getD x false = true → (ls.setIfInBounds i true).getD y false = true → ∀ d' e, dstOf ops x = some d' → dstOf ops y = some e → (a.put (some d) v).tmps.getD d' undef ≠ (a.put (some d) v).tmps.getD e undef := by
    intro v hix hiy h1 h2 d' e h3 h4
    rw [hsetk x (fun h => hix h.symm)] at h1
    rw [hsetk y (fun h => hiy h.symm)] at h2
    rw [hoth v x d' hxn (fun h => hix h.symm) h3, hoth v y e hyn (fun h => hiy h.symm) h4]
    exact inv.unl h1 h2 d' e h3 h4
   by_cases him : i = m
   ·subst him
    have hk := inv.kept hiff
    have hlate : ∀ j, j < n → ls.getD j false = true → j ∈ early := by
     intro j
     induction j using Nat.strongRecOn with
     | _ j ihj =>
      intro hj hlj
      have h := List.all_eq_true.1 hL j (by simpa using hj)
      simp only [Bool.or_eq_true, beq_iff_eq, List.any_eq_true, List.mem_range, Bool.and_eq_true, Bool.not_eq_true', List.contains_iff_mem] at h
      rcases h with (h | h) | ⟨q, hq1, hq2, hq3⟩
      ·subst h
       rw [hiff] at hlj
       cases hlj
      ·exact h
      ·exfalso
       obtain ⟨oj, dj, hoj, _, _, _, _⟩ := hop j hj
       obtain ⟨e, he, hb, heq⟩ := waits_on hq3 hoj
       have hlq := inv.head.closed j oj hoj hlj e he hb
       rw [heq] at hlq
       rcases hq2 with h | h
       ·subst h
        rw [hiff] at hlq
        cases hlq
       ·have := ihj q hq1 (by omega) hlq
        have h' : early.contains q = true := by simpa using this
        rw [h'] at h
        cases h
    refine wpOp_mono ?_ (htn Av a w hfe hdep hk hAvb)
    rintro a' w' ⟨v, rfl, hKp, hkS⟩
    rw [hdi]
    refine ih (U.erase i) _ _ w' hlen (hnd.erase _) hU' ⟨inv.head.set hi hin, inv.defers, by simp [Act.put, inv.size], henv v, fun k e hkn hlk he => ?_, inv.keep.trans hkS.both1 (fun _ _ h => h), fun hl => ?_, fun hl => ?_, hunl v (fun h => hxm.1 h.symm) (fun h => hym.1 h.symm)⟩
    ·rw [hsame v (fun h => hxm.1 h.symm) (fun h => hym.1 h.symm)]
     by_cases hki : k = i
     ·subst hki
      rw [hdi] at he
      injection he with he
      subst he
      rw [hself]
      exact hKp
     ·rw [hsetk k hki] at hlk
      rw [hoth v k e hkn hki he]
      exact hsafe _ k (hlate k hkn hlk) _ _ _ (hvals k e hkn hlk he) hkS
    ·rw [hseti] at hl
     cases hl
    ·exact (inv.kept2 (by rwa [hsetk m2 (fun h => hmm h.symm)] at hl)).trans hkS (fun _ _ h => h)
   ·by_cases him2 : i = m2
    ·subst him2
     have hk := inv.kept2 hiff
     have hlate : ∀ j, j < n → ls.getD j false = true → j ∈ early2 := by
      intro j
      induction j using Nat.strongRecOn with
      | _ j ihj =>
       intro hj hlj
       have h := List.all_eq_true.1 hL2 j (by simpa using hj)
       simp only [Bool.or_eq_true, beq_iff_eq, List.any_eq_true, List.mem_range, Bool.and_eq_true, Bool.not_eq_true', List.contains_iff_mem] at h
       rcases h with (h | h) | ⟨q, hq1, hq2, hq3⟩
       ·subst h
        rw [hiff] at hlj
        cases hlj
       ·exact h
       ·exfalso
        obtain ⟨oj, dj, hoj, _, _, _, _⟩ := hop j hj
        obtain ⟨e, he, hb, heq⟩ := waits_on hq3 hoj
        have hlq := inv.head.closed j oj hoj hlj e he hb
        rw [heq] at hlq
        rcases hq2 with h | h
        ·subst h
         rw [hiff] at hlq
         cases hlq
        ·have := ihj q hq1 (by omega) hlq
         have h' : early2.contains q = true := by simpa using this
         rw [h'] at h
         cases h
     refine wpOp_mono ?_ (htn2 Av a w hfe hdep hk hAvb)
     rintro a' w' ⟨v, rfl, hKp, hkS⟩
     rw [hdi]
     refine ih (U.erase i) _ _ w' hlen (hnd.erase _) hU' ⟨inv.head.set hi hin, inv.defers, by simp [Act.put, inv.size], henv v, fun k e hkn hlk he => ?_, inv.keep.trans hkS.both2 (fun _ _ h => h), fun hl => ?_, fun hl => ?_, hunl v (fun h => hxm.2 h.symm) (fun h => hym.2 h.symm)⟩
     ·rw [hsame v (fun h => hxm.2 h.symm) (fun h => hym.2 h.symm)]
      by_cases hki : k = i
      ·subst hki
       rw [hdi] at he
       injection he with he
       subst he
       rw [hself]
       exact hKp
      ·rw [hsetk k hki] at hlk
       rw [hoth v k e hkn hki he]
       exact hsafe2 _ k (hlate k hkn hlk) (fun b hb => (hAvb b hb).1) _ _ _ (hvals k e hkn hlk he) hkS
     ·rw [hsetk m (fun h => hmm h)] at hl
      exfalso
      obtain ⟨o2, d2, ho2, _, _, _, _⟩ := hop i hin
      obtain ⟨e, he, hb, heq⟩ := waits_on hwt ho2
      have := inv.head.closed
      obtain rfl : oi = o2 := Option.some.inj (ho.symm.trans ho2)
      have hdm := hdeps e he hb
      rw [heq, hl] at hdm
      cases hdm
     ·rw [hseti] at hl
      cases hl
    ·have hall2 : ∀ v w', (knOf (V (avd ops x y (ls.setIfInBounds i true) (a.put (some d) v))) i).p v w' → Kept w w' → (∀ k e, k < n → k ≠ i → ls.getD k false = true → dstOf ops k = some e → (knOf (V (avd ops x y (ls.setIfInBounds i true) (a.put (some d) v))) k).p (a.tmps.getD e undef) w) → ((ls.setIfInBounds i true).getD x false = true → (ls.setIfInBounds i true).getD y false = true → ∀ d' e, dstOf ops x = some d' → dstOf ops y = some e → (a.put (some d) v).tmps.getD d' undef ≠ (a.put (some d) v).tmps.getD e undef) → wpAny P .any ops Q (f + (ops.size - n)) (ls.setIfInBounds i true) (a.put (some d) v) w' := by
      intro v w' hv hk hold hu
      refine ih (U.erase i) _ _ w' hlen (hnd.erase _) hU' ⟨inv.head.set hi hin, inv.defers, by simp [Act.put, inv.size], henv v, fun k e hkn hlk he => ?_, inv.keep.kept hk, fun hl => ?_, fun hl => ?_, hu⟩
      ·by_cases hki : k = i
       ·subst hki
        rw [hdi] at he
        injection he with he
        subst he
        rw [hself]
        exact hv
       ·rw [hsetk k hki] at hlk
        rw [hoth v k e hkn hki he]
        exact (knOf _ k).st _ _ _ (hold k e hkn hki hlk he) hk
      ·rw [hsetk m (fun h => him h.symm)] at hl
       exact (inv.kept hl).trans hk
      ·rw [hsetk m2 (fun h => him2 h.symm)] at hl
       exact (inv.kept2 hl).kept hk
     have ptr_inj : ∀ b c : Nat, (Value.pointer (some ⟨b, 0, none⟩) = Value.pointer (some ⟨c, 0, none⟩)) → b = c := by
      intro b c h
      injection h with h
      injection h with h
      injection h
     by_cases hix : i = x
     ·subst hix
      refine wpOp_mono ?_ (hxs Av a w hfe hdep inv.keep)
      rintro a' w' ⟨v, rfl, hv, hk, hev⟩
      rw [hdi]
      have hnew : avd ops i y (ls.setIfInBounds i true) (a.put (some d) v) = fun b => Av b ∨ b = w.heap.size := by
       rw [← hAv]
       funext b
       apply propext
       unfold avd
       rw [hseti, hsetk y (fun h => hxy h.symm), hiff]
       constructor
       ·rintro (⟨h1, d', h2, h3⟩ | ⟨h1, d', h2, h3⟩)
        ·rw [hdi] at h2
         injection h2 with h2
         subst h2
         rw [hself, hev] at h3
         exact .inr (ptr_inj _ _ h3).symm
        ·exact .inl (.inr ⟨h1, d', h2, by rw [hoth v y d' hyn (fun h => hxy h.symm) h2] at h3; exact h3⟩)
       ·rintro ((⟨h1, _⟩ | ⟨h1, d', h2, h3⟩) | h)
        ·cases h1
        ·exact .inr ⟨h1, d', h2, by rw [hoth v y d' hyn (fun h => hxy h.symm) h2]; exact h3⟩
        ·exact .inl ⟨rfl, d, hdi, by rw [hself, hev, h]⟩
      refine hall2 v w' (by rw [hKx]; exact hv) hk (fun k e hkn _ hlk he => by rw [hnew]; exact hgr Av _ k _ _ hkn (hvals k e hkn hlk he) rfl) fun _ h2 d' e h3 h4 => ?_
      rw [hsetk y (fun h => hxy h.symm)] at h2
      obtain ⟨g, h5, _, h6⟩ := hyo _ _ _ (hvals y e hyn h2 h4)
      rw [hdi] at h3
      injection h3 with h3
      subst h3
      rw [hself, hoth v y e hyn (fun h => hxy h.symm) h4, h5, hev]
      intro h7
      have := ptr_inj _ _ h7
      omega
     ·by_cases hiy : i = y
      ·subst hiy
       refine wpOp_mono ?_ (hys Av a w hfe hdep inv.keep)
       rintro a' w' ⟨v, rfl, hv, hk, hev⟩
       rw [hdi]
       have hnew : avd ops x i (ls.setIfInBounds i true) (a.put (some d) v) = fun b => Av b ∨ b = w.heap.size := by
        rw [← hAv]
        funext b
        apply propext
        unfold avd
        rw [hseti, hsetk x hxy, hiff]
        constructor
        ·rintro (⟨h1, d', h2, h3⟩ | ⟨h1, d', h2, h3⟩)
         ·exact .inl (.inl ⟨h1, d', h2, by rw [hoth v x d' hxn hxy h2] at h3; exact h3⟩)
         ·rw [hdi] at h2
          injection h2 with h2
          subst h2
          rw [hself, hev] at h3
          exact .inr (ptr_inj _ _ h3).symm
        ·rintro ((⟨h1, d', h2, h3⟩ | ⟨h1, _⟩) | h)
         ·exact .inl ⟨h1, d', h2, by rw [hoth v x d' hxn hxy h2]; exact h3⟩
         ·cases h1
         ·exact .inr ⟨rfl, d, hdi, by rw [hself, hev, h]⟩
       refine hall2 v w' (by rw [hKy]; exact hv) hk (fun k e hkn _ hlk he => by rw [hnew]; exact hgr Av _ k _ _ hkn (hvals k e hkn hlk he) rfl) fun h1 _ d' e h3 h4 => ?_
       rw [hsetk x hxy] at h1
       obtain ⟨g, h5, _, h6⟩ := hxo _ _ _ (hvals x d' hxn h1 h3)
       rw [hdi] at h4
       injection h4 with h4
       subst h4
       rw [hself, hoth v x d' hxn hxy h3, h5, hev]
       intro h7
       have := ptr_inj _ _ h7
       omega
      ·refine wpOp_mono ?_ (hst Av i _ hK him him2 hix hiy a w hfe hdep inv.keep)
       rintro a' w' ⟨v, rfl, hv, hk⟩
       rw [hdi]
       exact hall2 v w' (by rw [hsame v hix hiy]; exact hv) hk (fun k e hkn _ hlk he => by rw [hsame v hix hiy]; exact hvals k e hkn hlk he) (hunl v hix hiy)
theorem actN_filled {a : Act} {w : World} {ls : Array Bool} (hl : ∀ i, i < n → ls.getD i false = true) (inv : NInv ops V n m m2 x y a0 w0 S S2 ls a w) : a = ⟨(dstsOf ops n).foldl (fun t d => t.setIfInBounds d (a.tmps.getD d undef)) a0.tmps, a0.defers⟩ := by
 obtain ⟨t, df⟩ := a
 have h1 := inv.defers
 simp only at h1
 subst h1
 congr 1
 apply Array.ext_getElem?
 intro e
 rw [fold_slots]
 have hsz := inv.size
 simp only at hsz
 by_cases hm : e ∈ dstsOf ops n
 ·by_cases hlt : e < a0.tmps.size
  ·rw [if_pos ⟨hm, hlt⟩]
   have : e < t.size := by omega
   simp [this]
  ·rw [if_neg (fun h => hlt h.2), Array.getElem?_eq_none (by omega), Array.getElem?_eq_none (by omega)]
 ·rw [if_neg (fun h => hm h.1)]
  exact inv.env e (fun i hi _ h => hm (List.mem_filterMap.2 ⟨i, by simpa using hi, h⟩))
theorem wp_freeN {id : Nat} {a : Act} {w : World} {l : List Oper} (n m m2 x y : Nat) (early early2 : List Nat) (V : (Nat → Prop) → List Kn) (S S2 : Nat → Prop) (hmo : P.follows Departure.mixedOrders = true) (hV : ∀ Av, (V Av).length = n) (hmn : m < n) (hmn2 : m2 < n) (hmm : m ≠ m2) (hwt : Region.waitsFor .any l.toArray m2 m = true) (hB : freeB l.toArray n a.tmps.size = true) (hL : lateB l.toArray n m early = true) (hL2 : lateB l.toArray n m2 early2 = true)
  (hsafe : ∀ Av i, i ∈ early → (knOf (V Av) i).safe S) (hsafe2 : ∀ Av i, i ∈ early2 → (∀ b, Av b → w.heap.size ≤ b) → (knOf (V Av) i).safe S2) (hxn : x < n) (hyn : y < n) (hxy : x ≠ y) (hxm : x ≠ m ∧ x ≠ m2) (hym : y ≠ m ∧ y ≠ m2) (hxo : ∀ Av, (knOf (V Av) x).old w.heap.size) (hyo : ∀ Av, (knOf (V Av) y).old w.heap.size) (hgr : ∀ Av g j v w, j < n → (knOf (V Av) j).p v w → g = w.heap.size → (knOf (V fun b => Av b ∨ b = g) j).p v w) (Kx Ky : Kn) (hKx : ∀ Av, knOf (V Av) x = Kx) (hKy : ∀ Av, knOf (V Av) y = Ky) (hxs : NStep P l.toArray Q V n a w (Both S S2) x Kx) (hys : NStep P l.toArray Q V n a w (Both S S2) y Ky) (hs : ∀ Av, NSteps P l.toArray Q (V Av) n m m2 x y a w (Both S S2) 0 (V Av)) (hm : NTurn P l.toArray Q V n a w (fun _ => False) S m) (hm2 : NTurn P l.toArray Q V n a w S S2 m2)
  (hf : ∀ (Av : Nat → Prop) (g : Nat → Value) w', FVals l.toArray (V Av) g w' → Keep (Both S S2) w w' → (∀ d b, dstOf l.toArray x = some d → g d = .pointer (some ⟨b, 0, none⟩) → Av b) → (∀ d b, dstOf l.toArray y = some d → g d = .pointer (some ⟨b, 0, none⟩) → Av b) → (∀ d e, dstOf l.toArray x = some d → dstOf l.toArray y = some e → g d ≠ g e) → wpList P l.toArray Q (l.drop n) ⟨(dstsOf l.toArray n).foldl (fun t d => t.setIfInBounds d (g d)) a.tmps, a.defers⟩ w') : (Code.region id l.toArray true).wp P Q a w := by
 have hB' := hB
 obtain ⟨hn, _, hseq, _⟩ := freeB_facts hB'
 have hn' : n ≤ l.length := by simpa using hn
 have hdl : (l.drop n).length = l.toArray.size - n := by simp
 refine wp_region_any hmo ?_
 have := freeN_go (P := P) (Q := Q) (w0 := w) early early2 hxn hyn hxy hxm hym hxo hyo hgr Kx Ky hKx hKy hxs hys hV hmn hmn2 hmm hwt hB hL hL2 hsafe hsafe2 (fun Av i K hK him him2 hix hiy => by
  have := nsteps_at (V Av) 0 (hs Av) i K hK (by omega) (by omega) (by omega) (by omega)
  rwa [Nat.zero_add] at this) hm hm2 (fun b u inv => ?_) n (List.range n) (Array.replicate l.toArray.size false) a w.drew (by simp) List.nodup_range ?_ ?_
 ·have e : n + (l.toArray.size - n) = l.toArray.size := by omega
  rw [e] at this
  exact this
 ·have hl : ∀ i, i < n → (Array.replicate n true ++ Array.replicate (l.toArray.size - n) false).getD i false = true := by
   intro i hi
   have hlt : i < (Array.replicate n true ++ Array.replicate (l.toArray.size - n) false).size := by simp; omega
   rw [Array.getD, dif_pos hlt]
   show (Array.replicate n true ++ Array.replicate (l.toArray.size - n) false)[i] = true
   rw [Array.getElem_append_left (by simpa using hi)]
   simp
  have h4 := hf (avd l.toArray x y (Array.replicate n true ++ Array.replicate (l.toArray.size - n) false) b) (fun d => b.tmps.getD d undef) u (fun i d hid => by
   simp only [Bool.and_eq_true, decide_eq_true_eq, beq_iff_eq] at hid
   have hln := hV (avd l.toArray x y (Array.replicate n true ++ Array.replicate (l.toArray.size - n) false) b)
   exact inv.vals i d (by omega) (hl i (by omega)) hid.2) inv.keep (fun d c h1 h2 => .inl ⟨hl x hxn, d, h1, h2⟩) (fun d c h1 h2 => .inr ⟨hl y hyn, d, h1, h2⟩) (inv.unl (hl x hxn) (hl y hyn))
  rw [← actN_filled hl inv] at h4
  have := wpAny_of_seq (P := P) (md := .any) (ops := l.toArray) (Q' := Q) (l.drop n) n _ b u (fun j => by simp) (by rw [hdl]; exact hseq) h4
  rw [hdl] at this
  exact this
 ·intro i
  rw [List.mem_range]
  constructor
  ·intro hi
   exact ⟨hi, getD_in (by simp; omega) (getD_replicate_false _ _)⟩
  ·exact fun h => h.1
 ·refine ⟨⟨by simp, fun j oj _ hl => (by rw [getD_replicate_false] at hl; cases hl), fun t _ ht => getD_in (by simpa using ht) (getD_replicate_false _ _)⟩, rfl, rfl, fun _ _ => rfl, fun i d _ hl => (by rw [getD_replicate_false] at hl; cases hl), Keep.drew (Keep.refl _ w), fun _ => Keep.drew (Keep.refl _ w), fun _ => Keep.drew (Keep.refl _ w), fun h => (by rw [getD_replicate_false] at h; cases h)⟩
end
end Go.Proofs.Ytfpfpmhkkgfdbaa
namespace Go.Proofs.Ytfpfpmhkkgfdbaa
open Go.RowKit
set_option maxRecDepth 100000
def Kn.addA (base : Nat) (Av F : Nat → Prop) (p : Nat) (x : Oc × Bok) : Kn := ⟨fun rv w => ∃ F' v, rv = x.1.v v ∧ Bk w F' p x.2 ∧ Sl w 36 21 v x.1.f.length (fls x.1.f) ∧ (∀ b, v.ownBlock = some b → base ≤ b ∧ ¬ F' b ∧ ¬ Av b) ∧ (∀ b, F' b → F b ∨ base ≤ b) ∧ ∀ b, Av b → ¬ F' b, fun _ _ _ ⟨F', v, h1, h2, h3, h4, h5⟩ hk => ⟨F', v, h1, h2.kept hk, h3.kept hk, h4, h5⟩⟩
theorem Kn.addA_grow {base : Nat} {Av F : Nat → Prop} {p g : Nat} {x : Oc × Bok} {rv : Value} {w : World} (h : (Kn.addA base Av F p x).p rv w) (hg : g = w.heap.size) : (Kn.addA base (fun b => Av b ∨ b = g) F p x).p rv w := by
 obtain ⟨F', v, h1, h2, h3, h4, h5, h6⟩ := h
 refine ⟨F', v, h1, h2, h3, fun b hb => ⟨(h4 b hb).1, (h4 b hb).2.1, fun h => h.elim (h4 b hb).2.2 (fun h => ?_)⟩, h5, fun b hb hF => hb.elim (fun h => h6 b h hF) (fun h => ?_)⟩
 ·have := h3.lt hb
  omega
 ·have := h2.lt b hF
  omega
theorem Kn.safe_addA {base : Nat} {Av F S : Nat → Prop} {p : Nat} {x : Oc × Bok} (hd : ∀ b, F b → ¬ S b) (hb : ∀ b, base ≤ b → ¬ S b) : (Kn.addA base Av F p x).safe S := fun _ _ _ ⟨F', v, h1, h2, h3, h4, h5⟩ hk => ⟨F', v, h1, h2.keep hk (fun b h => (h5.1 b h).elim (hd b) (hb b)), h3.keep hk (fun b h => hb b (h4 b h).1), h4, h5⟩
theorem badd_knA (u : World) (Av F : Nat → Prop) (p : Nat) (B : Bok) (o : Ord) (x : Oc × Bok) (base : Nat) (hx : B.add o = x) (h : Bk u F p B) (hI : Inv B) (hn : B.no ≤ 1000000000000) (hb : base ≤ u.heap.size) (hA : ∀ b, Av b → ¬ F b ∧ b < u.heap.size) : Calls Try.prog 15 #[.pointer (some ⟨p, 0, none⟩), o.v] u fun e w' => ∃ v, e = .returned v ∧ (Kn.addA base Av F p x).p v w' ∧ Keep F u w' := by
 subst hx
 refine (badd_any u F p B o h hI hn).mono ?_
 rintro e w' ⟨F', v, rfl, h1, h2, h3, h4, h5⟩
 refine ⟨_, rfl, ⟨F', v, rfl, h1, h2, fun b hb' => ⟨Nat.le_trans hb (h3 b hb').1, (h3 b hb').2, fun ha => ?_⟩, fun b hb' => (h4 b hb').imp id (fun h => Nat.le_trans hb h), fun b ha hF => ?_⟩, h5⟩
 ·have := (hA b ha).2
  have := (h3 b hb').1
  omega
 ·rcases h4 b hF with h | h
  ·exact (hA b ha).1 h
  ·have := (hA b ha).2
   omega
def Kn.twoA (base : Nat) (Av F G : Nat → Prop) (p r : Nat) (x y : Oc × Bok) : Kn := ⟨fun rv w => ∃ F' G' v, rv = y.1.v v ∧ Bk w F' p x.2 ∧ Bk w G' r y.2 ∧ Sl w 36 21 v y.1.f.length (fls y.1.f) ∧ (∀ b, v.ownBlock = some b → base ≤ b ∧ ¬ G' b ∧ ¬ F' b ∧ ¬ Av b) ∧ (∀ b, F' b → F b ∨ base ≤ b) ∧ (∀ b, G' b → G b ∨ base ≤ b) ∧ (∀ b, F' b → ¬ G' b) ∧ ∀ b, Av b → ¬ F' b ∧ ¬ G' b,
 fun _ _ _ ⟨F', G', v, h1, h2, h3, h4, h5⟩ hk => ⟨F', G', v, h1, h2.kept hk, h3.kept hk, h4.kept hk, h5⟩⟩
theorem Kn.twoA_grow {base : Nat} {Av F G : Nat → Prop} {p r g : Nat} {x y : Oc × Bok} {rv : Value} {w : World} (h : (Kn.twoA base Av F G p r x y).p rv w) (hg : g = w.heap.size) : (Kn.twoA base (fun b => Av b ∨ b = g) F G p r x y).p rv w := by
 obtain ⟨F', G', v, h1, h2, h3, h4, h5, h6, h7, h8, h9⟩ := h
 refine ⟨F', G', v, h1, h2, h3, h4, fun b hb => ⟨(h5 b hb).1, (h5 b hb).2.1, (h5 b hb).2.2.1, fun h => h.elim (h5 b hb).2.2.2 (fun h => ?_)⟩, h6, h7, h8, fun b hb => ⟨fun hF => hb.elim (fun h => (h9 b h).1 hF) (fun h => ?_), fun hG => hb.elim (fun h => (h9 b h).2 hG) (fun h => ?_)⟩⟩
 ·have := h4.lt hb
  omega
 ·have := h2.lt b hF
  omega
 ·have := h3.lt b hG
  omega
theorem badd_twoA (u : World) (Av F G : Nat → Prop) (p r : Nat) (B : Bok) (o : Ord) (x y : Oc × Bok) (base : Nat) (hy : B.add o = y) (rv : Value) (h1 : (Kn.addA base Av F p x).p rv u) (h : Bk u G r B) (hI : Inv B) (hn : B.no ≤ 1000000000000) (hb : base ≤ u.heap.size) (hd : ∀ b, F b → ¬ G b) (hg : ∀ b, G b → b < base) (hA : ∀ b, Av b → base ≤ b ∧ b < u.heap.size) : Calls Try.prog 15 #[.pointer (some ⟨r, 0, none⟩), o.v] u fun e w' => ∃ v, e = .returned v ∧ (Kn.twoA base Av F G p r x y).p v w' ∧ Keep G u w' := by
 subst hy
 obtain ⟨F', vx, _, q1, _, _, q2, q3⟩ := h1
 refine (badd_any u G r B o h hI hn).mono ?_
 rintro e w' ⟨G', v, rfl, h1, h2, h3, h4, h5⟩
 have hFG : ∀ b, F' b → ¬ G b := fun b hb' hg' => by
  rcases q2 b hb' with h | h
  ·exact hd b h hg'
  ·have := hg b hg'; omega
 refine ⟨_, rfl, ⟨F', G', v, rfl, q1.keep h5 hFG, h1, h2, fun b hb' => ⟨Nat.le_trans hb (h3 b hb').1, (h3 b hb').2, fun hF => ?_, fun ha => ?_⟩, q2, fun b hb' => (h4 b hb').imp id (fun h => Nat.le_trans hb h), fun b hF hG => ?_, fun b ha => ⟨q3 b ha, fun hG => ?_⟩⟩, h5⟩
 ·have := q1.lt b hF
  have := (h3 b hb').1
  omega
 ·have := (h3 b hb').1
  have := (hA b ha).2
  omega
 ·rcases h4 b hG with h | h
  ·exact hFG b hF h
  ·have := q1.lt b hF
   omega
 ·rcases h4 b hG with h | h
  ·have := hg b h
   have := (hA b ha).1
   omega
  ·have := (hA b ha).2
   omega
end Go.Proofs.Ytfpfpmhkkgfdbaa
namespace Go.Proofs.Ytfpfpmhkkgfdbaa
set_option maxRecDepth 100000
open Go.RowKit
end Go.Proofs.Ytfpfpmhkkgfdbaa
namespace Go.Proofs.Ytfpfpmhkkgfdbaa
open Go.RowKit
set_option maxRecDepth 100000
section
variable {a : Act} {o : Oper} {u : World}
theorem exec_eqb (x y : Operand) (t' : TypeId) (p q b : Bool) (hop : o.op = .binOp .eql 4 x y t') (hx : a.eval x = .bool p) (hy : a.eval y = .bool q) (hb : (p == q) = b) : (execOp a.eval o).run Try.prog u = .ok (.value (.bool b)) u := by
 subst hb
 exact exec_eqlb x y t' p q hop hx hy
end
end Go.Proofs.Ytfpfpmhkkgfdbaa
