/-
 Laws and contracts that the walks rest on, part 5. No condition.
-/
import Derived.Test.YtfpfpmhkkgfdbaaQT04
set_option linter.unusedVariables false
namespace Go.Proofs.Ytfpfpmhkkgfdbaa
open Go.RowKit
set_option maxRecDepth 100000
set_option maxRecDepth 100000 in
set_option maxHeartbeats 3200000 in
theorem refusal_any (w : World) (F : Nat → Prop) (p : Nat) (B : Bok) (o : Ord) (h : Bk w F p B) (hI : Inv B) : Gives 39 #[.pointer (some ⟨p, 0, none⟩), o.v] w (.eq (.int .i64 (B.err o))) := by
  refine gives_eq ?_
  have HB := Lib.hid h
  have HI := Lib.hid hI
  clear h hI
  go_enter Try.func39, Try.ntmps39
  go_upto_region 0 with fail
  refine wp_text 2 [.fresh w.heap.size 25 (o.cells), .eq (.int .i64 0)] rfl (by kernel_rfl) ?_ ?_
  · refine fsteps_cons 1 rfl (fun a u hE hD hk => f_new (o := ⟨some 3, _, _, _, _, _⟩) (.pointer (some ⟨u.heap.size, 0, none⟩)) _ rfl (wanted_none rfl _) (exec_box 25 (.tmp 1) (o.cells) rfl (hE 1 (o.v) (by kernel_rfl) (by kernel_rfl))) ⟨_, rfl, hk.size, Blk.new u _ _⟩ ((Keep.refl _ u).alloc _)) ?_
    refine sv 2 rfl rfl rfl (fun a u hE hD hk => exec_assign (.const (.int .i64 0)) _ rfl rfl) ?_
    exact fsteps_nil
  intro gv w0 hV k0
  rw [show dstsOf _ 2 = [3, 4] by kernel_rfl]
  simp only [fC, fN, sA, sS, sZ, dS, dZ]
  have hv3 : (.fresh w.heap.size 25 (o.cells) : Kn).p (gv 3) w0 := hV 0 3 (by kernel_rfl)
  generalize gv 3 = v3 at hv3 ⊢
  rw [show gv 4 = .int .i64 0 from hV 1 4 (by kernel_rfl)]
  clear hV
  obtain ⟨g, rfl, hg, hBo⟩ := hv3
  refine wpList_nil ?_
  have HO := Lib.hid (blk_range hBo)
  clear hBo
  by_cases hr : o.right = true
  · have hr1 : ¬ o.err ≠ 0 := by unfold Ord.err; rw [if_pos hr]; simp
    have HR := Lib.hid hr
    clear hr
    by_cases hst : o.stop ≠ 0
    · have HE : Hid (B.err o = 1) := by show _ = _; unfold Bok.err; rw [if_pos (fun h => hst h.2)]
      go_upto_region 1 with fail
      refine wp_text 8 [.eq (o.v), .eq (.int .i64 o.err), .eq (.bool false), .eq (.bool false), .eq (.pointer (some ⟨g, 8, none⟩)), .eq (.int .i64 o.stop), .eq (.bool true), .eq (.bool true)] rfl (by kernel_rfl) ?_ ?_
      · refine sv 1 rfl rfl rfl (fun a u hE hD hk => exec_ldS 25 _ (.tmp 3) (g) (0) (o.cells) rfl (hE 3 (.pointer (some ⟨g, 0, none⟩)) (by kernel_rfl) (by kernel_rfl)) (range_kept HO.out hk) Try.underlying25 (by rw [o.len9]; exact ord_size)) ?_
        refine fsteps_cons 2 rfl (fun a u hE hD hk => f_call (o := ⟨some 8, _, _, _, _, _⟩) 62 #[o.v] rfl (wanted_none rfl _) (exec_call 62 _ [.tmp 7] _ [o.v] Try.func62 (by kernel_rfl) (by kernel_rfl) rfl (show [a.eval (.tmp 7)] = [o.v] from (by rw [show a.eval (.tmp 7) = o.v from (hD 0 7 (by kernel_rfl))] <;> rfl)) u) (ordRight_any o u)) ?_
        refine fsteps_cons 3 rfl (fun a u hE hD hk => f_as (show ((decide ((o.err : Int) ≠ (0 : Int))) : Bool) = false from decide_eq_false hr1) (f_val (o := ⟨some 9, _, _, _, _, _⟩) (.bool (decide ((o.err : Int) ≠ (0 : Int)))) rfl (wanted_none rfl _) (exec_nen (p := o.err) (q := 0) rfl (hD 1 8 (by kernel_rfl)) rfl) rfl)) ?_
        refine sv 4 rfl rfl rfl (fun a u hE hD hk => exec_move (.tmp 9) _ rfl (hD 2 9 (by kernel_rfl))) ?_
        refine fsteps_cons 5 rfl (fun a u hE hD hk => f_val (o := ⟨some 11, _, _, _, _, _⟩) (.pointer (some ⟨g, 8, none⟩)) rfl (wanted_at (b := false) false rfl rfl (hD 3 10 (by kernel_rfl))) (exec_fldo 25 8 8 (.tmp 3) (g) (0) (8) rfl (hE 3 (.pointer (some ⟨g, 0, none⟩)) (by kernel_rfl) (by kernel_rfl)) (by kernel_rfl) rfl) rfl) ?_
        refine fsteps_cons 6 rfl (fun a u hE hD hk => f_val (o := ⟨some 12, _, _, _, _, _⟩) (.int .i64 o.stop) rfl (wanted_at (b := false) false rfl rfl (hD 3 10 (by kernel_rfl))) (exec_loadi 3 Try.underlying3 (.tmp 11) ⟨g, 8, none⟩ (.int .i64 o.stop) rfl (hD 4 11 (by kernel_rfl)) (range_int (range_kept HO.out hk) 8 _ rfl)) rfl) ?_
        refine fsteps_cons 7 rfl (fun a u hE hD hk => f_as (show ((decide ((o.stop : Int) ≠ (0 : Int))) : Bool) = true from decide_eq_true hst) (f_val (o := ⟨some 13, _, _, _, _, _⟩) (.bool (decide ((o.stop : Int) ≠ (0 : Int)))) rfl (wanted_at (b := false) false rfl rfl (hD 3 10 (by kernel_rfl))) (exec_nen (p := o.stop) (q := 0) rfl (hD 5 12 (by kernel_rfl)) rfl) rfl)) ?_
        refine sv 8 rfl rfl rfl (fun a u hE hD hk => exec_pickF (.tmp 10) (.const (.bool true)) (.tmp 13) (.bool true) rfl (hD 3 10 (by kernel_rfl)) (hD 6 13 (by kernel_rfl))) ?_
        exact fsteps_nil
      intro gv w1 hV k1
      rw [show dstsOf _ 8 = [7, 8, 9, 10, 11, 12, 13, 14] by kernel_rfl]
      simp only [fC, fN, sA, sS, sZ, dS, dZ]
      rw [show gv 14 = .bool true from hV 7 14 (by kernel_rfl)]
      clear hV
      refine wpList_nil ?_
      have kx := k0.trans k1
      clear HO hr1 hst
      go_wp2
      go_ret
      exact ⟨by rw [HE.out]; rfl, kx⟩
    · skip
      go_upto_region 1 with fail
      refine wp_text 8 [.eq (o.v), .eq (.int .i64 o.err), .eq (.bool false), .eq (.bool false), .eq (.pointer (some ⟨g, 8, none⟩)), .eq (.int .i64 o.stop), .eq (.bool false), .eq (.bool false)] rfl (by kernel_rfl) ?_ ?_
      · refine sv 1 rfl rfl rfl (fun a u hE hD hk => exec_ldS 25 _ (.tmp 3) (g) (0) (o.cells) rfl (hE 3 (.pointer (some ⟨g, 0, none⟩)) (by kernel_rfl) (by kernel_rfl)) (range_kept HO.out hk) Try.underlying25 (by rw [o.len9]; exact ord_size)) ?_
        refine fsteps_cons 2 rfl (fun a u hE hD hk => f_call (o := ⟨some 8, _, _, _, _, _⟩) 62 #[o.v] rfl (wanted_none rfl _) (exec_call 62 _ [.tmp 7] _ [o.v] Try.func62 (by kernel_rfl) (by kernel_rfl) rfl (show [a.eval (.tmp 7)] = [o.v] from (by rw [show a.eval (.tmp 7) = o.v from (hD 0 7 (by kernel_rfl))] <;> rfl)) u) (ordRight_any o u)) ?_
        refine fsteps_cons 3 rfl (fun a u hE hD hk => f_as (show ((decide ((o.err : Int) ≠ (0 : Int))) : Bool) = false from decide_eq_false hr1) (f_val (o := ⟨some 9, _, _, _, _, _⟩) (.bool (decide ((o.err : Int) ≠ (0 : Int)))) rfl (wanted_none rfl _) (exec_nen (p := o.err) (q := 0) rfl (hD 1 8 (by kernel_rfl)) rfl) rfl)) ?_
        refine sv 4 rfl rfl rfl (fun a u hE hD hk => exec_move (.tmp 9) _ rfl (hD 2 9 (by kernel_rfl))) ?_
        refine fsteps_cons 5 rfl (fun a u hE hD hk => f_val (o := ⟨some 11, _, _, _, _, _⟩) (.pointer (some ⟨g, 8, none⟩)) rfl (wanted_at (b := false) false rfl rfl (hD 3 10 (by kernel_rfl))) (exec_fldo 25 8 8 (.tmp 3) (g) (0) (8) rfl (hE 3 (.pointer (some ⟨g, 0, none⟩)) (by kernel_rfl) (by kernel_rfl)) (by kernel_rfl) rfl) rfl) ?_
        refine fsteps_cons 6 rfl (fun a u hE hD hk => f_val (o := ⟨some 12, _, _, _, _, _⟩) (.int .i64 o.stop) rfl (wanted_at (b := false) false rfl rfl (hD 3 10 (by kernel_rfl))) (exec_loadi 3 Try.underlying3 (.tmp 11) ⟨g, 8, none⟩ (.int .i64 o.stop) rfl (hD 4 11 (by kernel_rfl)) (range_int (range_kept HO.out hk) 8 _ rfl)) rfl) ?_
        refine fsteps_cons 7 rfl (fun a u hE hD hk => f_as (show ((decide ((o.stop : Int) ≠ (0 : Int))) : Bool) = false from decide_eq_false hst) (f_val (o := ⟨some 13, _, _, _, _, _⟩) (.bool (decide ((o.stop : Int) ≠ (0 : Int)))) rfl (wanted_at (b := false) false rfl rfl (hD 3 10 (by kernel_rfl))) (exec_nen (p := o.stop) (q := 0) rfl (hD 5 12 (by kernel_rfl)) rfl) rfl)) ?_
        refine sv 8 rfl rfl rfl (fun a u hE hD hk => exec_pickF (.tmp 10) (.const (.bool true)) (.tmp 13) (.bool false) rfl (hD 3 10 (by kernel_rfl)) (hD 6 13 (by kernel_rfl))) ?_
        exact fsteps_nil
      intro gv w1 hV k1
      rw [show dstsOf _ 8 = [7, 8, 9, 10, 11, 12, 13, 14] by kernel_rfl]
      simp only [fC, fN, sA, sS, sZ, dS, dZ]
      rw [show gv 14 = .bool false from hV 7 14 (by kernel_rfl)]
      clear hV
      refine wpList_nil ?_
      have kx := k0.trans k1
      have hst0 : o.stop = 0 := Classical.not_not.1 hst
      have HST := Lib.hid hst0
      have HO1 := Lib.hid (range_kept HO.out k1)
      have HSD := Lib.hid (right_side HR.out)
      have HQ := Lib.hid (right_qty HR.out)
      have HS3 : Hid (3 - o.side = 1 ∨ 3 - o.side = 2) := by have := HSD.out; show _ ∨ _; omega
      have HSID := Lib.hid (HI.out.side HSD.out).theirs
      have HL64 : Hid ((B.sd (3 - o.side)).length ≤ 1000) := by have := HSID.out.ok.len; show _ ≤ _; omega
      clear HO hr1 hst hst0 k0 k1
      obtain ⟨fo, hfo⟩ : ∃ x, (B.find o.tr o.id).1 = x := ⟨_, rfl⟩
      obtain ⟨hb, hhb⟩ : ∃ x, (B.find o.tr o.id).2 = x := ⟨_, rfl⟩
      have HFO := Lib.hid hfo
      have HHB := Lib.hid hhb
      clear hfo hhb
      go_upto_region 3 with fail
      refine wp_text 10 [.eq (.pointer (some ⟨p, 0, none⟩)), .eq (.pointer (some ⟨g, 0, none⟩)), .eq (.int .i64 o.tr), .eq (.pointer (some ⟨g, 1, none⟩)), .eq (.int .i64 o.id), .eq (.tuple #[fo.v, .bool hb]), .eq (.tuple #[fo.v, .bool hb]), .eq (fo.v), .eq (.bool hb), .fresh w1.heap.size 25 zeroO.cells] rfl (by kernel_rfl) ?_ ?_
      · refine sv 1 rfl rfl rfl (fun a u hE hD hk => exec_move (.tmp 0) _ rfl (hE 0 (.pointer (some ⟨p, 0, none⟩)) (by kernel_rfl) (by kernel_rfl))) ?_
        refine sv 2 rfl rfl rfl (fun a u hE hD hk => exec_fldo 25 0 0 (.tmp 3) (g) (0) (0) rfl (hE 3 (.pointer (some ⟨g, 0, none⟩)) (by kernel_rfl) (by kernel_rfl)) (by kernel_rfl) rfl) ?_
        refine sv 3 rfl rfl rfl (fun a u hE hD hk => exec_loadi 3 Try.underlying3 (.tmp 17) ⟨g, 0, none⟩ (.int .i64 o.tr) rfl (hD 1 17 (by kernel_rfl)) (range_int (range_kept HO1.out hk) 0 _ rfl)) ?_
        refine sv 4 rfl rfl rfl (fun a u hE hD hk => exec_fldo 25 1 1 (.tmp 3) (g) (0) (1) rfl (hE 3 (.pointer (some ⟨g, 0, none⟩)) (by kernel_rfl) (by kernel_rfl)) (by kernel_rfl) rfl) ?_
        refine sv 5 rfl rfl rfl (fun a u hE hD hk => exec_loadi 3 Try.underlying3 (.tmp 19) ⟨g, 1, none⟩ (.int .i64 o.id) rfl (hD 3 19 (by kernel_rfl)) (range_int (range_kept HO1.out hk) 1 _ rfl)) ?_
        refine fsteps_cons 6 rfl (fun a u hE hD hk => f_call (o := ⟨some 21, _, _, _, _, _⟩) 28 #[.pointer (some ⟨p, 0, none⟩), .int .i64 o.tr, .int .i64 o.id] rfl (wanted_none rfl _) (exec_call 28 _ [.tmp 16, .tmp 18, .tmp 20] _ [.pointer (some ⟨p, 0, none⟩), .int .i64 o.tr, .int .i64 o.id] Try.func28 (by kernel_rfl) (by kernel_rfl) rfl (show [a.eval (.tmp 16), a.eval (.tmp 18), a.eval (.tmp 20)] = [.pointer (some ⟨p, 0, none⟩), .int .i64 o.tr, .int .i64 o.id] from (by rw [show a.eval (.tmp 16) = .pointer (some ⟨p, 0, none⟩) from (hD 0 16 (by kernel_rfl)), show a.eval (.tmp 18) = .int .i64 o.tr from (hD 2 18 (by kernel_rfl)), show a.eval (.tmp 20) = .int .i64 o.id from (hD 4 20 (by kernel_rfl))] <;> rfl)) u) ((by rw [← HFO.out, ← HHB.out]; exact bfind_any u F p B o.tr o.id (HB.out.kept (kx.trans hk)) HI.out))) ?_
        refine sv 7 rfl rfl rfl (fun a u hE hD hk => exec_move (.tmp 21) _ rfl (hD 5 21 (by kernel_rfl))) ?_
        refine sv 8 rfl rfl rfl (fun a u hE hD hk => exec_extract (.tmp 15) [fo.v, .bool hb] 0 (fo.v) rfl (hD 6 15 (by kernel_rfl)) rfl) ?_
        refine sv 9 rfl rfl rfl (fun a u hE hD hk => exec_extract (.tmp 15) [fo.v, .bool hb] 1 (.bool hb) rfl (hD 6 15 (by kernel_rfl)) rfl) ?_
        refine fsteps_cons 10 rfl (fun a u hE hD hk => f_new (o := ⟨some 5, _, _, _, _, _⟩) (.pointer (some ⟨u.heap.size, 0, none⟩)) _ rfl (wanted_none rfl _) (exec_alc 25 zeroO.cells rfl zO) ⟨_, rfl, hk.size, Blk.new u _ _⟩ ((Keep.refl _ u).alloc _)) ?_
        exact fsteps_nil
      intro gv w2 hV k2
      rw [show dstsOf _ 10 = [16, 17, 18, 19, 20, 21, 15, 22, 23, 5] by kernel_rfl]
      simp only [fC, fN, sA, sS, sZ, dS, dZ]
      have hv5 : (.fresh w1.heap.size 25 zeroO.cells : Kn).p (gv 5) w2 := hV 9 5 (by kernel_rfl)
      generalize gv 5 = v5 at hv5 ⊢
      rw [show gv 22 = fo.v from hV 7 22 (by kernel_rfl)]
      rw [show gv 23 = .bool hb from hV 8 23 (by kernel_rfl)]
      clear hV
      obtain ⟨b5, rfl, hb5, hB5⟩ := hv5
      refine l_setS (o := ⟨none, _, _, _, _, _⟩) 25 b5 25 zeroO.cells fo.cells (.tmp 5) (.tmp 22) rfl rfl (by kernel_rfl) (by kernel_rfl) hB5 (by rw [Ord.len9]; exact ord_size) (by rw [Ord.len9, Ord.len9]) (Ord.one1 _) ?_
      intro w3 hB3 hk3 hs3
      simp only [Act.put]
      refine l_val (o := ⟨some 6, _, _, _, _, _⟩) (.bool hb) rfl (exec_assign (.tmp 23) (.bool hb) rfl (by kernel_rfl)) ?_
      simp only [Act.put, sA, sS, sZ]
      refine wpList_nil ?_
      have k13 : Kept w1 w3 := k2.trans' hk3 (by omega)
      have kx3 := kx.trans k13
      have HO3 := Lib.hid (range_kept HO1.out k13)
      clear hB5 hB3 hk3 hs3 k2 k13 HO1
      cases hb with
      | true =>
        have HE : Hid (B.err o = 5) := by show _ = _; unfold Bok.err; rw [if_neg (fun h => h ⟨HR.out, HST.out⟩), if_pos (show B.has o.tr o.id = true from HHB.out)]
        have kx := kx3
        clear HO3 HFO HHB kx3
        go_wp2
        go_ret
        exact ⟨by rw [HE.out]; rfl, kx⟩
      | false =>
        have HNH : Hid (¬ B.has o.tr o.id = true) := by show ¬ _; unfold Bok.has; rw [HHB.out]; simp
        clear HFO HHB kx
        obtain ⟨mr, hmr⟩ : ∃ x, (decide (o.k = 1) || decide (o.k = 5)) = x := ⟨_, rfl⟩
        have HMR := Lib.hid hmr
        have hmr1 : mr = true ↔ (o.k = 1 ∨ o.k = 5) := by rw [← hmr]; simp
        have HM1 := Lib.hid hmr1
        clear hmr hmr1
        by_cases hfull : mr = true ∧ 64 ≤ B.len
        · obtain ⟨hm1, hln0⟩ := hfull
          subst hm1
          have hln : (64 : Int) ≤ (B.len : Int) := by omega
          have HE : Hid (B.err o = 4) := by show _ = _; unfold Bok.err; rw [if_neg (fun h => h ⟨HR.out, HST.out⟩), if_neg HNH.out, if_pos ⟨HM1.out.1 rfl, hln0⟩]
          go_upto_region 6 with fail
          refine wp_text 7 [.eq (o.v), .eq (.bool true), .eq (.bool true), .eq (.pointer (some ⟨p, 0, none⟩)), .eq (.int .i64 (B.len : Int)), .eq (.bool true), .eq (.bool true)] rfl (by kernel_rfl) ?_ ?_
          · refine sv 1 rfl rfl rfl (fun a u hE hD hk => exec_ldS 25 _ (.tmp 3) (g) (0) (o.cells) rfl (hE 3 (.pointer (some ⟨g, 0, none⟩)) (by kernel_rfl) (by kernel_rfl)) (range_kept HO3.out hk) Try.underlying25 (by rw [o.len9]; exact ord_size)) ?_
            refine fsteps_cons 2 rfl (fun a u hE hD hk => f_call (o := ⟨some 26, _, _, _, _, _⟩) 41 #[o.v] rfl (wanted_none rfl _) (exec_call 41 _ [.tmp 25] _ [o.v] Try.func41 (by kernel_rfl) (by kernel_rfl) rfl (show [a.eval (.tmp 25)] = [o.v] from (by rw [show a.eval (.tmp 25) = o.v from (hD 0 25 (by kernel_rfl))] <;> rfl)) u) ((by rw [← HMR.out]; exact mayRest_any u o))) ?_
            refine sv 3 rfl rfl rfl (fun a u hE hD hk => exec_move (.tmp 26) _ rfl (hD 1 26 (by kernel_rfl))) ?_
            refine fsteps_cons 4 rfl (fun a u hE hD hk => f_val (o := ⟨some 28, _, _, _, _, _⟩) (.pointer (some ⟨p, 0, none⟩)) rfl (wanted_at (b := true) true rfl rfl (hD 2 27 (by kernel_rfl))) (exec_move (.tmp 0) _ rfl (hE 0 (.pointer (some ⟨p, 0, none⟩)) (by kernel_rfl) (by kernel_rfl))) rfl) ?_
            refine fsteps_cons 5 rfl (fun a u hE hD hk => f_call (o := ⟨some 29, _, _, _, _, _⟩) 33 #[.pointer (some ⟨p, 0, none⟩)] rfl (wanted_at (b := true) true rfl rfl (hD 2 27 (by kernel_rfl))) (exec_call 33 _ [.tmp 28] _ [.pointer (some ⟨p, 0, none⟩)] Try.func33 (by kernel_rfl) (by kernel_rfl) rfl (show [a.eval (.tmp 28)] = [.pointer (some ⟨p, 0, none⟩)] from (by rw [show a.eval (.tmp 28) = .pointer (some ⟨p, 0, none⟩) from (hD 3 28 (by kernel_rfl))] <;> rfl)) u) (blen_any u F p B (HB.out.kept (kx3.trans hk)) HI.out)) ?_
            refine fsteps_cons 6 rfl (fun a u hE hD hk => f_as (show ((decide ((64 : Int) ≤ ((B.len : Int) : Int))) : Bool) = true from decide_eq_true hln) (f_val (o := ⟨some 30, _, _, _, _, _⟩) (.bool (decide ((64 : Int) ≤ ((B.len : Int) : Int)))) rfl (wanted_at (b := true) true rfl rfl (hD 2 27 (by kernel_rfl))) (exec_gen (p := (B.len : Int)) (q := 64) rfl (hD 4 29 (by kernel_rfl)) rfl) rfl)) ?_
            refine sv 7 rfl rfl rfl (fun a u hE hD hk => exec_pick (.tmp 27) (.tmp 30) (.const (.bool false)) (.bool true) rfl (hD 2 27 (by kernel_rfl)) (hD 5 30 (by kernel_rfl))) ?_
            exact fsteps_nil
          intro gv w4 hV k4
          rw [show dstsOf _ 7 = [25, 26, 27, 28, 29, 30, 31] by kernel_rfl]
          simp only [fC, fN, sA, sS, sZ, dS, dZ]
          rw [show gv 31 = .bool true from hV 6 31 (by kernel_rfl)]
          clear hV
          refine wpList_nil ?_
          have kx := kx3.trans k4
          clear HO3 k4 kx3 hln hln0
          go_wp2
          go_ret
          exact ⟨by rw [HE.out]; rfl, kx⟩
        · have HNF : Hid (¬ ((o.k = 1 ∨ o.k = 5) ∧ 64 ≤ B.len)) := fun h => hfull ⟨HM1.out.2 h.1, h.2⟩
          have hE0 : B.err o = if o.k = 5 ∧ o.meets (B.sd (3 - o.side)) = true then 11 else if o.k = 4 ∧ 0 < (B.matched o).left then 12 else 0 := by
            unfold Bok.err
            rw [if_neg (fun h => h ⟨HR.out, HST.out⟩), if_neg HNH.out, if_neg HNF.out]
          have HE0 := Lib.hid hE0
          clear hE0
          have h4 : ∀ (K : Nat → Prop), True := fun _ => trivial
          clear h4
          obtain ⟨mb, hmb⟩ : ∃ x, o.meets (B.sd (3 - o.side)) = x := ⟨_, rfl⟩
          have HCR := Lib.hid hmb
          obtain ⟨gv0, hgv0⟩ : ∃ x, givesM o (B.sd (3 - o.side)) = x := ⟨_, rfl⟩
          have HGV := Lib.hid hgv0
          have HGL : Hid (gv0 < o.qty ↔ 0 < (B.matched o).left) := by
            have h1 := gives_left o (B.sd (3 - o.side)) B.no o.qty (by have := HQ.out; omega) HSID.out
            show _ ↔ _
            rw [hgv0] at h1
            unfold Bok.matched
            omega
          clear hmb hgv0
          cases mr with
          | true =>
            have hln : ¬ (64 : Int) ≤ (B.len : Int) := fun h => hfull ⟨rfl, by omega⟩
            clear hfull
            go_upto_region 6 with fail
            refine wp_text 7 [.eq (o.v), .eq (.bool true), .eq (.bool true), .eq (.pointer (some ⟨p, 0, none⟩)), .eq (.int .i64 (B.len : Int)), .eq (.bool false), .eq (.bool false)] rfl (by kernel_rfl) ?_ ?_
            · refine sv 1 rfl rfl rfl (fun a u hE hD hk => exec_ldS 25 _ (.tmp 3) (g) (0) (o.cells) rfl (hE 3 (.pointer (some ⟨g, 0, none⟩)) (by kernel_rfl) (by kernel_rfl)) (range_kept HO3.out hk) Try.underlying25 (by rw [o.len9]; exact ord_size)) ?_
              refine fsteps_cons 2 rfl (fun a u hE hD hk => f_call (o := ⟨some 26, _, _, _, _, _⟩) 41 #[o.v] rfl (wanted_none rfl _) (exec_call 41 _ [.tmp 25] _ [o.v] Try.func41 (by kernel_rfl) (by kernel_rfl) rfl (show [a.eval (.tmp 25)] = [o.v] from (by rw [show a.eval (.tmp 25) = o.v from (hD 0 25 (by kernel_rfl))] <;> rfl)) u) ((by rw [← HMR.out]; exact mayRest_any u o))) ?_
              refine sv 3 rfl rfl rfl (fun a u hE hD hk => exec_move (.tmp 26) _ rfl (hD 1 26 (by kernel_rfl))) ?_
              refine fsteps_cons 4 rfl (fun a u hE hD hk => f_val (o := ⟨some 28, _, _, _, _, _⟩) (.pointer (some ⟨p, 0, none⟩)) rfl (wanted_at (b := true) true rfl rfl (hD 2 27 (by kernel_rfl))) (exec_move (.tmp 0) _ rfl (hE 0 (.pointer (some ⟨p, 0, none⟩)) (by kernel_rfl) (by kernel_rfl))) rfl) ?_
              refine fsteps_cons 5 rfl (fun a u hE hD hk => f_call (o := ⟨some 29, _, _, _, _, _⟩) 33 #[.pointer (some ⟨p, 0, none⟩)] rfl (wanted_at (b := true) true rfl rfl (hD 2 27 (by kernel_rfl))) (exec_call 33 _ [.tmp 28] _ [.pointer (some ⟨p, 0, none⟩)] Try.func33 (by kernel_rfl) (by kernel_rfl) rfl (show [a.eval (.tmp 28)] = [.pointer (some ⟨p, 0, none⟩)] from (by rw [show a.eval (.tmp 28) = .pointer (some ⟨p, 0, none⟩) from (hD 3 28 (by kernel_rfl))] <;> rfl)) u) (blen_any u F p B (HB.out.kept (kx3.trans hk)) HI.out)) ?_
              refine fsteps_cons 6 rfl (fun a u hE hD hk => f_as (show ((decide ((64 : Int) ≤ ((B.len : Int) : Int))) : Bool) = false from decide_eq_false hln) (f_val (o := ⟨some 30, _, _, _, _, _⟩) (.bool (decide ((64 : Int) ≤ ((B.len : Int) : Int)))) rfl (wanted_at (b := true) true rfl rfl (hD 2 27 (by kernel_rfl))) (exec_gen (p := (B.len : Int)) (q := 64) rfl (hD 4 29 (by kernel_rfl)) rfl) rfl)) ?_
              refine sv 7 rfl rfl rfl (fun a u hE hD hk => exec_pick (.tmp 27) (.tmp 30) (.const (.bool false)) (.bool false) rfl (hD 2 27 (by kernel_rfl)) (hD 5 30 (by kernel_rfl))) ?_
              exact fsteps_nil
            intro gv w4 hV k4
            rw [show dstsOf _ 7 = [25, 26, 27, 28, 29, 30, 31] by kernel_rfl]
            simp only [fC, fN, sA, sS, sZ, dS, dZ]
            rw [show gv 31 = .bool false from hV 6 31 (by kernel_rfl)]
            clear hV
            refine wpList_nil ?_
            clear hln
            have kx4 := kx3.trans k4
            have HO4 := Lib.hid (range_kept HO3.out k4)
            clear HO3 k4 kx3
            by_cases hk5 : o.k = 5
            · skip
              have HK5 := Lib.hid hk5
              have hk4 : ¬ o.k = 4 := by omega
              cases mb with
              | true =>
                have HE : Hid (B.err o = 11) := by show _ = _; rw [HE0.out, if_pos ⟨hk5, HCR.out⟩]
                go_upto_region 8 with fail
                refine wp_free 10 [.eq (.pointer (some ⟨g, 4, none⟩)), .eq (.int .i64 o.k), .eq (.bool true), .eq (.bool true), .eq (.pointer (some ⟨p, 0, none⟩)), .eq (o.v), .eq (.pointer (some ⟨p, offS (3 - o.side), none⟩)), .eq (o.v), .eq (.bool true), .eq (.bool true)] (by kernel_rfl) rfl (by kernel_rfl) ?_ ?_
                · refine sv 1 rfl rfl rfl (fun a u hE hD hk => exec_fldo 25 4 4 (.tmp 3) (g) (0) (4) rfl (hE 3 (.pointer (some ⟨g, 0, none⟩)) (by kernel_rfl) (by kernel_rfl)) (by kernel_rfl) rfl) ?_
                  refine sv 2 rfl rfl rfl (fun a u hE hD hk => exec_loadi 3 Try.underlying3 (.tmp 32) ⟨g, 4, none⟩ (.int .i64 o.k) rfl (hD 0 32 (by kernel_rfl)) (range_int (range_kept HO4.out hk) 4 _ rfl)) ?_
                  refine fsteps_cons 3 rfl (fun a u hE hD hk => f_as (show ((decide ((o.k : Int) = (5 : Int))) : Bool) = true from decide_eq_true hk5) (f_val (o := ⟨some 34, _, _, _, _, _⟩) (.bool (decide ((o.k : Int) = (5 : Int)))) rfl (wanted_none rfl _) (exec_eqn (p := o.k) (q := 5) rfl (hD 1 33 (by kernel_rfl)) rfl) rfl)) ?_
                  refine sv 4 rfl rfl rfl (fun a u hE hD hk => exec_move (.tmp 34) _ rfl (hD 2 34 (by kernel_rfl))) ?_
                  refine fsteps_cons 5 rfl (fun a u hE hD hk => f_val (o := ⟨some 36, _, _, _, _, _⟩) (.pointer (some ⟨p, 0, none⟩)) rfl (wanted_at (b := true) true rfl rfl (hD 3 35 (by kernel_rfl))) (exec_move (.tmp 0) _ rfl (hE 0 (.pointer (some ⟨p, 0, none⟩)) (by kernel_rfl) (by kernel_rfl))) rfl) ?_
                  refine fsteps_cons 6 rfl (fun a u hE hD hk => f_val (o := ⟨some 37, _, _, _, _, _⟩) (o.v) rfl (wanted_at (b := true) true rfl rfl (hD 3 35 (by kernel_rfl))) (exec_ldS 25 _ (.tmp 3) (g) (0) (o.cells) rfl (hE 3 (.pointer (some ⟨g, 0, none⟩)) (by kernel_rfl) (by kernel_rfl)) (range_kept HO4.out hk) Try.underlying25 (by rw [o.len9]; exact ord_size)) rfl) ?_
                  refine fsteps_cons 7 rfl (fun a u hE hD hk => f_call (o := ⟨some 38, _, _, _, _, _⟩) 63 #[.pointer (some ⟨p, 0, none⟩), o.v] rfl (wanted_at (b := true) true rfl rfl (hD 3 35 (by kernel_rfl))) (exec_call 63 _ [.tmp 36, .tmp 37] _ [.pointer (some ⟨p, 0, none⟩), o.v] Try.func63 (by kernel_rfl) (by kernel_rfl) rfl (show [a.eval (.tmp 36), a.eval (.tmp 37)] = [.pointer (some ⟨p, 0, none⟩), o.v] from (by rw [show a.eval (.tmp 36) = .pointer (some ⟨p, 0, none⟩) from (hD 4 36 (by kernel_rfl)), show a.eval (.tmp 37) = o.v from (hD 5 37 (by kernel_rfl))] <;> rfl)) u) (against_any u p o HSD.out)) ?_
                  refine fsteps_cons 8 rfl (fun a u hE hD hk => f_val (o := ⟨some 39, _, _, _, _, _⟩) (o.v) rfl (wanted_at (b := true) true rfl rfl (hD 3 35 (by kernel_rfl))) (exec_ldS 25 _ (.tmp 3) (g) (0) (o.cells) rfl (hE 3 (.pointer (some ⟨g, 0, none⟩)) (by kernel_rfl) (by kernel_rfl)) (range_kept HO4.out hk) Try.underlying25 (by rw [o.len9]; exact ord_size)) rfl) ?_
                  refine fsteps_cons 9 rfl (fun a u hE hD hk => f_call (o := ⟨some 40, _, _, _, _, _⟩) 64 #[.pointer (some ⟨p, offS (3 - o.side), none⟩), o.v] rfl (wanted_at (b := true) true rfl rfl (hD 3 35 (by kernel_rfl))) (exec_call 64 _ [.tmp 38, .tmp 39] _ [.pointer (some ⟨p, offS (3 - o.side), none⟩), o.v] Try.func64 (by kernel_rfl) (by kernel_rfl) rfl (show [a.eval (.tmp 38), a.eval (.tmp 39)] = [.pointer (some ⟨p, offS (3 - o.side), none⟩), o.v] from (by rw [show a.eval (.tmp 38) = .pointer (some ⟨p, offS (3 - o.side), none⟩) from (hD 6 38 (by kernel_rfl)), show a.eval (.tmp 39) = o.v from (hD 7 39 (by kernel_rfl))] <;> rfl)) u) ((by obtain ⟨F', hLd⟩ := (HB.out.kept (kx4.trans hk)).lad HS3.out; rw [← HCR.out]; exact crossed_any u F' p (offS (3 - o.side)) (3 - o.side) _ o hLd HL64.out))) ?_
                  refine sv 10 rfl rfl rfl (fun a u hE hD hk => exec_pick (.tmp 35) (.tmp 40) (.const (.bool false)) (.bool true) rfl (hD 3 35 (by kernel_rfl)) (hD 8 40 (by kernel_rfl))) ?_
                  exact fsteps_nil
                intro gv w5 hV k5
                rw [show dstsOf _ 10 = [32, 33, 34, 35, 36, 37, 38, 39, 40, 41] by kernel_rfl]
                simp only [fC, fN, sA, sS, sZ, dS, dZ]
                rw [show gv 41 = .bool true from hV 9 41 (by kernel_rfl)]
                clear hV
                refine wpList_nil ?_
                have kx := kx4.trans k5
                clear HO4 k5 kx4 hk5 hk4
                go_wp2
                go_ret
                exact ⟨by rw [HE.out]; rfl, kx⟩
              | false =>
                have HE : Hid (B.err o = 0) := by show _ = _; rw [HE0.out, if_neg (fun h => by rw [HCR.out] at h; cases h.2), if_neg (fun h => hk4 h.1)]
                go_upto_region 8 with fail
                refine wp_free 10 [.eq (.pointer (some ⟨g, 4, none⟩)), .eq (.int .i64 o.k), .eq (.bool true), .eq (.bool true), .eq (.pointer (some ⟨p, 0, none⟩)), .eq (o.v), .eq (.pointer (some ⟨p, offS (3 - o.side), none⟩)), .eq (o.v), .eq (.bool false), .eq (.bool false)] (by kernel_rfl) rfl (by kernel_rfl) ?_ ?_
                · refine sv 1 rfl rfl rfl (fun a u hE hD hk => exec_fldo 25 4 4 (.tmp 3) (g) (0) (4) rfl (hE 3 (.pointer (some ⟨g, 0, none⟩)) (by kernel_rfl) (by kernel_rfl)) (by kernel_rfl) rfl) ?_
                  refine sv 2 rfl rfl rfl (fun a u hE hD hk => exec_loadi 3 Try.underlying3 (.tmp 32) ⟨g, 4, none⟩ (.int .i64 o.k) rfl (hD 0 32 (by kernel_rfl)) (range_int (range_kept HO4.out hk) 4 _ rfl)) ?_
                  refine fsteps_cons 3 rfl (fun a u hE hD hk => f_as (show ((decide ((o.k : Int) = (5 : Int))) : Bool) = true from decide_eq_true hk5) (f_val (o := ⟨some 34, _, _, _, _, _⟩) (.bool (decide ((o.k : Int) = (5 : Int)))) rfl (wanted_none rfl _) (exec_eqn (p := o.k) (q := 5) rfl (hD 1 33 (by kernel_rfl)) rfl) rfl)) ?_
                  refine sv 4 rfl rfl rfl (fun a u hE hD hk => exec_move (.tmp 34) _ rfl (hD 2 34 (by kernel_rfl))) ?_
                  refine fsteps_cons 5 rfl (fun a u hE hD hk => f_val (o := ⟨some 36, _, _, _, _, _⟩) (.pointer (some ⟨p, 0, none⟩)) rfl (wanted_at (b := true) true rfl rfl (hD 3 35 (by kernel_rfl))) (exec_move (.tmp 0) _ rfl (hE 0 (.pointer (some ⟨p, 0, none⟩)) (by kernel_rfl) (by kernel_rfl))) rfl) ?_
                  refine fsteps_cons 6 rfl (fun a u hE hD hk => f_val (o := ⟨some 37, _, _, _, _, _⟩) (o.v) rfl (wanted_at (b := true) true rfl rfl (hD 3 35 (by kernel_rfl))) (exec_ldS 25 _ (.tmp 3) (g) (0) (o.cells) rfl (hE 3 (.pointer (some ⟨g, 0, none⟩)) (by kernel_rfl) (by kernel_rfl)) (range_kept HO4.out hk) Try.underlying25 (by rw [o.len9]; exact ord_size)) rfl) ?_
                  refine fsteps_cons 7 rfl (fun a u hE hD hk => f_call (o := ⟨some 38, _, _, _, _, _⟩) 63 #[.pointer (some ⟨p, 0, none⟩), o.v] rfl (wanted_at (b := true) true rfl rfl (hD 3 35 (by kernel_rfl))) (exec_call 63 _ [.tmp 36, .tmp 37] _ [.pointer (some ⟨p, 0, none⟩), o.v] Try.func63 (by kernel_rfl) (by kernel_rfl) rfl (show [a.eval (.tmp 36), a.eval (.tmp 37)] = [.pointer (some ⟨p, 0, none⟩), o.v] from (by rw [show a.eval (.tmp 36) = .pointer (some ⟨p, 0, none⟩) from (hD 4 36 (by kernel_rfl)), show a.eval (.tmp 37) = o.v from (hD 5 37 (by kernel_rfl))] <;> rfl)) u) (against_any u p o HSD.out)) ?_
                  refine fsteps_cons 8 rfl (fun a u hE hD hk => f_val (o := ⟨some 39, _, _, _, _, _⟩) (o.v) rfl (wanted_at (b := true) true rfl rfl (hD 3 35 (by kernel_rfl))) (exec_ldS 25 _ (.tmp 3) (g) (0) (o.cells) rfl (hE 3 (.pointer (some ⟨g, 0, none⟩)) (by kernel_rfl) (by kernel_rfl)) (range_kept HO4.out hk) Try.underlying25 (by rw [o.len9]; exact ord_size)) rfl) ?_
                  refine fsteps_cons 9 rfl (fun a u hE hD hk => f_call (o := ⟨some 40, _, _, _, _, _⟩) 64 #[.pointer (some ⟨p, offS (3 - o.side), none⟩), o.v] rfl (wanted_at (b := true) true rfl rfl (hD 3 35 (by kernel_rfl))) (exec_call 64 _ [.tmp 38, .tmp 39] _ [.pointer (some ⟨p, offS (3 - o.side), none⟩), o.v] Try.func64 (by kernel_rfl) (by kernel_rfl) rfl (show [a.eval (.tmp 38), a.eval (.tmp 39)] = [.pointer (some ⟨p, offS (3 - o.side), none⟩), o.v] from (by rw [show a.eval (.tmp 38) = .pointer (some ⟨p, offS (3 - o.side), none⟩) from (hD 6 38 (by kernel_rfl)), show a.eval (.tmp 39) = o.v from (hD 7 39 (by kernel_rfl))] <;> rfl)) u) ((by obtain ⟨F', hLd⟩ := (HB.out.kept (kx4.trans hk)).lad HS3.out; rw [← HCR.out]; exact crossed_any u F' p (offS (3 - o.side)) (3 - o.side) _ o hLd HL64.out))) ?_
                  refine sv 10 rfl rfl rfl (fun a u hE hD hk => exec_pick (.tmp 35) (.tmp 40) (.const (.bool false)) (.bool false) rfl (hD 3 35 (by kernel_rfl)) (hD 8 40 (by kernel_rfl))) ?_
                  exact fsteps_nil
                intro gv w5 hV k5
                rw [show dstsOf _ 10 = [32, 33, 34, 35, 36, 37, 38, 39, 40, 41] by kernel_rfl]
                simp only [fC, fN, sA, sS, sZ, dS, dZ]
                rw [show gv 41 = .bool false from hV 9 41 (by kernel_rfl)]
                clear hV
                refine wpList_nil ?_
                have kx5 := kx4.trans k5
                have HO5 := Lib.hid (range_kept HO4.out k5)
                clear HO4 k5 kx4 hk5
                go_upto_region 10 with fail
                refine wp_free 13 [.eq (.pointer (some ⟨g, 4, none⟩)), .eq (.int .i64 o.k), .eq (.bool false), .eq (.bool false), .eq undef, .eq undef, .eq undef, .eq undef, .eq undef, .eq undef, .eq undef, .eq undef, .eq (.bool false)] (by kernel_rfl) rfl (by kernel_rfl) ?_ ?_
                · refine sv 1 rfl rfl rfl (fun a u hE hD hk => exec_fldo 25 4 4 (.tmp 3) (g) (0) (4) rfl (hE 3 (.pointer (some ⟨g, 0, none⟩)) (by kernel_rfl) (by kernel_rfl)) (by kernel_rfl) rfl) ?_
                  refine sv 2 rfl rfl rfl (fun a u hE hD hk => exec_loadi 3 Try.underlying3 (.tmp 42) ⟨g, 4, none⟩ (.int .i64 o.k) rfl (hD 0 42 (by kernel_rfl)) (range_int (range_kept HO5.out hk) 4 _ rfl)) ?_
                  refine fsteps_cons 3 rfl (fun a u hE hD hk => f_as (show ((decide ((o.k : Int) = (4 : Int))) : Bool) = false from decide_eq_false hk4) (f_val (o := ⟨some 44, _, _, _, _, _⟩) (.bool (decide ((o.k : Int) = (4 : Int)))) rfl (wanted_none rfl _) (exec_eqn (p := o.k) (q := 4) rfl (hD 1 43 (by kernel_rfl)) rfl) rfl)) ?_
                  refine sv 4 rfl rfl rfl (fun a u hE hD hk => exec_move (.tmp 44) _ rfl (hD 2 44 (by kernel_rfl))) ?_
                  refine fsteps_cons 5 rfl (fun a u hE hD hk => f_skip (o := ⟨some 46, _, _, _, _, _⟩) rfl (wanted_at (b := true) false rfl rfl (hD 3 45 (by kernel_rfl))) rfl) ?_
                  refine fsteps_cons 6 rfl (fun a u hE hD hk => f_skip (o := ⟨some 47, _, _, _, _, _⟩) rfl (wanted_at (b := true) false rfl rfl (hD 3 45 (by kernel_rfl))) rfl) ?_
                  refine fsteps_cons 7 rfl (fun a u hE hD hk => f_skip (o := ⟨some 48, _, _, _, _, _⟩) rfl (wanted_at (b := true) false rfl rfl (hD 3 45 (by kernel_rfl))) rfl) ?_
                  refine fsteps_cons 8 rfl (fun a u hE hD hk => f_skip (o := ⟨some 49, _, _, _, _, _⟩) rfl (wanted_at (b := true) false rfl rfl (hD 3 45 (by kernel_rfl))) rfl) ?_
                  refine fsteps_cons 9 rfl (fun a u hE hD hk => f_skip (o := ⟨some 50, _, _, _, _, _⟩) rfl (wanted_at (b := true) false rfl rfl (hD 3 45 (by kernel_rfl))) rfl) ?_
                  refine fsteps_cons 10 rfl (fun a u hE hD hk => f_skip (o := ⟨some 51, _, _, _, _, _⟩) rfl (wanted_at (b := true) false rfl rfl (hD 3 45 (by kernel_rfl))) rfl) ?_
                  refine fsteps_cons 11 rfl (fun a u hE hD hk => f_skip (o := ⟨some 52, _, _, _, _, _⟩) rfl (wanted_at (b := true) false rfl rfl (hD 3 45 (by kernel_rfl))) rfl) ?_
                  refine fsteps_cons 12 rfl (fun a u hE hD hk => f_skip (o := ⟨some 53, _, _, _, _, _⟩) rfl (wanted_at (b := true) false rfl rfl (hD 3 45 (by kernel_rfl))) rfl) ?_
                  refine sv 13 rfl rfl rfl (fun a u hE hD hk => exec_pickF (.tmp 45) (.tmp 53) (.const (.bool false)) (.bool false) rfl (hD 3 45 (by kernel_rfl)) rfl) ?_
                  exact fsteps_nil
                intro gv w6 hV k6
                rw [show dstsOf _ 13 = [42, 43, 44, 45, 46, 47, 48, 49, 50, 51, 52, 53, 54] by kernel_rfl]
                simp only [fC, fN, sA, sS, sZ, dS, dZ]
                rw [show gv 54 = .bool false from hV 12 54 (by kernel_rfl)]
                clear hV
                refine wpList_nil ?_
                have kx := kx5.trans k6
                clear HO5 k6 kx5 hk4
                go_wp2
                go_ret
                exact ⟨by rw [HE.out]; rfl, kx⟩
            · skip
              go_upto_region 8 with fail
              refine wp_free 10 [.eq (.pointer (some ⟨g, 4, none⟩)), .eq (.int .i64 o.k), .eq (.bool false), .eq (.bool false), .eq undef, .eq undef, .eq undef, .eq undef, .eq undef, .eq (.bool false)] (by kernel_rfl) rfl (by kernel_rfl) ?_ ?_
              · refine sv 1 rfl rfl rfl (fun a u hE hD hk => exec_fldo 25 4 4 (.tmp 3) (g) (0) (4) rfl (hE 3 (.pointer (some ⟨g, 0, none⟩)) (by kernel_rfl) (by kernel_rfl)) (by kernel_rfl) rfl) ?_
                refine sv 2 rfl rfl rfl (fun a u hE hD hk => exec_loadi 3 Try.underlying3 (.tmp 32) ⟨g, 4, none⟩ (.int .i64 o.k) rfl (hD 0 32 (by kernel_rfl)) (range_int (range_kept HO4.out hk) 4 _ rfl)) ?_
                refine fsteps_cons 3 rfl (fun a u hE hD hk => f_as (show ((decide ((o.k : Int) = (5 : Int))) : Bool) = false from decide_eq_false hk5) (f_val (o := ⟨some 34, _, _, _, _, _⟩) (.bool (decide ((o.k : Int) = (5 : Int)))) rfl (wanted_none rfl _) (exec_eqn (p := o.k) (q := 5) rfl (hD 1 33 (by kernel_rfl)) rfl) rfl)) ?_
                refine sv 4 rfl rfl rfl (fun a u hE hD hk => exec_move (.tmp 34) _ rfl (hD 2 34 (by kernel_rfl))) ?_
                refine fsteps_cons 5 rfl (fun a u hE hD hk => f_skip (o := ⟨some 36, _, _, _, _, _⟩) rfl (wanted_at (b := true) false rfl rfl (hD 3 35 (by kernel_rfl))) rfl) ?_
                refine fsteps_cons 6 rfl (fun a u hE hD hk => f_skip (o := ⟨some 37, _, _, _, _, _⟩) rfl (wanted_at (b := true) false rfl rfl (hD 3 35 (by kernel_rfl))) rfl) ?_
                refine fsteps_cons 7 rfl (fun a u hE hD hk => f_skip (o := ⟨some 38, _, _, _, _, _⟩) rfl (wanted_at (b := true) false rfl rfl (hD 3 35 (by kernel_rfl))) rfl) ?_
                refine fsteps_cons 8 rfl (fun a u hE hD hk => f_skip (o := ⟨some 39, _, _, _, _, _⟩) rfl (wanted_at (b := true) false rfl rfl (hD 3 35 (by kernel_rfl))) rfl) ?_
                refine fsteps_cons 9 rfl (fun a u hE hD hk => f_skip (o := ⟨some 40, _, _, _, _, _⟩) rfl (wanted_at (b := true) false rfl rfl (hD 3 35 (by kernel_rfl))) rfl) ?_
                refine sv 10 rfl rfl rfl (fun a u hE hD hk => exec_pickF (.tmp 35) (.tmp 40) (.const (.bool false)) (.bool false) rfl (hD 3 35 (by kernel_rfl)) rfl) ?_
                exact fsteps_nil
              intro gv w5 hV k5
              rw [show dstsOf _ 10 = [32, 33, 34, 35, 36, 37, 38, 39, 40, 41] by kernel_rfl]
              simp only [fC, fN, sA, sS, sZ, dS, dZ]
              rw [show gv 41 = .bool false from hV 9 41 (by kernel_rfl)]
              clear hV
              refine wpList_nil ?_
              have kx5 := kx4.trans k5
              have HO5 := Lib.hid (range_kept HO4.out k5)
              have HN5 := Lib.hid hk5
              clear HO4 k5 kx4 hk5
              by_cases hk4 : o.k = 4
              · skip
                have HK4 := Lib.hid hk4
                by_cases hgv : gv0 < o.qty
                · have HE : Hid (B.err o = 12) := by show _ = _; rw [HE0.out, if_neg (fun h => HN5.out h.1), if_pos ⟨hk4, HGL.out.1 hgv⟩]
                  go_upto_region 10 with fail
                  refine wp_free 13 [.eq (.pointer (some ⟨g, 4, none⟩)), .eq (.int .i64 o.k), .eq (.bool true), .eq (.bool true), .eq (.pointer (some ⟨p, 0, none⟩)), .eq (o.v), .eq (.pointer (some ⟨p, offS (3 - o.side), none⟩)), .eq (o.v), .eq (.int .i64 gv0), .eq (.pointer (some ⟨g, 6, none⟩)), .eq (.int .i64 o.qty), .eq (.bool true), .eq (.bool true)] (by kernel_rfl) rfl (by kernel_rfl) ?_ ?_
                  · refine sv 1 rfl rfl rfl (fun a u hE hD hk => exec_fldo 25 4 4 (.tmp 3) (g) (0) (4) rfl (hE 3 (.pointer (some ⟨g, 0, none⟩)) (by kernel_rfl) (by kernel_rfl)) (by kernel_rfl) rfl) ?_
                    refine sv 2 rfl rfl rfl (fun a u hE hD hk => exec_loadi 3 Try.underlying3 (.tmp 42) ⟨g, 4, none⟩ (.int .i64 o.k) rfl (hD 0 42 (by kernel_rfl)) (range_int (range_kept HO5.out hk) 4 _ rfl)) ?_
                    refine fsteps_cons 3 rfl (fun a u hE hD hk => f_as (show ((decide ((o.k : Int) = (4 : Int))) : Bool) = true from decide_eq_true hk4) (f_val (o := ⟨some 44, _, _, _, _, _⟩) (.bool (decide ((o.k : Int) = (4 : Int)))) rfl (wanted_none rfl _) (exec_eqn (p := o.k) (q := 4) rfl (hD 1 43 (by kernel_rfl)) rfl) rfl)) ?_
                    refine sv 4 rfl rfl rfl (fun a u hE hD hk => exec_move (.tmp 44) _ rfl (hD 2 44 (by kernel_rfl))) ?_
                    refine fsteps_cons 5 rfl (fun a u hE hD hk => f_val (o := ⟨some 46, _, _, _, _, _⟩) (.pointer (some ⟨p, 0, none⟩)) rfl (wanted_at (b := true) true rfl rfl (hD 3 45 (by kernel_rfl))) (exec_move (.tmp 0) _ rfl (hE 0 (.pointer (some ⟨p, 0, none⟩)) (by kernel_rfl) (by kernel_rfl))) rfl) ?_
                    refine fsteps_cons 6 rfl (fun a u hE hD hk => f_val (o := ⟨some 47, _, _, _, _, _⟩) (o.v) rfl (wanted_at (b := true) true rfl rfl (hD 3 45 (by kernel_rfl))) (exec_ldS 25 _ (.tmp 3) (g) (0) (o.cells) rfl (hE 3 (.pointer (some ⟨g, 0, none⟩)) (by kernel_rfl) (by kernel_rfl)) (range_kept HO5.out hk) Try.underlying25 (by rw [o.len9]; exact ord_size)) rfl) ?_
                    refine fsteps_cons 7 rfl (fun a u hE hD hk => f_call (o := ⟨some 48, _, _, _, _, _⟩) 63 #[.pointer (some ⟨p, 0, none⟩), o.v] rfl (wanted_at (b := true) true rfl rfl (hD 3 45 (by kernel_rfl))) (exec_call 63 _ [.tmp 46, .tmp 47] _ [.pointer (some ⟨p, 0, none⟩), o.v] Try.func63 (by kernel_rfl) (by kernel_rfl) rfl (show [a.eval (.tmp 46), a.eval (.tmp 47)] = [.pointer (some ⟨p, 0, none⟩), o.v] from (by rw [show a.eval (.tmp 46) = .pointer (some ⟨p, 0, none⟩) from (hD 4 46 (by kernel_rfl)), show a.eval (.tmp 47) = o.v from (hD 5 47 (by kernel_rfl))] <;> rfl)) u) (against_any u p o HSD.out)) ?_
                    refine fsteps_cons 8 rfl (fun a u hE hD hk => f_val (o := ⟨some 49, _, _, _, _, _⟩) (o.v) rfl (wanted_at (b := true) true rfl rfl (hD 3 45 (by kernel_rfl))) (exec_ldS 25 _ (.tmp 3) (g) (0) (o.cells) rfl (hE 3 (.pointer (some ⟨g, 0, none⟩)) (by kernel_rfl) (by kernel_rfl)) (range_kept HO5.out hk) Try.underlying25 (by rw [o.len9]; exact ord_size)) rfl) ?_
                    refine fsteps_cons 9 rfl (fun a u hE hD hk => f_call (o := ⟨some 50, _, _, _, _, _⟩) 65 #[.pointer (some ⟨p, offS (3 - o.side), none⟩), o.v] rfl (wanted_at (b := true) true rfl rfl (hD 3 45 (by kernel_rfl))) (exec_call 65 _ [.tmp 48, .tmp 49] _ [.pointer (some ⟨p, offS (3 - o.side), none⟩), o.v] Try.func65 (by kernel_rfl) (by kernel_rfl) rfl (show [a.eval (.tmp 48), a.eval (.tmp 49)] = [.pointer (some ⟨p, offS (3 - o.side), none⟩), o.v] from (by rw [show a.eval (.tmp 48) = .pointer (some ⟨p, offS (3 - o.side), none⟩) from (hD 6 48 (by kernel_rfl)), show a.eval (.tmp 49) = o.v from (hD 7 49 (by kernel_rfl))] <;> rfl)) u) ((by obtain ⟨F', hLd⟩ := (HB.out.kept (kx5.trans hk)).lad HS3.out; rw [← HGV.out]; exact gives_any u F' p (offS (3 - o.side)) (3 - o.side) (3 - o.side) _ o hLd HSID.out))) ?_
                    refine fsteps_cons 10 rfl (fun a u hE hD hk => f_val (o := ⟨some 51, _, _, _, _, _⟩) (.pointer (some ⟨g, 6, none⟩)) rfl (wanted_at (b := true) true rfl rfl (hD 3 45 (by kernel_rfl))) (exec_fldo 25 6 6 (.tmp 3) (g) (0) (6) rfl (hE 3 (.pointer (some ⟨g, 0, none⟩)) (by kernel_rfl) (by kernel_rfl)) (by kernel_rfl) rfl) rfl) ?_
                    refine fsteps_cons 11 rfl (fun a u hE hD hk => f_val (o := ⟨some 52, _, _, _, _, _⟩) (.int .i64 o.qty) rfl (wanted_at (b := true) true rfl rfl (hD 3 45 (by kernel_rfl))) (exec_loadi 3 Try.underlying3 (.tmp 51) ⟨g, 6, none⟩ (.int .i64 o.qty) rfl (hD 9 51 (by kernel_rfl)) (range_int (range_kept HO5.out hk) 6 _ rfl)) rfl) ?_
                    refine fsteps_cons 12 rfl (fun a u hE hD hk => f_as (show ((decide ((gv0 : Int) < (o.qty : Int))) : Bool) = true from decide_eq_true hgv) (f_val (o := ⟨some 53, _, _, _, _, _⟩) (.bool (decide ((gv0 : Int) < (o.qty : Int)))) rfl (wanted_at (b := true) true rfl rfl (hD 3 45 (by kernel_rfl))) (exec_ltn (p := gv0) (q := o.qty) rfl (hD 8 50 (by kernel_rfl)) (hD 10 52 (by kernel_rfl))) rfl)) ?_
                    refine sv 13 rfl rfl rfl (fun a u hE hD hk => exec_pick (.tmp 45) (.tmp 53) (.const (.bool false)) (.bool true) rfl (hD 3 45 (by kernel_rfl)) (hD 11 53 (by kernel_rfl))) ?_
                    exact fsteps_nil
                  intro gv w6 hV k6
                  rw [show dstsOf _ 13 = [42, 43, 44, 45, 46, 47, 48, 49, 50, 51, 52, 53, 54] by kernel_rfl]
                  simp only [fC, fN, sA, sS, sZ, dS, dZ]
                  rw [show gv 54 = .bool true from hV 12 54 (by kernel_rfl)]
                  clear hV
                  refine wpList_nil ?_
                  have kx := kx5.trans k6
                  clear HO5 k6 kx5 hk4 hgv
                  go_wp2
                  go_ret
                  exact ⟨by rw [HE.out]; rfl, kx⟩
                · have HE : Hid (B.err o = 0) := by show _ = _; rw [HE0.out, if_neg (fun h => HN5.out h.1), if_neg (fun h => hgv (HGL.out.2 h.2))]
                  go_upto_region 10 with fail
                  refine wp_free 13 [.eq (.pointer (some ⟨g, 4, none⟩)), .eq (.int .i64 o.k), .eq (.bool true), .eq (.bool true), .eq (.pointer (some ⟨p, 0, none⟩)), .eq (o.v), .eq (.pointer (some ⟨p, offS (3 - o.side), none⟩)), .eq (o.v), .eq (.int .i64 gv0), .eq (.pointer (some ⟨g, 6, none⟩)), .eq (.int .i64 o.qty), .eq (.bool false), .eq (.bool false)] (by kernel_rfl) rfl (by kernel_rfl) ?_ ?_
                  · refine sv 1 rfl rfl rfl (fun a u hE hD hk => exec_fldo 25 4 4 (.tmp 3) (g) (0) (4) rfl (hE 3 (.pointer (some ⟨g, 0, none⟩)) (by kernel_rfl) (by kernel_rfl)) (by kernel_rfl) rfl) ?_
                    refine sv 2 rfl rfl rfl (fun a u hE hD hk => exec_loadi 3 Try.underlying3 (.tmp 42) ⟨g, 4, none⟩ (.int .i64 o.k) rfl (hD 0 42 (by kernel_rfl)) (range_int (range_kept HO5.out hk) 4 _ rfl)) ?_
                    refine fsteps_cons 3 rfl (fun a u hE hD hk => f_as (show ((decide ((o.k : Int) = (4 : Int))) : Bool) = true from decide_eq_true hk4) (f_val (o := ⟨some 44, _, _, _, _, _⟩) (.bool (decide ((o.k : Int) = (4 : Int)))) rfl (wanted_none rfl _) (exec_eqn (p := o.k) (q := 4) rfl (hD 1 43 (by kernel_rfl)) rfl) rfl)) ?_
                    refine sv 4 rfl rfl rfl (fun a u hE hD hk => exec_move (.tmp 44) _ rfl (hD 2 44 (by kernel_rfl))) ?_
                    refine fsteps_cons 5 rfl (fun a u hE hD hk => f_val (o := ⟨some 46, _, _, _, _, _⟩) (.pointer (some ⟨p, 0, none⟩)) rfl (wanted_at (b := true) true rfl rfl (hD 3 45 (by kernel_rfl))) (exec_move (.tmp 0) _ rfl (hE 0 (.pointer (some ⟨p, 0, none⟩)) (by kernel_rfl) (by kernel_rfl))) rfl) ?_
                    refine fsteps_cons 6 rfl (fun a u hE hD hk => f_val (o := ⟨some 47, _, _, _, _, _⟩) (o.v) rfl (wanted_at (b := true) true rfl rfl (hD 3 45 (by kernel_rfl))) (exec_ldS 25 _ (.tmp 3) (g) (0) (o.cells) rfl (hE 3 (.pointer (some ⟨g, 0, none⟩)) (by kernel_rfl) (by kernel_rfl)) (range_kept HO5.out hk) Try.underlying25 (by rw [o.len9]; exact ord_size)) rfl) ?_
                    refine fsteps_cons 7 rfl (fun a u hE hD hk => f_call (o := ⟨some 48, _, _, _, _, _⟩) 63 #[.pointer (some ⟨p, 0, none⟩), o.v] rfl (wanted_at (b := true) true rfl rfl (hD 3 45 (by kernel_rfl))) (exec_call 63 _ [.tmp 46, .tmp 47] _ [.pointer (some ⟨p, 0, none⟩), o.v] Try.func63 (by kernel_rfl) (by kernel_rfl) rfl (show [a.eval (.tmp 46), a.eval (.tmp 47)] = [.pointer (some ⟨p, 0, none⟩), o.v] from (by rw [show a.eval (.tmp 46) = .pointer (some ⟨p, 0, none⟩) from (hD 4 46 (by kernel_rfl)), show a.eval (.tmp 47) = o.v from (hD 5 47 (by kernel_rfl))] <;> rfl)) u) (against_any u p o HSD.out)) ?_
                    refine fsteps_cons 8 rfl (fun a u hE hD hk => f_val (o := ⟨some 49, _, _, _, _, _⟩) (o.v) rfl (wanted_at (b := true) true rfl rfl (hD 3 45 (by kernel_rfl))) (exec_ldS 25 _ (.tmp 3) (g) (0) (o.cells) rfl (hE 3 (.pointer (some ⟨g, 0, none⟩)) (by kernel_rfl) (by kernel_rfl)) (range_kept HO5.out hk) Try.underlying25 (by rw [o.len9]; exact ord_size)) rfl) ?_
                    refine fsteps_cons 9 rfl (fun a u hE hD hk => f_call (o := ⟨some 50, _, _, _, _, _⟩) 65 #[.pointer (some ⟨p, offS (3 - o.side), none⟩), o.v] rfl (wanted_at (b := true) true rfl rfl (hD 3 45 (by kernel_rfl))) (exec_call 65 _ [.tmp 48, .tmp 49] _ [.pointer (some ⟨p, offS (3 - o.side), none⟩), o.v] Try.func65 (by kernel_rfl) (by kernel_rfl) rfl (show [a.eval (.tmp 48), a.eval (.tmp 49)] = [.pointer (some ⟨p, offS (3 - o.side), none⟩), o.v] from (by rw [show a.eval (.tmp 48) = .pointer (some ⟨p, offS (3 - o.side), none⟩) from (hD 6 48 (by kernel_rfl)), show a.eval (.tmp 49) = o.v from (hD 7 49 (by kernel_rfl))] <;> rfl)) u) ((by obtain ⟨F', hLd⟩ := (HB.out.kept (kx5.trans hk)).lad HS3.out; rw [← HGV.out]; exact gives_any u F' p (offS (3 - o.side)) (3 - o.side) (3 - o.side) _ o hLd HSID.out))) ?_
                    refine fsteps_cons 10 rfl (fun a u hE hD hk => f_val (o := ⟨some 51, _, _, _, _, _⟩) (.pointer (some ⟨g, 6, none⟩)) rfl (wanted_at (b := true) true rfl rfl (hD 3 45 (by kernel_rfl))) (exec_fldo 25 6 6 (.tmp 3) (g) (0) (6) rfl (hE 3 (.pointer (some ⟨g, 0, none⟩)) (by kernel_rfl) (by kernel_rfl)) (by kernel_rfl) rfl) rfl) ?_
                    refine fsteps_cons 11 rfl (fun a u hE hD hk => f_val (o := ⟨some 52, _, _, _, _, _⟩) (.int .i64 o.qty) rfl (wanted_at (b := true) true rfl rfl (hD 3 45 (by kernel_rfl))) (exec_loadi 3 Try.underlying3 (.tmp 51) ⟨g, 6, none⟩ (.int .i64 o.qty) rfl (hD 9 51 (by kernel_rfl)) (range_int (range_kept HO5.out hk) 6 _ rfl)) rfl) ?_
                    refine fsteps_cons 12 rfl (fun a u hE hD hk => f_as (show ((decide ((gv0 : Int) < (o.qty : Int))) : Bool) = false from decide_eq_false hgv) (f_val (o := ⟨some 53, _, _, _, _, _⟩) (.bool (decide ((gv0 : Int) < (o.qty : Int)))) rfl (wanted_at (b := true) true rfl rfl (hD 3 45 (by kernel_rfl))) (exec_ltn (p := gv0) (q := o.qty) rfl (hD 8 50 (by kernel_rfl)) (hD 10 52 (by kernel_rfl))) rfl)) ?_
                    refine sv 13 rfl rfl rfl (fun a u hE hD hk => exec_pick (.tmp 45) (.tmp 53) (.const (.bool false)) (.bool false) rfl (hD 3 45 (by kernel_rfl)) (hD 11 53 (by kernel_rfl))) ?_
                    exact fsteps_nil
                  intro gv w6 hV k6
                  rw [show dstsOf _ 13 = [42, 43, 44, 45, 46, 47, 48, 49, 50, 51, 52, 53, 54] by kernel_rfl]
                  simp only [fC, fN, sA, sS, sZ, dS, dZ]
                  rw [show gv 54 = .bool false from hV 12 54 (by kernel_rfl)]
                  clear hV
                  refine wpList_nil ?_
                  have kx := kx5.trans k6
                  clear HO5 k6 kx5 hk4 hgv
                  go_wp2
                  go_ret
                  exact ⟨by rw [HE.out]; rfl, kx⟩
              · have HE : Hid (B.err o = 0) := by show _ = _; rw [HE0.out, if_neg (fun h => HN5.out h.1), if_neg (fun h => hk4 h.1)]
                go_upto_region 10 with fail
                refine wp_free 13 [.eq (.pointer (some ⟨g, 4, none⟩)), .eq (.int .i64 o.k), .eq (.bool false), .eq (.bool false), .eq undef, .eq undef, .eq undef, .eq undef, .eq undef, .eq undef, .eq undef, .eq undef, .eq (.bool false)] (by kernel_rfl) rfl (by kernel_rfl) ?_ ?_
                · refine sv 1 rfl rfl rfl (fun a u hE hD hk => exec_fldo 25 4 4 (.tmp 3) (g) (0) (4) rfl (hE 3 (.pointer (some ⟨g, 0, none⟩)) (by kernel_rfl) (by kernel_rfl)) (by kernel_rfl) rfl) ?_
                  refine sv 2 rfl rfl rfl (fun a u hE hD hk => exec_loadi 3 Try.underlying3 (.tmp 42) ⟨g, 4, none⟩ (.int .i64 o.k) rfl (hD 0 42 (by kernel_rfl)) (range_int (range_kept HO5.out hk) 4 _ rfl)) ?_
                  refine fsteps_cons 3 rfl (fun a u hE hD hk => f_as (show ((decide ((o.k : Int) = (4 : Int))) : Bool) = false from decide_eq_false hk4) (f_val (o := ⟨some 44, _, _, _, _, _⟩) (.bool (decide ((o.k : Int) = (4 : Int)))) rfl (wanted_none rfl _) (exec_eqn (p := o.k) (q := 4) rfl (hD 1 43 (by kernel_rfl)) rfl) rfl)) ?_
                  refine sv 4 rfl rfl rfl (fun a u hE hD hk => exec_move (.tmp 44) _ rfl (hD 2 44 (by kernel_rfl))) ?_
                  refine fsteps_cons 5 rfl (fun a u hE hD hk => f_skip (o := ⟨some 46, _, _, _, _, _⟩) rfl (wanted_at (b := true) false rfl rfl (hD 3 45 (by kernel_rfl))) rfl) ?_
                  refine fsteps_cons 6 rfl (fun a u hE hD hk => f_skip (o := ⟨some 47, _, _, _, _, _⟩) rfl (wanted_at (b := true) false rfl rfl (hD 3 45 (by kernel_rfl))) rfl) ?_
                  refine fsteps_cons 7 rfl (fun a u hE hD hk => f_skip (o := ⟨some 48, _, _, _, _, _⟩) rfl (wanted_at (b := true) false rfl rfl (hD 3 45 (by kernel_rfl))) rfl) ?_
                  refine fsteps_cons 8 rfl (fun a u hE hD hk => f_skip (o := ⟨some 49, _, _, _, _, _⟩) rfl (wanted_at (b := true) false rfl rfl (hD 3 45 (by kernel_rfl))) rfl) ?_
                  refine fsteps_cons 9 rfl (fun a u hE hD hk => f_skip (o := ⟨some 50, _, _, _, _, _⟩) rfl (wanted_at (b := true) false rfl rfl (hD 3 45 (by kernel_rfl))) rfl) ?_
                  refine fsteps_cons 10 rfl (fun a u hE hD hk => f_skip (o := ⟨some 51, _, _, _, _, _⟩) rfl (wanted_at (b := true) false rfl rfl (hD 3 45 (by kernel_rfl))) rfl) ?_
                  refine fsteps_cons 11 rfl (fun a u hE hD hk => f_skip (o := ⟨some 52, _, _, _, _, _⟩) rfl (wanted_at (b := true) false rfl rfl (hD 3 45 (by kernel_rfl))) rfl) ?_
                  refine fsteps_cons 12 rfl (fun a u hE hD hk => f_skip (o := ⟨some 53, _, _, _, _, _⟩) rfl (wanted_at (b := true) false rfl rfl (hD 3 45 (by kernel_rfl))) rfl) ?_
                  refine sv 13 rfl rfl rfl (fun a u hE hD hk => exec_pickF (.tmp 45) (.tmp 53) (.const (.bool false)) (.bool false) rfl (hD 3 45 (by kernel_rfl)) rfl) ?_
                  exact fsteps_nil
                intro gv w6 hV k6
                rw [show dstsOf _ 13 = [42, 43, 44, 45, 46, 47, 48, 49, 50, 51, 52, 53, 54] by kernel_rfl]
                simp only [fC, fN, sA, sS, sZ, dS, dZ]
                rw [show gv 54 = .bool false from hV 12 54 (by kernel_rfl)]
                clear hV
                refine wpList_nil ?_
                have kx := kx5.trans k6
                clear HO5 k6 kx5 hk4
                go_wp2
                go_ret
                exact ⟨by rw [HE.out]; rfl, kx⟩
          | false =>
            clear hfull
            go_upto_region 6 with fail
            refine wp_text 7 [.eq (o.v), .eq (.bool false), .eq (.bool false), .eq undef, .eq undef, .eq undef, .eq (.bool false)] rfl (by kernel_rfl) ?_ ?_
            · refine sv 1 rfl rfl rfl (fun a u hE hD hk => exec_ldS 25 _ (.tmp 3) (g) (0) (o.cells) rfl (hE 3 (.pointer (some ⟨g, 0, none⟩)) (by kernel_rfl) (by kernel_rfl)) (range_kept HO3.out hk) Try.underlying25 (by rw [o.len9]; exact ord_size)) ?_
              refine fsteps_cons 2 rfl (fun a u hE hD hk => f_call (o := ⟨some 26, _, _, _, _, _⟩) 41 #[o.v] rfl (wanted_none rfl _) (exec_call 41 _ [.tmp 25] _ [o.v] Try.func41 (by kernel_rfl) (by kernel_rfl) rfl (show [a.eval (.tmp 25)] = [o.v] from (by rw [show a.eval (.tmp 25) = o.v from (hD 0 25 (by kernel_rfl))] <;> rfl)) u) ((by rw [← HMR.out]; exact mayRest_any u o))) ?_
              refine sv 3 rfl rfl rfl (fun a u hE hD hk => exec_move (.tmp 26) _ rfl (hD 1 26 (by kernel_rfl))) ?_
              refine fsteps_cons 4 rfl (fun a u hE hD hk => f_skip (o := ⟨some 28, _, _, _, _, _⟩) rfl (wanted_at (b := true) false rfl rfl (hD 2 27 (by kernel_rfl))) rfl) ?_
              refine fsteps_cons 5 rfl (fun a u hE hD hk => f_skip (o := ⟨some 29, _, _, _, _, _⟩) rfl (wanted_at (b := true) false rfl rfl (hD 2 27 (by kernel_rfl))) rfl) ?_
              refine fsteps_cons 6 rfl (fun a u hE hD hk => f_skip (o := ⟨some 30, _, _, _, _, _⟩) rfl (wanted_at (b := true) false rfl rfl (hD 2 27 (by kernel_rfl))) rfl) ?_
              refine sv 7 rfl rfl rfl (fun a u hE hD hk => exec_pickF (.tmp 27) (.tmp 30) (.const (.bool false)) (.bool false) rfl (hD 2 27 (by kernel_rfl)) rfl) ?_
              exact fsteps_nil
            intro gv w4 hV k4
            rw [show dstsOf _ 7 = [25, 26, 27, 28, 29, 30, 31] by kernel_rfl]
            simp only [fC, fN, sA, sS, sZ, dS, dZ]
            rw [show gv 31 = .bool false from hV 6 31 (by kernel_rfl)]
            clear hV
            refine wpList_nil ?_
            have kx4 := kx3.trans k4
            have HO4 := Lib.hid (range_kept HO3.out k4)
            clear HO3 k4 kx3
            by_cases hk5 : o.k = 5
            · skip
              have HK5 := Lib.hid hk5
              have hk4 : ¬ o.k = 4 := by omega
              cases mb with
              | true =>
                have HE : Hid (B.err o = 11) := by show _ = _; rw [HE0.out, if_pos ⟨hk5, HCR.out⟩]
                go_upto_region 8 with fail
                refine wp_free 10 [.eq (.pointer (some ⟨g, 4, none⟩)), .eq (.int .i64 o.k), .eq (.bool true), .eq (.bool true), .eq (.pointer (some ⟨p, 0, none⟩)), .eq (o.v), .eq (.pointer (some ⟨p, offS (3 - o.side), none⟩)), .eq (o.v), .eq (.bool true), .eq (.bool true)] (by kernel_rfl) rfl (by kernel_rfl) ?_ ?_
                · refine sv 1 rfl rfl rfl (fun a u hE hD hk => exec_fldo 25 4 4 (.tmp 3) (g) (0) (4) rfl (hE 3 (.pointer (some ⟨g, 0, none⟩)) (by kernel_rfl) (by kernel_rfl)) (by kernel_rfl) rfl) ?_
                  refine sv 2 rfl rfl rfl (fun a u hE hD hk => exec_loadi 3 Try.underlying3 (.tmp 32) ⟨g, 4, none⟩ (.int .i64 o.k) rfl (hD 0 32 (by kernel_rfl)) (range_int (range_kept HO4.out hk) 4 _ rfl)) ?_
                  refine fsteps_cons 3 rfl (fun a u hE hD hk => f_as (show ((decide ((o.k : Int) = (5 : Int))) : Bool) = true from decide_eq_true hk5) (f_val (o := ⟨some 34, _, _, _, _, _⟩) (.bool (decide ((o.k : Int) = (5 : Int)))) rfl (wanted_none rfl _) (exec_eqn (p := o.k) (q := 5) rfl (hD 1 33 (by kernel_rfl)) rfl) rfl)) ?_
                  refine sv 4 rfl rfl rfl (fun a u hE hD hk => exec_move (.tmp 34) _ rfl (hD 2 34 (by kernel_rfl))) ?_
                  refine fsteps_cons 5 rfl (fun a u hE hD hk => f_val (o := ⟨some 36, _, _, _, _, _⟩) (.pointer (some ⟨p, 0, none⟩)) rfl (wanted_at (b := true) true rfl rfl (hD 3 35 (by kernel_rfl))) (exec_move (.tmp 0) _ rfl (hE 0 (.pointer (some ⟨p, 0, none⟩)) (by kernel_rfl) (by kernel_rfl))) rfl) ?_
                  refine fsteps_cons 6 rfl (fun a u hE hD hk => f_val (o := ⟨some 37, _, _, _, _, _⟩) (o.v) rfl (wanted_at (b := true) true rfl rfl (hD 3 35 (by kernel_rfl))) (exec_ldS 25 _ (.tmp 3) (g) (0) (o.cells) rfl (hE 3 (.pointer (some ⟨g, 0, none⟩)) (by kernel_rfl) (by kernel_rfl)) (range_kept HO4.out hk) Try.underlying25 (by rw [o.len9]; exact ord_size)) rfl) ?_
                  refine fsteps_cons 7 rfl (fun a u hE hD hk => f_call (o := ⟨some 38, _, _, _, _, _⟩) 63 #[.pointer (some ⟨p, 0, none⟩), o.v] rfl (wanted_at (b := true) true rfl rfl (hD 3 35 (by kernel_rfl))) (exec_call 63 _ [.tmp 36, .tmp 37] _ [.pointer (some ⟨p, 0, none⟩), o.v] Try.func63 (by kernel_rfl) (by kernel_rfl) rfl (show [a.eval (.tmp 36), a.eval (.tmp 37)] = [.pointer (some ⟨p, 0, none⟩), o.v] from (by rw [show a.eval (.tmp 36) = .pointer (some ⟨p, 0, none⟩) from (hD 4 36 (by kernel_rfl)), show a.eval (.tmp 37) = o.v from (hD 5 37 (by kernel_rfl))] <;> rfl)) u) (against_any u p o HSD.out)) ?_
                  refine fsteps_cons 8 rfl (fun a u hE hD hk => f_val (o := ⟨some 39, _, _, _, _, _⟩) (o.v) rfl (wanted_at (b := true) true rfl rfl (hD 3 35 (by kernel_rfl))) (exec_ldS 25 _ (.tmp 3) (g) (0) (o.cells) rfl (hE 3 (.pointer (some ⟨g, 0, none⟩)) (by kernel_rfl) (by kernel_rfl)) (range_kept HO4.out hk) Try.underlying25 (by rw [o.len9]; exact ord_size)) rfl) ?_
                  refine fsteps_cons 9 rfl (fun a u hE hD hk => f_call (o := ⟨some 40, _, _, _, _, _⟩) 64 #[.pointer (some ⟨p, offS (3 - o.side), none⟩), o.v] rfl (wanted_at (b := true) true rfl rfl (hD 3 35 (by kernel_rfl))) (exec_call 64 _ [.tmp 38, .tmp 39] _ [.pointer (some ⟨p, offS (3 - o.side), none⟩), o.v] Try.func64 (by kernel_rfl) (by kernel_rfl) rfl (show [a.eval (.tmp 38), a.eval (.tmp 39)] = [.pointer (some ⟨p, offS (3 - o.side), none⟩), o.v] from (by rw [show a.eval (.tmp 38) = .pointer (some ⟨p, offS (3 - o.side), none⟩) from (hD 6 38 (by kernel_rfl)), show a.eval (.tmp 39) = o.v from (hD 7 39 (by kernel_rfl))] <;> rfl)) u) ((by obtain ⟨F', hLd⟩ := (HB.out.kept (kx4.trans hk)).lad HS3.out; rw [← HCR.out]; exact crossed_any u F' p (offS (3 - o.side)) (3 - o.side) _ o hLd HL64.out))) ?_
                  refine sv 10 rfl rfl rfl (fun a u hE hD hk => exec_pick (.tmp 35) (.tmp 40) (.const (.bool false)) (.bool true) rfl (hD 3 35 (by kernel_rfl)) (hD 8 40 (by kernel_rfl))) ?_
                  exact fsteps_nil
                intro gv w5 hV k5
                rw [show dstsOf _ 10 = [32, 33, 34, 35, 36, 37, 38, 39, 40, 41] by kernel_rfl]
                simp only [fC, fN, sA, sS, sZ, dS, dZ]
                rw [show gv 41 = .bool true from hV 9 41 (by kernel_rfl)]
                clear hV
                refine wpList_nil ?_
                have kx := kx4.trans k5
                clear HO4 k5 kx4 hk5 hk4
                go_wp2
                go_ret
                exact ⟨by rw [HE.out]; rfl, kx⟩
              | false =>
                have HE : Hid (B.err o = 0) := by show _ = _; rw [HE0.out, if_neg (fun h => by rw [HCR.out] at h; cases h.2), if_neg (fun h => hk4 h.1)]
                go_upto_region 8 with fail
                refine wp_free 10 [.eq (.pointer (some ⟨g, 4, none⟩)), .eq (.int .i64 o.k), .eq (.bool true), .eq (.bool true), .eq (.pointer (some ⟨p, 0, none⟩)), .eq (o.v), .eq (.pointer (some ⟨p, offS (3 - o.side), none⟩)), .eq (o.v), .eq (.bool false), .eq (.bool false)] (by kernel_rfl) rfl (by kernel_rfl) ?_ ?_
                · refine sv 1 rfl rfl rfl (fun a u hE hD hk => exec_fldo 25 4 4 (.tmp 3) (g) (0) (4) rfl (hE 3 (.pointer (some ⟨g, 0, none⟩)) (by kernel_rfl) (by kernel_rfl)) (by kernel_rfl) rfl) ?_
                  refine sv 2 rfl rfl rfl (fun a u hE hD hk => exec_loadi 3 Try.underlying3 (.tmp 32) ⟨g, 4, none⟩ (.int .i64 o.k) rfl (hD 0 32 (by kernel_rfl)) (range_int (range_kept HO4.out hk) 4 _ rfl)) ?_
                  refine fsteps_cons 3 rfl (fun a u hE hD hk => f_as (show ((decide ((o.k : Int) = (5 : Int))) : Bool) = true from decide_eq_true hk5) (f_val (o := ⟨some 34, _, _, _, _, _⟩) (.bool (decide ((o.k : Int) = (5 : Int)))) rfl (wanted_none rfl _) (exec_eqn (p := o.k) (q := 5) rfl (hD 1 33 (by kernel_rfl)) rfl) rfl)) ?_
                  refine sv 4 rfl rfl rfl (fun a u hE hD hk => exec_move (.tmp 34) _ rfl (hD 2 34 (by kernel_rfl))) ?_
                  refine fsteps_cons 5 rfl (fun a u hE hD hk => f_val (o := ⟨some 36, _, _, _, _, _⟩) (.pointer (some ⟨p, 0, none⟩)) rfl (wanted_at (b := true) true rfl rfl (hD 3 35 (by kernel_rfl))) (exec_move (.tmp 0) _ rfl (hE 0 (.pointer (some ⟨p, 0, none⟩)) (by kernel_rfl) (by kernel_rfl))) rfl) ?_
                  refine fsteps_cons 6 rfl (fun a u hE hD hk => f_val (o := ⟨some 37, _, _, _, _, _⟩) (o.v) rfl (wanted_at (b := true) true rfl rfl (hD 3 35 (by kernel_rfl))) (exec_ldS 25 _ (.tmp 3) (g) (0) (o.cells) rfl (hE 3 (.pointer (some ⟨g, 0, none⟩)) (by kernel_rfl) (by kernel_rfl)) (range_kept HO4.out hk) Try.underlying25 (by rw [o.len9]; exact ord_size)) rfl) ?_
                  refine fsteps_cons 7 rfl (fun a u hE hD hk => f_call (o := ⟨some 38, _, _, _, _, _⟩) 63 #[.pointer (some ⟨p, 0, none⟩), o.v] rfl (wanted_at (b := true) true rfl rfl (hD 3 35 (by kernel_rfl))) (exec_call 63 _ [.tmp 36, .tmp 37] _ [.pointer (some ⟨p, 0, none⟩), o.v] Try.func63 (by kernel_rfl) (by kernel_rfl) rfl (show [a.eval (.tmp 36), a.eval (.tmp 37)] = [.pointer (some ⟨p, 0, none⟩), o.v] from (by rw [show a.eval (.tmp 36) = .pointer (some ⟨p, 0, none⟩) from (hD 4 36 (by kernel_rfl)), show a.eval (.tmp 37) = o.v from (hD 5 37 (by kernel_rfl))] <;> rfl)) u) (against_any u p o HSD.out)) ?_
                  refine fsteps_cons 8 rfl (fun a u hE hD hk => f_val (o := ⟨some 39, _, _, _, _, _⟩) (o.v) rfl (wanted_at (b := true) true rfl rfl (hD 3 35 (by kernel_rfl))) (exec_ldS 25 _ (.tmp 3) (g) (0) (o.cells) rfl (hE 3 (.pointer (some ⟨g, 0, none⟩)) (by kernel_rfl) (by kernel_rfl)) (range_kept HO4.out hk) Try.underlying25 (by rw [o.len9]; exact ord_size)) rfl) ?_
                  refine fsteps_cons 9 rfl (fun a u hE hD hk => f_call (o := ⟨some 40, _, _, _, _, _⟩) 64 #[.pointer (some ⟨p, offS (3 - o.side), none⟩), o.v] rfl (wanted_at (b := true) true rfl rfl (hD 3 35 (by kernel_rfl))) (exec_call 64 _ [.tmp 38, .tmp 39] _ [.pointer (some ⟨p, offS (3 - o.side), none⟩), o.v] Try.func64 (by kernel_rfl) (by kernel_rfl) rfl (show [a.eval (.tmp 38), a.eval (.tmp 39)] = [.pointer (some ⟨p, offS (3 - o.side), none⟩), o.v] from (by rw [show a.eval (.tmp 38) = .pointer (some ⟨p, offS (3 - o.side), none⟩) from (hD 6 38 (by kernel_rfl)), show a.eval (.tmp 39) = o.v from (hD 7 39 (by kernel_rfl))] <;> rfl)) u) ((by obtain ⟨F', hLd⟩ := (HB.out.kept (kx4.trans hk)).lad HS3.out; rw [← HCR.out]; exact crossed_any u F' p (offS (3 - o.side)) (3 - o.side) _ o hLd HL64.out))) ?_
                  refine sv 10 rfl rfl rfl (fun a u hE hD hk => exec_pick (.tmp 35) (.tmp 40) (.const (.bool false)) (.bool false) rfl (hD 3 35 (by kernel_rfl)) (hD 8 40 (by kernel_rfl))) ?_
                  exact fsteps_nil
                intro gv w5 hV k5
                rw [show dstsOf _ 10 = [32, 33, 34, 35, 36, 37, 38, 39, 40, 41] by kernel_rfl]
                simp only [fC, fN, sA, sS, sZ, dS, dZ]
                rw [show gv 41 = .bool false from hV 9 41 (by kernel_rfl)]
                clear hV
                refine wpList_nil ?_
                have kx5 := kx4.trans k5
                have HO5 := Lib.hid (range_kept HO4.out k5)
                clear HO4 k5 kx4 hk5
                go_upto_region 10 with fail
                refine wp_free 13 [.eq (.pointer (some ⟨g, 4, none⟩)), .eq (.int .i64 o.k), .eq (.bool false), .eq (.bool false), .eq undef, .eq undef, .eq undef, .eq undef, .eq undef, .eq undef, .eq undef, .eq undef, .eq (.bool false)] (by kernel_rfl) rfl (by kernel_rfl) ?_ ?_
                · refine sv 1 rfl rfl rfl (fun a u hE hD hk => exec_fldo 25 4 4 (.tmp 3) (g) (0) (4) rfl (hE 3 (.pointer (some ⟨g, 0, none⟩)) (by kernel_rfl) (by kernel_rfl)) (by kernel_rfl) rfl) ?_
                  refine sv 2 rfl rfl rfl (fun a u hE hD hk => exec_loadi 3 Try.underlying3 (.tmp 42) ⟨g, 4, none⟩ (.int .i64 o.k) rfl (hD 0 42 (by kernel_rfl)) (range_int (range_kept HO5.out hk) 4 _ rfl)) ?_
                  refine fsteps_cons 3 rfl (fun a u hE hD hk => f_as (show ((decide ((o.k : Int) = (4 : Int))) : Bool) = false from decide_eq_false hk4) (f_val (o := ⟨some 44, _, _, _, _, _⟩) (.bool (decide ((o.k : Int) = (4 : Int)))) rfl (wanted_none rfl _) (exec_eqn (p := o.k) (q := 4) rfl (hD 1 43 (by kernel_rfl)) rfl) rfl)) ?_
                  refine sv 4 rfl rfl rfl (fun a u hE hD hk => exec_move (.tmp 44) _ rfl (hD 2 44 (by kernel_rfl))) ?_
                  refine fsteps_cons 5 rfl (fun a u hE hD hk => f_skip (o := ⟨some 46, _, _, _, _, _⟩) rfl (wanted_at (b := true) false rfl rfl (hD 3 45 (by kernel_rfl))) rfl) ?_
                  refine fsteps_cons 6 rfl (fun a u hE hD hk => f_skip (o := ⟨some 47, _, _, _, _, _⟩) rfl (wanted_at (b := true) false rfl rfl (hD 3 45 (by kernel_rfl))) rfl) ?_
                  refine fsteps_cons 7 rfl (fun a u hE hD hk => f_skip (o := ⟨some 48, _, _, _, _, _⟩) rfl (wanted_at (b := true) false rfl rfl (hD 3 45 (by kernel_rfl))) rfl) ?_
                  refine fsteps_cons 8 rfl (fun a u hE hD hk => f_skip (o := ⟨some 49, _, _, _, _, _⟩) rfl (wanted_at (b := true) false rfl rfl (hD 3 45 (by kernel_rfl))) rfl) ?_
                  refine fsteps_cons 9 rfl (fun a u hE hD hk => f_skip (o := ⟨some 50, _, _, _, _, _⟩) rfl (wanted_at (b := true) false rfl rfl (hD 3 45 (by kernel_rfl))) rfl) ?_
                  refine fsteps_cons 10 rfl (fun a u hE hD hk => f_skip (o := ⟨some 51, _, _, _, _, _⟩) rfl (wanted_at (b := true) false rfl rfl (hD 3 45 (by kernel_rfl))) rfl) ?_
                  refine fsteps_cons 11 rfl (fun a u hE hD hk => f_skip (o := ⟨some 52, _, _, _, _, _⟩) rfl (wanted_at (b := true) false rfl rfl (hD 3 45 (by kernel_rfl))) rfl) ?_
                  refine fsteps_cons 12 rfl (fun a u hE hD hk => f_skip (o := ⟨some 53, _, _, _, _, _⟩) rfl (wanted_at (b := true) false rfl rfl (hD 3 45 (by kernel_rfl))) rfl) ?_
                  refine sv 13 rfl rfl rfl (fun a u hE hD hk => exec_pickF (.tmp 45) (.tmp 53) (.const (.bool false)) (.bool false) rfl (hD 3 45 (by kernel_rfl)) rfl) ?_
                  exact fsteps_nil
                intro gv w6 hV k6
                rw [show dstsOf _ 13 = [42, 43, 44, 45, 46, 47, 48, 49, 50, 51, 52, 53, 54] by kernel_rfl]
                simp only [fC, fN, sA, sS, sZ, dS, dZ]
                rw [show gv 54 = .bool false from hV 12 54 (by kernel_rfl)]
                clear hV
                refine wpList_nil ?_
                have kx := kx5.trans k6
                clear HO5 k6 kx5 hk4
                go_wp2
                go_ret
                exact ⟨by rw [HE.out]; rfl, kx⟩
            · skip
              go_upto_region 8 with fail
              refine wp_free 10 [.eq (.pointer (some ⟨g, 4, none⟩)), .eq (.int .i64 o.k), .eq (.bool false), .eq (.bool false), .eq undef, .eq undef, .eq undef, .eq undef, .eq undef, .eq (.bool false)] (by kernel_rfl) rfl (by kernel_rfl) ?_ ?_
              · refine sv 1 rfl rfl rfl (fun a u hE hD hk => exec_fldo 25 4 4 (.tmp 3) (g) (0) (4) rfl (hE 3 (.pointer (some ⟨g, 0, none⟩)) (by kernel_rfl) (by kernel_rfl)) (by kernel_rfl) rfl) ?_
                refine sv 2 rfl rfl rfl (fun a u hE hD hk => exec_loadi 3 Try.underlying3 (.tmp 32) ⟨g, 4, none⟩ (.int .i64 o.k) rfl (hD 0 32 (by kernel_rfl)) (range_int (range_kept HO4.out hk) 4 _ rfl)) ?_
                refine fsteps_cons 3 rfl (fun a u hE hD hk => f_as (show ((decide ((o.k : Int) = (5 : Int))) : Bool) = false from decide_eq_false hk5) (f_val (o := ⟨some 34, _, _, _, _, _⟩) (.bool (decide ((o.k : Int) = (5 : Int)))) rfl (wanted_none rfl _) (exec_eqn (p := o.k) (q := 5) rfl (hD 1 33 (by kernel_rfl)) rfl) rfl)) ?_
                refine sv 4 rfl rfl rfl (fun a u hE hD hk => exec_move (.tmp 34) _ rfl (hD 2 34 (by kernel_rfl))) ?_
                refine fsteps_cons 5 rfl (fun a u hE hD hk => f_skip (o := ⟨some 36, _, _, _, _, _⟩) rfl (wanted_at (b := true) false rfl rfl (hD 3 35 (by kernel_rfl))) rfl) ?_
                refine fsteps_cons 6 rfl (fun a u hE hD hk => f_skip (o := ⟨some 37, _, _, _, _, _⟩) rfl (wanted_at (b := true) false rfl rfl (hD 3 35 (by kernel_rfl))) rfl) ?_
                refine fsteps_cons 7 rfl (fun a u hE hD hk => f_skip (o := ⟨some 38, _, _, _, _, _⟩) rfl (wanted_at (b := true) false rfl rfl (hD 3 35 (by kernel_rfl))) rfl) ?_
                refine fsteps_cons 8 rfl (fun a u hE hD hk => f_skip (o := ⟨some 39, _, _, _, _, _⟩) rfl (wanted_at (b := true) false rfl rfl (hD 3 35 (by kernel_rfl))) rfl) ?_
                refine fsteps_cons 9 rfl (fun a u hE hD hk => f_skip (o := ⟨some 40, _, _, _, _, _⟩) rfl (wanted_at (b := true) false rfl rfl (hD 3 35 (by kernel_rfl))) rfl) ?_
                refine sv 10 rfl rfl rfl (fun a u hE hD hk => exec_pickF (.tmp 35) (.tmp 40) (.const (.bool false)) (.bool false) rfl (hD 3 35 (by kernel_rfl)) rfl) ?_
                exact fsteps_nil
              intro gv w5 hV k5
              rw [show dstsOf _ 10 = [32, 33, 34, 35, 36, 37, 38, 39, 40, 41] by kernel_rfl]
              simp only [fC, fN, sA, sS, sZ, dS, dZ]
              rw [show gv 41 = .bool false from hV 9 41 (by kernel_rfl)]
              clear hV
              refine wpList_nil ?_
              have kx5 := kx4.trans k5
              have HO5 := Lib.hid (range_kept HO4.out k5)
              have HN5 := Lib.hid hk5
              clear HO4 k5 kx4 hk5
              by_cases hk4 : o.k = 4
              · skip
                have HK4 := Lib.hid hk4
                by_cases hgv : gv0 < o.qty
                · have HE : Hid (B.err o = 12) := by show _ = _; rw [HE0.out, if_neg (fun h => HN5.out h.1), if_pos ⟨hk4, HGL.out.1 hgv⟩]
                  go_upto_region 10 with fail
                  refine wp_free 13 [.eq (.pointer (some ⟨g, 4, none⟩)), .eq (.int .i64 o.k), .eq (.bool true), .eq (.bool true), .eq (.pointer (some ⟨p, 0, none⟩)), .eq (o.v), .eq (.pointer (some ⟨p, offS (3 - o.side), none⟩)), .eq (o.v), .eq (.int .i64 gv0), .eq (.pointer (some ⟨g, 6, none⟩)), .eq (.int .i64 o.qty), .eq (.bool true), .eq (.bool true)] (by kernel_rfl) rfl (by kernel_rfl) ?_ ?_
                  · refine sv 1 rfl rfl rfl (fun a u hE hD hk => exec_fldo 25 4 4 (.tmp 3) (g) (0) (4) rfl (hE 3 (.pointer (some ⟨g, 0, none⟩)) (by kernel_rfl) (by kernel_rfl)) (by kernel_rfl) rfl) ?_
                    refine sv 2 rfl rfl rfl (fun a u hE hD hk => exec_loadi 3 Try.underlying3 (.tmp 42) ⟨g, 4, none⟩ (.int .i64 o.k) rfl (hD 0 42 (by kernel_rfl)) (range_int (range_kept HO5.out hk) 4 _ rfl)) ?_
                    refine fsteps_cons 3 rfl (fun a u hE hD hk => f_as (show ((decide ((o.k : Int) = (4 : Int))) : Bool) = true from decide_eq_true hk4) (f_val (o := ⟨some 44, _, _, _, _, _⟩) (.bool (decide ((o.k : Int) = (4 : Int)))) rfl (wanted_none rfl _) (exec_eqn (p := o.k) (q := 4) rfl (hD 1 43 (by kernel_rfl)) rfl) rfl)) ?_
                    refine sv 4 rfl rfl rfl (fun a u hE hD hk => exec_move (.tmp 44) _ rfl (hD 2 44 (by kernel_rfl))) ?_
                    refine fsteps_cons 5 rfl (fun a u hE hD hk => f_val (o := ⟨some 46, _, _, _, _, _⟩) (.pointer (some ⟨p, 0, none⟩)) rfl (wanted_at (b := true) true rfl rfl (hD 3 45 (by kernel_rfl))) (exec_move (.tmp 0) _ rfl (hE 0 (.pointer (some ⟨p, 0, none⟩)) (by kernel_rfl) (by kernel_rfl))) rfl) ?_
                    refine fsteps_cons 6 rfl (fun a u hE hD hk => f_val (o := ⟨some 47, _, _, _, _, _⟩) (o.v) rfl (wanted_at (b := true) true rfl rfl (hD 3 45 (by kernel_rfl))) (exec_ldS 25 _ (.tmp 3) (g) (0) (o.cells) rfl (hE 3 (.pointer (some ⟨g, 0, none⟩)) (by kernel_rfl) (by kernel_rfl)) (range_kept HO5.out hk) Try.underlying25 (by rw [o.len9]; exact ord_size)) rfl) ?_
                    refine fsteps_cons 7 rfl (fun a u hE hD hk => f_call (o := ⟨some 48, _, _, _, _, _⟩) 63 #[.pointer (some ⟨p, 0, none⟩), o.v] rfl (wanted_at (b := true) true rfl rfl (hD 3 45 (by kernel_rfl))) (exec_call 63 _ [.tmp 46, .tmp 47] _ [.pointer (some ⟨p, 0, none⟩), o.v] Try.func63 (by kernel_rfl) (by kernel_rfl) rfl (show [a.eval (.tmp 46), a.eval (.tmp 47)] = [.pointer (some ⟨p, 0, none⟩), o.v] from (by rw [show a.eval (.tmp 46) = .pointer (some ⟨p, 0, none⟩) from (hD 4 46 (by kernel_rfl)), show a.eval (.tmp 47) = o.v from (hD 5 47 (by kernel_rfl))] <;> rfl)) u) (against_any u p o HSD.out)) ?_
                    refine fsteps_cons 8 rfl (fun a u hE hD hk => f_val (o := ⟨some 49, _, _, _, _, _⟩) (o.v) rfl (wanted_at (b := true) true rfl rfl (hD 3 45 (by kernel_rfl))) (exec_ldS 25 _ (.tmp 3) (g) (0) (o.cells) rfl (hE 3 (.pointer (some ⟨g, 0, none⟩)) (by kernel_rfl) (by kernel_rfl)) (range_kept HO5.out hk) Try.underlying25 (by rw [o.len9]; exact ord_size)) rfl) ?_
                    refine fsteps_cons 9 rfl (fun a u hE hD hk => f_call (o := ⟨some 50, _, _, _, _, _⟩) 65 #[.pointer (some ⟨p, offS (3 - o.side), none⟩), o.v] rfl (wanted_at (b := true) true rfl rfl (hD 3 45 (by kernel_rfl))) (exec_call 65 _ [.tmp 48, .tmp 49] _ [.pointer (some ⟨p, offS (3 - o.side), none⟩), o.v] Try.func65 (by kernel_rfl) (by kernel_rfl) rfl (show [a.eval (.tmp 48), a.eval (.tmp 49)] = [.pointer (some ⟨p, offS (3 - o.side), none⟩), o.v] from (by rw [show a.eval (.tmp 48) = .pointer (some ⟨p, offS (3 - o.side), none⟩) from (hD 6 48 (by kernel_rfl)), show a.eval (.tmp 49) = o.v from (hD 7 49 (by kernel_rfl))] <;> rfl)) u) ((by obtain ⟨F', hLd⟩ := (HB.out.kept (kx5.trans hk)).lad HS3.out; rw [← HGV.out]; exact gives_any u F' p (offS (3 - o.side)) (3 - o.side) (3 - o.side) _ o hLd HSID.out))) ?_
                    refine fsteps_cons 10 rfl (fun a u hE hD hk => f_val (o := ⟨some 51, _, _, _, _, _⟩) (.pointer (some ⟨g, 6, none⟩)) rfl (wanted_at (b := true) true rfl rfl (hD 3 45 (by kernel_rfl))) (exec_fldo 25 6 6 (.tmp 3) (g) (0) (6) rfl (hE 3 (.pointer (some ⟨g, 0, none⟩)) (by kernel_rfl) (by kernel_rfl)) (by kernel_rfl) rfl) rfl) ?_
                    refine fsteps_cons 11 rfl (fun a u hE hD hk => f_val (o := ⟨some 52, _, _, _, _, _⟩) (.int .i64 o.qty) rfl (wanted_at (b := true) true rfl rfl (hD 3 45 (by kernel_rfl))) (exec_loadi 3 Try.underlying3 (.tmp 51) ⟨g, 6, none⟩ (.int .i64 o.qty) rfl (hD 9 51 (by kernel_rfl)) (range_int (range_kept HO5.out hk) 6 _ rfl)) rfl) ?_
                    refine fsteps_cons 12 rfl (fun a u hE hD hk => f_as (show ((decide ((gv0 : Int) < (o.qty : Int))) : Bool) = true from decide_eq_true hgv) (f_val (o := ⟨some 53, _, _, _, _, _⟩) (.bool (decide ((gv0 : Int) < (o.qty : Int)))) rfl (wanted_at (b := true) true rfl rfl (hD 3 45 (by kernel_rfl))) (exec_ltn (p := gv0) (q := o.qty) rfl (hD 8 50 (by kernel_rfl)) (hD 10 52 (by kernel_rfl))) rfl)) ?_
                    refine sv 13 rfl rfl rfl (fun a u hE hD hk => exec_pick (.tmp 45) (.tmp 53) (.const (.bool false)) (.bool true) rfl (hD 3 45 (by kernel_rfl)) (hD 11 53 (by kernel_rfl))) ?_
                    exact fsteps_nil
                  intro gv w6 hV k6
                  rw [show dstsOf _ 13 = [42, 43, 44, 45, 46, 47, 48, 49, 50, 51, 52, 53, 54] by kernel_rfl]
                  simp only [fC, fN, sA, sS, sZ, dS, dZ]
                  rw [show gv 54 = .bool true from hV 12 54 (by kernel_rfl)]
                  clear hV
                  refine wpList_nil ?_
                  have kx := kx5.trans k6
                  clear HO5 k6 kx5 hk4 hgv
                  go_wp2
                  go_ret
                  exact ⟨by rw [HE.out]; rfl, kx⟩
                · have HE : Hid (B.err o = 0) := by show _ = _; rw [HE0.out, if_neg (fun h => HN5.out h.1), if_neg (fun h => hgv (HGL.out.2 h.2))]
                  go_upto_region 10 with fail
                  refine wp_free 13 [.eq (.pointer (some ⟨g, 4, none⟩)), .eq (.int .i64 o.k), .eq (.bool true), .eq (.bool true), .eq (.pointer (some ⟨p, 0, none⟩)), .eq (o.v), .eq (.pointer (some ⟨p, offS (3 - o.side), none⟩)), .eq (o.v), .eq (.int .i64 gv0), .eq (.pointer (some ⟨g, 6, none⟩)), .eq (.int .i64 o.qty), .eq (.bool false), .eq (.bool false)] (by kernel_rfl) rfl (by kernel_rfl) ?_ ?_
                  · refine sv 1 rfl rfl rfl (fun a u hE hD hk => exec_fldo 25 4 4 (.tmp 3) (g) (0) (4) rfl (hE 3 (.pointer (some ⟨g, 0, none⟩)) (by kernel_rfl) (by kernel_rfl)) (by kernel_rfl) rfl) ?_
                    refine sv 2 rfl rfl rfl (fun a u hE hD hk => exec_loadi 3 Try.underlying3 (.tmp 42) ⟨g, 4, none⟩ (.int .i64 o.k) rfl (hD 0 42 (by kernel_rfl)) (range_int (range_kept HO5.out hk) 4 _ rfl)) ?_
                    refine fsteps_cons 3 rfl (fun a u hE hD hk => f_as (show ((decide ((o.k : Int) = (4 : Int))) : Bool) = true from decide_eq_true hk4) (f_val (o := ⟨some 44, _, _, _, _, _⟩) (.bool (decide ((o.k : Int) = (4 : Int)))) rfl (wanted_none rfl _) (exec_eqn (p := o.k) (q := 4) rfl (hD 1 43 (by kernel_rfl)) rfl) rfl)) ?_
                    refine sv 4 rfl rfl rfl (fun a u hE hD hk => exec_move (.tmp 44) _ rfl (hD 2 44 (by kernel_rfl))) ?_
                    refine fsteps_cons 5 rfl (fun a u hE hD hk => f_val (o := ⟨some 46, _, _, _, _, _⟩) (.pointer (some ⟨p, 0, none⟩)) rfl (wanted_at (b := true) true rfl rfl (hD 3 45 (by kernel_rfl))) (exec_move (.tmp 0) _ rfl (hE 0 (.pointer (some ⟨p, 0, none⟩)) (by kernel_rfl) (by kernel_rfl))) rfl) ?_
                    refine fsteps_cons 6 rfl (fun a u hE hD hk => f_val (o := ⟨some 47, _, _, _, _, _⟩) (o.v) rfl (wanted_at (b := true) true rfl rfl (hD 3 45 (by kernel_rfl))) (exec_ldS 25 _ (.tmp 3) (g) (0) (o.cells) rfl (hE 3 (.pointer (some ⟨g, 0, none⟩)) (by kernel_rfl) (by kernel_rfl)) (range_kept HO5.out hk) Try.underlying25 (by rw [o.len9]; exact ord_size)) rfl) ?_
                    refine fsteps_cons 7 rfl (fun a u hE hD hk => f_call (o := ⟨some 48, _, _, _, _, _⟩) 63 #[.pointer (some ⟨p, 0, none⟩), o.v] rfl (wanted_at (b := true) true rfl rfl (hD 3 45 (by kernel_rfl))) (exec_call 63 _ [.tmp 46, .tmp 47] _ [.pointer (some ⟨p, 0, none⟩), o.v] Try.func63 (by kernel_rfl) (by kernel_rfl) rfl (show [a.eval (.tmp 46), a.eval (.tmp 47)] = [.pointer (some ⟨p, 0, none⟩), o.v] from (by rw [show a.eval (.tmp 46) = .pointer (some ⟨p, 0, none⟩) from (hD 4 46 (by kernel_rfl)), show a.eval (.tmp 47) = o.v from (hD 5 47 (by kernel_rfl))] <;> rfl)) u) (against_any u p o HSD.out)) ?_
                    refine fsteps_cons 8 rfl (fun a u hE hD hk => f_val (o := ⟨some 49, _, _, _, _, _⟩) (o.v) rfl (wanted_at (b := true) true rfl rfl (hD 3 45 (by kernel_rfl))) (exec_ldS 25 _ (.tmp 3) (g) (0) (o.cells) rfl (hE 3 (.pointer (some ⟨g, 0, none⟩)) (by kernel_rfl) (by kernel_rfl)) (range_kept HO5.out hk) Try.underlying25 (by rw [o.len9]; exact ord_size)) rfl) ?_
                    refine fsteps_cons 9 rfl (fun a u hE hD hk => f_call (o := ⟨some 50, _, _, _, _, _⟩) 65 #[.pointer (some ⟨p, offS (3 - o.side), none⟩), o.v] rfl (wanted_at (b := true) true rfl rfl (hD 3 45 (by kernel_rfl))) (exec_call 65 _ [.tmp 48, .tmp 49] _ [.pointer (some ⟨p, offS (3 - o.side), none⟩), o.v] Try.func65 (by kernel_rfl) (by kernel_rfl) rfl (show [a.eval (.tmp 48), a.eval (.tmp 49)] = [.pointer (some ⟨p, offS (3 - o.side), none⟩), o.v] from (by rw [show a.eval (.tmp 48) = .pointer (some ⟨p, offS (3 - o.side), none⟩) from (hD 6 48 (by kernel_rfl)), show a.eval (.tmp 49) = o.v from (hD 7 49 (by kernel_rfl))] <;> rfl)) u) ((by obtain ⟨F', hLd⟩ := (HB.out.kept (kx5.trans hk)).lad HS3.out; rw [← HGV.out]; exact gives_any u F' p (offS (3 - o.side)) (3 - o.side) (3 - o.side) _ o hLd HSID.out))) ?_
                    refine fsteps_cons 10 rfl (fun a u hE hD hk => f_val (o := ⟨some 51, _, _, _, _, _⟩) (.pointer (some ⟨g, 6, none⟩)) rfl (wanted_at (b := true) true rfl rfl (hD 3 45 (by kernel_rfl))) (exec_fldo 25 6 6 (.tmp 3) (g) (0) (6) rfl (hE 3 (.pointer (some ⟨g, 0, none⟩)) (by kernel_rfl) (by kernel_rfl)) (by kernel_rfl) rfl) rfl) ?_
                    refine fsteps_cons 11 rfl (fun a u hE hD hk => f_val (o := ⟨some 52, _, _, _, _, _⟩) (.int .i64 o.qty) rfl (wanted_at (b := true) true rfl rfl (hD 3 45 (by kernel_rfl))) (exec_loadi 3 Try.underlying3 (.tmp 51) ⟨g, 6, none⟩ (.int .i64 o.qty) rfl (hD 9 51 (by kernel_rfl)) (range_int (range_kept HO5.out hk) 6 _ rfl)) rfl) ?_
                    refine fsteps_cons 12 rfl (fun a u hE hD hk => f_as (show ((decide ((gv0 : Int) < (o.qty : Int))) : Bool) = false from decide_eq_false hgv) (f_val (o := ⟨some 53, _, _, _, _, _⟩) (.bool (decide ((gv0 : Int) < (o.qty : Int)))) rfl (wanted_at (b := true) true rfl rfl (hD 3 45 (by kernel_rfl))) (exec_ltn (p := gv0) (q := o.qty) rfl (hD 8 50 (by kernel_rfl)) (hD 10 52 (by kernel_rfl))) rfl)) ?_
                    refine sv 13 rfl rfl rfl (fun a u hE hD hk => exec_pick (.tmp 45) (.tmp 53) (.const (.bool false)) (.bool false) rfl (hD 3 45 (by kernel_rfl)) (hD 11 53 (by kernel_rfl))) ?_
                    exact fsteps_nil
                  intro gv w6 hV k6
                  rw [show dstsOf _ 13 = [42, 43, 44, 45, 46, 47, 48, 49, 50, 51, 52, 53, 54] by kernel_rfl]
                  simp only [fC, fN, sA, sS, sZ, dS, dZ]
                  rw [show gv 54 = .bool false from hV 12 54 (by kernel_rfl)]
                  clear hV
                  refine wpList_nil ?_
                  have kx := kx5.trans k6
                  clear HO5 k6 kx5 hk4 hgv
                  go_wp2
                  go_ret
                  exact ⟨by rw [HE.out]; rfl, kx⟩
              · have HE : Hid (B.err o = 0) := by show _ = _; rw [HE0.out, if_neg (fun h => HN5.out h.1), if_neg (fun h => hk4 h.1)]
                go_upto_region 10 with fail
                refine wp_free 13 [.eq (.pointer (some ⟨g, 4, none⟩)), .eq (.int .i64 o.k), .eq (.bool false), .eq (.bool false), .eq undef, .eq undef, .eq undef, .eq undef, .eq undef, .eq undef, .eq undef, .eq undef, .eq (.bool false)] (by kernel_rfl) rfl (by kernel_rfl) ?_ ?_
                · refine sv 1 rfl rfl rfl (fun a u hE hD hk => exec_fldo 25 4 4 (.tmp 3) (g) (0) (4) rfl (hE 3 (.pointer (some ⟨g, 0, none⟩)) (by kernel_rfl) (by kernel_rfl)) (by kernel_rfl) rfl) ?_
                  refine sv 2 rfl rfl rfl (fun a u hE hD hk => exec_loadi 3 Try.underlying3 (.tmp 42) ⟨g, 4, none⟩ (.int .i64 o.k) rfl (hD 0 42 (by kernel_rfl)) (range_int (range_kept HO5.out hk) 4 _ rfl)) ?_
                  refine fsteps_cons 3 rfl (fun a u hE hD hk => f_as (show ((decide ((o.k : Int) = (4 : Int))) : Bool) = false from decide_eq_false hk4) (f_val (o := ⟨some 44, _, _, _, _, _⟩) (.bool (decide ((o.k : Int) = (4 : Int)))) rfl (wanted_none rfl _) (exec_eqn (p := o.k) (q := 4) rfl (hD 1 43 (by kernel_rfl)) rfl) rfl)) ?_
                  refine sv 4 rfl rfl rfl (fun a u hE hD hk => exec_move (.tmp 44) _ rfl (hD 2 44 (by kernel_rfl))) ?_
                  refine fsteps_cons 5 rfl (fun a u hE hD hk => f_skip (o := ⟨some 46, _, _, _, _, _⟩) rfl (wanted_at (b := true) false rfl rfl (hD 3 45 (by kernel_rfl))) rfl) ?_
                  refine fsteps_cons 6 rfl (fun a u hE hD hk => f_skip (o := ⟨some 47, _, _, _, _, _⟩) rfl (wanted_at (b := true) false rfl rfl (hD 3 45 (by kernel_rfl))) rfl) ?_
                  refine fsteps_cons 7 rfl (fun a u hE hD hk => f_skip (o := ⟨some 48, _, _, _, _, _⟩) rfl (wanted_at (b := true) false rfl rfl (hD 3 45 (by kernel_rfl))) rfl) ?_
                  refine fsteps_cons 8 rfl (fun a u hE hD hk => f_skip (o := ⟨some 49, _, _, _, _, _⟩) rfl (wanted_at (b := true) false rfl rfl (hD 3 45 (by kernel_rfl))) rfl) ?_
                  refine fsteps_cons 9 rfl (fun a u hE hD hk => f_skip (o := ⟨some 50, _, _, _, _, _⟩) rfl (wanted_at (b := true) false rfl rfl (hD 3 45 (by kernel_rfl))) rfl) ?_
                  refine fsteps_cons 10 rfl (fun a u hE hD hk => f_skip (o := ⟨some 51, _, _, _, _, _⟩) rfl (wanted_at (b := true) false rfl rfl (hD 3 45 (by kernel_rfl))) rfl) ?_
                  refine fsteps_cons 11 rfl (fun a u hE hD hk => f_skip (o := ⟨some 52, _, _, _, _, _⟩) rfl (wanted_at (b := true) false rfl rfl (hD 3 45 (by kernel_rfl))) rfl) ?_
                  refine fsteps_cons 12 rfl (fun a u hE hD hk => f_skip (o := ⟨some 53, _, _, _, _, _⟩) rfl (wanted_at (b := true) false rfl rfl (hD 3 45 (by kernel_rfl))) rfl) ?_
                  refine sv 13 rfl rfl rfl (fun a u hE hD hk => exec_pickF (.tmp 45) (.tmp 53) (.const (.bool false)) (.bool false) rfl (hD 3 45 (by kernel_rfl)) rfl) ?_
                  exact fsteps_nil
                intro gv w6 hV k6
                rw [show dstsOf _ 13 = [42, 43, 44, 45, 46, 47, 48, 49, 50, 51, 52, 53, 54] by kernel_rfl]
                simp only [fC, fN, sA, sS, sZ, dS, dZ]
                rw [show gv 54 = .bool false from hV 12 54 (by kernel_rfl)]
                clear hV
                refine wpList_nil ?_
                have kx := kx5.trans k6
                clear HO5 k6 kx5 hk4
                go_wp2
                go_ret
                exact ⟨by rw [HE.out]; rfl, kx⟩
  · have HE : Hid (B.err o = 1) := by show _ = _; unfold Bok.err; rw [if_pos (fun h => hr h.1)]
    have hr1 : o.err ≠ 0 := by unfold Ord.err; rw [if_neg hr]; decide
    go_upto_region 1 with fail
    refine wp_text 8 [.eq (o.v), .eq (.int .i64 o.err), .eq (.bool true), .eq (.bool true), .eq undef, .eq undef, .eq undef, .eq (.bool true)] rfl (by kernel_rfl) ?_ ?_
    · refine sv 1 rfl rfl rfl (fun a u hE hD hk => exec_ldS 25 _ (.tmp 3) (g) (0) (o.cells) rfl (hE 3 (.pointer (some ⟨g, 0, none⟩)) (by kernel_rfl) (by kernel_rfl)) (range_kept HO.out hk) Try.underlying25 (by rw [o.len9]; exact ord_size)) ?_
      refine fsteps_cons 2 rfl (fun a u hE hD hk => f_call (o := ⟨some 8, _, _, _, _, _⟩) 62 #[o.v] rfl (wanted_none rfl _) (exec_call 62 _ [.tmp 7] _ [o.v] Try.func62 (by kernel_rfl) (by kernel_rfl) rfl (show [a.eval (.tmp 7)] = [o.v] from (by rw [show a.eval (.tmp 7) = o.v from (hD 0 7 (by kernel_rfl))] <;> rfl)) u) (ordRight_any o u)) ?_
      refine fsteps_cons 3 rfl (fun a u hE hD hk => f_as (show ((decide ((o.err : Int) ≠ (0 : Int))) : Bool) = true from decide_eq_true hr1) (f_val (o := ⟨some 9, _, _, _, _, _⟩) (.bool (decide ((o.err : Int) ≠ (0 : Int)))) rfl (wanted_none rfl _) (exec_nen (p := o.err) (q := 0) rfl (hD 1 8 (by kernel_rfl)) rfl) rfl)) ?_
      refine sv 4 rfl rfl rfl (fun a u hE hD hk => exec_move (.tmp 9) _ rfl (hD 2 9 (by kernel_rfl))) ?_
      refine fsteps_cons 5 rfl (fun a u hE hD hk => f_skip (o := ⟨some 11, _, _, _, _, _⟩) rfl (wanted_at (b := false) true rfl rfl (hD 3 10 (by kernel_rfl))) rfl) ?_
      refine fsteps_cons 6 rfl (fun a u hE hD hk => f_skip (o := ⟨some 12, _, _, _, _, _⟩) rfl (wanted_at (b := false) true rfl rfl (hD 3 10 (by kernel_rfl))) rfl) ?_
      refine fsteps_cons 7 rfl (fun a u hE hD hk => f_skip (o := ⟨some 13, _, _, _, _, _⟩) rfl (wanted_at (b := false) true rfl rfl (hD 3 10 (by kernel_rfl))) rfl) ?_
      refine sv 8 rfl rfl rfl (fun a u hE hD hk => exec_pick (.tmp 10) (.const (.bool true)) (.tmp 13) (.bool true) rfl (hD 3 10 (by kernel_rfl)) rfl) ?_
      exact fsteps_nil
    intro gv w1 hV k1
    rw [show dstsOf _ 8 = [7, 8, 9, 10, 11, 12, 13, 14] by kernel_rfl]
    simp only [fC, fN, sA, sS, sZ, dS, dZ]
    rw [show gv 14 = .bool true from hV 7 14 (by kernel_rfl)]
    clear hV
    refine wpList_nil ?_
    have kx := k0.trans k1
    clear HO hr1 hr
    go_wp2
    go_ret
    exact ⟨by rw [HE.out]; rfl, kx⟩
def AddIn (w : World) (F : Nat → Prop) (p : Nat) (x : Oc × Bok) (r : Ending) (w' : World) : Prop :=
  ∃ F' v, r = .returned (x.1.v v) ∧ Bk w' F' p x.2 ∧ Sl w' 36 21 v x.1.f.length (fls x.1.f) ∧ (∀ b, v.ownBlock = some b → w.heap.size ≤ b ∧ ¬ F' b) ∧ Grow w F F' ∧ Keep F w w'
theorem built_oce (o : Ord) (n e : Int) : Try.prog.built 29 [(0, o.v), (2, .int .i64 n), (6, .int .i64 e)] = some ((Oc.mk o [] n false false e).cells (.slice none 0 0)).toArray := by kernel_rfl
theorem Bok.traded_to (B : Bok) (o : Ord) : B.traded o = B.to (3 - o.side) (B.matched o).L (lastOf B.last (B.matched o).f) (B.no + (B.matched o).f.length) := rfl
set_option maxRecDepth 100000 in
set_option maxHeartbeats 3200000 in
theorem badd_any (w : World) (F : Nat → Prop) (p : Nat) (B : Bok) (o : Ord) (h : Bk w F p B) (hI : Inv B) (hn : B.no ≤ 1000000000000) : Calls Try.prog 15 #[.pointer (some ⟨p, 0, none⟩), o.v] w (AddIn w F p (B.add o)) := by
  have hFl := h.lt
  have HB := Lib.hid h
  have HI := Lib.hid hI
  have hpF := h.1
  clear h hI
  go_enter Try.func15, Try.ntmps15
  go_upto_region 0 with fail
  refine wp_text 2 [.fresh w.heap.size 25 (o.cells), .fresh w.heap.size 29 (zeroC.cells (.slice none 0 0))] rfl (by kernel_rfl) ?_ ?_
  · refine fsteps_cons 1 rfl (fun a u hE hD hk => f_new (o := ⟨some 3, _, _, _, _, _⟩) (.pointer (some ⟨u.heap.size, 0, none⟩)) _ rfl (wanted_none rfl _) (exec_box 25 (.tmp 1) (o.cells) rfl (hE 1 (o.v) (by kernel_rfl) (by kernel_rfl))) ⟨_, rfl, hk.size, Blk.new u _ _⟩ ((Keep.refl _ u).alloc _)) ?_
    refine fsteps_cons 2 rfl (fun a u hE hD hk => f_new (o := ⟨some 4, _, _, _, _, _⟩) (.pointer (some ⟨u.heap.size, 0, none⟩)) _ rfl (wanted_none rfl _) (exec_alc 29 (zeroC.cells (.slice none 0 0)) rfl zC) ⟨_, rfl, hk.size, Blk.new u _ _⟩ ((Keep.refl _ u).alloc _)) ?_
    exact fsteps_nil
  intro gv w0 hV k0
  rw [show dstsOf _ 2 = [3, 4] by kernel_rfl]
  simp only [fC, fN, sA, sS, sZ, dS, dZ]
  have hv3 : (.fresh w.heap.size 25 (o.cells) : Kn).p (gv 3) w0 := hV 0 3 (by kernel_rfl)
  generalize gv 3 = v3 at hv3 ⊢
  have hv4 : (.fresh w.heap.size 29 (zeroC.cells (.slice none 0 0)) : Kn).p (gv 4) w0 := hV 1 4 (by kernel_rfl)
  generalize gv 4 = v4 at hv4 ⊢
  clear hV
  obtain ⟨bi, rfl, hbi, hBi⟩ := hv3
  obtain ⟨b4, rfl, hb4, hB4⟩ := hv4
  refine wpList_nil ?_
  have HO := Lib.hid (blk_range hBi)
  have HB4 := Lib.hid hB4
  have li := hBi.lt
  have l4 := hB4.lt
  clear hBi hB4
  obtain ⟨e, he⟩ : ∃ e, B.err o = e := ⟨_, rfl⟩
  have HE := Lib.hid he
  clear he
  go_upto_region 1 with fail
  refine wp_text 4 [.eq (.pointer (some ⟨p, 0, none⟩)), .eq (o.v), .eq (.int .i64 e), .eq (.int .i64 e)] rfl (by kernel_rfl) ?_ ?_
  · refine sv 1 rfl rfl rfl (fun a u hE hD hk => exec_move (.tmp 0) _ rfl (hE 0 (.pointer (some ⟨p, 0, none⟩)) (by kernel_rfl) (by kernel_rfl))) ?_
    refine sv 2 rfl rfl rfl (fun a u hE hD hk => exec_ldS 25 _ (.tmp 3) (bi) (0) (o.cells) rfl (hE 3 (.pointer (some ⟨bi, 0, none⟩)) (by kernel_rfl) (by kernel_rfl)) (range_kept HO.out hk) Try.underlying25 (by rw [o.len9]; exact ord_size)) ?_
    refine fsteps_cons 3 rfl (fun a u hE hD hk => f_call (o := ⟨some 9, _, _, _, _, _⟩) 39 #[.pointer (some ⟨p, 0, none⟩), o.v] rfl (wanted_none rfl _) (exec_call 39 _ [.tmp 7, .tmp 8] _ [.pointer (some ⟨p, 0, none⟩), o.v] Try.func39 (by kernel_rfl) (by kernel_rfl) rfl (show [a.eval (.tmp 7), a.eval (.tmp 8)] = [.pointer (some ⟨p, 0, none⟩), o.v] from (by rw [show a.eval (.tmp 7) = .pointer (some ⟨p, 0, none⟩) from (hD 0 7 (by kernel_rfl)), show a.eval (.tmp 8) = o.v from (hD 1 8 (by kernel_rfl))] <;> rfl)) u) ((by rw [← HE.out]; exact refusal_any u F p B o (HB.out.kept (k0.trans hk)) HI.out))) ?_
    refine sv 4 rfl rfl rfl (fun a u hE hD hk => exec_assign (.tmp 9) _ rfl (hD 2 9 (by kernel_rfl))) ?_
    exact fsteps_nil
  intro gv w1 hV k1
  rw [show dstsOf _ 4 = [7, 8, 9, 5] by kernel_rfl]
  simp only [fC, fN, sA, sS, sZ, dS, dZ]
  rw [show gv 5 = .int .i64 e from hV 3 5 (by kernel_rfl)]
  clear hV
  refine wpList_nil ?_
  have k01 := k0.trans k1
  have HO1 := Lib.hid (range_kept HO.out k1)
  have HB41 := Lib.hid (HB4.out.kept k1)
  have z0 := k0.size
  have z1 := k1.size
  have h4F : ¬ F b4 := fun h => by have := hFl b4 h; omega
  have hiF : ¬ F bi := fun h => by have := hFl bi h; omega
  clear HO HB4 k0 k1
  by_cases he0 : e ≠ 0
  · have HA : Hid (B.add o = (⟨o, [], o.qty, false, false, e⟩, B)) := by show _ = _; rw [add_err (by rw [HE.out]; exact he0), HE.out]
    go_upto_region 2 with fail
    refine wp_text 2 [.eq (.int .i64 e), .eq (.bool true)] rfl (by kernel_rfl) ?_ ?_
    · refine sv 1 rfl rfl rfl (fun a u hE hD hk => exec_move (.tmp 5) _ rfl (hE 5 (.int .i64 e) (by kernel_rfl) (by kernel_rfl))) ?_
      refine fsteps_cons 2 rfl (fun a u hE hD hk => f_as (show ((decide ((e : Int) ≠ (0 : Int))) : Bool) = true from decide_eq_true he0) (f_val (o := ⟨some 11, _, _, _, _, _⟩) (.bool (decide ((e : Int) ≠ (0 : Int)))) rfl (wanted_none rfl _) (exec_nen (p := e) (q := 0) rfl (hD 0 10 (by kernel_rfl)) rfl) rfl)) ?_
      exact fsteps_nil
    intro gv w2 hV k2
    rw [show dstsOf _ 2 = [10, 11] by kernel_rfl]
    simp only [fC, fN, sA, sS, sZ, dS, dZ]
    rw [show gv 11 = .bool true from hV 1 11 (by kernel_rfl)]
    clear hV
    refine wpList_nil ?_
    have HO2 := Lib.hid (range_kept HO1.out k2)
    have HB42 := Lib.hid (HB41.out.kept k2)
    clear he0
    go_upto_region 3 with fail
    refine wp_text 5 [.eq (o.v), .eq (.pointer (some ⟨bi, 6, none⟩)), .eq (.int .i64 o.qty), .eq (.int .i64 e), .eq ((Oc.mk o [] o.qty false false e).v (.slice none 0 0))] rfl (by kernel_rfl) ?_ ?_
    · refine sv 1 rfl rfl rfl (fun a u hE hD hk => exec_ldS 25 _ (.tmp 3) (bi) (0) (o.cells) rfl (hE 3 (.pointer (some ⟨bi, 0, none⟩)) (by kernel_rfl) (by kernel_rfl)) (range_kept HO2.out hk) Try.underlying25 (by rw [o.len9]; exact ord_size)) ?_
      refine sv 2 rfl rfl rfl (fun a u hE hD hk => exec_fldo 25 6 6 (.tmp 3) (bi) (0) (6) rfl (hE 3 (.pointer (some ⟨bi, 0, none⟩)) (by kernel_rfl) (by kernel_rfl)) (by kernel_rfl) rfl) ?_
      refine sv 3 rfl rfl rfl (fun a u hE hD hk => exec_loadi 3 Try.underlying3 (.tmp 13) ⟨bi, 6, none⟩ (.int .i64 o.qty) rfl (hD 1 13 (by kernel_rfl)) (range_int (range_kept HO2.out hk) 6 _ rfl)) ?_
      refine sv 4 rfl rfl rfl (fun a u hE hD hk => exec_move (.tmp 5) _ rfl (hE 5 (.int .i64 e) (by kernel_rfl) (by kernel_rfl))) ?_
      refine sv 5 rfl rfl rfl (fun a u hE hD hk => exec_build _ [(0, .tmp 12), (2, .tmp 14), (6, .tmp 15)] ((Oc.mk o [] o.qty false false e).cells (.slice none 0 0)) rfl (by simp only [List.map_cons, List.map_nil]; rw [show a.eval (.tmp 12) = o.v from (hD 0 12 (by kernel_rfl)), show a.eval (.tmp 14) = .int .i64 o.qty from (hD 2 14 (by kernel_rfl)), show a.eval (.tmp 15) = .int .i64 e from (hD 3 15 (by kernel_rfl))]; exact built_oce o o.qty e)) ?_
      exact fsteps_nil
    intro gv w3 hV k3
    rw [show dstsOf _ 5 = [12, 13, 14, 15, 16] by kernel_rfl]
    simp only [fC, fN, sA, sS, sZ, dS, dZ]
    rw [show gv 16 = (Oc.mk o [] o.qty false false e).v (.slice none 0 0) from hV 4 16 (by kernel_rfl)]
    clear hV
    refine l_setS (o := ⟨none, _, _, _, _, _⟩) 29 b4 29 (zeroC.cells (.slice none 0 0)) ((Oc.mk o [] o.qty false false e).cells (.slice none 0 0)) (.tmp 4) (.tmp 16) rfl rfl (by kernel_rfl) (by kernel_rfl) (HB42.out.kept k3) (by rw [Oc.len15]; exact szC) (by rw [Oc.len15, Oc.len15]) (Oc.one _ _ rfl) ?_
    intro w4 hB4 hk4 hs4
    simp only [Act.put]
    refine wpList_nil ?_
    go_wp2
    refine bodyPost_ret (results_cell (p := 4) rfl _ _ b4 _ ((Oc.mk o [] o.qty false false e).cells (.slice none 0 0)) rfl hB4 Try.underlying29 (by rw [Oc.len15]; exact szC)) rfl ?_
    rw [HA.out]
    have kk : Kept w w4 := ((k01.trans k2).trans k3).trans' hk4 (by omega)
    exact ⟨F, .slice none 0 0, rfl, HB.out.kept kk, Sl.nil _ _ _, fun b hb => by simp [Value.ownBlock] at hb, Grow.refl _ _, Keep.mono (T := F) kk (fun _ _ h => h.elim)⟩
  · have he1 : e = 0 := Classical.not_not.1 he0
    subst he1
    have HEZ := Lib.hid (err_zero HE.out)
    have HAI := Lib.hid (add_is HI.out HE.out)
    go_upto_region 2 with fail
    refine wp_text 2 [.eq (.int .i64 0), .eq (.bool false)] rfl (by kernel_rfl) ?_ ?_
    · refine sv 1 rfl rfl rfl (fun a u hE hD hk => exec_move (.tmp 5) _ rfl (hE 5 (.int .i64 0) (by kernel_rfl) (by kernel_rfl))) ?_
      refine fsteps_cons 2 rfl (fun a u hE hD hk => f_as (show ((decide ((0 : Int) ≠ (0 : Int))) : Bool) = false from by decide) (f_val (o := ⟨some 11, _, _, _, _, _⟩) (.bool (decide ((0 : Int) ≠ (0 : Int)))) rfl (wanted_none rfl _) (exec_nen (p := 0) (q := 0) rfl (hD 0 10 (by kernel_rfl)) rfl) rfl)) ?_
      exact fsteps_nil
    intro gv w2 hV k2
    rw [show dstsOf _ 2 = [10, 11] by kernel_rfl]
    simp only [fC, fN, sA, sS, sZ, dS, dZ]
    rw [show gv 11 = .bool false from hV 1 11 (by kernel_rfl)]
    clear hV
    refine wpList_nil ?_
    have k02 := k01.trans k2
    have z2 := k2.size
    have HO2 := Lib.hid (range_kept HO1.out k2)
    have HB42 := Lib.hid (HB41.out.kept k2)
    clear he0 k01 HO1 HB41
    obtain ⟨m, hm⟩ : ∃ m, B.matched o = m := ⟨_, rfl⟩
    have HMM := Lib.hid hm
    clear hm
    go_upto_region 4 with fail
    refine wp_text 2 [.eq (.pointer (some ⟨p, 0, none⟩)), .eq (o.v)] rfl (by kernel_rfl) ?_ ?_
    · refine sv 1 rfl rfl rfl (fun a u hE hD hk => exec_move (.tmp 0) _ rfl (hE 0 (.pointer (some ⟨p, 0, none⟩)) (by kernel_rfl) (by kernel_rfl))) ?_
      refine sv 2 rfl rfl rfl (fun a u hE hD hk => exec_ldS 25 _ (.tmp 3) (bi) (0) (o.cells) rfl (hE 3 (.pointer (some ⟨bi, 0, none⟩)) (by kernel_rfl) (by kernel_rfl)) (range_kept HO2.out hk) Try.underlying25 (by rw [o.len9]; exact ord_size)) ?_
      exact fsteps_nil
    intro gv w3 hV k3
    rw [show dstsOf _ 2 = [17, 18] by kernel_rfl]
    simp only [fC, fN, sA, sS, sZ, dS, dZ]
    rw [show gv 17 = .pointer (some ⟨p, 0, none⟩) from hV 0 17 (by kernel_rfl)]
    rw [show gv 18 = o.v from hV 1 18 (by kernel_rfl)]
    clear hV
    refine l_call (o := ⟨some 19, _, _, _, _, _⟩) 40 #[.pointer (some ⟨p, 0, none⟩), o.v] rfl (exec_call 40 _ [.tmp 17, .tmp 18] _ _ Try.func40 (by kernel_rfl) (by kernel_rfl) rfl (by kernel_rfl) _) ?_
    refine (match_any w3 F p B o (HB.out.kept (k02.trans k3)) HI.out HAI.out.sd (right_qty HAI.out.rt) hn).mono ?_
    rintro r w4 ⟨F4, vf, rfl, hb4', hv4, ho4, hg4, hk4⟩
    rw [HMM.out] at hb4' hv4
    refine ⟨(Oc.mk o m.f m.left false m.self 0).v vf, by rw [HMM.out], ?_⟩
    simp only [Act.put, sA, sS, sZ]
    refine l_new (o := ⟨some 6, _, _, _, _, _⟩) (.pointer (some ⟨w4.heap.size, 0, none⟩)) (w4.alloc (.cells (zeroC.cells (.slice none 0 0)).toArray 29)) rfl (exec_alc 29 (zeroC.cells (.slice none 0 0)) rfl zC) ?_
    have hNw5 := Blk.new w4 29 (zeroC.cells (.slice none 0 0))
    have kw5 : Kept w4 (w4.alloc (.cells (zeroC.cells (.slice none 0 0)).toArray 29)) := (Keep.refl _ w4).alloc _
    generalize w4.alloc (.cells (zeroC.cells (.slice none 0 0)).toArray 29) = w5 at hNw5 kw5 ⊢
    simp only [Act.put, sA, sS, sZ]
    refine l_setS (o := ⟨none, _, _, _, _, _⟩) 29 w4.heap.size 29 (zeroC.cells (.slice none 0 0)) ((Oc.mk o m.f m.left false m.self 0).cells vf) (.tmp 6) (.tmp 19) rfl rfl (by kernel_rfl) (by kernel_rfl) hNw5 (by rw [Oc.len15]; exact szC) (by rw [Oc.len15, Oc.len15]) (Oc.one _ _ (sl_onec hv4)) ?_
    intro w6 hB6 hk6 hs6
    simp only [Act.put]
    refine wpList_nil ?_
    obtain ⟨bo, hbo⟩ : ∃ x, w4.heap.size = x := ⟨_, rfl⟩
    rw [hbo] at hNw5 hB6 hk6 ⊢
    have lo := hB6.lt
    have k46 : Kept w4 w6 := kw5.trans' hk6 (by omega)
    have k03 := k02.trans k3
    have z3 := k3.size
    have z4 := hk4.size
    have zz := k46.size
    have hbw : w.heap.size ≤ bo := by have := k03.size; omega
    have KF6 : Keep F w w6 := (Keep.any k03 hk4).kept k46
    have HB6 := Lib.hid (hb4'.kept k46)
    have HV6 := Lib.hid (hv4.kept k46)
    have HOo := Lib.hid hB6
    have HO6 := Lib.hid (range_kept (range_keep (range_kept HO2.out k3) hk4 hiF) k46)
    have HB46 := Lib.hid (((HB42.out.kept k3).keep hk4 h4F).kept k46)
    have HG4 : Hid (Grow w F F4) := hg4.wide k03.size
    have hoF4 : ¬ F4 bo := fun h => by have := hb4'.lt bo h; omega
    have hiF4 : ¬ F4 bi := fun h => (hg4 bi h).elim hiF (fun h => by omega)
    have h4F4 : ¬ F4 b4 := fun h => (hg4 b4 h).elim h4F (fun h => by omega)
    have HOw : Hid (∀ b, vf.ownBlock = some b → w.heap.size ≤ b ∧ ¬ F4 b) := fun b hb => ⟨by have := (ho4 b hb).1; have := k03.size; omega, (ho4 b hb).2⟩
    have HVL : Hid (∀ b, vf.ownBlock = some b → b < bo) := fun b hb => by have := hv4.lt hb; omega
    have hbo4 : bo ≠ b4 := by omega
    have hv4' : ∀ b, vf.ownBlock = some b → b ≠ b4 := fun b hb e => by
      have h1 := (ho4 b hb).1
      omega
    have HV4N := Lib.hid hv4'
    clear hb4' hv4 ho4 hg4 hk4 hNw5 hB6 hk6 hs6 kw5 k46 HO2 HB42 k3 hbo hv4'
    have HST : Hid (B.stays o = (decide (0 < m.left) && !m.self && (decide (o.k = 1) || decide (o.k = 5)))) := by show _ = _; unfold Bok.stays; rw [HMM.out]
    obtain ⟨st, hst⟩ : ∃ st, B.stays o = st := ⟨_, rfl⟩
    rw [hst] at HST
    have HSTY := Lib.hid hst
    have hst' : (decide (0 < m.left) && !m.self && (decide (o.k = 1) || decide (o.k = 5))) = st := HST.out.symm
    clear hst HST
    have HADD : Hid (B.add o = (⟨o, m.f, m.left, st, m.self, 0⟩, if st = true then (B.traded o).put o.side (restM (o.cut m.left) ((B.traded o).sd o.side)) else B.traded o)) := by
      show _ = _
      unfold Bok.add
      rw [if_neg (by rw [HE.out]; simp), HSTY.out, HMM.out]
    have HSTH := Lib.hid hst'
    clear hst'
    by_cases hl : 0 < m.left
    · by_cases hsf0 : m.self = true
      · have hsf := hsf0
        have hst : st = false := by rw [← HSTH.out, hsf]; simp
        subst hst
        clear hsf0
        go_upto_region 5 with fail
        refine wp_text 12 [.eq (.pointer (some ⟨bo, 10, none⟩)), .eq (.int .i64 (Oc.mk o m.f m.left false m.self 0).left), .eq (.bool true), .eq (.bool true), .eq (.pointer (some ⟨bo, 13, none⟩)), .eq (.bool (Oc.mk o m.f m.left false m.self 0).self), .eq (.bool false), .eq (.bool false), .eq (.bool false), .eq undef, .eq undef, .eq (.bool false)] rfl (by kernel_rfl) ?_ ?_
        · refine sv 1 rfl rfl rfl (fun a u hE hD hk => exec_fldo 29 2 10 (.tmp 6) (bo) (0) (10) rfl (hE 6 (.pointer (some ⟨bo, 0, none⟩)) (by kernel_rfl) (by kernel_rfl)) (by kernel_rfl) rfl) ?_
          refine sv 2 rfl rfl rfl (fun a u hE hD hk => exec_loadi 3 Try.underlying3 (.tmp 20) ⟨bo, 10, none⟩ (.int .i64 (Oc.mk o m.f m.left false m.self 0).left) rfl (hD 0 20 (by kernel_rfl)) (by rw [(HOo.out.kept hk).cell]; rfl)) ?_
          refine fsteps_cons 3 rfl (fun a u hE hD hk => f_as (show ((decide ((0 : Int) < ((Oc.mk o m.f m.left false m.self 0).left : Int))) : Bool) = true from decide_eq_true hl) (f_val (o := ⟨some 22, _, _, _, _, _⟩) (.bool (decide ((0 : Int) < ((Oc.mk o m.f m.left false m.self 0).left : Int)))) rfl (wanted_none rfl _) (exec_gtn (p := (Oc.mk o m.f m.left false m.self 0).left) (q := 0) rfl (hD 1 21 (by kernel_rfl)) rfl) rfl)) ?_
          refine sv 4 rfl rfl rfl (fun a u hE hD hk => exec_move (.tmp 22) _ rfl (hD 2 22 (by kernel_rfl))) ?_
          refine fsteps_cons 5 rfl (fun a u hE hD hk => f_val (o := ⟨some 24, _, _, _, _, _⟩) (.pointer (some ⟨bo, 13, none⟩)) rfl (wanted_at (b := true) true rfl rfl (hD 3 23 (by kernel_rfl))) (exec_fldo 29 5 13 (.tmp 6) (bo) (0) (13) rfl (hE 6 (.pointer (some ⟨bo, 0, none⟩)) (by kernel_rfl) (by kernel_rfl)) (by kernel_rfl) rfl) rfl) ?_
          refine fsteps_cons 6 rfl (fun a u hE hD hk => f_val (o := ⟨some 25, _, _, _, _, _⟩) (.bool (Oc.mk o m.f m.left false m.self 0).self) rfl (wanted_at (b := true) true rfl rfl (hD 3 23 (by kernel_rfl))) (exec_ldb 4 Try.underlying4 (.tmp 24) ⟨bo, 13, none⟩ (.bool (Oc.mk o m.f m.left false m.self 0).self) rfl (hD 4 24 (by kernel_rfl)) (by rw [(HOo.out.kept hk).cell]; rfl)) rfl) ?_
          refine fsteps_cons 7 rfl (fun a u hE hD hk => f_as (show ((!(Oc.mk o m.f m.left false m.self 0).self) : Bool) = false from (by rw [hsf]; rfl)) (f_val (o := ⟨some 26, _, _, _, _, _⟩) (.bool (!(Oc.mk o m.f m.left false m.self 0).self)) rfl (wanted_at (b := true) true rfl rfl (hD 3 23 (by kernel_rfl))) (exec_not _ (.tmp 25) (Oc.mk o m.f m.left false m.self 0).self rfl (hD 5 25 (by kernel_rfl))) rfl)) ?_
          refine sv 8 rfl rfl rfl (fun a u hE hD hk => exec_pick (.tmp 23) (.tmp 26) (.const (.bool false)) (.bool false) rfl (hD 3 23 (by kernel_rfl)) (hD 6 26 (by kernel_rfl))) ?_
          refine sv 9 rfl rfl rfl (fun a u hE hD hk => exec_move (.tmp 27) _ rfl (hD 7 27 (by kernel_rfl))) ?_
          refine fsteps_cons 10 rfl (fun a u hE hD hk => f_skip (o := ⟨some 29, _, _, _, _, _⟩) rfl (wanted_at (b := true) false rfl rfl (hD 8 28 (by kernel_rfl))) rfl) ?_
          refine fsteps_cons 11 rfl (fun a u hE hD hk => f_skip (o := ⟨some 30, _, _, _, _, _⟩) rfl (wanted_at (b := true) false rfl rfl (hD 8 28 (by kernel_rfl))) rfl) ?_
          refine sv 12 rfl rfl rfl (fun a u hE hD hk => exec_pickF (.tmp 28) (.tmp 30) (.const (.bool false)) (.bool false) rfl (hD 8 28 (by kernel_rfl)) rfl) ?_
          exact fsteps_nil
        intro gv w7 hV k7
        rw [show dstsOf _ 12 = [20, 21, 22, 23, 24, 25, 26, 27, 28, 29, 30, 31] by kernel_rfl]
        simp only [fC, fN, sA, sS, sZ, dS, dZ]
        rw [show gv 31 = .bool false from hV 11 31 (by kernel_rfl)]
        clear hV
        refine wpList_nil ?_
        have HB7 := Lib.hid (HB6.out.kept k7)
        have HV7 := Lib.hid (HV6.out.kept k7)
        have HO7 := Lib.hid (HOo.out.kept k7)
        have HB47 := Lib.hid (HB46.out.kept k7)
        have KF7 := KF6.kept k7
        clear HB6 HV6 HOo HB46 HO6 KF6 k7
        go_upto_region 8 with fail
        refine wp_text 1 [.eq ((Oc.mk o m.f m.left false m.self 0).v vf)] rfl (by kernel_rfl) ?_ ?_
        · refine sv 1 rfl rfl rfl (fun a u hE hD hk => exec_ldS 29 _ (.tmp 6) bo 0 ((Oc.mk o m.f m.left false m.self 0).cells vf) rfl (hE 6 (.pointer (some ⟨bo, 0, none⟩)) (by kernel_rfl) (by kernel_rfl)) (blk_range (HO7.out.kept hk)) Try.underlying29 (by rw [Oc.len15]; exact szC)) ?_
          exact fsteps_nil
        intro gv wy hV ky
        rw [show dstsOf _ 1 = [38] by kernel_rfl]
        simp only [fC, fN, sA, sS, sZ, dS, dZ]
        rw [show gv 38 = (Oc.mk o m.f m.left false m.self 0).v vf from hV 0 38 (by kernel_rfl)]
        clear hV
        refine l_setS (o := ⟨none, _, _, _, _, _⟩) 29 b4 29 (zeroC.cells (.slice none 0 0)) ((Oc.mk o m.f m.left false m.self 0).cells vf) (.tmp 4) (.tmp 38) rfl rfl (by kernel_rfl) (by kernel_rfl) (HB47.out.kept ky) (by rw [Oc.len15]; exact szC) (by rw [Oc.len15, Oc.len15]) (Oc.one _ _ (sl_onec HV7.out)) ?_
        intro wx hBx hkx hsx
        simp only [Act.put]
        refine wpList_nil ?_
        go_wp2
        refine bodyPost_ret (results_cell (p := 4) rfl _ _ b4 _ ((Oc.mk o m.f m.left false m.self 0).cells vf) rfl hBx Try.underlying29 (by rw [Oc.len15]; exact szC)) rfl ?_
        rw [HADD.out]
        refine ⟨F4, vf, rfl, ?_, (HV7.out.kept ky).keep hkx (fun b hb e => HV4N.out b hb e), HOw.out, HG4.out, (KF7.kept ky).trans hkx (fun b hb e => by omega)⟩
        have h1 := (HB7.out.kept ky).keep hkx (fun b hb e => h4F4 (by rw [← e]; exact hb))
        simp only [Bool.false_eq_true, if_false]
        rw [Bok.traded_to, HMM.out]
        exact h1
      · have hsf : m.self = false := by simpa using hsf0
        clear hsf0
        obtain ⟨mr, hmr⟩ : ∃ x, (decide (o.k = 1) || decide (o.k = 5)) = x := ⟨_, rfl⟩
        have HMR := Lib.hid hmr
        cases mr with
        | false =>
          have hst : st = false := by rw [← HSTH.out, hmr]; simp
          subst hst
          clear hmr
          go_upto_region 5 with fail
          refine wp_text 12 [.eq (.pointer (some ⟨bo, 10, none⟩)), .eq (.int .i64 (Oc.mk o m.f m.left false m.self 0).left), .eq (.bool true), .eq (.bool true), .eq (.pointer (some ⟨bo, 13, none⟩)), .eq (.bool (Oc.mk o m.f m.left false m.self 0).self), .eq (.bool true), .eq (.bool true), .eq (.bool true), .eq (o.v), .eq (.bool false), .eq (.bool false)] rfl (by kernel_rfl) ?_ ?_
          · refine sv 1 rfl rfl rfl (fun a u hE hD hk => exec_fldo 29 2 10 (.tmp 6) (bo) (0) (10) rfl (hE 6 (.pointer (some ⟨bo, 0, none⟩)) (by kernel_rfl) (by kernel_rfl)) (by kernel_rfl) rfl) ?_
            refine sv 2 rfl rfl rfl (fun a u hE hD hk => exec_loadi 3 Try.underlying3 (.tmp 20) ⟨bo, 10, none⟩ (.int .i64 (Oc.mk o m.f m.left false m.self 0).left) rfl (hD 0 20 (by kernel_rfl)) (by rw [(HOo.out.kept hk).cell]; rfl)) ?_
            refine fsteps_cons 3 rfl (fun a u hE hD hk => f_as (show ((decide ((0 : Int) < ((Oc.mk o m.f m.left false m.self 0).left : Int))) : Bool) = true from decide_eq_true hl) (f_val (o := ⟨some 22, _, _, _, _, _⟩) (.bool (decide ((0 : Int) < ((Oc.mk o m.f m.left false m.self 0).left : Int)))) rfl (wanted_none rfl _) (exec_gtn (p := (Oc.mk o m.f m.left false m.self 0).left) (q := 0) rfl (hD 1 21 (by kernel_rfl)) rfl) rfl)) ?_
            refine sv 4 rfl rfl rfl (fun a u hE hD hk => exec_move (.tmp 22) _ rfl (hD 2 22 (by kernel_rfl))) ?_
            refine fsteps_cons 5 rfl (fun a u hE hD hk => f_val (o := ⟨some 24, _, _, _, _, _⟩) (.pointer (some ⟨bo, 13, none⟩)) rfl (wanted_at (b := true) true rfl rfl (hD 3 23 (by kernel_rfl))) (exec_fldo 29 5 13 (.tmp 6) (bo) (0) (13) rfl (hE 6 (.pointer (some ⟨bo, 0, none⟩)) (by kernel_rfl) (by kernel_rfl)) (by kernel_rfl) rfl) rfl) ?_
            refine fsteps_cons 6 rfl (fun a u hE hD hk => f_val (o := ⟨some 25, _, _, _, _, _⟩) (.bool (Oc.mk o m.f m.left false m.self 0).self) rfl (wanted_at (b := true) true rfl rfl (hD 3 23 (by kernel_rfl))) (exec_ldb 4 Try.underlying4 (.tmp 24) ⟨bo, 13, none⟩ (.bool (Oc.mk o m.f m.left false m.self 0).self) rfl (hD 4 24 (by kernel_rfl)) (by rw [(HOo.out.kept hk).cell]; rfl)) rfl) ?_
            refine fsteps_cons 7 rfl (fun a u hE hD hk => f_as (show ((!(Oc.mk o m.f m.left false m.self 0).self) : Bool) = true from (by rw [hsf]; rfl)) (f_val (o := ⟨some 26, _, _, _, _, _⟩) (.bool (!(Oc.mk o m.f m.left false m.self 0).self)) rfl (wanted_at (b := true) true rfl rfl (hD 3 23 (by kernel_rfl))) (exec_not _ (.tmp 25) (Oc.mk o m.f m.left false m.self 0).self rfl (hD 5 25 (by kernel_rfl))) rfl)) ?_
            refine sv 8 rfl rfl rfl (fun a u hE hD hk => exec_pick (.tmp 23) (.tmp 26) (.const (.bool false)) (.bool true) rfl (hD 3 23 (by kernel_rfl)) (hD 6 26 (by kernel_rfl))) ?_
            refine sv 9 rfl rfl rfl (fun a u hE hD hk => exec_move (.tmp 27) _ rfl (hD 7 27 (by kernel_rfl))) ?_
            refine fsteps_cons 10 rfl (fun a u hE hD hk => f_val (o := ⟨some 29, _, _, _, _, _⟩) (o.v) rfl (wanted_at (b := true) true rfl rfl (hD 8 28 (by kernel_rfl))) (exec_ldS 25 _ (.tmp 3) (bi) (0) (o.cells) rfl (hE 3 (.pointer (some ⟨bi, 0, none⟩)) (by kernel_rfl) (by kernel_rfl)) (range_kept HO6.out hk) Try.underlying25 (by rw [o.len9]; exact ord_size)) rfl) ?_
            refine fsteps_cons 11 rfl (fun a u hE hD hk => f_call (o := ⟨some 30, _, _, _, _, _⟩) 41 #[o.v] rfl (wanted_at (b := true) true rfl rfl (hD 8 28 (by kernel_rfl))) (exec_call 41 _ [.tmp 29] _ [o.v] Try.func41 (by kernel_rfl) (by kernel_rfl) rfl (show [a.eval (.tmp 29)] = [o.v] from (by rw [show a.eval (.tmp 29) = o.v from (hD 9 29 (by kernel_rfl))] <;> rfl)) u) ((by rw [← HMR.out]; exact mayRest_any u o))) ?_
            refine sv 12 rfl rfl rfl (fun a u hE hD hk => exec_pick (.tmp 28) (.tmp 30) (.const (.bool false)) (.bool false) rfl (hD 8 28 (by kernel_rfl)) (hD 10 30 (by kernel_rfl))) ?_
            exact fsteps_nil
          intro gv w7 hV k7
          rw [show dstsOf _ 12 = [20, 21, 22, 23, 24, 25, 26, 27, 28, 29, 30, 31] by kernel_rfl]
          simp only [fC, fN, sA, sS, sZ, dS, dZ]
          rw [show gv 31 = .bool false from hV 11 31 (by kernel_rfl)]
          clear hV
          refine wpList_nil ?_
          have HB7 := Lib.hid (HB6.out.kept k7)
          have HV7 := Lib.hid (HV6.out.kept k7)
          have HO7 := Lib.hid (HOo.out.kept k7)
          have HB47 := Lib.hid (HB46.out.kept k7)
          have KF7 := KF6.kept k7
          clear HB6 HV6 HOo HB46 HO6 KF6 k7
          go_upto_region 8 with fail
          refine wp_text 1 [.eq ((Oc.mk o m.f m.left false m.self 0).v vf)] rfl (by kernel_rfl) ?_ ?_
          · refine sv 1 rfl rfl rfl (fun a u hE hD hk => exec_ldS 29 _ (.tmp 6) bo 0 ((Oc.mk o m.f m.left false m.self 0).cells vf) rfl (hE 6 (.pointer (some ⟨bo, 0, none⟩)) (by kernel_rfl) (by kernel_rfl)) (blk_range (HO7.out.kept hk)) Try.underlying29 (by rw [Oc.len15]; exact szC)) ?_
            exact fsteps_nil
          intro gv wy hV ky
          rw [show dstsOf _ 1 = [38] by kernel_rfl]
          simp only [fC, fN, sA, sS, sZ, dS, dZ]
          rw [show gv 38 = (Oc.mk o m.f m.left false m.self 0).v vf from hV 0 38 (by kernel_rfl)]
          clear hV
          refine l_setS (o := ⟨none, _, _, _, _, _⟩) 29 b4 29 (zeroC.cells (.slice none 0 0)) ((Oc.mk o m.f m.left false m.self 0).cells vf) (.tmp 4) (.tmp 38) rfl rfl (by kernel_rfl) (by kernel_rfl) (HB47.out.kept ky) (by rw [Oc.len15]; exact szC) (by rw [Oc.len15, Oc.len15]) (Oc.one _ _ (sl_onec HV7.out)) ?_
          intro wx hBx hkx hsx
          simp only [Act.put]
          refine wpList_nil ?_
          go_wp2
          refine bodyPost_ret (results_cell (p := 4) rfl _ _ b4 _ ((Oc.mk o m.f m.left false m.self 0).cells vf) rfl hBx Try.underlying29 (by rw [Oc.len15]; exact szC)) rfl ?_
          rw [HADD.out]
          refine ⟨F4, vf, rfl, ?_, (HV7.out.kept ky).keep hkx (fun b hb e => HV4N.out b hb e), HOw.out, HG4.out, (KF7.kept ky).trans hkx (fun b hb e => by omega)⟩
          have h1 := (HB7.out.kept ky).keep hkx (fun b hb e => h4F4 (by rw [← e]; exact hb))
          simp only [Bool.false_eq_true, if_false]
          rw [Bok.traded_to, HMM.out]
          exact h1
        | true =>
          have hst : st = true := by rw [← HSTH.out, hmr, hsf]; simp; exact hl
          subst hst
          clear hmr
          go_upto_region 5 with fail
          refine wp_text 12 [.eq (.pointer (some ⟨bo, 10, none⟩)), .eq (.int .i64 (Oc.mk o m.f m.left false m.self 0).left), .eq (.bool true), .eq (.bool true), .eq (.pointer (some ⟨bo, 13, none⟩)), .eq (.bool (Oc.mk o m.f m.left false m.self 0).self), .eq (.bool true), .eq (.bool true), .eq (.bool true), .eq (o.v), .eq (.bool true), .eq (.bool true)] rfl (by kernel_rfl) ?_ ?_
          · refine sv 1 rfl rfl rfl (fun a u hE hD hk => exec_fldo 29 2 10 (.tmp 6) (bo) (0) (10) rfl (hE 6 (.pointer (some ⟨bo, 0, none⟩)) (by kernel_rfl) (by kernel_rfl)) (by kernel_rfl) rfl) ?_
            refine sv 2 rfl rfl rfl (fun a u hE hD hk => exec_loadi 3 Try.underlying3 (.tmp 20) ⟨bo, 10, none⟩ (.int .i64 (Oc.mk o m.f m.left false m.self 0).left) rfl (hD 0 20 (by kernel_rfl)) (by rw [(HOo.out.kept hk).cell]; rfl)) ?_
            refine fsteps_cons 3 rfl (fun a u hE hD hk => f_as (show ((decide ((0 : Int) < ((Oc.mk o m.f m.left false m.self 0).left : Int))) : Bool) = true from decide_eq_true hl) (f_val (o := ⟨some 22, _, _, _, _, _⟩) (.bool (decide ((0 : Int) < ((Oc.mk o m.f m.left false m.self 0).left : Int)))) rfl (wanted_none rfl _) (exec_gtn (p := (Oc.mk o m.f m.left false m.self 0).left) (q := 0) rfl (hD 1 21 (by kernel_rfl)) rfl) rfl)) ?_
            refine sv 4 rfl rfl rfl (fun a u hE hD hk => exec_move (.tmp 22) _ rfl (hD 2 22 (by kernel_rfl))) ?_
            refine fsteps_cons 5 rfl (fun a u hE hD hk => f_val (o := ⟨some 24, _, _, _, _, _⟩) (.pointer (some ⟨bo, 13, none⟩)) rfl (wanted_at (b := true) true rfl rfl (hD 3 23 (by kernel_rfl))) (exec_fldo 29 5 13 (.tmp 6) (bo) (0) (13) rfl (hE 6 (.pointer (some ⟨bo, 0, none⟩)) (by kernel_rfl) (by kernel_rfl)) (by kernel_rfl) rfl) rfl) ?_
            refine fsteps_cons 6 rfl (fun a u hE hD hk => f_val (o := ⟨some 25, _, _, _, _, _⟩) (.bool (Oc.mk o m.f m.left false m.self 0).self) rfl (wanted_at (b := true) true rfl rfl (hD 3 23 (by kernel_rfl))) (exec_ldb 4 Try.underlying4 (.tmp 24) ⟨bo, 13, none⟩ (.bool (Oc.mk o m.f m.left false m.self 0).self) rfl (hD 4 24 (by kernel_rfl)) (by rw [(HOo.out.kept hk).cell]; rfl)) rfl) ?_
            refine fsteps_cons 7 rfl (fun a u hE hD hk => f_as (show ((!(Oc.mk o m.f m.left false m.self 0).self) : Bool) = true from (by rw [hsf]; rfl)) (f_val (o := ⟨some 26, _, _, _, _, _⟩) (.bool (!(Oc.mk o m.f m.left false m.self 0).self)) rfl (wanted_at (b := true) true rfl rfl (hD 3 23 (by kernel_rfl))) (exec_not _ (.tmp 25) (Oc.mk o m.f m.left false m.self 0).self rfl (hD 5 25 (by kernel_rfl))) rfl)) ?_
            refine sv 8 rfl rfl rfl (fun a u hE hD hk => exec_pick (.tmp 23) (.tmp 26) (.const (.bool false)) (.bool true) rfl (hD 3 23 (by kernel_rfl)) (hD 6 26 (by kernel_rfl))) ?_
            refine sv 9 rfl rfl rfl (fun a u hE hD hk => exec_move (.tmp 27) _ rfl (hD 7 27 (by kernel_rfl))) ?_
            refine fsteps_cons 10 rfl (fun a u hE hD hk => f_val (o := ⟨some 29, _, _, _, _, _⟩) (o.v) rfl (wanted_at (b := true) true rfl rfl (hD 8 28 (by kernel_rfl))) (exec_ldS 25 _ (.tmp 3) (bi) (0) (o.cells) rfl (hE 3 (.pointer (some ⟨bi, 0, none⟩)) (by kernel_rfl) (by kernel_rfl)) (range_kept HO6.out hk) Try.underlying25 (by rw [o.len9]; exact ord_size)) rfl) ?_
            refine fsteps_cons 11 rfl (fun a u hE hD hk => f_call (o := ⟨some 30, _, _, _, _, _⟩) 41 #[o.v] rfl (wanted_at (b := true) true rfl rfl (hD 8 28 (by kernel_rfl))) (exec_call 41 _ [.tmp 29] _ [o.v] Try.func41 (by kernel_rfl) (by kernel_rfl) rfl (show [a.eval (.tmp 29)] = [o.v] from (by rw [show a.eval (.tmp 29) = o.v from (hD 9 29 (by kernel_rfl))] <;> rfl)) u) ((by rw [← HMR.out]; exact mayRest_any u o))) ?_
            refine sv 12 rfl rfl rfl (fun a u hE hD hk => exec_pick (.tmp 28) (.tmp 30) (.const (.bool false)) (.bool true) rfl (hD 8 28 (by kernel_rfl)) (hD 10 30 (by kernel_rfl))) ?_
            exact fsteps_nil
          intro gv w7 hV k7
          rw [show dstsOf _ 12 = [20, 21, 22, 23, 24, 25, 26, 27, 28, 29, 30, 31] by kernel_rfl]
          simp only [fC, fN, sA, sS, sZ, dS, dZ]
          rw [show gv 31 = .bool true from hV 11 31 (by kernel_rfl)]
          clear hV
          refine wpList_nil ?_
          have HB7 := Lib.hid (HB6.out.kept k7)
          have HV7 := Lib.hid (HV6.out.kept k7)
          have HO7 := Lib.hid (HOo.out.kept k7)
          have HI7 := Lib.hid (range_kept HO6.out k7)
          have HB47 := Lib.hid (HB46.out.kept k7)
          have KF7 := KF6.kept k7
          have zk7 := k7.size
          have HLO : Hid (LvsOk ((B.to (3 - o.side) m.L (lastOf B.last m.f) (B.no + m.f.length)).sd o.side)) := by
            show LvsOk _
            have h1 := HI.out.ok o.side
            rcases HAI.out.sd with h2 | h2 <;> rw [h2] at h1 ⊢ <;> exact h1
          clear HB6 HV6 HOo HB46 HO6 KF6 k7 hl hsf
          go_upto_region 6 with fail
          refine wp_text 4 [.eq (.pointer (some ⟨p, 0, none⟩)), .eq (o.v), .eq (.pointer (some ⟨bo, 10, none⟩)), .eq (.int .i64 (Oc.mk o m.f m.left false m.self 0).left)] rfl (by kernel_rfl) ?_ ?_
          · refine sv 1 rfl rfl rfl (fun a u hE hD hk => exec_move (.tmp 0) _ rfl (hE 0 (.pointer (some ⟨p, 0, none⟩)) (by kernel_rfl) (by kernel_rfl))) ?_
            refine sv 2 rfl rfl rfl (fun a u hE hD hk => exec_ldS 25 _ (.tmp 3) (bi) (0) (o.cells) rfl (hE 3 (.pointer (some ⟨bi, 0, none⟩)) (by kernel_rfl) (by kernel_rfl)) (range_kept HI7.out hk) Try.underlying25 (by rw [o.len9]; exact ord_size)) ?_
            refine sv 3 rfl rfl rfl (fun a u hE hD hk => exec_fldo 29 2 10 (.tmp 6) (bo) (0) (10) rfl (hE 6 (.pointer (some ⟨bo, 0, none⟩)) (by kernel_rfl) (by kernel_rfl)) (by kernel_rfl) rfl) ?_
            refine sv 4 rfl rfl rfl (fun a u hE hD hk => exec_loadi 3 Try.underlying3 (.tmp 34) ⟨bo, 10, none⟩ (.int .i64 (Oc.mk o m.f m.left false m.self 0).left) rfl (hD 2 34 (by kernel_rfl)) (by rw [(HO7.out.kept hk).cell]; rfl)) ?_
            exact fsteps_nil
          intro gv w8 hV k8
          rw [show dstsOf _ 4 = [32, 33, 34, 35] by kernel_rfl]
          simp only [fC, fN, sA, sS, sZ, dS, dZ]
          rw [show gv 32 = .pointer (some ⟨p, 0, none⟩) from hV 0 32 (by kernel_rfl)]
          rw [show gv 33 = o.v from hV 1 33 (by kernel_rfl)]
          rw [show gv 35 = .int .i64 (Oc.mk o m.f m.left false m.self 0).left from hV 3 35 (by kernel_rfl)]
          clear hV
          refine l_call (o := ⟨some 36, _, _, _, _, _⟩) 42 #[.pointer (some ⟨p, 0, none⟩), o.v, .int .i64 (Oc.mk o m.f m.left false m.self 0).left] rfl (exec_call 42 _ [.tmp 32, .tmp 33, .tmp 35] _ _ Try.func42 (by kernel_rfl) (by kernel_rfl) rfl (by kernel_rfl) _) ?_
          refine (rest_any w8 F4 p _ o m.left (HB7.out.kept k8) HAI.out.sd HLO.out).mono ?_
          rintro r w9 ⟨F9, rfl, hb9, hg9, hk9⟩
          refine ⟨_, rfl, ?_⟩
          simp only [Act.put, sA, sS, sZ]
          refine wpList_nil ?_
          have zk8 := k8.size
          have zk9 := hk9.size
          have HO9 := Lib.hid ((HO7.out.kept k8).keep hk9 hoF4)
          have HB49 := Lib.hid ((HB47.out.kept k8).keep hk9 h4F4)
          have HV9 := Lib.hid ((HV7.out.kept k8).keep hk9 (fun b hb e => (HOw.out b hb).2 e))
          have KF9 : Keep F w w9 := (KF7.kept k8).trans hk9 (fun b hb e => (HG4.out b e).elim id (fun e => by omega))
          have hF9 : ∀ b, F9 b → F4 b ∨ w8.heap.size ≤ b := hg9
          have ho9 : ¬ F9 bo := fun h => (hF9 bo h).elim hoF4 (fun h => by omega)
          have h49 : ¬ F9 b4 := fun h => (hF9 b4 h).elim h4F4 (fun h => by omega)
          have HOw9 : Hid (∀ b, vf.ownBlock = some b → w.heap.size ≤ b ∧ ¬ F9 b) := fun b hb => ⟨(HOw.out b hb).1, fun e => (hF9 b e).elim (HOw.out b hb).2 (fun e => by have := HVL.out b hb; omega)⟩
          have HG9 : Hid (Grow w F F9) := fun b hb => by
            rcases hF9 b hb with h | h
            · exact HG4.out b h
            · exact .inr (by have := KF7.size; omega)
          have HB9 := Lib.hid hb9
          clear hb9 hg9 hk9 k8 HB7 HV7 HO7 HI7 HB47 KF7 hF9
          go_upto_region 7 with fail
          refine wp_text 1 [.eq (.pointer (some ⟨bo, 11, none⟩))] rfl (by kernel_rfl) ?_ ?_
          · refine sv 1 rfl rfl rfl (fun a u hE hD hk => exec_fldo 29 3 11 (.tmp 6) (bo) (0) (11) rfl (hE 6 (.pointer (some ⟨bo, 0, none⟩)) (by kernel_rfl) (by kernel_rfl)) (by kernel_rfl) rfl) ?_
            exact fsteps_nil
          intro gv wa hV ka
          rw [show dstsOf _ 1 = [37] by kernel_rfl]
          simp only [fC, fN, sA, sS, sZ, dS, dZ]
          rw [show gv 37 = .pointer (some ⟨bo, 11, none⟩) from hV 0 37 (by kernel_rfl)]
          clear hV
          refine l_st1 (o := ⟨none, _, _, _, _, _⟩) 4 bo 11 29 _ (.bool true) (.tmp 37) (.const (.bool true)) rfl rfl (by kernel_rfl) (by kernel_rfl) rfl rfl rfl (HO9.out.kept ka) (by rw [Oc.len15]; omega) ?_
          intro wb hOb hkb hsb
          simp only [Act.put]
          refine wpList_nil ?_
          rw [Oc.set_rests] at hOb
          have HOb := Lib.hid hOb
          have HBb := Lib.hid ((HB9.out.kept ka).keep hkb (fun b hb e => ho9 (by rw [← e]; exact hb)))
          have HVb := Lib.hid ((HV9.out.kept ka).keep hkb (fun b hb e => by have := HVL.out b hb; omega))
          have HB4b := Lib.hid ((HB49.out.kept ka).keep hkb (fun e => hbo4 e.symm))
          have KFb : Keep F w wb := (KF9.kept ka).trans hkb (fun b hb e => by omega)
          clear hOb hkb hsb ka HO9 HB9 HV9 HB49 KF9
          go_upto_region 8 with fail
          refine wp_text 1 [.eq ((Oc.mk o m.f m.left true m.self 0).v vf)] rfl (by kernel_rfl) ?_ ?_
          · refine sv 1 rfl rfl rfl (fun a u hE hD hk => exec_ldS 29 _ (.tmp 6) bo 0 ((Oc.mk o m.f m.left true m.self 0).cells vf) rfl (hE 6 (.pointer (some ⟨bo, 0, none⟩)) (by kernel_rfl) (by kernel_rfl)) (blk_range (HOb.out.kept hk)) Try.underlying29 (by rw [Oc.len15]; exact szC)) ?_
            exact fsteps_nil
          intro gv wy hV ky
          rw [show dstsOf _ 1 = [38] by kernel_rfl]
          simp only [fC, fN, sA, sS, sZ, dS, dZ]
          rw [show gv 38 = (Oc.mk o m.f m.left true m.self 0).v vf from hV 0 38 (by kernel_rfl)]
          clear hV
          refine l_setS (o := ⟨none, _, _, _, _, _⟩) 29 b4 29 (zeroC.cells (.slice none 0 0)) ((Oc.mk o m.f m.left true m.self 0).cells vf) (.tmp 4) (.tmp 38) rfl rfl (by kernel_rfl) (by kernel_rfl) (HB4b.out.kept ky) (by rw [Oc.len15]; exact szC) (by rw [Oc.len15, Oc.len15]) (Oc.one _ _ (sl_onec HVb.out)) ?_
          intro wx hBx hkx hsx
          simp only [Act.put]
          refine wpList_nil ?_
          go_wp2
          refine bodyPost_ret (results_cell (p := 4) rfl _ _ b4 _ ((Oc.mk o m.f m.left true m.self 0).cells vf) rfl hBx Try.underlying29 (by rw [Oc.len15]; exact szC)) rfl ?_
          rw [HADD.out]
          refine ⟨F9, vf, rfl, ?_, (HVb.out.kept ky).keep hkx (fun b hb e => HV4N.out b hb e), HOw9.out, HG9.out, (KFb.kept ky).trans hkx (fun b hb e => by omega)⟩
          have h1 := (HBb.out.kept ky).keep hkx (fun b hb e => h49 (by rw [← e]; exact hb))
          simp only [if_true]
          rw [Bok.traded_to, HMM.out]
          rcases HAI.out.sd with h2 | h2
          · rw [h2] at h1 ⊢
            exact h1
          · rw [h2] at h1 ⊢
            exact h1
    · have hst : st = false := by rw [← HSTH.out]; simp [hl]
      subst hst
      go_upto_region 5 with fail
      refine wp_text 12 [.eq (.pointer (some ⟨bo, 10, none⟩)), .eq (.int .i64 (Oc.mk o m.f m.left false m.self 0).left), .eq (.bool false), .eq (.bool false), .eq undef, .eq undef, .eq undef, .eq (.bool false), .eq (.bool false), .eq undef, .eq undef, .eq (.bool false)] rfl (by kernel_rfl) ?_ ?_
      · refine sv 1 rfl rfl rfl (fun a u hE hD hk => exec_fldo 29 2 10 (.tmp 6) (bo) (0) (10) rfl (hE 6 (.pointer (some ⟨bo, 0, none⟩)) (by kernel_rfl) (by kernel_rfl)) (by kernel_rfl) rfl) ?_
        refine sv 2 rfl rfl rfl (fun a u hE hD hk => exec_loadi 3 Try.underlying3 (.tmp 20) ⟨bo, 10, none⟩ (.int .i64 (Oc.mk o m.f m.left false m.self 0).left) rfl (hD 0 20 (by kernel_rfl)) (by rw [(HOo.out.kept hk).cell]; rfl)) ?_
        refine fsteps_cons 3 rfl (fun a u hE hD hk => f_as (show ((decide ((0 : Int) < ((Oc.mk o m.f m.left false m.self 0).left : Int))) : Bool) = false from decide_eq_false hl) (f_val (o := ⟨some 22, _, _, _, _, _⟩) (.bool (decide ((0 : Int) < ((Oc.mk o m.f m.left false m.self 0).left : Int)))) rfl (wanted_none rfl _) (exec_gtn (p := (Oc.mk o m.f m.left false m.self 0).left) (q := 0) rfl (hD 1 21 (by kernel_rfl)) rfl) rfl)) ?_
        refine sv 4 rfl rfl rfl (fun a u hE hD hk => exec_move (.tmp 22) _ rfl (hD 2 22 (by kernel_rfl))) ?_
        refine fsteps_cons 5 rfl (fun a u hE hD hk => f_skip (o := ⟨some 24, _, _, _, _, _⟩) rfl (wanted_at (b := true) false rfl rfl (hD 3 23 (by kernel_rfl))) rfl) ?_
        refine fsteps_cons 6 rfl (fun a u hE hD hk => f_skip (o := ⟨some 25, _, _, _, _, _⟩) rfl (wanted_at (b := true) false rfl rfl (hD 3 23 (by kernel_rfl))) rfl) ?_
        refine fsteps_cons 7 rfl (fun a u hE hD hk => f_skip (o := ⟨some 26, _, _, _, _, _⟩) rfl (wanted_at (b := true) false rfl rfl (hD 3 23 (by kernel_rfl))) rfl) ?_
        refine sv 8 rfl rfl rfl (fun a u hE hD hk => exec_pickF (.tmp 23) (.tmp 26) (.const (.bool false)) (.bool false) rfl (hD 3 23 (by kernel_rfl)) rfl) ?_
        refine sv 9 rfl rfl rfl (fun a u hE hD hk => exec_move (.tmp 27) _ rfl (hD 7 27 (by kernel_rfl))) ?_
        refine fsteps_cons 10 rfl (fun a u hE hD hk => f_skip (o := ⟨some 29, _, _, _, _, _⟩) rfl (wanted_at (b := true) false rfl rfl (hD 8 28 (by kernel_rfl))) rfl) ?_
        refine fsteps_cons 11 rfl (fun a u hE hD hk => f_skip (o := ⟨some 30, _, _, _, _, _⟩) rfl (wanted_at (b := true) false rfl rfl (hD 8 28 (by kernel_rfl))) rfl) ?_
        refine sv 12 rfl rfl rfl (fun a u hE hD hk => exec_pickF (.tmp 28) (.tmp 30) (.const (.bool false)) (.bool false) rfl (hD 8 28 (by kernel_rfl)) rfl) ?_
        exact fsteps_nil
      intro gv w7 hV k7
      rw [show dstsOf _ 12 = [20, 21, 22, 23, 24, 25, 26, 27, 28, 29, 30, 31] by kernel_rfl]
      simp only [fC, fN, sA, sS, sZ, dS, dZ]
      rw [show gv 31 = .bool false from hV 11 31 (by kernel_rfl)]
      clear hV
      refine wpList_nil ?_
      have HB7 := Lib.hid (HB6.out.kept k7)
      have HV7 := Lib.hid (HV6.out.kept k7)
      have HO7 := Lib.hid (HOo.out.kept k7)
      have HB47 := Lib.hid (HB46.out.kept k7)
      have KF7 := KF6.kept k7
      clear HB6 HV6 HOo HB46 HO6 KF6 k7
      go_upto_region 8 with fail
      refine wp_text 1 [.eq ((Oc.mk o m.f m.left false m.self 0).v vf)] rfl (by kernel_rfl) ?_ ?_
      · refine sv 1 rfl rfl rfl (fun a u hE hD hk => exec_ldS 29 _ (.tmp 6) bo 0 ((Oc.mk o m.f m.left false m.self 0).cells vf) rfl (hE 6 (.pointer (some ⟨bo, 0, none⟩)) (by kernel_rfl) (by kernel_rfl)) (blk_range (HO7.out.kept hk)) Try.underlying29 (by rw [Oc.len15]; exact szC)) ?_
        exact fsteps_nil
      intro gv wy hV ky
      rw [show dstsOf _ 1 = [38] by kernel_rfl]
      simp only [fC, fN, sA, sS, sZ, dS, dZ]
      rw [show gv 38 = (Oc.mk o m.f m.left false m.self 0).v vf from hV 0 38 (by kernel_rfl)]
      clear hV
      refine l_setS (o := ⟨none, _, _, _, _, _⟩) 29 b4 29 (zeroC.cells (.slice none 0 0)) ((Oc.mk o m.f m.left false m.self 0).cells vf) (.tmp 4) (.tmp 38) rfl rfl (by kernel_rfl) (by kernel_rfl) (HB47.out.kept ky) (by rw [Oc.len15]; exact szC) (by rw [Oc.len15, Oc.len15]) (Oc.one _ _ (sl_onec HV7.out)) ?_
      intro wx hBx hkx hsx
      simp only [Act.put]
      refine wpList_nil ?_
      go_wp2
      refine bodyPost_ret (results_cell (p := 4) rfl _ _ b4 _ ((Oc.mk o m.f m.left false m.self 0).cells vf) rfl hBx Try.underlying29 (by rw [Oc.len15]; exact szC)) rfl ?_
      rw [HADD.out]
      refine ⟨F4, vf, rfl, ?_, (HV7.out.kept ky).keep hkx (fun b hb e => HV4N.out b hb e), HOw.out, HG4.out, (KF7.kept ky).trans hkx (fun b hb e => by omega)⟩
      have h1 := (HB7.out.kept ky).keep hkx (fun b hb e => h4F4 (by rw [← e]; exact hb))
      simp only [Bool.false_eq_true, if_false]
      rw [Bok.traded_to, HMM.out]
      exact h1
end Go.Proofs.Ytfpfpmhkkgfdbaa
namespace Go.Proofs.Ytfpfpmhkkgfdbaa
open Go.RowKit
set_option maxRecDepth 100000
end Go.Proofs.Ytfpfpmhkkgfdbaa
namespace Go.Proofs.Ytfpfpmhkkgfdbaa
open Go.RowKit
set_option maxRecDepth 100000
section
variable {P : Program} {ops : Array Oper} {Q : Exit → Act → World → Prop} {V : List Kn} {n m m2 : Nat} {a0 : Act} {w0 : World} {S S2 : Nat → Prop}
end
end Go.Proofs.Ytfpfpmhkkgfdbaa
namespace Go.Proofs.Ytfpfpmhkkgfdbaa
open Go.RowKit
set_option maxRecDepth 100000
theorem add_frame {wa wb wc wd we : World} {F F' : Nat → Prop} {p n : Nat} {B' : Bok} {v : Value} {cs : List Value} {T : TypeId} {k : Nat} (k1 : Kept wa wb) (hB : Bk wc F' p B') (hS : Sl wc T k v n cs) (hO : ∀ b, v.ownBlock = some b → wb.heap.size ≤ b ∧ ¬ F' b) (hG : Grow wb F F') (hk : Keep F wb wc) (k2 : Kept wc wd) (hk3 : Keep (· = wc.heap.size) wd we) :
    Keep F wa we ∧ Bk we F' p B' ∧ Sl we T k v n cs ∧ (∀ b, v.ownBlock = some b → wa.heap.size ≤ b ∧ ¬ F' b ∧ b < wc.heap.size) ∧ Grow wa F F' ∧ (∀ b, F' b → b < wc.heap.size) ∧ wa.heap.size ≤ wc.heap.size := by
  have z1 := k1.size
  have z2 := hk.size
  have K : Keep (· = wc.heap.size) wc we := Keep.any k2 hk3
  refine ⟨(Keep.any k1 hk).new K (by omega), hB.keep K (fun b hb e => ?_), hS.keep K (fun b hb e => ?_), fun b hb => ⟨?_, (hO b hb).2, hS.lt hb⟩, hG.wide z1, hB.lt, by omega⟩
  · have := hB.lt b hb; omega
  · have := hS.lt hb; omega
  · have := (hO b hb).1; omega
def Kn.add (base : Nat) (F : Nat → Prop) (p : Nat) (x : Oc × Bok) : Kn := ⟨fun rv w => ∃ F' v, rv = x.1.v v ∧ Bk w F' p x.2 ∧ Sl w 36 21 v x.1.f.length (fls x.1.f) ∧ (∀ b, v.ownBlock = some b → base ≤ b ∧ ¬ F' b) ∧ ∀ b, F' b → F b ∨ base ≤ b, fun _ _ _ ⟨F', v, h1, h2, h3, h4, h5⟩ hk => ⟨F', v, h1, h2.kept hk, h3.kept hk, h4, h5⟩⟩
def Kn.two (base : Nat) (F G : Nat → Prop) (p r : Nat) (x y : Oc × Bok) : Kn := ⟨fun rv w => ∃ F' G' v, rv = y.1.v v ∧ Bk w F' p x.2 ∧ Bk w G' r y.2 ∧ Sl w 36 21 v y.1.f.length (fls y.1.f) ∧ (∀ b, v.ownBlock = some b → base ≤ b ∧ ¬ G' b ∧ ¬ F' b) ∧ (∀ b, F' b → F b ∨ base ≤ b) ∧ (∀ b, G' b → G b ∨ base ≤ b) ∧ ∀ b, F' b → ¬ G' b,
  fun _ _ _ ⟨F', G', v, h1, h2, h3, h4, h5⟩ hk => ⟨F', G', v, h1, h2.kept hk, h3.kept hk, h4.kept hk, h5⟩⟩
end Go.Proofs.Ytfpfpmhkkgfdbaa
namespace Go.Proofs.Ytfpfpmhkkgfdbaa
open Go.RowKit
set_option maxRecDepth 100000
def wi (n lo hi : Int) : Int := lo + n % (hi - lo + 1)
theorem wi_in (n lo hi : Int) (h : lo ≤ hi) : lo ≤ wi n lo hi ∧ wi n lo hi ≤ hi := by
  unfold wi
  have p := Int.emod_nonneg n (show hi - lo + 1 ≠ 0 by omega)
  have q := Int.emod_lt_of_pos n (show 0 < hi - lo + 1 by omega)
  omega
theorem within_is (n lo hi : Int) (w : World) (h0 : 0 ≤ lo) (h1 : lo ≤ hi) (h2 : hi ≤ 1099511627776) : Gives 38 #[.int .i64 n, .int .i64 lo, .int .i64 hi] w (.eq (.int .i64 (wi n lo hi))) :=
  gives_eq ((within_any n lo hi w h0 h1 h2).mono fun e w' ⟨he, hw⟩ => ⟨he, by subst hw; exact Kept.refl _⟩)
end Go.Proofs.Ytfpfpmhkkgfdbaa
namespace Go.Proofs.Ytfpfpmhkkgfdbaa
open Go.RowKit
set_option maxRecDepth 100000
def RI (w : World) (A : Option Addr) (l : List Int) : Prop := ∀ k x, l[k]? = some x → ∃ ad, A = some ad ∧ w.cell? (ad.add k) = some (.int .i64 x)
theorem RI.nil (w : World) (A : Option Addr) : RI w A [] := fun k x h => by simp at h
theorem RI.kept {w w' : World} {A : Option Addr} {l : List Int} (h : RI w A l) (hk : Kept w w') : RI w' A l := by
  intro k x hx
  obtain ⟨ad, rfl, hc⟩ := h k x hx
  exact ⟨ad, rfl, hk.cell hc⟩
theorem RI.take {w : World} {A : Option Addr} {l : List Int} (h : RI w A l) (n : Nat) : RI w A (l.take n) := by
  intro k x hx
  rw [List.getElem?_take] at hx
  split at hx
  · exact h k x hx
  · cases hx
theorem RI.drop {w : World} {ad : Addr} {l : List Int} (h : RI w (some ad) l) (n : Nat) : RI w (some (ad.add n)) (l.drop n) := by
  intro k x hx
  rw [List.getElem?_drop] at hx
  obtain ⟨a', e, hc⟩ := h (n + k) x hx
  injection e with e
  subst e
  exact ⟨_, rfl, by rw [add_add]; exact hc⟩
end Go.Proofs.Ytfpfpmhkkgfdbaa
namespace Go.Proofs.Ytfpfpmhkkgfdbaa
open Go.RowKit Go.ChangeShapes Go.WideShapes Go.ChangeAt
set_option maxRecDepth 100000
def IntsA (W : World) (v : Value) (l : List Int) : Prop := ∃ A n c, v = .slice A n c ∧ Hid (l.length = n) ∧ RI W A l ∧ (∀ x ∈ l, In64 x) ∧ n ≤ c ∧ c ≤ maxLen ∧ (A = none → c = 0)
theorem cellsOfI : Try.prog.cellsOf 3 = 1 := by kernel_rfl
theorem infoI1 : (Try.prog.info? 3).map (·.size) = some 1 := by kernel_rfl
theorem open_intsA {H : Type} {enc : TypeId × Value → H} {W : World} {b0 : Nat} {v : Value} {d : DataW H} {p : List MemPlace} (hv : Value.okWide Try.prog W .any b0 68 v)
    (h : DataW.Trod enc Try.prog W 0 (fun _ => true) true 68 v d p) : ∃ l, IntsA W v l := by
  obtain ⟨a0, len0, cap0, rfl⟩ := okWide_slice Try.underlying68 hv
  obtain ⟨fuel, hf⟩ := h
  rcases open_ints Try.underlying68 Try.underlying3 cellsOfI hf with ⟨hcs, _⟩ | ⟨a, len, cap, zs, hcs, _, hl, hm, hz, _, hcell, hwz⟩
  · simp [Value.cells] at hcs
    obtain ⟨rfl, rfl, rfl⟩ := hcs
    exact ⟨[], none, 0, 0, rfl, rfl, RI.nil _ _, (fun x h => by cases h), Nat.le_refl _, by unfold maxLen; omega, fun _ => rfl⟩
  · simp [Value.cells] at hcs
    obtain ⟨rfl, rfl, rfl⟩ := hcs
    simp at hz
    refine ⟨zs.take len0, some a, len0, cap0, rfl, by show _ = _; simp; omega, ?_, ?_, hl, hm, fun h => by cases h⟩
    · intro k x hx
      refine ⟨a, rfl, ?_⟩
      have hk : k < len0 := by
        have := (List.getElem?_eq_some_iff.1 hx).1
        simp at this
        omega
      rw [List.getElem?_take, if_pos hk] at hx
      rw [hcell k (by omega), List.getD_eq_getElem?_getD, hx]
      rfl
    · intro x hx
      exact in64_of_wf (hwz x (List.mem_of_mem_take hx))
def OwnI (w : World) (base : Nat) (A : Option Addr) (n c : Nat) (l : List Int) : Prop := OwnG w base 3 1 A n c (i64s l)
theorem OwnI.nil (w : World) (base : Nat) : OwnI w base none 0 0 [] := OwnG.nil _ _ _ _
theorem OwnI.len {w : World} {base n c : Nat} {A : Option Addr} {l : List Int} (h : OwnI w base A n c l) : l.length = n := by
  have := OwnG.len h
  rw [i64s_len] at this
  omega
theorem OwnI.kept {w w' : World} {base n c : Nat} {A : Option Addr} {l : List Int} (h : OwnI w base A n c l) (hk : Kept w w') : OwnI w' base A n c l := OwnG.kept h hk
theorem OwnI.one (w : World) (x : Int) (base : Nat) (hb : base ≤ w.heap.size) : OwnI (w.alloc (.cells #[.int .i64 x] 3)) base (some ⟨w.heap.size, 0, none⟩) 1 1 [x] :=
  ⟨rfl, .inr ⟨w.heap.size, 1, #[.int .i64 x], rfl, hb, heap_alloc_new w _, Nat.le_refl _, by unfold maxLen; omega, by simp, rfl⟩⟩
section
variable {a : Act} {o : Oper} {Q : Exit → Act → World → Prop} {K : Act → World → Prop}
end
section
variable {a : Act} {o : Oper} {u : World}
theorem exec_indexA (t e : TypeId) (k : Nat) (x y : Operand) (ad : Addr) (n c i : Nat) (hop : o.op = .indexAddr t x y) (ht : Try.prog.underlying t = some (.slice e)) (hk : (Try.prog.info? e).map (·.size) = some k)
    (hx : a.eval x = .slice (some ad) n c) (hy : a.eval y = .int .i64 (i : Int)) (hi : i < n) : (execOp a.eval o).run Try.prog u = .ok (.value (.pointer (some (ad.add (i * k))))) u := by
  have hin : (0 : Int) ≤ (i : Int) ∧ (i : Int) < (n : Int) := by omega
  cases hq : Try.prog.info? e with
  | none => simp [hq] at hk
  | some t0 =>
    have hs : t0.size = k := by simpa [hq] using hk
    unfold execOp
    simp only [hop, hx, hy]
    simp [Instr.indexAt, asIntOf, run_underlying ht, Sem.run_bind, hin, sizeOf, typeInfo, hq, hs, hi]
end
end Go.Proofs.Ytfpfpmhkkgfdbaa
