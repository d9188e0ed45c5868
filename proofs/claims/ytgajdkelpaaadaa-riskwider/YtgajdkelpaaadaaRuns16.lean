/-
  RiskRuns: chapter 16's runs; it answers true. No condition.
-/
import Derived.Test.YtgajdkelpaaadaaRskC
import Derived.Test.YtgajdkelpaaadaaRuns15
namespace Go.Proofs.Ytgajdkelpaaadaa
open Go.RowKit
set_option linter.unusedVariables false
set_option maxRecDepth 100000

theorem check_at {g : Nat} {B : Bal} {L : Lim} {c : Ord} {i V : Int} {w : World} (hB : Blk w g 53 B.lc) (hO : B.Ok) (h : chk B L c i = V) : Gives 10 #[.pointer (some ⟨g, 0, none⟩), L.v, c.v, .int .i64 i] w (.eq (.int .i64 V)) := by
  rw [← h]
  exact check_any g B hO L c i w hB
def oM (p q : Int) : Ord := ⟨1, 0, 0, 1, 1, p, q, 0, 0⟩
theorem built_o (p q : Int) : Try.prog.built 29 [(0, .int .i64 1), (3, .int .i64 1), (4, .int .i64 1), (5, .int .i64 p), (6, .int .i64 q)] = some (oM p q).cells.toArray := by kernel_rfl
theorem built_l (q m x p : Int) : Try.prog.built 25 [(0, .int .i64 q), (1, .int .i64 m), (2, .int .i64 x), (3, .int .i64 p)] = some (Lim.mk q m x p).cells.toArray := by kernel_rfl
section
variable {a : Act} {o : Oper} {u : World}
theorem exec_bldO (x y : Operand) (p q : Int) (hop : o.op = .build 29 #[(0, .const (.int .i64 1)), (3, .const (.int .i64 1)), (4, .const (.int .i64 1)), (5, x), (6, y)]) (hx : a.eval x = .int .i64 p) (hy : a.eval y = .int .i64 q) : (execOp a.eval o).run Try.prog u = .ok (.value (oM p q).v) u :=
  exec_build _ [(0, .const (.int .i64 1)), (3, .const (.int .i64 1)), (4, .const (.int .i64 1)), (5, x), (6, y)] (oM p q).cells hop (by
    simp only [List.map_cons, List.map_nil, hx, hy]
    exact built_o p q)
theorem exec_bldL (x0 x1 x2 x3 : Operand) (q m y p : Int) (hop : o.op = .build 25 #[(0, x0), (1, x1), (2, x2), (3, x3)]) (h0 : a.eval x0 = .int .i64 q) (h1 : a.eval x1 = .int .i64 m) (h2 : a.eval x2 = .int .i64 y) (h3 : a.eval x3 = .int .i64 p) : (execOp a.eval o).run Try.prog u = .ok (.value (Lim.mk q m y p).v) u :=
  exec_build _ [(0, x0), (1, x1), (2, x2), (3, x3)] (Lim.mk q m y p).cells hop (by
    simp only [List.map_cons, List.map_nil, h0, h1, h2, h3]
    exact built_l q m y p)
end
set_option maxRecDepth 100000 in
set_option maxHeartbeats 1600000 in
theorem o_any (p q : Int) (w : World) : Gives 11 #[.int .i64 p, .int .i64 q] w (.eq (oM p q).v) := by
  refine gives_eq ?_
  go_enter Try.func11, Try.ntmps11
  go_upto_region 0 with fail
  refine wp_text 1 [.fresh w.heap.size 29 zeroO.cells] rfl (by kernel_rfl) ?_ ?_
  · refine fsteps_cons 1 rfl (fun a u hE hD hk => f_new (o := ⟨some 4, _, _, _, _, _⟩) (.pointer (some ⟨u.heap.size, 0, none⟩)) _ rfl (wanted_none rfl _) (exec_alc 29 zeroO.cells rfl zO) ⟨_, rfl, hk.size, Blk.new u _ _⟩ ((Keep.refl _ u).alloc _)) ?_
    exact fsteps_nil
  intro gv w0 hV k0
  rw [show dstsOf _ 1 = [4] by kernel_rfl]
  simp only [List.foldl_cons, List.foldl_nil, List.setIfInBounds_toArray, List.set_cons_succ, List.set_cons_zero, List.drop_succ_cons, List.drop_zero]
  have hv4 : (.fresh w.heap.size 29 zeroO.cells : Kn).p (gv 4) w0 := hV 0 4 (by kernel_rfl)
  generalize gv 4 = v4 at hv4 ⊢
  clear hV
  obtain ⟨g4, rfl, hg4, hB4⟩ := hv4
  refine wpList_nil ?_
  have HB4 := Lib.hid hB4
  clear hB4
  go_upto_region 1 with fail
  refine wp_text 3 [.eq (.int .i64 p), .eq (.int .i64 q), .eq ((oM p q).v)] rfl (by kernel_rfl) ?_ ?_
  · refine sv 1 rfl rfl rfl (fun a u hE hD hk => exec_move (.tmp 0) _ rfl (hE 0 (.int .i64 p) (by kernel_rfl) (by kernel_rfl))) ?_
    refine sv 2 rfl rfl rfl (fun a u hE hD hk => exec_move (.tmp 1) _ rfl (hE 1 (.int .i64 q) (by kernel_rfl) (by kernel_rfl))) ?_
    refine sv 3 rfl rfl rfl (fun a u hE hD hk => exec_bldO (.tmp 5) (.tmp 6) p q rfl (hD 0 5 (by kernel_rfl)) (hD 1 6 (by kernel_rfl))) ?_
    exact fsteps_nil
  intro gv w1 hV k1
  rw [show dstsOf _ 3 = [5, 6, 7] by kernel_rfl]
  simp only [List.foldl_cons, List.foldl_nil, List.setIfInBounds_toArray, List.set_cons_succ, List.set_cons_zero, List.drop_succ_cons, List.drop_zero]
  rw [show gv 7 = (oM p q).v from hV 2 7 (by kernel_rfl)]
  clear hV
  refine l_setS (o := ⟨none, _, _, _, _, _⟩) 29 g4 29 zeroO.cells (oM p q).cells (.tmp 4) (.tmp 7) rfl rfl (by kernel_rfl) (by kernel_rfl) (HB4.out.kept k1) (by rw [Ord.len9]; exact ord_size) (by rw [Ord.len9, Ord.len9]) (Ord.one1 _) ?_
  intro w2 hC hK hS
  simp only [Act.put]
  refine wpList_nil ?_
  have kw := (k0.trans k1).trans' hK (by omega)
  go_wp2
  refine bodyPost_ret (results_cell (p := 4) rfl _ _ g4 _ (oM p q).cells rfl hC Try.underlying29 (by rw [Ord.len9]; exact ord_size)) rfl ?_
  exact ⟨rfl, kw⟩
def limR : Lim := ⟨5, 50, 8, 6⟩
theorem run_c1 : chk zeroB limR (oM 10 5) 0 = 0 := by decide +kernel
theorem run_c2 : chk zeroB limR (oM 11 5) 0 = 8 := by decide +kernel
theorem run_c3 : chk zeroB limR (oM 1 6) 0 = 8 := by decide +kernel
theorem run_l : limR.right = true := by decide +kernel
set_option maxRecDepth 100000 in
set_option maxHeartbeats 1600000 in
theorem riskRuns_is (w : World) : Gives 3 #[] w (.eq (.bool true)) := by
  refine gives_eq ?_
  go_enter Try.func3, Try.ntmps3
  go_upto_region 1 with fail
  refine wp_region_lit ?_
  refine l_call (o := ⟨some 3, _, _, _, _, _⟩) 9 #[] rfl (exec_call 9 _ [] _ _ Try.func9 (by kernel_rfl) (by kernel_rfl) rfl (by kernel_rfl) _) ?_
  refine (new_any w.heap.size w (Nat.le_refl _)).mono ?_
  rintro e w1 ⟨v1, rfl, ⟨g, rfl, hg, hB⟩, k1⟩
  refine ⟨_, rfl, ?_⟩
  simp only [Act.put, List.setIfInBounds_toArray, List.set_cons_succ, List.set_cons_zero]
  refine l_val (o := ⟨some 1, _, _, _, _, _⟩) (.pointer (some ⟨g, 0, none⟩)) rfl (exec_assign (.tmp 3) (.pointer (some ⟨g, 0, none⟩)) rfl (by kernel_rfl)) ?_
  simp only [Act.put, List.setIfInBounds_toArray, List.set_cons_succ, List.set_cons_zero]
  refine wpList_nil ?_
  have HB := Lib.hid hB
  clear hB
  go_upto_region 2 with fail
  refine wp_text 1 [.eq (limR.v)] rfl (by kernel_rfl) ?_ ?_
  · refine sv 1 rfl rfl rfl (fun a u hE hD hk => exec_bldL _ _ _ _ 5 50 8 6 rfl rfl rfl rfl rfl) ?_
    exact fsteps_nil
  intro gv wa hV ka
  rw [show dstsOf _ 1 = [4] by kernel_rfl]
  simp only [List.foldl_cons, List.foldl_nil, List.setIfInBounds_toArray, List.set_cons_succ, List.set_cons_zero, List.drop_succ_cons, List.drop_zero]
  rw [show gv 4 = limR.v from hV 0 4 (by kernel_rfl)]
  clear hV
  refine l_new (o := ⟨some 2, _, _, _, _, _⟩) (.pointer (some ⟨wa.heap.size, 0, none⟩)) (wa.alloc (.cells zeroL.cells.toArray 25)) rfl (exec_alc 25 zeroL.cells rfl zLim) ?_
  have hNa := Blk.new wa 25 zeroL.cells
  have kb : Kept wa (wa.alloc (.cells zeroL.cells.toArray 25)) := (Keep.refl _ wa).alloc _
  generalize wa.alloc (.cells zeroL.cells.toArray 25) = wb at hNa kb ⊢
  simp only [Act.put, List.setIfInBounds_toArray, List.set_cons_succ, List.set_cons_zero]
  refine l_setS (o := ⟨none, _, _, _, _, _⟩) 25 wa.heap.size 25 zeroL.cells limR.cells (.tmp 2) (.tmp 4) rfl rfl (by kernel_rfl) (by kernel_rfl) hNa (by rw [Lim.len4l]; exact szLim) (by rw [Lim.len4l, Lim.len4l]) (Lim.one _) ?_
  intro w2 hC hK hS
  simp only [Act.put]
  refine wpList_nil ?_
  obtain ⟨g2, hg2⟩ : ∃ y, wa.heap.size = y := ⟨_, rfl⟩
  rw [hg2] at hNa hC hK ⊢
  have zka := ka.size
  have z2 : w1.heap.size ≤ g2 := by omega
  have kw2 : Kept w1 w2 := (ka.trans kb).trans' hK (by omega)
  have HX2 := Lib.hid hC
  clear hNa hC hK hS kb ka zka hg2
  have HB2 := Lib.hid (HB.out.kept kw2)
  have kz2 := k1.trans kw2
  clear HB k1 kw2
  go_upto_region 3 with fail
  refine wp_text 2 [.eq (.pointer (some ⟨g, 0, none⟩)), .eq (.bool false)] rfl (by kernel_rfl) ?_ ?_
  · refine sv 1 rfl rfl rfl (fun a u hE hD hk => exec_move (.tmp 1) _ rfl (hE 1 (.pointer (some ⟨g, 0, none⟩)) (by kernel_rfl) (by kernel_rfl))) ?_
    refine sv 2 rfl rfl rfl (fun a u hE hD hk => exec_eqP (.tmp 5) _ _ ⟨g, 0, none⟩ (by kernel_rfl) rfl (hD 0 5 (by kernel_rfl))) ?_
    exact fsteps_nil
  intro gv w3 hV k3
  rw [show dstsOf _ 2 = [5, 6] by kernel_rfl]
  simp only [List.foldl_cons, List.foldl_nil, List.setIfInBounds_toArray, List.set_cons_succ, List.set_cons_zero, List.drop_succ_cons, List.drop_zero]
  rw [show gv 6 = .bool false from hV 1 6 (by kernel_rfl)]
  clear hV
  refine wpList_nil ?_
  have HB3 := Lib.hid (HB2.out.kept k3)
  have HL3 := Lib.hid (blk_range (HX2.out.kept k3))
  clear HB2 HX2
  obtain ⟨c1, h1⟩ : ∃ c, oM 10 5 = c := ⟨_, rfl⟩
  obtain ⟨c2, h2⟩ : ∃ c, oM 11 5 = c := ⟨_, rfl⟩
  obtain ⟨c3, h3⟩ : ∃ c, oM 1 6 = c := ⟨_, rfl⟩
  obtain ⟨L, hL⟩ : ∃ L, limR = L := ⟨_, rfl⟩
  obtain ⟨B, hB⟩ : ∃ B, zeroB = B := ⟨_, rfl⟩
  have HO : Hid B.Ok := by show Bal.Ok _; rw [← hB]; exact ok_zero
  have R1 : Hid (chk B L c1 0 = 0) := by show _ = _; rw [← hB, ← hL, ← h1]; exact run_c1
  have R2 : Hid (chk B L c2 0 = 8) := by show _ = _; rw [← hB, ← hL, ← h2]; exact run_c2
  have R3 : Hid (chk B L c3 0 = 8) := by show _ = _; rw [← hB, ← hL, ← h3]; exact run_c3
  have R4 : Hid (L.right = true) := by show _ = _; rw [← hL]; exact run_l
  rw [hB] at HB3
  rw [hL] at HL3
  have H1 := Lib.hid h1
  have H2 := Lib.hid h2
  have H3 := Lib.hid h3
  clear h1 h2 h3 hL hB
  go_upto_region 5 with fail
  refine wp_free 24 [.eq (.pointer (some ⟨g, 0, none⟩)), .eq (L.v), .eq (c1.v), .eq (.int .i64 0), .eq (.bool true), .eq (.bool true), .eq (.pointer (some ⟨g, 0, none⟩)), .eq (L.v), .eq (c2.v), .eq (.int .i64 8), .eq (.bool true), .eq (.bool true), .eq (.bool true), .eq (.pointer (some ⟨g, 0, none⟩)), .eq (L.v), .eq (c3.v), .eq (.int .i64 8), .eq (.bool true), .eq (.bool true), .eq (.bool true), .eq (L.v), .eq (.bool true), .eq (.bool true), .eq (.bool true)] (by kernel_rfl) rfl (by kernel_rfl) ?_ ?_
  · refine sv 1 rfl rfl rfl (fun a u hE hD hk => exec_move (.tmp 1) _ rfl (hE 1 (.pointer (some ⟨g, 0, none⟩)) (by kernel_rfl) (by kernel_rfl))) ?_
    refine sv 2 rfl rfl rfl (fun a u hE hD hk => exec_ldS 25 _ (.tmp 2) (g2) (0) (L.cells) rfl (hE 2 (.pointer (some ⟨g2, 0, none⟩)) (by kernel_rfl) (by kernel_rfl)) (range_kept HL3.out hk) Try.underlying25 (by rw [L.len4l]; exact szLim)) ?_
    refine fsteps_cons 3 rfl (fun a u hE hD hk => f_call (o := ⟨some 9, _, _, _, _, _⟩) 11 #[.int .i64 10, .int .i64 5] rfl (wanted_none rfl _) (exec_call 11 _ [.const (.int .i64 10), .const (.int .i64 5)] _ [.int .i64 10, .int .i64 5] Try.func11 (by kernel_rfl) (by kernel_rfl) rfl rfl u) (by rw [← H1.out]; exact o_any 10 5 u)) ?_
    refine fsteps_cons 4 rfl (fun a u hE hD hk => f_call (o := ⟨some 10, _, _, _, _, _⟩) 10 #[.pointer (some ⟨g, 0, none⟩), L.v, c1.v, .int .i64 0] rfl (wanted_none rfl _) (exec_call 10 _ [.tmp 7, .tmp 8, .tmp 9, .const (.int .i64 0)] _ [.pointer (some ⟨g, 0, none⟩), L.v, c1.v, .int .i64 0] Try.func10 (by kernel_rfl) (by kernel_rfl) rfl (show [a.eval (.tmp 7), a.eval (.tmp 8), a.eval (.tmp 9), a.eval (.const (.int .i64 0))] = [.pointer (some ⟨g, 0, none⟩), L.v, c1.v, .int .i64 0] from (by rw [show a.eval (.tmp 7) = .pointer (some ⟨g, 0, none⟩) from (hD 0 7 (by kernel_rfl)), show a.eval (.tmp 8) = L.v from (hD 1 8 (by kernel_rfl)), show a.eval (.tmp 9) = c1.v from (hD 2 9 (by kernel_rfl))] <;> rfl)) u) (check_at (HB3.out.kept hk) HO.out R1.out)) ?_
    refine fsteps_cons 5 rfl (fun a u hE hD hk => f_as (show ((decide ((0 : Int) = (0 : Int))) : Bool) = true from decide_eq_true rfl) (f_val (o := ⟨some 11, _, _, _, _, _⟩) (.bool (decide ((0 : Int) = (0 : Int)))) rfl (wanted_none rfl _) (exec_eqn (p := 0) (q := 0) rfl (hD 3 10 (by kernel_rfl)) rfl) rfl)) ?_
    refine sv 6 rfl rfl rfl (fun a u hE hD hk => exec_move (.tmp 11) _ rfl (hD 4 11 (by kernel_rfl))) ?_
    refine fsteps_cons 7 rfl (fun a u hE hD hk => f_val (o := ⟨some 13, _, _, _, _, _⟩) (.pointer (some ⟨g, 0, none⟩)) rfl (wanted_at (b := true) true rfl rfl (hD 5 12 (by kernel_rfl))) (exec_move (.tmp 1) _ rfl (hE 1 (.pointer (some ⟨g, 0, none⟩)) (by kernel_rfl) (by kernel_rfl))) rfl) ?_
    refine fsteps_cons 8 rfl (fun a u hE hD hk => f_val (o := ⟨some 14, _, _, _, _, _⟩) (L.v) rfl (wanted_at (b := true) true rfl rfl (hD 5 12 (by kernel_rfl))) (exec_ldS 25 _ (.tmp 2) (g2) (0) (L.cells) rfl (hE 2 (.pointer (some ⟨g2, 0, none⟩)) (by kernel_rfl) (by kernel_rfl)) (range_kept HL3.out hk) Try.underlying25 (by rw [L.len4l]; exact szLim)) rfl) ?_
    refine fsteps_cons 9 rfl (fun a u hE hD hk => f_call (o := ⟨some 15, _, _, _, _, _⟩) 11 #[.int .i64 11, .int .i64 5] rfl (wanted_at (b := true) true rfl rfl (hD 5 12 (by kernel_rfl))) (exec_call 11 _ [.const (.int .i64 11), .const (.int .i64 5)] _ [.int .i64 11, .int .i64 5] Try.func11 (by kernel_rfl) (by kernel_rfl) rfl rfl u) (by rw [← H2.out]; exact o_any 11 5 u)) ?_
    refine fsteps_cons 10 rfl (fun a u hE hD hk => f_call (o := ⟨some 16, _, _, _, _, _⟩) 10 #[.pointer (some ⟨g, 0, none⟩), L.v, c2.v, .int .i64 0] rfl (wanted_at (b := true) true rfl rfl (hD 5 12 (by kernel_rfl))) (exec_call 10 _ [.tmp 13, .tmp 14, .tmp 15, .const (.int .i64 0)] _ [.pointer (some ⟨g, 0, none⟩), L.v, c2.v, .int .i64 0] Try.func10 (by kernel_rfl) (by kernel_rfl) rfl (show [a.eval (.tmp 13), a.eval (.tmp 14), a.eval (.tmp 15), a.eval (.const (.int .i64 0))] = [.pointer (some ⟨g, 0, none⟩), L.v, c2.v, .int .i64 0] from (by rw [show a.eval (.tmp 13) = .pointer (some ⟨g, 0, none⟩) from (hD 6 13 (by kernel_rfl)), show a.eval (.tmp 14) = L.v from (hD 7 14 (by kernel_rfl)), show a.eval (.tmp 15) = c2.v from (hD 8 15 (by kernel_rfl))] <;> rfl)) u) (check_at (HB3.out.kept hk) HO.out R2.out)) ?_
    refine fsteps_cons 11 rfl (fun a u hE hD hk => f_as (show ((decide ((8 : Int) = (8 : Int))) : Bool) = true from decide_eq_true rfl) (f_val (o := ⟨some 17, _, _, _, _, _⟩) (.bool (decide ((8 : Int) = (8 : Int)))) rfl (wanted_at (b := true) true rfl rfl (hD 5 12 (by kernel_rfl))) (exec_eqn (p := 8) (q := 8) rfl (hD 9 16 (by kernel_rfl)) rfl) rfl)) ?_
    refine sv 12 rfl rfl rfl (fun a u hE hD hk => exec_pick (.tmp 12) (.tmp 17) (.const (.bool false)) (.bool true) rfl (hD 5 12 (by kernel_rfl)) (hD 10 17 (by kernel_rfl))) ?_
    refine sv 13 rfl rfl rfl (fun a u hE hD hk => exec_move (.tmp 18) _ rfl (hD 11 18 (by kernel_rfl))) ?_
    refine fsteps_cons 14 rfl (fun a u hE hD hk => f_val (o := ⟨some 20, _, _, _, _, _⟩) (.pointer (some ⟨g, 0, none⟩)) rfl (wanted_at (b := true) true rfl rfl (hD 12 19 (by kernel_rfl))) (exec_move (.tmp 1) _ rfl (hE 1 (.pointer (some ⟨g, 0, none⟩)) (by kernel_rfl) (by kernel_rfl))) rfl) ?_
    refine fsteps_cons 15 rfl (fun a u hE hD hk => f_val (o := ⟨some 21, _, _, _, _, _⟩) (L.v) rfl (wanted_at (b := true) true rfl rfl (hD 12 19 (by kernel_rfl))) (exec_ldS 25 _ (.tmp 2) (g2) (0) (L.cells) rfl (hE 2 (.pointer (some ⟨g2, 0, none⟩)) (by kernel_rfl) (by kernel_rfl)) (range_kept HL3.out hk) Try.underlying25 (by rw [L.len4l]; exact szLim)) rfl) ?_
    refine fsteps_cons 16 rfl (fun a u hE hD hk => f_call (o := ⟨some 22, _, _, _, _, _⟩) 11 #[.int .i64 1, .int .i64 6] rfl (wanted_at (b := true) true rfl rfl (hD 12 19 (by kernel_rfl))) (exec_call 11 _ [.const (.int .i64 1), .const (.int .i64 6)] _ [.int .i64 1, .int .i64 6] Try.func11 (by kernel_rfl) (by kernel_rfl) rfl rfl u) (by rw [← H3.out]; exact o_any 1 6 u)) ?_
    refine fsteps_cons 17 rfl (fun a u hE hD hk => f_call (o := ⟨some 23, _, _, _, _, _⟩) 10 #[.pointer (some ⟨g, 0, none⟩), L.v, c3.v, .int .i64 0] rfl (wanted_at (b := true) true rfl rfl (hD 12 19 (by kernel_rfl))) (exec_call 10 _ [.tmp 20, .tmp 21, .tmp 22, .const (.int .i64 0)] _ [.pointer (some ⟨g, 0, none⟩), L.v, c3.v, .int .i64 0] Try.func10 (by kernel_rfl) (by kernel_rfl) rfl (show [a.eval (.tmp 20), a.eval (.tmp 21), a.eval (.tmp 22), a.eval (.const (.int .i64 0))] = [.pointer (some ⟨g, 0, none⟩), L.v, c3.v, .int .i64 0] from (by rw [show a.eval (.tmp 20) = .pointer (some ⟨g, 0, none⟩) from (hD 13 20 (by kernel_rfl)), show a.eval (.tmp 21) = L.v from (hD 14 21 (by kernel_rfl)), show a.eval (.tmp 22) = c3.v from (hD 15 22 (by kernel_rfl))] <;> rfl)) u) (check_at (HB3.out.kept hk) HO.out R3.out)) ?_
    refine fsteps_cons 18 rfl (fun a u hE hD hk => f_as (show ((decide ((8 : Int) = (8 : Int))) : Bool) = true from decide_eq_true rfl) (f_val (o := ⟨some 24, _, _, _, _, _⟩) (.bool (decide ((8 : Int) = (8 : Int)))) rfl (wanted_at (b := true) true rfl rfl (hD 12 19 (by kernel_rfl))) (exec_eqn (p := 8) (q := 8) rfl (hD 16 23 (by kernel_rfl)) rfl) rfl)) ?_
    refine sv 19 rfl rfl rfl (fun a u hE hD hk => exec_pick (.tmp 19) (.tmp 24) (.const (.bool false)) (.bool true) rfl (hD 12 19 (by kernel_rfl)) (hD 17 24 (by kernel_rfl))) ?_
    refine sv 20 rfl rfl rfl (fun a u hE hD hk => exec_move (.tmp 25) _ rfl (hD 18 25 (by kernel_rfl))) ?_
    refine fsteps_cons 21 rfl (fun a u hE hD hk => f_val (o := ⟨some 27, _, _, _, _, _⟩) (L.v) rfl (wanted_at (b := true) true rfl rfl (hD 19 26 (by kernel_rfl))) (exec_ldS 25 _ (.tmp 2) (g2) (0) (L.cells) rfl (hE 2 (.pointer (some ⟨g2, 0, none⟩)) (by kernel_rfl) (by kernel_rfl)) (range_kept HL3.out hk) Try.underlying25 (by rw [L.len4l]; exact szLim)) rfl) ?_
    refine fsteps_cons 22 rfl (fun a u hE hD hk => f_call (o := ⟨some 28, _, _, _, _, _⟩) 12 #[L.v] rfl (wanted_at (b := true) true rfl rfl (hD 19 26 (by kernel_rfl))) (exec_call 12 _ [.tmp 27] _ [L.v] Try.func12 (by kernel_rfl) (by kernel_rfl) rfl (show [a.eval (.tmp 27)] = [L.v] from (by rw [show a.eval (.tmp 27) = L.v from (hD 20 27 (by kernel_rfl))] <;> rfl)) u) (by rw [← R4.out]; exact lright_any L u)) ?_
    refine sv 23 rfl rfl rfl (fun a u hE hD hk => exec_pick (.tmp 26) (.tmp 28) (.const (.bool false)) (.bool true) rfl (hD 19 26 (by kernel_rfl)) (hD 21 28 (by kernel_rfl))) ?_
    refine sv 24 rfl rfl rfl (fun a u hE hD hk => exec_assign (.tmp 29) _ rfl (hD 22 29 (by kernel_rfl))) ?_
    exact fsteps_nil
  intro gv w4 hV k4
  rw [show dstsOf _ 24 = [7, 8, 9, 10, 11, 12, 13, 14, 15, 16, 17, 18, 19, 20, 21, 22, 23, 24, 25, 26, 27, 28, 29, 0] by kernel_rfl]
  simp only [List.foldl_cons, List.foldl_nil, List.setIfInBounds_toArray, List.set_cons_succ, List.set_cons_zero, List.drop_succ_cons, List.drop_zero]
  rw [show gv 0 = .bool true from hV 23 0 (by kernel_rfl)]
  clear hV
  refine wpList_nil ?_
  have kw4 := (kz2.trans k3).trans k4
  go_wp2
  go_ret
  exact ⟨rfl, kw4⟩
theorem riskRuns_any (w : World) : Calls Try.prog 3 #[] w fun e w' => e = .returned (.bool true) ∧ Kept w w' := by
  refine (riskRuns_is w).mono ?_
  rintro e w' ⟨v, rfl, hv, hk⟩
  obtain rfl : v = .bool true := hv
  exact ⟨rfl, hk⟩
end Go.Proofs.Ytgajdkelpaaadaa
