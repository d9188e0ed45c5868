/-
  The contract of jobberlaw8.OrderRight: any order, any numbers: it answers true. No condition.
-/
import Derived.Test.YtgepgpclgpidaaaTells8
import Derived.Test.YtgepgpclgpidaaaSched4
import Derived.Test.YtgepgpclgpidaaaWithin
namespace Go.Proofs.Ytgepgpclgpidaaa
open Go.RowKit
set_option linter.unusedVariables false

theorem within_int (n hi : Int) (w : World) (h1 : 0 ≤ hi) (h2 : hi ≤ 1099511627776) :
    Calls Try.prog 18 #[.int .i64 n, .int .i64 0, .int .i64 hi] w fun e w' => ∃ k : Int, e = .returned (.int .i64 k) ∧ 0 ≤ k ∧ k ≤ hi ∧ w = w' := by
  refine (within_any n 0 hi w (by omega) h1 h2).mono ?_
  rintro e w' ⟨rfl, rfl⟩
  have p := Int.emod_nonneg n (show hi - 0 + 1 ≠ 0 by omega)
  have q := Int.emod_lt_of_pos n (show 0 < hi - 0 + 1 by omega)
  exact ⟨0 + n % (hi - 0 + 1), rfl, by omega, by omega, rfl⟩
theorem exec_negn {a : Act} {o : Oper} {u : World} {t : TypeId} {x : Operand} {p : Int} (r : Int) (hop : o.op = .unOp .neg t x) (hx : a.eval x = .int .i64 p) (hr : -p = r) (h0 : -9223372036854775808 ≤ r) (h1 : r ≤ 9223372036854775807) : (execOp a.eval o).run Try.prog u = .ok (.value (.int .i64 r)) u := by
  subst hr
  unfold execOp
  simp only [hop, hx]
  have hw : IntKind.i64.wrap (-p) = -p := by rw [IntKind.wrap_i64]; omega
  simp [go_sem, hw]
theorem err_ok {c : Ord} (h : c.right = true) : c.err = 0 := by unfold Ord.err; rw [if_pos h]
theorem err_no {c : Ord} (h : ¬ c.right = true) : c.err = 1 := by unfold Ord.err; rw [if_neg h]
theorem right_other (c : Ord) (i t : Int) (hR : c.right = true) (h0 : 0 ≤ i) (h1 : i ≤ 1073741824) (h2 : 0 ≤ t) (h3 : t ≤ 31) : Ord.right { c with id := i, tr := t, side := 3 - c.side } = true := by
  rw [right_iff] at hR ⊢
  simp only
  omega
theorem right_qty (c : Ord) (q : Int) (h : q < 1 ∨ 1048576 < q) : ¬ Ord.right { c with qty := q } = true := by
  rw [right_iff]
  simp only
  omega
theorem right_kind (c : Ord) (k : Int) (h : 5 < k) : ¬ Ord.right { c with k := k } = true := by
  rw [right_iff]
  simp only
  omega

set_option maxRecDepth 100000 in
set_option maxHeartbeats 1600000 in
theorem right8_f (c : Ord) (x y : Int) (w : World) (hR : c.right = false) : Calls Try.prog 6 #[c.v, .int .i64 x, .int .i64 y] w fun e w' => e = .returned (.bool true) ∧ Kept w w' := by
  have HE := Lib.hid (err_no (c := c) (by rw [hR]; decide))
  clear hR
  unfold Ord.v
  have HT : Hid True := trivial
  have HB0 : Hid (Blk (w.alloc (.cells c.cells.toArray 23)) w.heap.size 23 c.cells) := Blk.new w _ _
  have kw0 : Kept w (w.alloc (.cells c.cells.toArray 23)) := (Keep.refl _ w).alloc _
  go_enter Try.func6, Try.ntmps6
  go_upto_region 1 with fail
  generalize hs0 : w.alloc (.cells c.cells.toArray 23) = w0 at HB0 kw0 ⊢
  clear hs0
  generalize w.heap.size = g at HB0 ⊢
  refine wp_text 3 [.eq (c.v), .eq (.int .i64 1), .eq (.bool true)] rfl (by kernel_rfl) ?_ ?_
  · refine fsteps_cons 1 rfl (fun a u hE hD hk => f_val (o := ⟨some 11, _, _, _, _, _⟩) (c.v) rfl (wanted_none rfl _) (exec_loadS 23 (.tmp 3) (g) _ c.cells _ rfl (hE 3 (.pointer (some ⟨g, 0, none⟩)) (by kernel_rfl) (by kernel_rfl)) (HB0.out.kept hk) Try.underlying23 (by rw [Ord.cells_len _ HT.out]; exact ord_size)) rfl) ?_
    refine fsteps_cons 2 rfl (fun a u hE hD hk => f_call (o := ⟨some 12, _, _, _, _, _⟩) 11 #[c.v] rfl (wanted_none rfl _) (exec_call 11 _ [.tmp 11] _ [c.v] Try.func11 (by kernel_rfl) (by kernel_rfl) rfl (show [a.eval (.tmp 11)] = [c.v] from (by rw [show a.eval (.tmp 11) = c.v from (hD 0 11 (by kernel_rfl))] <;> rfl)) u) (ordRight_is c 1 u HE.out)) ?_
    refine fsteps_cons 3 rfl (fun a u hE hD hk => f_as (show ((decide ((1 : Int) ≠ (0 : Int))) : Bool) = true from rfl) (f_val (o := ⟨some 13, _, _, _, _, _⟩) (.bool (decide ((1 : Int) ≠ (0 : Int)))) rfl (wanted_none rfl _) (exec_nen (p := 1) (q := 0) rfl (hD 1 12 (by kernel_rfl)) rfl) rfl)) ?_
    exact fsteps_nil
  intro gv w1 hV k1
  rw [show dstsOf _ 3 = [11, 12, 13] by kernel_rfl]
  simp only [List.foldl_cons, List.foldl_nil, List.setIfInBounds_toArray, List.set_cons_succ, List.set_cons_zero, List.drop_succ_cons, List.drop_zero]
  rw [show gv 13 = .bool true from hV 2 13 (by kernel_rfl)]
  clear hV
  refine wpList_nil ?_
  have HB1 := Lib.hid (HB0.out.kept k1)
  have kw1 := kw0.trans k1
  clear kw0
  go_upto_region 2 with fail
  refine wp_text 1 [.eq (.bool true)] rfl (by kernel_rfl) ?_ ?_
  · refine fsteps_cons 1 rfl (fun a u hE hD hk => f_call (o := ⟨some 14, _, _, _, _, _⟩) 3 #[] rfl (wanted_none rfl _) (exec_call 3 _ [] _ [] Try.func3 (by kernel_rfl) (by kernel_rfl) rfl rfl u) (orderRuns_gives u)) ?_
    exact fsteps_nil
  intro gv w2 hV k2
  rw [show dstsOf _ 1 = [14] by kernel_rfl]
  simp only [List.foldl_cons, List.foldl_nil, List.setIfInBounds_toArray, List.set_cons_succ, List.set_cons_zero, List.drop_succ_cons, List.drop_zero]
  rw [show gv 14 = .bool true from hV 0 14 (by kernel_rfl)]
  clear hV
  have HB2 := Lib.hid (HB1.out.kept k2)
  have kw2 := kw1.trans k2
  clear kw1
  go_wp2
  go_ret
  exact ⟨rfl, kw2⟩

set_option maxRecDepth 100000 in
set_option maxHeartbeats 1600000 in
theorem right8_t (c : Ord) (x y : Int) (w : World) (hR : c.right = true) : Calls Try.prog 6 #[c.v, .int .i64 x, .int .i64 y] w fun e w' => e = .returned (.bool true) ∧ Kept w w' := by
  have HE := Lib.hid (err_ok hR)
  have HS : Hid (1 ≤ c.side ∧ c.side ≤ 2) := by have h := hR; rw [right_iff] at h; exact ⟨by omega, by omega⟩
  have HR := Lib.hid hR
  clear hR
  unfold Ord.v
  have HT : Hid True := trivial
  have HB0 : Hid (Blk (w.alloc (.cells c.cells.toArray 23)) w.heap.size 23 c.cells) := Blk.new w _ _
  have kw0 : Kept w (w.alloc (.cells c.cells.toArray 23)) := (Keep.refl _ w).alloc _
  go_enter Try.func6, Try.ntmps6
  go_upto_region 1 with fail
  generalize hs0 : w.alloc (.cells c.cells.toArray 23) = w0 at HB0 kw0 ⊢
  clear hs0
  generalize w.heap.size = g at HB0 ⊢
  refine wp_text 3 [.eq (c.v), .eq (.int .i64 0), .eq (.bool false)] rfl (by kernel_rfl) ?_ ?_
  · refine fsteps_cons 1 rfl (fun a u hE hD hk => f_val (o := ⟨some 11, _, _, _, _, _⟩) (c.v) rfl (wanted_none rfl _) (exec_loadS 23 (.tmp 3) (g) _ c.cells _ rfl (hE 3 (.pointer (some ⟨g, 0, none⟩)) (by kernel_rfl) (by kernel_rfl)) (HB0.out.kept hk) Try.underlying23 (by rw [Ord.cells_len _ HT.out]; exact ord_size)) rfl) ?_
    refine fsteps_cons 2 rfl (fun a u hE hD hk => f_call (o := ⟨some 12, _, _, _, _, _⟩) 11 #[c.v] rfl (wanted_none rfl _) (exec_call 11 _ [.tmp 11] _ [c.v] Try.func11 (by kernel_rfl) (by kernel_rfl) rfl (show [a.eval (.tmp 11)] = [c.v] from (by rw [show a.eval (.tmp 11) = c.v from (hD 0 11 (by kernel_rfl))] <;> rfl)) u) (ordRight_is c 0 u HE.out)) ?_
    refine fsteps_cons 3 rfl (fun a u hE hD hk => f_as (show ((decide ((0 : Int) ≠ (0 : Int))) : Bool) = false from rfl) (f_val (o := ⟨some 13, _, _, _, _, _⟩) (.bool (decide ((0 : Int) ≠ (0 : Int)))) rfl (wanted_none rfl _) (exec_nen (p := 0) (q := 0) rfl (hD 1 12 (by kernel_rfl)) rfl) rfl)) ?_
    exact fsteps_nil
  intro gv w1 hV k1
  rw [show dstsOf _ 3 = [11, 12, 13] by kernel_rfl]
  simp only [List.foldl_cons, List.foldl_nil, List.setIfInBounds_toArray, List.set_cons_succ, List.set_cons_zero, List.drop_succ_cons, List.drop_zero]
  rw [show gv 13 = .bool false from hV 2 13 (by kernel_rfl)]
  clear hV
  refine wpList_nil ?_
  have HB1 := Lib.hid (HB0.out.kept k1)
  have kw1 := kw0.trans k1
  clear kw0
  go_upto_region 3 with fail
  refine wp_allocs [0, 1, 2, 3] 23 Ord.zero.cells [(4, 7), (5, 8), (6, 9), (7, 10)] [(8, 1), (9, 1), (10, 1), (11, 1)] (by kernel_rfl) ord_zero (by kernel_rfl) ?_
  refine p_val (o := ⟨some 15, _, _, _, _, _⟩) c.v rfl rfl (fun u hu => exec_loadS 23 (.tmp 3) g 23 c.cells _ rfl (by kernel_rfl) (HB1.out.kept hu) Try.underlying23 (by rw [Ord.cells_len _ trivial]; exact ord_size)) ?_
  simp only [Act.put, List.setIfInBounds_toArray, List.set_cons_succ, List.set_cons_zero]
  refine p_val (o := ⟨some 16, _, _, _, _, _⟩) c.v rfl rfl (fun u hu => exec_loadS 23 (.tmp 3) g 23 c.cells _ rfl (by kernel_rfl) (HB1.out.kept hu) Try.underlying23 (by rw [Ord.cells_len _ trivial]; exact ord_size)) ?_
  simp only [Act.put, List.setIfInBounds_toArray, List.set_cons_succ, List.set_cons_zero]
  refine p_val (o := ⟨some 17, _, _, _, _, _⟩) c.v rfl rfl (fun u hu => exec_loadS 23 (.tmp 3) g 23 c.cells _ rfl (by kernel_rfl) (HB1.out.kept hu) Try.underlying23 (by rw [Ord.cells_len _ trivial]; exact ord_size)) ?_
  simp only [Act.put, List.setIfInBounds_toArray, List.set_cons_succ, List.set_cons_zero]
  refine p_val (o := ⟨some 18, _, _, _, _, _⟩) c.v rfl rfl (fun u hu => exec_loadS 23 (.tmp 3) g 23 c.cells _ rfl (by kernel_rfl) (HB1.out.kept hu) Try.underlying23 (by rw [Ord.cells_len _ trivial]; exact ord_size)) ?_
  simp only [Act.put, List.setIfInBounds_toArray, List.set_cons_succ, List.set_cons_zero]
  intro β u1 hβ hβd ku1
  obtain ⟨la, A1⟩ : w1.heap.size ≤ β 7 ∧ Blk u1 (β 7) 23 Ord.zero.cells := hβ (4, 7) (by decide)
  obtain ⟨lb, B1⟩ : w1.heap.size ≤ β 8 ∧ Blk u1 (β 8) 23 Ord.zero.cells := hβ (5, 8) (by decide)
  obtain ⟨lc, C1⟩ : w1.heap.size ≤ β 9 ∧ Blk u1 (β 9) 23 Ord.zero.cells := hβ (6, 9) (by decide)
  obtain ⟨ld, D1⟩ : w1.heap.size ≤ β 10 ∧ Blk u1 (β 10) 23 Ord.zero.cells := hβ (7, 10) (by decide)
  have nab : β 7 ≠ β 8 := hβd (4, 7) (by decide) (5, 8) (by decide) (by decide)
  have nac : β 7 ≠ β 9 := hβd (4, 7) (by decide) (6, 9) (by decide) (by decide)
  have nad : β 7 ≠ β 10 := hβd (4, 7) (by decide) (7, 10) (by decide) (by decide)
  have nbc : β 8 ≠ β 9 := hβd (5, 8) (by decide) (6, 9) (by decide) (by decide)
  have nbd : β 8 ≠ β 10 := hβd (5, 8) (by decide) (7, 10) (by decide) (by decide)
  have ncd : β 9 ≠ β 10 := hβd (6, 9) (by decide) (7, 10) (by decide) (by decide)
  clear hβ hβd
  simp only [puts, List.foldl_cons, List.foldl_nil]
  simp only [Act.put, List.setIfInBounds_toArray, List.set_cons_succ, List.set_cons_zero]
  generalize β 7 = ga at *
  generalize β 8 = gb at *
  generalize β 9 = gc at *
  generalize β 10 = gd at *
  clear β
  refine s_setS (o := ⟨none, _, _, _, _, _⟩) 23 ga 23 Ord.zero.cells c.cells (.tmp 7) (.tmp 15) rfl rfl rfl (by kernel_rfl) (by kernel_rfl) A1 (by rw [Ord.cells_len _ trivial]; exact ord_size) rfl c.one (fun w' hk => Kept.trans' ku1 hk (by omega)) ?_
  intro u2 A2 k2
  have ku2 : Kept w1 u2 := Kept.trans' ku1 k2 (by omega)
  have B2 := B1.keep k2 (by omega)
  have C2 := C1.keep k2 (by omega)
  have D2 := D1.keep k2 (by omega)
  simp only [Act.put]
  refine s_setS (o := ⟨none, _, _, _, _, _⟩) 23 gb 23 Ord.zero.cells c.cells (.tmp 8) (.tmp 16) rfl rfl rfl (by kernel_rfl) (by kernel_rfl) B2 (by rw [Ord.cells_len _ trivial]; exact ord_size) rfl c.one (fun w' hk => Kept.trans' ku2 hk (by omega)) ?_
  intro u3 B3 k3
  have ku3 : Kept w1 u3 := Kept.trans' ku2 k3 (by omega)
  have A3 := A2.keep k3 (by omega)
  have C3 := C2.keep k3 (by omega)
  have D3 := D2.keep k3 (by omega)
  simp only [Act.put]
  refine s_setS (o := ⟨none, _, _, _, _, _⟩) 23 gc 23 Ord.zero.cells c.cells (.tmp 9) (.tmp 17) rfl rfl rfl (by kernel_rfl) (by kernel_rfl) C3 (by rw [Ord.cells_len _ trivial]; exact ord_size) rfl c.one (fun w' hk => Kept.trans' ku3 hk (by omega)) ?_
  intro u4 C4 k4
  have ku4 : Kept w1 u4 := Kept.trans' ku3 k4 (by omega)
  have A4 := A3.keep k4 (by omega)
  have B4 := B3.keep k4 (by omega)
  have D4 := D3.keep k4 (by omega)
  simp only [Act.put]
  refine s_setS (o := ⟨none, _, _, _, _, _⟩) 23 gd 23 Ord.zero.cells c.cells (.tmp 10) (.tmp 18) rfl rfl rfl (by kernel_rfl) (by kernel_rfl) D4 (by rw [Ord.cells_len _ trivial]; exact ord_size) rfl c.one (fun w' hk => Kept.trans' ku4 hk (by omega)) ?_
  intro u5 D5 k5
  have ku5 : Kept w1 u5 := Kept.trans' ku4 k5 (by omega)
  have A5 := A4.keep k5 (by omega)
  have B5 := B4.keep k5 (by omega)
  have C5 := C4.keep k5 (by omega)
  simp only [Act.put]
  refine s_done ?_
  have HA : Hid (Blk u5 ga 23 (stc c.l [])) := A5
  have HB : Hid (Blk u5 gb 23 (stc c.l [])) := B5
  have HC : Hid (Blk u5 gc 23 (stc c.l [])) := C5
  have HD : Hid (Blk u5 gd 23 (stc c.l [])) := D5
  have HG := Lib.hid (HB1.out.kept ku5)
  have kw5 := kw1.trans ku5
  have zs := kw1.size
  have zg := HB1.out.lt
  have HN : Hid ((g < ga ∧ g < gb ∧ g < gc ∧ g < gd) ∧ (w.heap.size ≤ ga ∧ w.heap.size ≤ gb ∧ w.heap.size ≤ gc ∧ w.heap.size ≤ gd) ∧ (ga ≠ gb ∧ ga ≠ gc ∧ ga ≠ gd) ∧ (gb ≠ gc ∧ gb ≠ gd) ∧ gc ≠ gd) := by refine ⟨?_, ?_, ?_, ?_, ?_⟩ <;> omega
  clear A1 A2 A3 A4 A5 B1 B2 B3 B4 B5 C1 C2 C3 C4 C5 D1 D2 D3 D4 D5 k2 k3 k4 k5 ku1 ku2 ku3 ku4 ku5 zs zg la lb lc ld nab nac nad nbc nbd ncd HB1 kw1
  go_upto_region 4 with fail
  refine wp_sched (fun u => Keep (· = ga) u5 u) [(0, 0), (2, 0), (4, 0), (5, 0), (6, 0), (1, 1), (7, 0), (3, 1), (8, 1), (9, 0), (10, 1), (11, 0), (12, 1)] (by kernel_rfl) (by kernel_rfl) (Keep.drew (Keep.refl _ u5)) ?_
  refine s_val (o := ⟨some 19, _, _, _, _, _⟩) (.int .i64 x) rfl (by kernel_rfl) (fun u hu => exec_move (.tmp 1) (.int .i64 x) rfl (by kernel_rfl)) ?_
  simp only [Act.put, List.setIfInBounds_toArray, List.set_cons_succ, List.set_cons_zero]
  refine s_val (o := ⟨some 21, _, _, _, _, _⟩) (.int .i64 y) rfl (by kernel_rfl) (fun u hu => exec_move (.tmp 2) (.int .i64 y) rfl (by kernel_rfl)) ?_
  simp only [Act.put, List.setIfInBounds_toArray, List.set_cons_succ, List.set_cons_zero]
  refine s_val (o := ⟨some 23, _, _, _, _, _⟩) (.pointer (some ⟨g, 3, none⟩)) rfl (by kernel_rfl) (fun u hu => exec_fld 23 3 3 (.tmp 3) g rfl (by kernel_rfl) (by kernel_rfl)) ?_
  simp only [Act.put, List.setIfInBounds_toArray, List.set_cons_succ, List.set_cons_zero]
  refine s_val (o := ⟨some 24, _, _, _, _, _⟩) (.int .i64 c.side) rfl (by kernel_rfl) (fun u hu => exec_loadi 3 Try.underlying3 (.tmp 23) ⟨g, 3, none⟩ (.int .i64 c.side) rfl (by kernel_rfl) ((HG.out.keep hu (by have := HN.out; omega)).fld 3 _ rfl)) ?_
  simp only [Act.put, List.setIfInBounds_toArray, List.set_cons_succ, List.set_cons_zero]
  refine s_val (o := ⟨some 25, _, _, _, _, _⟩) (.int .i64 (3 - c.side)) rfl (by kernel_rfl) (fun u hu => exec_subn (p := 3) (q := c.side) _ rfl rfl (by kernel_rfl) rfl (by have := HS.out; omega) (by have := HS.out; omega)) ?_
  simp only [Act.put, List.setIfInBounds_toArray, List.set_cons_succ, List.set_cons_zero]
  refine s_call (o := ⟨some 20, _, _, _, _, _⟩) 18 #[.int .i64 x, .int .i64 0, .int .i64 1073741824] rfl (by kernel_rfl) (exec_call 18 _ [.tmp 19, .const (.int .i64 0), .const (.int .i64 1073741824)] _ _ Try.func18 (by kernel_rfl) (by kernel_rfl) rfl (by kernel_rfl)) ?_
  refine (within_int x 1073741824 _ (by omega) (by omega)).mono ?_
  rintro e w' ⟨i1, rfl, hi0, hi1, rfl⟩
  refine ⟨_, rfl, Keep.drew (Keep.refl _ u5), ?_⟩
  simp only [Act.put, List.setIfInBounds_toArray, List.set_cons_succ, List.set_cons_zero]
  refine s_val (o := ⟨some 26, _, _, _, _, _⟩) (.pointer (some ⟨ga, 1, none⟩)) rfl (by kernel_rfl) (fun u hu => exec_fld 23 1 1 (.tmp 7) ga rfl (by kernel_rfl) (by kernel_rfl)) ?_
  simp only [Act.put, List.setIfInBounds_toArray, List.set_cons_succ, List.set_cons_zero]
  refine s_call (o := ⟨some 22, _, _, _, _, _⟩) 18 #[.int .i64 y, .int .i64 0, .int .i64 31] rfl (by kernel_rfl) (exec_call 18 _ [.tmp 21, .const (.int .i64 0), .const (.int .i64 31)] _ _ Try.func18 (by kernel_rfl) (by kernel_rfl) rfl (by kernel_rfl)) ?_
  refine (within_int y 31 _ (by omega) (by omega)).mono ?_
  rintro e w' ⟨t1, rfl, ht0, ht1, rfl⟩
  refine ⟨_, rfl, Keep.drew (Keep.refl _ u5), ?_⟩
  simp only [Act.put, List.setIfInBounds_toArray, List.set_cons_succ, List.set_cons_zero]
  refine s_setf (o := ⟨none, _, _, _, _, _⟩) ga 1 23 (c.l) [] i1 (.tmp 26) (.tmp 20) rfl (by kernel_rfl) rfl (by kernel_rfl) (by kernel_rfl) (show Blk u5.drew ga 23 (stc c.l []) from HA.out) (by simp [Ord.l]) (fun w' hk => Keep.trans (Keep.drew (Keep.refl (· = ga) u5)) hk (fun _ _ h => h)) ?_
  intro u6 A6 k6 z6
  have q6 : Keep (· = ga) u5 u6 := Keep.trans (Keep.drew (Keep.refl (· = ga) u5)) k6 (fun _ _ h => h)
  simp only [Act.put]
  refine s_val (o := ⟨some 27, _, _, _, _, _⟩) (.pointer (some ⟨ga, 0, none⟩)) rfl (by kernel_rfl) (fun u hu => exec_fld 23 0 0 (.tmp 7) ga rfl (by kernel_rfl) (by kernel_rfl)) ?_
  simp only [Act.put, List.setIfInBounds_toArray, List.set_cons_succ, List.set_cons_zero]
  refine s_setf (o := ⟨none, _, _, _, _, _⟩) ga 0 23 ((c.l).set 1 i1) [] t1 (.tmp 27) (.tmp 22) rfl (by kernel_rfl) rfl (by kernel_rfl) (by kernel_rfl) A6 (by simp [Ord.l]) (fun w' hk => Keep.trans (q6) hk (fun _ _ h => h)) ?_
  intro u7 A7 k7 z7
  have q7 : Keep (· = ga) u5 u7 := Keep.trans (q6) k7 (fun _ _ h => h)
  simp only [Act.put]
  refine s_val (o := ⟨some 28, _, _, _, _, _⟩) (.pointer (some ⟨ga, 3, none⟩)) rfl (by kernel_rfl) (fun u hu => exec_fld 23 3 3 (.tmp 7) ga rfl (by kernel_rfl) (by kernel_rfl)) ?_
  simp only [Act.put, List.setIfInBounds_toArray, List.set_cons_succ, List.set_cons_zero]
  refine s_setf (o := ⟨none, _, _, _, _, _⟩) ga 3 23 (((c.l).set 1 i1).set 0 t1) [] (3 - c.side) (.tmp 28) (.tmp 25) rfl (by kernel_rfl) rfl (by kernel_rfl) (by kernel_rfl) A7 (by simp [Ord.l]) (fun w' hk => Keep.trans (q7) hk (fun _ _ h => h)) ?_
  intro u8 A8 k8 z8
  have q8 : Keep (· = ga) u5 u8 := Keep.trans (q7) k8 (fun _ _ h => h)
  simp only [Act.put]
  refine s_done ?_
  have HA8 : Hid (Blk u8 ga 23 (Ord.cells { c with id := i1, tr := t1, side := 3 - c.side })) := A8
  have HRa : Hid (Ord.err { c with id := i1, tr := t1, side := 3 - c.side } = 0) := err_ok (right_other c i1 t1 HR.out hi0 hi1 ht0 ht1)
  generalize ({ c with id := i1, tr := t1, side := 3 - c.side } : Ord) = ca at HA8 HRa
  have HB8 := Lib.hid (HB.out.keep q8 (by have := HN.out; omega))
  have HC8 := Lib.hid (HC.out.keep q8 (by have := HN.out; omega))
  have HD8 := Lib.hid (HD.out.keep q8 (by have := HN.out; omega))
  have kw8 : Kept w u8 := Kept.trans' kw5 q8 (by have := HN.out; omega)
  clear A6 A7 A8 k6 k7 k8 z6 z7 z8 q6 q7 q8 hi0 hi1 ht0 ht1 HA HB HC HD HG kw5
  go_upto_region 5 with fail
  refine wp_region_lit ?_
  refine l_val (o := ⟨some 29, _, _, _, _, _⟩) (.int .i64 y) rfl (exec_move (.tmp 2) (.int .i64 y) rfl (by kernel_rfl)) ?_
  simp only [Act.put, List.setIfInBounds_toArray, List.set_cons_succ, List.set_cons_zero]
  refine l_call (o := ⟨some 30, _, _, _, _, _⟩) 18 #[.int .i64 y, .int .i64 0, .int .i64 99] rfl (exec_call 18 _ [.tmp 29, .const (.int .i64 0), .const (.int .i64 99)] _ _ Try.func18 (by kernel_rfl) (by kernel_rfl) rfl (by kernel_rfl) _) ?_
  refine (within_int y 99 _ (by omega) (by omega)).mono ?_
  rintro e w' ⟨j1, rfl, hk0, hk1, rfl⟩
  refine ⟨_, rfl, ?_⟩
  simp only [Act.put, List.setIfInBounds_toArray, List.set_cons_succ, List.set_cons_zero]
  refine l_val (o := ⟨some 31, _, _, _, _, _⟩) (.int .i64 (-j1)) rfl (exec_negn (p := j1) _ rfl (by kernel_rfl) rfl (by omega) (by omega)) ?_
  simp only [Act.put, List.setIfInBounds_toArray, List.set_cons_succ, List.set_cons_zero]
  refine l_val (o := ⟨some 32, _, _, _, _, _⟩) (.pointer (some ⟨gb, 6, none⟩)) rfl (exec_fld 23 6 6 (.tmp 8) (gb) rfl (by kernel_rfl) (by kernel_rfl)) ?_
  simp only [Act.put, List.setIfInBounds_toArray, List.set_cons_succ, List.set_cons_zero]
  refine l_setf (o := ⟨none, _, _, _, _, _⟩) gb 6 23 c.l [] (-j1) (.tmp 32) (.tmp 31) rfl rfl (by kernel_rfl) (by kernel_rfl) HB8.out (by simp [Ord.l]) ?_
  intro u9 X9 k9 z9
  simp only [Act.put]
  refine wpList_nil ?_
  have HB9 : Hid (Blk u9 gb 23 (Ord.cells { c with qty := -j1 })) := X9
  have HRb : Hid (Ord.err { c with qty := -j1 } = 1) := err_no (right_qty c _ (by omega))
  generalize ({ c with qty := -j1 } : Ord) = cb at HB9 HRb
  have HA9 := Lib.hid (HA8.out.keep k9 (by have := HN.out; omega))
  have HC9 := Lib.hid (HC8.out.keep k9 (by have := HN.out; omega))
  have HD9 := Lib.hid (HD8.out.keep k9 (by have := HN.out; omega))
  have kw9 : Kept w u9 := Kept.trans' kw8 k9 (by have := HN.out; omega)
  clear X9 k9 z9 hk0 hk1 kw8 HA8 HB8 HC8 HD8
  go_upto_region 6 with fail
  refine wp_region_lit ?_
  refine l_val (o := ⟨some 33, _, _, _, _, _⟩) (.int .i64 y) rfl (exec_move (.tmp 2) (.int .i64 y) rfl (by kernel_rfl)) ?_
  simp only [Act.put, List.setIfInBounds_toArray, List.set_cons_succ, List.set_cons_zero]
  refine l_call (o := ⟨some 34, _, _, _, _, _⟩) 18 #[.int .i64 y, .int .i64 0, .int .i64 99] rfl (exec_call 18 _ [.tmp 33, .const (.int .i64 0), .const (.int .i64 99)] _ _ Try.func18 (by kernel_rfl) (by kernel_rfl) rfl (by kernel_rfl) _) ?_
  refine (within_int y 99 _ (by omega) (by omega)).mono ?_
  rintro e w' ⟨j1, rfl, hk0, hk1, rfl⟩
  refine ⟨_, rfl, ?_⟩
  simp only [Act.put, List.setIfInBounds_toArray, List.set_cons_succ, List.set_cons_zero]
  refine l_val (o := ⟨some 35, _, _, _, _, _⟩) (.int .i64 (1048577 + j1)) rfl (exec_addn (p := 1048577) (q := j1) _ rfl rfl (by kernel_rfl) rfl (by omega) (by omega)) ?_
  simp only [Act.put, List.setIfInBounds_toArray, List.set_cons_succ, List.set_cons_zero]
  refine l_val (o := ⟨some 36, _, _, _, _, _⟩) (.pointer (some ⟨gc, 6, none⟩)) rfl (exec_fld 23 6 6 (.tmp 9) (gc) rfl (by kernel_rfl) (by kernel_rfl)) ?_
  simp only [Act.put, List.setIfInBounds_toArray, List.set_cons_succ, List.set_cons_zero]
  refine l_setf (o := ⟨none, _, _, _, _, _⟩) gc 6 23 c.l [] (1048577 + j1) (.tmp 36) (.tmp 35) rfl rfl (by kernel_rfl) (by kernel_rfl) HC9.out (by simp [Ord.l]) ?_
  intro u10 X10 k10 z10
  simp only [Act.put]
  refine wpList_nil ?_
  have HC10 : Hid (Blk u10 gc 23 (Ord.cells { c with qty := 1048577 + j1 })) := X10
  have HRc : Hid (Ord.err { c with qty := 1048577 + j1 } = 1) := err_no (right_qty c _ (by omega))
  generalize ({ c with qty := 1048577 + j1 } : Ord) = cc at HC10 HRc
  have HA10 := Lib.hid (HA9.out.keep k10 (by have := HN.out; omega))
  have HB10 := Lib.hid (HB9.out.keep k10 (by have := HN.out; omega))
  have HD10 := Lib.hid (HD9.out.keep k10 (by have := HN.out; omega))
  have kw10 : Kept w u10 := Kept.trans' kw9 k10 (by have := HN.out; omega)
  clear X10 k10 z10 hk0 hk1 kw9 HA9 HB9 HC9 HD9
  go_upto_region 7 with fail
  refine wp_region_lit ?_
  refine l_val (o := ⟨some 37, _, _, _, _, _⟩) (.int .i64 y) rfl (exec_move (.tmp 2) (.int .i64 y) rfl (by kernel_rfl)) ?_
  simp only [Act.put, List.setIfInBounds_toArray, List.set_cons_succ, List.set_cons_zero]
  refine l_call (o := ⟨some 38, _, _, _, _, _⟩) 18 #[.int .i64 y, .int .i64 0, .int .i64 9] rfl (exec_call 18 _ [.tmp 37, .const (.int .i64 0), .const (.int .i64 9)] _ _ Try.func18 (by kernel_rfl) (by kernel_rfl) rfl (by kernel_rfl) _) ?_
  refine (within_int y 9 _ (by omega) (by omega)).mono ?_
  rintro e w' ⟨j1, rfl, hk0, hk1, rfl⟩
  refine ⟨_, rfl, ?_⟩
  simp only [Act.put, List.setIfInBounds_toArray, List.set_cons_succ, List.set_cons_zero]
  refine l_val (o := ⟨some 39, _, _, _, _, _⟩) (.int .i64 (6 + j1)) rfl (exec_addn (p := 6) (q := j1) _ rfl rfl (by kernel_rfl) rfl (by omega) (by omega)) ?_
  simp only [Act.put, List.setIfInBounds_toArray, List.set_cons_succ, List.set_cons_zero]
  refine l_val (o := ⟨some 40, _, _, _, _, _⟩) (.pointer (some ⟨gd, 4, none⟩)) rfl (exec_fld 23 4 4 (.tmp 10) (gd) rfl (by kernel_rfl) (by kernel_rfl)) ?_
  simp only [Act.put, List.setIfInBounds_toArray, List.set_cons_succ, List.set_cons_zero]
  refine l_setf (o := ⟨none, _, _, _, _, _⟩) gd 4 23 c.l [] (6 + j1) (.tmp 40) (.tmp 39) rfl rfl (by kernel_rfl) (by kernel_rfl) HD10.out (by simp [Ord.l]) ?_
  intro u11 X11 k11 z11
  simp only [Act.put]
  refine wpList_nil ?_
  have HD11 : Hid (Blk u11 gd 23 (Ord.cells { c with k := 6 + j1 })) := X11
  have HRd : Hid (Ord.err { c with k := 6 + j1 } = 1) := err_no (right_kind c _ (by omega))
  generalize ({ c with k := 6 + j1 } : Ord) = cd at HD11 HRd
  have HA11 := Lib.hid (HA10.out.keep k11 (by have := HN.out; omega))
  have HB11 := Lib.hid (HB10.out.keep k11 (by have := HN.out; omega))
  have HC11 := Lib.hid (HC10.out.keep k11 (by have := HN.out; omega))
  have kw11 : Kept w u11 := Kept.trans' kw10 k11 (by have := HN.out; omega)
  clear X11 k11 z11 hk0 hk1 kw10 HA10 HB10 HC10 HD10
  go_upto_region 8 with fail
  refine wp_text 21 [.eq (ca.v), .eq (.int .i64 0), .eq (.bool true), .eq (.bool true), .eq (cb.v), .eq (.int .i64 1), .eq (.bool true), .eq (.bool true), .eq (.bool true), .eq (cc.v), .eq (.int .i64 1), .eq (.bool true), .eq (.bool true), .eq (.bool true), .eq (cd.v), .eq (.int .i64 1), .eq (.bool true), .eq (.bool true), .eq (.bool true), .eq (.bool true), .eq (.bool true)] rfl (by kernel_rfl) ?_ ?_
  · refine fsteps_cons 1 rfl (fun a u hE hD hk => f_val (o := ⟨some 41, _, _, _, _, _⟩) (ca.v) rfl (wanted_none rfl _) (exec_loadS 23 (.tmp 7) (ga) _ ca.cells _ rfl (hE 7 (.pointer (some ⟨ga, 0, none⟩)) (by kernel_rfl) (by kernel_rfl)) (HA11.out.kept hk) Try.underlying23 (by rw [Ord.cells_len _ HT.out]; exact ord_size)) rfl) ?_
    refine fsteps_cons 2 rfl (fun a u hE hD hk => f_call (o := ⟨some 42, _, _, _, _, _⟩) 11 #[ca.v] rfl (wanted_none rfl _) (exec_call 11 _ [.tmp 41] _ [ca.v] Try.func11 (by kernel_rfl) (by kernel_rfl) rfl (show [a.eval (.tmp 41)] = [ca.v] from (by rw [show a.eval (.tmp 41) = ca.v from (hD 0 41 (by kernel_rfl))] <;> rfl)) u) (ordRight_is ca 0 u HRa.out)) ?_
    refine fsteps_cons 3 rfl (fun a u hE hD hk => f_as (show ((decide ((0 : Int) = (0 : Int))) : Bool) = true from rfl) (f_val (o := ⟨some 43, _, _, _, _, _⟩) (.bool (decide ((0 : Int) = (0 : Int)))) rfl (wanted_none rfl _) (exec_eqn (p := 0) (q := 0) rfl (hD 1 42 (by kernel_rfl)) rfl) rfl)) ?_
    refine fsteps_cons 4 rfl (fun a u hE hD hk => f_val (o := ⟨some 44, _, _, _, _, _⟩) (.bool true) rfl (wanted_none rfl _) (exec_move (.tmp 43) (.bool true) rfl (hD 2 43 (by kernel_rfl))) rfl) ?_
    refine fsteps_cons 5 rfl (fun a u hE hD hk => f_val (o := ⟨some 45, _, _, _, _, _⟩) (cb.v) rfl (wanted_at (b := true) true rfl rfl (hD 3 44 (by kernel_rfl))) (exec_loadS 23 (.tmp 8) (gb) _ cb.cells _ rfl (hE 8 (.pointer (some ⟨gb, 0, none⟩)) (by kernel_rfl) (by kernel_rfl)) (HB11.out.kept hk) Try.underlying23 (by rw [Ord.cells_len _ HT.out]; exact ord_size)) rfl) ?_
    refine fsteps_cons 6 rfl (fun a u hE hD hk => f_call (o := ⟨some 46, _, _, _, _, _⟩) 11 #[cb.v] rfl (wanted_at (b := true) true rfl rfl (hD 3 44 (by kernel_rfl))) (exec_call 11 _ [.tmp 45] _ [cb.v] Try.func11 (by kernel_rfl) (by kernel_rfl) rfl (show [a.eval (.tmp 45)] = [cb.v] from (by rw [show a.eval (.tmp 45) = cb.v from (hD 4 45 (by kernel_rfl))] <;> rfl)) u) (ordRight_is cb 1 u HRb.out)) ?_
    refine fsteps_cons 7 rfl (fun a u hE hD hk => f_as (show ((decide ((1 : Int) = (1 : Int))) : Bool) = true from rfl) (f_val (o := ⟨some 47, _, _, _, _, _⟩) (.bool (decide ((1 : Int) = (1 : Int)))) rfl (wanted_at (b := true) true rfl rfl (hD 3 44 (by kernel_rfl))) (exec_eqn (p := 1) (q := 1) rfl (hD 5 46 (by kernel_rfl)) rfl) rfl)) ?_
    refine fsteps_cons 8 rfl (fun a u hE hD hk => f_val (o := ⟨some 48, _, _, _, _, _⟩) (.bool true) rfl (wanted_none rfl _) (exec_pick (.tmp 44) (.tmp 47) (.const (.bool false)) (.bool true) rfl (hD 3 44 (by kernel_rfl)) (hD 6 47 (by kernel_rfl))) rfl) ?_
    refine fsteps_cons 9 rfl (fun a u hE hD hk => f_val (o := ⟨some 49, _, _, _, _, _⟩) (.bool true) rfl (wanted_none rfl _) (exec_move (.tmp 48) (.bool true) rfl (hD 7 48 (by kernel_rfl))) rfl) ?_
    refine fsteps_cons 10 rfl (fun a u hE hD hk => f_val (o := ⟨some 50, _, _, _, _, _⟩) (cc.v) rfl (wanted_at (b := true) true rfl rfl (hD 8 49 (by kernel_rfl))) (exec_loadS 23 (.tmp 9) (gc) _ cc.cells _ rfl (hE 9 (.pointer (some ⟨gc, 0, none⟩)) (by kernel_rfl) (by kernel_rfl)) (HC11.out.kept hk) Try.underlying23 (by rw [Ord.cells_len _ HT.out]; exact ord_size)) rfl) ?_
    refine fsteps_cons 11 rfl (fun a u hE hD hk => f_call (o := ⟨some 51, _, _, _, _, _⟩) 11 #[cc.v] rfl (wanted_at (b := true) true rfl rfl (hD 8 49 (by kernel_rfl))) (exec_call 11 _ [.tmp 50] _ [cc.v] Try.func11 (by kernel_rfl) (by kernel_rfl) rfl (show [a.eval (.tmp 50)] = [cc.v] from (by rw [show a.eval (.tmp 50) = cc.v from (hD 9 50 (by kernel_rfl))] <;> rfl)) u) (ordRight_is cc 1 u HRc.out)) ?_
    refine fsteps_cons 12 rfl (fun a u hE hD hk => f_as (show ((decide ((1 : Int) = (1 : Int))) : Bool) = true from rfl) (f_val (o := ⟨some 52, _, _, _, _, _⟩) (.bool (decide ((1 : Int) = (1 : Int)))) rfl (wanted_at (b := true) true rfl rfl (hD 8 49 (by kernel_rfl))) (exec_eqn (p := 1) (q := 1) rfl (hD 10 51 (by kernel_rfl)) rfl) rfl)) ?_
    refine fsteps_cons 13 rfl (fun a u hE hD hk => f_val (o := ⟨some 53, _, _, _, _, _⟩) (.bool true) rfl (wanted_none rfl _) (exec_pick (.tmp 49) (.tmp 52) (.const (.bool false)) (.bool true) rfl (hD 8 49 (by kernel_rfl)) (hD 11 52 (by kernel_rfl))) rfl) ?_
    refine fsteps_cons 14 rfl (fun a u hE hD hk => f_val (o := ⟨some 54, _, _, _, _, _⟩) (.bool true) rfl (wanted_none rfl _) (exec_move (.tmp 53) (.bool true) rfl (hD 12 53 (by kernel_rfl))) rfl) ?_
    refine fsteps_cons 15 rfl (fun a u hE hD hk => f_val (o := ⟨some 55, _, _, _, _, _⟩) (cd.v) rfl (wanted_at (b := true) true rfl rfl (hD 13 54 (by kernel_rfl))) (exec_loadS 23 (.tmp 10) (gd) _ cd.cells _ rfl (hE 10 (.pointer (some ⟨gd, 0, none⟩)) (by kernel_rfl) (by kernel_rfl)) (HD11.out.kept hk) Try.underlying23 (by rw [Ord.cells_len _ HT.out]; exact ord_size)) rfl) ?_
    refine fsteps_cons 16 rfl (fun a u hE hD hk => f_call (o := ⟨some 56, _, _, _, _, _⟩) 11 #[cd.v] rfl (wanted_at (b := true) true rfl rfl (hD 13 54 (by kernel_rfl))) (exec_call 11 _ [.tmp 55] _ [cd.v] Try.func11 (by kernel_rfl) (by kernel_rfl) rfl (show [a.eval (.tmp 55)] = [cd.v] from (by rw [show a.eval (.tmp 55) = cd.v from (hD 14 55 (by kernel_rfl))] <;> rfl)) u) (ordRight_is cd 1 u HRd.out)) ?_
    refine fsteps_cons 17 rfl (fun a u hE hD hk => f_as (show ((decide ((1 : Int) = (1 : Int))) : Bool) = true from rfl) (f_val (o := ⟨some 57, _, _, _, _, _⟩) (.bool (decide ((1 : Int) = (1 : Int)))) rfl (wanted_at (b := true) true rfl rfl (hD 13 54 (by kernel_rfl))) (exec_eqn (p := 1) (q := 1) rfl (hD 15 56 (by kernel_rfl)) rfl) rfl)) ?_
    refine fsteps_cons 18 rfl (fun a u hE hD hk => f_val (o := ⟨some 58, _, _, _, _, _⟩) (.bool true) rfl (wanted_none rfl _) (exec_pick (.tmp 54) (.tmp 57) (.const (.bool false)) (.bool true) rfl (hD 13 54 (by kernel_rfl)) (hD 16 57 (by kernel_rfl))) rfl) ?_
    refine fsteps_cons 19 rfl (fun a u hE hD hk => f_val (o := ⟨some 59, _, _, _, _, _⟩) (.bool true) rfl (wanted_none rfl _) (exec_move (.tmp 58) (.bool true) rfl (hD 17 58 (by kernel_rfl))) rfl) ?_
    refine fsteps_cons 20 rfl (fun a u hE hD hk => f_call (o := ⟨some 60, _, _, _, _, _⟩) 3 #[] rfl (wanted_at (b := true) true rfl rfl (hD 18 59 (by kernel_rfl))) (exec_call 3 _ [] _ [] Try.func3 (by kernel_rfl) (by kernel_rfl) rfl rfl u) (orderRuns_gives u)) ?_
    refine fsteps_cons 21 rfl (fun a u hE hD hk => f_val (o := ⟨some 61, _, _, _, _, _⟩) (.bool true) rfl (wanted_none rfl _) (exec_pick (.tmp 59) (.tmp 60) (.const (.bool false)) (.bool true) rfl (hD 18 59 (by kernel_rfl)) (hD 19 60 (by kernel_rfl))) rfl) ?_
    exact fsteps_nil
  intro gv u12 hV k12
  rw [show dstsOf _ 21 = [41, 42, 43, 44, 45, 46, 47, 48, 49, 50, 51, 52, 53, 54, 55, 56, 57, 58, 59, 60, 61] by kernel_rfl]
  simp only [List.foldl_cons, List.foldl_nil, List.setIfInBounds_toArray, List.set_cons_succ, List.set_cons_zero, List.drop_succ_cons, List.drop_zero]
  rw [show gv 61 = .bool true from hV 20 61 (by kernel_rfl)]
  clear hV
  go_wp2
  go_ret
  exact ⟨rfl, kw11.trans k12⟩

theorem orderRight_any (c : Ord) (x y : Int) (w : World) : Calls Try.prog 6 #[c.v, .int .i64 x, .int .i64 y] w fun e w' => e = .returned (.bool true) ∧ Kept w w' := by
  cases hR : c.right with
  | true => exact right8_t c x y w hR
  | false => exact right8_f c x y w hR
end Go.Proofs.Ytgepgpclgpidaaa
