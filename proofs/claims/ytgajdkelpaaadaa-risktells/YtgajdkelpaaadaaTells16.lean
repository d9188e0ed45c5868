/-
  RiskTells: any accounts, any limits, any order: what Right and Check tell is the document's own; it answers true. Condition: the asks, the limits, the order as the arguments hold them.
-/
import Derived.Test.YtgajdkelpaaadaaRuns16
import Derived.Test.YtgajdkelpaaadaaRskD
import Derived.Test.YtgajdkelpaaadaaSom16
import Derived.Test.YtgajdkelpaaadaaSame6
namespace Go.Proofs.Ytgajdkelpaaadaa
open Go.RowKit
set_option linter.unusedVariables false
set_option maxRecDepth 100000

/-! a trader's limits stored into the document's accounts -/
def Lim.at_ (L : Lim) (k : Nat) : Int := if k = 0 then L.q else if k = 1 then L.m else if k = 2 then L.o else L.p
def putL (F : Nat → Int) (n : Nat) (L : Lim) : Nat → Int := fun j => if j / 4 = n then L.at_ (j % 4) else F j
theorem putL_cells (F : Nat → Int) (n : Nat) (L : Lim) : lay 4 (fun k => putL F n L (n * 4 + k)) = L.cells := by
  refine (lay_ext (g := L.at_) fun k hk => ?_).trans rfl
  unfold putL
  rw [if_pos (by omega), show (n * 4 + k) % 4 = k by omega]
theorem rc_putL (B : Bal) (F : Nat → Int) {n : Nat} (hn : n < 32) (L : Lim) : (B.rc F).take (n * 4) ++ L.cells ++ (B.rc F).drop (n * 4 + 4) = B.rc (putL F n L) := by
  have hl : ((B.rc F).take (n * 4)).length = n * 4 := by rw [List.length_take]; unfold Bal.rc; rw [lay_len]; omega
  apply List.ext_getElem?
  intro j
  by_cases h1 : j < n * 4
  · rw [List.append_assoc, List.getElem?_append_left (by omega), List.getElem?_take_of_lt h1]
    unfold Bal.rc
    rw [lay_at _ (by omega), lay_at _ (by omega)]
    unfold Bal.rf putL
    rw [if_pos (by omega), if_pos (by omega), if_neg (by omega)]
  · rw [List.append_assoc, List.getElem?_append_right (by omega), hl]
    by_cases h2 : j < n * 4 + 4
    · rw [List.getElem?_append_left (by rw [L.len4l]; omega), ← putL_cells F n L, lay_at _ (by omega), show n * 4 + (j - n * 4) = j by omega]
      unfold Bal.rc
      rw [lay_at _ (by omega)]
      unfold Bal.rf
      rw [if_pos (by omega)]
    · rw [List.getElem?_append_right (by rw [L.len4l]; omega), L.len4l, List.getElem?_drop, show n * 4 + 4 + (j - n * 4 - 4) = j by omega]
      unfold Bal.rc
      by_cases h3 : j < 640
      · rw [lay_at _ h3, lay_at _ h3]
        unfold Bal.rf putL
        by_cases h4 : j < 128
        · rw [if_pos h4, if_pos h4, if_neg (by omega)]
        · rw [if_neg h4, if_neg h4]
      · rw [List.getElem?_eq_none (by rw [lay_len]; omega), List.getElem?_eq_none (by rw [lay_len]; omega)]
theorem lim_lt {w : World} {g : Nat} {L : Lim} (h : w.rangeAt g 0 L.cells) : g < w.heap.size := World.block_lt_of_cell? w _ (h 0 (.int .i64 L.q) rfl)
theorem ord_lt {w : World} {g : Nat} {c : Ord} (h : w.rangeAt g 0 c.cells) : g < w.heap.size := World.block_lt_of_cell? w _ (h 0 (.int .i64 c.tr) rfl)
theorem l_putL {ops : Array Oper} {Q : Exit → Act → World → Prop} {a : Act} {w : World} {o : Oper} {rest : List Oper} (g i : Nat) (T : TypeId) (B : Bal) (F : Nat → Int) (L : Lim) (x y : Operand) (hw : Region.wanted o (yielded ops a.tmps) = true) (hop : o.op = .store 25 x y) (hx : a.eval x = .pointer (some ⟨g, i * 4, none⟩)) (hy : a.eval y = L.v) (hb : Blk w g T (B.rc F)) (hi : i < 32)
    (hK : ∀ w', Blk w' g T (B.rc (putL F i L)) → Keep (· = g) w w' → w'.heap.size = w.heap.size → wpList Try.prog ops Q rest (a.put o.dst undef) w') : wpList Try.prog ops Q (o :: rest) a w := by
  have hln : (B.rc F).length = 640 := by unfold Bal.rc; rw [lay_len]
  obtain ⟨h1, h2, h3⟩ := Blk.setCells L.cells (i * 4) w _ hb (by rw [L.len4l, hln]; omega)
  rw [L.len4l, rc_putL B F hi L] at h1
  have hth : w.there g (i * 4) L.cells.toArray.size := hb.there (i * 4) _ (by rw [hln]; simp [L.len4l]; omega)
  have hsz : (Try.prog.info? 25).map (·.size) = some L.cells.toArray.size := by
    rw [show L.cells.toArray.size = 4 by simp [L.len4l]]
    exact szLim
  have hr := run_storeVar_mid (P := Try.prog) w g (i * 4) 25 L.cells.toArray hth hsz (by simpa using L.one)
  refine l_store (w.setCells g (i * 4) L.cells) hw ?_ (hK _ h1 h2 h3)
  unfold execOp
  simp only [hop, hx, hy, Lim.v, Instr.storeAt, Instr.sureAddr, Sem.run_bind, Sem.run_pure, Result.andThen_ok, hr]
set_option maxRecDepth 100000 in
set_option maxHeartbeats 3200000 in
theorem riskTells_any (v : Value) (l : List Bq) (L : Lim) (c : Ord) (i : Int) (w : World) (hl : Bqs w v l) : Calls Try.prog 4 #[v, L.v, c.v, .int .i64 i] w fun e w' => e = .returned (.bool true) ∧ Kept w w' := by
  have HA := Lib.hid hl
  clear hl
  obtain ⟨b0, hb0⟩ : ∃ z, w.alloc (.cells L.cells.toArray 25) = z := ⟨_, rfl⟩
  have q0 : Kept w b0 := by rw [← hb0]; exact (Keep.refl _ _).alloc _
  have r0 : b0.rangeAt w.heap.size 0 L.cells := by rw [← hb0]; exact blk_range (Blk.new w 25 L.cells)
  obtain ⟨b1, hb1⟩ : ∃ z, b0.alloc (.cells c.cells.toArray 29) = z := ⟨_, rfl⟩
  have q1 : Kept b0 b1 := by rw [← hb1]; exact (Keep.refl _ _).alloc _
  have r1 : b1.rangeAt b0.heap.size 0 c.cells := by rw [← hb1]; exact blk_range (Blk.new b0 29 c.cells)
  have HB5 := Lib.hid (range_kept (r0) q1)
  have HB6 := Lib.hid (r1)
  have k0 := (q0).trans q1
  clear r0 r1
  go_enter Try.func4, Try.ntmps4
  go_upto_region 0 with fail
  refine wp_region_lit ?_
  refine l_new (o := ⟨some 5, _, _, _, _, _⟩) (.pointer (some ⟨w.heap.size, 0, none⟩)) b0 rfl (by rw [← hb0]; exact exec_box 25 (.tmp 1) L.cells rfl (by kernel_rfl)) ?_
  simp only [Act.put, List.setIfInBounds_toArray, List.set_cons_succ, List.set_cons_zero]
  refine l_new (o := ⟨some 6, _, _, _, _, _⟩) (.pointer (some ⟨b0.heap.size, 0, none⟩)) b1 rfl (by rw [← hb1]; exact exec_box 29 (.tmp 2) c.cells rfl (by kernel_rfl)) ?_
  simp only [Act.put, List.setIfInBounds_toArray, List.set_cons_succ, List.set_cons_zero]
  refine l_val (o := ⟨some 8, _, _, _, _, _⟩) (.bool false) rfl (exec_assign (.const (.bool false)) (.bool false) rfl (by kernel_rfl)) ?_
  simp only [Act.put, List.setIfInBounds_toArray, List.set_cons_succ, List.set_cons_zero]
  refine wpList_nil ?_
  obtain ⟨g5, hg5⟩ : ∃ g, w.heap.size = g := ⟨_, rfl⟩
  rw [hg5] at HB5 ⊢
  obtain ⟨g6, hg6⟩ : ∃ g, b0.heap.size = g := ⟨_, rfl⟩
  rw [hg6] at HB6 ⊢
  clear hg5 hb0 q0 hg6 hb1 q1
  go_upto_region 1 with fail
  refine wp_region_lit ?_
  refine l_val (o := ⟨some 12, _, _, _, _, _⟩) (v) rfl (exec_move (.tmp 0) (v) rfl (by kernel_rfl)) ?_
  simp only [Act.put, List.setIfInBounds_toArray, List.set_cons_succ, List.set_cons_zero]
  refine l_call (o := ⟨some 13, _, _, _, _, _⟩) 13 #[v] rfl (exec_call 13 _ [.tmp 12] _ _ Try.func13 (by kernel_rfl) (by kernel_rfl) rfl (by kernel_rfl) _) ?_
  refine (both_any v l b1 (HA.out.kept k0)).mono ?_
  rintro e w1 ⟨g, r, B, rfl, hO, hB, hR, hg, hr, hgr, k1⟩
  refine ⟨_, rfl, ?_⟩
  simp only [Act.put, List.setIfInBounds_toArray, List.set_cons_succ, List.set_cons_zero]
  refine l_val (o := ⟨some 11, _, _, _, _, _⟩) (.tuple #[.pointer (some ⟨g, 0, none⟩), .pointer (some ⟨r, 0, none⟩)]) rfl (exec_move (.tmp 13) (.tuple #[.pointer (some ⟨g, 0, none⟩), .pointer (some ⟨r, 0, none⟩)]) rfl (by kernel_rfl)) ?_
  simp only [Act.put, List.setIfInBounds_toArray, List.set_cons_succ, List.set_cons_zero]
  refine l_val (o := ⟨some 14, _, _, _, _, _⟩) (.pointer (some ⟨g, 0, none⟩)) rfl (exec_extract (.tmp 11) [.pointer (some ⟨g, 0, none⟩), .pointer (some ⟨r, 0, none⟩)] 0 _ rfl (by kernel_rfl) rfl) ?_
  simp only [Act.put, List.setIfInBounds_toArray, List.set_cons_succ, List.set_cons_zero]
  refine l_val (o := ⟨some 15, _, _, _, _, _⟩) (.pointer (some ⟨r, 0, none⟩)) rfl (exec_extract (.tmp 11) [.pointer (some ⟨g, 0, none⟩), .pointer (some ⟨r, 0, none⟩)] 1 _ rfl (by kernel_rfl) rfl) ?_
  simp only [Act.put, List.setIfInBounds_toArray, List.set_cons_succ, List.set_cons_zero]
  refine l_val (o := ⟨some 9, _, _, _, _, _⟩) (.pointer (some ⟨g, 0, none⟩)) rfl (exec_assign (.tmp 14) (.pointer (some ⟨g, 0, none⟩)) rfl (by kernel_rfl)) ?_
  simp only [Act.put, List.setIfInBounds_toArray, List.set_cons_succ, List.set_cons_zero]
  refine l_val (o := ⟨some 10, _, _, _, _, _⟩) (.pointer (some ⟨r, 0, none⟩)) rfl (exec_assign (.tmp 15) (.pointer (some ⟨r, 0, none⟩)) rfl (by kernel_rfl)) ?_
  simp only [Act.put, List.setIfInBounds_toArray, List.set_cons_succ, List.set_cons_zero]
  refine wpList_nil ?_
  have HI := Lib.hid hO
  have HB1 := Lib.hid hB
  have HR1 := Lib.hid hR
  have HL1 := Lib.hid (range_kept HB5.out k1)
  have HC1 := Lib.hid (range_kept HB6.out k1)
  have zz := k0.size
  have hwr : w.heap.size ≤ r := by omega
  have n5 : ¬ g5 = r := by have := lim_lt HB5.out; omega
  have n6 : ¬ g6 = r := by have := ord_lt HB6.out; omega
  have kw1 := k0.trans k1
  clear hO hB hR HB5 HB6 k0 k1 HA
  obtain ⟨F, hF0⟩ : ∃ F : Nat → Int, (fun _ => 0) = F := ⟨_, rfl⟩
  rw [hF0] at HR1
  clear hF0
  go_upto_region 2 with fail
  refine wp_text 2 [.eq (.pointer (some ⟨g, 0, none⟩)), .eq (.bool false)] rfl (by kernel_rfl) ?_ ?_
  · refine sv 1 rfl rfl rfl (fun a u hE hD hk => exec_move (.tmp 9) _ rfl (hE 9 (.pointer (some ⟨g, 0, none⟩)) (by kernel_rfl) (by kernel_rfl))) ?_
    refine sv 2 rfl rfl rfl (fun a u hE hD hk => exec_eqP (.tmp 16) _ _ ⟨g, 0, none⟩ (by kernel_rfl) rfl (hD 0 16 (by kernel_rfl))) ?_
    exact fsteps_nil
  intro gv w2 hV k2
  rw [show dstsOf _ 2 = [16, 17] by kernel_rfl]
  simp only [List.foldl_cons, List.foldl_nil, List.setIfInBounds_toArray, List.set_cons_succ, List.set_cons_zero, List.drop_succ_cons, List.drop_zero]
  rw [show gv 17 = .bool false from hV 1 17 (by kernel_rfl)]
  clear hV
  refine wpList_nil ?_
  have HL2 := Lib.hid (range_kept HL1.out k2)
  have HC2 := Lib.hid (range_kept HC1.out k2)
  cases ht : decide (0 ≤ c.tr) && decide (c.tr < 32) with
  | true =>
    have HT := Lib.hid ht
    obtain ⟨m, hm, hcm⟩ : ∃ m : Nat, m < 32 ∧ c.tr = (m : Int) := by
      rw [Bool.and_eq_true, decide_eq_true_eq, decide_eq_true_eq] at ht
      exact ⟨c.tr.toNat, by omega, by omega⟩
    have HM := Lib.hid hcm
    clear ht hcm
    go_upto_region 4 with fail
    refine wp_text 8 [.eq (.pointer (some ⟨g6, 0, none⟩)), .eq (.int .i64 c.tr), .eq (.bool (decide ((0 : Int) ≤ (c.tr : Int)))), .eq (.bool (decide ((0 : Int) ≤ (c.tr : Int)))), .cond (decide ((0 : Int) ≤ (c.tr : Int))) (.eq (.pointer (some ⟨g6, 0, none⟩))), .cond (decide ((0 : Int) ≤ (c.tr : Int))) (.eq (.int .i64 c.tr)), .cond (decide ((0 : Int) ≤ (c.tr : Int))) (.eq (.bool (decide ((c.tr : Int) < (32 : Int))))), .eq (.bool true)] rfl (by kernel_rfl) ?_ ?_
    · refine sv 1 rfl rfl rfl (fun a u hE hD hk => exec_fldo 29 0 0 (.tmp 6) (g6) (0) (0) rfl (hE 6 (.pointer (some ⟨g6, 0, none⟩)) (by kernel_rfl) (by kernel_rfl)) (by kernel_rfl) rfl) ?_
      refine sv 2 rfl rfl rfl (fun a u hE hD hk => exec_loadi 3 Try.underlying3 (.tmp 18) ⟨g6, 0, none⟩ (.int .i64 c.tr) rfl (hD 0 18 (by kernel_rfl)) (range_int (range_kept HC2.out hk) 0 _ rfl)) ?_
      refine sv 3 rfl rfl rfl (fun a u hE hD hk => exec_gen (p := c.tr) (q := 0) rfl (hD 1 19 (by kernel_rfl)) rfl) ?_
      refine sv 4 rfl rfl rfl (fun a u hE hD hk => exec_move (.tmp 20) _ rfl (hD 2 20 (by kernel_rfl))) ?_
      refine fsteps_cons 5 rfl (fun a u hE hD hk => f_if ((decide ((0 : Int) ≤ (c.tr : Int)))) rfl rfl rfl (hD 3 21 (by kernel_rfl)) (fun hb => f_val (o := ⟨some 22, _, _, _, _, _⟩) (.pointer (some ⟨g6, 0, none⟩)) rfl (wanted_b rfl rfl (hD 3 21 (by kernel_rfl)) (eq_true_of hb)) (exec_fldo 29 0 0 (.tmp 6) (g6) (0) (0) rfl (hE 6 (.pointer (some ⟨g6, 0, none⟩)) (by kernel_rfl) (by kernel_rfl)) (by kernel_rfl) rfl) rfl)) ?_
      refine fsteps_cons 6 rfl (fun a u hE hD hk => f_if ((decide ((0 : Int) ≤ (c.tr : Int)))) rfl rfl rfl (hD 3 21 (by kernel_rfl)) (fun hb => f_val (o := ⟨some 23, _, _, _, _, _⟩) (.int .i64 c.tr) rfl (wanted_b rfl rfl (hD 3 21 (by kernel_rfl)) (eq_true_of hb)) (exec_loadi 3 Try.underlying3 (.tmp 22) ⟨g6, 0, none⟩ (.int .i64 c.tr) rfl ((hD 4 22 (by kernel_rfl)).1 hb) (range_int (range_kept HC2.out hk) 0 _ rfl)) rfl)) ?_
      refine fsteps_cons 7 rfl (fun a u hE hD hk => f_if ((decide ((0 : Int) ≤ (c.tr : Int)))) rfl rfl rfl (hD 3 21 (by kernel_rfl)) (fun hb => f_val (o := ⟨some 24, _, _, _, _, _⟩) (.bool (decide ((c.tr : Int) < (32 : Int)))) rfl (wanted_b rfl rfl (hD 3 21 (by kernel_rfl)) (eq_true_of hb)) (exec_ltn (p := c.tr) (q := 32) rfl ((hD 5 23 (by kernel_rfl)).1 hb) rfl) rfl)) ?_
      refine fsteps_cons 8 rfl (fun a u hE hD hk => f_as (show (((decide ((0 : Int) ≤ (c.tr : Int))) && (decide ((c.tr : Int) < (32 : Int)))) : Bool) = true from HT.out) (f_val (o := ⟨some 25, _, _, _, _, _⟩) (.bool ((decide ((0 : Int) ≤ (c.tr : Int))) && (decide ((c.tr : Int) < (32 : Int))))) rfl (wanted_none rfl _) (exec_pickand (.tmp 21) (.tmp 24) (.const (.bool false)) ((decide ((0 : Int) ≤ (c.tr : Int)))) ((decide ((c.tr : Int) < (32 : Int)))) rfl (hD 3 21 (by kernel_rfl)) (fun hb2 => ((hD 6 24 (by kernel_rfl)).1 hb2)) rfl) rfl)) ?_
      exact fsteps_nil
    intro gv w3 hV k3
    rw [show dstsOf _ 8 = [18, 19, 20, 21, 22, 23, 24, 25] by kernel_rfl]
    simp only [List.foldl_cons, List.foldl_nil, List.setIfInBounds_toArray, List.set_cons_succ, List.set_cons_zero, List.drop_succ_cons, List.drop_zero]
    rw [show gv 25 = .bool true from hV 7 25 (by kernel_rfl)]
    clear hV
    refine wpList_nil ?_
    have HR3 := Lib.hid ((HR1.out.kept k2).kept k3)
    have HL3 := Lib.hid (range_kept HL2.out k3)
    have HC3 := Lib.hid (range_kept HC2.out k3)
    have HB3 := Lib.hid ((HB1.out.kept k2).kept k3)
    have kw3 := (kw1.trans k2).trans k3
    clear HR1 HL1 HC1 HB1 HL2 HC2 kw1 k2 k3
    go_upto_region 5 with fail
    refine wp_free 7 [.eq (.pointer (some ⟨r, 0, none⟩)), .eq (.pointer (some ⟨g6, 0, none⟩)), .eq (.int .i64 (m : Int)), .eq (L.v), .eq (.pointer (some ⟨r, 0, none⟩)), .eq (.pointer (some ⟨r, 0, none⟩)), .eq (.pointer (some ⟨r, m * 4, none⟩))] (by kernel_rfl) rfl (by kernel_rfl) ?_ ?_
    · refine sv 1 rfl rfl rfl (fun a u hE hD hk => exec_move (.tmp 10) _ rfl (hE 10 (.pointer (some ⟨r, 0, none⟩)) (by kernel_rfl) (by kernel_rfl))) ?_
      refine sv 2 rfl rfl rfl (fun a u hE hD hk => exec_fldo 29 0 0 (.tmp 6) (g6) (0) (0) rfl (hE 6 (.pointer (some ⟨g6, 0, none⟩)) (by kernel_rfl) (by kernel_rfl)) (by kernel_rfl) rfl) ?_
      refine sv 3 rfl rfl rfl (fun a u hE hD hk => by rw [← HM.out]; exact exec_loadi 3 Try.underlying3 (.tmp 27) ⟨g6, 0, none⟩ (.int .i64 c.tr) rfl (hD 1 27 (by kernel_rfl)) (range_int (off := 0) (range_kept HC3.out hk) 0 _ rfl)) ?_
      refine sv 4 rfl rfl rfl (fun a u hE hD hk => exec_ldS 25 _ (.tmp 5) (g5) (0) (L.cells) rfl (hE 5 (.pointer (some ⟨g5, 0, none⟩)) (by kernel_rfl) (by kernel_rfl)) (range_kept HL3.out hk) Try.underlying25 (by rw [L.len4l]; exact szLim)) ?_
      refine sv 5 rfl rfl rfl (fun a u hE hD hk => exec_nilp (.tmp 26) ⟨r, 0, none⟩ rfl (hD 0 26 (by kernel_rfl))) ?_
      refine sv 6 rfl rfl rfl (fun a u hE hD hk => exec_fldo 43 0 0 (.tmp 30) (r) (0) (0) rfl (hD 4 30 (by kernel_rfl)) (by kernel_rfl) rfl) ?_
      refine sv 7 rfl rfl rfl (fun a u hE hD hk => exec_ixK 4 37 25 32 (.tmp 31) (.tmp 28) (r) (0) (m * 4) m ((m : Int)) rfl Try.underlying37 (by kernel_rfl) (hD 5 31 (by kernel_rfl)) (hD 2 28 (by kernel_rfl)) (by first | rfl | omega) (hm) (by first | rfl | omega)) ?_
      exact fsteps_nil
    intro gv w4 hV k4
    rw [show dstsOf _ 7 = [26, 27, 28, 29, 30, 31, 32] by kernel_rfl]
    simp only [List.foldl_cons, List.foldl_nil, List.setIfInBounds_toArray, List.set_cons_succ, List.set_cons_zero, List.drop_succ_cons, List.drop_zero]
    rw [show gv 32 = .pointer (some ⟨r, m * 4, none⟩) from hV 6 32 (by kernel_rfl)]
    rw [show gv 29 = L.v from hV 3 29 (by kernel_rfl)]
    clear hV
    refine l_putL (o := ⟨none, _, _, _, _, _⟩) r m 43 B F L (.tmp 32) (.tmp 29) rfl rfl (by kernel_rfl) (by kernel_rfl) (HR3.out.kept k4) hm ?_
    intro w5 hC hK hS
    simp only [Act.put]
    refine wpList_nil ?_
    have HBw := Lib.hid ((HB3.out.kept k4).keep hK hgr)
    have HLw := Lib.hid (range_keep (range_kept HL3.out k4) hK n5)
    have HCw := Lib.hid (range_keep (range_kept HC3.out k4) hK n6)
    have HRw := Lib.hid hC
    have kww := kept_own (kw3.trans k4) hwr hK
    have hF : ∀ k : Nat, c.tr = (k : Int) → k < 32 → lay 4 (fun j => putL F m L (k * 4 + j)) = L.cells := by
      intro k hk _
      obtain rfl : m = k := by have := HM.out; omega
      exact putL_cells F m L
    clear hC hK hS HB3 HL3 HC3 HR3 kw3 k4
    generalize putL F m L = F2 at HRw hF
    have HF := Lib.hid hF
    clear hF
    obtain ⟨b, hb⟩ : ∃ b, L.right = b := ⟨_, rfl⟩
    obtain ⟨V, hV⟩ : ∃ V, chk B L c i = V := ⟨_, rfl⟩
    have H1 := Lib.hid hb
    have H2 := Lib.hid hV
    clear hb hV
    go_upto_region 6 with fail
    refine wp_free 21 [.eq (L.v), .eq (.bool b), .eq (L.v), .eq (.bool b), .eq (.bool true), .eq (.bool true), .eq (.pointer (some ⟨g, 0, none⟩)), .eq (L.v), .eq (c.v), .eq (.int .i64 i), .eq (.int .i64 V), .eq (.pointer (some ⟨r, 0, none⟩)), .eq (c.v), .eq (.int .i64 i), .eq (.int .i64 V), .eq (.bool true), .eq (.bool true), .eq (.bool true), .eq (.bool true), .eq (.bool true), .eq (.bool true)] (by kernel_rfl) rfl (by kernel_rfl) ?_ ?_
    · refine sv 1 rfl rfl rfl (fun a u hE hD hk => exec_ldS 25 _ (.tmp 5) (g5) (0) (L.cells) rfl (hE 5 (.pointer (some ⟨g5, 0, none⟩)) (by kernel_rfl) (by kernel_rfl)) (range_kept HLw.out hk) Try.underlying25 (by rw [L.len4l]; exact szLim)) ?_
      refine fsteps_cons 2 rfl (fun a u hE hD hk => f_call (o := ⟨some 34, _, _, _, _, _⟩) 12 #[L.v] rfl (wanted_none rfl _) (exec_call 12 _ [.tmp 33] _ [L.v] Try.func12 (by kernel_rfl) (by kernel_rfl) rfl (show [a.eval (.tmp 33)] = [L.v] from (by rw [show a.eval (.tmp 33) = L.v from (hD 0 33 (by kernel_rfl))] <;> rfl)) u) (by rw [← H1.out]; exact lright_any L u)) ?_
      refine sv 3 rfl rfl rfl (fun a u hE hD hk => exec_ldS 25 _ (.tmp 5) (g5) (0) (L.cells) rfl (hE 5 (.pointer (some ⟨g5, 0, none⟩)) (by kernel_rfl) (by kernel_rfl)) (range_kept HLw.out hk) Try.underlying25 (by rw [L.len4l]; exact szLim)) ?_
      refine fsteps_cons 4 rfl (fun a u hE hD hk => f_call (o := ⟨some 36, _, _, _, _, _⟩) 14 #[L.v] rfl (wanted_none rfl _) (exec_call 14 _ [.tmp 35] _ [L.v] Try.func14 (by kernel_rfl) (by kernel_rfl) rfl (show [a.eval (.tmp 35)] = [L.v] from (by rw [show a.eval (.tmp 35) = L.v from (hD 2 35 (by kernel_rfl))] <;> rfl)) u) (by rw [← H1.out]; exact rlright_any L u)) ?_
      refine sv 5 rfl rfl rfl (fun a u hE hD hk => exec_eqb (.tmp 34) (.tmp 36) _ b b true rfl (hD 1 34 (by kernel_rfl)) (hD 3 36 (by kernel_rfl)) (by simp)) ?_
      refine sv 6 rfl rfl rfl (fun a u hE hD hk => exec_move (.tmp 37) _ rfl (hD 4 37 (by kernel_rfl))) ?_
      refine fsteps_cons 7 rfl (fun a u hE hD hk => f_val (o := ⟨some 39, _, _, _, _, _⟩) (.pointer (some ⟨g, 0, none⟩)) rfl (wanted_at (b := true) true rfl rfl (hD 5 38 (by kernel_rfl))) (exec_move (.tmp 9) _ rfl (hE 9 (.pointer (some ⟨g, 0, none⟩)) (by kernel_rfl) (by kernel_rfl))) rfl) ?_
      refine fsteps_cons 8 rfl (fun a u hE hD hk => f_val (o := ⟨some 40, _, _, _, _, _⟩) (L.v) rfl (wanted_at (b := true) true rfl rfl (hD 5 38 (by kernel_rfl))) (exec_ldS 25 _ (.tmp 5) (g5) (0) (L.cells) rfl (hE 5 (.pointer (some ⟨g5, 0, none⟩)) (by kernel_rfl) (by kernel_rfl)) (range_kept HLw.out hk) Try.underlying25 (by rw [L.len4l]; exact szLim)) rfl) ?_
      refine fsteps_cons 9 rfl (fun a u hE hD hk => f_val (o := ⟨some 41, _, _, _, _, _⟩) (c.v) rfl (wanted_at (b := true) true rfl rfl (hD 5 38 (by kernel_rfl))) (exec_ldS 29 _ (.tmp 6) (g6) (0) (c.cells) rfl (hE 6 (.pointer (some ⟨g6, 0, none⟩)) (by kernel_rfl) (by kernel_rfl)) (range_kept HCw.out hk) Try.underlying29 (by rw [c.len9]; exact ord_size)) rfl) ?_
      refine fsteps_cons 10 rfl (fun a u hE hD hk => f_val (o := ⟨some 42, _, _, _, _, _⟩) (.int .i64 i) rfl (wanted_at (b := true) true rfl rfl (hD 5 38 (by kernel_rfl))) (exec_move (.tmp 3) _ rfl (hE 3 (.int .i64 i) (by kernel_rfl) (by kernel_rfl))) rfl) ?_
      refine fsteps_cons 11 rfl (fun a u hE hD hk => f_call (o := ⟨some 43, _, _, _, _, _⟩) 10 #[.pointer (some ⟨g, 0, none⟩), L.v, c.v, .int .i64 i] rfl (wanted_at (b := true) true rfl rfl (hD 5 38 (by kernel_rfl))) (exec_call 10 _ [.tmp 39, .tmp 40, .tmp 41, .tmp 42] _ [.pointer (some ⟨g, 0, none⟩), L.v, c.v, .int .i64 i] Try.func10 (by kernel_rfl) (by kernel_rfl) rfl (show [a.eval (.tmp 39), a.eval (.tmp 40), a.eval (.tmp 41), a.eval (.tmp 42)] = [.pointer (some ⟨g, 0, none⟩), L.v, c.v, .int .i64 i] from (by rw [show a.eval (.tmp 39) = .pointer (some ⟨g, 0, none⟩) from (hD 6 39 (by kernel_rfl)), show a.eval (.tmp 40) = L.v from (hD 7 40 (by kernel_rfl)), show a.eval (.tmp 41) = c.v from (hD 8 41 (by kernel_rfl)), show a.eval (.tmp 42) = .int .i64 i from (hD 9 42 (by kernel_rfl))] <;> rfl)) u) (check_at (HBw.out.kept hk) HI.out H2.out)) ?_
      refine fsteps_cons 12 rfl (fun a u hE hD hk => f_val (o := ⟨some 44, _, _, _, _, _⟩) (.pointer (some ⟨r, 0, none⟩)) rfl (wanted_at (b := true) true rfl rfl (hD 5 38 (by kernel_rfl))) (exec_move (.tmp 10) _ rfl (hE 10 (.pointer (some ⟨r, 0, none⟩)) (by kernel_rfl) (by kernel_rfl))) rfl) ?_
      refine fsteps_cons 13 rfl (fun a u hE hD hk => f_val (o := ⟨some 45, _, _, _, _, _⟩) (c.v) rfl (wanted_at (b := true) true rfl rfl (hD 5 38 (by kernel_rfl))) (exec_ldS 29 _ (.tmp 6) (g6) (0) (c.cells) rfl (hE 6 (.pointer (some ⟨g6, 0, none⟩)) (by kernel_rfl) (by kernel_rfl)) (range_kept HCw.out hk) Try.underlying29 (by rw [c.len9]; exact ord_size)) rfl) ?_
      refine fsteps_cons 14 rfl (fun a u hE hD hk => f_val (o := ⟨some 46, _, _, _, _, _⟩) (.int .i64 i) rfl (wanted_at (b := true) true rfl rfl (hD 5 38 (by kernel_rfl))) (exec_move (.tmp 3) _ rfl (hE 3 (.int .i64 i) (by kernel_rfl) (by kernel_rfl))) rfl) ?_
      refine fsteps_cons 15 rfl (fun a u hE hD hk => f_call (o := ⟨some 47, _, _, _, _, _⟩) 15 #[.pointer (some ⟨r, 0, none⟩), c.v, .int .i64 i] rfl (wanted_at (b := true) true rfl rfl (hD 5 38 (by kernel_rfl))) (exec_call 15 _ [.tmp 44, .tmp 45, .tmp 46] _ [.pointer (some ⟨r, 0, none⟩), c.v, .int .i64 i] Try.func15 (by kernel_rfl) (by kernel_rfl) rfl (show [a.eval (.tmp 44), a.eval (.tmp 45), a.eval (.tmp 46)] = [.pointer (some ⟨r, 0, none⟩), c.v, .int .i64 i] from (by rw [show a.eval (.tmp 44) = .pointer (some ⟨r, 0, none⟩) from (hD 11 44 (by kernel_rfl)), show a.eval (.tmp 45) = c.v from (hD 12 45 (by kernel_rfl)), show a.eval (.tmp 46) = .int .i64 i from (hD 13 46 (by kernel_rfl))] <;> rfl)) u) (by rw [← H2.out]; exact rcheck_any r B F2 HI.out L c i u (HRw.out.kept hk) HF.out)) ?_
      refine fsteps_cons 16 rfl (fun a u hE hD hk => f_as (show ((decide ((V : Int) = (V : Int))) : Bool) = true from decide_eq_true rfl) (f_val (o := ⟨some 48, _, _, _, _, _⟩) (.bool (decide ((V : Int) = (V : Int)))) rfl (wanted_at (b := true) true rfl rfl (hD 5 38 (by kernel_rfl))) (exec_eqn (p := V) (q := V) rfl (hD 10 43 (by kernel_rfl)) (hD 14 47 (by kernel_rfl))) rfl)) ?_
      refine sv 17 rfl rfl rfl (fun a u hE hD hk => exec_pick (.tmp 38) (.tmp 48) (.const (.bool false)) (.bool true) rfl (hD 5 38 (by kernel_rfl)) (hD 15 48 (by kernel_rfl))) ?_
      refine sv 18 rfl rfl rfl (fun a u hE hD hk => exec_move (.tmp 49) _ rfl (hD 16 49 (by kernel_rfl))) ?_
      refine fsteps_cons 19 rfl (fun a u hE hD hk => f_call (o := ⟨some 51, _, _, _, _, _⟩) 3 #[] rfl (wanted_at (b := true) true rfl rfl (hD 17 50 (by kernel_rfl))) (exec_call 3 _ [] _ [] Try.func3 (by kernel_rfl) (by kernel_rfl) rfl rfl u) (riskRuns_is u)) ?_
      refine sv 20 rfl rfl rfl (fun a u hE hD hk => exec_pick (.tmp 50) (.tmp 51) (.const (.bool false)) (.bool true) rfl (hD 17 50 (by kernel_rfl)) (hD 18 51 (by kernel_rfl))) ?_
      refine sv 21 rfl rfl rfl (fun a u hE hD hk => exec_assign (.tmp 52) _ rfl (hD 19 52 (by kernel_rfl))) ?_
      exact fsteps_nil
    intro gv wz hV kz
    rw [show dstsOf _ 21 = [33, 34, 35, 36, 37, 38, 39, 40, 41, 42, 43, 44, 45, 46, 47, 48, 49, 50, 51, 52, 8] by kernel_rfl]
    simp only [List.foldl_cons, List.foldl_nil, List.setIfInBounds_toArray, List.set_cons_succ, List.set_cons_zero, List.drop_succ_cons, List.drop_zero]
    rw [show gv 8 = .bool true from hV 20 8 (by kernel_rfl)]
    clear hV
    refine wpList_nil ?_
    have kwz := kww.trans kz
    go_wp2
    go_ret
    exact ⟨rfl, kwz⟩
  | false =>
    have HT := Lib.hid ht
    have hF : ∀ k : Nat, c.tr = (k : Int) → k < 32 → lay 4 (fun j => F (k * 4 + j)) = L.cells := by
      intro k hk h32
      rw [Bool.and_eq_false_iff, decide_eq_false_iff_not, decide_eq_false_iff_not] at ht
      omega
    clear ht
    go_upto_region 4 with fail
    refine wp_text 8 [.eq (.pointer (some ⟨g6, 0, none⟩)), .eq (.int .i64 c.tr), .eq (.bool (decide ((0 : Int) ≤ (c.tr : Int)))), .eq (.bool (decide ((0 : Int) ≤ (c.tr : Int)))), .cond (decide ((0 : Int) ≤ (c.tr : Int))) (.eq (.pointer (some ⟨g6, 0, none⟩))), .cond (decide ((0 : Int) ≤ (c.tr : Int))) (.eq (.int .i64 c.tr)), .cond (decide ((0 : Int) ≤ (c.tr : Int))) (.eq (.bool (decide ((c.tr : Int) < (32 : Int))))), .eq (.bool false)] rfl (by kernel_rfl) ?_ ?_
    · refine sv 1 rfl rfl rfl (fun a u hE hD hk => exec_fldo 29 0 0 (.tmp 6) (g6) (0) (0) rfl (hE 6 (.pointer (some ⟨g6, 0, none⟩)) (by kernel_rfl) (by kernel_rfl)) (by kernel_rfl) rfl) ?_
      refine sv 2 rfl rfl rfl (fun a u hE hD hk => exec_loadi 3 Try.underlying3 (.tmp 18) ⟨g6, 0, none⟩ (.int .i64 c.tr) rfl (hD 0 18 (by kernel_rfl)) (range_int (range_kept HC2.out hk) 0 _ rfl)) ?_
      refine sv 3 rfl rfl rfl (fun a u hE hD hk => exec_gen (p := c.tr) (q := 0) rfl (hD 1 19 (by kernel_rfl)) rfl) ?_
      refine sv 4 rfl rfl rfl (fun a u hE hD hk => exec_move (.tmp 20) _ rfl (hD 2 20 (by kernel_rfl))) ?_
      refine fsteps_cons 5 rfl (fun a u hE hD hk => f_if ((decide ((0 : Int) ≤ (c.tr : Int)))) rfl rfl rfl (hD 3 21 (by kernel_rfl)) (fun hb => f_val (o := ⟨some 22, _, _, _, _, _⟩) (.pointer (some ⟨g6, 0, none⟩)) rfl (wanted_b rfl rfl (hD 3 21 (by kernel_rfl)) (eq_true_of hb)) (exec_fldo 29 0 0 (.tmp 6) (g6) (0) (0) rfl (hE 6 (.pointer (some ⟨g6, 0, none⟩)) (by kernel_rfl) (by kernel_rfl)) (by kernel_rfl) rfl) rfl)) ?_
      refine fsteps_cons 6 rfl (fun a u hE hD hk => f_if ((decide ((0 : Int) ≤ (c.tr : Int)))) rfl rfl rfl (hD 3 21 (by kernel_rfl)) (fun hb => f_val (o := ⟨some 23, _, _, _, _, _⟩) (.int .i64 c.tr) rfl (wanted_b rfl rfl (hD 3 21 (by kernel_rfl)) (eq_true_of hb)) (exec_loadi 3 Try.underlying3 (.tmp 22) ⟨g6, 0, none⟩ (.int .i64 c.tr) rfl ((hD 4 22 (by kernel_rfl)).1 hb) (range_int (range_kept HC2.out hk) 0 _ rfl)) rfl)) ?_
      refine fsteps_cons 7 rfl (fun a u hE hD hk => f_if ((decide ((0 : Int) ≤ (c.tr : Int)))) rfl rfl rfl (hD 3 21 (by kernel_rfl)) (fun hb => f_val (o := ⟨some 24, _, _, _, _, _⟩) (.bool (decide ((c.tr : Int) < (32 : Int)))) rfl (wanted_b rfl rfl (hD 3 21 (by kernel_rfl)) (eq_true_of hb)) (exec_ltn (p := c.tr) (q := 32) rfl ((hD 5 23 (by kernel_rfl)).1 hb) rfl) rfl)) ?_
      refine fsteps_cons 8 rfl (fun a u hE hD hk => f_as (show (((decide ((0 : Int) ≤ (c.tr : Int))) && (decide ((c.tr : Int) < (32 : Int)))) : Bool) = false from HT.out) (f_val (o := ⟨some 25, _, _, _, _, _⟩) (.bool ((decide ((0 : Int) ≤ (c.tr : Int))) && (decide ((c.tr : Int) < (32 : Int))))) rfl (wanted_none rfl _) (exec_pickand (.tmp 21) (.tmp 24) (.const (.bool false)) ((decide ((0 : Int) ≤ (c.tr : Int)))) ((decide ((c.tr : Int) < (32 : Int)))) rfl (hD 3 21 (by kernel_rfl)) (fun hb2 => ((hD 6 24 (by kernel_rfl)).1 hb2)) rfl) rfl)) ?_
      exact fsteps_nil
    intro gv w3 hV k3
    rw [show dstsOf _ 8 = [18, 19, 20, 21, 22, 23, 24, 25] by kernel_rfl]
    simp only [List.foldl_cons, List.foldl_nil, List.setIfInBounds_toArray, List.set_cons_succ, List.set_cons_zero, List.drop_succ_cons, List.drop_zero]
    rw [show gv 25 = .bool false from hV 7 25 (by kernel_rfl)]
    clear hV
    refine wpList_nil ?_
    have HRw := Lib.hid ((HR1.out.kept k2).kept k3)
    have HLw := Lib.hid (range_kept HL2.out k3)
    have HCw := Lib.hid (range_kept HC2.out k3)
    have HBw := Lib.hid ((HB1.out.kept k2).kept k3)
    have kww := (kw1.trans k2).trans k3
    clear HR1 HL1 HC1 HB1 HL2 HC2 kw1 k2 k3
    have HF := Lib.hid hF
    clear hF
    obtain ⟨b, hb⟩ : ∃ b, L.right = b := ⟨_, rfl⟩
    obtain ⟨V, hV⟩ : ∃ V, chk B L c i = V := ⟨_, rfl⟩
    have H1 := Lib.hid hb
    have H2 := Lib.hid hV
    clear hb hV
    go_upto_region 6 with fail
    refine wp_free 21 [.eq (L.v), .eq (.bool b), .eq (L.v), .eq (.bool b), .eq (.bool true), .eq (.bool true), .eq (.pointer (some ⟨g, 0, none⟩)), .eq (L.v), .eq (c.v), .eq (.int .i64 i), .eq (.int .i64 V), .eq (.pointer (some ⟨r, 0, none⟩)), .eq (c.v), .eq (.int .i64 i), .eq (.int .i64 V), .eq (.bool true), .eq (.bool true), .eq (.bool true), .eq (.bool true), .eq (.bool true), .eq (.bool true)] (by kernel_rfl) rfl (by kernel_rfl) ?_ ?_
    · refine sv 1 rfl rfl rfl (fun a u hE hD hk => exec_ldS 25 _ (.tmp 5) (g5) (0) (L.cells) rfl (hE 5 (.pointer (some ⟨g5, 0, none⟩)) (by kernel_rfl) (by kernel_rfl)) (range_kept HLw.out hk) Try.underlying25 (by rw [L.len4l]; exact szLim)) ?_
      refine fsteps_cons 2 rfl (fun a u hE hD hk => f_call (o := ⟨some 34, _, _, _, _, _⟩) 12 #[L.v] rfl (wanted_none rfl _) (exec_call 12 _ [.tmp 33] _ [L.v] Try.func12 (by kernel_rfl) (by kernel_rfl) rfl (show [a.eval (.tmp 33)] = [L.v] from (by rw [show a.eval (.tmp 33) = L.v from (hD 0 33 (by kernel_rfl))] <;> rfl)) u) (by rw [← H1.out]; exact lright_any L u)) ?_
      refine sv 3 rfl rfl rfl (fun a u hE hD hk => exec_ldS 25 _ (.tmp 5) (g5) (0) (L.cells) rfl (hE 5 (.pointer (some ⟨g5, 0, none⟩)) (by kernel_rfl) (by kernel_rfl)) (range_kept HLw.out hk) Try.underlying25 (by rw [L.len4l]; exact szLim)) ?_
      refine fsteps_cons 4 rfl (fun a u hE hD hk => f_call (o := ⟨some 36, _, _, _, _, _⟩) 14 #[L.v] rfl (wanted_none rfl _) (exec_call 14 _ [.tmp 35] _ [L.v] Try.func14 (by kernel_rfl) (by kernel_rfl) rfl (show [a.eval (.tmp 35)] = [L.v] from (by rw [show a.eval (.tmp 35) = L.v from (hD 2 35 (by kernel_rfl))] <;> rfl)) u) (by rw [← H1.out]; exact rlright_any L u)) ?_
      refine sv 5 rfl rfl rfl (fun a u hE hD hk => exec_eqb (.tmp 34) (.tmp 36) _ b b true rfl (hD 1 34 (by kernel_rfl)) (hD 3 36 (by kernel_rfl)) (by simp)) ?_
      refine sv 6 rfl rfl rfl (fun a u hE hD hk => exec_move (.tmp 37) _ rfl (hD 4 37 (by kernel_rfl))) ?_
      refine fsteps_cons 7 rfl (fun a u hE hD hk => f_val (o := ⟨some 39, _, _, _, _, _⟩) (.pointer (some ⟨g, 0, none⟩)) rfl (wanted_at (b := true) true rfl rfl (hD 5 38 (by kernel_rfl))) (exec_move (.tmp 9) _ rfl (hE 9 (.pointer (some ⟨g, 0, none⟩)) (by kernel_rfl) (by kernel_rfl))) rfl) ?_
      refine fsteps_cons 8 rfl (fun a u hE hD hk => f_val (o := ⟨some 40, _, _, _, _, _⟩) (L.v) rfl (wanted_at (b := true) true rfl rfl (hD 5 38 (by kernel_rfl))) (exec_ldS 25 _ (.tmp 5) (g5) (0) (L.cells) rfl (hE 5 (.pointer (some ⟨g5, 0, none⟩)) (by kernel_rfl) (by kernel_rfl)) (range_kept HLw.out hk) Try.underlying25 (by rw [L.len4l]; exact szLim)) rfl) ?_
      refine fsteps_cons 9 rfl (fun a u hE hD hk => f_val (o := ⟨some 41, _, _, _, _, _⟩) (c.v) rfl (wanted_at (b := true) true rfl rfl (hD 5 38 (by kernel_rfl))) (exec_ldS 29 _ (.tmp 6) (g6) (0) (c.cells) rfl (hE 6 (.pointer (some ⟨g6, 0, none⟩)) (by kernel_rfl) (by kernel_rfl)) (range_kept HCw.out hk) Try.underlying29 (by rw [c.len9]; exact ord_size)) rfl) ?_
      refine fsteps_cons 10 rfl (fun a u hE hD hk => f_val (o := ⟨some 42, _, _, _, _, _⟩) (.int .i64 i) rfl (wanted_at (b := true) true rfl rfl (hD 5 38 (by kernel_rfl))) (exec_move (.tmp 3) _ rfl (hE 3 (.int .i64 i) (by kernel_rfl) (by kernel_rfl))) rfl) ?_
      refine fsteps_cons 11 rfl (fun a u hE hD hk => f_call (o := ⟨some 43, _, _, _, _, _⟩) 10 #[.pointer (some ⟨g, 0, none⟩), L.v, c.v, .int .i64 i] rfl (wanted_at (b := true) true rfl rfl (hD 5 38 (by kernel_rfl))) (exec_call 10 _ [.tmp 39, .tmp 40, .tmp 41, .tmp 42] _ [.pointer (some ⟨g, 0, none⟩), L.v, c.v, .int .i64 i] Try.func10 (by kernel_rfl) (by kernel_rfl) rfl (show [a.eval (.tmp 39), a.eval (.tmp 40), a.eval (.tmp 41), a.eval (.tmp 42)] = [.pointer (some ⟨g, 0, none⟩), L.v, c.v, .int .i64 i] from (by rw [show a.eval (.tmp 39) = .pointer (some ⟨g, 0, none⟩) from (hD 6 39 (by kernel_rfl)), show a.eval (.tmp 40) = L.v from (hD 7 40 (by kernel_rfl)), show a.eval (.tmp 41) = c.v from (hD 8 41 (by kernel_rfl)), show a.eval (.tmp 42) = .int .i64 i from (hD 9 42 (by kernel_rfl))] <;> rfl)) u) (check_at (HBw.out.kept hk) HI.out H2.out)) ?_
      refine fsteps_cons 12 rfl (fun a u hE hD hk => f_val (o := ⟨some 44, _, _, _, _, _⟩) (.pointer (some ⟨r, 0, none⟩)) rfl (wanted_at (b := true) true rfl rfl (hD 5 38 (by kernel_rfl))) (exec_move (.tmp 10) _ rfl (hE 10 (.pointer (some ⟨r, 0, none⟩)) (by kernel_rfl) (by kernel_rfl))) rfl) ?_
      refine fsteps_cons 13 rfl (fun a u hE hD hk => f_val (o := ⟨some 45, _, _, _, _, _⟩) (c.v) rfl (wanted_at (b := true) true rfl rfl (hD 5 38 (by kernel_rfl))) (exec_ldS 29 _ (.tmp 6) (g6) (0) (c.cells) rfl (hE 6 (.pointer (some ⟨g6, 0, none⟩)) (by kernel_rfl) (by kernel_rfl)) (range_kept HCw.out hk) Try.underlying29 (by rw [c.len9]; exact ord_size)) rfl) ?_
      refine fsteps_cons 14 rfl (fun a u hE hD hk => f_val (o := ⟨some 46, _, _, _, _, _⟩) (.int .i64 i) rfl (wanted_at (b := true) true rfl rfl (hD 5 38 (by kernel_rfl))) (exec_move (.tmp 3) _ rfl (hE 3 (.int .i64 i) (by kernel_rfl) (by kernel_rfl))) rfl) ?_
      refine fsteps_cons 15 rfl (fun a u hE hD hk => f_call (o := ⟨some 47, _, _, _, _, _⟩) 15 #[.pointer (some ⟨r, 0, none⟩), c.v, .int .i64 i] rfl (wanted_at (b := true) true rfl rfl (hD 5 38 (by kernel_rfl))) (exec_call 15 _ [.tmp 44, .tmp 45, .tmp 46] _ [.pointer (some ⟨r, 0, none⟩), c.v, .int .i64 i] Try.func15 (by kernel_rfl) (by kernel_rfl) rfl (show [a.eval (.tmp 44), a.eval (.tmp 45), a.eval (.tmp 46)] = [.pointer (some ⟨r, 0, none⟩), c.v, .int .i64 i] from (by rw [show a.eval (.tmp 44) = .pointer (some ⟨r, 0, none⟩) from (hD 11 44 (by kernel_rfl)), show a.eval (.tmp 45) = c.v from (hD 12 45 (by kernel_rfl)), show a.eval (.tmp 46) = .int .i64 i from (hD 13 46 (by kernel_rfl))] <;> rfl)) u) (by rw [← H2.out]; exact rcheck_any r B F HI.out L c i u (HRw.out.kept hk) HF.out)) ?_
      refine fsteps_cons 16 rfl (fun a u hE hD hk => f_as (show ((decide ((V : Int) = (V : Int))) : Bool) = true from decide_eq_true rfl) (f_val (o := ⟨some 48, _, _, _, _, _⟩) (.bool (decide ((V : Int) = (V : Int)))) rfl (wanted_at (b := true) true rfl rfl (hD 5 38 (by kernel_rfl))) (exec_eqn (p := V) (q := V) rfl (hD 10 43 (by kernel_rfl)) (hD 14 47 (by kernel_rfl))) rfl)) ?_
      refine sv 17 rfl rfl rfl (fun a u hE hD hk => exec_pick (.tmp 38) (.tmp 48) (.const (.bool false)) (.bool true) rfl (hD 5 38 (by kernel_rfl)) (hD 15 48 (by kernel_rfl))) ?_
      refine sv 18 rfl rfl rfl (fun a u hE hD hk => exec_move (.tmp 49) _ rfl (hD 16 49 (by kernel_rfl))) ?_
      refine fsteps_cons 19 rfl (fun a u hE hD hk => f_call (o := ⟨some 51, _, _, _, _, _⟩) 3 #[] rfl (wanted_at (b := true) true rfl rfl (hD 17 50 (by kernel_rfl))) (exec_call 3 _ [] _ [] Try.func3 (by kernel_rfl) (by kernel_rfl) rfl rfl u) (riskRuns_is u)) ?_
      refine sv 20 rfl rfl rfl (fun a u hE hD hk => exec_pick (.tmp 50) (.tmp 51) (.const (.bool false)) (.bool true) rfl (hD 17 50 (by kernel_rfl)) (hD 18 51 (by kernel_rfl))) ?_
      refine sv 21 rfl rfl rfl (fun a u hE hD hk => exec_assign (.tmp 52) _ rfl (hD 19 52 (by kernel_rfl))) ?_
      exact fsteps_nil
    intro gv wz hV kz
    rw [show dstsOf _ 21 = [33, 34, 35, 36, 37, 38, 39, 40, 41, 42, 43, 44, 45, 46, 47, 48, 49, 50, 51, 52, 8] by kernel_rfl]
    simp only [List.foldl_cons, List.foldl_nil, List.setIfInBounds_toArray, List.set_cons_succ, List.set_cons_zero, List.drop_succ_cons, List.drop_zero]
    rw [show gv 8 = .bool true from hV 20 8 (by kernel_rfl)]
    clear hV
    refine wpList_nil ?_
    have kwz := kww.trans kz
    go_wp2
    go_ret
    exact ⟨rfl, kwz⟩
end Go.Proofs.Ytgajdkelpaaadaa
