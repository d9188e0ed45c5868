/-
  The contract of jobberlaw13.TreeOff: who is off stays where it is; it is back as it was; nobody else changes; it answers true. No condition.
-/
import Derived.Test.YtgodehggiddndaaSets13
namespace Go.Proofs.Ytgodehggiddndaa
open Go.RowKit
set_option linter.unusedVariables false
set_option maxRecDepth 100000

theorem offM_same (X : Trds) (n : Int) (b : Bool) (i : Nat) : ((X.offM n b).at_ i).firm = (X.at_ i).firm ∧ ((X.offM n b).at_ i).desk = (X.at_ i).desk ∧ ((X.offM n b).at_ i).roles = (X.at_ i).roles := by
  cases ht : X.there n with
  | false => rw [offM_out ht]; exact ⟨rfl, rfl, rfl⟩
  | true =>
    obtain ⟨j, hj, rfl⟩ := there_lt ht
    rw [offM_in ht, Trds.at_put _ _ _ _ hj]
    split
    · rename_i h
      subst h
      exact ⟨rfl, rfl, rfl⟩
    · exact ⟨rfl, rfl, rfl⟩
theorem there_offM (X : Trds) (n : Int) (b : Bool) (z : Int) : (X.offM n b).there z = X.there z := by
  unfold Trds.there
  rw [(offM_same X n b z.toNat).2.2]
theorem setP_offM (X : Trds) (n : Int) (b : Bool) (k : Nat) (A : Trd → Trd → Bool) (hA : ∀ x y x' y' : Trd, x.firm = x'.firm → x.desk = x'.desk → y.firm = y'.firm → y.desk = y'.desk → A x y = A x' y') : setP (X.offM n b) A k = setP X A k := by
  funext i
  unfold setP
  rw [there_offM, hA _ _ _ _ (offM_same X n b i).1 (offM_same X n b i).2.1 (offM_same X n b k).1 (offM_same X n b k).2.1]
theorem setB_offM (X : Trds) (n : Int) (b : Bool) (z s : Int) : (X.offM n b).setB z s = X.setB z s := by
  unfold Trds.setB
  rw [there_offM, setP_offM X n b _ deskB (fun x y x' y' h1 h2 h3 h4 => by unfold deskB; rw [h1, h2, h3, h4]), setP_offM X n b _ firmB (fun x y x' y' h1 _ h3 _ => by unfold firmB; rw [h1, h3])]
/-- one that may stand is there, or none -/
theorem get_own {X : Trds} (h : ∀ i, i < 32 → (X.at_ i).bad = false) {i : Nat} (hi : i < 32) : X.get (i : Int) = X.at_ i := by
  cases ht : X.there (i : Int) with
  | true => exact get_in ht
  | false =>
    rw [get_out ht]
    rw [there_in hi] at ht
    have hb := h i hi
    unfold Trd.bad Trd.may at hb
    rw [ht, Bool.and_false] at hb
    simp at hb
    exact hb.symm
theorem get_other {X : Trds} {n i : Nat} {b : Bool} (hi : i < 32) (hn : n < 32) (h : i ≠ n) : (X.offM (n : Int) b).get (i : Int) = X.get (i : Int) := by
  unfold Trds.get
  rw [there_offM]
  cases ht : X.there (n : Int) with
  | false => rw [offM_out ht]
  | true => rw [offM_in ht, Int.toNat_natCast, Trds.at_put _ _ _ _ hn, if_neg (show ¬ n = i from fun e => h e.symm)]
theorem get_off {X : Trds} {n : Nat} {b : Bool} (hn : n < 32) (ht : X.there (n : Int) = true) : (X.offM (n : Int) b).get (n : Int) = { X.at_ n with off := b } := by
  rw [get_in (by rw [there_offM]; exact ht), offM_in ht, Trds.at_put _ _ _ _ hn, if_pos rfl]
theorem get_back {X : Trds} {n : Nat} (hn : n < 32) : ((X.offM (n : Int) true).offM (n : Int) (X.get (n : Int)).off).get (n : Int) = X.get (n : Int) := by
  cases ht : X.there (n : Int) with
  | false => rw [get_out ht, get_out (by rw [there_offM, there_offM]; exact ht)]
  | true =>
    have h1 : (X.offM (n : Int) true).there (n : Int) = true := by rw [there_offM]; exact ht
    rw [get_off hn h1, get_in ht, offM_in ht, Trds.at_put _ _ _ _ hn, if_pos rfl]
set_option maxRecDepth 100000 in
set_option maxHeartbeats 3200000 in
theorem treeOff_any (v : Value) (l : List Aq) (n : Int) (w : World) (hl : Aqs w v l) : Calls Try.prog 6 #[v, .int .i64 n] w fun e w' => e = .returned (.bool true) ∧ Kept w w' := by
  have HXB := Lib.hid (some_ok (l.take 40))
  have HGd := Lib.hid (some_good (l.take 40))
  have HX : Hid (∀ u, Kept w u → Gives 10 #[v, .int .i64 (-1), zeroT.v] u (.eq (someL (l.take 40)).v)) := fun u hk => by rw [← someM_none l zeroT]; exact some_any u v l (-1) zeroT (hl.kept hk)
  generalize someL (l.take 40) = X at HXB HGd HX
  obtain ⟨k, ha⟩ : ∃ k : Nat, wi n 0 31 = (k : Int) := ⟨(wi n 0 31).toNat, by have := wi_in n 0 31 (by omega); omega⟩
  have hk32 : k < 32 := by have := wi_in n 0 31 (by omega); omega
  have HWk : Hid (∀ u, Gives 20 #[.int .i64 n, .int .i64 0, .int .i64 31] u (.eq (.int .i64 (k : Int)))) := fun u => by rw [← ha]; exact within_is n 0 31 u (by omega) (by omega) (by omega)
  clear hl ha
  obtain ⟨V2, h2⟩ : ∃ V : Nat, X.setB (k : Int) 2 = V := ⟨_, rfl⟩
  obtain ⟨V3, h3⟩ : ∃ V : Nat, X.setB (k : Int) 3 = V := ⟨_, rfl⟩
  obtain ⟨tk, ht⟩ : ∃ t : Trd, X.get (k : Int) = t := ⟨_, rfl⟩
  obtain ⟨bk, hbk⟩ : ∃ b : Bool, X.there (k : Int) = b := ⟨_, rfl⟩
  have HV2 := Lib.hid h2
  have HV3 := Lib.hid h3
  have HTk := Lib.hid ht
  have HBk := Lib.hid hbk
  clear h2 h3 ht hbk
  go_enter Try.func6, Try.ntmps6
  go_upto_region 1 with fail
  refine wp_text 3 [.eq (v), .eq (zeroT.v), .eq (X.v)] rfl (by kernel_rfl) ?_ ?_
  · refine sv 1 rfl rfl rfl (fun a u hE hD hk => exec_move (.tmp 0) _ rfl (hE 0 (v) (by kernel_rfl) (by kernel_rfl))) ?_
    refine sv 2 rfl rfl rfl (fun a u hE hD hk => exec_build 25 [] zeroT.cells rfl (by kernel_rfl)) ?_
    refine fsteps_cons 3 rfl (fun a u hE hD hk => f_call (o := ⟨some 16, _, _, _, _, _⟩) 10 #[v, .int .i64 (-1), zeroT.v] rfl (wanted_none rfl _) (exec_call 10 _ [.tmp 14, .const (.int .i64 (-1)), .tmp 15] _ [v, .int .i64 (-1), zeroT.v] Try.func10 (by kernel_rfl) (by kernel_rfl) rfl (show [a.eval (.tmp 14), a.eval (.const (.int .i64 (-1))), a.eval (.tmp 15)] = [v, .int .i64 (-1), zeroT.v] from (by rw [show a.eval (.tmp 14) = v from (hD 0 14 (by kernel_rfl)), show a.eval (.tmp 15) = zeroT.v from (hD 1 15 (by kernel_rfl))] <;> rfl)) u) (HX.out u hk)) ?_
    exact fsteps_nil
  intro gv wa hV ka
  rw [show dstsOf _ 3 = [14, 15, 16] by kernel_rfl]
  simp only [List.foldl_cons, List.foldl_nil, List.setIfInBounds_toArray, List.set_cons_succ, List.set_cons_zero, List.drop_succ_cons, List.drop_zero]
  rw [show gv 16 = X.v from hV 2 16 (by kernel_rfl)]
  clear hV
  refine l_new (o := ⟨some 5, _, _, _, _, _⟩) (.pointer (some ⟨wa.heap.size, 0, none⟩)) (wa.alloc (.cells zeroX.cells.toArray 26)) rfl (exec_alc 26 zeroX.cells rfl zX) ?_
  have hNa := Blk.new wa 26 zeroX.cells
  have kb : Kept wa (wa.alloc (.cells zeroX.cells.toArray 26)) := (Keep.refl _ wa).alloc _
  generalize wa.alloc (.cells zeroX.cells.toArray 26) = wb at hNa kb ⊢
  simp only [Act.put, List.setIfInBounds_toArray, List.set_cons_succ, List.set_cons_zero]
  refine l_setS (o := ⟨none, _, _, _, _, _⟩) 26 wa.heap.size 26 zeroX.cells X.cells (.tmp 5) (.tmp 16) rfl rfl (by kernel_rfl) (by kernel_rfl) hNa (by rw [Trds.len]; exact szX) (by rw [Trds.len, Trds.len]) (Trds.one _) ?_
  intro w0 hC hkc hsc
  simp only [Act.put]
  refine wpList_nil ?_
  obtain ⟨gl, hgl⟩ : ∃ a, wa.heap.size = a := ⟨_, rfl⟩
  rw [hgl] at hNa hC hkc ⊢
  have HLw0 := Lib.hid hC
  have zka := ka.size
  have kw0 : Kept w w0 := (ka.trans kb).trans' hkc (by omega)
  have zl := hC.lt
  clear hNa hC hkc hsc kb ka
  clear HX
  go_upto_region 2 with fail
  refine wp_text 1 [.eq (X.v)] rfl (by kernel_rfl) ?_ ?_
  · refine sv 1 rfl rfl rfl (fun a u hE hD hk => exec_ldX X (.tmp 5) (gl) _ rfl (hE 5 (.pointer (some ⟨gl, 0, none⟩)) (by kernel_rfl) (by kernel_rfl)) (HLw0.out.kept hk)) ?_
    exact fsteps_nil
  intro gv wa0 hV ka0
  rw [show dstsOf _ 1 = [18] by kernel_rfl]
  simp only [List.foldl_cons, List.foldl_nil, List.setIfInBounds_toArray, List.set_cons_succ, List.set_cons_zero, List.drop_succ_cons, List.drop_zero]
  rw [show gv 18 = X.v from hV 0 18 (by kernel_rfl)]
  clear hV
  refine l_call (o := ⟨some 19, _, _, _, _, _⟩) 8 #[X.v] rfl (exec_call 8 _ [.tmp 18] _ _ Try.func8 (by kernel_rfl) (by kernel_rfl) rfl (by kernel_rfl) _) ?_
  refine (new_ok HXB.out).mono ?_
  rintro e w1 ⟨p, rfl, hp, hP1, k1⟩
  refine ⟨_, rfl, ?_⟩
  simp only [Act.put, List.setIfInBounds_toArray, List.set_cons_succ, List.set_cons_zero]
  refine l_val (o := ⟨some 17, _, _, _, _, _⟩) (.tuple #[.pointer (some ⟨p, 0, none⟩), .int .i64 (-1)]) rfl (exec_move (.tmp 19) (.tuple #[.pointer (some ⟨p, 0, none⟩), .int .i64 (-1)]) rfl (by kernel_rfl)) ?_
  simp only [Act.put, List.setIfInBounds_toArray, List.set_cons_succ, List.set_cons_zero]
  refine l_val (o := ⟨some 20, _, _, _, _, _⟩) (.pointer (some ⟨p, 0, none⟩)) rfl (exec_extract (.tmp 17) [.pointer (some ⟨p, 0, none⟩), .int .i64 (-1)] 0 (.pointer (some ⟨p, 0, none⟩)) rfl (by kernel_rfl) rfl) ?_
  simp only [Act.put, List.setIfInBounds_toArray, List.set_cons_succ, List.set_cons_zero]
  refine l_val (o := ⟨some 21, _, _, _, _, _⟩) (.int .i64 (-1)) rfl (exec_extract (.tmp 17) [.pointer (some ⟨p, 0, none⟩), .int .i64 (-1)] 1 (.int .i64 (-1)) rfl (by kernel_rfl) rfl) ?_
  simp only [Act.put, List.setIfInBounds_toArray, List.set_cons_succ, List.set_cons_zero]
  refine l_val (o := ⟨some 6, _, _, _, _, _⟩) (.pointer (some ⟨p, 0, none⟩)) rfl (exec_assign (.tmp 20) (.pointer (some ⟨p, 0, none⟩)) rfl (by kernel_rfl)) ?_
  simp only [Act.put, List.setIfInBounds_toArray, List.set_cons_succ, List.set_cons_zero]
  refine l_val (o := ⟨some 7, _, _, _, _, _⟩) (.int .i64 (-1)) rfl (exec_assign (.tmp 21) (.int .i64 (-1)) rfl (by kernel_rfl)) ?_
  simp only [Act.put, List.setIfInBounds_toArray, List.set_cons_succ, List.set_cons_zero]
  refine wpList_nil ?_
  have HP1 := Lib.hid hP1
  have HL1 := Lib.hid ((HLw0.out.kept ka0).kept k1)
  have kw1 := (kw0.trans ka0).trans k1
  have zp : gl < p := by have := ka0.size; omega
  have zw : ¬ p < w.heap.size := by have := (kw0.trans ka0).size; omega
  clear hP1 ka0 k1 kw0 HLw0 HXB hp zl zka hgl
  go_upto_region 3 with fail
  refine wp_text 6 [.eq (.pointer (some ⟨p, 0, none⟩)), .eq (.bool false), .eq (.bool false), .eq (.int .i64 (-1)), .eq (.bool false), .eq (.bool false)] rfl (by kernel_rfl) ?_ ?_
  · refine sv 1 rfl rfl rfl (fun a u hE hD hk => exec_move (.tmp 6) _ rfl (hE 6 (.pointer (some ⟨p, 0, none⟩)) (by kernel_rfl) (by kernel_rfl))) ?_
    refine sv 2 rfl rfl rfl (fun a u hE hD hk => exec_eqP (.tmp 22) _ _ ⟨p, 0, none⟩ (by kernel_rfl) rfl (hD 0 22 (by kernel_rfl))) ?_
    refine sv 3 rfl rfl rfl (fun a u hE hD hk => exec_move (.tmp 23) _ rfl (hD 1 23 (by kernel_rfl))) ?_
    refine fsteps_cons 4 rfl (fun a u hE hD hk => f_val (o := ⟨some 25, _, _, _, _, _⟩) (.int .i64 (-1)) rfl (wanted_at (b := false) false rfl rfl (hD 2 24 (by kernel_rfl))) (exec_move (.tmp 7) _ rfl (hE 7 (.int .i64 (-1)) (by kernel_rfl) (by kernel_rfl))) rfl) ?_
    refine fsteps_cons 5 rfl (fun a u hE hD hk => f_as (show ((decide (((-1) : Int) ≠ ((-1) : Int))) : Bool) = false from decide_eq_false (by simp)) (f_val (o := ⟨some 26, _, _, _, _, _⟩) (.bool (decide (((-1) : Int) ≠ ((-1) : Int)))) rfl (wanted_at (b := false) false rfl rfl (hD 2 24 (by kernel_rfl))) (exec_nen (p := (-1)) (q := (-1)) rfl (hD 3 25 (by kernel_rfl)) rfl) rfl)) ?_
    refine sv 6 rfl rfl rfl (fun a u hE hD hk => exec_pickF (.tmp 24) (.const (.bool true)) (.tmp 26) (.bool false) rfl (hD 2 24 (by kernel_rfl)) (hD 4 26 (by kernel_rfl))) ?_
    exact fsteps_nil
  intro gv w2 hV k2
  rw [show dstsOf _ 6 = [22, 23, 24, 25, 26, 27] by kernel_rfl]
  simp only [List.foldl_cons, List.foldl_nil, List.setIfInBounds_toArray, List.set_cons_succ, List.set_cons_zero, List.drop_succ_cons, List.drop_zero]
  rw [show gv 27 = .bool false from hV 5 27 (by kernel_rfl)]
  clear hV
  refine wpList_nil ?_
  go_upto_region 5 with fail
  refine wp_text 2 [.eq (.int .i64 n), .eq (.int .i64 (k : Int))] rfl (by kernel_rfl) ?_ ?_
  · refine sv 1 rfl rfl rfl (fun a u hE hD hk => exec_move (.tmp 1) _ rfl (hE 1 (.int .i64 n) (by kernel_rfl) (by kernel_rfl))) ?_
    refine fsteps_cons 2 rfl (fun a u hE hD hk => f_call (o := ⟨some 29, _, _, _, _, _⟩) 20 #[.int .i64 n, .int .i64 0, .int .i64 31] rfl (wanted_none rfl _) (exec_call 20 _ [.tmp 28, .const (.int .i64 0), .const (.int .i64 31)] _ [.int .i64 n, .int .i64 0, .int .i64 31] Try.func20 (by kernel_rfl) (by kernel_rfl) rfl (show [a.eval (.tmp 28), a.eval (.const (.int .i64 0)), a.eval (.const (.int .i64 31))] = [.int .i64 n, .int .i64 0, .int .i64 31] from (by rw [show a.eval (.tmp 28) = .int .i64 n from (hD 0 28 (by kernel_rfl))] <;> rfl)) u) (HWk.out u)) ?_
    exact fsteps_nil
  intro gv w3 hV k3
  rw [show dstsOf _ 2 = [28, 29] by kernel_rfl]
  simp only [List.foldl_cons, List.foldl_nil, List.setIfInBounds_toArray, List.set_cons_succ, List.set_cons_zero, List.drop_succ_cons, List.drop_zero]
  rw [show gv 29 = .int .i64 (k : Int) from hV 1 29 (by kernel_rfl)]
  clear hV
  refine l_val (o := ⟨some 8, _, _, _, _, _⟩) (.int .i64 (k : Int)) rfl (exec_assign (.tmp 29) (.int .i64 (k : Int)) rfl (by kernel_rfl)) ?_
  simp only [Act.put, List.setIfInBounds_toArray, List.set_cons_succ, List.set_cons_zero]
  refine wpList_nil ?_
  have HP3 := Lib.hid ((HP1.out.kept k2).kept k3)
  have HL3 := Lib.hid ((HL1.out.kept k2).kept k3)
  have kw3 := (kw1.trans k2).trans k3
  clear HP1 HL1 kw1 k2 k3 HWk
  go_upto_region 6 with fail
  refine wp_text 6 [.eq (.pointer (some ⟨p, 0, none⟩)), .eq (.int .i64 (k : Int)), .eq (.int .u64 (V2 : Int)), .eq (.pointer (some ⟨p, 0, none⟩)), .eq (.int .i64 (k : Int)), .eq (.int .u64 (V3 : Int))] rfl (by kernel_rfl) ?_ ?_
  · refine sv 1 rfl rfl rfl (fun a u hE hD hk => exec_move (.tmp 6) _ rfl (hE 6 (.pointer (some ⟨p, 0, none⟩)) (by kernel_rfl) (by kernel_rfl))) ?_
    refine sv 2 rfl rfl rfl (fun a u hE hD hk => exec_move (.tmp 8) _ rfl (hE 8 (.int .i64 (k : Int)) (by kernel_rfl) (by kernel_rfl))) ?_
    refine fsteps_cons 3 rfl (fun a u hE hD hk => f_call (o := ⟨some 32, _, _, _, _, _⟩) 9 #[.pointer (some ⟨p, 0, none⟩), .int .i64 (k : Int), .int .i64 2] rfl (wanted_none rfl _) (exec_call 9 _ [.tmp 30, .tmp 31, .const (.int .i64 2)] _ [.pointer (some ⟨p, 0, none⟩), .int .i64 (k : Int), .int .i64 2] Try.func9 (by kernel_rfl) (by kernel_rfl) rfl (show [a.eval (.tmp 30), a.eval (.tmp 31), a.eval (.const (.int .i64 2))] = [.pointer (some ⟨p, 0, none⟩), .int .i64 (k : Int), .int .i64 2] from (by rw [show a.eval (.tmp 30) = .pointer (some ⟨p, 0, none⟩) from (hD 0 30 (by kernel_rfl)), show a.eval (.tmp 31) = .int .i64 (k : Int) from (hD 1 31 (by kernel_rfl))] <;> rfl)) u) (set_is (HP3.out.kept hk) HV2.out)) ?_
    refine sv 4 rfl rfl rfl (fun a u hE hD hk => exec_move (.tmp 6) _ rfl (hE 6 (.pointer (some ⟨p, 0, none⟩)) (by kernel_rfl) (by kernel_rfl))) ?_
    refine sv 5 rfl rfl rfl (fun a u hE hD hk => exec_move (.tmp 8) _ rfl (hE 8 (.int .i64 (k : Int)) (by kernel_rfl) (by kernel_rfl))) ?_
    refine fsteps_cons 6 rfl (fun a u hE hD hk => f_call (o := ⟨some 35, _, _, _, _, _⟩) 9 #[.pointer (some ⟨p, 0, none⟩), .int .i64 (k : Int), .int .i64 3] rfl (wanted_none rfl _) (exec_call 9 _ [.tmp 33, .tmp 34, .const (.int .i64 3)] _ [.pointer (some ⟨p, 0, none⟩), .int .i64 (k : Int), .int .i64 3] Try.func9 (by kernel_rfl) (by kernel_rfl) rfl (show [a.eval (.tmp 33), a.eval (.tmp 34), a.eval (.const (.int .i64 3))] = [.pointer (some ⟨p, 0, none⟩), .int .i64 (k : Int), .int .i64 3] from (by rw [show a.eval (.tmp 33) = .pointer (some ⟨p, 0, none⟩) from (hD 3 33 (by kernel_rfl)), show a.eval (.tmp 34) = .int .i64 (k : Int) from (hD 4 34 (by kernel_rfl))] <;> rfl)) u) (set_is (HP3.out.kept hk) HV3.out)) ?_
    exact fsteps_nil
  intro gv w4 hV k4
  rw [show dstsOf _ 6 = [30, 31, 32, 33, 34, 35] by kernel_rfl]
  simp only [List.foldl_cons, List.foldl_nil, List.setIfInBounds_toArray, List.set_cons_succ, List.set_cons_zero, List.drop_succ_cons, List.drop_zero]
  rw [show gv 32 = .int .u64 (V2 : Int) from hV 2 32 (by kernel_rfl)]
  rw [show gv 35 = .int .u64 (V3 : Int) from hV 5 35 (by kernel_rfl)]
  clear hV
  refine l_val (o := ⟨some 9, _, _, _, _, _⟩) (.int .u64 (V2 : Int)) rfl (exec_assign (.tmp 32) (.int .u64 (V2 : Int)) rfl (by kernel_rfl)) ?_
  simp only [Act.put, List.setIfInBounds_toArray, List.set_cons_succ, List.set_cons_zero]
  refine l_val (o := ⟨some 10, _, _, _, _, _⟩) (.int .u64 (V3 : Int)) rfl (exec_assign (.tmp 35) (.int .u64 (V3 : Int)) rfl (by kernel_rfl)) ?_
  simp only [Act.put, List.setIfInBounds_toArray, List.set_cons_succ, List.set_cons_zero]
  refine wpList_nil ?_
  have HP4 := Lib.hid (HP3.out.kept k4)
  have HL4 := Lib.hid (HL3.out.kept k4)
  have kw4 := kw3.trans k4
  clear HP3 HL3 kw3 k4
  go_upto_region 7 with fail
  refine wp_text 3 [.eq (.pointer (some ⟨p, 0, none⟩)), .eq (.int .i64 (k : Int)), .eq (tk.v)] rfl (by kernel_rfl) ?_ ?_
  · refine sv 1 rfl rfl rfl (fun a u hE hD hk => exec_move (.tmp 6) _ rfl (hE 6 (.pointer (some ⟨p, 0, none⟩)) (by kernel_rfl) (by kernel_rfl))) ?_
    refine sv 2 rfl rfl rfl (fun a u hE hD hk => exec_move (.tmp 8) _ rfl (hE 8 (.int .i64 (k : Int)) (by kernel_rfl) (by kernel_rfl))) ?_
    refine fsteps_cons 3 rfl (fun a u hE hD hk => f_call (o := ⟨some 38, _, _, _, _, _⟩) 18 #[.pointer (some ⟨p, 0, none⟩), .int .i64 (k : Int)] rfl (wanted_none rfl _) (exec_call 18 _ [.tmp 36, .tmp 37] _ [.pointer (some ⟨p, 0, none⟩), .int .i64 (k : Int)] Try.func18 (by kernel_rfl) (by kernel_rfl) rfl (show [a.eval (.tmp 36), a.eval (.tmp 37)] = [.pointer (some ⟨p, 0, none⟩), .int .i64 (k : Int)] from (by rw [show a.eval (.tmp 36) = .pointer (some ⟨p, 0, none⟩) from (hD 0 36 (by kernel_rfl)), show a.eval (.tmp 37) = .int .i64 (k : Int) from (hD 1 37 (by kernel_rfl))] <;> rfl)) u) (get_is (HP4.out.kept hk) HTk.out)) ?_
    exact fsteps_nil
  intro gv wa hV ka
  rw [show dstsOf _ 3 = [36, 37, 38] by kernel_rfl]
  simp only [List.foldl_cons, List.foldl_nil, List.setIfInBounds_toArray, List.set_cons_succ, List.set_cons_zero, List.drop_succ_cons, List.drop_zero]
  rw [show gv 38 = tk.v from hV 2 38 (by kernel_rfl)]
  clear hV
  refine l_new (o := ⟨some 11, _, _, _, _, _⟩) (.pointer (some ⟨wa.heap.size, 0, none⟩)) (wa.alloc (.cells zeroT.cells.toArray 25)) rfl (exec_alc 25 zeroT.cells rfl zT) ?_
  have hNa := Blk.new wa 25 zeroT.cells
  have kb : Kept wa (wa.alloc (.cells zeroT.cells.toArray 25)) := (Keep.refl _ wa).alloc _
  generalize wa.alloc (.cells zeroT.cells.toArray 25) = wb at hNa kb ⊢
  simp only [Act.put, List.setIfInBounds_toArray, List.set_cons_succ, List.set_cons_zero]
  refine l_setS (o := ⟨none, _, _, _, _, _⟩) 25 wa.heap.size 25 zeroT.cells tk.cells (.tmp 11) (.tmp 38) rfl rfl (by kernel_rfl) (by kernel_rfl) hNa (by rw [Trd.len37]; exact szT) (by rw [Trd.len37, Trd.len37]) (Trd.one _) ?_
  intro w5 hC hkc hsc
  simp only [Act.put]
  refine wpList_nil ?_
  obtain ⟨gt, hgt⟩ : ∃ a, wa.heap.size = a := ⟨_, rfl⟩
  rw [hgt] at hNa hC hkc ⊢
  have HT5 := Lib.hid (blk_range hC)
  have zka := ka.size
  have zpt : p ≠ gt := by have := HP4.out.lt; omega
  have k45 : Kept w4 w5 := (ka.trans kb).trans' hkc (by omega)
  have HP5 := Lib.hid (HP4.out.kept k45)
  have HL5 := Lib.hid (HL4.out.kept k45)
  have kw5 := kw4.trans k45
  clear hNa hC hkc hsc kb ka zka k45 HP4 HL4 kw4 hgt
  obtain ⟨Y, hY⟩ : ∃ Y, X.offM (k : Int) true = Y := ⟨_, rfl⟩
  have HY := Lib.hid hY
  clear hY
  go_upto_region 8 with fail
  refine wp_region_lit ?_
  refine l_val (o := ⟨some 39, _, _, _, _, _⟩) (.pointer (some ⟨p, 0, none⟩)) rfl (exec_move (.tmp 6) (.pointer (some ⟨p, 0, none⟩)) rfl (by kernel_rfl)) ?_
  simp only [Act.put, List.setIfInBounds_toArray, List.set_cons_succ, List.set_cons_zero]
  refine l_val (o := ⟨some 40, _, _, _, _, _⟩) (.int .i64 (k : Int)) rfl (exec_move (.tmp 8) (.int .i64 (k : Int)) rfl (by kernel_rfl)) ?_
  simp only [Act.put, List.setIfInBounds_toArray, List.set_cons_succ, List.set_cons_zero]
  refine l_call (o := ⟨some 41, _, _, _, _, _⟩) 14 #[.pointer (some ⟨p, 0, none⟩), .int .i64 (k : Int), .bool true] rfl (exec_call 14 _ [.tmp 39, .tmp 40, .const (.bool true)] _ _ Try.func14 (by kernel_rfl) (by kernel_rfl) rfl (by kernel_rfl) _) ?_
  refine (off_any w5 p X (k : Int) true HP5.out).mono ?_
  rw [HBk.out, HY.out]
  rintro e w6 ⟨rfl, hP6, k6⟩
  refine ⟨_, rfl, ?_⟩
  simp only [Act.put, List.setIfInBounds_toArray, List.set_cons_succ, List.set_cons_zero]
  refine l_val (o := ⟨some 12, _, _, _, _, _⟩) (.bool bk) rfl (exec_assign (.tmp 41) (.bool bk) rfl (by kernel_rfl)) ?_
  simp only [Act.put, List.setIfInBounds_toArray, List.set_cons_succ, List.set_cons_zero]
  refine wpList_nil ?_
  have HP6 := Lib.hid hP6
  have HL6 := Lib.hid (HL5.out.keep k6 (by omega))
  have HT6 := Lib.hid (range_keep HT5.out k6 (by omega))
  have kw6 : Kept w w6 := kw5.trans' k6 zw
  clear hP6 HP5 HL5 HT5 kw5 k6
  have HYb : Hid (Y.there (k : Int) = bk) := by show _ = _; rw [← HY.out, there_offM, HBk.out]
  have HY2 : Hid (Y.setB (k : Int) 2 = V2) := by show _ = _; rw [← HY.out, setB_offM, HV2.out]
  have HY3 : Hid (Y.setB (k : Int) 3 = V3) := by show _ = _; rw [← HY.out, setB_offM, HV3.out]
  have HYo : Hid (∀ i : Nat, i < 32 → i ≠ k → Y.get (i : Int) = X.at_ i) := fun i hi hne => by rw [← HY.out, get_other hi hk32 hne, get_own HGd.out hi]
  have HYt : Hid (bk = true → ∃ t : Trd, Y.get (k : Int) = t ∧ t.off = true) := fun h => ⟨_, rfl, by rw [← HY.out, get_off hk32 (by rw [HBk.out, h])]⟩
  have HYz : Hid ((Y.offM (k : Int) tk.off).get (k : Int) = tk) := by show _ = _; rw [← HY.out, ← HTk.out]; exact get_back hk32
  have HYm : Hid ((Y.offM (k : Int) tk.off).there (-1) = false) := there_out (by omega)
  have HYn : Hid ((Y.offM (k : Int) tk.off).there 32 = false) := there_out (by omega)
  clear HY HV2 HV3 HTk HBk HGd
  cases bk with
  | false =>
    go_upto_region 9 with fail
    refine wp_text 29 [.eq (.bool false), .eq (.pointer (some ⟨p, 0, none⟩)), .eq (.int .i64 (k : Int)), .eq (.bool false), .eq (.bool false), .eq (.bool false), .eq (.bool false), .eq (.bool false), .eq undef, .eq undef, .eq undef, .eq undef, .eq undef, .eq (.bool false), .eq (.bool false), .eq (.bool false), .eq (.pointer (some ⟨p, 0, none⟩)), .eq (.int .i64 (k : Int)), .eq (.int .u64 (V2 : Int)), .eq (.int .u64 (V2 : Int)), .eq (.bool false), .eq (.bool false), .eq (.bool false), .eq (.pointer (some ⟨p, 0, none⟩)), .eq (.int .i64 (k : Int)), .eq (.int .u64 (V3 : Int)), .eq (.int .u64 (V3 : Int)), .eq (.bool false), .eq (.bool false)] rfl (by kernel_rfl) ?_ ?_
    · refine sv 1 rfl rfl rfl (fun a u hE hD hk => exec_move (.tmp 12) _ rfl (hE 12 (.bool false) (by kernel_rfl) (by kernel_rfl))) ?_
      refine sv 2 rfl rfl rfl (fun a u hE hD hk => exec_move (.tmp 6) _ rfl (hE 6 (.pointer (some ⟨p, 0, none⟩)) (by kernel_rfl) (by kernel_rfl))) ?_
      refine sv 3 rfl rfl rfl (fun a u hE hD hk => exec_move (.tmp 8) _ rfl (hE 8 (.int .i64 (k : Int)) (by kernel_rfl) (by kernel_rfl))) ?_
      refine fsteps_cons 4 rfl (fun a u hE hD hk => f_call (o := ⟨some 45, _, _, _, _, _⟩) 17 #[.pointer (some ⟨p, 0, none⟩), .int .i64 (k : Int)] rfl (wanted_none rfl _) (exec_call 17 _ [.tmp 43, .tmp 44] _ [.pointer (some ⟨p, 0, none⟩), .int .i64 (k : Int)] Try.func17 (by kernel_rfl) (by kernel_rfl) rfl (show [a.eval (.tmp 43), a.eval (.tmp 44)] = [.pointer (some ⟨p, 0, none⟩), .int .i64 (k : Int)] from (by rw [show a.eval (.tmp 43) = .pointer (some ⟨p, 0, none⟩) from (hD 1 43 (by kernel_rfl)), show a.eval (.tmp 44) = .int .i64 (k : Int) from (hD 2 44 (by kernel_rfl))] <;> rfl)) u) (there_is (HP6.out.kept hk) HYb.out)) ?_
      refine sv 5 rfl rfl rfl (fun a u hE hD hk => exec_neb (.tmp 42) (.tmp 45) _ false false false rfl (hD 0 42 (by kernel_rfl)) (hD 3 45 (by kernel_rfl)) rfl) ?_
      refine sv 6 rfl rfl rfl (fun a u hE hD hk => exec_move (.tmp 46) _ rfl (hD 4 46 (by kernel_rfl))) ?_
      refine fsteps_cons 7 rfl (fun a u hE hD hk => f_val (o := ⟨some 48, _, _, _, _, _⟩) (.bool false) rfl (wanted_at (b := false) false rfl rfl (hD 5 47 (by kernel_rfl))) (exec_move (.tmp 12) _ rfl (hE 12 (.bool false) (by kernel_rfl) (by kernel_rfl))) rfl) ?_
      refine fsteps_cons 8 rfl (fun a u hE hD hk => f_val (o := ⟨some 49, _, _, _, _, _⟩) (.bool false) rfl (wanted_at (b := false) false rfl rfl (hD 5 47 (by kernel_rfl))) (exec_move (.tmp 48) _ rfl (hD 6 48 (by kernel_rfl))) rfl) ?_
      refine fsteps_cons 9 rfl (fun a u hE hD hk => f_skip (o := ⟨some 50, _, _, _, _, _⟩) rfl (wanted_at (b := true) false rfl rfl (hD 7 49 (by kernel_rfl))) rfl) ?_
      refine fsteps_cons 10 rfl (fun a u hE hD hk => f_skip (o := ⟨some 51, _, _, _, _, _⟩) rfl (wanted_at (b := true) false rfl rfl (hD 7 49 (by kernel_rfl))) rfl) ?_
      refine fsteps_cons 11 rfl (fun a u hE hD hk => f_skip (o := ⟨some 52, _, _, _, _, _⟩) rfl (wanted_at (b := true) false rfl rfl (hD 7 49 (by kernel_rfl))) rfl) ?_
      refine fsteps_cons 12 rfl (fun a u hE hD hk => f_skip (o := ⟨some 53, _, _, _, _, _⟩) rfl (wanted_at (b := true) false rfl rfl (hD 7 49 (by kernel_rfl))) rfl) ?_
      refine fsteps_cons 13 rfl (fun a u hE hD hk => f_skip (o := ⟨some 54, _, _, _, _, _⟩) rfl (wanted_at (b := true) false rfl rfl (hD 7 49 (by kernel_rfl))) rfl) ?_
      refine fsteps_cons 14 rfl (fun a u hE hD hk => f_val (o := ⟨some 55, _, _, _, _, _⟩) (.bool false) rfl (wanted_at (b := false) false rfl rfl (hD 5 47 (by kernel_rfl))) (exec_pickF (.tmp 49) (.tmp 54) (.const (.bool false)) (.bool false) rfl (hD 7 49 (by kernel_rfl)) rfl) rfl) ?_
      refine sv 15 rfl rfl rfl (fun a u hE hD hk => exec_pickF (.tmp 47) (.const (.bool true)) (.tmp 55) (.bool false) rfl (hD 5 47 (by kernel_rfl)) (hD 13 55 (by kernel_rfl))) ?_
      refine sv 16 rfl rfl rfl (fun a u hE hD hk => exec_move (.tmp 56) _ rfl (hD 14 56 (by kernel_rfl))) ?_
      refine fsteps_cons 17 rfl (fun a u hE hD hk => f_val (o := ⟨some 58, _, _, _, _, _⟩) (.pointer (some ⟨p, 0, none⟩)) rfl (wanted_at (b := false) false rfl rfl (hD 15 57 (by kernel_rfl))) (exec_move (.tmp 6) _ rfl (hE 6 (.pointer (some ⟨p, 0, none⟩)) (by kernel_rfl) (by kernel_rfl))) rfl) ?_
      refine fsteps_cons 18 rfl (fun a u hE hD hk => f_val (o := ⟨some 59, _, _, _, _, _⟩) (.int .i64 (k : Int)) rfl (wanted_at (b := false) false rfl rfl (hD 15 57 (by kernel_rfl))) (exec_move (.tmp 8) _ rfl (hE 8 (.int .i64 (k : Int)) (by kernel_rfl) (by kernel_rfl))) rfl) ?_
      refine fsteps_cons 19 rfl (fun a u hE hD hk => f_call (o := ⟨some 60, _, _, _, _, _⟩) 9 #[.pointer (some ⟨p, 0, none⟩), .int .i64 (k : Int), .int .i64 2] rfl (wanted_at (b := false) false rfl rfl (hD 15 57 (by kernel_rfl))) (exec_call 9 _ [.tmp 58, .tmp 59, .const (.int .i64 2)] _ [.pointer (some ⟨p, 0, none⟩), .int .i64 (k : Int), .int .i64 2] Try.func9 (by kernel_rfl) (by kernel_rfl) rfl (show [a.eval (.tmp 58), a.eval (.tmp 59), a.eval (.const (.int .i64 2))] = [.pointer (some ⟨p, 0, none⟩), .int .i64 (k : Int), .int .i64 2] from (by rw [show a.eval (.tmp 58) = .pointer (some ⟨p, 0, none⟩) from (hD 16 58 (by kernel_rfl)), show a.eval (.tmp 59) = .int .i64 (k : Int) from (hD 17 59 (by kernel_rfl))] <;> rfl)) u) (set_is (HP6.out.kept hk) HY2.out)) ?_
      refine fsteps_cons 20 rfl (fun a u hE hD hk => f_val (o := ⟨some 61, _, _, _, _, _⟩) (.int .u64 (V2 : Int)) rfl (wanted_at (b := false) false rfl rfl (hD 15 57 (by kernel_rfl))) (exec_move (.tmp 9) _ rfl (hE 9 (.int .u64 (V2 : Int)) (by kernel_rfl) (by kernel_rfl))) rfl) ?_
      refine fsteps_cons 21 rfl (fun a u hE hD hk => f_val (o := ⟨some 62, _, _, _, _, _⟩) (.bool false) rfl (wanted_at (b := false) false rfl rfl (hD 15 57 (by kernel_rfl))) (exec_as (decide_eq_false (by simp)) (exec_nenU (.tmp 60) (.tmp 61) _ _ (V2 : Int) (V2 : Int) rfl (hD 18 60 (by kernel_rfl)) (hD 19 61 (by kernel_rfl)))) rfl) ?_
      refine sv 22 rfl rfl rfl (fun a u hE hD hk => exec_pickF (.tmp 57) (.const (.bool true)) (.tmp 62) (.bool false) rfl (hD 15 57 (by kernel_rfl)) (hD 20 62 (by kernel_rfl))) ?_
      refine sv 23 rfl rfl rfl (fun a u hE hD hk => exec_move (.tmp 63) _ rfl (hD 21 63 (by kernel_rfl))) ?_
      refine fsteps_cons 24 rfl (fun a u hE hD hk => f_val (o := ⟨some 65, _, _, _, _, _⟩) (.pointer (some ⟨p, 0, none⟩)) rfl (wanted_at (b := false) false rfl rfl (hD 22 64 (by kernel_rfl))) (exec_move (.tmp 6) _ rfl (hE 6 (.pointer (some ⟨p, 0, none⟩)) (by kernel_rfl) (by kernel_rfl))) rfl) ?_
      refine fsteps_cons 25 rfl (fun a u hE hD hk => f_val (o := ⟨some 66, _, _, _, _, _⟩) (.int .i64 (k : Int)) rfl (wanted_at (b := false) false rfl rfl (hD 22 64 (by kernel_rfl))) (exec_move (.tmp 8) _ rfl (hE 8 (.int .i64 (k : Int)) (by kernel_rfl) (by kernel_rfl))) rfl) ?_
      refine fsteps_cons 26 rfl (fun a u hE hD hk => f_call (o := ⟨some 67, _, _, _, _, _⟩) 9 #[.pointer (some ⟨p, 0, none⟩), .int .i64 (k : Int), .int .i64 3] rfl (wanted_at (b := false) false rfl rfl (hD 22 64 (by kernel_rfl))) (exec_call 9 _ [.tmp 65, .tmp 66, .const (.int .i64 3)] _ [.pointer (some ⟨p, 0, none⟩), .int .i64 (k : Int), .int .i64 3] Try.func9 (by kernel_rfl) (by kernel_rfl) rfl (show [a.eval (.tmp 65), a.eval (.tmp 66), a.eval (.const (.int .i64 3))] = [.pointer (some ⟨p, 0, none⟩), .int .i64 (k : Int), .int .i64 3] from (by rw [show a.eval (.tmp 65) = .pointer (some ⟨p, 0, none⟩) from (hD 23 65 (by kernel_rfl)), show a.eval (.tmp 66) = .int .i64 (k : Int) from (hD 24 66 (by kernel_rfl))] <;> rfl)) u) (set_is (HP6.out.kept hk) HY3.out)) ?_
      refine fsteps_cons 27 rfl (fun a u hE hD hk => f_val (o := ⟨some 68, _, _, _, _, _⟩) (.int .u64 (V3 : Int)) rfl (wanted_at (b := false) false rfl rfl (hD 22 64 (by kernel_rfl))) (exec_move (.tmp 10) _ rfl (hE 10 (.int .u64 (V3 : Int)) (by kernel_rfl) (by kernel_rfl))) rfl) ?_
      refine fsteps_cons 28 rfl (fun a u hE hD hk => f_val (o := ⟨some 69, _, _, _, _, _⟩) (.bool false) rfl (wanted_at (b := false) false rfl rfl (hD 22 64 (by kernel_rfl))) (exec_as (decide_eq_false (by simp)) (exec_nenU (.tmp 67) (.tmp 68) _ _ (V3 : Int) (V3 : Int) rfl (hD 25 67 (by kernel_rfl)) (hD 26 68 (by kernel_rfl)))) rfl) ?_
      refine sv 29 rfl rfl rfl (fun a u hE hD hk => exec_pickF (.tmp 64) (.const (.bool true)) (.tmp 69) (.bool false) rfl (hD 22 64 (by kernel_rfl)) (hD 27 69 (by kernel_rfl))) ?_
      exact fsteps_nil
    intro gv w7 hV k7
    rw [show dstsOf _ 29 = [42, 43, 44, 45, 46, 47, 48, 49, 50, 51, 52, 53, 54, 55, 56, 57, 58, 59, 60, 61, 62, 63, 64, 65, 66, 67, 68, 69, 70] by kernel_rfl]
    simp only [List.foldl_cons, List.foldl_nil, List.setIfInBounds_toArray, List.set_cons_succ, List.set_cons_zero, List.drop_succ_cons, List.drop_zero]
    rw [show gv 70 = .bool false from hV 28 70 (by kernel_rfl)]
    clear hV
    refine wpList_nil ?_
    have HP7 := Lib.hid (HP6.out.kept k7)
    have HL7 := Lib.hid (HL6.out.kept k7)
    have HT7 := Lib.hid (range_kept HT6.out k7)
    have kw7 := kw6.trans k7
    clear HP6 HL6 HT6 kw6 k7 HYb HY2 HY3 HYt
    go_wp2_with fail
    go_loopw [13] (fun t wr => ∃ i : Nat, t = .int .i64 (i : Int) ∧ i ≤ 32 ∧ Kept w7 wr) (fun t _ => 32 - (intOf t).toNat)
    case atStart => exact ⟨0, rfl, by omega, Kept.refl _⟩
    case round =>
      obtain ⟨i, rfl, hi', hkr⟩ := hrel
      by_cases hi : i < 32
      · by_cases hik : i = k
        · have HIK : Hid ((i : Int) = (k : Int)) := by show _ = _; omega
          clear hik
          go_upto_region 14 with fail
          refine wp_free 12 [.eq (.int .i64 (i : Int)), .eq (.int .i64 (k : Int)), .eq (.bool false), .eq (.bool false), .eq undef, .eq undef, .eq undef, .eq undef, .eq undef, .eq undef, .eq undef, .eq (.bool false)] (by kernel_rfl) rfl (by kernel_rfl) ?_ ?_
          · refine sv 1 rfl rfl rfl (fun a u hE hD hk => exec_move (.tmp 13) _ rfl (hE 13 (.int .i64 (i : Int)) (by kernel_rfl) (by kernel_rfl))) ?_
            refine sv 2 rfl rfl rfl (fun a u hE hD hk => exec_move (.tmp 8) _ rfl (hE 8 (.int .i64 (k : Int)) (by kernel_rfl) (by kernel_rfl))) ?_
            refine fsteps_cons 3 rfl (fun a u hE hD hk => f_as (show ((decide (((i : Int) : Int) ≠ ((k : Int) : Int))) : Bool) = false from decide_eq_false (fun h => h HIK.out)) (f_val (o := ⟨some 77, _, _, _, _, _⟩) (.bool (decide (((i : Int) : Int) ≠ ((k : Int) : Int)))) rfl (wanted_none rfl _) (exec_nen (p := (i : Int)) (q := (k : Int)) rfl (hD 0 75 (by kernel_rfl)) (hD 1 76 (by kernel_rfl))) rfl)) ?_
            refine sv 4 rfl rfl rfl (fun a u hE hD hk => exec_move (.tmp 77) _ rfl (hD 2 77 (by kernel_rfl))) ?_
            refine fsteps_cons 5 rfl (fun a u hE hD hk => f_skip (o := ⟨some 79, _, _, _, _, _⟩) rfl (wanted_at (b := true) false rfl rfl (hD 3 78 (by kernel_rfl))) rfl) ?_
            refine fsteps_cons 6 rfl (fun a u hE hD hk => f_skip (o := ⟨some 80, _, _, _, _, _⟩) rfl (wanted_at (b := true) false rfl rfl (hD 3 78 (by kernel_rfl))) rfl) ?_
            refine fsteps_cons 7 rfl (fun a u hE hD hk => f_skip (o := ⟨some 81, _, _, _, _, _⟩) rfl (wanted_at (b := true) false rfl rfl (hD 3 78 (by kernel_rfl))) rfl) ?_
            refine fsteps_cons 8 rfl (fun a u hE hD hk => f_skip (o := ⟨some 82, _, _, _, _, _⟩) rfl (wanted_at (b := true) false rfl rfl (hD 3 78 (by kernel_rfl))) rfl) ?_
            refine fsteps_cons 9 rfl (fun a u hE hD hk => f_skip (o := ⟨some 83, _, _, _, _, _⟩) rfl (wanted_at (b := true) false rfl rfl (hD 3 78 (by kernel_rfl))) rfl) ?_
            refine fsteps_cons 10 rfl (fun a u hE hD hk => f_skip (o := ⟨some 84, _, _, _, _, _⟩) rfl (wanted_at (b := true) false rfl rfl (hD 3 78 (by kernel_rfl))) rfl) ?_
            refine fsteps_cons 11 rfl (fun a u hE hD hk => f_skip (o := ⟨some 85, _, _, _, _, _⟩) rfl (wanted_at (b := true) false rfl rfl (hD 3 78 (by kernel_rfl))) rfl) ?_
            refine sv 12 rfl rfl rfl (fun a u hE hD hk => exec_pickF (.tmp 78) (.tmp 85) (.const (.bool false)) (.bool false) rfl (hD 3 78 (by kernel_rfl)) rfl) ?_
            exact fsteps_nil
          intro gv wc hV kc
          rw [show dstsOf _ 12 = [75, 76, 77, 78, 79, 80, 81, 82, 83, 84, 85, 86] by kernel_rfl]
          simp only [List.foldl_cons, List.foldl_nil, List.setIfInBounds_toArray, List.set_cons_succ, List.set_cons_zero, List.drop_succ_cons, List.drop_zero]
          rw [show gv 86 = .bool false from hV 11 86 (by kernel_rfl)]
          clear hV
          refine wpList_nil ?_
          have kwc := hkr.trans kc
          clear hkr kc HIK
          go_wp2
          exact ⟨⟨i + 1, by simp, by omega, kwc⟩, by simp [intOf]; omega⟩
        · have HIK : Hid ((i : Int) ≠ (k : Int)) := by show _ ≠ _; omega
          obtain ⟨t, ht⟩ : ∃ t, X.at_ i = t := ⟨_, rfl⟩
          have HG : Hid (Y.get (i : Int) = t) := by show _ = _; rw [HYo.out i hi hik, ht]
          have HAT := Lib.hid ht
          have HPr := Lib.hid (HP7.out.kept hkr)
          have HLr := Lib.hid (HL7.out.kept hkr)
          clear ht
          go_upto_region 14 with fail
          refine wp_free 12 [.eq (.int .i64 (i : Int)), .eq (.int .i64 (k : Int)), .eq (.bool true), .eq (.bool true), .eq (.pointer (some ⟨p, 0, none⟩)), .eq (.int .i64 (i : Int)), .eq (t.v), .eq (.int .i64 (i : Int)), .eq (.pointer (some ⟨gl, i * 37, none⟩)), .eq (t.v), .eq (.bool false), .eq (.bool false)] (by kernel_rfl) rfl (by kernel_rfl) ?_ ?_
          · refine sv 1 rfl rfl rfl (fun a u hE hD hk => exec_move (.tmp 13) _ rfl (hE 13 (.int .i64 (i : Int)) (by kernel_rfl) (by kernel_rfl))) ?_
            refine sv 2 rfl rfl rfl (fun a u hE hD hk => exec_move (.tmp 8) _ rfl (hE 8 (.int .i64 (k : Int)) (by kernel_rfl) (by kernel_rfl))) ?_
            refine fsteps_cons 3 rfl (fun a u hE hD hk => f_as (show ((decide (((i : Int) : Int) ≠ ((k : Int) : Int))) : Bool) = true from decide_eq_true HIK.out) (f_val (o := ⟨some 77, _, _, _, _, _⟩) (.bool (decide (((i : Int) : Int) ≠ ((k : Int) : Int)))) rfl (wanted_none rfl _) (exec_nen (p := (i : Int)) (q := (k : Int)) rfl (hD 0 75 (by kernel_rfl)) (hD 1 76 (by kernel_rfl))) rfl)) ?_
            refine sv 4 rfl rfl rfl (fun a u hE hD hk => exec_move (.tmp 77) _ rfl (hD 2 77 (by kernel_rfl))) ?_
            refine fsteps_cons 5 rfl (fun a u hE hD hk => f_val (o := ⟨some 79, _, _, _, _, _⟩) (.pointer (some ⟨p, 0, none⟩)) rfl (wanted_at (b := true) true rfl rfl (hD 3 78 (by kernel_rfl))) (exec_move (.tmp 6) _ rfl (hE 6 (.pointer (some ⟨p, 0, none⟩)) (by kernel_rfl) (by kernel_rfl))) rfl) ?_
            refine fsteps_cons 6 rfl (fun a u hE hD hk => f_val (o := ⟨some 80, _, _, _, _, _⟩) (.int .i64 (i : Int)) rfl (wanted_at (b := true) true rfl rfl (hD 3 78 (by kernel_rfl))) (exec_move (.tmp 13) _ rfl (hE 13 (.int .i64 (i : Int)) (by kernel_rfl) (by kernel_rfl))) rfl) ?_
            refine fsteps_cons 7 rfl (fun a u hE hD hk => f_call (o := ⟨some 81, _, _, _, _, _⟩) 18 #[.pointer (some ⟨p, 0, none⟩), .int .i64 (i : Int)] rfl (wanted_at (b := true) true rfl rfl (hD 3 78 (by kernel_rfl))) (exec_call 18 _ [.tmp 79, .tmp 80] _ [.pointer (some ⟨p, 0, none⟩), .int .i64 (i : Int)] Try.func18 (by kernel_rfl) (by kernel_rfl) rfl (show [a.eval (.tmp 79), a.eval (.tmp 80)] = [.pointer (some ⟨p, 0, none⟩), .int .i64 (i : Int)] from (by rw [show a.eval (.tmp 79) = .pointer (some ⟨p, 0, none⟩) from (hD 4 79 (by kernel_rfl)), show a.eval (.tmp 80) = .int .i64 (i : Int) from (hD 5 80 (by kernel_rfl))] <;> rfl)) u) (get_is (HPr.out.kept hk) HG.out)) ?_
            refine fsteps_cons 8 rfl (fun a u hE hD hk => f_val (o := ⟨some 82, _, _, _, _, _⟩) (.int .i64 (i : Int)) rfl (wanted_at (b := true) true rfl rfl (hD 3 78 (by kernel_rfl))) (exec_move (.tmp 13) _ rfl (hE 13 (.int .i64 (i : Int)) (by kernel_rfl) (by kernel_rfl))) rfl) ?_
            refine fsteps_cons 9 rfl (fun a u hE hD hk => f_val (o := ⟨some 83, _, _, _, _, _⟩) (.pointer (some ⟨gl, i * 37, none⟩)) rfl (wanted_at (b := true) true rfl rfl (hD 3 78 (by kernel_rfl))) (exec_ixA (.tmp 5) (.tmp 82) (gl) i ((i : Int)) rfl (hE 5 (.pointer (some ⟨gl, 0, none⟩)) (by kernel_rfl) (by kernel_rfl)) (hD 7 82 (by kernel_rfl)) (by first | rfl | omega) (hi)) rfl) ?_
            refine fsteps_cons 10 rfl (fun a u hE hD hk => f_val (o := ⟨some 84, _, _, _, _, _⟩) (t.v) rfl (wanted_at (b := true) true rfl rfl (hD 3 78 (by kernel_rfl))) (exec_ldS 25 _ (.tmp 83) (gl) (i * 37) (t.cells) rfl (hD 8 83 (by kernel_rfl)) (range_kept ((by rw [← HAT.out]; exact trds_range HLr.out hi)) hk) Try.underlying25 (by rw [Trd.len37]; exact szT)) rfl) ?_
            refine fsteps_cons 11 rfl (fun a u hE hD hk => f_val (o := ⟨some 85, _, _, _, _, _⟩) (.bool false) rfl (wanted_at (b := true) true rfl rfl (hD 3 78 (by kernel_rfl))) (exec_neTrd (.tmp 81) (.tmp 84) _ t t false rfl (hD 6 81 (by kernel_rfl)) (hD 9 84 (by kernel_rfl)) (decide_eq_false (by simp))) rfl) ?_
            refine sv 12 rfl rfl rfl (fun a u hE hD hk => exec_pick (.tmp 78) (.tmp 85) (.const (.bool false)) (.bool false) rfl (hD 3 78 (by kernel_rfl)) (hD 10 85 (by kernel_rfl))) ?_
            exact fsteps_nil
          intro gv wc hV kc
          rw [show dstsOf _ 12 = [75, 76, 77, 78, 79, 80, 81, 82, 83, 84, 85, 86] by kernel_rfl]
          simp only [List.foldl_cons, List.foldl_nil, List.setIfInBounds_toArray, List.set_cons_succ, List.set_cons_zero, List.drop_succ_cons, List.drop_zero]
          rw [show gv 86 = .bool false from hV 11 86 (by kernel_rfl)]
          clear hV
          refine wpList_nil ?_
          have kwc := hkr.trans kc
          clear hkr kc HIK HAT HG HPr HLr
          go_wp2
          exact ⟨⟨i + 1, by simp, by omega, kwc⟩, by simp [intOf]; omega⟩
      · have HPr := Lib.hid (HP7.out.kept hkr)
        have HTr := Lib.hid (range_kept HT7.out hkr)
        have kwr := kw7.trans hkr
        clear HP7 HL7 HT7 kw7 hkr HYo
        go_upto_region 16 with fail
        refine wp_text 4 [.eq (.pointer (some ⟨p, 0, none⟩)), .eq (.int .i64 (k : Int)), .eq (.pointer (some ⟨gt, 4, none⟩)), .eq (.bool tk.off)] rfl (by kernel_rfl) ?_ ?_
        · refine sv 1 rfl rfl rfl (fun a u hE hD hk => exec_move (.tmp 6) _ rfl (hE 6 (.pointer (some ⟨p, 0, none⟩)) (by kernel_rfl) (by kernel_rfl))) ?_
          refine sv 2 rfl rfl rfl (fun a u hE hD hk => exec_move (.tmp 8) _ rfl (hE 8 (.int .i64 (k : Int)) (by kernel_rfl) (by kernel_rfl))) ?_
          refine sv 3 rfl rfl rfl (fun a u hE hD hk => exec_fldo 25 4 4 (.tmp 11) (gt) (0) (4) rfl (hE 11 (.pointer (some ⟨gt, 0, none⟩)) (by kernel_rfl) (by kernel_rfl)) (by kernel_rfl) rfl) ?_
          refine sv 4 rfl rfl rfl (fun a u hE hD hk => exec_ldb 4 Try.underlying4 (.tmp 89) ⟨gt, 4, none⟩ (.bool tk.off) rfl (hD 2 89 (by kernel_rfl)) ((range_kept (HTr.out) hk) 4 _ rfl)) ?_
          exact fsteps_nil
        intro gv wc hV kc
        rw [show dstsOf _ 4 = [87, 88, 89, 90] by kernel_rfl]
        simp only [List.foldl_cons, List.foldl_nil, List.setIfInBounds_toArray, List.set_cons_succ, List.set_cons_zero, List.drop_succ_cons, List.drop_zero]
        rw [show gv 87 = .pointer (some ⟨p, 0, none⟩) from hV 0 87 (by kernel_rfl)]
        rw [show gv 88 = .int .i64 (k : Int) from hV 1 88 (by kernel_rfl)]
        rw [show gv 90 = .bool tk.off from hV 3 90 (by kernel_rfl)]
        clear hV
        refine l_call (o := ⟨some 91, _, _, _, _, _⟩) 14 #[.pointer (some ⟨p, 0, none⟩), .int .i64 (k : Int), .bool tk.off] rfl (exec_call 14 _ [.tmp 87, .tmp 88, .tmp 90] _ _ Try.func14 (by kernel_rfl) (by kernel_rfl) rfl (by kernel_rfl) _) ?_
        refine (off_any wc p Y (k : Int) tk.off (HPr.out.kept kc)).mono ?_
        rintro e wd ⟨rfl, hPd, kd⟩
        refine ⟨_, rfl, ?_⟩
        simp only [Act.put, List.setIfInBounds_toArray, List.set_cons_succ, List.set_cons_zero]
        refine wpList_nil ?_
        generalize Y.offM (k : Int) tk.off = Z at HYz HYm HYn hPd
        have HPd := Lib.hid hPd
        have HTd := Lib.hid (range_keep (range_kept HTr.out kc) kd (by omega))
        have kwd : Kept w wd := (kwr.trans kc).trans' kd zw
        clear hPd HTr HPr kc kd kwr
        go_upto_region 17 with fail
        refine wp_free 19 [.eq (.pointer (some ⟨p, 0, none⟩)), .eq (.int .i64 (k : Int)), .eq (tk.v), .eq (tk.v), .eq (.bool true), .eq (.bool true), .eq (.pointer (some ⟨p, 0, none⟩)), .eq (.bool false), .eq (.bool true), .eq (.bool true), .eq (.bool true), .eq (.pointer (some ⟨p, 0, none⟩)), .eq (.bool false), .eq (.bool true), .eq (.bool true), .eq (.bool true), .eq (.bool true), .eq (.bool true), .eq (.bool true)] (by kernel_rfl) rfl (by kernel_rfl) ?_ ?_
        · refine sv 1 rfl rfl rfl (fun a u hE hD hk => exec_move (.tmp 6) _ rfl (hE 6 (.pointer (some ⟨p, 0, none⟩)) (by kernel_rfl) (by kernel_rfl))) ?_
          refine sv 2 rfl rfl rfl (fun a u hE hD hk => exec_move (.tmp 8) _ rfl (hE 8 (.int .i64 (k : Int)) (by kernel_rfl) (by kernel_rfl))) ?_
          refine fsteps_cons 3 rfl (fun a u hE hD hk => f_call (o := ⟨some 94, _, _, _, _, _⟩) 18 #[.pointer (some ⟨p, 0, none⟩), .int .i64 (k : Int)] rfl (wanted_none rfl _) (exec_call 18 _ [.tmp 92, .tmp 93] _ [.pointer (some ⟨p, 0, none⟩), .int .i64 (k : Int)] Try.func18 (by kernel_rfl) (by kernel_rfl) rfl (show [a.eval (.tmp 92), a.eval (.tmp 93)] = [.pointer (some ⟨p, 0, none⟩), .int .i64 (k : Int)] from (by rw [show a.eval (.tmp 92) = .pointer (some ⟨p, 0, none⟩) from (hD 0 92 (by kernel_rfl)), show a.eval (.tmp 93) = .int .i64 (k : Int) from (hD 1 93 (by kernel_rfl))] <;> rfl)) u) (get_is (HPd.out.kept hk) HYz.out)) ?_
          refine sv 4 rfl rfl rfl (fun a u hE hD hk => exec_ldS 25 _ (.tmp 11) (gt) (0) (tk.cells) rfl (hE 11 (.pointer (some ⟨gt, 0, none⟩)) (by kernel_rfl) (by kernel_rfl)) (range_kept (HTd.out) hk) Try.underlying25 (by rw [Trd.len37]; exact szT)) ?_
          refine sv 5 rfl rfl rfl (fun a u hE hD hk => exec_eqTrd (.tmp 94) (.tmp 95) _ tk tk true rfl (hD 2 94 (by kernel_rfl)) (hD 3 95 (by kernel_rfl)) (decide_eq_true rfl)) ?_
          refine sv 6 rfl rfl rfl (fun a u hE hD hk => exec_move (.tmp 96) _ rfl (hD 4 96 (by kernel_rfl))) ?_
          refine fsteps_cons 7 rfl (fun a u hE hD hk => f_val (o := ⟨some 98, _, _, _, _, _⟩) (.pointer (some ⟨p, 0, none⟩)) rfl (wanted_at (b := true) true rfl rfl (hD 5 97 (by kernel_rfl))) (exec_move (.tmp 6) _ rfl (hE 6 (.pointer (some ⟨p, 0, none⟩)) (by kernel_rfl) (by kernel_rfl))) rfl) ?_
          refine fsteps_cons 8 rfl (fun a u hE hD hk => f_call (o := ⟨some 99, _, _, _, _, _⟩) 14 #[.pointer (some ⟨p, 0, none⟩), .int .i64 (-1), .bool true] rfl (wanted_at (b := true) true rfl rfl (hD 5 97 (by kernel_rfl))) (exec_call 14 _ [.tmp 98, .const (.int .i64 (-1)), .const (.bool true)] _ [.pointer (some ⟨p, 0, none⟩), .int .i64 (-1), .bool true] Try.func14 (by kernel_rfl) (by kernel_rfl) rfl (show [a.eval (.tmp 98), a.eval (.const (.int .i64 (-1))), a.eval (.const (.bool true))] = [.pointer (some ⟨p, 0, none⟩), .int .i64 (-1), .bool true] from (by rw [show a.eval (.tmp 98) = .pointer (some ⟨p, 0, none⟩) from (hD 6 98 (by kernel_rfl))] <;> rfl)) u) (off_out u p Z (-1) true (HPd.out.kept hk) HYm.out)) ?_
          refine fsteps_cons 9 rfl (fun a u hE hD hk => f_val (o := ⟨some 100, _, _, _, _, _⟩) (.bool true) rfl (wanted_at (b := true) true rfl rfl (hD 5 97 (by kernel_rfl))) (exec_not _ (.tmp 99) false rfl (hD 7 99 (by kernel_rfl))) rfl) ?_
          refine sv 10 rfl rfl rfl (fun a u hE hD hk => exec_pick (.tmp 97) (.tmp 100) (.const (.bool false)) (.bool true) rfl (hD 5 97 (by kernel_rfl)) (hD 8 100 (by kernel_rfl))) ?_
          refine sv 11 rfl rfl rfl (fun a u hE hD hk => exec_move (.tmp 101) _ rfl (hD 9 101 (by kernel_rfl))) ?_
          refine fsteps_cons 12 rfl (fun a u hE hD hk => f_val (o := ⟨some 103, _, _, _, _, _⟩) (.pointer (some ⟨p, 0, none⟩)) rfl (wanted_at (b := true) true rfl rfl (hD 10 102 (by kernel_rfl))) (exec_move (.tmp 6) _ rfl (hE 6 (.pointer (some ⟨p, 0, none⟩)) (by kernel_rfl) (by kernel_rfl))) rfl) ?_
          refine fsteps_cons 13 rfl (fun a u hE hD hk => f_call (o := ⟨some 104, _, _, _, _, _⟩) 14 #[.pointer (some ⟨p, 0, none⟩), .int .i64 32, .bool true] rfl (wanted_at (b := true) true rfl rfl (hD 10 102 (by kernel_rfl))) (exec_call 14 _ [.tmp 103, .const (.int .i64 32), .const (.bool true)] _ [.pointer (some ⟨p, 0, none⟩), .int .i64 32, .bool true] Try.func14 (by kernel_rfl) (by kernel_rfl) rfl (show [a.eval (.tmp 103), a.eval (.const (.int .i64 32)), a.eval (.const (.bool true))] = [.pointer (some ⟨p, 0, none⟩), .int .i64 32, .bool true] from (by rw [show a.eval (.tmp 103) = .pointer (some ⟨p, 0, none⟩) from (hD 11 103 (by kernel_rfl))] <;> rfl)) u) (off_out u p Z 32 true (HPd.out.kept hk) HYn.out)) ?_
          refine fsteps_cons 14 rfl (fun a u hE hD hk => f_val (o := ⟨some 105, _, _, _, _, _⟩) (.bool true) rfl (wanted_at (b := true) true rfl rfl (hD 10 102 (by kernel_rfl))) (exec_not _ (.tmp 104) false rfl (hD 12 104 (by kernel_rfl))) rfl) ?_
          refine sv 15 rfl rfl rfl (fun a u hE hD hk => exec_pick (.tmp 102) (.tmp 105) (.const (.bool false)) (.bool true) rfl (hD 10 102 (by kernel_rfl)) (hD 13 105 (by kernel_rfl))) ?_
          refine sv 16 rfl rfl rfl (fun a u hE hD hk => exec_move (.tmp 106) _ rfl (hD 14 106 (by kernel_rfl))) ?_
          refine fsteps_cons 17 rfl (fun a u hE hD hk => f_call (o := ⟨some 108, _, _, _, _, _⟩) 3 #[] rfl (wanted_at (b := true) true rfl rfl (hD 15 107 (by kernel_rfl))) (exec_call 3 _ [] _ [] Try.func3 (by kernel_rfl) (by kernel_rfl) rfl rfl u) (treeRuns_is u)) ?_
          refine sv 18 rfl rfl rfl (fun a u hE hD hk => exec_pick (.tmp 107) (.tmp 108) (.const (.bool false)) (.bool true) rfl (hD 15 107 (by kernel_rfl)) (hD 16 108 (by kernel_rfl))) ?_
          refine sv 19 rfl rfl rfl (fun a u hE hD hk => exec_assign (.tmp 109) _ rfl (hD 17 109 (by kernel_rfl))) ?_
          exact fsteps_nil
        intro gv we hV ke
        rw [show dstsOf _ 19 = [92, 93, 94, 95, 96, 97, 98, 99, 100, 101, 102, 103, 104, 105, 106, 107, 108, 109, 4] by kernel_rfl]
        simp only [List.foldl_cons, List.foldl_nil, List.setIfInBounds_toArray, List.set_cons_succ, List.set_cons_zero, List.drop_succ_cons, List.drop_zero]
        rw [show gv 4 = .bool true from hV 18 4 (by kernel_rfl)]
        clear hV
        refine wpList_nil ?_
        have kwe := kwd.trans ke
        go_wp2
        go_ret
        exact ⟨rfl, kwe⟩
  | true =>
    obtain ⟨tq, htq, hto⟩ := HYt.out rfl
    have HTq := Lib.hid htq
    have HTo := Lib.hid hto
    clear htq hto
    go_upto_region 9 with fail
    refine wp_text 29 [.eq (.bool true), .eq (.pointer (some ⟨p, 0, none⟩)), .eq (.int .i64 (k : Int)), .eq (.bool true), .eq (.bool false), .eq (.bool false), .eq (.bool true), .eq (.bool true), .eq (.pointer (some ⟨p, 0, none⟩)), .eq (.int .i64 (k : Int)), .eq (tq.v), .eq (.bool true), .eq (.bool false), .eq (.bool false), .eq (.bool false), .eq (.bool false), .eq (.pointer (some ⟨p, 0, none⟩)), .eq (.int .i64 (k : Int)), .eq (.int .u64 (V2 : Int)), .eq (.int .u64 (V2 : Int)), .eq (.bool false), .eq (.bool false), .eq (.bool false), .eq (.pointer (some ⟨p, 0, none⟩)), .eq (.int .i64 (k : Int)), .eq (.int .u64 (V3 : Int)), .eq (.int .u64 (V3 : Int)), .eq (.bool false), .eq (.bool false)] rfl (by kernel_rfl) ?_ ?_
    · refine sv 1 rfl rfl rfl (fun a u hE hD hk => exec_move (.tmp 12) _ rfl (hE 12 (.bool true) (by kernel_rfl) (by kernel_rfl))) ?_
      refine sv 2 rfl rfl rfl (fun a u hE hD hk => exec_move (.tmp 6) _ rfl (hE 6 (.pointer (some ⟨p, 0, none⟩)) (by kernel_rfl) (by kernel_rfl))) ?_
      refine sv 3 rfl rfl rfl (fun a u hE hD hk => exec_move (.tmp 8) _ rfl (hE 8 (.int .i64 (k : Int)) (by kernel_rfl) (by kernel_rfl))) ?_
      refine fsteps_cons 4 rfl (fun a u hE hD hk => f_call (o := ⟨some 45, _, _, _, _, _⟩) 17 #[.pointer (some ⟨p, 0, none⟩), .int .i64 (k : Int)] rfl (wanted_none rfl _) (exec_call 17 _ [.tmp 43, .tmp 44] _ [.pointer (some ⟨p, 0, none⟩), .int .i64 (k : Int)] Try.func17 (by kernel_rfl) (by kernel_rfl) rfl (show [a.eval (.tmp 43), a.eval (.tmp 44)] = [.pointer (some ⟨p, 0, none⟩), .int .i64 (k : Int)] from (by rw [show a.eval (.tmp 43) = .pointer (some ⟨p, 0, none⟩) from (hD 1 43 (by kernel_rfl)), show a.eval (.tmp 44) = .int .i64 (k : Int) from (hD 2 44 (by kernel_rfl))] <;> rfl)) u) (there_is (HP6.out.kept hk) HYb.out)) ?_
      refine sv 5 rfl rfl rfl (fun a u hE hD hk => exec_neb (.tmp 42) (.tmp 45) _ true true false rfl (hD 0 42 (by kernel_rfl)) (hD 3 45 (by kernel_rfl)) rfl) ?_
      refine sv 6 rfl rfl rfl (fun a u hE hD hk => exec_move (.tmp 46) _ rfl (hD 4 46 (by kernel_rfl))) ?_
      refine fsteps_cons 7 rfl (fun a u hE hD hk => f_val (o := ⟨some 48, _, _, _, _, _⟩) (.bool true) rfl (wanted_at (b := false) false rfl rfl (hD 5 47 (by kernel_rfl))) (exec_move (.tmp 12) _ rfl (hE 12 (.bool true) (by kernel_rfl) (by kernel_rfl))) rfl) ?_
      refine fsteps_cons 8 rfl (fun a u hE hD hk => f_val (o := ⟨some 49, _, _, _, _, _⟩) (.bool true) rfl (wanted_at (b := false) false rfl rfl (hD 5 47 (by kernel_rfl))) (exec_move (.tmp 48) _ rfl (hD 6 48 (by kernel_rfl))) rfl) ?_
      refine fsteps_cons 9 rfl (fun a u hE hD hk => f_val (o := ⟨some 50, _, _, _, _, _⟩) (.pointer (some ⟨p, 0, none⟩)) rfl (wanted_at (b := true) true rfl rfl (hD 7 49 (by kernel_rfl))) (exec_move (.tmp 6) _ rfl (hE 6 (.pointer (some ⟨p, 0, none⟩)) (by kernel_rfl) (by kernel_rfl))) rfl) ?_
      refine fsteps_cons 10 rfl (fun a u hE hD hk => f_val (o := ⟨some 51, _, _, _, _, _⟩) (.int .i64 (k : Int)) rfl (wanted_at (b := true) true rfl rfl (hD 7 49 (by kernel_rfl))) (exec_move (.tmp 8) _ rfl (hE 8 (.int .i64 (k : Int)) (by kernel_rfl) (by kernel_rfl))) rfl) ?_
      refine fsteps_cons 11 rfl (fun a u hE hD hk => f_call (o := ⟨some 52, _, _, _, _, _⟩) 18 #[.pointer (some ⟨p, 0, none⟩), .int .i64 (k : Int)] rfl (wanted_at (b := true) true rfl rfl (hD 7 49 (by kernel_rfl))) (exec_call 18 _ [.tmp 50, .tmp 51] _ [.pointer (some ⟨p, 0, none⟩), .int .i64 (k : Int)] Try.func18 (by kernel_rfl) (by kernel_rfl) rfl (show [a.eval (.tmp 50), a.eval (.tmp 51)] = [.pointer (some ⟨p, 0, none⟩), .int .i64 (k : Int)] from (by rw [show a.eval (.tmp 50) = .pointer (some ⟨p, 0, none⟩) from (hD 8 50 (by kernel_rfl)), show a.eval (.tmp 51) = .int .i64 (k : Int) from (hD 9 51 (by kernel_rfl))] <;> rfl)) u) (get_is (HP6.out.kept hk) HTq.out)) ?_
      refine fsteps_cons 12 rfl (fun a u hE hD hk => f_val (o := ⟨some 53, _, _, _, _, _⟩) (.bool true) rfl (wanted_at (b := true) true rfl rfl (hD 7 49 (by kernel_rfl))) (exec_fldT 4 tq _ (.tmp 52) rfl (hD 10 52 (by kernel_rfl)) (by kernel_rfl) (by show some (Value.bool tq.off) = _; rw [HTo.out])) rfl) ?_
      refine fsteps_cons 13 rfl (fun a u hE hD hk => f_val (o := ⟨some 54, _, _, _, _, _⟩) (.bool false) rfl (wanted_at (b := true) true rfl rfl (hD 7 49 (by kernel_rfl))) (exec_not _ (.tmp 53) true rfl (hD 11 53 (by kernel_rfl))) rfl) ?_
      refine fsteps_cons 14 rfl (fun a u hE hD hk => f_val (o := ⟨some 55, _, _, _, _, _⟩) (.bool false) rfl (wanted_at (b := false) false rfl rfl (hD 5 47 (by kernel_rfl))) (exec_pick (.tmp 49) (.tmp 54) (.const (.bool false)) (.bool false) rfl (hD 7 49 (by kernel_rfl)) (hD 12 54 (by kernel_rfl))) rfl) ?_
      refine sv 15 rfl rfl rfl (fun a u hE hD hk => exec_pickF (.tmp 47) (.const (.bool true)) (.tmp 55) (.bool false) rfl (hD 5 47 (by kernel_rfl)) (hD 13 55 (by kernel_rfl))) ?_
      refine sv 16 rfl rfl rfl (fun a u hE hD hk => exec_move (.tmp 56) _ rfl (hD 14 56 (by kernel_rfl))) ?_
      refine fsteps_cons 17 rfl (fun a u hE hD hk => f_val (o := ⟨some 58, _, _, _, _, _⟩) (.pointer (some ⟨p, 0, none⟩)) rfl (wanted_at (b := false) false rfl rfl (hD 15 57 (by kernel_rfl))) (exec_move (.tmp 6) _ rfl (hE 6 (.pointer (some ⟨p, 0, none⟩)) (by kernel_rfl) (by kernel_rfl))) rfl) ?_
      refine fsteps_cons 18 rfl (fun a u hE hD hk => f_val (o := ⟨some 59, _, _, _, _, _⟩) (.int .i64 (k : Int)) rfl (wanted_at (b := false) false rfl rfl (hD 15 57 (by kernel_rfl))) (exec_move (.tmp 8) _ rfl (hE 8 (.int .i64 (k : Int)) (by kernel_rfl) (by kernel_rfl))) rfl) ?_
      refine fsteps_cons 19 rfl (fun a u hE hD hk => f_call (o := ⟨some 60, _, _, _, _, _⟩) 9 #[.pointer (some ⟨p, 0, none⟩), .int .i64 (k : Int), .int .i64 2] rfl (wanted_at (b := false) false rfl rfl (hD 15 57 (by kernel_rfl))) (exec_call 9 _ [.tmp 58, .tmp 59, .const (.int .i64 2)] _ [.pointer (some ⟨p, 0, none⟩), .int .i64 (k : Int), .int .i64 2] Try.func9 (by kernel_rfl) (by kernel_rfl) rfl (show [a.eval (.tmp 58), a.eval (.tmp 59), a.eval (.const (.int .i64 2))] = [.pointer (some ⟨p, 0, none⟩), .int .i64 (k : Int), .int .i64 2] from (by rw [show a.eval (.tmp 58) = .pointer (some ⟨p, 0, none⟩) from (hD 16 58 (by kernel_rfl)), show a.eval (.tmp 59) = .int .i64 (k : Int) from (hD 17 59 (by kernel_rfl))] <;> rfl)) u) (set_is (HP6.out.kept hk) HY2.out)) ?_
      refine fsteps_cons 20 rfl (fun a u hE hD hk => f_val (o := ⟨some 61, _, _, _, _, _⟩) (.int .u64 (V2 : Int)) rfl (wanted_at (b := false) false rfl rfl (hD 15 57 (by kernel_rfl))) (exec_move (.tmp 9) _ rfl (hE 9 (.int .u64 (V2 : Int)) (by kernel_rfl) (by kernel_rfl))) rfl) ?_
      refine fsteps_cons 21 rfl (fun a u hE hD hk => f_val (o := ⟨some 62, _, _, _, _, _⟩) (.bool false) rfl (wanted_at (b := false) false rfl rfl (hD 15 57 (by kernel_rfl))) (exec_as (decide_eq_false (by simp)) (exec_nenU (.tmp 60) (.tmp 61) _ _ (V2 : Int) (V2 : Int) rfl (hD 18 60 (by kernel_rfl)) (hD 19 61 (by kernel_rfl)))) rfl) ?_
      refine sv 22 rfl rfl rfl (fun a u hE hD hk => exec_pickF (.tmp 57) (.const (.bool true)) (.tmp 62) (.bool false) rfl (hD 15 57 (by kernel_rfl)) (hD 20 62 (by kernel_rfl))) ?_
      refine sv 23 rfl rfl rfl (fun a u hE hD hk => exec_move (.tmp 63) _ rfl (hD 21 63 (by kernel_rfl))) ?_
      refine fsteps_cons 24 rfl (fun a u hE hD hk => f_val (o := ⟨some 65, _, _, _, _, _⟩) (.pointer (some ⟨p, 0, none⟩)) rfl (wanted_at (b := false) false rfl rfl (hD 22 64 (by kernel_rfl))) (exec_move (.tmp 6) _ rfl (hE 6 (.pointer (some ⟨p, 0, none⟩)) (by kernel_rfl) (by kernel_rfl))) rfl) ?_
      refine fsteps_cons 25 rfl (fun a u hE hD hk => f_val (o := ⟨some 66, _, _, _, _, _⟩) (.int .i64 (k : Int)) rfl (wanted_at (b := false) false rfl rfl (hD 22 64 (by kernel_rfl))) (exec_move (.tmp 8) _ rfl (hE 8 (.int .i64 (k : Int)) (by kernel_rfl) (by kernel_rfl))) rfl) ?_
      refine fsteps_cons 26 rfl (fun a u hE hD hk => f_call (o := ⟨some 67, _, _, _, _, _⟩) 9 #[.pointer (some ⟨p, 0, none⟩), .int .i64 (k : Int), .int .i64 3] rfl (wanted_at (b := false) false rfl rfl (hD 22 64 (by kernel_rfl))) (exec_call 9 _ [.tmp 65, .tmp 66, .const (.int .i64 3)] _ [.pointer (some ⟨p, 0, none⟩), .int .i64 (k : Int), .int .i64 3] Try.func9 (by kernel_rfl) (by kernel_rfl) rfl (show [a.eval (.tmp 65), a.eval (.tmp 66), a.eval (.const (.int .i64 3))] = [.pointer (some ⟨p, 0, none⟩), .int .i64 (k : Int), .int .i64 3] from (by rw [show a.eval (.tmp 65) = .pointer (some ⟨p, 0, none⟩) from (hD 23 65 (by kernel_rfl)), show a.eval (.tmp 66) = .int .i64 (k : Int) from (hD 24 66 (by kernel_rfl))] <;> rfl)) u) (set_is (HP6.out.kept hk) HY3.out)) ?_
      refine fsteps_cons 27 rfl (fun a u hE hD hk => f_val (o := ⟨some 68, _, _, _, _, _⟩) (.int .u64 (V3 : Int)) rfl (wanted_at (b := false) false rfl rfl (hD 22 64 (by kernel_rfl))) (exec_move (.tmp 10) _ rfl (hE 10 (.int .u64 (V3 : Int)) (by kernel_rfl) (by kernel_rfl))) rfl) ?_
      refine fsteps_cons 28 rfl (fun a u hE hD hk => f_val (o := ⟨some 69, _, _, _, _, _⟩) (.bool false) rfl (wanted_at (b := false) false rfl rfl (hD 22 64 (by kernel_rfl))) (exec_as (decide_eq_false (by simp)) (exec_nenU (.tmp 67) (.tmp 68) _ _ (V3 : Int) (V3 : Int) rfl (hD 25 67 (by kernel_rfl)) (hD 26 68 (by kernel_rfl)))) rfl) ?_
      refine sv 29 rfl rfl rfl (fun a u hE hD hk => exec_pickF (.tmp 64) (.const (.bool true)) (.tmp 69) (.bool false) rfl (hD 22 64 (by kernel_rfl)) (hD 27 69 (by kernel_rfl))) ?_
      exact fsteps_nil
    intro gv w7 hV k7
    rw [show dstsOf _ 29 = [42, 43, 44, 45, 46, 47, 48, 49, 50, 51, 52, 53, 54, 55, 56, 57, 58, 59, 60, 61, 62, 63, 64, 65, 66, 67, 68, 69, 70] by kernel_rfl]
    simp only [List.foldl_cons, List.foldl_nil, List.setIfInBounds_toArray, List.set_cons_succ, List.set_cons_zero, List.drop_succ_cons, List.drop_zero]
    rw [show gv 70 = .bool false from hV 28 70 (by kernel_rfl)]
    clear hV
    refine wpList_nil ?_
    have HP7 := Lib.hid (HP6.out.kept k7)
    have HL7 := Lib.hid (HL6.out.kept k7)
    have HT7 := Lib.hid (range_kept HT6.out k7)
    have kw7 := kw6.trans k7
    clear HP6 HL6 HT6 kw6 k7 HYb HY2 HY3 HYt
    go_wp2_with fail
    go_loopw [13] (fun t wr => ∃ i : Nat, t = .int .i64 (i : Int) ∧ i ≤ 32 ∧ Kept w7 wr) (fun t _ => 32 - (intOf t).toNat)
    case atStart => exact ⟨0, rfl, by omega, Kept.refl _⟩
    case round =>
      obtain ⟨i, rfl, hi', hkr⟩ := hrel
      by_cases hi : i < 32
      · by_cases hik : i = k
        · have HIK : Hid ((i : Int) = (k : Int)) := by show _ = _; omega
          clear hik
          go_upto_region 14 with fail
          refine wp_free 12 [.eq (.int .i64 (i : Int)), .eq (.int .i64 (k : Int)), .eq (.bool false), .eq (.bool false), .eq undef, .eq undef, .eq undef, .eq undef, .eq undef, .eq undef, .eq undef, .eq (.bool false)] (by kernel_rfl) rfl (by kernel_rfl) ?_ ?_
          · refine sv 1 rfl rfl rfl (fun a u hE hD hk => exec_move (.tmp 13) _ rfl (hE 13 (.int .i64 (i : Int)) (by kernel_rfl) (by kernel_rfl))) ?_
            refine sv 2 rfl rfl rfl (fun a u hE hD hk => exec_move (.tmp 8) _ rfl (hE 8 (.int .i64 (k : Int)) (by kernel_rfl) (by kernel_rfl))) ?_
            refine fsteps_cons 3 rfl (fun a u hE hD hk => f_as (show ((decide (((i : Int) : Int) ≠ ((k : Int) : Int))) : Bool) = false from decide_eq_false (fun h => h HIK.out)) (f_val (o := ⟨some 77, _, _, _, _, _⟩) (.bool (decide (((i : Int) : Int) ≠ ((k : Int) : Int)))) rfl (wanted_none rfl _) (exec_nen (p := (i : Int)) (q := (k : Int)) rfl (hD 0 75 (by kernel_rfl)) (hD 1 76 (by kernel_rfl))) rfl)) ?_
            refine sv 4 rfl rfl rfl (fun a u hE hD hk => exec_move (.tmp 77) _ rfl (hD 2 77 (by kernel_rfl))) ?_
            refine fsteps_cons 5 rfl (fun a u hE hD hk => f_skip (o := ⟨some 79, _, _, _, _, _⟩) rfl (wanted_at (b := true) false rfl rfl (hD 3 78 (by kernel_rfl))) rfl) ?_
            refine fsteps_cons 6 rfl (fun a u hE hD hk => f_skip (o := ⟨some 80, _, _, _, _, _⟩) rfl (wanted_at (b := true) false rfl rfl (hD 3 78 (by kernel_rfl))) rfl) ?_
            refine fsteps_cons 7 rfl (fun a u hE hD hk => f_skip (o := ⟨some 81, _, _, _, _, _⟩) rfl (wanted_at (b := true) false rfl rfl (hD 3 78 (by kernel_rfl))) rfl) ?_
            refine fsteps_cons 8 rfl (fun a u hE hD hk => f_skip (o := ⟨some 82, _, _, _, _, _⟩) rfl (wanted_at (b := true) false rfl rfl (hD 3 78 (by kernel_rfl))) rfl) ?_
            refine fsteps_cons 9 rfl (fun a u hE hD hk => f_skip (o := ⟨some 83, _, _, _, _, _⟩) rfl (wanted_at (b := true) false rfl rfl (hD 3 78 (by kernel_rfl))) rfl) ?_
            refine fsteps_cons 10 rfl (fun a u hE hD hk => f_skip (o := ⟨some 84, _, _, _, _, _⟩) rfl (wanted_at (b := true) false rfl rfl (hD 3 78 (by kernel_rfl))) rfl) ?_
            refine fsteps_cons 11 rfl (fun a u hE hD hk => f_skip (o := ⟨some 85, _, _, _, _, _⟩) rfl (wanted_at (b := true) false rfl rfl (hD 3 78 (by kernel_rfl))) rfl) ?_
            refine sv 12 rfl rfl rfl (fun a u hE hD hk => exec_pickF (.tmp 78) (.tmp 85) (.const (.bool false)) (.bool false) rfl (hD 3 78 (by kernel_rfl)) rfl) ?_
            exact fsteps_nil
          intro gv wc hV kc
          rw [show dstsOf _ 12 = [75, 76, 77, 78, 79, 80, 81, 82, 83, 84, 85, 86] by kernel_rfl]
          simp only [List.foldl_cons, List.foldl_nil, List.setIfInBounds_toArray, List.set_cons_succ, List.set_cons_zero, List.drop_succ_cons, List.drop_zero]
          rw [show gv 86 = .bool false from hV 11 86 (by kernel_rfl)]
          clear hV
          refine wpList_nil ?_
          have kwc := hkr.trans kc
          clear hkr kc HIK
          go_wp2
          exact ⟨⟨i + 1, by simp, by omega, kwc⟩, by simp [intOf]; omega⟩
        · have HIK : Hid ((i : Int) ≠ (k : Int)) := by show _ ≠ _; omega
          obtain ⟨t, ht⟩ : ∃ t, X.at_ i = t := ⟨_, rfl⟩
          have HG : Hid (Y.get (i : Int) = t) := by show _ = _; rw [HYo.out i hi hik, ht]
          have HAT := Lib.hid ht
          have HPr := Lib.hid (HP7.out.kept hkr)
          have HLr := Lib.hid (HL7.out.kept hkr)
          clear ht
          go_upto_region 14 with fail
          refine wp_free 12 [.eq (.int .i64 (i : Int)), .eq (.int .i64 (k : Int)), .eq (.bool true), .eq (.bool true), .eq (.pointer (some ⟨p, 0, none⟩)), .eq (.int .i64 (i : Int)), .eq (t.v), .eq (.int .i64 (i : Int)), .eq (.pointer (some ⟨gl, i * 37, none⟩)), .eq (t.v), .eq (.bool false), .eq (.bool false)] (by kernel_rfl) rfl (by kernel_rfl) ?_ ?_
          · refine sv 1 rfl rfl rfl (fun a u hE hD hk => exec_move (.tmp 13) _ rfl (hE 13 (.int .i64 (i : Int)) (by kernel_rfl) (by kernel_rfl))) ?_
            refine sv 2 rfl rfl rfl (fun a u hE hD hk => exec_move (.tmp 8) _ rfl (hE 8 (.int .i64 (k : Int)) (by kernel_rfl) (by kernel_rfl))) ?_
            refine fsteps_cons 3 rfl (fun a u hE hD hk => f_as (show ((decide (((i : Int) : Int) ≠ ((k : Int) : Int))) : Bool) = true from decide_eq_true HIK.out) (f_val (o := ⟨some 77, _, _, _, _, _⟩) (.bool (decide (((i : Int) : Int) ≠ ((k : Int) : Int)))) rfl (wanted_none rfl _) (exec_nen (p := (i : Int)) (q := (k : Int)) rfl (hD 0 75 (by kernel_rfl)) (hD 1 76 (by kernel_rfl))) rfl)) ?_
            refine sv 4 rfl rfl rfl (fun a u hE hD hk => exec_move (.tmp 77) _ rfl (hD 2 77 (by kernel_rfl))) ?_
            refine fsteps_cons 5 rfl (fun a u hE hD hk => f_val (o := ⟨some 79, _, _, _, _, _⟩) (.pointer (some ⟨p, 0, none⟩)) rfl (wanted_at (b := true) true rfl rfl (hD 3 78 (by kernel_rfl))) (exec_move (.tmp 6) _ rfl (hE 6 (.pointer (some ⟨p, 0, none⟩)) (by kernel_rfl) (by kernel_rfl))) rfl) ?_
            refine fsteps_cons 6 rfl (fun a u hE hD hk => f_val (o := ⟨some 80, _, _, _, _, _⟩) (.int .i64 (i : Int)) rfl (wanted_at (b := true) true rfl rfl (hD 3 78 (by kernel_rfl))) (exec_move (.tmp 13) _ rfl (hE 13 (.int .i64 (i : Int)) (by kernel_rfl) (by kernel_rfl))) rfl) ?_
            refine fsteps_cons 7 rfl (fun a u hE hD hk => f_call (o := ⟨some 81, _, _, _, _, _⟩) 18 #[.pointer (some ⟨p, 0, none⟩), .int .i64 (i : Int)] rfl (wanted_at (b := true) true rfl rfl (hD 3 78 (by kernel_rfl))) (exec_call 18 _ [.tmp 79, .tmp 80] _ [.pointer (some ⟨p, 0, none⟩), .int .i64 (i : Int)] Try.func18 (by kernel_rfl) (by kernel_rfl) rfl (show [a.eval (.tmp 79), a.eval (.tmp 80)] = [.pointer (some ⟨p, 0, none⟩), .int .i64 (i : Int)] from (by rw [show a.eval (.tmp 79) = .pointer (some ⟨p, 0, none⟩) from (hD 4 79 (by kernel_rfl)), show a.eval (.tmp 80) = .int .i64 (i : Int) from (hD 5 80 (by kernel_rfl))] <;> rfl)) u) (get_is (HPr.out.kept hk) HG.out)) ?_
            refine fsteps_cons 8 rfl (fun a u hE hD hk => f_val (o := ⟨some 82, _, _, _, _, _⟩) (.int .i64 (i : Int)) rfl (wanted_at (b := true) true rfl rfl (hD 3 78 (by kernel_rfl))) (exec_move (.tmp 13) _ rfl (hE 13 (.int .i64 (i : Int)) (by kernel_rfl) (by kernel_rfl))) rfl) ?_
            refine fsteps_cons 9 rfl (fun a u hE hD hk => f_val (o := ⟨some 83, _, _, _, _, _⟩) (.pointer (some ⟨gl, i * 37, none⟩)) rfl (wanted_at (b := true) true rfl rfl (hD 3 78 (by kernel_rfl))) (exec_ixA (.tmp 5) (.tmp 82) (gl) i ((i : Int)) rfl (hE 5 (.pointer (some ⟨gl, 0, none⟩)) (by kernel_rfl) (by kernel_rfl)) (hD 7 82 (by kernel_rfl)) (by first | rfl | omega) (hi)) rfl) ?_
            refine fsteps_cons 10 rfl (fun a u hE hD hk => f_val (o := ⟨some 84, _, _, _, _, _⟩) (t.v) rfl (wanted_at (b := true) true rfl rfl (hD 3 78 (by kernel_rfl))) (exec_ldS 25 _ (.tmp 83) (gl) (i * 37) (t.cells) rfl (hD 8 83 (by kernel_rfl)) (range_kept ((by rw [← HAT.out]; exact trds_range HLr.out hi)) hk) Try.underlying25 (by rw [Trd.len37]; exact szT)) rfl) ?_
            refine fsteps_cons 11 rfl (fun a u hE hD hk => f_val (o := ⟨some 85, _, _, _, _, _⟩) (.bool false) rfl (wanted_at (b := true) true rfl rfl (hD 3 78 (by kernel_rfl))) (exec_neTrd (.tmp 81) (.tmp 84) _ t t false rfl (hD 6 81 (by kernel_rfl)) (hD 9 84 (by kernel_rfl)) (decide_eq_false (by simp))) rfl) ?_
            refine sv 12 rfl rfl rfl (fun a u hE hD hk => exec_pick (.tmp 78) (.tmp 85) (.const (.bool false)) (.bool false) rfl (hD 3 78 (by kernel_rfl)) (hD 10 85 (by kernel_rfl))) ?_
            exact fsteps_nil
          intro gv wc hV kc
          rw [show dstsOf _ 12 = [75, 76, 77, 78, 79, 80, 81, 82, 83, 84, 85, 86] by kernel_rfl]
          simp only [List.foldl_cons, List.foldl_nil, List.setIfInBounds_toArray, List.set_cons_succ, List.set_cons_zero, List.drop_succ_cons, List.drop_zero]
          rw [show gv 86 = .bool false from hV 11 86 (by kernel_rfl)]
          clear hV
          refine wpList_nil ?_
          have kwc := hkr.trans kc
          clear hkr kc HIK HAT HG HPr HLr
          go_wp2
          exact ⟨⟨i + 1, by simp, by omega, kwc⟩, by simp [intOf]; omega⟩
      · have HPr := Lib.hid (HP7.out.kept hkr)
        have HTr := Lib.hid (range_kept HT7.out hkr)
        have kwr := kw7.trans hkr
        clear HP7 HL7 HT7 kw7 hkr HYo
        go_upto_region 16 with fail
        refine wp_text 4 [.eq (.pointer (some ⟨p, 0, none⟩)), .eq (.int .i64 (k : Int)), .eq (.pointer (some ⟨gt, 4, none⟩)), .eq (.bool tk.off)] rfl (by kernel_rfl) ?_ ?_
        · refine sv 1 rfl rfl rfl (fun a u hE hD hk => exec_move (.tmp 6) _ rfl (hE 6 (.pointer (some ⟨p, 0, none⟩)) (by kernel_rfl) (by kernel_rfl))) ?_
          refine sv 2 rfl rfl rfl (fun a u hE hD hk => exec_move (.tmp 8) _ rfl (hE 8 (.int .i64 (k : Int)) (by kernel_rfl) (by kernel_rfl))) ?_
          refine sv 3 rfl rfl rfl (fun a u hE hD hk => exec_fldo 25 4 4 (.tmp 11) (gt) (0) (4) rfl (hE 11 (.pointer (some ⟨gt, 0, none⟩)) (by kernel_rfl) (by kernel_rfl)) (by kernel_rfl) rfl) ?_
          refine sv 4 rfl rfl rfl (fun a u hE hD hk => exec_ldb 4 Try.underlying4 (.tmp 89) ⟨gt, 4, none⟩ (.bool tk.off) rfl (hD 2 89 (by kernel_rfl)) ((range_kept (HTr.out) hk) 4 _ rfl)) ?_
          exact fsteps_nil
        intro gv wc hV kc
        rw [show dstsOf _ 4 = [87, 88, 89, 90] by kernel_rfl]
        simp only [List.foldl_cons, List.foldl_nil, List.setIfInBounds_toArray, List.set_cons_succ, List.set_cons_zero, List.drop_succ_cons, List.drop_zero]
        rw [show gv 87 = .pointer (some ⟨p, 0, none⟩) from hV 0 87 (by kernel_rfl)]
        rw [show gv 88 = .int .i64 (k : Int) from hV 1 88 (by kernel_rfl)]
        rw [show gv 90 = .bool tk.off from hV 3 90 (by kernel_rfl)]
        clear hV
        refine l_call (o := ⟨some 91, _, _, _, _, _⟩) 14 #[.pointer (some ⟨p, 0, none⟩), .int .i64 (k : Int), .bool tk.off] rfl (exec_call 14 _ [.tmp 87, .tmp 88, .tmp 90] _ _ Try.func14 (by kernel_rfl) (by kernel_rfl) rfl (by kernel_rfl) _) ?_
        refine (off_any wc p Y (k : Int) tk.off (HPr.out.kept kc)).mono ?_
        rintro e wd ⟨rfl, hPd, kd⟩
        refine ⟨_, rfl, ?_⟩
        simp only [Act.put, List.setIfInBounds_toArray, List.set_cons_succ, List.set_cons_zero]
        refine wpList_nil ?_
        generalize Y.offM (k : Int) tk.off = Z at HYz HYm HYn hPd
        have HPd := Lib.hid hPd
        have HTd := Lib.hid (range_keep (range_kept HTr.out kc) kd (by omega))
        have kwd : Kept w wd := (kwr.trans kc).trans' kd zw
        clear hPd HTr HPr kc kd kwr
        go_upto_region 17 with fail
        refine wp_free 19 [.eq (.pointer (some ⟨p, 0, none⟩)), .eq (.int .i64 (k : Int)), .eq (tk.v), .eq (tk.v), .eq (.bool true), .eq (.bool true), .eq (.pointer (some ⟨p, 0, none⟩)), .eq (.bool false), .eq (.bool true), .eq (.bool true), .eq (.bool true), .eq (.pointer (some ⟨p, 0, none⟩)), .eq (.bool false), .eq (.bool true), .eq (.bool true), .eq (.bool true), .eq (.bool true), .eq (.bool true), .eq (.bool true)] (by kernel_rfl) rfl (by kernel_rfl) ?_ ?_
        · refine sv 1 rfl rfl rfl (fun a u hE hD hk => exec_move (.tmp 6) _ rfl (hE 6 (.pointer (some ⟨p, 0, none⟩)) (by kernel_rfl) (by kernel_rfl))) ?_
          refine sv 2 rfl rfl rfl (fun a u hE hD hk => exec_move (.tmp 8) _ rfl (hE 8 (.int .i64 (k : Int)) (by kernel_rfl) (by kernel_rfl))) ?_
          refine fsteps_cons 3 rfl (fun a u hE hD hk => f_call (o := ⟨some 94, _, _, _, _, _⟩) 18 #[.pointer (some ⟨p, 0, none⟩), .int .i64 (k : Int)] rfl (wanted_none rfl _) (exec_call 18 _ [.tmp 92, .tmp 93] _ [.pointer (some ⟨p, 0, none⟩), .int .i64 (k : Int)] Try.func18 (by kernel_rfl) (by kernel_rfl) rfl (show [a.eval (.tmp 92), a.eval (.tmp 93)] = [.pointer (some ⟨p, 0, none⟩), .int .i64 (k : Int)] from (by rw [show a.eval (.tmp 92) = .pointer (some ⟨p, 0, none⟩) from (hD 0 92 (by kernel_rfl)), show a.eval (.tmp 93) = .int .i64 (k : Int) from (hD 1 93 (by kernel_rfl))] <;> rfl)) u) (get_is (HPd.out.kept hk) HYz.out)) ?_
          refine sv 4 rfl rfl rfl (fun a u hE hD hk => exec_ldS 25 _ (.tmp 11) (gt) (0) (tk.cells) rfl (hE 11 (.pointer (some ⟨gt, 0, none⟩)) (by kernel_rfl) (by kernel_rfl)) (range_kept (HTd.out) hk) Try.underlying25 (by rw [Trd.len37]; exact szT)) ?_
          refine sv 5 rfl rfl rfl (fun a u hE hD hk => exec_eqTrd (.tmp 94) (.tmp 95) _ tk tk true rfl (hD 2 94 (by kernel_rfl)) (hD 3 95 (by kernel_rfl)) (decide_eq_true rfl)) ?_
          refine sv 6 rfl rfl rfl (fun a u hE hD hk => exec_move (.tmp 96) _ rfl (hD 4 96 (by kernel_rfl))) ?_
          refine fsteps_cons 7 rfl (fun a u hE hD hk => f_val (o := ⟨some 98, _, _, _, _, _⟩) (.pointer (some ⟨p, 0, none⟩)) rfl (wanted_at (b := true) true rfl rfl (hD 5 97 (by kernel_rfl))) (exec_move (.tmp 6) _ rfl (hE 6 (.pointer (some ⟨p, 0, none⟩)) (by kernel_rfl) (by kernel_rfl))) rfl) ?_
          refine fsteps_cons 8 rfl (fun a u hE hD hk => f_call (o := ⟨some 99, _, _, _, _, _⟩) 14 #[.pointer (some ⟨p, 0, none⟩), .int .i64 (-1), .bool true] rfl (wanted_at (b := true) true rfl rfl (hD 5 97 (by kernel_rfl))) (exec_call 14 _ [.tmp 98, .const (.int .i64 (-1)), .const (.bool true)] _ [.pointer (some ⟨p, 0, none⟩), .int .i64 (-1), .bool true] Try.func14 (by kernel_rfl) (by kernel_rfl) rfl (show [a.eval (.tmp 98), a.eval (.const (.int .i64 (-1))), a.eval (.const (.bool true))] = [.pointer (some ⟨p, 0, none⟩), .int .i64 (-1), .bool true] from (by rw [show a.eval (.tmp 98) = .pointer (some ⟨p, 0, none⟩) from (hD 6 98 (by kernel_rfl))] <;> rfl)) u) (off_out u p Z (-1) true (HPd.out.kept hk) HYm.out)) ?_
          refine fsteps_cons 9 rfl (fun a u hE hD hk => f_val (o := ⟨some 100, _, _, _, _, _⟩) (.bool true) rfl (wanted_at (b := true) true rfl rfl (hD 5 97 (by kernel_rfl))) (exec_not _ (.tmp 99) false rfl (hD 7 99 (by kernel_rfl))) rfl) ?_
          refine sv 10 rfl rfl rfl (fun a u hE hD hk => exec_pick (.tmp 97) (.tmp 100) (.const (.bool false)) (.bool true) rfl (hD 5 97 (by kernel_rfl)) (hD 8 100 (by kernel_rfl))) ?_
          refine sv 11 rfl rfl rfl (fun a u hE hD hk => exec_move (.tmp 101) _ rfl (hD 9 101 (by kernel_rfl))) ?_
          refine fsteps_cons 12 rfl (fun a u hE hD hk => f_val (o := ⟨some 103, _, _, _, _, _⟩) (.pointer (some ⟨p, 0, none⟩)) rfl (wanted_at (b := true) true rfl rfl (hD 10 102 (by kernel_rfl))) (exec_move (.tmp 6) _ rfl (hE 6 (.pointer (some ⟨p, 0, none⟩)) (by kernel_rfl) (by kernel_rfl))) rfl) ?_
          refine fsteps_cons 13 rfl (fun a u hE hD hk => f_call (o := ⟨some 104, _, _, _, _, _⟩) 14 #[.pointer (some ⟨p, 0, none⟩), .int .i64 32, .bool true] rfl (wanted_at (b := true) true rfl rfl (hD 10 102 (by kernel_rfl))) (exec_call 14 _ [.tmp 103, .const (.int .i64 32), .const (.bool true)] _ [.pointer (some ⟨p, 0, none⟩), .int .i64 32, .bool true] Try.func14 (by kernel_rfl) (by kernel_rfl) rfl (show [a.eval (.tmp 103), a.eval (.const (.int .i64 32)), a.eval (.const (.bool true))] = [.pointer (some ⟨p, 0, none⟩), .int .i64 32, .bool true] from (by rw [show a.eval (.tmp 103) = .pointer (some ⟨p, 0, none⟩) from (hD 11 103 (by kernel_rfl))] <;> rfl)) u) (off_out u p Z 32 true (HPd.out.kept hk) HYn.out)) ?_
          refine fsteps_cons 14 rfl (fun a u hE hD hk => f_val (o := ⟨some 105, _, _, _, _, _⟩) (.bool true) rfl (wanted_at (b := true) true rfl rfl (hD 10 102 (by kernel_rfl))) (exec_not _ (.tmp 104) false rfl (hD 12 104 (by kernel_rfl))) rfl) ?_
          refine sv 15 rfl rfl rfl (fun a u hE hD hk => exec_pick (.tmp 102) (.tmp 105) (.const (.bool false)) (.bool true) rfl (hD 10 102 (by kernel_rfl)) (hD 13 105 (by kernel_rfl))) ?_
          refine sv 16 rfl rfl rfl (fun a u hE hD hk => exec_move (.tmp 106) _ rfl (hD 14 106 (by kernel_rfl))) ?_
          refine fsteps_cons 17 rfl (fun a u hE hD hk => f_call (o := ⟨some 108, _, _, _, _, _⟩) 3 #[] rfl (wanted_at (b := true) true rfl rfl (hD 15 107 (by kernel_rfl))) (exec_call 3 _ [] _ [] Try.func3 (by kernel_rfl) (by kernel_rfl) rfl rfl u) (treeRuns_is u)) ?_
          refine sv 18 rfl rfl rfl (fun a u hE hD hk => exec_pick (.tmp 107) (.tmp 108) (.const (.bool false)) (.bool true) rfl (hD 15 107 (by kernel_rfl)) (hD 16 108 (by kernel_rfl))) ?_
          refine sv 19 rfl rfl rfl (fun a u hE hD hk => exec_assign (.tmp 109) _ rfl (hD 17 109 (by kernel_rfl))) ?_
          exact fsteps_nil
        intro gv we hV ke
        rw [show dstsOf _ 19 = [92, 93, 94, 95, 96, 97, 98, 99, 100, 101, 102, 103, 104, 105, 106, 107, 108, 109, 4] by kernel_rfl]
        simp only [List.foldl_cons, List.foldl_nil, List.setIfInBounds_toArray, List.set_cons_succ, List.set_cons_zero, List.drop_succ_cons, List.drop_zero]
        rw [show gv 4 = .bool true from hV 18 4 (by kernel_rfl)]
        clear hV
        refine wpList_nil ?_
        have kwe := kwd.trans ke
        go_wp2
        go_ret
        exact ⟨rfl, kwe⟩
end Go.Proofs.Ytgodehggiddndaa
