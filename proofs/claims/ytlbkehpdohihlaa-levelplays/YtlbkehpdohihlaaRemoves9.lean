/-
  The contract of jobberlaw9.LevelRemoves: any asks, any place: it answers true. No condition.
-/
import Derived.Test.YtlbkehpdohihlaaUniqM9
import Derived.Test.YtlbkehpdohihlaaFreeX
import Derived.Test.YtlbkehpdohihlaaParts9
namespace Go.Proofs.Ytlbkehpdohihlaa
open Go.RowKit
set_option linter.unusedVariables false
theorem exec_eqOb {a : Act} {o : Oper} {u : World} (b : Bool) (x y : Operand) (t' : TypeId) (c e : Ord) (hop : o.op = .binOp .eql 25 x y t') (hx : a.eval x = c.v) (hy : a.eval y = e.v) (hb : decide (c = e) = b) : (execOp a.eval o).run Try.prog u = .ok (.value (.bool b)) u := by rw [← hb]; exact exec_eqO x y t' c e hop hx hy
set_option maxRecDepth 100000 in
set_option maxHeartbeats 6400000 in
theorem levelRemoves_any (v : Value) (l : List Ask) (at0 : Int) (w : World) (hl : Asks w v l) : Calls Try.prog 8 #[v, .int .i64 at0] w fun e w' => e = .returned (.bool true) ∧ Kept w w' := by
  go_enter Try.func8, Try.ntmps8
  go_upto_region 1 with fail
  refine wp_region_lit ?_
  refine l_val (o := ⟨some 17, _, _, _, _, _⟩) (v) rfl (exec_move (.tmp 0) (v) rfl (by kernel_rfl)) ?_
  simp only [Act.put, List.setIfInBounds_toArray, List.set_cons_succ, List.set_cons_zero]
  refine l_call (o := ⟨some 18, _, _, _, _, _⟩) 29 #[v] rfl (exec_call 29 _ [.tmp 17] _ _ Try.func29 (by kernel_rfl) (by kernel_rfl) rfl (by kernel_rfl) _) ?_
  refine (filled_any v l w hl).mono ?_
  rintro r w1 ⟨p, F0, rfl, hL1, hG1, k1⟩
  refine ⟨_, rfl, ?_⟩
  simp only [Act.put, List.setIfInBounds_toArray, List.set_cons_succ, List.set_cons_zero]
  refine l_val (o := ⟨some 5, _, _, _, _, _⟩) (.pointer (some ⟨p, 0, none⟩)) rfl (exec_assign (.tmp 18) (.pointer (some ⟨p, 0, none⟩)) rfl (by kernel_rfl)) ?_
  simp only [Act.put, List.setIfInBounds_toArray, List.set_cons_succ, List.set_cons_zero]
  refine wpList_nil ?_
  have hX0 := fill_good [] (l.take 20) (by rw [List.length_take]; omega)
  have hU0 := fill_uniq (l.take 20)
  generalize fillE [] (l.take 20) = X0 at hX0 hU0 hL1
  have HX0 := Lib.hid hX0
  have HL1 := Lib.hid hL1
  have HG1 : Hid (∀ b, F0 b → w.heap.size ≤ b) := fun b hb => (hG1 b hb).elim (fun h => h.elim) id
  have HXU : Hid (Good (takeM 9 (at0 % 8) X0).2.2 ∧ Uniq (takeM 9 (at0 % 8) X0).2.2) := ⟨(takeM_facts 9 _ _ X0 (Nat.le_refl _) hX0).1, takeM_inv Uniq next_uniq 9 _ _ X0 (Nat.le_refl _) hX0 hU0⟩
  clear hX0 hU0 hL1 hG1
  go_upto_region 4 with fail
  refine wp_text 3 [.eq (.pointer (some ⟨p, 0, none⟩)), .eq (.int .i64 at0), .eq (.int .i64 (at0 % 8))] rfl (by kernel_rfl) ?_ ?_
  · refine fsteps_cons 1 rfl (fun a u hE hD hk => f_val (o := ⟨some 21, _, _, _, _, _⟩) (.pointer (some ⟨p, 0, none⟩)) rfl (wanted_none rfl _) (exec_move (.tmp 5) (.pointer (some ⟨p, 0, none⟩)) rfl (hE 5 (.pointer (some ⟨p, 0, none⟩)) (by kernel_rfl) (by kernel_rfl))) rfl) ?_
    refine fsteps_cons 2 rfl (fun a u hE hD hk => f_val (o := ⟨some 22, _, _, _, _, _⟩) (.int .i64 at0) rfl (wanted_none rfl _) (exec_move (.tmp 1) (.int .i64 at0) rfl (hE 1 (.int .i64 at0) (by kernel_rfl) (by kernel_rfl))) rfl) ?_
    refine fsteps_cons 3 rfl (fun a u hE hD hk => f_val (o := ⟨some 23, _, _, _, _, _⟩) (.int .i64 (at0 % 8)) rfl (wanted_none rfl _) (exec_and7 (.tmp 22) _ at0 rfl (hD 1 22 (by kernel_rfl))) rfl) ?_
    exact fsteps_nil
  intro gv u1 hV ku1
  rw [show dstsOf _ 3 = [21, 22, 23] by kernel_rfl]
  simp only [List.foldl_cons, List.foldl_nil, List.setIfInBounds_toArray, List.set_cons_succ, List.set_cons_zero, List.drop_succ_cons, List.drop_zero]
  rw [show gv 21 = .pointer (some ⟨p, 0, none⟩) from hV 0 21 (by kernel_rfl)]
  rw [show gv 23 = .int .i64 (at0 % 8) from hV 2 23 (by kernel_rfl)]
  clear hV
  refine l_call (o := ⟨some 24, _, _, _, _, _⟩) 11 #[.pointer (some ⟨p, 0, none⟩), .int .i64 9, .int .i64 (at0 % 8)] rfl (exec_call 11 _ [.tmp 21, .const (.int .i64 9), .tmp 23] _ _ Try.func11 (by kernel_rfl) (by kernel_rfl) rfl (by kernel_rfl) _) ?_
  refine (take_any u1 F0 p X0 9 (at0 % 8) (HL1.out.kept ku1) HX0.out (by omega)).mono ?_
  rintro r w2 ⟨F, v4, rfl, hL2, hS2, hO2, hG2, hk2⟩
  refine ⟨_, rfl, ?_⟩
  simp only [Act.put, List.setIfInBounds_toArray, List.set_cons_succ, List.set_cons_zero]
  refine wpList_nil ?_
  have zu1 := ku1.size
  have zk1 := k1.size
  have kw2 : Kept w w2 := Keep.trans (k1.trans ku1) hk2 (fun b hb h => by have := HG1.out b h; omega)
  have HF : Hid (∀ b, F b → w.heap.size ≤ b) := fun b hb => by
    rcases hG2 b hb with h | h
    · exact HG1.out b h
    · omega
  have HL2 := Lib.hid hL2
  clear hL2 hS2 hO2 hG2 hk2 k1 ku1 HL1 HG1 HX0
  generalize (takeM 9 (at0 % 8) X0).2.2 = X at HXU HL2
  have HX : Hid (Good X) := HXU.out.1
  have HU : Hid (Uniq X) := HXU.out.2
  clear HXU
  go_upto_region 5 with fail
  refine wp_text 2 [.eq (.pointer (some ⟨p, 0, none⟩)), .sl w2.heap.size 25 9 X.length (ords (X.map (·.o)))] rfl (by kernel_rfl) ?_ ?_
  · refine fsteps_cons 1 rfl (fun a u hE hD hk => f_val (o := ⟨some 25, _, _, _, _, _⟩) (.pointer (some ⟨p, 0, none⟩)) rfl (wanted_none rfl _) (exec_move (.tmp 5) (.pointer (some ⟨p, 0, none⟩)) rfl (hE 5 (.pointer (some ⟨p, 0, none⟩)) (by kernel_rfl) (by kernel_rfl))) rfl) ?_
    refine fsteps_cons 2 rfl (fun a u hE hD hk => f_call (o := ⟨some 26, _, _, _, _, _⟩) 13 #[.pointer (some ⟨p, 0, none⟩)] rfl (wanted_none rfl _) (exec_call 13 _ [.tmp 25] _ [.pointer (some ⟨p, 0, none⟩)] Try.func13 (by kernel_rfl) (by kernel_rfl) rfl (show [a.eval (.tmp 25)] = [.pointer (some ⟨p, 0, none⟩)] from (by rw [show a.eval (.tmp 25) = .pointer (some ⟨p, 0, none⟩) from (hD 0 25 (by kernel_rfl))] <;> rfl)) u) ((orders_any u F p X (HL2.out.kept hk) HX.out).mono (fun e w' ⟨v, h1, h2, h3⟩ => ⟨v, h1, ⟨h2.1, fun b hb => Nat.le_trans hk.size (h2.2 b hb)⟩, h3⟩))) ?_
    exact fsteps_nil
  intro gv w3 hV k3
  rw [show dstsOf _ 2 = [25, 26] by kernel_rfl]
  simp only [List.foldl_cons, List.foldl_nil, List.setIfInBounds_toArray, List.set_cons_succ, List.set_cons_zero, List.drop_succ_cons, List.drop_zero]
  have hv26 : (.sl w2.heap.size 25 9 X.length (ords (X.map (·.o))) : Kn).p (gv 26) w3 := hV 1 26 (by kernel_rfl)
  generalize gv 26 = v26 at hv26 ⊢
  clear hV
  refine l_val (o := ⟨some 6, _, _, _, _, _⟩) (v26) rfl (exec_assign (.tmp 26) (v26) rfl (by kernel_rfl)) ?_
  simp only [Act.put, List.setIfInBounds_toArray, List.set_cons_succ, List.set_cons_zero]
  refine wpList_nil ?_
  have HV := Lib.hid hv26.1
  have HW := Lib.hid hv26.2
  have HFL : Hid (∀ b, F b → b < w2.heap.size) := HL2.out.2.1
  have HL3 := Lib.hid (HL2.out.kept k3)
  have kw3 := kw2.trans k3
  have z3 := k3.size
  have hlen := HX.out.len
  clear hv26 HL2 kw2 k3
  obtain ⟨nx, hnx⟩ : ∃ nx, X.length = nx := ⟨_, rfl⟩
  rw [hnx] at HV hlen
  have HNX := Lib.hid hnx
  clear hnx
  by_cases h0 : nx = 0
  · subst h0
    have hnil : X = [] := List.eq_nil_of_length_eq_zero HNX.out
    subst hnil
    go_upto_region 6 with fail
    refine wp_text 3 [.eq (v26), .eq (.int .i64 (0 : Int)), .eq (.bool true)] rfl (by kernel_rfl) ?_ ?_
    · refine fsteps_cons 1 rfl (fun a u hE hD hk => f_val (o := ⟨some 27, _, _, _, _, _⟩) (v26) rfl (wanted_none rfl _) (exec_move (.tmp 6) (v26) rfl (hE 6 (v26) (by kernel_rfl) (by kernel_rfl))) rfl) ?_
      refine fsteps_cons 2 rfl (fun a u hE hD hk => f_val (o := ⟨some 28, _, _, _, _, _⟩) (.int .i64 (0 : Int)) rfl (wanted_none rfl _) (exec_lenS (.tmp 27) slO (v26) (0) _ _ rfl (hD 0 27 (by kernel_rfl)) HV.out) rfl) ?_
      refine fsteps_cons 3 rfl (fun a u hE hD hk => f_as (show ((decide (((0 : Int) : Int) = (0 : Int))) : Bool) = true from rfl) (f_val (o := ⟨some 29, _, _, _, _, _⟩) (.bool (decide (((0 : Int) : Int) = (0 : Int)))) rfl (wanted_none rfl _) (exec_eqn (p := (0 : Int)) (q := 0) rfl (hD 1 28 (by kernel_rfl)) rfl) rfl)) ?_
      exact fsteps_nil
    intro gv w4 hV k4
    rw [show dstsOf _ 3 = [27, 28, 29] by kernel_rfl]
    simp only [List.foldl_cons, List.foldl_nil, List.setIfInBounds_toArray, List.set_cons_succ, List.set_cons_zero, List.drop_succ_cons, List.drop_zero]
    rw [show gv 29 = .bool true from hV 2 29 (by kernel_rfl)]
    clear hV
    refine wpList_nil ?_
    have HL4 := Lib.hid (HL3.out.kept k4)
    have kw4 := kw3.trans k4
    clear HL3 kw3 k4
    go_upto_region 7 with fail
    refine wp_region_lit ?_
    refine l_val (o := ⟨some 31, _, _, _, _, _⟩) (.pointer (some ⟨p, 0, none⟩)) rfl (exec_move (.tmp 5) (.pointer (some ⟨p, 0, none⟩)) rfl (by kernel_rfl)) ?_
    simp only [Act.put, List.setIfInBounds_toArray, List.set_cons_succ, List.set_cons_zero]
    refine l_call (o := ⟨some 32, _, _, _, _, _⟩) 19 #[.pointer (some ⟨p, 0, none⟩), .int .i64 0, .int .i64 0] rfl (exec_call 19 _ [.tmp 31, .const (.int .i64 0), .const (.int .i64 0)] _ _ Try.func19 (by kernel_rfl) (by kernel_rfl) rfl (by kernel_rfl) _) ?_
    refine (remove_any w4 F p [] 0 0 HL4.out (by simp)).mono ?_
    rintro r w5 ⟨rfl, hL5, _, hkk⟩
    have k5 := hkk rfl
    refine ⟨_, rfl, ?_⟩
    simp only [Act.put, List.setIfInBounds_toArray, List.set_cons_succ, List.set_cons_zero]
    refine l_val (o := ⟨some 30, _, _, _, _, _⟩) (.tuple #[zeroO.v, .bool false]) rfl (exec_move (.tmp 32) (.tuple #[zeroO.v, .bool false]) rfl (by kernel_rfl)) ?_
    simp only [Act.put, List.setIfInBounds_toArray, List.set_cons_succ, List.set_cons_zero]
    refine l_val (o := ⟨some 33, _, _, _, _, _⟩) (zeroO.v) rfl (exec_extract (.tmp 30) [zeroO.v, .bool false] 0 (zeroO.v) rfl (by kernel_rfl) rfl) ?_
    simp only [Act.put, List.setIfInBounds_toArray, List.set_cons_succ, List.set_cons_zero]
    refine l_val (o := ⟨some 34, _, _, _, _, _⟩) (.bool false) rfl (exec_extract (.tmp 30) [zeroO.v, .bool false] 1 (.bool false) rfl (by kernel_rfl) rfl) ?_
    simp only [Act.put, List.setIfInBounds_toArray, List.set_cons_succ, List.set_cons_zero]
    refine l_alloc (o := ⟨some 7, _, _, _, _, _⟩) 25 zeroO.cells rfl rfl zO ?_
    intro w6 hB6 z6 k6
    simp only [Act.put, List.setIfInBounds_toArray, List.set_cons_succ, List.set_cons_zero]
    refine l_setS (o := ⟨none, _, _, _, _, _⟩) 25 w5.heap.size 25 zeroO.cells zeroO.cells (.tmp 7) (.tmp 33) rfl rfl (by kernel_rfl) (by kernel_rfl) hB6 (by rw [Ord.len9]; exact ord_size) rfl (Ord.one1 _) ?_
    intro w7 hB7 hk7 hs7
    simp only [Act.put]
    refine l_val (o := ⟨some 8, _, _, _, _, _⟩) (.bool false) rfl (exec_assign (.tmp 34) (.bool false) rfl (by kernel_rfl)) ?_
    simp only [Act.put, List.setIfInBounds_toArray, List.set_cons_succ, List.set_cons_zero]
    refine wpList_nil ?_
    have k47 : Kept w4 w7 := (k5.trans k6).trans' hk7 (by have := k5.size; omega)
    have HL7 := Lib.hid (HL4.out.kept k47)
    have kw7 := kw4.trans k47
    clear HL4 kw4 hB6 hB7 hk7 k5 k6 k47 hkk hL5
    go_upto_region 8 with fail
    refine wp_text 15 [.eq (.bool false), .eq (.bool true), .eq (.bool true), .eq (.pointer (some ⟨p, 0, none⟩)), .eq (.int .i64 (seenM [])), .eq (.bool true), .eq (.bool true), .eq (.bool true), .eq (.pointer (some ⟨p, 0, none⟩)), .eq (.int .i64 (wholeM [])), .eq (.bool true), .eq (.bool true), .eq (.bool true), .eq (.bool true), .eq (.bool true)] rfl (by kernel_rfl) ?_ ?_
    · refine fsteps_cons 1 rfl (fun a u hE hD hk => f_val (o := ⟨some 35, _, _, _, _, _⟩) (.bool false) rfl (wanted_none rfl _) (exec_move (.tmp 8) (.bool false) rfl (hE 8 (.bool false) (by kernel_rfl) (by kernel_rfl))) rfl) ?_
      refine fsteps_cons 2 rfl (fun a u hE hD hk => f_val (o := ⟨some 36, _, _, _, _, _⟩) (.bool true) rfl (wanted_none rfl _) (exec_not _ (.tmp 35) false rfl (hD 0 35 (by kernel_rfl))) rfl) ?_
      refine fsteps_cons 3 rfl (fun a u hE hD hk => f_val (o := ⟨some 37, _, _, _, _, _⟩) (.bool true) rfl (wanted_none rfl _) (exec_move (.tmp 36) (.bool true) rfl (hD 1 36 (by kernel_rfl))) rfl) ?_
      refine fsteps_cons 4 rfl (fun a u hE hD hk => f_val (o := ⟨some 38, _, _, _, _, _⟩) (.pointer (some ⟨p, 0, none⟩)) rfl (wanted_at (b := true) true rfl rfl (hD 2 37 (by kernel_rfl))) (exec_move (.tmp 5) (.pointer (some ⟨p, 0, none⟩)) rfl (hE 5 (.pointer (some ⟨p, 0, none⟩)) (by kernel_rfl) (by kernel_rfl))) rfl) ?_
      refine fsteps_cons 5 rfl (fun a u hE hD hk => f_call (o := ⟨some 39, _, _, _, _, _⟩) 12 #[.pointer (some ⟨p, 0, none⟩)] rfl (wanted_at (b := true) true rfl rfl (hD 2 37 (by kernel_rfl))) (exec_call 12 _ [.tmp 38] _ [.pointer (some ⟨p, 0, none⟩)] Try.func12 (by kernel_rfl) (by kernel_rfl) rfl (show [a.eval (.tmp 38)] = [.pointer (some ⟨p, 0, none⟩)] from (by rw [show a.eval (.tmp 38) = .pointer (some ⟨p, 0, none⟩) from (hD 3 38 (by kernel_rfl))] <;> rfl)) u) (seen_any u F p [] (HL7.out.kept hk) HX.out)) ?_
      refine fsteps_cons 6 rfl (fun a u hE hD hk => f_as (show ((decide (((seenM []) : Int) = (0 : Int))) : Bool) = true from rfl) (f_val (o := ⟨some 40, _, _, _, _, _⟩) (.bool (decide (((seenM []) : Int) = (0 : Int)))) rfl (wanted_at (b := true) true rfl rfl (hD 2 37 (by kernel_rfl))) (exec_eqn (p := (seenM [])) (q := 0) rfl (hD 4 39 (by kernel_rfl)) rfl) rfl)) ?_
      refine fsteps_cons 7 rfl (fun a u hE hD hk => f_val (o := ⟨some 41, _, _, _, _, _⟩) (.bool true) rfl (wanted_none rfl _) (exec_pick (.tmp 37) (.tmp 40) (.const (.bool false)) (.bool true) rfl (hD 2 37 (by kernel_rfl)) (hD 5 40 (by kernel_rfl))) rfl) ?_
      refine fsteps_cons 8 rfl (fun a u hE hD hk => f_val (o := ⟨some 42, _, _, _, _, _⟩) (.bool true) rfl (wanted_none rfl _) (exec_move (.tmp 41) (.bool true) rfl (hD 6 41 (by kernel_rfl))) rfl) ?_
      refine fsteps_cons 9 rfl (fun a u hE hD hk => f_val (o := ⟨some 43, _, _, _, _, _⟩) (.pointer (some ⟨p, 0, none⟩)) rfl (wanted_at (b := true) true rfl rfl (hD 7 42 (by kernel_rfl))) (exec_move (.tmp 5) (.pointer (some ⟨p, 0, none⟩)) rfl (hE 5 (.pointer (some ⟨p, 0, none⟩)) (by kernel_rfl) (by kernel_rfl))) rfl) ?_
      refine fsteps_cons 10 rfl (fun a u hE hD hk => f_call (o := ⟨some 44, _, _, _, _, _⟩) 25 #[.pointer (some ⟨p, 0, none⟩)] rfl (wanted_at (b := true) true rfl rfl (hD 7 42 (by kernel_rfl))) (exec_call 25 _ [.tmp 43] _ [.pointer (some ⟨p, 0, none⟩)] Try.func25 (by kernel_rfl) (by kernel_rfl) rfl (show [a.eval (.tmp 43)] = [.pointer (some ⟨p, 0, none⟩)] from (by rw [show a.eval (.tmp 43) = .pointer (some ⟨p, 0, none⟩) from (hD 8 43 (by kernel_rfl))] <;> rfl)) u) (whole_any u F p [] (HL7.out.kept hk) HX.out)) ?_
      refine fsteps_cons 11 rfl (fun a u hE hD hk => f_as (show ((decide (((wholeM []) : Int) = (0 : Int))) : Bool) = true from rfl) (f_val (o := ⟨some 45, _, _, _, _, _⟩) (.bool (decide (((wholeM []) : Int) = (0 : Int)))) rfl (wanted_at (b := true) true rfl rfl (hD 7 42 (by kernel_rfl))) (exec_eqn (p := (wholeM [])) (q := 0) rfl (hD 9 44 (by kernel_rfl)) rfl) rfl)) ?_
      refine fsteps_cons 12 rfl (fun a u hE hD hk => f_val (o := ⟨some 46, _, _, _, _, _⟩) (.bool true) rfl (wanted_none rfl _) (exec_pick (.tmp 42) (.tmp 45) (.const (.bool false)) (.bool true) rfl (hD 7 42 (by kernel_rfl)) (hD 10 45 (by kernel_rfl))) rfl) ?_
      refine fsteps_cons 13 rfl (fun a u hE hD hk => f_val (o := ⟨some 47, _, _, _, _, _⟩) (.bool true) rfl (wanted_none rfl _) (exec_move (.tmp 46) (.bool true) rfl (hD 11 46 (by kernel_rfl))) rfl) ?_
      refine fsteps_cons 14 rfl (fun a u hE hD hk => f_call (o := ⟨some 48, _, _, _, _, _⟩) 3 #[] rfl (wanted_at (b := true) true rfl rfl (hD 12 47 (by kernel_rfl))) (exec_call 3 _ [] _ [] Try.func3 (by kernel_rfl) (by kernel_rfl) rfl rfl u) (runs_gives u)) ?_
      refine fsteps_cons 15 rfl (fun a u hE hD hk => f_val (o := ⟨some 49, _, _, _, _, _⟩) (.bool true) rfl (wanted_none rfl _) (exec_pick (.tmp 47) (.tmp 48) (.const (.bool false)) (.bool true) rfl (hD 12 47 (by kernel_rfl)) (hD 13 48 (by kernel_rfl))) rfl) ?_
      exact fsteps_nil
    intro gv w8 hV k8
    rw [show dstsOf _ 15 = [35, 36, 37, 38, 39, 40, 41, 42, 43, 44, 45, 46, 47, 48, 49] by kernel_rfl]
    simp only [List.foldl_cons, List.foldl_nil, List.setIfInBounds_toArray, List.set_cons_succ, List.set_cons_zero, List.drop_succ_cons, List.drop_zero]
    rw [show gv 49 = .bool true from hV 14 49 (by kernel_rfl)]
    clear hV
    refine l_val (o := ⟨some 4, _, _, _, _, _⟩) (.bool true) rfl (exec_assign (.tmp 49) (.bool true) rfl (by kernel_rfl)) ?_
    simp only [Act.put, List.setIfInBounds_toArray, List.set_cons_succ, List.set_cons_zero]
    refine wpList_nil ?_
    go_wp2
    go_ret
    exact ⟨rfl, kw7.trans k8⟩
  · have hnx0 : 0 < nx := by omega
    obtain ⟨go, oo, c6, rfl⟩ := HV.out.some_ hnx0
    have hgo : w2.heap.size ≤ go := HW.out go rfl
    have hgol : go < w3.heap.size := HV.out.lt rfl
    obtain ⟨KI, hKI⟩ : ∃ K, wi at0 0 ((nx : Int) - 1) = K := ⟨_, rfl⟩
    have hK1 := wi_in at0 0 ((nx : Int) - 1) (by omega)
    rw [hKI] at hK1
    obtain ⟨k, hk0⟩ : ∃ k : Nat, KI = (k : Int) := ⟨KI.toNat, by omega⟩
    subst hk0
    have hkn : k < nx := by omega
    obtain ⟨e, he⟩ : ∃ e, X[k]? = some e := ⟨X[k]'(by rw [HNX.out]; exact hkn), List.getElem?_eq_getElem (by rw [HNX.out]; exact hkn)⟩
    have HEI := Lib.hid he
    have HKI := Lib.hid hKI
    have hbe := HX.out.bound (List.mem_of_getElem? he)
    have heo : (X.map (·.o))[k]? = some e.o := by rw [List.getElem?_map, he]; rfl
    have HO3 : Hid (w3.rangeAt go (oo + k * 9) e.o.cells) := HV.out.rngO k e.o heo
    obtain ⟨er1, er2⟩ := erase_sums he
    have HER1 := Lib.hid er1
    have HER2 := Lib.hid er2
    have HXE := Lib.hid (erase_good HX.out k)
    have HR1 := Lib.hid (remove_is HU.out he)
    have HR2 := Lib.hid (remove_gone HU.out he)
    have hwh := whole_ge HX.out.ok
    have hfew := HX.out.few
    have HLE : Hid ((X.eraseIdx k).length = nx - 1) := by show _ = _; rw [List.length_eraseIdx, if_pos (by rw [HNX.out]; exact hkn), HNX.out]
    clear he heo hKI er1 er2 HW
    go_upto_region 6 with fail
    refine wp_text 3 [.eq (.slice (some ⟨go, oo, none⟩) nx c6), .eq (.int .i64 (nx : Int)), .eq (.bool false)] rfl (by kernel_rfl) ?_ ?_
    · refine fsteps_cons 1 rfl (fun a u hE hD hk => f_val (o := ⟨some 27, _, _, _, _, _⟩) (.slice (some ⟨go, oo, none⟩) nx c6) rfl (wanted_none rfl _) (exec_move (.tmp 6) (.slice (some ⟨go, oo, none⟩) nx c6) rfl (hE 6 (.slice (some ⟨go, oo, none⟩) nx c6) (by kernel_rfl) (by kernel_rfl))) rfl) ?_
      refine fsteps_cons 2 rfl (fun a u hE hD hk => f_val (o := ⟨some 28, _, _, _, _, _⟩) (.int .i64 (nx : Int)) rfl (wanted_none rfl _) (exec_len (.tmp 27) _ _ slO.und (some ⟨go, oo, none⟩) nx c6 rfl (hD 0 27 (by kernel_rfl))) rfl) ?_
      refine fsteps_cons 3 rfl (fun a u hE hD hk => f_as (show ((decide (((nx : Int) : Int) = (0 : Int))) : Bool) = false from decide_eq_false (by omega)) (f_val (o := ⟨some 29, _, _, _, _, _⟩) (.bool (decide (((nx : Int) : Int) = (0 : Int)))) rfl (wanted_none rfl _) (exec_eqn (p := (nx : Int)) (q := 0) rfl (hD 1 28 (by kernel_rfl)) rfl) rfl)) ?_
      exact fsteps_nil
    intro gv w4 hV k4
    rw [show dstsOf _ 3 = [27, 28, 29] by kernel_rfl]
    simp only [List.foldl_cons, List.foldl_nil, List.setIfInBounds_toArray, List.set_cons_succ, List.set_cons_zero, List.drop_succ_cons, List.drop_zero]
    rw [show gv 29 = .bool false from hV 2 29 (by kernel_rfl)]
    clear hV
    refine wpList_nil ?_
    go_upto_region 9 with fail
    refine wp_text 5 [.eq (.int .i64 at0), .eq (.slice (some ⟨go, oo, none⟩) nx c6), .eq (.int .i64 (nx : Int)), .eq (.int .i64 ((nx : Int) - 1)), .eq (.int .i64 (k : Int))] rfl (by kernel_rfl) ?_ ?_
    · refine fsteps_cons 1 rfl (fun a u hE hD hk => f_val (o := ⟨some 50, _, _, _, _, _⟩) (.int .i64 at0) rfl (wanted_none rfl _) (exec_move (.tmp 1) (.int .i64 at0) rfl (hE 1 (.int .i64 at0) (by kernel_rfl) (by kernel_rfl))) rfl) ?_
      refine fsteps_cons 2 rfl (fun a u hE hD hk => f_val (o := ⟨some 51, _, _, _, _, _⟩) (.slice (some ⟨go, oo, none⟩) nx c6) rfl (wanted_none rfl _) (exec_move (.tmp 6) (.slice (some ⟨go, oo, none⟩) nx c6) rfl (hE 6 (.slice (some ⟨go, oo, none⟩) nx c6) (by kernel_rfl) (by kernel_rfl))) rfl) ?_
      refine fsteps_cons 3 rfl (fun a u hE hD hk => f_val (o := ⟨some 52, _, _, _, _, _⟩) (.int .i64 (nx : Int)) rfl (wanted_none rfl _) (exec_len (.tmp 51) _ _ slO.und (some ⟨go, oo, none⟩) nx c6 rfl (hD 1 51 (by kernel_rfl))) rfl) ?_
      refine fsteps_cons 4 rfl (fun a u hE hD hk => f_val (o := ⟨some 53, _, _, _, _, _⟩) (.int .i64 ((nx : Int) - 1)) rfl (wanted_none rfl _) (exec_subn ((nx : Int) - 1) rfl (hD 2 52 (by kernel_rfl)) rfl rfl (by omega) (by omega)) rfl) ?_
      refine fsteps_cons 5 rfl (fun a u hE hD hk => f_call (o := ⟨some 54, _, _, _, _, _⟩) 30 #[.int .i64 at0, .int .i64 0, .int .i64 ((nx : Int) - 1)] rfl (wanted_none rfl _) (exec_call 30 _ [.tmp 50, .const (.int .i64 0), .tmp 53] _ [.int .i64 at0, .int .i64 0, .int .i64 ((nx : Int) - 1)] Try.func30 (by kernel_rfl) (by kernel_rfl) rfl (show [a.eval (.tmp 50), a.eval (.const (.int .i64 0)), a.eval (.tmp 53)] = [.int .i64 at0, .int .i64 0, .int .i64 ((nx : Int) - 1)] from (by rw [show a.eval (.tmp 50) = .int .i64 at0 from (hD 0 50 (by kernel_rfl)), show a.eval (.tmp 53) = .int .i64 ((nx : Int) - 1) from (hD 3 53 (by kernel_rfl))] <;> rfl)) u) ((by rw [← HKI.out]; exact within_is at0 0 ((nx : Int) - 1) u (by omega) (by omega) (by omega)))) ?_
      exact fsteps_nil
    intro gv w5 hV k5
    rw [show dstsOf _ 5 = [50, 51, 52, 53, 54] by kernel_rfl]
    simp only [List.foldl_cons, List.foldl_nil, List.setIfInBounds_toArray, List.set_cons_succ, List.set_cons_zero, List.drop_succ_cons, List.drop_zero]
    rw [show gv 54 = .int .i64 (k : Int) from hV 4 54 (by kernel_rfl)]
    clear hV
    refine l_val (o := ⟨some 9, _, _, _, _, _⟩) (.int .i64 (k : Int)) rfl (exec_assign (.tmp 54) (.int .i64 (k : Int)) rfl (by kernel_rfl)) ?_
    simp only [Act.put, List.setIfInBounds_toArray, List.set_cons_succ, List.set_cons_zero]
    refine wpList_nil ?_
    have k35 := k4.trans k5
    have HL5 := Lib.hid (HL3.out.kept k35)
    clear k4 k5 HL3
    obtain ⟨W, hW⟩ : ∃ W, wholeM X = W := ⟨_, rfl⟩
    obtain ⟨SX, hSX⟩ : ∃ S, seenM X = S := ⟨_, rfl⟩
    rw [hW] at hwh hfew HER1
    rw [hSX] at hwh HER2
    have HWX := Lib.hid hW
    have HSX := Lib.hid hSX
    clear hW hSX
    go_upto_region 10 with fail
    refine wp_text 4 [.eq (.pointer (some ⟨p, 0, none⟩)), .eq (.int .i64 SX), .eq (.pointer (some ⟨p, 0, none⟩)), .eq (.int .i64 W)] rfl (by kernel_rfl) ?_ ?_
    · refine fsteps_cons 1 rfl (fun a u hE hD hk => f_val (o := ⟨some 55, _, _, _, _, _⟩) (.pointer (some ⟨p, 0, none⟩)) rfl (wanted_none rfl _) (exec_move (.tmp 5) (.pointer (some ⟨p, 0, none⟩)) rfl (hE 5 (.pointer (some ⟨p, 0, none⟩)) (by kernel_rfl) (by kernel_rfl))) rfl) ?_
      refine fsteps_cons 2 rfl (fun a u hE hD hk => f_call (o := ⟨some 56, _, _, _, _, _⟩) 12 #[.pointer (some ⟨p, 0, none⟩)] rfl (wanted_none rfl _) (exec_call 12 _ [.tmp 55] _ [.pointer (some ⟨p, 0, none⟩)] Try.func12 (by kernel_rfl) (by kernel_rfl) rfl (show [a.eval (.tmp 55)] = [.pointer (some ⟨p, 0, none⟩)] from (by rw [show a.eval (.tmp 55) = .pointer (some ⟨p, 0, none⟩) from (hD 0 55 (by kernel_rfl))] <;> rfl)) u) ((by rw [← HSX.out]; exact seen_any u F p X (HL5.out.kept hk) HX.out))) ?_
      refine fsteps_cons 3 rfl (fun a u hE hD hk => f_val (o := ⟨some 57, _, _, _, _, _⟩) (.pointer (some ⟨p, 0, none⟩)) rfl (wanted_none rfl _) (exec_move (.tmp 5) (.pointer (some ⟨p, 0, none⟩)) rfl (hE 5 (.pointer (some ⟨p, 0, none⟩)) (by kernel_rfl) (by kernel_rfl))) rfl) ?_
      refine fsteps_cons 4 rfl (fun a u hE hD hk => f_call (o := ⟨some 58, _, _, _, _, _⟩) 25 #[.pointer (some ⟨p, 0, none⟩)] rfl (wanted_none rfl _) (exec_call 25 _ [.tmp 57] _ [.pointer (some ⟨p, 0, none⟩)] Try.func25 (by kernel_rfl) (by kernel_rfl) rfl (show [a.eval (.tmp 57)] = [.pointer (some ⟨p, 0, none⟩)] from (by rw [show a.eval (.tmp 57) = .pointer (some ⟨p, 0, none⟩) from (hD 2 57 (by kernel_rfl))] <;> rfl)) u) ((by rw [← HWX.out]; exact whole_any u F p X (HL5.out.kept hk) HX.out))) ?_
      exact fsteps_nil
    intro gv w6 hV k6
    rw [show dstsOf _ 4 = [55, 56, 57, 58] by kernel_rfl]
    simp only [List.foldl_cons, List.foldl_nil, List.setIfInBounds_toArray, List.set_cons_succ, List.set_cons_zero, List.drop_succ_cons, List.drop_zero]
    rw [show gv 56 = .int .i64 SX from hV 1 56 (by kernel_rfl)]
    rw [show gv 58 = .int .i64 W from hV 3 58 (by kernel_rfl)]
    clear hV
    refine l_val (o := ⟨some 10, _, _, _, _, _⟩) (.int .i64 SX) rfl (exec_assign (.tmp 56) (.int .i64 SX) rfl (by kernel_rfl)) ?_
    simp only [Act.put, List.setIfInBounds_toArray, List.set_cons_succ, List.set_cons_zero]
    refine l_val (o := ⟨some 11, _, _, _, _, _⟩) (.int .i64 W) rfl (exec_assign (.tmp 58) (.int .i64 W) rfl (by kernel_rfl)) ?_
    simp only [Act.put, List.setIfInBounds_toArray, List.set_cons_succ, List.set_cons_zero]
    refine wpList_nil ?_
    have k36 := k35.trans k6
    have HL6 := Lib.hid (HL5.out.kept k6)
    have HO6 := Lib.hid (range_kept HO3.out k36)
    have HV6 := Lib.hid (HV.out.kept k36)
    have kw6 := kw3.trans k36
    have z6 := k36.size
    have hnF : ¬ F go := fun h => by have := HFL.out go h; omega
    have HFL6 : Hid (∀ b, F b → b < w6.heap.size) := HL6.out.2.1
    clear HL5 HO3 HV k35 k6 k36 kw3 HKI HWX HSX
    go_upto_region 11 with fail
    go_cut [12, 13] (fun a b wx => ∃ b12 : Nat, a = .pointer (some ⟨b12, 0, none⟩) ∧ b = .bool true ∧ w6.heap.size ≤ b12 ∧ b12 < wx.heap.size ∧ Hid (Lvl 58 61 wx F p (X.eraseIdx k)) ∧ Hid (wx.rangeAt b12 0 e.o.cells) ∧ Keep F w6 wx)
    case first =>
      refine wp_freeX 16 11 14 _ _ [0, 1, 2, 3, 4, 5, 6, 7, 8, 9, 10, 15] [.eq (.pointer (some ⟨p, 0, none⟩)), .eq (.slice (some ⟨go, oo, none⟩) nx c6), .eq (.int .i64 (k : Int)), .eq (.pointer (some ⟨go, oo + k * 9, none⟩)), .eq (.pointer (some ⟨go, oo + k * 9, none⟩)), .eq (.int .i64 e.o.tr), .eq (.slice (some ⟨go, oo, none⟩) nx c6), .eq (.int .i64 (k : Int)), .eq (.pointer (some ⟨go, oo + k * 9, none⟩)), .eq (.pointer (some ⟨go, oo + k * 9 + 1, none⟩)), .eq (.int .i64 e.o.id), .both (.tuple #[e.o.v, .bool true]) (fun u => Lvl 58 61 u F p (X.eraseIdx k)) (fun w w' h hk => h.kept hk), .eq (.tuple #[e.o.v, .bool true]), .eq (e.o.v), .eq (.bool true), .fresh w6.heap.size 25 zeroO.cells] (F) (by kernel_rfl) rfl (by omega) (by omega) (by kernel_rfl) (by kernel_rfl) rfl rfl ?_ ?_ (fun a u hE hD hk => v_call (o := ⟨some 71, _, _, _, _, _⟩) 19 #[.pointer (some ⟨p, 0, none⟩), .int .i64 e.o.tr, .int .i64 e.o.id] rfl (wanted_none rfl _) (exec_call 19 _ [.tmp 60, .tmp 65, .tmp 70] _ [.pointer (some ⟨p, 0, none⟩), .int .i64 e.o.tr, .int .i64 e.o.id] Try.func19 (by kernel_rfl) (by kernel_rfl) rfl (show [a.eval (.tmp 60), a.eval (.tmp 65), a.eval (.tmp 70)] = [.pointer (some ⟨p, 0, none⟩), .int .i64 e.o.tr, .int .i64 e.o.id] from (by rw [show a.eval (.tmp 60) = .pointer (some ⟨p, 0, none⟩) from (hD 0 60 (by kernel_rfl)), show a.eval (.tmp 65) = .int .i64 e.o.tr from (hD 5 65 (by kernel_rfl)), show a.eval (.tmp 70) = .int .i64 e.o.id from (hD 10 70 (by kernel_rfl))] <;> rfl)) u) ((remove_any u F p X e.o.tr e.o.id (HL6.out.kept hk) HX.out.len).mono (fun r w' ⟨h1, h2, h3, _⟩ => ⟨_, by rw [HR1.out] at h1; exact h1, ⟨rfl, by rw [HR1.out] at h2; exact h2⟩, h3⟩))) ?_ ?_
      · intro i hi
        have hi2 : i = 0 ∨ i = 1 ∨ i = 2 ∨ i = 3 ∨ i = 4 ∨ i = 5 ∨ i = 6 ∨ i = 7 ∨ i = 8 ∨ i = 9 ∨ i = 10 ∨ i = 15 := by simpa using hi
        rcases hi2 with rfl | rfl | rfl | rfl | rfl | rfl | rfl | rfl | rfl | rfl | rfl | rfl
        · exact Kn.safe_eq _ _
        · exact Kn.safe_eq _ _
        · exact Kn.safe_eq _ _
        · exact Kn.safe_eq _ _
        · exact Kn.safe_eq _ _
        · exact Kn.safe_eq _ _
        · exact Kn.safe_eq _ _
        · exact Kn.safe_eq _ _
        · exact Kn.safe_eq _ _
        · exact Kn.safe_eq _ _
        · exact Kn.safe_eq _ _
        · exact Kn.safe_fresh (fun b hb h => by have := HFL6.out b h; omega)
      · refine vsteps_cons 1 rfl (fun a u hE hD hk => f_val (o := ⟨some 60, _, _, _, _, _⟩) (.pointer (some ⟨p, 0, none⟩)) rfl (wanted_none rfl _) (exec_move (.tmp 5) (.pointer (some ⟨p, 0, none⟩)) rfl (hE 5 (.pointer (some ⟨p, 0, none⟩)) (by kernel_rfl) (by kernel_rfl))) rfl) ?_
        refine vsteps_cons 2 rfl (fun a u hE hD hk => f_val (o := ⟨some 61, _, _, _, _, _⟩) (.slice (some ⟨go, oo, none⟩) nx c6) rfl (wanted_none rfl _) (exec_move (.tmp 6) (.slice (some ⟨go, oo, none⟩) nx c6) rfl (hE 6 (.slice (some ⟨go, oo, none⟩) nx c6) (by kernel_rfl) (by kernel_rfl))) rfl) ?_
        refine vsteps_cons 3 rfl (fun a u hE hD hk => f_val (o := ⟨some 62, _, _, _, _, _⟩) (.int .i64 (k : Int)) rfl (wanted_none rfl _) (exec_move (.tmp 9) (.int .i64 (k : Int)) rfl (hE 9 (.int .i64 (k : Int)) (by kernel_rfl) (by kernel_rfl))) rfl) ?_
        refine vsteps_cons 4 rfl (fun a u hE hD hk => f_val (o := ⟨some 63, _, _, _, _, _⟩) (.pointer (some ⟨go, oo + k * 9, none⟩)) rfl (wanted_none rfl _) (exec_ixo slO (.tmp 61) (.tmp 62) (go) (oo) nx c6 k (oo + k * 9) ((k : Int)) rfl (hD 1 61 (by kernel_rfl)) (hD 2 62 (by kernel_rfl)) (by first | rfl | omega) (hkn) (by first | rfl | omega)) rfl) ?_
        refine vsteps_cons 5 rfl (fun a u hE hD hk => f_val (o := ⟨some 64, _, _, _, _, _⟩) (.pointer (some ⟨go, oo + k * 9, none⟩)) rfl (wanted_none rfl _) (exec_fldo 25 0 0 (.tmp 63) (go) (oo + k * 9) (oo + k * 9) rfl (hD 3 63 (by kernel_rfl)) (by kernel_rfl) rfl) rfl) ?_
        refine vsteps_cons 6 rfl (fun a u hE hD hk => f_val (o := ⟨some 65, _, _, _, _, _⟩) (.int .i64 e.o.tr) rfl (wanted_none rfl _) (exec_loadi 3 Try.underlying3 (.tmp 64) ⟨go, oo + k * 9, none⟩ (.int .i64 e.o.tr) rfl (hD 4 64 (by kernel_rfl)) (range_int (range_keep HO6.out hk (hnF)) 0 _ rfl)) rfl) ?_
        refine vsteps_cons 7 rfl (fun a u hE hD hk => f_val (o := ⟨some 66, _, _, _, _, _⟩) (.slice (some ⟨go, oo, none⟩) nx c6) rfl (wanted_none rfl _) (exec_move (.tmp 6) (.slice (some ⟨go, oo, none⟩) nx c6) rfl (hE 6 (.slice (some ⟨go, oo, none⟩) nx c6) (by kernel_rfl) (by kernel_rfl))) rfl) ?_
        refine vsteps_cons 8 rfl (fun a u hE hD hk => f_val (o := ⟨some 67, _, _, _, _, _⟩) (.int .i64 (k : Int)) rfl (wanted_none rfl _) (exec_move (.tmp 9) (.int .i64 (k : Int)) rfl (hE 9 (.int .i64 (k : Int)) (by kernel_rfl) (by kernel_rfl))) rfl) ?_
        refine vsteps_cons 9 rfl (fun a u hE hD hk => f_val (o := ⟨some 68, _, _, _, _, _⟩) (.pointer (some ⟨go, oo + k * 9, none⟩)) rfl (wanted_none rfl _) (exec_ixo slO (.tmp 66) (.tmp 67) (go) (oo) nx c6 k (oo + k * 9) ((k : Int)) rfl (hD 6 66 (by kernel_rfl)) (hD 7 67 (by kernel_rfl)) (by first | rfl | omega) (hkn) (by first | rfl | omega)) rfl) ?_
        refine vsteps_cons 10 rfl (fun a u hE hD hk => f_val (o := ⟨some 69, _, _, _, _, _⟩) (.pointer (some ⟨go, oo + k * 9 + 1, none⟩)) rfl (wanted_none rfl _) (exec_fldo 25 1 1 (.tmp 68) (go) (oo + k * 9) (oo + k * 9 + 1) rfl (hD 8 68 (by kernel_rfl)) (by kernel_rfl) rfl) rfl) ?_
        refine vsteps_cons 11 rfl (fun a u hE hD hk => f_val (o := ⟨some 70, _, _, _, _, _⟩) (.int .i64 e.o.id) rfl (wanted_none rfl _) (exec_loadi 3 Try.underlying3 (.tmp 69) ⟨go, oo + k * 9 + 1, none⟩ (.int .i64 e.o.id) rfl (hD 9 69 (by kernel_rfl)) (range_int (range_keep HO6.out hk (hnF)) 1 _ rfl)) rfl) ?_
        refine vsteps_turn 12 rfl rfl ?_
        refine vsteps_cons 13 rfl (fun a u hE hD hk => f_val (o := ⟨some 59, _, _, _, _, _⟩) (.tuple #[e.o.v, .bool true]) rfl (wanted_none rfl _) (exec_move (.tmp 71) (.tuple #[e.o.v, .bool true]) rfl (hD 11 71 (by kernel_rfl)).1) rfl) ?_
        refine vsteps_cons 14 rfl (fun a u hE hD hk => f_val (o := ⟨some 72, _, _, _, _, _⟩) (e.o.v) rfl (wanted_none rfl _) (exec_extract (.tmp 59) [e.o.v, .bool true] 0 (e.o.v) rfl (hD 12 59 (by kernel_rfl)) rfl) rfl) ?_
        refine vsteps_cons 15 rfl (fun a u hE hD hk => f_val (o := ⟨some 73, _, _, _, _, _⟩) (.bool true) rfl (wanted_none rfl _) (exec_extract (.tmp 59) [e.o.v, .bool true] 1 (.bool true) rfl (hD 12 59 (by kernel_rfl)) rfl) rfl) ?_
        refine vsteps_cons 16 rfl (fun a u hE hD hk => f_new (o := ⟨some 12, _, _, _, _, _⟩) (.pointer (some ⟨u.heap.size, 0, none⟩)) _ rfl (wanted_none rfl _) (exec_alc 25 zeroO.cells rfl zO) ⟨_, rfl, hk.size, Blk.new u _ _⟩ ((Keep.refl _ u).alloc _)) ?_
        exact vsteps_nil
      · intro gv w7 hV k7
        rw [show dstsOf _ 16 = [60, 61, 62, 63, 64, 65, 66, 67, 68, 69, 70, 71, 59, 72, 73, 12] by kernel_rfl]
        simp only [List.foldl_cons, List.foldl_nil, List.setIfInBounds_toArray, List.set_cons_succ, List.set_cons_zero, List.drop_succ_cons, List.drop_zero]
        have hv12 : (.fresh w6.heap.size 25 zeroO.cells : Kn).p (gv 12) w7 := hV 15 12 (by kernel_rfl)
        generalize gv 12 = v12 at hv12 ⊢
        rw [show gv 72 = e.o.v from hV 13 72 (by kernel_rfl)]
        rw [show gv 73 = .bool true from hV 14 73 (by kernel_rfl)]
        have hi71 : (fun u => Lvl 58 61 u F p (X.eraseIdx k)) w7 := (hV 11 71 (by kernel_rfl)).2
        rw [show gv 71 = .tuple #[e.o.v, .bool true] from (hV 11 71 (by kernel_rfl)).1]
        clear hV
        obtain ⟨b12, rfl, hb12, hB12⟩ := hv12
        refine l_setS (o := ⟨none, _, _, _, _, _⟩) 25 b12 25 zeroO.cells e.o.cells (.tmp 12) (.tmp 72) rfl rfl (by kernel_rfl) (by kernel_rfl) hB12 (by rw [Ord.len9]; exact ord_size) (by rw [Ord.len9, Ord.len9]) (Ord.one1 _) ?_
        intro w8 hC8 hk8 hs8
        simp only [Act.put]
        refine l_val (o := ⟨some 13, _, _, _, _, _⟩) (.bool true) rfl (exec_assign (.tmp 73) (.bool true) rfl (by kernel_rfl)) ?_
        simp only [Act.put, List.setIfInBounds_toArray, List.set_cons_succ, List.set_cons_zero]
        refine wpList_nil ?_
        have hbF : ¬ F b12 := fun h => by have := HFL6.out b12 h; omega
        have z7 := k7.size
        have l12 := hB12.lt
        go_wp2
        go_meet
        case rel => exact ⟨b12, rfl, rfl, hb12, by omega, hi71.keep hk8 (fun b hb e => hbF (by rw [← e]; exact hb)), blk_range hC8, k7.trans hk8 (fun b hb e => by subst e; omega)⟩
      · intro gv w7 hV k7
        rw [show dstsX _ 16 14 = [60, 61, 62, 63, 64, 65, 66, 67, 68, 69, 70, 71, 59, 72, 12] by kernel_rfl]
        simp only [List.foldl_cons, List.foldl_nil, List.setIfInBounds_toArray, List.set_cons_succ, List.set_cons_zero, List.drop_succ_cons, List.drop_zero]
        rw [show gv 59 = .tuple #[e.o.v, .bool true] from hV 12 59 (by kernel_rfl)]
        have hv12 : (.fresh w6.heap.size 25 zeroO.cells : Kn).p (gv 12) w7 := hV 15 12 (by kernel_rfl)
        generalize gv 12 = v12 at hv12 ⊢
        rw [show gv 72 = e.o.v from hV 13 72 (by kernel_rfl)]
        have hi71 : (fun u => Lvl 58 61 u F p (X.eraseIdx k)) w7 := (hV 11 71 (by kernel_rfl)).2
        rw [show gv 71 = .tuple #[e.o.v, .bool true] from (hV 11 71 (by kernel_rfl)).1]
        clear hV
        obtain ⟨b12, rfl, hb12, hB12⟩ := hv12
        refine l_setS (o := ⟨none, _, _, _, _, _⟩) 25 b12 25 zeroO.cells e.o.cells (.tmp 12) (.tmp 72) rfl rfl (by kernel_rfl) (by kernel_rfl) hB12 (by rw [Ord.len9]; exact ord_size) (by rw [Ord.len9, Ord.len9]) (Ord.one1 _) ?_
        intro w8 hC8 hk8 hs8
        simp only [Act.put]
        refine l_val (o := ⟨some 73, _, _, _, _, _⟩) (.bool true) rfl (exec_extract (.tmp 59) [e.o.v, .bool true] 1 (.bool true) rfl (by kernel_rfl) rfl) ?_
        simp only [Act.put, List.setIfInBounds_toArray, List.set_cons_succ, List.set_cons_zero]
        refine l_val (o := ⟨some 13, _, _, _, _, _⟩) (.bool true) rfl (exec_assign (.tmp 73) (.bool true) rfl (by kernel_rfl)) ?_
        simp only [Act.put, List.setIfInBounds_toArray, List.set_cons_succ, List.set_cons_zero]
        refine wpList_nil ?_
        have hbF : ¬ F b12 := fun h => by have := HFL6.out b12 h; omega
        have z7 := k7.size
        have l12 := hB12.lt
        go_wp2
        go_meet
        case rel => exact ⟨b12, rfl, rfl, hb12, by omega, hi71.keep hk8 (fun b hb e => hbF (by rw [← e]; exact hb)), blk_range hC8, k7.trans hk8 (fun b hb e => by subst e; omega)⟩
    obtain ⟨b12, rfl, rfl, hb12, l12, HL8, HC8, k8⟩ := hcut
    obtain ⟨w8, hw8⟩ : ∃ w8, wc = w8 := ⟨_, rfl⟩
    rw [hw8] at HL8 HC8 k8 l12 ⊢
    clear hw8
    have z8 := k8.size
    have hbF : ¬ F b12 := fun h => by have := HFL6.out b12 h; omega
    have HO8 := Lib.hid (range_keep HO6.out k8 hnF)
    have HV8 := Lib.hid (HV6.out.keep k8 (fun b hb h => by simp [Value.ownBlock] at hb; subst hb; exact hnF h))
    have kw8 : Kept w w8 := Keep.trans kw6 k8 (fun b hb h => by have := HF.out b h; omega)
    clear k8 HL6 HO6 HV6 kw6 HR1
    have hb12F : ¬ F b12 := hbF
    go_upto_region 12 with fail
    go_cut [14, 15] (fun a b wx => b = .bool false ∧ Kept w8 wx)
    case first =>
      refine wp_freeX 16 11 14 _ _ [0, 1, 2, 3, 4, 5, 6, 7, 8, 9, 10, 15] [.eq (.pointer (some ⟨p, 0, none⟩)), .eq (.slice (some ⟨go, oo, none⟩) nx c6), .eq (.int .i64 (k : Int)), .eq (.pointer (some ⟨go, oo + k * 9, none⟩)), .eq (.pointer (some ⟨go, oo + k * 9, none⟩)), .eq (.int .i64 e.o.tr), .eq (.slice (some ⟨go, oo, none⟩) nx c6), .eq (.int .i64 (k : Int)), .eq (.pointer (some ⟨go, oo + k * 9, none⟩)), .eq (.pointer (some ⟨go, oo + k * 9 + 1, none⟩)), .eq (.int .i64 e.o.id), .both (.tuple #[zeroO.v, .bool false]) (fun u => True) (fun w w' h hk => trivial), .eq (.tuple #[zeroO.v, .bool false]), .eq (zeroO.v), .eq (.bool false), .fresh w8.heap.size 25 zeroO.cells] ((fun _ => False)) (by kernel_rfl) rfl (by omega) (by omega) (by kernel_rfl) (by kernel_rfl) rfl rfl ?_ ?_ (fun a u hE hD hk => v_call (o := ⟨some 86, _, _, _, _, _⟩) 19 #[.pointer (some ⟨p, 0, none⟩), .int .i64 e.o.tr, .int .i64 e.o.id] rfl (wanted_none rfl _) (exec_call 19 _ [.tmp 75, .tmp 80, .tmp 85] _ [.pointer (some ⟨p, 0, none⟩), .int .i64 e.o.tr, .int .i64 e.o.id] Try.func19 (by kernel_rfl) (by kernel_rfl) rfl (show [a.eval (.tmp 75), a.eval (.tmp 80), a.eval (.tmp 85)] = [.pointer (some ⟨p, 0, none⟩), .int .i64 e.o.tr, .int .i64 e.o.id] from (by rw [show a.eval (.tmp 75) = .pointer (some ⟨p, 0, none⟩) from (hD 0 75 (by kernel_rfl)), show a.eval (.tmp 80) = .int .i64 e.o.tr from (hD 5 80 (by kernel_rfl)), show a.eval (.tmp 85) = .int .i64 e.o.id from (hD 10 85 (by kernel_rfl))] <;> rfl)) u) ((remove_any u F p (X.eraseIdx k) e.o.tr e.o.id (HL8.out.kept hk) HXE.out.len).mono (fun r w' ⟨h1, _, _, h4⟩ => ⟨_, by rw [HR2.out] at h1; exact h1, ⟨rfl, trivial⟩, h4 (by rw [HR2.out])⟩))) ?_ ?_
      · intro i hi
        have hi2 : i = 0 ∨ i = 1 ∨ i = 2 ∨ i = 3 ∨ i = 4 ∨ i = 5 ∨ i = 6 ∨ i = 7 ∨ i = 8 ∨ i = 9 ∨ i = 10 ∨ i = 15 := by simpa using hi
        rcases hi2 with rfl | rfl | rfl | rfl | rfl | rfl | rfl | rfl | rfl | rfl | rfl | rfl
        · exact Kn.safe_eq _ _
        · exact Kn.safe_eq _ _
        · exact Kn.safe_eq _ _
        · exact Kn.safe_eq _ _
        · exact Kn.safe_eq _ _
        · exact Kn.safe_eq _ _
        · exact Kn.safe_eq _ _
        · exact Kn.safe_eq _ _
        · exact Kn.safe_eq _ _
        · exact Kn.safe_eq _ _
        · exact Kn.safe_eq _ _
        · exact Kn.safe_fresh (fun b hb h => h)
      · refine vsteps_cons 1 rfl (fun a u hE hD hk => f_val (o := ⟨some 75, _, _, _, _, _⟩) (.pointer (some ⟨p, 0, none⟩)) rfl (wanted_none rfl _) (exec_move (.tmp 5) (.pointer (some ⟨p, 0, none⟩)) rfl (hE 5 (.pointer (some ⟨p, 0, none⟩)) (by kernel_rfl) (by kernel_rfl))) rfl) ?_
        refine vsteps_cons 2 rfl (fun a u hE hD hk => f_val (o := ⟨some 76, _, _, _, _, _⟩) (.slice (some ⟨go, oo, none⟩) nx c6) rfl (wanted_none rfl _) (exec_move (.tmp 6) (.slice (some ⟨go, oo, none⟩) nx c6) rfl (hE 6 (.slice (some ⟨go, oo, none⟩) nx c6) (by kernel_rfl) (by kernel_rfl))) rfl) ?_
        refine vsteps_cons 3 rfl (fun a u hE hD hk => f_val (o := ⟨some 77, _, _, _, _, _⟩) (.int .i64 (k : Int)) rfl (wanted_none rfl _) (exec_move (.tmp 9) (.int .i64 (k : Int)) rfl (hE 9 (.int .i64 (k : Int)) (by kernel_rfl) (by kernel_rfl))) rfl) ?_
        refine vsteps_cons 4 rfl (fun a u hE hD hk => f_val (o := ⟨some 78, _, _, _, _, _⟩) (.pointer (some ⟨go, oo + k * 9, none⟩)) rfl (wanted_none rfl _) (exec_ixo slO (.tmp 76) (.tmp 77) (go) (oo) nx c6 k (oo + k * 9) ((k : Int)) rfl (hD 1 76 (by kernel_rfl)) (hD 2 77 (by kernel_rfl)) (by first | rfl | omega) (hkn) (by first | rfl | omega)) rfl) ?_
        refine vsteps_cons 5 rfl (fun a u hE hD hk => f_val (o := ⟨some 79, _, _, _, _, _⟩) (.pointer (some ⟨go, oo + k * 9, none⟩)) rfl (wanted_none rfl _) (exec_fldo 25 0 0 (.tmp 78) (go) (oo + k * 9) (oo + k * 9) rfl (hD 3 78 (by kernel_rfl)) (by kernel_rfl) rfl) rfl) ?_
        refine vsteps_cons 6 rfl (fun a u hE hD hk => f_val (o := ⟨some 80, _, _, _, _, _⟩) (.int .i64 e.o.tr) rfl (wanted_none rfl _) (exec_loadi 3 Try.underlying3 (.tmp 79) ⟨go, oo + k * 9, none⟩ (.int .i64 e.o.tr) rfl (hD 4 79 (by kernel_rfl)) (range_int (range_keep HO8.out hk (id)) 0 _ rfl)) rfl) ?_
        refine vsteps_cons 7 rfl (fun a u hE hD hk => f_val (o := ⟨some 81, _, _, _, _, _⟩) (.slice (some ⟨go, oo, none⟩) nx c6) rfl (wanted_none rfl _) (exec_move (.tmp 6) (.slice (some ⟨go, oo, none⟩) nx c6) rfl (hE 6 (.slice (some ⟨go, oo, none⟩) nx c6) (by kernel_rfl) (by kernel_rfl))) rfl) ?_
        refine vsteps_cons 8 rfl (fun a u hE hD hk => f_val (o := ⟨some 82, _, _, _, _, _⟩) (.int .i64 (k : Int)) rfl (wanted_none rfl _) (exec_move (.tmp 9) (.int .i64 (k : Int)) rfl (hE 9 (.int .i64 (k : Int)) (by kernel_rfl) (by kernel_rfl))) rfl) ?_
        refine vsteps_cons 9 rfl (fun a u hE hD hk => f_val (o := ⟨some 83, _, _, _, _, _⟩) (.pointer (some ⟨go, oo + k * 9, none⟩)) rfl (wanted_none rfl _) (exec_ixo slO (.tmp 81) (.tmp 82) (go) (oo) nx c6 k (oo + k * 9) ((k : Int)) rfl (hD 6 81 (by kernel_rfl)) (hD 7 82 (by kernel_rfl)) (by first | rfl | omega) (hkn) (by first | rfl | omega)) rfl) ?_
        refine vsteps_cons 10 rfl (fun a u hE hD hk => f_val (o := ⟨some 84, _, _, _, _, _⟩) (.pointer (some ⟨go, oo + k * 9 + 1, none⟩)) rfl (wanted_none rfl _) (exec_fldo 25 1 1 (.tmp 83) (go) (oo + k * 9) (oo + k * 9 + 1) rfl (hD 8 83 (by kernel_rfl)) (by kernel_rfl) rfl) rfl) ?_
        refine vsteps_cons 11 rfl (fun a u hE hD hk => f_val (o := ⟨some 85, _, _, _, _, _⟩) (.int .i64 e.o.id) rfl (wanted_none rfl _) (exec_loadi 3 Try.underlying3 (.tmp 84) ⟨go, oo + k * 9 + 1, none⟩ (.int .i64 e.o.id) rfl (hD 9 84 (by kernel_rfl)) (range_int (range_keep HO8.out hk (id)) 1 _ rfl)) rfl) ?_
        refine vsteps_turn 12 rfl rfl ?_
        refine vsteps_cons 13 rfl (fun a u hE hD hk => f_val (o := ⟨some 74, _, _, _, _, _⟩) (.tuple #[zeroO.v, .bool false]) rfl (wanted_none rfl _) (exec_move (.tmp 86) (.tuple #[zeroO.v, .bool false]) rfl (hD 11 86 (by kernel_rfl)).1) rfl) ?_
        refine vsteps_cons 14 rfl (fun a u hE hD hk => f_val (o := ⟨some 87, _, _, _, _, _⟩) (zeroO.v) rfl (wanted_none rfl _) (exec_extract (.tmp 74) [zeroO.v, .bool false] 0 (zeroO.v) rfl (hD 12 74 (by kernel_rfl)) rfl) rfl) ?_
        refine vsteps_cons 15 rfl (fun a u hE hD hk => f_val (o := ⟨some 88, _, _, _, _, _⟩) (.bool false) rfl (wanted_none rfl _) (exec_extract (.tmp 74) [zeroO.v, .bool false] 1 (.bool false) rfl (hD 12 74 (by kernel_rfl)) rfl) rfl) ?_
        refine vsteps_cons 16 rfl (fun a u hE hD hk => f_new (o := ⟨some 14, _, _, _, _, _⟩) (.pointer (some ⟨u.heap.size, 0, none⟩)) _ rfl (wanted_none rfl _) (exec_alc 25 zeroO.cells rfl zO) ⟨_, rfl, hk.size, Blk.new u _ _⟩ ((Keep.refl _ u).alloc _)) ?_
        exact vsteps_nil
      · intro gv w9 hV k9
        rw [show dstsOf _ 16 = [75, 76, 77, 78, 79, 80, 81, 82, 83, 84, 85, 86, 74, 87, 88, 14] by kernel_rfl]
        simp only [List.foldl_cons, List.foldl_nil, List.setIfInBounds_toArray, List.set_cons_succ, List.set_cons_zero, List.drop_succ_cons, List.drop_zero]
        have hv14 : (.fresh w8.heap.size 25 zeroO.cells : Kn).p (gv 14) w9 := hV 15 14 (by kernel_rfl)
        generalize gv 14 = v14 at hv14 ⊢
        rw [show gv 87 = zeroO.v from hV 13 87 (by kernel_rfl)]
        rw [show gv 88 = .bool false from hV 14 88 (by kernel_rfl)]
        clear hV
        obtain ⟨b14, rfl, hb14, hB14⟩ := hv14
        refine l_setS (o := ⟨none, _, _, _, _, _⟩) 25 b14 25 zeroO.cells zeroO.cells (.tmp 14) (.tmp 87) rfl rfl (by kernel_rfl) (by kernel_rfl) hB14 (by rw [Ord.len9]; exact ord_size) rfl (Ord.one1 _) ?_
        intro w10 hC10 hk10 hs10
        simp only [Act.put]
        refine l_val (o := ⟨some 15, _, _, _, _, _⟩) (.bool false) rfl (exec_assign (.tmp 88) (.bool false) rfl (by kernel_rfl)) ?_
        simp only [Act.put, List.setIfInBounds_toArray, List.set_cons_succ, List.set_cons_zero]
        refine wpList_nil ?_
        have k810 : Kept w8 w10 := Kept.trans' k9 hk10 (by omega)
        go_wp2
        go_meet
        case rel => exact ⟨rfl, k810⟩
      · intro gv w9 hV k9
        rw [show dstsX _ 16 14 = [75, 76, 77, 78, 79, 80, 81, 82, 83, 84, 85, 86, 74, 87, 14] by kernel_rfl]
        simp only [List.foldl_cons, List.foldl_nil, List.setIfInBounds_toArray, List.set_cons_succ, List.set_cons_zero, List.drop_succ_cons, List.drop_zero]
        rw [show gv 74 = .tuple #[zeroO.v, .bool false] from hV 12 74 (by kernel_rfl)]
        have hv14 : (.fresh w8.heap.size 25 zeroO.cells : Kn).p (gv 14) w9 := hV 15 14 (by kernel_rfl)
        generalize gv 14 = v14 at hv14 ⊢
        rw [show gv 87 = zeroO.v from hV 13 87 (by kernel_rfl)]
        clear hV
        obtain ⟨b14, rfl, hb14, hB14⟩ := hv14
        refine l_setS (o := ⟨none, _, _, _, _, _⟩) 25 b14 25 zeroO.cells zeroO.cells (.tmp 14) (.tmp 87) rfl rfl (by kernel_rfl) (by kernel_rfl) hB14 (by rw [Ord.len9]; exact ord_size) rfl (Ord.one1 _) ?_
        intro w10 hC10 hk10 hs10
        simp only [Act.put]
        refine l_val (o := ⟨some 88, _, _, _, _, _⟩) (.bool false) rfl (exec_extract (.tmp 74) [zeroO.v, .bool false] 1 (.bool false) rfl (by kernel_rfl) rfl) ?_
        simp only [Act.put, List.setIfInBounds_toArray, List.set_cons_succ, List.set_cons_zero]
        refine l_val (o := ⟨some 15, _, _, _, _, _⟩) (.bool false) rfl (exec_assign (.tmp 88) (.bool false) rfl (by kernel_rfl)) ?_
        simp only [Act.put, List.setIfInBounds_toArray, List.set_cons_succ, List.set_cons_zero]
        refine wpList_nil ?_
        have k810 : Kept w8 w10 := Kept.trans' k9 hk10 (by omega)
        go_wp2
        go_meet
        case rel => exact ⟨rfl, k810⟩
    obtain ⟨rfl, k810⟩ := hcut
    obtain ⟨w10, hw10⟩ : ∃ w10, wc = w10 := ⟨_, rfl⟩
    rw [hw10] at k810 ⊢
    clear hw10
    have HL10 := Lib.hid (HL8.out.kept k810)
    have HO10 := Lib.hid (range_kept HO8.out k810)
    have HV10 := Lib.hid (HV8.out.kept k810)
    have HC10 := Lib.hid (range_kept HC8.out k810)
    have kw10 := kw8.trans k810
    clear k810 HL8 HO8 HV8 HC8 kw8 HR2
    obtain ⟨va, hva, hoa, hsa⟩ := slice_hS slO _ nx k (by omega) _ w10 HV10.out
    obtain ⟨vb, hvb, hob, hsb⟩ := slice_lS slO _ nx (k + 1) (by omega) _ w10 HV10.out
    have HVA := Lib.hid hva
    have HVB := Lib.hid hvb
    have HSA : Hid (∀ u, Kept w10 u → Sl u 25 9 va k (ords ((X.map (·.o)).take k))) := fun u hk => by
      have := hsa u _ (HV10.out.kept hk)
      rw [show (ords (X.map (·.o))).take (k * 9) = ords ((X.map (·.o)).take k) from flat_take Ord.cells 9 Ord.len9 _ k] at this
      exact this
    have HSB : Hid (∀ u, Kept w10 u → Sl u 25 9 vb (nx - (k + 1)) (ords ((X.map (·.o)).drop (k + 1)))) := fun u hk => by
      have := hsb u _ (HV10.out.kept hk)
      rw [show (ords (X.map (·.o))).drop ((k + 1) * 9) = ords ((X.map (·.o)).drop (k + 1)) from flat_drop Ord.cells 9 Ord.len9 _ (k + 1)] at this
      exact this
    have hcast : ((k + 1 : Nat) : Int) = (k : Int) + 1 := by omega
    rw [hcast] at HVB
    clear hva hoa hsa hvb hob hsb
    go_upto_region 13 with fail
    refine wp_free 9 [.emp w10.heap.size 25, .eq (.slice (some ⟨go, oo, none⟩) nx c6), .eq (.int .i64 (k : Int)), .eq (va), .sl w10.heap.size 25 9 k (ords ((X.map (·.o)).take k)), .eq (.slice (some ⟨go, oo, none⟩) nx c6), .eq (.int .i64 (k : Int)), .eq (.int .i64 ((k : Int) + 1)), .eq (vb)] (by kernel_rfl) rfl (by kernel_rfl) ?_ ?_
    · refine fsteps_cons 1 rfl (fun a u hE hD hk => f_new (o := ⟨some 89, _, _, _, _, _⟩) (.slice (some ⟨u.heap.size, 0, none⟩) 0 0) _ rfl (wanted_none rfl _) (exec_none 31 25 9 rfl slO.und ord_size) ⟨_, rfl, hk.size, Blk.new u _ _⟩ ((Keep.refl _ u).alloc _)) ?_
      refine fsteps_cons 2 rfl (fun a u hE hD hk => f_val (o := ⟨some 90, _, _, _, _, _⟩) (.slice (some ⟨go, oo, none⟩) nx c6) rfl (wanted_none rfl _) (exec_move (.tmp 6) (.slice (some ⟨go, oo, none⟩) nx c6) rfl (hE 6 (.slice (some ⟨go, oo, none⟩) nx c6) (by kernel_rfl) (by kernel_rfl))) rfl) ?_
      refine fsteps_cons 3 rfl (fun a u hE hD hk => f_val (o := ⟨some 91, _, _, _, _, _⟩) (.int .i64 (k : Int)) rfl (wanted_none rfl _) (exec_move (.tmp 9) (.int .i64 (k : Int)) rfl (hE 9 (.int .i64 (k : Int)) (by kernel_rfl) (by kernel_rfl))) rfl) ?_
      refine fsteps_cons 4 rfl (fun a u hE hD hk => f_val (o := ⟨some 92, _, _, _, _, _⟩) (va) rfl (wanted_none rfl _) (exec_slcH slO (.tmp 90) (.tmp 91) _ va _ rfl (hD 1 90 (by kernel_rfl)) (hD 2 91 (by kernel_rfl)) (HVA.out u)) rfl) ?_
      refine fsteps_cons 5 rfl (fun a u hE hD hk => (by obtain ⟨v', u', hr, hp, hkk⟩ := run_append_emp slO _ u (a.eval (.tmp 89)) va k w10.heap.size _ ((hD 0 89 (by kernel_rfl))) (HSA.out u hk) (ords_one _) (by omega) (by omega) hk.size; exact f_new (o := ⟨some 93, _, _, _, _, _⟩) v' u' rfl (wanted_none rfl _) (exec_appS slO (.tmp 89) (.tmp 92) _ va rfl rfl (hD 3 92 (by kernel_rfl)) v' u' hr) hp hkk)) ?_
      refine fsteps_cons 6 rfl (fun a u hE hD hk => f_val (o := ⟨some 94, _, _, _, _, _⟩) (.slice (some ⟨go, oo, none⟩) nx c6) rfl (wanted_none rfl _) (exec_move (.tmp 6) (.slice (some ⟨go, oo, none⟩) nx c6) rfl (hE 6 (.slice (some ⟨go, oo, none⟩) nx c6) (by kernel_rfl) (by kernel_rfl))) rfl) ?_
      refine fsteps_cons 7 rfl (fun a u hE hD hk => f_val (o := ⟨some 95, _, _, _, _, _⟩) (.int .i64 (k : Int)) rfl (wanted_none rfl _) (exec_move (.tmp 9) (.int .i64 (k : Int)) rfl (hE 9 (.int .i64 (k : Int)) (by kernel_rfl) (by kernel_rfl))) rfl) ?_
      refine fsteps_cons 8 rfl (fun a u hE hD hk => f_val (o := ⟨some 96, _, _, _, _, _⟩) (.int .i64 ((k : Int) + 1)) rfl (wanted_none rfl _) (exec_addn ((k : Int) + 1) rfl (hD 6 95 (by kernel_rfl)) rfl rfl (by omega) (by omega)) rfl) ?_
      refine fsteps_cons 9 rfl (fun a u hE hD hk => f_val (o := ⟨some 97, _, _, _, _, _⟩) (vb) rfl (wanted_none rfl _) (exec_slcL slO (.tmp 94) (.tmp 96) _ vb _ rfl (hD 5 94 (by kernel_rfl)) (hD 7 96 (by kernel_rfl)) (HVB.out u)) rfl) ?_
      exact fsteps_nil
    intro gv w11 hV k11
    rw [show dstsOf _ 9 = [89, 90, 91, 92, 93, 94, 95, 96, 97] by kernel_rfl]
    simp only [List.foldl_cons, List.foldl_nil, List.setIfInBounds_toArray, List.set_cons_succ, List.set_cons_zero, List.drop_succ_cons, List.drop_zero]
    have hv93 : (.sl w10.heap.size 25 9 k (ords ((X.map (·.o)).take k)) : Kn).p (gv 93) w11 := hV 4 93 (by kernel_rfl)
    generalize gv 93 = v93 at hv93 ⊢
    rw [show gv 97 = vb from hV 8 97 (by kernel_rfl)]
    clear hV
    obtain ⟨v16, w12, hr12, hs12, hk12, ho12⟩ := run_append_sl slO 31 w11 v93 vb k (nx - (k + 1)) _ _ hv93.1 (HSB.out w11 k11) (ords_one _) (by unfold maxLen; omega) (by omega)
    refine l_new (o := ⟨some 98, _, _, _, _, _⟩) v16 w12 rfl (exec_appS slO (.tmp 93) (.tmp 97) v93 vb rfl (by kernel_rfl) (by kernel_rfl) v16 w12 hr12) ?_
    simp only [Act.put, List.setIfInBounds_toArray, List.set_cons_succ, List.set_cons_zero]
    refine l_val (o := ⟨some 16, _, _, _, _, _⟩) (v16) rfl (exec_assign (.tmp 98) (v16) rfl (by kernel_rfl)) ?_
    simp only [Act.put, List.setIfInBounds_toArray, List.set_cons_succ, List.set_cons_zero]
    refine wpList_nil ?_
    have HS12 : Hid (Sl w12 25 9 v16 (nx - 1) (ords ((X.eraseIdx k).map (·.o)))) := by
      show Sl _ _ _ _ _ _
      rw [List.eraseIdx_eq_take_drop_succ, List.map_append, List.map_take, List.map_drop]
      unfold ords at hs12 ⊢
      rw [List.flatMap_append]
      rw [show k + (nx - (k + 1)) = nx - 1 by omega] at hs12
      exact hs12
    have z11 := k11.size
    have k1012 : Kept w10 w12 := Keep.trans k11 hk12 (fun b hb h => by have := hv93.2 b h; omega)
    have HL12 := Lib.hid (HL10.out.kept k1012)
    have HO12 := Lib.hid (range_kept HO10.out k1012)
    have HC12 := Lib.hid (range_kept HC10.out k1012)
    have kw12 := kw10.trans k1012
    clear hs12 hk12 ho12 hr12 hv93 k11 k1012 HL10 HO10 HV10 HC10 kw10 HVA HVB HSA HSB
    obtain ⟨ny, hny⟩ : ∃ ny, nx - 1 = ny := ⟨_, rfl⟩
    rw [hny] at HS12 HLE
    obtain ⟨Z, hZ⟩ : ∃ Z, X.eraseIdx k = Z := ⟨_, rfl⟩
    rw [hZ] at HS12 HL12 HXE HLE HER1 HER2
    clear hZ
    go_upto_region 14 with fail
    refine wp_free 44 [.eq (.bool true), .eq (.bool true), .eq (.bool false), .eq (.bool true), .eq (.bool true), .eq (.bool true), .eq (e.o.v), .eq (.slice (some ⟨go, oo, none⟩) nx c6), .eq (.int .i64 (k : Int)), .eq (.pointer (some ⟨go, oo + k * 9, none⟩)), .eq (e.o.v), .eq (.bool true), .eq (.bool true), .eq (.bool true), .eq (.pointer (some ⟨p, 0, none⟩)), .sl 0 25 9 Z.length (ords (Z.map (·.o))), .eq (v16), .eq (.bool true), .eq (.bool true), .eq (.bool true), .eq (.pointer (some ⟨p, 0, none⟩)), .eq (.int .i64 (wholeM Z)), .eq (.int .i64 W), .eq (.pointer (some ⟨b12, 6, none⟩)), .eq (.int .i64 e.o.qty), .eq (.int .i64 ((W : Int) - (e.o.qty : Int))), .eq (.bool true), .eq (.bool true), .eq (.bool true), .eq (.pointer (some ⟨p, 0, none⟩)), .eq (.int .i64 (seenM Z)), .eq (.int .i64 SX), .eq (.bool true), .eq (.bool true), .eq (.bool true), .eq (.pointer (some ⟨p, 0, none⟩)), .eq (.int .i64 (Z.length : Int)), .eq (v16), .eq (.int .i64 (ny : Int)), .eq (.bool true), .eq (.bool true), .eq (.bool true), .eq (.bool true), .eq (.bool true)] (by kernel_rfl) rfl (by kernel_rfl) ?_ ?_
    · refine fsteps_cons 1 rfl (fun a u hE hD hk => f_val (o := ⟨some 99, _, _, _, _, _⟩) (.bool true) rfl (wanted_none rfl _) (exec_move (.tmp 13) (.bool true) rfl (hE 13 (.bool true) (by kernel_rfl) (by kernel_rfl))) rfl) ?_
      refine fsteps_cons 2 rfl (fun a u hE hD hk => f_val (o := ⟨some 100, _, _, _, _, _⟩) (.bool true) rfl (wanted_none rfl _) (exec_move (.tmp 99) (.bool true) rfl (hD 0 99 (by kernel_rfl))) rfl) ?_
      refine fsteps_cons 3 rfl (fun a u hE hD hk => f_val (o := ⟨some 101, _, _, _, _, _⟩) (.bool false) rfl (wanted_at (b := true) true rfl rfl (hD 1 100 (by kernel_rfl))) (exec_move (.tmp 15) (.bool false) rfl (hE 15 (.bool false) (by kernel_rfl) (by kernel_rfl))) rfl) ?_
      refine fsteps_cons 4 rfl (fun a u hE hD hk => f_val (o := ⟨some 102, _, _, _, _, _⟩) (.bool true) rfl (wanted_at (b := true) true rfl rfl (hD 1 100 (by kernel_rfl))) (exec_not _ (.tmp 101) false rfl (hD 2 101 (by kernel_rfl))) rfl) ?_
      refine fsteps_cons 5 rfl (fun a u hE hD hk => f_val (o := ⟨some 103, _, _, _, _, _⟩) (.bool true) rfl (wanted_none rfl _) (exec_pick (.tmp 100) (.tmp 102) (.const (.bool false)) (.bool true) rfl (hD 1 100 (by kernel_rfl)) (hD 3 102 (by kernel_rfl))) rfl) ?_
      refine fsteps_cons 6 rfl (fun a u hE hD hk => f_val (o := ⟨some 104, _, _, _, _, _⟩) (.bool true) rfl (wanted_none rfl _) (exec_move (.tmp 103) (.bool true) rfl (hD 4 103 (by kernel_rfl))) rfl) ?_
      refine fsteps_cons 7 rfl (fun a u hE hD hk => f_val (o := ⟨some 105, _, _, _, _, _⟩) (e.o.v) rfl (wanted_at (b := true) true rfl rfl (hD 5 104 (by kernel_rfl))) (exec_ldS 25 _ (.tmp 12) (b12) (0) (e.o.cells) rfl (hE 12 (.pointer (some ⟨b12, 0, none⟩)) (by kernel_rfl) (by kernel_rfl)) (range_kept HC12.out hk) Try.underlying25 (by rw [e.o.len9]; exact ord_size)) rfl) ?_
      refine fsteps_cons 8 rfl (fun a u hE hD hk => f_val (o := ⟨some 106, _, _, _, _, _⟩) (.slice (some ⟨go, oo, none⟩) nx c6) rfl (wanted_at (b := true) true rfl rfl (hD 5 104 (by kernel_rfl))) (exec_move (.tmp 6) (.slice (some ⟨go, oo, none⟩) nx c6) rfl (hE 6 (.slice (some ⟨go, oo, none⟩) nx c6) (by kernel_rfl) (by kernel_rfl))) rfl) ?_
      refine fsteps_cons 9 rfl (fun a u hE hD hk => f_val (o := ⟨some 107, _, _, _, _, _⟩) (.int .i64 (k : Int)) rfl (wanted_at (b := true) true rfl rfl (hD 5 104 (by kernel_rfl))) (exec_move (.tmp 9) (.int .i64 (k : Int)) rfl (hE 9 (.int .i64 (k : Int)) (by kernel_rfl) (by kernel_rfl))) rfl) ?_
      refine fsteps_cons 10 rfl (fun a u hE hD hk => f_val (o := ⟨some 108, _, _, _, _, _⟩) (.pointer (some ⟨go, oo + k * 9, none⟩)) rfl (wanted_at (b := true) true rfl rfl (hD 5 104 (by kernel_rfl))) (exec_ixo slO (.tmp 106) (.tmp 107) (go) (oo) nx c6 k (oo + k * 9) ((k : Int)) rfl (hD 7 106 (by kernel_rfl)) (hD 8 107 (by kernel_rfl)) (by first | rfl | omega) (hkn) (by first | rfl | omega)) rfl) ?_
      refine fsteps_cons 11 rfl (fun a u hE hD hk => f_val (o := ⟨some 109, _, _, _, _, _⟩) (e.o.v) rfl (wanted_at (b := true) true rfl rfl (hD 5 104 (by kernel_rfl))) (exec_ldS 25 _ (.tmp 108) (go) (oo + k * 9) (e.o.cells) rfl (hD 9 108 (by kernel_rfl)) (range_kept HO12.out hk) Try.underlying25 (by rw [e.o.len9]; exact ord_size)) rfl) ?_
      refine fsteps_cons 12 rfl (fun a u hE hD hk => f_val (o := ⟨some 110, _, _, _, _, _⟩) (.bool true) rfl (wanted_at (b := true) true rfl rfl (hD 5 104 (by kernel_rfl))) (exec_eqOb true (.tmp 105) (.tmp 109) _ e.o e.o rfl (hD 6 105 (by kernel_rfl)) (hD 10 109 (by kernel_rfl)) (decide_eq_true rfl)) rfl) ?_
      refine fsteps_cons 13 rfl (fun a u hE hD hk => f_val (o := ⟨some 111, _, _, _, _, _⟩) (.bool true) rfl (wanted_none rfl _) (exec_pick (.tmp 104) (.tmp 110) (.const (.bool false)) (.bool true) rfl (hD 5 104 (by kernel_rfl)) (hD 11 110 (by kernel_rfl))) rfl) ?_
      refine fsteps_cons 14 rfl (fun a u hE hD hk => f_val (o := ⟨some 112, _, _, _, _, _⟩) (.bool true) rfl (wanted_none rfl _) (exec_move (.tmp 111) (.bool true) rfl (hD 12 111 (by kernel_rfl))) rfl) ?_
      refine fsteps_cons 15 rfl (fun a u hE hD hk => f_val (o := ⟨some 113, _, _, _, _, _⟩) (.pointer (some ⟨p, 0, none⟩)) rfl (wanted_at (b := true) true rfl rfl (hD 13 112 (by kernel_rfl))) (exec_move (.tmp 5) (.pointer (some ⟨p, 0, none⟩)) rfl (hE 5 (.pointer (some ⟨p, 0, none⟩)) (by kernel_rfl) (by kernel_rfl))) rfl) ?_
      refine fsteps_cons 16 rfl (fun a u hE hD hk => f_call (o := ⟨some 114, _, _, _, _, _⟩) 13 #[.pointer (some ⟨p, 0, none⟩)] rfl (wanted_at (b := true) true rfl rfl (hD 13 112 (by kernel_rfl))) (exec_call 13 _ [.tmp 113] _ [.pointer (some ⟨p, 0, none⟩)] Try.func13 (by kernel_rfl) (by kernel_rfl) rfl (show [a.eval (.tmp 113)] = [.pointer (some ⟨p, 0, none⟩)] from (by rw [show a.eval (.tmp 113) = .pointer (some ⟨p, 0, none⟩) from (hD 14 113 (by kernel_rfl))] <;> rfl)) u) ((orders_any u F p Z (HL12.out.kept hk) HXE.out).mono (fun e w' ⟨v, h1, h2, h3⟩ => ⟨v, h1, ⟨h2.1, fun b hb => Nat.zero_le _⟩, h3⟩))) ?_
      refine fsteps_cons 17 rfl (fun a u hE hD hk => f_val (o := ⟨some 115, _, _, _, _, _⟩) (v16) rfl (wanted_at (b := true) true rfl rfl (hD 13 112 (by kernel_rfl))) (exec_move (.tmp 16) (v16) rfl (hE 16 (v16) (by kernel_rfl) (by kernel_rfl))) rfl) ?_
      refine fsteps_cons 18 rfl (fun a u hE hD hk => f_call (o := ⟨some 116, _, _, _, _, _⟩) 15 #[a.eval (.tmp 114), v16] rfl (wanted_at (b := true) true rfl rfl (hD 13 112 (by kernel_rfl))) (exec_call 15 _ [.tmp 114, .tmp 115] _ [a.eval (.tmp 114), v16] Try.func15 (by kernel_rfl) (by kernel_rfl) rfl (show [a.eval (.tmp 114), a.eval (.tmp 115)] = [a.eval (.tmp 114), v16] from (by rw [show a.eval (.tmp 115) = v16 from (hD 16 115 (by kernel_rfl))] <;> rfl)) u) (same_self _ _ Z u ((hD 15 114 (by kernel_rfl))).1 (by rw [HLE.out]; exact HS12.out.kept hk) HXE.out.len)) ?_
      refine fsteps_cons 19 rfl (fun a u hE hD hk => f_val (o := ⟨some 117, _, _, _, _, _⟩) (.bool true) rfl (wanted_none rfl _) (exec_pick (.tmp 112) (.tmp 116) (.const (.bool false)) (.bool true) rfl (hD 13 112 (by kernel_rfl)) (hD 17 116 (by kernel_rfl))) rfl) ?_
      refine fsteps_cons 20 rfl (fun a u hE hD hk => f_val (o := ⟨some 118, _, _, _, _, _⟩) (.bool true) rfl (wanted_none rfl _) (exec_move (.tmp 117) (.bool true) rfl (hD 18 117 (by kernel_rfl))) rfl) ?_
      refine fsteps_cons 21 rfl (fun a u hE hD hk => f_val (o := ⟨some 119, _, _, _, _, _⟩) (.pointer (some ⟨p, 0, none⟩)) rfl (wanted_at (b := true) true rfl rfl (hD 19 118 (by kernel_rfl))) (exec_move (.tmp 5) (.pointer (some ⟨p, 0, none⟩)) rfl (hE 5 (.pointer (some ⟨p, 0, none⟩)) (by kernel_rfl) (by kernel_rfl))) rfl) ?_
      refine fsteps_cons 22 rfl (fun a u hE hD hk => f_call (o := ⟨some 120, _, _, _, _, _⟩) 25 #[.pointer (some ⟨p, 0, none⟩)] rfl (wanted_at (b := true) true rfl rfl (hD 19 118 (by kernel_rfl))) (exec_call 25 _ [.tmp 119] _ [.pointer (some ⟨p, 0, none⟩)] Try.func25 (by kernel_rfl) (by kernel_rfl) rfl (show [a.eval (.tmp 119)] = [.pointer (some ⟨p, 0, none⟩)] from (by rw [show a.eval (.tmp 119) = .pointer (some ⟨p, 0, none⟩) from (hD 20 119 (by kernel_rfl))] <;> rfl)) u) (whole_any u F p Z (HL12.out.kept hk) HXE.out)) ?_
      refine fsteps_cons 23 rfl (fun a u hE hD hk => f_val (o := ⟨some 121, _, _, _, _, _⟩) (.int .i64 W) rfl (wanted_at (b := true) true rfl rfl (hD 19 118 (by kernel_rfl))) (exec_move (.tmp 11) (.int .i64 W) rfl (hE 11 (.int .i64 W) (by kernel_rfl) (by kernel_rfl))) rfl) ?_
      refine fsteps_cons 24 rfl (fun a u hE hD hk => f_val (o := ⟨some 122, _, _, _, _, _⟩) (.pointer (some ⟨b12, 6, none⟩)) rfl (wanted_at (b := true) true rfl rfl (hD 19 118 (by kernel_rfl))) (exec_fldo 25 6 6 (.tmp 12) (b12) (0) (6) rfl (hE 12 (.pointer (some ⟨b12, 0, none⟩)) (by kernel_rfl) (by kernel_rfl)) (by kernel_rfl) rfl) rfl) ?_
      refine fsteps_cons 25 rfl (fun a u hE hD hk => f_val (o := ⟨some 123, _, _, _, _, _⟩) (.int .i64 e.o.qty) rfl (wanted_at (b := true) true rfl rfl (hD 19 118 (by kernel_rfl))) (exec_loadi 3 Try.underlying3 (.tmp 122) ⟨b12, 6, none⟩ (.int .i64 e.o.qty) rfl (hD 23 122 (by kernel_rfl)) (range_int (range_kept HC12.out hk) 6 _ rfl)) rfl) ?_
      refine fsteps_cons 26 rfl (fun a u hE hD hk => f_val (o := ⟨some 124, _, _, _, _, _⟩) (.int .i64 ((W : Int) - (e.o.qty : Int))) rfl (wanted_at (b := true) true rfl rfl (hD 19 118 (by kernel_rfl))) (exec_subn (p := (W)) (q := (e.o.qty)) ((W : Int) - (e.o.qty : Int)) rfl (hD 22 121 (by kernel_rfl)) (hD 24 123 (by kernel_rfl)) rfl (by omega) (by omega)) rfl) ?_
      refine fsteps_cons 27 rfl (fun a u hE hD hk => f_as (show ((decide (((wholeM Z) : Int) = (((W : Int) - (e.o.qty : Int)) : Int))) : Bool) = true from decide_eq_true (by have := HER1.out; omega)) (f_val (o := ⟨some 125, _, _, _, _, _⟩) (.bool (decide (((wholeM Z) : Int) = (((W : Int) - (e.o.qty : Int)) : Int)))) rfl (wanted_at (b := true) true rfl rfl (hD 19 118 (by kernel_rfl))) (exec_eqn (p := (wholeM Z)) (q := ((W : Int) - (e.o.qty : Int))) rfl (hD 21 120 (by kernel_rfl)) (hD 25 124 (by kernel_rfl))) rfl)) ?_
      refine fsteps_cons 28 rfl (fun a u hE hD hk => f_val (o := ⟨some 126, _, _, _, _, _⟩) (.bool true) rfl (wanted_none rfl _) (exec_pick (.tmp 118) (.tmp 125) (.const (.bool false)) (.bool true) rfl (hD 19 118 (by kernel_rfl)) (hD 26 125 (by kernel_rfl))) rfl) ?_
      refine fsteps_cons 29 rfl (fun a u hE hD hk => f_val (o := ⟨some 127, _, _, _, _, _⟩) (.bool true) rfl (wanted_none rfl _) (exec_move (.tmp 126) (.bool true) rfl (hD 27 126 (by kernel_rfl))) rfl) ?_
      refine fsteps_cons 30 rfl (fun a u hE hD hk => f_val (o := ⟨some 128, _, _, _, _, _⟩) (.pointer (some ⟨p, 0, none⟩)) rfl (wanted_at (b := true) true rfl rfl (hD 28 127 (by kernel_rfl))) (exec_move (.tmp 5) (.pointer (some ⟨p, 0, none⟩)) rfl (hE 5 (.pointer (some ⟨p, 0, none⟩)) (by kernel_rfl) (by kernel_rfl))) rfl) ?_
      refine fsteps_cons 31 rfl (fun a u hE hD hk => f_call (o := ⟨some 129, _, _, _, _, _⟩) 12 #[.pointer (some ⟨p, 0, none⟩)] rfl (wanted_at (b := true) true rfl rfl (hD 28 127 (by kernel_rfl))) (exec_call 12 _ [.tmp 128] _ [.pointer (some ⟨p, 0, none⟩)] Try.func12 (by kernel_rfl) (by kernel_rfl) rfl (show [a.eval (.tmp 128)] = [.pointer (some ⟨p, 0, none⟩)] from (by rw [show a.eval (.tmp 128) = .pointer (some ⟨p, 0, none⟩) from (hD 29 128 (by kernel_rfl))] <;> rfl)) u) (seen_any u F p Z (HL12.out.kept hk) HXE.out)) ?_
      refine fsteps_cons 32 rfl (fun a u hE hD hk => f_val (o := ⟨some 130, _, _, _, _, _⟩) (.int .i64 SX) rfl (wanted_at (b := true) true rfl rfl (hD 28 127 (by kernel_rfl))) (exec_move (.tmp 10) (.int .i64 SX) rfl (hE 10 (.int .i64 SX) (by kernel_rfl) (by kernel_rfl))) rfl) ?_
      refine fsteps_cons 33 rfl (fun a u hE hD hk => f_as (show ((decide (((seenM Z) : Int) < (SX : Int))) : Bool) = true from decide_eq_true (by have := HER2.out; omega)) (f_val (o := ⟨some 131, _, _, _, _, _⟩) (.bool (decide (((seenM Z) : Int) < (SX : Int)))) rfl (wanted_at (b := true) true rfl rfl (hD 28 127 (by kernel_rfl))) (exec_ltn (p := (seenM Z)) (q := SX) rfl (hD 30 129 (by kernel_rfl)) (hD 31 130 (by kernel_rfl))) rfl)) ?_
      refine fsteps_cons 34 rfl (fun a u hE hD hk => f_val (o := ⟨some 132, _, _, _, _, _⟩) (.bool true) rfl (wanted_none rfl _) (exec_pick (.tmp 127) (.tmp 131) (.const (.bool false)) (.bool true) rfl (hD 28 127 (by kernel_rfl)) (hD 32 131 (by kernel_rfl))) rfl) ?_
      refine fsteps_cons 35 rfl (fun a u hE hD hk => f_val (o := ⟨some 133, _, _, _, _, _⟩) (.bool true) rfl (wanted_none rfl _) (exec_move (.tmp 132) (.bool true) rfl (hD 33 132 (by kernel_rfl))) rfl) ?_
      refine fsteps_cons 36 rfl (fun a u hE hD hk => f_val (o := ⟨some 134, _, _, _, _, _⟩) (.pointer (some ⟨p, 0, none⟩)) rfl (wanted_at (b := true) true rfl rfl (hD 34 133 (by kernel_rfl))) (exec_move (.tmp 5) (.pointer (some ⟨p, 0, none⟩)) rfl (hE 5 (.pointer (some ⟨p, 0, none⟩)) (by kernel_rfl) (by kernel_rfl))) rfl) ?_
      refine fsteps_cons 37 rfl (fun a u hE hD hk => f_call (o := ⟨some 135, _, _, _, _, _⟩) 27 #[.pointer (some ⟨p, 0, none⟩)] rfl (wanted_at (b := true) true rfl rfl (hD 34 133 (by kernel_rfl))) (exec_call 27 _ [.tmp 134] _ [.pointer (some ⟨p, 0, none⟩)] Try.func27 (by kernel_rfl) (by kernel_rfl) rfl (show [a.eval (.tmp 134)] = [.pointer (some ⟨p, 0, none⟩)] from (by rw [show a.eval (.tmp 134) = .pointer (some ⟨p, 0, none⟩) from (hD 35 134 (by kernel_rfl))] <;> rfl)) u) (len_any u F p Z (HL12.out.kept hk))) ?_
      refine fsteps_cons 38 rfl (fun a u hE hD hk => f_val (o := ⟨some 136, _, _, _, _, _⟩) (v16) rfl (wanted_at (b := true) true rfl rfl (hD 34 133 (by kernel_rfl))) (exec_move (.tmp 16) (v16) rfl (hE 16 (v16) (by kernel_rfl) (by kernel_rfl))) rfl) ?_
      refine fsteps_cons 39 rfl (fun a u hE hD hk => f_val (o := ⟨some 137, _, _, _, _, _⟩) (.int .i64 (ny : Int)) rfl (wanted_at (b := true) true rfl rfl (hD 34 133 (by kernel_rfl))) (exec_lenS (.tmp 136) slO (v16) (ny) _ _ rfl (hD 37 136 (by kernel_rfl)) HS12.out) rfl) ?_
      refine fsteps_cons 40 rfl (fun a u hE hD hk => f_as (show ((decide (((Z.length : Int) : Int) = ((ny : Int) : Int))) : Bool) = true from decide_eq_true (by rw [HLE.out])) (f_val (o := ⟨some 138, _, _, _, _, _⟩) (.bool (decide (((Z.length : Int) : Int) = ((ny : Int) : Int)))) rfl (wanted_at (b := true) true rfl rfl (hD 34 133 (by kernel_rfl))) (exec_eqn (p := (Z.length : Int)) (q := (ny : Int)) rfl (hD 36 135 (by kernel_rfl)) (hD 38 137 (by kernel_rfl))) rfl)) ?_
      refine fsteps_cons 41 rfl (fun a u hE hD hk => f_val (o := ⟨some 139, _, _, _, _, _⟩) (.bool true) rfl (wanted_none rfl _) (exec_pick (.tmp 133) (.tmp 138) (.const (.bool false)) (.bool true) rfl (hD 34 133 (by kernel_rfl)) (hD 39 138 (by kernel_rfl))) rfl) ?_
      refine fsteps_cons 42 rfl (fun a u hE hD hk => f_val (o := ⟨some 140, _, _, _, _, _⟩) (.bool true) rfl (wanted_none rfl _) (exec_move (.tmp 139) (.bool true) rfl (hD 40 139 (by kernel_rfl))) rfl) ?_
      refine fsteps_cons 43 rfl (fun a u hE hD hk => f_call (o := ⟨some 141, _, _, _, _, _⟩) 3 #[] rfl (wanted_at (b := true) true rfl rfl (hD 41 140 (by kernel_rfl))) (exec_call 3 _ [] _ [] Try.func3 (by kernel_rfl) (by kernel_rfl) rfl rfl u) (runs_gives u)) ?_
      refine fsteps_cons 44 rfl (fun a u hE hD hk => f_val (o := ⟨some 142, _, _, _, _, _⟩) (.bool true) rfl (wanted_none rfl _) (exec_pick (.tmp 140) (.tmp 141) (.const (.bool false)) (.bool true) rfl (hD 41 140 (by kernel_rfl)) (hD 42 141 (by kernel_rfl))) rfl) ?_
      exact fsteps_nil
    intro gv w13 hV k13
    rw [show dstsOf _ 44 = [99, 100, 101, 102, 103, 104, 105, 106, 107, 108, 109, 110, 111, 112, 113, 114, 115, 116, 117, 118, 119, 120, 121, 122, 123, 124, 125, 126, 127, 128, 129, 130, 131, 132, 133, 134, 135, 136, 137, 138, 139, 140, 141, 142] by kernel_rfl]
    simp only [List.foldl_cons, List.foldl_nil, List.setIfInBounds_toArray, List.set_cons_succ, List.set_cons_zero, List.drop_succ_cons, List.drop_zero]
    rw [show gv 142 = .bool true from hV 43 142 (by kernel_rfl)]
    clear hV
    refine l_val (o := ⟨some 4, _, _, _, _, _⟩) (.bool true) rfl (exec_assign (.tmp 142) (.bool true) rfl (by kernel_rfl)) ?_
    simp only [Act.put, List.setIfInBounds_toArray, List.set_cons_succ, List.set_cons_zero]
    refine wpList_nil ?_
    go_wp2
    go_ret
    exact ⟨rfl, kw12.trans k13⟩
end Go.Proofs.Ytlbkehpdohihlaa
