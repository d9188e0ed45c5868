/-
  The contract of jobberlaw13.TreeSets: one's own is of the desk's, the desk's of the firm's; who is of one's desk has the same desk's and firm's; it answers true. No condition.
-/
import Derived.Test.YtgodehggiddndaaRuns13
import Derived.Test.YtgodehggiddndaaSame6
namespace Go.Proofs.Ytgodehggiddndaa
open Go.RowKit
set_option linter.unusedVariables false
set_option maxRecDepth 100000

/-! the traders made of asks may stand -/
theorem mk_good (q : Aq) : q.t.bad = false := by
  have h1 := wi_in q.firm 0 3 (by omega)
  have h2 := wi_in q.desk 0 2 (by omega)
  have h3 := wi_in q.roles 1 15 (by omega)
  have h4 := wi_in q.insts 0 255 (by omega)
  have hm : q.t.may = true := by
    unfold Trd.may Trd.right Aq.t mkT
    simp only
    rw [upB_true h1.1 (by omega), upB_true h2.1 (by omega), upB_true (by omega) h3.2, upB_true h4.1 h4.2, decide_eq_true (by omega)]
    rfl
  unfold Trd.bad
  rw [hm]
  simp
theorem zero_good : zeroT.bad = false := by decide +kernel
theorem someL_good (l : List Aq) : ∀ (X : Trds), (∀ i, i < 32 → (X.at_ i).bad = false) → ∀ i, i < 32 → ((l.foldl (fun X q => X.put q.k q.t) X).at_ i).bad = false := by
  induction l with
  | nil => exact fun X h => h
  | cons q l ih =>
    intro X h
    refine ih _ fun i hi => ?_
    rw [Trds.at_put _ _ _ _ q.k_lt]
    split
    · exact mk_good q
    · exact h i hi
theorem some_good (l : List Aq) : ∀ i, i < 32 → ((someL l).at_ i).bad = false := someL_good l zeroX fun i hi => by rw [zeroX_at]; exact zero_good
theorem some_ok (l : List Aq) : (someL l).bad = none := bad_none (some_good l)

/-! bits of sets -/
theorem bit_one (V b : Nat) : V / 2 ^ b &&& 1 = if V.testBit b = true then 1 else 0 := by
  rw [Nat.and_one_is_mod, Nat.testBit_eq_decide_div_mod_eq]
  by_cases h : V / 2 ^ b % 2 = 1
  · simp [h]
  · simp [h]
    omega
theorem andnot_zero {U V : Nat} (hU : U < 2 ^ 64) (hV : V < 2 ^ 64) (h : ∀ i, U.testBit i = true → V.testBit i = true) : U &&& (18446744073709551615 - V) = 0 := by
  apply Nat.eq_of_testBit_eq
  intro i
  rw [Nat.testBit_and, Nat.zero_testBit, show 18446744073709551615 - V = 2 ^ 64 - (V + 1) by omega, Nat.testBit_two_pow_sub_succ hV]
  cases hu : U.testBit i with
  | false => rfl
  | true => rw [h i hu]; simp
theorem own_bits {X : Trds} {n : Nat} (hn : n < 32) (ht : X.there (n : Int) = true) (A : Trd → Trd → Bool) (hA : ∀ t, A t t = true) : ∀ i, (2 ^ n : Nat).testBit i = true → (setM (setP X A n) 32).testBit i = true := by
  intro i h
  rw [Nat.testBit_two_pow] at h
  have : n = i := by simpa using h
  subst this
  rw [setM_bit, decide_eq_true hn]
  unfold setP
  rw [ht, hA]
  rfl
theorem desk_bits (X : Trds) (n : Nat) : ∀ i, (setM (setP X deskB n) 32).testBit i = true → (setM (setP X firmB n) 32).testBit i = true := by
  intro i h
  rw [setM_bit] at h ⊢
  unfold setP deskB at h
  unfold setP firmB
  simp only [Bool.and_eq_true] at h ⊢
  exact ⟨h.1, h.2.1, h.2.2.1⟩
theorem desk_same {X : Trds} {n m : Nat} (h : deskB (X.at_ m) (X.at_ n) = true) : setM (setP X deskB m) 32 = setM (setP X deskB n) 32 := by
  refine setM_ext fun i hi => ?_
  unfold setP deskB
  unfold deskB at h
  simp only [Bool.and_eq_true, decide_eq_true_eq] at h
  rw [h.1, h.2]
theorem firm_same {X : Trds} {n m : Nat} (h : firmB (X.at_ m) (X.at_ n) = true) : setM (setP X firmB m) 32 = setM (setP X firmB n) 32 := by
  refine setM_ext fun i hi => ?_
  unfold setP firmB
  unfold firmB at h
  simp only [decide_eq_true_eq] at h
  rw [h]
theorem set_lt64 (p : Nat → Bool) : setM p 32 < 2 ^ 64 := Nat.lt_trans (setM_lt p 32) (by decide)
section
variable {a : Act} {o : Oper} {u : World}
def plainFldB (P : Program) (i : Nat) : Bool := match (P.fieldsOf 25)[i]? with | some f => f.offset == i && P.plainKey f.type | none => false
theorem exec_fldT (i : Nat) (c : Trd) (v : Value) (x : Operand) (hop : o.op = .field 25 x i) (hx : a.eval x = c.v) (hB : plainFldB Try.prog i = true) (hv : c.cells[i]? = some v) : (execOp a.eval o).run Try.prog u = .ok (.value v) u := by
  unfold plainFldB at hB
  cases hf : (Try.prog.fieldsOf 25)[i]? with
  | none => rw [hf] at hB; cases hB
  | some f =>
    rw [hf] at hB
    simp only [Bool.and_eq_true, beq_iff_eq] at hB
    exact exec_fldV i c v f x hop hx hf hB.2 (by rw [hB.1]; exact hv)
end
set_option maxRecDepth 100000 in
set_option maxHeartbeats 3200000 in
theorem treeSets_any (v : Value) (l : List Aq) (n m : Int) (w : World) (hl : Aqs w v l) : Calls Try.prog 5 #[v, .int .i64 n, .int .i64 m] w fun e w' => e = .returned (.bool true) ∧ Kept w w' := by
  have HXB := Lib.hid (some_ok (l.take 40))
  have HX : Hid (∀ u, Kept w u → Gives 10 #[v, .int .i64 (-1), zeroT.v] u (.eq (someL (l.take 40)).v)) := fun u hk => by rw [← someM_none l zeroT]; exact some_any u v l (-1) zeroT (hl.kept hk)
  generalize someL (l.take 40) = X at HXB HX
  obtain ⟨ia, ha⟩ : ∃ ia : Nat, wi n 0 31 = (ia : Int) := ⟨(wi n 0 31).toNat, by have := wi_in n 0 31 (by omega); omega⟩
  obtain ⟨ib, hb⟩ : ∃ ib : Nat, wi m 0 31 = (ib : Int) := ⟨(wi m 0 31).toNat, by have := wi_in m 0 31 (by omega); omega⟩
  have ha32 : ia < 32 := by have := wi_in n 0 31 (by omega); omega
  have hb32 : ib < 32 := by have := wi_in m 0 31 (by omega); omega
  have HWa : Hid (∀ u, Gives 20 #[.int .i64 n, .int .i64 0, .int .i64 31] u (.eq (.int .i64 (ia : Int)))) := fun u => by rw [← ha]; exact within_is n 0 31 u (by omega) (by omega) (by omega)
  have HWb : Hid (∀ u, Gives 20 #[.int .i64 m, .int .i64 0, .int .i64 31] u (.eq (.int .i64 (ib : Int)))) := fun u => by rw [← hb]; exact within_is m 0 31 u (by omega) (by omega) (by omega)
  clear hl ha hb
  obtain ⟨V1, h1⟩ : ∃ V : Nat, X.setB (ia : Int) 1 = V := ⟨_, rfl⟩
  obtain ⟨V2, h2⟩ : ∃ V : Nat, X.setB (ia : Int) 2 = V := ⟨_, rfl⟩
  obtain ⟨V3, h3⟩ : ∃ V : Nat, X.setB (ia : Int) 3 = V := ⟨_, rfl⟩
  have HV1 := Lib.hid h1
  have HV2 := Lib.hid h2
  have HV3 := Lib.hid h3
  clear h1 h2 h3
  go_enter Try.func5, Try.ntmps5
  go_upto_region 1 with fail
  refine wp_text 3 [.eq (v), .eq (zeroT.v), .eq (X.v)] rfl (by kernel_rfl) ?_ ?_
  · refine sv 1 rfl rfl rfl (fun a u hE hD hk => exec_move (.tmp 0) _ rfl (hE 0 (v) (by kernel_rfl) (by kernel_rfl))) ?_
    refine sv 2 rfl rfl rfl (fun a u hE hD hk => exec_build 25 [] zeroT.cells rfl (by kernel_rfl)) ?_
    refine fsteps_cons 3 rfl (fun a u hE hD hk => f_call (o := ⟨some 17, _, _, _, _, _⟩) 10 #[v, .int .i64 (-1), zeroT.v] rfl (wanted_none rfl _) (exec_call 10 _ [.tmp 15, .const (.int .i64 (-1)), .tmp 16] _ [v, .int .i64 (-1), zeroT.v] Try.func10 (by kernel_rfl) (by kernel_rfl) rfl (show [a.eval (.tmp 15), a.eval (.const (.int .i64 (-1))), a.eval (.tmp 16)] = [v, .int .i64 (-1), zeroT.v] from (by rw [show a.eval (.tmp 15) = v from (hD 0 15 (by kernel_rfl)), show a.eval (.tmp 16) = zeroT.v from (hD 1 16 (by kernel_rfl))] <;> rfl)) u) (HX.out u hk)) ?_
    exact fsteps_nil
  intro gv w0 hV k0
  rw [show dstsOf _ 3 = [15, 16, 17] by kernel_rfl]
  simp only [List.foldl_cons, List.foldl_nil, List.setIfInBounds_toArray, List.set_cons_succ, List.set_cons_zero, List.drop_succ_cons, List.drop_zero]
  rw [show gv 17 = X.v from hV 2 17 (by kernel_rfl)]
  clear hV
  refine l_call (o := ⟨some 18, _, _, _, _, _⟩) 8 #[X.v] rfl (exec_call 8 _ [.tmp 17] _ _ Try.func8 (by kernel_rfl) (by kernel_rfl) rfl (by kernel_rfl) _) ?_
  refine (new_ok HXB.out).mono ?_
  rintro e w1 ⟨p, rfl, hp, hP1, k1⟩
  refine ⟨_, rfl, ?_⟩
  simp only [Act.put, List.setIfInBounds_toArray, List.set_cons_succ, List.set_cons_zero]
  refine l_val (o := ⟨some 14, _, _, _, _, _⟩) (.tuple #[.pointer (some ⟨p, 0, none⟩), .int .i64 (-1)]) rfl (exec_move (.tmp 18) (.tuple #[.pointer (some ⟨p, 0, none⟩), .int .i64 (-1)]) rfl (by kernel_rfl)) ?_
  simp only [Act.put, List.setIfInBounds_toArray, List.set_cons_succ, List.set_cons_zero]
  refine l_val (o := ⟨some 19, _, _, _, _, _⟩) (.pointer (some ⟨p, 0, none⟩)) rfl (exec_extract (.tmp 14) [.pointer (some ⟨p, 0, none⟩), .int .i64 (-1)] 0 (.pointer (some ⟨p, 0, none⟩)) rfl (by kernel_rfl) rfl) ?_
  simp only [Act.put, List.setIfInBounds_toArray, List.set_cons_succ, List.set_cons_zero]
  refine l_val (o := ⟨some 20, _, _, _, _, _⟩) (.int .i64 (-1)) rfl (exec_extract (.tmp 14) [.pointer (some ⟨p, 0, none⟩), .int .i64 (-1)] 1 (.int .i64 (-1)) rfl (by kernel_rfl) rfl) ?_
  simp only [Act.put, List.setIfInBounds_toArray, List.set_cons_succ, List.set_cons_zero]
  refine l_val (o := ⟨some 7, _, _, _, _, _⟩) (.pointer (some ⟨p, 0, none⟩)) rfl (exec_assign (.tmp 19) (.pointer (some ⟨p, 0, none⟩)) rfl (by kernel_rfl)) ?_
  simp only [Act.put, List.setIfInBounds_toArray, List.set_cons_succ, List.set_cons_zero]
  refine l_val (o := ⟨some 8, _, _, _, _, _⟩) (.int .i64 (-1)) rfl (exec_assign (.tmp 20) (.int .i64 (-1)) rfl (by kernel_rfl)) ?_
  simp only [Act.put, List.setIfInBounds_toArray, List.set_cons_succ, List.set_cons_zero]
  refine wpList_nil ?_
  have HP1 := Lib.hid hP1
  have kw1 := k0.trans k1
  clear hP1 k0 k1 HX HXB
  go_upto_region 2 with fail
  refine wp_text 6 [.eq (.pointer (some ⟨p, 0, none⟩)), .eq (.bool false), .eq (.bool false), .eq (.int .i64 (-1)), .eq (.bool false), .eq (.bool false)] rfl (by kernel_rfl) ?_ ?_
  · refine sv 1 rfl rfl rfl (fun a u hE hD hk => exec_move (.tmp 7) _ rfl (hE 7 (.pointer (some ⟨p, 0, none⟩)) (by kernel_rfl) (by kernel_rfl))) ?_
    refine sv 2 rfl rfl rfl (fun a u hE hD hk => exec_eqP (.tmp 21) _ _ ⟨p, 0, none⟩ (by kernel_rfl) rfl (hD 0 21 (by kernel_rfl))) ?_
    refine sv 3 rfl rfl rfl (fun a u hE hD hk => exec_move (.tmp 22) _ rfl (hD 1 22 (by kernel_rfl))) ?_
    refine fsteps_cons 4 rfl (fun a u hE hD hk => f_val (o := ⟨some 24, _, _, _, _, _⟩) (.int .i64 (-1)) rfl (wanted_at (b := false) false rfl rfl (hD 2 23 (by kernel_rfl))) (exec_move (.tmp 8) _ rfl (hE 8 (.int .i64 (-1)) (by kernel_rfl) (by kernel_rfl))) rfl) ?_
    refine fsteps_cons 5 rfl (fun a u hE hD hk => f_as (show ((decide (((-1) : Int) ≠ ((-1) : Int))) : Bool) = false from decide_eq_false (by simp)) (f_val (o := ⟨some 25, _, _, _, _, _⟩) (.bool (decide (((-1) : Int) ≠ ((-1) : Int)))) rfl (wanted_at (b := false) false rfl rfl (hD 2 23 (by kernel_rfl))) (exec_nen (p := (-1)) (q := (-1)) rfl (hD 3 24 (by kernel_rfl)) rfl) rfl)) ?_
    refine sv 6 rfl rfl rfl (fun a u hE hD hk => exec_pickF (.tmp 23) (.const (.bool true)) (.tmp 25) (.bool false) rfl (hD 2 23 (by kernel_rfl)) (hD 4 25 (by kernel_rfl))) ?_
    exact fsteps_nil
  intro gv w2 hV k2
  rw [show dstsOf _ 6 = [21, 22, 23, 24, 25, 26] by kernel_rfl]
  simp only [List.foldl_cons, List.foldl_nil, List.setIfInBounds_toArray, List.set_cons_succ, List.set_cons_zero, List.drop_succ_cons, List.drop_zero]
  rw [show gv 26 = .bool false from hV 5 26 (by kernel_rfl)]
  clear hV
  refine wpList_nil ?_
  go_upto_region 4 with fail
  refine wp_text 4 [.eq (.int .i64 n), .eq (.int .i64 (ia : Int)), .eq (.int .i64 m), .eq (.int .i64 (ib : Int))] rfl (by kernel_rfl) ?_ ?_
  · refine sv 1 rfl rfl rfl (fun a u hE hD hk => exec_move (.tmp 1) _ rfl (hE 1 (.int .i64 n) (by kernel_rfl) (by kernel_rfl))) ?_
    refine fsteps_cons 2 rfl (fun a u hE hD hk => f_call (o := ⟨some 28, _, _, _, _, _⟩) 20 #[.int .i64 n, .int .i64 0, .int .i64 31] rfl (wanted_none rfl _) (exec_call 20 _ [.tmp 27, .const (.int .i64 0), .const (.int .i64 31)] _ [.int .i64 n, .int .i64 0, .int .i64 31] Try.func20 (by kernel_rfl) (by kernel_rfl) rfl (show [a.eval (.tmp 27), a.eval (.const (.int .i64 0)), a.eval (.const (.int .i64 31))] = [.int .i64 n, .int .i64 0, .int .i64 31] from (by rw [show a.eval (.tmp 27) = .int .i64 n from (hD 0 27 (by kernel_rfl))] <;> rfl)) u) (HWa.out u)) ?_
    refine sv 3 rfl rfl rfl (fun a u hE hD hk => exec_move (.tmp 2) _ rfl (hE 2 (.int .i64 m) (by kernel_rfl) (by kernel_rfl))) ?_
    refine fsteps_cons 4 rfl (fun a u hE hD hk => f_call (o := ⟨some 30, _, _, _, _, _⟩) 20 #[.int .i64 m, .int .i64 0, .int .i64 31] rfl (wanted_none rfl _) (exec_call 20 _ [.tmp 29, .const (.int .i64 0), .const (.int .i64 31)] _ [.int .i64 m, .int .i64 0, .int .i64 31] Try.func20 (by kernel_rfl) (by kernel_rfl) rfl (show [a.eval (.tmp 29), a.eval (.const (.int .i64 0)), a.eval (.const (.int .i64 31))] = [.int .i64 m, .int .i64 0, .int .i64 31] from (by rw [show a.eval (.tmp 29) = .int .i64 m from (hD 2 29 (by kernel_rfl))] <;> rfl)) u) (HWb.out u)) ?_
    exact fsteps_nil
  intro gv w3 hV k3
  rw [show dstsOf _ 4 = [27, 28, 29, 30] by kernel_rfl]
  simp only [List.foldl_cons, List.foldl_nil, List.setIfInBounds_toArray, List.set_cons_succ, List.set_cons_zero, List.drop_succ_cons, List.drop_zero]
  rw [show gv 28 = .int .i64 (ia : Int) from hV 1 28 (by kernel_rfl)]
  rw [show gv 30 = .int .i64 (ib : Int) from hV 3 30 (by kernel_rfl)]
  clear hV
  refine l_val (o := ⟨some 9, _, _, _, _, _⟩) (.int .i64 (ia : Int)) rfl (exec_assign (.tmp 28) (.int .i64 (ia : Int)) rfl (by kernel_rfl)) ?_
  simp only [Act.put, List.setIfInBounds_toArray, List.set_cons_succ, List.set_cons_zero]
  refine l_val (o := ⟨some 10, _, _, _, _, _⟩) (.int .i64 (ib : Int)) rfl (exec_assign (.tmp 30) (.int .i64 (ib : Int)) rfl (by kernel_rfl)) ?_
  simp only [Act.put, List.setIfInBounds_toArray, List.set_cons_succ, List.set_cons_zero]
  refine wpList_nil ?_
  have HP3 := Lib.hid ((HP1.out.kept k2).kept k3)
  have kw3 := (kw1.trans k2).trans k3
  clear HP1 kw1 k2 k3 HWa HWb
  go_upto_region 5 with fail
  refine wp_text 9 [.eq (.pointer (some ⟨p, 0, none⟩)), .eq (.int .i64 (ia : Int)), .eq (.int .u64 (V1 : Int)), .eq (.pointer (some ⟨p, 0, none⟩)), .eq (.int .i64 (ia : Int)), .eq (.int .u64 (V2 : Int)), .eq (.pointer (some ⟨p, 0, none⟩)), .eq (.int .i64 (ia : Int)), .eq (.int .u64 (V3 : Int))] rfl (by kernel_rfl) ?_ ?_
  · refine sv 1 rfl rfl rfl (fun a u hE hD hk => exec_move (.tmp 7) _ rfl (hE 7 (.pointer (some ⟨p, 0, none⟩)) (by kernel_rfl) (by kernel_rfl))) ?_
    refine sv 2 rfl rfl rfl (fun a u hE hD hk => exec_move (.tmp 9) _ rfl (hE 9 (.int .i64 (ia : Int)) (by kernel_rfl) (by kernel_rfl))) ?_
    refine fsteps_cons 3 rfl (fun a u hE hD hk => f_call (o := ⟨some 33, _, _, _, _, _⟩) 9 #[.pointer (some ⟨p, 0, none⟩), .int .i64 (ia : Int), .int .i64 1] rfl (wanted_none rfl _) (exec_call 9 _ [.tmp 31, .tmp 32, .const (.int .i64 1)] _ [.pointer (some ⟨p, 0, none⟩), .int .i64 (ia : Int), .int .i64 1] Try.func9 (by kernel_rfl) (by kernel_rfl) rfl (show [a.eval (.tmp 31), a.eval (.tmp 32), a.eval (.const (.int .i64 1))] = [.pointer (some ⟨p, 0, none⟩), .int .i64 (ia : Int), .int .i64 1] from (by rw [show a.eval (.tmp 31) = .pointer (some ⟨p, 0, none⟩) from (hD 0 31 (by kernel_rfl)), show a.eval (.tmp 32) = .int .i64 (ia : Int) from (hD 1 32 (by kernel_rfl))] <;> rfl)) u) (set_is (HP3.out.kept hk) HV1.out)) ?_
    refine sv 4 rfl rfl rfl (fun a u hE hD hk => exec_move (.tmp 7) _ rfl (hE 7 (.pointer (some ⟨p, 0, none⟩)) (by kernel_rfl) (by kernel_rfl))) ?_
    refine sv 5 rfl rfl rfl (fun a u hE hD hk => exec_move (.tmp 9) _ rfl (hE 9 (.int .i64 (ia : Int)) (by kernel_rfl) (by kernel_rfl))) ?_
    refine fsteps_cons 6 rfl (fun a u hE hD hk => f_call (o := ⟨some 36, _, _, _, _, _⟩) 9 #[.pointer (some ⟨p, 0, none⟩), .int .i64 (ia : Int), .int .i64 2] rfl (wanted_none rfl _) (exec_call 9 _ [.tmp 34, .tmp 35, .const (.int .i64 2)] _ [.pointer (some ⟨p, 0, none⟩), .int .i64 (ia : Int), .int .i64 2] Try.func9 (by kernel_rfl) (by kernel_rfl) rfl (show [a.eval (.tmp 34), a.eval (.tmp 35), a.eval (.const (.int .i64 2))] = [.pointer (some ⟨p, 0, none⟩), .int .i64 (ia : Int), .int .i64 2] from (by rw [show a.eval (.tmp 34) = .pointer (some ⟨p, 0, none⟩) from (hD 3 34 (by kernel_rfl)), show a.eval (.tmp 35) = .int .i64 (ia : Int) from (hD 4 35 (by kernel_rfl))] <;> rfl)) u) (set_is (HP3.out.kept hk) HV2.out)) ?_
    refine sv 7 rfl rfl rfl (fun a u hE hD hk => exec_move (.tmp 7) _ rfl (hE 7 (.pointer (some ⟨p, 0, none⟩)) (by kernel_rfl) (by kernel_rfl))) ?_
    refine sv 8 rfl rfl rfl (fun a u hE hD hk => exec_move (.tmp 9) _ rfl (hE 9 (.int .i64 (ia : Int)) (by kernel_rfl) (by kernel_rfl))) ?_
    refine fsteps_cons 9 rfl (fun a u hE hD hk => f_call (o := ⟨some 39, _, _, _, _, _⟩) 9 #[.pointer (some ⟨p, 0, none⟩), .int .i64 (ia : Int), .int .i64 3] rfl (wanted_none rfl _) (exec_call 9 _ [.tmp 37, .tmp 38, .const (.int .i64 3)] _ [.pointer (some ⟨p, 0, none⟩), .int .i64 (ia : Int), .int .i64 3] Try.func9 (by kernel_rfl) (by kernel_rfl) rfl (show [a.eval (.tmp 37), a.eval (.tmp 38), a.eval (.const (.int .i64 3))] = [.pointer (some ⟨p, 0, none⟩), .int .i64 (ia : Int), .int .i64 3] from (by rw [show a.eval (.tmp 37) = .pointer (some ⟨p, 0, none⟩) from (hD 6 37 (by kernel_rfl)), show a.eval (.tmp 38) = .int .i64 (ia : Int) from (hD 7 38 (by kernel_rfl))] <;> rfl)) u) (set_is (HP3.out.kept hk) HV3.out)) ?_
    exact fsteps_nil
  intro gv w4 hV k4
  rw [show dstsOf _ 9 = [31, 32, 33, 34, 35, 36, 37, 38, 39] by kernel_rfl]
  simp only [List.foldl_cons, List.foldl_nil, List.setIfInBounds_toArray, List.set_cons_succ, List.set_cons_zero, List.drop_succ_cons, List.drop_zero]
  rw [show gv 33 = .int .u64 (V1 : Int) from hV 2 33 (by kernel_rfl)]
  rw [show gv 36 = .int .u64 (V2 : Int) from hV 5 36 (by kernel_rfl)]
  rw [show gv 39 = .int .u64 (V3 : Int) from hV 8 39 (by kernel_rfl)]
  clear hV
  refine l_val (o := ⟨some 11, _, _, _, _, _⟩) (.int .u64 (V1 : Int)) rfl (exec_assign (.tmp 33) (.int .u64 (V1 : Int)) rfl (by kernel_rfl)) ?_
  simp only [Act.put, List.setIfInBounds_toArray, List.set_cons_succ, List.set_cons_zero]
  refine l_val (o := ⟨some 12, _, _, _, _, _⟩) (.int .u64 (V2 : Int)) rfl (exec_assign (.tmp 36) (.int .u64 (V2 : Int)) rfl (by kernel_rfl)) ?_
  simp only [Act.put, List.setIfInBounds_toArray, List.set_cons_succ, List.set_cons_zero]
  refine l_val (o := ⟨some 13, _, _, _, _, _⟩) (.int .u64 (V3 : Int)) rfl (exec_assign (.tmp 39) (.int .u64 (V3 : Int)) rfl (by kernel_rfl)) ?_
  simp only [Act.put, List.setIfInBounds_toArray, List.set_cons_succ, List.set_cons_zero]
  refine wpList_nil ?_
  have HP4 := Lib.hid (HP3.out.kept k4)
  have kw4 := kw3.trans k4
  clear HP3 kw3 k4
  cases ht : X.there (ia : Int) with
  | false =>
    have HT := Lib.hid ht
    obtain rfl : V1 = 0 := by rw [← HV1.out, setB_out ht]
    obtain rfl : V2 = 0 := by rw [← HV2.out, setB_out ht]
    obtain rfl : V3 = 0 := by rw [← HV3.out, setB_out ht]
    clear ht HV1 HV2 HV3
    go_upto_region 6 with fail
    refine wp_text 4 [.eq (.pointer (some ⟨p, 0, none⟩)), .eq (.int .i64 (ia : Int)), .eq (.bool false), .eq (.bool true)] rfl (by kernel_rfl) ?_ ?_
    · refine sv 1 rfl rfl rfl (fun a u hE hD hk => exec_move (.tmp 7) _ rfl (hE 7 (.pointer (some ⟨p, 0, none⟩)) (by kernel_rfl) (by kernel_rfl))) ?_
      refine sv 2 rfl rfl rfl (fun a u hE hD hk => exec_move (.tmp 9) _ rfl (hE 9 (.int .i64 (ia : Int)) (by kernel_rfl) (by kernel_rfl))) ?_
      refine fsteps_cons 3 rfl (fun a u hE hD hk => f_call (o := ⟨some 42, _, _, _, _, _⟩) 17 #[.pointer (some ⟨p, 0, none⟩), .int .i64 (ia : Int)] rfl (wanted_none rfl _) (exec_call 17 _ [.tmp 40, .tmp 41] _ [.pointer (some ⟨p, 0, none⟩), .int .i64 (ia : Int)] Try.func17 (by kernel_rfl) (by kernel_rfl) rfl (show [a.eval (.tmp 40), a.eval (.tmp 41)] = [.pointer (some ⟨p, 0, none⟩), .int .i64 (ia : Int)] from (by rw [show a.eval (.tmp 40) = .pointer (some ⟨p, 0, none⟩) from (hD 0 40 (by kernel_rfl)), show a.eval (.tmp 41) = .int .i64 (ia : Int) from (hD 1 41 (by kernel_rfl))] <;> rfl)) u) (there_is (HP4.out.kept hk) HT.out)) ?_
      refine sv 4 rfl rfl rfl (fun a u hE hD hk => exec_not _ (.tmp 42) false rfl (hD 2 42 (by kernel_rfl))) ?_
      exact fsteps_nil
    intro gv w5 hV k5
    rw [show dstsOf _ 4 = [40, 41, 42, 43] by kernel_rfl]
    simp only [List.foldl_cons, List.foldl_nil, List.setIfInBounds_toArray, List.set_cons_succ, List.set_cons_zero, List.drop_succ_cons, List.drop_zero]
    rw [show gv 43 = .bool true from hV 3 43 (by kernel_rfl)]
    clear hV
    refine wpList_nil ?_
    go_upto_region 7 with fail
    refine wp_text 14 [.eq (.int .u64 ((0 : Nat) : Int)), .eq (.bool true), .eq (.bool true), .eq (.int .u64 ((0 : Nat) : Int)), .eq (.bool true), .eq (.bool true), .eq (.bool true), .eq (.int .u64 ((0 : Nat) : Int)), .eq (.bool true), .eq (.bool true), .eq (.bool true), .eq (.bool true), .eq (.bool true), .eq (.bool true)] rfl (by kernel_rfl) ?_ ?_
    · refine sv 1 rfl rfl rfl (fun a u hE hD hk => exec_move (.tmp 11) _ rfl (hE 11 (.int .u64 ((0 : Nat) : Int)) (by kernel_rfl) (by kernel_rfl))) ?_
      refine sv 2 rfl rfl rfl (fun a u hE hD hk => exec_as (by decide) (exec_eqnU (.tmp 44) (.const (.int .u64 0)) _ _ ((0 : Nat) : Int) 0 rfl (hD 0 44 (by kernel_rfl)) rfl)) ?_
      refine sv 3 rfl rfl rfl (fun a u hE hD hk => exec_move (.tmp 45) _ rfl (hD 1 45 (by kernel_rfl))) ?_
      refine fsteps_cons 4 rfl (fun a u hE hD hk => f_val (o := ⟨some 47, _, _, _, _, _⟩) (.int .u64 ((0 : Nat) : Int)) rfl (wanted_at (b := true) true rfl rfl (hD 2 46 (by kernel_rfl))) (exec_move (.tmp 12) _ rfl (hE 12 (.int .u64 ((0 : Nat) : Int)) (by kernel_rfl) (by kernel_rfl))) rfl) ?_
      refine fsteps_cons 5 rfl (fun a u hE hD hk => f_val (o := ⟨some 48, _, _, _, _, _⟩) (.bool true) rfl (wanted_at (b := true) true rfl rfl (hD 2 46 (by kernel_rfl))) (exec_as (by decide) (exec_eqnU (.tmp 47) (.const (.int .u64 0)) _ _ ((0 : Nat) : Int) 0 rfl (hD 3 47 (by kernel_rfl)) rfl)) rfl) ?_
      refine sv 6 rfl rfl rfl (fun a u hE hD hk => exec_pick (.tmp 46) (.tmp 48) (.const (.bool false)) (.bool true) rfl (hD 2 46 (by kernel_rfl)) (hD 4 48 (by kernel_rfl))) ?_
      refine sv 7 rfl rfl rfl (fun a u hE hD hk => exec_move (.tmp 49) _ rfl (hD 5 49 (by kernel_rfl))) ?_
      refine fsteps_cons 8 rfl (fun a u hE hD hk => f_val (o := ⟨some 51, _, _, _, _, _⟩) (.int .u64 ((0 : Nat) : Int)) rfl (wanted_at (b := true) true rfl rfl (hD 6 50 (by kernel_rfl))) (exec_move (.tmp 13) _ rfl (hE 13 (.int .u64 ((0 : Nat) : Int)) (by kernel_rfl) (by kernel_rfl))) rfl) ?_
      refine fsteps_cons 9 rfl (fun a u hE hD hk => f_val (o := ⟨some 52, _, _, _, _, _⟩) (.bool true) rfl (wanted_at (b := true) true rfl rfl (hD 6 50 (by kernel_rfl))) (exec_as (by decide) (exec_eqnU (.tmp 51) (.const (.int .u64 0)) _ _ ((0 : Nat) : Int) 0 rfl (hD 7 51 (by kernel_rfl)) rfl)) rfl) ?_
      refine sv 10 rfl rfl rfl (fun a u hE hD hk => exec_pick (.tmp 50) (.tmp 52) (.const (.bool false)) (.bool true) rfl (hD 6 50 (by kernel_rfl)) (hD 8 52 (by kernel_rfl))) ?_
      refine sv 11 rfl rfl rfl (fun a u hE hD hk => exec_move (.tmp 53) _ rfl (hD 9 53 (by kernel_rfl))) ?_
      refine fsteps_cons 12 rfl (fun a u hE hD hk => f_call (o := ⟨some 55, _, _, _, _, _⟩) 3 #[] rfl (wanted_at (b := true) true rfl rfl (hD 10 54 (by kernel_rfl))) (exec_call 3 _ [] _ [] Try.func3 (by kernel_rfl) (by kernel_rfl) rfl rfl u) (treeRuns_is u)) ?_
      refine sv 13 rfl rfl rfl (fun a u hE hD hk => exec_pick (.tmp 54) (.tmp 55) (.const (.bool false)) (.bool true) rfl (hD 10 54 (by kernel_rfl)) (hD 11 55 (by kernel_rfl))) ?_
      refine sv 14 rfl rfl rfl (fun a u hE hD hk => exec_assign (.tmp 56) _ rfl (hD 12 56 (by kernel_rfl))) ?_
      exact fsteps_nil
    intro gv w6 hV k6
    rw [show dstsOf _ 14 = [44, 45, 46, 47, 48, 49, 50, 51, 52, 53, 54, 55, 56, 6] by kernel_rfl]
    simp only [List.foldl_cons, List.foldl_nil, List.setIfInBounds_toArray, List.set_cons_succ, List.set_cons_zero, List.drop_succ_cons, List.drop_zero]
    rw [show gv 6 = .bool true from hV 13 6 (by kernel_rfl)]
    clear hV
    refine wpList_nil ?_
    have kw6 := (kw4.trans k5).trans k6
    go_wp2
    go_ret
    exact ⟨rfl, kw6⟩
  | true =>
    have HT := Lib.hid ht
    have e1 : V1 = 2 ^ ia := by rw [← HV1.out, setB_in ht, if_pos rfl]
    have e2 : V2 = setM (setP X deskB ia) 32 := by rw [← HV2.out, setB_in ht, if_neg (by omega), if_pos rfl]
    have e3 : V3 = setM (setP X firmB ia) 32 := by rw [← HV3.out, setB_in ht, if_neg (by omega), if_neg (by omega), if_pos rfl]
    have HV1e := Lib.hid e1
    have hl2 : V2 < 2 ^ 64 := by rw [e2]; exact set_lt64 _
    have hl3 : V3 < 2 ^ 64 := by rw [e3]; exact set_lt64 _
    have hl1 : V1 < 2 ^ 64 := by rw [e1]; exact Nat.lt_of_le_of_lt (pow32 (by omega)) (by decide)
    have HA1 : Hid (V1 &&& (18446744073709551615 - V2) = 0) := andnot_zero hl1 hl2 (by rw [e1, e2]; exact own_bits ha32 ht deskB (fun t => by unfold deskB; simp))
    have HA2 : Hid (V2 &&& (18446744073709551615 - V3) = 0) := andnot_zero hl2 hl3 (by rw [e2, e3]; exact desk_bits X ia)
    have HL1 : Hid (V1 < 18446744073709551616) := hl1
    have HL2 : Hid (V2 < 18446744073709551616) := hl2
    have HL3 : Hid (V3 < 18446744073709551616) := hl3
    have HB2 : Hid (V2 / 2 ^ ib &&& 1 = if (X.there (ib : Int) && deskB (X.at_ ib) (X.at_ ia)) = true then 1 else 0) := by
      show _ = _
      rw [bit_one, e2, setM_bit, decide_eq_true hb32, Bool.true_and]
      rfl
    have HB3 : Hid (V3 / 2 ^ ib &&& 1 = if (X.there (ib : Int) && firmB (X.at_ ib) (X.at_ ia)) = true then 1 else 0) := by
      show _ = _
      rw [bit_one, e3, setM_bit, decide_eq_true hb32, Bool.true_and]
      rfl
    have HS2' : Hid (X.there (ib : Int) = true → deskB (X.at_ ib) (X.at_ ia) = true → X.setB (ib : Int) 2 = V2) := fun h h' => by
      rw [setB_in h, if_neg (by omega), if_pos rfl, e2]
      exact desk_same h'
    have HS3' : Hid (X.there (ib : Int) = true → firmB (X.at_ ib) (X.at_ ia) = true → X.setB (ib : Int) 3 = V3) := fun h h' => by
      rw [setB_in h, if_neg (by omega), if_neg (by omega), if_pos rfl, e3]
      exact firm_same h'
    obtain ⟨ta, hta⟩ : ∃ t, X.at_ ia = t := ⟨_, rfl⟩
    obtain ⟨tb, htb⟩ : ∃ t, X.at_ ib = t := ⟨_, rfl⟩
    have HGa : Hid (X.get (ia : Int) = ta) := by show _ = _; rw [get_in ht, hta]
    have HGb' : Hid (X.there (ib : Int) = true → X.get (ib : Int) = tb) := fun h => by rw [get_in h, htb]
    rw [hta, htb] at HB2 HB3 HS2' HS3'
    clear e1 e2 e3 hl1 hl2 hl3 HV1 HV2 HV3 ht hta htb
    go_upto_region 6 with fail
    refine wp_text 4 [.eq (.pointer (some ⟨p, 0, none⟩)), .eq (.int .i64 (ia : Int)), .eq (.bool true), .eq (.bool false)] rfl (by kernel_rfl) ?_ ?_
    · refine sv 1 rfl rfl rfl (fun a u hE hD hk => exec_move (.tmp 7) _ rfl (hE 7 (.pointer (some ⟨p, 0, none⟩)) (by kernel_rfl) (by kernel_rfl))) ?_
      refine sv 2 rfl rfl rfl (fun a u hE hD hk => exec_move (.tmp 9) _ rfl (hE 9 (.int .i64 (ia : Int)) (by kernel_rfl) (by kernel_rfl))) ?_
      refine fsteps_cons 3 rfl (fun a u hE hD hk => f_call (o := ⟨some 42, _, _, _, _, _⟩) 17 #[.pointer (some ⟨p, 0, none⟩), .int .i64 (ia : Int)] rfl (wanted_none rfl _) (exec_call 17 _ [.tmp 40, .tmp 41] _ [.pointer (some ⟨p, 0, none⟩), .int .i64 (ia : Int)] Try.func17 (by kernel_rfl) (by kernel_rfl) rfl (show [a.eval (.tmp 40), a.eval (.tmp 41)] = [.pointer (some ⟨p, 0, none⟩), .int .i64 (ia : Int)] from (by rw [show a.eval (.tmp 40) = .pointer (some ⟨p, 0, none⟩) from (hD 0 40 (by kernel_rfl)), show a.eval (.tmp 41) = .int .i64 (ia : Int) from (hD 1 41 (by kernel_rfl))] <;> rfl)) u) (there_is (HP4.out.kept hk) HT.out)) ?_
      refine sv 4 rfl rfl rfl (fun a u hE hD hk => exec_not _ (.tmp 42) true rfl (hD 2 42 (by kernel_rfl))) ?_
      exact fsteps_nil
    intro gv w5 hV k5
    rw [show dstsOf _ 4 = [40, 41, 42, 43] by kernel_rfl]
    simp only [List.foldl_cons, List.foldl_nil, List.setIfInBounds_toArray, List.set_cons_succ, List.set_cons_zero, List.drop_succ_cons, List.drop_zero]
    rw [show gv 43 = .bool false from hV 3 43 (by kernel_rfl)]
    clear hV
    refine wpList_nil ?_
    have HP5 := Lib.hid (HP4.out.kept k5)
    have kw5 := kw4.trans k5
    clear HP4 kw4 k5 HT
    go_upto_region 8 with fail
    refine wp_text 16 [.eq (.int .u64 (V1 : Int)), .eq (.int .i64 (ia : Int)), .eq (.int .u64 (V1 : Int)), .eq (.bool false), .eq (.bool false), .eq (.int .u64 (V1 : Int)), .eq (.int .u64 (V2 : Int)), .eq (.int .u64 ((0 : Nat) : Int)), .eq (.bool false), .eq (.bool false), .eq (.bool false), .eq (.int .u64 (V2 : Int)), .eq (.int .u64 (V3 : Int)), .eq (.int .u64 ((0 : Nat) : Int)), .eq (.bool false), .eq (.bool false)] rfl (by kernel_rfl) ?_ ?_
    · refine sv 1 rfl rfl rfl (fun a u hE hD hk => exec_move (.tmp 11) _ rfl (hE 11 (.int .u64 (V1 : Int)) (by kernel_rfl) (by kernel_rfl))) ?_
      refine sv 2 rfl rfl rfl (fun a u hE hD hk => exec_move (.tmp 9) _ rfl (hE 9 (.int .i64 (ia : Int)) (by kernel_rfl) (by kernel_rfl))) ?_
      refine sv 3 rfl rfl rfl (fun a u hE hD hk => by rw [HV1e.out]; exact exec_shlU (.tmp 58) _ ia rfl (hD 1 58 (by kernel_rfl)) (by omega)) ?_
      refine sv 4 rfl rfl rfl (fun a u hE hD hk => exec_as (decide_eq_false (by simp)) (exec_nenU (.tmp 57) (.tmp 59) _ _ (V1 : Int) (V1 : Int) rfl (hD 0 57 (by kernel_rfl)) (hD 2 59 (by kernel_rfl)))) ?_
      refine sv 5 rfl rfl rfl (fun a u hE hD hk => exec_move (.tmp 60) _ rfl (hD 3 60 (by kernel_rfl))) ?_
      refine fsteps_cons 6 rfl (fun a u hE hD hk => f_val (o := ⟨some 62, _, _, _, _, _⟩) (.int .u64 (V1 : Int)) rfl (wanted_at (b := false) false rfl rfl (hD 4 61 (by kernel_rfl))) (exec_move (.tmp 11) _ rfl (hE 11 (.int .u64 (V1 : Int)) (by kernel_rfl) (by kernel_rfl))) rfl) ?_
      refine fsteps_cons 7 rfl (fun a u hE hD hk => f_val (o := ⟨some 63, _, _, _, _, _⟩) (.int .u64 (V2 : Int)) rfl (wanted_at (b := false) false rfl rfl (hD 4 61 (by kernel_rfl))) (exec_move (.tmp 12) _ rfl (hE 12 (.int .u64 (V2 : Int)) (by kernel_rfl) (by kernel_rfl))) rfl) ?_
      refine fsteps_cons 8 rfl (fun a u hE hD hk => f_val (o := ⟨some 64, _, _, _, _, _⟩) (.int .u64 ((0 : Nat) : Int)) rfl (wanted_at (b := false) false rfl rfl (hD 4 61 (by kernel_rfl))) (by rw [← HA1.out]; exact exec_andNotU (.tmp 62) (.tmp 63) _ _ V1 V2 rfl (hD 5 62 (by kernel_rfl)) (hD 6 63 (by kernel_rfl)) (by have := HL1.out; omega) (by have := HL2.out; omega)) rfl) ?_
      refine fsteps_cons 9 rfl (fun a u hE hD hk => f_val (o := ⟨some 65, _, _, _, _, _⟩) (.bool false) rfl (wanted_at (b := false) false rfl rfl (hD 4 61 (by kernel_rfl))) (exec_as (by decide) (exec_nenU (.tmp 64) (.const (.int .u64 0)) _ _ ((0 : Nat) : Int) 0 rfl (hD 7 64 (by kernel_rfl)) rfl)) rfl) ?_
      refine sv 10 rfl rfl rfl (fun a u hE hD hk => exec_pickF (.tmp 61) (.const (.bool true)) (.tmp 65) (.bool false) rfl (hD 4 61 (by kernel_rfl)) (hD 8 65 (by kernel_rfl))) ?_
      refine sv 11 rfl rfl rfl (fun a u hE hD hk => exec_move (.tmp 66) _ rfl (hD 9 66 (by kernel_rfl))) ?_
      refine fsteps_cons 12 rfl (fun a u hE hD hk => f_val (o := ⟨some 68, _, _, _, _, _⟩) (.int .u64 (V2 : Int)) rfl (wanted_at (b := false) false rfl rfl (hD 10 67 (by kernel_rfl))) (exec_move (.tmp 12) _ rfl (hE 12 (.int .u64 (V2 : Int)) (by kernel_rfl) (by kernel_rfl))) rfl) ?_
      refine fsteps_cons 13 rfl (fun a u hE hD hk => f_val (o := ⟨some 69, _, _, _, _, _⟩) (.int .u64 (V3 : Int)) rfl (wanted_at (b := false) false rfl rfl (hD 10 67 (by kernel_rfl))) (exec_move (.tmp 13) _ rfl (hE 13 (.int .u64 (V3 : Int)) (by kernel_rfl) (by kernel_rfl))) rfl) ?_
      refine fsteps_cons 14 rfl (fun a u hE hD hk => f_val (o := ⟨some 70, _, _, _, _, _⟩) (.int .u64 ((0 : Nat) : Int)) rfl (wanted_at (b := false) false rfl rfl (hD 10 67 (by kernel_rfl))) (by rw [← HA2.out]; exact exec_andNotU (.tmp 68) (.tmp 69) _ _ V2 V3 rfl (hD 11 68 (by kernel_rfl)) (hD 12 69 (by kernel_rfl)) (by have := HL2.out; omega) (by have := HL3.out; omega)) rfl) ?_
      refine fsteps_cons 15 rfl (fun a u hE hD hk => f_val (o := ⟨some 71, _, _, _, _, _⟩) (.bool false) rfl (wanted_at (b := false) false rfl rfl (hD 10 67 (by kernel_rfl))) (exec_as (by decide) (exec_nenU (.tmp 70) (.const (.int .u64 0)) _ _ ((0 : Nat) : Int) 0 rfl (hD 13 70 (by kernel_rfl)) rfl)) rfl) ?_
      refine sv 16 rfl rfl rfl (fun a u hE hD hk => exec_pickF (.tmp 67) (.const (.bool true)) (.tmp 71) (.bool false) rfl (hD 10 67 (by kernel_rfl)) (hD 14 71 (by kernel_rfl))) ?_
      exact fsteps_nil
    intro gv w6 hV k6
    rw [show dstsOf _ 16 = [57, 58, 59, 60, 61, 62, 63, 64, 65, 66, 67, 68, 69, 70, 71, 72] by kernel_rfl]
    simp only [List.foldl_cons, List.foldl_nil, List.setIfInBounds_toArray, List.set_cons_succ, List.set_cons_zero, List.drop_succ_cons, List.drop_zero]
    rw [show gv 72 = .bool false from hV 15 72 (by kernel_rfl)]
    clear hV
    refine wpList_nil ?_
    have HP6 := Lib.hid (HP5.out.kept k6)
    have kw6 := kw5.trans k6
    clear HP5 kw5 k6
    clear HA1 HA2 HV1e HL1
    cases htb : X.there (ib : Int) with
    | false =>
      have HTb := Lib.hid htb
      have HD : Hid (V2 / 2 ^ ib &&& 1 = 0) := by show _ = _; rw [HB2.out, htb]; rfl
      have HF : Hid (V3 / 2 ^ ib &&& 1 = 0) := by show _ = _; rw [HB3.out, htb]; rfl
      clear htb HB2 HB3 HS2' HS3' HGa HGb'
      go_upto_region 10 with fail
      refine wp_text 23 [.eq (.int .u64 (V2 : Int)), .eq (.int .i64 (ib : Int)), .eq (.int .u64 ((V2 / 2 ^ ib : Nat) : Int)), .eq (.int .u64 ((0 : Nat) : Int)), .eq (.bool false), .eq (.bool false), .eq undef, .eq undef, .eq undef, .eq undef, .eq undef, .eq undef, .eq undef, .eq undef, .eq undef, .eq undef, .eq undef, .eq undef, .eq undef, .eq undef, .eq undef, .eq undef, .eq (.bool false)] rfl (by kernel_rfl) ?_ ?_
      · refine sv 1 rfl rfl rfl (fun a u hE hD hk => exec_move (.tmp 12) _ rfl (hE 12 (.int .u64 (V2 : Int)) (by kernel_rfl) (by kernel_rfl))) ?_
        refine sv 2 rfl rfl rfl (fun a u hE hD hk => exec_move (.tmp 10) _ rfl (hE 10 (.int .i64 (ib : Int)) (by kernel_rfl) (by kernel_rfl))) ?_
        refine sv 3 rfl rfl rfl (fun a u hE hD hk => exec_shrnU (.tmp 73) (.tmp 74) _ _ V2 ib rfl (hD 0 73 (by kernel_rfl)) (hD 1 74 (by kernel_rfl)) (by omega)) ?_
        refine sv 4 rfl rfl rfl (fun a u hE hD hk => by rw [← HD.out]; exact exec_andnU (.tmp 75) (.const (.int .u64 1)) _ _ (V2 / 2 ^ ib) 1 rfl (hD 2 75 (by kernel_rfl)) rfl (by have := HL2.out; exact Nat.lt_of_le_of_lt (Nat.div_le_self _ _) (by omega)) (by omega)) ?_
        refine sv 5 rfl rfl rfl (fun a u hE hD hk => exec_as (by decide) (exec_eqnU (.tmp 76) (.const (.int .u64 1)) _ _ ((0 : Nat) : Int) 1 rfl (hD 3 76 (by kernel_rfl)) rfl)) ?_
        refine sv 6 rfl rfl rfl (fun a u hE hD hk => exec_move (.tmp 77) _ rfl (hD 4 77 (by kernel_rfl))) ?_
        refine fsteps_cons 7 rfl (fun a u hE hD hk => f_skip (o := ⟨some 79, _, _, _, _, _⟩) rfl (wanted_at (b := true) false rfl rfl (hD 5 78 (by kernel_rfl))) rfl) ?_
        refine fsteps_cons 8 rfl (fun a u hE hD hk => f_skip (o := ⟨some 80, _, _, _, _, _⟩) rfl (wanted_at (b := true) false rfl rfl (hD 5 78 (by kernel_rfl))) rfl) ?_
        refine fsteps_cons 9 rfl (fun a u hE hD hk => f_skip (o := ⟨some 81, _, _, _, _, _⟩) rfl (wanted_at (b := true) false rfl rfl (hD 5 78 (by kernel_rfl))) rfl) ?_
        refine fsteps_cons 10 rfl (fun a u hE hD hk => f_skip (o := ⟨some 82, _, _, _, _, _⟩) rfl (wanted_at (b := true) false rfl rfl (hD 5 78 (by kernel_rfl))) rfl) ?_
        refine fsteps_cons 11 rfl (fun a u hE hD hk => f_skip (o := ⟨some 83, _, _, _, _, _⟩) rfl (wanted_at (b := true) false rfl rfl (hD 5 78 (by kernel_rfl))) rfl) ?_
        refine fsteps_cons 12 rfl (fun a u hE hD hk => f_skip (o := ⟨some 84, _, _, _, _, _⟩) rfl (wanted_at (b := true) false rfl rfl (hD 5 78 (by kernel_rfl))) rfl) ?_
        refine fsteps_cons 13 rfl (fun a u hE hD hk => f_skip (o := ⟨some 85, _, _, _, _, _⟩) rfl (wanted_undef (b := false) rfl rfl (hD 11 84 (by kernel_rfl))) rfl) ?_
        refine fsteps_cons 14 rfl (fun a u hE hD hk => f_skip (o := ⟨some 86, _, _, _, _, _⟩) rfl (wanted_undef (b := false) rfl rfl (hD 11 84 (by kernel_rfl))) rfl) ?_
        refine fsteps_cons 15 rfl (fun a u hE hD hk => f_skip (o := ⟨some 87, _, _, _, _, _⟩) rfl (wanted_undef (b := false) rfl rfl (hD 11 84 (by kernel_rfl))) rfl) ?_
        refine fsteps_cons 16 rfl (fun a u hE hD hk => f_skip (o := ⟨some 88, _, _, _, _, _⟩) rfl (wanted_undef (b := false) rfl rfl (hD 11 84 (by kernel_rfl))) rfl) ?_
        refine fsteps_cons 17 rfl (fun a u hE hD hk => f_skip (o := ⟨some 89, _, _, _, _, _⟩) rfl (wanted_undef (b := false) rfl rfl (hD 11 84 (by kernel_rfl))) rfl) ?_
        refine fsteps_cons 18 rfl (fun a u hE hD hk => f_skip (o := ⟨some 90, _, _, _, _, _⟩) rfl (wanted_undef (b := false) rfl rfl (hD 11 84 (by kernel_rfl))) rfl) ?_
        refine fsteps_cons 19 rfl (fun a u hE hD hk => f_skip (o := ⟨some 91, _, _, _, _, _⟩) rfl (wanted_undef (b := false) rfl rfl (hD 11 84 (by kernel_rfl))) rfl) ?_
        refine fsteps_cons 20 rfl (fun a u hE hD hk => f_skip (o := ⟨some 92, _, _, _, _, _⟩) rfl (wanted_undef (b := false) rfl rfl (hD 11 84 (by kernel_rfl))) rfl) ?_
        refine fsteps_cons 21 rfl (fun a u hE hD hk => f_skip (o := ⟨some 93, _, _, _, _, _⟩) rfl (wanted_undef (b := false) rfl rfl (hD 11 84 (by kernel_rfl))) rfl) ?_
        refine fsteps_cons 22 rfl (fun a u hE hD hk => f_skip (o := ⟨some 94, _, _, _, _, _⟩) rfl (wanted_at (b := true) false rfl rfl (hD 5 78 (by kernel_rfl))) rfl) ?_
        refine sv 23 rfl rfl rfl (fun a u hE hD hk => exec_pickF (.tmp 78) (.tmp 94) (.const (.bool false)) (.bool false) rfl (hD 5 78 (by kernel_rfl)) rfl) ?_
        exact fsteps_nil
      intro gv w7 hV k7
      rw [show dstsOf _ 23 = [73, 74, 75, 76, 77, 78, 79, 80, 81, 82, 83, 84, 85, 86, 87, 88, 89, 90, 91, 92, 93, 94, 95] by kernel_rfl]
      simp only [List.foldl_cons, List.foldl_nil, List.setIfInBounds_toArray, List.set_cons_succ, List.set_cons_zero, List.drop_succ_cons, List.drop_zero]
      rw [show gv 95 = .bool false from hV 22 95 (by kernel_rfl)]
      clear hV
      refine wpList_nil ?_
      have HP7 := Lib.hid (HP6.out.kept k7)
      have kw7 := kw6.trans k7
      clear HP6 kw6 k7
      go_upto_region 12 with fail
      refine wp_free 38 [.eq (.int .u64 (V3 : Int)), .eq (.int .i64 (ib : Int)), .eq (.int .u64 ((V3 / 2 ^ ib : Nat) : Int)), .eq (.int .u64 ((0 : Nat) : Int)), .eq (.bool false), .eq (.pointer (some ⟨p, 0, none⟩)), .eq (.int .i64 (ib : Int)), .eq (.bool false), .eq (.bool false), .eq undef, .eq undef, .eq undef, .eq undef, .eq undef, .eq undef, .eq undef, .eq undef, .eq undef, .eq (.bool false), .eq (.bool true), .eq (.bool true), .eq (.int .u64 (V3 : Int)), .eq (.int .i64 (ib : Int)), .eq (.int .u64 ((V3 / 2 ^ ib : Nat) : Int)), .eq (.int .u64 ((0 : Nat) : Int)), .eq (.bool true), .eq (.bool true), .eq undef, .eq undef, .eq undef, .eq undef, .eq undef, .eq (.bool true), .eq (.bool true), .eq (.bool true), .eq (.bool true), .eq (.bool true), .eq (.bool true)] (by kernel_rfl) rfl (by kernel_rfl) ?_ ?_
      · refine sv 1 rfl rfl rfl (fun a u hE hD hk => exec_move (.tmp 13) _ rfl (hE 13 (.int .u64 (V3 : Int)) (by kernel_rfl) (by kernel_rfl))) ?_
        refine sv 2 rfl rfl rfl (fun a u hE hD hk => exec_move (.tmp 10) _ rfl (hE 10 (.int .i64 (ib : Int)) (by kernel_rfl) (by kernel_rfl))) ?_
        refine sv 3 rfl rfl rfl (fun a u hE hD hk => exec_shrnU (.tmp 96) (.tmp 97) _ _ V3 ib rfl (hD 0 96 (by kernel_rfl)) (hD 1 97 (by kernel_rfl)) (by omega)) ?_
        refine sv 4 rfl rfl rfl (fun a u hE hD hk => by rw [← HF.out]; exact exec_andnU (.tmp 98) (.const (.int .u64 1)) _ _ (V3 / 2 ^ ib) 1 rfl (hD 2 98 (by kernel_rfl)) rfl (by have := HL3.out; exact Nat.lt_of_le_of_lt (Nat.div_le_self _ _) (by omega)) (by omega)) ?_
        refine sv 5 rfl rfl rfl (fun a u hE hD hk => exec_as (by decide) (exec_eqnU (.tmp 99) (.const (.int .u64 1)) _ _ ((0 : Nat) : Int) 1 rfl (hD 3 99 (by kernel_rfl)) rfl)) ?_
        refine sv 6 rfl rfl rfl (fun a u hE hD hk => exec_move (.tmp 7) _ rfl (hE 7 (.pointer (some ⟨p, 0, none⟩)) (by kernel_rfl) (by kernel_rfl))) ?_
        refine sv 7 rfl rfl rfl (fun a u hE hD hk => exec_move (.tmp 10) _ rfl (hE 10 (.int .i64 (ib : Int)) (by kernel_rfl) (by kernel_rfl))) ?_
        refine fsteps_cons 8 rfl (fun a u hE hD hk => f_call (o := ⟨some 103, _, _, _, _, _⟩) 17 #[.pointer (some ⟨p, 0, none⟩), .int .i64 (ib : Int)] rfl (wanted_none rfl _) (exec_call 17 _ [.tmp 101, .tmp 102] _ [.pointer (some ⟨p, 0, none⟩), .int .i64 (ib : Int)] Try.func17 (by kernel_rfl) (by kernel_rfl) rfl (show [a.eval (.tmp 101), a.eval (.tmp 102)] = [.pointer (some ⟨p, 0, none⟩), .int .i64 (ib : Int)] from (by rw [show a.eval (.tmp 101) = .pointer (some ⟨p, 0, none⟩) from (hD 5 101 (by kernel_rfl)), show a.eval (.tmp 102) = .int .i64 (ib : Int) from (hD 6 102 (by kernel_rfl))] <;> rfl)) u) (there_is (HP7.out.kept hk) HTb.out)) ?_
        refine sv 9 rfl rfl rfl (fun a u hE hD hk => exec_move (.tmp 103) _ rfl (hD 7 103 (by kernel_rfl))) ?_
        refine fsteps_cons 10 rfl (fun a u hE hD hk => f_skip (o := ⟨some 105, _, _, _, _, _⟩) rfl (wanted_at (b := true) false rfl rfl (hD 8 104 (by kernel_rfl))) rfl) ?_
        refine fsteps_cons 11 rfl (fun a u hE hD hk => f_skip (o := ⟨some 106, _, _, _, _, _⟩) rfl (wanted_at (b := true) false rfl rfl (hD 8 104 (by kernel_rfl))) rfl) ?_
        refine fsteps_cons 12 rfl (fun a u hE hD hk => f_skip (o := ⟨some 107, _, _, _, _, _⟩) rfl (wanted_at (b := true) false rfl rfl (hD 8 104 (by kernel_rfl))) rfl) ?_
        refine fsteps_cons 13 rfl (fun a u hE hD hk => f_skip (o := ⟨some 108, _, _, _, _, _⟩) rfl (wanted_at (b := true) false rfl rfl (hD 8 104 (by kernel_rfl))) rfl) ?_
        refine fsteps_cons 14 rfl (fun a u hE hD hk => f_skip (o := ⟨some 109, _, _, _, _, _⟩) rfl (wanted_at (b := true) false rfl rfl (hD 8 104 (by kernel_rfl))) rfl) ?_
        refine fsteps_cons 15 rfl (fun a u hE hD hk => f_skip (o := ⟨some 110, _, _, _, _, _⟩) rfl (wanted_at (b := true) false rfl rfl (hD 8 104 (by kernel_rfl))) rfl) ?_
        refine fsteps_cons 16 rfl (fun a u hE hD hk => f_skip (o := ⟨some 111, _, _, _, _, _⟩) rfl (wanted_at (b := true) false rfl rfl (hD 8 104 (by kernel_rfl))) rfl) ?_
        refine fsteps_cons 17 rfl (fun a u hE hD hk => f_skip (o := ⟨some 112, _, _, _, _, _⟩) rfl (wanted_at (b := true) false rfl rfl (hD 8 104 (by kernel_rfl))) rfl) ?_
        refine fsteps_cons 18 rfl (fun a u hE hD hk => f_skip (o := ⟨some 113, _, _, _, _, _⟩) rfl (wanted_at (b := true) false rfl rfl (hD 8 104 (by kernel_rfl))) rfl) ?_
        refine sv 19 rfl rfl rfl (fun a u hE hD hk => exec_pickF (.tmp 104) (.tmp 113) (.const (.bool false)) (.bool false) rfl (hD 8 104 (by kernel_rfl)) rfl) ?_
        refine sv 20 rfl rfl rfl (fun a u hE hD hk => exec_eqb (.tmp 100) (.tmp 114) _ false false true rfl (hD 4 100 (by kernel_rfl)) (hD 18 114 (by kernel_rfl)) rfl) ?_
        refine sv 21 rfl rfl rfl (fun a u hE hD hk => exec_move (.tmp 115) _ rfl (hD 19 115 (by kernel_rfl))) ?_
        refine fsteps_cons 22 rfl (fun a u hE hD hk => f_val (o := ⟨some 117, _, _, _, _, _⟩) (.int .u64 (V3 : Int)) rfl (wanted_at (b := true) true rfl rfl (hD 20 116 (by kernel_rfl))) (exec_move (.tmp 13) _ rfl (hE 13 (.int .u64 (V3 : Int)) (by kernel_rfl) (by kernel_rfl))) rfl) ?_
        refine fsteps_cons 23 rfl (fun a u hE hD hk => f_val (o := ⟨some 118, _, _, _, _, _⟩) (.int .i64 (ib : Int)) rfl (wanted_at (b := true) true rfl rfl (hD 20 116 (by kernel_rfl))) (exec_move (.tmp 10) _ rfl (hE 10 (.int .i64 (ib : Int)) (by kernel_rfl) (by kernel_rfl))) rfl) ?_
        refine fsteps_cons 24 rfl (fun a u hE hD hk => f_val (o := ⟨some 119, _, _, _, _, _⟩) (.int .u64 ((V3 / 2 ^ ib : Nat) : Int)) rfl (wanted_at (b := true) true rfl rfl (hD 20 116 (by kernel_rfl))) (exec_shrnU (.tmp 117) (.tmp 118) _ _ V3 ib rfl (hD 21 117 (by kernel_rfl)) (hD 22 118 (by kernel_rfl)) (by omega)) rfl) ?_
        refine fsteps_cons 25 rfl (fun a u hE hD hk => f_val (o := ⟨some 120, _, _, _, _, _⟩) (.int .u64 ((0 : Nat) : Int)) rfl (wanted_at (b := true) true rfl rfl (hD 20 116 (by kernel_rfl))) (by rw [← HF.out]; exact exec_andnU (.tmp 119) (.const (.int .u64 1)) _ _ (V3 / 2 ^ ib) 1 rfl (hD 23 119 (by kernel_rfl)) rfl (by have := HL3.out; exact Nat.lt_of_le_of_lt (Nat.div_le_self _ _) (by omega)) (by omega)) rfl) ?_
        refine fsteps_cons 26 rfl (fun a u hE hD hk => f_val (o := ⟨some 121, _, _, _, _, _⟩) (.bool true) rfl (wanted_at (b := true) true rfl rfl (hD 20 116 (by kernel_rfl))) (exec_as (by decide) (exec_eqnU (.tmp 120) (.const (.int .u64 0)) _ _ ((0 : Nat) : Int) 0 rfl (hD 24 120 (by kernel_rfl)) rfl)) rfl) ?_
        refine fsteps_cons 27 rfl (fun a u hE hD hk => f_val (o := ⟨some 122, _, _, _, _, _⟩) (.bool true) rfl (wanted_at (b := true) true rfl rfl (hD 20 116 (by kernel_rfl))) (exec_move (.tmp 121) _ rfl (hD 25 121 (by kernel_rfl))) rfl) ?_
        refine fsteps_cons 28 rfl (fun a u hE hD hk => f_skip (o := ⟨some 123, _, _, _, _, _⟩) rfl (wanted_at (b := false) true rfl rfl (hD 26 122 (by kernel_rfl))) rfl) ?_
        refine fsteps_cons 29 rfl (fun a u hE hD hk => f_skip (o := ⟨some 124, _, _, _, _, _⟩) rfl (wanted_at (b := false) true rfl rfl (hD 26 122 (by kernel_rfl))) rfl) ?_
        refine fsteps_cons 30 rfl (fun a u hE hD hk => f_skip (o := ⟨some 125, _, _, _, _, _⟩) rfl (wanted_at (b := false) true rfl rfl (hD 26 122 (by kernel_rfl))) rfl) ?_
        refine fsteps_cons 31 rfl (fun a u hE hD hk => f_skip (o := ⟨some 126, _, _, _, _, _⟩) rfl (wanted_at (b := false) true rfl rfl (hD 26 122 (by kernel_rfl))) rfl) ?_
        refine fsteps_cons 32 rfl (fun a u hE hD hk => f_skip (o := ⟨some 127, _, _, _, _, _⟩) rfl (wanted_at (b := false) true rfl rfl (hD 26 122 (by kernel_rfl))) rfl) ?_
        refine fsteps_cons 33 rfl (fun a u hE hD hk => f_val (o := ⟨some 128, _, _, _, _, _⟩) (.bool true) rfl (wanted_at (b := true) true rfl rfl (hD 20 116 (by kernel_rfl))) (exec_pick (.tmp 122) (.const (.bool true)) (.tmp 127) (.bool true) rfl (hD 26 122 (by kernel_rfl)) rfl) rfl) ?_
        refine sv 34 rfl rfl rfl (fun a u hE hD hk => exec_pick (.tmp 116) (.tmp 128) (.const (.bool false)) (.bool true) rfl (hD 20 116 (by kernel_rfl)) (hD 32 128 (by kernel_rfl))) ?_
        refine sv 35 rfl rfl rfl (fun a u hE hD hk => exec_move (.tmp 129) _ rfl (hD 33 129 (by kernel_rfl))) ?_
        refine fsteps_cons 36 rfl (fun a u hE hD hk => f_call (o := ⟨some 131, _, _, _, _, _⟩) 3 #[] rfl (wanted_at (b := true) true rfl rfl (hD 34 130 (by kernel_rfl))) (exec_call 3 _ [] _ [] Try.func3 (by kernel_rfl) (by kernel_rfl) rfl rfl u) (treeRuns_is u)) ?_
        refine sv 37 rfl rfl rfl (fun a u hE hD hk => exec_pick (.tmp 130) (.tmp 131) (.const (.bool false)) (.bool true) rfl (hD 34 130 (by kernel_rfl)) (hD 35 131 (by kernel_rfl))) ?_
        refine sv 38 rfl rfl rfl (fun a u hE hD hk => exec_assign (.tmp 132) _ rfl (hD 36 132 (by kernel_rfl))) ?_
        exact fsteps_nil
      intro gv w8 hV k8
      rw [show dstsOf _ 38 = [96, 97, 98, 99, 100, 101, 102, 103, 104, 105, 106, 107, 108, 109, 110, 111, 112, 113, 114, 115, 116, 117, 118, 119, 120, 121, 122, 123, 124, 125, 126, 127, 128, 129, 130, 131, 132, 6] by kernel_rfl]
      simp only [List.foldl_cons, List.foldl_nil, List.setIfInBounds_toArray, List.set_cons_succ, List.set_cons_zero, List.drop_succ_cons, List.drop_zero]
      rw [show gv 6 = .bool true from hV 37 6 (by kernel_rfl)]
      clear hV
      refine wpList_nil ?_
      have kw8 := kw7.trans k8
      go_wp2
      go_ret
      exact ⟨rfl, kw8⟩
    | true =>
      have HTb := Lib.hid htb
      have HGb := Lib.hid (HGb'.out htb)
      have hS2 := HS2'.out htb
      have hS3 := HS3'.out htb
      have hB2 := HB2.out
      have hB3 := HB3.out
      rw [htb] at hB2 hB3
      simp only [Bool.true_and] at hB2 hB3
      clear htb HB2 HB3 HS2' HS3' HGb'
      by_cases hf : tb.firm = ta.firm
      · have hfb : firmB tb ta = true := decide_eq_true hf
        have HPh : Hid (decide (tb.firm = ta.firm) = true) := hfb
        have HS3 := Lib.hid (hS3 hfb)
        have HF : Hid (V3 / 2 ^ ib &&& 1 = 1) := by show _ = _; rw [hB3, if_pos hfb]
        by_cases hd : tb.desk = ta.desk
        · have hdb : deskB tb ta = true := by unfold deskB; rw [decide_eq_true hf, decide_eq_true hd]; rfl
          have HDe := Lib.hid hd
          have HS2 := Lib.hid (hS2 hdb)
          have HD : Hid (V2 / 2 ^ ib &&& 1 = 1) := by show _ = _; rw [hB2, if_pos hdb]
          clear hf hd hfb hdb hB2 hB3 hS2 hS3
          go_upto_region 10 with fail
          refine wp_text 23 [.eq (.int .u64 (V2 : Int)), .eq (.int .i64 (ib : Int)), .eq (.int .u64 ((V2 / 2 ^ ib : Nat) : Int)), .eq (.int .u64 ((1 : Nat) : Int)), .eq (.bool true), .eq (.bool true), .eq (.pointer (some ⟨p, 0, none⟩)), .eq (.int .i64 (ib : Int)), .eq (.int .u64 (V2 : Int)), .eq (.int .u64 (V2 : Int)), .eq (.bool false), .eq (.bool false), .eq (.pointer (some ⟨p, 0, none⟩)), .eq (.int .i64 (ib : Int)), .eq (tb.v), .eq (.int .i64 tb.desk), .eq (.pointer (some ⟨p, 0, none⟩)), .eq (.int .i64 (ia : Int)), .eq (ta.v), .eq (.int .i64 ta.desk), .eq (.bool false), .eq (.bool false), .eq (.bool false)] rfl (by kernel_rfl) ?_ ?_
          · refine sv 1 rfl rfl rfl (fun a u hE hD hk => exec_move (.tmp 12) _ rfl (hE 12 (.int .u64 (V2 : Int)) (by kernel_rfl) (by kernel_rfl))) ?_
            refine sv 2 rfl rfl rfl (fun a u hE hD hk => exec_move (.tmp 10) _ rfl (hE 10 (.int .i64 (ib : Int)) (by kernel_rfl) (by kernel_rfl))) ?_
            refine sv 3 rfl rfl rfl (fun a u hE hD hk => exec_shrnU (.tmp 73) (.tmp 74) _ _ V2 ib rfl (hD 0 73 (by kernel_rfl)) (hD 1 74 (by kernel_rfl)) (by omega)) ?_
            refine sv 4 rfl rfl rfl (fun a u hE hD hk => by rw [← HD.out]; exact exec_andnU (.tmp 75) (.const (.int .u64 1)) _ _ (V2 / 2 ^ ib) 1 rfl (hD 2 75 (by kernel_rfl)) rfl (by have := HL2.out; exact Nat.lt_of_le_of_lt (Nat.div_le_self _ _) (by omega)) (by omega)) ?_
            refine sv 5 rfl rfl rfl (fun a u hE hD hk => exec_as (by decide) (exec_eqnU (.tmp 76) (.const (.int .u64 1)) _ _ ((1 : Nat) : Int) 1 rfl (hD 3 76 (by kernel_rfl)) rfl)) ?_
            refine sv 6 rfl rfl rfl (fun a u hE hD hk => exec_move (.tmp 77) _ rfl (hD 4 77 (by kernel_rfl))) ?_
            refine fsteps_cons 7 rfl (fun a u hE hD hk => f_val (o := ⟨some 79, _, _, _, _, _⟩) (.pointer (some ⟨p, 0, none⟩)) rfl (wanted_at (b := true) true rfl rfl (hD 5 78 (by kernel_rfl))) (exec_move (.tmp 7) _ rfl (hE 7 (.pointer (some ⟨p, 0, none⟩)) (by kernel_rfl) (by kernel_rfl))) rfl) ?_
            refine fsteps_cons 8 rfl (fun a u hE hD hk => f_val (o := ⟨some 80, _, _, _, _, _⟩) (.int .i64 (ib : Int)) rfl (wanted_at (b := true) true rfl rfl (hD 5 78 (by kernel_rfl))) (exec_move (.tmp 10) _ rfl (hE 10 (.int .i64 (ib : Int)) (by kernel_rfl) (by kernel_rfl))) rfl) ?_
            refine fsteps_cons 9 rfl (fun a u hE hD hk => f_call (o := ⟨some 81, _, _, _, _, _⟩) 9 #[.pointer (some ⟨p, 0, none⟩), .int .i64 (ib : Int), .int .i64 2] rfl (wanted_at (b := true) true rfl rfl (hD 5 78 (by kernel_rfl))) (exec_call 9 _ [.tmp 79, .tmp 80, .const (.int .i64 2)] _ [.pointer (some ⟨p, 0, none⟩), .int .i64 (ib : Int), .int .i64 2] Try.func9 (by kernel_rfl) (by kernel_rfl) rfl (show [a.eval (.tmp 79), a.eval (.tmp 80), a.eval (.const (.int .i64 2))] = [.pointer (some ⟨p, 0, none⟩), .int .i64 (ib : Int), .int .i64 2] from (by rw [show a.eval (.tmp 79) = .pointer (some ⟨p, 0, none⟩) from (hD 6 79 (by kernel_rfl)), show a.eval (.tmp 80) = .int .i64 (ib : Int) from (hD 7 80 (by kernel_rfl))] <;> rfl)) u) (set_is (HP6.out.kept hk) HS2.out)) ?_
            refine fsteps_cons 10 rfl (fun a u hE hD hk => f_val (o := ⟨some 82, _, _, _, _, _⟩) (.int .u64 (V2 : Int)) rfl (wanted_at (b := true) true rfl rfl (hD 5 78 (by kernel_rfl))) (exec_move (.tmp 12) _ rfl (hE 12 (.int .u64 (V2 : Int)) (by kernel_rfl) (by kernel_rfl))) rfl) ?_
            refine fsteps_cons 11 rfl (fun a u hE hD hk => f_val (o := ⟨some 83, _, _, _, _, _⟩) (.bool false) rfl (wanted_at (b := true) true rfl rfl (hD 5 78 (by kernel_rfl))) (exec_as (decide_eq_false (by simp)) (exec_nenU (.tmp 81) (.tmp 82) _ _ (V2 : Int) (V2 : Int) rfl (hD 8 81 (by kernel_rfl)) (hD 9 82 (by kernel_rfl)))) rfl) ?_
            refine fsteps_cons 12 rfl (fun a u hE hD hk => f_val (o := ⟨some 84, _, _, _, _, _⟩) (.bool false) rfl (wanted_at (b := true) true rfl rfl (hD 5 78 (by kernel_rfl))) (exec_move (.tmp 83) _ rfl (hD 10 83 (by kernel_rfl))) rfl) ?_
            refine fsteps_cons 13 rfl (fun a u hE hD hk => f_val (o := ⟨some 85, _, _, _, _, _⟩) (.pointer (some ⟨p, 0, none⟩)) rfl (wanted_at (b := false) false rfl rfl (hD 11 84 (by kernel_rfl))) (exec_move (.tmp 7) _ rfl (hE 7 (.pointer (some ⟨p, 0, none⟩)) (by kernel_rfl) (by kernel_rfl))) rfl) ?_
            refine fsteps_cons 14 rfl (fun a u hE hD hk => f_val (o := ⟨some 86, _, _, _, _, _⟩) (.int .i64 (ib : Int)) rfl (wanted_at (b := false) false rfl rfl (hD 11 84 (by kernel_rfl))) (exec_move (.tmp 10) _ rfl (hE 10 (.int .i64 (ib : Int)) (by kernel_rfl) (by kernel_rfl))) rfl) ?_
            refine fsteps_cons 15 rfl (fun a u hE hD hk => f_call (o := ⟨some 87, _, _, _, _, _⟩) 18 #[.pointer (some ⟨p, 0, none⟩), .int .i64 (ib : Int)] rfl (wanted_at (b := false) false rfl rfl (hD 11 84 (by kernel_rfl))) (exec_call 18 _ [.tmp 85, .tmp 86] _ [.pointer (some ⟨p, 0, none⟩), .int .i64 (ib : Int)] Try.func18 (by kernel_rfl) (by kernel_rfl) rfl (show [a.eval (.tmp 85), a.eval (.tmp 86)] = [.pointer (some ⟨p, 0, none⟩), .int .i64 (ib : Int)] from (by rw [show a.eval (.tmp 85) = .pointer (some ⟨p, 0, none⟩) from (hD 12 85 (by kernel_rfl)), show a.eval (.tmp 86) = .int .i64 (ib : Int) from (hD 13 86 (by kernel_rfl))] <;> rfl)) u) (get_is (HP6.out.kept hk) HGb.out)) ?_
            refine fsteps_cons 16 rfl (fun a u hE hD hk => f_val (o := ⟨some 88, _, _, _, _, _⟩) (.int .i64 tb.desk) rfl (wanted_at (b := false) false rfl rfl (hD 11 84 (by kernel_rfl))) (exec_fldT 1 tb _ (.tmp 87) rfl (hD 14 87 (by kernel_rfl)) (by kernel_rfl) rfl) rfl) ?_
            refine fsteps_cons 17 rfl (fun a u hE hD hk => f_val (o := ⟨some 89, _, _, _, _, _⟩) (.pointer (some ⟨p, 0, none⟩)) rfl (wanted_at (b := false) false rfl rfl (hD 11 84 (by kernel_rfl))) (exec_move (.tmp 7) _ rfl (hE 7 (.pointer (some ⟨p, 0, none⟩)) (by kernel_rfl) (by kernel_rfl))) rfl) ?_
            refine fsteps_cons 18 rfl (fun a u hE hD hk => f_val (o := ⟨some 90, _, _, _, _, _⟩) (.int .i64 (ia : Int)) rfl (wanted_at (b := false) false rfl rfl (hD 11 84 (by kernel_rfl))) (exec_move (.tmp 9) _ rfl (hE 9 (.int .i64 (ia : Int)) (by kernel_rfl) (by kernel_rfl))) rfl) ?_
            refine fsteps_cons 19 rfl (fun a u hE hD hk => f_call (o := ⟨some 91, _, _, _, _, _⟩) 18 #[.pointer (some ⟨p, 0, none⟩), .int .i64 (ia : Int)] rfl (wanted_at (b := false) false rfl rfl (hD 11 84 (by kernel_rfl))) (exec_call 18 _ [.tmp 89, .tmp 90] _ [.pointer (some ⟨p, 0, none⟩), .int .i64 (ia : Int)] Try.func18 (by kernel_rfl) (by kernel_rfl) rfl (show [a.eval (.tmp 89), a.eval (.tmp 90)] = [.pointer (some ⟨p, 0, none⟩), .int .i64 (ia : Int)] from (by rw [show a.eval (.tmp 89) = .pointer (some ⟨p, 0, none⟩) from (hD 16 89 (by kernel_rfl)), show a.eval (.tmp 90) = .int .i64 (ia : Int) from (hD 17 90 (by kernel_rfl))] <;> rfl)) u) (get_is (HP6.out.kept hk) HGa.out)) ?_
            refine fsteps_cons 20 rfl (fun a u hE hD hk => f_val (o := ⟨some 92, _, _, _, _, _⟩) (.int .i64 ta.desk) rfl (wanted_at (b := false) false rfl rfl (hD 11 84 (by kernel_rfl))) (exec_fldT 1 ta _ (.tmp 91) rfl (hD 18 91 (by kernel_rfl)) (by kernel_rfl) rfl) rfl) ?_
            refine fsteps_cons 21 rfl (fun a u hE hD hk => f_as (show ((decide ((tb.desk : Int) ≠ (ta.desk : Int))) : Bool) = false from decide_eq_false (fun h => h HDe.out)) (f_val (o := ⟨some 93, _, _, _, _, _⟩) (.bool (decide ((tb.desk : Int) ≠ (ta.desk : Int)))) rfl (wanted_at (b := false) false rfl rfl (hD 11 84 (by kernel_rfl))) (exec_nen (p := tb.desk) (q := ta.desk) rfl (hD 15 88 (by kernel_rfl)) (hD 19 92 (by kernel_rfl))) rfl)) ?_
            refine fsteps_cons 22 rfl (fun a u hE hD hk => f_val (o := ⟨some 94, _, _, _, _, _⟩) (.bool false) rfl (wanted_at (b := true) true rfl rfl (hD 5 78 (by kernel_rfl))) (exec_pickF (.tmp 84) (.const (.bool true)) (.tmp 93) (.bool false) rfl (hD 11 84 (by kernel_rfl)) (hD 20 93 (by kernel_rfl))) rfl) ?_
            refine sv 23 rfl rfl rfl (fun a u hE hD hk => exec_pick (.tmp 78) (.tmp 94) (.const (.bool false)) (.bool false) rfl (hD 5 78 (by kernel_rfl)) (hD 21 94 (by kernel_rfl))) ?_
            exact fsteps_nil
          intro gv w7 hV k7
          rw [show dstsOf _ 23 = [73, 74, 75, 76, 77, 78, 79, 80, 81, 82, 83, 84, 85, 86, 87, 88, 89, 90, 91, 92, 93, 94, 95] by kernel_rfl]
          simp only [List.foldl_cons, List.foldl_nil, List.setIfInBounds_toArray, List.set_cons_succ, List.set_cons_zero, List.drop_succ_cons, List.drop_zero]
          rw [show gv 95 = .bool false from hV 22 95 (by kernel_rfl)]
          clear hV
          refine wpList_nil ?_
          have HP7 := Lib.hid (HP6.out.kept k7)
          have kw7 := kw6.trans k7
          clear HP6 kw6 k7
          go_upto_region 12 with fail
          refine wp_free 38 [.eq (.int .u64 (V3 : Int)), .eq (.int .i64 (ib : Int)), .eq (.int .u64 ((V3 / 2 ^ ib : Nat) : Int)), .eq (.int .u64 ((1 : Nat) : Int)), .eq (.bool true), .eq (.pointer (some ⟨p, 0, none⟩)), .eq (.int .i64 (ib : Int)), .eq (.bool true), .eq (.bool true), .eq (.pointer (some ⟨p, 0, none⟩)), .eq (.int .i64 (ib : Int)), .eq (tb.v), .eq (.int .i64 tb.firm), .eq (.pointer (some ⟨p, 0, none⟩)), .eq (.int .i64 (ia : Int)), .eq (ta.v), .eq (.int .i64 ta.firm), .eq (.bool true), .eq (.bool true), .eq (.bool true), .eq (.bool true), .eq (.int .u64 (V3 : Int)), .eq (.int .i64 (ib : Int)), .eq (.int .u64 ((V3 / 2 ^ ib : Nat) : Int)), .eq (.int .u64 ((1 : Nat) : Int)), .eq (.bool false), .eq (.bool false), .eq (.pointer (some ⟨p, 0, none⟩)), .eq (.int .i64 (ib : Int)), .eq (.int .u64 (V3 : Int)), .eq (.int .u64 (V3 : Int)), .eq (.bool true), .eq (.bool true), .eq (.bool true), .eq (.bool true), .eq (.bool true), .eq (.bool true), .eq (.bool true)] (by kernel_rfl) rfl (by kernel_rfl) ?_ ?_
          · refine sv 1 rfl rfl rfl (fun a u hE hD hk => exec_move (.tmp 13) _ rfl (hE 13 (.int .u64 (V3 : Int)) (by kernel_rfl) (by kernel_rfl))) ?_
            refine sv 2 rfl rfl rfl (fun a u hE hD hk => exec_move (.tmp 10) _ rfl (hE 10 (.int .i64 (ib : Int)) (by kernel_rfl) (by kernel_rfl))) ?_
            refine sv 3 rfl rfl rfl (fun a u hE hD hk => exec_shrnU (.tmp 96) (.tmp 97) _ _ V3 ib rfl (hD 0 96 (by kernel_rfl)) (hD 1 97 (by kernel_rfl)) (by omega)) ?_
            refine sv 4 rfl rfl rfl (fun a u hE hD hk => by rw [← HF.out]; exact exec_andnU (.tmp 98) (.const (.int .u64 1)) _ _ (V3 / 2 ^ ib) 1 rfl (hD 2 98 (by kernel_rfl)) rfl (by have := HL3.out; exact Nat.lt_of_le_of_lt (Nat.div_le_self _ _) (by omega)) (by omega)) ?_
            refine sv 5 rfl rfl rfl (fun a u hE hD hk => exec_as (by decide) (exec_eqnU (.tmp 99) (.const (.int .u64 1)) _ _ ((1 : Nat) : Int) 1 rfl (hD 3 99 (by kernel_rfl)) rfl)) ?_
            refine sv 6 rfl rfl rfl (fun a u hE hD hk => exec_move (.tmp 7) _ rfl (hE 7 (.pointer (some ⟨p, 0, none⟩)) (by kernel_rfl) (by kernel_rfl))) ?_
            refine sv 7 rfl rfl rfl (fun a u hE hD hk => exec_move (.tmp 10) _ rfl (hE 10 (.int .i64 (ib : Int)) (by kernel_rfl) (by kernel_rfl))) ?_
            refine fsteps_cons 8 rfl (fun a u hE hD hk => f_call (o := ⟨some 103, _, _, _, _, _⟩) 17 #[.pointer (some ⟨p, 0, none⟩), .int .i64 (ib : Int)] rfl (wanted_none rfl _) (exec_call 17 _ [.tmp 101, .tmp 102] _ [.pointer (some ⟨p, 0, none⟩), .int .i64 (ib : Int)] Try.func17 (by kernel_rfl) (by kernel_rfl) rfl (show [a.eval (.tmp 101), a.eval (.tmp 102)] = [.pointer (some ⟨p, 0, none⟩), .int .i64 (ib : Int)] from (by rw [show a.eval (.tmp 101) = .pointer (some ⟨p, 0, none⟩) from (hD 5 101 (by kernel_rfl)), show a.eval (.tmp 102) = .int .i64 (ib : Int) from (hD 6 102 (by kernel_rfl))] <;> rfl)) u) (there_is (HP7.out.kept hk) HTb.out)) ?_
            refine sv 9 rfl rfl rfl (fun a u hE hD hk => exec_move (.tmp 103) _ rfl (hD 7 103 (by kernel_rfl))) ?_
            refine fsteps_cons 10 rfl (fun a u hE hD hk => f_val (o := ⟨some 105, _, _, _, _, _⟩) (.pointer (some ⟨p, 0, none⟩)) rfl (wanted_at (b := true) true rfl rfl (hD 8 104 (by kernel_rfl))) (exec_move (.tmp 7) _ rfl (hE 7 (.pointer (some ⟨p, 0, none⟩)) (by kernel_rfl) (by kernel_rfl))) rfl) ?_
            refine fsteps_cons 11 rfl (fun a u hE hD hk => f_val (o := ⟨some 106, _, _, _, _, _⟩) (.int .i64 (ib : Int)) rfl (wanted_at (b := true) true rfl rfl (hD 8 104 (by kernel_rfl))) (exec_move (.tmp 10) _ rfl (hE 10 (.int .i64 (ib : Int)) (by kernel_rfl) (by kernel_rfl))) rfl) ?_
            refine fsteps_cons 12 rfl (fun a u hE hD hk => f_call (o := ⟨some 107, _, _, _, _, _⟩) 18 #[.pointer (some ⟨p, 0, none⟩), .int .i64 (ib : Int)] rfl (wanted_at (b := true) true rfl rfl (hD 8 104 (by kernel_rfl))) (exec_call 18 _ [.tmp 105, .tmp 106] _ [.pointer (some ⟨p, 0, none⟩), .int .i64 (ib : Int)] Try.func18 (by kernel_rfl) (by kernel_rfl) rfl (show [a.eval (.tmp 105), a.eval (.tmp 106)] = [.pointer (some ⟨p, 0, none⟩), .int .i64 (ib : Int)] from (by rw [show a.eval (.tmp 105) = .pointer (some ⟨p, 0, none⟩) from (hD 9 105 (by kernel_rfl)), show a.eval (.tmp 106) = .int .i64 (ib : Int) from (hD 10 106 (by kernel_rfl))] <;> rfl)) u) (get_is (HP7.out.kept hk) HGb.out)) ?_
            refine fsteps_cons 13 rfl (fun a u hE hD hk => f_val (o := ⟨some 108, _, _, _, _, _⟩) (.int .i64 tb.firm) rfl (wanted_at (b := true) true rfl rfl (hD 8 104 (by kernel_rfl))) (exec_fldT 0 tb _ (.tmp 107) rfl (hD 11 107 (by kernel_rfl)) (by kernel_rfl) rfl) rfl) ?_
            refine fsteps_cons 14 rfl (fun a u hE hD hk => f_val (o := ⟨some 109, _, _, _, _, _⟩) (.pointer (some ⟨p, 0, none⟩)) rfl (wanted_at (b := true) true rfl rfl (hD 8 104 (by kernel_rfl))) (exec_move (.tmp 7) _ rfl (hE 7 (.pointer (some ⟨p, 0, none⟩)) (by kernel_rfl) (by kernel_rfl))) rfl) ?_
            refine fsteps_cons 15 rfl (fun a u hE hD hk => f_val (o := ⟨some 110, _, _, _, _, _⟩) (.int .i64 (ia : Int)) rfl (wanted_at (b := true) true rfl rfl (hD 8 104 (by kernel_rfl))) (exec_move (.tmp 9) _ rfl (hE 9 (.int .i64 (ia : Int)) (by kernel_rfl) (by kernel_rfl))) rfl) ?_
            refine fsteps_cons 16 rfl (fun a u hE hD hk => f_call (o := ⟨some 111, _, _, _, _, _⟩) 18 #[.pointer (some ⟨p, 0, none⟩), .int .i64 (ia : Int)] rfl (wanted_at (b := true) true rfl rfl (hD 8 104 (by kernel_rfl))) (exec_call 18 _ [.tmp 109, .tmp 110] _ [.pointer (some ⟨p, 0, none⟩), .int .i64 (ia : Int)] Try.func18 (by kernel_rfl) (by kernel_rfl) rfl (show [a.eval (.tmp 109), a.eval (.tmp 110)] = [.pointer (some ⟨p, 0, none⟩), .int .i64 (ia : Int)] from (by rw [show a.eval (.tmp 109) = .pointer (some ⟨p, 0, none⟩) from (hD 13 109 (by kernel_rfl)), show a.eval (.tmp 110) = .int .i64 (ia : Int) from (hD 14 110 (by kernel_rfl))] <;> rfl)) u) (get_is (HP7.out.kept hk) HGa.out)) ?_
            refine fsteps_cons 17 rfl (fun a u hE hD hk => f_val (o := ⟨some 112, _, _, _, _, _⟩) (.int .i64 ta.firm) rfl (wanted_at (b := true) true rfl rfl (hD 8 104 (by kernel_rfl))) (exec_fldT 0 ta _ (.tmp 111) rfl (hD 15 111 (by kernel_rfl)) (by kernel_rfl) rfl) rfl) ?_
            refine fsteps_cons 18 rfl (fun a u hE hD hk => f_as (show ((decide ((tb.firm : Int) = (ta.firm : Int))) : Bool) = true from HPh.out) (f_val (o := ⟨some 113, _, _, _, _, _⟩) (.bool (decide ((tb.firm : Int) = (ta.firm : Int)))) rfl (wanted_at (b := true) true rfl rfl (hD 8 104 (by kernel_rfl))) (exec_eqn (p := tb.firm) (q := ta.firm) rfl (hD 12 108 (by kernel_rfl)) (hD 16 112 (by kernel_rfl))) rfl)) ?_
            refine sv 19 rfl rfl rfl (fun a u hE hD hk => exec_pick (.tmp 104) (.tmp 113) (.const (.bool false)) (.bool true) rfl (hD 8 104 (by kernel_rfl)) (hD 17 113 (by kernel_rfl))) ?_
            refine sv 20 rfl rfl rfl (fun a u hE hD hk => exec_eqb (.tmp 100) (.tmp 114) _ true true true rfl (hD 4 100 (by kernel_rfl)) (hD 18 114 (by kernel_rfl)) rfl) ?_
            refine sv 21 rfl rfl rfl (fun a u hE hD hk => exec_move (.tmp 115) _ rfl (hD 19 115 (by kernel_rfl))) ?_
            refine fsteps_cons 22 rfl (fun a u hE hD hk => f_val (o := ⟨some 117, _, _, _, _, _⟩) (.int .u64 (V3 : Int)) rfl (wanted_at (b := true) true rfl rfl (hD 20 116 (by kernel_rfl))) (exec_move (.tmp 13) _ rfl (hE 13 (.int .u64 (V3 : Int)) (by kernel_rfl) (by kernel_rfl))) rfl) ?_
            refine fsteps_cons 23 rfl (fun a u hE hD hk => f_val (o := ⟨some 118, _, _, _, _, _⟩) (.int .i64 (ib : Int)) rfl (wanted_at (b := true) true rfl rfl (hD 20 116 (by kernel_rfl))) (exec_move (.tmp 10) _ rfl (hE 10 (.int .i64 (ib : Int)) (by kernel_rfl) (by kernel_rfl))) rfl) ?_
            refine fsteps_cons 24 rfl (fun a u hE hD hk => f_val (o := ⟨some 119, _, _, _, _, _⟩) (.int .u64 ((V3 / 2 ^ ib : Nat) : Int)) rfl (wanted_at (b := true) true rfl rfl (hD 20 116 (by kernel_rfl))) (exec_shrnU (.tmp 117) (.tmp 118) _ _ V3 ib rfl (hD 21 117 (by kernel_rfl)) (hD 22 118 (by kernel_rfl)) (by omega)) rfl) ?_
            refine fsteps_cons 25 rfl (fun a u hE hD hk => f_val (o := ⟨some 120, _, _, _, _, _⟩) (.int .u64 ((1 : Nat) : Int)) rfl (wanted_at (b := true) true rfl rfl (hD 20 116 (by kernel_rfl))) (by rw [← HF.out]; exact exec_andnU (.tmp 119) (.const (.int .u64 1)) _ _ (V3 / 2 ^ ib) 1 rfl (hD 23 119 (by kernel_rfl)) rfl (by have := HL3.out; exact Nat.lt_of_le_of_lt (Nat.div_le_self _ _) (by omega)) (by omega)) rfl) ?_
            refine fsteps_cons 26 rfl (fun a u hE hD hk => f_val (o := ⟨some 121, _, _, _, _, _⟩) (.bool false) rfl (wanted_at (b := true) true rfl rfl (hD 20 116 (by kernel_rfl))) (exec_as (by decide) (exec_eqnU (.tmp 120) (.const (.int .u64 0)) _ _ ((1 : Nat) : Int) 0 rfl (hD 24 120 (by kernel_rfl)) rfl)) rfl) ?_
            refine fsteps_cons 27 rfl (fun a u hE hD hk => f_val (o := ⟨some 122, _, _, _, _, _⟩) (.bool false) rfl (wanted_at (b := true) true rfl rfl (hD 20 116 (by kernel_rfl))) (exec_move (.tmp 121) _ rfl (hD 25 121 (by kernel_rfl))) rfl) ?_
            refine fsteps_cons 28 rfl (fun a u hE hD hk => f_val (o := ⟨some 123, _, _, _, _, _⟩) (.pointer (some ⟨p, 0, none⟩)) rfl (wanted_at (b := false) false rfl rfl (hD 26 122 (by kernel_rfl))) (exec_move (.tmp 7) _ rfl (hE 7 (.pointer (some ⟨p, 0, none⟩)) (by kernel_rfl) (by kernel_rfl))) rfl) ?_
            refine fsteps_cons 29 rfl (fun a u hE hD hk => f_val (o := ⟨some 124, _, _, _, _, _⟩) (.int .i64 (ib : Int)) rfl (wanted_at (b := false) false rfl rfl (hD 26 122 (by kernel_rfl))) (exec_move (.tmp 10) _ rfl (hE 10 (.int .i64 (ib : Int)) (by kernel_rfl) (by kernel_rfl))) rfl) ?_
            refine fsteps_cons 30 rfl (fun a u hE hD hk => f_call (o := ⟨some 125, _, _, _, _, _⟩) 9 #[.pointer (some ⟨p, 0, none⟩), .int .i64 (ib : Int), .int .i64 3] rfl (wanted_at (b := false) false rfl rfl (hD 26 122 (by kernel_rfl))) (exec_call 9 _ [.tmp 123, .tmp 124, .const (.int .i64 3)] _ [.pointer (some ⟨p, 0, none⟩), .int .i64 (ib : Int), .int .i64 3] Try.func9 (by kernel_rfl) (by kernel_rfl) rfl (show [a.eval (.tmp 123), a.eval (.tmp 124), a.eval (.const (.int .i64 3))] = [.pointer (some ⟨p, 0, none⟩), .int .i64 (ib : Int), .int .i64 3] from (by rw [show a.eval (.tmp 123) = .pointer (some ⟨p, 0, none⟩) from (hD 27 123 (by kernel_rfl)), show a.eval (.tmp 124) = .int .i64 (ib : Int) from (hD 28 124 (by kernel_rfl))] <;> rfl)) u) (set_is (HP7.out.kept hk) HS3.out)) ?_
            refine fsteps_cons 31 rfl (fun a u hE hD hk => f_val (o := ⟨some 126, _, _, _, _, _⟩) (.int .u64 (V3 : Int)) rfl (wanted_at (b := false) false rfl rfl (hD 26 122 (by kernel_rfl))) (exec_move (.tmp 13) _ rfl (hE 13 (.int .u64 (V3 : Int)) (by kernel_rfl) (by kernel_rfl))) rfl) ?_
            refine fsteps_cons 32 rfl (fun a u hE hD hk => f_val (o := ⟨some 127, _, _, _, _, _⟩) (.bool true) rfl (wanted_at (b := false) false rfl rfl (hD 26 122 (by kernel_rfl))) (exec_as (decide_eq_true rfl) (exec_eqnU (.tmp 125) (.tmp 126) _ _ (V3 : Int) (V3 : Int) rfl (hD 29 125 (by kernel_rfl)) (hD 30 126 (by kernel_rfl)))) rfl) ?_
            refine fsteps_cons 33 rfl (fun a u hE hD hk => f_val (o := ⟨some 128, _, _, _, _, _⟩) (.bool true) rfl (wanted_at (b := true) true rfl rfl (hD 20 116 (by kernel_rfl))) (exec_pickF (.tmp 122) (.const (.bool true)) (.tmp 127) (.bool true) rfl (hD 26 122 (by kernel_rfl)) (hD 31 127 (by kernel_rfl))) rfl) ?_
            refine sv 34 rfl rfl rfl (fun a u hE hD hk => exec_pick (.tmp 116) (.tmp 128) (.const (.bool false)) (.bool true) rfl (hD 20 116 (by kernel_rfl)) (hD 32 128 (by kernel_rfl))) ?_
            refine sv 35 rfl rfl rfl (fun a u hE hD hk => exec_move (.tmp 129) _ rfl (hD 33 129 (by kernel_rfl))) ?_
            refine fsteps_cons 36 rfl (fun a u hE hD hk => f_call (o := ⟨some 131, _, _, _, _, _⟩) 3 #[] rfl (wanted_at (b := true) true rfl rfl (hD 34 130 (by kernel_rfl))) (exec_call 3 _ [] _ [] Try.func3 (by kernel_rfl) (by kernel_rfl) rfl rfl u) (treeRuns_is u)) ?_
            refine sv 37 rfl rfl rfl (fun a u hE hD hk => exec_pick (.tmp 130) (.tmp 131) (.const (.bool false)) (.bool true) rfl (hD 34 130 (by kernel_rfl)) (hD 35 131 (by kernel_rfl))) ?_
            refine sv 38 rfl rfl rfl (fun a u hE hD hk => exec_assign (.tmp 132) _ rfl (hD 36 132 (by kernel_rfl))) ?_
            exact fsteps_nil
          intro gv w8 hV k8
          rw [show dstsOf _ 38 = [96, 97, 98, 99, 100, 101, 102, 103, 104, 105, 106, 107, 108, 109, 110, 111, 112, 113, 114, 115, 116, 117, 118, 119, 120, 121, 122, 123, 124, 125, 126, 127, 128, 129, 130, 131, 132, 6] by kernel_rfl]
          simp only [List.foldl_cons, List.foldl_nil, List.setIfInBounds_toArray, List.set_cons_succ, List.set_cons_zero, List.drop_succ_cons, List.drop_zero]
          rw [show gv 6 = .bool true from hV 37 6 (by kernel_rfl)]
          clear hV
          refine wpList_nil ?_
          have kw8 := kw7.trans k8
          go_wp2
          go_ret
          exact ⟨rfl, kw8⟩
        · have HD : Hid (V2 / 2 ^ ib &&& 1 = 0) := by show _ = _; rw [hB2, if_neg (by unfold deskB; rw [decide_eq_false hd]; simp)]
          clear hf hd hfb hB2 hB3 hS2 hS3
          go_upto_region 10 with fail
          refine wp_text 23 [.eq (.int .u64 (V2 : Int)), .eq (.int .i64 (ib : Int)), .eq (.int .u64 ((V2 / 2 ^ ib : Nat) : Int)), .eq (.int .u64 ((0 : Nat) : Int)), .eq (.bool false), .eq (.bool false), .eq undef, .eq undef, .eq undef, .eq undef, .eq undef, .eq undef, .eq undef, .eq undef, .eq undef, .eq undef, .eq undef, .eq undef, .eq undef, .eq undef, .eq undef, .eq undef, .eq (.bool false)] rfl (by kernel_rfl) ?_ ?_
          · refine sv 1 rfl rfl rfl (fun a u hE hD hk => exec_move (.tmp 12) _ rfl (hE 12 (.int .u64 (V2 : Int)) (by kernel_rfl) (by kernel_rfl))) ?_
            refine sv 2 rfl rfl rfl (fun a u hE hD hk => exec_move (.tmp 10) _ rfl (hE 10 (.int .i64 (ib : Int)) (by kernel_rfl) (by kernel_rfl))) ?_
            refine sv 3 rfl rfl rfl (fun a u hE hD hk => exec_shrnU (.tmp 73) (.tmp 74) _ _ V2 ib rfl (hD 0 73 (by kernel_rfl)) (hD 1 74 (by kernel_rfl)) (by omega)) ?_
            refine sv 4 rfl rfl rfl (fun a u hE hD hk => by rw [← HD.out]; exact exec_andnU (.tmp 75) (.const (.int .u64 1)) _ _ (V2 / 2 ^ ib) 1 rfl (hD 2 75 (by kernel_rfl)) rfl (by have := HL2.out; exact Nat.lt_of_le_of_lt (Nat.div_le_self _ _) (by omega)) (by omega)) ?_
            refine sv 5 rfl rfl rfl (fun a u hE hD hk => exec_as (by decide) (exec_eqnU (.tmp 76) (.const (.int .u64 1)) _ _ ((0 : Nat) : Int) 1 rfl (hD 3 76 (by kernel_rfl)) rfl)) ?_
            refine sv 6 rfl rfl rfl (fun a u hE hD hk => exec_move (.tmp 77) _ rfl (hD 4 77 (by kernel_rfl))) ?_
            refine fsteps_cons 7 rfl (fun a u hE hD hk => f_skip (o := ⟨some 79, _, _, _, _, _⟩) rfl (wanted_at (b := true) false rfl rfl (hD 5 78 (by kernel_rfl))) rfl) ?_
            refine fsteps_cons 8 rfl (fun a u hE hD hk => f_skip (o := ⟨some 80, _, _, _, _, _⟩) rfl (wanted_at (b := true) false rfl rfl (hD 5 78 (by kernel_rfl))) rfl) ?_
            refine fsteps_cons 9 rfl (fun a u hE hD hk => f_skip (o := ⟨some 81, _, _, _, _, _⟩) rfl (wanted_at (b := true) false rfl rfl (hD 5 78 (by kernel_rfl))) rfl) ?_
            refine fsteps_cons 10 rfl (fun a u hE hD hk => f_skip (o := ⟨some 82, _, _, _, _, _⟩) rfl (wanted_at (b := true) false rfl rfl (hD 5 78 (by kernel_rfl))) rfl) ?_
            refine fsteps_cons 11 rfl (fun a u hE hD hk => f_skip (o := ⟨some 83, _, _, _, _, _⟩) rfl (wanted_at (b := true) false rfl rfl (hD 5 78 (by kernel_rfl))) rfl) ?_
            refine fsteps_cons 12 rfl (fun a u hE hD hk => f_skip (o := ⟨some 84, _, _, _, _, _⟩) rfl (wanted_at (b := true) false rfl rfl (hD 5 78 (by kernel_rfl))) rfl) ?_
            refine fsteps_cons 13 rfl (fun a u hE hD hk => f_skip (o := ⟨some 85, _, _, _, _, _⟩) rfl (wanted_undef (b := false) rfl rfl (hD 11 84 (by kernel_rfl))) rfl) ?_
            refine fsteps_cons 14 rfl (fun a u hE hD hk => f_skip (o := ⟨some 86, _, _, _, _, _⟩) rfl (wanted_undef (b := false) rfl rfl (hD 11 84 (by kernel_rfl))) rfl) ?_
            refine fsteps_cons 15 rfl (fun a u hE hD hk => f_skip (o := ⟨some 87, _, _, _, _, _⟩) rfl (wanted_undef (b := false) rfl rfl (hD 11 84 (by kernel_rfl))) rfl) ?_
            refine fsteps_cons 16 rfl (fun a u hE hD hk => f_skip (o := ⟨some 88, _, _, _, _, _⟩) rfl (wanted_undef (b := false) rfl rfl (hD 11 84 (by kernel_rfl))) rfl) ?_
            refine fsteps_cons 17 rfl (fun a u hE hD hk => f_skip (o := ⟨some 89, _, _, _, _, _⟩) rfl (wanted_undef (b := false) rfl rfl (hD 11 84 (by kernel_rfl))) rfl) ?_
            refine fsteps_cons 18 rfl (fun a u hE hD hk => f_skip (o := ⟨some 90, _, _, _, _, _⟩) rfl (wanted_undef (b := false) rfl rfl (hD 11 84 (by kernel_rfl))) rfl) ?_
            refine fsteps_cons 19 rfl (fun a u hE hD hk => f_skip (o := ⟨some 91, _, _, _, _, _⟩) rfl (wanted_undef (b := false) rfl rfl (hD 11 84 (by kernel_rfl))) rfl) ?_
            refine fsteps_cons 20 rfl (fun a u hE hD hk => f_skip (o := ⟨some 92, _, _, _, _, _⟩) rfl (wanted_undef (b := false) rfl rfl (hD 11 84 (by kernel_rfl))) rfl) ?_
            refine fsteps_cons 21 rfl (fun a u hE hD hk => f_skip (o := ⟨some 93, _, _, _, _, _⟩) rfl (wanted_undef (b := false) rfl rfl (hD 11 84 (by kernel_rfl))) rfl) ?_
            refine fsteps_cons 22 rfl (fun a u hE hD hk => f_skip (o := ⟨some 94, _, _, _, _, _⟩) rfl (wanted_at (b := true) false rfl rfl (hD 5 78 (by kernel_rfl))) rfl) ?_
            refine sv 23 rfl rfl rfl (fun a u hE hD hk => exec_pickF (.tmp 78) (.tmp 94) (.const (.bool false)) (.bool false) rfl (hD 5 78 (by kernel_rfl)) rfl) ?_
            exact fsteps_nil
          intro gv w7 hV k7
          rw [show dstsOf _ 23 = [73, 74, 75, 76, 77, 78, 79, 80, 81, 82, 83, 84, 85, 86, 87, 88, 89, 90, 91, 92, 93, 94, 95] by kernel_rfl]
          simp only [List.foldl_cons, List.foldl_nil, List.setIfInBounds_toArray, List.set_cons_succ, List.set_cons_zero, List.drop_succ_cons, List.drop_zero]
          rw [show gv 95 = .bool false from hV 22 95 (by kernel_rfl)]
          clear hV
          refine wpList_nil ?_
          have HP7 := Lib.hid (HP6.out.kept k7)
          have kw7 := kw6.trans k7
          clear HP6 kw6 k7
          go_upto_region 12 with fail
          refine wp_free 38 [.eq (.int .u64 (V3 : Int)), .eq (.int .i64 (ib : Int)), .eq (.int .u64 ((V3 / 2 ^ ib : Nat) : Int)), .eq (.int .u64 ((1 : Nat) : Int)), .eq (.bool true), .eq (.pointer (some ⟨p, 0, none⟩)), .eq (.int .i64 (ib : Int)), .eq (.bool true), .eq (.bool true), .eq (.pointer (some ⟨p, 0, none⟩)), .eq (.int .i64 (ib : Int)), .eq (tb.v), .eq (.int .i64 tb.firm), .eq (.pointer (some ⟨p, 0, none⟩)), .eq (.int .i64 (ia : Int)), .eq (ta.v), .eq (.int .i64 ta.firm), .eq (.bool true), .eq (.bool true), .eq (.bool true), .eq (.bool true), .eq (.int .u64 (V3 : Int)), .eq (.int .i64 (ib : Int)), .eq (.int .u64 ((V3 / 2 ^ ib : Nat) : Int)), .eq (.int .u64 ((1 : Nat) : Int)), .eq (.bool false), .eq (.bool false), .eq (.pointer (some ⟨p, 0, none⟩)), .eq (.int .i64 (ib : Int)), .eq (.int .u64 (V3 : Int)), .eq (.int .u64 (V3 : Int)), .eq (.bool true), .eq (.bool true), .eq (.bool true), .eq (.bool true), .eq (.bool true), .eq (.bool true), .eq (.bool true)] (by kernel_rfl) rfl (by kernel_rfl) ?_ ?_
          · refine sv 1 rfl rfl rfl (fun a u hE hD hk => exec_move (.tmp 13) _ rfl (hE 13 (.int .u64 (V3 : Int)) (by kernel_rfl) (by kernel_rfl))) ?_
            refine sv 2 rfl rfl rfl (fun a u hE hD hk => exec_move (.tmp 10) _ rfl (hE 10 (.int .i64 (ib : Int)) (by kernel_rfl) (by kernel_rfl))) ?_
            refine sv 3 rfl rfl rfl (fun a u hE hD hk => exec_shrnU (.tmp 96) (.tmp 97) _ _ V3 ib rfl (hD 0 96 (by kernel_rfl)) (hD 1 97 (by kernel_rfl)) (by omega)) ?_
            refine sv 4 rfl rfl rfl (fun a u hE hD hk => by rw [← HF.out]; exact exec_andnU (.tmp 98) (.const (.int .u64 1)) _ _ (V3 / 2 ^ ib) 1 rfl (hD 2 98 (by kernel_rfl)) rfl (by have := HL3.out; exact Nat.lt_of_le_of_lt (Nat.div_le_self _ _) (by omega)) (by omega)) ?_
            refine sv 5 rfl rfl rfl (fun a u hE hD hk => exec_as (by decide) (exec_eqnU (.tmp 99) (.const (.int .u64 1)) _ _ ((1 : Nat) : Int) 1 rfl (hD 3 99 (by kernel_rfl)) rfl)) ?_
            refine sv 6 rfl rfl rfl (fun a u hE hD hk => exec_move (.tmp 7) _ rfl (hE 7 (.pointer (some ⟨p, 0, none⟩)) (by kernel_rfl) (by kernel_rfl))) ?_
            refine sv 7 rfl rfl rfl (fun a u hE hD hk => exec_move (.tmp 10) _ rfl (hE 10 (.int .i64 (ib : Int)) (by kernel_rfl) (by kernel_rfl))) ?_
            refine fsteps_cons 8 rfl (fun a u hE hD hk => f_call (o := ⟨some 103, _, _, _, _, _⟩) 17 #[.pointer (some ⟨p, 0, none⟩), .int .i64 (ib : Int)] rfl (wanted_none rfl _) (exec_call 17 _ [.tmp 101, .tmp 102] _ [.pointer (some ⟨p, 0, none⟩), .int .i64 (ib : Int)] Try.func17 (by kernel_rfl) (by kernel_rfl) rfl (show [a.eval (.tmp 101), a.eval (.tmp 102)] = [.pointer (some ⟨p, 0, none⟩), .int .i64 (ib : Int)] from (by rw [show a.eval (.tmp 101) = .pointer (some ⟨p, 0, none⟩) from (hD 5 101 (by kernel_rfl)), show a.eval (.tmp 102) = .int .i64 (ib : Int) from (hD 6 102 (by kernel_rfl))] <;> rfl)) u) (there_is (HP7.out.kept hk) HTb.out)) ?_
            refine sv 9 rfl rfl rfl (fun a u hE hD hk => exec_move (.tmp 103) _ rfl (hD 7 103 (by kernel_rfl))) ?_
            refine fsteps_cons 10 rfl (fun a u hE hD hk => f_val (o := ⟨some 105, _, _, _, _, _⟩) (.pointer (some ⟨p, 0, none⟩)) rfl (wanted_at (b := true) true rfl rfl (hD 8 104 (by kernel_rfl))) (exec_move (.tmp 7) _ rfl (hE 7 (.pointer (some ⟨p, 0, none⟩)) (by kernel_rfl) (by kernel_rfl))) rfl) ?_
            refine fsteps_cons 11 rfl (fun a u hE hD hk => f_val (o := ⟨some 106, _, _, _, _, _⟩) (.int .i64 (ib : Int)) rfl (wanted_at (b := true) true rfl rfl (hD 8 104 (by kernel_rfl))) (exec_move (.tmp 10) _ rfl (hE 10 (.int .i64 (ib : Int)) (by kernel_rfl) (by kernel_rfl))) rfl) ?_
            refine fsteps_cons 12 rfl (fun a u hE hD hk => f_call (o := ⟨some 107, _, _, _, _, _⟩) 18 #[.pointer (some ⟨p, 0, none⟩), .int .i64 (ib : Int)] rfl (wanted_at (b := true) true rfl rfl (hD 8 104 (by kernel_rfl))) (exec_call 18 _ [.tmp 105, .tmp 106] _ [.pointer (some ⟨p, 0, none⟩), .int .i64 (ib : Int)] Try.func18 (by kernel_rfl) (by kernel_rfl) rfl (show [a.eval (.tmp 105), a.eval (.tmp 106)] = [.pointer (some ⟨p, 0, none⟩), .int .i64 (ib : Int)] from (by rw [show a.eval (.tmp 105) = .pointer (some ⟨p, 0, none⟩) from (hD 9 105 (by kernel_rfl)), show a.eval (.tmp 106) = .int .i64 (ib : Int) from (hD 10 106 (by kernel_rfl))] <;> rfl)) u) (get_is (HP7.out.kept hk) HGb.out)) ?_
            refine fsteps_cons 13 rfl (fun a u hE hD hk => f_val (o := ⟨some 108, _, _, _, _, _⟩) (.int .i64 tb.firm) rfl (wanted_at (b := true) true rfl rfl (hD 8 104 (by kernel_rfl))) (exec_fldT 0 tb _ (.tmp 107) rfl (hD 11 107 (by kernel_rfl)) (by kernel_rfl) rfl) rfl) ?_
            refine fsteps_cons 14 rfl (fun a u hE hD hk => f_val (o := ⟨some 109, _, _, _, _, _⟩) (.pointer (some ⟨p, 0, none⟩)) rfl (wanted_at (b := true) true rfl rfl (hD 8 104 (by kernel_rfl))) (exec_move (.tmp 7) _ rfl (hE 7 (.pointer (some ⟨p, 0, none⟩)) (by kernel_rfl) (by kernel_rfl))) rfl) ?_
            refine fsteps_cons 15 rfl (fun a u hE hD hk => f_val (o := ⟨some 110, _, _, _, _, _⟩) (.int .i64 (ia : Int)) rfl (wanted_at (b := true) true rfl rfl (hD 8 104 (by kernel_rfl))) (exec_move (.tmp 9) _ rfl (hE 9 (.int .i64 (ia : Int)) (by kernel_rfl) (by kernel_rfl))) rfl) ?_
            refine fsteps_cons 16 rfl (fun a u hE hD hk => f_call (o := ⟨some 111, _, _, _, _, _⟩) 18 #[.pointer (some ⟨p, 0, none⟩), .int .i64 (ia : Int)] rfl (wanted_at (b := true) true rfl rfl (hD 8 104 (by kernel_rfl))) (exec_call 18 _ [.tmp 109, .tmp 110] _ [.pointer (some ⟨p, 0, none⟩), .int .i64 (ia : Int)] Try.func18 (by kernel_rfl) (by kernel_rfl) rfl (show [a.eval (.tmp 109), a.eval (.tmp 110)] = [.pointer (some ⟨p, 0, none⟩), .int .i64 (ia : Int)] from (by rw [show a.eval (.tmp 109) = .pointer (some ⟨p, 0, none⟩) from (hD 13 109 (by kernel_rfl)), show a.eval (.tmp 110) = .int .i64 (ia : Int) from (hD 14 110 (by kernel_rfl))] <;> rfl)) u) (get_is (HP7.out.kept hk) HGa.out)) ?_
            refine fsteps_cons 17 rfl (fun a u hE hD hk => f_val (o := ⟨some 112, _, _, _, _, _⟩) (.int .i64 ta.firm) rfl (wanted_at (b := true) true rfl rfl (hD 8 104 (by kernel_rfl))) (exec_fldT 0 ta _ (.tmp 111) rfl (hD 15 111 (by kernel_rfl)) (by kernel_rfl) rfl) rfl) ?_
            refine fsteps_cons 18 rfl (fun a u hE hD hk => f_as (show ((decide ((tb.firm : Int) = (ta.firm : Int))) : Bool) = true from HPh.out) (f_val (o := ⟨some 113, _, _, _, _, _⟩) (.bool (decide ((tb.firm : Int) = (ta.firm : Int)))) rfl (wanted_at (b := true) true rfl rfl (hD 8 104 (by kernel_rfl))) (exec_eqn (p := tb.firm) (q := ta.firm) rfl (hD 12 108 (by kernel_rfl)) (hD 16 112 (by kernel_rfl))) rfl)) ?_
            refine sv 19 rfl rfl rfl (fun a u hE hD hk => exec_pick (.tmp 104) (.tmp 113) (.const (.bool false)) (.bool true) rfl (hD 8 104 (by kernel_rfl)) (hD 17 113 (by kernel_rfl))) ?_
            refine sv 20 rfl rfl rfl (fun a u hE hD hk => exec_eqb (.tmp 100) (.tmp 114) _ true true true rfl (hD 4 100 (by kernel_rfl)) (hD 18 114 (by kernel_rfl)) rfl) ?_
            refine sv 21 rfl rfl rfl (fun a u hE hD hk => exec_move (.tmp 115) _ rfl (hD 19 115 (by kernel_rfl))) ?_
            refine fsteps_cons 22 rfl (fun a u hE hD hk => f_val (o := ⟨some 117, _, _, _, _, _⟩) (.int .u64 (V3 : Int)) rfl (wanted_at (b := true) true rfl rfl (hD 20 116 (by kernel_rfl))) (exec_move (.tmp 13) _ rfl (hE 13 (.int .u64 (V3 : Int)) (by kernel_rfl) (by kernel_rfl))) rfl) ?_
            refine fsteps_cons 23 rfl (fun a u hE hD hk => f_val (o := ⟨some 118, _, _, _, _, _⟩) (.int .i64 (ib : Int)) rfl (wanted_at (b := true) true rfl rfl (hD 20 116 (by kernel_rfl))) (exec_move (.tmp 10) _ rfl (hE 10 (.int .i64 (ib : Int)) (by kernel_rfl) (by kernel_rfl))) rfl) ?_
            refine fsteps_cons 24 rfl (fun a u hE hD hk => f_val (o := ⟨some 119, _, _, _, _, _⟩) (.int .u64 ((V3 / 2 ^ ib : Nat) : Int)) rfl (wanted_at (b := true) true rfl rfl (hD 20 116 (by kernel_rfl))) (exec_shrnU (.tmp 117) (.tmp 118) _ _ V3 ib rfl (hD 21 117 (by kernel_rfl)) (hD 22 118 (by kernel_rfl)) (by omega)) rfl) ?_
            refine fsteps_cons 25 rfl (fun a u hE hD hk => f_val (o := ⟨some 120, _, _, _, _, _⟩) (.int .u64 ((1 : Nat) : Int)) rfl (wanted_at (b := true) true rfl rfl (hD 20 116 (by kernel_rfl))) (by rw [← HF.out]; exact exec_andnU (.tmp 119) (.const (.int .u64 1)) _ _ (V3 / 2 ^ ib) 1 rfl (hD 23 119 (by kernel_rfl)) rfl (by have := HL3.out; exact Nat.lt_of_le_of_lt (Nat.div_le_self _ _) (by omega)) (by omega)) rfl) ?_
            refine fsteps_cons 26 rfl (fun a u hE hD hk => f_val (o := ⟨some 121, _, _, _, _, _⟩) (.bool false) rfl (wanted_at (b := true) true rfl rfl (hD 20 116 (by kernel_rfl))) (exec_as (by decide) (exec_eqnU (.tmp 120) (.const (.int .u64 0)) _ _ ((1 : Nat) : Int) 0 rfl (hD 24 120 (by kernel_rfl)) rfl)) rfl) ?_
            refine fsteps_cons 27 rfl (fun a u hE hD hk => f_val (o := ⟨some 122, _, _, _, _, _⟩) (.bool false) rfl (wanted_at (b := true) true rfl rfl (hD 20 116 (by kernel_rfl))) (exec_move (.tmp 121) _ rfl (hD 25 121 (by kernel_rfl))) rfl) ?_
            refine fsteps_cons 28 rfl (fun a u hE hD hk => f_val (o := ⟨some 123, _, _, _, _, _⟩) (.pointer (some ⟨p, 0, none⟩)) rfl (wanted_at (b := false) false rfl rfl (hD 26 122 (by kernel_rfl))) (exec_move (.tmp 7) _ rfl (hE 7 (.pointer (some ⟨p, 0, none⟩)) (by kernel_rfl) (by kernel_rfl))) rfl) ?_
            refine fsteps_cons 29 rfl (fun a u hE hD hk => f_val (o := ⟨some 124, _, _, _, _, _⟩) (.int .i64 (ib : Int)) rfl (wanted_at (b := false) false rfl rfl (hD 26 122 (by kernel_rfl))) (exec_move (.tmp 10) _ rfl (hE 10 (.int .i64 (ib : Int)) (by kernel_rfl) (by kernel_rfl))) rfl) ?_
            refine fsteps_cons 30 rfl (fun a u hE hD hk => f_call (o := ⟨some 125, _, _, _, _, _⟩) 9 #[.pointer (some ⟨p, 0, none⟩), .int .i64 (ib : Int), .int .i64 3] rfl (wanted_at (b := false) false rfl rfl (hD 26 122 (by kernel_rfl))) (exec_call 9 _ [.tmp 123, .tmp 124, .const (.int .i64 3)] _ [.pointer (some ⟨p, 0, none⟩), .int .i64 (ib : Int), .int .i64 3] Try.func9 (by kernel_rfl) (by kernel_rfl) rfl (show [a.eval (.tmp 123), a.eval (.tmp 124), a.eval (.const (.int .i64 3))] = [.pointer (some ⟨p, 0, none⟩), .int .i64 (ib : Int), .int .i64 3] from (by rw [show a.eval (.tmp 123) = .pointer (some ⟨p, 0, none⟩) from (hD 27 123 (by kernel_rfl)), show a.eval (.tmp 124) = .int .i64 (ib : Int) from (hD 28 124 (by kernel_rfl))] <;> rfl)) u) (set_is (HP7.out.kept hk) HS3.out)) ?_
            refine fsteps_cons 31 rfl (fun a u hE hD hk => f_val (o := ⟨some 126, _, _, _, _, _⟩) (.int .u64 (V3 : Int)) rfl (wanted_at (b := false) false rfl rfl (hD 26 122 (by kernel_rfl))) (exec_move (.tmp 13) _ rfl (hE 13 (.int .u64 (V3 : Int)) (by kernel_rfl) (by kernel_rfl))) rfl) ?_
            refine fsteps_cons 32 rfl (fun a u hE hD hk => f_val (o := ⟨some 127, _, _, _, _, _⟩) (.bool true) rfl (wanted_at (b := false) false rfl rfl (hD 26 122 (by kernel_rfl))) (exec_as (decide_eq_true rfl) (exec_eqnU (.tmp 125) (.tmp 126) _ _ (V3 : Int) (V3 : Int) rfl (hD 29 125 (by kernel_rfl)) (hD 30 126 (by kernel_rfl)))) rfl) ?_
            refine fsteps_cons 33 rfl (fun a u hE hD hk => f_val (o := ⟨some 128, _, _, _, _, _⟩) (.bool true) rfl (wanted_at (b := true) true rfl rfl (hD 20 116 (by kernel_rfl))) (exec_pickF (.tmp 122) (.const (.bool true)) (.tmp 127) (.bool true) rfl (hD 26 122 (by kernel_rfl)) (hD 31 127 (by kernel_rfl))) rfl) ?_
            refine sv 34 rfl rfl rfl (fun a u hE hD hk => exec_pick (.tmp 116) (.tmp 128) (.const (.bool false)) (.bool true) rfl (hD 20 116 (by kernel_rfl)) (hD 32 128 (by kernel_rfl))) ?_
            refine sv 35 rfl rfl rfl (fun a u hE hD hk => exec_move (.tmp 129) _ rfl (hD 33 129 (by kernel_rfl))) ?_
            refine fsteps_cons 36 rfl (fun a u hE hD hk => f_call (o := ⟨some 131, _, _, _, _, _⟩) 3 #[] rfl (wanted_at (b := true) true rfl rfl (hD 34 130 (by kernel_rfl))) (exec_call 3 _ [] _ [] Try.func3 (by kernel_rfl) (by kernel_rfl) rfl rfl u) (treeRuns_is u)) ?_
            refine sv 37 rfl rfl rfl (fun a u hE hD hk => exec_pick (.tmp 130) (.tmp 131) (.const (.bool false)) (.bool true) rfl (hD 34 130 (by kernel_rfl)) (hD 35 131 (by kernel_rfl))) ?_
            refine sv 38 rfl rfl rfl (fun a u hE hD hk => exec_assign (.tmp 132) _ rfl (hD 36 132 (by kernel_rfl))) ?_
            exact fsteps_nil
          intro gv w8 hV k8
          rw [show dstsOf _ 38 = [96, 97, 98, 99, 100, 101, 102, 103, 104, 105, 106, 107, 108, 109, 110, 111, 112, 113, 114, 115, 116, 117, 118, 119, 120, 121, 122, 123, 124, 125, 126, 127, 128, 129, 130, 131, 132, 6] by kernel_rfl]
          simp only [List.foldl_cons, List.foldl_nil, List.setIfInBounds_toArray, List.set_cons_succ, List.set_cons_zero, List.drop_succ_cons, List.drop_zero]
          rw [show gv 6 = .bool true from hV 37 6 (by kernel_rfl)]
          clear hV
          refine wpList_nil ?_
          have kw8 := kw7.trans k8
          go_wp2
          go_ret
          exact ⟨rfl, kw8⟩
      · have HPh : Hid (decide (tb.firm = ta.firm) = false) := decide_eq_false hf
        have HF : Hid (V3 / 2 ^ ib &&& 1 = 0) := by show _ = _; rw [hB3, if_neg (by unfold firmB; rw [decide_eq_false hf]; simp)]
        have HD : Hid (V2 / 2 ^ ib &&& 1 = 0) := by show _ = _; rw [hB2, if_neg (by unfold deskB; rw [decide_eq_false hf]; simp)]
        clear hf hB2 hB3 hS2 hS3
        go_upto_region 10 with fail
        refine wp_text 23 [.eq (.int .u64 (V2 : Int)), .eq (.int .i64 (ib : Int)), .eq (.int .u64 ((V2 / 2 ^ ib : Nat) : Int)), .eq (.int .u64 ((0 : Nat) : Int)), .eq (.bool false), .eq (.bool false), .eq undef, .eq undef, .eq undef, .eq undef, .eq undef, .eq undef, .eq undef, .eq undef, .eq undef, .eq undef, .eq undef, .eq undef, .eq undef, .eq undef, .eq undef, .eq undef, .eq (.bool false)] rfl (by kernel_rfl) ?_ ?_
        · refine sv 1 rfl rfl rfl (fun a u hE hD hk => exec_move (.tmp 12) _ rfl (hE 12 (.int .u64 (V2 : Int)) (by kernel_rfl) (by kernel_rfl))) ?_
          refine sv 2 rfl rfl rfl (fun a u hE hD hk => exec_move (.tmp 10) _ rfl (hE 10 (.int .i64 (ib : Int)) (by kernel_rfl) (by kernel_rfl))) ?_
          refine sv 3 rfl rfl rfl (fun a u hE hD hk => exec_shrnU (.tmp 73) (.tmp 74) _ _ V2 ib rfl (hD 0 73 (by kernel_rfl)) (hD 1 74 (by kernel_rfl)) (by omega)) ?_
          refine sv 4 rfl rfl rfl (fun a u hE hD hk => by rw [← HD.out]; exact exec_andnU (.tmp 75) (.const (.int .u64 1)) _ _ (V2 / 2 ^ ib) 1 rfl (hD 2 75 (by kernel_rfl)) rfl (by have := HL2.out; exact Nat.lt_of_le_of_lt (Nat.div_le_self _ _) (by omega)) (by omega)) ?_
          refine sv 5 rfl rfl rfl (fun a u hE hD hk => exec_as (by decide) (exec_eqnU (.tmp 76) (.const (.int .u64 1)) _ _ ((0 : Nat) : Int) 1 rfl (hD 3 76 (by kernel_rfl)) rfl)) ?_
          refine sv 6 rfl rfl rfl (fun a u hE hD hk => exec_move (.tmp 77) _ rfl (hD 4 77 (by kernel_rfl))) ?_
          refine fsteps_cons 7 rfl (fun a u hE hD hk => f_skip (o := ⟨some 79, _, _, _, _, _⟩) rfl (wanted_at (b := true) false rfl rfl (hD 5 78 (by kernel_rfl))) rfl) ?_
          refine fsteps_cons 8 rfl (fun a u hE hD hk => f_skip (o := ⟨some 80, _, _, _, _, _⟩) rfl (wanted_at (b := true) false rfl rfl (hD 5 78 (by kernel_rfl))) rfl) ?_
          refine fsteps_cons 9 rfl (fun a u hE hD hk => f_skip (o := ⟨some 81, _, _, _, _, _⟩) rfl (wanted_at (b := true) false rfl rfl (hD 5 78 (by kernel_rfl))) rfl) ?_
          refine fsteps_cons 10 rfl (fun a u hE hD hk => f_skip (o := ⟨some 82, _, _, _, _, _⟩) rfl (wanted_at (b := true) false rfl rfl (hD 5 78 (by kernel_rfl))) rfl) ?_
          refine fsteps_cons 11 rfl (fun a u hE hD hk => f_skip (o := ⟨some 83, _, _, _, _, _⟩) rfl (wanted_at (b := true) false rfl rfl (hD 5 78 (by kernel_rfl))) rfl) ?_
          refine fsteps_cons 12 rfl (fun a u hE hD hk => f_skip (o := ⟨some 84, _, _, _, _, _⟩) rfl (wanted_at (b := true) false rfl rfl (hD 5 78 (by kernel_rfl))) rfl) ?_
          refine fsteps_cons 13 rfl (fun a u hE hD hk => f_skip (o := ⟨some 85, _, _, _, _, _⟩) rfl (wanted_undef (b := false) rfl rfl (hD 11 84 (by kernel_rfl))) rfl) ?_
          refine fsteps_cons 14 rfl (fun a u hE hD hk => f_skip (o := ⟨some 86, _, _, _, _, _⟩) rfl (wanted_undef (b := false) rfl rfl (hD 11 84 (by kernel_rfl))) rfl) ?_
          refine fsteps_cons 15 rfl (fun a u hE hD hk => f_skip (o := ⟨some 87, _, _, _, _, _⟩) rfl (wanted_undef (b := false) rfl rfl (hD 11 84 (by kernel_rfl))) rfl) ?_
          refine fsteps_cons 16 rfl (fun a u hE hD hk => f_skip (o := ⟨some 88, _, _, _, _, _⟩) rfl (wanted_undef (b := false) rfl rfl (hD 11 84 (by kernel_rfl))) rfl) ?_
          refine fsteps_cons 17 rfl (fun a u hE hD hk => f_skip (o := ⟨some 89, _, _, _, _, _⟩) rfl (wanted_undef (b := false) rfl rfl (hD 11 84 (by kernel_rfl))) rfl) ?_
          refine fsteps_cons 18 rfl (fun a u hE hD hk => f_skip (o := ⟨some 90, _, _, _, _, _⟩) rfl (wanted_undef (b := false) rfl rfl (hD 11 84 (by kernel_rfl))) rfl) ?_
          refine fsteps_cons 19 rfl (fun a u hE hD hk => f_skip (o := ⟨some 91, _, _, _, _, _⟩) rfl (wanted_undef (b := false) rfl rfl (hD 11 84 (by kernel_rfl))) rfl) ?_
          refine fsteps_cons 20 rfl (fun a u hE hD hk => f_skip (o := ⟨some 92, _, _, _, _, _⟩) rfl (wanted_undef (b := false) rfl rfl (hD 11 84 (by kernel_rfl))) rfl) ?_
          refine fsteps_cons 21 rfl (fun a u hE hD hk => f_skip (o := ⟨some 93, _, _, _, _, _⟩) rfl (wanted_undef (b := false) rfl rfl (hD 11 84 (by kernel_rfl))) rfl) ?_
          refine fsteps_cons 22 rfl (fun a u hE hD hk => f_skip (o := ⟨some 94, _, _, _, _, _⟩) rfl (wanted_at (b := true) false rfl rfl (hD 5 78 (by kernel_rfl))) rfl) ?_
          refine sv 23 rfl rfl rfl (fun a u hE hD hk => exec_pickF (.tmp 78) (.tmp 94) (.const (.bool false)) (.bool false) rfl (hD 5 78 (by kernel_rfl)) rfl) ?_
          exact fsteps_nil
        intro gv w7 hV k7
        rw [show dstsOf _ 23 = [73, 74, 75, 76, 77, 78, 79, 80, 81, 82, 83, 84, 85, 86, 87, 88, 89, 90, 91, 92, 93, 94, 95] by kernel_rfl]
        simp only [List.foldl_cons, List.foldl_nil, List.setIfInBounds_toArray, List.set_cons_succ, List.set_cons_zero, List.drop_succ_cons, List.drop_zero]
        rw [show gv 95 = .bool false from hV 22 95 (by kernel_rfl)]
        clear hV
        refine wpList_nil ?_
        have HP7 := Lib.hid (HP6.out.kept k7)
        have kw7 := kw6.trans k7
        clear HP6 kw6 k7
        go_upto_region 12 with fail
        refine wp_free 38 [.eq (.int .u64 (V3 : Int)), .eq (.int .i64 (ib : Int)), .eq (.int .u64 ((V3 / 2 ^ ib : Nat) : Int)), .eq (.int .u64 ((0 : Nat) : Int)), .eq (.bool false), .eq (.pointer (some ⟨p, 0, none⟩)), .eq (.int .i64 (ib : Int)), .eq (.bool true), .eq (.bool true), .eq (.pointer (some ⟨p, 0, none⟩)), .eq (.int .i64 (ib : Int)), .eq (tb.v), .eq (.int .i64 tb.firm), .eq (.pointer (some ⟨p, 0, none⟩)), .eq (.int .i64 (ia : Int)), .eq (ta.v), .eq (.int .i64 ta.firm), .eq (.bool false), .eq (.bool false), .eq (.bool true), .eq (.bool true), .eq (.int .u64 (V3 : Int)), .eq (.int .i64 (ib : Int)), .eq (.int .u64 ((V3 / 2 ^ ib : Nat) : Int)), .eq (.int .u64 ((0 : Nat) : Int)), .eq (.bool true), .eq (.bool true), .eq undef, .eq undef, .eq undef, .eq undef, .eq undef, .eq (.bool true), .eq (.bool true), .eq (.bool true), .eq (.bool true), .eq (.bool true), .eq (.bool true)] (by kernel_rfl) rfl (by kernel_rfl) ?_ ?_
        · refine sv 1 rfl rfl rfl (fun a u hE hD hk => exec_move (.tmp 13) _ rfl (hE 13 (.int .u64 (V3 : Int)) (by kernel_rfl) (by kernel_rfl))) ?_
          refine sv 2 rfl rfl rfl (fun a u hE hD hk => exec_move (.tmp 10) _ rfl (hE 10 (.int .i64 (ib : Int)) (by kernel_rfl) (by kernel_rfl))) ?_
          refine sv 3 rfl rfl rfl (fun a u hE hD hk => exec_shrnU (.tmp 96) (.tmp 97) _ _ V3 ib rfl (hD 0 96 (by kernel_rfl)) (hD 1 97 (by kernel_rfl)) (by omega)) ?_
          refine sv 4 rfl rfl rfl (fun a u hE hD hk => by rw [← HF.out]; exact exec_andnU (.tmp 98) (.const (.int .u64 1)) _ _ (V3 / 2 ^ ib) 1 rfl (hD 2 98 (by kernel_rfl)) rfl (by have := HL3.out; exact Nat.lt_of_le_of_lt (Nat.div_le_self _ _) (by omega)) (by omega)) ?_
          refine sv 5 rfl rfl rfl (fun a u hE hD hk => exec_as (by decide) (exec_eqnU (.tmp 99) (.const (.int .u64 1)) _ _ ((0 : Nat) : Int) 1 rfl (hD 3 99 (by kernel_rfl)) rfl)) ?_
          refine sv 6 rfl rfl rfl (fun a u hE hD hk => exec_move (.tmp 7) _ rfl (hE 7 (.pointer (some ⟨p, 0, none⟩)) (by kernel_rfl) (by kernel_rfl))) ?_
          refine sv 7 rfl rfl rfl (fun a u hE hD hk => exec_move (.tmp 10) _ rfl (hE 10 (.int .i64 (ib : Int)) (by kernel_rfl) (by kernel_rfl))) ?_
          refine fsteps_cons 8 rfl (fun a u hE hD hk => f_call (o := ⟨some 103, _, _, _, _, _⟩) 17 #[.pointer (some ⟨p, 0, none⟩), .int .i64 (ib : Int)] rfl (wanted_none rfl _) (exec_call 17 _ [.tmp 101, .tmp 102] _ [.pointer (some ⟨p, 0, none⟩), .int .i64 (ib : Int)] Try.func17 (by kernel_rfl) (by kernel_rfl) rfl (show [a.eval (.tmp 101), a.eval (.tmp 102)] = [.pointer (some ⟨p, 0, none⟩), .int .i64 (ib : Int)] from (by rw [show a.eval (.tmp 101) = .pointer (some ⟨p, 0, none⟩) from (hD 5 101 (by kernel_rfl)), show a.eval (.tmp 102) = .int .i64 (ib : Int) from (hD 6 102 (by kernel_rfl))] <;> rfl)) u) (there_is (HP7.out.kept hk) HTb.out)) ?_
          refine sv 9 rfl rfl rfl (fun a u hE hD hk => exec_move (.tmp 103) _ rfl (hD 7 103 (by kernel_rfl))) ?_
          refine fsteps_cons 10 rfl (fun a u hE hD hk => f_val (o := ⟨some 105, _, _, _, _, _⟩) (.pointer (some ⟨p, 0, none⟩)) rfl (wanted_at (b := true) true rfl rfl (hD 8 104 (by kernel_rfl))) (exec_move (.tmp 7) _ rfl (hE 7 (.pointer (some ⟨p, 0, none⟩)) (by kernel_rfl) (by kernel_rfl))) rfl) ?_
          refine fsteps_cons 11 rfl (fun a u hE hD hk => f_val (o := ⟨some 106, _, _, _, _, _⟩) (.int .i64 (ib : Int)) rfl (wanted_at (b := true) true rfl rfl (hD 8 104 (by kernel_rfl))) (exec_move (.tmp 10) _ rfl (hE 10 (.int .i64 (ib : Int)) (by kernel_rfl) (by kernel_rfl))) rfl) ?_
          refine fsteps_cons 12 rfl (fun a u hE hD hk => f_call (o := ⟨some 107, _, _, _, _, _⟩) 18 #[.pointer (some ⟨p, 0, none⟩), .int .i64 (ib : Int)] rfl (wanted_at (b := true) true rfl rfl (hD 8 104 (by kernel_rfl))) (exec_call 18 _ [.tmp 105, .tmp 106] _ [.pointer (some ⟨p, 0, none⟩), .int .i64 (ib : Int)] Try.func18 (by kernel_rfl) (by kernel_rfl) rfl (show [a.eval (.tmp 105), a.eval (.tmp 106)] = [.pointer (some ⟨p, 0, none⟩), .int .i64 (ib : Int)] from (by rw [show a.eval (.tmp 105) = .pointer (some ⟨p, 0, none⟩) from (hD 9 105 (by kernel_rfl)), show a.eval (.tmp 106) = .int .i64 (ib : Int) from (hD 10 106 (by kernel_rfl))] <;> rfl)) u) (get_is (HP7.out.kept hk) HGb.out)) ?_
          refine fsteps_cons 13 rfl (fun a u hE hD hk => f_val (o := ⟨some 108, _, _, _, _, _⟩) (.int .i64 tb.firm) rfl (wanted_at (b := true) true rfl rfl (hD 8 104 (by kernel_rfl))) (exec_fldT 0 tb _ (.tmp 107) rfl (hD 11 107 (by kernel_rfl)) (by kernel_rfl) rfl) rfl) ?_
          refine fsteps_cons 14 rfl (fun a u hE hD hk => f_val (o := ⟨some 109, _, _, _, _, _⟩) (.pointer (some ⟨p, 0, none⟩)) rfl (wanted_at (b := true) true rfl rfl (hD 8 104 (by kernel_rfl))) (exec_move (.tmp 7) _ rfl (hE 7 (.pointer (some ⟨p, 0, none⟩)) (by kernel_rfl) (by kernel_rfl))) rfl) ?_
          refine fsteps_cons 15 rfl (fun a u hE hD hk => f_val (o := ⟨some 110, _, _, _, _, _⟩) (.int .i64 (ia : Int)) rfl (wanted_at (b := true) true rfl rfl (hD 8 104 (by kernel_rfl))) (exec_move (.tmp 9) _ rfl (hE 9 (.int .i64 (ia : Int)) (by kernel_rfl) (by kernel_rfl))) rfl) ?_
          refine fsteps_cons 16 rfl (fun a u hE hD hk => f_call (o := ⟨some 111, _, _, _, _, _⟩) 18 #[.pointer (some ⟨p, 0, none⟩), .int .i64 (ia : Int)] rfl (wanted_at (b := true) true rfl rfl (hD 8 104 (by kernel_rfl))) (exec_call 18 _ [.tmp 109, .tmp 110] _ [.pointer (some ⟨p, 0, none⟩), .int .i64 (ia : Int)] Try.func18 (by kernel_rfl) (by kernel_rfl) rfl (show [a.eval (.tmp 109), a.eval (.tmp 110)] = [.pointer (some ⟨p, 0, none⟩), .int .i64 (ia : Int)] from (by rw [show a.eval (.tmp 109) = .pointer (some ⟨p, 0, none⟩) from (hD 13 109 (by kernel_rfl)), show a.eval (.tmp 110) = .int .i64 (ia : Int) from (hD 14 110 (by kernel_rfl))] <;> rfl)) u) (get_is (HP7.out.kept hk) HGa.out)) ?_
          refine fsteps_cons 17 rfl (fun a u hE hD hk => f_val (o := ⟨some 112, _, _, _, _, _⟩) (.int .i64 ta.firm) rfl (wanted_at (b := true) true rfl rfl (hD 8 104 (by kernel_rfl))) (exec_fldT 0 ta _ (.tmp 111) rfl (hD 15 111 (by kernel_rfl)) (by kernel_rfl) rfl) rfl) ?_
          refine fsteps_cons 18 rfl (fun a u hE hD hk => f_as (show ((decide ((tb.firm : Int) = (ta.firm : Int))) : Bool) = false from HPh.out) (f_val (o := ⟨some 113, _, _, _, _, _⟩) (.bool (decide ((tb.firm : Int) = (ta.firm : Int)))) rfl (wanted_at (b := true) true rfl rfl (hD 8 104 (by kernel_rfl))) (exec_eqn (p := tb.firm) (q := ta.firm) rfl (hD 12 108 (by kernel_rfl)) (hD 16 112 (by kernel_rfl))) rfl)) ?_
          refine sv 19 rfl rfl rfl (fun a u hE hD hk => exec_pick (.tmp 104) (.tmp 113) (.const (.bool false)) (.bool false) rfl (hD 8 104 (by kernel_rfl)) (hD 17 113 (by kernel_rfl))) ?_
          refine sv 20 rfl rfl rfl (fun a u hE hD hk => exec_eqb (.tmp 100) (.tmp 114) _ false false true rfl (hD 4 100 (by kernel_rfl)) (hD 18 114 (by kernel_rfl)) rfl) ?_
          refine sv 21 rfl rfl rfl (fun a u hE hD hk => exec_move (.tmp 115) _ rfl (hD 19 115 (by kernel_rfl))) ?_
          refine fsteps_cons 22 rfl (fun a u hE hD hk => f_val (o := ⟨some 117, _, _, _, _, _⟩) (.int .u64 (V3 : Int)) rfl (wanted_at (b := true) true rfl rfl (hD 20 116 (by kernel_rfl))) (exec_move (.tmp 13) _ rfl (hE 13 (.int .u64 (V3 : Int)) (by kernel_rfl) (by kernel_rfl))) rfl) ?_
          refine fsteps_cons 23 rfl (fun a u hE hD hk => f_val (o := ⟨some 118, _, _, _, _, _⟩) (.int .i64 (ib : Int)) rfl (wanted_at (b := true) true rfl rfl (hD 20 116 (by kernel_rfl))) (exec_move (.tmp 10) _ rfl (hE 10 (.int .i64 (ib : Int)) (by kernel_rfl) (by kernel_rfl))) rfl) ?_
          refine fsteps_cons 24 rfl (fun a u hE hD hk => f_val (o := ⟨some 119, _, _, _, _, _⟩) (.int .u64 ((V3 / 2 ^ ib : Nat) : Int)) rfl (wanted_at (b := true) true rfl rfl (hD 20 116 (by kernel_rfl))) (exec_shrnU (.tmp 117) (.tmp 118) _ _ V3 ib rfl (hD 21 117 (by kernel_rfl)) (hD 22 118 (by kernel_rfl)) (by omega)) rfl) ?_
          refine fsteps_cons 25 rfl (fun a u hE hD hk => f_val (o := ⟨some 120, _, _, _, _, _⟩) (.int .u64 ((0 : Nat) : Int)) rfl (wanted_at (b := true) true rfl rfl (hD 20 116 (by kernel_rfl))) (by rw [← HF.out]; exact exec_andnU (.tmp 119) (.const (.int .u64 1)) _ _ (V3 / 2 ^ ib) 1 rfl (hD 23 119 (by kernel_rfl)) rfl (by have := HL3.out; exact Nat.lt_of_le_of_lt (Nat.div_le_self _ _) (by omega)) (by omega)) rfl) ?_
          refine fsteps_cons 26 rfl (fun a u hE hD hk => f_val (o := ⟨some 121, _, _, _, _, _⟩) (.bool true) rfl (wanted_at (b := true) true rfl rfl (hD 20 116 (by kernel_rfl))) (exec_as (by decide) (exec_eqnU (.tmp 120) (.const (.int .u64 0)) _ _ ((0 : Nat) : Int) 0 rfl (hD 24 120 (by kernel_rfl)) rfl)) rfl) ?_
          refine fsteps_cons 27 rfl (fun a u hE hD hk => f_val (o := ⟨some 122, _, _, _, _, _⟩) (.bool true) rfl (wanted_at (b := true) true rfl rfl (hD 20 116 (by kernel_rfl))) (exec_move (.tmp 121) _ rfl (hD 25 121 (by kernel_rfl))) rfl) ?_
          refine fsteps_cons 28 rfl (fun a u hE hD hk => f_skip (o := ⟨some 123, _, _, _, _, _⟩) rfl (wanted_at (b := false) true rfl rfl (hD 26 122 (by kernel_rfl))) rfl) ?_
          refine fsteps_cons 29 rfl (fun a u hE hD hk => f_skip (o := ⟨some 124, _, _, _, _, _⟩) rfl (wanted_at (b := false) true rfl rfl (hD 26 122 (by kernel_rfl))) rfl) ?_
          refine fsteps_cons 30 rfl (fun a u hE hD hk => f_skip (o := ⟨some 125, _, _, _, _, _⟩) rfl (wanted_at (b := false) true rfl rfl (hD 26 122 (by kernel_rfl))) rfl) ?_
          refine fsteps_cons 31 rfl (fun a u hE hD hk => f_skip (o := ⟨some 126, _, _, _, _, _⟩) rfl (wanted_at (b := false) true rfl rfl (hD 26 122 (by kernel_rfl))) rfl) ?_
          refine fsteps_cons 32 rfl (fun a u hE hD hk => f_skip (o := ⟨some 127, _, _, _, _, _⟩) rfl (wanted_at (b := false) true rfl rfl (hD 26 122 (by kernel_rfl))) rfl) ?_
          refine fsteps_cons 33 rfl (fun a u hE hD hk => f_val (o := ⟨some 128, _, _, _, _, _⟩) (.bool true) rfl (wanted_at (b := true) true rfl rfl (hD 20 116 (by kernel_rfl))) (exec_pick (.tmp 122) (.const (.bool true)) (.tmp 127) (.bool true) rfl (hD 26 122 (by kernel_rfl)) rfl) rfl) ?_
          refine sv 34 rfl rfl rfl (fun a u hE hD hk => exec_pick (.tmp 116) (.tmp 128) (.const (.bool false)) (.bool true) rfl (hD 20 116 (by kernel_rfl)) (hD 32 128 (by kernel_rfl))) ?_
          refine sv 35 rfl rfl rfl (fun a u hE hD hk => exec_move (.tmp 129) _ rfl (hD 33 129 (by kernel_rfl))) ?_
          refine fsteps_cons 36 rfl (fun a u hE hD hk => f_call (o := ⟨some 131, _, _, _, _, _⟩) 3 #[] rfl (wanted_at (b := true) true rfl rfl (hD 34 130 (by kernel_rfl))) (exec_call 3 _ [] _ [] Try.func3 (by kernel_rfl) (by kernel_rfl) rfl rfl u) (treeRuns_is u)) ?_
          refine sv 37 rfl rfl rfl (fun a u hE hD hk => exec_pick (.tmp 130) (.tmp 131) (.const (.bool false)) (.bool true) rfl (hD 34 130 (by kernel_rfl)) (hD 35 131 (by kernel_rfl))) ?_
          refine sv 38 rfl rfl rfl (fun a u hE hD hk => exec_assign (.tmp 132) _ rfl (hD 36 132 (by kernel_rfl))) ?_
          exact fsteps_nil
        intro gv w8 hV k8
        rw [show dstsOf _ 38 = [96, 97, 98, 99, 100, 101, 102, 103, 104, 105, 106, 107, 108, 109, 110, 111, 112, 113, 114, 115, 116, 117, 118, 119, 120, 121, 122, 123, 124, 125, 126, 127, 128, 129, 130, 131, 132, 6] by kernel_rfl]
        simp only [List.foldl_cons, List.foldl_nil, List.setIfInBounds_toArray, List.set_cons_succ, List.set_cons_zero, List.drop_succ_cons, List.drop_zero]
        rw [show gv 6 = .bool true from hV 37 6 (by kernel_rfl)]
        clear hV
        refine wpList_nil ?_
        have kw8 := kw7.trans k8
        go_wp2
        go_ret
        exact ⟨rfl, kw8⟩
end Go.Proofs.Ytgodehggiddndaa
