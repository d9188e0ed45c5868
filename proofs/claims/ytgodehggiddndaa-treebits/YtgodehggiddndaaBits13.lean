/-
  The contract of jobberlaw13.TreeBits: a tree is none, if one trader's firm, desk, roles or instruments can't be, wherever it stands; the first such one is told; it answers true. No condition.
-/
import Derived.Test.YtgodehggiddndaaSets13
import Derived.Test.YtgodehggiddndaaSlI
namespace Go.Proofs.Ytgodehggiddndaa
open Go.RowKit
set_option linter.unusedVariables false
set_option maxRecDepth 100000

theorem put_put (X : Trds) (i : Nat) (y z : Trd) (hi : i < 32) : (X.put i y).put i z = X.put i z := by
  apply Trds.ext_
  intro j hj
  rw [Trds.at_put _ _ _ _ hi, Trds.at_put _ _ _ _ hi, Trds.at_put _ _ _ _ hi]
  split <;> rfl
theorem two_bad {X : Trds} (h : ∀ i, i < 32 → (X.at_ i).bad = false) {i j : Nat} (hi : i < 32) (hj : j < 32) {t : Trd} (ht : t.bad = true) : ((X.put i t).put j t).bad = some (if (j : Int) < (i : Int) then j else i) := by
  have hat : ∀ k, ((X.put i t).put j t).at_ k = if j = k then t else if i = k then t else X.at_ k := fun k => by rw [Trds.at_put _ _ _ _ hj, Trds.at_put _ _ _ _ hi]
  refine bad_some (by split <;> omega) ?_ fun k hk => ?_
  · rw [hat]
    by_cases h1 : (j : Int) < (i : Int)
    · rw [if_pos h1, if_pos rfl, ht]
    · rw [if_neg h1]
      by_cases h2 : j = i
      · rw [if_pos h2, ht]
      · rw [if_neg h2, if_pos rfl, ht]
  · rw [hat]
    have h1 : j ≠ k ∧ i ≠ k ∧ k < 32 := by split at hk <;> omega
    rw [if_neg h1.1, if_neg h1.2.1]
    exact h k h1.2.2
def runs13base : Trd := mkT 1 0 1 0
/-- a number of a trader's stored -/
theorem l_putI {ops : Array Oper} {Q : Exit → Act → World → Prop} {a : Act} {w : World} {o : Oper} {rest : List Oper} (g i j : Nat) (T : TypeId) (X : Trds) (n : Int) (y : Trd) (x z : Operand) (off : Nat) (hw : Region.wanted o (yielded ops a.tmps) = true) (hop : o.op = .store 3 x z) (hx : a.eval x = .pointer (some ⟨g, off, none⟩)) (ho : off = i * 37 + j) (hz : a.eval z = .int .i64 n) (hb : Blk w g T X.cells) (hi : i < 32) (hj : j < 37) (hy : y.cells = (X.at_ i).cells.set j (.int .i64 n))
    (hK : ∀ w', Blk w' g T (X.put i y).cells → Keep (· = g) w w' → w'.heap.size = w.heap.size → wpList Try.prog ops Q rest (a.put o.dst undef) w') : wpList Try.prog ops Q (o :: rest) a w := by
  subst ho
  have hl := X.len
  have hB2 := hb.set_ (i * 37 + j) (.int .i64 n)
  rw [X.set_cell i j (.int .i64 n) y hi hj hy] at hB2
  exact l_store (w.setCell ⟨g, i * 37 + j, none⟩ (.int .i64 n)) hw (exec_store1 3 x z g (i * 37 + j) (.int .i64 n) hop (by kernel_rfl) hx hz rfl rfl (hb.there (i * 37 + j) 1 (by omega))) (hK _ hB2 (Keep.setCell (Keep.refl (· = g) w) (fun _ => rfl) _) (by simp [World.setCell]))
set_option maxRecDepth 100000 in
set_option maxHeartbeats 3200000 in
theorem treeBits_0 (v : Value) (X : Trds) (n m how : Int) (w : World) (ia ib : Nat) (ha32 : ia < 32) (hb32 : ib < 32) (HGd : Hid (∀ i, i < 32 → (X.at_ i).bad = false)) (HX : Hid (∀ u, Kept w u → Gives 10 #[v, .int .i64 (-1), zeroT.v] u (.eq X.v)))
    (HWa : Hid (∀ u, Gives 20 #[.int .i64 n, .int .i64 0, .int .i64 31] u (.eq (.int .i64 (ia : Int))))) (HWb : Hid (∀ u, Gives 20 #[.int .i64 m, .int .i64 0, .int .i64 31] u (.eq (.int .i64 (ib : Int))))) (HWh : Hid (∀ u, Gives 20 #[.int .i64 how, .int .i64 0, .int .i64 4] u (.eq (.int .i64 0)))) :
    Calls Try.prog 7 #[v, .int .i64 n, .int .i64 m, .int .i64 how] w fun e w' => e = .returned (.bool true) ∧ Kept w w' := by
  go_enter Try.func7, Try.ntmps7
  go_upto_region 1 with fail
  refine wp_text 3 [.eq (v), .eq (zeroT.v), .eq (X.v)] rfl (by kernel_rfl) ?_ ?_
  · refine sv 1 rfl rfl rfl (fun a u hE hD hk => exec_move (.tmp 0) _ rfl (hE 0 (v) (by kernel_rfl) (by kernel_rfl))) ?_
    refine sv 2 rfl rfl rfl (fun a u hE hD hk => exec_build 25 [] zeroT.cells rfl (by kernel_rfl)) ?_
    refine fsteps_cons 3 rfl (fun a u hE hD hk => f_call (o := ⟨some 18, _, _, _, _, _⟩) 10 #[v, .int .i64 (-1), zeroT.v] rfl (wanted_none rfl _) (exec_call 10 _ [.tmp 16, .const (.int .i64 (-1)), .tmp 17] _ [v, .int .i64 (-1), zeroT.v] Try.func10 (by kernel_rfl) (by kernel_rfl) rfl (show [a.eval (.tmp 16), a.eval (.const (.int .i64 (-1))), a.eval (.tmp 17)] = [v, .int .i64 (-1), zeroT.v] from (by rw [show a.eval (.tmp 16) = v from (hD 0 16 (by kernel_rfl)), show a.eval (.tmp 17) = zeroT.v from (hD 1 17 (by kernel_rfl))] <;> rfl)) u) (HX.out u hk)) ?_
    exact fsteps_nil
  intro gv wa hV ka
  rw [show dstsOf _ 3 = [16, 17, 18] by kernel_rfl]
  simp only [List.foldl_cons, List.foldl_nil, List.setIfInBounds_toArray, List.set_cons_succ, List.set_cons_zero, List.drop_succ_cons, List.drop_zero]
  rw [show gv 18 = X.v from hV 2 18 (by kernel_rfl)]
  clear hV
  refine l_new (o := ⟨some 9, _, _, _, _, _⟩) (.pointer (some ⟨wa.heap.size, 0, none⟩)) (wa.alloc (.cells zeroX.cells.toArray 26)) rfl (exec_alc 26 zeroX.cells rfl zX) ?_
  have hNa := Blk.new wa 26 zeroX.cells
  have kb : Kept wa (wa.alloc (.cells zeroX.cells.toArray 26)) := (Keep.refl _ wa).alloc _
  generalize wa.alloc (.cells zeroX.cells.toArray 26) = wb at hNa kb ⊢
  simp only [Act.put, List.setIfInBounds_toArray, List.set_cons_succ, List.set_cons_zero]
  refine l_setS (o := ⟨none, _, _, _, _, _⟩) 26 wa.heap.size 26 zeroX.cells X.cells (.tmp 9) (.tmp 18) rfl rfl (by kernel_rfl) (by kernel_rfl) hNa (by rw [Trds.len]; exact szX) (by rw [Trds.len, Trds.len]) (Trds.one _) ?_
  intro w0 hC hkc hsc
  simp only [Act.put]
  refine wpList_nil ?_
  obtain ⟨gl, hgl⟩ : ∃ a, wa.heap.size = a := ⟨_, rfl⟩
  rw [hgl] at hNa hC hkc ⊢
  have HLw0 := Lib.hid hC
  have zka := ka.size
  have kw0 : Kept w w0 := (ka.trans kb).trans' hkc (by omega)
  have zl := hC.lt
  clear hNa hC hkc hsc kb ka
  clear HX
  have zlw : ¬ gl < w.heap.size := by omega
  go_upto_region 2 with fail
  refine wp_text 4 [.eq (.int .i64 n), .eq (.int .i64 (ia : Int)), .eq (.int .i64 m), .eq (.int .i64 (ib : Int))] rfl (by kernel_rfl) ?_ ?_
  · refine sv 1 rfl rfl rfl (fun a u hE hD hk => exec_move (.tmp 1) _ rfl (hE 1 (.int .i64 n) (by kernel_rfl) (by kernel_rfl))) ?_
    refine fsteps_cons 2 rfl (fun a u hE hD hk => f_call (o := ⟨some 20, _, _, _, _, _⟩) 20 #[.int .i64 n, .int .i64 0, .int .i64 31] rfl (wanted_none rfl _) (exec_call 20 _ [.tmp 19, .const (.int .i64 0), .const (.int .i64 31)] _ [.int .i64 n, .int .i64 0, .int .i64 31] Try.func20 (by kernel_rfl) (by kernel_rfl) rfl (show [a.eval (.tmp 19), a.eval (.const (.int .i64 0)), a.eval (.const (.int .i64 31))] = [.int .i64 n, .int .i64 0, .int .i64 31] from (by rw [show a.eval (.tmp 19) = .int .i64 n from (hD 0 19 (by kernel_rfl))] <;> rfl)) u) (HWa.out u)) ?_
    refine sv 3 rfl rfl rfl (fun a u hE hD hk => exec_move (.tmp 2) _ rfl (hE 2 (.int .i64 m) (by kernel_rfl) (by kernel_rfl))) ?_
    refine fsteps_cons 4 rfl (fun a u hE hD hk => f_call (o := ⟨some 22, _, _, _, _, _⟩) 20 #[.int .i64 m, .int .i64 0, .int .i64 31] rfl (wanted_none rfl _) (exec_call 20 _ [.tmp 21, .const (.int .i64 0), .const (.int .i64 31)] _ [.int .i64 m, .int .i64 0, .int .i64 31] Try.func20 (by kernel_rfl) (by kernel_rfl) rfl (show [a.eval (.tmp 21), a.eval (.const (.int .i64 0)), a.eval (.const (.int .i64 31))] = [.int .i64 m, .int .i64 0, .int .i64 31] from (by rw [show a.eval (.tmp 21) = .int .i64 m from (hD 2 21 (by kernel_rfl))] <;> rfl)) u) (HWb.out u)) ?_
    exact fsteps_nil
  intro gv w1 hV k1
  rw [show dstsOf _ 4 = [19, 20, 21, 22] by kernel_rfl]
  simp only [List.foldl_cons, List.foldl_nil, List.setIfInBounds_toArray, List.set_cons_succ, List.set_cons_zero, List.drop_succ_cons, List.drop_zero]
  rw [show gv 20 = .int .i64 (ia : Int) from hV 1 20 (by kernel_rfl)]
  rw [show gv 22 = .int .i64 (ib : Int) from hV 3 22 (by kernel_rfl)]
  clear hV
  refine l_val (o := ⟨some 10, _, _, _, _, _⟩) (.int .i64 (ia : Int)) rfl (exec_assign (.tmp 20) (.int .i64 (ia : Int)) rfl (by kernel_rfl)) ?_
  simp only [Act.put, List.setIfInBounds_toArray, List.set_cons_succ, List.set_cons_zero]
  refine l_val (o := ⟨some 11, _, _, _, _, _⟩) (.int .i64 (ib : Int)) rfl (exec_assign (.tmp 22) (.int .i64 (ib : Int)) rfl (by kernel_rfl)) ?_
  simp only [Act.put, List.setIfInBounds_toArray, List.set_cons_succ, List.set_cons_zero]
  refine wpList_nil ?_
  have HL1 := Lib.hid (HLw0.out.kept k1)
  have kw1 := kw0.trans k1
  clear HLw0 kw0 k1 HWa HWb zka hgl
  go_upto_region 3 with fail
  refine wp_region_lit ?_
  refine l_val (o := ⟨some 23, _, _, _, _, _⟩) (.int .i64 (ia : Int)) rfl (exec_move (.tmp 10) (.int .i64 (ia : Int)) rfl (by kernel_rfl)) ?_
  simp only [Act.put, List.setIfInBounds_toArray, List.set_cons_succ, List.set_cons_zero]
  refine l_val (o := ⟨some 24, _, _, _, _, _⟩) (.int .i64 (ib : Int)) rfl (exec_move (.tmp 11) (.int .i64 (ib : Int)) rfl (by kernel_rfl)) ?_
  simp only [Act.put, List.setIfInBounds_toArray, List.set_cons_succ, List.set_cons_zero]
  refine l_new (o := ⟨some 25, _, _, _, _, _⟩) (.slice (some ⟨w1.heap.size, 0, none⟩) 2 2) (w1.alloc (.cells (i64s [(ia : Int), (ib : Int)]).toArray 3)) rfl (exec_ints 2 [(0, .tmp 23), (1, .tmp 24)] [(ia : Int), (ib : Int)] rfl rfl (by omega) (by omega) (by kernel_rfl)) ?_
  have hS2 := Blk.new w1 3 (i64s [(ia : Int), (ib : Int)])
  have k2 : Kept w1 (w1.alloc (.cells (i64s [(ia : Int), (ib : Int)]).toArray 3)) := (Keep.refl _ w1).alloc _
  generalize w1.alloc (.cells (i64s [(ia : Int), (ib : Int)]).toArray 3) = w4 at hS2 k2 ⊢
  simp only [Act.put, List.setIfInBounds_toArray, List.set_cons_succ, List.set_cons_zero]
  refine l_val (o := ⟨some 26, _, _, _, _, _⟩) (.int .i64 2) rfl (exec_len (.tmp 25) _ _ slI.und (some ⟨w1.heap.size, 0, none⟩) 2 2 rfl (by kernel_rfl)) ?_
  simp only [Act.put, List.setIfInBounds_toArray, List.set_cons_succ, List.set_cons_zero]
  refine l_val (o := ⟨some 27, _, _, _, _, _⟩) (.int .i64 0) rfl (exec_move (.const (.int .i64 0)) (.int .i64 0) rfl (by kernel_rfl)) ?_
  simp only [Act.put, List.setIfInBounds_toArray, List.set_cons_succ, List.set_cons_zero]
  refine wpList_nil ?_
  obtain ⟨gs, hgs⟩ : ∃ g, w1.heap.size = g := ⟨_, rfl⟩
  rw [hgs] at hS2 ⊢
  have zls : gs ≠ gl := by have := HL1.out.lt; omega
  have HS4 := Lib.hid hS2
  have HL4 := Lib.hid (HL1.out.kept k2)
  have kw4 := kw1.trans k2
  clear hS2 HL1 kw1 k2 hgs
  obtain ⟨Z, HZ0, HZ1, HZ2⟩ : ∃ Z : Nat → Trds, Hid (Z 0 = X) ∧ Hid (Z 1 = (Z 0).put ia (mkT 8 0 1 0)) ∧ Hid (Z 2 = (Z 1).put ib (mkT 8 0 1 0)) := ⟨fun i => match i with | 0 => X | 1 => X.put ia (mkT 8 0 1 0) | _ => (X.put ia (mkT 8 0 1 0)).put ib (mkT 8 0 1 0), rfl, rfl, rfl⟩
  go_wp2_with fail
  go_loopw [27] (fun t wr => ∃ i : Nat, t = .int .i64 (i : Int) ∧ i ≤ 2 ∧ Hid (Blk wr gl 26 (Z i).cells) ∧ Keep (· = gl) w4 wr) (fun t _ => 2 - (intOf t).toNat)
  case atStart => exact ⟨0, rfl, by omega, by rw [HZ0.out]; exact HL4, Keep.refl _ _⟩
  case round =>
    obtain ⟨i, rfl, hi', HZr, hkr⟩ := hrel
    by_cases hi : i < 2
    · obtain ⟨e, he32, HE, HZn⟩ : ∃ e : Nat, e < 32 ∧ Hid ((i64s [(ia : Int), (ib : Int)])[i]? = some (.int .i64 (e : Int))) ∧ Hid (Z (i + 1) = (Z i).put e (mkT 8 0 1 0)) := by
        have h01 : i = 0 ∨ i = 1 := by omega
        rcases h01 with rfl | rfl
        · exact ⟨ia, ha32, rfl, HZ1⟩
        · exact ⟨ib, hb32, rfl, HZ2⟩
      generalize Z i = Zi at HZr HZn
      clear HZ0 HZ1 HZ2
      have HSr := Lib.hid (HS4.out.keep hkr zls)
      go_upto_region 5 with fail
      refine wp_text 2 [.eq (.pointer (some ⟨gs, i, none⟩)), .eq (.int .i64 (e : Int))] rfl (by kernel_rfl) ?_ ?_
      · refine sv 1 rfl rfl rfl (fun a u hE hD hk => exec_ixo slI (.tmp 25) (.tmp 27) gs 0 2 2 i i _ rfl (hE 25 (.slice (some ⟨gs, 0, none⟩) 2 2) (by kernel_rfl) (by kernel_rfl)) (hE 27 (.int .i64 (i : Int)) (by kernel_rfl) (by kernel_rfl)) rfl hi (by omega)) ?_
        refine sv 2 rfl rfl rfl (fun a u hE hD hk => exec_loadi 3 Try.underlying3 (.tmp 29) ⟨gs, i, none⟩ _ rfl (hD 0 29 (by kernel_rfl)) (by rw [(HSr.out.kept hk).cell]; exact HE.out)) ?_
        exact fsteps_nil
      intro gv w5 hV k5
      rw [show dstsOf _ 2 = [29, 30] by kernel_rfl]
      simp only [List.foldl_cons, List.foldl_nil, List.setIfInBounds_toArray, List.set_cons_succ, List.set_cons_zero, List.drop_succ_cons, List.drop_zero]
      rw [show gv 30 = .int .i64 (e : Int) from hV 1 30 (by kernel_rfl)]
      clear hV
      refine l_val (o := ⟨some 13, _, _, _, _, _⟩) (.int .i64 (e : Int)) rfl (exec_assign (.tmp 30) (.int .i64 (e : Int)) rfl (by kernel_rfl)) ?_
      simp only [Act.put, List.setIfInBounds_toArray, List.set_cons_succ, List.set_cons_zero]
      refine wpList_nil ?_
      have HZ5 := Lib.hid (HZr.out.kept k5)
      have kr5 := hkr.kept k5
      clear HZr hkr k5 HSr HE
      go_upto_region 6 with fail
      refine wp_region_lit ?_
      refine l_val (o := ⟨some 31, _, _, _, _, _⟩) (.int .i64 (e : Int)) rfl (exec_move (.tmp 13) (.int .i64 (e : Int)) rfl (by kernel_rfl)) ?_
      simp only [Act.put, List.setIfInBounds_toArray, List.set_cons_succ, List.set_cons_zero]
      refine l_val (o := ⟨some 32, _, _, _, _, _⟩) (runs13base.v) rfl (exec_build 25 [(0, .const (.int .i64 1)), (2, .const (.int .i64 1))] runs13base.cells rfl (by kernel_rfl)) ?_
      simp only [Act.put, List.setIfInBounds_toArray, List.set_cons_succ, List.set_cons_zero]
      refine l_val (o := ⟨some 33, _, _, _, _, _⟩) (.pointer (some ⟨gl, e * 37, none⟩)) rfl (exec_ixA (.tmp 9) (.tmp 31) gl e _ rfl (by kernel_rfl) (by kernel_rfl) rfl he32) ?_
      simp only [Act.put, List.setIfInBounds_toArray, List.set_cons_succ, List.set_cons_zero]
      refine l_putT (o := ⟨none, _, _, _, _, _⟩) gl e 26 Zi runs13base (.tmp 33) (.tmp 32) rfl rfl (by kernel_rfl) (by kernel_rfl) HZ5.out he32 ?_
      intro w6 hB6 hk6 hs6
      simp only [Act.put]
      refine wpList_nil ?_
      have HZ6 := Lib.hid hB6
      have kr6 := kr5.trans hk6 (fun _ _ h => h)
      clear hB6 hk6 hs6 HZ5 kr5
      go_upto_region 7 with fail
      refine wp_text 2 [.eq (.int .i64 how), .eq (.int .i64 0)] rfl (by kernel_rfl) ?_ ?_
      · refine sv 1 rfl rfl rfl (fun a u hE hD hk => exec_move (.tmp 3) _ rfl (hE 3 (.int .i64 how) (by kernel_rfl) (by kernel_rfl))) ?_
        refine fsteps_cons 2 rfl (fun a u hE hD hk => f_call (o := ⟨some 35, _, _, _, _, _⟩) 20 #[.int .i64 how, .int .i64 0, .int .i64 4] rfl (wanted_none rfl _) (exec_call 20 _ [.tmp 34, .const (.int .i64 0), .const (.int .i64 4)] _ [.int .i64 how, .int .i64 0, .int .i64 4] Try.func20 (by kernel_rfl) (by kernel_rfl) rfl (show [a.eval (.tmp 34), a.eval (.const (.int .i64 0)), a.eval (.const (.int .i64 4))] = [.int .i64 how, .int .i64 0, .int .i64 4] from (by rw [show a.eval (.tmp 34) = .int .i64 how from (hD 0 34 (by kernel_rfl))] <;> rfl)) u) (HWh.out u)) ?_
        exact fsteps_nil
      intro gv w7 hV k7
      rw [show dstsOf _ 2 = [34, 35] by kernel_rfl]
      simp only [List.foldl_cons, List.foldl_nil, List.setIfInBounds_toArray, List.set_cons_succ, List.set_cons_zero, List.drop_succ_cons, List.drop_zero]
      rw [show gv 35 = .int .i64 0 from hV 1 35 (by kernel_rfl)]
      clear hV
      refine wpList_nil ?_
      have HZ7 := Lib.hid (HZ6.out.kept k7)
      have kr7 := kr6.kept k7
      clear HZ6 kr6 k7
      go_upto_region 9 with fail
      refine wp_text 3 [.eq (.int .i64 (e : Int)), .eq (.pointer (some ⟨gl, e * 37, none⟩)), .eq (.pointer (some ⟨gl, e * 37, none⟩))] rfl (by kernel_rfl) ?_ ?_
      · refine sv 1 rfl rfl rfl (fun a u hE hD hk => exec_move (.tmp 13) _ rfl (hE 13 (.int .i64 (e : Int)) (by kernel_rfl) (by kernel_rfl))) ?_
        refine sv 2 rfl rfl rfl (fun a u hE hD hk => exec_ixA (.tmp 9) (.tmp 38) (gl) e ((e : Int)) rfl (hE 9 (.pointer (some ⟨gl, 0, none⟩)) (by kernel_rfl) (by kernel_rfl)) (hD 0 38 (by kernel_rfl)) (by first | rfl | omega) (he32)) ?_
        refine sv 3 rfl rfl rfl (fun a u hE hD hk => exec_fldo 25 0 0 (.tmp 39) (gl) (e * 37) (e * 37) rfl (hD 1 39 (by kernel_rfl)) (by kernel_rfl) rfl) ?_
        exact fsteps_nil
      intro gv w8 hV k8
      rw [show dstsOf _ 3 = [38, 39, 40] by kernel_rfl]
      simp only [List.foldl_cons, List.foldl_nil, List.setIfInBounds_toArray, List.set_cons_succ, List.set_cons_zero, List.drop_succ_cons, List.drop_zero]
      rw [show gv 40 = .pointer (some ⟨gl, e * 37, none⟩) from hV 2 40 (by kernel_rfl)]
      clear hV
      refine l_putI (o := ⟨none, _, _, _, _, _⟩) gl e 0 26 (Zi.put e runs13base) 8 (mkT 8 0 1 0) (.tmp 40) (.const (.int .i64 8)) _ rfl rfl (by kernel_rfl) rfl rfl (HZ7.out.kept k8) he32 (by omega) (by rw [Trds.at_put _ _ _ _ he32, if_pos rfl]; rfl) ?_
      intro w9 hB9 hk9 hs9
      simp only [Act.put]
      refine wpList_nil ?_
      rw [put_put _ _ _ _ he32] at hB9
      have HZ9 := Lib.hid hB9
      have kr9 : Keep (· = gl) w4 w9 := (kr7.kept k8).trans hk9 (fun _ _ h => h)
      clear hB9 hk9 hs9 k8 kr7 HZ7
      go_wp2
      exact ⟨⟨i + 1, by simp, by omega, by rw [← HZn.out] at HZ9; exact HZ9, kr9⟩, by simp [intOf]; omega⟩
    · obtain rfl : i = 2 := by omega
      have HXB : Hid ((Z 2).bad = some (if (ib : Int) < (ia : Int) then ib else ia)) := by
        show _ = _
        rw [HZ2.out, HZ1.out, HZ0.out]
        exact two_bad HGd.out ha32 hb32 (by decide +kernel)
      have kwr : Kept w wr := kw4.trans' hkr zlw
      generalize Z 2 = Zi at HZr HXB
      obtain ⟨c, hc⟩ : ∃ c : Nat, (if (ib : Int) < (ia : Int) then ib else ia) = c := ⟨_, rfl⟩
      rw [hc] at HXB
      have HC : Hid ((if (ib : Int) < (ia : Int) then (ib : Int) else (ia : Int)) = (c : Int)) := by
        show _ = _
        rw [← hc]
        split <;> rfl
      clear HZ0 HZ1 HZ2 HGd HS4 HL4 kw4 hkr hc
      go_upto_region 19 with fail
      refine wp_text 7 [.eq (Zi.v), .eq (.tuple #[.pointer none, .int .i64 (c : Int)]), .eq (.tuple #[.pointer none, .int .i64 (c : Int)]), .eq (.pointer none), .eq (.int .i64 (c : Int)), .eq (.pointer none), .eq (.int .i64 (c : Int))] rfl (by kernel_rfl) ?_ ?_
      · refine sv 1 rfl rfl rfl (fun a u hE hD hk => exec_ldX Zi (.tmp 9) (gl) _ rfl (hE 9 (.pointer (some ⟨gl, 0, none⟩)) (by kernel_rfl) (by kernel_rfl)) (HZr.out.kept hk)) ?_
        refine fsteps_cons 2 rfl (fun a u hE hD hk => f_call (o := ⟨some 64, _, _, _, _, _⟩) 8 #[Zi.v] rfl (wanted_none rfl _) (exec_call 8 _ [.tmp 63] _ [Zi.v] Try.func8 (by kernel_rfl) (by kernel_rfl) rfl (show [a.eval (.tmp 63)] = [Zi.v] from (by rw [show a.eval (.tmp 63) = Zi.v from (hD 0 63 (by kernel_rfl))] <;> rfl)) u) (new_bad HXB.out)) ?_
        refine sv 3 rfl rfl rfl (fun a u hE hD hk => exec_move (.tmp 64) _ rfl (hD 1 64 (by kernel_rfl))) ?_
        refine sv 4 rfl rfl rfl (fun a u hE hD hk => exec_extract (.tmp 62) [.pointer none, .int .i64 (c : Int)] 0 (.pointer none) rfl (hD 2 62 (by kernel_rfl)) rfl) ?_
        refine sv 5 rfl rfl rfl (fun a u hE hD hk => exec_extract (.tmp 62) [.pointer none, .int .i64 (c : Int)] 1 (.int .i64 (c : Int)) rfl (hD 2 62 (by kernel_rfl)) rfl) ?_
        refine sv 6 rfl rfl rfl (fun a u hE hD hk => exec_assign (.tmp 65) _ rfl (hD 3 65 (by kernel_rfl))) ?_
        refine sv 7 rfl rfl rfl (fun a u hE hD hk => exec_assign (.tmp 66) _ rfl (hD 4 66 (by kernel_rfl))) ?_
        exact fsteps_nil
      intro gv w5 hV k5
      rw [show dstsOf _ 7 = [63, 64, 62, 65, 66, 14, 15] by kernel_rfl]
      simp only [List.foldl_cons, List.foldl_nil, List.setIfInBounds_toArray, List.set_cons_succ, List.set_cons_zero, List.drop_succ_cons, List.drop_zero]
      rw [show gv 14 = .pointer none from hV 5 14 (by kernel_rfl)]
      rw [show gv 15 = .int .i64 (c : Int) from hV 6 15 (by kernel_rfl)]
      clear hV
      refine wpList_nil ?_
      go_upto_region 20 with fail
      refine wp_text 13 [.eq (.pointer none), .eq (.bool true), .eq (.bool true), .eq (.int .i64 (c : Int)), .eq (.int .i64 (ia : Int)), .eq (.int .i64 (ib : Int)), .eq (.int .i64 (c : Int)), .eq (.bool true), .eq (.bool true), .eq (.bool true), .eq (.bool true), .eq (.bool true), .eq (.bool true)] rfl (by kernel_rfl) ?_ ?_
      · refine sv 1 rfl rfl rfl (fun a u hE hD hk => exec_move (.tmp 14) _ rfl (hE 14 (.pointer none) (by kernel_rfl) (by kernel_rfl))) ?_
        refine sv 2 rfl rfl rfl (fun a u hE hD hk => exec_eqPn (.tmp 67) _ _ (by kernel_rfl) rfl (hD 0 67 (by kernel_rfl))) ?_
        refine sv 3 rfl rfl rfl (fun a u hE hD hk => exec_move (.tmp 68) _ rfl (hD 1 68 (by kernel_rfl))) ?_
        refine fsteps_cons 4 rfl (fun a u hE hD hk => f_val (o := ⟨some 70, _, _, _, _, _⟩) (.int .i64 (c : Int)) rfl (wanted_at (b := true) true rfl rfl (hD 2 69 (by kernel_rfl))) (exec_move (.tmp 15) _ rfl (hE 15 (.int .i64 (c : Int)) (by kernel_rfl) (by kernel_rfl))) rfl) ?_
        refine fsteps_cons 5 rfl (fun a u hE hD hk => f_val (o := ⟨some 71, _, _, _, _, _⟩) (.int .i64 (ia : Int)) rfl (wanted_at (b := true) true rfl rfl (hD 2 69 (by kernel_rfl))) (exec_move (.tmp 10) _ rfl (hE 10 (.int .i64 (ia : Int)) (by kernel_rfl) (by kernel_rfl))) rfl) ?_
        refine fsteps_cons 6 rfl (fun a u hE hD hk => f_val (o := ⟨some 72, _, _, _, _, _⟩) (.int .i64 (ib : Int)) rfl (wanted_at (b := true) true rfl rfl (hD 2 69 (by kernel_rfl))) (exec_move (.tmp 11) _ rfl (hE 11 (.int .i64 (ib : Int)) (by kernel_rfl) (by kernel_rfl))) rfl) ?_
        refine fsteps_cons 7 rfl (fun a u hE hD hk => f_val (o := ⟨some 73, _, _, _, _, _⟩) (.int .i64 (c : Int)) rfl (wanted_at (b := true) true rfl rfl (hD 2 69 (by kernel_rfl))) (exec_min (.tmp 71) (.tmp 72) _ (ia : Int) (ib : Int) (c : Int) rfl (hD 4 71 (by kernel_rfl)) (hD 5 72 (by kernel_rfl)) HC.out) rfl) ?_
        refine fsteps_cons 8 rfl (fun a u hE hD hk => f_as (show ((decide (((c : Int) : Int) = ((c : Int) : Int))) : Bool) = true from decide_eq_true rfl) (f_val (o := ⟨some 74, _, _, _, _, _⟩) (.bool (decide (((c : Int) : Int) = ((c : Int) : Int)))) rfl (wanted_at (b := true) true rfl rfl (hD 2 69 (by kernel_rfl))) (exec_eqn (p := (c : Int)) (q := (c : Int)) rfl (hD 3 70 (by kernel_rfl)) (hD 6 73 (by kernel_rfl))) rfl)) ?_
        refine sv 9 rfl rfl rfl (fun a u hE hD hk => exec_pick (.tmp 69) (.tmp 74) (.const (.bool false)) (.bool true) rfl (hD 2 69 (by kernel_rfl)) (hD 7 74 (by kernel_rfl))) ?_
        refine sv 10 rfl rfl rfl (fun a u hE hD hk => exec_move (.tmp 75) _ rfl (hD 8 75 (by kernel_rfl))) ?_
        refine fsteps_cons 11 rfl (fun a u hE hD hk => f_call (o := ⟨some 77, _, _, _, _, _⟩) 3 #[] rfl (wanted_at (b := true) true rfl rfl (hD 9 76 (by kernel_rfl))) (exec_call 3 _ [] _ [] Try.func3 (by kernel_rfl) (by kernel_rfl) rfl rfl u) (treeRuns_is u)) ?_
        refine sv 12 rfl rfl rfl (fun a u hE hD hk => exec_pick (.tmp 76) (.tmp 77) (.const (.bool false)) (.bool true) rfl (hD 9 76 (by kernel_rfl)) (hD 10 77 (by kernel_rfl))) ?_
        refine sv 13 rfl rfl rfl (fun a u hE hD hk => exec_assign (.tmp 78) _ rfl (hD 11 78 (by kernel_rfl))) ?_
        exact fsteps_nil
      intro gv w6 hV k6
      rw [show dstsOf _ 13 = [67, 68, 69, 70, 71, 72, 73, 74, 75, 76, 77, 78, 8] by kernel_rfl]
      simp only [List.foldl_cons, List.foldl_nil, List.setIfInBounds_toArray, List.set_cons_succ, List.set_cons_zero, List.drop_succ_cons, List.drop_zero]
      rw [show gv 8 = .bool true from hV 12 8 (by kernel_rfl)]
      clear hV
      refine wpList_nil ?_
      have kw6 := (kwr.trans k5).trans k6
      go_wp2
      go_ret
      exact ⟨rfl, kw6⟩
set_option maxRecDepth 100000 in
set_option maxHeartbeats 3200000 in
theorem treeBits_1 (v : Value) (X : Trds) (n m how : Int) (w : World) (ia ib : Nat) (ha32 : ia < 32) (hb32 : ib < 32) (HGd : Hid (∀ i, i < 32 → (X.at_ i).bad = false)) (HX : Hid (∀ u, Kept w u → Gives 10 #[v, .int .i64 (-1), zeroT.v] u (.eq X.v)))
    (HWa : Hid (∀ u, Gives 20 #[.int .i64 n, .int .i64 0, .int .i64 31] u (.eq (.int .i64 (ia : Int))))) (HWb : Hid (∀ u, Gives 20 #[.int .i64 m, .int .i64 0, .int .i64 31] u (.eq (.int .i64 (ib : Int))))) (HWh : Hid (∀ u, Gives 20 #[.int .i64 how, .int .i64 0, .int .i64 4] u (.eq (.int .i64 1)))) :
    Calls Try.prog 7 #[v, .int .i64 n, .int .i64 m, .int .i64 how] w fun e w' => e = .returned (.bool true) ∧ Kept w w' := by
  go_enter Try.func7, Try.ntmps7
  go_upto_region 1 with fail
  refine wp_text 3 [.eq (v), .eq (zeroT.v), .eq (X.v)] rfl (by kernel_rfl) ?_ ?_
  · refine sv 1 rfl rfl rfl (fun a u hE hD hk => exec_move (.tmp 0) _ rfl (hE 0 (v) (by kernel_rfl) (by kernel_rfl))) ?_
    refine sv 2 rfl rfl rfl (fun a u hE hD hk => exec_build 25 [] zeroT.cells rfl (by kernel_rfl)) ?_
    refine fsteps_cons 3 rfl (fun a u hE hD hk => f_call (o := ⟨some 18, _, _, _, _, _⟩) 10 #[v, .int .i64 (-1), zeroT.v] rfl (wanted_none rfl _) (exec_call 10 _ [.tmp 16, .const (.int .i64 (-1)), .tmp 17] _ [v, .int .i64 (-1), zeroT.v] Try.func10 (by kernel_rfl) (by kernel_rfl) rfl (show [a.eval (.tmp 16), a.eval (.const (.int .i64 (-1))), a.eval (.tmp 17)] = [v, .int .i64 (-1), zeroT.v] from (by rw [show a.eval (.tmp 16) = v from (hD 0 16 (by kernel_rfl)), show a.eval (.tmp 17) = zeroT.v from (hD 1 17 (by kernel_rfl))] <;> rfl)) u) (HX.out u hk)) ?_
    exact fsteps_nil
  intro gv wa hV ka
  rw [show dstsOf _ 3 = [16, 17, 18] by kernel_rfl]
  simp only [List.foldl_cons, List.foldl_nil, List.setIfInBounds_toArray, List.set_cons_succ, List.set_cons_zero, List.drop_succ_cons, List.drop_zero]
  rw [show gv 18 = X.v from hV 2 18 (by kernel_rfl)]
  clear hV
  refine l_new (o := ⟨some 9, _, _, _, _, _⟩) (.pointer (some ⟨wa.heap.size, 0, none⟩)) (wa.alloc (.cells zeroX.cells.toArray 26)) rfl (exec_alc 26 zeroX.cells rfl zX) ?_
  have hNa := Blk.new wa 26 zeroX.cells
  have kb : Kept wa (wa.alloc (.cells zeroX.cells.toArray 26)) := (Keep.refl _ wa).alloc _
  generalize wa.alloc (.cells zeroX.cells.toArray 26) = wb at hNa kb ⊢
  simp only [Act.put, List.setIfInBounds_toArray, List.set_cons_succ, List.set_cons_zero]
  refine l_setS (o := ⟨none, _, _, _, _, _⟩) 26 wa.heap.size 26 zeroX.cells X.cells (.tmp 9) (.tmp 18) rfl rfl (by kernel_rfl) (by kernel_rfl) hNa (by rw [Trds.len]; exact szX) (by rw [Trds.len, Trds.len]) (Trds.one _) ?_
  intro w0 hC hkc hsc
  simp only [Act.put]
  refine wpList_nil ?_
  obtain ⟨gl, hgl⟩ : ∃ a, wa.heap.size = a := ⟨_, rfl⟩
  rw [hgl] at hNa hC hkc ⊢
  have HLw0 := Lib.hid hC
  have zka := ka.size
  have kw0 : Kept w w0 := (ka.trans kb).trans' hkc (by omega)
  have zl := hC.lt
  clear hNa hC hkc hsc kb ka
  clear HX
  have zlw : ¬ gl < w.heap.size := by omega
  go_upto_region 2 with fail
  refine wp_text 4 [.eq (.int .i64 n), .eq (.int .i64 (ia : Int)), .eq (.int .i64 m), .eq (.int .i64 (ib : Int))] rfl (by kernel_rfl) ?_ ?_
  · refine sv 1 rfl rfl rfl (fun a u hE hD hk => exec_move (.tmp 1) _ rfl (hE 1 (.int .i64 n) (by kernel_rfl) (by kernel_rfl))) ?_
    refine fsteps_cons 2 rfl (fun a u hE hD hk => f_call (o := ⟨some 20, _, _, _, _, _⟩) 20 #[.int .i64 n, .int .i64 0, .int .i64 31] rfl (wanted_none rfl _) (exec_call 20 _ [.tmp 19, .const (.int .i64 0), .const (.int .i64 31)] _ [.int .i64 n, .int .i64 0, .int .i64 31] Try.func20 (by kernel_rfl) (by kernel_rfl) rfl (show [a.eval (.tmp 19), a.eval (.const (.int .i64 0)), a.eval (.const (.int .i64 31))] = [.int .i64 n, .int .i64 0, .int .i64 31] from (by rw [show a.eval (.tmp 19) = .int .i64 n from (hD 0 19 (by kernel_rfl))] <;> rfl)) u) (HWa.out u)) ?_
    refine sv 3 rfl rfl rfl (fun a u hE hD hk => exec_move (.tmp 2) _ rfl (hE 2 (.int .i64 m) (by kernel_rfl) (by kernel_rfl))) ?_
    refine fsteps_cons 4 rfl (fun a u hE hD hk => f_call (o := ⟨some 22, _, _, _, _, _⟩) 20 #[.int .i64 m, .int .i64 0, .int .i64 31] rfl (wanted_none rfl _) (exec_call 20 _ [.tmp 21, .const (.int .i64 0), .const (.int .i64 31)] _ [.int .i64 m, .int .i64 0, .int .i64 31] Try.func20 (by kernel_rfl) (by kernel_rfl) rfl (show [a.eval (.tmp 21), a.eval (.const (.int .i64 0)), a.eval (.const (.int .i64 31))] = [.int .i64 m, .int .i64 0, .int .i64 31] from (by rw [show a.eval (.tmp 21) = .int .i64 m from (hD 2 21 (by kernel_rfl))] <;> rfl)) u) (HWb.out u)) ?_
    exact fsteps_nil
  intro gv w1 hV k1
  rw [show dstsOf _ 4 = [19, 20, 21, 22] by kernel_rfl]
  simp only [List.foldl_cons, List.foldl_nil, List.setIfInBounds_toArray, List.set_cons_succ, List.set_cons_zero, List.drop_succ_cons, List.drop_zero]
  rw [show gv 20 = .int .i64 (ia : Int) from hV 1 20 (by kernel_rfl)]
  rw [show gv 22 = .int .i64 (ib : Int) from hV 3 22 (by kernel_rfl)]
  clear hV
  refine l_val (o := ⟨some 10, _, _, _, _, _⟩) (.int .i64 (ia : Int)) rfl (exec_assign (.tmp 20) (.int .i64 (ia : Int)) rfl (by kernel_rfl)) ?_
  simp only [Act.put, List.setIfInBounds_toArray, List.set_cons_succ, List.set_cons_zero]
  refine l_val (o := ⟨some 11, _, _, _, _, _⟩) (.int .i64 (ib : Int)) rfl (exec_assign (.tmp 22) (.int .i64 (ib : Int)) rfl (by kernel_rfl)) ?_
  simp only [Act.put, List.setIfInBounds_toArray, List.set_cons_succ, List.set_cons_zero]
  refine wpList_nil ?_
  have HL1 := Lib.hid (HLw0.out.kept k1)
  have kw1 := kw0.trans k1
  clear HLw0 kw0 k1 HWa HWb zka hgl
  go_upto_region 3 with fail
  refine wp_region_lit ?_
  refine l_val (o := ⟨some 23, _, _, _, _, _⟩) (.int .i64 (ia : Int)) rfl (exec_move (.tmp 10) (.int .i64 (ia : Int)) rfl (by kernel_rfl)) ?_
  simp only [Act.put, List.setIfInBounds_toArray, List.set_cons_succ, List.set_cons_zero]
  refine l_val (o := ⟨some 24, _, _, _, _, _⟩) (.int .i64 (ib : Int)) rfl (exec_move (.tmp 11) (.int .i64 (ib : Int)) rfl (by kernel_rfl)) ?_
  simp only [Act.put, List.setIfInBounds_toArray, List.set_cons_succ, List.set_cons_zero]
  refine l_new (o := ⟨some 25, _, _, _, _, _⟩) (.slice (some ⟨w1.heap.size, 0, none⟩) 2 2) (w1.alloc (.cells (i64s [(ia : Int), (ib : Int)]).toArray 3)) rfl (exec_ints 2 [(0, .tmp 23), (1, .tmp 24)] [(ia : Int), (ib : Int)] rfl rfl (by omega) (by omega) (by kernel_rfl)) ?_
  have hS2 := Blk.new w1 3 (i64s [(ia : Int), (ib : Int)])
  have k2 : Kept w1 (w1.alloc (.cells (i64s [(ia : Int), (ib : Int)]).toArray 3)) := (Keep.refl _ w1).alloc _
  generalize w1.alloc (.cells (i64s [(ia : Int), (ib : Int)]).toArray 3) = w4 at hS2 k2 ⊢
  simp only [Act.put, List.setIfInBounds_toArray, List.set_cons_succ, List.set_cons_zero]
  refine l_val (o := ⟨some 26, _, _, _, _, _⟩) (.int .i64 2) rfl (exec_len (.tmp 25) _ _ slI.und (some ⟨w1.heap.size, 0, none⟩) 2 2 rfl (by kernel_rfl)) ?_
  simp only [Act.put, List.setIfInBounds_toArray, List.set_cons_succ, List.set_cons_zero]
  refine l_val (o := ⟨some 27, _, _, _, _, _⟩) (.int .i64 0) rfl (exec_move (.const (.int .i64 0)) (.int .i64 0) rfl (by kernel_rfl)) ?_
  simp only [Act.put, List.setIfInBounds_toArray, List.set_cons_succ, List.set_cons_zero]
  refine wpList_nil ?_
  obtain ⟨gs, hgs⟩ : ∃ g, w1.heap.size = g := ⟨_, rfl⟩
  rw [hgs] at hS2 ⊢
  have zls : gs ≠ gl := by have := HL1.out.lt; omega
  have HS4 := Lib.hid hS2
  have HL4 := Lib.hid (HL1.out.kept k2)
  have kw4 := kw1.trans k2
  clear hS2 HL1 kw1 k2 hgs
  obtain ⟨Z, HZ0, HZ1, HZ2⟩ : ∃ Z : Nat → Trds, Hid (Z 0 = X) ∧ Hid (Z 1 = (Z 0).put ia (mkT 1 16 1 0)) ∧ Hid (Z 2 = (Z 1).put ib (mkT 1 16 1 0)) := ⟨fun i => match i with | 0 => X | 1 => X.put ia (mkT 1 16 1 0) | _ => (X.put ia (mkT 1 16 1 0)).put ib (mkT 1 16 1 0), rfl, rfl, rfl⟩
  go_wp2_with fail
  go_loopw [27] (fun t wr => ∃ i : Nat, t = .int .i64 (i : Int) ∧ i ≤ 2 ∧ Hid (Blk wr gl 26 (Z i).cells) ∧ Keep (· = gl) w4 wr) (fun t _ => 2 - (intOf t).toNat)
  case atStart => exact ⟨0, rfl, by omega, by rw [HZ0.out]; exact HL4, Keep.refl _ _⟩
  case round =>
    obtain ⟨i, rfl, hi', HZr, hkr⟩ := hrel
    by_cases hi : i < 2
    · obtain ⟨e, he32, HE, HZn⟩ : ∃ e : Nat, e < 32 ∧ Hid ((i64s [(ia : Int), (ib : Int)])[i]? = some (.int .i64 (e : Int))) ∧ Hid (Z (i + 1) = (Z i).put e (mkT 1 16 1 0)) := by
        have h01 : i = 0 ∨ i = 1 := by omega
        rcases h01 with rfl | rfl
        · exact ⟨ia, ha32, rfl, HZ1⟩
        · exact ⟨ib, hb32, rfl, HZ2⟩
      generalize Z i = Zi at HZr HZn
      clear HZ0 HZ1 HZ2
      have HSr := Lib.hid (HS4.out.keep hkr zls)
      go_upto_region 5 with fail
      refine wp_text 2 [.eq (.pointer (some ⟨gs, i, none⟩)), .eq (.int .i64 (e : Int))] rfl (by kernel_rfl) ?_ ?_
      · refine sv 1 rfl rfl rfl (fun a u hE hD hk => exec_ixo slI (.tmp 25) (.tmp 27) gs 0 2 2 i i _ rfl (hE 25 (.slice (some ⟨gs, 0, none⟩) 2 2) (by kernel_rfl) (by kernel_rfl)) (hE 27 (.int .i64 (i : Int)) (by kernel_rfl) (by kernel_rfl)) rfl hi (by omega)) ?_
        refine sv 2 rfl rfl rfl (fun a u hE hD hk => exec_loadi 3 Try.underlying3 (.tmp 29) ⟨gs, i, none⟩ _ rfl (hD 0 29 (by kernel_rfl)) (by rw [(HSr.out.kept hk).cell]; exact HE.out)) ?_
        exact fsteps_nil
      intro gv w5 hV k5
      rw [show dstsOf _ 2 = [29, 30] by kernel_rfl]
      simp only [List.foldl_cons, List.foldl_nil, List.setIfInBounds_toArray, List.set_cons_succ, List.set_cons_zero, List.drop_succ_cons, List.drop_zero]
      rw [show gv 30 = .int .i64 (e : Int) from hV 1 30 (by kernel_rfl)]
      clear hV
      refine l_val (o := ⟨some 13, _, _, _, _, _⟩) (.int .i64 (e : Int)) rfl (exec_assign (.tmp 30) (.int .i64 (e : Int)) rfl (by kernel_rfl)) ?_
      simp only [Act.put, List.setIfInBounds_toArray, List.set_cons_succ, List.set_cons_zero]
      refine wpList_nil ?_
      have HZ5 := Lib.hid (HZr.out.kept k5)
      have kr5 := hkr.kept k5
      clear HZr hkr k5 HSr HE
      go_upto_region 6 with fail
      refine wp_region_lit ?_
      refine l_val (o := ⟨some 31, _, _, _, _, _⟩) (.int .i64 (e : Int)) rfl (exec_move (.tmp 13) (.int .i64 (e : Int)) rfl (by kernel_rfl)) ?_
      simp only [Act.put, List.setIfInBounds_toArray, List.set_cons_succ, List.set_cons_zero]
      refine l_val (o := ⟨some 32, _, _, _, _, _⟩) (runs13base.v) rfl (exec_build 25 [(0, .const (.int .i64 1)), (2, .const (.int .i64 1))] runs13base.cells rfl (by kernel_rfl)) ?_
      simp only [Act.put, List.setIfInBounds_toArray, List.set_cons_succ, List.set_cons_zero]
      refine l_val (o := ⟨some 33, _, _, _, _, _⟩) (.pointer (some ⟨gl, e * 37, none⟩)) rfl (exec_ixA (.tmp 9) (.tmp 31) gl e _ rfl (by kernel_rfl) (by kernel_rfl) rfl he32) ?_
      simp only [Act.put, List.setIfInBounds_toArray, List.set_cons_succ, List.set_cons_zero]
      refine l_putT (o := ⟨none, _, _, _, _, _⟩) gl e 26 Zi runs13base (.tmp 33) (.tmp 32) rfl rfl (by kernel_rfl) (by kernel_rfl) HZ5.out he32 ?_
      intro w6 hB6 hk6 hs6
      simp only [Act.put]
      refine wpList_nil ?_
      have HZ6 := Lib.hid hB6
      have kr6 := kr5.trans hk6 (fun _ _ h => h)
      clear hB6 hk6 hs6 HZ5 kr5
      go_upto_region 7 with fail
      refine wp_text 2 [.eq (.int .i64 how), .eq (.int .i64 1)] rfl (by kernel_rfl) ?_ ?_
      · refine sv 1 rfl rfl rfl (fun a u hE hD hk => exec_move (.tmp 3) _ rfl (hE 3 (.int .i64 how) (by kernel_rfl) (by kernel_rfl))) ?_
        refine fsteps_cons 2 rfl (fun a u hE hD hk => f_call (o := ⟨some 35, _, _, _, _, _⟩) 20 #[.int .i64 how, .int .i64 0, .int .i64 4] rfl (wanted_none rfl _) (exec_call 20 _ [.tmp 34, .const (.int .i64 0), .const (.int .i64 4)] _ [.int .i64 how, .int .i64 0, .int .i64 4] Try.func20 (by kernel_rfl) (by kernel_rfl) rfl (show [a.eval (.tmp 34), a.eval (.const (.int .i64 0)), a.eval (.const (.int .i64 4))] = [.int .i64 how, .int .i64 0, .int .i64 4] from (by rw [show a.eval (.tmp 34) = .int .i64 how from (hD 0 34 (by kernel_rfl))] <;> rfl)) u) (HWh.out u)) ?_
        exact fsteps_nil
      intro gv w7 hV k7
      rw [show dstsOf _ 2 = [34, 35] by kernel_rfl]
      simp only [List.foldl_cons, List.foldl_nil, List.setIfInBounds_toArray, List.set_cons_succ, List.set_cons_zero, List.drop_succ_cons, List.drop_zero]
      rw [show gv 35 = .int .i64 1 from hV 1 35 (by kernel_rfl)]
      clear hV
      refine wpList_nil ?_
      have HZ7 := Lib.hid (HZ6.out.kept k7)
      have kr7 := kr6.kept k7
      clear HZ6 kr6 k7
      go_upto_region 11 with fail
      refine wp_text 3 [.eq (.int .i64 (e : Int)), .eq (.pointer (some ⟨gl, e * 37, none⟩)), .eq (.pointer (some ⟨gl, e * 37 + 1, none⟩))] rfl (by kernel_rfl) ?_ ?_
      · refine sv 1 rfl rfl rfl (fun a u hE hD hk => exec_move (.tmp 13) _ rfl (hE 13 (.int .i64 (e : Int)) (by kernel_rfl) (by kernel_rfl))) ?_
        refine sv 2 rfl rfl rfl (fun a u hE hD hk => exec_ixA (.tmp 9) (.tmp 43) (gl) e ((e : Int)) rfl (hE 9 (.pointer (some ⟨gl, 0, none⟩)) (by kernel_rfl) (by kernel_rfl)) (hD 0 43 (by kernel_rfl)) (by first | rfl | omega) (he32)) ?_
        refine sv 3 rfl rfl rfl (fun a u hE hD hk => exec_fldo 25 1 1 (.tmp 44) (gl) (e * 37) (e * 37 + 1) rfl (hD 1 44 (by kernel_rfl)) (by kernel_rfl) rfl) ?_
        exact fsteps_nil
      intro gv w8 hV k8
      rw [show dstsOf _ 3 = [43, 44, 45] by kernel_rfl]
      simp only [List.foldl_cons, List.foldl_nil, List.setIfInBounds_toArray, List.set_cons_succ, List.set_cons_zero, List.drop_succ_cons, List.drop_zero]
      rw [show gv 45 = .pointer (some ⟨gl, e * 37 + 1, none⟩) from hV 2 45 (by kernel_rfl)]
      clear hV
      refine l_putI (o := ⟨none, _, _, _, _, _⟩) gl e 1 26 (Zi.put e runs13base) 16 (mkT 1 16 1 0) (.tmp 45) (.const (.int .i64 16)) _ rfl rfl (by kernel_rfl) rfl rfl (HZ7.out.kept k8) he32 (by omega) (by rw [Trds.at_put _ _ _ _ he32, if_pos rfl]; rfl) ?_
      intro w9 hB9 hk9 hs9
      simp only [Act.put]
      refine wpList_nil ?_
      rw [put_put _ _ _ _ he32] at hB9
      have HZ9 := Lib.hid hB9
      have kr9 : Keep (· = gl) w4 w9 := (kr7.kept k8).trans hk9 (fun _ _ h => h)
      clear hB9 hk9 hs9 k8 kr7 HZ7
      go_wp2
      exact ⟨⟨i + 1, by simp, by omega, by rw [← HZn.out] at HZ9; exact HZ9, kr9⟩, by simp [intOf]; omega⟩
    · obtain rfl : i = 2 := by omega
      have HXB : Hid ((Z 2).bad = some (if (ib : Int) < (ia : Int) then ib else ia)) := by
        show _ = _
        rw [HZ2.out, HZ1.out, HZ0.out]
        exact two_bad HGd.out ha32 hb32 (by decide +kernel)
      have kwr : Kept w wr := kw4.trans' hkr zlw
      generalize Z 2 = Zi at HZr HXB
      obtain ⟨c, hc⟩ : ∃ c : Nat, (if (ib : Int) < (ia : Int) then ib else ia) = c := ⟨_, rfl⟩
      rw [hc] at HXB
      have HC : Hid ((if (ib : Int) < (ia : Int) then (ib : Int) else (ia : Int)) = (c : Int)) := by
        show _ = _
        rw [← hc]
        split <;> rfl
      clear HZ0 HZ1 HZ2 HGd HS4 HL4 kw4 hkr hc
      go_upto_region 19 with fail
      refine wp_text 7 [.eq (Zi.v), .eq (.tuple #[.pointer none, .int .i64 (c : Int)]), .eq (.tuple #[.pointer none, .int .i64 (c : Int)]), .eq (.pointer none), .eq (.int .i64 (c : Int)), .eq (.pointer none), .eq (.int .i64 (c : Int))] rfl (by kernel_rfl) ?_ ?_
      · refine sv 1 rfl rfl rfl (fun a u hE hD hk => exec_ldX Zi (.tmp 9) (gl) _ rfl (hE 9 (.pointer (some ⟨gl, 0, none⟩)) (by kernel_rfl) (by kernel_rfl)) (HZr.out.kept hk)) ?_
        refine fsteps_cons 2 rfl (fun a u hE hD hk => f_call (o := ⟨some 64, _, _, _, _, _⟩) 8 #[Zi.v] rfl (wanted_none rfl _) (exec_call 8 _ [.tmp 63] _ [Zi.v] Try.func8 (by kernel_rfl) (by kernel_rfl) rfl (show [a.eval (.tmp 63)] = [Zi.v] from (by rw [show a.eval (.tmp 63) = Zi.v from (hD 0 63 (by kernel_rfl))] <;> rfl)) u) (new_bad HXB.out)) ?_
        refine sv 3 rfl rfl rfl (fun a u hE hD hk => exec_move (.tmp 64) _ rfl (hD 1 64 (by kernel_rfl))) ?_
        refine sv 4 rfl rfl rfl (fun a u hE hD hk => exec_extract (.tmp 62) [.pointer none, .int .i64 (c : Int)] 0 (.pointer none) rfl (hD 2 62 (by kernel_rfl)) rfl) ?_
        refine sv 5 rfl rfl rfl (fun a u hE hD hk => exec_extract (.tmp 62) [.pointer none, .int .i64 (c : Int)] 1 (.int .i64 (c : Int)) rfl (hD 2 62 (by kernel_rfl)) rfl) ?_
        refine sv 6 rfl rfl rfl (fun a u hE hD hk => exec_assign (.tmp 65) _ rfl (hD 3 65 (by kernel_rfl))) ?_
        refine sv 7 rfl rfl rfl (fun a u hE hD hk => exec_assign (.tmp 66) _ rfl (hD 4 66 (by kernel_rfl))) ?_
        exact fsteps_nil
      intro gv w5 hV k5
      rw [show dstsOf _ 7 = [63, 64, 62, 65, 66, 14, 15] by kernel_rfl]
      simp only [List.foldl_cons, List.foldl_nil, List.setIfInBounds_toArray, List.set_cons_succ, List.set_cons_zero, List.drop_succ_cons, List.drop_zero]
      rw [show gv 14 = .pointer none from hV 5 14 (by kernel_rfl)]
      rw [show gv 15 = .int .i64 (c : Int) from hV 6 15 (by kernel_rfl)]
      clear hV
      refine wpList_nil ?_
      go_upto_region 20 with fail
      refine wp_text 13 [.eq (.pointer none), .eq (.bool true), .eq (.bool true), .eq (.int .i64 (c : Int)), .eq (.int .i64 (ia : Int)), .eq (.int .i64 (ib : Int)), .eq (.int .i64 (c : Int)), .eq (.bool true), .eq (.bool true), .eq (.bool true), .eq (.bool true), .eq (.bool true), .eq (.bool true)] rfl (by kernel_rfl) ?_ ?_
      · refine sv 1 rfl rfl rfl (fun a u hE hD hk => exec_move (.tmp 14) _ rfl (hE 14 (.pointer none) (by kernel_rfl) (by kernel_rfl))) ?_
        refine sv 2 rfl rfl rfl (fun a u hE hD hk => exec_eqPn (.tmp 67) _ _ (by kernel_rfl) rfl (hD 0 67 (by kernel_rfl))) ?_
        refine sv 3 rfl rfl rfl (fun a u hE hD hk => exec_move (.tmp 68) _ rfl (hD 1 68 (by kernel_rfl))) ?_
        refine fsteps_cons 4 rfl (fun a u hE hD hk => f_val (o := ⟨some 70, _, _, _, _, _⟩) (.int .i64 (c : Int)) rfl (wanted_at (b := true) true rfl rfl (hD 2 69 (by kernel_rfl))) (exec_move (.tmp 15) _ rfl (hE 15 (.int .i64 (c : Int)) (by kernel_rfl) (by kernel_rfl))) rfl) ?_
        refine fsteps_cons 5 rfl (fun a u hE hD hk => f_val (o := ⟨some 71, _, _, _, _, _⟩) (.int .i64 (ia : Int)) rfl (wanted_at (b := true) true rfl rfl (hD 2 69 (by kernel_rfl))) (exec_move (.tmp 10) _ rfl (hE 10 (.int .i64 (ia : Int)) (by kernel_rfl) (by kernel_rfl))) rfl) ?_
        refine fsteps_cons 6 rfl (fun a u hE hD hk => f_val (o := ⟨some 72, _, _, _, _, _⟩) (.int .i64 (ib : Int)) rfl (wanted_at (b := true) true rfl rfl (hD 2 69 (by kernel_rfl))) (exec_move (.tmp 11) _ rfl (hE 11 (.int .i64 (ib : Int)) (by kernel_rfl) (by kernel_rfl))) rfl) ?_
        refine fsteps_cons 7 rfl (fun a u hE hD hk => f_val (o := ⟨some 73, _, _, _, _, _⟩) (.int .i64 (c : Int)) rfl (wanted_at (b := true) true rfl rfl (hD 2 69 (by kernel_rfl))) (exec_min (.tmp 71) (.tmp 72) _ (ia : Int) (ib : Int) (c : Int) rfl (hD 4 71 (by kernel_rfl)) (hD 5 72 (by kernel_rfl)) HC.out) rfl) ?_
        refine fsteps_cons 8 rfl (fun a u hE hD hk => f_as (show ((decide (((c : Int) : Int) = ((c : Int) : Int))) : Bool) = true from decide_eq_true rfl) (f_val (o := ⟨some 74, _, _, _, _, _⟩) (.bool (decide (((c : Int) : Int) = ((c : Int) : Int)))) rfl (wanted_at (b := true) true rfl rfl (hD 2 69 (by kernel_rfl))) (exec_eqn (p := (c : Int)) (q := (c : Int)) rfl (hD 3 70 (by kernel_rfl)) (hD 6 73 (by kernel_rfl))) rfl)) ?_
        refine sv 9 rfl rfl rfl (fun a u hE hD hk => exec_pick (.tmp 69) (.tmp 74) (.const (.bool false)) (.bool true) rfl (hD 2 69 (by kernel_rfl)) (hD 7 74 (by kernel_rfl))) ?_
        refine sv 10 rfl rfl rfl (fun a u hE hD hk => exec_move (.tmp 75) _ rfl (hD 8 75 (by kernel_rfl))) ?_
        refine fsteps_cons 11 rfl (fun a u hE hD hk => f_call (o := ⟨some 77, _, _, _, _, _⟩) 3 #[] rfl (wanted_at (b := true) true rfl rfl (hD 9 76 (by kernel_rfl))) (exec_call 3 _ [] _ [] Try.func3 (by kernel_rfl) (by kernel_rfl) rfl rfl u) (treeRuns_is u)) ?_
        refine sv 12 rfl rfl rfl (fun a u hE hD hk => exec_pick (.tmp 76) (.tmp 77) (.const (.bool false)) (.bool true) rfl (hD 9 76 (by kernel_rfl)) (hD 10 77 (by kernel_rfl))) ?_
        refine sv 13 rfl rfl rfl (fun a u hE hD hk => exec_assign (.tmp 78) _ rfl (hD 11 78 (by kernel_rfl))) ?_
        exact fsteps_nil
      intro gv w6 hV k6
      rw [show dstsOf _ 13 = [67, 68, 69, 70, 71, 72, 73, 74, 75, 76, 77, 78, 8] by kernel_rfl]
      simp only [List.foldl_cons, List.foldl_nil, List.setIfInBounds_toArray, List.set_cons_succ, List.set_cons_zero, List.drop_succ_cons, List.drop_zero]
      rw [show gv 8 = .bool true from hV 12 8 (by kernel_rfl)]
      clear hV
      refine wpList_nil ?_
      have kw6 := (kwr.trans k5).trans k6
      go_wp2
      go_ret
      exact ⟨rfl, kw6⟩
set_option maxRecDepth 100000 in
set_option maxHeartbeats 3200000 in
theorem treeBits_2 (v : Value) (X : Trds) (n m how : Int) (w : World) (ia ib : Nat) (ha32 : ia < 32) (hb32 : ib < 32) (HGd : Hid (∀ i, i < 32 → (X.at_ i).bad = false)) (HX : Hid (∀ u, Kept w u → Gives 10 #[v, .int .i64 (-1), zeroT.v] u (.eq X.v)))
    (HWa : Hid (∀ u, Gives 20 #[.int .i64 n, .int .i64 0, .int .i64 31] u (.eq (.int .i64 (ia : Int))))) (HWb : Hid (∀ u, Gives 20 #[.int .i64 m, .int .i64 0, .int .i64 31] u (.eq (.int .i64 (ib : Int))))) (HWh : Hid (∀ u, Gives 20 #[.int .i64 how, .int .i64 0, .int .i64 4] u (.eq (.int .i64 2)))) :
    Calls Try.prog 7 #[v, .int .i64 n, .int .i64 m, .int .i64 how] w fun e w' => e = .returned (.bool true) ∧ Kept w w' := by
  go_enter Try.func7, Try.ntmps7
  go_upto_region 1 with fail
  refine wp_text 3 [.eq (v), .eq (zeroT.v), .eq (X.v)] rfl (by kernel_rfl) ?_ ?_
  · refine sv 1 rfl rfl rfl (fun a u hE hD hk => exec_move (.tmp 0) _ rfl (hE 0 (v) (by kernel_rfl) (by kernel_rfl))) ?_
    refine sv 2 rfl rfl rfl (fun a u hE hD hk => exec_build 25 [] zeroT.cells rfl (by kernel_rfl)) ?_
    refine fsteps_cons 3 rfl (fun a u hE hD hk => f_call (o := ⟨some 18, _, _, _, _, _⟩) 10 #[v, .int .i64 (-1), zeroT.v] rfl (wanted_none rfl _) (exec_call 10 _ [.tmp 16, .const (.int .i64 (-1)), .tmp 17] _ [v, .int .i64 (-1), zeroT.v] Try.func10 (by kernel_rfl) (by kernel_rfl) rfl (show [a.eval (.tmp 16), a.eval (.const (.int .i64 (-1))), a.eval (.tmp 17)] = [v, .int .i64 (-1), zeroT.v] from (by rw [show a.eval (.tmp 16) = v from (hD 0 16 (by kernel_rfl)), show a.eval (.tmp 17) = zeroT.v from (hD 1 17 (by kernel_rfl))] <;> rfl)) u) (HX.out u hk)) ?_
    exact fsteps_nil
  intro gv wa hV ka
  rw [show dstsOf _ 3 = [16, 17, 18] by kernel_rfl]
  simp only [List.foldl_cons, List.foldl_nil, List.setIfInBounds_toArray, List.set_cons_succ, List.set_cons_zero, List.drop_succ_cons, List.drop_zero]
  rw [show gv 18 = X.v from hV 2 18 (by kernel_rfl)]
  clear hV
  refine l_new (o := ⟨some 9, _, _, _, _, _⟩) (.pointer (some ⟨wa.heap.size, 0, none⟩)) (wa.alloc (.cells zeroX.cells.toArray 26)) rfl (exec_alc 26 zeroX.cells rfl zX) ?_
  have hNa := Blk.new wa 26 zeroX.cells
  have kb : Kept wa (wa.alloc (.cells zeroX.cells.toArray 26)) := (Keep.refl _ wa).alloc _
  generalize wa.alloc (.cells zeroX.cells.toArray 26) = wb at hNa kb ⊢
  simp only [Act.put, List.setIfInBounds_toArray, List.set_cons_succ, List.set_cons_zero]
  refine l_setS (o := ⟨none, _, _, _, _, _⟩) 26 wa.heap.size 26 zeroX.cells X.cells (.tmp 9) (.tmp 18) rfl rfl (by kernel_rfl) (by kernel_rfl) hNa (by rw [Trds.len]; exact szX) (by rw [Trds.len, Trds.len]) (Trds.one _) ?_
  intro w0 hC hkc hsc
  simp only [Act.put]
  refine wpList_nil ?_
  obtain ⟨gl, hgl⟩ : ∃ a, wa.heap.size = a := ⟨_, rfl⟩
  rw [hgl] at hNa hC hkc ⊢
  have HLw0 := Lib.hid hC
  have zka := ka.size
  have kw0 : Kept w w0 := (ka.trans kb).trans' hkc (by omega)
  have zl := hC.lt
  clear hNa hC hkc hsc kb ka
  clear HX
  have zlw : ¬ gl < w.heap.size := by omega
  go_upto_region 2 with fail
  refine wp_text 4 [.eq (.int .i64 n), .eq (.int .i64 (ia : Int)), .eq (.int .i64 m), .eq (.int .i64 (ib : Int))] rfl (by kernel_rfl) ?_ ?_
  · refine sv 1 rfl rfl rfl (fun a u hE hD hk => exec_move (.tmp 1) _ rfl (hE 1 (.int .i64 n) (by kernel_rfl) (by kernel_rfl))) ?_
    refine fsteps_cons 2 rfl (fun a u hE hD hk => f_call (o := ⟨some 20, _, _, _, _, _⟩) 20 #[.int .i64 n, .int .i64 0, .int .i64 31] rfl (wanted_none rfl _) (exec_call 20 _ [.tmp 19, .const (.int .i64 0), .const (.int .i64 31)] _ [.int .i64 n, .int .i64 0, .int .i64 31] Try.func20 (by kernel_rfl) (by kernel_rfl) rfl (show [a.eval (.tmp 19), a.eval (.const (.int .i64 0)), a.eval (.const (.int .i64 31))] = [.int .i64 n, .int .i64 0, .int .i64 31] from (by rw [show a.eval (.tmp 19) = .int .i64 n from (hD 0 19 (by kernel_rfl))] <;> rfl)) u) (HWa.out u)) ?_
    refine sv 3 rfl rfl rfl (fun a u hE hD hk => exec_move (.tmp 2) _ rfl (hE 2 (.int .i64 m) (by kernel_rfl) (by kernel_rfl))) ?_
    refine fsteps_cons 4 rfl (fun a u hE hD hk => f_call (o := ⟨some 22, _, _, _, _, _⟩) 20 #[.int .i64 m, .int .i64 0, .int .i64 31] rfl (wanted_none rfl _) (exec_call 20 _ [.tmp 21, .const (.int .i64 0), .const (.int .i64 31)] _ [.int .i64 m, .int .i64 0, .int .i64 31] Try.func20 (by kernel_rfl) (by kernel_rfl) rfl (show [a.eval (.tmp 21), a.eval (.const (.int .i64 0)), a.eval (.const (.int .i64 31))] = [.int .i64 m, .int .i64 0, .int .i64 31] from (by rw [show a.eval (.tmp 21) = .int .i64 m from (hD 2 21 (by kernel_rfl))] <;> rfl)) u) (HWb.out u)) ?_
    exact fsteps_nil
  intro gv w1 hV k1
  rw [show dstsOf _ 4 = [19, 20, 21, 22] by kernel_rfl]
  simp only [List.foldl_cons, List.foldl_nil, List.setIfInBounds_toArray, List.set_cons_succ, List.set_cons_zero, List.drop_succ_cons, List.drop_zero]
  rw [show gv 20 = .int .i64 (ia : Int) from hV 1 20 (by kernel_rfl)]
  rw [show gv 22 = .int .i64 (ib : Int) from hV 3 22 (by kernel_rfl)]
  clear hV
  refine l_val (o := ⟨some 10, _, _, _, _, _⟩) (.int .i64 (ia : Int)) rfl (exec_assign (.tmp 20) (.int .i64 (ia : Int)) rfl (by kernel_rfl)) ?_
  simp only [Act.put, List.setIfInBounds_toArray, List.set_cons_succ, List.set_cons_zero]
  refine l_val (o := ⟨some 11, _, _, _, _, _⟩) (.int .i64 (ib : Int)) rfl (exec_assign (.tmp 22) (.int .i64 (ib : Int)) rfl (by kernel_rfl)) ?_
  simp only [Act.put, List.setIfInBounds_toArray, List.set_cons_succ, List.set_cons_zero]
  refine wpList_nil ?_
  have HL1 := Lib.hid (HLw0.out.kept k1)
  have kw1 := kw0.trans k1
  clear HLw0 kw0 k1 HWa HWb zka hgl
  go_upto_region 3 with fail
  refine wp_region_lit ?_
  refine l_val (o := ⟨some 23, _, _, _, _, _⟩) (.int .i64 (ia : Int)) rfl (exec_move (.tmp 10) (.int .i64 (ia : Int)) rfl (by kernel_rfl)) ?_
  simp only [Act.put, List.setIfInBounds_toArray, List.set_cons_succ, List.set_cons_zero]
  refine l_val (o := ⟨some 24, _, _, _, _, _⟩) (.int .i64 (ib : Int)) rfl (exec_move (.tmp 11) (.int .i64 (ib : Int)) rfl (by kernel_rfl)) ?_
  simp only [Act.put, List.setIfInBounds_toArray, List.set_cons_succ, List.set_cons_zero]
  refine l_new (o := ⟨some 25, _, _, _, _, _⟩) (.slice (some ⟨w1.heap.size, 0, none⟩) 2 2) (w1.alloc (.cells (i64s [(ia : Int), (ib : Int)]).toArray 3)) rfl (exec_ints 2 [(0, .tmp 23), (1, .tmp 24)] [(ia : Int), (ib : Int)] rfl rfl (by omega) (by omega) (by kernel_rfl)) ?_
  have hS2 := Blk.new w1 3 (i64s [(ia : Int), (ib : Int)])
  have k2 : Kept w1 (w1.alloc (.cells (i64s [(ia : Int), (ib : Int)]).toArray 3)) := (Keep.refl _ w1).alloc _
  generalize w1.alloc (.cells (i64s [(ia : Int), (ib : Int)]).toArray 3) = w4 at hS2 k2 ⊢
  simp only [Act.put, List.setIfInBounds_toArray, List.set_cons_succ, List.set_cons_zero]
  refine l_val (o := ⟨some 26, _, _, _, _, _⟩) (.int .i64 2) rfl (exec_len (.tmp 25) _ _ slI.und (some ⟨w1.heap.size, 0, none⟩) 2 2 rfl (by kernel_rfl)) ?_
  simp only [Act.put, List.setIfInBounds_toArray, List.set_cons_succ, List.set_cons_zero]
  refine l_val (o := ⟨some 27, _, _, _, _, _⟩) (.int .i64 0) rfl (exec_move (.const (.int .i64 0)) (.int .i64 0) rfl (by kernel_rfl)) ?_
  simp only [Act.put, List.setIfInBounds_toArray, List.set_cons_succ, List.set_cons_zero]
  refine wpList_nil ?_
  obtain ⟨gs, hgs⟩ : ∃ g, w1.heap.size = g := ⟨_, rfl⟩
  rw [hgs] at hS2 ⊢
  have zls : gs ≠ gl := by have := HL1.out.lt; omega
  have HS4 := Lib.hid hS2
  have HL4 := Lib.hid (HL1.out.kept k2)
  have kw4 := kw1.trans k2
  clear hS2 HL1 kw1 k2 hgs
  obtain ⟨Z, HZ0, HZ1, HZ2⟩ : ∃ Z : Nat → Trds, Hid (Z 0 = X) ∧ Hid (Z 1 = (Z 0).put ia (mkT 1 0 16 0)) ∧ Hid (Z 2 = (Z 1).put ib (mkT 1 0 16 0)) := ⟨fun i => match i with | 0 => X | 1 => X.put ia (mkT 1 0 16 0) | _ => (X.put ia (mkT 1 0 16 0)).put ib (mkT 1 0 16 0), rfl, rfl, rfl⟩
  go_wp2_with fail
  go_loopw [27] (fun t wr => ∃ i : Nat, t = .int .i64 (i : Int) ∧ i ≤ 2 ∧ Hid (Blk wr gl 26 (Z i).cells) ∧ Keep (· = gl) w4 wr) (fun t _ => 2 - (intOf t).toNat)
  case atStart => exact ⟨0, rfl, by omega, by rw [HZ0.out]; exact HL4, Keep.refl _ _⟩
  case round =>
    obtain ⟨i, rfl, hi', HZr, hkr⟩ := hrel
    by_cases hi : i < 2
    · obtain ⟨e, he32, HE, HZn⟩ : ∃ e : Nat, e < 32 ∧ Hid ((i64s [(ia : Int), (ib : Int)])[i]? = some (.int .i64 (e : Int))) ∧ Hid (Z (i + 1) = (Z i).put e (mkT 1 0 16 0)) := by
        have h01 : i = 0 ∨ i = 1 := by omega
        rcases h01 with rfl | rfl
        · exact ⟨ia, ha32, rfl, HZ1⟩
        · exact ⟨ib, hb32, rfl, HZ2⟩
      generalize Z i = Zi at HZr HZn
      clear HZ0 HZ1 HZ2
      have HSr := Lib.hid (HS4.out.keep hkr zls)
      go_upto_region 5 with fail
      refine wp_text 2 [.eq (.pointer (some ⟨gs, i, none⟩)), .eq (.int .i64 (e : Int))] rfl (by kernel_rfl) ?_ ?_
      · refine sv 1 rfl rfl rfl (fun a u hE hD hk => exec_ixo slI (.tmp 25) (.tmp 27) gs 0 2 2 i i _ rfl (hE 25 (.slice (some ⟨gs, 0, none⟩) 2 2) (by kernel_rfl) (by kernel_rfl)) (hE 27 (.int .i64 (i : Int)) (by kernel_rfl) (by kernel_rfl)) rfl hi (by omega)) ?_
        refine sv 2 rfl rfl rfl (fun a u hE hD hk => exec_loadi 3 Try.underlying3 (.tmp 29) ⟨gs, i, none⟩ _ rfl (hD 0 29 (by kernel_rfl)) (by rw [(HSr.out.kept hk).cell]; exact HE.out)) ?_
        exact fsteps_nil
      intro gv w5 hV k5
      rw [show dstsOf _ 2 = [29, 30] by kernel_rfl]
      simp only [List.foldl_cons, List.foldl_nil, List.setIfInBounds_toArray, List.set_cons_succ, List.set_cons_zero, List.drop_succ_cons, List.drop_zero]
      rw [show gv 30 = .int .i64 (e : Int) from hV 1 30 (by kernel_rfl)]
      clear hV
      refine l_val (o := ⟨some 13, _, _, _, _, _⟩) (.int .i64 (e : Int)) rfl (exec_assign (.tmp 30) (.int .i64 (e : Int)) rfl (by kernel_rfl)) ?_
      simp only [Act.put, List.setIfInBounds_toArray, List.set_cons_succ, List.set_cons_zero]
      refine wpList_nil ?_
      have HZ5 := Lib.hid (HZr.out.kept k5)
      have kr5 := hkr.kept k5
      clear HZr hkr k5 HSr HE
      go_upto_region 6 with fail
      refine wp_region_lit ?_
      refine l_val (o := ⟨some 31, _, _, _, _, _⟩) (.int .i64 (e : Int)) rfl (exec_move (.tmp 13) (.int .i64 (e : Int)) rfl (by kernel_rfl)) ?_
      simp only [Act.put, List.setIfInBounds_toArray, List.set_cons_succ, List.set_cons_zero]
      refine l_val (o := ⟨some 32, _, _, _, _, _⟩) (runs13base.v) rfl (exec_build 25 [(0, .const (.int .i64 1)), (2, .const (.int .i64 1))] runs13base.cells rfl (by kernel_rfl)) ?_
      simp only [Act.put, List.setIfInBounds_toArray, List.set_cons_succ, List.set_cons_zero]
      refine l_val (o := ⟨some 33, _, _, _, _, _⟩) (.pointer (some ⟨gl, e * 37, none⟩)) rfl (exec_ixA (.tmp 9) (.tmp 31) gl e _ rfl (by kernel_rfl) (by kernel_rfl) rfl he32) ?_
      simp only [Act.put, List.setIfInBounds_toArray, List.set_cons_succ, List.set_cons_zero]
      refine l_putT (o := ⟨none, _, _, _, _, _⟩) gl e 26 Zi runs13base (.tmp 33) (.tmp 32) rfl rfl (by kernel_rfl) (by kernel_rfl) HZ5.out he32 ?_
      intro w6 hB6 hk6 hs6
      simp only [Act.put]
      refine wpList_nil ?_
      have HZ6 := Lib.hid hB6
      have kr6 := kr5.trans hk6 (fun _ _ h => h)
      clear hB6 hk6 hs6 HZ5 kr5
      go_upto_region 7 with fail
      refine wp_text 2 [.eq (.int .i64 how), .eq (.int .i64 2)] rfl (by kernel_rfl) ?_ ?_
      · refine sv 1 rfl rfl rfl (fun a u hE hD hk => exec_move (.tmp 3) _ rfl (hE 3 (.int .i64 how) (by kernel_rfl) (by kernel_rfl))) ?_
        refine fsteps_cons 2 rfl (fun a u hE hD hk => f_call (o := ⟨some 35, _, _, _, _, _⟩) 20 #[.int .i64 how, .int .i64 0, .int .i64 4] rfl (wanted_none rfl _) (exec_call 20 _ [.tmp 34, .const (.int .i64 0), .const (.int .i64 4)] _ [.int .i64 how, .int .i64 0, .int .i64 4] Try.func20 (by kernel_rfl) (by kernel_rfl) rfl (show [a.eval (.tmp 34), a.eval (.const (.int .i64 0)), a.eval (.const (.int .i64 4))] = [.int .i64 how, .int .i64 0, .int .i64 4] from (by rw [show a.eval (.tmp 34) = .int .i64 how from (hD 0 34 (by kernel_rfl))] <;> rfl)) u) (HWh.out u)) ?_
        exact fsteps_nil
      intro gv w7 hV k7
      rw [show dstsOf _ 2 = [34, 35] by kernel_rfl]
      simp only [List.foldl_cons, List.foldl_nil, List.setIfInBounds_toArray, List.set_cons_succ, List.set_cons_zero, List.drop_succ_cons, List.drop_zero]
      rw [show gv 35 = .int .i64 2 from hV 1 35 (by kernel_rfl)]
      clear hV
      refine wpList_nil ?_
      have HZ7 := Lib.hid (HZ6.out.kept k7)
      have kr7 := kr6.kept k7
      clear HZ6 kr6 k7
      go_upto_region 13 with fail
      refine wp_text 3 [.eq (.int .i64 (e : Int)), .eq (.pointer (some ⟨gl, e * 37, none⟩)), .eq (.pointer (some ⟨gl, e * 37 + 2, none⟩))] rfl (by kernel_rfl) ?_ ?_
      · refine sv 1 rfl rfl rfl (fun a u hE hD hk => exec_move (.tmp 13) _ rfl (hE 13 (.int .i64 (e : Int)) (by kernel_rfl) (by kernel_rfl))) ?_
        refine sv 2 rfl rfl rfl (fun a u hE hD hk => exec_ixA (.tmp 9) (.tmp 48) (gl) e ((e : Int)) rfl (hE 9 (.pointer (some ⟨gl, 0, none⟩)) (by kernel_rfl) (by kernel_rfl)) (hD 0 48 (by kernel_rfl)) (by first | rfl | omega) (he32)) ?_
        refine sv 3 rfl rfl rfl (fun a u hE hD hk => exec_fldo 25 2 2 (.tmp 49) (gl) (e * 37) (e * 37 + 2) rfl (hD 1 49 (by kernel_rfl)) (by kernel_rfl) rfl) ?_
        exact fsteps_nil
      intro gv w8 hV k8
      rw [show dstsOf _ 3 = [48, 49, 50] by kernel_rfl]
      simp only [List.foldl_cons, List.foldl_nil, List.setIfInBounds_toArray, List.set_cons_succ, List.set_cons_zero, List.drop_succ_cons, List.drop_zero]
      rw [show gv 50 = .pointer (some ⟨gl, e * 37 + 2, none⟩) from hV 2 50 (by kernel_rfl)]
      clear hV
      refine l_putI (o := ⟨none, _, _, _, _, _⟩) gl e 2 26 (Zi.put e runs13base) 16 (mkT 1 0 16 0) (.tmp 50) (.const (.int .i64 16)) _ rfl rfl (by kernel_rfl) rfl rfl (HZ7.out.kept k8) he32 (by omega) (by rw [Trds.at_put _ _ _ _ he32, if_pos rfl]; rfl) ?_
      intro w9 hB9 hk9 hs9
      simp only [Act.put]
      refine wpList_nil ?_
      rw [put_put _ _ _ _ he32] at hB9
      have HZ9 := Lib.hid hB9
      have kr9 : Keep (· = gl) w4 w9 := (kr7.kept k8).trans hk9 (fun _ _ h => h)
      clear hB9 hk9 hs9 k8 kr7 HZ7
      go_wp2
      exact ⟨⟨i + 1, by simp, by omega, by rw [← HZn.out] at HZ9; exact HZ9, kr9⟩, by simp [intOf]; omega⟩
    · obtain rfl : i = 2 := by omega
      have HXB : Hid ((Z 2).bad = some (if (ib : Int) < (ia : Int) then ib else ia)) := by
        show _ = _
        rw [HZ2.out, HZ1.out, HZ0.out]
        exact two_bad HGd.out ha32 hb32 (by decide +kernel)
      have kwr : Kept w wr := kw4.trans' hkr zlw
      generalize Z 2 = Zi at HZr HXB
      obtain ⟨c, hc⟩ : ∃ c : Nat, (if (ib : Int) < (ia : Int) then ib else ia) = c := ⟨_, rfl⟩
      rw [hc] at HXB
      have HC : Hid ((if (ib : Int) < (ia : Int) then (ib : Int) else (ia : Int)) = (c : Int)) := by
        show _ = _
        rw [← hc]
        split <;> rfl
      clear HZ0 HZ1 HZ2 HGd HS4 HL4 kw4 hkr hc
      go_upto_region 19 with fail
      refine wp_text 7 [.eq (Zi.v), .eq (.tuple #[.pointer none, .int .i64 (c : Int)]), .eq (.tuple #[.pointer none, .int .i64 (c : Int)]), .eq (.pointer none), .eq (.int .i64 (c : Int)), .eq (.pointer none), .eq (.int .i64 (c : Int))] rfl (by kernel_rfl) ?_ ?_
      · refine sv 1 rfl rfl rfl (fun a u hE hD hk => exec_ldX Zi (.tmp 9) (gl) _ rfl (hE 9 (.pointer (some ⟨gl, 0, none⟩)) (by kernel_rfl) (by kernel_rfl)) (HZr.out.kept hk)) ?_
        refine fsteps_cons 2 rfl (fun a u hE hD hk => f_call (o := ⟨some 64, _, _, _, _, _⟩) 8 #[Zi.v] rfl (wanted_none rfl _) (exec_call 8 _ [.tmp 63] _ [Zi.v] Try.func8 (by kernel_rfl) (by kernel_rfl) rfl (show [a.eval (.tmp 63)] = [Zi.v] from (by rw [show a.eval (.tmp 63) = Zi.v from (hD 0 63 (by kernel_rfl))] <;> rfl)) u) (new_bad HXB.out)) ?_
        refine sv 3 rfl rfl rfl (fun a u hE hD hk => exec_move (.tmp 64) _ rfl (hD 1 64 (by kernel_rfl))) ?_
        refine sv 4 rfl rfl rfl (fun a u hE hD hk => exec_extract (.tmp 62) [.pointer none, .int .i64 (c : Int)] 0 (.pointer none) rfl (hD 2 62 (by kernel_rfl)) rfl) ?_
        refine sv 5 rfl rfl rfl (fun a u hE hD hk => exec_extract (.tmp 62) [.pointer none, .int .i64 (c : Int)] 1 (.int .i64 (c : Int)) rfl (hD 2 62 (by kernel_rfl)) rfl) ?_
        refine sv 6 rfl rfl rfl (fun a u hE hD hk => exec_assign (.tmp 65) _ rfl (hD 3 65 (by kernel_rfl))) ?_
        refine sv 7 rfl rfl rfl (fun a u hE hD hk => exec_assign (.tmp 66) _ rfl (hD 4 66 (by kernel_rfl))) ?_
        exact fsteps_nil
      intro gv w5 hV k5
      rw [show dstsOf _ 7 = [63, 64, 62, 65, 66, 14, 15] by kernel_rfl]
      simp only [List.foldl_cons, List.foldl_nil, List.setIfInBounds_toArray, List.set_cons_succ, List.set_cons_zero, List.drop_succ_cons, List.drop_zero]
      rw [show gv 14 = .pointer none from hV 5 14 (by kernel_rfl)]
      rw [show gv 15 = .int .i64 (c : Int) from hV 6 15 (by kernel_rfl)]
      clear hV
      refine wpList_nil ?_
      go_upto_region 20 with fail
      refine wp_text 13 [.eq (.pointer none), .eq (.bool true), .eq (.bool true), .eq (.int .i64 (c : Int)), .eq (.int .i64 (ia : Int)), .eq (.int .i64 (ib : Int)), .eq (.int .i64 (c : Int)), .eq (.bool true), .eq (.bool true), .eq (.bool true), .eq (.bool true), .eq (.bool true), .eq (.bool true)] rfl (by kernel_rfl) ?_ ?_
      · refine sv 1 rfl rfl rfl (fun a u hE hD hk => exec_move (.tmp 14) _ rfl (hE 14 (.pointer none) (by kernel_rfl) (by kernel_rfl))) ?_
        refine sv 2 rfl rfl rfl (fun a u hE hD hk => exec_eqPn (.tmp 67) _ _ (by kernel_rfl) rfl (hD 0 67 (by kernel_rfl))) ?_
        refine sv 3 rfl rfl rfl (fun a u hE hD hk => exec_move (.tmp 68) _ rfl (hD 1 68 (by kernel_rfl))) ?_
        refine fsteps_cons 4 rfl (fun a u hE hD hk => f_val (o := ⟨some 70, _, _, _, _, _⟩) (.int .i64 (c : Int)) rfl (wanted_at (b := true) true rfl rfl (hD 2 69 (by kernel_rfl))) (exec_move (.tmp 15) _ rfl (hE 15 (.int .i64 (c : Int)) (by kernel_rfl) (by kernel_rfl))) rfl) ?_
        refine fsteps_cons 5 rfl (fun a u hE hD hk => f_val (o := ⟨some 71, _, _, _, _, _⟩) (.int .i64 (ia : Int)) rfl (wanted_at (b := true) true rfl rfl (hD 2 69 (by kernel_rfl))) (exec_move (.tmp 10) _ rfl (hE 10 (.int .i64 (ia : Int)) (by kernel_rfl) (by kernel_rfl))) rfl) ?_
        refine fsteps_cons 6 rfl (fun a u hE hD hk => f_val (o := ⟨some 72, _, _, _, _, _⟩) (.int .i64 (ib : Int)) rfl (wanted_at (b := true) true rfl rfl (hD 2 69 (by kernel_rfl))) (exec_move (.tmp 11) _ rfl (hE 11 (.int .i64 (ib : Int)) (by kernel_rfl) (by kernel_rfl))) rfl) ?_
        refine fsteps_cons 7 rfl (fun a u hE hD hk => f_val (o := ⟨some 73, _, _, _, _, _⟩) (.int .i64 (c : Int)) rfl (wanted_at (b := true) true rfl rfl (hD 2 69 (by kernel_rfl))) (exec_min (.tmp 71) (.tmp 72) _ (ia : Int) (ib : Int) (c : Int) rfl (hD 4 71 (by kernel_rfl)) (hD 5 72 (by kernel_rfl)) HC.out) rfl) ?_
        refine fsteps_cons 8 rfl (fun a u hE hD hk => f_as (show ((decide (((c : Int) : Int) = ((c : Int) : Int))) : Bool) = true from decide_eq_true rfl) (f_val (o := ⟨some 74, _, _, _, _, _⟩) (.bool (decide (((c : Int) : Int) = ((c : Int) : Int)))) rfl (wanted_at (b := true) true rfl rfl (hD 2 69 (by kernel_rfl))) (exec_eqn (p := (c : Int)) (q := (c : Int)) rfl (hD 3 70 (by kernel_rfl)) (hD 6 73 (by kernel_rfl))) rfl)) ?_
        refine sv 9 rfl rfl rfl (fun a u hE hD hk => exec_pick (.tmp 69) (.tmp 74) (.const (.bool false)) (.bool true) rfl (hD 2 69 (by kernel_rfl)) (hD 7 74 (by kernel_rfl))) ?_
        refine sv 10 rfl rfl rfl (fun a u hE hD hk => exec_move (.tmp 75) _ rfl (hD 8 75 (by kernel_rfl))) ?_
        refine fsteps_cons 11 rfl (fun a u hE hD hk => f_call (o := ⟨some 77, _, _, _, _, _⟩) 3 #[] rfl (wanted_at (b := true) true rfl rfl (hD 9 76 (by kernel_rfl))) (exec_call 3 _ [] _ [] Try.func3 (by kernel_rfl) (by kernel_rfl) rfl rfl u) (treeRuns_is u)) ?_
        refine sv 12 rfl rfl rfl (fun a u hE hD hk => exec_pick (.tmp 76) (.tmp 77) (.const (.bool false)) (.bool true) rfl (hD 9 76 (by kernel_rfl)) (hD 10 77 (by kernel_rfl))) ?_
        refine sv 13 rfl rfl rfl (fun a u hE hD hk => exec_assign (.tmp 78) _ rfl (hD 11 78 (by kernel_rfl))) ?_
        exact fsteps_nil
      intro gv w6 hV k6
      rw [show dstsOf _ 13 = [67, 68, 69, 70, 71, 72, 73, 74, 75, 76, 77, 78, 8] by kernel_rfl]
      simp only [List.foldl_cons, List.foldl_nil, List.setIfInBounds_toArray, List.set_cons_succ, List.set_cons_zero, List.drop_succ_cons, List.drop_zero]
      rw [show gv 8 = .bool true from hV 12 8 (by kernel_rfl)]
      clear hV
      refine wpList_nil ?_
      have kw6 := (kwr.trans k5).trans k6
      go_wp2
      go_ret
      exact ⟨rfl, kw6⟩
set_option maxRecDepth 100000 in
set_option maxHeartbeats 3200000 in
theorem treeBits_3 (v : Value) (X : Trds) (n m how : Int) (w : World) (ia ib : Nat) (ha32 : ia < 32) (hb32 : ib < 32) (HGd : Hid (∀ i, i < 32 → (X.at_ i).bad = false)) (HX : Hid (∀ u, Kept w u → Gives 10 #[v, .int .i64 (-1), zeroT.v] u (.eq X.v)))
    (HWa : Hid (∀ u, Gives 20 #[.int .i64 n, .int .i64 0, .int .i64 31] u (.eq (.int .i64 (ia : Int))))) (HWb : Hid (∀ u, Gives 20 #[.int .i64 m, .int .i64 0, .int .i64 31] u (.eq (.int .i64 (ib : Int))))) (HWh : Hid (∀ u, Gives 20 #[.int .i64 how, .int .i64 0, .int .i64 4] u (.eq (.int .i64 3)))) :
    Calls Try.prog 7 #[v, .int .i64 n, .int .i64 m, .int .i64 how] w fun e w' => e = .returned (.bool true) ∧ Kept w w' := by
  go_enter Try.func7, Try.ntmps7
  go_upto_region 1 with fail
  refine wp_text 3 [.eq (v), .eq (zeroT.v), .eq (X.v)] rfl (by kernel_rfl) ?_ ?_
  · refine sv 1 rfl rfl rfl (fun a u hE hD hk => exec_move (.tmp 0) _ rfl (hE 0 (v) (by kernel_rfl) (by kernel_rfl))) ?_
    refine sv 2 rfl rfl rfl (fun a u hE hD hk => exec_build 25 [] zeroT.cells rfl (by kernel_rfl)) ?_
    refine fsteps_cons 3 rfl (fun a u hE hD hk => f_call (o := ⟨some 18, _, _, _, _, _⟩) 10 #[v, .int .i64 (-1), zeroT.v] rfl (wanted_none rfl _) (exec_call 10 _ [.tmp 16, .const (.int .i64 (-1)), .tmp 17] _ [v, .int .i64 (-1), zeroT.v] Try.func10 (by kernel_rfl) (by kernel_rfl) rfl (show [a.eval (.tmp 16), a.eval (.const (.int .i64 (-1))), a.eval (.tmp 17)] = [v, .int .i64 (-1), zeroT.v] from (by rw [show a.eval (.tmp 16) = v from (hD 0 16 (by kernel_rfl)), show a.eval (.tmp 17) = zeroT.v from (hD 1 17 (by kernel_rfl))] <;> rfl)) u) (HX.out u hk)) ?_
    exact fsteps_nil
  intro gv wa hV ka
  rw [show dstsOf _ 3 = [16, 17, 18] by kernel_rfl]
  simp only [List.foldl_cons, List.foldl_nil, List.setIfInBounds_toArray, List.set_cons_succ, List.set_cons_zero, List.drop_succ_cons, List.drop_zero]
  rw [show gv 18 = X.v from hV 2 18 (by kernel_rfl)]
  clear hV
  refine l_new (o := ⟨some 9, _, _, _, _, _⟩) (.pointer (some ⟨wa.heap.size, 0, none⟩)) (wa.alloc (.cells zeroX.cells.toArray 26)) rfl (exec_alc 26 zeroX.cells rfl zX) ?_
  have hNa := Blk.new wa 26 zeroX.cells
  have kb : Kept wa (wa.alloc (.cells zeroX.cells.toArray 26)) := (Keep.refl _ wa).alloc _
  generalize wa.alloc (.cells zeroX.cells.toArray 26) = wb at hNa kb ⊢
  simp only [Act.put, List.setIfInBounds_toArray, List.set_cons_succ, List.set_cons_zero]
  refine l_setS (o := ⟨none, _, _, _, _, _⟩) 26 wa.heap.size 26 zeroX.cells X.cells (.tmp 9) (.tmp 18) rfl rfl (by kernel_rfl) (by kernel_rfl) hNa (by rw [Trds.len]; exact szX) (by rw [Trds.len, Trds.len]) (Trds.one _) ?_
  intro w0 hC hkc hsc
  simp only [Act.put]
  refine wpList_nil ?_
  obtain ⟨gl, hgl⟩ : ∃ a, wa.heap.size = a := ⟨_, rfl⟩
  rw [hgl] at hNa hC hkc ⊢
  have HLw0 := Lib.hid hC
  have zka := ka.size
  have kw0 : Kept w w0 := (ka.trans kb).trans' hkc (by omega)
  have zl := hC.lt
  clear hNa hC hkc hsc kb ka
  clear HX
  have zlw : ¬ gl < w.heap.size := by omega
  go_upto_region 2 with fail
  refine wp_text 4 [.eq (.int .i64 n), .eq (.int .i64 (ia : Int)), .eq (.int .i64 m), .eq (.int .i64 (ib : Int))] rfl (by kernel_rfl) ?_ ?_
  · refine sv 1 rfl rfl rfl (fun a u hE hD hk => exec_move (.tmp 1) _ rfl (hE 1 (.int .i64 n) (by kernel_rfl) (by kernel_rfl))) ?_
    refine fsteps_cons 2 rfl (fun a u hE hD hk => f_call (o := ⟨some 20, _, _, _, _, _⟩) 20 #[.int .i64 n, .int .i64 0, .int .i64 31] rfl (wanted_none rfl _) (exec_call 20 _ [.tmp 19, .const (.int .i64 0), .const (.int .i64 31)] _ [.int .i64 n, .int .i64 0, .int .i64 31] Try.func20 (by kernel_rfl) (by kernel_rfl) rfl (show [a.eval (.tmp 19), a.eval (.const (.int .i64 0)), a.eval (.const (.int .i64 31))] = [.int .i64 n, .int .i64 0, .int .i64 31] from (by rw [show a.eval (.tmp 19) = .int .i64 n from (hD 0 19 (by kernel_rfl))] <;> rfl)) u) (HWa.out u)) ?_
    refine sv 3 rfl rfl rfl (fun a u hE hD hk => exec_move (.tmp 2) _ rfl (hE 2 (.int .i64 m) (by kernel_rfl) (by kernel_rfl))) ?_
    refine fsteps_cons 4 rfl (fun a u hE hD hk => f_call (o := ⟨some 22, _, _, _, _, _⟩) 20 #[.int .i64 m, .int .i64 0, .int .i64 31] rfl (wanted_none rfl _) (exec_call 20 _ [.tmp 21, .const (.int .i64 0), .const (.int .i64 31)] _ [.int .i64 m, .int .i64 0, .int .i64 31] Try.func20 (by kernel_rfl) (by kernel_rfl) rfl (show [a.eval (.tmp 21), a.eval (.const (.int .i64 0)), a.eval (.const (.int .i64 31))] = [.int .i64 m, .int .i64 0, .int .i64 31] from (by rw [show a.eval (.tmp 21) = .int .i64 m from (hD 2 21 (by kernel_rfl))] <;> rfl)) u) (HWb.out u)) ?_
    exact fsteps_nil
  intro gv w1 hV k1
  rw [show dstsOf _ 4 = [19, 20, 21, 22] by kernel_rfl]
  simp only [List.foldl_cons, List.foldl_nil, List.setIfInBounds_toArray, List.set_cons_succ, List.set_cons_zero, List.drop_succ_cons, List.drop_zero]
  rw [show gv 20 = .int .i64 (ia : Int) from hV 1 20 (by kernel_rfl)]
  rw [show gv 22 = .int .i64 (ib : Int) from hV 3 22 (by kernel_rfl)]
  clear hV
  refine l_val (o := ⟨some 10, _, _, _, _, _⟩) (.int .i64 (ia : Int)) rfl (exec_assign (.tmp 20) (.int .i64 (ia : Int)) rfl (by kernel_rfl)) ?_
  simp only [Act.put, List.setIfInBounds_toArray, List.set_cons_succ, List.set_cons_zero]
  refine l_val (o := ⟨some 11, _, _, _, _, _⟩) (.int .i64 (ib : Int)) rfl (exec_assign (.tmp 22) (.int .i64 (ib : Int)) rfl (by kernel_rfl)) ?_
  simp only [Act.put, List.setIfInBounds_toArray, List.set_cons_succ, List.set_cons_zero]
  refine wpList_nil ?_
  have HL1 := Lib.hid (HLw0.out.kept k1)
  have kw1 := kw0.trans k1
  clear HLw0 kw0 k1 HWa HWb zka hgl
  go_upto_region 3 with fail
  refine wp_region_lit ?_
  refine l_val (o := ⟨some 23, _, _, _, _, _⟩) (.int .i64 (ia : Int)) rfl (exec_move (.tmp 10) (.int .i64 (ia : Int)) rfl (by kernel_rfl)) ?_
  simp only [Act.put, List.setIfInBounds_toArray, List.set_cons_succ, List.set_cons_zero]
  refine l_val (o := ⟨some 24, _, _, _, _, _⟩) (.int .i64 (ib : Int)) rfl (exec_move (.tmp 11) (.int .i64 (ib : Int)) rfl (by kernel_rfl)) ?_
  simp only [Act.put, List.setIfInBounds_toArray, List.set_cons_succ, List.set_cons_zero]
  refine l_new (o := ⟨some 25, _, _, _, _, _⟩) (.slice (some ⟨w1.heap.size, 0, none⟩) 2 2) (w1.alloc (.cells (i64s [(ia : Int), (ib : Int)]).toArray 3)) rfl (exec_ints 2 [(0, .tmp 23), (1, .tmp 24)] [(ia : Int), (ib : Int)] rfl rfl (by omega) (by omega) (by kernel_rfl)) ?_
  have hS2 := Blk.new w1 3 (i64s [(ia : Int), (ib : Int)])
  have k2 : Kept w1 (w1.alloc (.cells (i64s [(ia : Int), (ib : Int)]).toArray 3)) := (Keep.refl _ w1).alloc _
  generalize w1.alloc (.cells (i64s [(ia : Int), (ib : Int)]).toArray 3) = w4 at hS2 k2 ⊢
  simp only [Act.put, List.setIfInBounds_toArray, List.set_cons_succ, List.set_cons_zero]
  refine l_val (o := ⟨some 26, _, _, _, _, _⟩) (.int .i64 2) rfl (exec_len (.tmp 25) _ _ slI.und (some ⟨w1.heap.size, 0, none⟩) 2 2 rfl (by kernel_rfl)) ?_
  simp only [Act.put, List.setIfInBounds_toArray, List.set_cons_succ, List.set_cons_zero]
  refine l_val (o := ⟨some 27, _, _, _, _, _⟩) (.int .i64 0) rfl (exec_move (.const (.int .i64 0)) (.int .i64 0) rfl (by kernel_rfl)) ?_
  simp only [Act.put, List.setIfInBounds_toArray, List.set_cons_succ, List.set_cons_zero]
  refine wpList_nil ?_
  obtain ⟨gs, hgs⟩ : ∃ g, w1.heap.size = g := ⟨_, rfl⟩
  rw [hgs] at hS2 ⊢
  have zls : gs ≠ gl := by have := HL1.out.lt; omega
  have HS4 := Lib.hid hS2
  have HL4 := Lib.hid (HL1.out.kept k2)
  have kw4 := kw1.trans k2
  clear hS2 HL1 kw1 k2 hgs
  obtain ⟨Z, HZ0, HZ1, HZ2⟩ : ∃ Z : Nat → Trds, Hid (Z 0 = X) ∧ Hid (Z 1 = (Z 0).put ia (mkT 1 0 1 256)) ∧ Hid (Z 2 = (Z 1).put ib (mkT 1 0 1 256)) := ⟨fun i => match i with | 0 => X | 1 => X.put ia (mkT 1 0 1 256) | _ => (X.put ia (mkT 1 0 1 256)).put ib (mkT 1 0 1 256), rfl, rfl, rfl⟩
  go_wp2_with fail
  go_loopw [27] (fun t wr => ∃ i : Nat, t = .int .i64 (i : Int) ∧ i ≤ 2 ∧ Hid (Blk wr gl 26 (Z i).cells) ∧ Keep (· = gl) w4 wr) (fun t _ => 2 - (intOf t).toNat)
  case atStart => exact ⟨0, rfl, by omega, by rw [HZ0.out]; exact HL4, Keep.refl _ _⟩
  case round =>
    obtain ⟨i, rfl, hi', HZr, hkr⟩ := hrel
    by_cases hi : i < 2
    · obtain ⟨e, he32, HE, HZn⟩ : ∃ e : Nat, e < 32 ∧ Hid ((i64s [(ia : Int), (ib : Int)])[i]? = some (.int .i64 (e : Int))) ∧ Hid (Z (i + 1) = (Z i).put e (mkT 1 0 1 256)) := by
        have h01 : i = 0 ∨ i = 1 := by omega
        rcases h01 with rfl | rfl
        · exact ⟨ia, ha32, rfl, HZ1⟩
        · exact ⟨ib, hb32, rfl, HZ2⟩
      generalize Z i = Zi at HZr HZn
      clear HZ0 HZ1 HZ2
      have HSr := Lib.hid (HS4.out.keep hkr zls)
      go_upto_region 5 with fail
      refine wp_text 2 [.eq (.pointer (some ⟨gs, i, none⟩)), .eq (.int .i64 (e : Int))] rfl (by kernel_rfl) ?_ ?_
      · refine sv 1 rfl rfl rfl (fun a u hE hD hk => exec_ixo slI (.tmp 25) (.tmp 27) gs 0 2 2 i i _ rfl (hE 25 (.slice (some ⟨gs, 0, none⟩) 2 2) (by kernel_rfl) (by kernel_rfl)) (hE 27 (.int .i64 (i : Int)) (by kernel_rfl) (by kernel_rfl)) rfl hi (by omega)) ?_
        refine sv 2 rfl rfl rfl (fun a u hE hD hk => exec_loadi 3 Try.underlying3 (.tmp 29) ⟨gs, i, none⟩ _ rfl (hD 0 29 (by kernel_rfl)) (by rw [(HSr.out.kept hk).cell]; exact HE.out)) ?_
        exact fsteps_nil
      intro gv w5 hV k5
      rw [show dstsOf _ 2 = [29, 30] by kernel_rfl]
      simp only [List.foldl_cons, List.foldl_nil, List.setIfInBounds_toArray, List.set_cons_succ, List.set_cons_zero, List.drop_succ_cons, List.drop_zero]
      rw [show gv 30 = .int .i64 (e : Int) from hV 1 30 (by kernel_rfl)]
      clear hV
      refine l_val (o := ⟨some 13, _, _, _, _, _⟩) (.int .i64 (e : Int)) rfl (exec_assign (.tmp 30) (.int .i64 (e : Int)) rfl (by kernel_rfl)) ?_
      simp only [Act.put, List.setIfInBounds_toArray, List.set_cons_succ, List.set_cons_zero]
      refine wpList_nil ?_
      have HZ5 := Lib.hid (HZr.out.kept k5)
      have kr5 := hkr.kept k5
      clear HZr hkr k5 HSr HE
      go_upto_region 6 with fail
      refine wp_region_lit ?_
      refine l_val (o := ⟨some 31, _, _, _, _, _⟩) (.int .i64 (e : Int)) rfl (exec_move (.tmp 13) (.int .i64 (e : Int)) rfl (by kernel_rfl)) ?_
      simp only [Act.put, List.setIfInBounds_toArray, List.set_cons_succ, List.set_cons_zero]
      refine l_val (o := ⟨some 32, _, _, _, _, _⟩) (runs13base.v) rfl (exec_build 25 [(0, .const (.int .i64 1)), (2, .const (.int .i64 1))] runs13base.cells rfl (by kernel_rfl)) ?_
      simp only [Act.put, List.setIfInBounds_toArray, List.set_cons_succ, List.set_cons_zero]
      refine l_val (o := ⟨some 33, _, _, _, _, _⟩) (.pointer (some ⟨gl, e * 37, none⟩)) rfl (exec_ixA (.tmp 9) (.tmp 31) gl e _ rfl (by kernel_rfl) (by kernel_rfl) rfl he32) ?_
      simp only [Act.put, List.setIfInBounds_toArray, List.set_cons_succ, List.set_cons_zero]
      refine l_putT (o := ⟨none, _, _, _, _, _⟩) gl e 26 Zi runs13base (.tmp 33) (.tmp 32) rfl rfl (by kernel_rfl) (by kernel_rfl) HZ5.out he32 ?_
      intro w6 hB6 hk6 hs6
      simp only [Act.put]
      refine wpList_nil ?_
      have HZ6 := Lib.hid hB6
      have kr6 := kr5.trans hk6 (fun _ _ h => h)
      clear hB6 hk6 hs6 HZ5 kr5
      go_upto_region 7 with fail
      refine wp_text 2 [.eq (.int .i64 how), .eq (.int .i64 3)] rfl (by kernel_rfl) ?_ ?_
      · refine sv 1 rfl rfl rfl (fun a u hE hD hk => exec_move (.tmp 3) _ rfl (hE 3 (.int .i64 how) (by kernel_rfl) (by kernel_rfl))) ?_
        refine fsteps_cons 2 rfl (fun a u hE hD hk => f_call (o := ⟨some 35, _, _, _, _, _⟩) 20 #[.int .i64 how, .int .i64 0, .int .i64 4] rfl (wanted_none rfl _) (exec_call 20 _ [.tmp 34, .const (.int .i64 0), .const (.int .i64 4)] _ [.int .i64 how, .int .i64 0, .int .i64 4] Try.func20 (by kernel_rfl) (by kernel_rfl) rfl (show [a.eval (.tmp 34), a.eval (.const (.int .i64 0)), a.eval (.const (.int .i64 4))] = [.int .i64 how, .int .i64 0, .int .i64 4] from (by rw [show a.eval (.tmp 34) = .int .i64 how from (hD 0 34 (by kernel_rfl))] <;> rfl)) u) (HWh.out u)) ?_
        exact fsteps_nil
      intro gv w7 hV k7
      rw [show dstsOf _ 2 = [34, 35] by kernel_rfl]
      simp only [List.foldl_cons, List.foldl_nil, List.setIfInBounds_toArray, List.set_cons_succ, List.set_cons_zero, List.drop_succ_cons, List.drop_zero]
      rw [show gv 35 = .int .i64 3 from hV 1 35 (by kernel_rfl)]
      clear hV
      refine wpList_nil ?_
      have HZ7 := Lib.hid (HZ6.out.kept k7)
      have kr7 := kr6.kept k7
      clear HZ6 kr6 k7
      go_upto_region 15 with fail
      refine wp_text 3 [.eq (.int .i64 (e : Int)), .eq (.pointer (some ⟨gl, e * 37, none⟩)), .eq (.pointer (some ⟨gl, e * 37 + 3, none⟩))] rfl (by kernel_rfl) ?_ ?_
      · refine sv 1 rfl rfl rfl (fun a u hE hD hk => exec_move (.tmp 13) _ rfl (hE 13 (.int .i64 (e : Int)) (by kernel_rfl) (by kernel_rfl))) ?_
        refine sv 2 rfl rfl rfl (fun a u hE hD hk => exec_ixA (.tmp 9) (.tmp 53) (gl) e ((e : Int)) rfl (hE 9 (.pointer (some ⟨gl, 0, none⟩)) (by kernel_rfl) (by kernel_rfl)) (hD 0 53 (by kernel_rfl)) (by first | rfl | omega) (he32)) ?_
        refine sv 3 rfl rfl rfl (fun a u hE hD hk => exec_fldo 25 3 3 (.tmp 54) (gl) (e * 37) (e * 37 + 3) rfl (hD 1 54 (by kernel_rfl)) (by kernel_rfl) rfl) ?_
        exact fsteps_nil
      intro gv w8 hV k8
      rw [show dstsOf _ 3 = [53, 54, 55] by kernel_rfl]
      simp only [List.foldl_cons, List.foldl_nil, List.setIfInBounds_toArray, List.set_cons_succ, List.set_cons_zero, List.drop_succ_cons, List.drop_zero]
      rw [show gv 55 = .pointer (some ⟨gl, e * 37 + 3, none⟩) from hV 2 55 (by kernel_rfl)]
      clear hV
      refine l_putI (o := ⟨none, _, _, _, _, _⟩) gl e 3 26 (Zi.put e runs13base) 256 (mkT 1 0 1 256) (.tmp 55) (.const (.int .i64 256)) _ rfl rfl (by kernel_rfl) rfl rfl (HZ7.out.kept k8) he32 (by omega) (by rw [Trds.at_put _ _ _ _ he32, if_pos rfl]; rfl) ?_
      intro w9 hB9 hk9 hs9
      simp only [Act.put]
      refine wpList_nil ?_
      rw [put_put _ _ _ _ he32] at hB9
      have HZ9 := Lib.hid hB9
      have kr9 : Keep (· = gl) w4 w9 := (kr7.kept k8).trans hk9 (fun _ _ h => h)
      clear hB9 hk9 hs9 k8 kr7 HZ7
      go_wp2
      exact ⟨⟨i + 1, by simp, by omega, by rw [← HZn.out] at HZ9; exact HZ9, kr9⟩, by simp [intOf]; omega⟩
    · obtain rfl : i = 2 := by omega
      have HXB : Hid ((Z 2).bad = some (if (ib : Int) < (ia : Int) then ib else ia)) := by
        show _ = _
        rw [HZ2.out, HZ1.out, HZ0.out]
        exact two_bad HGd.out ha32 hb32 (by decide +kernel)
      have kwr : Kept w wr := kw4.trans' hkr zlw
      generalize Z 2 = Zi at HZr HXB
      obtain ⟨c, hc⟩ : ∃ c : Nat, (if (ib : Int) < (ia : Int) then ib else ia) = c := ⟨_, rfl⟩
      rw [hc] at HXB
      have HC : Hid ((if (ib : Int) < (ia : Int) then (ib : Int) else (ia : Int)) = (c : Int)) := by
        show _ = _
        rw [← hc]
        split <;> rfl
      clear HZ0 HZ1 HZ2 HGd HS4 HL4 kw4 hkr hc
      go_upto_region 19 with fail
      refine wp_text 7 [.eq (Zi.v), .eq (.tuple #[.pointer none, .int .i64 (c : Int)]), .eq (.tuple #[.pointer none, .int .i64 (c : Int)]), .eq (.pointer none), .eq (.int .i64 (c : Int)), .eq (.pointer none), .eq (.int .i64 (c : Int))] rfl (by kernel_rfl) ?_ ?_
      · refine sv 1 rfl rfl rfl (fun a u hE hD hk => exec_ldX Zi (.tmp 9) (gl) _ rfl (hE 9 (.pointer (some ⟨gl, 0, none⟩)) (by kernel_rfl) (by kernel_rfl)) (HZr.out.kept hk)) ?_
        refine fsteps_cons 2 rfl (fun a u hE hD hk => f_call (o := ⟨some 64, _, _, _, _, _⟩) 8 #[Zi.v] rfl (wanted_none rfl _) (exec_call 8 _ [.tmp 63] _ [Zi.v] Try.func8 (by kernel_rfl) (by kernel_rfl) rfl (show [a.eval (.tmp 63)] = [Zi.v] from (by rw [show a.eval (.tmp 63) = Zi.v from (hD 0 63 (by kernel_rfl))] <;> rfl)) u) (new_bad HXB.out)) ?_
        refine sv 3 rfl rfl rfl (fun a u hE hD hk => exec_move (.tmp 64) _ rfl (hD 1 64 (by kernel_rfl))) ?_
        refine sv 4 rfl rfl rfl (fun a u hE hD hk => exec_extract (.tmp 62) [.pointer none, .int .i64 (c : Int)] 0 (.pointer none) rfl (hD 2 62 (by kernel_rfl)) rfl) ?_
        refine sv 5 rfl rfl rfl (fun a u hE hD hk => exec_extract (.tmp 62) [.pointer none, .int .i64 (c : Int)] 1 (.int .i64 (c : Int)) rfl (hD 2 62 (by kernel_rfl)) rfl) ?_
        refine sv 6 rfl rfl rfl (fun a u hE hD hk => exec_assign (.tmp 65) _ rfl (hD 3 65 (by kernel_rfl))) ?_
        refine sv 7 rfl rfl rfl (fun a u hE hD hk => exec_assign (.tmp 66) _ rfl (hD 4 66 (by kernel_rfl))) ?_
        exact fsteps_nil
      intro gv w5 hV k5
      rw [show dstsOf _ 7 = [63, 64, 62, 65, 66, 14, 15] by kernel_rfl]
      simp only [List.foldl_cons, List.foldl_nil, List.setIfInBounds_toArray, List.set_cons_succ, List.set_cons_zero, List.drop_succ_cons, List.drop_zero]
      rw [show gv 14 = .pointer none from hV 5 14 (by kernel_rfl)]
      rw [show gv 15 = .int .i64 (c : Int) from hV 6 15 (by kernel_rfl)]
      clear hV
      refine wpList_nil ?_
      go_upto_region 20 with fail
      refine wp_text 13 [.eq (.pointer none), .eq (.bool true), .eq (.bool true), .eq (.int .i64 (c : Int)), .eq (.int .i64 (ia : Int)), .eq (.int .i64 (ib : Int)), .eq (.int .i64 (c : Int)), .eq (.bool true), .eq (.bool true), .eq (.bool true), .eq (.bool true), .eq (.bool true), .eq (.bool true)] rfl (by kernel_rfl) ?_ ?_
      · refine sv 1 rfl rfl rfl (fun a u hE hD hk => exec_move (.tmp 14) _ rfl (hE 14 (.pointer none) (by kernel_rfl) (by kernel_rfl))) ?_
        refine sv 2 rfl rfl rfl (fun a u hE hD hk => exec_eqPn (.tmp 67) _ _ (by kernel_rfl) rfl (hD 0 67 (by kernel_rfl))) ?_
        refine sv 3 rfl rfl rfl (fun a u hE hD hk => exec_move (.tmp 68) _ rfl (hD 1 68 (by kernel_rfl))) ?_
        refine fsteps_cons 4 rfl (fun a u hE hD hk => f_val (o := ⟨some 70, _, _, _, _, _⟩) (.int .i64 (c : Int)) rfl (wanted_at (b := true) true rfl rfl (hD 2 69 (by kernel_rfl))) (exec_move (.tmp 15) _ rfl (hE 15 (.int .i64 (c : Int)) (by kernel_rfl) (by kernel_rfl))) rfl) ?_
        refine fsteps_cons 5 rfl (fun a u hE hD hk => f_val (o := ⟨some 71, _, _, _, _, _⟩) (.int .i64 (ia : Int)) rfl (wanted_at (b := true) true rfl rfl (hD 2 69 (by kernel_rfl))) (exec_move (.tmp 10) _ rfl (hE 10 (.int .i64 (ia : Int)) (by kernel_rfl) (by kernel_rfl))) rfl) ?_
        refine fsteps_cons 6 rfl (fun a u hE hD hk => f_val (o := ⟨some 72, _, _, _, _, _⟩) (.int .i64 (ib : Int)) rfl (wanted_at (b := true) true rfl rfl (hD 2 69 (by kernel_rfl))) (exec_move (.tmp 11) _ rfl (hE 11 (.int .i64 (ib : Int)) (by kernel_rfl) (by kernel_rfl))) rfl) ?_
        refine fsteps_cons 7 rfl (fun a u hE hD hk => f_val (o := ⟨some 73, _, _, _, _, _⟩) (.int .i64 (c : Int)) rfl (wanted_at (b := true) true rfl rfl (hD 2 69 (by kernel_rfl))) (exec_min (.tmp 71) (.tmp 72) _ (ia : Int) (ib : Int) (c : Int) rfl (hD 4 71 (by kernel_rfl)) (hD 5 72 (by kernel_rfl)) HC.out) rfl) ?_
        refine fsteps_cons 8 rfl (fun a u hE hD hk => f_as (show ((decide (((c : Int) : Int) = ((c : Int) : Int))) : Bool) = true from decide_eq_true rfl) (f_val (o := ⟨some 74, _, _, _, _, _⟩) (.bool (decide (((c : Int) : Int) = ((c : Int) : Int)))) rfl (wanted_at (b := true) true rfl rfl (hD 2 69 (by kernel_rfl))) (exec_eqn (p := (c : Int)) (q := (c : Int)) rfl (hD 3 70 (by kernel_rfl)) (hD 6 73 (by kernel_rfl))) rfl)) ?_
        refine sv 9 rfl rfl rfl (fun a u hE hD hk => exec_pick (.tmp 69) (.tmp 74) (.const (.bool false)) (.bool true) rfl (hD 2 69 (by kernel_rfl)) (hD 7 74 (by kernel_rfl))) ?_
        refine sv 10 rfl rfl rfl (fun a u hE hD hk => exec_move (.tmp 75) _ rfl (hD 8 75 (by kernel_rfl))) ?_
        refine fsteps_cons 11 rfl (fun a u hE hD hk => f_call (o := ⟨some 77, _, _, _, _, _⟩) 3 #[] rfl (wanted_at (b := true) true rfl rfl (hD 9 76 (by kernel_rfl))) (exec_call 3 _ [] _ [] Try.func3 (by kernel_rfl) (by kernel_rfl) rfl rfl u) (treeRuns_is u)) ?_
        refine sv 12 rfl rfl rfl (fun a u hE hD hk => exec_pick (.tmp 76) (.tmp 77) (.const (.bool false)) (.bool true) rfl (hD 9 76 (by kernel_rfl)) (hD 10 77 (by kernel_rfl))) ?_
        refine sv 13 rfl rfl rfl (fun a u hE hD hk => exec_assign (.tmp 78) _ rfl (hD 11 78 (by kernel_rfl))) ?_
        exact fsteps_nil
      intro gv w6 hV k6
      rw [show dstsOf _ 13 = [67, 68, 69, 70, 71, 72, 73, 74, 75, 76, 77, 78, 8] by kernel_rfl]
      simp only [List.foldl_cons, List.foldl_nil, List.setIfInBounds_toArray, List.set_cons_succ, List.set_cons_zero, List.drop_succ_cons, List.drop_zero]
      rw [show gv 8 = .bool true from hV 12 8 (by kernel_rfl)]
      clear hV
      refine wpList_nil ?_
      have kw6 := (kwr.trans k5).trans k6
      go_wp2
      go_ret
      exact ⟨rfl, kw6⟩
set_option maxRecDepth 100000 in
set_option maxHeartbeats 3200000 in
theorem treeBits_4 (v : Value) (X : Trds) (n m how : Int) (w : World) (ia ib : Nat) (ha32 : ia < 32) (hb32 : ib < 32) (HGd : Hid (∀ i, i < 32 → (X.at_ i).bad = false)) (HX : Hid (∀ u, Kept w u → Gives 10 #[v, .int .i64 (-1), zeroT.v] u (.eq X.v)))
    (HWa : Hid (∀ u, Gives 20 #[.int .i64 n, .int .i64 0, .int .i64 31] u (.eq (.int .i64 (ia : Int))))) (HWb : Hid (∀ u, Gives 20 #[.int .i64 m, .int .i64 0, .int .i64 31] u (.eq (.int .i64 (ib : Int))))) (HWh : Hid (∀ u, Gives 20 #[.int .i64 how, .int .i64 0, .int .i64 4] u (.eq (.int .i64 4)))) :
    Calls Try.prog 7 #[v, .int .i64 n, .int .i64 m, .int .i64 how] w fun e w' => e = .returned (.bool true) ∧ Kept w w' := by
  go_enter Try.func7, Try.ntmps7
  go_upto_region 1 with fail
  refine wp_text 3 [.eq (v), .eq (zeroT.v), .eq (X.v)] rfl (by kernel_rfl) ?_ ?_
  · refine sv 1 rfl rfl rfl (fun a u hE hD hk => exec_move (.tmp 0) _ rfl (hE 0 (v) (by kernel_rfl) (by kernel_rfl))) ?_
    refine sv 2 rfl rfl rfl (fun a u hE hD hk => exec_build 25 [] zeroT.cells rfl (by kernel_rfl)) ?_
    refine fsteps_cons 3 rfl (fun a u hE hD hk => f_call (o := ⟨some 18, _, _, _, _, _⟩) 10 #[v, .int .i64 (-1), zeroT.v] rfl (wanted_none rfl _) (exec_call 10 _ [.tmp 16, .const (.int .i64 (-1)), .tmp 17] _ [v, .int .i64 (-1), zeroT.v] Try.func10 (by kernel_rfl) (by kernel_rfl) rfl (show [a.eval (.tmp 16), a.eval (.const (.int .i64 (-1))), a.eval (.tmp 17)] = [v, .int .i64 (-1), zeroT.v] from (by rw [show a.eval (.tmp 16) = v from (hD 0 16 (by kernel_rfl)), show a.eval (.tmp 17) = zeroT.v from (hD 1 17 (by kernel_rfl))] <;> rfl)) u) (HX.out u hk)) ?_
    exact fsteps_nil
  intro gv wa hV ka
  rw [show dstsOf _ 3 = [16, 17, 18] by kernel_rfl]
  simp only [List.foldl_cons, List.foldl_nil, List.setIfInBounds_toArray, List.set_cons_succ, List.set_cons_zero, List.drop_succ_cons, List.drop_zero]
  rw [show gv 18 = X.v from hV 2 18 (by kernel_rfl)]
  clear hV
  refine l_new (o := ⟨some 9, _, _, _, _, _⟩) (.pointer (some ⟨wa.heap.size, 0, none⟩)) (wa.alloc (.cells zeroX.cells.toArray 26)) rfl (exec_alc 26 zeroX.cells rfl zX) ?_
  have hNa := Blk.new wa 26 zeroX.cells
  have kb : Kept wa (wa.alloc (.cells zeroX.cells.toArray 26)) := (Keep.refl _ wa).alloc _
  generalize wa.alloc (.cells zeroX.cells.toArray 26) = wb at hNa kb ⊢
  simp only [Act.put, List.setIfInBounds_toArray, List.set_cons_succ, List.set_cons_zero]
  refine l_setS (o := ⟨none, _, _, _, _, _⟩) 26 wa.heap.size 26 zeroX.cells X.cells (.tmp 9) (.tmp 18) rfl rfl (by kernel_rfl) (by kernel_rfl) hNa (by rw [Trds.len]; exact szX) (by rw [Trds.len, Trds.len]) (Trds.one _) ?_
  intro w0 hC hkc hsc
  simp only [Act.put]
  refine wpList_nil ?_
  obtain ⟨gl, hgl⟩ : ∃ a, wa.heap.size = a := ⟨_, rfl⟩
  rw [hgl] at hNa hC hkc ⊢
  have HLw0 := Lib.hid hC
  have zka := ka.size
  have kw0 : Kept w w0 := (ka.trans kb).trans' hkc (by omega)
  have zl := hC.lt
  clear hNa hC hkc hsc kb ka
  clear HX
  have zlw : ¬ gl < w.heap.size := by omega
  go_upto_region 2 with fail
  refine wp_text 4 [.eq (.int .i64 n), .eq (.int .i64 (ia : Int)), .eq (.int .i64 m), .eq (.int .i64 (ib : Int))] rfl (by kernel_rfl) ?_ ?_
  · refine sv 1 rfl rfl rfl (fun a u hE hD hk => exec_move (.tmp 1) _ rfl (hE 1 (.int .i64 n) (by kernel_rfl) (by kernel_rfl))) ?_
    refine fsteps_cons 2 rfl (fun a u hE hD hk => f_call (o := ⟨some 20, _, _, _, _, _⟩) 20 #[.int .i64 n, .int .i64 0, .int .i64 31] rfl (wanted_none rfl _) (exec_call 20 _ [.tmp 19, .const (.int .i64 0), .const (.int .i64 31)] _ [.int .i64 n, .int .i64 0, .int .i64 31] Try.func20 (by kernel_rfl) (by kernel_rfl) rfl (show [a.eval (.tmp 19), a.eval (.const (.int .i64 0)), a.eval (.const (.int .i64 31))] = [.int .i64 n, .int .i64 0, .int .i64 31] from (by rw [show a.eval (.tmp 19) = .int .i64 n from (hD 0 19 (by kernel_rfl))] <;> rfl)) u) (HWa.out u)) ?_
    refine sv 3 rfl rfl rfl (fun a u hE hD hk => exec_move (.tmp 2) _ rfl (hE 2 (.int .i64 m) (by kernel_rfl) (by kernel_rfl))) ?_
    refine fsteps_cons 4 rfl (fun a u hE hD hk => f_call (o := ⟨some 22, _, _, _, _, _⟩) 20 #[.int .i64 m, .int .i64 0, .int .i64 31] rfl (wanted_none rfl _) (exec_call 20 _ [.tmp 21, .const (.int .i64 0), .const (.int .i64 31)] _ [.int .i64 m, .int .i64 0, .int .i64 31] Try.func20 (by kernel_rfl) (by kernel_rfl) rfl (show [a.eval (.tmp 21), a.eval (.const (.int .i64 0)), a.eval (.const (.int .i64 31))] = [.int .i64 m, .int .i64 0, .int .i64 31] from (by rw [show a.eval (.tmp 21) = .int .i64 m from (hD 2 21 (by kernel_rfl))] <;> rfl)) u) (HWb.out u)) ?_
    exact fsteps_nil
  intro gv w1 hV k1
  rw [show dstsOf _ 4 = [19, 20, 21, 22] by kernel_rfl]
  simp only [List.foldl_cons, List.foldl_nil, List.setIfInBounds_toArray, List.set_cons_succ, List.set_cons_zero, List.drop_succ_cons, List.drop_zero]
  rw [show gv 20 = .int .i64 (ia : Int) from hV 1 20 (by kernel_rfl)]
  rw [show gv 22 = .int .i64 (ib : Int) from hV 3 22 (by kernel_rfl)]
  clear hV
  refine l_val (o := ⟨some 10, _, _, _, _, _⟩) (.int .i64 (ia : Int)) rfl (exec_assign (.tmp 20) (.int .i64 (ia : Int)) rfl (by kernel_rfl)) ?_
  simp only [Act.put, List.setIfInBounds_toArray, List.set_cons_succ, List.set_cons_zero]
  refine l_val (o := ⟨some 11, _, _, _, _, _⟩) (.int .i64 (ib : Int)) rfl (exec_assign (.tmp 22) (.int .i64 (ib : Int)) rfl (by kernel_rfl)) ?_
  simp only [Act.put, List.setIfInBounds_toArray, List.set_cons_succ, List.set_cons_zero]
  refine wpList_nil ?_
  have HL1 := Lib.hid (HLw0.out.kept k1)
  have kw1 := kw0.trans k1
  clear HLw0 kw0 k1 HWa HWb zka hgl
  go_upto_region 3 with fail
  refine wp_region_lit ?_
  refine l_val (o := ⟨some 23, _, _, _, _, _⟩) (.int .i64 (ia : Int)) rfl (exec_move (.tmp 10) (.int .i64 (ia : Int)) rfl (by kernel_rfl)) ?_
  simp only [Act.put, List.setIfInBounds_toArray, List.set_cons_succ, List.set_cons_zero]
  refine l_val (o := ⟨some 24, _, _, _, _, _⟩) (.int .i64 (ib : Int)) rfl (exec_move (.tmp 11) (.int .i64 (ib : Int)) rfl (by kernel_rfl)) ?_
  simp only [Act.put, List.setIfInBounds_toArray, List.set_cons_succ, List.set_cons_zero]
  refine l_new (o := ⟨some 25, _, _, _, _, _⟩) (.slice (some ⟨w1.heap.size, 0, none⟩) 2 2) (w1.alloc (.cells (i64s [(ia : Int), (ib : Int)]).toArray 3)) rfl (exec_ints 2 [(0, .tmp 23), (1, .tmp 24)] [(ia : Int), (ib : Int)] rfl rfl (by omega) (by omega) (by kernel_rfl)) ?_
  have hS2 := Blk.new w1 3 (i64s [(ia : Int), (ib : Int)])
  have k2 : Kept w1 (w1.alloc (.cells (i64s [(ia : Int), (ib : Int)]).toArray 3)) := (Keep.refl _ w1).alloc _
  generalize w1.alloc (.cells (i64s [(ia : Int), (ib : Int)]).toArray 3) = w4 at hS2 k2 ⊢
  simp only [Act.put, List.setIfInBounds_toArray, List.set_cons_succ, List.set_cons_zero]
  refine l_val (o := ⟨some 26, _, _, _, _, _⟩) (.int .i64 2) rfl (exec_len (.tmp 25) _ _ slI.und (some ⟨w1.heap.size, 0, none⟩) 2 2 rfl (by kernel_rfl)) ?_
  simp only [Act.put, List.setIfInBounds_toArray, List.set_cons_succ, List.set_cons_zero]
  refine l_val (o := ⟨some 27, _, _, _, _, _⟩) (.int .i64 0) rfl (exec_move (.const (.int .i64 0)) (.int .i64 0) rfl (by kernel_rfl)) ?_
  simp only [Act.put, List.setIfInBounds_toArray, List.set_cons_succ, List.set_cons_zero]
  refine wpList_nil ?_
  obtain ⟨gs, hgs⟩ : ∃ g, w1.heap.size = g := ⟨_, rfl⟩
  rw [hgs] at hS2 ⊢
  have zls : gs ≠ gl := by have := HL1.out.lt; omega
  have HS4 := Lib.hid hS2
  have HL4 := Lib.hid (HL1.out.kept k2)
  have kw4 := kw1.trans k2
  clear hS2 HL1 kw1 k2 hgs
  obtain ⟨Z, HZ0, HZ1, HZ2⟩ : ∃ Z : Nat → Trds, Hid (Z 0 = X) ∧ Hid (Z 1 = (Z 0).put ia (mkT 1 0 0 0)) ∧ Hid (Z 2 = (Z 1).put ib (mkT 1 0 0 0)) := ⟨fun i => match i with | 0 => X | 1 => X.put ia (mkT 1 0 0 0) | _ => (X.put ia (mkT 1 0 0 0)).put ib (mkT 1 0 0 0), rfl, rfl, rfl⟩
  go_wp2_with fail
  go_loopw [27] (fun t wr => ∃ i : Nat, t = .int .i64 (i : Int) ∧ i ≤ 2 ∧ Hid (Blk wr gl 26 (Z i).cells) ∧ Keep (· = gl) w4 wr) (fun t _ => 2 - (intOf t).toNat)
  case atStart => exact ⟨0, rfl, by omega, by rw [HZ0.out]; exact HL4, Keep.refl _ _⟩
  case round =>
    obtain ⟨i, rfl, hi', HZr, hkr⟩ := hrel
    by_cases hi : i < 2
    · obtain ⟨e, he32, HE, HZn⟩ : ∃ e : Nat, e < 32 ∧ Hid ((i64s [(ia : Int), (ib : Int)])[i]? = some (.int .i64 (e : Int))) ∧ Hid (Z (i + 1) = (Z i).put e (mkT 1 0 0 0)) := by
        have h01 : i = 0 ∨ i = 1 := by omega
        rcases h01 with rfl | rfl
        · exact ⟨ia, ha32, rfl, HZ1⟩
        · exact ⟨ib, hb32, rfl, HZ2⟩
      generalize Z i = Zi at HZr HZn
      clear HZ0 HZ1 HZ2
      have HSr := Lib.hid (HS4.out.keep hkr zls)
      go_upto_region 5 with fail
      refine wp_text 2 [.eq (.pointer (some ⟨gs, i, none⟩)), .eq (.int .i64 (e : Int))] rfl (by kernel_rfl) ?_ ?_
      · refine sv 1 rfl rfl rfl (fun a u hE hD hk => exec_ixo slI (.tmp 25) (.tmp 27) gs 0 2 2 i i _ rfl (hE 25 (.slice (some ⟨gs, 0, none⟩) 2 2) (by kernel_rfl) (by kernel_rfl)) (hE 27 (.int .i64 (i : Int)) (by kernel_rfl) (by kernel_rfl)) rfl hi (by omega)) ?_
        refine sv 2 rfl rfl rfl (fun a u hE hD hk => exec_loadi 3 Try.underlying3 (.tmp 29) ⟨gs, i, none⟩ _ rfl (hD 0 29 (by kernel_rfl)) (by rw [(HSr.out.kept hk).cell]; exact HE.out)) ?_
        exact fsteps_nil
      intro gv w5 hV k5
      rw [show dstsOf _ 2 = [29, 30] by kernel_rfl]
      simp only [List.foldl_cons, List.foldl_nil, List.setIfInBounds_toArray, List.set_cons_succ, List.set_cons_zero, List.drop_succ_cons, List.drop_zero]
      rw [show gv 30 = .int .i64 (e : Int) from hV 1 30 (by kernel_rfl)]
      clear hV
      refine l_val (o := ⟨some 13, _, _, _, _, _⟩) (.int .i64 (e : Int)) rfl (exec_assign (.tmp 30) (.int .i64 (e : Int)) rfl (by kernel_rfl)) ?_
      simp only [Act.put, List.setIfInBounds_toArray, List.set_cons_succ, List.set_cons_zero]
      refine wpList_nil ?_
      have HZ5 := Lib.hid (HZr.out.kept k5)
      have kr5 := hkr.kept k5
      clear HZr hkr k5 HSr HE
      go_upto_region 6 with fail
      refine wp_region_lit ?_
      refine l_val (o := ⟨some 31, _, _, _, _, _⟩) (.int .i64 (e : Int)) rfl (exec_move (.tmp 13) (.int .i64 (e : Int)) rfl (by kernel_rfl)) ?_
      simp only [Act.put, List.setIfInBounds_toArray, List.set_cons_succ, List.set_cons_zero]
      refine l_val (o := ⟨some 32, _, _, _, _, _⟩) (runs13base.v) rfl (exec_build 25 [(0, .const (.int .i64 1)), (2, .const (.int .i64 1))] runs13base.cells rfl (by kernel_rfl)) ?_
      simp only [Act.put, List.setIfInBounds_toArray, List.set_cons_succ, List.set_cons_zero]
      refine l_val (o := ⟨some 33, _, _, _, _, _⟩) (.pointer (some ⟨gl, e * 37, none⟩)) rfl (exec_ixA (.tmp 9) (.tmp 31) gl e _ rfl (by kernel_rfl) (by kernel_rfl) rfl he32) ?_
      simp only [Act.put, List.setIfInBounds_toArray, List.set_cons_succ, List.set_cons_zero]
      refine l_putT (o := ⟨none, _, _, _, _, _⟩) gl e 26 Zi runs13base (.tmp 33) (.tmp 32) rfl rfl (by kernel_rfl) (by kernel_rfl) HZ5.out he32 ?_
      intro w6 hB6 hk6 hs6
      simp only [Act.put]
      refine wpList_nil ?_
      have HZ6 := Lib.hid hB6
      have kr6 := kr5.trans hk6 (fun _ _ h => h)
      clear hB6 hk6 hs6 HZ5 kr5
      go_upto_region 7 with fail
      refine wp_text 2 [.eq (.int .i64 how), .eq (.int .i64 4)] rfl (by kernel_rfl) ?_ ?_
      · refine sv 1 rfl rfl rfl (fun a u hE hD hk => exec_move (.tmp 3) _ rfl (hE 3 (.int .i64 how) (by kernel_rfl) (by kernel_rfl))) ?_
        refine fsteps_cons 2 rfl (fun a u hE hD hk => f_call (o := ⟨some 35, _, _, _, _, _⟩) 20 #[.int .i64 how, .int .i64 0, .int .i64 4] rfl (wanted_none rfl _) (exec_call 20 _ [.tmp 34, .const (.int .i64 0), .const (.int .i64 4)] _ [.int .i64 how, .int .i64 0, .int .i64 4] Try.func20 (by kernel_rfl) (by kernel_rfl) rfl (show [a.eval (.tmp 34), a.eval (.const (.int .i64 0)), a.eval (.const (.int .i64 4))] = [.int .i64 how, .int .i64 0, .int .i64 4] from (by rw [show a.eval (.tmp 34) = .int .i64 how from (hD 0 34 (by kernel_rfl))] <;> rfl)) u) (HWh.out u)) ?_
        exact fsteps_nil
      intro gv w7 hV k7
      rw [show dstsOf _ 2 = [34, 35] by kernel_rfl]
      simp only [List.foldl_cons, List.foldl_nil, List.setIfInBounds_toArray, List.set_cons_succ, List.set_cons_zero, List.drop_succ_cons, List.drop_zero]
      rw [show gv 35 = .int .i64 4 from hV 1 35 (by kernel_rfl)]
      clear hV
      refine wpList_nil ?_
      have HZ7 := Lib.hid (HZ6.out.kept k7)
      have kr7 := kr6.kept k7
      clear HZ6 kr6 k7
      go_upto_region 17 with fail
      refine wp_text 3 [.eq (.int .i64 (e : Int)), .eq (.pointer (some ⟨gl, e * 37, none⟩)), .eq (.pointer (some ⟨gl, e * 37 + 2, none⟩))] rfl (by kernel_rfl) ?_ ?_
      · refine sv 1 rfl rfl rfl (fun a u hE hD hk => exec_move (.tmp 13) _ rfl (hE 13 (.int .i64 (e : Int)) (by kernel_rfl) (by kernel_rfl))) ?_
        refine sv 2 rfl rfl rfl (fun a u hE hD hk => exec_ixA (.tmp 9) (.tmp 58) (gl) e ((e : Int)) rfl (hE 9 (.pointer (some ⟨gl, 0, none⟩)) (by kernel_rfl) (by kernel_rfl)) (hD 0 58 (by kernel_rfl)) (by first | rfl | omega) (he32)) ?_
        refine sv 3 rfl rfl rfl (fun a u hE hD hk => exec_fldo 25 2 2 (.tmp 59) (gl) (e * 37) (e * 37 + 2) rfl (hD 1 59 (by kernel_rfl)) (by kernel_rfl) rfl) ?_
        exact fsteps_nil
      intro gv w8 hV k8
      rw [show dstsOf _ 3 = [58, 59, 60] by kernel_rfl]
      simp only [List.foldl_cons, List.foldl_nil, List.setIfInBounds_toArray, List.set_cons_succ, List.set_cons_zero, List.drop_succ_cons, List.drop_zero]
      rw [show gv 60 = .pointer (some ⟨gl, e * 37 + 2, none⟩) from hV 2 60 (by kernel_rfl)]
      clear hV
      refine l_putI (o := ⟨none, _, _, _, _, _⟩) gl e 2 26 (Zi.put e runs13base) 0 (mkT 1 0 0 0) (.tmp 60) (.const (.int .i64 0)) _ rfl rfl (by kernel_rfl) rfl rfl (HZ7.out.kept k8) he32 (by omega) (by rw [Trds.at_put _ _ _ _ he32, if_pos rfl]; rfl) ?_
      intro w9 hB9 hk9 hs9
      simp only [Act.put]
      refine wpList_nil ?_
      rw [put_put _ _ _ _ he32] at hB9
      have HZ9 := Lib.hid hB9
      have kr9 : Keep (· = gl) w4 w9 := (kr7.kept k8).trans hk9 (fun _ _ h => h)
      clear hB9 hk9 hs9 k8 kr7 HZ7
      go_wp2
      exact ⟨⟨i + 1, by simp, by omega, by rw [← HZn.out] at HZ9; exact HZ9, kr9⟩, by simp [intOf]; omega⟩
    · obtain rfl : i = 2 := by omega
      have HXB : Hid ((Z 2).bad = some (if (ib : Int) < (ia : Int) then ib else ia)) := by
        show _ = _
        rw [HZ2.out, HZ1.out, HZ0.out]
        exact two_bad HGd.out ha32 hb32 (by decide +kernel)
      have kwr : Kept w wr := kw4.trans' hkr zlw
      generalize Z 2 = Zi at HZr HXB
      obtain ⟨c, hc⟩ : ∃ c : Nat, (if (ib : Int) < (ia : Int) then ib else ia) = c := ⟨_, rfl⟩
      rw [hc] at HXB
      have HC : Hid ((if (ib : Int) < (ia : Int) then (ib : Int) else (ia : Int)) = (c : Int)) := by
        show _ = _
        rw [← hc]
        split <;> rfl
      clear HZ0 HZ1 HZ2 HGd HS4 HL4 kw4 hkr hc
      go_upto_region 19 with fail
      refine wp_text 7 [.eq (Zi.v), .eq (.tuple #[.pointer none, .int .i64 (c : Int)]), .eq (.tuple #[.pointer none, .int .i64 (c : Int)]), .eq (.pointer none), .eq (.int .i64 (c : Int)), .eq (.pointer none), .eq (.int .i64 (c : Int))] rfl (by kernel_rfl) ?_ ?_
      · refine sv 1 rfl rfl rfl (fun a u hE hD hk => exec_ldX Zi (.tmp 9) (gl) _ rfl (hE 9 (.pointer (some ⟨gl, 0, none⟩)) (by kernel_rfl) (by kernel_rfl)) (HZr.out.kept hk)) ?_
        refine fsteps_cons 2 rfl (fun a u hE hD hk => f_call (o := ⟨some 64, _, _, _, _, _⟩) 8 #[Zi.v] rfl (wanted_none rfl _) (exec_call 8 _ [.tmp 63] _ [Zi.v] Try.func8 (by kernel_rfl) (by kernel_rfl) rfl (show [a.eval (.tmp 63)] = [Zi.v] from (by rw [show a.eval (.tmp 63) = Zi.v from (hD 0 63 (by kernel_rfl))] <;> rfl)) u) (new_bad HXB.out)) ?_
        refine sv 3 rfl rfl rfl (fun a u hE hD hk => exec_move (.tmp 64) _ rfl (hD 1 64 (by kernel_rfl))) ?_
        refine sv 4 rfl rfl rfl (fun a u hE hD hk => exec_extract (.tmp 62) [.pointer none, .int .i64 (c : Int)] 0 (.pointer none) rfl (hD 2 62 (by kernel_rfl)) rfl) ?_
        refine sv 5 rfl rfl rfl (fun a u hE hD hk => exec_extract (.tmp 62) [.pointer none, .int .i64 (c : Int)] 1 (.int .i64 (c : Int)) rfl (hD 2 62 (by kernel_rfl)) rfl) ?_
        refine sv 6 rfl rfl rfl (fun a u hE hD hk => exec_assign (.tmp 65) _ rfl (hD 3 65 (by kernel_rfl))) ?_
        refine sv 7 rfl rfl rfl (fun a u hE hD hk => exec_assign (.tmp 66) _ rfl (hD 4 66 (by kernel_rfl))) ?_
        exact fsteps_nil
      intro gv w5 hV k5
      rw [show dstsOf _ 7 = [63, 64, 62, 65, 66, 14, 15] by kernel_rfl]
      simp only [List.foldl_cons, List.foldl_nil, List.setIfInBounds_toArray, List.set_cons_succ, List.set_cons_zero, List.drop_succ_cons, List.drop_zero]
      rw [show gv 14 = .pointer none from hV 5 14 (by kernel_rfl)]
      rw [show gv 15 = .int .i64 (c : Int) from hV 6 15 (by kernel_rfl)]
      clear hV
      refine wpList_nil ?_
      go_upto_region 20 with fail
      refine wp_text 13 [.eq (.pointer none), .eq (.bool true), .eq (.bool true), .eq (.int .i64 (c : Int)), .eq (.int .i64 (ia : Int)), .eq (.int .i64 (ib : Int)), .eq (.int .i64 (c : Int)), .eq (.bool true), .eq (.bool true), .eq (.bool true), .eq (.bool true), .eq (.bool true), .eq (.bool true)] rfl (by kernel_rfl) ?_ ?_
      · refine sv 1 rfl rfl rfl (fun a u hE hD hk => exec_move (.tmp 14) _ rfl (hE 14 (.pointer none) (by kernel_rfl) (by kernel_rfl))) ?_
        refine sv 2 rfl rfl rfl (fun a u hE hD hk => exec_eqPn (.tmp 67) _ _ (by kernel_rfl) rfl (hD 0 67 (by kernel_rfl))) ?_
        refine sv 3 rfl rfl rfl (fun a u hE hD hk => exec_move (.tmp 68) _ rfl (hD 1 68 (by kernel_rfl))) ?_
        refine fsteps_cons 4 rfl (fun a u hE hD hk => f_val (o := ⟨some 70, _, _, _, _, _⟩) (.int .i64 (c : Int)) rfl (wanted_at (b := true) true rfl rfl (hD 2 69 (by kernel_rfl))) (exec_move (.tmp 15) _ rfl (hE 15 (.int .i64 (c : Int)) (by kernel_rfl) (by kernel_rfl))) rfl) ?_
        refine fsteps_cons 5 rfl (fun a u hE hD hk => f_val (o := ⟨some 71, _, _, _, _, _⟩) (.int .i64 (ia : Int)) rfl (wanted_at (b := true) true rfl rfl (hD 2 69 (by kernel_rfl))) (exec_move (.tmp 10) _ rfl (hE 10 (.int .i64 (ia : Int)) (by kernel_rfl) (by kernel_rfl))) rfl) ?_
        refine fsteps_cons 6 rfl (fun a u hE hD hk => f_val (o := ⟨some 72, _, _, _, _, _⟩) (.int .i64 (ib : Int)) rfl (wanted_at (b := true) true rfl rfl (hD 2 69 (by kernel_rfl))) (exec_move (.tmp 11) _ rfl (hE 11 (.int .i64 (ib : Int)) (by kernel_rfl) (by kernel_rfl))) rfl) ?_
        refine fsteps_cons 7 rfl (fun a u hE hD hk => f_val (o := ⟨some 73, _, _, _, _, _⟩) (.int .i64 (c : Int)) rfl (wanted_at (b := true) true rfl rfl (hD 2 69 (by kernel_rfl))) (exec_min (.tmp 71) (.tmp 72) _ (ia : Int) (ib : Int) (c : Int) rfl (hD 4 71 (by kernel_rfl)) (hD 5 72 (by kernel_rfl)) HC.out) rfl) ?_
        refine fsteps_cons 8 rfl (fun a u hE hD hk => f_as (show ((decide (((c : Int) : Int) = ((c : Int) : Int))) : Bool) = true from decide_eq_true rfl) (f_val (o := ⟨some 74, _, _, _, _, _⟩) (.bool (decide (((c : Int) : Int) = ((c : Int) : Int)))) rfl (wanted_at (b := true) true rfl rfl (hD 2 69 (by kernel_rfl))) (exec_eqn (p := (c : Int)) (q := (c : Int)) rfl (hD 3 70 (by kernel_rfl)) (hD 6 73 (by kernel_rfl))) rfl)) ?_
        refine sv 9 rfl rfl rfl (fun a u hE hD hk => exec_pick (.tmp 69) (.tmp 74) (.const (.bool false)) (.bool true) rfl (hD 2 69 (by kernel_rfl)) (hD 7 74 (by kernel_rfl))) ?_
        refine sv 10 rfl rfl rfl (fun a u hE hD hk => exec_move (.tmp 75) _ rfl (hD 8 75 (by kernel_rfl))) ?_
        refine fsteps_cons 11 rfl (fun a u hE hD hk => f_call (o := ⟨some 77, _, _, _, _, _⟩) 3 #[] rfl (wanted_at (b := true) true rfl rfl (hD 9 76 (by kernel_rfl))) (exec_call 3 _ [] _ [] Try.func3 (by kernel_rfl) (by kernel_rfl) rfl rfl u) (treeRuns_is u)) ?_
        refine sv 12 rfl rfl rfl (fun a u hE hD hk => exec_pick (.tmp 76) (.tmp 77) (.const (.bool false)) (.bool true) rfl (hD 9 76 (by kernel_rfl)) (hD 10 77 (by kernel_rfl))) ?_
        refine sv 13 rfl rfl rfl (fun a u hE hD hk => exec_assign (.tmp 78) _ rfl (hD 11 78 (by kernel_rfl))) ?_
        exact fsteps_nil
      intro gv w6 hV k6
      rw [show dstsOf _ 13 = [67, 68, 69, 70, 71, 72, 73, 74, 75, 76, 77, 78, 8] by kernel_rfl]
      simp only [List.foldl_cons, List.foldl_nil, List.setIfInBounds_toArray, List.set_cons_succ, List.set_cons_zero, List.drop_succ_cons, List.drop_zero]
      rw [show gv 8 = .bool true from hV 12 8 (by kernel_rfl)]
      clear hV
      refine wpList_nil ?_
      have kw6 := (kwr.trans k5).trans k6
      go_wp2
      go_ret
      exact ⟨rfl, kw6⟩
theorem treeBits_any (v : Value) (l : List Aq) (n m how : Int) (w : World) (hl : Aqs w v l) : Calls Try.prog 7 #[v, .int .i64 n, .int .i64 m, .int .i64 how] w fun e w' => e = .returned (.bool true) ∧ Kept w w' := by
  have HGd := Lib.hid (some_good (l.take 40))
  have HX : Hid (∀ u, Kept w u → Gives 10 #[v, .int .i64 (-1), zeroT.v] u (.eq (someL (l.take 40)).v)) := fun u hk => by rw [← someM_none l zeroT]; exact some_any u v l (-1) zeroT (hl.kept hk)
  generalize someL (l.take 40) = X at HGd HX
  have hwa := wi_in n 0 31 (by omega)
  have hwb := wi_in m 0 31 (by omega)
  have hwh := wi_in how 0 4 (by omega)
  obtain ⟨ia, ha⟩ : ∃ ia : Nat, wi n 0 31 = (ia : Int) := ⟨(wi n 0 31).toNat, by omega⟩
  obtain ⟨ib, hb⟩ : ∃ ib : Nat, wi m 0 31 = (ib : Int) := ⟨(wi m 0 31).toNat, by omega⟩
  have HWa : Hid (∀ u, Gives 20 #[.int .i64 n, .int .i64 0, .int .i64 31] u (.eq (.int .i64 (ia : Int)))) := fun u => by rw [← ha]; exact within_is n 0 31 u (by omega) (by omega) (by omega)
  have HWb : Hid (∀ u, Gives 20 #[.int .i64 m, .int .i64 0, .int .i64 31] u (.eq (.int .i64 (ib : Int)))) := fun u => by rw [← hb]; exact within_is m 0 31 u (by omega) (by omega) (by omega)
  have HWh : ∀ k : Int, wi how 0 4 = k → Hid (∀ u, Gives 20 #[.int .i64 how, .int .i64 0, .int .i64 4] u (.eq (.int .i64 k))) := fun k hk u => by rw [← hk]; exact within_is how 0 4 u (by omega) (by omega) (by omega)
  have h5 : wi how 0 4 = 0 ∨ wi how 0 4 = 1 ∨ wi how 0 4 = 2 ∨ wi how 0 4 = 3 ∨ wi how 0 4 = 4 := by omega
  rcases h5 with h | h | h | h | h
  · exact treeBits_0 v X n m how w ia ib (by omega) (by omega) HGd HX HWa HWb (HWh 0 h)
  · exact treeBits_1 v X n m how w ia ib (by omega) (by omega) HGd HX HWa HWb (HWh 1 h)
  · exact treeBits_2 v X n m how w ia ib (by omega) (by omega) HGd HX HWa HWb (HWh 2 h)
  · exact treeBits_3 v X n m how w ia ib (by omega) (by omega) HGd HX HWa HWb (HWh 3 h)
  · exact treeBits_4 v X n m how w ia ib (by omega) (by omega) HGd HX HWa HWb (HWh 4 h)
end Go.Proofs.Ytgodehggiddndaa
