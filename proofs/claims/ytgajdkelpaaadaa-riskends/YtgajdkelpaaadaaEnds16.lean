/-
  RiskEnds: just at each limit an order goes, one beyond it it doesn't; it answers true. No condition.
-/
import Derived.Test.YtgajdkelpaaadaaRuns16
import Derived.Test.YtgajdkelpaaadaaRskN
import Derived.Test.YtgajdkelpaaadaaSame6
namespace Go.Proofs.Ytgajdkelpaaadaa
open Go.RowKit
set_option linter.unusedVariables false
set_option maxRecDepth 100000

theorem ends_vals {h p : Int} (h0 : 0 ≤ h) (h1 : h ≤ 50) (p0 : 1 ≤ p) (p1 : p ≤ 50) : ∃ X Y Z : Bal, opB zeroB 1 1 (h + 1) = true ∧ opM zeroB 1 1 (h + 1) = X ∧ X.Ok ∧ opB X 1 1 (-1) = true ∧ opM X 1 1 (-1) = Y ∧ Y.Ok ∧ trB Y 1 0 1 p = true ∧ trM Y 1 0 1 p = Z ∧ Z.Ok ∧ Z.all 1 = h ∧ Z.oAt 1 0 = 0 ∧ Z.pAt 1 0 = p := by
  obtain ⟨e1, e2⟩ := op_in (B := zeroB) (a := 1) (b := 1) (q := h + 1) (by omega) (by omega) (by omega) (by omega) (by show 0 ≤ 0 + (h + 1); omega) (by show 0 + (h + 1) ≤ _; omega)
  have e3 : opM zeroB 1 1 (h + 1) = ⟨upd zeroB.o 1 1 (0 + (h + 1)), zeroB.p⟩ := e2
  have x1 : (opM zeroB 1 1 (h + 1)).o 1 1 = h + 1 := by rw [e3]; dsimp only; rw [upd_self]; omega
  have hx := ok_zero.op 1 1 (h + 1)
  obtain ⟨X, hX⟩ : ∃ X, opM zeroB 1 1 (h + 1) = X := ⟨_, rfl⟩
  rw [hX] at x1 hx
  obtain ⟨e4, e5⟩ := op_in (B := X) (a := 1) (b := 1) (q := -1) (by omega) (by omega) (by omega) (by omega) (by rw [x1]; omega) (by rw [x1]; omega)
  have e6 : opM X 1 1 (-1) = ⟨upd X.o 1 1 (X.o 1 1 + -1), X.p⟩ := e5
  have hy := hx.op 1 1 (-1)
  have yp : (opM X 1 1 (-1)).p = zeroB.p := by rw [e6, ← hX, e3]
  have yo : ∀ j, (opM X 1 1 (-1)).o 1 j = if j = 1 then h else 0 := by
    intro j
    rw [e6, ← hX, e3]
    by_cases e : j = 1
    · subst e
      dsimp only
      rw [upd_self, upd_self, if_pos rfl]
      omega
    · dsimp only
      rw [if_neg e, upd_ne _ _ (.inr e), upd_ne _ _ (.inr e)]
      rfl
  obtain ⟨Y, hY⟩ : ∃ Y, opM X 1 1 (-1) = Y := ⟨_, rfl⟩
  rw [hY] at hy yp yo
  have y0 : Y.p 1 0 = 0 := by rw [yp]; rfl
  obtain ⟨e7, e8⟩ := tr_in (B := Y) (a := 1) (b := 0) (s := 1) (q := p) (by omega) (by omega) (by omega) (by omega) (by decide) (by rw [y0]; show -1099511627776 ≤ 0 + p; omega) (by rw [y0]; show 0 + p ≤ _; omega)
  have e9 : trM Y 1 0 1 p = ⟨Y.o, upd Y.p 1 0 (Y.p 1 0 + p)⟩ := e8
  have hz := hy.tr 1 0 1 p
  refine ⟨X, Y, trM Y 1 0 1 p, e1, hX, hx, e4, hY, hy, e7, rfl, hz, ?_⟩
  rw [e9]
  refine ⟨(all_1 _).trans ?_, (oAt_1 _ (i := 0) (by omega)).trans ((yo 0).trans rfl), (pAt_1 _ (i := 0) (by omega)).trans ?_⟩
  · dsimp only
    simp only [yo]
    simp
  · dsimp only
    rw [upd_self, y0]
    omega
theorem chk_ends {Z : Bal} {n x h p S : Int} (n0 : 1 ≤ n) (n1 : n ≤ 100) (x0 : 1 ≤ x) (x1 : x ≤ 100) (hS : n * x = S) (ha : Z.all 1 = h) (ho : Z.oAt 1 0 = 0) (hp : Z.pAt 1 0 = p) (L : Lim) : chk Z L (oM x n) 0 = if L.q < n ∨ L.m < S ∨ L.o < h + n ∨ L.p < p + n then 8 else 0 := by
  have e : oM x n = oS 1 x n := rfl
  rw [e, chk_o (.inl rfl) (by omega) (by omega) (by omega) (by omega) (by decide), ha, ho, hp]
  refine if8 ?_
  have e2 : sided 1 p = p := if_neg (by omega)
  rw [Int.mul_comm x n, hS, e2]
  omega
theorem mul_100 {n x : Int} (n0 : 1 ≤ n) (n1 : n ≤ 100) (x0 : 1 ≤ x) (x1 : x ≤ 100) : 1 ≤ n * x ∧ n * x ≤ 10000 := by
  have h1 : n * x ≤ 100 * 100 := Int.mul_le_mul n1 x1 (by omega) (by omega)
  have h2 : 1 * 1 ≤ n * x := Int.mul_le_mul n0 x0 (by omega) (by omega)
  omega
set_option maxRecDepth 100000 in
set_option maxHeartbeats 3200000 in
theorem riskEnds_any (q p op_ pos : Int) (w : World) : Calls Try.prog 6 #[.int .i64 q, .int .i64 p, .int .i64 op_, .int .i64 pos] w fun e w' => e = .returned (.bool true) ∧ Kept w w' := by
  obtain ⟨n, hn⟩ : ∃ z, wi q 1 100 = z := ⟨_, rfl⟩
  have bn := wi_in q 1 100 (by omega)
  rw [hn] at bn
  have Wn := Lib.hid hn
  clear hn
  obtain ⟨x, hx⟩ : ∃ z, wi p 1 100 = z := ⟨_, rfl⟩
  have bx := wi_in p 1 100 (by omega)
  rw [hx] at bx
  have Wx := Lib.hid hx
  clear hx
  obtain ⟨h, hh⟩ : ∃ z, wi op_ 0 50 = z := ⟨_, rfl⟩
  have bh := wi_in op_ 0 50 (by omega)
  rw [hh] at bh
  have Wh := Lib.hid hh
  clear hh
  obtain ⟨t, ht⟩ : ∃ z, wi pos 1 50 = z := ⟨_, rfl⟩
  have bt := wi_in pos 1 50 (by omega)
  rw [ht] at bt
  have Wt := Lib.hid ht
  clear ht
  obtain ⟨S, hS⟩ : ∃ S, n * x = S := ⟨_, rfl⟩
  have bS := mul_100 bn.1 bn.2 bx.1 bx.2
  rw [hS] at bS
  obtain ⟨X, Y, Z, e1, eX, oX, e2, eY, oY, e3, eZ, oZ, v1, v2, v3⟩ := ends_vals bh.1 bh.2 bt.1 bt.2
  have hc := chk_ends bn.1 bn.2 bx.1 bx.2 hS v1 v2 v3
  obtain ⟨L, hL⟩ : ∃ L, Lim.mk n S (h + n) (t + n) = L := ⟨_, rfl⟩
  have lq : L.q = n := by rw [← hL]
  have lm : L.m = S := by rw [← hL]
  have lo : L.o = h + n := by rw [← hL]
  have lp : L.p = t + n := by rw [← hL]
  obtain ⟨c, hC⟩ : ∃ c, oM x n = c := ⟨_, rfl⟩
  rw [hC] at hc
  have C0 : Hid (chk Z L c 0 = 0) := by show _ = _; rw [hc, if_neg (by omega)]
  obtain ⟨M1, hM⟩ : ∃ M, Lim.mk (L.q - 1) L.m L.o L.p = M := ⟨_, rfl⟩
  have S1 : Hid (L.cells.set 0 (.int .i64 (L.q - 1)) = M1.cells) := by show _ = _; rw [← hM]; rfl
  have C1 : Hid (chk Z M1 c 0 = 8) := by show _ = _; rw [hc, if_pos (by rw [← hM]; dsimp only; omega)]
  clear hM
  obtain ⟨M2, hM⟩ : ∃ M, Lim.mk L.q (L.m - 1) L.o L.p = M := ⟨_, rfl⟩
  have S2 : Hid (L.cells.set 1 (.int .i64 (L.m - 1)) = M2.cells) := by show _ = _; rw [← hM]; rfl
  have C2 : Hid (chk Z M2 c 0 = 8) := by show _ = _; rw [hc, if_pos (by rw [← hM]; dsimp only; omega)]
  clear hM
  obtain ⟨M3, hM⟩ : ∃ M, Lim.mk L.q L.m (L.o - 1) L.p = M := ⟨_, rfl⟩
  have S3 : Hid (L.cells.set 2 (.int .i64 (L.o - 1)) = M3.cells) := by show _ = _; rw [← hM]; rfl
  have C3 : Hid (chk Z M3 c 0 = 8) := by show _ = _; rw [hc, if_pos (by rw [← hM]; dsimp only; omega)]
  clear hM
  obtain ⟨M4, hM⟩ : ∃ M, Lim.mk L.q L.m L.o (L.p - 1) = M := ⟨_, rfl⟩
  have S4 : Hid (L.cells.set 3 (.int .i64 (L.p - 1)) = M4.cells) := by show _ = _; rw [← hM]; rfl
  have C4 : Hid (chk Z M4 c 0 = 8) := by show _ = _; rw [hc, if_pos (by rw [← hM]; dsimp only; omega)]
  clear hM
  have E1 := Lib.hid e1
  have E2 := Lib.hid e2
  have E3 := Lib.hid e3
  have EX := Lib.hid eX
  have EY := Lib.hid eY
  have EZ := Lib.hid eZ
  have OX := Lib.hid oX
  have OY := Lib.hid oY
  have OZ := Lib.hid oZ
  have HL := Lib.hid hL
  have HC := Lib.hid hC
  have HS := Lib.hid hS
  have bL : (-9223372036854775807 ≤ L.q ∧ L.q ≤ 1099511627776) ∧ (-9223372036854775807 ≤ L.m ∧ L.m ≤ 1099511627776) ∧ (-9223372036854775807 ≤ L.o ∧ L.o ≤ 1099511627776) ∧ (-9223372036854775807 ≤ L.p ∧ L.p ≤ 1099511627776) := by omega
  clear e1 e2 e3 eX eY eZ oX oY oZ hL hC hS hc v1 v2 v3 lq lm lo lp
  go_enter Try.func6, Try.ntmps6
  go_upto_region 1 with fail
  refine wp_region_lit ?_
  refine l_call (o := ⟨some 18, _, _, _, _, _⟩) 9 #[] rfl (exec_call 9 _ [] _ _ Try.func9 (by kernel_rfl) (by kernel_rfl) rfl (by kernel_rfl) _) ?_
  refine (new_any w.heap.size w (Nat.le_refl _)).mono ?_
  rintro e w1 ⟨v1, rfl, ⟨g, rfl, hg, hB⟩, k1⟩
  refine ⟨_, rfl, ?_⟩
  simp only [Act.put, List.setIfInBounds_toArray, List.set_cons_succ, List.set_cons_zero]
  refine l_val (o := ⟨some 9, _, _, _, _, _⟩) (.pointer (some ⟨g, 0, none⟩)) rfl (exec_assign (.tmp 18) (.pointer (some ⟨g, 0, none⟩)) rfl (by kernel_rfl)) ?_
  simp only [Act.put, List.setIfInBounds_toArray, List.set_cons_succ, List.set_cons_zero]
  refine wpList_nil ?_
  have HB := Lib.hid hB
  clear hB
  go_upto_region 2 with fail
  refine wp_text 2 [.eq (.pointer (some ⟨g, 0, none⟩)), .eq (.bool false)] rfl (by kernel_rfl) ?_ ?_
  · refine sv 1 rfl rfl rfl (fun a u hE hD hk => exec_move (.tmp 9) _ rfl (hE 9 (.pointer (some ⟨g, 0, none⟩)) (by kernel_rfl) (by kernel_rfl))) ?_
    refine sv 2 rfl rfl rfl (fun a u hE hD hk => exec_eqP (.tmp 19) _ _ ⟨g, 0, none⟩ (by kernel_rfl) rfl (hD 0 19 (by kernel_rfl))) ?_
    exact fsteps_nil
  intro gv w2 hV k2
  rw [show dstsOf _ 2 = [19, 20] by kernel_rfl]
  simp only [List.foldl_cons, List.foldl_nil, List.setIfInBounds_toArray, List.set_cons_succ, List.set_cons_zero, List.drop_succ_cons, List.drop_zero]
  rw [show gv 20 = .bool false from hV 1 20 (by kernel_rfl)]
  clear hV
  refine wpList_nil ?_
  have HB2 := Lib.hid (HB.out.kept k2)
  have kw2 := k1.trans k2
  clear HB k1 k2
  go_upto_region 4 with fail
  refine wp_text 4 [.eq (.int .i64 q), .eq (.int .i64 n), .eq (.int .i64 p), .eq (.int .i64 x)] rfl (by kernel_rfl) ?_ ?_
  · refine sv 1 rfl rfl rfl (fun a u hE hD hk => exec_move (.tmp 0) _ rfl (hE 0 (.int .i64 q) (by kernel_rfl) (by kernel_rfl))) ?_
    refine fsteps_cons 2 rfl (fun a u hE hD hk => f_call (o := ⟨some 22, _, _, _, _, _⟩) 16 #[.int .i64 q, .int .i64 1, .int .i64 100] rfl (wanted_none rfl _) (exec_call 16 _ [.tmp 21, .const (.int .i64 1), .const (.int .i64 100)] _ [.int .i64 q, .int .i64 1, .int .i64 100] Try.func16 (by kernel_rfl) (by kernel_rfl) rfl (show [a.eval (.tmp 21), a.eval (.const (.int .i64 1)), a.eval (.const (.int .i64 100))] = [.int .i64 q, .int .i64 1, .int .i64 100] from (by rw [show a.eval (.tmp 21) = .int .i64 q from (hD 0 21 (by kernel_rfl))] <;> rfl)) u) (by rw [← Wn.out]; exact within_is q 1 100 u (by omega) (by omega) (by omega))) ?_
    refine sv 3 rfl rfl rfl (fun a u hE hD hk => exec_move (.tmp 1) _ rfl (hE 1 (.int .i64 p) (by kernel_rfl) (by kernel_rfl))) ?_
    refine fsteps_cons 4 rfl (fun a u hE hD hk => f_call (o := ⟨some 24, _, _, _, _, _⟩) 16 #[.int .i64 p, .int .i64 1, .int .i64 100] rfl (wanted_none rfl _) (exec_call 16 _ [.tmp 23, .const (.int .i64 1), .const (.int .i64 100)] _ [.int .i64 p, .int .i64 1, .int .i64 100] Try.func16 (by kernel_rfl) (by kernel_rfl) rfl (show [a.eval (.tmp 23), a.eval (.const (.int .i64 1)), a.eval (.const (.int .i64 100))] = [.int .i64 p, .int .i64 1, .int .i64 100] from (by rw [show a.eval (.tmp 23) = .int .i64 p from (hD 2 23 (by kernel_rfl))] <;> rfl)) u) (by rw [← Wx.out]; exact within_is p 1 100 u (by omega) (by omega) (by omega))) ?_
    exact fsteps_nil
  intro gv w3 hV k3
  rw [show dstsOf _ 4 = [21, 22, 23, 24] by kernel_rfl]
  simp only [List.foldl_cons, List.foldl_nil, List.setIfInBounds_toArray, List.set_cons_succ, List.set_cons_zero, List.drop_succ_cons, List.drop_zero]
  rw [show gv 22 = .int .i64 n from hV 1 22 (by kernel_rfl)]
  rw [show gv 24 = .int .i64 x from hV 3 24 (by kernel_rfl)]
  clear hV
  refine l_val (o := ⟨some 10, _, _, _, _, _⟩) (.int .i64 n) rfl (exec_assign (.tmp 22) (.int .i64 n) rfl (by kernel_rfl)) ?_
  simp only [Act.put, List.setIfInBounds_toArray, List.set_cons_succ, List.set_cons_zero]
  refine l_val (o := ⟨some 11, _, _, _, _, _⟩) (.int .i64 x) rfl (exec_assign (.tmp 24) (.int .i64 x) rfl (by kernel_rfl)) ?_
  simp only [Act.put, List.setIfInBounds_toArray, List.set_cons_succ, List.set_cons_zero]
  refine wpList_nil ?_
  go_upto_region 5 with fail
  refine wp_text 4 [.eq (.int .i64 op_), .eq (.int .i64 h), .eq (.int .i64 pos), .eq (.int .i64 t)] rfl (by kernel_rfl) ?_ ?_
  · refine sv 1 rfl rfl rfl (fun a u hE hD hk => exec_move (.tmp 2) _ rfl (hE 2 (.int .i64 op_) (by kernel_rfl) (by kernel_rfl))) ?_
    refine fsteps_cons 2 rfl (fun a u hE hD hk => f_call (o := ⟨some 26, _, _, _, _, _⟩) 16 #[.int .i64 op_, .int .i64 0, .int .i64 50] rfl (wanted_none rfl _) (exec_call 16 _ [.tmp 25, .const (.int .i64 0), .const (.int .i64 50)] _ [.int .i64 op_, .int .i64 0, .int .i64 50] Try.func16 (by kernel_rfl) (by kernel_rfl) rfl (show [a.eval (.tmp 25), a.eval (.const (.int .i64 0)), a.eval (.const (.int .i64 50))] = [.int .i64 op_, .int .i64 0, .int .i64 50] from (by rw [show a.eval (.tmp 25) = .int .i64 op_ from (hD 0 25 (by kernel_rfl))] <;> rfl)) u) (by rw [← Wh.out]; exact within_is op_ 0 50 u (by omega) (by omega) (by omega))) ?_
    refine sv 3 rfl rfl rfl (fun a u hE hD hk => exec_move (.tmp 3) _ rfl (hE 3 (.int .i64 pos) (by kernel_rfl) (by kernel_rfl))) ?_
    refine fsteps_cons 4 rfl (fun a u hE hD hk => f_call (o := ⟨some 28, _, _, _, _, _⟩) 16 #[.int .i64 pos, .int .i64 1, .int .i64 50] rfl (wanted_none rfl _) (exec_call 16 _ [.tmp 27, .const (.int .i64 1), .const (.int .i64 50)] _ [.int .i64 pos, .int .i64 1, .int .i64 50] Try.func16 (by kernel_rfl) (by kernel_rfl) rfl (show [a.eval (.tmp 27), a.eval (.const (.int .i64 1)), a.eval (.const (.int .i64 50))] = [.int .i64 pos, .int .i64 1, .int .i64 50] from (by rw [show a.eval (.tmp 27) = .int .i64 pos from (hD 2 27 (by kernel_rfl))] <;> rfl)) u) (by rw [← Wt.out]; exact within_is pos 1 50 u (by omega) (by omega) (by omega))) ?_
    exact fsteps_nil
  intro gv w4 hV k4
  rw [show dstsOf _ 4 = [25, 26, 27, 28] by kernel_rfl]
  simp only [List.foldl_cons, List.foldl_nil, List.setIfInBounds_toArray, List.set_cons_succ, List.set_cons_zero, List.drop_succ_cons, List.drop_zero]
  rw [show gv 26 = .int .i64 h from hV 1 26 (by kernel_rfl)]
  rw [show gv 28 = .int .i64 t from hV 3 28 (by kernel_rfl)]
  clear hV
  refine l_val (o := ⟨some 12, _, _, _, _, _⟩) (.int .i64 h) rfl (exec_assign (.tmp 26) (.int .i64 h) rfl (by kernel_rfl)) ?_
  simp only [Act.put, List.setIfInBounds_toArray, List.set_cons_succ, List.set_cons_zero]
  refine l_val (o := ⟨some 13, _, _, _, _, _⟩) (.int .i64 t) rfl (exec_assign (.tmp 28) (.int .i64 t) rfl (by kernel_rfl)) ?_
  simp only [Act.put, List.setIfInBounds_toArray, List.set_cons_succ, List.set_cons_zero]
  refine wpList_nil ?_
  have HB4 := Lib.hid ((HB2.out.kept k3).kept k4)
  have kw4 := (kw2.trans k3).trans k4
  clear HB2 kw2 k3 k4
  go_upto_region 6 with fail
  refine wp_region_lit ?_
  refine l_val (o := ⟨some 29, _, _, _, _, _⟩) (.pointer (some ⟨g, 0, none⟩)) rfl (exec_move (.tmp 9) (.pointer (some ⟨g, 0, none⟩)) rfl (by kernel_rfl)) ?_
  simp only [Act.put, List.setIfInBounds_toArray, List.set_cons_succ, List.set_cons_zero]
  refine l_val (o := ⟨some 30, _, _, _, _, _⟩) (.int .i64 h) rfl (exec_move (.tmp 12) (.int .i64 h) rfl (by kernel_rfl)) ?_
  simp only [Act.put, List.setIfInBounds_toArray, List.set_cons_succ, List.set_cons_zero]
  refine l_val (o := ⟨some 31, _, _, _, _, _⟩) (.int .i64 (h + 1)) rfl (exec_addn (h + 1) rfl (by kernel_rfl) rfl rfl (by omega) (by omega)) ?_
  simp only [Act.put, List.setIfInBounds_toArray, List.set_cons_succ, List.set_cons_zero]
  refine l_call (o := ⟨some 32, _, _, _, _, _⟩) 17 #[.pointer (some ⟨g, 0, none⟩), .int .i64 1, .int .i64 1, .int .i64 (h + 1)] rfl (exec_call 17 _ [.tmp 29, .const (.int .i64 1), .const (.int .i64 1), .tmp 31] _ _ Try.func17 (by kernel_rfl) (by kernel_rfl) rfl (by kernel_rfl) _) ?_
  refine (opens_at HB4.out ok_zero E1.out EX.out).mono ?_
  rintro e w5 ⟨rfl, hB5, k5⟩
  refine ⟨_, rfl, ?_⟩
  simp only [Act.put, List.setIfInBounds_toArray, List.set_cons_succ, List.set_cons_zero]
  refine l_val (o := ⟨some 33, _, _, _, _, _⟩) (.bool false) rfl (exec_not _ (.tmp 32) true rfl (by kernel_rfl)) ?_
  simp only [Act.put, List.setIfInBounds_toArray, List.set_cons_succ, List.set_cons_zero]
  refine l_val (o := ⟨some 34, _, _, _, _, _⟩) (.bool false) rfl (exec_move (.tmp 33) (.bool false) rfl (by kernel_rfl)) ?_
  simp only [Act.put, List.setIfInBounds_toArray, List.set_cons_succ, List.set_cons_zero]
  refine l_val (o := ⟨some 35, _, _, _, _, _⟩) (.pointer (some ⟨g, 0, none⟩)) rfl (exec_move (.tmp 9) (.pointer (some ⟨g, 0, none⟩)) rfl (by kernel_rfl)) ?_
  simp only [Act.put, List.setIfInBounds_toArray, List.set_cons_succ, List.set_cons_zero]
  refine l_call (o := ⟨some 36, _, _, _, _, _⟩) 17 #[.pointer (some ⟨g, 0, none⟩), .int .i64 1, .int .i64 1, .int .i64 (-1)] rfl (exec_call 17 _ [.tmp 35, .const (.int .i64 1), .const (.int .i64 1), .const (.int .i64 (-1))] _ _ Try.func17 (by kernel_rfl) (by kernel_rfl) rfl (by kernel_rfl) _) ?_
  refine (opens_at hB5 OX.out E2.out EY.out).mono ?_
  rintro e w6 ⟨rfl, hB6, k6⟩
  refine ⟨_, rfl, ?_⟩
  simp only [Act.put, List.setIfInBounds_toArray, List.set_cons_succ, List.set_cons_zero]
  refine l_val (o := ⟨some 37, _, _, _, _, _⟩) (.bool false) rfl (exec_not _ (.tmp 36) true rfl (by kernel_rfl)) ?_
  simp only [Act.put, List.setIfInBounds_toArray, List.set_cons_succ, List.set_cons_zero]
  refine l_val (o := ⟨some 38, _, _, _, _, _⟩) (.bool false) rfl (exec_pickF (.tmp 34) (.const (.bool true)) (.tmp 37) (.bool false) rfl (by kernel_rfl) (by kernel_rfl)) ?_
  simp only [Act.put, List.setIfInBounds_toArray, List.set_cons_succ, List.set_cons_zero]
  refine l_val (o := ⟨some 39, _, _, _, _, _⟩) (.bool false) rfl (exec_move (.tmp 38) (.bool false) rfl (by kernel_rfl)) ?_
  simp only [Act.put, List.setIfInBounds_toArray, List.set_cons_succ, List.set_cons_zero]
  refine l_val (o := ⟨some 40, _, _, _, _, _⟩) (.pointer (some ⟨g, 0, none⟩)) rfl (exec_move (.tmp 9) (.pointer (some ⟨g, 0, none⟩)) rfl (by kernel_rfl)) ?_
  simp only [Act.put, List.setIfInBounds_toArray, List.set_cons_succ, List.set_cons_zero]
  refine l_val (o := ⟨some 41, _, _, _, _, _⟩) (.int .i64 t) rfl (exec_move (.tmp 13) (.int .i64 t) rfl (by kernel_rfl)) ?_
  simp only [Act.put, List.setIfInBounds_toArray, List.set_cons_succ, List.set_cons_zero]
  refine l_call (o := ⟨some 42, _, _, _, _, _⟩) 18 #[.pointer (some ⟨g, 0, none⟩), .int .i64 1, .int .i64 0, .int .i64 1, .int .i64 t] rfl (exec_call 18 _ [.tmp 40, .const (.int .i64 1), .const (.int .i64 0), .const (.int .i64 1), .tmp 41] _ _ Try.func18 (by kernel_rfl) (by kernel_rfl) rfl (by kernel_rfl) _) ?_
  refine (trades_at hB6 OY.out E3.out EZ.out).mono ?_
  rintro e w7 ⟨rfl, hB7, k7⟩
  refine ⟨_, rfl, ?_⟩
  simp only [Act.put, List.setIfInBounds_toArray, List.set_cons_succ, List.set_cons_zero]
  refine l_val (o := ⟨some 43, _, _, _, _, _⟩) (.bool false) rfl (exec_not _ (.tmp 42) true rfl (by kernel_rfl)) ?_
  simp only [Act.put, List.setIfInBounds_toArray, List.set_cons_succ, List.set_cons_zero]
  refine l_val (o := ⟨some 44, _, _, _, _, _⟩) (.bool false) rfl (exec_pickF (.tmp 39) (.const (.bool true)) (.tmp 43) (.bool false) rfl (by kernel_rfl) (by kernel_rfl)) ?_
  simp only [Act.put, List.setIfInBounds_toArray, List.set_cons_succ, List.set_cons_zero]
  refine wpList_nil ?_
  have HB7 := Lib.hid hB7
  have kw7 := kept_own (kept_own (kept_own kw4 hg k5) hg k6) hg k7
  clear hB5 hB6 hB7 k5 k6 k7 HB4 kw4 E1 E2 E3 EX EY EZ OX OY
  go_upto_region 8 with fail
  refine wp_text 11 [.eq (.int .i64 n), .eq (.int .i64 n), .eq (.int .i64 x), .eq (.int .i64 S), .eq (.int .i64 h), .eq (.int .i64 n), .eq (.int .i64 ((h : Int) + (n : Int))), .eq (.int .i64 t), .eq (.int .i64 n), .eq (.int .i64 ((t : Int) + (n : Int))), .eq (L.v)] rfl (by kernel_rfl) ?_ ?_
  · refine sv 1 rfl rfl rfl (fun a u hE hD hk => exec_move (.tmp 10) _ rfl (hE 10 (.int .i64 n) (by kernel_rfl) (by kernel_rfl))) ?_
    refine sv 2 rfl rfl rfl (fun a u hE hD hk => exec_move (.tmp 10) _ rfl (hE 10 (.int .i64 n) (by kernel_rfl) (by kernel_rfl))) ?_
    refine sv 3 rfl rfl rfl (fun a u hE hD hk => exec_move (.tmp 11) _ rfl (hE 11 (.int .i64 x) (by kernel_rfl) (by kernel_rfl))) ?_
    refine sv 4 rfl rfl rfl (fun a u hE hD hk => exec_muln S rfl (hD 1 46 (by kernel_rfl)) (hD 2 47 (by kernel_rfl)) HS.out (by omega) (by omega)) ?_
    refine sv 5 rfl rfl rfl (fun a u hE hD hk => exec_move (.tmp 12) _ rfl (hE 12 (.int .i64 h) (by kernel_rfl) (by kernel_rfl))) ?_
    refine sv 6 rfl rfl rfl (fun a u hE hD hk => exec_move (.tmp 10) _ rfl (hE 10 (.int .i64 n) (by kernel_rfl) (by kernel_rfl))) ?_
    refine sv 7 rfl rfl rfl (fun a u hE hD hk => exec_addn (p := (h)) (q := (n)) ((h : Int) + (n : Int)) rfl (hD 4 49 (by kernel_rfl)) (hD 5 50 (by kernel_rfl)) rfl (by omega) (by omega)) ?_
    refine sv 8 rfl rfl rfl (fun a u hE hD hk => exec_move (.tmp 13) _ rfl (hE 13 (.int .i64 t) (by kernel_rfl) (by kernel_rfl))) ?_
    refine sv 9 rfl rfl rfl (fun a u hE hD hk => exec_move (.tmp 10) _ rfl (hE 10 (.int .i64 n) (by kernel_rfl) (by kernel_rfl))) ?_
    refine sv 10 rfl rfl rfl (fun a u hE hD hk => exec_addn (p := (t)) (q := (n)) ((t : Int) + (n : Int)) rfl (hD 7 52 (by kernel_rfl)) (hD 8 53 (by kernel_rfl)) rfl (by omega) (by omega)) ?_
    refine sv 11 rfl rfl rfl (fun a u hE hD hk => by rw [← HL.out]; exact exec_bldL (.tmp 45) (.tmp 48) (.tmp 51) (.tmp 54) n S (h + n) (t + n) rfl (hD 0 45 (by kernel_rfl)) (hD 3 48 (by kernel_rfl)) (hD 6 51 (by kernel_rfl)) (hD 9 54 (by kernel_rfl))) ?_
    exact fsteps_nil
  intro gv wa hV ka
  rw [show dstsOf _ 11 = [45, 46, 47, 48, 49, 50, 51, 52, 53, 54, 55] by kernel_rfl]
  simp only [List.foldl_cons, List.foldl_nil, List.setIfInBounds_toArray, List.set_cons_succ, List.set_cons_zero, List.drop_succ_cons, List.drop_zero]
  rw [show gv 55 = L.v from hV 10 55 (by kernel_rfl)]
  clear hV
  refine l_new (o := ⟨some 14, _, _, _, _, _⟩) (.pointer (some ⟨wa.heap.size, 0, none⟩)) (wa.alloc (.cells zeroL.cells.toArray 25)) rfl (exec_alc 25 zeroL.cells rfl zLim) ?_
  have hNa := Blk.new wa 25 zeroL.cells
  have kb : Kept wa (wa.alloc (.cells zeroL.cells.toArray 25)) := (Keep.refl _ wa).alloc _
  generalize wa.alloc (.cells zeroL.cells.toArray 25) = wb at hNa kb ⊢
  simp only [Act.put, List.setIfInBounds_toArray, List.set_cons_succ, List.set_cons_zero]
  refine l_setS (o := ⟨none, _, _, _, _, _⟩) 25 wa.heap.size 25 zeroL.cells L.cells (.tmp 14) (.tmp 55) rfl rfl (by kernel_rfl) (by kernel_rfl) hNa (by rw [Lim.len4l]; exact szLim) (by rw [Lim.len4l, Lim.len4l]) (Lim.one _) ?_
  intro w8 hC hK hS
  simp only [Act.put]
  refine wpList_nil ?_
  obtain ⟨g14, hg14⟩ : ∃ y, wa.heap.size = y := ⟨_, rfl⟩
  rw [hg14] at hNa hC hK ⊢
  have zka := ka.size
  have z14 : w7.heap.size ≤ g14 := by omega
  have kw8 : Kept w7 w8 := (ka.trans kb).trans' hK (by omega)
  have HX14 := Lib.hid hC
  clear hNa hC hK hS kb ka zka hg14
  have HB8 := Lib.hid (HB7.out.kept kw8)
  have o1 : g < g14 := by have := HB7.out.lt; omega
  have kz8 := kw7.trans kw8
  clear HB7 kw7 kw8
  go_upto_region 9 with fail
  refine wp_text 3 [.eq (.int .i64 x), .eq (.int .i64 n), .eq (c.v)] rfl (by kernel_rfl) ?_ ?_
  · refine sv 1 rfl rfl rfl (fun a u hE hD hk => exec_move (.tmp 11) _ rfl (hE 11 (.int .i64 x) (by kernel_rfl) (by kernel_rfl))) ?_
    refine sv 2 rfl rfl rfl (fun a u hE hD hk => exec_move (.tmp 10) _ rfl (hE 10 (.int .i64 n) (by kernel_rfl) (by kernel_rfl))) ?_
    refine fsteps_cons 3 rfl (fun a u hE hD hk => f_call (o := ⟨some 58, _, _, _, _, _⟩) 11 #[.int .i64 x, .int .i64 n] rfl (wanted_none rfl _) (exec_call 11 _ [.tmp 56, .tmp 57] _ [.int .i64 x, .int .i64 n] Try.func11 (by kernel_rfl) (by kernel_rfl) rfl (show [a.eval (.tmp 56), a.eval (.tmp 57)] = [.int .i64 x, .int .i64 n] from (by rw [show a.eval (.tmp 56) = .int .i64 x from (hD 0 56 (by kernel_rfl)), show a.eval (.tmp 57) = .int .i64 n from (hD 1 57 (by kernel_rfl))] <;> rfl)) u) (by rw [← HC.out]; exact o_any x n u)) ?_
    exact fsteps_nil
  intro gv wa hV ka
  rw [show dstsOf _ 3 = [56, 57, 58] by kernel_rfl]
  simp only [List.foldl_cons, List.foldl_nil, List.setIfInBounds_toArray, List.set_cons_succ, List.set_cons_zero, List.drop_succ_cons, List.drop_zero]
  rw [show gv 58 = c.v from hV 2 58 (by kernel_rfl)]
  clear hV
  refine l_new (o := ⟨some 15, _, _, _, _, _⟩) (.pointer (some ⟨wa.heap.size, 0, none⟩)) (wa.alloc (.cells zeroO.cells.toArray 29)) rfl (exec_alc 29 zeroO.cells rfl zO) ?_
  have hNa := Blk.new wa 29 zeroO.cells
  have kb : Kept wa (wa.alloc (.cells zeroO.cells.toArray 29)) := (Keep.refl _ wa).alloc _
  generalize wa.alloc (.cells zeroO.cells.toArray 29) = wb at hNa kb ⊢
  simp only [Act.put, List.setIfInBounds_toArray, List.set_cons_succ, List.set_cons_zero]
  refine l_setS (o := ⟨none, _, _, _, _, _⟩) 29 wa.heap.size 29 zeroO.cells c.cells (.tmp 15) (.tmp 58) rfl rfl (by kernel_rfl) (by kernel_rfl) hNa (by rw [Ord.len9]; exact ord_size) (by rw [Ord.len9, Ord.len9]) (Ord.one1 _) ?_
  intro w9 hC hK hS
  simp only [Act.put]
  refine wpList_nil ?_
  obtain ⟨g15, hg15⟩ : ∃ y, wa.heap.size = y := ⟨_, rfl⟩
  rw [hg15] at hNa hC hK ⊢
  have zka := ka.size
  have z15 : w8.heap.size ≤ g15 := by omega
  have kw9 : Kept w8 w9 := (ka.trans kb).trans' hK (by omega)
  have HX15 := Lib.hid hC
  clear hNa hC hK hS kb ka zka hg15
  have HB9 := Lib.hid (HB8.out.kept kw9)
  have o2 : g14 < g15 := by have := HX14.out.lt; omega
  have HL9 := Lib.hid (HX14.out.kept kw9)
  have HC9 := Lib.hid HX15.out
  have kz9 := kz8.trans kw9
  clear HB8 HX14 HX15 kz8 kw9
  go_wp2_with fail
  go_loopw [16] (fun t wr => ∃ k : Nat, t = .int .i64 (k : Int) ∧ k ≤ 5 ∧ Hid (Blk wr g 53 Z.lc) ∧ Hid (Blk wr g14 25 L.cells) ∧ Hid (Blk wr g15 29 c.cells) ∧ Kept w wr) (fun t _ => 5 - (intOf t).toNat)
  case atStart => exact ⟨0, rfl, by omega, HB9, HL9, HC9, kz9⟩
  case round =>
    obtain ⟨k, rfl, hk5, HBr, HLr, HCr, kwr⟩ := hrel
    clear HB9 HL9 HC9 kz9
    have hcases : k = 0 ∨ k = 1 ∨ k = 2 ∨ k = 3 ∨ k = 4 ∨ k = 5 := by omega
    rcases hcases with hki | hki | hki | hki | hki | hki
    · skip
      have HK := Lib.hid hki
      clear hki
      go_upto_region 11 with fail
      refine wp_text 2 [.eq (.int .i64 (k : Int)), .eq (.bool true)] rfl (by kernel_rfl) ?_ ?_
      · refine sv 1 rfl rfl rfl (fun a u hE hD hk => exec_move (.tmp 16) _ rfl (hE 16 (.int .i64 (k : Int)) (by kernel_rfl) (by kernel_rfl))) ?_
        refine fsteps_cons 2 rfl (fun a u hE hD hk => f_as (show ((decide (((k : Int) : Int) < (5 : Int))) : Bool) = true from decide_eq_true (by have := HK.out; omega)) (f_val (o := ⟨some 60, _, _, _, _, _⟩) (.bool (decide (((k : Int) : Int) < (5 : Int)))) rfl (wanted_none rfl _) (exec_ltn (p := (k : Int)) (q := 5) rfl (hD 0 59 (by kernel_rfl)) rfl) rfl)) ?_
        exact fsteps_nil
      intro gv x1 hV y1
      rw [show dstsOf _ 2 = [59, 60] by kernel_rfl]
      simp only [List.foldl_cons, List.foldl_nil, List.setIfInBounds_toArray, List.set_cons_succ, List.set_cons_zero, List.drop_succ_cons, List.drop_zero]
      rw [show gv 60 = .bool true from hV 1 60 (by kernel_rfl)]
      clear hV
      refine wpList_nil ?_
      have HL1 := Lib.hid (HLr.out.kept y1)
      go_upto_region 13 with fail
      refine wp_text 1 [.eq (L.v)] rfl (by kernel_rfl) ?_ ?_
      · refine sv 1 rfl rfl rfl (fun a u hE hD hk => exec_ldS 25 _ (.tmp 14) (g14) (0) (L.cells) rfl (hE 14 (.pointer (some ⟨g14, 0, none⟩)) (by kernel_rfl) (by kernel_rfl)) (range_kept (blk_range HL1.out) hk) Try.underlying25 (by rw [L.len4l]; exact szLim)) ?_
        exact fsteps_nil
      intro gv wa hV ka
      rw [show dstsOf _ 1 = [63] by kernel_rfl]
      simp only [List.foldl_cons, List.foldl_nil, List.setIfInBounds_toArray, List.set_cons_succ, List.set_cons_zero, List.drop_succ_cons, List.drop_zero]
      rw [show gv 63 = L.v from hV 0 63 (by kernel_rfl)]
      clear hV
      refine l_new (o := ⟨some 17, _, _, _, _, _⟩) (.pointer (some ⟨wa.heap.size, 0, none⟩)) (wa.alloc (.cells zeroL.cells.toArray 25)) rfl (exec_alc 25 zeroL.cells rfl zLim) ?_
      have hNa := Blk.new wa 25 zeroL.cells
      have kb : Kept wa (wa.alloc (.cells zeroL.cells.toArray 25)) := (Keep.refl _ wa).alloc _
      generalize wa.alloc (.cells zeroL.cells.toArray 25) = wb at hNa kb ⊢
      simp only [Act.put, List.setIfInBounds_toArray, List.set_cons_succ, List.set_cons_zero]
      refine l_setS (o := ⟨none, _, _, _, _, _⟩) 25 wa.heap.size 25 zeroL.cells L.cells (.tmp 17) (.tmp 63) rfl rfl (by kernel_rfl) (by kernel_rfl) hNa (by rw [Lim.len4l]; exact szLim) (by rw [Lim.len4l, Lim.len4l]) (Lim.one _) ?_
      intro x2 hC hK hS
      simp only [Act.put]
      refine wpList_nil ?_
      obtain ⟨g17, hg17⟩ : ∃ y, wa.heap.size = y := ⟨_, rfl⟩
      rw [hg17] at hNa hC hK ⊢
      have zka := ka.size
      have z17 : x1.heap.size ≤ g17 := by omega
      have kx2 : Kept x1 x2 := (ka.trans kb).trans' hK (by omega)
      have HX17 := Lib.hid hC
      clear hNa hC hK hS kb ka zka hg17
      have HB2 := Lib.hid ((HBr.out.kept y1).kept kx2)
      have HL2 := Lib.hid (HL1.out.kept kx2)
      have HC2 := Lib.hid ((HCr.out.kept y1).kept kx2)
      have HM2 := Lib.hid HX17.out
      have kz2 := (kwr.trans y1).trans kx2
      have z17 : w.heap.size ≤ g17 := by have := kwr.size; have := y1.size; omega
      have n1 : ¬ g = g17 := by have := HBr.out.lt; have := y1.size; omega
      have n2 : ¬ g14 = g17 := by have := HL1.out.lt; omega
      have n3 : ¬ g15 = g17 := by have := HCr.out.lt; have := y1.size; omega
      clear HBr HLr HCr HL1 y1 kx2 kwr HX17
      go_upto_region 15 with fail
      refine wp_text 2 [.eq (.bool false), .eq (.bool false)] rfl (by kernel_rfl) ?_ ?_
      · refine fsteps_cons 1 rfl (fun a u hE hD hk => f_as (show ((decide (((k : Int) : Int) = (1 : Int))) : Bool) = false from decide_eq_false (by have := HK.out; omega)) (f_val (o := ⟨some 66, _, _, _, _, _⟩) (.bool (decide (((k : Int) : Int) = (1 : Int)))) rfl (wanted_none rfl _) (exec_eqn (p := (k : Int)) (q := 1) rfl (hE 64 (.int .i64 (k : Int)) (by kernel_rfl) (by kernel_rfl)) rfl) rfl)) ?_
        refine sv 2 rfl rfl rfl (fun a u hE hD hk => exec_assign (.tmp 66) _ rfl (hD 0 66 (by kernel_rfl))) ?_
        exact fsteps_nil
      intro gv x3 hV yk
      rw [show dstsOf _ 2 = [66, 65] by kernel_rfl]
      simp only [List.foldl_cons, List.foldl_nil, List.setIfInBounds_toArray, List.set_cons_succ, List.set_cons_zero, List.drop_succ_cons, List.drop_zero]
      rw [show gv 65 = .bool false from hV 1 65 (by kernel_rfl)]
      clear hV
      refine wpList_nil ?_
      have HB3 := Lib.hid (HB2.out.kept yk)
      have HL3 := Lib.hid (HL2.out.kept yk)
      have HC3 := Lib.hid (HC2.out.kept yk)
      have HM3 := Lib.hid (HM2.out.kept yk)
      have kz3 := kz2.trans yk
      clear HB2 HL2 HC2 HM2 kz2 yk
      go_upto_region 17 with fail
      refine wp_text 2 [.eq (.bool false), .eq (.bool false)] rfl (by kernel_rfl) ?_ ?_
      · refine fsteps_cons 1 rfl (fun a u hE hD hk => f_as (show ((decide (((k : Int) : Int) = (2 : Int))) : Bool) = false from decide_eq_false (by have := HK.out; omega)) (f_val (o := ⟨some 72, _, _, _, _, _⟩) (.bool (decide (((k : Int) : Int) = (2 : Int)))) rfl (wanted_none rfl _) (exec_eqn (p := (k : Int)) (q := 2) rfl (hE 64 (.int .i64 (k : Int)) (by kernel_rfl) (by kernel_rfl)) rfl) rfl)) ?_
        refine sv 2 rfl rfl rfl (fun a u hE hD hk => exec_assign (.tmp 72) _ rfl (hD 0 72 (by kernel_rfl))) ?_
        exact fsteps_nil
      intro gv x4 hV yk
      rw [show dstsOf _ 2 = [72, 71] by kernel_rfl]
      simp only [List.foldl_cons, List.foldl_nil, List.setIfInBounds_toArray, List.set_cons_succ, List.set_cons_zero, List.drop_succ_cons, List.drop_zero]
      rw [show gv 71 = .bool false from hV 1 71 (by kernel_rfl)]
      clear hV
      refine wpList_nil ?_
      have HB4 := Lib.hid (HB3.out.kept yk)
      have HL4 := Lib.hid (HL3.out.kept yk)
      have HC4 := Lib.hid (HC3.out.kept yk)
      have HM4 := Lib.hid (HM3.out.kept yk)
      have kz4 := kz3.trans yk
      clear HB3 HL3 HC3 HM3 kz3 yk
      go_upto_region 19 with fail
      refine wp_text 2 [.eq (.bool false), .eq (.bool false)] rfl (by kernel_rfl) ?_ ?_
      · refine fsteps_cons 1 rfl (fun a u hE hD hk => f_as (show ((decide (((k : Int) : Int) = (3 : Int))) : Bool) = false from decide_eq_false (by have := HK.out; omega)) (f_val (o := ⟨some 78, _, _, _, _, _⟩) (.bool (decide (((k : Int) : Int) = (3 : Int)))) rfl (wanted_none rfl _) (exec_eqn (p := (k : Int)) (q := 3) rfl (hE 64 (.int .i64 (k : Int)) (by kernel_rfl) (by kernel_rfl)) rfl) rfl)) ?_
        refine sv 2 rfl rfl rfl (fun a u hE hD hk => exec_assign (.tmp 78) _ rfl (hD 0 78 (by kernel_rfl))) ?_
        exact fsteps_nil
      intro gv x5 hV yk
      rw [show dstsOf _ 2 = [78, 77] by kernel_rfl]
      simp only [List.foldl_cons, List.foldl_nil, List.setIfInBounds_toArray, List.set_cons_succ, List.set_cons_zero, List.drop_succ_cons, List.drop_zero]
      rw [show gv 77 = .bool false from hV 1 77 (by kernel_rfl)]
      clear hV
      refine wpList_nil ?_
      have HB5 := Lib.hid (HB4.out.kept yk)
      have HL5 := Lib.hid (HL4.out.kept yk)
      have HC5 := Lib.hid (HC4.out.kept yk)
      have HM5 := Lib.hid (HM4.out.kept yk)
      have kz5 := kz4.trans yk
      clear HB4 HL4 HC4 HM4 kz4 yk
      go_upto_region 21 with fail
      refine wp_text 2 [.eq (.bool false), .eq (.bool false)] rfl (by kernel_rfl) ?_ ?_
      · refine fsteps_cons 1 rfl (fun a u hE hD hk => f_as (show ((decide (((k : Int) : Int) = (4 : Int))) : Bool) = false from decide_eq_false (by have := HK.out; omega)) (f_val (o := ⟨some 84, _, _, _, _, _⟩) (.bool (decide (((k : Int) : Int) = (4 : Int)))) rfl (wanted_none rfl _) (exec_eqn (p := (k : Int)) (q := 4) rfl (hE 64 (.int .i64 (k : Int)) (by kernel_rfl) (by kernel_rfl)) rfl) rfl)) ?_
        refine sv 2 rfl rfl rfl (fun a u hE hD hk => exec_assign (.tmp 84) _ rfl (hD 0 84 (by kernel_rfl))) ?_
        exact fsteps_nil
      intro gv x6 hV yk
      rw [show dstsOf _ 2 = [84, 83] by kernel_rfl]
      simp only [List.foldl_cons, List.foldl_nil, List.setIfInBounds_toArray, List.set_cons_succ, List.set_cons_zero, List.drop_succ_cons, List.drop_zero]
      rw [show gv 83 = .bool false from hV 1 83 (by kernel_rfl)]
      clear hV
      refine wpList_nil ?_
      have HB6 := Lib.hid (HB5.out.kept yk)
      have HL6 := Lib.hid (HL5.out.kept yk)
      have HC6 := Lib.hid (HC5.out.kept yk)
      have HM6 := Lib.hid (HM5.out.kept yk)
      have kz6 := kz5.trans yk
      clear HB5 HL5 HC5 HM5 kz5 yk
      have HMz := Lib.hid (blk_range HM6.out)
      go_upto_region 23 with fail
      refine wp_text 8 [.eq (.pointer (some ⟨g, 0, none⟩)), .eq (L.v), .eq (c.v), .eq (.int .i64 0), .eq (.bool true), .eq (.int .i64 (k : Int)), .eq (.bool true), .eq (.bool false)] rfl (by kernel_rfl) ?_ ?_
      · refine sv 1 rfl rfl rfl (fun a u hE hD hk => exec_move (.tmp 9) _ rfl (hE 9 (.pointer (some ⟨g, 0, none⟩)) (by kernel_rfl) (by kernel_rfl))) ?_
        refine sv 2 rfl rfl rfl (fun a u hE hD hk => exec_ldS 25 _ (.tmp 17) (g17) (0) (L.cells) rfl (hE 17 (.pointer (some ⟨g17, 0, none⟩)) (by kernel_rfl) (by kernel_rfl)) (range_kept HMz.out hk) Try.underlying25 (by rw [L.len4l]; exact szLim)) ?_
        refine sv 3 rfl rfl rfl (fun a u hE hD hk => exec_ldS 29 _ (.tmp 15) (g15) (0) (c.cells) rfl (hE 15 (.pointer (some ⟨g15, 0, none⟩)) (by kernel_rfl) (by kernel_rfl)) (range_kept (blk_range HC6.out) hk) Try.underlying29 (by rw [c.len9]; exact ord_size)) ?_
        refine fsteps_cons 4 rfl (fun a u hE hD hk => f_call (o := ⟨some 92, _, _, _, _, _⟩) 10 #[.pointer (some ⟨g, 0, none⟩), L.v, c.v, .int .i64 0] rfl (wanted_none rfl _) (exec_call 10 _ [.tmp 89, .tmp 90, .tmp 91, .const (.int .i64 0)] _ [.pointer (some ⟨g, 0, none⟩), L.v, c.v, .int .i64 0] Try.func10 (by kernel_rfl) (by kernel_rfl) rfl (show [a.eval (.tmp 89), a.eval (.tmp 90), a.eval (.tmp 91), a.eval (.const (.int .i64 0))] = [.pointer (some ⟨g, 0, none⟩), L.v, c.v, .int .i64 0] from (by rw [show a.eval (.tmp 89) = .pointer (some ⟨g, 0, none⟩) from (hD 0 89 (by kernel_rfl)), show a.eval (.tmp 90) = L.v from (hD 1 90 (by kernel_rfl)), show a.eval (.tmp 91) = c.v from (hD 2 91 (by kernel_rfl))] <;> rfl)) u) (check_at (HB6.out.kept hk) OZ.out C0.out)) ?_
        refine fsteps_cons 5 rfl (fun a u hE hD hk => f_as (show ((decide ((0 : Int) = (0 : Int))) : Bool) = true from decide_eq_true (by omega)) (f_val (o := ⟨some 93, _, _, _, _, _⟩) (.bool (decide ((0 : Int) = (0 : Int)))) rfl (wanted_none rfl _) (exec_eqn (p := 0) (q := 0) rfl (hD 3 92 (by kernel_rfl)) rfl) rfl)) ?_
        refine sv 6 rfl rfl rfl (fun a u hE hD hk => exec_move (.tmp 16) _ rfl (hE 16 (.int .i64 (k : Int)) (by kernel_rfl) (by kernel_rfl))) ?_
        refine fsteps_cons 7 rfl (fun a u hE hD hk => f_as (show ((decide (((k : Int) : Int) = (0 : Int))) : Bool) = true from decide_eq_true (by have := HK.out; omega)) (f_val (o := ⟨some 95, _, _, _, _, _⟩) (.bool (decide (((k : Int) : Int) = (0 : Int)))) rfl (wanted_none rfl _) (exec_eqn (p := (k : Int)) (q := 0) rfl (hD 5 94 (by kernel_rfl)) rfl) rfl)) ?_
        refine sv 8 rfl rfl rfl (fun a u hE hD hk => exec_neb (.tmp 93) (.tmp 95) _ true true false rfl (hD 4 93 (by kernel_rfl)) (hD 6 95 (by kernel_rfl)) (by decide)) ?_
        exact fsteps_nil
      intro gv xz hV yz
      rw [show dstsOf _ 8 = [89, 90, 91, 92, 93, 94, 95, 96] by kernel_rfl]
      simp only [List.foldl_cons, List.foldl_nil, List.setIfInBounds_toArray, List.set_cons_succ, List.set_cons_zero, List.drop_succ_cons, List.drop_zero]
      rw [show gv 96 = .bool false from hV 7 96 (by kernel_rfl)]
      clear hV
      refine wpList_nil ?_
      have HBz := Lib.hid (HB6.out.kept yz)
      have HLz := Lib.hid (HL6.out.kept yz)
      have HCz := Lib.hid (HC6.out.kept yz)
      have kwz := kz6.trans yz
      have hk4 : k < 5 := by have := HK.out; omega
      go_wp2
      exact ⟨⟨k + 1, by simp, by omega, HBz, HLz, HCz, kwz⟩, by simp [intOf]; omega⟩
    · skip
      have HK := Lib.hid hki
      clear hki
      go_upto_region 11 with fail
      refine wp_text 2 [.eq (.int .i64 (k : Int)), .eq (.bool true)] rfl (by kernel_rfl) ?_ ?_
      · refine sv 1 rfl rfl rfl (fun a u hE hD hk => exec_move (.tmp 16) _ rfl (hE 16 (.int .i64 (k : Int)) (by kernel_rfl) (by kernel_rfl))) ?_
        refine fsteps_cons 2 rfl (fun a u hE hD hk => f_as (show ((decide (((k : Int) : Int) < (5 : Int))) : Bool) = true from decide_eq_true (by have := HK.out; omega)) (f_val (o := ⟨some 60, _, _, _, _, _⟩) (.bool (decide (((k : Int) : Int) < (5 : Int)))) rfl (wanted_none rfl _) (exec_ltn (p := (k : Int)) (q := 5) rfl (hD 0 59 (by kernel_rfl)) rfl) rfl)) ?_
        exact fsteps_nil
      intro gv x1 hV y1
      rw [show dstsOf _ 2 = [59, 60] by kernel_rfl]
      simp only [List.foldl_cons, List.foldl_nil, List.setIfInBounds_toArray, List.set_cons_succ, List.set_cons_zero, List.drop_succ_cons, List.drop_zero]
      rw [show gv 60 = .bool true from hV 1 60 (by kernel_rfl)]
      clear hV
      refine wpList_nil ?_
      have HL1 := Lib.hid (HLr.out.kept y1)
      go_upto_region 13 with fail
      refine wp_text 1 [.eq (L.v)] rfl (by kernel_rfl) ?_ ?_
      · refine sv 1 rfl rfl rfl (fun a u hE hD hk => exec_ldS 25 _ (.tmp 14) (g14) (0) (L.cells) rfl (hE 14 (.pointer (some ⟨g14, 0, none⟩)) (by kernel_rfl) (by kernel_rfl)) (range_kept (blk_range HL1.out) hk) Try.underlying25 (by rw [L.len4l]; exact szLim)) ?_
        exact fsteps_nil
      intro gv wa hV ka
      rw [show dstsOf _ 1 = [63] by kernel_rfl]
      simp only [List.foldl_cons, List.foldl_nil, List.setIfInBounds_toArray, List.set_cons_succ, List.set_cons_zero, List.drop_succ_cons, List.drop_zero]
      rw [show gv 63 = L.v from hV 0 63 (by kernel_rfl)]
      clear hV
      refine l_new (o := ⟨some 17, _, _, _, _, _⟩) (.pointer (some ⟨wa.heap.size, 0, none⟩)) (wa.alloc (.cells zeroL.cells.toArray 25)) rfl (exec_alc 25 zeroL.cells rfl zLim) ?_
      have hNa := Blk.new wa 25 zeroL.cells
      have kb : Kept wa (wa.alloc (.cells zeroL.cells.toArray 25)) := (Keep.refl _ wa).alloc _
      generalize wa.alloc (.cells zeroL.cells.toArray 25) = wb at hNa kb ⊢
      simp only [Act.put, List.setIfInBounds_toArray, List.set_cons_succ, List.set_cons_zero]
      refine l_setS (o := ⟨none, _, _, _, _, _⟩) 25 wa.heap.size 25 zeroL.cells L.cells (.tmp 17) (.tmp 63) rfl rfl (by kernel_rfl) (by kernel_rfl) hNa (by rw [Lim.len4l]; exact szLim) (by rw [Lim.len4l, Lim.len4l]) (Lim.one _) ?_
      intro x2 hC hK hS
      simp only [Act.put]
      refine wpList_nil ?_
      obtain ⟨g17, hg17⟩ : ∃ y, wa.heap.size = y := ⟨_, rfl⟩
      rw [hg17] at hNa hC hK ⊢
      have zka := ka.size
      have z17 : x1.heap.size ≤ g17 := by omega
      have kx2 : Kept x1 x2 := (ka.trans kb).trans' hK (by omega)
      have HX17 := Lib.hid hC
      clear hNa hC hK hS kb ka zka hg17
      have HB2 := Lib.hid ((HBr.out.kept y1).kept kx2)
      have HL2 := Lib.hid (HL1.out.kept kx2)
      have HC2 := Lib.hid ((HCr.out.kept y1).kept kx2)
      have HM2 := Lib.hid HX17.out
      have kz2 := (kwr.trans y1).trans kx2
      have z17 : w.heap.size ≤ g17 := by have := kwr.size; have := y1.size; omega
      have n1 : ¬ g = g17 := by have := HBr.out.lt; have := y1.size; omega
      have n2 : ¬ g14 = g17 := by have := HL1.out.lt; omega
      have n3 : ¬ g15 = g17 := by have := HCr.out.lt; have := y1.size; omega
      clear HBr HLr HCr HL1 y1 kx2 kwr HX17
      go_upto_region 15 with fail
      refine wp_text 2 [.eq (.bool true), .eq (.bool true)] rfl (by kernel_rfl) ?_ ?_
      · refine fsteps_cons 1 rfl (fun a u hE hD hk => f_as (show ((decide (((k : Int) : Int) = (1 : Int))) : Bool) = true from decide_eq_true (by have := HK.out; omega)) (f_val (o := ⟨some 66, _, _, _, _, _⟩) (.bool (decide (((k : Int) : Int) = (1 : Int)))) rfl (wanted_none rfl _) (exec_eqn (p := (k : Int)) (q := 1) rfl (hE 64 (.int .i64 (k : Int)) (by kernel_rfl) (by kernel_rfl)) rfl) rfl)) ?_
        refine sv 2 rfl rfl rfl (fun a u hE hD hk => exec_assign (.tmp 66) _ rfl (hD 0 66 (by kernel_rfl))) ?_
        exact fsteps_nil
      intro gv x3 hV yk
      rw [show dstsOf _ 2 = [66, 65] by kernel_rfl]
      simp only [List.foldl_cons, List.foldl_nil, List.setIfInBounds_toArray, List.set_cons_succ, List.set_cons_zero, List.drop_succ_cons, List.drop_zero]
      rw [show gv 65 = .bool true from hV 1 65 (by kernel_rfl)]
      clear hV
      refine wpList_nil ?_
      have HB3 := Lib.hid (HB2.out.kept yk)
      have HL3 := Lib.hid (HL2.out.kept yk)
      have HC3 := Lib.hid (HC2.out.kept yk)
      have HM3 := Lib.hid (HM2.out.kept yk)
      have kz3 := kz2.trans yk
      clear HB2 HL2 HC2 HM2 kz2 yk
      have HMr := Lib.hid (blk_range HM3.out)
      go_upto_region 16 with fail
      refine wp_text 4 [.eq (.pointer (some ⟨g17, 0, none⟩)), .eq (.int .i64 L.q), .eq (.int .i64 ((L.q : Int) - (1 : Int))), .eq (.pointer (some ⟨g17, 0, none⟩))] rfl (by kernel_rfl) ?_ ?_
      · refine sv 1 rfl rfl rfl (fun a u hE hD hk => exec_fldo 25 0 0 (.tmp 17) (g17) (0) (0) rfl (hE 17 (.pointer (some ⟨g17, 0, none⟩)) (by kernel_rfl) (by kernel_rfl)) (by kernel_rfl) rfl) ?_
        refine sv 2 rfl rfl rfl (fun a u hE hD hk => exec_loadi 3 Try.underlying3 (.tmp 67) ⟨g17, 0, none⟩ (.int .i64 L.q) rfl (hD 0 67 (by kernel_rfl)) (range_int (range_kept HMr.out hk) 0 _ rfl)) ?_
        refine sv 3 rfl rfl rfl (fun a u hE hD hk => exec_subn (p := (L.q)) (q := (1)) ((L.q : Int) - (1 : Int)) rfl (hD 1 68 (by kernel_rfl)) rfl rfl (by omega) (by omega)) ?_
        refine sv 4 rfl rfl rfl (fun a u hE hD hk => exec_fldo 25 0 0 (.tmp 17) (g17) (0) (0) rfl (hE 17 (.pointer (some ⟨g17, 0, none⟩)) (by kernel_rfl) (by kernel_rfl)) (by kernel_rfl) rfl) ?_
        exact fsteps_nil
      intro gv xa hV ya
      rw [show dstsOf _ 4 = [67, 68, 69, 70] by kernel_rfl]
      simp only [List.foldl_cons, List.foldl_nil, List.setIfInBounds_toArray, List.set_cons_succ, List.set_cons_zero, List.drop_succ_cons, List.drop_zero]
      rw [show gv 70 = .pointer (some ⟨g17, 0, none⟩) from hV 3 70 (by kernel_rfl)]
      rw [show gv 69 = .int .i64 ((L.q : Int) - (1 : Int)) from hV 2 69 (by kernel_rfl)]
      clear hV
      refine l_putN (o := ⟨none, _, _, _, _, _⟩) g17 0 25 L.cells M1.cells (L.q - 1) (.tmp 70) (.tmp 69) rfl rfl (by kernel_rfl) (by kernel_rfl) (HM3.out.kept ya) (by rw [Lim.len4l]; omega) S1.out ?_
      intro xb hC hK hS
      simp only [Act.put]
      refine wpList_nil ?_
      have HB4 := Lib.hid ((HB3.out.kept ya).keep hK n1)
      have HL4 := Lib.hid ((HL3.out.kept ya).keep hK n2)
      have HC4 := Lib.hid ((HC3.out.kept ya).keep hK n3)
      have HM4 := Lib.hid hC
      have kz4 : Kept w xb := kept_own (kz3.trans ya) z17 hK
      clear HB3 HL3 HC3 HM3 kz3 ya hC hK hS HMr
      have HMz := Lib.hid (blk_range HM4.out)
      go_upto_region 23 with fail
      refine wp_text 8 [.eq (.pointer (some ⟨g, 0, none⟩)), .eq (M1.v), .eq (c.v), .eq (.int .i64 8), .eq (.bool false), .eq (.int .i64 (k : Int)), .eq (.bool false), .eq (.bool false)] rfl (by kernel_rfl) ?_ ?_
      · refine sv 1 rfl rfl rfl (fun a u hE hD hk => exec_move (.tmp 9) _ rfl (hE 9 (.pointer (some ⟨g, 0, none⟩)) (by kernel_rfl) (by kernel_rfl))) ?_
        refine sv 2 rfl rfl rfl (fun a u hE hD hk => exec_ldS 25 _ (.tmp 17) (g17) (0) (M1.cells) rfl (hE 17 (.pointer (some ⟨g17, 0, none⟩)) (by kernel_rfl) (by kernel_rfl)) (range_kept HMz.out hk) Try.underlying25 (by rw [M1.len4l]; exact szLim)) ?_
        refine sv 3 rfl rfl rfl (fun a u hE hD hk => exec_ldS 29 _ (.tmp 15) (g15) (0) (c.cells) rfl (hE 15 (.pointer (some ⟨g15, 0, none⟩)) (by kernel_rfl) (by kernel_rfl)) (range_kept (blk_range HC4.out) hk) Try.underlying29 (by rw [c.len9]; exact ord_size)) ?_
        refine fsteps_cons 4 rfl (fun a u hE hD hk => f_call (o := ⟨some 92, _, _, _, _, _⟩) 10 #[.pointer (some ⟨g, 0, none⟩), M1.v, c.v, .int .i64 0] rfl (wanted_none rfl _) (exec_call 10 _ [.tmp 89, .tmp 90, .tmp 91, .const (.int .i64 0)] _ [.pointer (some ⟨g, 0, none⟩), M1.v, c.v, .int .i64 0] Try.func10 (by kernel_rfl) (by kernel_rfl) rfl (show [a.eval (.tmp 89), a.eval (.tmp 90), a.eval (.tmp 91), a.eval (.const (.int .i64 0))] = [.pointer (some ⟨g, 0, none⟩), M1.v, c.v, .int .i64 0] from (by rw [show a.eval (.tmp 89) = .pointer (some ⟨g, 0, none⟩) from (hD 0 89 (by kernel_rfl)), show a.eval (.tmp 90) = M1.v from (hD 1 90 (by kernel_rfl)), show a.eval (.tmp 91) = c.v from (hD 2 91 (by kernel_rfl))] <;> rfl)) u) (check_at (HB4.out.kept hk) OZ.out C1.out)) ?_
        refine fsteps_cons 5 rfl (fun a u hE hD hk => f_as (show ((decide ((8 : Int) = (0 : Int))) : Bool) = false from decide_eq_false (by omega)) (f_val (o := ⟨some 93, _, _, _, _, _⟩) (.bool (decide ((8 : Int) = (0 : Int)))) rfl (wanted_none rfl _) (exec_eqn (p := 8) (q := 0) rfl (hD 3 92 (by kernel_rfl)) rfl) rfl)) ?_
        refine sv 6 rfl rfl rfl (fun a u hE hD hk => exec_move (.tmp 16) _ rfl (hE 16 (.int .i64 (k : Int)) (by kernel_rfl) (by kernel_rfl))) ?_
        refine fsteps_cons 7 rfl (fun a u hE hD hk => f_as (show ((decide (((k : Int) : Int) = (0 : Int))) : Bool) = false from decide_eq_false (by have := HK.out; omega)) (f_val (o := ⟨some 95, _, _, _, _, _⟩) (.bool (decide (((k : Int) : Int) = (0 : Int)))) rfl (wanted_none rfl _) (exec_eqn (p := (k : Int)) (q := 0) rfl (hD 5 94 (by kernel_rfl)) rfl) rfl)) ?_
        refine sv 8 rfl rfl rfl (fun a u hE hD hk => exec_neb (.tmp 93) (.tmp 95) _ false false false rfl (hD 4 93 (by kernel_rfl)) (hD 6 95 (by kernel_rfl)) (by decide)) ?_
        exact fsteps_nil
      intro gv xz hV yz
      rw [show dstsOf _ 8 = [89, 90, 91, 92, 93, 94, 95, 96] by kernel_rfl]
      simp only [List.foldl_cons, List.foldl_nil, List.setIfInBounds_toArray, List.set_cons_succ, List.set_cons_zero, List.drop_succ_cons, List.drop_zero]
      rw [show gv 96 = .bool false from hV 7 96 (by kernel_rfl)]
      clear hV
      refine wpList_nil ?_
      have HBz := Lib.hid (HB4.out.kept yz)
      have HLz := Lib.hid (HL4.out.kept yz)
      have HCz := Lib.hid (HC4.out.kept yz)
      have kwz := kz4.trans yz
      have hk4 : k < 5 := by have := HK.out; omega
      go_wp2
      exact ⟨⟨k + 1, by simp, by omega, HBz, HLz, HCz, kwz⟩, by simp [intOf]; omega⟩
    · skip
      have HK := Lib.hid hki
      clear hki
      go_upto_region 11 with fail
      refine wp_text 2 [.eq (.int .i64 (k : Int)), .eq (.bool true)] rfl (by kernel_rfl) ?_ ?_
      · refine sv 1 rfl rfl rfl (fun a u hE hD hk => exec_move (.tmp 16) _ rfl (hE 16 (.int .i64 (k : Int)) (by kernel_rfl) (by kernel_rfl))) ?_
        refine fsteps_cons 2 rfl (fun a u hE hD hk => f_as (show ((decide (((k : Int) : Int) < (5 : Int))) : Bool) = true from decide_eq_true (by have := HK.out; omega)) (f_val (o := ⟨some 60, _, _, _, _, _⟩) (.bool (decide (((k : Int) : Int) < (5 : Int)))) rfl (wanted_none rfl _) (exec_ltn (p := (k : Int)) (q := 5) rfl (hD 0 59 (by kernel_rfl)) rfl) rfl)) ?_
        exact fsteps_nil
      intro gv x1 hV y1
      rw [show dstsOf _ 2 = [59, 60] by kernel_rfl]
      simp only [List.foldl_cons, List.foldl_nil, List.setIfInBounds_toArray, List.set_cons_succ, List.set_cons_zero, List.drop_succ_cons, List.drop_zero]
      rw [show gv 60 = .bool true from hV 1 60 (by kernel_rfl)]
      clear hV
      refine wpList_nil ?_
      have HL1 := Lib.hid (HLr.out.kept y1)
      go_upto_region 13 with fail
      refine wp_text 1 [.eq (L.v)] rfl (by kernel_rfl) ?_ ?_
      · refine sv 1 rfl rfl rfl (fun a u hE hD hk => exec_ldS 25 _ (.tmp 14) (g14) (0) (L.cells) rfl (hE 14 (.pointer (some ⟨g14, 0, none⟩)) (by kernel_rfl) (by kernel_rfl)) (range_kept (blk_range HL1.out) hk) Try.underlying25 (by rw [L.len4l]; exact szLim)) ?_
        exact fsteps_nil
      intro gv wa hV ka
      rw [show dstsOf _ 1 = [63] by kernel_rfl]
      simp only [List.foldl_cons, List.foldl_nil, List.setIfInBounds_toArray, List.set_cons_succ, List.set_cons_zero, List.drop_succ_cons, List.drop_zero]
      rw [show gv 63 = L.v from hV 0 63 (by kernel_rfl)]
      clear hV
      refine l_new (o := ⟨some 17, _, _, _, _, _⟩) (.pointer (some ⟨wa.heap.size, 0, none⟩)) (wa.alloc (.cells zeroL.cells.toArray 25)) rfl (exec_alc 25 zeroL.cells rfl zLim) ?_
      have hNa := Blk.new wa 25 zeroL.cells
      have kb : Kept wa (wa.alloc (.cells zeroL.cells.toArray 25)) := (Keep.refl _ wa).alloc _
      generalize wa.alloc (.cells zeroL.cells.toArray 25) = wb at hNa kb ⊢
      simp only [Act.put, List.setIfInBounds_toArray, List.set_cons_succ, List.set_cons_zero]
      refine l_setS (o := ⟨none, _, _, _, _, _⟩) 25 wa.heap.size 25 zeroL.cells L.cells (.tmp 17) (.tmp 63) rfl rfl (by kernel_rfl) (by kernel_rfl) hNa (by rw [Lim.len4l]; exact szLim) (by rw [Lim.len4l, Lim.len4l]) (Lim.one _) ?_
      intro x2 hC hK hS
      simp only [Act.put]
      refine wpList_nil ?_
      obtain ⟨g17, hg17⟩ : ∃ y, wa.heap.size = y := ⟨_, rfl⟩
      rw [hg17] at hNa hC hK ⊢
      have zka := ka.size
      have z17 : x1.heap.size ≤ g17 := by omega
      have kx2 : Kept x1 x2 := (ka.trans kb).trans' hK (by omega)
      have HX17 := Lib.hid hC
      clear hNa hC hK hS kb ka zka hg17
      have HB2 := Lib.hid ((HBr.out.kept y1).kept kx2)
      have HL2 := Lib.hid (HL1.out.kept kx2)
      have HC2 := Lib.hid ((HCr.out.kept y1).kept kx2)
      have HM2 := Lib.hid HX17.out
      have kz2 := (kwr.trans y1).trans kx2
      have z17 : w.heap.size ≤ g17 := by have := kwr.size; have := y1.size; omega
      have n1 : ¬ g = g17 := by have := HBr.out.lt; have := y1.size; omega
      have n2 : ¬ g14 = g17 := by have := HL1.out.lt; omega
      have n3 : ¬ g15 = g17 := by have := HCr.out.lt; have := y1.size; omega
      clear HBr HLr HCr HL1 y1 kx2 kwr HX17
      go_upto_region 15 with fail
      refine wp_text 2 [.eq (.bool false), .eq (.bool false)] rfl (by kernel_rfl) ?_ ?_
      · refine fsteps_cons 1 rfl (fun a u hE hD hk => f_as (show ((decide (((k : Int) : Int) = (1 : Int))) : Bool) = false from decide_eq_false (by have := HK.out; omega)) (f_val (o := ⟨some 66, _, _, _, _, _⟩) (.bool (decide (((k : Int) : Int) = (1 : Int)))) rfl (wanted_none rfl _) (exec_eqn (p := (k : Int)) (q := 1) rfl (hE 64 (.int .i64 (k : Int)) (by kernel_rfl) (by kernel_rfl)) rfl) rfl)) ?_
        refine sv 2 rfl rfl rfl (fun a u hE hD hk => exec_assign (.tmp 66) _ rfl (hD 0 66 (by kernel_rfl))) ?_
        exact fsteps_nil
      intro gv x3 hV yk
      rw [show dstsOf _ 2 = [66, 65] by kernel_rfl]
      simp only [List.foldl_cons, List.foldl_nil, List.setIfInBounds_toArray, List.set_cons_succ, List.set_cons_zero, List.drop_succ_cons, List.drop_zero]
      rw [show gv 65 = .bool false from hV 1 65 (by kernel_rfl)]
      clear hV
      refine wpList_nil ?_
      have HB3 := Lib.hid (HB2.out.kept yk)
      have HL3 := Lib.hid (HL2.out.kept yk)
      have HC3 := Lib.hid (HC2.out.kept yk)
      have HM3 := Lib.hid (HM2.out.kept yk)
      have kz3 := kz2.trans yk
      clear HB2 HL2 HC2 HM2 kz2 yk
      go_upto_region 17 with fail
      refine wp_text 2 [.eq (.bool true), .eq (.bool true)] rfl (by kernel_rfl) ?_ ?_
      · refine fsteps_cons 1 rfl (fun a u hE hD hk => f_as (show ((decide (((k : Int) : Int) = (2 : Int))) : Bool) = true from decide_eq_true (by have := HK.out; omega)) (f_val (o := ⟨some 72, _, _, _, _, _⟩) (.bool (decide (((k : Int) : Int) = (2 : Int)))) rfl (wanted_none rfl _) (exec_eqn (p := (k : Int)) (q := 2) rfl (hE 64 (.int .i64 (k : Int)) (by kernel_rfl) (by kernel_rfl)) rfl) rfl)) ?_
        refine sv 2 rfl rfl rfl (fun a u hE hD hk => exec_assign (.tmp 72) _ rfl (hD 0 72 (by kernel_rfl))) ?_
        exact fsteps_nil
      intro gv x4 hV yk
      rw [show dstsOf _ 2 = [72, 71] by kernel_rfl]
      simp only [List.foldl_cons, List.foldl_nil, List.setIfInBounds_toArray, List.set_cons_succ, List.set_cons_zero, List.drop_succ_cons, List.drop_zero]
      rw [show gv 71 = .bool true from hV 1 71 (by kernel_rfl)]
      clear hV
      refine wpList_nil ?_
      have HB4 := Lib.hid (HB3.out.kept yk)
      have HL4 := Lib.hid (HL3.out.kept yk)
      have HC4 := Lib.hid (HC3.out.kept yk)
      have HM4 := Lib.hid (HM3.out.kept yk)
      have kz4 := kz3.trans yk
      clear HB3 HL3 HC3 HM3 kz3 yk
      have HMr := Lib.hid (blk_range HM4.out)
      go_upto_region 18 with fail
      refine wp_text 4 [.eq (.pointer (some ⟨g17, 1, none⟩)), .eq (.int .i64 L.m), .eq (.int .i64 ((L.m : Int) - (1 : Int))), .eq (.pointer (some ⟨g17, 1, none⟩))] rfl (by kernel_rfl) ?_ ?_
      · refine sv 1 rfl rfl rfl (fun a u hE hD hk => exec_fldo 25 1 1 (.tmp 17) (g17) (0) (1) rfl (hE 17 (.pointer (some ⟨g17, 0, none⟩)) (by kernel_rfl) (by kernel_rfl)) (by kernel_rfl) rfl) ?_
        refine sv 2 rfl rfl rfl (fun a u hE hD hk => exec_loadi 3 Try.underlying3 (.tmp 73) ⟨g17, 1, none⟩ (.int .i64 L.m) rfl (hD 0 73 (by kernel_rfl)) (range_int (range_kept HMr.out hk) 1 _ rfl)) ?_
        refine sv 3 rfl rfl rfl (fun a u hE hD hk => exec_subn (p := (L.m)) (q := (1)) ((L.m : Int) - (1 : Int)) rfl (hD 1 74 (by kernel_rfl)) rfl rfl (by omega) (by omega)) ?_
        refine sv 4 rfl rfl rfl (fun a u hE hD hk => exec_fldo 25 1 1 (.tmp 17) (g17) (0) (1) rfl (hE 17 (.pointer (some ⟨g17, 0, none⟩)) (by kernel_rfl) (by kernel_rfl)) (by kernel_rfl) rfl) ?_
        exact fsteps_nil
      intro gv xa hV ya
      rw [show dstsOf _ 4 = [73, 74, 75, 76] by kernel_rfl]
      simp only [List.foldl_cons, List.foldl_nil, List.setIfInBounds_toArray, List.set_cons_succ, List.set_cons_zero, List.drop_succ_cons, List.drop_zero]
      rw [show gv 76 = .pointer (some ⟨g17, 1, none⟩) from hV 3 76 (by kernel_rfl)]
      rw [show gv 75 = .int .i64 ((L.m : Int) - (1 : Int)) from hV 2 75 (by kernel_rfl)]
      clear hV
      refine l_putN (o := ⟨none, _, _, _, _, _⟩) g17 1 25 L.cells M2.cells (L.m - 1) (.tmp 76) (.tmp 75) rfl rfl (by kernel_rfl) (by kernel_rfl) (HM4.out.kept ya) (by rw [Lim.len4l]; omega) S2.out ?_
      intro xb hC hK hS
      simp only [Act.put]
      refine wpList_nil ?_
      have HB5 := Lib.hid ((HB4.out.kept ya).keep hK n1)
      have HL5 := Lib.hid ((HL4.out.kept ya).keep hK n2)
      have HC5 := Lib.hid ((HC4.out.kept ya).keep hK n3)
      have HM5 := Lib.hid hC
      have kz5 : Kept w xb := kept_own (kz4.trans ya) z17 hK
      clear HB4 HL4 HC4 HM4 kz4 ya hC hK hS HMr
      have HMz := Lib.hid (blk_range HM5.out)
      go_upto_region 23 with fail
      refine wp_text 8 [.eq (.pointer (some ⟨g, 0, none⟩)), .eq (M2.v), .eq (c.v), .eq (.int .i64 8), .eq (.bool false), .eq (.int .i64 (k : Int)), .eq (.bool false), .eq (.bool false)] rfl (by kernel_rfl) ?_ ?_
      · refine sv 1 rfl rfl rfl (fun a u hE hD hk => exec_move (.tmp 9) _ rfl (hE 9 (.pointer (some ⟨g, 0, none⟩)) (by kernel_rfl) (by kernel_rfl))) ?_
        refine sv 2 rfl rfl rfl (fun a u hE hD hk => exec_ldS 25 _ (.tmp 17) (g17) (0) (M2.cells) rfl (hE 17 (.pointer (some ⟨g17, 0, none⟩)) (by kernel_rfl) (by kernel_rfl)) (range_kept HMz.out hk) Try.underlying25 (by rw [M2.len4l]; exact szLim)) ?_
        refine sv 3 rfl rfl rfl (fun a u hE hD hk => exec_ldS 29 _ (.tmp 15) (g15) (0) (c.cells) rfl (hE 15 (.pointer (some ⟨g15, 0, none⟩)) (by kernel_rfl) (by kernel_rfl)) (range_kept (blk_range HC5.out) hk) Try.underlying29 (by rw [c.len9]; exact ord_size)) ?_
        refine fsteps_cons 4 rfl (fun a u hE hD hk => f_call (o := ⟨some 92, _, _, _, _, _⟩) 10 #[.pointer (some ⟨g, 0, none⟩), M2.v, c.v, .int .i64 0] rfl (wanted_none rfl _) (exec_call 10 _ [.tmp 89, .tmp 90, .tmp 91, .const (.int .i64 0)] _ [.pointer (some ⟨g, 0, none⟩), M2.v, c.v, .int .i64 0] Try.func10 (by kernel_rfl) (by kernel_rfl) rfl (show [a.eval (.tmp 89), a.eval (.tmp 90), a.eval (.tmp 91), a.eval (.const (.int .i64 0))] = [.pointer (some ⟨g, 0, none⟩), M2.v, c.v, .int .i64 0] from (by rw [show a.eval (.tmp 89) = .pointer (some ⟨g, 0, none⟩) from (hD 0 89 (by kernel_rfl)), show a.eval (.tmp 90) = M2.v from (hD 1 90 (by kernel_rfl)), show a.eval (.tmp 91) = c.v from (hD 2 91 (by kernel_rfl))] <;> rfl)) u) (check_at (HB5.out.kept hk) OZ.out C2.out)) ?_
        refine fsteps_cons 5 rfl (fun a u hE hD hk => f_as (show ((decide ((8 : Int) = (0 : Int))) : Bool) = false from decide_eq_false (by omega)) (f_val (o := ⟨some 93, _, _, _, _, _⟩) (.bool (decide ((8 : Int) = (0 : Int)))) rfl (wanted_none rfl _) (exec_eqn (p := 8) (q := 0) rfl (hD 3 92 (by kernel_rfl)) rfl) rfl)) ?_
        refine sv 6 rfl rfl rfl (fun a u hE hD hk => exec_move (.tmp 16) _ rfl (hE 16 (.int .i64 (k : Int)) (by kernel_rfl) (by kernel_rfl))) ?_
        refine fsteps_cons 7 rfl (fun a u hE hD hk => f_as (show ((decide (((k : Int) : Int) = (0 : Int))) : Bool) = false from decide_eq_false (by have := HK.out; omega)) (f_val (o := ⟨some 95, _, _, _, _, _⟩) (.bool (decide (((k : Int) : Int) = (0 : Int)))) rfl (wanted_none rfl _) (exec_eqn (p := (k : Int)) (q := 0) rfl (hD 5 94 (by kernel_rfl)) rfl) rfl)) ?_
        refine sv 8 rfl rfl rfl (fun a u hE hD hk => exec_neb (.tmp 93) (.tmp 95) _ false false false rfl (hD 4 93 (by kernel_rfl)) (hD 6 95 (by kernel_rfl)) (by decide)) ?_
        exact fsteps_nil
      intro gv xz hV yz
      rw [show dstsOf _ 8 = [89, 90, 91, 92, 93, 94, 95, 96] by kernel_rfl]
      simp only [List.foldl_cons, List.foldl_nil, List.setIfInBounds_toArray, List.set_cons_succ, List.set_cons_zero, List.drop_succ_cons, List.drop_zero]
      rw [show gv 96 = .bool false from hV 7 96 (by kernel_rfl)]
      clear hV
      refine wpList_nil ?_
      have HBz := Lib.hid (HB5.out.kept yz)
      have HLz := Lib.hid (HL5.out.kept yz)
      have HCz := Lib.hid (HC5.out.kept yz)
      have kwz := kz5.trans yz
      have hk4 : k < 5 := by have := HK.out; omega
      go_wp2
      exact ⟨⟨k + 1, by simp, by omega, HBz, HLz, HCz, kwz⟩, by simp [intOf]; omega⟩
    · skip
      have HK := Lib.hid hki
      clear hki
      go_upto_region 11 with fail
      refine wp_text 2 [.eq (.int .i64 (k : Int)), .eq (.bool true)] rfl (by kernel_rfl) ?_ ?_
      · refine sv 1 rfl rfl rfl (fun a u hE hD hk => exec_move (.tmp 16) _ rfl (hE 16 (.int .i64 (k : Int)) (by kernel_rfl) (by kernel_rfl))) ?_
        refine fsteps_cons 2 rfl (fun a u hE hD hk => f_as (show ((decide (((k : Int) : Int) < (5 : Int))) : Bool) = true from decide_eq_true (by have := HK.out; omega)) (f_val (o := ⟨some 60, _, _, _, _, _⟩) (.bool (decide (((k : Int) : Int) < (5 : Int)))) rfl (wanted_none rfl _) (exec_ltn (p := (k : Int)) (q := 5) rfl (hD 0 59 (by kernel_rfl)) rfl) rfl)) ?_
        exact fsteps_nil
      intro gv x1 hV y1
      rw [show dstsOf _ 2 = [59, 60] by kernel_rfl]
      simp only [List.foldl_cons, List.foldl_nil, List.setIfInBounds_toArray, List.set_cons_succ, List.set_cons_zero, List.drop_succ_cons, List.drop_zero]
      rw [show gv 60 = .bool true from hV 1 60 (by kernel_rfl)]
      clear hV
      refine wpList_nil ?_
      have HL1 := Lib.hid (HLr.out.kept y1)
      go_upto_region 13 with fail
      refine wp_text 1 [.eq (L.v)] rfl (by kernel_rfl) ?_ ?_
      · refine sv 1 rfl rfl rfl (fun a u hE hD hk => exec_ldS 25 _ (.tmp 14) (g14) (0) (L.cells) rfl (hE 14 (.pointer (some ⟨g14, 0, none⟩)) (by kernel_rfl) (by kernel_rfl)) (range_kept (blk_range HL1.out) hk) Try.underlying25 (by rw [L.len4l]; exact szLim)) ?_
        exact fsteps_nil
      intro gv wa hV ka
      rw [show dstsOf _ 1 = [63] by kernel_rfl]
      simp only [List.foldl_cons, List.foldl_nil, List.setIfInBounds_toArray, List.set_cons_succ, List.set_cons_zero, List.drop_succ_cons, List.drop_zero]
      rw [show gv 63 = L.v from hV 0 63 (by kernel_rfl)]
      clear hV
      refine l_new (o := ⟨some 17, _, _, _, _, _⟩) (.pointer (some ⟨wa.heap.size, 0, none⟩)) (wa.alloc (.cells zeroL.cells.toArray 25)) rfl (exec_alc 25 zeroL.cells rfl zLim) ?_
      have hNa := Blk.new wa 25 zeroL.cells
      have kb : Kept wa (wa.alloc (.cells zeroL.cells.toArray 25)) := (Keep.refl _ wa).alloc _
      generalize wa.alloc (.cells zeroL.cells.toArray 25) = wb at hNa kb ⊢
      simp only [Act.put, List.setIfInBounds_toArray, List.set_cons_succ, List.set_cons_zero]
      refine l_setS (o := ⟨none, _, _, _, _, _⟩) 25 wa.heap.size 25 zeroL.cells L.cells (.tmp 17) (.tmp 63) rfl rfl (by kernel_rfl) (by kernel_rfl) hNa (by rw [Lim.len4l]; exact szLim) (by rw [Lim.len4l, Lim.len4l]) (Lim.one _) ?_
      intro x2 hC hK hS
      simp only [Act.put]
      refine wpList_nil ?_
      obtain ⟨g17, hg17⟩ : ∃ y, wa.heap.size = y := ⟨_, rfl⟩
      rw [hg17] at hNa hC hK ⊢
      have zka := ka.size
      have z17 : x1.heap.size ≤ g17 := by omega
      have kx2 : Kept x1 x2 := (ka.trans kb).trans' hK (by omega)
      have HX17 := Lib.hid hC
      clear hNa hC hK hS kb ka zka hg17
      have HB2 := Lib.hid ((HBr.out.kept y1).kept kx2)
      have HL2 := Lib.hid (HL1.out.kept kx2)
      have HC2 := Lib.hid ((HCr.out.kept y1).kept kx2)
      have HM2 := Lib.hid HX17.out
      have kz2 := (kwr.trans y1).trans kx2
      have z17 : w.heap.size ≤ g17 := by have := kwr.size; have := y1.size; omega
      have n1 : ¬ g = g17 := by have := HBr.out.lt; have := y1.size; omega
      have n2 : ¬ g14 = g17 := by have := HL1.out.lt; omega
      have n3 : ¬ g15 = g17 := by have := HCr.out.lt; have := y1.size; omega
      clear HBr HLr HCr HL1 y1 kx2 kwr HX17
      go_upto_region 15 with fail
      refine wp_text 2 [.eq (.bool false), .eq (.bool false)] rfl (by kernel_rfl) ?_ ?_
      · refine fsteps_cons 1 rfl (fun a u hE hD hk => f_as (show ((decide (((k : Int) : Int) = (1 : Int))) : Bool) = false from decide_eq_false (by have := HK.out; omega)) (f_val (o := ⟨some 66, _, _, _, _, _⟩) (.bool (decide (((k : Int) : Int) = (1 : Int)))) rfl (wanted_none rfl _) (exec_eqn (p := (k : Int)) (q := 1) rfl (hE 64 (.int .i64 (k : Int)) (by kernel_rfl) (by kernel_rfl)) rfl) rfl)) ?_
        refine sv 2 rfl rfl rfl (fun a u hE hD hk => exec_assign (.tmp 66) _ rfl (hD 0 66 (by kernel_rfl))) ?_
        exact fsteps_nil
      intro gv x3 hV yk
      rw [show dstsOf _ 2 = [66, 65] by kernel_rfl]
      simp only [List.foldl_cons, List.foldl_nil, List.setIfInBounds_toArray, List.set_cons_succ, List.set_cons_zero, List.drop_succ_cons, List.drop_zero]
      rw [show gv 65 = .bool false from hV 1 65 (by kernel_rfl)]
      clear hV
      refine wpList_nil ?_
      have HB3 := Lib.hid (HB2.out.kept yk)
      have HL3 := Lib.hid (HL2.out.kept yk)
      have HC3 := Lib.hid (HC2.out.kept yk)
      have HM3 := Lib.hid (HM2.out.kept yk)
      have kz3 := kz2.trans yk
      clear HB2 HL2 HC2 HM2 kz2 yk
      go_upto_region 17 with fail
      refine wp_text 2 [.eq (.bool false), .eq (.bool false)] rfl (by kernel_rfl) ?_ ?_
      · refine fsteps_cons 1 rfl (fun a u hE hD hk => f_as (show ((decide (((k : Int) : Int) = (2 : Int))) : Bool) = false from decide_eq_false (by have := HK.out; omega)) (f_val (o := ⟨some 72, _, _, _, _, _⟩) (.bool (decide (((k : Int) : Int) = (2 : Int)))) rfl (wanted_none rfl _) (exec_eqn (p := (k : Int)) (q := 2) rfl (hE 64 (.int .i64 (k : Int)) (by kernel_rfl) (by kernel_rfl)) rfl) rfl)) ?_
        refine sv 2 rfl rfl rfl (fun a u hE hD hk => exec_assign (.tmp 72) _ rfl (hD 0 72 (by kernel_rfl))) ?_
        exact fsteps_nil
      intro gv x4 hV yk
      rw [show dstsOf _ 2 = [72, 71] by kernel_rfl]
      simp only [List.foldl_cons, List.foldl_nil, List.setIfInBounds_toArray, List.set_cons_succ, List.set_cons_zero, List.drop_succ_cons, List.drop_zero]
      rw [show gv 71 = .bool false from hV 1 71 (by kernel_rfl)]
      clear hV
      refine wpList_nil ?_
      have HB4 := Lib.hid (HB3.out.kept yk)
      have HL4 := Lib.hid (HL3.out.kept yk)
      have HC4 := Lib.hid (HC3.out.kept yk)
      have HM4 := Lib.hid (HM3.out.kept yk)
      have kz4 := kz3.trans yk
      clear HB3 HL3 HC3 HM3 kz3 yk
      go_upto_region 19 with fail
      refine wp_text 2 [.eq (.bool true), .eq (.bool true)] rfl (by kernel_rfl) ?_ ?_
      · refine fsteps_cons 1 rfl (fun a u hE hD hk => f_as (show ((decide (((k : Int) : Int) = (3 : Int))) : Bool) = true from decide_eq_true (by have := HK.out; omega)) (f_val (o := ⟨some 78, _, _, _, _, _⟩) (.bool (decide (((k : Int) : Int) = (3 : Int)))) rfl (wanted_none rfl _) (exec_eqn (p := (k : Int)) (q := 3) rfl (hE 64 (.int .i64 (k : Int)) (by kernel_rfl) (by kernel_rfl)) rfl) rfl)) ?_
        refine sv 2 rfl rfl rfl (fun a u hE hD hk => exec_assign (.tmp 78) _ rfl (hD 0 78 (by kernel_rfl))) ?_
        exact fsteps_nil
      intro gv x5 hV yk
      rw [show dstsOf _ 2 = [78, 77] by kernel_rfl]
      simp only [List.foldl_cons, List.foldl_nil, List.setIfInBounds_toArray, List.set_cons_succ, List.set_cons_zero, List.drop_succ_cons, List.drop_zero]
      rw [show gv 77 = .bool true from hV 1 77 (by kernel_rfl)]
      clear hV
      refine wpList_nil ?_
      have HB5 := Lib.hid (HB4.out.kept yk)
      have HL5 := Lib.hid (HL4.out.kept yk)
      have HC5 := Lib.hid (HC4.out.kept yk)
      have HM5 := Lib.hid (HM4.out.kept yk)
      have kz5 := kz4.trans yk
      clear HB4 HL4 HC4 HM4 kz4 yk
      have HMr := Lib.hid (blk_range HM5.out)
      go_upto_region 20 with fail
      refine wp_text 4 [.eq (.pointer (some ⟨g17, 2, none⟩)), .eq (.int .i64 L.o), .eq (.int .i64 ((L.o : Int) - (1 : Int))), .eq (.pointer (some ⟨g17, 2, none⟩))] rfl (by kernel_rfl) ?_ ?_
      · refine sv 1 rfl rfl rfl (fun a u hE hD hk => exec_fldo 25 2 2 (.tmp 17) (g17) (0) (2) rfl (hE 17 (.pointer (some ⟨g17, 0, none⟩)) (by kernel_rfl) (by kernel_rfl)) (by kernel_rfl) rfl) ?_
        refine sv 2 rfl rfl rfl (fun a u hE hD hk => exec_loadi 3 Try.underlying3 (.tmp 79) ⟨g17, 2, none⟩ (.int .i64 L.o) rfl (hD 0 79 (by kernel_rfl)) (range_int (range_kept HMr.out hk) 2 _ rfl)) ?_
        refine sv 3 rfl rfl rfl (fun a u hE hD hk => exec_subn (p := (L.o)) (q := (1)) ((L.o : Int) - (1 : Int)) rfl (hD 1 80 (by kernel_rfl)) rfl rfl (by omega) (by omega)) ?_
        refine sv 4 rfl rfl rfl (fun a u hE hD hk => exec_fldo 25 2 2 (.tmp 17) (g17) (0) (2) rfl (hE 17 (.pointer (some ⟨g17, 0, none⟩)) (by kernel_rfl) (by kernel_rfl)) (by kernel_rfl) rfl) ?_
        exact fsteps_nil
      intro gv xa hV ya
      rw [show dstsOf _ 4 = [79, 80, 81, 82] by kernel_rfl]
      simp only [List.foldl_cons, List.foldl_nil, List.setIfInBounds_toArray, List.set_cons_succ, List.set_cons_zero, List.drop_succ_cons, List.drop_zero]
      rw [show gv 82 = .pointer (some ⟨g17, 2, none⟩) from hV 3 82 (by kernel_rfl)]
      rw [show gv 81 = .int .i64 ((L.o : Int) - (1 : Int)) from hV 2 81 (by kernel_rfl)]
      clear hV
      refine l_putN (o := ⟨none, _, _, _, _, _⟩) g17 2 25 L.cells M3.cells (L.o - 1) (.tmp 82) (.tmp 81) rfl rfl (by kernel_rfl) (by kernel_rfl) (HM5.out.kept ya) (by rw [Lim.len4l]; omega) S3.out ?_
      intro xb hC hK hS
      simp only [Act.put]
      refine wpList_nil ?_
      have HB6 := Lib.hid ((HB5.out.kept ya).keep hK n1)
      have HL6 := Lib.hid ((HL5.out.kept ya).keep hK n2)
      have HC6 := Lib.hid ((HC5.out.kept ya).keep hK n3)
      have HM6 := Lib.hid hC
      have kz6 : Kept w xb := kept_own (kz5.trans ya) z17 hK
      clear HB5 HL5 HC5 HM5 kz5 ya hC hK hS HMr
      have HMz := Lib.hid (blk_range HM6.out)
      go_upto_region 23 with fail
      refine wp_text 8 [.eq (.pointer (some ⟨g, 0, none⟩)), .eq (M3.v), .eq (c.v), .eq (.int .i64 8), .eq (.bool false), .eq (.int .i64 (k : Int)), .eq (.bool false), .eq (.bool false)] rfl (by kernel_rfl) ?_ ?_
      · refine sv 1 rfl rfl rfl (fun a u hE hD hk => exec_move (.tmp 9) _ rfl (hE 9 (.pointer (some ⟨g, 0, none⟩)) (by kernel_rfl) (by kernel_rfl))) ?_
        refine sv 2 rfl rfl rfl (fun a u hE hD hk => exec_ldS 25 _ (.tmp 17) (g17) (0) (M3.cells) rfl (hE 17 (.pointer (some ⟨g17, 0, none⟩)) (by kernel_rfl) (by kernel_rfl)) (range_kept HMz.out hk) Try.underlying25 (by rw [M3.len4l]; exact szLim)) ?_
        refine sv 3 rfl rfl rfl (fun a u hE hD hk => exec_ldS 29 _ (.tmp 15) (g15) (0) (c.cells) rfl (hE 15 (.pointer (some ⟨g15, 0, none⟩)) (by kernel_rfl) (by kernel_rfl)) (range_kept (blk_range HC6.out) hk) Try.underlying29 (by rw [c.len9]; exact ord_size)) ?_
        refine fsteps_cons 4 rfl (fun a u hE hD hk => f_call (o := ⟨some 92, _, _, _, _, _⟩) 10 #[.pointer (some ⟨g, 0, none⟩), M3.v, c.v, .int .i64 0] rfl (wanted_none rfl _) (exec_call 10 _ [.tmp 89, .tmp 90, .tmp 91, .const (.int .i64 0)] _ [.pointer (some ⟨g, 0, none⟩), M3.v, c.v, .int .i64 0] Try.func10 (by kernel_rfl) (by kernel_rfl) rfl (show [a.eval (.tmp 89), a.eval (.tmp 90), a.eval (.tmp 91), a.eval (.const (.int .i64 0))] = [.pointer (some ⟨g, 0, none⟩), M3.v, c.v, .int .i64 0] from (by rw [show a.eval (.tmp 89) = .pointer (some ⟨g, 0, none⟩) from (hD 0 89 (by kernel_rfl)), show a.eval (.tmp 90) = M3.v from (hD 1 90 (by kernel_rfl)), show a.eval (.tmp 91) = c.v from (hD 2 91 (by kernel_rfl))] <;> rfl)) u) (check_at (HB6.out.kept hk) OZ.out C3.out)) ?_
        refine fsteps_cons 5 rfl (fun a u hE hD hk => f_as (show ((decide ((8 : Int) = (0 : Int))) : Bool) = false from decide_eq_false (by omega)) (f_val (o := ⟨some 93, _, _, _, _, _⟩) (.bool (decide ((8 : Int) = (0 : Int)))) rfl (wanted_none rfl _) (exec_eqn (p := 8) (q := 0) rfl (hD 3 92 (by kernel_rfl)) rfl) rfl)) ?_
        refine sv 6 rfl rfl rfl (fun a u hE hD hk => exec_move (.tmp 16) _ rfl (hE 16 (.int .i64 (k : Int)) (by kernel_rfl) (by kernel_rfl))) ?_
        refine fsteps_cons 7 rfl (fun a u hE hD hk => f_as (show ((decide (((k : Int) : Int) = (0 : Int))) : Bool) = false from decide_eq_false (by have := HK.out; omega)) (f_val (o := ⟨some 95, _, _, _, _, _⟩) (.bool (decide (((k : Int) : Int) = (0 : Int)))) rfl (wanted_none rfl _) (exec_eqn (p := (k : Int)) (q := 0) rfl (hD 5 94 (by kernel_rfl)) rfl) rfl)) ?_
        refine sv 8 rfl rfl rfl (fun a u hE hD hk => exec_neb (.tmp 93) (.tmp 95) _ false false false rfl (hD 4 93 (by kernel_rfl)) (hD 6 95 (by kernel_rfl)) (by decide)) ?_
        exact fsteps_nil
      intro gv xz hV yz
      rw [show dstsOf _ 8 = [89, 90, 91, 92, 93, 94, 95, 96] by kernel_rfl]
      simp only [List.foldl_cons, List.foldl_nil, List.setIfInBounds_toArray, List.set_cons_succ, List.set_cons_zero, List.drop_succ_cons, List.drop_zero]
      rw [show gv 96 = .bool false from hV 7 96 (by kernel_rfl)]
      clear hV
      refine wpList_nil ?_
      have HBz := Lib.hid (HB6.out.kept yz)
      have HLz := Lib.hid (HL6.out.kept yz)
      have HCz := Lib.hid (HC6.out.kept yz)
      have kwz := kz6.trans yz
      have hk4 : k < 5 := by have := HK.out; omega
      go_wp2
      exact ⟨⟨k + 1, by simp, by omega, HBz, HLz, HCz, kwz⟩, by simp [intOf]; omega⟩
    · skip
      have HK := Lib.hid hki
      clear hki
      go_upto_region 11 with fail
      refine wp_text 2 [.eq (.int .i64 (k : Int)), .eq (.bool true)] rfl (by kernel_rfl) ?_ ?_
      · refine sv 1 rfl rfl rfl (fun a u hE hD hk => exec_move (.tmp 16) _ rfl (hE 16 (.int .i64 (k : Int)) (by kernel_rfl) (by kernel_rfl))) ?_
        refine fsteps_cons 2 rfl (fun a u hE hD hk => f_as (show ((decide (((k : Int) : Int) < (5 : Int))) : Bool) = true from decide_eq_true (by have := HK.out; omega)) (f_val (o := ⟨some 60, _, _, _, _, _⟩) (.bool (decide (((k : Int) : Int) < (5 : Int)))) rfl (wanted_none rfl _) (exec_ltn (p := (k : Int)) (q := 5) rfl (hD 0 59 (by kernel_rfl)) rfl) rfl)) ?_
        exact fsteps_nil
      intro gv x1 hV y1
      rw [show dstsOf _ 2 = [59, 60] by kernel_rfl]
      simp only [List.foldl_cons, List.foldl_nil, List.setIfInBounds_toArray, List.set_cons_succ, List.set_cons_zero, List.drop_succ_cons, List.drop_zero]
      rw [show gv 60 = .bool true from hV 1 60 (by kernel_rfl)]
      clear hV
      refine wpList_nil ?_
      have HL1 := Lib.hid (HLr.out.kept y1)
      go_upto_region 13 with fail
      refine wp_text 1 [.eq (L.v)] rfl (by kernel_rfl) ?_ ?_
      · refine sv 1 rfl rfl rfl (fun a u hE hD hk => exec_ldS 25 _ (.tmp 14) (g14) (0) (L.cells) rfl (hE 14 (.pointer (some ⟨g14, 0, none⟩)) (by kernel_rfl) (by kernel_rfl)) (range_kept (blk_range HL1.out) hk) Try.underlying25 (by rw [L.len4l]; exact szLim)) ?_
        exact fsteps_nil
      intro gv wa hV ka
      rw [show dstsOf _ 1 = [63] by kernel_rfl]
      simp only [List.foldl_cons, List.foldl_nil, List.setIfInBounds_toArray, List.set_cons_succ, List.set_cons_zero, List.drop_succ_cons, List.drop_zero]
      rw [show gv 63 = L.v from hV 0 63 (by kernel_rfl)]
      clear hV
      refine l_new (o := ⟨some 17, _, _, _, _, _⟩) (.pointer (some ⟨wa.heap.size, 0, none⟩)) (wa.alloc (.cells zeroL.cells.toArray 25)) rfl (exec_alc 25 zeroL.cells rfl zLim) ?_
      have hNa := Blk.new wa 25 zeroL.cells
      have kb : Kept wa (wa.alloc (.cells zeroL.cells.toArray 25)) := (Keep.refl _ wa).alloc _
      generalize wa.alloc (.cells zeroL.cells.toArray 25) = wb at hNa kb ⊢
      simp only [Act.put, List.setIfInBounds_toArray, List.set_cons_succ, List.set_cons_zero]
      refine l_setS (o := ⟨none, _, _, _, _, _⟩) 25 wa.heap.size 25 zeroL.cells L.cells (.tmp 17) (.tmp 63) rfl rfl (by kernel_rfl) (by kernel_rfl) hNa (by rw [Lim.len4l]; exact szLim) (by rw [Lim.len4l, Lim.len4l]) (Lim.one _) ?_
      intro x2 hC hK hS
      simp only [Act.put]
      refine wpList_nil ?_
      obtain ⟨g17, hg17⟩ : ∃ y, wa.heap.size = y := ⟨_, rfl⟩
      rw [hg17] at hNa hC hK ⊢
      have zka := ka.size
      have z17 : x1.heap.size ≤ g17 := by omega
      have kx2 : Kept x1 x2 := (ka.trans kb).trans' hK (by omega)
      have HX17 := Lib.hid hC
      clear hNa hC hK hS kb ka zka hg17
      have HB2 := Lib.hid ((HBr.out.kept y1).kept kx2)
      have HL2 := Lib.hid (HL1.out.kept kx2)
      have HC2 := Lib.hid ((HCr.out.kept y1).kept kx2)
      have HM2 := Lib.hid HX17.out
      have kz2 := (kwr.trans y1).trans kx2
      have z17 : w.heap.size ≤ g17 := by have := kwr.size; have := y1.size; omega
      have n1 : ¬ g = g17 := by have := HBr.out.lt; have := y1.size; omega
      have n2 : ¬ g14 = g17 := by have := HL1.out.lt; omega
      have n3 : ¬ g15 = g17 := by have := HCr.out.lt; have := y1.size; omega
      clear HBr HLr HCr HL1 y1 kx2 kwr HX17
      go_upto_region 15 with fail
      refine wp_text 2 [.eq (.bool false), .eq (.bool false)] rfl (by kernel_rfl) ?_ ?_
      · refine fsteps_cons 1 rfl (fun a u hE hD hk => f_as (show ((decide (((k : Int) : Int) = (1 : Int))) : Bool) = false from decide_eq_false (by have := HK.out; omega)) (f_val (o := ⟨some 66, _, _, _, _, _⟩) (.bool (decide (((k : Int) : Int) = (1 : Int)))) rfl (wanted_none rfl _) (exec_eqn (p := (k : Int)) (q := 1) rfl (hE 64 (.int .i64 (k : Int)) (by kernel_rfl) (by kernel_rfl)) rfl) rfl)) ?_
        refine sv 2 rfl rfl rfl (fun a u hE hD hk => exec_assign (.tmp 66) _ rfl (hD 0 66 (by kernel_rfl))) ?_
        exact fsteps_nil
      intro gv x3 hV yk
      rw [show dstsOf _ 2 = [66, 65] by kernel_rfl]
      simp only [List.foldl_cons, List.foldl_nil, List.setIfInBounds_toArray, List.set_cons_succ, List.set_cons_zero, List.drop_succ_cons, List.drop_zero]
      rw [show gv 65 = .bool false from hV 1 65 (by kernel_rfl)]
      clear hV
      refine wpList_nil ?_
      have HB3 := Lib.hid (HB2.out.kept yk)
      have HL3 := Lib.hid (HL2.out.kept yk)
      have HC3 := Lib.hid (HC2.out.kept yk)
      have HM3 := Lib.hid (HM2.out.kept yk)
      have kz3 := kz2.trans yk
      clear HB2 HL2 HC2 HM2 kz2 yk
      go_upto_region 17 with fail
      refine wp_text 2 [.eq (.bool false), .eq (.bool false)] rfl (by kernel_rfl) ?_ ?_
      · refine fsteps_cons 1 rfl (fun a u hE hD hk => f_as (show ((decide (((k : Int) : Int) = (2 : Int))) : Bool) = false from decide_eq_false (by have := HK.out; omega)) (f_val (o := ⟨some 72, _, _, _, _, _⟩) (.bool (decide (((k : Int) : Int) = (2 : Int)))) rfl (wanted_none rfl _) (exec_eqn (p := (k : Int)) (q := 2) rfl (hE 64 (.int .i64 (k : Int)) (by kernel_rfl) (by kernel_rfl)) rfl) rfl)) ?_
        refine sv 2 rfl rfl rfl (fun a u hE hD hk => exec_assign (.tmp 72) _ rfl (hD 0 72 (by kernel_rfl))) ?_
        exact fsteps_nil
      intro gv x4 hV yk
      rw [show dstsOf _ 2 = [72, 71] by kernel_rfl]
      simp only [List.foldl_cons, List.foldl_nil, List.setIfInBounds_toArray, List.set_cons_succ, List.set_cons_zero, List.drop_succ_cons, List.drop_zero]
      rw [show gv 71 = .bool false from hV 1 71 (by kernel_rfl)]
      clear hV
      refine wpList_nil ?_
      have HB4 := Lib.hid (HB3.out.kept yk)
      have HL4 := Lib.hid (HL3.out.kept yk)
      have HC4 := Lib.hid (HC3.out.kept yk)
      have HM4 := Lib.hid (HM3.out.kept yk)
      have kz4 := kz3.trans yk
      clear HB3 HL3 HC3 HM3 kz3 yk
      go_upto_region 19 with fail
      refine wp_text 2 [.eq (.bool false), .eq (.bool false)] rfl (by kernel_rfl) ?_ ?_
      · refine fsteps_cons 1 rfl (fun a u hE hD hk => f_as (show ((decide (((k : Int) : Int) = (3 : Int))) : Bool) = false from decide_eq_false (by have := HK.out; omega)) (f_val (o := ⟨some 78, _, _, _, _, _⟩) (.bool (decide (((k : Int) : Int) = (3 : Int)))) rfl (wanted_none rfl _) (exec_eqn (p := (k : Int)) (q := 3) rfl (hE 64 (.int .i64 (k : Int)) (by kernel_rfl) (by kernel_rfl)) rfl) rfl)) ?_
        refine sv 2 rfl rfl rfl (fun a u hE hD hk => exec_assign (.tmp 78) _ rfl (hD 0 78 (by kernel_rfl))) ?_
        exact fsteps_nil
      intro gv x5 hV yk
      rw [show dstsOf _ 2 = [78, 77] by kernel_rfl]
      simp only [List.foldl_cons, List.foldl_nil, List.setIfInBounds_toArray, List.set_cons_succ, List.set_cons_zero, List.drop_succ_cons, List.drop_zero]
      rw [show gv 77 = .bool false from hV 1 77 (by kernel_rfl)]
      clear hV
      refine wpList_nil ?_
      have HB5 := Lib.hid (HB4.out.kept yk)
      have HL5 := Lib.hid (HL4.out.kept yk)
      have HC5 := Lib.hid (HC4.out.kept yk)
      have HM5 := Lib.hid (HM4.out.kept yk)
      have kz5 := kz4.trans yk
      clear HB4 HL4 HC4 HM4 kz4 yk
      go_upto_region 21 with fail
      refine wp_text 2 [.eq (.bool true), .eq (.bool true)] rfl (by kernel_rfl) ?_ ?_
      · refine fsteps_cons 1 rfl (fun a u hE hD hk => f_as (show ((decide (((k : Int) : Int) = (4 : Int))) : Bool) = true from decide_eq_true (by have := HK.out; omega)) (f_val (o := ⟨some 84, _, _, _, _, _⟩) (.bool (decide (((k : Int) : Int) = (4 : Int)))) rfl (wanted_none rfl _) (exec_eqn (p := (k : Int)) (q := 4) rfl (hE 64 (.int .i64 (k : Int)) (by kernel_rfl) (by kernel_rfl)) rfl) rfl)) ?_
        refine sv 2 rfl rfl rfl (fun a u hE hD hk => exec_assign (.tmp 84) _ rfl (hD 0 84 (by kernel_rfl))) ?_
        exact fsteps_nil
      intro gv x6 hV yk
      rw [show dstsOf _ 2 = [84, 83] by kernel_rfl]
      simp only [List.foldl_cons, List.foldl_nil, List.setIfInBounds_toArray, List.set_cons_succ, List.set_cons_zero, List.drop_succ_cons, List.drop_zero]
      rw [show gv 83 = .bool true from hV 1 83 (by kernel_rfl)]
      clear hV
      refine wpList_nil ?_
      have HB6 := Lib.hid (HB5.out.kept yk)
      have HL6 := Lib.hid (HL5.out.kept yk)
      have HC6 := Lib.hid (HC5.out.kept yk)
      have HM6 := Lib.hid (HM5.out.kept yk)
      have kz6 := kz5.trans yk
      clear HB5 HL5 HC5 HM5 kz5 yk
      have HMr := Lib.hid (blk_range HM6.out)
      go_upto_region 22 with fail
      refine wp_text 4 [.eq (.pointer (some ⟨g17, 3, none⟩)), .eq (.int .i64 L.p), .eq (.int .i64 ((L.p : Int) - (1 : Int))), .eq (.pointer (some ⟨g17, 3, none⟩))] rfl (by kernel_rfl) ?_ ?_
      · refine sv 1 rfl rfl rfl (fun a u hE hD hk => exec_fldo 25 3 3 (.tmp 17) (g17) (0) (3) rfl (hE 17 (.pointer (some ⟨g17, 0, none⟩)) (by kernel_rfl) (by kernel_rfl)) (by kernel_rfl) rfl) ?_
        refine sv 2 rfl rfl rfl (fun a u hE hD hk => exec_loadi 3 Try.underlying3 (.tmp 85) ⟨g17, 3, none⟩ (.int .i64 L.p) rfl (hD 0 85 (by kernel_rfl)) (range_int (range_kept HMr.out hk) 3 _ rfl)) ?_
        refine sv 3 rfl rfl rfl (fun a u hE hD hk => exec_subn (p := (L.p)) (q := (1)) ((L.p : Int) - (1 : Int)) rfl (hD 1 86 (by kernel_rfl)) rfl rfl (by omega) (by omega)) ?_
        refine sv 4 rfl rfl rfl (fun a u hE hD hk => exec_fldo 25 3 3 (.tmp 17) (g17) (0) (3) rfl (hE 17 (.pointer (some ⟨g17, 0, none⟩)) (by kernel_rfl) (by kernel_rfl)) (by kernel_rfl) rfl) ?_
        exact fsteps_nil
      intro gv xa hV ya
      rw [show dstsOf _ 4 = [85, 86, 87, 88] by kernel_rfl]
      simp only [List.foldl_cons, List.foldl_nil, List.setIfInBounds_toArray, List.set_cons_succ, List.set_cons_zero, List.drop_succ_cons, List.drop_zero]
      rw [show gv 88 = .pointer (some ⟨g17, 3, none⟩) from hV 3 88 (by kernel_rfl)]
      rw [show gv 87 = .int .i64 ((L.p : Int) - (1 : Int)) from hV 2 87 (by kernel_rfl)]
      clear hV
      refine l_putN (o := ⟨none, _, _, _, _, _⟩) g17 3 25 L.cells M4.cells (L.p - 1) (.tmp 88) (.tmp 87) rfl rfl (by kernel_rfl) (by kernel_rfl) (HM6.out.kept ya) (by rw [Lim.len4l]; omega) S4.out ?_
      intro xb hC hK hS
      simp only [Act.put]
      refine wpList_nil ?_
      have HB7 := Lib.hid ((HB6.out.kept ya).keep hK n1)
      have HL7 := Lib.hid ((HL6.out.kept ya).keep hK n2)
      have HC7 := Lib.hid ((HC6.out.kept ya).keep hK n3)
      have HM7 := Lib.hid hC
      have kz7 : Kept w xb := kept_own (kz6.trans ya) z17 hK
      clear HB6 HL6 HC6 HM6 kz6 ya hC hK hS HMr
      have HMz := Lib.hid (blk_range HM7.out)
      go_upto_region 23 with fail
      refine wp_text 8 [.eq (.pointer (some ⟨g, 0, none⟩)), .eq (M4.v), .eq (c.v), .eq (.int .i64 8), .eq (.bool false), .eq (.int .i64 (k : Int)), .eq (.bool false), .eq (.bool false)] rfl (by kernel_rfl) ?_ ?_
      · refine sv 1 rfl rfl rfl (fun a u hE hD hk => exec_move (.tmp 9) _ rfl (hE 9 (.pointer (some ⟨g, 0, none⟩)) (by kernel_rfl) (by kernel_rfl))) ?_
        refine sv 2 rfl rfl rfl (fun a u hE hD hk => exec_ldS 25 _ (.tmp 17) (g17) (0) (M4.cells) rfl (hE 17 (.pointer (some ⟨g17, 0, none⟩)) (by kernel_rfl) (by kernel_rfl)) (range_kept HMz.out hk) Try.underlying25 (by rw [M4.len4l]; exact szLim)) ?_
        refine sv 3 rfl rfl rfl (fun a u hE hD hk => exec_ldS 29 _ (.tmp 15) (g15) (0) (c.cells) rfl (hE 15 (.pointer (some ⟨g15, 0, none⟩)) (by kernel_rfl) (by kernel_rfl)) (range_kept (blk_range HC7.out) hk) Try.underlying29 (by rw [c.len9]; exact ord_size)) ?_
        refine fsteps_cons 4 rfl (fun a u hE hD hk => f_call (o := ⟨some 92, _, _, _, _, _⟩) 10 #[.pointer (some ⟨g, 0, none⟩), M4.v, c.v, .int .i64 0] rfl (wanted_none rfl _) (exec_call 10 _ [.tmp 89, .tmp 90, .tmp 91, .const (.int .i64 0)] _ [.pointer (some ⟨g, 0, none⟩), M4.v, c.v, .int .i64 0] Try.func10 (by kernel_rfl) (by kernel_rfl) rfl (show [a.eval (.tmp 89), a.eval (.tmp 90), a.eval (.tmp 91), a.eval (.const (.int .i64 0))] = [.pointer (some ⟨g, 0, none⟩), M4.v, c.v, .int .i64 0] from (by rw [show a.eval (.tmp 89) = .pointer (some ⟨g, 0, none⟩) from (hD 0 89 (by kernel_rfl)), show a.eval (.tmp 90) = M4.v from (hD 1 90 (by kernel_rfl)), show a.eval (.tmp 91) = c.v from (hD 2 91 (by kernel_rfl))] <;> rfl)) u) (check_at (HB7.out.kept hk) OZ.out C4.out)) ?_
        refine fsteps_cons 5 rfl (fun a u hE hD hk => f_as (show ((decide ((8 : Int) = (0 : Int))) : Bool) = false from decide_eq_false (by omega)) (f_val (o := ⟨some 93, _, _, _, _, _⟩) (.bool (decide ((8 : Int) = (0 : Int)))) rfl (wanted_none rfl _) (exec_eqn (p := 8) (q := 0) rfl (hD 3 92 (by kernel_rfl)) rfl) rfl)) ?_
        refine sv 6 rfl rfl rfl (fun a u hE hD hk => exec_move (.tmp 16) _ rfl (hE 16 (.int .i64 (k : Int)) (by kernel_rfl) (by kernel_rfl))) ?_
        refine fsteps_cons 7 rfl (fun a u hE hD hk => f_as (show ((decide (((k : Int) : Int) = (0 : Int))) : Bool) = false from decide_eq_false (by have := HK.out; omega)) (f_val (o := ⟨some 95, _, _, _, _, _⟩) (.bool (decide (((k : Int) : Int) = (0 : Int)))) rfl (wanted_none rfl _) (exec_eqn (p := (k : Int)) (q := 0) rfl (hD 5 94 (by kernel_rfl)) rfl) rfl)) ?_
        refine sv 8 rfl rfl rfl (fun a u hE hD hk => exec_neb (.tmp 93) (.tmp 95) _ false false false rfl (hD 4 93 (by kernel_rfl)) (hD 6 95 (by kernel_rfl)) (by decide)) ?_
        exact fsteps_nil
      intro gv xz hV yz
      rw [show dstsOf _ 8 = [89, 90, 91, 92, 93, 94, 95, 96] by kernel_rfl]
      simp only [List.foldl_cons, List.foldl_nil, List.setIfInBounds_toArray, List.set_cons_succ, List.set_cons_zero, List.drop_succ_cons, List.drop_zero]
      rw [show gv 96 = .bool false from hV 7 96 (by kernel_rfl)]
      clear hV
      refine wpList_nil ?_
      have HBz := Lib.hid (HB7.out.kept yz)
      have HLz := Lib.hid (HL7.out.kept yz)
      have HCz := Lib.hid (HC7.out.kept yz)
      have kwz := kz7.trans yz
      have hk4 : k < 5 := by have := HK.out; omega
      go_wp2
      exact ⟨⟨k + 1, by simp, by omega, HBz, HLz, HCz, kwz⟩, by simp [intOf]; omega⟩
    · skip
      have HK := Lib.hid hki
      clear hki
      go_upto_region 11 with fail
      refine wp_text 2 [.eq (.int .i64 (k : Int)), .eq (.bool false)] rfl (by kernel_rfl) ?_ ?_
      · refine sv 1 rfl rfl rfl (fun a u hE hD hk => exec_move (.tmp 16) _ rfl (hE 16 (.int .i64 (k : Int)) (by kernel_rfl) (by kernel_rfl))) ?_
        refine fsteps_cons 2 rfl (fun a u hE hD hk => f_as (show ((decide (((k : Int) : Int) < (5 : Int))) : Bool) = false from decide_eq_false (by have := HK.out; omega)) (f_val (o := ⟨some 60, _, _, _, _, _⟩) (.bool (decide (((k : Int) : Int) < (5 : Int)))) rfl (wanted_none rfl _) (exec_ltn (p := (k : Int)) (q := 5) rfl (hD 0 59 (by kernel_rfl)) rfl) rfl)) ?_
        exact fsteps_nil
      intro gv x1 hV y1
      rw [show dstsOf _ 2 = [59, 60] by kernel_rfl]
      simp only [List.foldl_cons, List.foldl_nil, List.setIfInBounds_toArray, List.set_cons_succ, List.set_cons_zero, List.drop_succ_cons, List.drop_zero]
      rw [show gv 60 = .bool false from hV 1 60 (by kernel_rfl)]
      clear hV
      refine wpList_nil ?_
      go_upto_region 25 with fail
      refine wp_text 2 [.eq (.bool true), .eq (.bool true)] rfl (by kernel_rfl) ?_ ?_
      · refine fsteps_cons 1 rfl (fun a u hE hD hk => f_call (o := ⟨some 97, _, _, _, _, _⟩) 3 #[] rfl (wanted_none rfl _) (exec_call 3 _ [] _ [] Try.func3 (by kernel_rfl) (by kernel_rfl) rfl rfl u) (riskRuns_is u)) ?_
        refine sv 2 rfl rfl rfl (fun a u hE hD hk => exec_assign (.tmp 97) _ rfl (hD 0 97 (by kernel_rfl))) ?_
        exact fsteps_nil
      intro gv x2 hV y2
      rw [show dstsOf _ 2 = [97, 8] by kernel_rfl]
      simp only [List.foldl_cons, List.foldl_nil, List.setIfInBounds_toArray, List.set_cons_succ, List.set_cons_zero, List.drop_succ_cons, List.drop_zero]
      rw [show gv 8 = .bool true from hV 1 8 (by kernel_rfl)]
      clear hV
      refine wpList_nil ?_
      have kwz := (kwr.trans y1).trans y2
      go_wp2
      go_ret
      exact ⟨rfl, kwz⟩
end Go.Proofs.Ytgajdkelpaaadaa
