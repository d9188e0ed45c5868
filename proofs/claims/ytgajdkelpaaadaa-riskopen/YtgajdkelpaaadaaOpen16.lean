/-
  RiskOpen: what others have open hinders nobody; what one has open itself does; it answers true. No condition.
-/
import Derived.Test.YtgajdkelpaaadaaRuns16
import Derived.Test.YtgajdkelpaaadaaRskN
import Derived.Test.YtgajdkelpaaadaaSame6
namespace Go.Proofs.Ytgajdkelpaaadaa
open Go.RowKit
set_option linter.unusedVariables false
set_option maxRecDepth 100000

theorem op_vals {B : Bal} {m : Int} (ho : ∀ j, B.o 1 j = 0) (hp : B.p = zeroB.p) (h0 : 0 ≤ m) (h1 : m ≤ 50) : opB B 1 3 m = true ∧ (opM B 1 3 m).all 1 = m ∧ (opM B 1 3 m).oAt 1 0 = 0 ∧ (opM B 1 3 m).oAt 1 3 = m ∧ (opM B 1 3 m).pAt 1 0 = 0 ∧ (opM B 1 3 m).pAt 1 3 = 0 := by
  obtain ⟨e1, e2⟩ := op_in (B := B) (a := 1) (b := 3) (q := m) (by omega) (by omega) (by omega) (by omega) (by rw [ho]; omega) (by rw [ho]; omega)
  have e3 : opM B 1 3 m = ⟨upd B.o 1 3 (B.o 1 3 + m), B.p⟩ := e2
  refine ⟨e1, ?_⟩
  rw [e3, hp]
  refine ⟨?_, ?_, ?_, ?_, ?_⟩
  · rw [all_1]
    dsimp only
    rw [upd_self, upd_ne _ _ (.inr (by omega)), upd_ne _ _ (.inr (by omega)), upd_ne _ _ (.inr (by omega)), upd_ne _ _ (.inr (by omega)), upd_ne _ _ (.inr (by omega)), upd_ne _ _ (.inr (by omega)), upd_ne _ _ (.inr (by omega))]
    simp only [ho]
    omega
  · refine (oAt_1 _ (i := 0) (by omega)).trans ?_
    dsimp only
    rw [upd_ne _ _ (.inr (by omega)), ho]
  · refine (oAt_1 _ (i := 3) (by omega)).trans ?_
    dsimp only
    rw [upd_self, ho]
    omega
  · exact pAt_1 _ (i := 0) (by omega)
  · exact pAt_1 _ (i := 3) (by omega)
theorem op_else {t : Int} (h0 : 0 ≤ t) (h1 : t ≤ 50) : opB zeroB 2 3 t = true ∧ (∀ j, (opM zeroB 2 3 t).o 1 j = 0) ∧ (opM zeroB 2 3 t).p = zeroB.p := by
  obtain ⟨e1, e2⟩ := op_in (B := zeroB) (a := 2) (b := 3) (q := t) (by omega) (by omega) (by omega) (by omega) (by show 0 ≤ 0 + t; omega) (by show 0 + t ≤ _; omega)
  have e3 : opM zeroB 2 3 t = ⟨upd zeroB.o 2 3 (zeroB.o 2 3 + t), zeroB.p⟩ := e2
  refine ⟨e1, ?_⟩
  rw [e3]
  exact ⟨fun j => (upd_ne (n := 2) (i := 3) (a := 1) (b := j) zeroB.o (zeroB.o 2 3 + t) (.inl (by omega))).trans rfl, rfl⟩
def limO : Lim := ⟨99, 1073741824, 60, 50⟩
theorem chk_open {B : Bal} {m q : Int} (hq0 : 1 ≤ q) (hq1 : q ≤ 50) (ha : B.all 1 = m) (h0 : B.oAt 1 0 = 0) (h3 : B.oAt 1 3 = m) (p0 : B.pAt 1 0 = 0) (p3 : B.pAt 1 3 = 0) : chk B limO (oM 1 q) 0 = (if 60 < m + q then 8 else 0) ∧ chk B limO (oM 1 q) 3 = (if 60 < m + q ∨ 50 < m + q then 8 else 0) := by
  have e : oM 1 q = oS 1 1 q := rfl
  rw [e]
  constructor
  · rw [chk_o (.inl rfl) (by omega) (by omega) (by omega) (by omega) (by decide), ha, h0, p0]
    refine if8 ?_
    show (99 < q ∨ 1073741824 < 1 * q ∨ 60 < m + q ∨ 50 < (0 : Int) + 0 + q) ↔ 60 < m + q
    omega
  · rw [chk_o (.inl rfl) (by omega) (by omega) (by omega) (by omega) (by decide), ha, h3, p3]
    refine if8 ?_
    show (99 < q ∨ 1073741824 < 1 * q ∨ 60 < m + q ∨ 50 < (0 : Int) + m + q) ↔ (60 < m + q ∨ 50 < m + q)
    omega
theorem ok_dec {p q : Prop} [Decidable p] [Decidable q] (h : p ↔ ¬ q) : decide ((if p then (8 : Int) else 0) = 0) = decide q := by
  by_cases hp : p
  · rw [if_pos hp, decide_eq_false (by omega), decide_eq_false (h.1 hp)]
  · rw [if_neg hp, decide_eq_true rfl]
    exact (decide_eq_true (Classical.byContradiction fun hq => hp (h.2 hq))).symm
set_option maxRecDepth 100000 in
set_option maxHeartbeats 1600000 in
theorem riskOpen_any (mine theirs qty : Int) (w : World) : Calls Try.prog 8 #[.int .i64 mine, .int .i64 theirs, .int .i64 qty] w fun e w' => e = .returned (.bool true) ∧ Kept w w' := by
  obtain ⟨m, hm⟩ : ∃ z, wi mine 0 50 = z := ⟨_, rfl⟩
  have bm := wi_in mine 0 50 (by omega)
  rw [hm] at bm
  have Wm := Lib.hid hm
  clear hm
  obtain ⟨t, ht⟩ : ∃ z, wi theirs 0 50 = z := ⟨_, rfl⟩
  have bt := wi_in theirs 0 50 (by omega)
  rw [ht] at bt
  have Wt := Lib.hid ht
  clear ht
  obtain ⟨q, hq⟩ : ∃ z, wi qty 1 50 = z := ⟨_, rfl⟩
  have bq := wi_in qty 1 50 (by omega)
  rw [hq] at bq
  have Wq := Lib.hid hq
  clear hq
  obtain ⟨e1, v1, v2, v3, v4, v5⟩ := op_vals (B := zeroB) (m := m) (fun _ => rfl) rfl bm.1 bm.2
  obtain ⟨e2, eo, ep⟩ := op_else bt.1 bt.2
  obtain ⟨Y, hY⟩ : ∃ Y, opM zeroB 2 3 t = Y := ⟨_, rfl⟩
  have hYo : Y.Ok := by rw [← hY]; exact ok_zero.op _ _ _
  rw [hY] at eo ep
  obtain ⟨e3, u1, u2, u3, u4, u5⟩ := op_vals (B := Y) (m := m) eo ep bm.1 bm.2
  obtain ⟨X, hX⟩ : ∃ X, opM zeroB 1 3 m = X := ⟨_, rfl⟩
  obtain ⟨Z, hZ⟩ : ∃ Z, opM Y 1 3 m = Z := ⟨_, rfl⟩
  have HXo : Hid X.Ok := by show Bal.Ok _; rw [← hX]; exact ok_zero.op _ _ _
  have HZo : Hid Z.Ok := by show Bal.Ok _; rw [← hZ]; exact hYo.op _ _ _
  rw [hX] at v1 v2 v3 v4 v5
  rw [hZ] at u1 u2 u3 u4 u5
  obtain ⟨x0, x3⟩ := chk_open bq.1 bq.2 v1 v2 v3 v4 v5
  obtain ⟨y0, y3⟩ := chk_open bq.1 bq.2 u1 u2 u3 u4 u5
  obtain ⟨L, hL⟩ : ∃ L, limO = L := ⟨_, rfl⟩
  rw [hL] at x0 x3 y0
  obtain ⟨c, hc⟩ : ∃ c, oM 1 q = c := ⟨_, rfl⟩
  rw [hc] at x0 x3 y0
  obtain ⟨V, hV⟩ : ∃ V : Int, (if 60 < m + q then 8 else 0) = V := ⟨_, rfl⟩
  obtain ⟨U, hU⟩ : ∃ U : Int, (if 60 < m + q ∨ 50 < m + q then 8 else 0) = U := ⟨_, rfl⟩
  obtain ⟨b, hb⟩ : ∃ b, decide (m + q ≤ 60) = b := ⟨_, rfl⟩
  obtain ⟨d, hd⟩ : ∃ d, decide (m + q ≤ 50) = d := ⟨_, rfl⟩
  have HVb : Hid (decide (V = 0) = b) := by show _ = _; rw [← hV, ← hb]; exact ok_dec (by omega)
  have HUd : Hid (decide (U = 0) = d) := by show _ = _; rw [← hU, ← hd]; exact ok_dec (by omega)
  rw [hV] at x0 y0
  rw [hU] at x3
  have E1 := Lib.hid e1
  have E2 := Lib.hid e2
  have E3 := Lib.hid e3
  have X0 := Lib.hid x0
  have X3 := Lib.hid x3
  have Y0 := Lib.hid y0
  have HL := Lib.hid hL
  have HC := Lib.hid hc
  have HD := Lib.hid hd
  have HB_ := Lib.hid hb
  have HX := Lib.hid hX
  have HY := Lib.hid hY
  have HZ := Lib.hid hZ
  have HYo := Lib.hid hYo
  clear e1 e2 e3 x0 x3 y0 y3 hL hc hd hb hX hY hZ hYo hV hU eo ep u1 u2 u3 u4 u5 v1 v2 v3 v4 v5
  go_enter Try.func8, Try.ntmps8
  go_upto_region 1 with fail
  refine wp_region_lit ?_
  refine l_call (o := ⟨some 13, _, _, _, _, _⟩) 9 #[] rfl (exec_call 9 _ [] _ _ Try.func9 (by kernel_rfl) (by kernel_rfl) rfl (by kernel_rfl) _) ?_
  refine (new_any w.heap.size w (Nat.le_refl _)).mono ?_
  rintro e w1 ⟨v1, rfl, ⟨g, rfl, hg, hB⟩, k1⟩
  refine ⟨_, rfl, ?_⟩
  simp only [Act.put, List.setIfInBounds_toArray, List.set_cons_succ, List.set_cons_zero]
  refine l_call (o := ⟨some 14, _, _, _, _, _⟩) 9 #[] rfl (exec_call 9 _ [] _ _ Try.func9 (by kernel_rfl) (by kernel_rfl) rfl (by kernel_rfl) _) ?_
  refine (new_any w1.heap.size w1 (Nat.le_refl _)).mono ?_
  rintro e w2 ⟨v2, rfl, ⟨r, rfl, hr, hR⟩, k2⟩
  refine ⟨_, rfl, ?_⟩
  simp only [Act.put, List.setIfInBounds_toArray, List.set_cons_succ, List.set_cons_zero]
  refine l_val (o := ⟨some 7, _, _, _, _, _⟩) (.pointer (some ⟨g, 0, none⟩)) rfl (exec_assign (.tmp 13) (.pointer (some ⟨g, 0, none⟩)) rfl (by kernel_rfl)) ?_
  simp only [Act.put, List.setIfInBounds_toArray, List.set_cons_succ, List.set_cons_zero]
  refine l_val (o := ⟨some 8, _, _, _, _, _⟩) (.pointer (some ⟨r, 0, none⟩)) rfl (exec_assign (.tmp 14) (.pointer (some ⟨r, 0, none⟩)) rfl (by kernel_rfl)) ?_
  simp only [Act.put, List.setIfInBounds_toArray, List.set_cons_succ, List.set_cons_zero]
  refine wpList_nil ?_
  have zg := hB.lt
  have z1 := k1.size
  have hgr : ¬ g = r := by omega
  have hr : w.heap.size ≤ r := by omega
  have HB := Lib.hid (hB.kept k2)
  have HR := Lib.hid hR
  have kw2 := k1.trans k2
  clear hB hR k1 k2 zg z1
  go_upto_region 2 with fail
  refine wp_text 6 [.eq (.pointer (some ⟨g, 0, none⟩)), .eq (.bool false), .eq (.bool false), .eq (.pointer (some ⟨r, 0, none⟩)), .eq (.bool false), .eq (.bool false)] rfl (by kernel_rfl) ?_ ?_
  · refine sv 1 rfl rfl rfl (fun a u hE hD hk => exec_move (.tmp 7) _ rfl (hE 7 (.pointer (some ⟨g, 0, none⟩)) (by kernel_rfl) (by kernel_rfl))) ?_
    refine sv 2 rfl rfl rfl (fun a u hE hD hk => exec_eqP (.tmp 15) _ _ ⟨g, 0, none⟩ (by kernel_rfl) rfl (hD 0 15 (by kernel_rfl))) ?_
    refine sv 3 rfl rfl rfl (fun a u hE hD hk => exec_move (.tmp 16) _ rfl (hD 1 16 (by kernel_rfl))) ?_
    refine fsteps_cons 4 rfl (fun a u hE hD hk => f_val (o := ⟨some 18, _, _, _, _, _⟩) (.pointer (some ⟨r, 0, none⟩)) rfl (wanted_at (b := false) false rfl rfl (hD 2 17 (by kernel_rfl))) (exec_move (.tmp 8) _ rfl (hE 8 (.pointer (some ⟨r, 0, none⟩)) (by kernel_rfl) (by kernel_rfl))) rfl) ?_
    refine fsteps_cons 5 rfl (fun a u hE hD hk => f_val (o := ⟨some 19, _, _, _, _, _⟩) (.bool false) rfl (wanted_at (b := false) false rfl rfl (hD 2 17 (by kernel_rfl))) (exec_eqP (.tmp 18) _ _ ⟨r, 0, none⟩ (by kernel_rfl) rfl (hD 3 18 (by kernel_rfl))) rfl) ?_
    refine sv 6 rfl rfl rfl (fun a u hE hD hk => exec_pickF (.tmp 17) (.const (.bool true)) (.tmp 19) (.bool false) rfl (hD 2 17 (by kernel_rfl)) (hD 4 19 (by kernel_rfl))) ?_
    exact fsteps_nil
  intro gv w3 hV k3
  rw [show dstsOf _ 6 = [15, 16, 17, 18, 19, 20] by kernel_rfl]
  simp only [List.foldl_cons, List.foldl_nil, List.setIfInBounds_toArray, List.set_cons_succ, List.set_cons_zero, List.drop_succ_cons, List.drop_zero]
  rw [show gv 20 = .bool false from hV 5 20 (by kernel_rfl)]
  clear hV
  refine wpList_nil ?_
  have HB3 := Lib.hid (HB.out.kept k3)
  have HR3 := Lib.hid (HR.out.kept k3)
  have kw3 := kw2.trans k3
  clear HB HR kw2 k3
  go_upto_region 4 with fail
  refine wp_text 6 [.eq (.int .i64 mine), .eq (.int .i64 m), .eq (.int .i64 theirs), .eq (.int .i64 t), .eq (.int .i64 qty), .eq (.int .i64 q)] rfl (by kernel_rfl) ?_ ?_
  · refine sv 1 rfl rfl rfl (fun a u hE hD hk => exec_move (.tmp 0) _ rfl (hE 0 (.int .i64 mine) (by kernel_rfl) (by kernel_rfl))) ?_
    refine fsteps_cons 2 rfl (fun a u hE hD hk => f_call (o := ⟨some 22, _, _, _, _, _⟩) 16 #[.int .i64 mine, .int .i64 0, .int .i64 50] rfl (wanted_none rfl _) (exec_call 16 _ [.tmp 21, .const (.int .i64 0), .const (.int .i64 50)] _ [.int .i64 mine, .int .i64 0, .int .i64 50] Try.func16 (by kernel_rfl) (by kernel_rfl) rfl (show [a.eval (.tmp 21), a.eval (.const (.int .i64 0)), a.eval (.const (.int .i64 50))] = [.int .i64 mine, .int .i64 0, .int .i64 50] from (by rw [show a.eval (.tmp 21) = .int .i64 mine from (hD 0 21 (by kernel_rfl))] <;> rfl)) u) (by rw [← Wm.out]; exact within_is mine 0 50 u (by omega) (by omega) (by omega))) ?_
    refine sv 3 rfl rfl rfl (fun a u hE hD hk => exec_move (.tmp 1) _ rfl (hE 1 (.int .i64 theirs) (by kernel_rfl) (by kernel_rfl))) ?_
    refine fsteps_cons 4 rfl (fun a u hE hD hk => f_call (o := ⟨some 24, _, _, _, _, _⟩) 16 #[.int .i64 theirs, .int .i64 0, .int .i64 50] rfl (wanted_none rfl _) (exec_call 16 _ [.tmp 23, .const (.int .i64 0), .const (.int .i64 50)] _ [.int .i64 theirs, .int .i64 0, .int .i64 50] Try.func16 (by kernel_rfl) (by kernel_rfl) rfl (show [a.eval (.tmp 23), a.eval (.const (.int .i64 0)), a.eval (.const (.int .i64 50))] = [.int .i64 theirs, .int .i64 0, .int .i64 50] from (by rw [show a.eval (.tmp 23) = .int .i64 theirs from (hD 2 23 (by kernel_rfl))] <;> rfl)) u) (by rw [← Wt.out]; exact within_is theirs 0 50 u (by omega) (by omega) (by omega))) ?_
    refine sv 5 rfl rfl rfl (fun a u hE hD hk => exec_move (.tmp 2) _ rfl (hE 2 (.int .i64 qty) (by kernel_rfl) (by kernel_rfl))) ?_
    refine fsteps_cons 6 rfl (fun a u hE hD hk => f_call (o := ⟨some 26, _, _, _, _, _⟩) 16 #[.int .i64 qty, .int .i64 1, .int .i64 50] rfl (wanted_none rfl _) (exec_call 16 _ [.tmp 25, .const (.int .i64 1), .const (.int .i64 50)] _ [.int .i64 qty, .int .i64 1, .int .i64 50] Try.func16 (by kernel_rfl) (by kernel_rfl) rfl (show [a.eval (.tmp 25), a.eval (.const (.int .i64 1)), a.eval (.const (.int .i64 50))] = [.int .i64 qty, .int .i64 1, .int .i64 50] from (by rw [show a.eval (.tmp 25) = .int .i64 qty from (hD 4 25 (by kernel_rfl))] <;> rfl)) u) (by rw [← Wq.out]; exact within_is qty 1 50 u (by omega) (by omega) (by omega))) ?_
    exact fsteps_nil
  intro gv w4 hV k4
  rw [show dstsOf _ 6 = [21, 22, 23, 24, 25, 26] by kernel_rfl]
  simp only [List.foldl_cons, List.foldl_nil, List.setIfInBounds_toArray, List.set_cons_succ, List.set_cons_zero, List.drop_succ_cons, List.drop_zero]
  rw [show gv 22 = .int .i64 m from hV 1 22 (by kernel_rfl)]
  rw [show gv 24 = .int .i64 t from hV 3 24 (by kernel_rfl)]
  rw [show gv 26 = .int .i64 q from hV 5 26 (by kernel_rfl)]
  clear hV
  refine l_val (o := ⟨some 9, _, _, _, _, _⟩) (.int .i64 m) rfl (exec_assign (.tmp 22) (.int .i64 m) rfl (by kernel_rfl)) ?_
  simp only [Act.put, List.setIfInBounds_toArray, List.set_cons_succ, List.set_cons_zero]
  refine l_val (o := ⟨some 10, _, _, _, _, _⟩) (.int .i64 t) rfl (exec_assign (.tmp 24) (.int .i64 t) rfl (by kernel_rfl)) ?_
  simp only [Act.put, List.setIfInBounds_toArray, List.set_cons_succ, List.set_cons_zero]
  refine l_val (o := ⟨some 11, _, _, _, _, _⟩) (.int .i64 q) rfl (exec_assign (.tmp 26) (.int .i64 q) rfl (by kernel_rfl)) ?_
  simp only [Act.put, List.setIfInBounds_toArray, List.set_cons_succ, List.set_cons_zero]
  refine wpList_nil ?_
  have HB4 := Lib.hid (HB3.out.kept k4)
  have HR4 := Lib.hid (HR3.out.kept k4)
  have kw4 := kw3.trans k4
  clear HB3 HR3 kw3 k4
  go_upto_region 5 with fail
  refine wp_region_lit ?_
  refine l_val (o := ⟨some 27, _, _, _, _, _⟩) (.pointer (some ⟨g, 0, none⟩)) rfl (exec_move (.tmp 7) (.pointer (some ⟨g, 0, none⟩)) rfl (by kernel_rfl)) ?_
  simp only [Act.put, List.setIfInBounds_toArray, List.set_cons_succ, List.set_cons_zero]
  refine l_val (o := ⟨some 28, _, _, _, _, _⟩) (.int .i64 m) rfl (exec_move (.tmp 9) (.int .i64 m) rfl (by kernel_rfl)) ?_
  simp only [Act.put, List.setIfInBounds_toArray, List.set_cons_succ, List.set_cons_zero]
  refine l_call (o := ⟨some 29, _, _, _, _, _⟩) 17 #[.pointer (some ⟨g, 0, none⟩), .int .i64 1, .int .i64 3, .int .i64 m] rfl (exec_call 17 _ [.tmp 27, .const (.int .i64 1), .const (.int .i64 3), .tmp 28] _ _ Try.func17 (by kernel_rfl) (by kernel_rfl) rfl (by kernel_rfl) _) ?_
  refine (opens_at HB4.out ok_zero E1.out HX.out).mono ?_
  rintro e w5 ⟨rfl, hB5, k5⟩
  refine ⟨_, rfl, ?_⟩
  simp only [Act.put, List.setIfInBounds_toArray, List.set_cons_succ, List.set_cons_zero]
  refine l_val (o := ⟨some 30, _, _, _, _, _⟩) (.bool false) rfl (exec_not _ (.tmp 29) true rfl (by kernel_rfl)) ?_
  simp only [Act.put, List.setIfInBounds_toArray, List.set_cons_succ, List.set_cons_zero]
  refine l_val (o := ⟨some 31, _, _, _, _, _⟩) (.bool false) rfl (exec_move (.tmp 30) (.bool false) rfl (by kernel_rfl)) ?_
  simp only [Act.put, List.setIfInBounds_toArray, List.set_cons_succ, List.set_cons_zero]
  refine l_val (o := ⟨some 32, _, _, _, _, _⟩) (.pointer (some ⟨r, 0, none⟩)) rfl (exec_move (.tmp 8) (.pointer (some ⟨r, 0, none⟩)) rfl (by kernel_rfl)) ?_
  simp only [Act.put, List.setIfInBounds_toArray, List.set_cons_succ, List.set_cons_zero]
  refine l_val (o := ⟨some 33, _, _, _, _, _⟩) (.int .i64 t) rfl (exec_move (.tmp 10) (.int .i64 t) rfl (by kernel_rfl)) ?_
  simp only [Act.put, List.setIfInBounds_toArray, List.set_cons_succ, List.set_cons_zero]
  refine l_call (o := ⟨some 34, _, _, _, _, _⟩) 17 #[.pointer (some ⟨r, 0, none⟩), .int .i64 2, .int .i64 3, .int .i64 t] rfl (exec_call 17 _ [.tmp 32, .const (.int .i64 2), .const (.int .i64 3), .tmp 33] _ _ Try.func17 (by kernel_rfl) (by kernel_rfl) rfl (by kernel_rfl) _) ?_
  refine (opens_at (HR4.out.keep k5 (fun h => hgr h.symm)) ok_zero E2.out HY.out).mono ?_
  rintro e w6 ⟨rfl, hR6, k6⟩
  refine ⟨_, rfl, ?_⟩
  simp only [Act.put, List.setIfInBounds_toArray, List.set_cons_succ, List.set_cons_zero]
  refine l_val (o := ⟨some 35, _, _, _, _, _⟩) (.bool false) rfl (exec_not _ (.tmp 34) true rfl (by kernel_rfl)) ?_
  simp only [Act.put, List.setIfInBounds_toArray, List.set_cons_succ, List.set_cons_zero]
  refine l_val (o := ⟨some 36, _, _, _, _, _⟩) (.bool false) rfl (exec_pickF (.tmp 31) (.const (.bool true)) (.tmp 35) (.bool false) rfl (by kernel_rfl) (by kernel_rfl)) ?_
  simp only [Act.put, List.setIfInBounds_toArray, List.set_cons_succ, List.set_cons_zero]
  refine l_val (o := ⟨some 37, _, _, _, _, _⟩) (.bool false) rfl (exec_move (.tmp 36) (.bool false) rfl (by kernel_rfl)) ?_
  simp only [Act.put, List.setIfInBounds_toArray, List.set_cons_succ, List.set_cons_zero]
  refine l_val (o := ⟨some 38, _, _, _, _, _⟩) (.pointer (some ⟨r, 0, none⟩)) rfl (exec_move (.tmp 8) (.pointer (some ⟨r, 0, none⟩)) rfl (by kernel_rfl)) ?_
  simp only [Act.put, List.setIfInBounds_toArray, List.set_cons_succ, List.set_cons_zero]
  refine l_val (o := ⟨some 39, _, _, _, _, _⟩) (.int .i64 m) rfl (exec_move (.tmp 9) (.int .i64 m) rfl (by kernel_rfl)) ?_
  simp only [Act.put, List.setIfInBounds_toArray, List.set_cons_succ, List.set_cons_zero]
  refine l_call (o := ⟨some 40, _, _, _, _, _⟩) 17 #[.pointer (some ⟨r, 0, none⟩), .int .i64 1, .int .i64 3, .int .i64 m] rfl (exec_call 17 _ [.tmp 38, .const (.int .i64 1), .const (.int .i64 3), .tmp 39] _ _ Try.func17 (by kernel_rfl) (by kernel_rfl) rfl (by kernel_rfl) _) ?_
  refine (opens_at hR6 HYo.out E3.out HZ.out).mono ?_
  rintro e w7 ⟨rfl, hR7, k7⟩
  refine ⟨_, rfl, ?_⟩
  simp only [Act.put, List.setIfInBounds_toArray, List.set_cons_succ, List.set_cons_zero]
  refine l_val (o := ⟨some 41, _, _, _, _, _⟩) (.bool false) rfl (exec_not _ (.tmp 40) true rfl (by kernel_rfl)) ?_
  simp only [Act.put, List.setIfInBounds_toArray, List.set_cons_succ, List.set_cons_zero]
  refine l_val (o := ⟨some 42, _, _, _, _, _⟩) (.bool false) rfl (exec_pickF (.tmp 37) (.const (.bool true)) (.tmp 41) (.bool false) rfl (by kernel_rfl) (by kernel_rfl)) ?_
  simp only [Act.put, List.setIfInBounds_toArray, List.set_cons_succ, List.set_cons_zero]
  refine wpList_nil ?_
  have HB7 := Lib.hid ((hB5.keep k6 hgr).keep k7 hgr)
  have HR7 := Lib.hid hR7
  have kw7 := kept_own (kept_own (kept_own kw4 hg k5) hr k6) hr k7
  clear hB5 hR6 hR7 k5 k6 k7 HB4 HR4 kw4
  go_upto_region 7 with fail
  refine wp_text 1 [.eq (L.v)] rfl (by kernel_rfl) ?_ ?_
  · refine sv 1 rfl rfl rfl (fun a u hE hD hk => by rw [← HL.out]; exact exec_bldL _ _ _ _ 99 1073741824 60 50 rfl rfl rfl rfl rfl) ?_
    exact fsteps_nil
  intro gv wa hV ka
  rw [show dstsOf _ 1 = [43] by kernel_rfl]
  simp only [List.foldl_cons, List.foldl_nil, List.setIfInBounds_toArray, List.set_cons_succ, List.set_cons_zero, List.drop_succ_cons, List.drop_zero]
  rw [show gv 43 = L.v from hV 0 43 (by kernel_rfl)]
  clear hV
  refine l_new (o := ⟨some 12, _, _, _, _, _⟩) (.pointer (some ⟨wa.heap.size, 0, none⟩)) (wa.alloc (.cells zeroL.cells.toArray 25)) rfl (exec_alc 25 zeroL.cells rfl zLim) ?_
  have hNa := Blk.new wa 25 zeroL.cells
  have kb : Kept wa (wa.alloc (.cells zeroL.cells.toArray 25)) := (Keep.refl _ wa).alloc _
  generalize wa.alloc (.cells zeroL.cells.toArray 25) = wb at hNa kb ⊢
  simp only [Act.put, List.setIfInBounds_toArray, List.set_cons_succ, List.set_cons_zero]
  refine l_setS (o := ⟨none, _, _, _, _, _⟩) 25 wa.heap.size 25 zeroL.cells L.cells (.tmp 12) (.tmp 43) rfl rfl (by kernel_rfl) (by kernel_rfl) hNa (by rw [Lim.len4l]; exact szLim) (by rw [Lim.len4l, Lim.len4l]) (Lim.one _) ?_
  intro w8 hC hK hS
  simp only [Act.put]
  refine wpList_nil ?_
  obtain ⟨g12, hg12⟩ : ∃ y, wa.heap.size = y := ⟨_, rfl⟩
  rw [hg12] at hNa hC hK ⊢
  have zka := ka.size
  have z12 : w7.heap.size ≤ g12 := by omega
  have kw8 : Kept w7 w8 := (ka.trans kb).trans' hK (by omega)
  have HX12 := Lib.hid hC
  clear hNa hC hK hS kb ka zka hg12
  have HB8 := Lib.hid (HB7.out.kept kw8)
  have HR8 := Lib.hid (HR7.out.kept kw8)
  have HL8 := Lib.hid (blk_range HX12.out)
  have kz8 := kw7.trans kw8
  clear HB7 HR7 kw7 kw8 HX12
  go_upto_region 8 with fail
  refine wp_free 41 [.eq (.pointer (some ⟨g, 0, none⟩)), .eq (L.v), .eq (.int .i64 q), .eq (c.v), .eq (.int .i64 V), .eq (.bool b), .eq (.int .i64 m), .eq (.int .i64 q), .eq (.int .i64 ((m : Int) + (q : Int))), .eq (.bool b), .eq (.bool true), .eq (.bool true), .eq (.pointer (some ⟨g, 0, none⟩)), .eq (L.v), .eq (.int .i64 q), .eq (c.v), .eq (.int .i64 V), .eq (.pointer (some ⟨r, 0, none⟩)), .eq (L.v), .eq (.int .i64 q), .eq (c.v), .eq (.int .i64 V), .eq (.bool true), .eq (.bool true), .eq (.bool true), .eq (.pointer (some ⟨g, 0, none⟩)), .eq (L.v), .eq (.int .i64 q), .eq (c.v), .eq (.int .i64 U), .eq (.bool d), .eq (.int .i64 m), .eq (.int .i64 q), .eq (.int .i64 ((m : Int) + (q : Int))), .eq (.bool d), .eq (.bool true), .eq (.bool true), .eq (.bool true), .eq (.bool true), .eq (.bool true), .eq (.bool true)] (by kernel_rfl) rfl (by kernel_rfl) ?_ ?_
  · refine sv 1 rfl rfl rfl (fun a u hE hD hk => exec_move (.tmp 7) _ rfl (hE 7 (.pointer (some ⟨g, 0, none⟩)) (by kernel_rfl) (by kernel_rfl))) ?_
    refine sv 2 rfl rfl rfl (fun a u hE hD hk => exec_ldS 25 _ (.tmp 12) (g12) (0) (L.cells) rfl (hE 12 (.pointer (some ⟨g12, 0, none⟩)) (by kernel_rfl) (by kernel_rfl)) (range_kept HL8.out hk) Try.underlying25 (by rw [L.len4l]; exact szLim)) ?_
    refine sv 3 rfl rfl rfl (fun a u hE hD hk => exec_move (.tmp 11) _ rfl (hE 11 (.int .i64 q) (by kernel_rfl) (by kernel_rfl))) ?_
    refine fsteps_cons 4 rfl (fun a u hE hD hk => f_call (o := ⟨some 47, _, _, _, _, _⟩) 11 #[.int .i64 1, .int .i64 q] rfl (wanted_none rfl _) (exec_call 11 _ [.const (.int .i64 1), .tmp 46] _ [.int .i64 1, .int .i64 q] Try.func11 (by kernel_rfl) (by kernel_rfl) rfl (show [a.eval (.const (.int .i64 1)), a.eval (.tmp 46)] = [.int .i64 1, .int .i64 q] from (by rw [show a.eval (.tmp 46) = .int .i64 q from (hD 2 46 (by kernel_rfl))] <;> rfl)) u) (by rw [← HC.out]; exact o_any 1 q u)) ?_
    refine fsteps_cons 5 rfl (fun a u hE hD hk => f_call (o := ⟨some 48, _, _, _, _, _⟩) 10 #[.pointer (some ⟨g, 0, none⟩), L.v, c.v, .int .i64 0] rfl (wanted_none rfl _) (exec_call 10 _ [.tmp 44, .tmp 45, .tmp 47, .const (.int .i64 0)] _ [.pointer (some ⟨g, 0, none⟩), L.v, c.v, .int .i64 0] Try.func10 (by kernel_rfl) (by kernel_rfl) rfl (show [a.eval (.tmp 44), a.eval (.tmp 45), a.eval (.tmp 47), a.eval (.const (.int .i64 0))] = [.pointer (some ⟨g, 0, none⟩), L.v, c.v, .int .i64 0] from (by rw [show a.eval (.tmp 44) = .pointer (some ⟨g, 0, none⟩) from (hD 0 44 (by kernel_rfl)), show a.eval (.tmp 45) = L.v from (hD 1 45 (by kernel_rfl)), show a.eval (.tmp 47) = c.v from (hD 3 47 (by kernel_rfl))] <;> rfl)) u) (check_at (HB8.out.kept hk) HXo.out X0.out)) ?_
    refine fsteps_cons 6 rfl (fun a u hE hD hk => f_as (show ((decide ((V : Int) = (0 : Int))) : Bool) = b from HVb.out) (f_val (o := ⟨some 49, _, _, _, _, _⟩) (.bool (decide ((V : Int) = (0 : Int)))) rfl (wanted_none rfl _) (exec_eqn (p := V) (q := 0) rfl (hD 4 48 (by kernel_rfl)) rfl) rfl)) ?_
    refine sv 7 rfl rfl rfl (fun a u hE hD hk => exec_move (.tmp 9) _ rfl (hE 9 (.int .i64 m) (by kernel_rfl) (by kernel_rfl))) ?_
    refine sv 8 rfl rfl rfl (fun a u hE hD hk => exec_move (.tmp 11) _ rfl (hE 11 (.int .i64 q) (by kernel_rfl) (by kernel_rfl))) ?_
    refine sv 9 rfl rfl rfl (fun a u hE hD hk => exec_addn (p := (m)) (q := (q)) ((m : Int) + (q : Int)) rfl (hD 6 50 (by kernel_rfl)) (hD 7 51 (by kernel_rfl)) rfl (by omega) (by omega)) ?_
    refine fsteps_cons 10 rfl (fun a u hE hD hk => f_as (show ((decide ((((m : Int) + (q : Int)) : Int) ≤ (60 : Int))) : Bool) = b from HB_.out) (f_val (o := ⟨some 53, _, _, _, _, _⟩) (.bool (decide ((((m : Int) + (q : Int)) : Int) ≤ (60 : Int)))) rfl (wanted_none rfl _) (exec_len_ (p := ((m : Int) + (q : Int))) (q := 60) rfl (hD 8 52 (by kernel_rfl)) rfl) rfl)) ?_
    refine sv 11 rfl rfl rfl (fun a u hE hD hk => exec_eqb (.tmp 49) (.tmp 53) _ b b true rfl (hD 5 49 (by kernel_rfl)) (hD 9 53 (by kernel_rfl)) (by simp)) ?_
    refine sv 12 rfl rfl rfl (fun a u hE hD hk => exec_move (.tmp 54) _ rfl (hD 10 54 (by kernel_rfl))) ?_
    refine fsteps_cons 13 rfl (fun a u hE hD hk => f_val (o := ⟨some 56, _, _, _, _, _⟩) (.pointer (some ⟨g, 0, none⟩)) rfl (wanted_at (b := true) true rfl rfl (hD 11 55 (by kernel_rfl))) (exec_move (.tmp 7) _ rfl (hE 7 (.pointer (some ⟨g, 0, none⟩)) (by kernel_rfl) (by kernel_rfl))) rfl) ?_
    refine fsteps_cons 14 rfl (fun a u hE hD hk => f_val (o := ⟨some 57, _, _, _, _, _⟩) (L.v) rfl (wanted_at (b := true) true rfl rfl (hD 11 55 (by kernel_rfl))) (exec_ldS 25 _ (.tmp 12) (g12) (0) (L.cells) rfl (hE 12 (.pointer (some ⟨g12, 0, none⟩)) (by kernel_rfl) (by kernel_rfl)) (range_kept HL8.out hk) Try.underlying25 (by rw [L.len4l]; exact szLim)) rfl) ?_
    refine fsteps_cons 15 rfl (fun a u hE hD hk => f_val (o := ⟨some 58, _, _, _, _, _⟩) (.int .i64 q) rfl (wanted_at (b := true) true rfl rfl (hD 11 55 (by kernel_rfl))) (exec_move (.tmp 11) _ rfl (hE 11 (.int .i64 q) (by kernel_rfl) (by kernel_rfl))) rfl) ?_
    refine fsteps_cons 16 rfl (fun a u hE hD hk => f_call (o := ⟨some 59, _, _, _, _, _⟩) 11 #[.int .i64 1, .int .i64 q] rfl (wanted_at (b := true) true rfl rfl (hD 11 55 (by kernel_rfl))) (exec_call 11 _ [.const (.int .i64 1), .tmp 58] _ [.int .i64 1, .int .i64 q] Try.func11 (by kernel_rfl) (by kernel_rfl) rfl (show [a.eval (.const (.int .i64 1)), a.eval (.tmp 58)] = [.int .i64 1, .int .i64 q] from (by rw [show a.eval (.tmp 58) = .int .i64 q from (hD 14 58 (by kernel_rfl))] <;> rfl)) u) (by rw [← HC.out]; exact o_any 1 q u)) ?_
    refine fsteps_cons 17 rfl (fun a u hE hD hk => f_call (o := ⟨some 60, _, _, _, _, _⟩) 10 #[.pointer (some ⟨g, 0, none⟩), L.v, c.v, .int .i64 0] rfl (wanted_at (b := true) true rfl rfl (hD 11 55 (by kernel_rfl))) (exec_call 10 _ [.tmp 56, .tmp 57, .tmp 59, .const (.int .i64 0)] _ [.pointer (some ⟨g, 0, none⟩), L.v, c.v, .int .i64 0] Try.func10 (by kernel_rfl) (by kernel_rfl) rfl (show [a.eval (.tmp 56), a.eval (.tmp 57), a.eval (.tmp 59), a.eval (.const (.int .i64 0))] = [.pointer (some ⟨g, 0, none⟩), L.v, c.v, .int .i64 0] from (by rw [show a.eval (.tmp 56) = .pointer (some ⟨g, 0, none⟩) from (hD 12 56 (by kernel_rfl)), show a.eval (.tmp 57) = L.v from (hD 13 57 (by kernel_rfl)), show a.eval (.tmp 59) = c.v from (hD 15 59 (by kernel_rfl))] <;> rfl)) u) (check_at (HB8.out.kept hk) HXo.out X0.out)) ?_
    refine fsteps_cons 18 rfl (fun a u hE hD hk => f_val (o := ⟨some 61, _, _, _, _, _⟩) (.pointer (some ⟨r, 0, none⟩)) rfl (wanted_at (b := true) true rfl rfl (hD 11 55 (by kernel_rfl))) (exec_move (.tmp 8) _ rfl (hE 8 (.pointer (some ⟨r, 0, none⟩)) (by kernel_rfl) (by kernel_rfl))) rfl) ?_
    refine fsteps_cons 19 rfl (fun a u hE hD hk => f_val (o := ⟨some 62, _, _, _, _, _⟩) (L.v) rfl (wanted_at (b := true) true rfl rfl (hD 11 55 (by kernel_rfl))) (exec_ldS 25 _ (.tmp 12) (g12) (0) (L.cells) rfl (hE 12 (.pointer (some ⟨g12, 0, none⟩)) (by kernel_rfl) (by kernel_rfl)) (range_kept HL8.out hk) Try.underlying25 (by rw [L.len4l]; exact szLim)) rfl) ?_
    refine fsteps_cons 20 rfl (fun a u hE hD hk => f_val (o := ⟨some 63, _, _, _, _, _⟩) (.int .i64 q) rfl (wanted_at (b := true) true rfl rfl (hD 11 55 (by kernel_rfl))) (exec_move (.tmp 11) _ rfl (hE 11 (.int .i64 q) (by kernel_rfl) (by kernel_rfl))) rfl) ?_
    refine fsteps_cons 21 rfl (fun a u hE hD hk => f_call (o := ⟨some 64, _, _, _, _, _⟩) 11 #[.int .i64 1, .int .i64 q] rfl (wanted_at (b := true) true rfl rfl (hD 11 55 (by kernel_rfl))) (exec_call 11 _ [.const (.int .i64 1), .tmp 63] _ [.int .i64 1, .int .i64 q] Try.func11 (by kernel_rfl) (by kernel_rfl) rfl (show [a.eval (.const (.int .i64 1)), a.eval (.tmp 63)] = [.int .i64 1, .int .i64 q] from (by rw [show a.eval (.tmp 63) = .int .i64 q from (hD 19 63 (by kernel_rfl))] <;> rfl)) u) (by rw [← HC.out]; exact o_any 1 q u)) ?_
    refine fsteps_cons 22 rfl (fun a u hE hD hk => f_call (o := ⟨some 65, _, _, _, _, _⟩) 10 #[.pointer (some ⟨r, 0, none⟩), L.v, c.v, .int .i64 0] rfl (wanted_at (b := true) true rfl rfl (hD 11 55 (by kernel_rfl))) (exec_call 10 _ [.tmp 61, .tmp 62, .tmp 64, .const (.int .i64 0)] _ [.pointer (some ⟨r, 0, none⟩), L.v, c.v, .int .i64 0] Try.func10 (by kernel_rfl) (by kernel_rfl) rfl (show [a.eval (.tmp 61), a.eval (.tmp 62), a.eval (.tmp 64), a.eval (.const (.int .i64 0))] = [.pointer (some ⟨r, 0, none⟩), L.v, c.v, .int .i64 0] from (by rw [show a.eval (.tmp 61) = .pointer (some ⟨r, 0, none⟩) from (hD 17 61 (by kernel_rfl)), show a.eval (.tmp 62) = L.v from (hD 18 62 (by kernel_rfl)), show a.eval (.tmp 64) = c.v from (hD 20 64 (by kernel_rfl))] <;> rfl)) u) (check_at (HR8.out.kept hk) HZo.out Y0.out)) ?_
    refine fsteps_cons 23 rfl (fun a u hE hD hk => f_as (show ((decide ((V : Int) = (V : Int))) : Bool) = true from decide_eq_true rfl) (f_val (o := ⟨some 66, _, _, _, _, _⟩) (.bool (decide ((V : Int) = (V : Int)))) rfl (wanted_at (b := true) true rfl rfl (hD 11 55 (by kernel_rfl))) (exec_eqn (p := V) (q := V) rfl (hD 16 60 (by kernel_rfl)) (hD 21 65 (by kernel_rfl))) rfl)) ?_
    refine sv 24 rfl rfl rfl (fun a u hE hD hk => exec_pick (.tmp 55) (.tmp 66) (.const (.bool false)) (.bool true) rfl (hD 11 55 (by kernel_rfl)) (hD 22 66 (by kernel_rfl))) ?_
    refine sv 25 rfl rfl rfl (fun a u hE hD hk => exec_move (.tmp 67) _ rfl (hD 23 67 (by kernel_rfl))) ?_
    refine fsteps_cons 26 rfl (fun a u hE hD hk => f_val (o := ⟨some 69, _, _, _, _, _⟩) (.pointer (some ⟨g, 0, none⟩)) rfl (wanted_at (b := true) true rfl rfl (hD 24 68 (by kernel_rfl))) (exec_move (.tmp 7) _ rfl (hE 7 (.pointer (some ⟨g, 0, none⟩)) (by kernel_rfl) (by kernel_rfl))) rfl) ?_
    refine fsteps_cons 27 rfl (fun a u hE hD hk => f_val (o := ⟨some 70, _, _, _, _, _⟩) (L.v) rfl (wanted_at (b := true) true rfl rfl (hD 24 68 (by kernel_rfl))) (exec_ldS 25 _ (.tmp 12) (g12) (0) (L.cells) rfl (hE 12 (.pointer (some ⟨g12, 0, none⟩)) (by kernel_rfl) (by kernel_rfl)) (range_kept HL8.out hk) Try.underlying25 (by rw [L.len4l]; exact szLim)) rfl) ?_
    refine fsteps_cons 28 rfl (fun a u hE hD hk => f_val (o := ⟨some 71, _, _, _, _, _⟩) (.int .i64 q) rfl (wanted_at (b := true) true rfl rfl (hD 24 68 (by kernel_rfl))) (exec_move (.tmp 11) _ rfl (hE 11 (.int .i64 q) (by kernel_rfl) (by kernel_rfl))) rfl) ?_
    refine fsteps_cons 29 rfl (fun a u hE hD hk => f_call (o := ⟨some 72, _, _, _, _, _⟩) 11 #[.int .i64 1, .int .i64 q] rfl (wanted_at (b := true) true rfl rfl (hD 24 68 (by kernel_rfl))) (exec_call 11 _ [.const (.int .i64 1), .tmp 71] _ [.int .i64 1, .int .i64 q] Try.func11 (by kernel_rfl) (by kernel_rfl) rfl (show [a.eval (.const (.int .i64 1)), a.eval (.tmp 71)] = [.int .i64 1, .int .i64 q] from (by rw [show a.eval (.tmp 71) = .int .i64 q from (hD 27 71 (by kernel_rfl))] <;> rfl)) u) (by rw [← HC.out]; exact o_any 1 q u)) ?_
    refine fsteps_cons 30 rfl (fun a u hE hD hk => f_call (o := ⟨some 73, _, _, _, _, _⟩) 10 #[.pointer (some ⟨g, 0, none⟩), L.v, c.v, .int .i64 3] rfl (wanted_at (b := true) true rfl rfl (hD 24 68 (by kernel_rfl))) (exec_call 10 _ [.tmp 69, .tmp 70, .tmp 72, .const (.int .i64 3)] _ [.pointer (some ⟨g, 0, none⟩), L.v, c.v, .int .i64 3] Try.func10 (by kernel_rfl) (by kernel_rfl) rfl (show [a.eval (.tmp 69), a.eval (.tmp 70), a.eval (.tmp 72), a.eval (.const (.int .i64 3))] = [.pointer (some ⟨g, 0, none⟩), L.v, c.v, .int .i64 3] from (by rw [show a.eval (.tmp 69) = .pointer (some ⟨g, 0, none⟩) from (hD 25 69 (by kernel_rfl)), show a.eval (.tmp 70) = L.v from (hD 26 70 (by kernel_rfl)), show a.eval (.tmp 72) = c.v from (hD 28 72 (by kernel_rfl))] <;> rfl)) u) (check_at (HB8.out.kept hk) HXo.out X3.out)) ?_
    refine fsteps_cons 31 rfl (fun a u hE hD hk => f_as (show ((decide ((U : Int) = (0 : Int))) : Bool) = d from HUd.out) (f_val (o := ⟨some 74, _, _, _, _, _⟩) (.bool (decide ((U : Int) = (0 : Int)))) rfl (wanted_at (b := true) true rfl rfl (hD 24 68 (by kernel_rfl))) (exec_eqn (p := U) (q := 0) rfl (hD 29 73 (by kernel_rfl)) rfl) rfl)) ?_
    refine fsteps_cons 32 rfl (fun a u hE hD hk => f_val (o := ⟨some 75, _, _, _, _, _⟩) (.int .i64 m) rfl (wanted_at (b := true) true rfl rfl (hD 24 68 (by kernel_rfl))) (exec_move (.tmp 9) _ rfl (hE 9 (.int .i64 m) (by kernel_rfl) (by kernel_rfl))) rfl) ?_
    refine fsteps_cons 33 rfl (fun a u hE hD hk => f_val (o := ⟨some 76, _, _, _, _, _⟩) (.int .i64 q) rfl (wanted_at (b := true) true rfl rfl (hD 24 68 (by kernel_rfl))) (exec_move (.tmp 11) _ rfl (hE 11 (.int .i64 q) (by kernel_rfl) (by kernel_rfl))) rfl) ?_
    refine fsteps_cons 34 rfl (fun a u hE hD hk => f_val (o := ⟨some 77, _, _, _, _, _⟩) (.int .i64 ((m : Int) + (q : Int))) rfl (wanted_at (b := true) true rfl rfl (hD 24 68 (by kernel_rfl))) (exec_addn (p := (m)) (q := (q)) ((m : Int) + (q : Int)) rfl (hD 31 75 (by kernel_rfl)) (hD 32 76 (by kernel_rfl)) rfl (by omega) (by omega)) rfl) ?_
    refine fsteps_cons 35 rfl (fun a u hE hD hk => f_as (show ((decide ((((m : Int) + (q : Int)) : Int) ≤ (50 : Int))) : Bool) = d from HD.out) (f_val (o := ⟨some 78, _, _, _, _, _⟩) (.bool (decide ((((m : Int) + (q : Int)) : Int) ≤ (50 : Int)))) rfl (wanted_at (b := true) true rfl rfl (hD 24 68 (by kernel_rfl))) (exec_len_ (p := ((m : Int) + (q : Int))) (q := 50) rfl (hD 33 77 (by kernel_rfl)) rfl) rfl)) ?_
    refine fsteps_cons 36 rfl (fun a u hE hD hk => f_val (o := ⟨some 79, _, _, _, _, _⟩) (.bool true) rfl (wanted_at (b := true) true rfl rfl (hD 24 68 (by kernel_rfl))) (exec_eqb (.tmp 74) (.tmp 78) _ d d true rfl (hD 30 74 (by kernel_rfl)) (hD 34 78 (by kernel_rfl)) (by simp)) rfl) ?_
    refine sv 37 rfl rfl rfl (fun a u hE hD hk => exec_pick (.tmp 68) (.tmp 79) (.const (.bool false)) (.bool true) rfl (hD 24 68 (by kernel_rfl)) (hD 35 79 (by kernel_rfl))) ?_
    refine sv 38 rfl rfl rfl (fun a u hE hD hk => exec_move (.tmp 80) _ rfl (hD 36 80 (by kernel_rfl))) ?_
    refine fsteps_cons 39 rfl (fun a u hE hD hk => f_call (o := ⟨some 82, _, _, _, _, _⟩) 3 #[] rfl (wanted_at (b := true) true rfl rfl (hD 37 81 (by kernel_rfl))) (exec_call 3 _ [] _ [] Try.func3 (by kernel_rfl) (by kernel_rfl) rfl rfl u) (riskRuns_is u)) ?_
    refine sv 40 rfl rfl rfl (fun a u hE hD hk => exec_pick (.tmp 81) (.tmp 82) (.const (.bool false)) (.bool true) rfl (hD 37 81 (by kernel_rfl)) (hD 38 82 (by kernel_rfl))) ?_
    refine sv 41 rfl rfl rfl (fun a u hE hD hk => exec_assign (.tmp 83) _ rfl (hD 39 83 (by kernel_rfl))) ?_
    exact fsteps_nil
  intro gv w9 hV k9
  rw [show dstsOf _ 41 = [44, 45, 46, 47, 48, 49, 50, 51, 52, 53, 54, 55, 56, 57, 58, 59, 60, 61, 62, 63, 64, 65, 66, 67, 68, 69, 70, 71, 72, 73, 74, 75, 76, 77, 78, 79, 80, 81, 82, 83, 6] by kernel_rfl]
  simp only [List.foldl_cons, List.foldl_nil, List.setIfInBounds_toArray, List.set_cons_succ, List.set_cons_zero, List.drop_succ_cons, List.drop_zero]
  rw [show gv 6 = .bool true from hV 40 6 (by kernel_rfl)]
  clear hV
  refine wpList_nil ?_
  have kw9 := kz8.trans k9
  go_wp2
  go_ret
  exact ⟨rfl, kw9⟩
end Go.Proofs.Ytgajdkelpaaadaa
