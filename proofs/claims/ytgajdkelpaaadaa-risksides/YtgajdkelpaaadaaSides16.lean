/-
  RiskSides: a position beyond its limit hinders no order that brings it back; from nothing both sides are alike; it answers true. No condition.
-/
import Derived.Test.YtgajdkelpaaadaaRuns16
import Derived.Test.YtgajdkelpaaadaaRskN
import Derived.Test.YtgajdkelpaaadaaSame6
namespace Go.Proofs.Ytgajdkelpaaadaa
open Go.RowKit
set_option linter.unusedVariables false
set_option maxRecDepth 100000

theorem tr_vals {p : Int} (h0 : 1 ≤ p) (h1 : p ≤ 100) : trB zeroB 1 0 1 p = true ∧ (trM zeroB 1 0 1 p).all 1 = 0 ∧ (trM zeroB 1 0 1 p).oAt 1 0 = 0 ∧ (trM zeroB 1 0 1 p).pAt 1 0 = p := by
  obtain ⟨e1, e2⟩ := tr_in (B := zeroB) (a := 1) (b := 0) (s := 1) (q := p) (by omega) (by omega) (by omega) (by omega) (by decide) (by show -1099511627776 ≤ 0 + p; omega) (by show 0 + p ≤ _; omega)
  have e3 : trM zeroB 1 0 1 p = ⟨zeroB.o, upd zeroB.p 1 0 (0 + p)⟩ := e2
  refine ⟨e1, ?_⟩
  rw [e3]
  refine ⟨(all_1 _).trans rfl, oAt_1 _ (i := 0) (by omega), (pAt_1 _ (i := 0) (by omega)).trans ?_⟩
  dsimp only
  rw [upd_self]
  omega
def limS (l : Int) : Lim := ⟨1000, 1099511627776, 1073741824, l⟩
theorem chk_sides {B : Bal} {s p q l : Int} (hs : s = 1 ∨ s = 2) (hq0 : 1 ≤ q) (hq1 : q ≤ 100) (ha : B.all 1 = 0) (h0 : B.oAt 1 0 = 0) (p0 : B.pAt 1 0 = p) : chk B (limS l) (oS s 1 q) 0 = if l < sided s p + q then 8 else 0 := by
  rw [chk_o hs (by omega) (by omega) (by omega) (by omega) (by decide), ha, h0, p0]
  refine if8 ?_
  show (1000 < q ∨ 1099511627776 < 1 * q ∨ 1073741824 < 0 + q ∨ l < sided s p + 0 + q) ↔ l < sided s p + q
  omega
theorem ok_dec2 {p q : Prop} [Decidable p] [Decidable q] (h : p ↔ ¬ q) : decide ((if p then (8 : Int) else 0) = 0) = decide q := by
  by_cases hp : p
  · rw [if_pos hp, decide_eq_false (by omega), decide_eq_false (h.1 hp)]
  · rw [if_neg hp, decide_eq_true rfl]
    exact (decide_eq_true (Classical.byContradiction fun hq => hp (h.2 hq))).symm
set_option maxRecDepth 100000 in
set_option maxHeartbeats 1600000 in
theorem riskSides_any (pos qty limit : Int) (w : World) : Calls Try.prog 7 #[.int .i64 pos, .int .i64 qty, .int .i64 limit] w fun e w' => e = .returned (.bool true) ∧ Kept w w' := by
  obtain ⟨p, hp⟩ : ∃ z, wi pos 1 100 = z := ⟨_, rfl⟩
  have bp := wi_in pos 1 100 (by omega)
  rw [hp] at bp
  have Wp := Lib.hid hp
  clear hp
  obtain ⟨q, hq⟩ : ∃ z, wi qty 1 100 = z := ⟨_, rfl⟩
  have bq := wi_in qty 1 100 (by omega)
  rw [hq] at bq
  have Wq := Lib.hid hq
  clear hq
  obtain ⟨l, hl⟩ : ∃ z, wi limit 0 100 = z := ⟨_, rfl⟩
  have bl := wi_in limit 0 100 (by omega)
  rw [hl] at bl
  have Wl := Lib.hid hl
  clear hl
  obtain ⟨e1, v1, v2, v3⟩ := tr_vals bp.1 bp.2
  obtain ⟨X, hX⟩ : ∃ X, trM zeroB 1 0 1 p = X := ⟨_, rfl⟩
  have HXo : Hid X.Ok := by show Bal.Ok _; rw [← hX]; exact ok_zero.tr _ _ _ _
  rw [hX] at v1 v2 v3
  have z0 := chk_sides (B := zeroB) (s := 1) (p := 0) (q := q) (l := l) (.inl rfl) bq.1 bq.2 ((all_1 _).trans rfl) (oAt_1 _ (i := 0) (by omega)) (pAt_1 _ (i := 0) (by omega))
  have z1 := chk_sides (B := zeroB) (s := 2) (p := 0) (q := q) (l := l) (.inr rfl) bq.1 bq.2 ((all_1 _).trans rfl) (oAt_1 _ (i := 0) (by omega)) (pAt_1 _ (i := 0) (by omega))
  have x0 := chk_sides (s := 1) (q := q) (l := l) (.inl rfl) bq.1 bq.2 v1 v2 v3
  have x1 := chk_sides (s := 2) (q := q) (l := l) (.inr rfl) bq.1 bq.2 v1 v2 v3
  rw [if8 (q := l < q) (by unfold sided; rw [if_neg (by omega)]; omega)] at z0
  rw [if8 (q := l < q) (by unfold sided; rw [if_pos rfl]; omega)] at z1
  rw [if8 (q := l < p + q) (by unfold sided; rw [if_neg (by omega)])] at x0
  rw [if8 (q := l < q - p) (by unfold sided; rw [if_pos rfl]; omega)] at x1
  obtain ⟨L, hL⟩ : ∃ L, limS l = L := ⟨_, rfl⟩
  rw [hL] at z0 z1 x0 x1
  have ec : oM 1 q = oS 1 1 q := rfl
  obtain ⟨c, hc⟩ : ∃ c, oS 1 1 q = c := ⟨_, rfl⟩
  obtain ⟨d, hd⟩ : ∃ c, oS 2 1 q = c := ⟨_, rfl⟩
  rw [hc] at z0 x0 ec
  rw [hd] at z1 x1
  have hcd : c.cells.set 3 (.int .i64 2) = d.cells := by rw [← hc, ← hd]; rfl
  obtain ⟨V, hV⟩ : ∃ V : Int, (if l < q then 8 else 0) = V := ⟨_, rfl⟩
  obtain ⟨bV, hbV⟩ : ∃ b, decide (q ≤ l) = b := ⟨_, rfl⟩
  have IV : Hid (decide (V = 0) = bV) := by show _ = _; rw [← hV, ← hbV]; exact ok_dec2 (by omega)
  have DV := Lib.hid hbV
  obtain ⟨U, hU⟩ : ∃ V : Int, (if l < p + q then 8 else 0) = V := ⟨_, rfl⟩
  obtain ⟨bU, hbU⟩ : ∃ b, decide (p + q ≤ l) = b := ⟨_, rfl⟩
  have IU : Hid (decide (U = 0) = bU) := by show _ = _; rw [← hU, ← hbU]; exact ok_dec2 (by omega)
  have DU := Lib.hid hbU
  obtain ⟨Y, hY⟩ : ∃ V : Int, (if l < q - p then 8 else 0) = V := ⟨_, rfl⟩
  obtain ⟨bY, hbY⟩ : ∃ b, decide (q - p ≤ l) = b := ⟨_, rfl⟩
  have IY : Hid (decide (Y = 0) = bY) := by show _ = _; rw [← hY, ← hbY]; exact ok_dec2 (by omega)
  have DY := Lib.hid hbY
  rw [hV] at z0 z1
  rw [hU] at x0
  rw [hY] at x1
  have E1 := Lib.hid e1
  have Z0 := Lib.hid z0
  have Z1 := Lib.hid z1
  have X0 := Lib.hid x0
  have X1 := Lib.hid x1
  have HL := Lib.hid hL
  have HC := Lib.hid ec
  have HCD := Lib.hid hcd
  have HX := Lib.hid hX
  clear e1 z0 z1 x0 x1 hL hc hd ec hcd hX hV hU hY hbV hbU hbY v1 v2 v3
  go_enter Try.func7, Try.ntmps7
  go_upto_region 1 with fail
  refine wp_region_lit ?_
  refine l_call (o := ⟨some 15, _, _, _, _, _⟩) 9 #[] rfl (exec_call 9 _ [] _ _ Try.func9 (by kernel_rfl) (by kernel_rfl) rfl (by kernel_rfl) _) ?_
  refine (new_any w.heap.size w (Nat.le_refl _)).mono ?_
  rintro e w1 ⟨v1, rfl, ⟨g, rfl, hg, hB⟩, k1⟩
  refine ⟨_, rfl, ?_⟩
  simp only [Act.put, List.setIfInBounds_toArray, List.set_cons_succ, List.set_cons_zero]
  refine l_call (o := ⟨some 16, _, _, _, _, _⟩) 9 #[] rfl (exec_call 9 _ [] _ _ Try.func9 (by kernel_rfl) (by kernel_rfl) rfl (by kernel_rfl) _) ?_
  refine (new_any w1.heap.size w1 (Nat.le_refl _)).mono ?_
  rintro e w2 ⟨v2, rfl, ⟨r, rfl, hr, hR⟩, k2⟩
  refine ⟨_, rfl, ?_⟩
  simp only [Act.put, List.setIfInBounds_toArray, List.set_cons_succ, List.set_cons_zero]
  refine l_val (o := ⟨some 7, _, _, _, _, _⟩) (.pointer (some ⟨g, 0, none⟩)) rfl (exec_assign (.tmp 15) (.pointer (some ⟨g, 0, none⟩)) rfl (by kernel_rfl)) ?_
  simp only [Act.put, List.setIfInBounds_toArray, List.set_cons_succ, List.set_cons_zero]
  refine l_val (o := ⟨some 8, _, _, _, _, _⟩) (.pointer (some ⟨r, 0, none⟩)) rfl (exec_assign (.tmp 16) (.pointer (some ⟨r, 0, none⟩)) rfl (by kernel_rfl)) ?_
  simp only [Act.put, List.setIfInBounds_toArray, List.set_cons_succ, List.set_cons_zero]
  refine wpList_nil ?_
  have zg := hB.lt
  have z1 := k1.size
  have hgr : ¬ g = r := by omega
  have hr : w.heap.size ≤ r := by omega
  have HB := Lib.hid (hB.kept k2)
  have HR := Lib.hid hR
  have kw2 := k1.trans k2
  clear hB hR k1 k2 zg z1
  go_upto_region 2 with fail
  refine wp_text 6 [.eq (.pointer (some ⟨g, 0, none⟩)), .eq (.bool false), .eq (.bool false), .eq (.pointer (some ⟨r, 0, none⟩)), .eq (.bool false), .eq (.bool false)] rfl (by kernel_rfl) ?_ ?_
  · refine sv 1 rfl rfl rfl (fun a u hE hD hk => exec_move (.tmp 7) _ rfl (hE 7 (.pointer (some ⟨g, 0, none⟩)) (by kernel_rfl) (by kernel_rfl))) ?_
    refine sv 2 rfl rfl rfl (fun a u hE hD hk => exec_eqP (.tmp 17) _ _ ⟨g, 0, none⟩ (by kernel_rfl) rfl (hD 0 17 (by kernel_rfl))) ?_
    refine sv 3 rfl rfl rfl (fun a u hE hD hk => exec_move (.tmp 18) _ rfl (hD 1 18 (by kernel_rfl))) ?_
    refine fsteps_cons 4 rfl (fun a u hE hD hk => f_val (o := ⟨some 20, _, _, _, _, _⟩) (.pointer (some ⟨r, 0, none⟩)) rfl (wanted_at (b := false) false rfl rfl (hD 2 19 (by kernel_rfl))) (exec_move (.tmp 8) _ rfl (hE 8 (.pointer (some ⟨r, 0, none⟩)) (by kernel_rfl) (by kernel_rfl))) rfl) ?_
    refine fsteps_cons 5 rfl (fun a u hE hD hk => f_val (o := ⟨some 21, _, _, _, _, _⟩) (.bool false) rfl (wanted_at (b := false) false rfl rfl (hD 2 19 (by kernel_rfl))) (exec_eqP (.tmp 20) _ _ ⟨r, 0, none⟩ (by kernel_rfl) rfl (hD 3 20 (by kernel_rfl))) rfl) ?_
    refine sv 6 rfl rfl rfl (fun a u hE hD hk => exec_pickF (.tmp 19) (.const (.bool true)) (.tmp 21) (.bool false) rfl (hD 2 19 (by kernel_rfl)) (hD 4 21 (by kernel_rfl))) ?_
    exact fsteps_nil
  intro gv w3 hV k3
  rw [show dstsOf _ 6 = [17, 18, 19, 20, 21, 22] by kernel_rfl]
  simp only [List.foldl_cons, List.foldl_nil, List.setIfInBounds_toArray, List.set_cons_succ, List.set_cons_zero, List.drop_succ_cons, List.drop_zero]
  rw [show gv 22 = .bool false from hV 5 22 (by kernel_rfl)]
  clear hV
  refine wpList_nil ?_
  have HB3 := Lib.hid (HB.out.kept k3)
  have HR3 := Lib.hid (HR.out.kept k3)
  have kw3 := kw2.trans k3
  clear HB HR kw2 k3
  go_upto_region 4 with fail
  refine wp_text 6 [.eq (.int .i64 pos), .eq (.int .i64 p), .eq (.int .i64 qty), .eq (.int .i64 q), .eq (.int .i64 limit), .eq (.int .i64 l)] rfl (by kernel_rfl) ?_ ?_
  · refine sv 1 rfl rfl rfl (fun a u hE hD hk => exec_move (.tmp 0) _ rfl (hE 0 (.int .i64 pos) (by kernel_rfl) (by kernel_rfl))) ?_
    refine fsteps_cons 2 rfl (fun a u hE hD hk => f_call (o := ⟨some 24, _, _, _, _, _⟩) 16 #[.int .i64 pos, .int .i64 1, .int .i64 100] rfl (wanted_none rfl _) (exec_call 16 _ [.tmp 23, .const (.int .i64 1), .const (.int .i64 100)] _ [.int .i64 pos, .int .i64 1, .int .i64 100] Try.func16 (by kernel_rfl) (by kernel_rfl) rfl (show [a.eval (.tmp 23), a.eval (.const (.int .i64 1)), a.eval (.const (.int .i64 100))] = [.int .i64 pos, .int .i64 1, .int .i64 100] from (by rw [show a.eval (.tmp 23) = .int .i64 pos from (hD 0 23 (by kernel_rfl))] <;> rfl)) u) (by rw [← Wp.out]; exact within_is pos 1 100 u (by omega) (by omega) (by omega))) ?_
    refine sv 3 rfl rfl rfl (fun a u hE hD hk => exec_move (.tmp 1) _ rfl (hE 1 (.int .i64 qty) (by kernel_rfl) (by kernel_rfl))) ?_
    refine fsteps_cons 4 rfl (fun a u hE hD hk => f_call (o := ⟨some 26, _, _, _, _, _⟩) 16 #[.int .i64 qty, .int .i64 1, .int .i64 100] rfl (wanted_none rfl _) (exec_call 16 _ [.tmp 25, .const (.int .i64 1), .const (.int .i64 100)] _ [.int .i64 qty, .int .i64 1, .int .i64 100] Try.func16 (by kernel_rfl) (by kernel_rfl) rfl (show [a.eval (.tmp 25), a.eval (.const (.int .i64 1)), a.eval (.const (.int .i64 100))] = [.int .i64 qty, .int .i64 1, .int .i64 100] from (by rw [show a.eval (.tmp 25) = .int .i64 qty from (hD 2 25 (by kernel_rfl))] <;> rfl)) u) (by rw [← Wq.out]; exact within_is qty 1 100 u (by omega) (by omega) (by omega))) ?_
    refine sv 5 rfl rfl rfl (fun a u hE hD hk => exec_move (.tmp 2) _ rfl (hE 2 (.int .i64 limit) (by kernel_rfl) (by kernel_rfl))) ?_
    refine fsteps_cons 6 rfl (fun a u hE hD hk => f_call (o := ⟨some 28, _, _, _, _, _⟩) 16 #[.int .i64 limit, .int .i64 0, .int .i64 100] rfl (wanted_none rfl _) (exec_call 16 _ [.tmp 27, .const (.int .i64 0), .const (.int .i64 100)] _ [.int .i64 limit, .int .i64 0, .int .i64 100] Try.func16 (by kernel_rfl) (by kernel_rfl) rfl (show [a.eval (.tmp 27), a.eval (.const (.int .i64 0)), a.eval (.const (.int .i64 100))] = [.int .i64 limit, .int .i64 0, .int .i64 100] from (by rw [show a.eval (.tmp 27) = .int .i64 limit from (hD 4 27 (by kernel_rfl))] <;> rfl)) u) (by rw [← Wl.out]; exact within_is limit 0 100 u (by omega) (by omega) (by omega))) ?_
    exact fsteps_nil
  intro gv w4 hV k4
  rw [show dstsOf _ 6 = [23, 24, 25, 26, 27, 28] by kernel_rfl]
  simp only [List.foldl_cons, List.foldl_nil, List.setIfInBounds_toArray, List.set_cons_succ, List.set_cons_zero, List.drop_succ_cons, List.drop_zero]
  rw [show gv 24 = .int .i64 p from hV 1 24 (by kernel_rfl)]
  rw [show gv 26 = .int .i64 q from hV 3 26 (by kernel_rfl)]
  rw [show gv 28 = .int .i64 l from hV 5 28 (by kernel_rfl)]
  clear hV
  refine l_val (o := ⟨some 9, _, _, _, _, _⟩) (.int .i64 p) rfl (exec_assign (.tmp 24) (.int .i64 p) rfl (by kernel_rfl)) ?_
  simp only [Act.put, List.setIfInBounds_toArray, List.set_cons_succ, List.set_cons_zero]
  refine l_val (o := ⟨some 10, _, _, _, _, _⟩) (.int .i64 q) rfl (exec_assign (.tmp 26) (.int .i64 q) rfl (by kernel_rfl)) ?_
  simp only [Act.put, List.setIfInBounds_toArray, List.set_cons_succ, List.set_cons_zero]
  refine l_val (o := ⟨some 11, _, _, _, _, _⟩) (.int .i64 l) rfl (exec_assign (.tmp 28) (.int .i64 l) rfl (by kernel_rfl)) ?_
  simp only [Act.put, List.setIfInBounds_toArray, List.set_cons_succ, List.set_cons_zero]
  refine wpList_nil ?_
  go_upto_region 5 with fail
  refine wp_text 2 [.eq (.int .i64 l), .eq (L.v)] rfl (by kernel_rfl) ?_ ?_
  · refine sv 1 rfl rfl rfl (fun a u hE hD hk => exec_move (.tmp 11) _ rfl (hE 11 (.int .i64 l) (by kernel_rfl) (by kernel_rfl))) ?_
    refine sv 2 rfl rfl rfl (fun a u hE hD hk => by rw [← HL.out]; exact exec_bldL (.const (.int .i64 1000)) (.const (.int .i64 1099511627776)) (.const (.int .i64 1073741824)) (.tmp 29) 1000 1099511627776 1073741824 l rfl rfl rfl rfl (hD 0 29 (by kernel_rfl))) ?_
    exact fsteps_nil
  intro gv wa hV ka
  rw [show dstsOf _ 2 = [29, 30] by kernel_rfl]
  simp only [List.foldl_cons, List.foldl_nil, List.setIfInBounds_toArray, List.set_cons_succ, List.set_cons_zero, List.drop_succ_cons, List.drop_zero]
  rw [show gv 30 = L.v from hV 1 30 (by kernel_rfl)]
  clear hV
  refine l_new (o := ⟨some 12, _, _, _, _, _⟩) (.pointer (some ⟨wa.heap.size, 0, none⟩)) (wa.alloc (.cells zeroL.cells.toArray 25)) rfl (exec_alc 25 zeroL.cells rfl zLim) ?_
  have hNa := Blk.new wa 25 zeroL.cells
  have kb : Kept wa (wa.alloc (.cells zeroL.cells.toArray 25)) := (Keep.refl _ wa).alloc _
  generalize wa.alloc (.cells zeroL.cells.toArray 25) = wb at hNa kb ⊢
  simp only [Act.put, List.setIfInBounds_toArray, List.set_cons_succ, List.set_cons_zero]
  refine l_setS (o := ⟨none, _, _, _, _, _⟩) 25 wa.heap.size 25 zeroL.cells L.cells (.tmp 12) (.tmp 30) rfl rfl (by kernel_rfl) (by kernel_rfl) hNa (by rw [Lim.len4l]; exact szLim) (by rw [Lim.len4l, Lim.len4l]) (Lim.one _) ?_
  intro w5 hC hK hS
  simp only [Act.put]
  refine wpList_nil ?_
  obtain ⟨g12, hg12⟩ : ∃ y, wa.heap.size = y := ⟨_, rfl⟩
  rw [hg12] at hNa hC hK ⊢
  have zka := ka.size
  have z12 : w4.heap.size ≤ g12 := by omega
  have kw5 : Kept w4 w5 := (ka.trans kb).trans' hK (by omega)
  have HX12 := Lib.hid hC
  clear hNa hC hK hS kb ka zka hg12
  have o1 : g < g12 := by have := HB3.out.lt; have := k4.size; omega
  have o2 : r < g12 := by have := HR3.out.lt; have := k4.size; omega
  have kz5 := (kw3.trans k4).trans kw5
  have k35 := k4.trans kw5
  clear kw3 k4 kw5
  go_upto_region 6 with fail
  refine wp_text 2 [.eq (.int .i64 q), .eq (c.v)] rfl (by kernel_rfl) ?_ ?_
  · refine sv 1 rfl rfl rfl (fun a u hE hD hk => exec_move (.tmp 10) _ rfl (hE 10 (.int .i64 q) (by kernel_rfl) (by kernel_rfl))) ?_
    refine fsteps_cons 2 rfl (fun a u hE hD hk => f_call (o := ⟨some 32, _, _, _, _, _⟩) 11 #[.int .i64 1, .int .i64 q] rfl (wanted_none rfl _) (exec_call 11 _ [.const (.int .i64 1), .tmp 31] _ [.int .i64 1, .int .i64 q] Try.func11 (by kernel_rfl) (by kernel_rfl) rfl (show [a.eval (.const (.int .i64 1)), a.eval (.tmp 31)] = [.int .i64 1, .int .i64 q] from (by rw [show a.eval (.tmp 31) = .int .i64 q from (hD 0 31 (by kernel_rfl))] <;> rfl)) u) (by rw [← HC.out]; exact o_any 1 q u)) ?_
    exact fsteps_nil
  intro gv wa hV ka
  rw [show dstsOf _ 2 = [31, 32] by kernel_rfl]
  simp only [List.foldl_cons, List.foldl_nil, List.setIfInBounds_toArray, List.set_cons_succ, List.set_cons_zero, List.drop_succ_cons, List.drop_zero]
  rw [show gv 32 = c.v from hV 1 32 (by kernel_rfl)]
  clear hV
  refine l_new (o := ⟨some 13, _, _, _, _, _⟩) (.pointer (some ⟨wa.heap.size, 0, none⟩)) (wa.alloc (.cells zeroO.cells.toArray 29)) rfl (exec_alc 29 zeroO.cells rfl zO) ?_
  have hNa := Blk.new wa 29 zeroO.cells
  have kb : Kept wa (wa.alloc (.cells zeroO.cells.toArray 29)) := (Keep.refl _ wa).alloc _
  generalize wa.alloc (.cells zeroO.cells.toArray 29) = wb at hNa kb ⊢
  simp only [Act.put, List.setIfInBounds_toArray, List.set_cons_succ, List.set_cons_zero]
  refine l_setS (o := ⟨none, _, _, _, _, _⟩) 29 wa.heap.size 29 zeroO.cells c.cells (.tmp 13) (.tmp 32) rfl rfl (by kernel_rfl) (by kernel_rfl) hNa (by rw [Ord.len9]; exact ord_size) (by rw [Ord.len9, Ord.len9]) (Ord.one1 _) ?_
  intro w6 hC hK hS
  simp only [Act.put]
  refine wpList_nil ?_
  obtain ⟨g13, hg13⟩ : ∃ y, wa.heap.size = y := ⟨_, rfl⟩
  rw [hg13] at hNa hC hK ⊢
  have zka := ka.size
  have z13 : w5.heap.size ≤ g13 := by omega
  have kw6 : Kept w5 w6 := (ka.trans kb).trans' hK (by omega)
  have HX13 := Lib.hid hC
  clear hNa hC hK hS kb ka zka hg13
  have HL6 := Lib.hid (HX12.out.kept kw6)
  have HC6 := Lib.hid (blk_range HX13.out)
  have o3 : g12 < g13 := by have := HX12.out.lt; omega
  have z6 := HX13.out.lt
  have kz6 := kz5.trans kw6
  have k36 := k35.trans kw6
  clear HX12 kz5 k35 kw6
  go_upto_region 7 with fail
  refine wp_text 1 [.eq (c.v)] rfl (by kernel_rfl) ?_ ?_
  · refine sv 1 rfl rfl rfl (fun a u hE hD hk => exec_ldS 29 _ (.tmp 13) (g13) (0) (c.cells) rfl (hE 13 (.pointer (some ⟨g13, 0, none⟩)) (by kernel_rfl) (by kernel_rfl)) (range_kept HC6.out hk) Try.underlying29 (by rw [c.len9]; exact ord_size)) ?_
    exact fsteps_nil
  intro gv wa hV ka
  rw [show dstsOf _ 1 = [33] by kernel_rfl]
  simp only [List.foldl_cons, List.foldl_nil, List.setIfInBounds_toArray, List.set_cons_succ, List.set_cons_zero, List.drop_succ_cons, List.drop_zero]
  rw [show gv 33 = c.v from hV 0 33 (by kernel_rfl)]
  clear hV
  refine l_new (o := ⟨some 14, _, _, _, _, _⟩) (.pointer (some ⟨wa.heap.size, 0, none⟩)) (wa.alloc (.cells zeroO.cells.toArray 29)) rfl (exec_alc 29 zeroO.cells rfl zO) ?_
  have hNa := Blk.new wa 29 zeroO.cells
  have kb : Kept wa (wa.alloc (.cells zeroO.cells.toArray 29)) := (Keep.refl _ wa).alloc _
  generalize wa.alloc (.cells zeroO.cells.toArray 29) = wb at hNa kb ⊢
  simp only [Act.put, List.setIfInBounds_toArray, List.set_cons_succ, List.set_cons_zero]
  refine l_setS (o := ⟨none, _, _, _, _, _⟩) 29 wa.heap.size 29 zeroO.cells c.cells (.tmp 14) (.tmp 33) rfl rfl (by kernel_rfl) (by kernel_rfl) hNa (by rw [Ord.len9]; exact ord_size) (by rw [Ord.len9, Ord.len9]) (Ord.one1 _) ?_
  intro w7 hC hK hS
  simp only [Act.put]
  refine wpList_nil ?_
  obtain ⟨g14, hg14⟩ : ∃ y, wa.heap.size = y := ⟨_, rfl⟩
  rw [hg14] at hNa hC hK ⊢
  have zka := ka.size
  have z14 : w6.heap.size ≤ g14 := by omega
  have kw7 : Kept w6 w7 := (ka.trans kb).trans' hK (by omega)
  have HX14 := Lib.hid hC
  clear hNa hC hK hS kb ka zka hg14
  have o4 : g13 < g14 := by omega
  have z7 : w.heap.size ≤ g14 := by have := kz6.size; omega
  have HL7 := Lib.hid (HL6.out.kept kw7)
  have HC7 := Lib.hid (HX13.out.kept kw7)
  have kz7 := kz6.trans kw7
  have k37 := k36.trans kw7
  clear HL6 HC6 kz6 k36 kw7 HX13
  go_upto_region 8 with fail
  refine wp_text 1 [.eq (.pointer (some ⟨g14, 3, none⟩))] rfl (by kernel_rfl) ?_ ?_
  · refine sv 1 rfl rfl rfl (fun a u hE hD hk => exec_fldo 29 3 3 (.tmp 14) (g14) (0) (3) rfl (hE 14 (.pointer (some ⟨g14, 0, none⟩)) (by kernel_rfl) (by kernel_rfl)) (by kernel_rfl) rfl) ?_
    exact fsteps_nil
  intro gv w8 hV k8
  rw [show dstsOf _ 1 = [34] by kernel_rfl]
  simp only [List.foldl_cons, List.foldl_nil, List.setIfInBounds_toArray, List.set_cons_succ, List.set_cons_zero, List.drop_succ_cons, List.drop_zero]
  rw [show gv 34 = .pointer (some ⟨g14, 3, none⟩) from hV 0 34 (by kernel_rfl)]
  clear hV
  refine l_putN (o := ⟨none, _, _, _, _, _⟩) g14 3 29 c.cells d.cells 2 (.tmp 34) (.const (.int .i64 2)) rfl rfl (by kernel_rfl) (by kernel_rfl) (HX14.out.kept k8) (by rw [Ord.len9]; omega) HCD.out ?_
  intro w9 hC hK hS
  simp only [Act.put]
  refine wpList_nil ?_
  have HB9 := Lib.hid (((HB3.out.kept k37).kept k8).keep hK (by omega))
  have HR9 := Lib.hid (((HR3.out.kept k37).kept k8).keep hK (by omega))
  have HL9 := Lib.hid (blk_range ((HL7.out.kept k8).keep hK (by omega)))
  have HC9 := Lib.hid (blk_range ((HC7.out.kept k8).keep hK (by omega)))
  have HD9 := Lib.hid (blk_range hC)
  have kz9 : Kept w w9 := (kz7.trans k8).trans' hK (by omega)
  have hgo := hg
  clear hC hK hS HX14 HL7 HC7 HB3 HR3 k37 kz7 k8
  go_upto_region 9 with fail
  refine wp_free 23 [.eq (.pointer (some ⟨r, 0, none⟩)), .eq (L.v), .eq (c.v), .eq (.int .i64 V), .eq (.bool bV), .eq (.int .i64 q), .eq (.int .i64 l), .eq (.bool bV), .eq (.bool false), .eq (.bool false), .eq (.pointer (some ⟨r, 0, none⟩)), .eq (L.v), .eq (c.v), .eq (.int .i64 V), .eq (.pointer (some ⟨r, 0, none⟩)), .eq (L.v), .eq (d.v), .eq (.int .i64 V), .eq (.bool false), .eq (.bool false), .eq (.bool false), .eq (.pointer (some ⟨g, 0, none⟩)), .eq (.int .i64 p)] (by kernel_rfl) rfl (by kernel_rfl) ?_ ?_
  · refine sv 1 rfl rfl rfl (fun a u hE hD hk => exec_move (.tmp 8) _ rfl (hE 8 (.pointer (some ⟨r, 0, none⟩)) (by kernel_rfl) (by kernel_rfl))) ?_
    refine sv 2 rfl rfl rfl (fun a u hE hD hk => exec_ldS 25 _ (.tmp 12) (g12) (0) (L.cells) rfl (hE 12 (.pointer (some ⟨g12, 0, none⟩)) (by kernel_rfl) (by kernel_rfl)) (range_kept HL9.out hk) Try.underlying25 (by rw [L.len4l]; exact szLim)) ?_
    refine sv 3 rfl rfl rfl (fun a u hE hD hk => exec_ldS 29 _ (.tmp 13) (g13) (0) (c.cells) rfl (hE 13 (.pointer (some ⟨g13, 0, none⟩)) (by kernel_rfl) (by kernel_rfl)) (range_kept HC9.out hk) Try.underlying29 (by rw [c.len9]; exact ord_size)) ?_
    refine fsteps_cons 4 rfl (fun a u hE hD hk => f_call (o := ⟨some 38, _, _, _, _, _⟩) 10 #[.pointer (some ⟨r, 0, none⟩), L.v, c.v, .int .i64 0] rfl (wanted_none rfl _) (exec_call 10 _ [.tmp 35, .tmp 36, .tmp 37, .const (.int .i64 0)] _ [.pointer (some ⟨r, 0, none⟩), L.v, c.v, .int .i64 0] Try.func10 (by kernel_rfl) (by kernel_rfl) rfl (show [a.eval (.tmp 35), a.eval (.tmp 36), a.eval (.tmp 37), a.eval (.const (.int .i64 0))] = [.pointer (some ⟨r, 0, none⟩), L.v, c.v, .int .i64 0] from (by rw [show a.eval (.tmp 35) = .pointer (some ⟨r, 0, none⟩) from (hD 0 35 (by kernel_rfl)), show a.eval (.tmp 36) = L.v from (hD 1 36 (by kernel_rfl)), show a.eval (.tmp 37) = c.v from (hD 2 37 (by kernel_rfl))] <;> rfl)) u) (check_at (HR9.out.kept hk) ok_zero Z0.out)) ?_
    refine fsteps_cons 5 rfl (fun a u hE hD hk => f_as (show ((decide ((V : Int) = (0 : Int))) : Bool) = bV from IV.out) (f_val (o := ⟨some 39, _, _, _, _, _⟩) (.bool (decide ((V : Int) = (0 : Int)))) rfl (wanted_none rfl _) (exec_eqn (p := V) (q := 0) rfl (hD 3 38 (by kernel_rfl)) rfl) rfl)) ?_
    refine sv 6 rfl rfl rfl (fun a u hE hD hk => exec_move (.tmp 10) _ rfl (hE 10 (.int .i64 q) (by kernel_rfl) (by kernel_rfl))) ?_
    refine sv 7 rfl rfl rfl (fun a u hE hD hk => exec_move (.tmp 11) _ rfl (hE 11 (.int .i64 l) (by kernel_rfl) (by kernel_rfl))) ?_
    refine fsteps_cons 8 rfl (fun a u hE hD hk => f_as (show ((decide ((q : Int) ≤ (l : Int))) : Bool) = bV from DV.out) (f_val (o := ⟨some 42, _, _, _, _, _⟩) (.bool (decide ((q : Int) ≤ (l : Int)))) rfl (wanted_none rfl _) (exec_len_ (p := q) (q := l) rfl (hD 5 40 (by kernel_rfl)) (hD 6 41 (by kernel_rfl))) rfl)) ?_
    refine sv 9 rfl rfl rfl (fun a u hE hD hk => exec_neb (.tmp 39) (.tmp 42) _ bV bV false rfl (hD 4 39 (by kernel_rfl)) (hD 7 42 (by kernel_rfl)) (by simp)) ?_
    refine sv 10 rfl rfl rfl (fun a u hE hD hk => exec_move (.tmp 43) _ rfl (hD 8 43 (by kernel_rfl))) ?_
    refine fsteps_cons 11 rfl (fun a u hE hD hk => f_val (o := ⟨some 45, _, _, _, _, _⟩) (.pointer (some ⟨r, 0, none⟩)) rfl (wanted_at (b := false) false rfl rfl (hD 9 44 (by kernel_rfl))) (exec_move (.tmp 8) _ rfl (hE 8 (.pointer (some ⟨r, 0, none⟩)) (by kernel_rfl) (by kernel_rfl))) rfl) ?_
    refine fsteps_cons 12 rfl (fun a u hE hD hk => f_val (o := ⟨some 46, _, _, _, _, _⟩) (L.v) rfl (wanted_at (b := false) false rfl rfl (hD 9 44 (by kernel_rfl))) (exec_ldS 25 _ (.tmp 12) (g12) (0) (L.cells) rfl (hE 12 (.pointer (some ⟨g12, 0, none⟩)) (by kernel_rfl) (by kernel_rfl)) (range_kept HL9.out hk) Try.underlying25 (by rw [L.len4l]; exact szLim)) rfl) ?_
    refine fsteps_cons 13 rfl (fun a u hE hD hk => f_val (o := ⟨some 47, _, _, _, _, _⟩) (c.v) rfl (wanted_at (b := false) false rfl rfl (hD 9 44 (by kernel_rfl))) (exec_ldS 29 _ (.tmp 13) (g13) (0) (c.cells) rfl (hE 13 (.pointer (some ⟨g13, 0, none⟩)) (by kernel_rfl) (by kernel_rfl)) (range_kept HC9.out hk) Try.underlying29 (by rw [c.len9]; exact ord_size)) rfl) ?_
    refine fsteps_cons 14 rfl (fun a u hE hD hk => f_call (o := ⟨some 48, _, _, _, _, _⟩) 10 #[.pointer (some ⟨r, 0, none⟩), L.v, c.v, .int .i64 0] rfl (wanted_at (b := false) false rfl rfl (hD 9 44 (by kernel_rfl))) (exec_call 10 _ [.tmp 45, .tmp 46, .tmp 47, .const (.int .i64 0)] _ [.pointer (some ⟨r, 0, none⟩), L.v, c.v, .int .i64 0] Try.func10 (by kernel_rfl) (by kernel_rfl) rfl (show [a.eval (.tmp 45), a.eval (.tmp 46), a.eval (.tmp 47), a.eval (.const (.int .i64 0))] = [.pointer (some ⟨r, 0, none⟩), L.v, c.v, .int .i64 0] from (by rw [show a.eval (.tmp 45) = .pointer (some ⟨r, 0, none⟩) from (hD 10 45 (by kernel_rfl)), show a.eval (.tmp 46) = L.v from (hD 11 46 (by kernel_rfl)), show a.eval (.tmp 47) = c.v from (hD 12 47 (by kernel_rfl))] <;> rfl)) u) (check_at (HR9.out.kept hk) ok_zero Z0.out)) ?_
    refine fsteps_cons 15 rfl (fun a u hE hD hk => f_val (o := ⟨some 49, _, _, _, _, _⟩) (.pointer (some ⟨r, 0, none⟩)) rfl (wanted_at (b := false) false rfl rfl (hD 9 44 (by kernel_rfl))) (exec_move (.tmp 8) _ rfl (hE 8 (.pointer (some ⟨r, 0, none⟩)) (by kernel_rfl) (by kernel_rfl))) rfl) ?_
    refine fsteps_cons 16 rfl (fun a u hE hD hk => f_val (o := ⟨some 50, _, _, _, _, _⟩) (L.v) rfl (wanted_at (b := false) false rfl rfl (hD 9 44 (by kernel_rfl))) (exec_ldS 25 _ (.tmp 12) (g12) (0) (L.cells) rfl (hE 12 (.pointer (some ⟨g12, 0, none⟩)) (by kernel_rfl) (by kernel_rfl)) (range_kept HL9.out hk) Try.underlying25 (by rw [L.len4l]; exact szLim)) rfl) ?_
    refine fsteps_cons 17 rfl (fun a u hE hD hk => f_val (o := ⟨some 51, _, _, _, _, _⟩) (d.v) rfl (wanted_at (b := false) false rfl rfl (hD 9 44 (by kernel_rfl))) (exec_ldS 29 _ (.tmp 14) (g14) (0) (d.cells) rfl (hE 14 (.pointer (some ⟨g14, 0, none⟩)) (by kernel_rfl) (by kernel_rfl)) (range_kept HD9.out hk) Try.underlying29 (by rw [d.len9]; exact ord_size)) rfl) ?_
    refine fsteps_cons 18 rfl (fun a u hE hD hk => f_call (o := ⟨some 52, _, _, _, _, _⟩) 10 #[.pointer (some ⟨r, 0, none⟩), L.v, d.v, .int .i64 0] rfl (wanted_at (b := false) false rfl rfl (hD 9 44 (by kernel_rfl))) (exec_call 10 _ [.tmp 49, .tmp 50, .tmp 51, .const (.int .i64 0)] _ [.pointer (some ⟨r, 0, none⟩), L.v, d.v, .int .i64 0] Try.func10 (by kernel_rfl) (by kernel_rfl) rfl (show [a.eval (.tmp 49), a.eval (.tmp 50), a.eval (.tmp 51), a.eval (.const (.int .i64 0))] = [.pointer (some ⟨r, 0, none⟩), L.v, d.v, .int .i64 0] from (by rw [show a.eval (.tmp 49) = .pointer (some ⟨r, 0, none⟩) from (hD 14 49 (by kernel_rfl)), show a.eval (.tmp 50) = L.v from (hD 15 50 (by kernel_rfl)), show a.eval (.tmp 51) = d.v from (hD 16 51 (by kernel_rfl))] <;> rfl)) u) (check_at (HR9.out.kept hk) ok_zero Z1.out)) ?_
    refine fsteps_cons 19 rfl (fun a u hE hD hk => f_as (show ((decide ((V : Int) ≠ (V : Int))) : Bool) = false from decide_eq_false (by omega)) (f_val (o := ⟨some 53, _, _, _, _, _⟩) (.bool (decide ((V : Int) ≠ (V : Int)))) rfl (wanted_at (b := false) false rfl rfl (hD 9 44 (by kernel_rfl))) (exec_nen (p := V) (q := V) rfl (hD 13 48 (by kernel_rfl)) (hD 17 52 (by kernel_rfl))) rfl)) ?_
    refine sv 20 rfl rfl rfl (fun a u hE hD hk => exec_pickF (.tmp 44) (.const (.bool true)) (.tmp 53) (.bool false) rfl (hD 9 44 (by kernel_rfl)) (hD 18 53 (by kernel_rfl))) ?_
    refine sv 21 rfl rfl rfl (fun a u hE hD hk => exec_move (.tmp 54) _ rfl (hD 19 54 (by kernel_rfl))) ?_
    refine fsteps_cons 22 rfl (fun a u hE hD hk => f_val (o := ⟨some 56, _, _, _, _, _⟩) (.pointer (some ⟨g, 0, none⟩)) rfl (wanted_at (b := false) false rfl rfl (hD 20 55 (by kernel_rfl))) (exec_move (.tmp 7) _ rfl (hE 7 (.pointer (some ⟨g, 0, none⟩)) (by kernel_rfl) (by kernel_rfl))) rfl) ?_
    refine fsteps_cons 23 rfl (fun a u hE hD hk => f_val (o := ⟨some 57, _, _, _, _, _⟩) (.int .i64 p) rfl (wanted_at (b := false) false rfl rfl (hD 20 55 (by kernel_rfl))) (exec_move (.tmp 9) _ rfl (hE 9 (.int .i64 p) (by kernel_rfl) (by kernel_rfl))) rfl) ?_
    exact fsteps_nil
  intro gv wa hV ka
  rw [show dstsOf _ 23 = [35, 36, 37, 38, 39, 40, 41, 42, 43, 44, 45, 46, 47, 48, 49, 50, 51, 52, 53, 54, 55, 56, 57] by kernel_rfl]
  simp only [List.foldl_cons, List.foldl_nil, List.setIfInBounds_toArray, List.set_cons_succ, List.set_cons_zero, List.drop_succ_cons, List.drop_zero]
  rw [show gv 56 = .pointer (some ⟨g, 0, none⟩) from hV 21 56 (by kernel_rfl)]
  rw [show gv 57 = .int .i64 p from hV 22 57 (by kernel_rfl)]
  rw [show gv 55 = .bool false from hV 20 55 (by kernel_rfl)]
  clear hV
  refine l_call (o := ⟨some 58, _, _, _, _, _⟩) 18 #[.pointer (some ⟨g, 0, none⟩), .int .i64 1, .int .i64 0, .int .i64 1, .int .i64 p] rfl (exec_call 18 _ [.tmp 56, .const (.int .i64 1), .const (.int .i64 0), .const (.int .i64 1), .tmp 57] _ _ Try.func18 (by kernel_rfl) (by kernel_rfl) rfl (by kernel_rfl) _) ?_
  refine (trades_at (HB9.out.kept ka) ok_zero E1.out HX.out).mono ?_
  rintro e wb ⟨rfl, hBb, kb⟩
  refine ⟨_, rfl, ?_⟩
  simp only [Act.put, List.setIfInBounds_toArray, List.set_cons_succ, List.set_cons_zero]
  refine l_val (o := ⟨some 59, _, _, _, _, _⟩) (.bool false) rfl (exec_not _ (.tmp 58) true rfl (by kernel_rfl)) ?_
  simp only [Act.put, List.setIfInBounds_toArray, List.set_cons_succ, List.set_cons_zero]
  refine l_val (o := ⟨some 60, _, _, _, _, _⟩) (.bool false) rfl (exec_pickF (.tmp 55) (.const (.bool true)) (.tmp 59) (.bool false) rfl (by kernel_rfl) (by kernel_rfl)) ?_
  simp only [Act.put, List.setIfInBounds_toArray, List.set_cons_succ, List.set_cons_zero]
  refine wpList_nil ?_
  have HBb := Lib.hid hBb
  have HLb := Lib.hid (range_keep HL9.out ((ka.mono fun _ _ h => h.elim).trans kb (fun _ _ h => h)) (by omega))
  have HCb := Lib.hid (range_keep HC9.out ((ka.mono fun _ _ h => h.elim).trans kb (fun _ _ h => h)) (by omega))
  have HDb := Lib.hid (range_keep HD9.out ((ka.mono fun _ _ h => h.elim).trans kb (fun _ _ h => h)) (by omega))
  have kzb := kept_own (kz9.trans ka) hgo kb
  clear hBb kb HB9 HR9 HL9 HC9 HD9 kz9 ka
  go_upto_region 11 with fail
  refine wp_text 28 [.eq (.pointer (some ⟨g, 0, none⟩)), .eq (L.v), .eq (c.v), .eq (.int .i64 U), .eq (.bool bU), .eq (.int .i64 p), .eq (.int .i64 q), .eq (.int .i64 ((p : Int) + (q : Int))), .eq (.int .i64 l), .eq (.bool bU), .eq (.bool true), .eq (.bool true), .eq (.pointer (some ⟨g, 0, none⟩)), .eq (L.v), .eq (d.v), .eq (.int .i64 Y), .eq (.bool bY), .eq (.int .i64 q), .eq (.int .i64 p), .eq (.int .i64 ((q : Int) - (p : Int))), .eq (.int .i64 l), .eq (.bool bY), .eq (.bool true), .eq (.bool true), .eq (.bool true), .eq (.bool true), .eq (.bool true), .eq (.bool true)] rfl (by kernel_rfl) ?_ ?_
  · refine sv 1 rfl rfl rfl (fun a u hE hD hk => exec_move (.tmp 7) _ rfl (hE 7 (.pointer (some ⟨g, 0, none⟩)) (by kernel_rfl) (by kernel_rfl))) ?_
    refine sv 2 rfl rfl rfl (fun a u hE hD hk => exec_ldS 25 _ (.tmp 12) (g12) (0) (L.cells) rfl (hE 12 (.pointer (some ⟨g12, 0, none⟩)) (by kernel_rfl) (by kernel_rfl)) (range_kept HLb.out hk) Try.underlying25 (by rw [L.len4l]; exact szLim)) ?_
    refine sv 3 rfl rfl rfl (fun a u hE hD hk => exec_ldS 29 _ (.tmp 13) (g13) (0) (c.cells) rfl (hE 13 (.pointer (some ⟨g13, 0, none⟩)) (by kernel_rfl) (by kernel_rfl)) (range_kept HCb.out hk) Try.underlying29 (by rw [c.len9]; exact ord_size)) ?_
    refine fsteps_cons 4 rfl (fun a u hE hD hk => f_call (o := ⟨some 64, _, _, _, _, _⟩) 10 #[.pointer (some ⟨g, 0, none⟩), L.v, c.v, .int .i64 0] rfl (wanted_none rfl _) (exec_call 10 _ [.tmp 61, .tmp 62, .tmp 63, .const (.int .i64 0)] _ [.pointer (some ⟨g, 0, none⟩), L.v, c.v, .int .i64 0] Try.func10 (by kernel_rfl) (by kernel_rfl) rfl (show [a.eval (.tmp 61), a.eval (.tmp 62), a.eval (.tmp 63), a.eval (.const (.int .i64 0))] = [.pointer (some ⟨g, 0, none⟩), L.v, c.v, .int .i64 0] from (by rw [show a.eval (.tmp 61) = .pointer (some ⟨g, 0, none⟩) from (hD 0 61 (by kernel_rfl)), show a.eval (.tmp 62) = L.v from (hD 1 62 (by kernel_rfl)), show a.eval (.tmp 63) = c.v from (hD 2 63 (by kernel_rfl))] <;> rfl)) u) (check_at (HBb.out.kept hk) HXo.out X0.out)) ?_
    refine fsteps_cons 5 rfl (fun a u hE hD hk => f_as (show ((decide ((U : Int) = (0 : Int))) : Bool) = bU from IU.out) (f_val (o := ⟨some 65, _, _, _, _, _⟩) (.bool (decide ((U : Int) = (0 : Int)))) rfl (wanted_none rfl _) (exec_eqn (p := U) (q := 0) rfl (hD 3 64 (by kernel_rfl)) rfl) rfl)) ?_
    refine sv 6 rfl rfl rfl (fun a u hE hD hk => exec_move (.tmp 9) _ rfl (hE 9 (.int .i64 p) (by kernel_rfl) (by kernel_rfl))) ?_
    refine sv 7 rfl rfl rfl (fun a u hE hD hk => exec_move (.tmp 10) _ rfl (hE 10 (.int .i64 q) (by kernel_rfl) (by kernel_rfl))) ?_
    refine sv 8 rfl rfl rfl (fun a u hE hD hk => exec_addn (p := (p)) (q := (q)) ((p : Int) + (q : Int)) rfl (hD 5 66 (by kernel_rfl)) (hD 6 67 (by kernel_rfl)) rfl (by omega) (by omega)) ?_
    refine sv 9 rfl rfl rfl (fun a u hE hD hk => exec_move (.tmp 11) _ rfl (hE 11 (.int .i64 l) (by kernel_rfl) (by kernel_rfl))) ?_
    refine fsteps_cons 10 rfl (fun a u hE hD hk => f_as (show ((decide ((((p : Int) + (q : Int)) : Int) ≤ (l : Int))) : Bool) = bU from DU.out) (f_val (o := ⟨some 70, _, _, _, _, _⟩) (.bool (decide ((((p : Int) + (q : Int)) : Int) ≤ (l : Int)))) rfl (wanted_none rfl _) (exec_len_ (p := ((p : Int) + (q : Int))) (q := l) rfl (hD 7 68 (by kernel_rfl)) (hD 8 69 (by kernel_rfl))) rfl)) ?_
    refine sv 11 rfl rfl rfl (fun a u hE hD hk => exec_eqb (.tmp 65) (.tmp 70) _ bU bU true rfl (hD 4 65 (by kernel_rfl)) (hD 9 70 (by kernel_rfl)) (by simp)) ?_
    refine sv 12 rfl rfl rfl (fun a u hE hD hk => exec_move (.tmp 71) _ rfl (hD 10 71 (by kernel_rfl))) ?_
    refine fsteps_cons 13 rfl (fun a u hE hD hk => f_val (o := ⟨some 73, _, _, _, _, _⟩) (.pointer (some ⟨g, 0, none⟩)) rfl (wanted_at (b := true) true rfl rfl (hD 11 72 (by kernel_rfl))) (exec_move (.tmp 7) _ rfl (hE 7 (.pointer (some ⟨g, 0, none⟩)) (by kernel_rfl) (by kernel_rfl))) rfl) ?_
    refine fsteps_cons 14 rfl (fun a u hE hD hk => f_val (o := ⟨some 74, _, _, _, _, _⟩) (L.v) rfl (wanted_at (b := true) true rfl rfl (hD 11 72 (by kernel_rfl))) (exec_ldS 25 _ (.tmp 12) (g12) (0) (L.cells) rfl (hE 12 (.pointer (some ⟨g12, 0, none⟩)) (by kernel_rfl) (by kernel_rfl)) (range_kept HLb.out hk) Try.underlying25 (by rw [L.len4l]; exact szLim)) rfl) ?_
    refine fsteps_cons 15 rfl (fun a u hE hD hk => f_val (o := ⟨some 75, _, _, _, _, _⟩) (d.v) rfl (wanted_at (b := true) true rfl rfl (hD 11 72 (by kernel_rfl))) (exec_ldS 29 _ (.tmp 14) (g14) (0) (d.cells) rfl (hE 14 (.pointer (some ⟨g14, 0, none⟩)) (by kernel_rfl) (by kernel_rfl)) (range_kept HDb.out hk) Try.underlying29 (by rw [d.len9]; exact ord_size)) rfl) ?_
    refine fsteps_cons 16 rfl (fun a u hE hD hk => f_call (o := ⟨some 76, _, _, _, _, _⟩) 10 #[.pointer (some ⟨g, 0, none⟩), L.v, d.v, .int .i64 0] rfl (wanted_at (b := true) true rfl rfl (hD 11 72 (by kernel_rfl))) (exec_call 10 _ [.tmp 73, .tmp 74, .tmp 75, .const (.int .i64 0)] _ [.pointer (some ⟨g, 0, none⟩), L.v, d.v, .int .i64 0] Try.func10 (by kernel_rfl) (by kernel_rfl) rfl (show [a.eval (.tmp 73), a.eval (.tmp 74), a.eval (.tmp 75), a.eval (.const (.int .i64 0))] = [.pointer (some ⟨g, 0, none⟩), L.v, d.v, .int .i64 0] from (by rw [show a.eval (.tmp 73) = .pointer (some ⟨g, 0, none⟩) from (hD 12 73 (by kernel_rfl)), show a.eval (.tmp 74) = L.v from (hD 13 74 (by kernel_rfl)), show a.eval (.tmp 75) = d.v from (hD 14 75 (by kernel_rfl))] <;> rfl)) u) (check_at (HBb.out.kept hk) HXo.out X1.out)) ?_
    refine fsteps_cons 17 rfl (fun a u hE hD hk => f_as (show ((decide ((Y : Int) = (0 : Int))) : Bool) = bY from IY.out) (f_val (o := ⟨some 77, _, _, _, _, _⟩) (.bool (decide ((Y : Int) = (0 : Int)))) rfl (wanted_at (b := true) true rfl rfl (hD 11 72 (by kernel_rfl))) (exec_eqn (p := Y) (q := 0) rfl (hD 15 76 (by kernel_rfl)) rfl) rfl)) ?_
    refine fsteps_cons 18 rfl (fun a u hE hD hk => f_val (o := ⟨some 78, _, _, _, _, _⟩) (.int .i64 q) rfl (wanted_at (b := true) true rfl rfl (hD 11 72 (by kernel_rfl))) (exec_move (.tmp 10) _ rfl (hE 10 (.int .i64 q) (by kernel_rfl) (by kernel_rfl))) rfl) ?_
    refine fsteps_cons 19 rfl (fun a u hE hD hk => f_val (o := ⟨some 79, _, _, _, _, _⟩) (.int .i64 p) rfl (wanted_at (b := true) true rfl rfl (hD 11 72 (by kernel_rfl))) (exec_move (.tmp 9) _ rfl (hE 9 (.int .i64 p) (by kernel_rfl) (by kernel_rfl))) rfl) ?_
    refine fsteps_cons 20 rfl (fun a u hE hD hk => f_val (o := ⟨some 80, _, _, _, _, _⟩) (.int .i64 ((q : Int) - (p : Int))) rfl (wanted_at (b := true) true rfl rfl (hD 11 72 (by kernel_rfl))) (exec_subn (p := (q)) (q := (p)) ((q : Int) - (p : Int)) rfl (hD 17 78 (by kernel_rfl)) (hD 18 79 (by kernel_rfl)) rfl (by omega) (by omega)) rfl) ?_
    refine fsteps_cons 21 rfl (fun a u hE hD hk => f_val (o := ⟨some 81, _, _, _, _, _⟩) (.int .i64 l) rfl (wanted_at (b := true) true rfl rfl (hD 11 72 (by kernel_rfl))) (exec_move (.tmp 11) _ rfl (hE 11 (.int .i64 l) (by kernel_rfl) (by kernel_rfl))) rfl) ?_
    refine fsteps_cons 22 rfl (fun a u hE hD hk => f_as (show ((decide ((((q : Int) - (p : Int)) : Int) ≤ (l : Int))) : Bool) = bY from DY.out) (f_val (o := ⟨some 82, _, _, _, _, _⟩) (.bool (decide ((((q : Int) - (p : Int)) : Int) ≤ (l : Int)))) rfl (wanted_at (b := true) true rfl rfl (hD 11 72 (by kernel_rfl))) (exec_len_ (p := ((q : Int) - (p : Int))) (q := l) rfl (hD 19 80 (by kernel_rfl)) (hD 20 81 (by kernel_rfl))) rfl)) ?_
    refine fsteps_cons 23 rfl (fun a u hE hD hk => f_val (o := ⟨some 83, _, _, _, _, _⟩) (.bool true) rfl (wanted_at (b := true) true rfl rfl (hD 11 72 (by kernel_rfl))) (exec_eqb (.tmp 77) (.tmp 82) _ bY bY true rfl (hD 16 77 (by kernel_rfl)) (hD 21 82 (by kernel_rfl)) (by simp)) rfl) ?_
    refine sv 24 rfl rfl rfl (fun a u hE hD hk => exec_pick (.tmp 72) (.tmp 83) (.const (.bool false)) (.bool true) rfl (hD 11 72 (by kernel_rfl)) (hD 22 83 (by kernel_rfl))) ?_
    refine sv 25 rfl rfl rfl (fun a u hE hD hk => exec_move (.tmp 84) _ rfl (hD 23 84 (by kernel_rfl))) ?_
    refine fsteps_cons 26 rfl (fun a u hE hD hk => f_call (o := ⟨some 86, _, _, _, _, _⟩) 3 #[] rfl (wanted_at (b := true) true rfl rfl (hD 24 85 (by kernel_rfl))) (exec_call 3 _ [] _ [] Try.func3 (by kernel_rfl) (by kernel_rfl) rfl rfl u) (riskRuns_is u)) ?_
    refine sv 27 rfl rfl rfl (fun a u hE hD hk => exec_pick (.tmp 85) (.tmp 86) (.const (.bool false)) (.bool true) rfl (hD 24 85 (by kernel_rfl)) (hD 25 86 (by kernel_rfl))) ?_
    refine sv 28 rfl rfl rfl (fun a u hE hD hk => exec_assign (.tmp 87) _ rfl (hD 26 87 (by kernel_rfl))) ?_
    exact fsteps_nil
  intro gv wc hV kc
  rw [show dstsOf _ 28 = [61, 62, 63, 64, 65, 66, 67, 68, 69, 70, 71, 72, 73, 74, 75, 76, 77, 78, 79, 80, 81, 82, 83, 84, 85, 86, 87, 6] by kernel_rfl]
  simp only [List.foldl_cons, List.foldl_nil, List.setIfInBounds_toArray, List.set_cons_succ, List.set_cons_zero, List.drop_succ_cons, List.drop_zero]
  rw [show gv 6 = .bool true from hV 27 6 (by kernel_rfl)]
  clear hV
  refine wpList_nil ?_
  have kzc := kzb.trans kc
  go_wp2
  go_ret
  exact ⟨rfl, kzc⟩
end Go.Proofs.Ytgajdkelpaaadaa
