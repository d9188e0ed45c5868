/-
  Asks: their cells; a slice of them among the arguments; the orders made of them (jobberlaw9.made), the level of them (jobberlaw9.filled). No condition.
-/
import Derived.Test.YtlbkehpdohihlaaLvlT
import Derived.Test.YtlbkehpdohihlaaMet9
import Derived.Test.YtlbkehpdohihlaaWithin
namespace Go.Proofs.Ytlbkehpdohihlaa
open Go.RowKit Go.ChangeShapes Go.WideShapes Go.ChangeAt
set_option linter.unusedVariables false

structure Ask where
  k : Int
  a : Int
  b : Int
  c : Int
  d : Int
deriving Inhabited
def Ask.l (q : Ask) : List Int := [q.k, q.a, q.b, q.c, q.d]
def Ask.cells (q : Ask) : List Value := stc q.l []
def Ask.v (q : Ask) : Value := .agg q.cells.toArray
theorem Ask.len5 (q : Ask) : q.cells.length = 5 := by unfold Ask.cells; rw [stc_len]; rfl
theorem Ask.one (q : Ask) : ∀ u ∈ q.cells, u.oneCell' = true := stc_one _ _
def zeroA : Ask := ⟨0, 0, 0, 0, 0⟩
theorem slA : SlT 38 45 5 40 := ⟨Try.underlying38, by kernel_rfl, ⟨zeroA.v, by kernel_rfl, rfl, by intro u hu; exact zeroA.one u (by simpa [Ask.v, Value.cells] using hu)⟩, by omega⟩
theorem zA : (Try.prog.info? 45).map (·.zero) = some (some (.agg zeroA.cells.toArray)) := by kernel_rfl
theorem szA : (Try.prog.info? 45).map (·.size) = some 5 := by kernel_rfl
/-- its numbers are ints -/
def Ask.wf (q : Ask) : Prop := ∀ y ∈ q.l, (Lit.int .i64 y).wf = true
/-- a slice of asks -/
def Asks (W : World) (v : Value) (l : List Ask) : Prop := ∃ A n c, v = .slice A n c ∧ l.length = n ∧ (∀ q ∈ l, q.wf) ∧ n ≤ maxLen ∧ ∀ i q, l[i]? = some q → ∃ b o, A = some ⟨b, o, none⟩ ∧ W.rangeAt b (o + i * 5) q.cells
theorem Asks.keep {S : Nat → Prop} {w w' : World} {v : Value} {l : List Ask} (h : Asks w v l) (hk : Keep S w w') (hn : ∀ b, b < w.heap.size → ¬ S b) : Asks w' v l := by
  obtain ⟨A, n, c, rfl, h1, h2, h3, h4⟩ := h
  refine ⟨A, n, c, rfl, h1, h2, h3, fun i q hq => ?_⟩
  obtain ⟨b, o, rfl, hr⟩ := h4 i q hq
  refine ⟨b, o, rfl, fun j v hv => ?_⟩
  have hc := hr j v hv
  exact hk.cell hc (hn _ (World.block_lt_of_cell? w _ hc))
theorem Asks.kept {w w' : World} {v : Value} {l : List Ask} (h : Asks w v l) (hk : Kept w w') : Asks w' v l := h.keep hk (fun _ _ h => h)
theorem sh_ask {H : Type} {enc : TypeId × Value → H} {W : World} (fuel : Nat) (cs : List Value) (x : DataW H × List MemPlace) (h : DataW.trod enc Try.prog W 0 (fun _ => true) true fuel 45 cs = some x) : ∃ q : Ask, cs = q.cells ∧ q.wf := by
  obtain ⟨l, rfl, hl, hw⟩ := sh_ints 5 (by kernel_rfl) _ _ _ h
  match l, hl with
  | [x0, x1, x2, x3, x4], _ => exact ⟨⟨x0, x1, x2, x3, x4⟩, rfl, hw⟩
theorem open_asks {H : Type} {enc : TypeId × Value → H} {W : World} {b0 : Nat} {v : Value} {d : DataW H} {p : List MemPlace} (hv : Value.okWide Try.prog W .any b0 38 v)
    (h : DataW.Trod enc Try.prog W 0 (fun _ => true) true 38 v d p) : ∃ l, Asks W v l := by
  obtain ⟨l, A, n, c, rfl, hl, hA, h1, h2⟩ := open_elems (α := Ask) (fun cs q => cs = q.cells ∧ q.wf) Try.underlying38 (by kernel_rfl) (by omega) sh_ask hv h (k := 5)
  refine ⟨l, A, n, c, rfl, hl.out, fun q hq => ?_, by omega, fun i q hq => ?_⟩
  · obtain ⟨i, hi, rfl⟩ := List.getElem_of_mem hq
    obtain ⟨b, o, cs, _, ⟨_, hw⟩, _⟩ := hA i _ (List.getElem?_eq_getElem hi)
    exact hw
  · obtain ⟨b, o, cs, rfl, ⟨rfl, _⟩, _, hc⟩ := hA i q hq
    refine ⟨b, o, rfl, fun j v hv => ?_⟩
    rw [Nat.add_assoc]
    exact hc j v hv

/-- a number brought into lo .. hi -/
def wi (n lo hi : Int) : Int := lo + n % (hi - lo + 1)
theorem wi_in (n lo hi : Int) (h : lo ≤ hi) : lo ≤ wi n lo hi ∧ wi n lo hi ≤ hi := by
  unfold wi
  have p := Int.emod_nonneg n (show hi - lo + 1 ≠ 0 by omega)
  have q := Int.emod_lt_of_pos n (show 0 < hi - lo + 1 by omega)
  omega
theorem within_is (n lo hi : Int) (w : World) (h0 : 0 ≤ lo) (h1 : lo ≤ hi) (h2 : hi ≤ 1099511627776) : Gives 30 #[.int .i64 n, .int .i64 lo, .int .i64 hi] w (.eq (.int .i64 (wi n lo hi))) :=
  gives_eq ((within_any n lo hi w h0 h1 h2).mono fun e w' ⟨he, hw⟩ => ⟨he, by subst hw; exact Kept.refl _⟩)
theorem half_in (t : Int) (h0 : 0 ≤ t) (h1 : t ≤ 3) : 0 ≤ t.tdiv 2 ∧ t.tdiv 2 ≤ 3 := by
  have : t = 0 ∨ t = 1 ∨ t = 2 ∨ t = 3 := by omega
  rcases this with rfl | rfl | rfl | rfl <;> decide
/-- the order of an ask -/
def Ask.o (q : Ask) : Ord := ⟨wi q.a 0 3, wi q.b 0 9, (wi q.a 0 3).tdiv 2, 2, 1, 7, wi q.c 1 12, wi q.d 0 (wi q.c 1 12), 0⟩
def mk0 (t i n : Int) : Ord := ⟨t, i, 0, 2, 1, 7, n, 0, 0⟩
theorem builtM (t i n : Int) : Try.prog.built 25 [(0, .int .i64 t), (1, .int .i64 i), (3, .int .i64 2), (4, .int .i64 1), (5, .int .i64 7), (6, .int .i64 n)] = some (mk0 t i n).cells.toArray := by kernel_rfl
theorem exec_mk0 {a : Act} {o : Oper} {u : World} (x y z : Operand) (t i n : Int) (hop : o.op = .build 25 #[(0, x), (1, y), (3, .const (.int .i64 2)), (4, .const (.int .i64 1)), (5, .const (.int .i64 7)), (6, z)]) (hx : a.eval x = .int .i64 t) (hy : a.eval y = .int .i64 i) (hz : a.eval z = .int .i64 n) : (execOp a.eval o).run Try.prog u = .ok (.value (mk0 t i n).v) u :=
  exec_build _ [(0, x), (1, y), (3, .const (.int .i64 2)), (4, .const (.int .i64 1)), (5, .const (.int .i64 7)), (6, z)] (mk0 t i n).cells hop (by
    simp only [List.map_cons, List.map_nil, hx, hy, hz]
    exact builtM t i n)

set_option maxRecDepth 100000 in
set_option maxHeartbeats 800000 in
theorem made_any (q : Ask) (w : World) : Gives 16 #[q.v] w (.eq q.o.v) := by
  refine gives_eq ?_
  have HQ : Hid (∀ t i n s, t = wi q.a 0 3 → i = wi q.b 0 9 → n = wi q.c 1 12 → s = wi q.d 0 n → (Ord.mk t i (t.tdiv 2) 2 1 7 n s 0) = q.o) := by
    intro t i n s h1 h2 h3 h4
    subst h1 h2 h3 h4
    rfl
  obtain ⟨t, ht⟩ : ∃ t, wi q.a 0 3 = t := ⟨_, rfl⟩
  obtain ⟨i, hi⟩ : ∃ i, wi q.b 0 9 = i := ⟨_, rfl⟩
  obtain ⟨n, hn⟩ : ∃ n, wi q.c 1 12 = n := ⟨_, rfl⟩
  obtain ⟨s, hs⟩ : ∃ s, wi q.d 0 n = s := ⟨_, rfl⟩
  have ht1 := wi_in q.a 0 3 (by omega)
  have hn1 := wi_in q.c 1 12 (by omega)
  rw [ht] at ht1
  rw [hn] at hn1
  obtain ⟨d, hd⟩ : ∃ d, t.tdiv 2 = d := ⟨_, rfl⟩
  have hd1 := half_in t ht1.1 ht1.2
  rw [hd] at hd1
  have HT := Lib.hid ht
  have HI := Lib.hid hi
  have HN := Lib.hid hn
  have HS := Lib.hid hs
  have HD := Lib.hid hd
  clear ht hi hn hs hd
  go_enter Try.func16, Try.ntmps16
  go_upto_region 0 with fail
  refine wp_text 2 [.fresh w.heap.size 45 (q.cells), .fresh w.heap.size 25 zeroO.cells] rfl (by kernel_rfl) ?_ ?_
  · refine fsteps_cons 1 rfl (fun a u hE hD hk => f_new (o := ⟨some 1, _, _, _, _, _⟩) (.pointer (some ⟨u.heap.size, 0, none⟩)) _ rfl (wanted_none rfl _) (exec_box 45 (.tmp 0) (q.cells) rfl (hE 0 (q.v) (by kernel_rfl) (by kernel_rfl))) ⟨_, rfl, hk.size, Blk.new u _ _⟩ ((Keep.refl _ u).alloc _)) ?_
    refine fsteps_cons 2 rfl (fun a u hE hD hk => f_new (o := ⟨some 2, _, _, _, _, _⟩) (.pointer (some ⟨u.heap.size, 0, none⟩)) _ rfl (wanted_none rfl _) (exec_alc 25 zeroO.cells rfl zO) ⟨_, rfl, hk.size, Blk.new u _ _⟩ ((Keep.refl _ u).alloc _)) ?_
    exact fsteps_nil
  intro gv w0 hV k0
  rw [show dstsOf _ 2 = [1, 2] by kernel_rfl]
  simp only [List.foldl_cons, List.foldl_nil, List.setIfInBounds_toArray, List.set_cons_succ, List.set_cons_zero, List.drop_succ_cons, List.drop_zero]
  have hv1 : (.fresh w.heap.size 45 (q.cells) : Kn).p (gv 1) w0 := hV 0 1 (by kernel_rfl)
  generalize gv 1 = v1 at hv1 ⊢
  have hv2 : (.fresh w.heap.size 25 zeroO.cells : Kn).p (gv 2) w0 := hV 1 2 (by kernel_rfl)
  generalize gv 2 = v2 at hv2 ⊢
  clear hV
  obtain ⟨g1, rfl, hg1, hB1⟩ := hv1
  obtain ⟨g2, rfl, hg2, hB2⟩ := hv2
  have hne : g1 ≠ g2 := fun e => by subst e; unfold Blk at hB1 hB2; rw [hB1] at hB2; injection hB2 with hB2; injection hB2 with _ hB2; revert hB2; decide
  refine wpList_nil ?_
  have HA := Lib.hid (blk_range hB1)
  have HB2 := Lib.hid hB2
  have l1 := hB1.lt
  have l2 := hB2.lt
  clear hB1 hB2
  go_upto_region 1 with fail
  refine wp_free 11 [.eq (.pointer (some ⟨g1, 1, none⟩)), .eq (.int .i64 q.a), .eq (.int .i64 t), .eq (.pointer (some ⟨g1, 2, none⟩)), .eq (.int .i64 q.b), .eq (.int .i64 i), .eq (.pointer (some ⟨g1, 3, none⟩)), .eq (.int .i64 q.c), .eq (.int .i64 n), .eq ((mk0 t i n).v), .fresh w0.heap.size 25 zeroO.cells] (by kernel_rfl) rfl (by kernel_rfl) ?_ ?_
  · refine fsteps_cons 1 rfl (fun a u hE hD hk => f_val (o := ⟨some 4, _, _, _, _, _⟩) (.pointer (some ⟨g1, 1, none⟩)) rfl (wanted_none rfl _) (exec_fldo 45 1 1 (.tmp 1) (g1) (0) (1) rfl (hE 1 (.pointer (some ⟨g1, 0, none⟩)) (by kernel_rfl) (by kernel_rfl)) (by kernel_rfl) rfl) rfl) ?_
    refine fsteps_cons 2 rfl (fun a u hE hD hk => f_val (o := ⟨some 5, _, _, _, _, _⟩) (.int .i64 q.a) rfl (wanted_none rfl _) (exec_loadi 3 Try.underlying3 (.tmp 4) ⟨g1, 1, none⟩ (.int .i64 q.a) rfl (hD 0 4 (by kernel_rfl)) (range_int (range_kept HA.out hk) 1 _ rfl)) rfl) ?_
    refine fsteps_cons 3 rfl (fun a u hE hD hk => f_call (o := ⟨some 6, _, _, _, _, _⟩) 30 #[.int .i64 q.a, .int .i64 0, .int .i64 3] rfl (wanted_none rfl _) (exec_call 30 _ [.tmp 5, .const (.int .i64 0), .const (.int .i64 3)] _ [.int .i64 q.a, .int .i64 0, .int .i64 3] Try.func30 (by kernel_rfl) (by kernel_rfl) rfl (show [a.eval (.tmp 5), a.eval (.const (.int .i64 0)), a.eval (.const (.int .i64 3))] = [.int .i64 q.a, .int .i64 0, .int .i64 3] from (by rw [show a.eval (.tmp 5) = .int .i64 q.a from (hD 1 5 (by kernel_rfl))] <;> rfl)) u) ((by rw [← HT.out]; exact within_is q.a 0 3 u (by omega) (by omega) (by omega)))) ?_
    refine fsteps_cons 4 rfl (fun a u hE hD hk => f_val (o := ⟨some 7, _, _, _, _, _⟩) (.pointer (some ⟨g1, 2, none⟩)) rfl (wanted_none rfl _) (exec_fldo 45 2 2 (.tmp 1) (g1) (0) (2) rfl (hE 1 (.pointer (some ⟨g1, 0, none⟩)) (by kernel_rfl) (by kernel_rfl)) (by kernel_rfl) rfl) rfl) ?_
    refine fsteps_cons 5 rfl (fun a u hE hD hk => f_val (o := ⟨some 8, _, _, _, _, _⟩) (.int .i64 q.b) rfl (wanted_none rfl _) (exec_loadi 3 Try.underlying3 (.tmp 7) ⟨g1, 2, none⟩ (.int .i64 q.b) rfl (hD 3 7 (by kernel_rfl)) (range_int (range_kept HA.out hk) 2 _ rfl)) rfl) ?_
    refine fsteps_cons 6 rfl (fun a u hE hD hk => f_call (o := ⟨some 9, _, _, _, _, _⟩) 30 #[.int .i64 q.b, .int .i64 0, .int .i64 9] rfl (wanted_none rfl _) (exec_call 30 _ [.tmp 8, .const (.int .i64 0), .const (.int .i64 9)] _ [.int .i64 q.b, .int .i64 0, .int .i64 9] Try.func30 (by kernel_rfl) (by kernel_rfl) rfl (show [a.eval (.tmp 8), a.eval (.const (.int .i64 0)), a.eval (.const (.int .i64 9))] = [.int .i64 q.b, .int .i64 0, .int .i64 9] from (by rw [show a.eval (.tmp 8) = .int .i64 q.b from (hD 4 8 (by kernel_rfl))] <;> rfl)) u) ((by rw [← HI.out]; exact within_is q.b 0 9 u (by omega) (by omega) (by omega)))) ?_
    refine fsteps_cons 7 rfl (fun a u hE hD hk => f_val (o := ⟨some 10, _, _, _, _, _⟩) (.pointer (some ⟨g1, 3, none⟩)) rfl (wanted_none rfl _) (exec_fldo 45 3 3 (.tmp 1) (g1) (0) (3) rfl (hE 1 (.pointer (some ⟨g1, 0, none⟩)) (by kernel_rfl) (by kernel_rfl)) (by kernel_rfl) rfl) rfl) ?_
    refine fsteps_cons 8 rfl (fun a u hE hD hk => f_val (o := ⟨some 11, _, _, _, _, _⟩) (.int .i64 q.c) rfl (wanted_none rfl _) (exec_loadi 3 Try.underlying3 (.tmp 10) ⟨g1, 3, none⟩ (.int .i64 q.c) rfl (hD 6 10 (by kernel_rfl)) (range_int (range_kept HA.out hk) 3 _ rfl)) rfl) ?_
    refine fsteps_cons 9 rfl (fun a u hE hD hk => f_call (o := ⟨some 12, _, _, _, _, _⟩) 30 #[.int .i64 q.c, .int .i64 1, .int .i64 12] rfl (wanted_none rfl _) (exec_call 30 _ [.tmp 11, .const (.int .i64 1), .const (.int .i64 12)] _ [.int .i64 q.c, .int .i64 1, .int .i64 12] Try.func30 (by kernel_rfl) (by kernel_rfl) rfl (show [a.eval (.tmp 11), a.eval (.const (.int .i64 1)), a.eval (.const (.int .i64 12))] = [.int .i64 q.c, .int .i64 1, .int .i64 12] from (by rw [show a.eval (.tmp 11) = .int .i64 q.c from (hD 7 11 (by kernel_rfl))] <;> rfl)) u) ((by rw [← HN.out]; exact within_is q.c 1 12 u (by omega) (by omega) (by omega)))) ?_
    refine fsteps_cons 10 rfl (fun a u hE hD hk => f_val (o := ⟨some 13, _, _, _, _, _⟩) ((mk0 t i n).v) rfl (wanted_none rfl _) (exec_mk0 (.tmp 6) (.tmp 9) (.tmp 12) t i n rfl (hD 2 6 (by kernel_rfl)) (hD 5 9 (by kernel_rfl)) (hD 8 12 (by kernel_rfl))) rfl) ?_
    refine fsteps_cons 11 rfl (fun a u hE hD hk => f_new (o := ⟨some 3, _, _, _, _, _⟩) (.pointer (some ⟨u.heap.size, 0, none⟩)) _ rfl (wanted_none rfl _) (exec_alc 25 zeroO.cells rfl zO) ⟨_, rfl, hk.size, Blk.new u _ _⟩ ((Keep.refl _ u).alloc _)) ?_
    exact fsteps_nil
  intro gv w1 hV k1
  rw [show dstsOf _ 11 = [4, 5, 6, 7, 8, 9, 10, 11, 12, 13, 3] by kernel_rfl]
  simp only [List.foldl_cons, List.foldl_nil, List.setIfInBounds_toArray, List.set_cons_succ, List.set_cons_zero, List.drop_succ_cons, List.drop_zero]
  have hv3 : (.fresh w0.heap.size 25 zeroO.cells : Kn).p (gv 3) w1 := hV 10 3 (by kernel_rfl)
  generalize gv 3 = v3 at hv3 ⊢
  rw [show gv 13 = (mk0 t i n).v from hV 9 13 (by kernel_rfl)]
  clear hV
  obtain ⟨g3, rfl, hg3, hB3⟩ := hv3
  refine l_setS (o := ⟨none, _, _, _, _, _⟩) 25 g3 25 zeroO.cells (mk0 t i n).cells (.tmp 3) (.tmp 13) rfl rfl (by kernel_rfl) (by kernel_rfl) hB3 (by rw [Ord.len9]; exact ord_size) (by rw [Ord.len9, Ord.len9]) (Ord.one1 _) ?_
  intro w2 hC2 hk2 hs2
  simp only [Act.put]
  refine wpList_nil ?_
  have k02 : Kept w0 w2 := k1.trans' hk2 (by omega)
  have HA2 := Lib.hid (range_kept HA.out k02)
  have HB4 := Lib.hid (HB2.out.kept k02)
  have kw2 := k0.trans k02
  have HC2 := Lib.hid hC2
  have HC2r := Lib.hid (blk_range hC2)
  have z2 := k02.size
  clear hB3 hC2 hk2 k1 HA HB2 k02 hs2
  go_upto_region 2 with fail
  refine wp_text 4 [.eq (.pointer (some ⟨g3, 0, none⟩)), .eq (.int .i64 (mk0 t i n).tr), .eq (.int .i64 d), .eq (.pointer (some ⟨g3, 2, none⟩))] rfl (by kernel_rfl) ?_ ?_
  · refine fsteps_cons 1 rfl (fun a u hE hD hk => f_val (o := ⟨some 14, _, _, _, _, _⟩) (.pointer (some ⟨g3, 0, none⟩)) rfl (wanted_none rfl _) (exec_fldo 25 0 0 (.tmp 3) (g3) (0) (0) rfl (hE 3 (.pointer (some ⟨g3, 0, none⟩)) (by kernel_rfl) (by kernel_rfl)) (by kernel_rfl) rfl) rfl) ?_
    refine fsteps_cons 2 rfl (fun a u hE hD hk => f_val (o := ⟨some 15, _, _, _, _, _⟩) (.int .i64 (mk0 t i n).tr) rfl (wanted_none rfl _) (exec_loadi 3 Try.underlying3 (.tmp 14) ⟨g3, 0, none⟩ (.int .i64 (mk0 t i n).tr) rfl (hD 0 14 (by kernel_rfl)) (range_int (range_kept HC2r.out hk) 0 _ rfl)) rfl) ?_
    refine fsteps_cons 3 rfl (fun a u hE hD hk => f_val (o := ⟨some 16, _, _, _, _, _⟩) (.int .i64 d) rfl (wanted_none rfl _) (exec_quon d rfl (hD 1 15 (by kernel_rfl)) rfl (by decide) HD.out (by omega) (by omega)) rfl) ?_
    refine fsteps_cons 4 rfl (fun a u hE hD hk => f_val (o := ⟨some 17, _, _, _, _, _⟩) (.pointer (some ⟨g3, 2, none⟩)) rfl (wanted_none rfl _) (exec_fldo 25 2 2 (.tmp 3) (g3) (0) (2) rfl (hE 3 (.pointer (some ⟨g3, 0, none⟩)) (by kernel_rfl) (by kernel_rfl)) (by kernel_rfl) rfl) rfl) ?_
    exact fsteps_nil
  intro gv w3 hV k3
  rw [show dstsOf _ 4 = [14, 15, 16, 17] by kernel_rfl]
  simp only [List.foldl_cons, List.foldl_nil, List.setIfInBounds_toArray, List.set_cons_succ, List.set_cons_zero, List.drop_succ_cons, List.drop_zero]
  rw [show gv 17 = .pointer (some ⟨g3, 2, none⟩) from hV 3 17 (by kernel_rfl)]
  rw [show gv 16 = .int .i64 d from hV 2 16 (by kernel_rfl)]
  clear hV
  refine l_st1 (o := ⟨none, _, _, _, _, _⟩) 3 g3 2 25 _ (.int .i64 d) (.tmp 17) (.tmp 16) rfl rfl (by kernel_rfl) (by kernel_rfl) (by kernel_rfl) rfl rfl (HC2.out.kept k3) (by rw [Ord.len9]; omega) ?_
  intro w4 hC4 hk4 hs4
  simp only [Act.put]
  refine wpList_nil ?_
  have K4 : Keep (· = g3) w2 w4 := (Keep.mono (T := (· = g3)) k3 (fun _ _ h => h.elim)).trans hk4 (fun _ _ h => h)
  have HC4 : Hid (Blk w4 g3 25 (Ord.mk t i d 2 1 7 n 0 0).cells) := hC4
  have HC4r := Lib.hid (blk_range HC4.out)
  have HA4 := Lib.hid (range_keep HA2.out K4 (by omega))
  have HB5 := Lib.hid (HB4.out.keep K4 (by omega))
  have kw4 : Kept w w4 := kw2.trans' K4 (by omega)
  clear hC4 hk4 K4 HA2 HB4 HC2 HC2r k3 kw2
  go_upto_region 3 with fail
  refine wp_text 6 [.eq (.pointer (some ⟨g1, 4, none⟩)), .eq (.int .i64 q.d), .eq (.pointer (some ⟨g3, 6, none⟩)), .eq (.int .i64 n), .eq (.int .i64 s), .eq (.pointer (some ⟨g3, 7, none⟩))] rfl (by kernel_rfl) ?_ ?_
  · refine fsteps_cons 1 rfl (fun a u hE hD hk => f_val (o := ⟨some 18, _, _, _, _, _⟩) (.pointer (some ⟨g1, 4, none⟩)) rfl (wanted_none rfl _) (exec_fldo 45 4 4 (.tmp 1) (g1) (0) (4) rfl (hE 1 (.pointer (some ⟨g1, 0, none⟩)) (by kernel_rfl) (by kernel_rfl)) (by kernel_rfl) rfl) rfl) ?_
    refine fsteps_cons 2 rfl (fun a u hE hD hk => f_val (o := ⟨some 19, _, _, _, _, _⟩) (.int .i64 q.d) rfl (wanted_none rfl _) (exec_loadi 3 Try.underlying3 (.tmp 18) ⟨g1, 4, none⟩ (.int .i64 q.d) rfl (hD 0 18 (by kernel_rfl)) (range_int (range_kept HA4.out hk) 4 _ rfl)) rfl) ?_
    refine fsteps_cons 3 rfl (fun a u hE hD hk => f_val (o := ⟨some 20, _, _, _, _, _⟩) (.pointer (some ⟨g3, 6, none⟩)) rfl (wanted_none rfl _) (exec_fldo 25 6 6 (.tmp 3) (g3) (0) (6) rfl (hE 3 (.pointer (some ⟨g3, 0, none⟩)) (by kernel_rfl) (by kernel_rfl)) (by kernel_rfl) rfl) rfl) ?_
    refine fsteps_cons 4 rfl (fun a u hE hD hk => f_val (o := ⟨some 21, _, _, _, _, _⟩) (.int .i64 n) rfl (wanted_none rfl _) (exec_loadi 3 Try.underlying3 (.tmp 20) ⟨g3, 6, none⟩ (.int .i64 n) rfl (hD 2 20 (by kernel_rfl)) (range_int (range_kept HC4r.out hk) 6 _ rfl)) rfl) ?_
    refine fsteps_cons 5 rfl (fun a u hE hD hk => f_call (o := ⟨some 22, _, _, _, _, _⟩) 30 #[.int .i64 q.d, .int .i64 0, .int .i64 n] rfl (wanted_none rfl _) (exec_call 30 _ [.tmp 19, .const (.int .i64 0), .tmp 21] _ [.int .i64 q.d, .int .i64 0, .int .i64 n] Try.func30 (by kernel_rfl) (by kernel_rfl) rfl (show [a.eval (.tmp 19), a.eval (.const (.int .i64 0)), a.eval (.tmp 21)] = [.int .i64 q.d, .int .i64 0, .int .i64 n] from (by rw [show a.eval (.tmp 19) = .int .i64 q.d from (hD 1 19 (by kernel_rfl)), show a.eval (.tmp 21) = .int .i64 n from (hD 3 21 (by kernel_rfl))] <;> rfl)) u) ((by rw [← HS.out]; exact within_is q.d 0 n u (by omega) (by omega) (by omega)))) ?_
    refine fsteps_cons 6 rfl (fun a u hE hD hk => f_val (o := ⟨some 23, _, _, _, _, _⟩) (.pointer (some ⟨g3, 7, none⟩)) rfl (wanted_none rfl _) (exec_fldo 25 7 7 (.tmp 3) (g3) (0) (7) rfl (hE 3 (.pointer (some ⟨g3, 0, none⟩)) (by kernel_rfl) (by kernel_rfl)) (by kernel_rfl) rfl) rfl) ?_
    exact fsteps_nil
  intro gv w5 hV k5
  rw [show dstsOf _ 6 = [18, 19, 20, 21, 22, 23] by kernel_rfl]
  simp only [List.foldl_cons, List.foldl_nil, List.setIfInBounds_toArray, List.set_cons_succ, List.set_cons_zero, List.drop_succ_cons, List.drop_zero]
  rw [show gv 23 = .pointer (some ⟨g3, 7, none⟩) from hV 5 23 (by kernel_rfl)]
  rw [show gv 22 = .int .i64 s from hV 4 22 (by kernel_rfl)]
  clear hV
  refine l_st1 (o := ⟨none, _, _, _, _, _⟩) 3 g3 7 25 _ (.int .i64 s) (.tmp 23) (.tmp 22) rfl rfl (by kernel_rfl) (by kernel_rfl) (by kernel_rfl) rfl rfl (HC4.out.kept k5) (by rw [Ord.len9]; omega) ?_
  intro w6 hC6 hk6 hs6
  simp only [Act.put]
  refine wpList_nil ?_
  have K6 : Keep (· = g3) w4 w6 := (Keep.mono (T := (· = g3)) k5 (fun _ _ h => h.elim)).trans hk6 (fun _ _ h => h)
  have HC6 : Hid (Blk w6 g3 25 (Ord.mk t i d 2 1 7 n s 0).cells) := hC6
  have HC6r := Lib.hid (blk_range HC6.out)
  have HB6 := Lib.hid (HB5.out.keep K6 (by omega))
  have kw6 : Kept w w6 := kw4.trans' K6 (by omega)
  have z6 := K6.size
  clear hC6 hk6 K6 HA4 HB5 HC4 HC4r k5 kw4
  go_upto_region 4 with fail
  refine wp_text 1 [.eq ((Ord.mk t i d 2 1 7 n s 0).v)] rfl (by kernel_rfl) ?_ ?_
  · refine fsteps_cons 1 rfl (fun a u hE hD hk => f_val (o := ⟨some 24, _, _, _, _, _⟩) ((Ord.mk t i d 2 1 7 n s 0).v) rfl (wanted_none rfl _) (exec_ldS 25 _ (.tmp 3) (g3) (0) ((Ord.mk t i d 2 1 7 n s 0).cells) rfl (hE 3 (.pointer (some ⟨g3, 0, none⟩)) (by kernel_rfl) (by kernel_rfl)) (range_kept HC6r.out hk) Try.underlying25 (by rw [(Ord.mk t i d 2 1 7 n s 0).len9]; exact ord_size)) rfl) ?_
    exact fsteps_nil
  intro gv w7 hV k7
  rw [show dstsOf _ 1 = [24] by kernel_rfl]
  simp only [List.foldl_cons, List.foldl_nil, List.setIfInBounds_toArray, List.set_cons_succ, List.set_cons_zero, List.drop_succ_cons, List.drop_zero]
  rw [show gv 24 = (Ord.mk t i d 2 1 7 n s 0).v from hV 0 24 (by kernel_rfl)]
  clear hV
  refine l_setS (o := ⟨none, _, _, _, _, _⟩) 25 g2 25 zeroO.cells (Ord.mk t i d 2 1 7 n s 0).cells (.tmp 2) (.tmp 24) rfl rfl (by kernel_rfl) (by kernel_rfl) (HB6.out.kept k7) (by rw [Ord.len9]; exact ord_size) (by rw [Ord.len9, Ord.len9]) (Ord.one1 _) ?_
  intro w8 hC8 hk8 hs8
  simp only [Act.put]
  refine wpList_nil ?_
  go_wp2
  refine bodyPost_ret (results_cell (p := 2) rfl _ _ g2 _ (Ord.mk t i d 2 1 7 n s 0).cells rfl hC8 Try.underlying25 (by rw [Ord.len9]; exact ord_size)) rfl ?_
  refine ⟨?_, (kw6.trans k7).trans' hk8 (by omega)⟩
  rw [← HQ.out t i n s HT.out.symm HI.out.symm HN.out.symm HS.out.symm, HD.out]
  rfl

/-- the orders of asks, each trader and id once -/
def fillM : List (Int × Int) → List Ask → List Ord
  | _, [] => []
  | K, q :: l => if (q.o.tr, q.o.id) ∈ K then fillM K l else q.o :: fillM (K ++ [(q.o.tr, q.o.id)]) l
theorem wf_small (x : Int) (h0 : 0 ≤ x) (h1 : x ≤ 100) : (Lit.int .i64 x).wf = true := by
  unfold Lit.wf
  have e1 : IntKind.i64.min = -9223372036854775808 := by decide
  have e2 : IntKind.i64.max = 9223372036854775807 := by decide
  simp [e1, e2]
  omega
theorem ask_tr (q : Ask) : (Lit.int .i64 q.o.tr).wf = true ∧ (Lit.int .i64 q.o.id).wf = true := by
  have h1 := wi_in q.a 0 3 (by omega)
  have h2 := wi_in q.b 0 9 (by omega)
  exact ⟨wf_small _ h1.1 (by show wi _ _ _ ≤ _; omega), wf_small _ h2.1 (by show wi _ _ _ ≤ _; omega)⟩
def fillE (K : List (Int × Int)) (l : List Ask) : List Ent := (fillM K l).map Ent.of
theorem fillE_skip (K : List (Int × Int)) (q : Ask) (l : List Ask) (h : (q.o.tr, q.o.id) ∈ K) : fillE K (q :: l) = fillE K l := by
  unfold fillE
  rw [fillM, if_pos h]
theorem fillE_add (K : List (Int × Int)) (q : Ask) (l : List Ask) (h : (q.o.tr, q.o.id) ∉ K) : fillE K (q :: l) = Ent.of q.o :: fillE (K ++ [(q.o.tr, q.o.id)]) l := by
  unfold fillE
  rw [fillM, if_neg h]
  rfl

set_option maxRecDepth 100000 in
set_option maxHeartbeats 1600000 in
theorem filled_any (v : Value) (l : List Ask) (w : World) (hl : Asks w v l) : Calls Try.prog 29 #[v] w fun e w' => ∃ p F, e = .returned (.pointer (some ⟨p, 0, none⟩)) ∧ Lvl 58 61 w' F p (fillE [] (l.take 20)) ∧ Grow w (fun _ => False) F ∧ Kept w w' := by
  have HA := Lib.hid hl
  obtain ⟨A, n, c, rfl, hn, _, hm, _⟩ := hl
  unfold maxLen at hm
  have HN := Lib.hid hn
  clear hn
  go_enter Try.func29, Try.ntmps29
  go_upto_region 1 with fail
  refine wp_region_lit ?_
  refine l_call (o := ⟨some 7, _, _, _, _, _⟩) 9 #[.int .i64 7] rfl (exec_call 9 _ [.const (.int .i64 7)] _ _ Try.func9 (by kernel_rfl) (by kernel_rfl) rfl (by kernel_rfl) _) ?_
  refine (new_any w).mono ?_
  rintro r w1 ⟨p, F, rfl, hL1, hG1, k1⟩
  refine ⟨_, rfl, ?_⟩
  simp only [Act.put, List.setIfInBounds_toArray, List.set_cons_succ, List.set_cons_zero]
  refine l_val (o := ⟨some 3, _, _, _, _, _⟩) (.pointer (some ⟨p, 0, none⟩)) rfl (exec_assign (.tmp 7) (.pointer (some ⟨p, 0, none⟩)) rfl (by kernel_rfl)) ?_
  simp only [Act.put, List.setIfInBounds_toArray, List.set_cons_succ, List.set_cons_zero]
  refine wpList_nil ?_
  have HL1 := Lib.hid hL1
  have HG1 := Lib.hid hG1
  clear hL1 hG1
  go_upto_region 4 with fail
  refine wp_text 1 [.met w1.heap.size] rfl (by kernel_rfl) ?_ ?_
  · refine fsteps_cons 1 rfl (fun a u hE hD hk => f_new (o := ⟨some 10, _, _, _, _, _⟩) (.map (some u.heap.size)) _ rfl (wanted_none rfl _) (exec_mkmap rfl) ⟨_, rfl, hk.size, Met.new u⟩ ((Keep.refl _ u).alloc _)) ?_
    exact fsteps_nil
  intro gv w2 hV k2
  rw [show dstsOf _ 1 = [10] by kernel_rfl]
  simp only [List.foldl_cons, List.foldl_nil, List.setIfInBounds_toArray, List.set_cons_succ, List.set_cons_zero, List.drop_succ_cons, List.drop_zero]
  have hv10 : (.met w1.heap.size : Kn).p (gv 10) w2 := hV 0 10 (by kernel_rfl)
  generalize gv 10 = v10 at hv10 ⊢
  clear hV
  obtain ⟨b, rfl, hb, hM⟩ := hv10
  refine l_val (o := ⟨some 4, _, _, _, _, _⟩) (.map (some b)) rfl (exec_assign (.tmp 10) (.map (some b)) rfl (by kernel_rfl)) ?_
  simp only [Act.put, List.setIfInBounds_toArray, List.set_cons_succ, List.set_cons_zero]
  refine wpList_nil ?_
  have z1 := k1.size
  have z2 := k2.size
  have hbl := hM.lt
  have HM := Lib.hid hM
  have HL2 := Lib.hid (HL1.out.kept k2)
  have HFL : Hid (∀ x, F x → x < w1.heap.size) := HL1.out.2.1
  have kw2 := k1.trans k2
  clear hM HL1 k1 k2
  go_wp2_with fail
  go_loopw [5] (fun t wr => ∃ (i : Nat) (K : List (Int × Int)) (Y : List Ent) (F' : Nat → Prop), t = .int .i64 (i : Int) ∧ i ≤ 20 ∧ i ≤ n ∧ Hid (Met wr b K) ∧ Hid (Lvl 58 61 wr F' p Y) ∧ Hid (Grow w (fun _ => False) F') ∧ Hid (¬ F' b) ∧ Hid (Y.length ≤ i) ∧ Kept w wr ∧ b < wr.heap.size ∧ Hid (fillE [] (l.take 20) = Y ++ fillE K ((l.take 20).drop i))) (fun t _ => 20 - (intOf t).toNat)
  case atStart => exact ⟨0, [], [], F, rfl, by omega, by omega, HM, HL2, HG1, fun h => by have := HFL.out b h; omega, Nat.le_refl 0, kw2, hbl, by show _ = _; simp⟩
  case round =>
    obtain ⟨i, K, Y, F', rfl, hi, hin, HMr, HLr, HGr, HNb, HYl, hkr, hbr, HD⟩ := hrel
    by_cases hlt : i < n ∧ i < 20
    · obtain ⟨hin', hi20⟩ := hlt
      have hil : i < l.length := by rw [HN.out]; exact hin'
      obtain ⟨q, hq⟩ : ∃ q, l[i]? = some q := ⟨_, List.getElem?_eq_getElem hil⟩
      have HDr : Hid ((l.take 20).drop i = q :: (l.take 20).drop (i + 1)) := by
        show _ = _
        have h1 : (l.take 20)[i]? = some q := by rw [List.getElem?_take, if_pos hi20]; exact hq
        obtain ⟨h2, h3⟩ := List.getElem?_eq_some_iff.1 h1
        rw [List.drop_eq_getElem_cons h2, h3]
      obtain ⟨A', n', c', e1, _, _, _, h4⟩ := HA.out
      injection e1 with e1 e2 e3
      subst e1 e2 e3
      obtain ⟨g, off, rfl, hr⟩ := h4 i q hq
      have HE := Lib.hid (range_kept hr hkr)
      clear h4 hr hq hil
      go_upto_region 8 with fail
      refine wp_text 6 [.eq (.slice (some ⟨g, off, none⟩) n c), .eq (.int .i64 (i : Int)), .eq (.pointer (some ⟨g, off + i * 5, none⟩)), .eq (q.v), .eq (q.o.v), .fresh wr.heap.size 25 zeroO.cells] rfl (by kernel_rfl) ?_ ?_
      · refine fsteps_cons 1 rfl (fun a u hE hD hk => f_val (o := ⟨some 21, _, _, _, _, _⟩) (.slice (some ⟨g, off, none⟩) n c) rfl (wanted_none rfl _) (exec_move (.tmp 0) (.slice (some ⟨g, off, none⟩) n c) rfl (hE 0 (.slice (some ⟨g, off, none⟩) n c) (by kernel_rfl) (by kernel_rfl))) rfl) ?_
        refine fsteps_cons 2 rfl (fun a u hE hD hk => f_val (o := ⟨some 22, _, _, _, _, _⟩) (.int .i64 (i : Int)) rfl (wanted_none rfl _) (exec_move (.tmp 5) (.int .i64 (i : Int)) rfl (hE 5 (.int .i64 (i : Int)) (by kernel_rfl) (by kernel_rfl))) rfl) ?_
        refine fsteps_cons 3 rfl (fun a u hE hD hk => f_val (o := ⟨some 23, _, _, _, _, _⟩) (.pointer (some ⟨g, off + i * 5, none⟩)) rfl (wanted_none rfl _) (exec_ixo slA (.tmp 21) (.tmp 22) (g) (off) n c i (off + i * 5) ((i : Int)) rfl (hD 0 21 (by kernel_rfl)) (hD 1 22 (by kernel_rfl)) (by first | rfl | omega) (hin') (by first | rfl | omega)) rfl) ?_
        refine fsteps_cons 4 rfl (fun a u hE hD hk => f_val (o := ⟨some 24, _, _, _, _, _⟩) (q.v) rfl (wanted_none rfl _) (exec_ldS 45 _ (.tmp 23) (g) (off + i * 5) (q.cells) rfl (hD 2 23 (by kernel_rfl)) (range_kept HE.out hk) Try.underlying45 (by rw [q.len5]; exact szA)) rfl) ?_
        refine fsteps_cons 5 rfl (fun a u hE hD hk => f_call (o := ⟨some 25, _, _, _, _, _⟩) 16 #[q.v] rfl (wanted_none rfl _) (exec_call 16 _ [.tmp 24] _ [q.v] Try.func16 (by kernel_rfl) (by kernel_rfl) rfl (show [a.eval (.tmp 24)] = [q.v] from (by rw [show a.eval (.tmp 24) = q.v from (hD 3 24 (by kernel_rfl))] <;> rfl)) u) (made_any q u)) ?_
        refine fsteps_cons 6 rfl (fun a u hE hD hk => f_new (o := ⟨some 6, _, _, _, _, _⟩) (.pointer (some ⟨u.heap.size, 0, none⟩)) _ rfl (wanted_none rfl _) (exec_alc 25 zeroO.cells rfl zO) ⟨_, rfl, hk.size, Blk.new u _ _⟩ ((Keep.refl _ u).alloc _)) ?_
        exact fsteps_nil
      intro gv w3 hV k3
      rw [show dstsOf _ 6 = [21, 22, 23, 24, 25, 6] by kernel_rfl]
      simp only [List.foldl_cons, List.foldl_nil, List.setIfInBounds_toArray, List.set_cons_succ, List.set_cons_zero, List.drop_succ_cons, List.drop_zero]
      have hv6 : (.fresh wr.heap.size 25 zeroO.cells : Kn).p (gv 6) w3 := hV 5 6 (by kernel_rfl)
      generalize gv 6 = v6 at hv6 ⊢
      rw [show gv 25 = q.o.v from hV 4 25 (by kernel_rfl)]
      clear hV
      obtain ⟨g6, rfl, hg6, hB6⟩ := hv6
      refine l_setS (o := ⟨none, _, _, _, _, _⟩) 25 g6 25 zeroO.cells q.o.cells (.tmp 6) (.tmp 25) rfl rfl (by kernel_rfl) (by kernel_rfl) hB6 (by rw [Ord.len9]; exact ord_size) (by rw [Ord.len9, Ord.len9]) (Ord.one1 _) ?_
      intro w4 hB4 hk4 hs4
      simp only [Act.put]
      refine wpList_nil ?_
      have kr4 : Kept wr w4 := k3.trans' hk4 (by omega)
      have kw4 := hkr.trans kr4
      have HM4 := Lib.hid (HMr.out.kept kr4)
      have HL4 := Lib.hid (HLr.out.kept kr4)
      have HO4 := Lib.hid (blk_range hB4)
      have z4 := kr4.size
      have zr := hkr.size
      have l4 := hB4.lt
      have HLlt : Hid (∀ x, F' x → x < wr.heap.size) := HLr.out.2.1
      clear hB6 hB4 hk4 k3 HE HMr HLr kr4 hkr
      obtain ⟨o, ho⟩ : ∃ o, q.o = o := ⟨_, rfl⟩
      have HWF := Lib.hid (ask_tr q)
      rw [ho] at HWF HO4 ⊢
      have HDr2 : Hid (∀ l', ((o.tr, o.id) ∈ K → fillE K (q :: l') = fillE K l') ∧ ((o.tr, o.id) ∉ K → fillE K (q :: l') = Ent.of o :: fillE (K ++ [(o.tr, o.id)]) l')) := by
        intro l'
        subst ho
        exact ⟨fillE_skip K q l', fillE_add K q l'⟩
      clear ho
      by_cases hmem : (o.tr, o.id) ∈ K
      · go_upto_region 9 with fail
        refine wp_text 8 [.eq (.map (some b)), .eq (.pointer (some ⟨g6, 0, none⟩)), .eq (.int .i64 o.tr), .eq (.pointer (some ⟨g6, 1, none⟩)), .eq (.int .i64 o.id), .eq (key2 (o.tr) (o.id)), .eq (.bool true), .eq (.bool false)] rfl (by kernel_rfl) ?_ ?_
        · refine fsteps_cons 1 rfl (fun a u hE hD hk => f_val (o := ⟨some 26, _, _, _, _, _⟩) (.map (some b)) rfl (wanted_none rfl _) (exec_move (.tmp 4) (.map (some b)) rfl (hE 4 (.map (some b)) (by kernel_rfl) (by kernel_rfl))) rfl) ?_
          refine fsteps_cons 2 rfl (fun a u hE hD hk => f_val (o := ⟨some 27, _, _, _, _, _⟩) (.pointer (some ⟨g6, 0, none⟩)) rfl (wanted_none rfl _) (exec_fldo 25 0 0 (.tmp 6) (g6) (0) (0) rfl (hE 6 (.pointer (some ⟨g6, 0, none⟩)) (by kernel_rfl) (by kernel_rfl)) (by kernel_rfl) rfl) rfl) ?_
          refine fsteps_cons 3 rfl (fun a u hE hD hk => f_val (o := ⟨some 28, _, _, _, _, _⟩) (.int .i64 o.tr) rfl (wanted_none rfl _) (exec_loadi 3 Try.underlying3 (.tmp 27) ⟨g6, 0, none⟩ (.int .i64 o.tr) rfl (hD 1 27 (by kernel_rfl)) (range_int (range_kept HO4.out hk) 0 _ rfl)) rfl) ?_
          refine fsteps_cons 4 rfl (fun a u hE hD hk => f_val (o := ⟨some 29, _, _, _, _, _⟩) (.pointer (some ⟨g6, 1, none⟩)) rfl (wanted_none rfl _) (exec_fldo 25 1 1 (.tmp 6) (g6) (0) (1) rfl (hE 6 (.pointer (some ⟨g6, 0, none⟩)) (by kernel_rfl) (by kernel_rfl)) (by kernel_rfl) rfl) rfl) ?_
          refine fsteps_cons 5 rfl (fun a u hE hD hk => f_val (o := ⟨some 30, _, _, _, _, _⟩) (.int .i64 o.id) rfl (wanted_none rfl _) (exec_loadi 3 Try.underlying3 (.tmp 29) ⟨g6, 1, none⟩ (.int .i64 o.id) rfl (hD 3 29 (by kernel_rfl)) (range_int (range_kept HO4.out hk) 1 _ rfl)) rfl) ?_
          refine fsteps_cons 6 rfl (fun a u hE hD hk => f_val (o := ⟨some 31, _, _, _, _, _⟩) (key2 (o.tr) (o.id)) rfl (wanted_none rfl _) (exec_pair (.tmp 28) (.tmp 30) (o.tr) (o.id) rfl (hD 2 28 (by kernel_rfl)) (hD 4 30 (by kernel_rfl))) rfl) ?_
          refine fsteps_cons 7 rfl (fun a u hE hD hk => f_val (o := ⟨some 32, _, _, _, _, _⟩) (.bool true) rfl (wanted_none rfl _) (exec_lookb true (.tmp 26) (.tmp 31) b K o.tr o.id rfl (hD 0 26 (by kernel_rfl)) (hD 5 31 (by kernel_rfl)) HWF.out.1 HWF.out.2 (HM4.out.kept hk) (decide_eq_true hmem)) rfl) ?_
          refine fsteps_cons 8 rfl (fun a u hE hD hk => f_val (o := ⟨some 33, _, _, _, _, _⟩) (.bool false) rfl (wanted_none rfl _) (exec_not _ (.tmp 32) true rfl (hD 6 32 (by kernel_rfl))) rfl) ?_
          exact fsteps_nil
        intro gv w5 hV k5
        rw [show dstsOf _ 8 = [26, 27, 28, 29, 30, 31, 32, 33] by kernel_rfl]
        simp only [List.foldl_cons, List.foldl_nil, List.setIfInBounds_toArray, List.set_cons_succ, List.set_cons_zero, List.drop_succ_cons, List.drop_zero]
        rw [show gv 33 = .bool false from hV 7 33 (by kernel_rfl)]
        clear hV
        refine wpList_nil ?_
        have HD5 : Hid (fillE [] (l.take 20) = Y ++ fillE K ((l.take 20).drop (i + 1))) := by
          show _ = _
          rw [HD.out, HDr.out, (HDr2.out _).1 hmem]
        have HM5 := Lib.hid (HM4.out.kept k5)
        have HL5 := Lib.hid (HL4.out.kept k5)
        have kw5 := kw4.trans k5
        have z5 := k5.size
        have HY5 : Hid (Y.length ≤ i + 1) := Nat.le_succ_of_le HYl.out
        clear HM4 HL4 kw4 k5 HO4 HWF hmem HDr2
        go_wp2
        exact ⟨⟨i + 1, K, Y, F', by go_num, by omega, by omega, HM5, HL5, HGr, HNb, HY5, kw5, by omega, HD5⟩, by simp [intOf]; omega⟩
      · go_upto_region 9 with fail
        refine wp_text 8 [.eq (.map (some b)), .eq (.pointer (some ⟨g6, 0, none⟩)), .eq (.int .i64 o.tr), .eq (.pointer (some ⟨g6, 1, none⟩)), .eq (.int .i64 o.id), .eq (key2 (o.tr) (o.id)), .eq (.bool false), .eq (.bool true)] rfl (by kernel_rfl) ?_ ?_
        · refine fsteps_cons 1 rfl (fun a u hE hD hk => f_val (o := ⟨some 26, _, _, _, _, _⟩) (.map (some b)) rfl (wanted_none rfl _) (exec_move (.tmp 4) (.map (some b)) rfl (hE 4 (.map (some b)) (by kernel_rfl) (by kernel_rfl))) rfl) ?_
          refine fsteps_cons 2 rfl (fun a u hE hD hk => f_val (o := ⟨some 27, _, _, _, _, _⟩) (.pointer (some ⟨g6, 0, none⟩)) rfl (wanted_none rfl _) (exec_fldo 25 0 0 (.tmp 6) (g6) (0) (0) rfl (hE 6 (.pointer (some ⟨g6, 0, none⟩)) (by kernel_rfl) (by kernel_rfl)) (by kernel_rfl) rfl) rfl) ?_
          refine fsteps_cons 3 rfl (fun a u hE hD hk => f_val (o := ⟨some 28, _, _, _, _, _⟩) (.int .i64 o.tr) rfl (wanted_none rfl _) (exec_loadi 3 Try.underlying3 (.tmp 27) ⟨g6, 0, none⟩ (.int .i64 o.tr) rfl (hD 1 27 (by kernel_rfl)) (range_int (range_kept HO4.out hk) 0 _ rfl)) rfl) ?_
          refine fsteps_cons 4 rfl (fun a u hE hD hk => f_val (o := ⟨some 29, _, _, _, _, _⟩) (.pointer (some ⟨g6, 1, none⟩)) rfl (wanted_none rfl _) (exec_fldo 25 1 1 (.tmp 6) (g6) (0) (1) rfl (hE 6 (.pointer (some ⟨g6, 0, none⟩)) (by kernel_rfl) (by kernel_rfl)) (by kernel_rfl) rfl) rfl) ?_
          refine fsteps_cons 5 rfl (fun a u hE hD hk => f_val (o := ⟨some 30, _, _, _, _, _⟩) (.int .i64 o.id) rfl (wanted_none rfl _) (exec_loadi 3 Try.underlying3 (.tmp 29) ⟨g6, 1, none⟩ (.int .i64 o.id) rfl (hD 3 29 (by kernel_rfl)) (range_int (range_kept HO4.out hk) 1 _ rfl)) rfl) ?_
          refine fsteps_cons 6 rfl (fun a u hE hD hk => f_val (o := ⟨some 31, _, _, _, _, _⟩) (key2 (o.tr) (o.id)) rfl (wanted_none rfl _) (exec_pair (.tmp 28) (.tmp 30) (o.tr) (o.id) rfl (hD 2 28 (by kernel_rfl)) (hD 4 30 (by kernel_rfl))) rfl) ?_
          refine fsteps_cons 7 rfl (fun a u hE hD hk => f_val (o := ⟨some 32, _, _, _, _, _⟩) (.bool false) rfl (wanted_none rfl _) (exec_lookb false (.tmp 26) (.tmp 31) b K o.tr o.id rfl (hD 0 26 (by kernel_rfl)) (hD 5 31 (by kernel_rfl)) HWF.out.1 HWF.out.2 (HM4.out.kept hk) (decide_eq_false hmem)) rfl) ?_
          refine fsteps_cons 8 rfl (fun a u hE hD hk => f_val (o := ⟨some 33, _, _, _, _, _⟩) (.bool true) rfl (wanted_none rfl _) (exec_not _ (.tmp 32) false rfl (hD 6 32 (by kernel_rfl))) rfl) ?_
          exact fsteps_nil
        intro gv w5 hV k5
        rw [show dstsOf _ 8 = [26, 27, 28, 29, 30, 31, 32, 33] by kernel_rfl]
        simp only [List.foldl_cons, List.foldl_nil, List.setIfInBounds_toArray, List.set_cons_succ, List.set_cons_zero, List.drop_succ_cons, List.drop_zero]
        rw [show gv 33 = .bool true from hV 7 33 (by kernel_rfl)]
        clear hV
        refine wpList_nil ?_
        have HD5 : Hid (fillE [] (l.take 20) = (Y ++ [Ent.of o]) ++ fillE (K ++ [(o.tr, o.id)]) ((l.take 20).drop (i + 1))) := by
          show _ = _
          rw [HD.out, HDr.out, (HDr2.out _).2 hmem]
          simp
        have HM5 := Lib.hid (HM4.out.kept k5)
        have HL5 := Lib.hid (HL4.out.kept k5)
        have HO5 := Lib.hid (range_kept HO4.out k5)
        have kw5 := kw4.trans k5
        have z5 := k5.size
        clear HM4 HL4 kw4 k5 HO4 HDr2
        go_upto_region 10 with fail
        refine wp_text 6 [.eq (.map (some b)), .eq (.pointer (some ⟨g6, 0, none⟩)), .eq (.int .i64 o.tr), .eq (.pointer (some ⟨g6, 1, none⟩)), .eq (.int .i64 o.id), .eq (key2 (o.tr) (o.id))] rfl (by kernel_rfl) ?_ ?_
        · refine fsteps_cons 1 rfl (fun a u hE hD hk => f_val (o := ⟨some 34, _, _, _, _, _⟩) (.map (some b)) rfl (wanted_none rfl _) (exec_move (.tmp 4) (.map (some b)) rfl (hE 4 (.map (some b)) (by kernel_rfl) (by kernel_rfl))) rfl) ?_
          refine fsteps_cons 2 rfl (fun a u hE hD hk => f_val (o := ⟨some 35, _, _, _, _, _⟩) (.pointer (some ⟨g6, 0, none⟩)) rfl (wanted_none rfl _) (exec_fldo 25 0 0 (.tmp 6) (g6) (0) (0) rfl (hE 6 (.pointer (some ⟨g6, 0, none⟩)) (by kernel_rfl) (by kernel_rfl)) (by kernel_rfl) rfl) rfl) ?_
          refine fsteps_cons 3 rfl (fun a u hE hD hk => f_val (o := ⟨some 36, _, _, _, _, _⟩) (.int .i64 o.tr) rfl (wanted_none rfl _) (exec_loadi 3 Try.underlying3 (.tmp 35) ⟨g6, 0, none⟩ (.int .i64 o.tr) rfl (hD 1 35 (by kernel_rfl)) (range_int (range_kept HO5.out hk) 0 _ rfl)) rfl) ?_
          refine fsteps_cons 4 rfl (fun a u hE hD hk => f_val (o := ⟨some 37, _, _, _, _, _⟩) (.pointer (some ⟨g6, 1, none⟩)) rfl (wanted_none rfl _) (exec_fldo 25 1 1 (.tmp 6) (g6) (0) (1) rfl (hE 6 (.pointer (some ⟨g6, 0, none⟩)) (by kernel_rfl) (by kernel_rfl)) (by kernel_rfl) rfl) rfl) ?_
          refine fsteps_cons 5 rfl (fun a u hE hD hk => f_val (o := ⟨some 38, _, _, _, _, _⟩) (.int .i64 o.id) rfl (wanted_none rfl _) (exec_loadi 3 Try.underlying3 (.tmp 37) ⟨g6, 1, none⟩ (.int .i64 o.id) rfl (hD 3 37 (by kernel_rfl)) (range_int (range_kept HO5.out hk) 1 _ rfl)) rfl) ?_
          refine fsteps_cons 6 rfl (fun a u hE hD hk => f_val (o := ⟨some 39, _, _, _, _, _⟩) (key2 (o.tr) (o.id)) rfl (wanted_none rfl _) (exec_pair (.tmp 36) (.tmp 38) (o.tr) (o.id) rfl (hD 2 36 (by kernel_rfl)) (hD 4 38 (by kernel_rfl))) rfl) ?_
          exact fsteps_nil
        intro gv w6 hV k6
        rw [show dstsOf _ 6 = [34, 35, 36, 37, 38, 39] by kernel_rfl]
        simp only [List.foldl_cons, List.foldl_nil, List.setIfInBounds_toArray, List.set_cons_succ, List.set_cons_zero, List.drop_succ_cons, List.drop_zero]
        rw [show gv 34 = .map (some b) from hV 0 34 (by kernel_rfl)]
        rw [show gv 39 = key2 (o.tr) (o.id) from hV 5 39 (by kernel_rfl)]
        clear hV
        refine l_mput (o := ⟨none, _, _, _, _, _⟩) (.tmp 34) (.tmp 39) (.const (.bool true)) b K o.tr o.id rfl rfl (by kernel_rfl) (by kernel_rfl) rfl HWF.out.1 HWF.out.2 (HM5.out.kept k6) hmem ?_
        intro w7 hM7 hk7 hs7
        simp only [Act.put]
        refine wpList_nil ?_
        have K7 : Keep (· = b) w5 w7 := (Keep.mono (T := (· = b)) k6 (fun _ _ h => h.elim)).trans hk7 (fun _ _ h => h)
        have HM7 := Lib.hid hM7
        have HL7 := Lib.hid (HL5.out.keep K7 (fun x hx e => HNb.out (by rw [← e]; exact hx)))
        have HO7 := Lib.hid (range_keep HO5.out K7 (by omega))
        have kw7 : Kept w w7 := kw5.trans' K7 (by omega)
        have z7 := K7.size
        clear hM7 hk7 K7 HM5 HL5 HO5 k6 kw5 HWF hmem
        go_upto_region 11 with fail
        refine wp_text 2 [.eq (.pointer (some ⟨p, 0, none⟩)), .eq (o.v)] rfl (by kernel_rfl) ?_ ?_
        · refine fsteps_cons 1 rfl (fun a u hE hD hk => f_val (o := ⟨some 40, _, _, _, _, _⟩) (.pointer (some ⟨p, 0, none⟩)) rfl (wanted_none rfl _) (exec_move (.tmp 3) (.pointer (some ⟨p, 0, none⟩)) rfl (hE 3 (.pointer (some ⟨p, 0, none⟩)) (by kernel_rfl) (by kernel_rfl))) rfl) ?_
          refine fsteps_cons 2 rfl (fun a u hE hD hk => f_val (o := ⟨some 41, _, _, _, _, _⟩) (o.v) rfl (wanted_none rfl _) (exec_ldS 25 _ (.tmp 6) (g6) (0) (o.cells) rfl (hE 6 (.pointer (some ⟨g6, 0, none⟩)) (by kernel_rfl) (by kernel_rfl)) (range_kept HO7.out hk) Try.underlying25 (by rw [o.len9]; exact ord_size)) rfl) ?_
          exact fsteps_nil
        intro gv w8 hV k8
        rw [show dstsOf _ 2 = [40, 41] by kernel_rfl]
        simp only [List.foldl_cons, List.foldl_nil, List.setIfInBounds_toArray, List.set_cons_succ, List.set_cons_zero, List.drop_succ_cons, List.drop_zero]
        rw [show gv 40 = .pointer (some ⟨p, 0, none⟩) from hV 0 40 (by kernel_rfl)]
        rw [show gv 41 = o.v from hV 1 41 (by kernel_rfl)]
        clear hV
        refine l_call (o := ⟨some 42, _, _, _, _, _⟩) 10 #[.pointer (some ⟨p, 0, none⟩), o.v] rfl (exec_call 10 _ [.tmp 40, .tmp 41] _ _ Try.func10 (by kernel_rfl) (by kernel_rfl) rfl (by kernel_rfl) _) ?_
        refine (add_any w8 F' p Y o (HL7.out.kept k8) (by have := HYl.out; omega)).mono ?_
        rintro r w9 ⟨F9, rfl, hL9, hG9, hk9⟩
        refine ⟨_, rfl, ?_⟩
        simp only [Act.put, List.setIfInBounds_toArray, List.set_cons_succ, List.set_cons_zero]
        refine wpList_nil ?_
        have z8 := k8.size
        have z9 := hk9.size
        have HGlt : Hid (∀ x, F' x → w.heap.size ≤ x) := fun x hx => (HGr.out x hx).elim (fun h => h.elim) id
        have HM9 := Lib.hid ((HM7.out.kept k8).keep hk9 HNb.out)
        have HL9 := Lib.hid hL9
        have HG9 : Hid (Grow w (fun _ => False) F9) := fun x hx => by
          rcases hG9 x hx with h | h
          · exact HGr.out x h
          · exact .inr (by omega)
        have HN9 : Hid (¬ F9 b) := fun h => by
          rcases hG9 b h with h | h
          · exact HNb.out h
          · omega
        have kw9 : Kept w w9 := Keep.trans (kw7.trans k8) hk9 (fun x hx h => by have := HGlt.out x h; omega)
        have HY9 : Hid ((Y ++ [Ent.of o]).length ≤ i + 1) := by
          show _ ≤ _
          have := HYl.out
          simp
          omega
        clear hL9 hG9 hk9 HM7 HL7 kw7 k8 HGlt HO7
        go_wp2
        exact ⟨⟨i + 1, K ++ [(o.tr, o.id)], Y ++ [Ent.of o], F9, by go_num, by omega, by omega, HM9, HL9, HG9, HN9, HY9, kw9, by omega, HD5⟩, by simp [intOf]; omega⟩
    · have HF : Hid (fillE [] (l.take 20) = Y) := by
        show _ = _
        rw [HD.out, List.drop_of_length_le (by rw [List.length_take, HN.out]; omega)]
        simp [fillE, fillM]
      clear HD
      by_cases h1 : i < n
      · have h2 : i = 20 := by omega
        subst h2
        clear hlt
        go_wp2
        go_ret
        refine ⟨p, F', rfl, ?_, HGr.out, hkr⟩
        rw [HF.out]
        exact HLr.out
      · clear hlt
        go_wp2
        go_ret
        refine ⟨p, F', rfl, ?_, HGr.out, hkr⟩
        rw [HF.out]
        exact HLr.out
end Go.Proofs.Ytlbkehpdohihlaa
