/-
 Asks of chapter 10's statements: their cells; a slice of them among the arguments; the order made of one (jobberkeep.Order). No condition.
-/
import Derived.Test.YtfpfpmhkkgfdbaaQR05
set_option linter.unusedVariables false
namespace Go.Proofs.Ytfpfpmhkkgfdbaa
open Go.RowKit Go.ChangeShapes Go.WideShapes Go.ChangeAt
set_option maxRecDepth 100000
def Args {α : Type} (k : Nat) (cl : α → List Value) (ok : α → Prop) (W : World) (v : Value) (l : List α) : Prop := ∃ A n c, v = .slice A n c ∧ l.length = n ∧ (∀ q ∈ l, ok q) ∧ n ≤ maxLen ∧ ∀ i q, l[i]? = some q → ∃ b o, A = some ⟨b, o, none⟩ ∧ W.rangeAt b (o + i * k) (cl q)
theorem open_args {α H : Type} [Inhabited α] {enc : TypeId × Value → H} {W : World} {b0 : Nat} {v : Value} {d : DataW H} {p : List MemPlace} {t T : TypeId} (k : Nat) (cl : α → List Value) (ok : α → Prop) (hu : Try.prog.underlying t = some (.slice T)) (hs : Try.prog.cellsOf T = k) (hk : 0 < k)
  (hsh : ∀ (fuel : Nat) (cs : List Value) (x : DataW H × List MemPlace), DataW.trod enc Try.prog W 0 (fun _ => true) true fuel T cs = some x → ∃ q : α, cs = cl q ∧ ok q)
  (hv : Value.okWide Try.prog W .any b0 t v) (h : DataW.Trod enc Try.prog W 0 (fun _ => true) true t v d p) : ∃ l, Args k cl ok W v l := by
 obtain ⟨l, A, n, c, rfl, hl, hA, h1, h2⟩ := open_elems (α := α) (fun cs q => cs = cl q ∧ ok q) hu hs hk hsh hv h (k := k)
 refine ⟨l, A, n, c, rfl, hl.out, fun q hq => ?_, by omega, fun i q hq => ?_⟩
 ·obtain ⟨i, hi, rfl⟩ := List.getElem_of_mem hq
  obtain ⟨b, o, cs, _, ⟨_, hw⟩, _⟩ := hA i _ (List.getElem?_eq_getElem hi)
  exact hw
 ·obtain ⟨b, o, cs, rfl, ⟨rfl, _⟩, _, hc⟩ := hA i q hq
  refine ⟨b, o, rfl, fun j v hv => ?_⟩
  rw [Nat.add_assoc]
  exact hc j v hv
structure Kq where
 t : Int
 i : Int
 s : Int
 p : Int
 q : Int
 h : Int
 x : Int
deriving Inhabited
def Kq.l (q : Kq) : List Int := [q.t, q.i, q.s, q.p, q.q, q.h, q.x]
def Kq.cells (q : Kq) : List Value := stc q.l []
def Kq.v (q : Kq) : Value := .agg q.cells.toArray
theorem Kq.len7 (q : Kq) : q.cells.length = 7 := by unfold Kq.cells; rw [stc_len]; rfl
def zeroK : Kq := ⟨0, 0, 0, 0, 0, 0, 0⟩
theorem szK : (Try.prog.info? 48).map (·.size) = some 7 := by kernel_rfl
def Kq.k (q : Kq) : Int := 1 + (wi q.s 0 9).tdiv 2
def Kq.o (q : Kq) : Ord := ⟨wi q.t 0 5, wi q.i 0 15, (wi q.t 0 5).tdiv 2, 1 + wi q.s 0 1, q.k, if q.k = 2 then 0 else wi q.p 95 105, wi q.q 1 12, if q.k = 1 ∨ q.k = 5 then wi q.h 0 (wi q.q 1 12) else 0, 0⟩
theorem tdiv2 (t m : Int) (h0 : 0 ≤ t) (h1 : t ≤ 2 * m + 1) : 0 ≤ t.tdiv 2 ∧ t.tdiv 2 ≤ m := by
 rw [Int.tdiv_eq_ediv_of_nonneg h0]
 omega
def mkK (t i s k p n : Int) : Ord := ⟨t, i, 0, s, k, p, n, 0, 0⟩
theorem builtK (t i s k p n : Int) : Try.prog.built 25 [(0, .int .i64 t), (1, .int .i64 i), (3, .int .i64 s), (4, .int .i64 k), (5, .int .i64 p), (6, .int .i64 n)] = some (mkK t i s k p n).cells.toArray := by kernel_rfl
theorem exec_mkK {a : Act} {o : Oper} {u : World} (x0 x1 x3 x4 x5 x6 : Operand) (t i s k p n : Int) (hop : o.op = .build 25 #[(0, x0), (1, x1), (3, x3), (4, x4), (5, x5), (6, x6)]) (h0 : a.eval x0 = .int .i64 t) (h1 : a.eval x1 = .int .i64 i) (h3 : a.eval x3 = .int .i64 s) (h4 : a.eval x4 = .int .i64 k) (h5 : a.eval x5 = .int .i64 p) (h6 : a.eval x6 = .int .i64 n) : (execOp a.eval o).run Try.prog u = .ok (.value (mkK t i s k p n).v) u :=
 exec_build _ [(0, x0), (1, x1), (3, x3), (4, x4), (5, x5), (6, x6)] (mkK t i s k p n).cells hop (by
  simp only [List.map_cons, List.map_nil, h0, h1, h3, h4, h5, h6]
  exact builtK t i s k p n)
set_option maxRecDepth 100000 in
set_option maxHeartbeats 1600000 in
theorem korder_any (q : Kq) (w : World) : Gives 22 #[q.v] w (.eq q.o.v) := by
 refine gives_eq ?_
 have HQ : Hid (∀ t i d s k p n h, t = wi q.t 0 5 → i = wi q.i 0 15 → d = (wi q.t 0 5).tdiv 2 → s = wi q.s 0 1 → k = q.k → p = wi q.p 95 105 → n = wi q.q 1 12 → h = wi q.h 0 n → q.o = Ord.mk t i d (1 + s) k (if k = 2 then 0 else p) n (if k = 1 ∨ k = 5 then h else 0) 0) := by
  intro t i d s k p n h h1 h2 h3 h4 h5 h6 h7 h8
  subst h1 h2 h3 h4 h5 h6 h7 h8
  rfl
 obtain ⟨t, ht⟩ : ∃ t, wi q.t 0 5 = t := ⟨_, rfl⟩
 obtain ⟨i, hi⟩ : ∃ i, wi q.i 0 15 = i := ⟨_, rfl⟩
 obtain ⟨s, hs⟩ : ∃ s, wi q.s 0 1 = s := ⟨_, rfl⟩
 obtain ⟨r, hr⟩ : ∃ r, wi q.s 0 9 = r := ⟨_, rfl⟩
 obtain ⟨e, he⟩ : ∃ e, r.tdiv 2 = e := ⟨_, rfl⟩
 obtain ⟨p, hp⟩ : ∃ p, wi q.p 95 105 = p := ⟨_, rfl⟩
 obtain ⟨n, hn⟩ : ∃ n, wi q.q 1 12 = n := ⟨_, rfl⟩
 obtain ⟨h, hh⟩ : ∃ h, wi q.h 0 n = h := ⟨_, rfl⟩
 obtain ⟨d, hd⟩ : ∃ d, t.tdiv 2 = d := ⟨_, rfl⟩
 have ht1 := wi_in q.t 0 5 (by omega)
 have hs1 := wi_in q.s 0 1 (by omega)
 have hr1 := wi_in q.s 0 9 (by omega)
 have hn1 := wi_in q.q 1 12 (by omega)
 rw [ht] at ht1
 rw [hs] at hs1
 rw [hr] at hr1
 rw [hn] at hn1
 have he1 := tdiv2 r 4 hr1.1 (by omega)
 have hd1 := tdiv2 t 2 ht1.1 (by omega)
 rw [he] at he1
 rw [hd] at hd1
 have HK : Hid (q.k = 1 + e) := by show q.k = _; unfold Kq.k; rw [hr, he]
 have HT := Lib.hid ht
 have HI := Lib.hid hi
 have HS := Lib.hid hs
 have HR := Lib.hid hr
 have HE := Lib.hid he
 have HP := Lib.hid hp
 have HN := Lib.hid hn
 have HH := Lib.hid hh
 have HD := Lib.hid hd
 have HQ2 : Hid (q.o = Ord.mk t i d (1 + s) (1 + e) (if 1 + e = 2 then 0 else p) n (if 1 + e = 1 ∨ 1 + e = 5 then h else 0) 0) := HQ.out t i d s (1 + e) p n h ht.symm hi.symm (by rw [ht, hd]) hs.symm HK.out.symm hp.symm hn.symm hh.symm
 clear ht hi hs hr he hp hn hh hd HQ HK
 go_enter Try.func22, Try.ntmps22
 go_upto_region 0 with fail
 refine wp_text 2 [.fresh w.heap.size 48 (q.cells), .fresh w.heap.size 25 zeroO.cells] rfl (by kernel_rfl) ?_ ?_
 ·refine nW 1 rfl (fun a u E D hk=>⟨_, _, exec_box 48 _ (q.cells) rfl (eE E), ⟨_, rfl, hk.size, Blk.new u _ _⟩, ((Keep.refl _ u).alloc _)⟩) ?_
  refine nW 2 rfl (fun a u E D hk=>⟨_, _, exec_alc 25 zeroO.cells rfl zO, ⟨_, rfl, hk.size, Blk.new u _ _⟩, ((Keep.refl _ u).alloc _)⟩) ?_
  exact fz
 intro gv w0 hV k0
 rw [dq 2 [1,2]]
 simp only [F7]
 have hv1 : (.fresh w.heap.size 48 (q.cells) : Kn).p (gv 1) w0 := hV 0 1 (by kernel_rfl)
 generalize gv 1 = v1 at hv1 ⊢
 have hv2 : (.fresh w.heap.size 25 zeroO.cells : Kn).p (gv 2) w0 := hV 1 2 (by kernel_rfl)
 generalize gv 2 = v2 at hv2 ⊢
 clear hV
 obtain ⟨g1, rfl, hg1, hB1⟩ := hv1
 obtain ⟨g2, rfl, hg2, hB2⟩ := hv2
 have hne : g1 ≠ g2 := fun e => by subst e; unfold Blk at hB1 hB2; rw [hB1] at hB2; injection hB2 with hB2; injection hB2 with _ hB2; revert hB2; decide
 refine wpList_nil ?_
 have HA := Lib.hid (blk_range hB1)
 have HB2 := Lib.hid hB2
 have l1 := hB1.lt
 have l2 := hB2.lt
 clear hB1 hB2
 go_upto_region 1 with fail
 refine wp_free 23 [pE g1 0, iE q.t, iE t, pE g1 1, iE q.i, iE i, pE g1 2, iE q.s, iE s, iE (1 + s), pE g1 2, iE q.s, iE r, iE e, iE (1 + e), pE g1 3, iE q.p, iE p, pE g1 4, iE q.q, iE n, .eq ((mkK t i (1 + s) (1 + e) p n).v), .fresh w0.heap.size 25 zeroO.cells] (by kernel_rfl) rfl (by kernel_rfl) ?_ ?_
 ·refine fE 1 1 48 0 0 0 ?_
  refine sW 2 rfl (fun a u E D hk=>exec_loadi _ Try.underlying3 _ _ _ rfl (dD D 0) (range_int (range_kept HA.out hk) 0 _ rfl)) ?_
  refine cS 3 38 [.int .i64 q.t, .int .i64 0, .int .i64 5] rfl Try.func38 rfl (fun a u E D hk=>⟨ll (dD D 1) (ll rfl (ll rfl rfl)), (by rw [← HT.out]; exact within_is q.t 0 5 u (by omega) (by omega) (by omega))⟩) ?_
  refine fE 4 1 48 1 1 0 ?_
  refine sW 5 rfl (fun a u E D hk=>exec_loadi _ Try.underlying3 _ _ _ rfl (dD D 3) (range_int (range_kept HA.out hk) 1 _ rfl)) ?_
  refine cS 6 38 [.int .i64 q.i, .int .i64 0, .int .i64 15] rfl Try.func38 rfl (fun a u E D hk=>⟨ll (dD D 4) (ll rfl (ll rfl rfl)), (by rw [← HI.out]; exact within_is q.i 0 15 u (by omega) (by omega) (by omega))⟩) ?_
  refine fE 7 1 48 2 2 0 ?_
  refine sW 8 rfl (fun a u E D hk=>exec_loadi _ Try.underlying3 _ _ _ rfl (dD D 6) (range_int (range_kept HA.out hk) 2 _ rfl)) ?_
  refine cS 9 38 [.int .i64 q.s, .int .i64 0, .int .i64 1] rfl Try.func38 rfl (fun a u E D hk=>⟨ll (dD D 7) (ll rfl (ll rfl rfl)), (by rw [← HS.out]; exact within_is q.s 0 1 u (by omega) (by omega) (by omega))⟩) ?_
  refine sW 10 rfl (fun a u E D hk=>exec_addn (1 + s) rfl rfl (dD D 8) rfl (by omega) (by omega)) ?_
  refine fE 11 1 48 2 2 0 ?_
  refine sW 12 rfl (fun a u E D hk=>exec_loadi _ Try.underlying3 _ _ _ rfl (dD D 10) (range_int (range_kept HA.out hk) 2 _ rfl)) ?_
  refine cS 13 38 [.int .i64 q.s, .int .i64 0, .int .i64 9] rfl Try.func38 rfl (fun a u E D hk=>⟨ll (dD D 11) (ll rfl (ll rfl rfl)), (by rw [← HR.out]; exact within_is q.s 0 9 u (by omega) (by omega) (by omega))⟩) ?_
  refine sW 14 rfl (fun a u E D hk=>exec_quon e rfl (dD D 12) rfl (by decide) HE.out (by omega) (by omega)) ?_
  refine sW 15 rfl (fun a u E D hk=>exec_addn (1 + e) rfl rfl (dD D 13) rfl (by omega) (by omega)) ?_
  refine fE 16 1 48 3 3 0 ?_
  refine sW 17 rfl (fun a u E D hk=>exec_loadi _ Try.underlying3 _ _ _ rfl (dD D 15) (range_int (range_kept HA.out hk) 3 _ rfl)) ?_
  refine cS 18 38 [.int .i64 q.p, .int .i64 95, .int .i64 105] rfl Try.func38 rfl (fun a u E D hk=>⟨ll (dD D 16) (ll rfl (ll rfl rfl)), (by rw [← HP.out]; exact within_is q.p 95 105 u (by omega) (by omega) (by omega))⟩) ?_
  refine fE 19 1 48 4 4 0 ?_
  refine sW 20 rfl (fun a u E D hk=>exec_loadi _ Try.underlying3 _ _ _ rfl (dD D 18) (range_int (range_kept HA.out hk) 4 _ rfl)) ?_
  refine cS 21 38 [.int .i64 q.q, .int .i64 1, .int .i64 12] rfl Try.func38 rfl (fun a u E D hk=>⟨ll (dD D 19) (ll rfl (ll rfl rfl)), (by rw [← HN.out]; exact within_is q.q 1 12 u (by omega) (by omega) (by omega))⟩) ?_
  refine sW 22 rfl (fun a u E D hk=>exec_mkK _ _ _ _ _ _ t i (1 + s) (1 + e) p n rfl (dD D 2) (dD D 5) (dD D 9) (dD D 14) (dD D 17) (dD D 20)) ?_
  refine nW 23 rfl (fun a u E D hk=>⟨_, _, exec_alc 25 zeroO.cells rfl zO, ⟨_, rfl, hk.size, Blk.new u _ _⟩, ((Keep.refl _ u).alloc _)⟩) ?_
  exact fz
 intro gv w1 hV k1
 rw [dq 23 [4,5,6,7,8,9,10,11,12,13,14,15,16,17,18,19,20,21,22,23,24,25,3]]
 simp only [F7]
 have hv3 : (.fresh w0.heap.size 25 zeroO.cells : Kn).p (gv 3) w1 := hV 22 3 (by kernel_rfl)
 generalize gv 3 = v3 at hv3 ⊢
 rw [gQ hV 21 25 ((mkK t i (1 + s) (1 + e) p n).v)]
 clear hV
 obtain ⟨g3, rfl, hg3, hB3⟩ := hv3
 refine l_setS 25 g3 25 zeroO.cells (mkK t i (1 + s) (1 + e) p n).cells _ _ rfl rfl (by kernel_rfl) (by kernel_rfl) hB3 (by rw [Ord.len9]; exact ord_size) (by rw [Ord.len9, Ord.len9]) (Ord.one1 _) ?_
 intro w2 hC2 hk2 hs2
 simp only [Act.put]
 refine wpList_nil ?_
 have k02 : Kept w0 w2 := k1.trans' hk2 (by omega)
 have HA2 := Lib.hid (range_kept HA.out k02)
 have HB4 := Lib.hid (HB2.out.kept k02)
 have kw2 := k0.trans k02
 have HC2 := Lib.hid hC2
 have HC2r := Lib.hid (blk_range hC2)
 have z2 := k02.size
 clear hB3 hC2 hk2 k1 HA HB2 k02 hs2
 go_upto_region 2 with fail
 refine wp_text 4 [pE g3 0, iE t, iE d, pE g3 2] rfl (by kernel_rfl) ?_ ?_
 ·refine fE 1 3 25 0 0 0 ?_
  refine sW 2 rfl (fun a u E D hk=>exec_loadi _ Try.underlying3 _ _ _ rfl (dD D 0) (range_int (range_kept HC2r.out hk) 0 _ rfl)) ?_
  refine sW 3 rfl (fun a u E D hk=>exec_quon d rfl (dD D 1) rfl (by decide) HD.out (by omega) (by omega)) ?_
  refine fE 4 3 25 2 2 0 ?_
  exact fz
 intro gv w3 hV k3
 rw [dq 4 [26,27,28,29]]
 simp only [F7]
 rw [gQ hV 3 29 (.pointer (some ⟨g3, 2, none⟩))]
 rw [gQ hV 2 28 (.int .i64 d)]
 clear hV
 refine l_st1 3 g3 2 25 _ (.int .i64 d) _ _ rfl rfl (by kernel_rfl) (by kernel_rfl) (by kernel_rfl) rfl rfl (HC2.out.kept k3) (by rw [Ord.len9]; omega) ?_
 intro w4 hC4 hk4 hs4
 simp only [Act.put]
 refine wpList_nil ?_
 have K4 : Keep (· = g3) w2 w4 := (Keep.mono (T := (· = g3)) k3 (fun _ _ h => h.elim)).trans hk4 (fun _ _ h => h)
 have HC4 : Hid (Blk w4 g3 25 (Ord.mk t i d (1 + s) (1 + e) p n 0 0).cells) := hC4
 have HC4r := Lib.hid (blk_range HC4.out)
 have HA4 := Lib.hid (range_keep HA2.out K4 (by omega))
 have HB5 := Lib.hid (HB4.out.keep K4 (by omega))
 have kw4 : Kept w w4 := kw2.trans' K4 (by omega)
 clear hC4 hk4 K4 HA2 HB4 HC2 HC2r k3 kw2
 go_upto_region 3 with fail
 refine wp_text 2 [pE g3 4, iE (1 + e)] rfl (by kernel_rfl) ?_ ?_
 ·refine fE 1 3 25 4 4 0 ?_
  refine sW 2 rfl (fun a u E D hk=>exec_loadi _ Try.underlying3 _ _ _ rfl (dD D 0) (range_int (range_kept HC4r.out hk) 4 _ rfl)) ?_
  exact fz
 intro gv w5 hV k5
 rw [dq 2 [30,31]]
 simp only [F7]
 rw [gQ hV 1 31 (.int .i64 (1 + e))]
 clear hV
 refine wpList_nil ?_
 have HC5 := Lib.hid (HC4.out.kept k5)
 have HC5r := Lib.hid (blk_range HC5.out)
 have HA5 := Lib.hid (range_kept HA4.out k5)
 have HB6 := Lib.hid (HB5.out.kept k5)
 have kw5 := kw4.trans k5
 have z5 := k5.size
 clear HC4 HC4r HA4 HB5 kw4 k5
 have HBX5 := Lib.hid HB6.out
 clear HB6
 by_cases hk1 : 1 + e = 1
 ·go_upto_region 4 with fail
  refine wp_text 2 [bE true, bE true] rfl (by kernel_rfl) ?_ ?_
  ·refine aS 1 rfl (fun a u E D hk=>exec_eqn (p := (1 + e)) (q := 1) rfl (eE E) rfl) (decide_eq_true hk1) ?_
   refine mD 2 33 0 ?_
   exact fz
  intro gv w6 hV k6
  rw [dq 2 [33,32]]
  simp only [F7]
  rw [gQ hV 1 32 (.bool true)]
  clear hV
  refine wpList_nil ?_
  have HC6 := Lib.hid (HC5.out.kept k6)
  have HC6r := Lib.hid (blk_range HC6.out)
  have HA6 := Lib.hid (range_kept HA5.out k6)
  have HBX6 := Lib.hid (HBX5.out.kept k6)
  have kw6 := kw5.trans k6
  have z6 := k6.size
  clear HC5 HC5r HA5 HBX5 kw5 k6
  go_upto_region 6 with fail
  refine wp_text 6 [pE g1 5, iE q.h, pE g3 6, iE n, iE h, pE g3 7] rfl (by kernel_rfl) ?_ ?_
  ·refine fE 1 1 48 5 5 0 ?_
   refine sW 2 rfl (fun a u E D hk=>exec_loadi _ Try.underlying3 _ _ _ rfl (dD D 0) (range_int (range_kept HA6.out hk) 5 _ rfl)) ?_
   refine fE 3 3 25 6 6 0 ?_
   refine sW 4 rfl (fun a u E D hk=>exec_loadi _ Try.underlying3 _ _ _ rfl (dD D 2) (range_int (range_kept HC6r.out hk) 6 _ rfl)) ?_
   refine cS 5 38 [.int .i64 q.h, .int .i64 0, .int .i64 n] rfl Try.func38 rfl (fun a u E D hk=>⟨ll (dD D 1) (ll rfl (ll (dD D 3) rfl)), (by rw [← HH.out]; exact within_is q.h 0 n u (by omega) (by omega) (by omega))⟩) ?_
   refine fE 6 3 25 7 7 0 ?_
   exact fz
  intro gv w7a hV k7a
  rw [dq 6 [35,36,37,38,39,40]]
  simp only [F7]
  rw [gQ hV 5 40 (.pointer (some ⟨g3, 7, none⟩))]
  rw [gQ hV 4 39 (.int .i64 h)]
  clear hV
  refine l_st1 3 g3 7 25 _ (.int .i64 h) _ _ rfl rfl (by kernel_rfl) (by kernel_rfl) (by kernel_rfl) rfl rfl (HC6.out.kept k7a) (by rw [Ord.len9]; omega) ?_
  intro w7 hC7 hk7 hs7
  simp only [Act.put]
  refine wpList_nil ?_
  have K7 : Keep (· = g3) w6 w7 := (Keep.mono (T := (· = g3)) k7a (fun _ _ h => h.elim)).trans hk7 (fun _ _ h => h)
  have HC7 : Hid (Blk w7 g3 25 (Ord.mk t i d (1 + s) (1 + e) p n h 0).cells) := hC7
  have HC7r := Lib.hid (blk_range HC7.out)
  have HA7 := Lib.hid (range_keep HA6.out K7 (by omega))
  have HBX7 := Lib.hid (HBX6.out.keep K7 (by omega))
  have kw7 : Kept w w7 := kw6.trans' K7 (by omega)
  have z7 := K7.size
  clear hC7 hk7 K7 HA6 HBX6 HC6 HC6r k7a kw6
  go_upto_region 9 with fail
  refine wp_text 1 [.eq ((Ord.mk t i d (1 + s) (1 + e) p n h 0).v)] rfl (by kernel_rfl) ?_ ?_
  ·refine sW 1 rfl (fun a u E D hk=>exec_ldS 25 _ _ (g3) (0) ((Ord.mk t i d (1 + s) (1 + e) p n h 0).cells) rfl (eE E) (range_kept HC7r.out hk) Try.underlying25 (by rw [(Ord.mk t i d (1 + s) (1 + e) p n h 0).len9]; exact ord_size)) ?_
   exact fz
  intro gv w8 hV k8
  rw [dq 1 [44]]
  simp only [F7]
  rw [gQ hV 0 44 ((Ord.mk t i d (1 + s) (1 + e) p n h 0).v)]
  clear hV
  refine l_setS 25 g2 25 zeroO.cells (Ord.mk t i d (1 + s) (1 + e) p n h 0).cells _ _ rfl rfl (by kernel_rfl) (by kernel_rfl) (HBX7.out.kept k8) (by rw [Ord.len9]; exact ord_size) (by rw [Ord.len9, Ord.len9]) (Ord.one1 _) ?_
  intro wz hCz hkz hsz
  simp only [Act.put]
  refine wpList_nil ?_
  go_wp2
  refine bodyPost_ret (results_cell (p := 2) rfl _ _ g2 _ (Ord.mk t i d (1 + s) (1 + e) p n h 0).cells rfl hCz Try.underlying25 (by rw [Ord.len9]; exact ord_size)) rfl ?_
  refine ⟨?_, (kw7.trans k8).trans' hkz (by omega)⟩
  rw [HQ2.out, if_neg (by omega), if_pos (.inl hk1)]
  rfl
 ·go_upto_region 4 with fail
  refine wp_text 2 [bE false, bE false] rfl (by kernel_rfl) ?_ ?_
  ·refine aS 1 rfl (fun a u E D hk=>exec_eqn (p := (1 + e)) (q := 1) rfl (eE E) rfl) (decide_eq_false hk1) ?_
   refine mD 2 33 0 ?_
   exact fz
  intro gv w6 hV k6
  rw [dq 2 [33,32]]
  simp only [F7]
  rw [gQ hV 1 32 (.bool false)]
  clear hV
  refine wpList_nil ?_
  have HC6 := Lib.hid (HC5.out.kept k6)
  have HC6r := Lib.hid (blk_range HC6.out)
  have HA6 := Lib.hid (range_kept HA5.out k6)
  have HBX6 := Lib.hid (HBX5.out.kept k6)
  have kw6 := kw5.trans k6
  have z6 := k6.size
  clear HC5 HC5r HA5 HBX5 kw5 k6
  by_cases hk5 : 1 + e = 5
  ·go_upto_region 5 with fail
   refine wp_text 2 [bE true, bE true] rfl (by kernel_rfl) ?_ ?_
   ·refine aS 1 rfl (fun a u E D hk=>exec_eqn (p := (1 + e)) (q := 5) rfl (eE E) rfl) (decide_eq_true hk5) ?_
    refine mD 2 34 0 ?_
    exact fz
   intro gv w7 hV k7
   rw [dq 2 [34,32]]
   simp only [F7]
   rw [gQ hV 1 32 (.bool true)]
   clear hV
   refine wpList_nil ?_
   have HC7 := Lib.hid (HC6.out.kept k7)
   have HC7r := Lib.hid (blk_range HC7.out)
   have HA7 := Lib.hid (range_kept HA6.out k7)
   have HBX7 := Lib.hid (HBX6.out.kept k7)
   have kw7 := kw6.trans k7
   have z7 := k7.size
   clear HC6 HC6r HA6 HBX6 kw6 k7
   go_upto_region 6 with fail
   refine wp_text 6 [pE g1 5, iE q.h, pE g3 6, iE n, iE h, pE g3 7] rfl (by kernel_rfl) ?_ ?_
   ·refine fE 1 1 48 5 5 0 ?_
    refine sW 2 rfl (fun a u E D hk=>exec_loadi _ Try.underlying3 _ _ _ rfl (dD D 0) (range_int (range_kept HA7.out hk) 5 _ rfl)) ?_
    refine fE 3 3 25 6 6 0 ?_
    refine sW 4 rfl (fun a u E D hk=>exec_loadi _ Try.underlying3 _ _ _ rfl (dD D 2) (range_int (range_kept HC7r.out hk) 6 _ rfl)) ?_
    refine cS 5 38 [.int .i64 q.h, .int .i64 0, .int .i64 n] rfl Try.func38 rfl (fun a u E D hk=>⟨ll (dD D 1) (ll rfl (ll (dD D 3) rfl)), (by rw [← HH.out]; exact within_is q.h 0 n u (by omega) (by omega) (by omega))⟩) ?_
    refine fE 6 3 25 7 7 0 ?_
    exact fz
   intro gv w8a hV k8a
   rw [dq 6 [35,36,37,38,39,40]]
   simp only [F7]
   rw [gQ hV 5 40 (.pointer (some ⟨g3, 7, none⟩))]
   rw [gQ hV 4 39 (.int .i64 h)]
   clear hV
   refine l_st1 3 g3 7 25 _ (.int .i64 h) _ _ rfl rfl (by kernel_rfl) (by kernel_rfl) (by kernel_rfl) rfl rfl (HC7.out.kept k8a) (by rw [Ord.len9]; omega) ?_
   intro w8 hC8 hk8 hs8
   simp only [Act.put]
   refine wpList_nil ?_
   have K8 : Keep (· = g3) w7 w8 := (Keep.mono (T := (· = g3)) k8a (fun _ _ h => h.elim)).trans hk8 (fun _ _ h => h)
   have HC8 : Hid (Blk w8 g3 25 (Ord.mk t i d (1 + s) (1 + e) p n h 0).cells) := hC8
   have HC8r := Lib.hid (blk_range HC8.out)
   have HA8 := Lib.hid (range_keep HA7.out K8 (by omega))
   have HBX8 := Lib.hid (HBX7.out.keep K8 (by omega))
   have kw8 : Kept w w8 := kw7.trans' K8 (by omega)
   have z8 := K8.size
   clear hC8 hk8 K8 HA7 HBX7 HC7 HC7r k8a kw7
   go_upto_region 9 with fail
   refine wp_text 1 [.eq ((Ord.mk t i d (1 + s) (1 + e) p n h 0).v)] rfl (by kernel_rfl) ?_ ?_
   ·refine sW 1 rfl (fun a u E D hk=>exec_ldS 25 _ _ (g3) (0) ((Ord.mk t i d (1 + s) (1 + e) p n h 0).cells) rfl (eE E) (range_kept HC8r.out hk) Try.underlying25 (by rw [(Ord.mk t i d (1 + s) (1 + e) p n h 0).len9]; exact ord_size)) ?_
    exact fz
   intro gv w9 hV k9
   rw [dq 1 [44]]
   simp only [F7]
   rw [gQ hV 0 44 ((Ord.mk t i d (1 + s) (1 + e) p n h 0).v)]
   clear hV
   refine l_setS 25 g2 25 zeroO.cells (Ord.mk t i d (1 + s) (1 + e) p n h 0).cells _ _ rfl rfl (by kernel_rfl) (by kernel_rfl) (HBX8.out.kept k9) (by rw [Ord.len9]; exact ord_size) (by rw [Ord.len9, Ord.len9]) (Ord.one1 _) ?_
   intro wz hCz hkz hsz
   simp only [Act.put]
   refine wpList_nil ?_
   go_wp2
   refine bodyPost_ret (results_cell (p := 2) rfl _ _ g2 _ (Ord.mk t i d (1 + s) (1 + e) p n h 0).cells rfl hCz Try.underlying25 (by rw [Ord.len9]; exact ord_size)) rfl ?_
   refine ⟨?_, (kw8.trans k9).trans' hkz (by omega)⟩
   rw [HQ2.out, if_neg (by omega), if_pos (.inr hk5)]
   rfl
  ·go_upto_region 5 with fail
   refine wp_text 2 [bE false, bE false] rfl (by kernel_rfl) ?_ ?_
   ·refine aS 1 rfl (fun a u E D hk=>exec_eqn (p := (1 + e)) (q := 5) rfl (eE E) rfl) (decide_eq_false hk5) ?_
    refine mD 2 34 0 ?_
    exact fz
   intro gv w7 hV k7
   rw [dq 2 [34,32]]
   simp only [F7]
   rw [gQ hV 1 32 (.bool false)]
   clear hV
   refine wpList_nil ?_
   have HC7 := Lib.hid (HC6.out.kept k7)
   have HC7r := Lib.hid (blk_range HC7.out)
   have HA7 := Lib.hid (range_kept HA6.out k7)
   have HBX7 := Lib.hid (HBX6.out.kept k7)
   have kw7 := kw6.trans k7
   have z7 := k7.size
   clear HC6 HC6r HA6 HBX6 kw6 k7
   by_cases hk2 : 1 + e = 2
   ·go_upto_region 7 with fail
    refine wp_text 2 [bE true, bE true] rfl (by kernel_rfl) ?_ ?_
    ·refine aS 1 rfl (fun a u E D hk=>exec_eqn (p := (1 + e)) (q := 2) rfl (eE E) rfl) (decide_eq_true hk2) ?_
     refine mD 2 42 0 ?_
     exact fz
    intro gv w8 hV k8
    rw [dq 2 [42,41]]
    simp only [F7]
    rw [gQ hV 1 41 (.bool true)]
    clear hV
    refine wpList_nil ?_
    have HC8 := Lib.hid (HC7.out.kept k8)
    have HC8r := Lib.hid (blk_range HC8.out)
    have HA8 := Lib.hid (range_kept HA7.out k8)
    have HBX8 := Lib.hid (HBX7.out.kept k8)
    have kw8 := kw7.trans k8
    have z8 := k8.size
    clear HC7 HC7r HA7 HBX7 kw7 k8
    go_upto_region 8 with fail
    refine wp_text 1 [pE g3 5] rfl (by kernel_rfl) ?_ ?_
    ·refine fE 1 3 25 5 5 0 ?_
     exact fz
    intro gv w9a hV k9a
    rw [dq 1 [43]]
    simp only [F7]
    rw [gQ hV 0 43 (.pointer (some ⟨g3, 5, none⟩))]
    clear hV
    refine l_st1 3 g3 5 25 _ (.int .i64 0) _ (.const (.int .i64 0)) rfl rfl (by kernel_rfl) (by kernel_rfl) rfl rfl rfl (HC8.out.kept k9a) (by rw [Ord.len9]; omega) ?_
    intro w9 hC9 hk9 hs9
    simp only [Act.put]
    refine wpList_nil ?_
    have K9 : Keep (· = g3) w8 w9 := (Keep.mono (T := (· = g3)) k9a (fun _ _ h => h.elim)).trans hk9 (fun _ _ h => h)
    have HC9 : Hid (Blk w9 g3 25 (Ord.mk t i d (1 + s) (1 + e) 0 n 0 0).cells) := hC9
    have HC9r := Lib.hid (blk_range HC9.out)
    have HA9 := Lib.hid (range_keep HA8.out K9 (by omega))
    have HBX9 := Lib.hid (HBX8.out.keep K9 (by omega))
    have kw9 : Kept w w9 := kw8.trans' K9 (by omega)
    have z9 := K9.size
    clear hC9 hk9 K9 HA8 HBX8 HC8 HC8r k9a kw8
    go_upto_region 9 with fail
    refine wp_text 1 [.eq ((Ord.mk t i d (1 + s) (1 + e) 0 n 0 0).v)] rfl (by kernel_rfl) ?_ ?_
    ·refine sW 1 rfl (fun a u E D hk=>exec_ldS 25 _ _ (g3) (0) ((Ord.mk t i d (1 + s) (1 + e) 0 n 0 0).cells) rfl (eE E) (range_kept HC9r.out hk) Try.underlying25 (by rw [(Ord.mk t i d (1 + s) (1 + e) 0 n 0 0).len9]; exact ord_size)) ?_
     exact fz
    intro gv w10 hV k10
    rw [dq 1 [44]]
    simp only [F7]
    rw [gQ hV 0 44 ((Ord.mk t i d (1 + s) (1 + e) 0 n 0 0).v)]
    clear hV
    refine l_setS 25 g2 25 zeroO.cells (Ord.mk t i d (1 + s) (1 + e) 0 n 0 0).cells _ _ rfl rfl (by kernel_rfl) (by kernel_rfl) (HBX9.out.kept k10) (by rw [Ord.len9]; exact ord_size) (by rw [Ord.len9, Ord.len9]) (Ord.one1 _) ?_
    intro wz hCz hkz hsz
    simp only [Act.put]
    refine wpList_nil ?_
    go_wp2
    refine bodyPost_ret (results_cell (p := 2) rfl _ _ g2 _ (Ord.mk t i d (1 + s) (1 + e) 0 n 0 0).cells rfl hCz Try.underlying25 (by rw [Ord.len9]; exact ord_size)) rfl ?_
    refine ⟨?_, (kw9.trans k10).trans' hkz (by omega)⟩
    rw [HQ2.out, if_pos hk2, if_neg (by omega)]
    rfl
   ·go_upto_region 7 with fail
    refine wp_text 2 [bE false, bE false] rfl (by kernel_rfl) ?_ ?_
    ·refine aS 1 rfl (fun a u E D hk=>exec_eqn (p := (1 + e)) (q := 2) rfl (eE E) rfl) (decide_eq_false hk2) ?_
     refine mD 2 42 0 ?_
     exact fz
    intro gv w8 hV k8
    rw [dq 2 [42,41]]
    simp only [F7]
    rw [gQ hV 1 41 (.bool false)]
    clear hV
    refine wpList_nil ?_
    have HC8 := Lib.hid (HC7.out.kept k8)
    have HC8r := Lib.hid (blk_range HC8.out)
    have HA8 := Lib.hid (range_kept HA7.out k8)
    have HBX8 := Lib.hid (HBX7.out.kept k8)
    have kw8 := kw7.trans k8
    have z8 := k8.size
    clear HC7 HC7r HA7 HBX7 kw7 k8
    go_upto_region 9 with fail
    refine wp_text 1 [.eq ((Ord.mk t i d (1 + s) (1 + e) p n 0 0).v)] rfl (by kernel_rfl) ?_ ?_
    ·refine sW 1 rfl (fun a u E D hk=>exec_ldS 25 _ _ (g3) (0) ((Ord.mk t i d (1 + s) (1 + e) p n 0 0).cells) rfl (eE E) (range_kept HC8r.out hk) Try.underlying25 (by rw [(Ord.mk t i d (1 + s) (1 + e) p n 0 0).len9]; exact ord_size)) ?_
     exact fz
    intro gv w9 hV k9
    rw [dq 1 [44]]
    simp only [F7]
    rw [gQ hV 0 44 ((Ord.mk t i d (1 + s) (1 + e) p n 0 0).v)]
    clear hV
    refine l_setS 25 g2 25 zeroO.cells (Ord.mk t i d (1 + s) (1 + e) p n 0 0).cells _ _ rfl rfl (by kernel_rfl) (by kernel_rfl) (HBX8.out.kept k9) (by rw [Ord.len9]; exact ord_size) (by rw [Ord.len9, Ord.len9]) (Ord.one1 _) ?_
    intro wz hCz hkz hsz
    simp only [Act.put]
    refine wpList_nil ?_
    go_wp2
    refine bodyPost_ret (results_cell (p := 2) rfl _ _ g2 _ (Ord.mk t i d (1 + s) (1 + e) p n 0 0).cells rfl hCz Try.underlying25 (by rw [Ord.len9]; exact ord_size)) rfl ?_
    refine ⟨?_, (kw8.trans k9).trans' hkz (by omega)⟩
    rw [HQ2.out, if_neg hk2, if_neg (by omega)]
    rfl
end Go.Proofs.Ytfpfpmhkkgfdbaa
