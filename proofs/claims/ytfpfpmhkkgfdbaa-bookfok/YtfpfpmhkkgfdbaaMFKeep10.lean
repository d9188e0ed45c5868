/-
 Asks of chapter 10's statements: their cells; a slice of them among the arguments; the order made of one (jobberkeep.Order). No condition.
-/
import Derived.Test.YtfpfpmhkkgfdbaaQF05
set_option linter.unusedVariables false
namespace Go.Proofs.Ytfpfpmhkkgfdbaa
open Go.RowKit Go.ChangeShapes Go.WideShapes Go.ChangeAt
set_option maxRecDepth 100000
def Args {α : Type} (k : Nat) (cl : α → List Value) (ok : α → Prop) (W : World) (v : Value) (l : List α) : Prop := ∃ A n c, v = .slice A n c ∧ l.length = n ∧ (∀ q ∈ l, ok q) ∧ n ≤ maxLen ∧ ∀ i q, l[i]? = some q → ∃ b o, A = some ⟨b, o, none⟩ ∧ W.rangeAt b (o + i * k) (cl q)
theorem Args.keep {α : Type} {k : Nat} {cl : α → List Value} {ok : α → Prop} {S : Nat → Prop} {w w' : World} {v : Value} {l : List α} (h : Args k cl ok w v l) (hk : Keep S w w') (hn : ∀ b, b < w.heap.size → ¬ S b) : Args k cl ok w' v l := by
 obtain ⟨A, n, c, rfl, h1, h2, h3, h4⟩ := h
 refine ⟨A, n, c, rfl, h1, h2, h3, fun i q hq => ?_⟩
 obtain ⟨b, o, rfl, hr⟩ := h4 i q hq
 refine ⟨b, o, rfl, fun j v hv => ?_⟩
 have hc := hr j v hv
 exact hk.cell hc (hn _ (World.block_lt_of_cell? w _ hc))
theorem Args.kept {α : Type} {k : Nat} {cl : α → List Value} {ok : α → Prop} {w w' : World} {v : Value} {l : List α} (h : Args k cl ok w v l) (hk : Kept w w') : Args k cl ok w' v l := h.keep hk (fun _ _ h => h)
theorem open_args {α H : Type} [Inhabited α] {enc : TypeId × Value → H} {W : World} {b0 : Nat} {v : Value} {d : DataW H} {p : List MemPlace} {t T : TypeId} (k : Nat) (cl : α → List Value) (ok : α → Prop) (hu : Try.prog.underlying t = some (.slice T)) (hs : Try.prog.cellsOf T = k) (hk : 0 < k)
  (hsh : ∀ (fuel : Nat) (cs : List Value) (x : DataW H × List MemPlace), DataW.trod enc Try.prog W 0 (fun _ => true) true fuel T cs = some x → ∃ q : α, cs = cl q ∧ ok q)
  (hv : Value.okWide Try.prog W .any b0 t v) (h : DataW.Trod enc Try.prog W 0 (fun _ => true) true t v d p) : ∃ l, Args k cl ok W v l := by
 obtain ⟨l, A, n, c, rfl, hl, hA, h1, h2⟩ := open_elems (α := α) (fun cs q => cs = cl q ∧ ok q) hu hs hk hsh hv h (k := k)
 refine ⟨l, A, n, c, rfl, hl.out, fun q hq => ?_, by omega, fun i q hq => ?_⟩
 ·obtain ⟨i, hi, rfl⟩ := List.getElem_of_mem hq
  obtain ⟨b, o, cs, _, ⟨_, hw⟩, _⟩ := hA i _ (List.getElem?_eq_getElem hi)
  exact hw
 ·obtain ⟨b, o, cs, rfl, ⟨rfl, _⟩, _, hc⟩ := hA i q hq
  refine ⟨b, o, rfl, fun j v hv => ?_⟩
  rw [Nat.add_assoc]
  exact hc j v hv
structure Kq where
 t : Int
 i : Int
 s : Int
 p : Int
 q : Int
 h : Int
 x : Int
deriving Inhabited
def Kq.l (q : Kq) : List Int := [q.t, q.i, q.s, q.p, q.q, q.h, q.x]
def Kq.cells (q : Kq) : List Value := stc q.l []
def Kq.v (q : Kq) : Value := .agg q.cells.toArray
theorem Kq.len7 (q : Kq) : q.cells.length = 7 := by unfold Kq.cells; rw [stc_len]; rfl
theorem Kq.one (q : Kq) : ∀ u ∈ q.cells, u.oneCell' = true := stc_one _ _
def zeroK : Kq := ⟨0, 0, 0, 0, 0, 0, 0⟩
theorem slK : SlT 58 48 7 56 := ⟨Try.underlying58, by kernel_rfl, ⟨zeroK.v, by kernel_rfl, rfl, by intro u hu; exact zeroK.one u (by simpa [Kq.v, Value.cells] using hu)⟩, by omega⟩
theorem szK : (Try.prog.info? 48).map (·.size) = some 7 := by kernel_rfl
def Kq.wf (q : Kq) : Prop := ∀ y ∈ q.l, (Lit.int .i64 y).wf = true
abbrev Kqs (W : World) (v : Value) (l : List Kq) : Prop := Args 7 Kq.cells Kq.wf W v l
theorem sh_kq {H : Type} {enc : TypeId × Value → H} {W : World} (fuel : Nat) (cs : List Value) (x : DataW H × List MemPlace) (h : DataW.trod enc Try.prog W 0 (fun _ => true) true fuel 48 cs = some x) : ∃ q : Kq, cs = q.cells ∧ q.wf := by
 obtain ⟨l, rfl, hl, hw⟩ := sh_ints 7 (by kernel_rfl) _ _ _ h
 match l, hl with
 | [x0, x1, x2, x3, x4, x5, x6], _ => exact ⟨⟨x0, x1, x2, x3, x4, x5, x6⟩, rfl, hw⟩
theorem open_kqs {H : Type} {enc : TypeId × Value → H} {W : World} {b0 : Nat} {v : Value} {d : DataW H} {p : List MemPlace} (hv : Value.okWide Try.prog W .any b0 58 v)
  (h : DataW.Trod enc Try.prog W 0 (fun _ => true) true 58 v d p) : ∃ l, Kqs W v l := open_args 7 Kq.cells Kq.wf Try.underlying58 (by kernel_rfl) (by omega) sh_kq hv h
theorem open_kq {H : Type} {enc : TypeId × Value → H} {W : World} {b0 : Nat} {v : Value} {d : DataW H} {p : List MemPlace} (hv : Value.okWide Try.prog W .any b0 48 v)
  (h : DataW.Trod enc Try.prog W 0 (fun _ => true) true 48 v d p) : ∃ q : Kq, v = q.v ∧ q.wf := by
 simp only [Value.okWide, Try.underlying48] at hv
 obtain ⟨cs, rfl, hsz, _⟩ := hv
 obtain ⟨fuel, hf⟩ := h
 obtain ⟨q, e, hw⟩ := sh_kq _ _ _ hf
 simp only [Value.cells] at e
 refine ⟨q, ?_, hw⟩
 unfold Kq.v
 congr 1
 apply Array.toList_inj.1
 rw [e]
def Kq.k (q : Kq) : Int := 1 + (wi q.s 0 9).tdiv 2
def Kq.o (q : Kq) : Ord := ⟨wi q.t 0 5, wi q.i 0 15, (wi q.t 0 5).tdiv 2, 1 + wi q.s 0 1, q.k, if q.k = 2 then 0 else wi q.p 95 105, wi q.q 1 12, if q.k = 1 ∨ q.k = 5 then wi q.h 0 (wi q.q 1 12) else 0, 0⟩
theorem tdiv2 (t m : Int) (h0 : 0 ≤ t) (h1 : t ≤ 2 * m + 1) : 0 ≤ t.tdiv 2 ∧ t.tdiv 2 ≤ m := by
 rw [Int.tdiv_eq_ediv_of_nonneg h0]
 omega
theorem Kq.k_in (q : Kq) : 1 ≤ q.k ∧ q.k ≤ 5 := by
 have h := wi_in q.s 0 9 (by omega)
 have := tdiv2 (wi q.s 0 9) 4 h.1 (by omega)
 unfold Kq.k
 omega
theorem Kq.right (q : Kq) : q.o.right = true ∧ q.o.stop = 0 ∧ q.o.qty ≤ 12 := by
 have h1 := wi_in q.t 0 5 (by omega)
 have h2 := wi_in q.i 0 15 (by omega)
 have h3 := wi_in q.s 0 1 (by omega)
 have h4 := wi_in q.p 95 105 (by omega)
 have h5 := wi_in q.q 1 12 (by omega)
 have h6 := wi_in q.h 0 (wi q.q 1 12) (by omega)
 have h7 := tdiv2 (wi q.t 0 5) 2 h1.1 (by omega)
 have h8 := q.k_in
 refine ⟨(right_iff _).2 ?_, rfl, h5.2⟩
 unfold Kq.o
 by_cases hk : q.k = 2
 ·simp only [hk]
  simp
  omega
 ·by_cases hk1 : q.k = 1 ∨ q.k = 5
  ·simp only [if_neg hk, if_pos hk1]
   omega
  ·have e1 : (if q.k = 2 then 0 else wi q.p 95 105) = wi q.p 95 105 := if_neg hk
   have e2 : (if q.k = 1 ∨ q.k = 5 then wi q.h 0 (wi q.q 1 12) else 0) = 0 := if_neg hk1
   simp only [e1, e2]
   refine ⟨by omega, by omega, by omega, by omega, by omega, by omega, by omega, by omega, by omega, by omega, by omega, .inr (.inr trivial)⟩
def mkK (t i s k p n : Int) : Ord := ⟨t, i, 0, s, k, p, n, 0, 0⟩
theorem builtK (t i s k p n : Int) : Try.prog.built 25 [(0, .int .i64 t), (1, .int .i64 i), (3, .int .i64 s), (4, .int .i64 k), (5, .int .i64 p), (6, .int .i64 n)] = some (mkK t i s k p n).cells.toArray := by kernel_rfl
theorem exec_mkK {a : Act} {o : Oper} {u : World} (x0 x1 x3 x4 x5 x6 : Operand) (t i s k p n : Int) (hop : o.op = .build 25 #[(0, x0), (1, x1), (3, x3), (4, x4), (5, x5), (6, x6)]) (h0 : a.eval x0 = .int .i64 t) (h1 : a.eval x1 = .int .i64 i) (h3 : a.eval x3 = .int .i64 s) (h4 : a.eval x4 = .int .i64 k) (h5 : a.eval x5 = .int .i64 p) (h6 : a.eval x6 = .int .i64 n) : (execOp a.eval o).run Try.prog u = .ok (.value (mkK t i s k p n).v) u :=
 exec_build _ [(0, x0), (1, x1), (3, x3), (4, x4), (5, x5), (6, x6)] (mkK t i s k p n).cells hop (by
  simp only [List.map_cons, List.map_nil, h0, h1, h3, h4, h5, h6]
  exact builtK t i s k p n)
set_option maxRecDepth 100000 in
set_option maxHeartbeats 1600000 in
theorem korder_any (q : Kq) (w : World) : Gives 22 #[q.v] w (.eq q.o.v) := by
 refine gives_eq ?_
 have HQ : Hid (∀ t i d s k p n h, t = wi q.t 0 5 → i = wi q.i 0 15 → d = (wi q.t 0 5).tdiv 2 → s = wi q.s 0 1 → k = q.k → p = wi q.p 95 105 → n = wi q.q 1 12 → h = wi q.h 0 n → q.o = Ord.mk t i d (1 + s) k (if k = 2 then 0 else p) n (if k = 1 ∨ k = 5 then h else 0) 0) := by
  intro t i d s k p n h h1 h2 h3 h4 h5 h6 h7 h8
  subst h1 h2 h3 h4 h5 h6 h7 h8
  rfl
 obtain ⟨t, ht⟩ : ∃ t, wi q.t 0 5 = t := ⟨_, rfl⟩
 obtain ⟨i, hi⟩ : ∃ i, wi q.i 0 15 = i := ⟨_, rfl⟩
 obtain ⟨s, hs⟩ : ∃ s, wi q.s 0 1 = s := ⟨_, rfl⟩
 obtain ⟨r, hr⟩ : ∃ r, wi q.s 0 9 = r := ⟨_, rfl⟩
 obtain ⟨e, he⟩ : ∃ e, r.tdiv 2 = e := ⟨_, rfl⟩
 obtain ⟨p, hp⟩ : ∃ p, wi q.p 95 105 = p := ⟨_, rfl⟩
 obtain ⟨n, hn⟩ : ∃ n, wi q.q 1 12 = n := ⟨_, rfl⟩
 obtain ⟨h, hh⟩ : ∃ h, wi q.h 0 n = h := ⟨_, rfl⟩
 obtain ⟨d, hd⟩ : ∃ d, t.tdiv 2 = d := ⟨_, rfl⟩
 have ht1 := wi_in q.t 0 5 (by omega)
 have hs1 := wi_in q.s 0 1 (by omega)
 have hr1 := wi_in q.s 0 9 (by omega)
 have hn1 := wi_in q.q 1 12 (by omega)
 rw [ht] at ht1
 rw [hs] at hs1
 rw [hr] at hr1
 rw [hn] at hn1
 have he1 := tdiv2 r 4 hr1.1 (by omega)
 have hd1 := tdiv2 t 2 ht1.1 (by omega)
 rw [he] at he1
 rw [hd] at hd1
 have HK : Hid (q.k = 1 + e) := by show q.k = _; unfold Kq.k; rw [hr, he]
 have HT := Lib.hid ht
 have HI := Lib.hid hi
 have HS := Lib.hid hs
 have HR := Lib.hid hr
 have HE := Lib.hid he
 have HP := Lib.hid hp
 have HN := Lib.hid hn
 have HH := Lib.hid hh
 have HD := Lib.hid hd
 have HQ2 : Hid (q.o = Ord.mk t i d (1 + s) (1 + e) (if 1 + e = 2 then 0 else p) n (if 1 + e = 1 ∨ 1 + e = 5 then h else 0) 0) := HQ.out t i d s (1 + e) p n h ht.symm hi.symm (by rw [ht, hd]) hs.symm HK.out.symm hp.symm hn.symm hh.symm
 clear ht hi hs hr he hp hn hh hd HQ HK
 go_enter Try.func22, Try.ntmps22
 go_upto_region 0 with fail
 refine wp_text 2 [.fresh w.heap.size 48 (q.cells), .fresh w.heap.size 25 zeroO.cells] rfl (by kernel_rfl) ?_ ?_
 ·refine fsteps_cons 1 rfl (fun a u hE hD hk => f_new (o := ⟨some 1, _, _, _, _, _⟩) (.pointer (some ⟨u.heap.size, 0, none⟩)) _ rfl (wanted_none rfl _) (exec_box 48 (.tmp 0) (q.cells) rfl (hE 0 (q.v) (by kernel_rfl) (by kernel_rfl))) ⟨_, rfl, hk.size, Blk.new u _ _⟩ ((Keep.refl _ u).alloc _)) ?_
  refine fsteps_cons 2 rfl (fun a u hE hD hk => f_new (o := ⟨some 2, _, _, _, _, _⟩) (.pointer (some ⟨u.heap.size, 0, none⟩)) _ rfl (wanted_none rfl _) (exec_alc 25 zeroO.cells rfl zO) ⟨_, rfl, hk.size, Blk.new u _ _⟩ ((Keep.refl _ u).alloc _)) ?_
  exact fsteps_nil
 intro gv w0 hV k0
 rw [show dstsOf _ 2 = [1, 2] by kernel_rfl]
 simp only [fC, fN, sA, sS, sZ, dS, dZ]
 have hv1 : (.fresh w.heap.size 48 (q.cells) : Kn).p (gv 1) w0 := hV 0 1 (by kernel_rfl)
 generalize gv 1 = v1 at hv1 ⊢
 have hv2 : (.fresh w.heap.size 25 zeroO.cells : Kn).p (gv 2) w0 := hV 1 2 (by kernel_rfl)
 generalize gv 2 = v2 at hv2 ⊢
 clear hV
 obtain ⟨g1, rfl, hg1, hB1⟩ := hv1
 obtain ⟨g2, rfl, hg2, hB2⟩ := hv2
 have hne : g1 ≠ g2 := fun e => by subst e; unfold Blk at hB1 hB2; rw [hB1] at hB2; injection hB2 with hB2; injection hB2 with _ hB2; revert hB2; decide
 refine wpList_nil ?_
 have HA := Lib.hid (blk_range hB1)
 have HB2 := Lib.hid hB2
 have l1 := hB1.lt
 have l2 := hB2.lt
 clear hB1 hB2
 go_upto_region 1 with fail
 refine wp_free 23 [.eq (.pointer (some ⟨g1, 0, none⟩)), .eq (.int .i64 q.t), .eq (.int .i64 t), .eq (.pointer (some ⟨g1, 1, none⟩)), .eq (.int .i64 q.i), .eq (.int .i64 i), .eq (.pointer (some ⟨g1, 2, none⟩)), .eq (.int .i64 q.s), .eq (.int .i64 s), .eq (.int .i64 (1 + s)), .eq (.pointer (some ⟨g1, 2, none⟩)), .eq (.int .i64 q.s), .eq (.int .i64 r), .eq (.int .i64 e), .eq (.int .i64 (1 + e)), .eq (.pointer (some ⟨g1, 3, none⟩)), .eq (.int .i64 q.p), .eq (.int .i64 p), .eq (.pointer (some ⟨g1, 4, none⟩)), .eq (.int .i64 q.q), .eq (.int .i64 n), .eq ((mkK t i (1 + s) (1 + e) p n).v), .fresh w0.heap.size 25 zeroO.cells] (by kernel_rfl) rfl (by kernel_rfl) ?_ ?_
 ·refine sv 1 rfl rfl rfl (fun a u hE hD hk => exec_fldo 48 0 0 (.tmp 1) (g1) (0) (0) rfl (hE 1 (.pointer (some ⟨g1, 0, none⟩)) (by kernel_rfl) (by kernel_rfl)) (by kernel_rfl) rfl) ?_
  refine sv 2 rfl rfl rfl (fun a u hE hD hk => exec_loadi 3 Try.underlying3 (.tmp 4) ⟨g1, 0, none⟩ (.int .i64 q.t) rfl (hD 0 4 (by kernel_rfl)) (range_int (range_kept HA.out hk) 0 _ rfl)) ?_
  refine fsteps_cons 3 rfl (fun a u hE hD hk => f_call (o := ⟨some 6, _, _, _, _, _⟩) 38 #[.int .i64 q.t, .int .i64 0, .int .i64 5] rfl (wanted_none rfl _) (exec_call 38 _ [.tmp 5, .const (.int .i64 0), .const (.int .i64 5)] _ [.int .i64 q.t, .int .i64 0, .int .i64 5] Try.func38 (by kernel_rfl) (by kernel_rfl) rfl (show [a.eval (.tmp 5), a.eval (.const (.int .i64 0)), a.eval (.const (.int .i64 5))] = [.int .i64 q.t, .int .i64 0, .int .i64 5] from (by rw [show a.eval (.tmp 5) = .int .i64 q.t from (hD 1 5 (by kernel_rfl))] <;> rfl)) u) ((by rw [← HT.out]; exact within_is q.t 0 5 u (by omega) (by omega) (by omega)))) ?_
  refine sv 4 rfl rfl rfl (fun a u hE hD hk => exec_fldo 48 1 1 (.tmp 1) (g1) (0) (1) rfl (hE 1 (.pointer (some ⟨g1, 0, none⟩)) (by kernel_rfl) (by kernel_rfl)) (by kernel_rfl) rfl) ?_
  refine sv 5 rfl rfl rfl (fun a u hE hD hk => exec_loadi 3 Try.underlying3 (.tmp 7) ⟨g1, 1, none⟩ (.int .i64 q.i) rfl (hD 3 7 (by kernel_rfl)) (range_int (range_kept HA.out hk) 1 _ rfl)) ?_
  refine fsteps_cons 6 rfl (fun a u hE hD hk => f_call (o := ⟨some 9, _, _, _, _, _⟩) 38 #[.int .i64 q.i, .int .i64 0, .int .i64 15] rfl (wanted_none rfl _) (exec_call 38 _ [.tmp 8, .const (.int .i64 0), .const (.int .i64 15)] _ [.int .i64 q.i, .int .i64 0, .int .i64 15] Try.func38 (by kernel_rfl) (by kernel_rfl) rfl (show [a.eval (.tmp 8), a.eval (.const (.int .i64 0)), a.eval (.const (.int .i64 15))] = [.int .i64 q.i, .int .i64 0, .int .i64 15] from (by rw [show a.eval (.tmp 8) = .int .i64 q.i from (hD 4 8 (by kernel_rfl))] <;> rfl)) u) ((by rw [← HI.out]; exact within_is q.i 0 15 u (by omega) (by omega) (by omega)))) ?_
  refine sv 7 rfl rfl rfl (fun a u hE hD hk => exec_fldo 48 2 2 (.tmp 1) (g1) (0) (2) rfl (hE 1 (.pointer (some ⟨g1, 0, none⟩)) (by kernel_rfl) (by kernel_rfl)) (by kernel_rfl) rfl) ?_
  refine sv 8 rfl rfl rfl (fun a u hE hD hk => exec_loadi 3 Try.underlying3 (.tmp 10) ⟨g1, 2, none⟩ (.int .i64 q.s) rfl (hD 6 10 (by kernel_rfl)) (range_int (range_kept HA.out hk) 2 _ rfl)) ?_
  refine fsteps_cons 9 rfl (fun a u hE hD hk => f_call (o := ⟨some 12, _, _, _, _, _⟩) 38 #[.int .i64 q.s, .int .i64 0, .int .i64 1] rfl (wanted_none rfl _) (exec_call 38 _ [.tmp 11, .const (.int .i64 0), .const (.int .i64 1)] _ [.int .i64 q.s, .int .i64 0, .int .i64 1] Try.func38 (by kernel_rfl) (by kernel_rfl) rfl (show [a.eval (.tmp 11), a.eval (.const (.int .i64 0)), a.eval (.const (.int .i64 1))] = [.int .i64 q.s, .int .i64 0, .int .i64 1] from (by rw [show a.eval (.tmp 11) = .int .i64 q.s from (hD 7 11 (by kernel_rfl))] <;> rfl)) u) ((by rw [← HS.out]; exact within_is q.s 0 1 u (by omega) (by omega) (by omega)))) ?_
  refine sv 10 rfl rfl rfl (fun a u hE hD hk => exec_addn (1 + s) rfl rfl (hD 8 12 (by kernel_rfl)) rfl (by omega) (by omega)) ?_
  refine sv 11 rfl rfl rfl (fun a u hE hD hk => exec_fldo 48 2 2 (.tmp 1) (g1) (0) (2) rfl (hE 1 (.pointer (some ⟨g1, 0, none⟩)) (by kernel_rfl) (by kernel_rfl)) (by kernel_rfl) rfl) ?_
  refine sv 12 rfl rfl rfl (fun a u hE hD hk => exec_loadi 3 Try.underlying3 (.tmp 14) ⟨g1, 2, none⟩ (.int .i64 q.s) rfl (hD 10 14 (by kernel_rfl)) (range_int (range_kept HA.out hk) 2 _ rfl)) ?_
  refine fsteps_cons 13 rfl (fun a u hE hD hk => f_call (o := ⟨some 16, _, _, _, _, _⟩) 38 #[.int .i64 q.s, .int .i64 0, .int .i64 9] rfl (wanted_none rfl _) (exec_call 38 _ [.tmp 15, .const (.int .i64 0), .const (.int .i64 9)] _ [.int .i64 q.s, .int .i64 0, .int .i64 9] Try.func38 (by kernel_rfl) (by kernel_rfl) rfl (show [a.eval (.tmp 15), a.eval (.const (.int .i64 0)), a.eval (.const (.int .i64 9))] = [.int .i64 q.s, .int .i64 0, .int .i64 9] from (by rw [show a.eval (.tmp 15) = .int .i64 q.s from (hD 11 15 (by kernel_rfl))] <;> rfl)) u) ((by rw [← HR.out]; exact within_is q.s 0 9 u (by omega) (by omega) (by omega)))) ?_
  refine sv 14 rfl rfl rfl (fun a u hE hD hk => exec_quon e rfl (hD 12 16 (by kernel_rfl)) rfl (by decide) HE.out (by omega) (by omega)) ?_
  refine sv 15 rfl rfl rfl (fun a u hE hD hk => exec_addn (1 + e) rfl rfl (hD 13 17 (by kernel_rfl)) rfl (by omega) (by omega)) ?_
  refine sv 16 rfl rfl rfl (fun a u hE hD hk => exec_fldo 48 3 3 (.tmp 1) (g1) (0) (3) rfl (hE 1 (.pointer (some ⟨g1, 0, none⟩)) (by kernel_rfl) (by kernel_rfl)) (by kernel_rfl) rfl) ?_
  refine sv 17 rfl rfl rfl (fun a u hE hD hk => exec_loadi 3 Try.underlying3 (.tmp 19) ⟨g1, 3, none⟩ (.int .i64 q.p) rfl (hD 15 19 (by kernel_rfl)) (range_int (range_kept HA.out hk) 3 _ rfl)) ?_
  refine fsteps_cons 18 rfl (fun a u hE hD hk => f_call (o := ⟨some 21, _, _, _, _, _⟩) 38 #[.int .i64 q.p, .int .i64 95, .int .i64 105] rfl (wanted_none rfl _) (exec_call 38 _ [.tmp 20, .const (.int .i64 95), .const (.int .i64 105)] _ [.int .i64 q.p, .int .i64 95, .int .i64 105] Try.func38 (by kernel_rfl) (by kernel_rfl) rfl (show [a.eval (.tmp 20), a.eval (.const (.int .i64 95)), a.eval (.const (.int .i64 105))] = [.int .i64 q.p, .int .i64 95, .int .i64 105] from (by rw [show a.eval (.tmp 20) = .int .i64 q.p from (hD 16 20 (by kernel_rfl))] <;> rfl)) u) ((by rw [← HP.out]; exact within_is q.p 95 105 u (by omega) (by omega) (by omega)))) ?_
  refine sv 19 rfl rfl rfl (fun a u hE hD hk => exec_fldo 48 4 4 (.tmp 1) (g1) (0) (4) rfl (hE 1 (.pointer (some ⟨g1, 0, none⟩)) (by kernel_rfl) (by kernel_rfl)) (by kernel_rfl) rfl) ?_
  refine sv 20 rfl rfl rfl (fun a u hE hD hk => exec_loadi 3 Try.underlying3 (.tmp 22) ⟨g1, 4, none⟩ (.int .i64 q.q) rfl (hD 18 22 (by kernel_rfl)) (range_int (range_kept HA.out hk) 4 _ rfl)) ?_
  refine fsteps_cons 21 rfl (fun a u hE hD hk => f_call (o := ⟨some 24, _, _, _, _, _⟩) 38 #[.int .i64 q.q, .int .i64 1, .int .i64 12] rfl (wanted_none rfl _) (exec_call 38 _ [.tmp 23, .const (.int .i64 1), .const (.int .i64 12)] _ [.int .i64 q.q, .int .i64 1, .int .i64 12] Try.func38 (by kernel_rfl) (by kernel_rfl) rfl (show [a.eval (.tmp 23), a.eval (.const (.int .i64 1)), a.eval (.const (.int .i64 12))] = [.int .i64 q.q, .int .i64 1, .int .i64 12] from (by rw [show a.eval (.tmp 23) = .int .i64 q.q from (hD 19 23 (by kernel_rfl))] <;> rfl)) u) ((by rw [← HN.out]; exact within_is q.q 1 12 u (by omega) (by omega) (by omega)))) ?_
  refine sv 22 rfl rfl rfl (fun a u hE hD hk => exec_mkK (.tmp 6) (.tmp 9) (.tmp 13) (.tmp 18) (.tmp 21) (.tmp 24) t i (1 + s) (1 + e) p n rfl (hD 2 6 (by kernel_rfl)) (hD 5 9 (by kernel_rfl)) (hD 9 13 (by kernel_rfl)) (hD 14 18 (by kernel_rfl)) (hD 17 21 (by kernel_rfl)) (hD 20 24 (by kernel_rfl))) ?_
  refine fsteps_cons 23 rfl (fun a u hE hD hk => f_new (o := ⟨some 3, _, _, _, _, _⟩) (.pointer (some ⟨u.heap.size, 0, none⟩)) _ rfl (wanted_none rfl _) (exec_alc 25 zeroO.cells rfl zO) ⟨_, rfl, hk.size, Blk.new u _ _⟩ ((Keep.refl _ u).alloc _)) ?_
  exact fsteps_nil
 intro gv w1 hV k1
 rw [show dstsOf _ 23 = [4, 5, 6, 7, 8, 9, 10, 11, 12, 13, 14, 15, 16, 17, 18, 19, 20, 21, 22, 23, 24, 25, 3] by kernel_rfl]
 simp only [fC, fN, sA, sS, sZ, dS, dZ]
 have hv3 : (.fresh w0.heap.size 25 zeroO.cells : Kn).p (gv 3) w1 := hV 22 3 (by kernel_rfl)
 generalize gv 3 = v3 at hv3 ⊢
 rw [show gv 25 = (mkK t i (1 + s) (1 + e) p n).v from hV 21 25 (by kernel_rfl)]
 clear hV
 obtain ⟨g3, rfl, hg3, hB3⟩ := hv3
 refine l_setS (o := ⟨none, _, _, _, _, _⟩) 25 g3 25 zeroO.cells (mkK t i (1 + s) (1 + e) p n).cells (.tmp 3) (.tmp 25) rfl rfl (by kernel_rfl) (by kernel_rfl) hB3 (by rw [Ord.len9]; exact ord_size) (by rw [Ord.len9, Ord.len9]) (Ord.one1 _) ?_
 intro w2 hC2 hk2 hs2
 simp only [Act.put]
 refine wpList_nil ?_
 have k02 : Kept w0 w2 := k1.trans' hk2 (by omega)
 have HA2 := Lib.hid (range_kept HA.out k02)
 have HB4 := Lib.hid (HB2.out.kept k02)
 have kw2 := k0.trans k02
 have HC2 := Lib.hid hC2
 have HC2r := Lib.hid (blk_range hC2)
 have z2 := k02.size
 clear hB3 hC2 hk2 k1 HA HB2 k02 hs2
 go_upto_region 2 with fail
 refine wp_text 4 [.eq (.pointer (some ⟨g3, 0, none⟩)), .eq (.int .i64 t), .eq (.int .i64 d), .eq (.pointer (some ⟨g3, 2, none⟩))] rfl (by kernel_rfl) ?_ ?_
 ·refine sv 1 rfl rfl rfl (fun a u hE hD hk => exec_fldo 25 0 0 (.tmp 3) (g3) (0) (0) rfl (hE 3 (.pointer (some ⟨g3, 0, none⟩)) (by kernel_rfl) (by kernel_rfl)) (by kernel_rfl) rfl) ?_
  refine sv 2 rfl rfl rfl (fun a u hE hD hk => exec_loadi 3 Try.underlying3 (.tmp 26) ⟨g3, 0, none⟩ (.int .i64 t) rfl (hD 0 26 (by kernel_rfl)) (range_int (range_kept HC2r.out hk) 0 _ rfl)) ?_
  refine sv 3 rfl rfl rfl (fun a u hE hD hk => exec_quon d rfl (hD 1 27 (by kernel_rfl)) rfl (by decide) HD.out (by omega) (by omega)) ?_
  refine sv 4 rfl rfl rfl (fun a u hE hD hk => exec_fldo 25 2 2 (.tmp 3) (g3) (0) (2) rfl (hE 3 (.pointer (some ⟨g3, 0, none⟩)) (by kernel_rfl) (by kernel_rfl)) (by kernel_rfl) rfl) ?_
  exact fsteps_nil
 intro gv w3 hV k3
 rw [show dstsOf _ 4 = [26, 27, 28, 29] by kernel_rfl]
 simp only [fC, fN, sA, sS, sZ, dS, dZ]
 rw [show gv 29 = .pointer (some ⟨g3, 2, none⟩) from hV 3 29 (by kernel_rfl)]
 rw [show gv 28 = .int .i64 d from hV 2 28 (by kernel_rfl)]
 clear hV
 refine l_st1 (o := ⟨none, _, _, _, _, _⟩) 3 g3 2 25 _ (.int .i64 d) (.tmp 29) (.tmp 28) rfl rfl (by kernel_rfl) (by kernel_rfl) (by kernel_rfl) rfl rfl (HC2.out.kept k3) (by rw [Ord.len9]; omega) ?_
 intro w4 hC4 hk4 hs4
 simp only [Act.put]
 refine wpList_nil ?_
 have K4 : Keep (· = g3) w2 w4 := (Keep.mono (T := (· = g3)) k3 (fun _ _ h => h.elim)).trans hk4 (fun _ _ h => h)
 have HC4 : Hid (Blk w4 g3 25 (Ord.mk t i d (1 + s) (1 + e) p n 0 0).cells) := hC4
 have HC4r := Lib.hid (blk_range HC4.out)
 have HA4 := Lib.hid (range_keep HA2.out K4 (by omega))
 have HB5 := Lib.hid (HB4.out.keep K4 (by omega))
 have kw4 : Kept w w4 := kw2.trans' K4 (by omega)
 clear hC4 hk4 K4 HA2 HB4 HC2 HC2r k3 kw2
 go_upto_region 3 with fail
 refine wp_text 2 [.eq (.pointer (some ⟨g3, 4, none⟩)), .eq (.int .i64 (1 + e))] rfl (by kernel_rfl) ?_ ?_
 ·refine sv 1 rfl rfl rfl (fun a u hE hD hk => exec_fldo 25 4 4 (.tmp 3) (g3) (0) (4) rfl (hE 3 (.pointer (some ⟨g3, 0, none⟩)) (by kernel_rfl) (by kernel_rfl)) (by kernel_rfl) rfl) ?_
  refine sv 2 rfl rfl rfl (fun a u hE hD hk => exec_loadi 3 Try.underlying3 (.tmp 30) ⟨g3, 4, none⟩ (.int .i64 (1 + e)) rfl (hD 0 30 (by kernel_rfl)) (range_int (range_kept HC4r.out hk) 4 _ rfl)) ?_
  exact fsteps_nil
 intro gv w5 hV k5
 rw [show dstsOf _ 2 = [30, 31] by kernel_rfl]
 simp only [fC, fN, sA, sS, sZ, dS, dZ]
 rw [show gv 31 = .int .i64 (1 + e) from hV 1 31 (by kernel_rfl)]
 clear hV
 refine wpList_nil ?_
 have HC5 := Lib.hid (HC4.out.kept k5)
 have HC5r := Lib.hid (blk_range HC5.out)
 have HA5 := Lib.hid (range_kept HA4.out k5)
 have HB6 := Lib.hid (HB5.out.kept k5)
 have kw5 := kw4.trans k5
 have z5 := k5.size
 clear HC4 HC4r HA4 HB5 kw4 k5
 have HBX5 := Lib.hid HB6.out
 clear HB6
 by_cases hk1 : 1 + e = 1
 ·go_upto_region 4 with fail
  refine wp_text 2 [.eq (.bool true), .eq (.bool true)] rfl (by kernel_rfl) ?_ ?_
  ·refine fsteps_cons 1 rfl (fun a u hE hD hk => f_as (show ((decide (((1 + e) : Int) = (1 : Int))) : Bool) = true from decide_eq_true hk1) (f_val (o := ⟨some 33, _, _, _, _, _⟩) (.bool (decide (((1 + e) : Int) = (1 : Int)))) rfl (wanted_none rfl _) (exec_eqn (p := (1 + e)) (q := 1) rfl (hE 31 (.int .i64 (1 + e)) (by kernel_rfl) (by kernel_rfl)) rfl) rfl)) ?_
   refine sv 2 rfl rfl rfl (fun a u hE hD hk => exec_assign (.tmp 33) _ rfl (hD 0 33 (by kernel_rfl))) ?_
   exact fsteps_nil
  intro gv w6 hV k6
  rw [show dstsOf _ 2 = [33, 32] by kernel_rfl]
  simp only [fC, fN, sA, sS, sZ, dS, dZ]
  rw [show gv 32 = .bool true from hV 1 32 (by kernel_rfl)]
  clear hV
  refine wpList_nil ?_
  have HC6 := Lib.hid (HC5.out.kept k6)
  have HC6r := Lib.hid (blk_range HC6.out)
  have HA6 := Lib.hid (range_kept HA5.out k6)
  have HBX6 := Lib.hid (HBX5.out.kept k6)
  have kw6 := kw5.trans k6
  have z6 := k6.size
  clear HC5 HC5r HA5 HBX5 kw5 k6
  go_upto_region 6 with fail
  refine wp_text 6 [.eq (.pointer (some ⟨g1, 5, none⟩)), .eq (.int .i64 q.h), .eq (.pointer (some ⟨g3, 6, none⟩)), .eq (.int .i64 n), .eq (.int .i64 h), .eq (.pointer (some ⟨g3, 7, none⟩))] rfl (by kernel_rfl) ?_ ?_
  ·refine sv 1 rfl rfl rfl (fun a u hE hD hk => exec_fldo 48 5 5 (.tmp 1) (g1) (0) (5) rfl (hE 1 (.pointer (some ⟨g1, 0, none⟩)) (by kernel_rfl) (by kernel_rfl)) (by kernel_rfl) rfl) ?_
   refine sv 2 rfl rfl rfl (fun a u hE hD hk => exec_loadi 3 Try.underlying3 (.tmp 35) ⟨g1, 5, none⟩ (.int .i64 q.h) rfl (hD 0 35 (by kernel_rfl)) (range_int (range_kept HA6.out hk) 5 _ rfl)) ?_
   refine sv 3 rfl rfl rfl (fun a u hE hD hk => exec_fldo 25 6 6 (.tmp 3) (g3) (0) (6) rfl (hE 3 (.pointer (some ⟨g3, 0, none⟩)) (by kernel_rfl) (by kernel_rfl)) (by kernel_rfl) rfl) ?_
   refine sv 4 rfl rfl rfl (fun a u hE hD hk => exec_loadi 3 Try.underlying3 (.tmp 37) ⟨g3, 6, none⟩ (.int .i64 n) rfl (hD 2 37 (by kernel_rfl)) (range_int (range_kept HC6r.out hk) 6 _ rfl)) ?_
   refine fsteps_cons 5 rfl (fun a u hE hD hk => f_call (o := ⟨some 39, _, _, _, _, _⟩) 38 #[.int .i64 q.h, .int .i64 0, .int .i64 n] rfl (wanted_none rfl _) (exec_call 38 _ [.tmp 36, .const (.int .i64 0), .tmp 38] _ [.int .i64 q.h, .int .i64 0, .int .i64 n] Try.func38 (by kernel_rfl) (by kernel_rfl) rfl (show [a.eval (.tmp 36), a.eval (.const (.int .i64 0)), a.eval (.tmp 38)] = [.int .i64 q.h, .int .i64 0, .int .i64 n] from (by rw [show a.eval (.tmp 36) = .int .i64 q.h from (hD 1 36 (by kernel_rfl)), show a.eval (.tmp 38) = .int .i64 n from (hD 3 38 (by kernel_rfl))] <;> rfl)) u) ((by rw [← HH.out]; exact within_is q.h 0 n u (by omega) (by omega) (by omega)))) ?_
   refine sv 6 rfl rfl rfl (fun a u hE hD hk => exec_fldo 25 7 7 (.tmp 3) (g3) (0) (7) rfl (hE 3 (.pointer (some ⟨g3, 0, none⟩)) (by kernel_rfl) (by kernel_rfl)) (by kernel_rfl) rfl) ?_
   exact fsteps_nil
  intro gv w7a hV k7a
  rw [show dstsOf _ 6 = [35, 36, 37, 38, 39, 40] by kernel_rfl]
  simp only [fC, fN, sA, sS, sZ, dS, dZ]
  rw [show gv 40 = .pointer (some ⟨g3, 7, none⟩) from hV 5 40 (by kernel_rfl)]
  rw [show gv 39 = .int .i64 h from hV 4 39 (by kernel_rfl)]
  clear hV
  refine l_st1 (o := ⟨none, _, _, _, _, _⟩) 3 g3 7 25 _ (.int .i64 h) (.tmp 40) (.tmp 39) rfl rfl (by kernel_rfl) (by kernel_rfl) (by kernel_rfl) rfl rfl (HC6.out.kept k7a) (by rw [Ord.len9]; omega) ?_
  intro w7 hC7 hk7 hs7
  simp only [Act.put]
  refine wpList_nil ?_
  have K7 : Keep (· = g3) w6 w7 := (Keep.mono (T := (· = g3)) k7a (fun _ _ h => h.elim)).trans hk7 (fun _ _ h => h)
  have HC7 : Hid (Blk w7 g3 25 (Ord.mk t i d (1 + s) (1 + e) p n h 0).cells) := hC7
  have HC7r := Lib.hid (blk_range HC7.out)
  have HA7 := Lib.hid (range_keep HA6.out K7 (by omega))
  have HBX7 := Lib.hid (HBX6.out.keep K7 (by omega))
  have kw7 : Kept w w7 := kw6.trans' K7 (by omega)
  have z7 := K7.size
  clear hC7 hk7 K7 HA6 HBX6 HC6 HC6r k7a kw6
  go_upto_region 9 with fail
  refine wp_text 1 [.eq ((Ord.mk t i d (1 + s) (1 + e) p n h 0).v)] rfl (by kernel_rfl) ?_ ?_
  ·refine sv 1 rfl rfl rfl (fun a u hE hD hk => exec_ldS 25 _ (.tmp 3) (g3) (0) ((Ord.mk t i d (1 + s) (1 + e) p n h 0).cells) rfl (hE 3 (.pointer (some ⟨g3, 0, none⟩)) (by kernel_rfl) (by kernel_rfl)) (range_kept HC7r.out hk) Try.underlying25 (by rw [(Ord.mk t i d (1 + s) (1 + e) p n h 0).len9]; exact ord_size)) ?_
   exact fsteps_nil
  intro gv w8 hV k8
  rw [show dstsOf _ 1 = [44] by kernel_rfl]
  simp only [fC, fN, sA, sS, sZ, dS, dZ]
  rw [show gv 44 = (Ord.mk t i d (1 + s) (1 + e) p n h 0).v from hV 0 44 (by kernel_rfl)]
  clear hV
  refine l_setS (o := ⟨none, _, _, _, _, _⟩) 25 g2 25 zeroO.cells (Ord.mk t i d (1 + s) (1 + e) p n h 0).cells (.tmp 2) (.tmp 44) rfl rfl (by kernel_rfl) (by kernel_rfl) (HBX7.out.kept k8) (by rw [Ord.len9]; exact ord_size) (by rw [Ord.len9, Ord.len9]) (Ord.one1 _) ?_
  intro wz hCz hkz hsz
  simp only [Act.put]
  refine wpList_nil ?_
  go_wp2
  refine bodyPost_ret (results_cell (p := 2) rfl _ _ g2 _ (Ord.mk t i d (1 + s) (1 + e) p n h 0).cells rfl hCz Try.underlying25 (by rw [Ord.len9]; exact ord_size)) rfl ?_
  refine ⟨?_, (kw7.trans k8).trans' hkz (by omega)⟩
  rw [HQ2.out, if_neg (by omega), if_pos (.inl hk1)]
  rfl
 ·go_upto_region 4 with fail
  refine wp_text 2 [.eq (.bool false), .eq (.bool false)] rfl (by kernel_rfl) ?_ ?_
  ·refine fsteps_cons 1 rfl (fun a u hE hD hk => f_as (show ((decide (((1 + e) : Int) = (1 : Int))) : Bool) = false from decide_eq_false hk1) (f_val (o := ⟨some 33, _, _, _, _, _⟩) (.bool (decide (((1 + e) : Int) = (1 : Int)))) rfl (wanted_none rfl _) (exec_eqn (p := (1 + e)) (q := 1) rfl (hE 31 (.int .i64 (1 + e)) (by kernel_rfl) (by kernel_rfl)) rfl) rfl)) ?_
   refine sv 2 rfl rfl rfl (fun a u hE hD hk => exec_assign (.tmp 33) _ rfl (hD 0 33 (by kernel_rfl))) ?_
   exact fsteps_nil
  intro gv w6 hV k6
  rw [show dstsOf _ 2 = [33, 32] by kernel_rfl]
  simp only [fC, fN, sA, sS, sZ, dS, dZ]
  rw [show gv 32 = .bool false from hV 1 32 (by kernel_rfl)]
  clear hV
  refine wpList_nil ?_
  have HC6 := Lib.hid (HC5.out.kept k6)
  have HC6r := Lib.hid (blk_range HC6.out)
  have HA6 := Lib.hid (range_kept HA5.out k6)
  have HBX6 := Lib.hid (HBX5.out.kept k6)
  have kw6 := kw5.trans k6
  have z6 := k6.size
  clear HC5 HC5r HA5 HBX5 kw5 k6
  by_cases hk5 : 1 + e = 5
  ·go_upto_region 5 with fail
   refine wp_text 2 [.eq (.bool true), .eq (.bool true)] rfl (by kernel_rfl) ?_ ?_
   ·refine fsteps_cons 1 rfl (fun a u hE hD hk => f_as (show ((decide (((1 + e) : Int) = (5 : Int))) : Bool) = true from decide_eq_true hk5) (f_val (o := ⟨some 34, _, _, _, _, _⟩) (.bool (decide (((1 + e) : Int) = (5 : Int)))) rfl (wanted_none rfl _) (exec_eqn (p := (1 + e)) (q := 5) rfl (hE 31 (.int .i64 (1 + e)) (by kernel_rfl) (by kernel_rfl)) rfl) rfl)) ?_
    refine sv 2 rfl rfl rfl (fun a u hE hD hk => exec_assign (.tmp 34) _ rfl (hD 0 34 (by kernel_rfl))) ?_
    exact fsteps_nil
   intro gv w7 hV k7
   rw [show dstsOf _ 2 = [34, 32] by kernel_rfl]
   simp only [fC, fN, sA, sS, sZ, dS, dZ]
   rw [show gv 32 = .bool true from hV 1 32 (by kernel_rfl)]
   clear hV
   refine wpList_nil ?_
   have HC7 := Lib.hid (HC6.out.kept k7)
   have HC7r := Lib.hid (blk_range HC7.out)
   have HA7 := Lib.hid (range_kept HA6.out k7)
   have HBX7 := Lib.hid (HBX6.out.kept k7)
   have kw7 := kw6.trans k7
   have z7 := k7.size
   clear HC6 HC6r HA6 HBX6 kw6 k7
   go_upto_region 6 with fail
   refine wp_text 6 [.eq (.pointer (some ⟨g1, 5, none⟩)), .eq (.int .i64 q.h), .eq (.pointer (some ⟨g3, 6, none⟩)), .eq (.int .i64 n), .eq (.int .i64 h), .eq (.pointer (some ⟨g3, 7, none⟩))] rfl (by kernel_rfl) ?_ ?_
   ·refine sv 1 rfl rfl rfl (fun a u hE hD hk => exec_fldo 48 5 5 (.tmp 1) (g1) (0) (5) rfl (hE 1 (.pointer (some ⟨g1, 0, none⟩)) (by kernel_rfl) (by kernel_rfl)) (by kernel_rfl) rfl) ?_
    refine sv 2 rfl rfl rfl (fun a u hE hD hk => exec_loadi 3 Try.underlying3 (.tmp 35) ⟨g1, 5, none⟩ (.int .i64 q.h) rfl (hD 0 35 (by kernel_rfl)) (range_int (range_kept HA7.out hk) 5 _ rfl)) ?_
    refine sv 3 rfl rfl rfl (fun a u hE hD hk => exec_fldo 25 6 6 (.tmp 3) (g3) (0) (6) rfl (hE 3 (.pointer (some ⟨g3, 0, none⟩)) (by kernel_rfl) (by kernel_rfl)) (by kernel_rfl) rfl) ?_
    refine sv 4 rfl rfl rfl (fun a u hE hD hk => exec_loadi 3 Try.underlying3 (.tmp 37) ⟨g3, 6, none⟩ (.int .i64 n) rfl (hD 2 37 (by kernel_rfl)) (range_int (range_kept HC7r.out hk) 6 _ rfl)) ?_
    refine fsteps_cons 5 rfl (fun a u hE hD hk => f_call (o := ⟨some 39, _, _, _, _, _⟩) 38 #[.int .i64 q.h, .int .i64 0, .int .i64 n] rfl (wanted_none rfl _) (exec_call 38 _ [.tmp 36, .const (.int .i64 0), .tmp 38] _ [.int .i64 q.h, .int .i64 0, .int .i64 n] Try.func38 (by kernel_rfl) (by kernel_rfl) rfl (show [a.eval (.tmp 36), a.eval (.const (.int .i64 0)), a.eval (.tmp 38)] = [.int .i64 q.h, .int .i64 0, .int .i64 n] from (by rw [show a.eval (.tmp 36) = .int .i64 q.h from (hD 1 36 (by kernel_rfl)), show a.eval (.tmp 38) = .int .i64 n from (hD 3 38 (by kernel_rfl))] <;> rfl)) u) ((by rw [← HH.out]; exact within_is q.h 0 n u (by omega) (by omega) (by omega)))) ?_
    refine sv 6 rfl rfl rfl (fun a u hE hD hk => exec_fldo 25 7 7 (.tmp 3) (g3) (0) (7) rfl (hE 3 (.pointer (some ⟨g3, 0, none⟩)) (by kernel_rfl) (by kernel_rfl)) (by kernel_rfl) rfl) ?_
    exact fsteps_nil
   intro gv w8a hV k8a
   rw [show dstsOf _ 6 = [35, 36, 37, 38, 39, 40] by kernel_rfl]
   simp only [fC, fN, sA, sS, sZ, dS, dZ]
   rw [show gv 40 = .pointer (some ⟨g3, 7, none⟩) from hV 5 40 (by kernel_rfl)]
   rw [show gv 39 = .int .i64 h from hV 4 39 (by kernel_rfl)]
   clear hV
   refine l_st1 (o := ⟨none, _, _, _, _, _⟩) 3 g3 7 25 _ (.int .i64 h) (.tmp 40) (.tmp 39) rfl rfl (by kernel_rfl) (by kernel_rfl) (by kernel_rfl) rfl rfl (HC7.out.kept k8a) (by rw [Ord.len9]; omega) ?_
   intro w8 hC8 hk8 hs8
   simp only [Act.put]
   refine wpList_nil ?_
   have K8 : Keep (· = g3) w7 w8 := (Keep.mono (T := (· = g3)) k8a (fun _ _ h => h.elim)).trans hk8 (fun _ _ h => h)
   have HC8 : Hid (Blk w8 g3 25 (Ord.mk t i d (1 + s) (1 + e) p n h 0).cells) := hC8
   have HC8r := Lib.hid (blk_range HC8.out)
   have HA8 := Lib.hid (range_keep HA7.out K8 (by omega))
   have HBX8 := Lib.hid (HBX7.out.keep K8 (by omega))
   have kw8 : Kept w w8 := kw7.trans' K8 (by omega)
   have z8 := K8.size
   clear hC8 hk8 K8 HA7 HBX7 HC7 HC7r k8a kw7
   go_upto_region 9 with fail
   refine wp_text 1 [.eq ((Ord.mk t i d (1 + s) (1 + e) p n h 0).v)] rfl (by kernel_rfl) ?_ ?_
   ·refine sv 1 rfl rfl rfl (fun a u hE hD hk => exec_ldS 25 _ (.tmp 3) (g3) (0) ((Ord.mk t i d (1 + s) (1 + e) p n h 0).cells) rfl (hE 3 (.pointer (some ⟨g3, 0, none⟩)) (by kernel_rfl) (by kernel_rfl)) (range_kept HC8r.out hk) Try.underlying25 (by rw [(Ord.mk t i d (1 + s) (1 + e) p n h 0).len9]; exact ord_size)) ?_
    exact fsteps_nil
   intro gv w9 hV k9
   rw [show dstsOf _ 1 = [44] by kernel_rfl]
   simp only [fC, fN, sA, sS, sZ, dS, dZ]
   rw [show gv 44 = (Ord.mk t i d (1 + s) (1 + e) p n h 0).v from hV 0 44 (by kernel_rfl)]
   clear hV
   refine l_setS (o := ⟨none, _, _, _, _, _⟩) 25 g2 25 zeroO.cells (Ord.mk t i d (1 + s) (1 + e) p n h 0).cells (.tmp 2) (.tmp 44) rfl rfl (by kernel_rfl) (by kernel_rfl) (HBX8.out.kept k9) (by rw [Ord.len9]; exact ord_size) (by rw [Ord.len9, Ord.len9]) (Ord.one1 _) ?_
   intro wz hCz hkz hsz
   simp only [Act.put]
   refine wpList_nil ?_
   go_wp2
   refine bodyPost_ret (results_cell (p := 2) rfl _ _ g2 _ (Ord.mk t i d (1 + s) (1 + e) p n h 0).cells rfl hCz Try.underlying25 (by rw [Ord.len9]; exact ord_size)) rfl ?_
   refine ⟨?_, (kw8.trans k9).trans' hkz (by omega)⟩
   rw [HQ2.out, if_neg (by omega), if_pos (.inr hk5)]
   rfl
  ·go_upto_region 5 with fail
   refine wp_text 2 [.eq (.bool false), .eq (.bool false)] rfl (by kernel_rfl) ?_ ?_
   ·refine fsteps_cons 1 rfl (fun a u hE hD hk => f_as (show ((decide (((1 + e) : Int) = (5 : Int))) : Bool) = false from decide_eq_false hk5) (f_val (o := ⟨some 34, _, _, _, _, _⟩) (.bool (decide (((1 + e) : Int) = (5 : Int)))) rfl (wanted_none rfl _) (exec_eqn (p := (1 + e)) (q := 5) rfl (hE 31 (.int .i64 (1 + e)) (by kernel_rfl) (by kernel_rfl)) rfl) rfl)) ?_
    refine sv 2 rfl rfl rfl (fun a u hE hD hk => exec_assign (.tmp 34) _ rfl (hD 0 34 (by kernel_rfl))) ?_
    exact fsteps_nil
   intro gv w7 hV k7
   rw [show dstsOf _ 2 = [34, 32] by kernel_rfl]
   simp only [fC, fN, sA, sS, sZ, dS, dZ]
   rw [show gv 32 = .bool false from hV 1 32 (by kernel_rfl)]
   clear hV
   refine wpList_nil ?_
   have HC7 := Lib.hid (HC6.out.kept k7)
   have HC7r := Lib.hid (blk_range HC7.out)
   have HA7 := Lib.hid (range_kept HA6.out k7)
   have HBX7 := Lib.hid (HBX6.out.kept k7)
   have kw7 := kw6.trans k7
   have z7 := k7.size
   clear HC6 HC6r HA6 HBX6 kw6 k7
   by_cases hk2 : 1 + e = 2
   ·go_upto_region 7 with fail
    refine wp_text 2 [.eq (.bool true), .eq (.bool true)] rfl (by kernel_rfl) ?_ ?_
    ·refine fsteps_cons 1 rfl (fun a u hE hD hk => f_as (show ((decide (((1 + e) : Int) = (2 : Int))) : Bool) = true from decide_eq_true hk2) (f_val (o := ⟨some 42, _, _, _, _, _⟩) (.bool (decide (((1 + e) : Int) = (2 : Int)))) rfl (wanted_none rfl _) (exec_eqn (p := (1 + e)) (q := 2) rfl (hE 31 (.int .i64 (1 + e)) (by kernel_rfl) (by kernel_rfl)) rfl) rfl)) ?_
     refine sv 2 rfl rfl rfl (fun a u hE hD hk => exec_assign (.tmp 42) _ rfl (hD 0 42 (by kernel_rfl))) ?_
     exact fsteps_nil
    intro gv w8 hV k8
    rw [show dstsOf _ 2 = [42, 41] by kernel_rfl]
    simp only [fC, fN, sA, sS, sZ, dS, dZ]
    rw [show gv 41 = .bool true from hV 1 41 (by kernel_rfl)]
    clear hV
    refine wpList_nil ?_
    have HC8 := Lib.hid (HC7.out.kept k8)
    have HC8r := Lib.hid (blk_range HC8.out)
    have HA8 := Lib.hid (range_kept HA7.out k8)
    have HBX8 := Lib.hid (HBX7.out.kept k8)
    have kw8 := kw7.trans k8
    have z8 := k8.size
    clear HC7 HC7r HA7 HBX7 kw7 k8
    go_upto_region 8 with fail
    refine wp_text 1 [.eq (.pointer (some ⟨g3, 5, none⟩))] rfl (by kernel_rfl) ?_ ?_
    ·refine sv 1 rfl rfl rfl (fun a u hE hD hk => exec_fldo 25 5 5 (.tmp 3) (g3) (0) (5) rfl (hE 3 (.pointer (some ⟨g3, 0, none⟩)) (by kernel_rfl) (by kernel_rfl)) (by kernel_rfl) rfl) ?_
     exact fsteps_nil
    intro gv w9a hV k9a
    rw [show dstsOf _ 1 = [43] by kernel_rfl]
    simp only [fC, fN, sA, sS, sZ, dS, dZ]
    rw [show gv 43 = .pointer (some ⟨g3, 5, none⟩) from hV 0 43 (by kernel_rfl)]
    clear hV
    refine l_st1 (o := ⟨none, _, _, _, _, _⟩) 3 g3 5 25 _ (.int .i64 0) (.tmp 43) (.const (.int .i64 0)) rfl rfl (by kernel_rfl) (by kernel_rfl) rfl rfl rfl (HC8.out.kept k9a) (by rw [Ord.len9]; omega) ?_
    intro w9 hC9 hk9 hs9
    simp only [Act.put]
    refine wpList_nil ?_
    have K9 : Keep (· = g3) w8 w9 := (Keep.mono (T := (· = g3)) k9a (fun _ _ h => h.elim)).trans hk9 (fun _ _ h => h)
    have HC9 : Hid (Blk w9 g3 25 (Ord.mk t i d (1 + s) (1 + e) 0 n 0 0).cells) := hC9
    have HC9r := Lib.hid (blk_range HC9.out)
    have HA9 := Lib.hid (range_keep HA8.out K9 (by omega))
    have HBX9 := Lib.hid (HBX8.out.keep K9 (by omega))
    have kw9 : Kept w w9 := kw8.trans' K9 (by omega)
    have z9 := K9.size
    clear hC9 hk9 K9 HA8 HBX8 HC8 HC8r k9a kw8
    go_upto_region 9 with fail
    refine wp_text 1 [.eq ((Ord.mk t i d (1 + s) (1 + e) 0 n 0 0).v)] rfl (by kernel_rfl) ?_ ?_
    ·refine sv 1 rfl rfl rfl (fun a u hE hD hk => exec_ldS 25 _ (.tmp 3) (g3) (0) ((Ord.mk t i d (1 + s) (1 + e) 0 n 0 0).cells) rfl (hE 3 (.pointer (some ⟨g3, 0, none⟩)) (by kernel_rfl) (by kernel_rfl)) (range_kept HC9r.out hk) Try.underlying25 (by rw [(Ord.mk t i d (1 + s) (1 + e) 0 n 0 0).len9]; exact ord_size)) ?_
     exact fsteps_nil
    intro gv w10 hV k10
    rw [show dstsOf _ 1 = [44] by kernel_rfl]
    simp only [fC, fN, sA, sS, sZ, dS, dZ]
    rw [show gv 44 = (Ord.mk t i d (1 + s) (1 + e) 0 n 0 0).v from hV 0 44 (by kernel_rfl)]
    clear hV
    refine l_setS (o := ⟨none, _, _, _, _, _⟩) 25 g2 25 zeroO.cells (Ord.mk t i d (1 + s) (1 + e) 0 n 0 0).cells (.tmp 2) (.tmp 44) rfl rfl (by kernel_rfl) (by kernel_rfl) (HBX9.out.kept k10) (by rw [Ord.len9]; exact ord_size) (by rw [Ord.len9, Ord.len9]) (Ord.one1 _) ?_
    intro wz hCz hkz hsz
    simp only [Act.put]
    refine wpList_nil ?_
    go_wp2
    refine bodyPost_ret (results_cell (p := 2) rfl _ _ g2 _ (Ord.mk t i d (1 + s) (1 + e) 0 n 0 0).cells rfl hCz Try.underlying25 (by rw [Ord.len9]; exact ord_size)) rfl ?_
    refine ⟨?_, (kw9.trans k10).trans' hkz (by omega)⟩
    rw [HQ2.out, if_pos hk2, if_neg (by omega)]
    rfl
   ·go_upto_region 7 with fail
    refine wp_text 2 [.eq (.bool false), .eq (.bool false)] rfl (by kernel_rfl) ?_ ?_
    ·refine fsteps_cons 1 rfl (fun a u hE hD hk => f_as (show ((decide (((1 + e) : Int) = (2 : Int))) : Bool) = false from decide_eq_false hk2) (f_val (o := ⟨some 42, _, _, _, _, _⟩) (.bool (decide (((1 + e) : Int) = (2 : Int)))) rfl (wanted_none rfl _) (exec_eqn (p := (1 + e)) (q := 2) rfl (hE 31 (.int .i64 (1 + e)) (by kernel_rfl) (by kernel_rfl)) rfl) rfl)) ?_
     refine sv 2 rfl rfl rfl (fun a u hE hD hk => exec_assign (.tmp 42) _ rfl (hD 0 42 (by kernel_rfl))) ?_
     exact fsteps_nil
    intro gv w8 hV k8
    rw [show dstsOf _ 2 = [42, 41] by kernel_rfl]
    simp only [fC, fN, sA, sS, sZ, dS, dZ]
    rw [show gv 41 = .bool false from hV 1 41 (by kernel_rfl)]
    clear hV
    refine wpList_nil ?_
    have HC8 := Lib.hid (HC7.out.kept k8)
    have HC8r := Lib.hid (blk_range HC8.out)
    have HA8 := Lib.hid (range_kept HA7.out k8)
    have HBX8 := Lib.hid (HBX7.out.kept k8)
    have kw8 := kw7.trans k8
    have z8 := k8.size
    clear HC7 HC7r HA7 HBX7 kw7 k8
    go_upto_region 9 with fail
    refine wp_text 1 [.eq ((Ord.mk t i d (1 + s) (1 + e) p n 0 0).v)] rfl (by kernel_rfl) ?_ ?_
    ·refine sv 1 rfl rfl rfl (fun a u hE hD hk => exec_ldS 25 _ (.tmp 3) (g3) (0) ((Ord.mk t i d (1 + s) (1 + e) p n 0 0).cells) rfl (hE 3 (.pointer (some ⟨g3, 0, none⟩)) (by kernel_rfl) (by kernel_rfl)) (range_kept HC8r.out hk) Try.underlying25 (by rw [(Ord.mk t i d (1 + s) (1 + e) p n 0 0).len9]; exact ord_size)) ?_
     exact fsteps_nil
    intro gv w9 hV k9
    rw [show dstsOf _ 1 = [44] by kernel_rfl]
    simp only [fC, fN, sA, sS, sZ, dS, dZ]
    rw [show gv 44 = (Ord.mk t i d (1 + s) (1 + e) p n 0 0).v from hV 0 44 (by kernel_rfl)]
    clear hV
    refine l_setS (o := ⟨none, _, _, _, _, _⟩) 25 g2 25 zeroO.cells (Ord.mk t i d (1 + s) (1 + e) p n 0 0).cells (.tmp 2) (.tmp 44) rfl rfl (by kernel_rfl) (by kernel_rfl) (HBX8.out.kept k9) (by rw [Ord.len9]; exact ord_size) (by rw [Ord.len9, Ord.len9]) (Ord.one1 _) ?_
    intro wz hCz hkz hsz
    simp only [Act.put]
    refine wpList_nil ?_
    go_wp2
    refine bodyPost_ret (results_cell (p := 2) rfl _ _ g2 _ (Ord.mk t i d (1 + s) (1 + e) p n 0 0).cells rfl hCz Try.underlying25 (by rw [Ord.len9]; exact ord_size)) rfl ?_
    refine ⟨?_, (kw8.trans k9).trans' hkz (by omega)⟩
    rw [HQ2.out, if_neg hk2, if_neg (by omega)]
    rfl
end Go.Proofs.Ytfpfpmhkkgfdbaa
