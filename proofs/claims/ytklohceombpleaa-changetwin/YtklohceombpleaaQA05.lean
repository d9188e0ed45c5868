/-
 Laws and contracts that the walks rest on, part 5. No condition.
-/
import Derived.Test.YtklohceombpleaaQA04
set_option linter.unusedVariables false
namespace Go.Proofs.Ytklohceombpleaa
open Go.RowKit
set_option maxRecDepth 100000
theorem exec_mx {a : Act} {o : Oper} {u : World} (x y : Operand) (ts : Array TypeId) (p q : Int) (hop : o.op = .call { callee := .builtin .max, args := #[x, y], argTypes := ts }) (hx : a.eval x = .int .i64 p) (hy : a.eval y = .int .i64 q) : (execOp a.eval o).run Try.prog u = .ok (.value (.int .i64 (mx p q))) u := by
 unfold mx
 unfold execOp
 simp only [hop, resolve, invoke, builtin, Sem.run_bind, Sem.run_pure, Result.andThen_ok, List.map_toArray, List.map_cons, List.map_nil, hx, hy]
 simp [go_sem]
theorem exec_shrU {a : Act} {o : Oper} {u : World} (x y : Operand) (ty t' : TypeId) (p q : Int) (hop : o.op = .binOp .shr ty x y t') (hx : a.eval x = .int .u64 p) (hy : a.eval y = .int .i64 q) (h0 : 0 ≤ q) : (execOp a.eval o).run Try.prog u = .ok (.value (.int .u64 (shrU p q))) u := by
 unfold execOp
 simp only [hop, hx, hy]
 simp [go_sem, Op.shift, shrU, show ¬ q < 0 by omega, IntKind.bits]
theorem exec_andU {a : Act} {o : Oper} {u : World} (x y : Operand) (ty t' : TypeId) (p q : Int) (hop : o.op = .binOp .and ty x y t') (hx : a.eval x = .int .u64 p) (hy : a.eval y = .int .u64 q) : (execOp a.eval o).run Try.prog u = .ok (.value (.int .u64 (bits .and .u64 p q))) u := by
 unfold execOp
 simp only [hop, hx, hy]
 simp [go_sem]
theorem exec_eqU {a : Act} {o : Oper} {u : World} (x y : Operand) (ty t' : TypeId) (p q : Int) (b : Bool) (hop : o.op = .binOp .eql ty x y t') (hx : a.eval x = .int .u64 p) (hy : a.eval y = .int .u64 q) (hb : decide (p = q) = b) : (execOp a.eval o).run Try.prog u = .ok (.value (.bool b)) u := by
 subst hb
 unfold execOp
 simp only [hop, hx, hy]
 simp [go_sem]
 rw [Bool.eq_iff_iff]; simp
theorem chg_l (o : Ord) (p n : Int) : stc (((o.l.set 5 p).set 6 n).set 7 (mx 0 (mn o.shw n))) [] = (o.chg p n).cells := rfl
set_option maxRecDepth 100000 in
set_option maxHeartbeats 800000 in
theorem changed_any (o : Ord) (p n : Int) (w : World) : Gives 31 #[o.v, .int .i64 p, .int .i64 n] w (.eq (o.chg p n).v) := by
 refine gives_eq ?_
 go_enter Try.func31, Try.ntmps31
 go_upto_region 0 with fail
 refine wp_text 1 [.fresh w.heap.size 24 (o.cells)] rfl (by kernel_rfl) ?_ ?_
 ·refine nW 1 rfl (fun a u E D hk=>⟨_, _, exec_box 24 _ (o.cells) rfl (eE E), ⟨_, rfl, hk.size, Blk.new u _ _⟩, ((Keep.refl _ u).alloc _)⟩) ?_
  exact fz
 intro gv w0 hV k0
 rw [dq 1 [3]]
 simp only [Fz7]
 have hv3 : (.fresh w.heap.size 24 (o.cells) : Kn).p (gv 3) w0 := hV 0 3 (by kernel_rfl)
 generalize gv 3 = v3 at hv3 ⊢
 clear hV
 obtain ⟨g3, rfl, hg3, hB3⟩ := hv3
 refine l_new (.pointer (some ⟨w0.heap.size, 0, none⟩)) (w0.alloc (.cells zeroO.cells.toArray 24)) rfl (exec_alc 24 zeroO.cells rfl zO) ?_
 have hN1 := Blk.new w0 24 zeroO.cells
 have k1 : Kept w0 (w0.alloc (.cells zeroO.cells.toArray 24)) := (Keep.refl _ w0).alloc _
 generalize w0.alloc (.cells zeroO.cells.toArray 24) = w1 at hN1 k1 ⊢
 simp only [Act.put, sA, sS, sZ]
 refine wpList_nil ?_
 obtain ⟨g6, hg6⟩ : ∃ a, w0.heap.size = a := ⟨_, rfl⟩
 rw [hg6] at hN1 ⊢
 have l3 := hB3.lt
 have l6 := hN1.lt
 have z0 := k0.size
 have z1 := k1.size
 have HB1 := Lib.hid (hB3.kept k1)
 have HN1 := Lib.hid hN1
 clear hB3 hN1
 go_upto_region 1 with fail
 refine wEp 2 [iV p, pV g3 5] [7,8] ?_ ?_
 ·refine mE 1 1 ?_
  refine fE 2 3 24 5 5 0 ?_
  exact fz
 intro w2 k2
 simp only [F8]
 refine l_setf g3 5 24 o.l [] p _ _ rfl rfl (by kernel_rfl) (by kernel_rfl) (HB1.out.kept k2) (by simp [Ord.l]) ?_
 intro w3 hB3 hk3 hs3
 simp only [Act.put]
 refine wpList_nil ?_
 have HB3 := Lib.hid hB3
 have HN3 := Lib.hid ((HN1.out.kept k2).keep hk3 (by omega))
 have k13 : Kept w w3 := ((k0.trans k1).trans k2).trans' hk3 (by omega)
 have z3 := k13.size
 clear hB3 hk3 hs3 k2 HB1 HN1
 go_upto_region 2 with fail
 refine wEp 2 [iV n, pV g3 6] [9,10] ?_ ?_
 ·refine mE 1 2 ?_
  refine fE 2 3 24 6 6 0 ?_
  exact fz
 intro w4 k4
 simp only [F8]
 refine l_setf g3 6 24 (o.l.set 5 p) [] n _ _ rfl rfl (by kernel_rfl) (by kernel_rfl) (HB3.out.kept k4) (by simp [Ord.l]) ?_
 intro w5 hB5 hk5 hs5
 simp only [Act.put]
 refine wpList_nil ?_
 have HB5 := Lib.hid hB5
 have HN5 := Lib.hid ((HN3.out.kept k4).keep hk5 (by omega))
 have k15 : Kept w w5 := (k13.trans k4).trans' hk5 (by omega)
 have z5 := k15.size
 clear hB5 hk5 hs5 k4 HB3 HN3
 go_upto_region 3 with fail
 refine wEp 6 [pV g3 7, iV o.shw, iV n, iV (mn (o.shw) (n)), iV (mx 0 (mn o.shw n)), pV g3 7] [11,12,13,14,15,16] ?_ ?_
 ·refine fE 1 3 24 7 7 0 ?_
  refine sW 2 rfl (fun a u E D hk=>exec_loadi _ Try.underlying3 _ _ _ rfl (dD D 0) (by rw [(HB5.out.kept hk).cell]; rfl)) ?_
  refine mE 3 2 ?_
  refine sW 4 rfl (fun a u E D hk=>exec_min _ _ _ (o.shw) (n) (mn (o.shw) (n)) rfl (dD D 1) (dD D 2) rfl) ?_
  refine sW 5 rfl (fun a u E D hk=>exec_mx _ _ _ 0 (mn o.shw n) rfl rfl (dD D 3)) ?_
  refine fE 6 3 24 7 7 0 ?_
  exact fz
 intro w6 k6
 simp only [F8]
 refine l_setf g3 7 24 ((o.l.set 5 p).set 6 n) [] (mx 0 (mn o.shw n)) _ _ rfl rfl (by kernel_rfl) (by kernel_rfl) (HB5.out.kept k6) (by simp [Ord.l]) ?_
 intro w7 hB7 hk7 hs7
 simp only [Act.put]
 refine wpList_nil ?_
 rw [chg_l] at hB7
 obtain ⟨c, hc⟩ : ∃ c, o.chg p n = c := ⟨_, rfl⟩
 rw [hc] at hB7
 have HC := Lib.hid hc
 have HB7 := Lib.hid (blk_range hB7)
 have HN7 := Lib.hid ((HN5.out.kept k6).keep hk7 (by omega))
 have k17 : Kept w w7 := (k15.trans k6).trans' hk7 (by omega)
 have z7 := k17.size
 clear hB7 hk7 hs7 k6 HB5 HN5 hc
 go_upto_region 4 with fail
 refine wEp 1 [c.v] [17] ?_ ?_
 ·refine sE 1 3 g3 0 c.cells Try.underlying24 (fun u hk=>range_kept HB7.out hk) (by rw [c.len9]; exact ord_size) ?_
  exact fz
 intro w8 k8
 simp only [F8]
 refine l_setS 24 g6 24 zeroO.cells c.cells _ _ rfl rfl (by kernel_rfl) (by kernel_rfl) (HN7.out.kept k8) (by rw [Ord.len9]; exact ord_size) (by rw [Ord.len9, Ord.len9]) (Ord.one1 _) ?_
 intro w9 hC9 hk9 hs9
 simp only [Act.put]
 refine wpList_nil ?_
 have k19 : Kept w w9 := (k17.trans k8).trans' hk9 (by omega)
 clear HB7 HN7 k8 hk9 hs9
 go_wp2
 refine bodyPost_ret (results_cell (p := 6) rfl _ _ g6 _ c.cells rfl hC9 Try.underlying24 (by rw [Ord.len9]; exact ord_size)) rfl ?_
 rw [HC.out]
 exact ⟨rfl, k19⟩
theorem isIn_any (T t : Int) (w : World) (h0 : 0 ≤ t) : Gives 34 #[.int .u64 T, .int .i64 t] w (.eq (.bool (bitB T t))) := by
 refine gives_eq ?_
 go_enter Try.func34, Try.ntmps34
 go_upto_region 1 with fail
 refine wE 6 [.int .u64 T, iV t, .int .u64 (shrU T t), .int .u64 (bits .and .u64 (shrU T t) 1), bV (bitB T t), bV (bitB T t)] [5,6,7,8,9,4] ?_ ?_
 ·refine mE 1 0 ?_
  refine mE 2 1 ?_
  refine sW 3 rfl (fun a u E D hk=>exec_shrU _ _ _ _ T t rfl (dD D 0) (dD D 1) h0) ?_
  refine sW 4 rfl (fun a u E D hk=>exec_andU _ _ _ _ (shrU T t) 1 rfl (dD D 2) rfl) ?_
  refine sW 5 rfl (fun a u E D hk=>exec_eqU _ _ _ _ _ 1 (bitB T t) rfl (dD D 3) rfl rfl) ?_
  refine mD 6 9 4 ?_
  exact fz
 intro w0 k0
 simp only [F8]
 go_wp2
 go_ret
 exact ⟨rfl, k0⟩
set_option maxRecDepth 100000 in
set_option maxHeartbeats 1600000 in
theorem mopen_any (w : World) (F : Nat → Prop) (p : Nat) (Mm : Mkt) (t : Int) (h : Mk w F p Mm) (hI : InvK Mm) : Gives 20 #[.pointer (some ⟨p, 0, none⟩), .int .i64 t] w (.eq (.int .i64 (openM t Mm.all))) := by
 refine gives_eq ?_
 have HM := Lib.hid h
 have HI := Lib.hid hI
 have HF := Lib.hid hI.fair
 obtain ⟨an, han⟩ : ∃ an, Mm.all.length = an := ⟨_, rfl⟩
 have hal : an ≤ 64 := by rw [← han]; exact hI.all_few
 have hwl : Mm.w.length ≤ 64 := by have := hI.few; omega
 have HAN := Lib.hid han
 clear h hI han
 go_enter Try.func20, Try.ntmps20
 go_upto_region 2 with fail
 refine wT 4 [pE p 0, .sl w.heap.size 24 9 an (ords Mm.all), iE (an : Int), iE 0] [8,9,10,11] ?_ ?_
 ·refine mE 1 0 ?_
  refine cS 2 13 [.pointer (some ⟨p, 0, none⟩)] rfl Try.func13 rfl (fun a u E D hk=>⟨ll (dD D 0) rfl, (by rw [← HAN.out]; exact (mall_any u F p Mm (HM.out.kept hk) HI.out.inv (by omega)).base hk.size)⟩) ?_
  refine sW 3 rfl (fun a u E D hk=>exec_lenS _ slO _ _ _ _ rfl rfl (D 1 9 (by kernel_rfl)).1) ?_
  refine sW 4 rfl (fun a u E D hk=>exec_move _ _ rfl rfl) ?_
  exact fz
 intro gv w0 hV k0
 simp only [Fz7]
 have hv9 : (.sl w.heap.size 24 9 an (ords Mm.all) : Kn).p (gv 9) w0 := hV 1 9 (by kernel_rfl)
 generalize gv 9 = v9 at hv9 ⊢
 rw [gQ hV 2 10 (.int .i64 (an : Int))]
 rw [gQ hV 3 11 (.int .i64 0)]
 clear hV
 obtain ⟨va, hva⟩ : ∃ x, x = v9 := ⟨_, rfl⟩
 subst hva
 have HA := Lib.hid hv9.1
 clear hv9
 go_wp2_with fail
 go_loopw [5, 11] (fun s x wr => ∃ (k : Nat), k ≤ an ∧ x = .int .i64 (k : Int) ∧ s = .int .i64 (openM t (Mm.all.take k)) ∧ Kept w0 wr) (fun s x _ => an - (intOf x).toNat)
 case atStart => exact ⟨0, Nat.zero_le _, rfl, rfl, Kept.refl _⟩
 case round =>
  obtain ⟨k, hk, rfl, rfl, hkr⟩ := hrel
  by_cases hkm : k < an
  ·obtain ⟨ga, oa, ca, rfl⟩ := HA.out.some_ (by omega)
   obtain ⟨x, hx⟩ : ∃ e, Mm.all[k]? = some e := ⟨Mm.all[k]'(by rw [HAN.out]; exact hkm), List.getElem?_eq_getElem _⟩
   have HX : Hid (wr.rangeAt ga (oa + k * 9) x.cells) := range_kept (HA.out.rngO k x hx) hkr
   have HNX := Lib.hid (openM_next t Mm.all k x hx)
   have hin := openM_in t (Mm.all.take k) (fun o ho => HF.out o (List.mem_of_mem_take ho))
   have hfx := HF.out x (List.mem_of_getElem? hx)
   have hq0 := hfx.qty0
   have hq1 := hfx.qty1
   have hl64 : (Mm.all.take k).length ≤ 64 := by rw [List.length_take]; omega
   have HQ : Hid (qtyOf t x = if x.tr = t then x.qty else 0) := rfl
   obtain ⟨s0, hs0⟩ : ∃ s, openM t (Mm.all.take k) = s := ⟨_, rfl⟩
   rw [hs0] at hin HNX ⊢
   clear hx hfx hs0
   go_upto_region 4 with fail
   refine wEp 2 [pV ga (oa + k * 9), x.v] [13,14] ?_ ?_
   ·refine sW 1 rfl (fun a u E D hk=>exec_ixo slO _ _ (ga) (oa) an ca k (oa + k * 9) ((k : Int)) rfl (eE E) (eE E) (by first | rfl | omega) (hkm) (by first | rfl | omega)) ?_
    refine sD 2 13 0 x.cells Try.underlying24 (fun u hk=>range_kept HX.out hk) (by rw [x.len9]; exact ord_size) ?_
    exact fz
   intro w5 k5
   simp only [F8]
   refine l_new (.pointer (some ⟨w5.heap.size, 0, none⟩)) (w5.alloc (.cells zeroO.cells.toArray 24)) rfl (exec_alc 24 zeroO.cells rfl zO) ?_
   have hN6 := Blk.new w5 24 zeroO.cells
   have k6 : Kept w5 (w5.alloc (.cells zeroO.cells.toArray 24)) := (Keep.refl _ w5).alloc _
   generalize w5.alloc (.cells zeroO.cells.toArray 24) = w6 at hN6 k6 ⊢
   simp only [Act.put, sA, sS, sZ]
   refine l_setS 24 w5.heap.size 24 zeroO.cells x.cells _ _ rfl rfl (by kernel_rfl) (by kernel_rfl) hN6 (by rw [Ord.len9]; exact ord_size) (by rw [Ord.len9, Ord.len9]) (Ord.one1 _) ?_
   intro w7 hC7 hk7 hs7
   simp only [Act.put]
   refine wpList_nil ?_
   obtain ⟨b7, h7⟩ : ∃ a, w5.heap.size = a := ⟨_, rfl⟩
   rw [h7] at hN6 hC7 hk7 ⊢
   have z5 := k5.size
   have k47 : Kept w0 w7 := hkr.trans ((k5.trans k6).trans' hk7 (by omega))
   have HX7 := Lib.hid (blk_range hC7)
   clear hN6 hC7 hk7 hs7 k6 k5 hkr HX
   by_cases ht : x.tr = t
   ·have HQt : Hid (s0 + x.qty = openM t (Mm.all.take (k + 1))) := by show _ = _; rw [HNX.out, HQ.out, if_pos ht]
    go_upto_region 5 with fail
    refine wE 4 [pV b7 0, iV x.tr, iV t, bV true] [15,16,17,18] ?_ ?_
    ·refine fE 1 7 24 0 0 0 ?_
     refine lD 2 15 0 Try.underlying3 (fun u hk=>range_int (range_kept HX7.out hk) 0 _ rfl) ?_
     refine mE 3 1 ?_
     refine aS 4 rfl (fun a u E D hk=>exec_eqn rfl (dD D 1) (dD D 2)) (decide_eq_true ht) ?_
     exact fz
    intro w8 k8
    simp only [F8]
    have HX8 := Lib.hid (range_kept HX7.out k8)
    have k48 := k47.trans k8
    clear HX7 k47 k8
    go_upto_region 6 with fail
    refine wEp 4 [iV s0, pV b7 6, iV x.qty, iV ((s0 : Int) + (x.qty : Int))] [19,20,21,22] ?_ ?_
    ·refine mE 1 5 ?_
     refine fE 2 7 24 6 6 0 ?_
     refine lD 3 20 1 Try.underlying3 (fun u hk=>range_int (range_kept HX8.out hk) 6 _ rfl) ?_
     refine sW 4 rfl (fun a u E D hk=>exec_addn (p := (s0)) (q := (x.qty)) ((s0 : Int) + (x.qty : Int)) rfl (dD D 0) (dD D 2) rfl (by omega) (by omega)) ?_
     exact fz
    intro w9 k9
    simp only [F8]
    refine l_val (.int .i64 ((s0 : Int) + (x.qty : Int))) rfl (exec_assign _ _ rfl (by kernel_rfl)) ?_
    simp only [Act.put, sA, sS, sZ]
    refine wpList_nil ?_
    rw [HQt.out]
    have k49 := k48.trans k9
    clear HX8 k48 k9
    go_wp2
    exact ⟨⟨k + 1, by omega, by go_num, rfl, k49⟩, by simp [intOf]; omega⟩
   ·have HQt : Hid (s0 = openM t (Mm.all.take (k + 1))) := by show _ = _; rw [HNX.out, HQ.out, if_neg ht]; omega
    go_upto_region 5 with fail
    refine wE 4 [pV b7 0, iV x.tr, iV t, bV false] [15,16,17,18] ?_ ?_
    ·refine fE 1 7 24 0 0 0 ?_
     refine lD 2 15 0 Try.underlying3 (fun u hk=>range_int (range_kept HX7.out hk) 0 _ rfl) ?_
     refine mE 3 1 ?_
     refine aS 4 rfl (fun a u E D hk=>exec_eqn rfl (dD D 1) (dD D 2)) (decide_eq_false ht) ?_
     exact fz
    intro w8 k8
    simp only [F8]
    rw [HQt.out]
    have k48 := k47.trans k8
    clear HX7 k47 k8
    go_wp2
    exact ⟨⟨k + 1, by omega, by go_num, rfl, k48⟩, by simp [intOf]; omega⟩
  ·have hke : k = Mm.all.length := by rw [HAN.out]; omega
   have HE : Hid (openM t (Mm.all.take k) = openM t Mm.all) := by show _ = _; rw [hke, List.take_length]
   rw [HE.out]
   have kw := k0.trans hkr
   clear hke
   go_wp2
   go_ret
   exact ⟨rfl, kw⟩
def AmdIn (w : World) (F : Nat → Prop) (p : Nat) (x : List Ot × Int × Mkt) (r : Ending) (w' : World) : Prop :=
 ∃ F' v Z, r = .returned (.tuple #[v, .int .i64 x.2.1]) ∧ Mk w' F' p x.2.2 ∧ Outs w' w.heap.size F' v x.1 Z ∧ Grow w F F' ∧ Keep F w w'
theorem outs_nil (w : World) (base : Nat) (F : Nat → Prop) : Outs w base F (.slice none 0 0) [] [] :=
 ⟨rfl, Sl.nil _ _ _, fun b hb => (by simp [Value.ownBlock] at hb), fun z hz => (by cases hz), fun z hz => (by cases hz)⟩
theorem less_off {B : Bok} {t i n : Int} (h : (B.less t i n).1 = false) : (B.less t i n).2 = B := by
 unfold Bok.less at h ⊢
 split
 ·rename_i h1
  rw [if_pos h1] at h
  cases h
 ·rename_i h1
  rw [if_neg h1] at h
  split
  ·rename_i h2
   rw [if_pos h2] at h
   cases h
  ·rfl
theorem mless_at (w : World) (p q : Nat) (v : Value) (Fb : Nat → Prop) (Mm : Mkt) (t i n : Int) (hP : MkP w p q v Fb Mm) (hI : Inv Mm.b) : Calls Try.prog 33 #[.pointer (some ⟨q, 0, none⟩), .int .i64 t, .int .i64 i, .int .i64 n] w fun r w' => ∃ F', r = .returned (.bool (Mm.less t i n).1) ∧ Mk w' F' p (Mm.less t i n).2 ∧ Grow w (foot p v Fb) F' ∧ Keep (foot p v Fb) w w' := by
 refine (bless_any w Fb q Mm.b t i n hP.bk hI).mono ?_
 rintro r w' ⟨F2, rfl, h1, h2, h3⟩
 have hpl := hP.blk.lt
 have hpF : ¬ F2 p := fun h => (h2 p h).elim hP.nb (fun h => by omega)
 have hv : ∀ b, v.ownBlock = some b → b ≠ p ∧ ¬ F2 b := fun b hb => ⟨(hP.nv b hb).1, fun h => (h2 b h).elim (hP.nv b hb).2 (fun h => by have := hP.sl.lt hb; omega)⟩
 have hP2 : MkP w' p q v F2 (Mm.less t i n).2 := ⟨hP.blk.keep h3 hP.nb, h1, hP.sl.keep h3 (fun b hb => (hP.nv b hb).2), hpF, hv⟩
 exact ⟨_, rfl, hP2.close, fun b hb => hb.elim (fun h => .inl (.inl h)) (fun h => (h2 b h).imp .inr id), h3.mono (fun b _ hb => .inr hb)⟩
set_option maxRecDepth 100000 in
set_option maxHeartbeats 3200000 in
theorem mamend_any (w : World) (F : Nat → Prop) (p : Nat) (Mm : Mkt) (t i pr n : Int) (h : Mk w F p Mm) (hI : InvK Mm) (hno : Mm.b.no ≤ 800000000000) : Calls Try.prog 17 #[.pointer (some ⟨p, 0, none⟩), .int .i64 t, .int .i64 i, .int .i64 pr, .int .i64 n] w (AmdIn w F p (Mm.amend t i pr n)) := by
 have hFl := h.lt
 have HM := Lib.hid h
 have HI := Lib.hid hI
 have hwl : Mm.w.length ≤ 64 := by have := hI.few; omega
 have HIR := Lib.hid (hI.remove t i)
 obtain ⟨y, b, hy⟩ : ∃ y b, Mm.find t i = (y, b) := ⟨_, _, rfl⟩
 obtain ⟨c, hc⟩ : ∃ c, y.chg pr n = c := ⟨_, rfl⟩
 have HA : Hid (Mm.amend t i pr n = if b = false then ([], 6, Mm) else if c.right = false then ([], 1, Mm) else if pr = y.price ∧ (Mm.less t i n).1 = true then ([], 0, (Mm.less t i n).2) else ((Mm.back t i c).1, 0, (Mm.back t i c).2)) := by
  show _ = _
  unfold Mkt.amend
  rw [hy, hc]
 have HY := Lib.hid hy
 have HCC : Hid (∀ u, Gives 31 #[y.v, .int .i64 pr, .int .i64 n] u (.eq c.v)) := fun u => by rw [← hc]; exact changed_any y pr n u
 clear h hI hy hc
 go_enter Try.func17, Try.ntmps17
 go_upto_region 1 with fail
 refine wEp 7 [pV p 0, iV t, iV i, .tuple #[y.v, .bool b], .tuple #[y.v, .bool b], y.v, bV b] [16,17,18,19,15,20,21] ?_ ?_
 ·refine mE 1 0 ?_
  refine mE 2 1 ?_
  refine mE 3 2 ?_
  refine cS 4 21 [.pointer (some ⟨p, 0, none⟩), .int .i64 t, .int .i64 i] rfl Try.func21 rfl (fun a u E D hk=>⟨ll (dD D 0) (ll (dD D 1) (ll (dD D 2) rfl)), (by have h := mfind_any u F p Mm t i (HM.out.kept hk) HI.out.inv (by omega); rw [HY.out] at h; exact h)⟩) ?_
  refine mD 5 19 3 ?_
  refine sW 6 rfl (fun a u E D hk=>exec_extract _ [y.v, .bool b] 0 (y.v) rfl (dD D 4) rfl) ?_
  refine sW 7 rfl (fun a u E D hk=>exec_extract _ [y.v, .bool b] 1 (.bool b) rfl (dD D 4) rfl) ?_
  exact fz
 intro w1 k1
 simp only [F8]
 refine l_new (.pointer (some ⟨w1.heap.size, 0, none⟩)) (w1.alloc (.cells zeroO.cells.toArray 24)) rfl (exec_alc 24 zeroO.cells rfl zO) ?_
 have hNw2 := Blk.new w1 24 zeroO.cells
 have kw2 : Kept w1 (w1.alloc (.cells zeroO.cells.toArray 24)) := (Keep.refl _ w1).alloc _
 generalize w1.alloc (.cells zeroO.cells.toArray 24) = w2 at hNw2 kw2 ⊢
 simp only [Act.put, sA, sS, sZ]
 refine l_setS 24 w1.heap.size 24 zeroO.cells y.cells _ _ rfl rfl (by kernel_rfl) (by kernel_rfl) (hNw2) (by rw [Ord.len9]; exact ord_size) (by rw [Ord.len9, Ord.len9]) (Ord.one1 _) ?_
 intro w3 hCw3 hkw3 hsw3
 simp only [Act.put]
 refine l_val (.bool b) rfl (exec_assign _ _ rfl (by kernel_rfl)) ?_
 simp only [Act.put, sA, sS, sZ]
 refine wpList_nil ?_
 obtain ⟨b12, h12⟩ : ∃ a, w1.heap.size = a := ⟨_, rfl⟩
 rw [h12] at hNw2 hCw3 hkw3 ⊢
 have z1 := k1.size
 have kw3 : Kept w w3 := (k1.trans kw2).trans' hkw3 (by omega)
 have HY3 := Lib.hid (blk_range hCw3)
 have l12 := hCw3.lt
 have hn12 : ¬ F b12 := fun h => by have := hFl b12 h; omega
 have HM3 := Lib.hid (HM.out.kept kw3)
 clear hNw2 hCw3 hkw3 hsw3 kw2 k1 HM
 cases b with
 | false =>
  have HR : Hid (Mm.amend t i pr n = ([], 6, Mm)) := by show _ = _; rw [HA.out, if_pos rfl]
  clear HA
  go_wp2
  go_ret2
  rw [HR.out]
  exact ⟨F, _, [], rfl, HM3.out, outs_nil _ _ _, Grow.refl _ _, kw3.mono (fun _ _ h => h.elim)⟩
 | true =>
  go_upto_region 4 with fail
  refine wEp 4 [y.v, iV pr, iV n, c.v] [24,25,26,27] ?_ ?_
  ·refine sE 1 12 b12 0 y.cells Try.underlying24 (fun u hk=>range_kept HY3.out hk) (by rw [y.len9]; exact ord_size) ?_
   refine mE 2 3 ?_
   refine mE 3 4 ?_
   refine cS 4 31 [y.v, .int .i64 pr, .int .i64 n] rfl Try.func31 rfl (fun a u E D hk=>⟨ll (dD D 0) (ll (dD D 1) (ll (dD D 2) rfl)), HCC.out u⟩) ?_
   exact fz
  intro w4 k4
  simp only [F8]
  refine l_new (.pointer (some ⟨w4.heap.size, 0, none⟩)) (w4.alloc (.cells zeroO.cells.toArray 24)) rfl (exec_alc 24 zeroO.cells rfl zO) ?_
  have hNw5 := Blk.new w4 24 zeroO.cells
  have kw5 : Kept w4 (w4.alloc (.cells zeroO.cells.toArray 24)) := (Keep.refl _ w4).alloc _
  generalize w4.alloc (.cells zeroO.cells.toArray 24) = w5 at hNw5 kw5 ⊢
  simp only [Act.put, sA, sS, sZ]
  refine l_setS 24 w4.heap.size 24 zeroO.cells c.cells _ _ rfl rfl (by kernel_rfl) (by kernel_rfl) (hNw5) (by rw [Ord.len9]; exact ord_size) (by rw [Ord.len9, Ord.len9]) (Ord.one1 _) ?_
  intro w6 hCw6 hkw6 hsw6
  simp only [Act.put]
  refine wpList_nil ?_
  obtain ⟨b14, h14⟩ : ∃ a, w4.heap.size = a := ⟨_, rfl⟩
  rw [h14] at hNw5 hCw6 hkw6 ⊢
  have z4 := k4.size
  have z3 := kw3.size
  have k36 : Kept w3 w6 := (k4.trans kw5).trans' hkw6 (by omega)
  have HC6 := Lib.hid (blk_range hCw6)
  have hn14 : ¬ F b14 := fun h => by have := hFl b14 h; omega
  have HY6 := Lib.hid (range_kept HY3.out k36)
  have HM6 := Lib.hid (HM3.out.kept k36)
  have kw6 := kw3.trans k36
  clear hNw5 hCw6 hkw6 hsw6 kw5 k4 k36 kw3 HY3 HM3
  obtain ⟨e, he⟩ : ∃ e, c.err = e := ⟨_, rfl⟩
  have HE := Lib.hid he
  cases hcr : c.right with
  | false =>
   have he1 : e = 1 := by rw [← he]; unfold Ord.err; rw [hcr]; rfl
   subst he1
   have HR : Hid (Mm.amend t i pr n = ([], 1, Mm)) := by show _ = _; rw [HA.out, if_neg (by decide), if_pos hcr]
   clear HA he hcr
   go_upto_region 5 with fail
   refine wE 3 [c.v, iV 1, bV true] [28,29,30] ?_ ?_
   ·refine sE 1 14 b14 0 c.cells Try.underlying24 (fun u hk=>range_kept HC6.out hk) (by rw [c.len9]; exact ord_size) ?_
    refine cS 2 32 [c.v] rfl Try.func32 rfl (fun a u E D hk=>⟨ll (dD D 0) rfl, (by rw [← HE.out]; exact ordRight_any c u)⟩) ?_
    refine aS 3 rfl (fun a u E D hk=>exec_nen rfl (dD D 1) rfl) (by decide) ?_
    exact fz
   intro w7 k7
   simp only [F8]
   have kw7 := kw6.trans k7
   have HM7 := Lib.hid (HM6.out.kept k7)
   clear HM6 HY6 HC6 kw6 k7
   go_wp2
   go_ret2
   rw [HR.out]
   exact ⟨F, _, [], rfl, HM7.out, outs_nil _ _ _, Grow.refl _ _, kw7.mono (fun _ _ h => h.elim)⟩
  | true =>
   have he1 : e = 0 := by rw [← he]; unfold Ord.err; rw [hcr]; rfl
   subst he1
   have HA2 : Hid (Mm.amend t i pr n = if pr = y.price ∧ (Mm.less t i n).1 = true then ([], 0, (Mm.less t i n).2) else ((Mm.back t i c).1, 0, (Mm.back t i c).2)) := by show _ = _; rw [HA.out, if_neg (by decide), if_neg (by rw [hcr]; decide)]
   clear HA he hcr
   go_upto_region 5 with fail
   refine wE 3 [c.v, iV 0, bV false] [28,29,30] ?_ ?_
   ·refine sE 1 14 b14 0 c.cells Try.underlying24 (fun u hk=>range_kept HC6.out hk) (by rw [c.len9]; exact ord_size) ?_
    refine cS 2 32 [c.v] rfl Try.func32 rfl (fun a u E D hk=>⟨ll (dD D 0) rfl, (by rw [← HE.out]; exact ordRight_any c u)⟩) ?_
    refine aS 3 rfl (fun a u E D hk=>exec_nen rfl (dD D 1) rfl) (by decide) ?_
    exact fz
   intro w7 k7
   simp only [F8]
   have kw7 := kw6.trans k7
   have HM7 := Lib.hid (HM6.out.kept k7)
   have HY7 := Lib.hid (range_kept HY6.out k7)
   have HC7 := Lib.hid (range_kept HC6.out k7)
   clear HM6 HY6 HC6 kw6 k7
   by_cases hp : pr = y.price
   ·obtain ⟨hFl7, q, v, Fb, hP, hfF⟩ := HM7.out
    have HPP := Lib.hid hP
    have HFF := Lib.hid hfF
    obtain ⟨lb, hlb⟩ : ∃ lb, (Mm.less t i n).1 = lb := ⟨_, rfl⟩
    have HLB := Lib.hid hlb
    have zw7 := kw7.size
    clear hP hfF hlb hFl7
    go_upto_region 7 with fail
    refine wEp 10 [iV pr, pV b12 5, iV y.price, bV true, bV true, pV p 0, pV q 0, iV t, iV i, iV n] [31,32,33,34,35,36,37,38,39,40] ?_ ?_
    ·refine mE 1 3 ?_
     refine fE 2 12 24 5 5 0 ?_
     refine lD 3 32 1 Try.underlying3 (fun u hk=>range_int (range_kept HY7.out hk) 5 _ rfl) ?_
     refine aS 4 rfl (fun a u E D hk=>exec_eqn rfl (dD D 0) (dD D 2)) (decide_eq_true hp) ?_
     refine mD 5 34 3 ?_
     refine mE 6 0 ?_
     refine cS 7 12 [.pointer (some ⟨p, 0, none⟩)] rfl Try.func12 rfl (fun a u E D hk=>⟨ll (dD D 5) rfl, mbook_any u p q v (HPP.out.blk.kept hk)⟩) ?_
     refine mE 8 1 ?_
     refine mE 9 2 ?_
     refine mE 10 4 ?_
     exact fz
    intro w8 k8
    simp only [F8]
    refine l_call 33 #[.pointer (some ⟨q, 0, none⟩), .int .i64 t, .int .i64 i, .int .i64 n] rfl (exec_call 33 _ [.tmp 37, .tmp 38, .tmp 39, .tmp 40] _ _ Try.func33 (by kernel_rfl) (by kernel_rfl) rfl (by kernel_rfl) _) ?_
    refine (mless_at w8 p q v Fb Mm t i n (HPP.out.kept k8) HI.out.inv).mono ?_
    rintro r w9 ⟨F9, rfl, hM9, hG9, hk9⟩
    refine ⟨.bool lb, by rw [HLB.out], ?_⟩
    simp only [Act.put, sA, sS, sZ]
    refine l_val (.bool lb) rfl (exec_pick (.tmp 35) (.tmp 41) (.const (.bool false)) (.bool lb) rfl (by kernel_rfl) (by kernel_rfl)) ?_
    simp only [Act.put, sA, sS, sZ]
    refine wpList_nil ?_
    have z8 := k8.size
    have HGq : Hid (Grow w F F9) := fun b hb => (hG9 b hb).imp (HFF.out b) (fun h => by omega)
    have HKq : Hid (Keep F w w9) := (Keep.any (kw7.trans k8) hk9).mono (fun b _ hb => HFF.out b hb)
    have HCq := Lib.hid (range_keep HC7.out (Keep.any k8 hk9) (fun h => hn14 (HFF.out b14 h)))
    have l14 : b14 < w7.heap.size := by have h := HC7.out 0 (.int .i64 c.tr) rfl; exact World.block_lt_of_cell? w7 _ h
    have hbq : ¬ F9 b14 := fun h => (hG9 b14 h).elim (fun h => hn14 (HFF.out b14 h)) (fun h => by omega)
    cases lb with
    | true =>
     have HR : Hid (Mm.amend t i pr n = ([], 0, (Mm.less t i n).2)) := by show _ = _; rw [HA2.out, if_pos ⟨hp, HLB.out⟩]
     clear HA2
     go_wp2
     go_ret2
     rw [HR.out]
     exact ⟨F9, _, [], rfl, hM9, outs_nil _ _ _, HGq.out, HKq.out⟩
    | false =>
     have HR : Hid (Mm.amend t i pr n = (((Mm.remove t i).2.2.add c).1, 0, ((Mm.remove t i).2.2.add c).2)) := by show _ = _; rw [HA2.out, if_neg (fun h => by have := HLB.out; rw [h.2] at this; cases this)]; rfl
     have hoff : (Mm.less t i n).2 = Mm := by unfold Mkt.less; rw [less_off HLB.out]
     rw [hoff] at hM9
     have HMq := Lib.hid hM9
     clear HA2 hoff hM9 hG9 hk9 HPP HFF HM7 HY7 HC7 kw7 k8
     go_upto_region 9 with fail
     refine wEp 3 [pV p 0, iV t, iV i] [43,44,45] ?_ ?_
     ·refine mE 1 0 ?_
      refine mE 2 1 ?_
      refine mE 3 2 ?_
      exact fz
     intro wd kd
     simp only [F8]
     refine l_call 23 #[.pointer (some ⟨p, 0, none⟩), .int .i64 t, .int .i64 i] rfl (exec_call 23 _ [.tmp 43, .tmp 44, .tmp 45] _ _ Try.func23 (by kernel_rfl) (by kernel_rfl) rfl (by kernel_rfl) _) ?_
     refine (mremove_any wd F9 p Mm t i (HMq.out.kept kd) HI.out.inv (by omega)).mono ?_
     rintro r we ⟨Fe, rfl, hMe, hGe, hke⟩
     refine ⟨_, rfl, ?_⟩
     simp only [Act.put, sA, sS, sZ]
     refine wpList_nil ?_
     have zd := kd.size
     have ze := hke.size
     have Kde : Keep F9 w9 we := Keep.any kd hke
     have HCe := Lib.hid (range_keep HCq.out Kde hbq)
     have HGe : Hid (Grow w F Fe) := HGq.out.trans (hGe.wide zd) HKq.out.size
     have HKe : Hid (Keep F w we) := HGq.out.keep HKq.out Kde
     have HMe := Lib.hid hMe
     clear hMe hGe hke kd Kde HMq HCq HGq HKq
     go_upto_region 10 with fail
     refine wEp 2 [pV p 0, c.v] [47,48] ?_ ?_
     ·refine mE 1 0 ?_
      refine sE 2 14 b14 0 c.cells Try.underlying24 (fun u hk=>range_kept HCe.out hk) (by rw [c.len9]; exact ord_size) ?_
      exact fz
     intro wf kf
     simp only [F8]
     refine l_call 24 #[.pointer (some ⟨p, 0, none⟩), c.v] rfl (exec_call 24 _ [.tmp 47, .tmp 48] _ _ Try.func24 (by kernel_rfl) (by kernel_rfl) rfl (by kernel_rfl) _) ?_
     refine (madd_any wf Fe p (Mm.remove t i).2.2 c (HMe.out.kept kf) HIR.out.1 (by have := HIR.out.2; omega)).mono ?_
     rintro r wg ⟨Fg, vz, Zg, rfl, hMg, hOg, hGg, hkg⟩
     refine ⟨_, rfl, ?_⟩
     simp only [Act.put, sA, sS, sZ]
     refine l_val (vz) rfl (exec_assign _ _ rfl (by kernel_rfl)) ?_
     simp only [Act.put, sA, sS, sZ]
     refine l_val (.int .i64 0) rfl (exec_assign _ _ rfl (by kernel_rfl)) ?_
     simp only [Act.put, sA, sS, sZ]
     refine wpList_nil ?_
     have zf := kf.size
     have hGf : Grow w F Fg := HGe.out.trans (hGg.wide zf) HKe.out.size
     have hKf : Keep F w wg := HGe.out.keep HKe.out (Keep.any kf hkg)
     have zg := HKe.out.size
     have hOf : Outs wg w.heap.size Fg vz ((Mm.remove t i).2.2.add c).1 Zg := ⟨hOg.eq, hOg.sl, fun b hb => ⟨by have := (hOg.own b hb).1; omega, (hOg.own b hb).2⟩, hOg.fl, fun z hz b hb => ⟨by have := (hOg.flo z hz b hb).1; omega, (hOg.flo z hz b hb).2⟩⟩
     go_wp2
     go_ret2
     rw [HR.out]
     exact ⟨Fg, vz, Zg, rfl, hMg, hOf, hGf, hKf⟩
   ·have HR : Hid (Mm.amend t i pr n = (((Mm.remove t i).2.2.add c).1, 0, ((Mm.remove t i).2.2.add c).2)) := by show _ = _; rw [HA2.out, if_neg (fun h => hp h.1)]; rfl
    go_upto_region 7 with fail
    refine wE 12 [iV pr, pV b12 5, iV y.price, bV false, bV false, undef, undef, undef, undef, undef, undef, bV false] [31,32,33,34,35,36,37,38,39,40,41,42] ?_ ?_
    ·refine mE 1 3 ?_
     refine fE 2 12 24 5 5 0 ?_
     refine lD 3 32 1 Try.underlying3 (fun u hk=>range_int (range_kept HY7.out hk) 5 _ rfl) ?_
     refine aS 4 rfl (fun a u E D hk=>exec_eqn rfl (dD D 0) (dD D 2)) (decide_eq_false hp) ?_
     refine mD 5 34 3 ?_
     refine kS 6 4 ?_
     refine kS 7 4 ?_
     refine kS 8 4 ?_
     refine kS 9 4 ?_
     refine kS 10 4 ?_
     refine kS 11 4 ?_
     refine pF 12 35 4 ?_
     exact fz
    intro w9 k9
    simp only [F8]
    have HGq : Hid (Grow w F F) := Grow.refl _ _
    have HKq : Hid (Keep F w w9) := (kw7.trans k9).mono (fun _ _ h => h.elim)
    have HCq := Lib.hid (range_kept HC7.out k9)
    have hbq := hn14
    have HMq := Lib.hid (HM7.out.kept k9)
    clear HA2 HM7 HY7 HC7 kw7 k9
    go_upto_region 9 with fail
    refine wEp 3 [pV p 0, iV t, iV i] [43,44,45] ?_ ?_
    ·refine mE 1 0 ?_
     refine mE 2 1 ?_
     refine mE 3 2 ?_
     exact fz
    intro wd kd
    simp only [F8]
    refine l_call 23 #[.pointer (some ⟨p, 0, none⟩), .int .i64 t, .int .i64 i] rfl (exec_call 23 _ [.tmp 43, .tmp 44, .tmp 45] _ _ Try.func23 (by kernel_rfl) (by kernel_rfl) rfl (by kernel_rfl) _) ?_
    refine (mremove_any wd F p Mm t i (HMq.out.kept kd) HI.out.inv (by omega)).mono ?_
    rintro r we ⟨Fe, rfl, hMe, hGe, hke⟩
    refine ⟨_, rfl, ?_⟩
    simp only [Act.put, sA, sS, sZ]
    refine wpList_nil ?_
    have zd := kd.size
    have ze := hke.size
    have Kde : Keep F w9 we := Keep.any kd hke
    have HCe := Lib.hid (range_keep HCq.out Kde hbq)
    have HGe : Hid (Grow w F Fe) := HGq.out.trans (hGe.wide zd) HKq.out.size
    have HKe : Hid (Keep F w we) := HGq.out.keep HKq.out Kde
    have HMe := Lib.hid hMe
    clear hMe hGe hke kd Kde HMq HCq HGq HKq
    go_upto_region 10 with fail
    refine wEp 2 [pV p 0, c.v] [47,48] ?_ ?_
    ·refine mE 1 0 ?_
     refine sE 2 14 b14 0 c.cells Try.underlying24 (fun u hk=>range_kept HCe.out hk) (by rw [c.len9]; exact ord_size) ?_
     exact fz
    intro wf kf
    simp only [F8]
    refine l_call 24 #[.pointer (some ⟨p, 0, none⟩), c.v] rfl (exec_call 24 _ [.tmp 47, .tmp 48] _ _ Try.func24 (by kernel_rfl) (by kernel_rfl) rfl (by kernel_rfl) _) ?_
    refine (madd_any wf Fe p (Mm.remove t i).2.2 c (HMe.out.kept kf) HIR.out.1 (by have := HIR.out.2; omega)).mono ?_
    rintro r wg ⟨Fg, vz, Zg, rfl, hMg, hOg, hGg, hkg⟩
    refine ⟨_, rfl, ?_⟩
    simp only [Act.put, sA, sS, sZ]
    refine l_val (vz) rfl (exec_assign _ _ rfl (by kernel_rfl)) ?_
    simp only [Act.put, sA, sS, sZ]
    refine l_val (.int .i64 0) rfl (exec_assign _ _ rfl (by kernel_rfl)) ?_
    simp only [Act.put, sA, sS, sZ]
    refine wpList_nil ?_
    have zf := kf.size
    have hGf : Grow w F Fg := HGe.out.trans (hGg.wide zf) HKe.out.size
    have hKf : Keep F w wg := HGe.out.keep HKe.out (Keep.any kf hkg)
    have zg := HKe.out.size
    have hOf : Outs wg w.heap.size Fg vz ((Mm.remove t i).2.2.add c).1 Zg := ⟨hOg.eq, hOg.sl, fun b hb => ⟨by have := (hOg.own b hb).1; omega, (hOg.own b hb).2⟩, hOg.fl, fun z hz b hb => ⟨by have := (hOg.flo z hz b hb).1; omega, (hOg.flo z hz b hb).2⟩⟩
    go_wp2
    go_ret2
    rw [HR.out]
    exact ⟨Fg, vz, Zg, rfl, hMg, hOf, hGf, hKf⟩
theorem fold_setL (l : List Value) : ∀ (k : Nat) (pre suf : List Value), pre.length = k → l.length ≤ suf.length →
  (l.zipIdx k).foldl (fun (cs : Array Value) (x : Value × Nat) => cs.setIfInBounds x.2 x.1) (pre ++ suf).toArray = (pre ++ l ++ suf.drop l.length).toArray := by
 induction l with
 | nil =>
  intro k pre suf h1 h2
  simp
 | cons v l ih =>
  intro k pre suf h1 h2
  cases suf with
  | nil => simp at h2
  | cons s suf =>
   rw [List.zipIdx_cons, List.foldl_cons]
   have e : (pre ++ s :: suf).toArray.setIfInBounds k v = ((pre ++ [v]) ++ suf).toArray := by
    simp [List.set_append_right _ _ (show pre.length ≤ k by omega), h1]
   show List.foldl _ ((pre ++ s :: suf).toArray.setIfInBounds k v) _ = _
   rw [e, ih (k + 1) (pre ++ [v]) suf (by simp [h1]) (by simpa using h2)]
   simp
section
variable {a : Act} {o : Oper} {u : World}
theorem exec_twoS {t T : TypeId} {k bytes : Nat} (ht : SlT t T k bytes) (x y : Operand) (cs ds : List Value) (hk1 : k ≤ 1000) (hop : o.op = .buildSlice t 2 #[(0, x), (1, y)]) (hx : a.eval x = .agg cs.toArray) (hy : a.eval y = .agg ds.toArray) (hl : cs.length = k) (hl2 : ds.length = k) :
  (execOp a.eval o).run Try.prog u = .ok (.value (.slice (some ⟨u.heap.size, 0, none⟩) 2 2)) (u.alloc (.cells (cs ++ ds).toArray T)) := by
 obtain ⟨z, hz, hz2, _⟩ := ht.info
 obtain ⟨i0, hi0, hz0, hz1, _⟩ := info_parts hz
 have hp := ht.pos
 have hlen : (List.map (fun j => z.cells[j % z.cells.size]!) (List.range (2 * k))).length = 2 * k := by simp
 have hf := fold_setL cs 0 [] (List.map (fun j => z.cells[j % z.cells.size]!) (List.range (2 * k))) rfl (by rw [hlen]; omega)
 have hf2 := fold_setL ds k cs ((List.map (fun j => z.cells[j % z.cells.size]!) (List.range (2 * k))).drop cs.length) hl (by rw [List.length_drop, hlen]; omega)
 have he : (((List.map (fun j => z.cells[j % z.cells.size]!) (List.range (2 * k))).drop cs.length).drop ds.length) = [] := List.eq_nil_of_length_eq_zero (by rw [List.length_drop, List.length_drop, hlen]; omega)
 rw [he, List.append_nil] at hf2
 unfold execOp
 simp only [hop, List.map_toArray, List.map_cons, List.map_nil, hx, hy]
 have hn : ¬ 2 * k = 0 := by omega
 have hc : (Value.agg cs.toArray).cells = cs.toArray := rfl
 have hd : (Value.agg ds.toArray).cells = ds.toArray := rfl
 have hr := run_buildSlice (P := Try.prog) u t T 2 #[(0, .agg cs.toArray), (1, .agg ds.toArray)] (cs ++ ds).toArray i0 z ht.und hi0 hz0 (by rw [hz1]; omega) (by rw [hz1]; omega) (by
  have e : Array.map (fun x => z.cells[x % z.cells.size]!) (Array.range (2 * i0.size)) = (List.map (fun j => z.cells[j % z.cells.size]!) (List.range (2 * k))).toArray := by
   apply Array.toList_inj.1
   simp [hz1]
  rw [e, hz1]
  simp only [List.nil_append] at hf
  simp only [Instr.fill, hc, hd]
  simp [hl, hl2]
  rw [hf]
  refine ⟨by omega, by simp only [List.size_toArray, List.length_append, List.length_drop, hlen]; omega, ?_⟩
  rw [← hf2, List.zipIdx_eq_map_add (i := k), List.foldl_map])
 simp only [Sem.run_bind, hr, Result.andThen_ok]
 rfl
end
theorem sl_two (u : World) (T : TypeId) (k : Nat) (cs : List Value) (base : Nat) (hl : cs.length = 2 * k) (hk : k ≤ 1000) (hb : base ≤ u.heap.size) :
  Sl (u.alloc (.cells cs.toArray T)) T k (.slice (some ⟨u.heap.size, 0, none⟩) 2 2) 2 cs ∧ ∀ b, (Value.slice (some ⟨u.heap.size, 0, none⟩) 2 2).ownBlock = some b → base ≤ b := by
 refine ⟨⟨by omega, _, 2, rfl, Nat.le_refl _, by unfold maxLen; omega, fun h => (by cases h), fun ad had => ?_⟩, fun b hb' => by simp [Value.ownBlock] at hb'; omega⟩
 injection had with had
 subst had
 exact ⟨_, 0, cs, rfl, Blk.new u T cs, by omega, by rw [List.drop_zero, List.take_of_length_le (by omega)]⟩
section
variable {ops : Array Oper} {Q : Exit → Act → World → Prop} {a : Act} {w : World} {o : Oper} {rest : List Oper}
end
def mkC (firm id side price qty : Int) : Ord := ⟨firm, id, firm, side, 1, price, qty, 0, 0⟩
def c1 : Ord := mkC 1 1 1 10 5
def c2 : Ord := mkC 2 1 1 10 5
def c3 : Ord := mkC 3 1 2 10 4
def c6 : Ord := mkC 1 1 1 10 6
def CB1 : Bok := ⟨[(10, [⟨c1, 5⟩])], [], 0, 0⟩
def CB2 : Bok := ⟨[(10, [⟨c1, 5⟩, ⟨c2, 5⟩])], [], 0, 0⟩
def CB3 : Bok := ⟨[(10, [⟨c1.q 3, 3⟩, ⟨c2, 5⟩])], [], 0, 0⟩
def CBr : Bok := ⟨[(10, [⟨c2, 5⟩])], [], 0, 0⟩
def CB6 : Bok := ⟨[(10, [⟨c2, 5⟩, ⟨c6, 6⟩])], [], 0, 0⟩
def CB7 : Bok := ⟨[(10, [⟨c2.q 4, 4⟩])], [], 10, 2⟩
def CB8 : Bok := ⟨[(10, [⟨c2.q 1, 1⟩, ⟨c6, 6⟩])], [], 10, 1⟩
def oq1 : Ot := ⟨⟨c1, [], 5, true, false, 0⟩, false⟩
def oq2 : Ot := ⟨⟨c2, [], 5, true, false, 0⟩, false⟩
def oq6 : Ot := ⟨⟨c6, [], 6, true, false, 0⟩, false⟩
def fc3 : List Fl := [⟨c1.q 3, c3.q 4, 10, 3, 1⟩, ⟨c2, c3.q 1, 10, 1, 2⟩]
def fc6 : List Fl := [⟨c2, c3.q 4, 10, 4, 1⟩]
def oG (f : List Fl) : Ot := ⟨⟨c3, f, 0, false, false, 0⟩, false⟩
theorem cadd1 : Bok.zero.add c1.free = (⟨c1, [], 5, true, false, 0⟩, CB1) := by
 rw [add_go (m := ⟨[], 5, false, []⟩) (by decide) rfl]
 rfl
theorem cadd2 : CB1.add c2.free = (⟨c2, [], 5, true, false, 0⟩, CB2) := by
 rw [add_go (m := ⟨[], 5, false, []⟩) (by decide) rfl]
 rfl
theorem cadd6 : CBr.add c6.free = (⟨c6, [], 6, true, false, 0⟩, CB6) := by
 rw [add_go (m := ⟨[], 6, false, []⟩) (by decide) rfl]
 rfl
theorem cadd7 : CB3.add c3.free = (⟨c3, fc3, 0, false, false, 0⟩, CB7) := by
 have t1 : takeM 3 4 [⟨c1.q 3, 3⟩, ⟨c2, 5⟩] = ([⟨c1.q 3, 3⟩, ⟨c2, 1⟩], false, [⟨c2.q 4, 4⟩]) := by
  rw [takeM_go 3 4 ⟨c1.q 3, 3⟩ [⟨c2, 5⟩] (by decide) (by decide) (by decide)]
  rw [show nextM ⟨c1.q 3, 3⟩ (mn 4 (⟨c1.q 3, 3⟩ : Ent).n) [⟨c2, 5⟩] = [⟨c2, 5⟩] by decide, show (4 : Int) - mn 4 (⟨c1.q 3, 3⟩ : Ent).n = 1 by decide]
  rw [takeM_go 3 1 ⟨c2, 5⟩ [] (by decide) (by decide) (by decide)]
  rw [show nextM ⟨c2, 5⟩ (mn 1 (⟨c2, 5⟩ : Ent).n) [] = [⟨c2.q 4, 4⟩] by decide, takeM_zero _ _ _ (by decide)]
  rfl
 have hm : CB3.matched c3.free = ⟨fc3, 0, false, [(10, [⟨c2.q 4, 4⟩])]⟩ := by
  show matchM c3.free 0 4 [(10, [⟨c1.q 3, 3⟩, ⟨c2, 5⟩])] = _
  rw [matchM, if_pos (by decide)]
  simp only [show c3.free.firm = 3 from rfl, t1]
  rw [if_neg (by decide)]
  rfl
 rw [add_go (by decide) hm]
 rfl
theorem cadd8 : CB6.add c3.free = (⟨c3, fc6, 0, false, false, 0⟩, CB8) := by
 have t1 : takeM 3 4 [⟨c2, 5⟩, ⟨c6, 6⟩] = ([⟨c2, 4⟩], false, [⟨c2.q 1, 1⟩, ⟨c6, 6⟩]) := by
  rw [takeM_go 3 4 ⟨c2, 5⟩ [⟨c6, 6⟩] (by decide) (by decide) (by decide)]
  rw [show nextM ⟨c2, 5⟩ (mn 4 (⟨c2, 5⟩ : Ent).n) [⟨c6, 6⟩] = [⟨c2.q 1, 1⟩, ⟨c6, 6⟩] by decide, takeM_zero _ _ _ (by decide)]
  rfl
 have hm : CB6.matched c3.free = ⟨fc6, 0, false, [(10, [⟨c2.q 1, 1⟩, ⟨c6, 6⟩])]⟩ := by
  show matchM c3.free 0 4 [(10, [⟨c2, 5⟩, ⟨c6, 6⟩])] = _
  rw [matchM, if_pos (by decide)]
  simp only [show c3.free.firm = 3 from rfl, t1]
  rw [if_neg (by decide)]
  rfl
 rw [add_go (by decide) hm]
 rfl
theorem crun1 : Mkt.zero.add c1 = ([oq1], ⟨CB1, []⟩) := by
 rw [madd_enter (by decide) (by decide) cadd1 rfl]
 rw [show Mkt.zero.w = [] from rfl, cas_none (M := ⟨CB1, []⟩) rfl]
 rfl
theorem crun2 : (Mkt.mk CB1 []).add c2 = ([oq2], ⟨CB2, []⟩) := by
 rw [madd_enter (by decide) (by decide) cadd2 rfl, cas_none (M := ⟨CB2, []⟩) rfl]
 rfl
theorem crun6 : (Mkt.mk CBr []).add c6 = ([oq6], ⟨CB6, []⟩) := by
 rw [madd_enter (by decide) (by decide) cadd6 rfl, cas_none (M := ⟨CB6, []⟩) rfl]
 rfl
theorem crun7 : (Mkt.mk CB3 []).add c3 = ([oG fc3], ⟨CB7, []⟩) := by
 rw [madd_enter (by decide) (by decide) cadd7 rfl, cas_none (M := ⟨CB7, []⟩) rfl]
 rfl
theorem crun8 : (Mkt.mk CB6 []).add c3 = ([oG fc6], ⟨CB8, []⟩) := by
 rw [madd_enter (by decide) (by decide) cadd8 rfl, cas_none (M := ⟨CB8, []⟩) rfl]
 rfl
theorem camd3 : (Mkt.mk CB2 []).amend 1 1 10 3 = ([], 0, ⟨CB3, []⟩) := by
 unfold Mkt.amend
 rw [show (Mkt.mk CB2 []).find 1 1 = (c1, true) by rfl, if_neg (by decide), if_neg (by decide), show (Mkt.mk CB2 []).less 1 1 3 = (true, ⟨CB3, []⟩) by rfl, if_pos (by decide)]
theorem camd6 : (Mkt.mk CB2 []).amend 1 1 10 6 = ([oq6], 0, ⟨CB6, []⟩) := by
 unfold Mkt.amend Mkt.back
 rw [show (Mkt.mk CB2 []).find 1 1 = (c1, true) by rfl, if_neg (by decide), if_neg (by decide), show (Mkt.mk CB2 []).less 1 1 6 = (false, ⟨CB2, []⟩) by rfl, if_neg (by decide), show ((Mkt.mk CB2 []).remove 1 1).2.2 = ⟨CBr, []⟩ by rfl, show (c1, true).1.chg 10 6 = c6 by rfl, crun6]
theorem cinv1 : InvK ⟨CB1, []⟩ := by have := InvK.zero.add c1; rw [crun1] at this; exact this
theorem cinv2 : InvK ⟨CB2, []⟩ := by have := cinv1.add c2; rw [crun2] at this; exact this
theorem cinv3 : InvK ⟨CB3, []⟩ := by have := (cinv2.amend 1 1 10 3).1; rw [camd3] at this; exact this
theorem cinv6 : InvK ⟨CB6, []⟩ := by have := (cinv2.amend 1 1 10 6).1; rw [camd6] at this; exact this
theorem builtC (a b c d f g : Int) : Try.prog.built 24 [(0, .int .i64 a), (1, .int .i64 b), (2, .int .i64 c), (3, .int .i64 d), (4, .int .i64 1), (5, .int .i64 f), (6, .int .i64 g)] = some (Ord.mk a b c d 1 f g 0 0).cells.toArray := by kernel_rfl
set_option maxRecDepth 100000 in
set_option maxHeartbeats 800000 in
theorem co_any (f i s p n : Int) (w : World) : Gives 27 #[.int .i64 f, .int .i64 i, .int .i64 s, .int .i64 p, .int .i64 n] w (.eq (mkC f i s p n).v) := by
 refine gives_eq ?_
 go_enter Try.func27, Try.ntmps27
 go_upto_region 0 with fail
 refine wp_text 1 [.fresh w.heap.size 24 zeroO.cells] rfl (by kernel_rfl) ?_ ?_
 ·refine nW 1 rfl (fun a u E D hk=>⟨_, _, exec_alc 24 zeroO.cells rfl zO, ⟨_, rfl, hk.size, Blk.new u _ _⟩, ((Keep.refl _ u).alloc _)⟩) ?_
  exact fz
 intro gv w0 hV k0
 rw [dq 1 [10]]
 simp only [Fz7]
 have hv10 : (.fresh w.heap.size 24 zeroO.cells : Kn).p (gv 10) w0 := hV 0 10 (by kernel_rfl)
 generalize gv 10 = v10 at hv10 ⊢
 clear hV
 obtain ⟨g, rfl, hg, hB⟩ := hv10
 refine wpList_nil ?_
 have HB := Lib.hid hB
 have l1 := hB.lt
 clear hB
 go_upto_region 1 with fail
 refine wEp 7 [iV f, iV i, iV f, iV s, iV p, iV n, (Ord.mk f i f s 1 p n 0 0).v] [11,12,13,14,15,16,17] ?_ ?_
 ·refine mE 1 0 ?_
  refine mE 2 1 ?_
  refine mE 3 0 ?_
  refine mE 4 2 ?_
  refine mE 5 3 ?_
  refine mE 6 4 ?_
  refine sW 7 rfl (fun a u E D hk=>exec_build _ [(0, .tmp 11), (1, .tmp 12), (2, .tmp 13), (3, .tmp 14), (4, .const (.int .i64 1)), (5, .tmp 15), (6, .tmp 16)] (Ord.mk f i f s 1 p n 0 0).cells rfl (by simp only [List.map_cons, List.map_nil]; rw [show a.eval (.tmp 11) = _ from (dD D 0), show a.eval (.tmp 12) = _ from (dD D 1), show a.eval (.tmp 13) = _ from (dD D 2), show a.eval (.tmp 14) = _ from (dD D 3), show a.eval (.tmp 15) = _ from (dD D 4), show a.eval (.tmp 16) = _ from (dD D 5)]; exact builtC _ _ _ _ _ _)) ?_
  exact fz
 intro w1 k1
 simp only [F8]
 refine l_setS 24 g 24 zeroO.cells (Ord.mk f i f s 1 p n 0 0).cells _ _ rfl rfl (by kernel_rfl) (by kernel_rfl) (HB.out.kept k1) (by rw [Ord.len9]; exact ord_size) (by rw [Ord.len9, Ord.len9]) (Ord.one1 _) ?_
 intro w2 hCw2 hkw2 hsw2
 simp only [Act.put]
 refine wpList_nil ?_
 go_wp2
 refine bodyPost_ret (results_cell (p := 10) rfl _ _ g _ (Ord.mk f i f s 1 p n 0 0).cells rfl hCw2 Try.underlying24 (by rw [Ord.len9]; exact ord_size)) rfl ?_
 exact ⟨rfl, (k0.trans k1).trans' hkw2 (by omega)⟩
def trO (t : Int) : Ord := ⟨t, 0, 0, 0, 0, 0, 0, 0, 0⟩
theorem builtTO (t : Int) : Try.prog.built 24 [(0, .int .i64 t)] = some (trO t).cells.toArray := by kernel_rfl
theorem exec_trO {a : Act} {o : Oper} {u : World} (x : Operand) (t : Int) (hop : o.op = .build 24 #[(0, x)]) (hx : a.eval x = .int .i64 t) : (execOp a.eval o).run Try.prog u = .ok (.value (trO t).v) u :=
 exec_build _ [(0, x)] (trO t).cells hop (by
  simp only [List.map_cons, List.map_nil, hx]
  exact builtTO t)
theorem mamend_at (w : World) (F : Nat → Prop) (p : Nat) (M : Mkt) (t i pr n : Int) (x : List Ot × Int × Mkt) (hx : M.amend t i pr n = x) (h : Mk w F p M) (hI : InvK M) (hn : M.b.no ≤ 800000000000) : Calls Try.prog 17 #[.pointer (some ⟨p, 0, none⟩), .int .i64 t, .int .i64 i, .int .i64 pr, .int .i64 n] w (AmdIn w F p x) := by
 rw [← hx]
 exact mamend_any w F p M t i pr n h hI hn
def giveH (f : Fl) : Ent := ⟨trO f.mk_.tr, f.qty⟩
theorem ents_one1 (e : Ent) : ents [e] = e.cells := by simp [ents]
theorem ents_snoc1 (X : List Ent) (e : Ent) : ents (X ++ [e]) = ents X ++ e.cells := by simp [ents]
set_option maxRecDepth 100000 in
set_option maxHeartbeats 3200000 in
theorem cgives_any (n : Int) (L : List Ot) (M2 M3 : Mkt) (fs : List Fl) (hA : (Mkt.mk CB2 []).amend 1 1 10 n = (L, 0, M2)) (hI2 : InvK M2) (hN2 : M2.b.no ≤ 900000000000) (hD : M2.add c3 = ([oG fs], M3)) (hfs : fs.length ≤ 1000) (w : World) : Gives 10 #[.int .i64 n] w (.sl w.heap.size 26 10 fs.length (ents (fs.map giveH))) := by
 have HAm := Lib.hid hA
 have HI2 := Lib.hid hI2
 have HAd := Lib.hid hD
 clear hA hI2 hD
 go_enter Try.func10, Try.ntmps10
 go_upto_region 1 with fail
 refine wp_region_lit ?_
 refine l_call 26 #[] rfl (exec_call 26 _ [] _ _ Try.func26 (by kernel_rfl) (by kernel_rfl) rfl (by kernel_rfl) _) ?_
 refine (mnew_any w).mono ?_
 rintro r w1 ⟨p, F1, rfl, hM1, hG1, k1⟩
 refine ⟨_, rfl, ?_⟩
 simp only [Act.put, sA, sS, sZ]
 refine l_val (.pointer (some ⟨p, 0, none⟩)) rfl (exec_assign _ _ rfl (by kernel_rfl)) ?_
 simp only [Act.put, sA, sS, sZ]
 refine wpList_nil ?_
 have hF1 : ∀ b, F1 b → w.heap.size ≤ b := fun b hb => (hG1 b hb).elim (fun h => h.elim) id
 go_upto_region 4 with fail
 refine wp_region_lit ?_
 refine l_val (.pointer (some ⟨p, 0, none⟩)) rfl (exec_move _ _ rfl (by kernel_rfl)) ?_
 simp only [Act.put, sA, sS, sZ]
 refine l_call 27 #[.int .i64 1, .int .i64 1, .int .i64 1, .int .i64 10, .int .i64 5] rfl (exec_call 27 _ [.const (.int .i64 1), .const (.int .i64 1), .const (.int .i64 1), .const (.int .i64 10), .const (.int .i64 5)] _ _ Try.func27 (by kernel_rfl) (by kernel_rfl) rfl (by kernel_rfl) _) ?_
 refine (co_any 1 1 1 10 5 w1).mono ?_
 rintro r w2 ⟨_, rfl, rfl, kw2⟩
 refine ⟨_, rfl, ?_⟩
 simp only [Act.put, sA, sS, sZ]
 refine l_call 24 #[.pointer (some ⟨p, 0, none⟩), c1.v] rfl (exec_call 24 _ [.tmp 14, .tmp 15] _ _ Try.func24 (by kernel_rfl) (by kernel_rfl) rfl (by kernel_rfl) _) ?_
 refine (madd_at w2 F1 p Mkt.zero c1 _ crun1 (hM1.kept kw2) InvK.zero (by decide)).mono ?_
 rintro r w3 ⟨F3, v1, Z1, rfl, hM3, hOw3, hGw3, hkw3⟩
 refine ⟨_, rfl, ?_⟩
 simp only [Act.put, sA, sS, sZ]
 refine wpList_nil ?_
 obtain ⟨kw3, hF3⟩ := madd_frame k1 hF1 kw2 hkw3 hGw3
 clear hM1 hG1 hF1 k1 kw2 hGw3 hkw3 hOw3
 go_upto_region 5 with fail
 refine wp_region_lit ?_
 refine l_val (.pointer (some ⟨p, 0, none⟩)) rfl (exec_move _ _ rfl (by kernel_rfl)) ?_
 simp only [Act.put, sA, sS, sZ]
 refine l_call 27 #[.int .i64 2, .int .i64 1, .int .i64 1, .int .i64 10, .int .i64 5] rfl (exec_call 27 _ [.const (.int .i64 2), .const (.int .i64 1), .const (.int .i64 1), .const (.int .i64 10), .const (.int .i64 5)] _ _ Try.func27 (by kernel_rfl) (by kernel_rfl) rfl (by kernel_rfl) _) ?_
 refine (co_any 2 1 1 10 5 w3).mono ?_
 rintro r w4 ⟨_, rfl, rfl, kw4⟩
 refine ⟨_, rfl, ?_⟩
 simp only [Act.put, sA, sS, sZ]
 refine l_call 24 #[.pointer (some ⟨p, 0, none⟩), c2.v] rfl (exec_call 24 _ [.tmp 17, .tmp 18] _ _ Try.func24 (by kernel_rfl) (by kernel_rfl) rfl (by kernel_rfl) _) ?_
 refine (madd_at w4 F3 p ⟨CB1, []⟩ c2 _ crun2 (hM3.kept kw4) cinv1 (by decide)).mono ?_
 rintro r w5 ⟨F5, v2, Z2, rfl, hM5, hOw5, hGw5, hkw5⟩
 refine ⟨_, rfl, ?_⟩
 simp only [Act.put, sA, sS, sZ]
 refine wpList_nil ?_
 obtain ⟨kw5, hF5⟩ := madd_frame kw3 hF3 kw4 hkw5 hGw5
 clear hM3 hF3 kw3 kw4 hGw5 hkw5 hOw5
 go_upto_region 6 with fail
 refine wEp 2 [pV p 0, iV n] [21,22] ?_ ?_
 ·refine mE 1 3 ?_
  refine mE 2 0 ?_
  exact fz
 intro w6 k6
 simp only [F8]
 refine l_call 17 #[.pointer (some ⟨p, 0, none⟩), .int .i64 1, .int .i64 1, .int .i64 10, .int .i64 n] rfl (exec_call 17 _ [.tmp 21, .const (.int .i64 1), .const (.int .i64 1), .const (.int .i64 10), .tmp 22] _ _ Try.func17 (by kernel_rfl) (by kernel_rfl) rfl (by kernel_rfl) _) ?_
 refine (mamend_at w6 F5 p ⟨CB2, []⟩ 1 1 10 n _ HAm.out (hM5.kept k6) cinv2 (by decide)).mono ?_
 rintro r w7 ⟨F7, v4, Z4, rfl, hM7, hO7, hG7, hk7⟩
 refine ⟨.tuple #[v4, .int .i64 0], rfl, ?_⟩
 simp only [Act.put, sA, sS, sZ]
 refine l_val (.tuple #[v4, .int .i64 0]) rfl (exec_move _ _ rfl (by kernel_rfl)) ?_
 simp only [Act.put, sA, sS, sZ]
 refine l_val (v4) rfl (exec_extract (.tmp 20) [v4, .int .i64 0] 0 (v4) rfl (by kernel_rfl) rfl) ?_
 simp only [Act.put, sA, sS, sZ]
 refine l_val (.int .i64 0) rfl (exec_extract (.tmp 20) [v4, .int .i64 0] 1 (.int .i64 0) rfl (by kernel_rfl) rfl) ?_
 simp only [Act.put, sA, sS, sZ]
 refine l_val (v4) rfl (exec_assign _ _ rfl (by kernel_rfl)) ?_
 simp only [Act.put, sA, sS, sZ]
 refine l_val (.int .i64 0) rfl (exec_assign _ _ rfl (by kernel_rfl)) ?_
 simp only [Act.put, sA, sS, sZ]
 refine wpList_nil ?_
 obtain ⟨kw7, hF7⟩ := madd_frame kw5 hF5 k6 hk7 hG7
 clear hM5 hF5 kw5 k6 hG7 hk7 hO7
 go_upto_region 10 with fail
 refine wp_region_lit ?_
 refine l_val (.pointer (some ⟨p, 0, none⟩)) rfl (exec_move _ _ rfl (by kernel_rfl)) ?_
 simp only [Act.put, sA, sS, sZ]
 refine l_call 27 #[.int .i64 3, .int .i64 1, .int .i64 2, .int .i64 10, .int .i64 4] rfl (exec_call 27 _ [.const (.int .i64 3), .const (.int .i64 1), .const (.int .i64 2), .const (.int .i64 10), .const (.int .i64 4)] _ _ Try.func27 (by kernel_rfl) (by kernel_rfl) rfl (by kernel_rfl) _) ?_
 refine (co_any 3 1 2 10 4 w7).mono ?_
 rintro r w8 ⟨_, rfl, rfl, kw8⟩
 refine ⟨_, rfl, ?_⟩
 simp only [Act.put, sA, sS, sZ]
 refine l_call 24 #[.pointer (some ⟨p, 0, none⟩), c3.v] rfl (exec_call 24 _ [.tmp 28, .tmp 29] _ _ Try.func24 (by kernel_rfl) (by kernel_rfl) rfl (by kernel_rfl) _) ?_
 refine (madd_at w8 F7 p M2 c3 _ HAd.out (hM7.kept kw8) HI2.out hN2).mono ?_
 rintro r w9 ⟨F9, v5, Z5, rfl, hM9, hOw9, hGw9, hkw9⟩
 refine ⟨_, rfl, ?_⟩
 obtain ⟨vf, rfl⟩ := map_1 hOw9.eq
 obtain ⟨g5, o5, c5, rfl⟩ := hOw9.sl.some_ (Nat.succ_pos _)
 simp only [Act.put, sA, sS, sZ]
 refine l_val (.int .i64 (1 : Int)) rfl (exec_len (.tmp 30) _ _ slC.und (some ⟨g5, o5, none⟩) 1 c5 rfl (by kernel_rfl)) ?_
 simp only [Act.put, sA, sS, sZ]
 refine l_val (.int .i64 0) rfl (exec_move _ _ rfl (by kernel_rfl)) ?_
 simp only [Act.put, sA, sS, sZ]
 refine wpList_nil ?_
 obtain ⟨kw9, hF9⟩ := madd_frame kw7 hF7 kw8 hkw9 hGw9
 obtain ⟨m, hm⟩ : ∃ m, fs.length = m := ⟨_, rfl⟩
 have HFm := Lib.hid hm
 have hfl : Sl w9 61 21 vf m (fls fs) := by have := hOw9.fl (oG fs, vf) (by simp); rw [← hm]; exact this
 have H5 : Hid (w9.rangeAt g5 o5 ((oG fs).cells vf)) := by have := hOw9.sl.rngC 0 (oG fs, vf) rfl; rw [Nat.zero_mul, Nat.add_zero] at this; exact this
 have HFL := Lib.hid hfl
 clear hOw9 hM7 hM9 hF7 hF9 kw7 kw8 hGw9 hkw9 hfl HAm HAd HI2
 rw [hm] at hfs
 go_wp2_with fail
 go_loopw [6, 32] (fun s0 x wr => ∃ (i : Nat) (s : Value), i ≤ 1 ∧ s = s0 ∧ x = .int .i64 (i : Int) ∧ Hid (Sl wr 26 10 s (if i = 0 then 0 else m) (ents (if i = 0 then [] else fs.map giveH))) ∧ Hid (∀ b, s.ownBlock = some b → w9.heap.size ≤ b) ∧ Kept w9 wr) (fun s0 x _ => 1 - (intOf x).toNat)
 case atStart => exact ⟨0, _, by omega, rfl, rfl, Sl.nil _ _ _, (fun b hb => by simp [Value.ownBlock] at hb), Kept.refl _⟩
 case round =>
  obtain ⟨i, s, hi, rfl, rfl, HSr, HOr, hkr⟩ := hrel
  by_cases hi0 : i = 0
  ·subst hi0
   rw [if_pos rfl, if_pos rfl] at HSr
   have H5r := Lib.hid (range_kept H5.out hkr)
   have HFr := Lib.hid (HFL.out.kept hkr)
   have zr := hkr.size
   go_upto_region 12 with fail
   refine wEp 2 [pV g5 o5, (oG fs).v vf] [34,35] ?_ ?_
   ·refine sW 1 rfl (fun a u E D hk=>exec_ixo slC _ _ (g5) (o5) 1 c5 0 (o5) (((0 : Nat) : Int)) rfl (eE E) (eE E) (by first | rfl | omega) ((by omega)) (by first | rfl | omega)) ?_
    refine sD 2 34 0 ((oG fs).cells vf) Try.underlying54 (fun u hk=>range_kept (H5r.out) hk) (by rw [Ot.len15]; exact szC) ?_
    exact fz
   intro wa ka
   simp only [F8]
   refine l_new (.pointer (some ⟨wa.heap.size, 0, none⟩)) (wa.alloc (.cells (zeroC.cells (.slice none 0 0)).toArray 54)) rfl (exec_alc 54 (zeroC.cells (.slice none 0 0)) rfl zC) ?_
   have hNwb := Blk.new wa 54 (zeroC.cells (.slice none 0 0))
   have kwb : Kept wa (wa.alloc (.cells (zeroC.cells (.slice none 0 0)).toArray 54)) := (Keep.refl _ wa).alloc _
   generalize wa.alloc (.cells (zeroC.cells (.slice none 0 0)).toArray 54) = wb at hNwb kwb ⊢
   simp only [Act.put, sA, sS, sZ]
   refine l_setS 54 wa.heap.size 54 (zeroC.cells (.slice none 0 0)) ((oG fs).cells vf) _ _ rfl rfl (by kernel_rfl) (by kernel_rfl) hNwb (by rw [Ot.len15]; exact szC) (by rw [Ot.len15, Oc.len15]) (Ot.one _ _ (sl_onec HFr.out)) ?_
   intro wc hCwc hkwc hswc
   simp only [Act.put]
   refine wpList_nil ?_
   obtain ⟨b8, h8⟩ : ∃ a, wa.heap.size = a := ⟨_, rfl⟩
   rw [h8] at hNwb hCwc hkwc ⊢
   have za := ka.size
   have krc : Kept wr wc := (ka.trans kwb).trans' hkwc (by omega)
   have HO8 := Lib.hid (blk_range hCwc)
   have HSc := Lib.hid (HSr.out.kept krc)
   have HFc := Lib.hid (HFr.out.kept krc)
   have k9c := hkr.trans krc
   clear hNwb hCwc hkwc hswc kwb ka krc HSr H5r HFr hkr
   go_upto_region 13 with fail
   refine wE 4 [pV b8 9, vf, iV (m : Int), iV 0] [36,37,38,39] ?_ ?_
   ·refine fE 1 8 54 1 9 0 ?_
    refine sW 2 rfl (fun a u E D hk=>exec_ldv _ _ Try.underlying52 _ _ _ rfl (dD D 0) ((range_kept (HO8.out) hk) 9 _ rfl)) ?_
    refine sW 3 rfl (fun a u E D hk=>exec_lenS _ slF _ _ _ _ rfl (dD D 1) (HFc.out.kept hk)) ?_
    refine sW 4 rfl (fun a u E D hk=>exec_move _ _ rfl rfl) ?_
    exact fz
   intro wd kd
   simp only [F8]
   have HSd := Lib.hid (HSc.out.kept kd)
   have HFd := Lib.hid (HFc.out.kept kd)
   have k9d := k9c.trans kd
   have zd := k9d.size
   clear HSc HFc k9c kd HO8
   go_wp2_with fail
   go_loopw [6, 39] (fun s0 x wr => ∃ (j : Nat) (s : Value), j ≤ m ∧ s = s0 ∧ x = .int .i64 (j : Int) ∧ Hid (Sl wr 26 10 s j (ents ((fs.take j).map giveH))) ∧ Hid (∀ b, s.ownBlock = some b → w9.heap.size ≤ b) ∧ Hid (Sl wr 61 21 vf m (fls fs)) ∧ Kept w9 wr) (fun s0 x _ => m - (intOf x).toNat)
   case atStart => exact ⟨0, s, by omega, rfl, rfl, HSd, HOr, HFd, k9d⟩
   case round =>
    obtain ⟨j, s', hj, rfl, rfl, HSj, HOj, HFj, hkj⟩ := hrel
    clear HSd HFd k9d zd HOr
    have zj := hkj.size
    by_cases hjm : j < m
    ·obtain ⟨gf, of, cf, rfl⟩ := HFj.out.some_ (by omega)
     obtain ⟨x, hx⟩ : ∃ e, fs[j]? = some e := ⟨fs[j]'(by rw [HFm.out]; exact hjm), List.getElem?_eq_getElem _⟩
     have HX : Hid (wr.rangeAt gf (of + j * 21) x.cells) := HFj.out.rngF j x hx
     have HTk : Hid ((fs.take (j + 1)).map giveH = (fs.take j).map giveH ++ [giveH x]) := by show _ = _; rw [List.take_add_one, hx, Option.toList_some, List.map_append]; rfl
     clear hx
     go_upto_region 15 with fail
     refine wEp 2 [pV gf (of + j * 21), x.v] [41,42] ?_ ?_
     ·refine sW 1 rfl (fun a u E D hk=>exec_ixo slF _ _ (gf) (of) m cf j (of + j * 21) ((j : Int)) rfl (eE E) (eE E) (by first | rfl | omega) (hjm) (by first | rfl | omega)) ?_
      refine sD 2 41 0 x.cells Try.underlying61 (fun u hk=>range_kept HX.out hk) (by rw [x.len21]; exact szF) ?_
      exact fz
     intro wa ka
     simp only [F8]
     refine l_new (.pointer (some ⟨wa.heap.size, 0, none⟩)) (wa.alloc (.cells zeroF.cells.toArray 61)) rfl (exec_alc 61 zeroF.cells rfl zF) ?_
     have hNwb := Blk.new wa 61 zeroF.cells
     have kwb : Kept wa (wa.alloc (.cells zeroF.cells.toArray 61)) := (Keep.refl _ wa).alloc _
     generalize wa.alloc (.cells zeroF.cells.toArray 61) = wb at hNwb kwb ⊢
     simp only [Act.put, sA, sS, sZ]
     refine l_setS 61 wa.heap.size 61 zeroF.cells x.cells _ _ rfl rfl (by kernel_rfl) (by kernel_rfl) hNwb (by rw [Fl.len21]; exact szF) (by rw [Fl.len21, Fl.len21]) (Fl.one _) ?_
     intro wc hCwc hkwc hswc
     simp only [Act.put]
     refine wpList_nil ?_
     obtain ⟨b10, h10⟩ : ∃ a, wa.heap.size = a := ⟨_, rfl⟩
     rw [h10] at hNwb hCwc hkwc ⊢
     have za := ka.size
     have krc : Kept wr wc := (ka.trans kwb).trans' hkwc (by omega)
     have HX10 := Lib.hid (blk_range hCwc)
     have HSc := Lib.hid (HSj.out.kept krc)
     have HFc := Lib.hid (HFj.out.kept krc)
     have k9c := hkj.trans krc
     have zc := k9c.size
     clear hNwb hCwc hkwc hswc kwb ka krc HSj HFj hkj HX
     go_upto_region 16 with fail
     refine wp_text 9 [.eq (s'), pE b10 0, pE b10 0, iE x.mk_.tr, .eq ((trO x.mk_.tr).v), pE b10 19, iE x.qty, .eq ((Ent.mk (trO x.mk_.tr) (x.qty)).v), .sl wc.heap.size 26 10 1 (Ent.mk (trO x.mk_.tr) (x.qty)).cells] rfl (by kernel_rfl) ?_ ?_
     ·refine mE 1 6 ?_
      refine fE 2 10 61 0 0 0 ?_
      refine fD 3 44 1 24 0 0 0 ?_
      refine lD 4 45 2 Try.underlying3 (fun u hk=>range_int (range_kept HX10.out hk) 0 _ rfl) ?_
      refine sW 5 rfl (fun a u E D hk=>exec_trO _ x.mk_.tr rfl (dD D 3)) ?_
      refine fE 6 10 61 3 19 0 ?_
      refine lD 7 48 5 Try.underlying3 (fun u hk=>range_int (range_kept HX10.out hk) 19 _ rfl) ?_
      refine sW 8 rfl (fun a u E D hk=>exec_bent 26 builtH _ _ ((trO x.mk_.tr)) (x.qty) rfl (dD D 4) (dD D 6)) ?_
      refine nW 9 rfl (fun a u E D hk=>⟨_, _, exec_oneS slH _ (Ent.mk (trO x.mk_.tr) (x.qty)).cells (by omega) rfl (dD D 7) ((Ent.mk (trO x.mk_.tr) (x.qty)).len10), (sl_one u 26 10 _ wc.heap.size ((Ent.mk (trO x.mk_.tr) (x.qty)).len10) (by omega) hk.size), ((Keep.refl _ u).alloc _)⟩) ?_
      exact fz
     intro gv wd hV kd
     rw [dq 9 [43,44,45,46,47,48,49,50,51]]
     simp only [Fz7]
     rw [gQ hV 0 43 s']
     have hv51 : (.sl wc.heap.size 26 10 1 (Ent.mk (trO x.mk_.tr) (x.qty)).cells : Kn).p (gv 51) wd := hV 8 51 (by kernel_rfl)
     generalize gv 51 = v51 at hv51 ⊢
     clear hV
     obtain ⟨v', we, hre, hse, hke, hoe0⟩ := run_append_sl slH 27 wd s' v51 j 1 (ents ((fs.take j).map giveH)) (giveH x).cells (HSc.out.kept kd) hv51.1 (Ent.one _) (by unfold maxLen; omega) (by omega)
     have zd := kd.size
     have hoe : ∀ b, v'.ownBlock = some b → s'.ownBlock = some b ∨ wc.heap.size ≤ b := fun b hb => (hoe0 b hb).imp id (fun h => by omega)
     refine l_new v' we rfl (exec_appS slH (.tmp 43) (.tmp 51) s' v51 rfl (by kernel_rfl) (by kernel_rfl) v' we hre) ?_
     simp only [Act.put, sA, sS, sZ]
     refine l_val (v') rfl (exec_assign _ _ rfl (by kernel_rfl)) ?_
     simp only [Act.put, sA, sS, sZ]
     refine wpList_nil ?_
     have Kce : Keep (fun b => s'.ownBlock = some b) wc we := Keep.any kd hke
     have HSe : Hid (Sl we 26 10 v' (j + 1) (ents ((fs.take (j + 1)).map giveH))) := by rw [HTk.out, ents_snoc1]; exact Lib.hid hse
     have HOe : Hid (∀ b, v'.ownBlock = some b → w9.heap.size ≤ b) := fun b hb => (hoe b hb).elim (HOj.out b) (fun h => by omega)
     have hfo : ∀ b, (Value.slice (some ⟨gf, of, none⟩) m cf).ownBlock = some b → s'.ownBlock ≠ some b := fun b hb h => by have := HOj.out b h; have := HFL.out.lt hb; omega
     have HFe := Lib.hid (HFc.out.keep Kce (fun b hb h => hfo b hb h))
     have k9e : Kept w9 we := Keep.trans k9c Kce (fun b hb h => by have := HOj.out b h; omega)
     clear hre hse hke hoe0 hoe Kce HSc HFc k9c HX10 kd hfo
     go_wp2
     exact ⟨⟨j + 1, v', by omega, rfl, by go_num, HSe, HOe, HFe, k9e⟩, by simp [intOf]; omega⟩
    ·have hje : j = fs.length := by rw [HFm.out]; omega
     have HSm : Hid (Sl wr 26 10 s' m (ents (fs.map giveH))) := by have h := HSj.out; rw [hje, List.take_length, HFm.out] at h; exact h
     clear hje HSj
     go_wp2
     exact ⟨⟨1, s', by omega, rfl, by go_num, HSm, HOj, hkj⟩, by simp [intOf]⟩
  ·have hi1 : i = 1 := by omega
   subst hi1
   rw [if_neg (by omega), if_neg (by omega)] at HSr
   have kk := kw9.trans hkr
   have zz := kw9.size
   have HOw : Hid (∀ b, s.ownBlock = some b → w.heap.size ≤ b) := fun b hb => by have := HOr.out b hb; omega
   have HSw : Hid (Sl wr 26 10 s fs.length (ents (fs.map giveH))) := by rw [HFm.out]; exact HSr
   clear HSr HOr
   go_wp2
   go_ret
   exact ⟨_, rfl, ⟨HSw.out, HOw.out⟩, kk⟩
set_option maxRecDepth 100000 in
set_option maxHeartbeats 1600000 in
theorem changeRuns_any (w : World) : Calls Try.prog 3 #[] w fun e w' => e = .returned (.bool true) ∧ Kept w w' := by
 go_enter Try.func3, Try.ntmps3
 go_upto_region 1 with fail
 refine wT 15 [.sl w.heap.size 26 10 2 (ents [Ent.mk (trO 1) 3, Ent.mk (trO 2) 1]), .eq ((trO 1).v), .eq ((Ent.mk (trO 1) (3)).v), .eq ((trO 2).v), .eq ((Ent.mk (trO 2) (1)).v), .sl w.heap.size 26 10 2 (ents [Ent.mk (trO 1) 3, Ent.mk (trO 2) 1]), bE true, bE true, .sl w.heap.size 26 10 1 (ents [Ent.mk (trO 2) 4]), .eq ((trO 2).v), .eq ((Ent.mk (trO 2) (4)).v), .sl w.heap.size 26 10 1 (Ent.mk (trO 2) (4)).cells, bE true, bE true, bE true] [1,2,3,4,5,6,7,8,9,10,11,12,13,14,0] ?_ ?_
 ·refine cS 1 10 [.int .i64 3] rfl Try.func10 rfl (fun a u E D hk=>⟨ll rfl rfl, (cgives_any 3 [] ⟨CB3, []⟩ ⟨CB7, []⟩ fc3 camd3 cinv3 (by decide) crun7 (by decide) u).base hk.size⟩) ?_
  refine sW 2 rfl (fun a u E D hk=>exec_trO _ 1 rfl rfl) ?_
  refine sW 3 rfl (fun a u E D hk=>exec_bent 26 builtH _ _ ((trO 1)) (3) rfl (dD D 1) rfl) ?_
  refine sW 4 rfl (fun a u E D hk=>exec_trO _ 2 rfl rfl) ?_
  refine sW 5 rfl (fun a u E D hk=>exec_bent 26 builtH _ _ ((trO 2)) (1) rfl (dD D 3) rfl) ?_
  refine nW 6 rfl (fun a u E D hk=>⟨_, _, exec_twoS slH _ _ (Ent.mk (trO 1) 3).cells (Ent.mk (trO 2) 1).cells (by omega) rfl (dD D 2) (dD D 4) (Ent.len10 _) (Ent.len10 _), (sl_two u _ 10 _ w.heap.size rfl (by omega) hk.size), ((Keep.refl _ u).alloc _)⟩) ?_
  refine fsteps_cons 7 rfl (fun a u hE hD hk => f_call 9 #[a.eval (.tmp 1), a.eval (.tmp 6)] rfl (wanted_none rfl _) (exec_call 9 _ [.tmp 1, .tmp 6] _ [a.eval (.tmp 1), a.eval (.tmp 6)] Try.func9 (by kernel_rfl) (by kernel_rfl) rfl rfl u) ((by have h := sameH_any (a.eval (.tmp 1)) (a.eval (.tmp 6)) 0 0 [Ent.mk (trO 1) 3, Ent.mk (trO 2) 1] [Ent.mk (trO 1) 3, Ent.mk (trO 2) 1] u (hD 0 1 (by kernel_rfl)).1 (hD 5 6 (by kernel_rfl)).1 (by decide) (by decide); rw [decide_eq_true rfl] at h; exact h))) ?_
  refine mD 8 7 6 ?_
  refine cS 9 10 [.int .i64 6] rfl Try.func10 rfl (fun a u E D hk=>⟨ll rfl rfl, (cgives_any 6 [oq6] ⟨CB6, []⟩ ⟨CB8, []⟩ fc6 camd6 cinv6 (by decide) crun8 (by decide) u).base hk.size⟩) ?_
  refine sW 10 rfl (fun a u E D hk=>exec_trO _ 2 rfl rfl) ?_
  refine sW 11 rfl (fun a u E D hk=>exec_bent 26 builtH _ _ ((trO 2)) (4) rfl (dD D 9) rfl) ?_
  refine nW 12 rfl (fun a u E D hk=>⟨_, _, exec_oneS slH _ (Ent.mk (trO 2) (4)).cells (by omega) rfl (dD D 10) ((Ent.mk (trO 2) (4)).len10), (sl_one u 26 10 _ w.heap.size ((Ent.mk (trO 2) (4)).len10) (by omega) hk.size), ((Keep.refl _ u).alloc _)⟩) ?_
  refine fsteps_cons 13 rfl (fun a u hE hD hk => f_call 9 #[a.eval (.tmp 9), a.eval (.tmp 12)] rfl (wanted_at (b := true) true rfl rfl (dD hD 7)) (exec_call 9 _ [.tmp 9, .tmp 12] _ [a.eval (.tmp 9), a.eval (.tmp 12)] Try.func9 (by kernel_rfl) (by kernel_rfl) rfl rfl u) ((by have h := sameH_any (a.eval (.tmp 9)) (a.eval (.tmp 12)) 0 0 [Ent.mk (trO 2) 4] [Ent.mk (trO 2) 4] u (hD 8 9 (by kernel_rfl)).1 (by have q := (hD 11 12 (by kernel_rfl)).1; rw [← ents_one1] at q; exact q) (by decide) (by decide); rw [decide_eq_true rfl] at h; exact h))) ?_
  refine pT 14 8 13 7 12 ?_
  refine mD 15 14 13 ?_
  exact fz
 intro gv w1 hV k1
 simp only [Fz7]
 rw [gQ hV 14 0 (.bool true)]
 clear hV
 go_wp2
 go_ret
 exact ⟨rfl, k1⟩
theorem cruns_gives (w : World) : Gives 3 #[] w (.eq (.bool true)) := gives_eq ((changeRuns_any w).mono fun e w' h => h)
set_option maxRecDepth 100000 in
set_option maxHeartbeats 1600000 in
theorem kstop_any (q : Kq) (w : World) : Gives 28 #[q.v] w (.eq q.so.v) := by
 refine gives_eq ?_
 obtain ⟨x, hx⟩ : ∃ x, wi q.x 0 32 = x := ⟨_, rfl⟩
 have hx0 := wi_in q.x 0 32 (by omega)
 rw [hx] at hx0
 have HX := Lib.hid hx
 obtain ⟨o, ho⟩ : ∃ o, q.o = o := ⟨_, rfl⟩
 have hs0 : o.stop = 0 := by rw [← ho]; exact q.right.2.1
 have HO : Hid (q.so = { o with stop := if x < 11 then 95 + x else 0 }) := by show _ = _; rw [← ho, ← hx]; rfl
 have HG : Hid (∀ u, Gives 45 #[q.v] u (.eq o.v)) := fun u => by rw [← ho]; exact korder_any q u
 clear hx ho
 go_enter Try.func28, Try.ntmps28
 go_upto_region 0 with fail
 refine wp_text 2 [.fresh w.heap.size 64 (q.cells), .fresh w.heap.size 24 zeroO.cells] rfl (by kernel_rfl) ?_ ?_
 ·refine nW 1 rfl (fun a u E D hk=>⟨_, _, exec_box 64 _ (q.cells) rfl (eE E), ⟨_, rfl, hk.size, Blk.new u _ _⟩, ((Keep.refl _ u).alloc _)⟩) ?_
  refine nW 2 rfl (fun a u E D hk=>⟨_, _, exec_alc 24 zeroO.cells rfl zO, ⟨_, rfl, hk.size, Blk.new u _ _⟩, ((Keep.refl _ u).alloc _)⟩) ?_
  exact fz
 intro gv w0 hV k0
 rw [dq 2 [1,2]]
 simp only [Fz7]
 have hv1 : (.fresh w.heap.size 64 (q.cells) : Kn).p (gv 1) w0 := hV 0 1 (by kernel_rfl)
 generalize gv 1 = v1 at hv1 ⊢
 have hv2 : (.fresh w.heap.size 24 zeroO.cells : Kn).p (gv 2) w0 := hV 1 2 (by kernel_rfl)
 generalize gv 2 = v2 at hv2 ⊢
 clear hV
 obtain ⟨g1, rfl, hg1, hB1⟩ := hv1
 obtain ⟨g2, rfl, hg2, hB2⟩ := hv2
 refine wpList_nil ?_
 have HQ0 := Lib.hid (blk_range hB1)
 have HB20 := Lib.hid hB2
 have l1 := hB1.lt
 have l2 := hB2.lt
 have z0 := k0.size
 clear hB1 hB2
 go_upto_region 1 with fail
 refine wEp 2 [q.v, o.v] [5,6] ?_ ?_
 ·refine sE 1 1 g1 0 q.cells Try.underlying64 (fun u hk=>range_kept HQ0.out hk) (by rw [q.len7]; exact szK) ?_
  refine cS 2 45 [q.v] rfl Try.func45 rfl (fun a u E D hk=>⟨ll (dD D 0) rfl, HG.out u⟩) ?_
  exact fz
 intro w1 k1
 simp only [F8]
 refine l_new (.pointer (some ⟨w1.heap.size, 0, none⟩)) (w1.alloc (.cells zeroO.cells.toArray 24)) rfl (exec_alc 24 zeroO.cells rfl zO) ?_
 have hNw2 := Blk.new w1 24 zeroO.cells
 have kw2 : Kept w1 (w1.alloc (.cells zeroO.cells.toArray 24)) := (Keep.refl _ w1).alloc _
 generalize w1.alloc (.cells zeroO.cells.toArray 24) = w2 at hNw2 kw2 ⊢
 simp only [Act.put, sA, sS, sZ]
 refine l_setS 24 w1.heap.size 24 zeroO.cells o.cells _ _ rfl rfl (by kernel_rfl) (by kernel_rfl) (hNw2) (by rw [Ord.len9]; exact ord_size) (by rw [Ord.len9, Ord.len9]) (Ord.one1 _) ?_
 intro w3 hCw3 hkw3 hsw3
 simp only [Act.put]
 refine wpList_nil ?_
 obtain ⟨g3, h3⟩ : ∃ a, w1.heap.size = a := ⟨_, rfl⟩
 rw [h3] at hNw2 hCw3 hkw3 ⊢
 have z1 := k1.size
 have k13 : Kept w0 w3 := (k1.trans kw2).trans' hkw3 (by omega)
 have k03 := k0.trans k13
 have z3 := k13.size
 have l3 := hCw3.lt
 have HQ3 := Lib.hid (range_kept HQ0.out k13)
 have HB23 := Lib.hid (HB20.out.kept k13)
 have HB33 := Lib.hid hCw3
 clear hNw2 hCw3 hkw3 hsw3 kw2 k1 HQ0 HB20 k13
 go_upto_region 2 with fail
 refine wE 4 [pV g1 6, iV q.x, iV x, iV x] [7,8,9,4] ?_ ?_
 ·refine fE 1 1 64 6 6 0 ?_
  refine lD 2 7 0 Try.underlying3 (fun u hk=>range_int (range_kept HQ3.out hk) 6 _ rfl) ?_
  refine cS 3 16 [.int .i64 q.x, .int .i64 0, .int .i64 32] rfl Try.func16 rfl (fun a u E D hk=>⟨ll (dD D 1) (ll rfl (ll rfl rfl)), (by rw [← HX.out]; exact within_is q.x 0 32 u (by omega) (by omega) (by omega))⟩) ?_
  refine mD 4 9 2 ?_
  exact fz
 intro w4 k4
 simp only [F8]
 have HB24 := Lib.hid (HB23.out.kept k4)
 have HB34 := Lib.hid (HB33.out.kept k4)
 have k04 := k03.trans k4
 have z4 := k4.size
 clear HQ3 HB23 HB33 k4 k03
 by_cases hc : x < 11
 ·have HF : Hid (q.so = { o with stop := 95 + x }) := by show _ = _; rw [HO.out, if_pos hc]
  go_upto_region 3 with fail
  refine wE 2 [iV x, bV true] [10,11] ?_ ?_
  ·refine mE 1 4 ?_
   refine aS 2 rfl (fun a u E D hk=>exec_ltn rfl (dD D 0) rfl) (decide_eq_true hc) ?_
   exact fz
  intro w5 k5
  simp only [F8]
  have HB25 := Lib.hid (HB24.out.kept k5)
  have HB35 := Lib.hid (HB34.out.kept k5)
  have k05 := k04.trans k5
  have z5 := k5.size
  clear HB24 HB34 k5 k04 hc
  go_upto_region 4 with fail
  refine wEp 3 [iV x, iV ((95 : Int) + (x : Int)), pV g3 8] [12,13,14] ?_ ?_
  ·refine mE 1 4 ?_
   refine sW 2 rfl (fun a u E D hk=>exec_addn (p := (95)) (q := (x)) ((95 : Int) + (x : Int)) rfl rfl (dD D 0) rfl (by omega) (by omega)) ?_
   refine fE 3 3 24 8 8 0 ?_
   exact fz
  intro w6 k6
  simp only [F8]
  refine l_setf g3 8 24 o.l [] (95 + x) _ _ rfl rfl (by kernel_rfl) (by kernel_rfl) (HB35.out.kept k6) (by simp [Ord.l]) ?_
  intro w7 hB7 hk7 hs7
  simp only [Act.put]
  refine wpList_nil ?_
  have HB37 : Hid (Blk w7 g3 24 ({ o with stop := 95 + x } : Ord).cells) := hB7
  have HB27 := Lib.hid ((HB25.out.kept k6).keep hk7 (fun e => by omega))
  have k07 : Kept w w7 := (k05.trans k6).trans' hk7 (by omega)
  have HO7 := Lib.hid (blk_range HB37.out)
  have z6 := k6.size
  clear HB25 HB35 hB7 hk7 hs7 k6 k05
  go_upto_region 5 with fail
  refine wEp 1 [({ o with stop := 95 + x } : Ord).v] [15] ?_ ?_
  ·refine sE 1 3 g3 0 (({ o with stop := 95 + x } : Ord).cells) Try.underlying24 (fun u hk=>range_kept HO7.out hk) (by rw [({ o with stop := 95 + x } : Ord).len9]; exact ord_size) ?_
   exact fz
  intro w8 k8
  simp only [F8]
  refine l_setS 24 g2 24 zeroO.cells ({ o with stop := 95 + x } : Ord).cells _ _ rfl rfl (by kernel_rfl) (by kernel_rfl) (HB27.out.kept k8) (by rw [Ord.len9]; exact ord_size) (by rw [Ord.len9, Ord.len9]) (Ord.one1 _) ?_
  intro w9 hCw9 hkw9 hsw9
  simp only [Act.put]
  refine wpList_nil ?_
  go_wp2
  refine bodyPost_ret (results_cell (p := 2) rfl _ _ g2 _ ({ o with stop := 95 + x } : Ord).cells rfl hCw9 Try.underlying24 (by rw [Ord.len9]; exact ord_size)) rfl ?_
  rw [HF.out]
  exact ⟨rfl, (k07.trans k8).trans' hkw9 (by omega)⟩
 ·have HF : Hid (q.so = o) := by show _ = _; rw [HO.out, if_neg hc, ← hs0]
  go_upto_region 3 with fail
  refine wE 2 [iV x, bV false] [10,11] ?_ ?_
  ·refine mE 1 4 ?_
   refine aS 2 rfl (fun a u E D hk=>exec_ltn rfl (dD D 0) rfl) (decide_eq_false hc) ?_
   exact fz
  intro w5 k5
  simp only [F8]
  have HB25 := Lib.hid (HB24.out.kept k5)
  have HO5 := Lib.hid (blk_range (HB34.out.kept k5))
  have k05 := k04.trans k5
  have z5 := k5.size
  clear HB24 HB34 k5 k04 hc
  go_upto_region 5 with fail
  refine wEp 1 [o.v] [15] ?_ ?_
  ·refine sE 1 3 g3 0 o.cells Try.underlying24 (fun u hk=>range_kept HO5.out hk) (by rw [o.len9]; exact ord_size) ?_
   exact fz
  intro w8 k8
  simp only [F8]
  refine l_setS 24 g2 24 zeroO.cells o.cells _ _ rfl rfl (by kernel_rfl) (by kernel_rfl) (HB25.out.kept k8) (by rw [Ord.len9]; exact ord_size) (by rw [Ord.len9, Ord.len9]) (Ord.one1 _) ?_
  intro w9 hCw9 hkw9 hsw9
  simp only [Act.put]
  refine wpList_nil ?_
  go_wp2
  refine bodyPost_ret (results_cell (p := 2) rfl _ _ g2 _ o.cells rfl hCw9 Try.underlying24 (by rw [Ord.len9]; exact ord_size)) rfl ?_
  rw [HF.out]
  exact ⟨rfl, (k05.trans k8).trans' hkw9 (by omega)⟩
section
variable {a : Act} {o : Oper} {u : World}
theorem exec_eqP (x : Operand) (t t' : TypeId) (ad : Addr) (hu : Try.prog.underlying t = some (.pointer (Try.prog.pointee t))) (hop : o.op = .binOp .eql t x (.const (.pointer none)) t') (hx : a.eval x = .pointer (some ad)) : (execOp a.eval o).run Try.prog u = .ok (.value (.bool false)) u := by
 have hc : a.eval (.const (.pointer none)) = .pointer none := rfl
 unfold execOp
 simp only [hop, hx, hc, Sem.run_bind]
 rw [show (eqGuard .eql t x (.const (.pointer none)) (.pointer (some ad)) (.pointer none)).run Try.prog u = .ok () u by simp [eqGuard]]
 simp only [Result.andThen_ok]
 rw [show (binOp .eql t (.pointer (some ad)) (.pointer none)).run Try.prog u = .ok (.bool false) u by simpa using run_eql_pointer_nil (P := Try.prog) (w := u) t (some ad) hu]
 rfl
theorem exec_neP (x : Operand) (t t' : TypeId) (ad : Addr) (hu : Try.prog.underlying t = some (.pointer (Try.prog.pointee t))) (hop : o.op = .binOp .neq t x (.const (.pointer none)) t') (hx : a.eval x = .pointer (some ad)) : (execOp a.eval o).run Try.prog u = .ok (.value (.bool true)) u := by
 have hc : a.eval (.const (.pointer none)) = .pointer none := rfl
 unfold execOp
 simp only [hop, hx, hc, Sem.run_bind]
 rw [show (eqGuard .neq t x (.const (.pointer none)) (.pointer (some ad)) (.pointer none)).run Try.prog u = .ok () u by simp [eqGuard]]
 simp only [Result.andThen_ok]
 rw [show (binOp .neq t (.pointer (some ad)) (.pointer none)).run Try.prog u = .ok (.bool true) u by simpa using run_neq_pointer_nil (P := Try.prog) (w := u) t (some ad) hu]
 rfl
end
theorem cas_len : ∀ (n : Nat) (M : Mkt), M.w.length ≤ n → M.cas.1.length ≤ M.w.length
 | 0, M, hn => by
  rw [cas_none (List.getElem?_eq_none (by omega))]
  simp
 | n + 1, M, hn => by
  cases e : M.w[M.trig]? with
  | none => rw [cas_none e]; simp
  | some o =>
   rw [cas_some e]
   have hl := (List.getElem?_eq_some_iff.1 e).1
   have h2 : (M.next o).w.length = M.w.length - 1 := by unfold Mkt.next; simp only; rw [List.length_eraseIdx, if_pos hl]
   have := cas_len n (M.next o) (by omega)
   simp only [List.length_cons]
   omega
set_option maxRecDepth 100000 in
set_option maxHeartbeats 1600000 in
theorem mfilled_any (v : Value) (l : List Kq) (w : World) (hl : Kqs w v l) : Calls Try.prog 11 #[v] w fun e w' => ∃ p F, e = .returned (.pointer (some ⟨p, 0, none⟩)) ∧ Mk w' F p (fillM (l.take 40)) ∧ Grow w (fun _ => False) F ∧ Kept w w' := by
 have HA := Lib.hid hl
 obtain ⟨A, n, c, rfl, hn, hm⟩ : ∃ A n c, v = .slice A n c ∧ l.length = n ∧ n ≤ maxLen := by
  obtain ⟨A, n, c, h1, h2, _, h3, _⟩ := hl
  exact ⟨A, n, c, h1, h2, h3⟩
 clear hl
 unfold maxLen at hm
 have HN := Lib.hid hn
 clear hn
 go_enter Try.func11, Try.ntmps11
 go_upto_region 1 with fail
 refine wp_region_lit ?_
 refine l_call 26 #[] rfl (exec_call 26 _ [] _ _ Try.func26 (by kernel_rfl) (by kernel_rfl) rfl (by kernel_rfl) _) ?_
 refine (mnew_any w).mono ?_
 rintro r w1 ⟨p, F, rfl, hL1, hG1, k1⟩
 refine ⟨_, rfl, ?_⟩
 simp only [Act.put, sA, sS, sZ]
 refine l_val (.pointer (some ⟨p, 0, none⟩)) rfl (exec_assign _ _ rfl (by kernel_rfl)) ?_
 simp only [Act.put, sA, sS, sZ]
 refine wpList_nil ?_
 have HL1 : Hid (Mk w1 F p (fillM (l.take 0))) := by rw [List.take_zero]; exact Lib.hid hL1
 have HG1 := Lib.hid hG1
 clear hL1 hG1
 go_wp2_with fail
 go_loopw [4] (fun t wr => ∃ (i : Nat) (F' : Nat → Prop), t = .int .i64 (i : Int) ∧ i ≤ 40 ∧ i ≤ n ∧ Hid (Mk wr F' p (fillM (l.take i))) ∧ Hid (Grow w (fun _ => False) F') ∧ Kept w wr) (fun t _ => 40 - (intOf t).toNat)
 case atStart => exact ⟨0, F, rfl, by omega, by omega, HL1, HG1, k1⟩
 case round =>
  obtain ⟨i, F', rfl, hi, hin, HLr, HGr, hkr⟩ := hrel
  by_cases hlt : i < n ∧ i < 40
  ·obtain ⟨hin', hi20⟩ := hlt
   have hil : i < l.length := by rw [HN.out]; exact hin'
   obtain ⟨q, hq⟩ : ∃ q, l[i]? = some q := ⟨_, List.getElem?_eq_getElem hil⟩
   have HNx := Lib.hid (fillM_next l i q hq)
   have hI := fillM_inv (l.take i)
   have HNo : Hid ((fillM (l.take i)).b.no ≤ 900000000000) := by
    have h1 := hI.2
    have h2 : (l.take i).length ≤ 60 := by rw [List.length_take]; omega
    show _ ≤ _
    omega
   have HI := Lib.hid hI.1
   clear hI
   generalize fillM (l.take i) = M at HLr HNx HNo HI
   obtain ⟨A', n', c', e1, _, _, _, h4⟩ := HA.out
   injection e1 with e1 e2 e3
   subst e1 e2 e3
   obtain ⟨g, off, rfl, hr⟩ := h4 i q hq
   have HE := Lib.hid (range_kept hr hkr)
   clear h4 hr hq hil
   go_upto_region 3 with fail
   refine wE 12 [iV (i : Int), .slice (some ⟨g, off, none⟩) n c, iV (n : Int), bV true, bV true, iV (i : Int), bV true, bV true, bV true, pV p 0, bV true, bV true] [6,7,8,9,10,11,12,13,14,15,16,17] ?_ ?_
   ·refine mE 1 4 ?_
    refine mE 2 0 ?_
    refine sW 3 rfl (fun a u E D hk=>exec_len _ _ _ slK.und (some ⟨g, off, none⟩) n c rfl (dD D 1)) ?_
    refine aS 4 rfl (fun a u E D hk=>exec_ltn rfl (dD D 0) (dD D 2)) (decide_eq_true (by omega)) ?_
    refine mD 5 9 3 ?_
    refine mE 6 4 ?_
    refine aS 7 rfl (fun a u E D hk=>exec_ltn rfl (dD D 5) rfl) (decide_eq_true (by omega)) ?_
    refine pT 8 10 12 4 6 ?_
    refine mD 9 13 7 ?_
    refine mE 10 3 ?_
    refine sW 11 rfl (fun a u E D hk=>exec_neP _ _ _ ⟨p, 0, none⟩ (by kernel_rfl) rfl (dD D 9)) ?_
    refine pT 12 14 16 8 10 ?_
    exact fz
   intro w2 k2
   simp only [F8]
   have HE2 := Lib.hid (range_kept HE.out k2)
   go_upto_region 5 with fail
   refine wEp 6 [pV p 0, .slice (some ⟨g, off, none⟩) n c, iV (i : Int), pV g (off + i * 7), q.v, q.so.v] [20,21,22,23,24,25] ?_ ?_
   ·refine mE 1 3 ?_
    refine mE 2 0 ?_
    refine mE 3 4 ?_
    refine sW 4 rfl (fun a u E D hk=>exec_ixo slK _ _ (g) (off) n c i (off + i * 7) ((i : Int)) rfl (dD D 1) (dD D 2) (by first | rfl | omega) (hin') (by first | rfl | omega)) ?_
    refine sD 5 23 3 q.cells Try.underlying64 (fun u hk=>range_kept HE2.out hk) (by rw [q.len7]; exact szK) ?_
    refine cS 6 28 [q.v] rfl Try.func28 rfl (fun a u E D hk=>⟨ll (dD D 4) rfl, kstop_any q u⟩) ?_
    exact fz
   intro w3 k3
   simp only [F8]
   refine l_call 24 #[.pointer (some ⟨p, 0, none⟩), q.so.v] rfl (exec_call 24 _ [.tmp 20, .tmp 25] _ _ Try.func24 (by kernel_rfl) (by kernel_rfl) rfl (by kernel_rfl) _) ?_
   refine (madd_any w3 F' p M q.so (HLr.out.kept (k2.trans k3)) HI.out HNo.out).mono ?_
   rintro r w4 ⟨F4, v4, Z4, rfl, hM4, hO4, hG4, hk4⟩
   refine ⟨_, rfl, ?_⟩
   simp only [Act.put, sA, sS, sZ]
   refine wpList_nil ?_
   have z2 := k2.size
   have z3 := k3.size
   have zr := hkr.size
   have HGlt : Hid (∀ x, F' x → w.heap.size ≤ x) := fun x hx => (HGr.out x hx).elim (fun h => h.elim) id
   have HB4 : Hid (Mk w4 F4 p (fillM (l.take (i + 1)))) := by rw [HNx.out]; exact Lib.hid hM4
   have HG4 : Hid (Grow w (fun _ => False) F4) := fun x hx => by
    rcases hG4 x hx with h | h
    ·exact HGr.out x h
    ·exact .inr (by omega)
   have kw4 : Kept w w4 := Keep.trans ((hkr.trans k2).trans k3) hk4 (fun b hb h => by have := HGlt.out b h; omega)
   clear hM4 hO4 hG4 hk4 HLr HGr hkr HE HE2 HI HNo HNx k3 k2
   go_wp2
   exact ⟨⟨i + 1, F4, by go_num, by omega, by omega, HB4, HG4, kw4⟩, by simp [intOf]; omega⟩
  ·have HBF : Hid ((decide ((i : Int) < (n : Int)) && decide ((i : Int) < 40)) = false) := by
    show _ = _
    rw [← Bool.decide_and]
    exact decide_eq_false (fun h => hlt ⟨by omega, by omega⟩)
   have HE : Hid (Mk wr F' p (fillM (l.take 40))) := by
    have : l.take 40 = l.take i := by
     by_cases h : i = 40
     ·rw [h]
     ·have : l.length = n := HN.out
      rw [List.take_of_length_le (by omega), List.take_of_length_le (by omega)]
    rw [this]
    exact HLr
   clear HLr
   go_upto_region 3 with fail
   refine wT 12 [iE (i : Int), .eq (.slice A n c), iE (n : Int), bE (decide (((i : Int) : Int) < ((n : Int) : Int))), bE (decide (((i : Int) : Int) < ((n : Int) : Int))), .cond (decide (((i : Int) : Int) < ((n : Int) : Int))) (iE (i : Int)), .cond (decide (((i : Int) : Int) < ((n : Int) : Int))) (bE (decide (((i : Int) : Int) < (40 : Int)))), bE false, bE false, uE, uE, bE false] [6,7,8,9,10,11,12,13,14,15,16,17] ?_ ?_
   ·refine mE 1 4 ?_
    refine mE 2 0 ?_
    refine sW 3 rfl (fun a u E D hk=>exec_len _ _ _ slK.und A n c rfl (dD D 1)) ?_
    refine sW 4 rfl (fun a u E D hk=>exec_ltn rfl (dD D 0) (dD D 2)) ?_
    refine mD 5 9 3 ?_
    refine iC 6 4 rfl (fun a u E D hk hb=>exec_move _ _ rfl (eE E)) ?_
    refine iC 7 4 rfl (fun a u E D hk hb=>exec_ltn rfl ((D 5 11 (by kernel_rfl)).1 hb) rfl) ?_
    refine aS 8 rfl (fun a u E D hk=>exec_pickand _ _ _ ((decide (((i : Int) : Int) < ((n : Int) : Int)))) ((decide (((i : Int) : Int) < (40 : Int)))) rfl (dD D 4) (fun hb2 => ((D 6 12 (by kernel_rfl)).1 hb2)) rfl) HBF.out ?_
    refine mD 9 13 7 ?_
    refine kS 10 8 ?_
    refine kS 11 8 ?_
    refine pF 12 14 8 ?_
    exact fz
   intro gv w2 hV k2
   simp only [Fz7]
   rw [gQ hV 11 17 (.bool false)]
   clear hV
   have HE2 := Lib.hid (HE.out.kept k2)
   have kw2 := hkr.trans k2
   clear HBF HE k2 hkr hlt
   go_wp2
   go_ret
   exact ⟨p, F', rfl, HE2.out, HGr.out, kw2⟩
theorem exec_ng {a : Act} {o : Oper} {u : World} {t : TypeId} {x : Operand} {p : Int} (r : Int) (hop : o.op = .unOp .neg t x) (hx : a.eval x = .int .i64 p) (hr : -p = r) (h0 : -9223372036854775808 ≤ r) (h1 : r ≤ 9223372036854775807) : (execOp a.eval o).run Try.prog u = .ok (.value (.int .i64 r)) u := by
 subst hr
 unfold execOp
 simp only [hop, hx]
 have hw : IntKind.i64.wrap (-p) = -p := by rw [IntKind.wrap_i64]; omega
 simp [go_sem, hw]
theorem amend_none {M : Mkt} {t i p n : Int} (h : (M.find t i).2 = false) : M.amend t i p n = ([], 6, M) := if_pos h
theorem amend_bad {M : Mkt} {t i p n : Int} {o : Ord} (h : M.find t i = (o, true)) (hr : (o.chg p n).right = false) : M.amend t i p n = ([], 1, M) := by
 unfold Mkt.amend
 rw [h, if_neg (by simp), if_pos hr]
theorem chg_low {o : Ord} {p n : Int} (h : n ≤ 0) : (o.chg p n).right = false := by
 cases hr : (o.chg p n).right with
 | false => rfl
 | true =>
  have := (right_iff _).1 hr
  have e : (o.chg p n).qty = n := rfl
  omega
theorem chg_high {o : Ord} {p n : Int} (h : 1048577 ≤ p) : (o.chg p n).right = false := by
 cases hr : (o.chg p n).right with
 | false => rfl
 | true =>
  have := (right_iff _).1 hr
  have e : (o.chg p n).price = p := rfl
  have e2 : (o.chg p n).k = o.k := rfl
  by_cases hk : o.k = 2 <;> omega
theorem amd_frame {w0 wa wb : World} {F F2 : Nat → Prop} {va : Value} {n : Nat} {cs : List Value} (k0 : Kept w0 wa) (hF : ∀ b, F b → w0.heap.size ≤ b) (hA : Sl wa 24 9 va n cs) (hV : ∀ b, va.ownBlock = some b → ¬ F b) (hG : Grow wa F F2) (hk : Keep F wa wb) :
  Kept w0 wb ∧ (∀ b, F2 b → w0.heap.size ≤ b) ∧ Sl wb 24 9 va n cs ∧ ∀ b, va.ownBlock = some b → ¬ F2 b :=
 ⟨Keep.trans (S := fun _ => False) k0 hk (fun b hb h => by have := hF b h; omega), fun b hb => (hG b hb).elim (hF b) (fun h => by have := k0.size; omega), hA.keep hk (fun b hb => hV b hb), fun b hb h => (hG b h).elim (hV b hb) (fun h => by have := hA.lt hb; omega)⟩
theorem blk_off {w : World} {F F2 : Nat → Prop} {b : Nat} (hb : ¬ F b) (hl : b < w.heap.size) (hG : Grow w F F2) : ¬ F2 b := fun h => (hG b h).elim hb (fun h => by omega)
theorem outs_none {w : World} {base : Nat} {G : Nat → Prop} {v : Value} {Z : List (Ot × Value)} (h : Outs w base G v [] Z) : Sl w 54 15 v 0 [] := by
 have e := List.map_eq_nil_iff.1 h.eq
 subst e
 exact h.sl
theorem find_all_at {M : Mkt} (h : InvK M) {k : Nat} {o : Ord} (ho : M.all[k]? = some o) : M.find o.tr o.id = (o, true) := by
 rw [find_all]
 exact findO_at h.nodup ho
theorem ordsL_cons2 (l : Lev) (R : List Lev) : ordsL (l :: R) = l.2.map (·.o) ++ ordsL R := by unfold ordsL; rw [entL_cons, List.map_append]
theorem lessM_no2 {t i q : Int} {X : List Ent} (h : (X.map (·.o)).findIdx (Ord.is t i) = X.length) : lessM t i q X = (false, X) := by
 rw [idx_ords] at h
 unfold lessM
 rw [h, List.getElem?_eq_none (Nat.le_refl _)]
theorem lessO_no {t i q : Int} : ∀ {L : List Lev}, (ordsL L).findIdx (Ord.is t i) = (ordsL L).length → lessL t i q L = (false, L)
 | [], _ => rfl
 | l :: R, h => by
  rw [ordsL_cons2, List.findIdx_append, List.length_append, List.length_map] at h
  by_cases h1 : (l.2.map (·.o)).findIdx (Ord.is t i) < l.2.length
  ·rw [if_pos h1] at h
   omega
  ·rw [if_neg h1] at h
   have h2 : (l.2.map (·.o)).findIdx (Ord.is t i) = l.2.length := by
    have := List.findIdx_le_length (p := Ord.is t i) (xs := l.2.map (·.o))
    rw [List.length_map] at this
    omega
   rw [lessL, lessM_no2 h2, lessO_no (L := R) (by omega)]
   rfl
theorem map_set_o2 (X : List Ent) (k : Nat) (e : Ent) : (X.set k e).map (·.o) = (X.map (·.o)).set k e.o := by rw [List.map_set]
theorem lessO_at {t i q : Int} {x : Ord} (h1 : 1 ≤ q) (h2 : q ≤ x.qty) : ∀ {L : List Lev} {k : Nat}, (ordsL L).findIdx (Ord.is t i) = k → (ordsL L)[k]? = some x → (lessL t i q L).1 = true ∧ ordsL (lessL t i q L).2 = (ordsL L).set k (x.q q)
 | [], k, _, hx => by simp [ordsL, entL] at hx
 | l :: R, k, h, hx => by
  rw [ordsL_cons2] at h hx ⊢
  rw [List.findIdx_append] at h
  by_cases hl : (l.2.map (·.o)).findIdx (Ord.is t i) < (l.2.map (·.o)).length
  ·rw [if_pos hl] at h
   subst h
   rw [List.getElem?_append_left hl] at hx
   have hi : idxM t i l.2 = (l.2.map (·.o)).findIdx (Ord.is t i) := (idx_ords t i l.2).symm
   rw [← hi] at hx hl ⊢
   rw [List.getElem?_map] at hx
   obtain ⟨e, he, rfl⟩ := Option.map_eq_some_iff.1 hx
   have hm : lessM t i q l.2 = (true, l.2.set (idxM t i l.2) ⟨e.o.q q, mn e.n q⟩) := by
    unfold lessM
    rw [he]
    exact if_pos ⟨h1, h2⟩
   rw [lessL, hm, if_pos rfl]
   refine ⟨rfl, ?_⟩
   rw [ordsL_cons2, map_set_o2, List.set_append_left _ _ hl]
  ·rw [if_neg hl] at h
   subst h
   have h3 : (l.2.map (·.o)).findIdx (Ord.is t i) = l.2.length := by
    have := List.findIdx_le_length (p := Ord.is t i) (xs := l.2.map (·.o))
    rw [List.length_map] at hl this
    omega
   rw [List.getElem?_append_right (by omega), Nat.add_sub_cancel] at hx
   obtain ⟨r1, r2⟩ := lessO_at h1 h2 (L := R) rfl hx
   rw [lessL, lessM_no2 h3, if_neg (by simp)]
   refine ⟨r1, ?_⟩
   rw [ordsL_cons2, r2, List.set_append_right _ _ (by omega), Nat.add_sub_cancel]
theorem less_book {M : Mkt} (h : InvK M) {k : Nat} {x : Ord} (hx : M.all[k]? = some x) (hk : k + M.w.length < M.all.length) {q : Int} (h1 : 1 ≤ q) (h2 : q ≤ x.qty) :
  (M.less x.tr x.id q).1 = true ∧ (M.less x.tr x.id q).2.all = M.all.set k (x.q q) ∧ (M.less x.tr x.id q).2.w = M.w := by
 have hi := idx_at h.nodup hx
 unfold Mkt.all at hx hk hi ⊢
 rw [List.length_append, List.length_append] at hk
 rw [List.getElem?_append_left (by rw [List.length_append]; omega)] at hx
 rw [List.findIdx_append] at hi
 have hlt : (ordsL M.b.buys ++ ordsL M.b.sells).findIdx (Ord.is x.tr x.id) < (ordsL M.b.buys ++ ordsL M.b.sells).length := by
  refine Nat.lt_of_not_le fun hn => ?_
  rw [if_neg (by omega)] at hi
  rw [List.length_append] at hi
  omega
 rw [if_pos hlt, List.findIdx_append] at hi
 unfold Mkt.less Bok.less
 by_cases hb : (ordsL M.b.buys).findIdx (Ord.is x.tr x.id) < (ordsL M.b.buys).length
 ·rw [if_pos hb] at hi
  rw [List.getElem?_append_left (by omega)] at hx
  obtain ⟨r1, r2⟩ := lessO_at h1 h2 hi hx
  rw [if_pos r1]
  refine ⟨rfl, ?_, rfl⟩
  simp only
  rw [r2, List.set_append_left _ _ (by rw [List.length_append]; omega), List.set_append_left _ _ (by omega)]
 ·rw [if_neg hb] at hi
  have hb2 : (ordsL M.b.buys).findIdx (Ord.is x.tr x.id) = (ordsL M.b.buys).length := by
   have := List.findIdx_le_length (p := Ord.is x.tr x.id) (xs := ordsL M.b.buys)
   omega
  rw [List.getElem?_append_right (by omega)] at hx
  obtain ⟨r1, r2⟩ := lessO_at (t := x.tr) (i := x.id) h1 h2 (k := k - (ordsL M.b.buys).length) (L := M.b.sells) (by omega) hx
  rw [lessO_no hb2, if_neg (by simp), if_pos r1]
  refine ⟨rfl, ?_, rfl⟩
  simp only
  rw [r2, List.set_append_left _ _ (by rw [List.length_append]; omega), List.set_append_right _ _ (by omega)]
theorem book_stt {M : Mkt} (h : InvK M) {k : Nat} {x : Ord} (hx : M.all[k]? = some x) (hk : k + M.w.length < M.all.length) : x.stt ∧ (x.side = 1 ∨ x.side = 2) ∧ x.Fair := by
 have hm := h.fair x (List.mem_of_getElem? hx)
 unfold Mkt.all at hx hk
 rw [List.length_append, List.length_append] at hk
 rw [List.getElem?_append_left (by rw [List.length_append]; omega)] at hx
 rcases List.mem_append.1 (List.mem_of_getElem? hx) with hb | hs
 ·obtain ⟨l, _, e, _, he, rfl⟩ := ordsL_at h.inv.two.mine x hb
  exact ⟨he.stt, .inl he.side, hm⟩
 ·obtain ⟨l, _, e, _, he, rfl⟩ := ordsL_at h.inv.two.theirs x hs
  exact ⟨he.stt, .inr he.side, hm⟩
theorem book_right {x : Ord} (h : x.stt) (hs : x.side = 1 ∨ x.side = 2) {p n : Int} (hp : 1 ≤ p ∧ p ≤ 1048576) (hn : 1 ≤ n ∧ n ≤ 1048576) : (x.chg p n).right = true := by
 unfold Ord.stt at h
 refine (right_iff _).2 ?_
 have e : x.chg p n = { x with price := p, qty := n, shw := mx 0 (mn x.shw n) } := rfl
 have h1 := mn_is x.shw n
 have h2 := mx_is 0 (mn x.shw n)
 rw [e]
 simp only
 omega
theorem amend_less {M : Mkt} (h : InvK M) {k : Nat} {x : Ord} (hx : M.all[k]? = some x) (hk : k + M.w.length < M.all.length) {q : Int} (h1 : 1 ≤ q) (h2 : q ≤ x.qty) : M.amend x.tr x.id x.price q = ([], 0, (M.less x.tr x.id q).2) := by
 obtain ⟨s1, s2, s3⟩ := book_stt h hx hk
 have hq := s3.qty1
 have hp : 1 ≤ x.price ∧ x.price ≤ 1048576 := by unfold Ord.stt at s1; omega
 unfold Mkt.amend
 rw [find_all_at h hx, if_neg (by simp), if_neg (by rw [book_right s1 s2 hp ⟨h1, by omega⟩]; simp), if_pos ⟨rfl, (less_book h hx hk h1 h2).1⟩]
theorem mk_book {w : World} {F : Nat → Prop} {p : Nat} {M : Mkt} (h : Mk w F p M) : ∃ q Fb, (∀ u, Kept w u → Gives 12 #[.pointer (some ⟨p, 0, none⟩)] u (.eq (.pointer (some ⟨q, 0, none⟩)))) ∧ ∀ u, Kept w u → Bk u Fb q M.b := by
 obtain ⟨_, q, v, Fb, hP, _⟩ := h
 exact ⟨q, Fb, fun u hk => mbook_any u p q v (hP.blk.kept hk), fun u hk => hP.bk.kept hk⟩
set_option maxRecDepth 100000 in
set_option maxHeartbeats 800000 in
theorem sameF_any (va vb : Value) (na nb : Nat) (A B : List Fl) (w : World) (ha : Sl w 61 21 va A.length (fls A)) (hb : Sl w 61 21 vb B.length (fls B)) (hna : A.length ≤ 1000000000) (hnb : B.length ≤ 1000000000) : Gives 62 #[va, vb] w (.eq (.bool (decide (A = B)))) := by
 refine gives_eq ?_
 obtain ⟨n, hn⟩ : ∃ n, A.length = n := ⟨_, rfl⟩
 obtain ⟨m, hm⟩ : ∃ m, B.length = m := ⟨_, rfl⟩
 rw [hn] at ha hna
 rw [hm] at hb hnb
 have HA := Lib.hid ha
 have HB := Lib.hid hb
 have HN := Lib.hid hn
 have HM := Lib.hid hm
 obtain ⟨_, A1, c1, rfl, _⟩ := ha
 obtain ⟨_, A2, c2, rfl, _⟩ := hb
 clear hn hm
 by_cases hnm : n = m
 ·subst hnm
  go_enter Try.func62, Try.ntmps62
  go_wp2_with fail
  go_loopw [5] (fun v wr => ∃ i : Nat, i ≤ n ∧ v = .int .i64 i ∧ Kept w wr ∧ Hid (A.take i = B.take i)) (fun v _ => n - (intOf v).toNat)
  case atStart => exact ⟨0, Nat.zero_le _, rfl, Kept.refl _, rfl⟩
  case round =>
   obtain ⟨i, hi, rfl, hkr, HT⟩ := hrel
   by_cases hlt : i < n
   ·have hia : i < A.length := by rw [HN.out]; omega
    have hib : i < B.length := by rw [HM.out]; omega
    obtain ⟨ea, hea⟩ : ∃ e, A[i]? = some e := ⟨_, List.getElem?_eq_getElem hia⟩
    obtain ⟨eb, heb⟩ : ∃ e, B[i]? = some e := ⟨_, List.getElem?_eq_getElem hib⟩
    obtain ⟨g1, o1, _, e1⟩ := HA.out.some_ (by omega)
    injection e1 with e1 _ e1'
    subst e1 e1'
    obtain ⟨g2, o2, _, e2⟩ := HB.out.some_ (by omega)
    injection e2 with e2 _ e2'
    subst e2 e2'
    have HE1 : Hid (wr.rangeAt g1 (o1 + i * 21) ea.cells) := range_kept (HA.out.rngF i ea hea) hkr
    have HE2 : Hid (wr.rangeAt g2 (o2 + i * 21) eb.cells) := range_kept (HB.out.rngF i eb heb) hkr
    have HEQ : Hid (A[i]? = B[i]? ↔ ea = eb) := by
     show _ ↔ _
     rw [hea, heb]
     simp
    clear hia hib hea heb
    by_cases hx : ea = eb
    ·skip
     go_upto_region 6 with fail
     refine wGp 8 [.slice (some ⟨g1, o1, none⟩) n c1, iV (i : Int), pV g1 (o1 + i * 21), ea.v, .slice (some ⟨g2, o2, none⟩) n c2, iV (i : Int), pV g2 (o2 + i * 21), eb.v] [17,18,19,20,21,22,23,24] ?_ ?_
     ·refine mE 1 0 ?_
      refine mE 2 5 ?_
      refine sW 3 rfl (fun a u E D hk=>exec_ixo slF _ _ (g1) (o1) n c1 i (o1 + i * 21) ((i : Int)) rfl (dD D 0) (dD D 1) (by first | rfl | omega) (hlt) (by first | rfl | omega)) ?_
      refine sD 4 19 2 ea.cells Try.underlying61 (fun u hk=>range_kept HE1.out hk) (by rw [ea.len21]; exact szF) ?_
      refine mE 5 1 ?_
      refine mE 6 5 ?_
      refine sW 7 rfl (fun a u E D hk=>exec_ixo slF _ _ (g2) (o2) n c2 i (o2 + i * 21) ((i : Int)) rfl (dD D 4) (dD D 5) (by first | rfl | omega) (hlt) (by first | rfl | omega)) ?_
      refine sD 8 23 6 eb.cells Try.underlying61 (fun u hk=>range_kept HE2.out hk) (by rw [eb.len21]; exact szF) ?_
      exact fz
     intro w1 k1
     simp only [F8]
     refine l_val (.bool false) rfl (exec_neFb false (.tmp 20) (.tmp 24) _ ea eb rfl (by kernel_rfl) (by kernel_rfl) (by rw [hx]; simp)) ?_
     simp only [Act.put, sA, sS, sZ]
     refine wpList_nil ?_
     have HT2 := Lib.hid (take_next HT.out (HEQ.out.2 hx))
     have hk3 := hkr.trans k1
     clear hkr hx k1
     go_wp2
     exact ⟨⟨i + 1, by omega, by go_num, hk3, HT2⟩, by simp [intOf]; omega⟩
    ·skip
     go_upto_region 6 with fail
     refine wGp 8 [.slice (some ⟨g1, o1, none⟩) n c1, iV (i : Int), pV g1 (o1 + i * 21), ea.v, .slice (some ⟨g2, o2, none⟩) n c2, iV (i : Int), pV g2 (o2 + i * 21), eb.v] [17,18,19,20,21,22,23,24] ?_ ?_
     ·refine mE 1 0 ?_
      refine mE 2 5 ?_
      refine sW 3 rfl (fun a u E D hk=>exec_ixo slF _ _ (g1) (o1) n c1 i (o1 + i * 21) ((i : Int)) rfl (dD D 0) (dD D 1) (by first | rfl | omega) (hlt) (by first | rfl | omega)) ?_
      refine sD 4 19 2 ea.cells Try.underlying61 (fun u hk=>range_kept HE1.out hk) (by rw [ea.len21]; exact szF) ?_
      refine mE 5 1 ?_
      refine mE 6 5 ?_
      refine sW 7 rfl (fun a u E D hk=>exec_ixo slF _ _ (g2) (o2) n c2 i (o2 + i * 21) ((i : Int)) rfl (dD D 4) (dD D 5) (by first | rfl | omega) (hlt) (by first | rfl | omega)) ?_
      refine sD 8 23 6 eb.cells Try.underlying61 (fun u hk=>range_kept HE2.out hk) (by rw [eb.len21]; exact szF) ?_
      exact fz
     intro w1 k1
     simp only [F8]
     refine l_val (.bool true) rfl (exec_neFb true (.tmp 20) (.tmp 24) _ ea eb rfl (by kernel_rfl) (by kernel_rfl) (by simp [hx])) ?_
     simp only [Act.put, sA, sS, sZ]
     refine wpList_nil ?_
     have HF : Hid (A ≠ B) := fun h => hx (HEQ.out.1 (by rw [h]))
     have hk3 := hkr.trans k1
     clear hkr hx k1
     go_wp2
     go_ret
     exact ⟨ret_bool (decide_eq_false HF.out).symm, hk3⟩
   ·go_wp2
    go_ret
    exact ⟨ret_bool (decide_eq_true (take_whole HT.out (by have := HN.out; omega) (by have := HM.out; omega))).symm, hkr⟩
 ·have hne : ((n : Int) != (m : Int)) = true := by rw [bne_iff_ne]; omega
  have HF : Hid (A ≠ B) := fun h => hnm (by have h1 := HN.out; have h2 := HM.out; rw [h] at h1; omega)
  clear hnm
  go_enter Try.func62, Try.ntmps62
  go_wp2
  go_ret
  exact ⟨ret_bool (decide_eq_false HF.out).symm, Kept.refl _⟩

section
variable {a : Act} {o : Oper} {u : World}
theorem exec_eqb (x y : Operand) (t' : TypeId) (p q b : Bool) (hop : o.op = .binOp .eql 4 x y t') (hx : a.eval x = .bool p) (hy : a.eval y = .bool q) (hb : (p == q) = b) : (execOp a.eval o).run Try.prog u = .ok (.value (.bool b)) u := by
 subst hb
 exact exec_eqlb x y t' p q hop hx hy
end
set_option maxRecDepth 100000 in
theorem koutT_any (x : Ot) (va vb : Value) (w : World) (ha : Sl w 61 21 va x.c.f.length (fls x.c.f)) (hb : Sl w 61 21 vb x.c.f.length (fls x.c.f)) (hl : x.c.f.length ≤ 2000000) : Gives 43 #[x.v va, x.v vb] w (.eq (.bool true)) := by
 refine gives_eq ?_
 have HA := Lib.hid ha
 have HB := Lib.hid hb
 have h1a := sl_onec ha
 have h1b := sl_onec hb
 clear ha hb
 go_enter Try.func43, Try.ntmps43
 go_upto_region 0 with fail
 refine wp_text 2 [.fresh w.heap.size 54 (x.cells va), .fresh w.heap.size 54 (x.cells vb)] rfl (by kernel_rfl) ?_ ?_
 ·refine nW 1 rfl (fun a u E D hk=>⟨_, _, exec_box 54 _ (x.cells va) rfl (eE E), ⟨_, rfl, hk.size, Blk.new u _ _⟩, ((Keep.refl _ u).alloc _)⟩) ?_
  refine nW 2 rfl (fun a u E D hk=>⟨_, _, exec_box 54 _ (x.cells vb) rfl (eE E), ⟨_, rfl, hk.size, Blk.new u _ _⟩, ((Keep.refl _ u).alloc _)⟩) ?_
  exact fz
 intro gv w0 hV k0
 rw [dq 2 [2,3]]
 simp only [Fz7]
 have hv2 : (.fresh w.heap.size 54 (x.cells va) : Kn).p (gv 2) w0 := hV 0 2 (by kernel_rfl)
 generalize gv 2 = v2 at hv2 ⊢
 have hv3 : (.fresh w.heap.size 54 (x.cells vb) : Kn).p (gv 3) w0 := hV 1 3 (by kernel_rfl)
 generalize gv 3 = v3 at hv3 ⊢
 clear hV
 obtain ⟨g2, rfl, hg2, hB2⟩ := hv2
 obtain ⟨g3, rfl, hg3, hB3⟩ := hv3
 refine l_val (.bool false) rfl (exec_assign _ _ rfl (by kernel_rfl)) ?_
 simp only [Act.put, sA, sS, sZ]
 refine wpList_nil ?_
 have H2 := Lib.hid (blk_range hB2)
 have H3 := Lib.hid (blk_range hB3)
 have HA0 := Lib.hid (HA.out.kept k0)
 have HB0 := Lib.hid (HB.out.kept k0)
 clear hB2 hB3 HA HB
 go_upto_region 1 with fail
 refine wEp 47 [pV g2 0, x.c.o.v, pV g3 0, x.c.o.v, bV true, bV true, pV g2 9, va, pV g3 9, vb, bV true, bV true, bV true, pV g2 10, iV x.c.left, pV g3 10, iV x.c.left, bV true, bV true, bV true, pV g2 11, bV x.c.rests, pV g3 11, bV x.c.rests, bV true, bV true, bV true, pV g2 12, bV x.wt, pV g3 12, bV x.wt, bV true, bV true, bV true, pV g2 13, bV x.c.self, pV g3 13, bV x.c.self, bV true, bV true, bV true, pV g2 14, iV x.c.err, pV g3 14, iV x.c.err, bV true, bV true] [5,6,7,8,9,10,11,12,13,14,15,16,17,18,19,20,21,22,23,24,25,26,27,28,29,30,31,32,33,34,35,36,37,38,39,40,41,42,43,44,45,46,47,48,49,50,51] ?_ ?_
 ·refine fE 1 2 54 0 0 0 ?_
  refine sD 2 5 0 x.c.o.cells Try.underlying24 (fun u hk=>ot_ord (range_kept (H2.out) hk)) (by rw [Ord.len9]; exact ord_size) ?_
  refine fE 3 3 54 0 0 0 ?_
  refine sD 4 7 2 x.c.o.cells Try.underlying24 (fun u hk=>ot_ord (range_kept (H3.out) hk)) (by rw [Ord.len9]; exact ord_size) ?_
  refine sW 5 rfl (fun a u E D hk=>exec_eqOb' true _ _ _ x.c.o x.c.o rfl (dD D 1) (dD D 3) (decide_eq_true rfl)) ?_
  refine mD 6 9 4 ?_
  refine fE 7 2 54 1 9 0 ?_
  refine sW 8 rfl (fun a u E D hk=>exec_ldv _ _ Try.underlying52 _ _ _ rfl (dD D 6) ((range_kept (H2.out) hk) 9 _ rfl)) ?_
  refine fE 9 3 54 1 9 0 ?_
  refine sW 10 rfl (fun a u E D hk=>exec_ldv _ _ Try.underlying52 _ _ _ rfl (dD D 8) ((range_kept (H3.out) hk) 9 _ rfl)) ?_
  refine cS 11 62 [va, vb] rfl Try.func62 rfl (fun a u E D hk=>⟨ll (dD D 7) (ll (dD D 9) rfl), (by have h := sameF_any va vb 0 0 x.c.f x.c.f u (HA0.out.kept hk) (HB0.out.kept hk) (by omega) (by omega); rwa [decide_eq_true rfl] at h)⟩) ?_
  refine pT 12 10 15 5 10 ?_
  refine mD 13 16 11 ?_
  refine fE 14 2 54 2 10 0 ?_
  refine lD 15 18 13 Try.underlying3 (fun u hk=>(range_kept (H2.out) hk) 10 _ rfl) ?_
  refine fE 16 3 54 2 10 0 ?_
  refine lD 17 20 15 Try.underlying3 (fun u hk=>(range_kept (H3.out) hk) 10 _ rfl) ?_
  refine aS 18 rfl (fun a u E D hk=>exec_eqn rfl (dD D 14) (dD D 16)) (decide_eq_true rfl) ?_
  refine pT 19 17 22 12 17 ?_
  refine mD 20 23 18 ?_
  refine fE 21 2 54 3 11 0 ?_
  refine sW 22 rfl (fun a u E D hk=>exec_ldb _ Try.underlying4 _ _ _ rfl (dD D 20) ((range_kept (H2.out) hk) 11 _ rfl)) ?_
  refine fE 23 3 54 3 11 0 ?_
  refine sW 24 rfl (fun a u E D hk=>exec_ldb _ Try.underlying4 _ _ _ rfl (dD D 22) ((range_kept (H3.out) hk) 11 _ rfl)) ?_
  refine sW 25 rfl (fun a u E D hk=>exec_eqb _ _ _ _ _ true rfl (dD D 21) (dD D 23) (by simp)) ?_
  refine pT 26 24 29 19 24 ?_
  refine mD 27 30 25 ?_
  refine fE 28 2 54 4 12 0 ?_
  refine sW 29 rfl (fun a u E D hk=>exec_ldb _ Try.underlying4 _ _ _ rfl (dD D 27) ((range_kept (H2.out) hk) 12 _ rfl)) ?_
  refine fE 30 3 54 4 12 0 ?_
  refine sW 31 rfl (fun a u E D hk=>exec_ldb _ Try.underlying4 _ _ _ rfl (dD D 29) ((range_kept (H3.out) hk) 12 _ rfl)) ?_
  refine sW 32 rfl (fun a u E D hk=>exec_eqb _ _ _ _ _ true rfl (dD D 28) (dD D 30) (by simp)) ?_
  refine pT 33 31 36 26 31 ?_
  refine mD 34 37 32 ?_
  refine fE 35 2 54 5 13 0 ?_
  refine sW 36 rfl (fun a u E D hk=>exec_ldb _ Try.underlying4 _ _ _ rfl (dD D 34) ((range_kept (H2.out) hk) 13 _ rfl)) ?_
  refine fE 37 3 54 5 13 0 ?_
  refine sW 38 rfl (fun a u E D hk=>exec_ldb _ Try.underlying4 _ _ _ rfl (dD D 36) ((range_kept (H3.out) hk) 13 _ rfl)) ?_
  refine sW 39 rfl (fun a u E D hk=>exec_eqb _ _ _ _ _ true rfl (dD D 35) (dD D 37) (by simp)) ?_
  refine pT 40 38 43 33 38 ?_
  refine mD 41 44 39 ?_
  refine fE 42 2 54 6 14 0 ?_
  refine lD 43 46 41 Try.underlying40 (fun u hk=>(range_kept (H2.out) hk) 14 _ rfl) ?_
  refine fE 44 3 54 6 14 0 ?_
  refine lD 45 48 43 Try.underlying40 (fun u hk=>(range_kept (H3.out) hk) 14 _ rfl) ?_
  refine aS 46 rfl (fun a u E D hk=>exec_eqn rfl (dD D 42) (dD D 44)) (decide_eq_true rfl) ?_
  refine pT 47 45 50 40 45 ?_
  exact fz
 intro w1 k1
 simp only [F8]
 refine l_val (.bool true) rfl (exec_assign _ _ rfl (by kernel_rfl)) ?_
 simp only [Act.put, sA, sS, sZ]
 refine wpList_nil ?_
 go_wp2
 go_ret
 exact ⟨rfl, k0.trans k1⟩
end Go.Proofs.Ytklohceombpleaa
