/-
 Laws and contracts that the walks rest on, part 4. No condition.
-/
import Derived.Test.YtfpfpmhkkgfdbaaQD03
set_option linter.unusedVariables false
namespace Go.Proofs.Ytfpfpmhkkgfdbaa
open Go.RowKit
set_option maxRecDepth 100000
theorem visible_any (c : Ord) (w : World) : Gives 103 #[c.v] w (.eq (.int .i64 c.tip)) := by
 refine gives_eq ?_
 go_enter Try.func103, Try.ntmps103
 go_upto_region 0 with fail
 refine wp_text 2 [.fresh w.heap.size 25 (c.cells), .eq (.int .i64 0)] rfl (by kernel_rfl) ?_ ?_
 ·refine fsteps_cons 1 rfl (fun a u hE hD hk => f_new (o := ⟨some 1, _, _, _, _, _⟩) (.pointer (some ⟨u.heap.size, 0, none⟩)) _ rfl (wanted_none rfl _) (exec_box 25 (.tmp 0) (c.cells) rfl (hE 0 (c.v) (by kernel_rfl) (by kernel_rfl))) ⟨_, rfl, hk.size, Blk.new u _ _⟩ ((Keep.refl _ u).alloc _)) ?_
  refine sv 2 rfl rfl rfl (fun a u hE hD hk => exec_assign (.const (.int .i64 0)) _ rfl rfl) ?_
  exact fsteps_nil
 intro gv w1 hV k1
 rw [show dstsOf _ 2 = [1, 2] by kernel_rfl]
 simp only [fC, fN, sA, sS, sZ, dS, dZ]
 have hv1 : (.fresh w.heap.size 25 (c.cells) : Kn).p (gv 1) w1 := hV 0 1 (by kernel_rfl)
 generalize gv 1 = v1 at hv1 ⊢
 rw [show gv 2 = .int .i64 0 from hV 1 2 (by kernel_rfl)]
 clear hV
 obtain ⟨g, rfl, hg, hB⟩ := hv1
 refine wpList_nil ?_
 have HB := Lib.hid (blk_range hB)
 clear hB
 by_cases hs : 0 < c.shw
 ·have HT : Hid (c.tip = mn c.shw c.qty) := by show _ = _; unfold Ord.tip; rw [if_pos hs]
  go_upto_region 1 with fail
  refine wp_text 3 [.eq (.pointer (some ⟨g, 7, none⟩)), .eq (.int .i64 c.shw), .eq (.bool true)] rfl (by kernel_rfl) ?_ ?_
  ·refine sv 1 rfl rfl rfl (fun a u hE hD hk => exec_fldo 25 7 7 (.tmp 1) (g) (0) (7) rfl (hE 1 (.pointer (some ⟨g, 0, none⟩)) (by kernel_rfl) (by kernel_rfl)) (by kernel_rfl) rfl) ?_
   refine sv 2 rfl rfl rfl (fun a u hE hD hk => exec_loadi 3 Try.underlying3 (.tmp 3) ⟨g, 7, none⟩ (.int .i64 c.shw) rfl (hD 0 3 (by kernel_rfl)) (range_int (range_kept HB.out hk) 7 _ rfl)) ?_
   refine fsteps_cons 3 rfl (fun a u hE hD hk => f_as (show ((decide ((0 : Int) < (c.shw : Int))) : Bool) = true from decide_eq_true hs) (f_val (o := ⟨some 5, _, _, _, _, _⟩) (.bool (decide ((0 : Int) < (c.shw : Int)))) rfl (wanted_none rfl _) (exec_gtn (p := c.shw) (q := 0) rfl (hD 1 4 (by kernel_rfl)) rfl) rfl)) ?_
   exact fsteps_nil
  intro gv w2 hV k2
  rw [show dstsOf _ 3 = [3, 4, 5] by kernel_rfl]
  simp only [fC, fN, sA, sS, sZ, dS, dZ]
  rw [show gv 5 = .bool true from hV 2 5 (by kernel_rfl)]
  clear hV
  refine wpList_nil ?_
  have HB2 := Lib.hid (range_kept HB.out k2)
  clear HB hs
  go_upto_region 2 with fail
  refine wp_text 6 [.eq (.pointer (some ⟨g, 7, none⟩)), .eq (.int .i64 c.shw), .eq (.pointer (some ⟨g, 6, none⟩)), .eq (.int .i64 c.qty), .eq (.int .i64 (mn (c.shw) (c.qty))), .eq (.int .i64 (mn (c.shw) (c.qty)))] rfl (by kernel_rfl) ?_ ?_
  ·refine sv 1 rfl rfl rfl (fun a u hE hD hk => exec_fldo 25 7 7 (.tmp 1) (g) (0) (7) rfl (hE 1 (.pointer (some ⟨g, 0, none⟩)) (by kernel_rfl) (by kernel_rfl)) (by kernel_rfl) rfl) ?_
   refine sv 2 rfl rfl rfl (fun a u hE hD hk => exec_loadi 3 Try.underlying3 (.tmp 6) ⟨g, 7, none⟩ (.int .i64 c.shw) rfl (hD 0 6 (by kernel_rfl)) (range_int (range_kept HB2.out hk) 7 _ rfl)) ?_
   refine sv 3 rfl rfl rfl (fun a u hE hD hk => exec_fldo 25 6 6 (.tmp 1) (g) (0) (6) rfl (hE 1 (.pointer (some ⟨g, 0, none⟩)) (by kernel_rfl) (by kernel_rfl)) (by kernel_rfl) rfl) ?_
   refine sv 4 rfl rfl rfl (fun a u hE hD hk => exec_loadi 3 Try.underlying3 (.tmp 8) ⟨g, 6, none⟩ (.int .i64 c.qty) rfl (hD 2 8 (by kernel_rfl)) (range_int (range_kept HB2.out hk) 6 _ rfl)) ?_
   refine sv 5 rfl rfl rfl (fun a u hE hD hk => exec_min (.tmp 7) (.tmp 9) _ (c.shw) (c.qty) (mn (c.shw) (c.qty)) rfl (hD 1 7 (by kernel_rfl)) (hD 3 9 (by kernel_rfl)) rfl) ?_
   refine sv 6 rfl rfl rfl (fun a u hE hD hk => exec_assign (.tmp 10) _ rfl (hD 4 10 (by kernel_rfl))) ?_
   exact fsteps_nil
  intro gv w3 hV k3
  rw [show dstsOf _ 6 = [6, 7, 8, 9, 10, 2] by kernel_rfl]
  simp only [fC, fN, sA, sS, sZ, dS, dZ]
  rw [show gv 2 = .int .i64 (mn (c.shw) (c.qty)) from hV 5 2 (by kernel_rfl)]
  clear hV
  refine wpList_nil ?_
  go_wp2
  go_ret
  exact ⟨by rw [HT.out]; rfl, (k1.trans k2).trans k3⟩
 ·have HT : Hid (c.tip = c.qty) := by show _ = _; unfold Ord.tip; rw [if_neg hs]
  go_upto_region 1 with fail
  refine wp_text 3 [.eq (.pointer (some ⟨g, 7, none⟩)), .eq (.int .i64 c.shw), .eq (.bool false)] rfl (by kernel_rfl) ?_ ?_
  ·refine sv 1 rfl rfl rfl (fun a u hE hD hk => exec_fldo 25 7 7 (.tmp 1) (g) (0) (7) rfl (hE 1 (.pointer (some ⟨g, 0, none⟩)) (by kernel_rfl) (by kernel_rfl)) (by kernel_rfl) rfl) ?_
   refine sv 2 rfl rfl rfl (fun a u hE hD hk => exec_loadi 3 Try.underlying3 (.tmp 3) ⟨g, 7, none⟩ (.int .i64 c.shw) rfl (hD 0 3 (by kernel_rfl)) (range_int (range_kept HB.out hk) 7 _ rfl)) ?_
   refine fsteps_cons 3 rfl (fun a u hE hD hk => f_as (show ((decide ((0 : Int) < (c.shw : Int))) : Bool) = false from decide_eq_false hs) (f_val (o := ⟨some 5, _, _, _, _, _⟩) (.bool (decide ((0 : Int) < (c.shw : Int)))) rfl (wanted_none rfl _) (exec_gtn (p := c.shw) (q := 0) rfl (hD 1 4 (by kernel_rfl)) rfl) rfl)) ?_
   exact fsteps_nil
  intro gv w2 hV k2
  rw [show dstsOf _ 3 = [3, 4, 5] by kernel_rfl]
  simp only [fC, fN, sA, sS, sZ, dS, dZ]
  rw [show gv 5 = .bool false from hV 2 5 (by kernel_rfl)]
  clear hV
  refine wpList_nil ?_
  have HB2 := Lib.hid (range_kept HB.out k2)
  clear HB hs
  go_upto_region 3 with fail
  refine wp_text 3 [.eq (.pointer (some ⟨g, 6, none⟩)), .eq (.int .i64 c.qty), .eq (.int .i64 c.qty)] rfl (by kernel_rfl) ?_ ?_
  ·refine sv 1 rfl rfl rfl (fun a u hE hD hk => exec_fldo 25 6 6 (.tmp 1) (g) (0) (6) rfl (hE 1 (.pointer (some ⟨g, 0, none⟩)) (by kernel_rfl) (by kernel_rfl)) (by kernel_rfl) rfl) ?_
   refine sv 2 rfl rfl rfl (fun a u hE hD hk => exec_loadi 3 Try.underlying3 (.tmp 11) ⟨g, 6, none⟩ (.int .i64 c.qty) rfl (hD 0 11 (by kernel_rfl)) (range_int (range_kept HB2.out hk) 6 _ rfl)) ?_
   refine sv 3 rfl rfl rfl (fun a u hE hD hk => exec_assign (.tmp 12) _ rfl (hD 1 12 (by kernel_rfl))) ?_
   exact fsteps_nil
  intro gv w3 hV k3
  rw [show dstsOf _ 3 = [11, 12, 2] by kernel_rfl]
  simp only [fC, fN, sA, sS, sZ, dS, dZ]
  rw [show gv 2 = .int .i64 c.qty from hV 2 2 (by kernel_rfl)]
  clear hV
  refine wpList_nil ?_
  go_wp2
  go_ret
  exact ⟨by rw [HT.out]; rfl, (k1.trans k2).trans k3⟩
def capo (g : Nat) : List Value := [.pointer (some ⟨g, 0, none⟩)]
def cloO (g : Nat) : Value := .func (.func 101) #[] (capo g).toArray
theorem exec_mkfO {a : Act} {o : Oper} {u : World} (x : Operand) (g : Nat) (hop : o.op = .makeFunc (.func 101) #[] #[x]) (hx : a.eval x = .pointer (some ⟨g, 0, none⟩)) : (execOp a.eval o).run Try.prog u = .ok (.value (cloO g)) u := by
 unfold execOp
 simp only [hop, Instr.makeFunc, List.map_toArray, List.map_cons, List.map_nil, hx]
 rfl
set_option maxRecDepth 100000 in
theorem own_any (c : Ord) (firm : Int) (g1 : Nat) (w : World) (h1 : Blk w g1 3 [.int .i64 firm]) : Gives 101 #[c.v, .pointer (some ⟨g1, 0, none⟩)] w (.eq (.bool (decide (c.firm = firm)))) := by
 refine gives_eq ?_
 have H1 := Lib.hid h1
 clear h1
 go_enter Try.func101, Try.ntmps101
 go_upto_region 0 with fail
 refine wp_text 2 [.fresh w.heap.size 25 (c.cells), .eq (.bool false)] rfl (by kernel_rfl) ?_ ?_
 ·refine fsteps_cons 1 rfl (fun a u hE hD hk => f_new (o := ⟨some 2, _, _, _, _, _⟩) (.pointer (some ⟨u.heap.size, 0, none⟩)) _ rfl (wanted_none rfl _) (exec_box 25 (.tmp 0) (c.cells) rfl (hE 0 (c.v) (by kernel_rfl) (by kernel_rfl))) ⟨_, rfl, hk.size, Blk.new u _ _⟩ ((Keep.refl _ u).alloc _)) ?_
  refine sv 2 rfl rfl rfl (fun a u hE hD hk => exec_assign (.const (.bool false)) _ rfl rfl) ?_
  exact fsteps_nil
 intro gv w1 hV k1
 rw [show dstsOf _ 2 = [2, 3] by kernel_rfl]
 simp only [fC, fN, sA, sS, sZ, dS, dZ]
 have hv2 : (.fresh w.heap.size 25 (c.cells) : Kn).p (gv 2) w1 := hV 0 2 (by kernel_rfl)
 generalize gv 2 = v2 at hv2 ⊢
 clear hV
 obtain ⟨g, rfl, hg, hB⟩ := hv2
 refine wpList_nil ?_
 have HB := Lib.hid (blk_range hB)
 have H11 := Lib.hid (H1.out.kept k1)
 clear hB H1
 go_upto_region 1 with fail
 refine wp_text 5 [.eq (.pointer (some ⟨g, 2, none⟩)), .eq (.int .i64 c.firm), .eq (.int .i64 firm), .eq (.bool (decide ((c.firm : Int) = (firm : Int)))), .eq (.bool (decide ((c.firm : Int) = (firm : Int))))] rfl (by kernel_rfl) ?_ ?_
 ·refine sv 1 rfl rfl rfl (fun a u hE hD hk => exec_fldo 25 2 2 (.tmp 2) (g) (0) (2) rfl (hE 2 (.pointer (some ⟨g, 0, none⟩)) (by kernel_rfl) (by kernel_rfl)) (by kernel_rfl) rfl) ?_
  refine sv 2 rfl rfl rfl (fun a u hE hD hk => exec_loadi 3 Try.underlying3 (.tmp 4) ⟨g, 2, none⟩ (.int .i64 c.firm) rfl (hD 0 4 (by kernel_rfl)) (range_int (range_kept HB.out hk) 2 _ rfl)) ?_
  refine sv 3 rfl rfl rfl (fun a u hE hD hk => exec_loadi 3 Try.underlying3 (.tmp 1) ⟨g1, 0, none⟩ (.int .i64 firm) rfl (hE 1 (.pointer (some ⟨g1, 0, none⟩)) (by kernel_rfl) (by kernel_rfl)) (by rw [(H11.out.kept hk).cell]; rfl)) ?_
  refine sv 4 rfl rfl rfl (fun a u hE hD hk => exec_eqn (p := c.firm) (q := firm) rfl (hD 1 5 (by kernel_rfl)) (hD 2 6 (by kernel_rfl))) ?_
  refine sv 5 rfl rfl rfl (fun a u hE hD hk => exec_assign (.tmp 7) _ rfl (hD 3 7 (by kernel_rfl))) ?_
  exact fsteps_nil
 intro gv w2 hV k2
 rw [show dstsOf _ 5 = [4, 5, 6, 7, 3] by kernel_rfl]
 simp only [fC, fN, sA, sS, sZ, dS, dZ]
 rw [show gv 3 = .bool (decide ((c.firm : Int) = (firm : Int))) from hV 4 3 (by kernel_rfl)]
 clear hV
 refine wpList_nil ?_
 go_wp2
 go_ret
 exact ⟨rfl, k1.trans k2⟩
def ownP (firm : Int) (X : List Ent) : Int := if ownAt firm X < X.length then (ownAt firm X : Int) else -1
theorem ownAt_of {firm : Int} {X : List Ent} {k : Nat} {e : Ent} (h : ∀ (j : Nat) (x : Ent), j < k → X[j]? = some x → decide (x.o.firm = firm) = false) (he : X[k]? = some e) (hm : decide (e.o.firm = firm) = true) : ownAt firm X = k := by
 obtain ⟨hk, he'⟩ := List.getElem?_eq_some_iff.1 he
 unfold ownAt
 rw [List.findIdx_eq hk]
 refine ⟨by rw [he']; exact hm, fun j hj => ?_⟩
 have := h j X[j] hj (List.getElem?_eq_getElem (by omega))
 simpa using this
theorem ownAt_none {firm : Int} {X : List Ent} (h : ∀ (j : Nat) (x : Ent), j < X.length → X[j]? = some x → decide (x.o.firm = firm) = false) : ownAt firm X = X.length := by
 unfold ownAt
 rw [List.findIdx_eq_length]
 intro x hx
 obtain ⟨j, hj, rfl⟩ := List.getElem_of_mem hx
 exact h j _ hj (List.getElem?_eq_getElem hj)
set_option maxRecDepth 100000 in
set_option maxHeartbeats 800000 in
theorem oidx_any (v : Value) (X : List Ent) (firm : Int) (g1 : Nat) (w : World) (hS : Sl w 25 9 v X.length (ords (X.map (·.o)))) (hlen : X.length ≤ 100000000) (h1 : Blk w g1 3 [.int .i64 firm]) :
  Gives 100 #[v, cloO g1] w (.eq (.int .i64 (ownP firm X))) := by
 refine gives_eq ?_
 obtain ⟨n, hn⟩ : ∃ n, X.length = n := ⟨_, rfl⟩
 rw [hn] at hS hlen
 have HN := Lib.hid hn
 have HS := Lib.hid hS
 have H1 := Lib.hid h1
 clear hS h1 hn
 go_enter Try.func100, Try.ntmps100
 go_upto_region 1 with fail
 refine wp_text 3 [.eq (v), .eq (.int .i64 (n : Int)), .eq (.int .i64 0)] rfl (by kernel_rfl) ?_ ?_
 ·refine sv 1 rfl rfl rfl (fun a u hE hD hk => exec_move (.tmp 0) _ rfl (hE 0 (v) (by kernel_rfl) (by kernel_rfl))) ?_
  refine sv 2 rfl rfl rfl (fun a u hE hD hk => exec_lenS (.tmp 6) slO (v) (n) _ _ rfl (hD 0 6 (by kernel_rfl)) HS.out) ?_
  refine sv 3 rfl rfl rfl (fun a u hE hD hk => exec_move (.const (.int .i64 0)) _ rfl rfl) ?_
  exact fsteps_nil
 intro gv w0 hV k0
 rw [show dstsOf _ 3 = [6, 7, 8] by kernel_rfl]
 simp only [fC, fN, sA, sS, sZ, dS, dZ]
 rw [show gv 7 = .int .i64 (n : Int) from hV 1 7 (by kernel_rfl)]
 rw [show gv 8 = .int .i64 0 from hV 2 8 (by kernel_rfl)]
 clear hV
 refine wpList_nil ?_
 go_wp2_with fail
 go_loopw [8] (fun q wr => ∃ (k : Nat), k ≤ n ∧ q = .int .i64 (k : Int) ∧ Hid (∀ (j : Nat) (x : Ent), j < k → X[j]? = some x → decide (x.o.firm = firm) = false) ∧ Kept w wr) (fun q _ => n - (intOf q).toNat)
 case atStart => exact ⟨0, Nat.zero_le _, rfl, fun j x hj => (by omega), k0⟩
 case round =>
  obtain ⟨k, hk, rfl, HM, hkr⟩ := hrel
  by_cases hlt : k < n
  ·obtain ⟨g, off, c, rfl⟩ := HS.out.some_ (by omega)
   obtain ⟨e, he⟩ : ∃ e, X[k]? = some e := ⟨X[k]'(by rw [HN.out]; exact hlt), List.getElem?_eq_getElem (by rw [HN.out]; exact hlt)⟩
   have HE : Hid (wr.rangeAt g (off + k * 9) e.o.cells) := range_kept (HS.out.rngO k e.o (by rw [List.getElem?_map, he]; rfl)) hkr
   have H1r := Lib.hid (H1.out.kept hkr)
   have HEI := Lib.hid he
   clear he
   by_cases hm : decide (e.o.firm = firm) = true
   ·have HP : Hid (ownP firm X = (k : Int)) := by
     show _ = _
     have h1 := ownAt_of HM.out HEI.out hm
     unfold ownP
     rw [h1, if_pos (by rw [HN.out]; exact hlt)]
    go_upto_region 4 with fail
    refine wp_text 6 [.eq (cloO g1), .eq (.slice (some ⟨g, off, none⟩) n c), .eq (.int .i64 (k : Int)), .eq (.pointer (some ⟨g, off + k * 9, none⟩)), .eq (e.o.v), .eq (.bool true)] rfl (by kernel_rfl) ?_ ?_
    ·refine sv 1 rfl rfl rfl (fun a u hE hD hk => exec_move (.tmp 1) _ rfl (hE 1 (cloO g1) (by kernel_rfl) (by kernel_rfl))) ?_
     refine sv 2 rfl rfl rfl (fun a u hE hD hk => exec_move (.tmp 0) _ rfl (hE 0 (.slice (some ⟨g, off, none⟩) n c) (by kernel_rfl) (by kernel_rfl))) ?_
     refine sv 3 rfl rfl rfl (fun a u hE hD hk => exec_move (.tmp 5) _ rfl (hE 5 (.int .i64 (k : Int)) (by kernel_rfl) (by kernel_rfl))) ?_
     refine sv 4 rfl rfl rfl (fun a u hE hD hk => exec_ixo slO (.tmp 12) (.tmp 13) (g) (off) n c k (off + k * 9) ((k : Int)) rfl (hD 1 12 (by kernel_rfl)) (hD 2 13 (by kernel_rfl)) (by first | rfl | omega) (hlt) (by first | rfl | omega)) ?_
     refine sv 5 rfl rfl rfl (fun a u hE hD hk => exec_ldS 25 _ (.tmp 14) (g) (off + k * 9) (e.o.cells) rfl (hD 3 14 (by kernel_rfl)) (range_kept HE.out hk) Try.underlying25 (by rw [e.o.len9]; exact ord_size)) ?_
     refine fsteps_cons 6 rfl (fun a u hE hD hk => f_call (o := ⟨some 16, _, _, _, _, _⟩) 101 #[e.o.v, .pointer (some ⟨g1, 0, none⟩)] rfl (wanted_none rfl _) (exec_callv 101 _ (.tmp 11) [.tmp 15] _ [e.o.v] (capo g1) Try.func101 (by kernel_rfl) (by kernel_rfl) rfl (hD 0 11 (by kernel_rfl)) (show [a.eval (.tmp 15)] = [e.o.v] by rw [show a.eval (.tmp 15) = e.o.v from (hD 4 15 (by kernel_rfl))])) (by rw [← hm]; exact own_any e.o firm g1 u (H1r.out.kept hk))) ?_
     exact fsteps_nil
    intro gv w1 hV k1
    rw [show dstsOf _ 6 = [11, 12, 13, 14, 15, 16] by kernel_rfl]
    simp only [fC, fN, sA, sS, sZ, dS, dZ]
    rw [show gv 16 = .bool true from hV 5 16 (by kernel_rfl)]
    clear hV
    refine wpList_nil ?_
    have kw1 := hkr.trans k1
    clear hkr k1 hm
    go_wp2
    go_ret
    exact ⟨by rw [HP.out]; rfl, kw1⟩
   ·have hm' : decide (e.o.firm = firm) = false := by simpa using hm
    have HM2 : Hid (∀ (j : Nat) (x : Ent), j < k + 1 → X[j]? = some x → decide (x.o.firm = firm) = false) := by
     intro j x hj hx
     by_cases hjk : j = k
     ·subst hjk
      rw [HEI.out] at hx
      injection hx with hx
      rw [← hx]
      exact hm'
     ·exact HM.out j x (by omega) hx
    clear hm
    go_upto_region 4 with fail
    refine wp_text 6 [.eq (cloO g1), .eq (.slice (some ⟨g, off, none⟩) n c), .eq (.int .i64 (k : Int)), .eq (.pointer (some ⟨g, off + k * 9, none⟩)), .eq (e.o.v), .eq (.bool false)] rfl (by kernel_rfl) ?_ ?_
    ·refine sv 1 rfl rfl rfl (fun a u hE hD hk => exec_move (.tmp 1) _ rfl (hE 1 (cloO g1) (by kernel_rfl) (by kernel_rfl))) ?_
     refine sv 2 rfl rfl rfl (fun a u hE hD hk => exec_move (.tmp 0) _ rfl (hE 0 (.slice (some ⟨g, off, none⟩) n c) (by kernel_rfl) (by kernel_rfl))) ?_
     refine sv 3 rfl rfl rfl (fun a u hE hD hk => exec_move (.tmp 5) _ rfl (hE 5 (.int .i64 (k : Int)) (by kernel_rfl) (by kernel_rfl))) ?_
     refine sv 4 rfl rfl rfl (fun a u hE hD hk => exec_ixo slO (.tmp 12) (.tmp 13) (g) (off) n c k (off + k * 9) ((k : Int)) rfl (hD 1 12 (by kernel_rfl)) (hD 2 13 (by kernel_rfl)) (by first | rfl | omega) (hlt) (by first | rfl | omega)) ?_
     refine sv 5 rfl rfl rfl (fun a u hE hD hk => exec_ldS 25 _ (.tmp 14) (g) (off + k * 9) (e.o.cells) rfl (hD 3 14 (by kernel_rfl)) (range_kept HE.out hk) Try.underlying25 (by rw [e.o.len9]; exact ord_size)) ?_
     refine fsteps_cons 6 rfl (fun a u hE hD hk => f_call (o := ⟨some 16, _, _, _, _, _⟩) 101 #[e.o.v, .pointer (some ⟨g1, 0, none⟩)] rfl (wanted_none rfl _) (exec_callv 101 _ (.tmp 11) [.tmp 15] _ [e.o.v] (capo g1) Try.func101 (by kernel_rfl) (by kernel_rfl) rfl (hD 0 11 (by kernel_rfl)) (show [a.eval (.tmp 15)] = [e.o.v] by rw [show a.eval (.tmp 15) = e.o.v from (hD 4 15 (by kernel_rfl))])) (by rw [← hm']; exact own_any e.o firm g1 u (H1r.out.kept hk))) ?_
     exact fsteps_nil
    intro gv w1 hV k1
    rw [show dstsOf _ 6 = [11, 12, 13, 14, 15, 16] by kernel_rfl]
    simp only [fC, fN, sA, sS, sZ, dS, dZ]
    rw [show gv 16 = .bool false from hV 5 16 (by kernel_rfl)]
    clear hV
    refine wpList_nil ?_
    have kw1 := hkr.trans k1
    clear hkr k1 hm'
    go_wp2
    exact ⟨⟨k + 1, by omega, by go_num, HM2, kw1⟩, by simp [intOf]; omega⟩
  ·have HP : Hid (ownP firm X = -1) := by
    show _ = _
    have h1 : ownAt firm X = X.length := ownAt_none (fun j x hj hx => HM.out j x (by rw [HN.out] at hj; omega) hx)
    unfold ownP
    rw [h1, if_neg (by omega)]
   clear HM
   go_wp2
   go_ret
   exact ⟨by rw [HP.out]; rfl, hkr⟩
def reachV (firm : Int) (X : List Ent) : Value := .tuple #[.int .i64 (reachM firm X).1, .bool (reachM firm X).2]
theorem tip_bound {X : List Ent} (hX : Good X) {e : Ent} (he : e ∈ X) : e.o.tip ≤ 100000000 ∧ -100000000 ≤ e.o.tip := by
 have h1 := hX.ok e he
 have h2 := hX.few
 obtain ⟨i, hi, he'⟩ := List.getElem_of_mem he
 have h3 := wholeM_le hX.ok i e (by rw [List.getElem?_eq_getElem hi, he'])
 unfold Ord.tip mn
 split
 ·split <;> omega
 ·omega
set_option maxRecDepth 100000 in
set_option maxHeartbeats 1600000 in
theorem reach_any (pr : Int) (w : World) (F : Nat → Prop) (q : Nat) (X : List Ent) (firm : Int) (h : Lvl pr 110 112 w F q X) (hX : Good X) (hf : Fresh X) : Gives 88 #[.pointer (some ⟨q, 0, none⟩), .int .i64 firm] w (.eq (reachV firm X)) := by
 refine gives_eq ?_
 have HLV := Lib.hid h
 have HX := Lib.hid hX
 have HF := Lib.hid hf
 have hlen := hX.len
 have hfew := hX.few
 have HW : Hid (0 ≤ seenM X ∧ seenM X ≤ 100000000) := by
  have := whole_ge hX.ok
  show _ ∧ _
  omega
 clear h hX hf hfew
 go_enter Try.func88, Try.ntmps88
 go_upto_region 0 with fail
 refine wp_text 3 [.fresh w.heap.size 3 ([.int .i64 firm]), .eq (.int .i64 0), .eq (.bool false)] rfl (by kernel_rfl) ?_ ?_
 ·refine fsteps_cons 1 rfl (fun a u hE hD hk => f_new (o := ⟨some 3, _, _, _, _, _⟩) (.pointer (some ⟨u.heap.size, 0, none⟩)) _ rfl (wanted_none rfl _) (exec_boxi 3 (.tmp 1) (.int .i64 firm) rfl (hE 1 (.int .i64 firm) (by kernel_rfl) (by kernel_rfl)) rfl) ⟨_, rfl, hk.size, Blk.new u _ _⟩ ((Keep.refl _ u).alloc _)) ?_
  refine sv 2 rfl rfl rfl (fun a u hE hD hk => exec_assign (.const (.int .i64 0)) _ rfl rfl) ?_
  refine sv 3 rfl rfl rfl (fun a u hE hD hk => exec_assign (.const (.bool false)) _ rfl rfl) ?_
  exact fsteps_nil
 intro gv w0 hV k0
 rw [show dstsOf _ 3 = [3, 4, 5] by kernel_rfl]
 simp only [fC, fN, sA, sS, sZ, dS, dZ]
 have hv3 : (.fresh w.heap.size 3 ([.int .i64 firm]) : Kn).p (gv 3) w0 := hV 0 3 (by kernel_rfl)
 generalize gv 3 = v3 at hv3 ⊢
 rw [show gv 4 = .int .i64 0 from hV 1 4 (by kernel_rfl)]
 rw [show gv 5 = .bool false from hV 2 5 (by kernel_rfl)]
 clear hV
 obtain ⟨g1, rfl, hg1, hB1⟩ := hv3
 refine wpList_nil ?_
 have HB1 := Lib.hid hB1
 have HL0 := Lib.hid (HLV.out.kept k0)
 clear hB1 HLV
 obtain ⟨n, hn⟩ : ∃ n, X.length = n := ⟨_, rfl⟩
 have HN := Lib.hid hn
 go_upto_region 1 with fail
 refine wp_text 3 [.eq (.pointer (some ⟨q, 0, none⟩)), .sl w0.heap.size 25 9 n (ords (X.map (·.o))), .sl w0.heap.size 25 9 n (ords (X.map (·.o)))] rfl (by kernel_rfl) ?_ ?_
 ·refine sv 1 rfl rfl rfl (fun a u hE hD hk => exec_move (.tmp 0) _ rfl (hE 0 (.pointer (some ⟨q, 0, none⟩)) (by kernel_rfl) (by kernel_rfl))) ?_
  refine fsteps_cons 2 rfl (fun a u hE hD hk => f_call (o := ⟨some 12, _, _, _, _, _⟩) 80 #[.pointer (some ⟨q, 0, none⟩)] rfl (wanted_none rfl _) (exec_call 80 _ [.tmp 11] _ [.pointer (some ⟨q, 0, none⟩)] Try.func80 (by kernel_rfl) (by kernel_rfl) rfl (show [a.eval (.tmp 11)] = [.pointer (some ⟨q, 0, none⟩)] from (by rw [show a.eval (.tmp 11) = .pointer (some ⟨q, 0, none⟩) from (hD 0 11 (by kernel_rfl))] <;> rfl)) u) ((by rw [← HN.out]; exact gives_base (orders_any u F q X (HL0.out.kept hk) HX.out) hk.size))) ?_
  refine fsteps_cons 3 rfl (fun a u hE hD hk => f_val (o := ⟨some 6, _, _, _, _, _⟩) (a.eval (.tmp 12)) rfl (wanted_none rfl _) (exec_assign (.tmp 12) _ rfl rfl) (hD 1 12 (by kernel_rfl))) ?_
  exact fsteps_nil
 intro gv w1 hV k1
 rw [show dstsOf _ 3 = [11, 12, 6] by kernel_rfl]
 simp only [fC, fN, sA, sS, sZ, dS, dZ]
 have hv6 : (.sl w0.heap.size 25 9 n (ords (X.map (·.o))) : Kn).p (gv 6) w1 := hV 2 6 (by kernel_rfl)
 generalize gv 6 = v6 at hv6 ⊢
 clear hV
 obtain ⟨v, hv⟩ : ∃ v, v = v6 := ⟨_, rfl⟩
 subst hv
 refine wpList_nil ?_
 have HS1 := Lib.hid hv6.1
 have HL1 := Lib.hid (HL0.out.kept k1)
 have HB11 := Lib.hid (HB1.out.kept k1)
 have kw1 := k0.trans k1
 rw [hn] at hlen
 clear HL0 HB1 k0 k1 hv6 hn
 go_upto_region 2 with fail
 refine wp_text 4 [.eq (v), .eq (cloO g1), .eq (.int .i64 (ownP firm X)), .eq (.int .i64 (ownP firm X))] rfl (by kernel_rfl) ?_ ?_
 ·refine sv 1 rfl rfl rfl (fun a u hE hD hk => exec_move (.tmp 6) _ rfl (hE 6 (v) (by kernel_rfl) (by kernel_rfl))) ?_
  refine sv 2 rfl rfl rfl (fun a u hE hD hk => exec_mkfO (.tmp 3) g1 rfl (hE 3 (.pointer (some ⟨g1, 0, none⟩)) (by kernel_rfl) (by kernel_rfl))) ?_
  refine fsteps_cons 3 rfl (fun a u hE hD hk => f_call (o := ⟨some 15, _, _, _, _, _⟩) 100 #[v, cloO g1] rfl (wanted_none rfl _) (exec_call 100 _ [.tmp 13, .tmp 14] _ [v, cloO g1] Try.func100 (by kernel_rfl) (by kernel_rfl) rfl (show [a.eval (.tmp 13), a.eval (.tmp 14)] = [v, cloO g1] from (by rw [show a.eval (.tmp 13) = v from (hD 0 13 (by kernel_rfl)), show a.eval (.tmp 14) = cloO g1 from (hD 1 14 (by kernel_rfl))] <;> rfl)) u) (oidx_any v X firm g1 u (by rw [HN.out]; exact HS1.out.kept hk) (by rw [HN.out]; exact hlen) (HB11.out.kept hk))) ?_
  refine sv 4 rfl rfl rfl (fun a u hE hD hk => exec_assign (.tmp 15) _ rfl (hD 2 15 (by kernel_rfl))) ?_
  exact fsteps_nil
 intro gv w2 hV k2
 rw [show dstsOf _ 4 = [13, 14, 15, 7] by kernel_rfl]
 simp only [fC, fN, sA, sS, sZ, dS, dZ]
 rw [show gv 7 = .int .i64 (ownP firm X) from hV 3 7 (by kernel_rfl)]
 clear hV
 refine wpList_nil ?_
 have kw2 := kw1.trans k2
 have HL2 := Lib.hid (HL1.out.kept k2)
 have HS2 := Lib.hid (HS1.out.kept k2)
 clear HL1 HS1 HB11 kw1
 by_cases hown : ownAt firm X < n
 ·skip
  obtain ⟨k, hk0⟩ : ∃ k, ownAt firm X = k := ⟨_, rfl⟩
  have hP : ownP firm X = (k : Int) := by unfold ownP; rw [if_pos (by rw [HN.out]; exact hown), hk0]
  rw [hP]
  have HR : Hid (reachM firm X = (seenM (X.take k), true)) := by show _ = _; unfold reachM; rw [if_pos (by rw [HN.out]; exact hown), hk0]
  rw [hk0] at hown
  clear hP hk0
  by_cases hz : k = 0
  ·subst hz
   have HR0 : Hid (reachV firm X = .tuple #[.int .i64 0, .bool true]) := by show _ = _; unfold reachV; rw [HR.out]; rfl
   clear HR
   go_wp2
   go_ret2
   rw [HR0.out]
   exact ⟨rfl, kw2⟩
  ·have hz1 : ¬ ((k : Int) = 0) := by omega
   have hz2 : ¬ ((k : Int) = -1) := by omega
   have d1 : decide ((k : Int) = 0) = false := decide_eq_false hz1
   have d2 : decide ((k : Int) = -1) = false := decide_eq_false hz2
   obtain ⟨vs, hvs, hvo, hvS⟩ := slice_lS slO v n k (by omega) _ w2 HS2.out
   have HVS := Lib.hid hvs
   have HVT : Hid (∀ u, Kept w2 u → Sl u 25 9 vs (n - k) (ords ((X.drop k).map (·.o)))) := fun u hk => by
    have := hvS u _ (HS2.out.kept hk)
    rw [show (ords (X.map (·.o))).drop (k * 9) = ords ((X.map (·.o)).drop k) from flat_drop Ord.cells 9 Ord.len9 _ k, ← List.map_drop] at this
    exact this
   clear hvs hvo hvS
   go_upto_region 8 with fail
   refine wp_text 3 [.eq (.pointer (some ⟨q, 0, none⟩)), .eq (.int .i64 (seenM X)), .eq (.int .i64 (seenM X))] rfl (by kernel_rfl) ?_ ?_
   ·refine sv 1 rfl rfl rfl (fun a u hE hD hk => exec_move (.tmp 0) _ rfl (hE 0 (.pointer (some ⟨q, 0, none⟩)) (by kernel_rfl) (by kernel_rfl))) ?_
    refine fsteps_cons 2 rfl (fun a u hE hD hk => f_call (o := ⟨some 24, _, _, _, _, _⟩) 72 #[.pointer (some ⟨q, 0, none⟩)] rfl (wanted_none rfl _) (exec_call 72 _ [.tmp 23] _ [.pointer (some ⟨q, 0, none⟩)] Try.func72 (by kernel_rfl) (by kernel_rfl) rfl (show [a.eval (.tmp 23)] = [.pointer (some ⟨q, 0, none⟩)] from (by rw [show a.eval (.tmp 23) = .pointer (some ⟨q, 0, none⟩) from (hD 0 23 (by kernel_rfl))] <;> rfl)) u) (seen_any u F q X (HL2.out.kept hk) HX.out)) ?_
    refine sv 3 rfl rfl rfl (fun a u hE hD hk => exec_assign (.tmp 24) _ rfl (hD 1 24 (by kernel_rfl))) ?_
    exact fsteps_nil
   intro gv w3 hV k3
   rw [show dstsOf _ 3 = [23, 24, 8] by kernel_rfl]
   simp only [fC, fN, sA, sS, sZ, dS, dZ]
   rw [show gv 8 = .int .i64 (seenM X) from hV 2 8 (by kernel_rfl)]
   clear hV
   refine wpList_nil ?_
   have HV3 := Lib.hid (HVT.out w3 k3)
   have kw3 := kw2.trans k3
   obtain ⟨m, hm⟩ : ∃ m, n - k = m := ⟨_, rfl⟩
   have hmn : k + m = n := by omega
   rw [hm] at HV3
   clear hm
   go_upto_region 9 with fail
   refine wp_text 5 [.eq (v), .eq (.int .i64 (k : Int)), .eq (vs), .eq (.int .i64 (m : Int)), .eq (.int .i64 0)] rfl (by kernel_rfl) ?_ ?_
   ·refine sv 1 rfl rfl rfl (fun a u hE hD hk => exec_move (.tmp 6) _ rfl (hE 6 (v) (by kernel_rfl) (by kernel_rfl))) ?_
    refine sv 2 rfl rfl rfl (fun a u hE hD hk => exec_move (.tmp 7) _ rfl (hE 7 (.int .i64 (k : Int)) (by kernel_rfl) (by kernel_rfl))) ?_
    refine sv 3 rfl rfl rfl (fun a u hE hD hk => exec_slcL slO (.tmp 25) (.tmp 26) v vs _ rfl (hD 0 25 (by kernel_rfl)) (hD 1 26 (by kernel_rfl)) (HVS.out u)) ?_
    refine sv 4 rfl rfl rfl (fun a u hE hD hk => exec_lenS (.tmp 27) slO (vs) (m) _ _ rfl (hD 2 27 (by kernel_rfl)) HV3.out) ?_
    refine sv 5 rfl rfl rfl (fun a u hE hD hk => exec_move (.const (.int .i64 0)) _ rfl rfl) ?_
    exact fsteps_nil
   intro gv w4 hV k4
   rw [show dstsOf _ 5 = [25, 26, 27, 28, 29] by kernel_rfl]
   simp only [fC, fN, sA, sS, sZ, dS, dZ]
   rw [show gv 27 = vs from hV 2 27 (by kernel_rfl)]
   rw [show gv 28 = .int .i64 (m : Int) from hV 3 28 (by kernel_rfl)]
   rw [show gv 29 = .int .i64 0 from hV 4 29 (by kernel_rfl)]
   clear hV
   refine wpList_nil ?_
   have kw4 := kw3.trans k4
   have HV4 := Lib.hid (HV3.out.kept k4)
   clear HVS HVT HV3 HL2 HS2 kw2 kw3 k3 k4
   go_wp2_with fail
   go_loopw [8, 29] (fun t x wr => ∃ (i : Nat) (s : Int), i ≤ m ∧ x = .int .i64 i ∧ t = .int .i64 s ∧ Hid (s = seenM X - seenM ((X.drop k).take i)) ∧ Kept w4 wr) (fun _ x _ => m - (intOf x).toNat)
   case atStart => exact ⟨0, seenM X, Nat.zero_le _, rfl, rfl, by show _ = _; rw [List.take_zero]; simp [seenM, sumI], Kept.refl _⟩
   case round =>
    obtain ⟨i, s, hi, rfl, rfl, HSM, hkr⟩ := hrel
    by_cases hlt : i < m
    ·skip
     obtain ⟨g, off, c, rfl⟩ := HV4.out.some_ (by omega)
     obtain ⟨e, he⟩ : ∃ e, X[k + i]? = some e := ⟨X[k + i]'(by rw [HN.out]; omega), List.getElem?_eq_getElem (by rw [HN.out]; omega)⟩
     have HE : Hid (wr.rangeAt g (off + i * 9) e.o.cells) := range_kept (HV4.out.rngO i e.o (by rw [List.getElem?_map, List.getElem?_drop, he]; rfl)) hkr
     have HEI := Lib.hid he
     clear he
     go_upto_region 11 with fail
     refine wp_text 3 [.eq (.pointer (some ⟨g, off + i * 9, none⟩)), .eq (e.o.v), .fresh wr.heap.size 25 zeroO.cells] rfl (by kernel_rfl) ?_ ?_
     ·refine sv 1 rfl rfl rfl (fun a u hE hD hk => exec_ixo slO (.tmp 27) (.tmp 29) (g) (off) m c i (off + i * 9) ((i : Int)) rfl (hE 27 (.slice (some ⟨g, off, none⟩) m c) (by kernel_rfl) (by kernel_rfl)) (hE 29 (.int .i64 (i : Int)) (by kernel_rfl) (by kernel_rfl)) (by first | rfl | omega) (hlt) (by first | rfl | omega)) ?_
      refine sv 2 rfl rfl rfl (fun a u hE hD hk => exec_ldS 25 _ (.tmp 31) (g) (off + i * 9) (e.o.cells) rfl (hD 0 31 (by kernel_rfl)) (range_kept HE.out hk) Try.underlying25 (by rw [e.o.len9]; exact ord_size)) ?_
      refine fsteps_cons 3 rfl (fun a u hE hD hk => f_new (o := ⟨some 10, _, _, _, _, _⟩) (.pointer (some ⟨u.heap.size, 0, none⟩)) _ rfl (wanted_none rfl _) (exec_alc 25 zeroO.cells rfl zO) ⟨_, rfl, hk.size, Blk.new u _ _⟩ ((Keep.refl _ u).alloc _)) ?_
      exact fsteps_nil
     intro gv w5 hV k5
     rw [show dstsOf _ 3 = [31, 32, 10] by kernel_rfl]
     simp only [fC, fN, sA, sS, sZ, dS, dZ]
     have hv10 : (.fresh wr.heap.size 25 zeroO.cells : Kn).p (gv 10) w5 := hV 2 10 (by kernel_rfl)
     generalize gv 10 = v10 at hv10 ⊢
     rw [show gv 32 = e.o.v from hV 1 32 (by kernel_rfl)]
     clear hV
     obtain ⟨b5, rfl, hb5, hB5⟩ := hv10
     refine l_setS (o := ⟨none, _, _, _, _, _⟩) 25 b5 25 zeroO.cells e.o.cells (.tmp 10) (.tmp 32) rfl rfl (by kernel_rfl) (by kernel_rfl) hB5 (by rw [Ord.len9]; exact ord_size) (by rw [Ord.len9, Ord.len9]) (Ord.one1 _) ?_
     intro w6 hB6 hk6 hs6
     simp only [Act.put]
     refine wpList_nil ?_
     have kw6 : Kept wr w6 := k5.trans' hk6 (by omega)
     have HB6 := Lib.hid (blk_range hB6)
     clear hB5 hB6 hk6 HE k5 hs6
     have HM1 : Hid (s - e.o.tip = seenM X - seenM ((X.drop k).take (i + 1))) := by
      show _ = _
      rw [HSM.out, List.take_add_one, List.getElem?_drop, HEI.out, seenM_append]
      have h1 : e.n = e.o.tip := HF.out e (by
       rw [← List.drop_one, List.mem_iff_getElem?]
       exact ⟨k + i - 1, by rw [List.getElem?_drop, show 1 + (k + i - 1) = k + i by omega]; exact HEI.out⟩)
      simp [seenM, sumI, h1]
      omega
     have hs1 : -100000000 ≤ s ∧ s ≤ 100000000 := by
      have h1 := HW.out
      have h2 : seenM X = seenM (X.take k) + seenM ((X.drop k).take i) + seenM ((X.drop k).drop i) := by
       rw [← seenM_append, ← seenM_append, List.append_assoc, List.take_append_drop, List.take_append_drop]
      have h3 := whole_ge (X := X.take k) (fun x hx => HX.out.ok x (List.mem_of_mem_take hx))
      have h4 := whole_ge (X := (X.drop k).take i) (fun x hx => HX.out.ok x (List.mem_of_mem_drop (List.mem_of_mem_take hx)))
      have h5 := whole_ge (X := (X.drop k).drop i) (fun x hx => HX.out.ok x (List.mem_of_mem_drop (List.mem_of_mem_drop hx)))
      have h6 := HSM.out
      omega
     have ht := tip_bound HX.out (List.mem_of_getElem? HEI.out)
     clear HSM
     go_upto_region 12 with fail
     refine wp_text 4 [.eq (.int .i64 s), .eq (e.o.v), .eq (.int .i64 e.o.tip), .eq (.int .i64 ((s : Int) - (e.o.tip : Int)))] rfl (by kernel_rfl) ?_ ?_
     ·refine sv 1 rfl rfl rfl (fun a u hE hD hk => exec_move (.tmp 8) _ rfl (hE 8 (.int .i64 s) (by kernel_rfl) (by kernel_rfl))) ?_
      refine sv 2 rfl rfl rfl (fun a u hE hD hk => exec_ldS 25 _ (.tmp 10) (b5) (0) (e.o.cells) rfl (hE 10 (.pointer (some ⟨b5, 0, none⟩)) (by kernel_rfl) (by kernel_rfl)) (range_kept HB6.out hk) Try.underlying25 (by rw [e.o.len9]; exact ord_size)) ?_
      refine fsteps_cons 3 rfl (fun a u hE hD hk => f_call (o := ⟨some 35, _, _, _, _, _⟩) 103 #[e.o.v] rfl (wanted_none rfl _) (exec_call 103 _ [.tmp 34] _ [e.o.v] Try.func103 (by kernel_rfl) (by kernel_rfl) rfl (show [a.eval (.tmp 34)] = [e.o.v] from (by rw [show a.eval (.tmp 34) = e.o.v from (hD 1 34 (by kernel_rfl))] <;> rfl)) u) (visible_any e.o u)) ?_
      refine sv 4 rfl rfl rfl (fun a u hE hD hk => exec_subn (p := (s)) (q := (e.o.tip)) ((s : Int) - (e.o.tip : Int)) rfl (hD 0 33 (by kernel_rfl)) (hD 2 35 (by kernel_rfl)) rfl (by omega) (by omega)) ?_
      exact fsteps_nil
     intro gv w7 hV k7
     rw [show dstsOf _ 4 = [33, 34, 35, 36] by kernel_rfl]
     simp only [fC, fN, sA, sS, sZ, dS, dZ]
     rw [show gv 36 = .int .i64 ((s : Int) - (e.o.tip : Int)) from hV 3 36 (by kernel_rfl)]
     clear hV
     refine l_val (o := ⟨some 8, _, _, _, _, _⟩) (.int .i64 ((s : Int) - (e.o.tip : Int))) rfl (exec_assign (.tmp 36) (.int .i64 ((s : Int) - (e.o.tip : Int))) rfl (by kernel_rfl)) ?_
     simp only [Act.put, sA, sS, sZ]
     refine wpList_nil ?_
     have kw7 := (hkr.trans kw6).trans k7
     clear hs1 ht
     go_wp2
     exact ⟨⟨i + 1, s - e.o.tip, by omega, by go_num, rfl, HM1, kw7⟩, by simp [intOf]; omega⟩
    ·have HFN : Hid (reachV firm X = .tuple #[.int .i64 s, .bool true]) := by
      show _ = _
      unfold reachV
      rw [HR.out, HSM.out, List.take_of_length_le (l := X.drop k) (by rw [List.length_drop, HN.out]; omega)]
      have h2 : seenM X = seenM (X.take k) + seenM (X.drop k) := by rw [← seenM_append, List.take_append_drop]
      simp only [h2]
      rw [show seenM (X.take k) + seenM (X.drop k) - seenM (X.drop k) = seenM (X.take k) by omega]
     have kw9 := kw4.trans hkr
     clear HSM
     go_wp2
     go_ret2
     rw [HFN.out]
     exact ⟨rfl, kw9⟩
 ·have hP : ownP firm X = -1 := by unfold ownP; rw [if_neg (by rw [HN.out]; exact hown)]
  rw [hP]
  have HR : Hid (reachV firm X = .tuple #[.int .i64 (wholeM X), .bool false]) := by show _ = _; unfold reachV reachM; rw [if_neg (by rw [HN.out]; exact hown)]
  clear hP hown
  go_upto_region 5 with fail
  refine wp_text 4 [.eq (.pointer (some ⟨q, 0, none⟩)), .eq (.int .i64 (wholeM X)), .eq (.int .i64 (wholeM X)), .eq (.bool false)] rfl (by kernel_rfl) ?_ ?_
  ·refine sv 1 rfl rfl rfl (fun a u hE hD hk => exec_move (.tmp 0) _ rfl (hE 0 (.pointer (some ⟨q, 0, none⟩)) (by kernel_rfl) (by kernel_rfl))) ?_
   refine fsteps_cons 2 rfl (fun a u hE hD hk => f_call (o := ⟨some 20, _, _, _, _, _⟩) 102 #[.pointer (some ⟨q, 0, none⟩)] rfl (wanted_none rfl _) (exec_call 102 _ [.tmp 19] _ [.pointer (some ⟨q, 0, none⟩)] Try.func102 (by kernel_rfl) (by kernel_rfl) rfl (show [a.eval (.tmp 19)] = [.pointer (some ⟨q, 0, none⟩)] from (by rw [show a.eval (.tmp 19) = .pointer (some ⟨q, 0, none⟩) from (hD 0 19 (by kernel_rfl))] <;> rfl)) u) (whole_any u F q X (HL2.out.kept hk) HX.out)) ?_
   refine sv 3 rfl rfl rfl (fun a u hE hD hk => exec_assign (.tmp 20) _ rfl (hD 1 20 (by kernel_rfl))) ?_
   refine sv 4 rfl rfl rfl (fun a u hE hD hk => exec_assign (.const (.bool false)) _ rfl rfl) ?_
   exact fsteps_nil
  intro gv w3 hV k3
  rw [show dstsOf _ 4 = [19, 20, 4, 5] by kernel_rfl]
  simp only [fC, fN, sA, sS, sZ, dS, dZ]
  rw [show gv 4 = .int .i64 (wholeM X) from hV 2 4 (by kernel_rfl)]
  rw [show gv 5 = .bool false from hV 3 5 (by kernel_rfl)]
  clear hV
  refine wpList_nil ?_
  have kw3 := kw2.trans k3
  go_wp2
  go_ret2
  rw [HR.out]
  exact ⟨rfl, kw3⟩
theorem Sid.drop {s : Int} {L : List Lev} (h : Sid s L) : ∀ (i : Nat), Sid s (L.drop i) := by
 intro i
 induction i generalizing L with
 | zero => exact h
 | succ i ih =>
  cases L with
  | nil => exact h
  | cons l L => exact ih h.tail
theorem reach_nn {X : List Ent} (hX : Good X) (firm : Int) : 0 ≤ (reachM firm X).1 := by
 have hw := whole_ge hX.ok
 have hge := whole_ge (X := X.take (ownAt firm X)) (fun x hx => hX.ok x (List.mem_of_mem_take hx))
 unfold reachM
 split <;> simp only <;> omega
set_option maxRecDepth 100000 in
set_option maxHeartbeats 1600000 in
theorem gives_any (w : World) (F : Nat → Prop) (g off : Nat) (s s0 : Int) (L : List Lev) (o : Ord) (h : Lad w F g off s L) (hL : Sid s0 L) : Gives 65 #[.pointer (some ⟨g, off, none⟩), o.v] w (.eq (.int .i64 (givesM o L))) := by
 refine gives_eq ?_
 have HTOT : Hid (givesM o L ≤ 67108864) := by
  have h1 := gives_le o L hL
  have h2 := wholeL_le hL
  show _ ≤ _
  omega
 obtain ⟨v, hs0, hv0, Z, G, eL, hW⟩ := h
 have hn64 : Z.length ≤ 64 := by have := hL.ok.len; rw [← eL, levs_len] at this; exact this
 have HS := Lib.hid hs0
 have HV := Lib.hid hv0
 have HW := Lib.hid hW
 have HL := Lib.hid hL
 have EL := Lib.hid eL
 obtain ⟨n, hn⟩ : ∃ n, Z.length = n := ⟨_, rfl⟩
 have HSL := Lib.hid hW.sl
 rw [hn] at HSL hn64
 have HN := Lib.hid hn
 clear hs0 hv0 hW hL eL hn
 go_enter Try.func65, Try.ntmps65
 go_upto_region 0 with fail
 refine wp_text 2 [.fresh w.heap.size 25 (o.cells), .eq (.int .i64 0)] rfl (by kernel_rfl) ?_ ?_
 ·refine fsteps_cons 1 rfl (fun a u hE hD hk => f_new (o := ⟨some 3, _, _, _, _, _⟩) (.pointer (some ⟨u.heap.size, 0, none⟩)) _ rfl (wanted_none rfl _) (exec_box 25 (.tmp 1) (o.cells) rfl (hE 1 (o.v) (by kernel_rfl) (by kernel_rfl))) ⟨_, rfl, hk.size, Blk.new u _ _⟩ ((Keep.refl _ u).alloc _)) ?_
  refine sv 2 rfl rfl rfl (fun a u hE hD hk => exec_assign (.const (.int .i64 0)) _ rfl rfl) ?_
  exact fsteps_nil
 intro gv wa hV ka
 rw [show dstsOf _ 2 = [3, 4] by kernel_rfl]
 simp only [fC, fN, sA, sS, sZ, dS, dZ]
 have hv3 : (.fresh w.heap.size 25 (o.cells) : Kn).p (gv 3) wa := hV 0 3 (by kernel_rfl)
 generalize gv 3 = v3 at hv3 ⊢
 rw [show gv 4 = .int .i64 0 from hV 1 4 (by kernel_rfl)]
 clear hV
 obtain ⟨g3, rfl, hg3, hB3⟩ := hv3
 refine wpList_nil ?_
 have HO := Lib.hid (blk_range hB3)
 clear hB3
 go_upto_region 1 with fail
 refine wp_text 1 [.eq (.int .i64 0)] rfl (by kernel_rfl) ?_ ?_
 ·refine sv 1 rfl rfl rfl (fun a u hE hD hk => exec_assign (.const (.int .i64 0)) _ rfl rfl) ?_
  exact fsteps_nil
 intro gv wb hV kb
 rw [show dstsOf _ 1 = [5] by kernel_rfl]
 simp only [fC, fN, sA, sS, sZ, dS, dZ]
 rw [show gv 5 = .int .i64 0 from hV 0 5 (by kernel_rfl)]
 clear hV
 refine wpList_nil ?_
 have kab := ka.trans kb
 have HOb := Lib.hid (range_kept HO.out kb)
 have HVb := Lib.hid (kab.cell HV.out)
 clear HO ka kb
 go_upto_region 2 with fail
 refine wp_text 6 [.eq (.pointer (some ⟨g, off, none⟩)), .eq (.pointer (some ⟨g, off, none⟩)), .eq (.pointer (some ⟨g, off + 1, none⟩)), .eq (v), .eq (.int .i64 (n : Int)), .eq (.int .i64 0)] rfl (by kernel_rfl) ?_ ?_
 ·refine sv 1 rfl rfl rfl (fun a u hE hD hk => exec_move (.tmp 0) _ rfl (hE 0 (.pointer (some ⟨g, off, none⟩)) (by kernel_rfl) (by kernel_rfl))) ?_
  refine sv 2 rfl rfl rfl (fun a u hE hD hk => exec_nilp (.tmp 10) ⟨g, off, none⟩ rfl (hD 0 10 (by kernel_rfl))) ?_
  refine sv 3 rfl rfl rfl (fun a u hE hD hk => exec_fldo 73 1 1 (.tmp 11) (g) (off) (off + 1) rfl (hD 1 11 (by kernel_rfl)) (by kernel_rfl) rfl) ?_
  refine sv 4 rfl rfl rfl (fun a u hE hD hk => exec_ldv 71 _ Try.underlying71 (.tmp 12) ⟨g, off + 1, none⟩ (v) rfl (hD 2 12 (by kernel_rfl)) (Kept.cell hk (HVb.out))) ?_
  refine sv 5 rfl rfl rfl (fun a u hE hD hk => exec_lenS (.tmp 13) slQ (v) (n) _ _ rfl (hD 3 13 (by kernel_rfl)) HSL.out) ?_
  refine sv 6 rfl rfl rfl (fun a u hE hD hk => exec_move (.const (.int .i64 0)) _ rfl rfl) ?_
  exact fsteps_nil
 intro gv w0 hV k0
 rw [show dstsOf _ 6 = [10, 11, 12, 13, 14, 15] by kernel_rfl]
 simp only [fC, fN, sA, sS, sZ, dS, dZ]
 rw [show gv 13 = v from hV 3 13 (by kernel_rfl)]
 rw [show gv 14 = .int .i64 (n : Int) from hV 4 14 (by kernel_rfl)]
 rw [show gv 15 = .int .i64 0 from hV 5 15 (by kernel_rfl)]
 clear hV
 refine wpList_nil ?_
 have HO0 := Lib.hid (range_kept HOb.out k0)
 have k0 := kab.trans k0
 clear HOb HVb kab HV HS
 go_wp2_with fail
 go_loopw [5, 15] (fun t x wr => ∃ (i : Nat) (a : Int), i ≤ n ∧ x = .int .i64 i ∧ t = .int .i64 a ∧ Hid (givesM o L = a + givesM o (L.drop i)) ∧ 0 ≤ a ∧ Kept w wr ∧ Kept w0 wr) (fun _ x _ => n - (intOf x).toNat)
 case atStart => exact ⟨0, 0, Nat.zero_le _, rfl, rfl, by show _ = _; rw [List.drop_zero]; omega, Int.le_refl _, k0, Kept.refl _⟩
 case round =>
  obtain ⟨i, s, hi, rfl, rfl, HM, hs0, hkr, hk0⟩ := hrel
  by_cases hlt : i < n
  ·skip
   obtain ⟨gs, os, c, rfl⟩ := HSL.out.some_ (by omega)
   obtain ⟨z, hz⟩ : ∃ z, Z[i]? = some z := ⟨Z[i]'(by rw [HN.out]; omega), List.getElem?_eq_getElem (by rw [HN.out]; omega)⟩
   obtain ⟨q, pr, X⟩ := z
   have hcell := (HW.out.kept hkr).cell hz
   have HC := Lib.hid hcell
   have HZ := Lib.hid hz
   have HLV := Lib.hid ((HW.out.kept hkr).lv (q, pr, X) (List.mem_of_getElem? hz))
   have HLM : Hid ((pr, X) ∈ L) := by show _ ∈ _; rw [← EL.out]; exact levs_mem (List.mem_of_getElem? hz)
   have HA : Hid (L[i]? = some (pr, X)) := by show _ = _; rw [← EL.out]; exact levs_at hz
   clear hcell hz
   go_upto_region 4 with fail
   refine wp_text 3 [.eq (.pointer (some ⟨gs, os + i * 1, none⟩)), .eq (.pointer (some ⟨q, 0, none⟩)), .eq (.pointer (some ⟨q, 0, none⟩))] rfl (by kernel_rfl) ?_ ?_
   ·refine sv 1 rfl rfl rfl (fun a u hE hD hk => exec_ixo slQ (.tmp 13) (.tmp 15) (gs) (os) n c i (os + i * 1) ((i : Int)) rfl (hE 13 (.slice (some ⟨gs, os, none⟩) n c) (by kernel_rfl) (by kernel_rfl)) (hE 15 (.int .i64 (i : Int)) (by kernel_rfl) (by kernel_rfl)) (by first | rfl | omega) (hlt) (by first | rfl | omega)) ?_
    refine sv 2 rfl rfl rfl (fun a u hE hD hk => exec_ldp 97 _ Try.underlying97 (.tmp 17) ⟨gs, os + i * 1, none⟩ (.pointer (some ⟨q, 0, none⟩)) rfl (hD 0 17 (by kernel_rfl)) (Kept.cell hk (HC.out))) ?_
    refine sv 3 rfl rfl rfl (fun a u hE hD hk => exec_assign (.tmp 18) _ rfl (hD 1 18 (by kernel_rfl))) ?_
    exact fsteps_nil
   intro gv w1 hV k1
   rw [show dstsOf _ 3 = [17, 18, 7] by kernel_rfl]
   simp only [fC, fN, sA, sS, sZ, dS, dZ]
   rw [show gv 7 = .pointer (some ⟨q, 0, none⟩) from hV 2 7 (by kernel_rfl)]
   clear hV
   refine wpList_nil ?_
   have kw1 := hkr.trans k1
   have HLV1 := Lib.hid (HLV.out.kept k1)
   have HO1 := Lib.hid (range_kept HO0.out (hk0.trans k1))
   have k01 := hk0.trans k1
   have HGD := Lib.hid (HL.out.good HLM.out).1
   have HFR := Lib.hid (HL.out.fr _ HLM.out)
   have HD : Hid (L.drop i = (pr, X) :: L.drop (i + 1)) := by
    obtain ⟨hi', he⟩ := List.getElem?_eq_some_iff.1 HA.out
    show _ = _
    rw [List.drop_eq_getElem_cons hi', he]
   have HNN := Lib.hid (reach_nn HGD.out o.firm)
   have HG2 := Lib.hid (gives_nn o _ (HL.out.drop (i + 1)))
   clear HC HLV k1 hk0
   by_cases hcr : o.crosses pr = true
   ·have HCR := Lib.hid hcr
    have HM1 : Hid (givesM o L = s + (if (reachM o.firm X).2 = true then (reachM o.firm X).1 else (reachM o.firm X).1 + givesM o (L.drop (i + 1)))) := by
     show _ = _
     rw [HM.out, HD.out, givesM]
     simp only
     rw [if_pos hcr]
    clear hcr HM
    go_upto_region 5 with fail
    refine wp_free 4 [.eq (o.v), .eq (.pointer (some ⟨q, 0, none⟩)), .eq (.int .i64 pr), .eq (.bool true)] (by kernel_rfl) rfl (by kernel_rfl) ?_ ?_
    ·refine sv 1 rfl rfl rfl (fun a u hE hD hk => exec_ldS 25 _ (.tmp 3) (g3) (0) (o.cells) rfl (hE 3 (.pointer (some ⟨g3, 0, none⟩)) (by kernel_rfl) (by kernel_rfl)) (range_kept HO1.out hk) Try.underlying25 (by rw [o.len9]; exact ord_size)) ?_
     refine sv 2 rfl rfl rfl (fun a u hE hD hk => exec_move (.tmp 7) _ rfl (hE 7 (.pointer (some ⟨q, 0, none⟩)) (by kernel_rfl) (by kernel_rfl))) ?_
     refine fsteps_cons 3 rfl (fun a u hE hD hk => f_call (o := ⟨some 21, _, _, _, _, _⟩) 68 #[.pointer (some ⟨q, 0, none⟩)] rfl (wanted_none rfl _) (exec_call 68 _ [.tmp 20] _ [.pointer (some ⟨q, 0, none⟩)] Try.func68 (by kernel_rfl) (by kernel_rfl) rfl (show [a.eval (.tmp 20)] = [.pointer (some ⟨q, 0, none⟩)] from (by rw [show a.eval (.tmp 20) = .pointer (some ⟨q, 0, none⟩) from (hD 1 20 (by kernel_rfl))] <;> rfl)) u) (price_any u _ q X (HLV1.out.kept hk))) ?_
     refine fsteps_cons 4 rfl (fun a u hE hD hk => f_call (o := ⟨some 22, _, _, _, _, _⟩) 35 #[o.v, .int .i64 pr] rfl (wanted_none rfl _) (exec_call 35 _ [.tmp 19, .tmp 21] _ [o.v, .int .i64 pr] Try.func35 (by kernel_rfl) (by kernel_rfl) rfl (show [a.eval (.tmp 19), a.eval (.tmp 21)] = [o.v, .int .i64 pr] from (by rw [show a.eval (.tmp 19) = o.v from (hD 0 19 (by kernel_rfl)), show a.eval (.tmp 21) = .int .i64 pr from (hD 2 21 (by kernel_rfl))] <;> rfl)) u) ((by rw [← HCR.out]; exact crosses_any o pr u))) ?_
     exact fsteps_nil
    intro gv w2 hV k2
    rw [show dstsOf _ 4 = [19, 20, 21, 22] by kernel_rfl]
    simp only [fC, fN, sA, sS, sZ, dS, dZ]
    rw [show gv 22 = .bool true from hV 3 22 (by kernel_rfl)]
    clear hV
    refine l_val (o := ⟨some 23, _, _, _, _, _⟩) (.bool false) rfl (exec_not _ (.tmp 22) true rfl (by kernel_rfl)) ?_
    simp only [Act.put, sA, sS, sZ]
    refine wpList_nil ?_
    have HLV2 := Lib.hid (HLV1.out.kept k2)
    have HO2 := Lib.hid (range_kept HO1.out k2)
    have kw2 := kw1.trans k2
    have k02 := k01.trans k2
    clear HLV1 HO1 HCR k2 kw1 k01
    obtain ⟨rq, hrq⟩ : ∃ x, (reachM o.firm X).1 = x := ⟨_, rfl⟩
    obtain ⟨rb, hrb⟩ : ∃ x, (reachM o.firm X).2 = x := ⟨_, rfl⟩
    have HRV : Hid (reachV o.firm X = .tuple #[.int .i64 rq, .bool rb]) := by show _ = _; unfold reachV; rw [hrq, hrb]
    rw [hrq] at HNN
    rw [hrq, hrb] at HM1
    clear hrq hrb
    go_upto_region 6 with fail
    refine wp_text 9 [.eq (.pointer (some ⟨q, 0, none⟩)), .eq (.pointer (some ⟨g3, 2, none⟩)), .eq (.int .i64 o.firm), .eq (.tuple #[.int .i64 rq, .bool rb]), .eq (.tuple #[.int .i64 rq, .bool rb]), .eq (.int .i64 rq), .eq (.bool rb), .eq (.int .i64 rq), .eq (.bool rb)] rfl (by kernel_rfl) ?_ ?_
    ·refine sv 1 rfl rfl rfl (fun a u hE hD hk => exec_move (.tmp 7) _ rfl (hE 7 (.pointer (some ⟨q, 0, none⟩)) (by kernel_rfl) (by kernel_rfl))) ?_
     refine sv 2 rfl rfl rfl (fun a u hE hD hk => exec_fldo 25 2 2 (.tmp 3) (g3) (0) (2) rfl (hE 3 (.pointer (some ⟨g3, 0, none⟩)) (by kernel_rfl) (by kernel_rfl)) (by kernel_rfl) rfl) ?_
     refine sv 3 rfl rfl rfl (fun a u hE hD hk => exec_loadi 3 Try.underlying3 (.tmp 26) ⟨g3, 2, none⟩ (.int .i64 o.firm) rfl (hD 1 26 (by kernel_rfl)) (range_int (range_kept HO2.out hk) 2 _ rfl)) ?_
     refine fsteps_cons 4 rfl (fun a u hE hD hk => f_call (o := ⟨some 28, _, _, _, _, _⟩) 88 #[.pointer (some ⟨q, 0, none⟩), .int .i64 o.firm] rfl (wanted_none rfl _) (exec_call 88 _ [.tmp 25, .tmp 27] _ [.pointer (some ⟨q, 0, none⟩), .int .i64 o.firm] Try.func88 (by kernel_rfl) (by kernel_rfl) rfl (show [a.eval (.tmp 25), a.eval (.tmp 27)] = [.pointer (some ⟨q, 0, none⟩), .int .i64 o.firm] from (by rw [show a.eval (.tmp 25) = .pointer (some ⟨q, 0, none⟩) from (hD 0 25 (by kernel_rfl)), show a.eval (.tmp 27) = .int .i64 o.firm from (hD 2 27 (by kernel_rfl))] <;> rfl)) u) ((by rw [← HRV.out]; exact reach_any pr u _ q X o.firm (HLV2.out.kept hk) HGD.out HFR.out))) ?_
     refine sv 5 rfl rfl rfl (fun a u hE hD hk => exec_move (.tmp 28) _ rfl (hD 3 28 (by kernel_rfl))) ?_
     refine sv 6 rfl rfl rfl (fun a u hE hD hk => exec_extract (.tmp 24) [.int .i64 rq, .bool rb] 0 (.int .i64 rq) rfl (hD 4 24 (by kernel_rfl)) rfl) ?_
     refine sv 7 rfl rfl rfl (fun a u hE hD hk => exec_extract (.tmp 24) [.int .i64 rq, .bool rb] 1 (.bool rb) rfl (hD 4 24 (by kernel_rfl)) rfl) ?_
     refine sv 8 rfl rfl rfl (fun a u hE hD hk => exec_assign (.tmp 29) _ rfl (hD 5 29 (by kernel_rfl))) ?_
     refine sv 9 rfl rfl rfl (fun a u hE hD hk => exec_assign (.tmp 30) _ rfl (hD 6 30 (by kernel_rfl))) ?_
     exact fsteps_nil
    intro gv w3 hV k3
    rw [show dstsOf _ 9 = [25, 26, 27, 28, 24, 29, 30, 8, 9] by kernel_rfl]
    simp only [fC, fN, sA, sS, sZ, dS, dZ]
    rw [show gv 8 = .int .i64 rq from hV 7 8 (by kernel_rfl)]
    rw [show gv 9 = .bool rb from hV 8 9 (by kernel_rfl)]
    clear hV
    refine wpList_nil ?_
    have kw3 := kw2.trans k3
    have k03 := k02.trans k3
    have hb1 : 0 ≤ rq := HNN.out
    have hb2 : s + rq ≤ 67108864 := by
     have h1 := HM1.out
     have h2 := HTOT.out
     have h3 := HG2.out
     split at h1 <;> omega
    clear HLV2 HO2 HRV HNN k3 kw2 k02
    cases rb with
    | true =>
     have HF : Hid (givesM o L = s + rq) := by show _ = _; rw [HM1.out]; rfl
     clear HM1
     go_wp2
     go_ret
     exact ⟨by rw [HF.out]; rfl, kw3⟩
    | false =>
     have HF : Hid (givesM o L = s + rq + givesM o (L.drop (i + 1))) := by show _ = _; rw [HM1.out]; simp only [Bool.false_eq_true, if_false]; omega
     clear HM1
     go_wp2
     exact ⟨⟨i + 1, s + rq, by omega, by go_num, rfl, HF, by omega, kw3, k03⟩, by simp [intOf]; omega⟩
   ·have hcr' : o.crosses pr = false := by simpa using hcr
    have HCR := Lib.hid hcr'
    have HF : Hid (givesM o L = s) := by
     show _ = _
     rw [HM.out, HD.out, givesM]
     simp only
     rw [if_neg hcr]
     omega
    clear hcr hcr' HM
    go_upto_region 5 with fail
    refine wp_free 4 [.eq (o.v), .eq (.pointer (some ⟨q, 0, none⟩)), .eq (.int .i64 pr), .eq (.bool false)] (by kernel_rfl) rfl (by kernel_rfl) ?_ ?_
    ·refine sv 1 rfl rfl rfl (fun a u hE hD hk => exec_ldS 25 _ (.tmp 3) (g3) (0) (o.cells) rfl (hE 3 (.pointer (some ⟨g3, 0, none⟩)) (by kernel_rfl) (by kernel_rfl)) (range_kept HO1.out hk) Try.underlying25 (by rw [o.len9]; exact ord_size)) ?_
     refine sv 2 rfl rfl rfl (fun a u hE hD hk => exec_move (.tmp 7) _ rfl (hE 7 (.pointer (some ⟨q, 0, none⟩)) (by kernel_rfl) (by kernel_rfl))) ?_
     refine fsteps_cons 3 rfl (fun a u hE hD hk => f_call (o := ⟨some 21, _, _, _, _, _⟩) 68 #[.pointer (some ⟨q, 0, none⟩)] rfl (wanted_none rfl _) (exec_call 68 _ [.tmp 20] _ [.pointer (some ⟨q, 0, none⟩)] Try.func68 (by kernel_rfl) (by kernel_rfl) rfl (show [a.eval (.tmp 20)] = [.pointer (some ⟨q, 0, none⟩)] from (by rw [show a.eval (.tmp 20) = .pointer (some ⟨q, 0, none⟩) from (hD 1 20 (by kernel_rfl))] <;> rfl)) u) (price_any u _ q X (HLV1.out.kept hk))) ?_
     refine fsteps_cons 4 rfl (fun a u hE hD hk => f_call (o := ⟨some 22, _, _, _, _, _⟩) 35 #[o.v, .int .i64 pr] rfl (wanted_none rfl _) (exec_call 35 _ [.tmp 19, .tmp 21] _ [o.v, .int .i64 pr] Try.func35 (by kernel_rfl) (by kernel_rfl) rfl (show [a.eval (.tmp 19), a.eval (.tmp 21)] = [o.v, .int .i64 pr] from (by rw [show a.eval (.tmp 19) = o.v from (hD 0 19 (by kernel_rfl)), show a.eval (.tmp 21) = .int .i64 pr from (hD 2 21 (by kernel_rfl))] <;> rfl)) u) ((by rw [← HCR.out]; exact crosses_any o pr u))) ?_
     exact fsteps_nil
    intro gv w2 hV k2
    rw [show dstsOf _ 4 = [19, 20, 21, 22] by kernel_rfl]
    simp only [fC, fN, sA, sS, sZ, dS, dZ]
    rw [show gv 22 = .bool false from hV 3 22 (by kernel_rfl)]
    clear hV
    refine l_val (o := ⟨some 23, _, _, _, _, _⟩) (.bool true) rfl (exec_not _ (.tmp 22) false rfl (by kernel_rfl)) ?_
    simp only [Act.put, sA, sS, sZ]
    refine wpList_nil ?_
    have kw2 := kw1.trans k2
    clear HLV1 HO1 HCR k2 kw1 k01
    go_wp2
    go_ret
    exact ⟨by rw [HF.out]; rfl, kw2⟩
  ·have HF : Hid (givesM o L = s) := by
    show _ = _
    rw [HM.out, List.drop_of_length_le (by rw [← EL.out, levs_len, HN.out]; omega)]
    simp [givesM]
   clear HM
   go_wp2
   go_ret
   exact ⟨by rw [HF.out]; rfl, hkr⟩
set_option maxRecDepth 100000 in
set_option maxHeartbeats 800000 in
theorem crossed_any (w : World) (F : Nat → Prop) (g off : Nat) (s : Int) (L : List Lev) (o : Ord) (h : Lad w F g off s L) (hl : L.length ≤ 1000) : Gives 64 #[.pointer (some ⟨g, off, none⟩), o.v] w (.eq (.bool (o.meets L))) := by
 refine gives_eq ?_
 obtain ⟨v, hs0, hv0, Z, G, eL, hW⟩ := h
 have HV := Lib.hid hv0
 have HW := Lib.hid hW
 have EL := Lib.hid eL
 have HSL := Lib.hid hW.sl
 clear hs0 hv0 hW eL
 cases Z with
 | nil =>
  have HM : Hid (o.meets L = false) := by show _ = _; rw [← EL.out]; rfl
  go_enter Try.func64, Try.ntmps64
  go_upto_region 0 with fail
  refine wp_text 2 [.fresh w.heap.size 25 (o.cells), .eq (.bool false)] rfl (by kernel_rfl) ?_ ?_
  ·refine fsteps_cons 1 rfl (fun a u hE hD hk => f_new (o := ⟨some 3, _, _, _, _, _⟩) (.pointer (some ⟨u.heap.size, 0, none⟩)) _ rfl (wanted_none rfl _) (exec_box 25 (.tmp 1) (o.cells) rfl (hE 1 (o.v) (by kernel_rfl) (by kernel_rfl))) ⟨_, rfl, hk.size, Blk.new u _ _⟩ ((Keep.refl _ u).alloc _)) ?_
   refine sv 2 rfl rfl rfl (fun a u hE hD hk => exec_assign (.const (.bool false)) _ rfl rfl) ?_
   exact fsteps_nil
  intro gv wa hV ka
  rw [show dstsOf _ 2 = [3, 4] by kernel_rfl]
  simp only [fC, fN, sA, sS, sZ, dS, dZ]
  have hv3 : (.fresh w.heap.size 25 (o.cells) : Kn).p (gv 3) wa := hV 0 3 (by kernel_rfl)
  generalize gv 3 = v3 at hv3 ⊢
  rw [show gv 4 = .bool false from hV 1 4 (by kernel_rfl)]
  clear hV
  obtain ⟨g3, rfl, hg3, hB3⟩ := hv3
  refine wpList_nil ?_
  have HVa := Lib.hid (ka.cell HV.out)
  clear hB3
  go_upto_region 1 with fail
  refine wp_free 16 [.eq (.pointer (some ⟨g, off, none⟩)), .eq (.pointer (some ⟨g, off, none⟩)), .eq (.pointer (some ⟨g, off + 1, none⟩)), .eq (v), .eq (.int .i64 (0 : Int)), .eq (.bool false), .eq (.bool false), .eq undef, .eq undef, .eq undef, .eq undef, .eq undef, .eq undef, .eq undef, .eq undef, .eq undef] (by kernel_rfl) rfl (by kernel_rfl) ?_ ?_
  ·refine sv 1 rfl rfl rfl (fun a u hE hD hk => exec_move (.tmp 0) _ rfl (hE 0 (.pointer (some ⟨g, off, none⟩)) (by kernel_rfl) (by kernel_rfl))) ?_
   refine sv 2 rfl rfl rfl (fun a u hE hD hk => exec_nilp (.tmp 5) ⟨g, off, none⟩ rfl (hD 0 5 (by kernel_rfl))) ?_
   refine sv 3 rfl rfl rfl (fun a u hE hD hk => exec_fldo 73 1 1 (.tmp 6) (g) (off) (off + 1) rfl (hD 1 6 (by kernel_rfl)) (by kernel_rfl) rfl) ?_
   refine sv 4 rfl rfl rfl (fun a u hE hD hk => exec_ldv 71 _ Try.underlying71 (.tmp 7) ⟨g, off + 1, none⟩ (v) rfl (hD 2 7 (by kernel_rfl)) (Kept.cell hk (HVa.out))) ?_
   refine sv 5 rfl rfl rfl (fun a u hE hD hk => exec_lenS (.tmp 8) slQ (v) (0) _ _ rfl (hD 3 8 (by kernel_rfl)) HSL.out) ?_
   refine fsteps_cons 6 rfl (fun a u hE hD hk => f_as (show ((decide ((0 : Int) < ((0 : Int) : Int))) : Bool) = false from by decide) (f_val (o := ⟨some 10, _, _, _, _, _⟩) (.bool (decide ((0 : Int) < ((0 : Int) : Int)))) rfl (wanted_none rfl _) (exec_gtn (p := (0 : Int)) (q := 0) rfl (hD 4 9 (by kernel_rfl)) rfl) rfl)) ?_
   refine sv 7 rfl rfl rfl (fun a u hE hD hk => exec_move (.tmp 10) _ rfl (hD 5 10 (by kernel_rfl))) ?_
   refine fsteps_cons 8 rfl (fun a u hE hD hk => f_skip (o := ⟨some 12, _, _, _, _, _⟩) rfl (wanted_at (b := true) false rfl rfl (hD 6 11 (by kernel_rfl))) rfl) ?_
   refine fsteps_cons 9 rfl (fun a u hE hD hk => f_skip (o := ⟨some 13, _, _, _, _, _⟩) rfl (wanted_at (b := true) false rfl rfl (hD 6 11 (by kernel_rfl))) rfl) ?_
   refine fsteps_cons 10 rfl (fun a u hE hD hk => f_skip (o := ⟨some 14, _, _, _, _, _⟩) rfl (wanted_at (b := true) false rfl rfl (hD 6 11 (by kernel_rfl))) rfl) ?_
   refine fsteps_cons 11 rfl (fun a u hE hD hk => f_skip (o := ⟨some 15, _, _, _, _, _⟩) rfl (wanted_at (b := true) false rfl rfl (hD 6 11 (by kernel_rfl))) rfl) ?_
   refine fsteps_cons 12 rfl (fun a u hE hD hk => f_skip (o := ⟨some 16, _, _, _, _, _⟩) rfl (wanted_at (b := true) false rfl rfl (hD 6 11 (by kernel_rfl))) rfl) ?_
   refine fsteps_cons 13 rfl (fun a u hE hD hk => f_skip (o := ⟨some 17, _, _, _, _, _⟩) rfl (wanted_at (b := true) false rfl rfl (hD 6 11 (by kernel_rfl))) rfl) ?_
   refine fsteps_cons 14 rfl (fun a u hE hD hk => f_skip (o := ⟨some 18, _, _, _, _, _⟩) rfl (wanted_at (b := true) false rfl rfl (hD 6 11 (by kernel_rfl))) rfl) ?_
   refine fsteps_cons 15 rfl (fun a u hE hD hk => f_skip (o := ⟨some 19, _, _, _, _, _⟩) rfl (wanted_at (b := true) false rfl rfl (hD 6 11 (by kernel_rfl))) rfl) ?_
   refine fsteps_cons 16 rfl (fun a u hE hD hk => f_skip (o := ⟨some 20, _, _, _, _, _⟩) rfl (wanted_at (b := true) false rfl rfl (hD 6 11 (by kernel_rfl))) rfl) ?_
   exact fsteps_nil
  intro gv w1 hV k1
  rw [show dstsOf _ 16 = [5, 6, 7, 8, 9, 10, 11, 12, 13, 14, 15, 16, 17, 18, 19, 20] by kernel_rfl]
  simp only [fC, fN, sA, sS, sZ, dS, dZ]
  rw [show gv 11 = .bool false from hV 6 11 (by kernel_rfl)]
  rw [show gv 20 = undef from hV 15 20 (by kernel_rfl)]
  clear hV
  refine l_val (o := ⟨some 21, _, _, _, _, _⟩) (.bool false) rfl (exec_pickF (.tmp 11) (.tmp 20) (.const (.bool false)) (.bool false) rfl (by kernel_rfl) rfl) ?_
  simp only [Act.put, sA, sS, sZ]
  refine l_val (o := ⟨some 4, _, _, _, _, _⟩) (.bool false) rfl (exec_assign (.tmp 21) (.bool false) rfl (by kernel_rfl)) ?_
  simp only [Act.put, sA, sS, sZ]
  refine wpList_nil ?_
  go_wp2
  go_ret
  exact ⟨by rw [HM.out]; rfl, ka.trans k1⟩
 | cons z Z =>
  obtain ⟨q, pr, X⟩ := z
  have HM : Hid (o.meets L = o.crosses pr) := by show _ = _; rw [← EL.out]; rfl
  have hl : Z.length + 1 ≤ 1000 := by rw [← EL.out, levs_len] at hl; exact hl
  obtain ⟨gs, os, c, rfl⟩ := HSL.out.some_ (by simp)
  have HC := Lib.hid (HW.out.cell (i := 0) (z := (q, pr, X)) rfl)
  have HLV := Lib.hid (HW.out.lv (q, pr, X) (by simp))
  obtain ⟨n, hn⟩ : ∃ n, Z.length + 1 = n := ⟨_, rfl⟩
  have hnz : 0 < n := by omega
  rw [show ((q, pr, X) :: Z).length = n from hn] at HSL HV
  rw [hn] at hl
  clear HW hn
  go_enter Try.func64, Try.ntmps64
  go_upto_region 0 with fail
  refine wp_text 2 [.fresh w.heap.size 25 (o.cells), .eq (.bool false)] rfl (by kernel_rfl) ?_ ?_
  ·refine fsteps_cons 1 rfl (fun a u hE hD hk => f_new (o := ⟨some 3, _, _, _, _, _⟩) (.pointer (some ⟨u.heap.size, 0, none⟩)) _ rfl (wanted_none rfl _) (exec_box 25 (.tmp 1) (o.cells) rfl (hE 1 (o.v) (by kernel_rfl) (by kernel_rfl))) ⟨_, rfl, hk.size, Blk.new u _ _⟩ ((Keep.refl _ u).alloc _)) ?_
   refine sv 2 rfl rfl rfl (fun a u hE hD hk => exec_assign (.const (.bool false)) _ rfl rfl) ?_
   exact fsteps_nil
  intro gv wa hV ka
  rw [show dstsOf _ 2 = [3, 4] by kernel_rfl]
  simp only [fC, fN, sA, sS, sZ, dS, dZ]
  have hv3 : (.fresh w.heap.size 25 (o.cells) : Kn).p (gv 3) wa := hV 0 3 (by kernel_rfl)
  generalize gv 3 = v3 at hv3 ⊢
  rw [show gv 4 = .bool false from hV 1 4 (by kernel_rfl)]
  clear hV
  obtain ⟨g3, rfl, hg3, hB3⟩ := hv3
  refine wpList_nil ?_
  have HVa := Lib.hid (ka.cell HV.out)
  have HCa := Lib.hid (ka.cell HC.out)
  have HLVa := Lib.hid (HLV.out.kept ka)
  have HO := Lib.hid (blk_range hB3)
  clear hB3 HV HC HLV
  go_upto_region 1 with fail
  refine wp_free 16 [.eq (.pointer (some ⟨g, off, none⟩)), .eq (.pointer (some ⟨g, off, none⟩)), .eq (.pointer (some ⟨g, off + 1, none⟩)), .eq (.slice (some ⟨gs, os, none⟩) n c), .eq (.int .i64 (n : Int)), .eq (.bool true), .eq (.bool true), .eq (o.v), .eq (.pointer (some ⟨g, off, none⟩)), .eq (.pointer (some ⟨g, off, none⟩)), .eq (.pointer (some ⟨g, off + 1, none⟩)), .eq (.slice (some ⟨gs, os, none⟩) n c), .eq (.pointer (some ⟨gs, os, none⟩)), .eq (.pointer (some ⟨q, 0, none⟩)), .eq (.int .i64 pr), .eq (.bool (o.crosses pr))] (by kernel_rfl) rfl (by kernel_rfl) ?_ ?_
  ·refine sv 1 rfl rfl rfl (fun a u hE hD hk => exec_move (.tmp 0) _ rfl (hE 0 (.pointer (some ⟨g, off, none⟩)) (by kernel_rfl) (by kernel_rfl))) ?_
   refine sv 2 rfl rfl rfl (fun a u hE hD hk => exec_nilp (.tmp 5) ⟨g, off, none⟩ rfl (hD 0 5 (by kernel_rfl))) ?_
   refine sv 3 rfl rfl rfl (fun a u hE hD hk => exec_fldo 73 1 1 (.tmp 6) (g) (off) (off + 1) rfl (hD 1 6 (by kernel_rfl)) (by kernel_rfl) rfl) ?_
   refine sv 4 rfl rfl rfl (fun a u hE hD hk => exec_ldv 71 _ Try.underlying71 (.tmp 7) ⟨g, off + 1, none⟩ (.slice (some ⟨gs, os, none⟩) n c) rfl (hD 2 7 (by kernel_rfl)) (Kept.cell hk (HVa.out))) ?_
   refine sv 5 rfl rfl rfl (fun a u hE hD hk => exec_len (.tmp 8) _ _ slQ.und (some ⟨gs, os, none⟩) n c rfl (hD 3 8 (by kernel_rfl))) ?_
   refine fsteps_cons 6 rfl (fun a u hE hD hk => f_as (show ((decide ((0 : Int) < ((n : Int) : Int))) : Bool) = true from decide_eq_true (by omega)) (f_val (o := ⟨some 10, _, _, _, _, _⟩) (.bool (decide ((0 : Int) < ((n : Int) : Int)))) rfl (wanted_none rfl _) (exec_gtn (p := (n : Int)) (q := 0) rfl (hD 4 9 (by kernel_rfl)) rfl) rfl)) ?_
   refine sv 7 rfl rfl rfl (fun a u hE hD hk => exec_move (.tmp 10) _ rfl (hD 5 10 (by kernel_rfl))) ?_
   refine fsteps_cons 8 rfl (fun a u hE hD hk => f_val (o := ⟨some 12, _, _, _, _, _⟩) (o.v) rfl (wanted_at (b := true) true rfl rfl (hD 6 11 (by kernel_rfl))) (exec_ldS 25 _ (.tmp 3) (g3) (0) (o.cells) rfl (hE 3 (.pointer (some ⟨g3, 0, none⟩)) (by kernel_rfl) (by kernel_rfl)) (range_kept HO.out hk) Try.underlying25 (by rw [o.len9]; exact ord_size)) rfl) ?_
   refine fsteps_cons 9 rfl (fun a u hE hD hk => f_val (o := ⟨some 13, _, _, _, _, _⟩) (.pointer (some ⟨g, off, none⟩)) rfl (wanted_at (b := true) true rfl rfl (hD 6 11 (by kernel_rfl))) (exec_move (.tmp 0) _ rfl (hE 0 (.pointer (some ⟨g, off, none⟩)) (by kernel_rfl) (by kernel_rfl))) rfl) ?_
   refine fsteps_cons 10 rfl (fun a u hE hD hk => f_val (o := ⟨some 14, _, _, _, _, _⟩) (.pointer (some ⟨g, off, none⟩)) rfl (wanted_at (b := true) true rfl rfl (hD 6 11 (by kernel_rfl))) (exec_nilp (.tmp 13) ⟨g, off, none⟩ rfl (hD 8 13 (by kernel_rfl))) rfl) ?_
   refine fsteps_cons 11 rfl (fun a u hE hD hk => f_val (o := ⟨some 15, _, _, _, _, _⟩) (.pointer (some ⟨g, off + 1, none⟩)) rfl (wanted_at (b := true) true rfl rfl (hD 6 11 (by kernel_rfl))) (exec_fldo 73 1 1 (.tmp 14) (g) (off) (off + 1) rfl (hD 9 14 (by kernel_rfl)) (by kernel_rfl) rfl) rfl) ?_
   refine fsteps_cons 12 rfl (fun a u hE hD hk => f_val (o := ⟨some 16, _, _, _, _, _⟩) (.slice (some ⟨gs, os, none⟩) n c) rfl (wanted_at (b := true) true rfl rfl (hD 6 11 (by kernel_rfl))) (exec_ldv 71 _ Try.underlying71 (.tmp 15) ⟨g, off + 1, none⟩ (.slice (some ⟨gs, os, none⟩) n c) rfl (hD 10 15 (by kernel_rfl)) (Kept.cell hk (HVa.out))) rfl) ?_
   refine fsteps_cons 13 rfl (fun a u hE hD hk => f_val (o := ⟨some 17, _, _, _, _, _⟩) (.pointer (some ⟨gs, os, none⟩)) rfl (wanted_at (b := true) true rfl rfl (hD 6 11 (by kernel_rfl))) (exec_ixo slQ (.tmp 16) (.const (.int .i64 0)) (gs) (os) n c 0 (os) (0) rfl (hD 11 16 (by kernel_rfl)) rfl (by first | rfl | omega) ((by omega)) (by first | rfl | omega)) rfl) ?_
   refine fsteps_cons 14 rfl (fun a u hE hD hk => f_val (o := ⟨some 18, _, _, _, _, _⟩) (.pointer (some ⟨q, 0, none⟩)) rfl (wanted_at (b := true) true rfl rfl (hD 6 11 (by kernel_rfl))) (exec_ldp 97 _ Try.underlying97 (.tmp 17) ⟨gs, os, none⟩ (.pointer (some ⟨q, 0, none⟩)) rfl (hD 12 17 (by kernel_rfl)) (Kept.cell hk ((by simpa using HCa.out)))) rfl) ?_
   refine fsteps_cons 15 rfl (fun a u hE hD hk => f_call (o := ⟨some 19, _, _, _, _, _⟩) 68 #[.pointer (some ⟨q, 0, none⟩)] rfl (wanted_at (b := true) true rfl rfl (hD 6 11 (by kernel_rfl))) (exec_call 68 _ [.tmp 18] _ [.pointer (some ⟨q, 0, none⟩)] Try.func68 (by kernel_rfl) (by kernel_rfl) rfl (show [a.eval (.tmp 18)] = [.pointer (some ⟨q, 0, none⟩)] from (by rw [show a.eval (.tmp 18) = .pointer (some ⟨q, 0, none⟩) from (hD 13 18 (by kernel_rfl))] <;> rfl)) u) (price_any u _ q X (HLVa.out.kept hk))) ?_
   refine fsteps_cons 16 rfl (fun a u hE hD hk => f_call (o := ⟨some 20, _, _, _, _, _⟩) 35 #[o.v, .int .i64 pr] rfl (wanted_at (b := true) true rfl rfl (hD 6 11 (by kernel_rfl))) (exec_call 35 _ [.tmp 12, .tmp 19] _ [o.v, .int .i64 pr] Try.func35 (by kernel_rfl) (by kernel_rfl) rfl (show [a.eval (.tmp 12), a.eval (.tmp 19)] = [o.v, .int .i64 pr] from (by rw [show a.eval (.tmp 12) = o.v from (hD 7 12 (by kernel_rfl)), show a.eval (.tmp 19) = .int .i64 pr from (hD 14 19 (by kernel_rfl))] <;> rfl)) u) (crosses_any o pr u)) ?_
   exact fsteps_nil
  intro gv w1 hV k1
  rw [show dstsOf _ 16 = [5, 6, 7, 8, 9, 10, 11, 12, 13, 14, 15, 16, 17, 18, 19, 20] by kernel_rfl]
  simp only [fC, fN, sA, sS, sZ, dS, dZ]
  rw [show gv 11 = .bool true from hV 6 11 (by kernel_rfl)]
  rw [show gv 20 = .bool (o.crosses pr) from hV 15 20 (by kernel_rfl)]
  clear hV
  refine l_val (o := ⟨some 21, _, _, _, _, _⟩) (.bool (o.crosses pr)) rfl (exec_pick (.tmp 11) (.tmp 20) (.const (.bool false)) (.bool (o.crosses pr)) rfl (by kernel_rfl) (by kernel_rfl)) ?_
  simp only [Act.put, sA, sS, sZ]
  refine l_val (o := ⟨some 4, _, _, _, _, _⟩) (.bool (o.crosses pr)) rfl (exec_assign (.tmp 21) (.bool (o.crosses pr)) rfl (by kernel_rfl)) ?_
  simp only [Act.put, sA, sS, sZ]
  refine wpList_nil ?_
  go_wp2
  go_ret
  exact ⟨by rw [HM.out]; rfl, ka.trans k1⟩
end Go.Proofs.Ytfpfpmhkkgfdbaa
namespace Go.Proofs.Ytfpfpmhkkgfdbaa
open Go.RowKit
set_option maxRecDepth 100000
theorem lastOf_snoc (p : Int) (f : Fl) : ∀ (F : List Fl), lastOf p (F ++ [f]) = f.price
 | [] => rfl
 | [g] => rfl
 | g :: g' :: F => by
  rw [List.cons_append, lastOf]
  exact lastOf_snoc g.price f (g' :: F)
theorem lastOf_append : ∀ (F G : List Fl) (p : Int), lastOf p (F ++ G) = lastOf (lastOf p F) G
 | [], G, p => rfl
 | f :: F, G, p => by rw [List.cons_append, lastOf, lastOf, lastOf_append F G]
theorem seenM_snoc (H : List Ent) (h : Ent) : seenM (H ++ [h]) = seenM H + h.n := by rw [seenM_append]; simp [seenM, sumI]
def Oc.more (x : Oc) (pr no : Int) (H : List Ent) : Oc := { x with f := x.f ++ fillsOf x.o pr no x.left H, left := x.left - seenM H }
theorem Oc.more_nil (x : Oc) (pr no : Int) : x.more pr no [] = x := by unfold Oc.more; simp [fillsOf, seenM, sumI]
theorem Oc.set_fills (x : Oc) (v v' : Value) : (x.cells v).set 9 v' = x.cells v' := rfl
theorem Oc.set_left (x : Oc) (v : Value) (n : Int) : (x.cells v).set 10 (.int .i64 n) = ({ x with left := n } : Oc).cells v := rfl
theorem Oc.set_self (x : Oc) (v : Value) (b : Bool) : (x.cells v).set 13 (.bool b) = ({ x with self := b } : Oc).cells v := rfl
theorem Oc.set_rests (x : Oc) (v : Value) (b : Bool) : (x.cells v).set 11 (.bool b) = ({ x with rests := b } : Oc).cells v := rfl
theorem q_l (o : Ord) (n : Int) : stc (o.l.set 6 n) [] = (o.q n).cells := rfl
theorem exec_bF {a : Act} {o : Oper} {u : World} (x y z t n : Operand) (m k : Ord) (p q r : Int) (hop : o.op = .build 36 #[(0, x), (1, y), (2, z), (3, t), (4, n)]) (hx : a.eval x = m.v) (hy : a.eval y = k.v) (hz : a.eval z = .int .i64 p) (ht : a.eval t = .int .i64 q) (hn : a.eval n = .int .i64 r) : (execOp a.eval o).run Try.prog u = .ok (.value (Fl.mk m k p q r).v) u :=
 exec_build _ [(0, x), (1, y), (2, z), (3, t), (4, n)] (Fl.mk m k p q r).cells hop (by simp only [List.map_cons, List.map_nil, hx, hy, hz, ht, hn]; exact builtF m k p q r)
def TradeIn (w : World) (go p : Nat) (s : Int) (v u0 vf : Value) (last no pr : Int) (x : Oc) (H : List Ent) (r : Ending) (w' : World) : Prop :=
 ∃ vf', r = .returned (.tuple #[]) ∧ Blk w' go 29 ((x.more pr no H).cells vf') ∧ Sl w' 36 21 vf' (x.more pr no H).f.length (fls (x.more pr no H).f) ∧ Blk w' p 75 (sideCs s v u0 (lastOf last (fillsOf x.o pr no x.left H)) (no + H.length)) ∧ Keep (fun b => b = go ∨ b = p ∨ vf.ownBlock = some b) w w' ∧ ∀ b, vf'.ownBlock = some b → vf.ownBlock = some b ∨ w.heap.size ≤ b
set_option maxRecDepth 100000 in
set_option maxHeartbeats 3200000 in
theorem trade_any (w : World) (go p : Nat) (s : Int) (v u0 vf vh : Value) (last no pr : Int) (x : Oc) (H : List Ent) (hO : Blk w go 29 (x.cells vf)) (hF : Sl w 36 21 vf x.f.length (fls x.f)) (hB : Blk w p 75 (sideCs s v u0 last no)) (hH : Sl w 39 10 vh H.length (ents H)) (hgp : go ≠ p) (hfo : ∀ b, vf.ownBlock = some b → b ≠ go ∧ b ≠ p) (hho : ∀ b, vh.ownBlock = some b → b ≠ go ∧ b ≠ p ∧ vf.ownBlock ≠ some b)
  (hpos : ∀ h ∈ H, 1 ≤ h.n) (hsum : seenM H ≤ x.left) (hl : x.left ≤ 2000000) (hfl : x.f.length ≤ 2000000) (hno : 0 ≤ no) (hno2 : no ≤ 2000000000000) :
  Calls Try.prog 67 #[.pointer (some ⟨p, 0, none⟩), .pointer (some ⟨go, 0, none⟩), .int .i64 pr, vh] w (TradeIn w go p s v u0 vf last no pr x H) := by
 have hpl := hB.lt
 have hgl := hO.lt
 have hHl : (H.length : Int) ≤ seenM H := by
  have := whole_ge (X := H.map fun h => ⟨{ h.o with qty := h.n }, h.n⟩) (by intro e he; obtain ⟨h, hh, rfl⟩ := List.mem_map.1 he; exact ⟨hpos h hh, Int.le_refl _⟩)
  have h1 := this.1
  rw [List.length_map] at h1
  have h2 : seenM (H.map fun h => (⟨{ h.o with qty := h.n }, h.n⟩ : Ent)) = seenM H := by unfold seenM; rw [List.map_map]; rfl
  omega
 obtain ⟨n, hn⟩ : ∃ n, H.length = n := ⟨_, rfl⟩
 have hn2 : (n : Int) ≤ 2000000 := by omega
 have HN := Lib.hid hn
 have HP := Lib.hid hpos
 have HSUM := Lib.hid hsum
 have HO := Lib.hid hO
 have HF := Lib.hid hF
 have HB := Lib.hid hB
 have HH := Lib.hid hH
 have HHO := Lib.hid hho
 have HFO := Lib.hid hfo
 rw [hn] at HH
 have hfl0 : ∀ b, vf.ownBlock = some b → b < w.heap.size := fun b hb => hF.lt hb
 have HFL := Lib.hid hfl0
 have HHB : Hid (∀ b, vh.ownBlock = some b → b < w.heap.size) := fun b hb => hH.lt hb
 clear hO hF hB hH hho hfo hpos hn hfl0 hHl hsum
 go_enter Try.func67, Try.ntmps67
 go_upto_region 0 with fail
 refine wp_text 7 [.eq (.pointer (some ⟨go, 0, none⟩)), .eq (.pointer (some ⟨go, 0, none⟩)), .eq (.pointer (some ⟨go, 0, none⟩)), .eq (.pointer (some ⟨go, 9, none⟩)), .eq (vf), .eq (vh), .eq (.int .i64 (n : Int))] rfl (by kernel_rfl) ?_ ?_
 ·refine sv 1 rfl rfl rfl (fun a u hE hD hk => exec_move (.tmp 1) _ rfl (hE 1 (.pointer (some ⟨go, 0, none⟩)) (by kernel_rfl) (by kernel_rfl))) ?_
  refine sv 2 rfl rfl rfl (fun a u hE hD hk => exec_move (.tmp 1) _ rfl (hE 1 (.pointer (some ⟨go, 0, none⟩)) (by kernel_rfl) (by kernel_rfl))) ?_
  refine sv 3 rfl rfl rfl (fun a u hE hD hk => exec_nilp (.tmp 12) ⟨go, 0, none⟩ rfl (hD 1 12 (by kernel_rfl))) ?_
  refine sv 4 rfl rfl rfl (fun a u hE hD hk => exec_fldo 29 1 9 (.tmp 13) (go) (0) (9) rfl (hD 2 13 (by kernel_rfl)) (by kernel_rfl) rfl) ?_
  refine sv 5 rfl rfl rfl (fun a u hE hD hk => exec_ldv 26 _ Try.underlying26 (.tmp 14) ⟨go, 9, none⟩ (vf) rfl (hD 3 14 (by kernel_rfl)) (by rw [(HO.out.kept hk).cell]; rfl)) ?_
  refine sv 6 rfl rfl rfl (fun a u hE hD hk => exec_move (.tmp 3) _ rfl (hE 3 (vh) (by kernel_rfl) (by kernel_rfl))) ?_
  refine sv 7 rfl rfl rfl (fun a u hE hD hk => exec_lenS (.tmp 16) slH (vh) (n) _ _ rfl (hD 5 16 (by kernel_rfl)) HH.out) ?_
  exact fsteps_nil
 intro gv w1 hV k1
 rw [show dstsOf _ 7 = [11, 12, 13, 14, 15, 16, 17] by kernel_rfl]
 simp only [fC, fN, sA, sS, sZ, dS, dZ]
 rw [show gv 15 = vf from hV 4 15 (by kernel_rfl)]
 rw [show gv 17 = .int .i64 (n : Int) from hV 6 17 (by kernel_rfl)]
 rw [show gv 11 = .pointer (some ⟨go, 0, none⟩) from hV 0 11 (by kernel_rfl)]
 clear hV
 refine l_call (o := ⟨some 18, _, _, _, _, _⟩) 90 #[vf, .int .i64 (n : Int)] rfl (exec_call 90 _ [.tmp 15, .tmp 17] _ _ Try.func90 (by kernel_rfl) (by kernel_rfl) rfl (by kernel_rfl) _) ?_
 refine (growF_any w1 vf x.f.length n _ (HF.out.kept k1) (by omega)).mono ?_
 rintro r w2 ⟨vg, rfl, hS2, k2, ho2⟩
 refine ⟨_, rfl, ?_⟩
 simp only [Act.put, sA, sS, sZ]
 refine l_val (o := ⟨some 19, _, _, _, _, _⟩) (.pointer (some ⟨go, 0, none⟩)) rfl (exec_nilp (.tmp 11) ⟨go, 0, none⟩ rfl (by kernel_rfl)) ?_
 simp only [Act.put, sA, sS, sZ]
 refine l_val (o := ⟨some 20, _, _, _, _, _⟩) (.pointer (some ⟨go, 9, none⟩)) rfl (exec_fldo 29 1 9 (.tmp 19) (go) (0) (9) rfl (by kernel_rfl) (by kernel_rfl) rfl) ?_
 simp only [Act.put, sA, sS, sZ]
 refine l_st1 (o := ⟨none, _, _, _, _, _⟩) 26 go 9 29 _ vg (.tmp 20) (.tmp 18) rfl rfl (by kernel_rfl) (by kernel_rfl) (by kernel_rfl) (sl_cells hS2) (sl_onec hS2) ((HO.out.kept k1).kept k2) (by rw [Oc.len15]; omega) ?_
 intro w3 hB3 hk3 hs3
 simp only [Act.put]
 refine wpList_nil ?_
 rw [Oc.set_fills] at hB3
 have k12 := k1.trans k2
 have z12 := k12.size
 have K3 : Keep (fun b => b = go ∨ b = p ∨ vf.ownBlock = some b) w w3 := (Keep.mono (T := (fun b => b = go ∨ b = p ∨ vf.ownBlock = some b)) k12 (fun _ _ h => h.elim)).trans hk3 (fun b _ h => .inl h)
 have ho3 : ∀ b, vg.ownBlock = some b → vf.ownBlock = some b ∨ w.heap.size ≤ b := fun b hb => (ho2 b hb).imp id (fun h => Nat.le_trans k1.size h)
 have hgne : ∀ b, vg.ownBlock = some b → b ≠ go ∧ b ≠ p := fun b hb => by
  rcases ho3 b hb with h | h
  ·exact HFO.out b h
  ·omega
 have HO3 := Lib.hid hB3
 have HF3 := Lib.hid (hS2.keep hk3 (fun b hb e => (hgne b hb).1 e))
 have HB3 := Lib.hid ((HB.out.kept k12).keep hk3 (fun e => hgp e.symm))
 have HG3 := Lib.hid ho3
 clear hB3 hS2 hk3 hs3 k1 k2 ho2 ho3 k12 hgne
 go_upto_region 1 with fail
 refine wp_text 3 [.eq (vh), .eq (.int .i64 (n : Int)), .eq (.int .i64 0)] rfl (by kernel_rfl) ?_ ?_
 ·refine sv 1 rfl rfl rfl (fun a u hE hD hk => exec_move (.tmp 3) _ rfl (hE 3 (vh) (by kernel_rfl) (by kernel_rfl))) ?_
  refine sv 2 rfl rfl rfl (fun a u hE hD hk => exec_lenS (.tmp 21) slH (vh) (n) _ _ rfl (hD 0 21 (by kernel_rfl)) HH.out) ?_
  refine sv 3 rfl rfl rfl (fun a u hE hD hk => exec_move (.const (.int .i64 0)) _ rfl rfl) ?_
  exact fsteps_nil
 intro gv w4 hV k4
 rw [show dstsOf _ 3 = [21, 22, 23] by kernel_rfl]
 simp only [fC, fN, sA, sS, sZ, dS, dZ]
 rw [show gv 21 = vh from hV 0 21 (by kernel_rfl)]
 rw [show gv 22 = .int .i64 (n : Int) from hV 1 22 (by kernel_rfl)]
 rw [show gv 23 = .int .i64 0 from hV 2 23 (by kernel_rfl)]
 clear hV
 refine wpList_nil ?_
 have K4 := K3.kept k4
 have HO4 := Lib.hid (HO3.out.kept k4)
 have HF4 := Lib.hid (HF3.out.kept k4)
 have HB4 := Lib.hid (HB3.out.kept k4)
 clear HO3 HF3 HB3 K3 k4
 go_wp2_with fail
 go_loopw [23] (fun t wr => ∃ (i : Nat) (vv : Value), i ≤ n ∧ t = .int .i64 (i : Int) ∧ Hid (Blk wr go 29 ((x.more pr no (H.take i)).cells vv)) ∧ Hid (Sl wr 36 21 vv (x.more pr no (H.take i)).f.length (fls (x.more pr no (H.take i)).f)) ∧ Hid (Blk wr p 75 (sideCs s v u0 (lastOf last (fillsOf x.o pr no x.left (H.take i))) (no + i))) ∧ Hid (∀ b, vv.ownBlock = some b → vf.ownBlock = some b ∨ w.heap.size ≤ b) ∧ Keep (fun b => b = go ∨ b = p ∨ vf.ownBlock = some b) w wr) (fun t _ => n - (intOf t).toNat)
 case atStart => exact ⟨0, vg, Nat.zero_le _, rfl, by rw [List.take_zero, Oc.more_nil]; exact HO4.out, by rw [List.take_zero, Oc.more_nil]; exact HF4.out, by rw [List.take_zero]; simp only [fillsOf, lastOf, Int.ofNat_zero, Int.add_zero]; exact HB4.out, HG3.out, K4⟩
 case round =>
  obtain ⟨i, vv, hi, rfl, HOr, HFr, HBr, HGr, hkr⟩ := hrel
  have zr := hkr.size
  by_cases hlt : i < n
  ·skip
   obtain ⟨gs, off, c, rfl⟩ := HH.out.some_ (by omega)
   obtain ⟨h, hh⟩ : ∃ h, H[i]? = some h := ⟨H[i]'(by rw [HN.out]; omega), List.getElem?_eq_getElem (by rw [HN.out]; omega)⟩
   have hgs := HHO.out gs rfl
   have HE : Hid (wr.rangeAt gs (off + i * 10) h.cells) := range_keep (HH.out.rng i h hh) hkr (fun e => by
    rcases e with e | e | e
    ·exact hgs.1 e
    ·exact hgs.2.1 e
    ·exact hgs.2.2 e)
   have HHI := Lib.hid hh
   have HTK : Hid (H.take (i + 1) = H.take i ++ [h]) := by show _ = _; rw [List.take_add_one, hh]; rfl
   have hh1 : 1 ≤ h.n := HP.out h (List.mem_of_getElem? hh)
   have hlb : seenM (H.take i) + h.n ≤ x.left ∧ 0 ≤ seenM (H.take i) := by
    have e1 : seenM H = seenM (H.take i) + h.n + seenM (H.drop (i + 1)) := by
     rw [← seenM_snoc, ← HTK.out, ← seenM_append, List.take_append_drop]
    have hnn : ∀ Y : List Ent, (∀ y ∈ Y, 1 ≤ y.n) → 0 ≤ seenM Y := fun Y => by
     induction Y with
     | nil => intro _; simp [seenM, sumI]
     | cons y Y ih => intro hy; rw [seenM_cons]; have := ih (fun z hz => hy z (by simp [hz])); have := hy y (by simp); omega
    have e2 := hnn (H.drop (i + 1)) (fun y hy => HP.out y (List.mem_of_mem_drop hy))
    have e3 := hnn (H.take i) (fun y hy => HP.out y (List.mem_of_mem_take hy))
    have e4 := HSUM.out
    omega
   clear hh
   obtain ⟨xi, hxi⟩ : ∃ xi, x.more pr no (H.take i) = xi := ⟨_, rfl⟩
   obtain ⟨la, hla⟩ : ∃ la, lastOf last (fillsOf x.o pr no x.left (H.take i)) = la := ⟨_, rfl⟩
   have hxo : xi.o = x.o := by rw [← hxi]; rfl
   have hxl : xi.left = x.left - seenM (H.take i) := by rw [← hxi]; rfl
   have hxf : xi.f.length = x.f.length + i := by rw [← hxi]; show (x.f ++ _).length = _; rw [List.length_append, fillsOf_len, List.length_take, HN.out]; omega
   have HNX : Hid (x.more pr no (H.take (i + 1)) = { xi with f := xi.f ++ [⟨h.o, x.o.q xi.left, pr, h.n, no + i + 1⟩], left := xi.left - h.n }) := by
    show _ = _
    rw [← hxi, HTK.out]
    unfold Oc.more
    simp only
    rw [fillsOf_append, seenM_snoc, List.length_take, HN.out, Nat.min_eq_left hi]
    simp only [fillsOf, List.append_assoc]
    congr 1
    omega
   have HNF : Hid (lastOf last (fillsOf x.o pr no x.left (H.take (i + 1))) = pr) := by
    show _ = _
    rw [HTK.out, fillsOf_append]
    simp only [fillsOf]
    exact lastOf_snoc _ _ _
   rw [hxi] at HOr HFr
   rw [hla] at HBr
   have HXO := Lib.hid hxo
   have hlb2 : h.n ≤ xi.left ∧ xi.left ≤ 2000000 := by omega
   have hxfl : xi.f.length ≤ 4000001 := by omega
   have hni : 0 ≤ no + (i : Int) ∧ no + (i : Int) ≤ 3000000000000 := by omega
   have hvg : ∀ b, vv.ownBlock = some b → b < wr.heap.size := fun b hb => HFr.out.lt hb
   have HVG := Lib.hid hvg
   have hvn : ∀ b, vv.ownBlock = some b → b ≠ go ∧ b ≠ p := fun b hb => by
    rcases HGr.out b hb with e | e
    ·exact HFO.out b e
    ·omega
   have HVN := Lib.hid hvn
   clear hxi hla hxo hxl hvg hvn hlb hxf
   go_upto_region 3 with fail
   refine wp_text 3 [.eq (.pointer (some ⟨gs, off + i * 10, none⟩)), .eq (h.v), .fresh wr.heap.size 39 zeroE.cells] rfl (by kernel_rfl) ?_ ?_
   ·refine sv 1 rfl rfl rfl (fun a u hE hD hk => exec_ixo slH (.tmp 21) (.tmp 23) (gs) (off) n c i (off + i * 10) ((i : Int)) rfl (hE 21 (.slice (some ⟨gs, off, none⟩) n c) (by kernel_rfl) (by kernel_rfl)) (hE 23 (.int .i64 (i : Int)) (by kernel_rfl) (by kernel_rfl)) (by first | rfl | omega) (hlt) (by first | rfl | omega)) ?_
    refine sv 2 rfl rfl rfl (fun a u hE hD hk => exec_ldS 39 _ (.tmp 25) (gs) (off + i * 10) (h.cells) rfl (hD 0 25 (by kernel_rfl)) (range_kept HE.out hk) Try.underlying39 (by rw [h.len10]; exact szH)) ?_
    refine fsteps_cons 3 rfl (fun a u hE hD hk => f_new (o := ⟨some 9, _, _, _, _, _⟩) (.pointer (some ⟨u.heap.size, 0, none⟩)) _ rfl (wanted_none rfl _) (exec_alc 39 zeroE.cells rfl zH) ⟨_, rfl, hk.size, Blk.new u _ _⟩ ((Keep.refl _ u).alloc _)) ?_
    exact fsteps_nil
   intro gv w5 hV k5
   rw [show dstsOf _ 3 = [25, 26, 9] by kernel_rfl]
   simp only [fC, fN, sA, sS, sZ, dS, dZ]
   have hv9 : (.fresh wr.heap.size 39 zeroE.cells : Kn).p (gv 9) w5 := hV 2 9 (by kernel_rfl)
   generalize gv 9 = v9 at hv9 ⊢
   rw [show gv 26 = h.v from hV 1 26 (by kernel_rfl)]
   clear hV
   obtain ⟨b9, rfl, hb9, hB9⟩ := hv9
   refine l_setS (o := ⟨none, _, _, _, _, _⟩) 39 b9 39 zeroE.cells h.cells (.tmp 9) (.tmp 26) rfl rfl (by kernel_rfl) (by kernel_rfl) hB9 (by rw [Ent.len10]; exact szH) (by rw [Ent.len10, Ent.len10]) (Ent.one _) ?_
   intro w6 hB6 hk6 hs6
   simp only [Act.put]
   refine wpList_nil ?_
   have k6 : Kept wr w6 := k5.trans' hk6 (by omega)
   have HB9 := Lib.hid hB6
   have l9 := hB6.lt
   have HO6 := Lib.hid (HOr.out.kept k6)
   clear hB9 hB6 hk6 hs6 k5 HE
   go_upto_region 4 with fail
   refine wp_text 5 [.eq (.pointer (some ⟨go, 0, none⟩)), .eq (.pointer (some ⟨go, 0, none⟩)), .eq (.pointer (some ⟨go, 0, none⟩)), .eq (xi.o.v), .fresh w6.heap.size 25 zeroO.cells] rfl (by kernel_rfl) ?_ ?_
   ·refine sv 1 rfl rfl rfl (fun a u hE hD hk => exec_move (.tmp 1) _ rfl (hE 1 (.pointer (some ⟨go, 0, none⟩)) (by kernel_rfl) (by kernel_rfl))) ?_
    refine sv 2 rfl rfl rfl (fun a u hE hD hk => exec_nilp (.tmp 27) ⟨go, 0, none⟩ rfl (hD 0 27 (by kernel_rfl))) ?_
    refine sv 3 rfl rfl rfl (fun a u hE hD hk => exec_fldo 29 0 0 (.tmp 28) (go) (0) (0) rfl (hD 1 28 (by kernel_rfl)) (by kernel_rfl) rfl) ?_
    refine sv 4 rfl rfl rfl (fun a u hE hD hk => exec_ldS 25 _ (.tmp 29) (go) (0) (xi.o.cells) rfl (hD 2 29 (by kernel_rfl)) (oc_ord (HO6.out.kept hk)) Try.underlying25 (by rw [xi.o.len9]; exact ord_size)) ?_
    refine fsteps_cons 5 rfl (fun a u hE hD hk => f_new (o := ⟨some 10, _, _, _, _, _⟩) (.pointer (some ⟨u.heap.size, 0, none⟩)) _ rfl (wanted_none rfl _) (exec_alc 25 zeroO.cells rfl zO) ⟨_, rfl, hk.size, Blk.new u _ _⟩ ((Keep.refl _ u).alloc _)) ?_
    exact fsteps_nil
   intro gv w7 hV k7
   rw [show dstsOf _ 5 = [27, 28, 29, 30, 10] by kernel_rfl]
   simp only [fC, fN, sA, sS, sZ, dS, dZ]
   have hv10 : (.fresh w6.heap.size 25 zeroO.cells : Kn).p (gv 10) w7 := hV 4 10 (by kernel_rfl)
   generalize gv 10 = v10 at hv10 ⊢
   rw [show gv 30 = xi.o.v from hV 3 30 (by kernel_rfl)]
   clear hV
   obtain ⟨b10, rfl, hb10, hB10⟩ := hv10
   refine l_setS (o := ⟨none, _, _, _, _, _⟩) 25 b10 25 zeroO.cells xi.o.cells (.tmp 10) (.tmp 30) rfl rfl (by kernel_rfl) (by kernel_rfl) hB10 (by rw [Ord.len9]; exact ord_size) (by rw [Ord.len9, Ord.len9]) (Ord.one1 _) ?_
   intro w8 hB8 hk8 hs8
   simp only [Act.put]
   refine wpList_nil ?_
   have k8 : Kept w6 w8 := k7.trans' hk8 (by omega)
   have z6 := k6.size
   have HO8 := Lib.hid (HO6.out.kept k8)
   have HB98 := Lib.hid (HB9.out.kept k8)
   have l10 := hB8.lt
   clear hB10 hk8 hs8 k7 HO6 HB9
   go_upto_region 5 with fail
   refine wp_text 5 [.eq (.pointer (some ⟨go, 0, none⟩)), .eq (.pointer (some ⟨go, 0, none⟩)), .eq (.pointer (some ⟨go, 10, none⟩)), .eq (.int .i64 xi.left), .eq (.pointer (some ⟨b10, 6, none⟩))] rfl (by kernel_rfl) ?_ ?_
   ·refine sv 1 rfl rfl rfl (fun a u hE hD hk => exec_move (.tmp 1) _ rfl (hE 1 (.pointer (some ⟨go, 0, none⟩)) (by kernel_rfl) (by kernel_rfl))) ?_
    refine sv 2 rfl rfl rfl (fun a u hE hD hk => exec_nilp (.tmp 31) ⟨go, 0, none⟩ rfl (hD 0 31 (by kernel_rfl))) ?_
    refine sv 3 rfl rfl rfl (fun a u hE hD hk => exec_fldo 29 2 10 (.tmp 32) (go) (0) (10) rfl (hD 1 32 (by kernel_rfl)) (by kernel_rfl) rfl) ?_
    refine sv 4 rfl rfl rfl (fun a u hE hD hk => exec_loadi 3 Try.underlying3 (.tmp 33) ⟨go, 10, none⟩ (.int .i64 xi.left) rfl (hD 2 33 (by kernel_rfl)) (by rw [(HO8.out.kept hk).cell]; rfl)) ?_
    refine sv 5 rfl rfl rfl (fun a u hE hD hk => exec_fldo 25 6 6 (.tmp 10) (b10) (0) (6) rfl (hE 10 (.pointer (some ⟨b10, 0, none⟩)) (by kernel_rfl) (by kernel_rfl)) (by kernel_rfl) rfl) ?_
    exact fsteps_nil
   intro gv w9 hV k9
   rw [show dstsOf _ 5 = [31, 32, 33, 34, 35] by kernel_rfl]
   simp only [fC, fN, sA, sS, sZ, dS, dZ]
   rw [show gv 35 = .pointer (some ⟨b10, 6, none⟩) from hV 4 35 (by kernel_rfl)]
   rw [show gv 34 = .int .i64 xi.left from hV 3 34 (by kernel_rfl)]
   clear hV
   refine l_setf (o := ⟨none, _, _, _, _, _⟩) b10 6 25 xi.o.l [] xi.left (.tmp 35) (.tmp 34) rfl rfl (by kernel_rfl) (by kernel_rfl) (hB8.kept k9) (by simp [Ord.l]) ?_
   intro w10 hB10 hk10 hs10
   simp only [Act.put]
   refine wpList_nil ?_
   rw [q_l] at hB10
   have k10 : Kept wr w10 := ((k6.trans k8).trans k9).trans' hk10 (by omega)
   have HB10 := Lib.hid hB10
   have HB910 := Lib.hid ((HB98.out.kept k9).keep hk10 (by omega))
   have HP10 := Lib.hid (HBr.out.kept k10)
   have HO10 := Lib.hid (HOr.out.kept k10)
   have HF10 := Lib.hid (HFr.out.kept k10)
   have z10 := k10.size
   clear hB8 hB10 hk10 hs10 k9 HO8 HB98 k6 k8 HOr HBr HFr
   go_upto_region 6 with fail
   refine wp_text 4 [.eq (.pointer (some ⟨p, 0, none⟩)), .eq (.int .i64 pr), .eq (.pointer (some ⟨p, 0, none⟩)), .eq (.pointer (some ⟨p, 4, none⟩))] rfl (by kernel_rfl) ?_ ?_
   ·refine sv 1 rfl rfl rfl (fun a u hE hD hk => exec_move (.tmp 0) _ rfl (hE 0 (.pointer (some ⟨p, 0, none⟩)) (by kernel_rfl) (by kernel_rfl))) ?_
    refine sv 2 rfl rfl rfl (fun a u hE hD hk => exec_move (.tmp 2) _ rfl (hE 2 (.int .i64 pr) (by kernel_rfl) (by kernel_rfl))) ?_
    refine sv 3 rfl rfl rfl (fun a u hE hD hk => exec_nilp (.tmp 36) ⟨p, 0, none⟩ rfl (hD 0 36 (by kernel_rfl))) ?_
    refine sv 4 rfl rfl rfl (fun a u hE hD hk => exec_fldo 75 2 4 (.tmp 38) (p) (0) (4) rfl (hD 2 38 (by kernel_rfl)) (by kernel_rfl) rfl) ?_
    exact fsteps_nil
   intro gv w11 hV k11
   rw [show dstsOf _ 4 = [36, 37, 38, 39] by kernel_rfl]
   simp only [fC, fN, sA, sS, sZ, dS, dZ]
   rw [show gv 39 = .pointer (some ⟨p, 4, none⟩) from hV 3 39 (by kernel_rfl)]
   rw [show gv 37 = .int .i64 pr from hV 1 37 (by kernel_rfl)]
   clear hV
   refine l_st1 (o := ⟨none, _, _, _, _, _⟩) 3 p 4 75 _ (.int .i64 pr) (.tmp 39) (.tmp 37) rfl rfl (by kernel_rfl) (by kernel_rfl) (by kernel_rfl) rfl rfl (HP10.out.kept k11) (by rw [sideCs_len]; omega) ?_
   intro w12 hP12 hk12 hs12
   simp only [Act.put]
   refine wpList_nil ?_
   rw [sideCs_last] at hP12
   have kp12 : Keep (· = p) w10 w12 := Keep.any k11 hk12
   have HP12 := Lib.hid hP12
   clear hP12 hk12 hs12 k11 HP10
   go_upto_region 7 with fail
   refine wp_text 7 [.eq (.pointer (some ⟨p, 0, none⟩)), .eq (.pointer (some ⟨p, 0, none⟩)), .eq (.pointer (some ⟨p, 5, none⟩)), .eq (.int .i64 (no + (i : Int))), .eq (.int .i64 (no + (i : Int) + 1)), .eq (.pointer (some ⟨p, 0, none⟩)), .eq (.pointer (some ⟨p, 5, none⟩))] rfl (by kernel_rfl) ?_ ?_
   ·refine sv 1 rfl rfl rfl (fun a u hE hD hk => exec_move (.tmp 0) _ rfl (hE 0 (.pointer (some ⟨p, 0, none⟩)) (by kernel_rfl) (by kernel_rfl))) ?_
    refine sv 2 rfl rfl rfl (fun a u hE hD hk => exec_nilp (.tmp 40) ⟨p, 0, none⟩ rfl (hD 0 40 (by kernel_rfl))) ?_
    refine sv 3 rfl rfl rfl (fun a u hE hD hk => exec_fldo 75 3 5 (.tmp 41) (p) (0) (5) rfl (hD 1 41 (by kernel_rfl)) (by kernel_rfl) rfl) ?_
    refine sv 4 rfl rfl rfl (fun a u hE hD hk => exec_loadi 3 Try.underlying3 (.tmp 42) ⟨p, 5, none⟩ (.int .i64 (no + (i : Int))) rfl (hD 2 42 (by kernel_rfl)) (Kept.cell hk ((HP12.out.cell 5).trans (by unfold sideCs; split <;> rfl)))) ?_
    refine sv 5 rfl rfl rfl (fun a u hE hD hk => exec_addn (no + (i : Int) + 1) (p := no + (i : Int)) (q := 1) rfl (hD 3 43 (by kernel_rfl)) rfl rfl (by omega) (by omega)) ?_
    refine sv 6 rfl rfl rfl (fun a u hE hD hk => exec_nilp (.tmp 40) ⟨p, 0, none⟩ rfl (hD 0 40 (by kernel_rfl))) ?_
    refine sv 7 rfl rfl rfl (fun a u hE hD hk => exec_fldo 75 3 5 (.tmp 45) (p) (0) (5) rfl (hD 5 45 (by kernel_rfl)) (by kernel_rfl) rfl) ?_
    exact fsteps_nil
   intro gv w13 hV k13
   rw [show dstsOf _ 7 = [40, 41, 42, 43, 44, 45, 46] by kernel_rfl]
   simp only [fC, fN, sA, sS, sZ, dS, dZ]
   rw [show gv 46 = .pointer (some ⟨p, 5, none⟩) from hV 6 46 (by kernel_rfl)]
   rw [show gv 44 = .int .i64 (no + (i : Int) + 1) from hV 4 44 (by kernel_rfl)]
   clear hV
   refine l_st1 (o := ⟨none, _, _, _, _, _⟩) 3 p 5 75 _ (.int .i64 (no + (i : Int) + 1)) (.tmp 46) (.tmp 44) rfl rfl (by kernel_rfl) (by kernel_rfl) (by kernel_rfl) rfl rfl (HP12.out.kept k13) (by rw [sideCs_len]; omega) ?_
   intro w14 hP14 hk14 hs14
   simp only [Act.put]
   refine wpList_nil ?_
   rw [sideCs_no] at hP14
   have kp14 : Keep (· = p) w10 w14 := (kp12.kept k13).trans hk14 (fun _ _ h => h)
   have z14 := kp14.size
   have hpl' : p < wr.heap.size := by omega
   have HP14 := Lib.hid hP14
   have HO14 := Lib.hid (HO10.out.keep kp14 hgp)
   have HF14 := Lib.hid (HF10.out.keep kp14 (fun b hb => (HVN.out b hb).2))
   have HB914 := Lib.hid (HB910.out.keep kp14 (by omega))
   have HB1014 := Lib.hid (HB10.out.keep kp14 (by omega))
   have HR9 := Lib.hid (blk_range HB914.out)
   have HR10 := Lib.hid (blk_range HB1014.out)
   clear hP14 hk14 hs14 k13 kp12 HP12 HO10 HF10 HB910 HB10
   go_upto_region 8 with fail
   refine wp_freeT 17 [.eq (.pointer (some ⟨go, 0, none⟩)), .eq (.pointer (some ⟨go, 0, none⟩)), .eq (.pointer (some ⟨go, 0, none⟩)), .eq (.pointer (some ⟨go, 9, none⟩)), .eq (vv), .eq (.pointer (some ⟨b9, 0, none⟩)), .eq (h.o.v), .eq ((xi.o.q xi.left).v), .eq (.int .i64 pr), .eq (.pointer (some ⟨b9, 9, none⟩)), .eq (.int .i64 h.n), .eq (.pointer (some ⟨p, 0, none⟩)), .eq (.pointer (some ⟨p, 0, none⟩)), .eq (.pointer (some ⟨p, 5, none⟩)), .eq (.int .i64 (no + (i : Int) + 1)), .eq ((Fl.mk h.o (xi.o.q xi.left) pr h.n (no + (i : Int) + 1)).v), .sl w14.heap.size 36 21 1 (Fl.mk h.o (xi.o.q xi.left) pr h.n (no + (i : Int) + 1)).cells] (.pointer (some ⟨go, 0, none⟩)) ((fun v' u u' => Sl u' 36 21 v' (xi.f.length + 1) (fls xi.f ++ (Fl.mk h.o (xi.o.q xi.left) pr h.n (no + (i : Int) + 1)).cells) ∧ Keep (fun b => vv.ownBlock = some b) u u' ∧ ∀ b, v'.ownBlock = some b → vv.ownBlock = some b ∨ w14.heap.size ≤ b)) (by kernel_rfl) rfl rfl (by kernel_rfl) (by kernel_rfl) (t_zero (d := 47) _ rfl rfl rfl (by kernel_rfl) (by kernel_rfl)) ?_ (fun a u hE hD hk =>  (by obtain ⟨v', u', hr, hs', hk', ho'⟩ := run_append_sl slF _ u vv (a.eval (.tmp 63)) xi.f.length 1 (fls xi.f) (Fl.mk h.o (xi.o.q xi.left) pr h.n (no + (i : Int) + 1)).cells (HF14.out.kept hk) ((hD 16 63 (by kernel_rfl))).1 (Fl.one _) (by unfold maxLen; omega) (by omega); exact t_last (o := ⟨some 64, _, _, _, _, _⟩) (R := (fun v' u u' => Sl u' 36 21 v' (xi.f.length + 1) (fls xi.f ++ (Fl.mk h.o (xi.o.q xi.left) pr h.n (no + (i : Int) + 1)).cells) ∧ Keep (fun b => vv.ownBlock = some b) u u' ∧ ∀ b, v'.ownBlock = some b → vv.ownBlock = some b ∨ w14.heap.size ≤ b)) (m := 17) (v := v') (w' := u') rfl (wanted_none rfl _) (exec_appS slF (.tmp 51) (.tmp 63) vv _ rfl (hD 4 51 (by kernel_rfl)) rfl v' u' hr) ⟨hs', hk', fun b hb => (ho' b hb).imp id (fun h => Nat.le_trans hk.size h)⟩)) ?_
   ·refine sv 2 rfl rfl rfl (fun a u hE hD hk => exec_move (.tmp 1) _ rfl (hE 1 (.pointer (some ⟨go, 0, none⟩)) (by kernel_rfl) (by kernel_rfl))) ?_
    refine sv 3 rfl rfl rfl (fun a u hE hD hk => exec_nilp (.tmp 48) ⟨go, 0, none⟩ rfl (hD 1 48 (by kernel_rfl))) ?_
    refine sv 4 rfl rfl rfl (fun a u hE hD hk => exec_fldo 29 1 9 (.tmp 49) (go) (0) (9) rfl (hD 2 49 (by kernel_rfl)) (by kernel_rfl) rfl) ?_
    refine sv 5 rfl rfl rfl (fun a u hE hD hk => exec_ldv 26 _ Try.underlying26 (.tmp 50) ⟨go, 9, none⟩ (vv) rfl (hD 3 50 (by kernel_rfl)) (by rw [(HO14.out.kept hk).cell]; rfl)) ?_
    refine sv 6 rfl rfl rfl (fun a u hE hD hk => exec_fldo 39 0 0 (.tmp 9) (b9) (0) (0) rfl (hE 9 (.pointer (some ⟨b9, 0, none⟩)) (by kernel_rfl) (by kernel_rfl)) (by kernel_rfl) rfl) ?_
    refine sv 7 rfl rfl rfl (fun a u hE hD hk => exec_ldS 25 _ (.tmp 52) (b9) (0) (h.o.cells) rfl (hD 5 52 (by kernel_rfl)) (ent_ord (range_kept HR9.out hk)) Try.underlying25 (by rw [h.o.len9]; exact ord_size)) ?_
    refine sv 8 rfl rfl rfl (fun a u hE hD hk => exec_ldS 25 _ (.tmp 10) (b10) (0) ((xi.o.q xi.left).cells) rfl (hE 10 (.pointer (some ⟨b10, 0, none⟩)) (by kernel_rfl) (by kernel_rfl)) (range_kept HR10.out hk) Try.underlying25 (by rw [(xi.o.q xi.left).len9]; exact ord_size)) ?_
    refine sv 9 rfl rfl rfl (fun a u hE hD hk => exec_move (.tmp 2) _ rfl (hE 2 (.int .i64 pr) (by kernel_rfl) (by kernel_rfl))) ?_
    refine sv 10 rfl rfl rfl (fun a u hE hD hk => exec_fldo 39 1 9 (.tmp 9) (b9) (0) (9) rfl (hE 9 (.pointer (some ⟨b9, 0, none⟩)) (by kernel_rfl) (by kernel_rfl)) (by kernel_rfl) rfl) ?_
    refine sv 11 rfl rfl rfl (fun a u hE hD hk => exec_loadi 3 Try.underlying3 (.tmp 56) ⟨b9, 9, none⟩ (.int .i64 h.n) rfl (hD 9 56 (by kernel_rfl)) (range_int (range_kept HR9.out hk) 9 _ rfl)) ?_
    refine sv 12 rfl rfl rfl (fun a u hE hD hk => exec_move (.tmp 0) _ rfl (hE 0 (.pointer (some ⟨p, 0, none⟩)) (by kernel_rfl) (by kernel_rfl))) ?_
    refine sv 13 rfl rfl rfl (fun a u hE hD hk => exec_nilp (.tmp 58) ⟨p, 0, none⟩ rfl (hD 11 58 (by kernel_rfl))) ?_
    refine sv 14 rfl rfl rfl (fun a u hE hD hk => exec_fldo 75 3 5 (.tmp 59) (p) (0) (5) rfl (hD 12 59 (by kernel_rfl)) (by kernel_rfl) rfl) ?_
    refine sv 15 rfl rfl rfl (fun a u hE hD hk => exec_loadi 3 Try.underlying3 (.tmp 60) ⟨p, 5, none⟩ (.int .i64 (no + (i : Int) + 1)) rfl (hD 13 60 (by kernel_rfl)) (Kept.cell hk ((HP14.out.cell 5).trans (by unfold sideCs; split <;> rfl)))) ?_
    refine sv 16 rfl rfl rfl (fun a u hE hD hk => exec_bF (.tmp 53) (.tmp 54) (.tmp 55) (.tmp 57) (.tmp 61) h.o (xi.o.q xi.left) pr h.n (no + (i : Int) + 1) rfl (hD 6 53 (by kernel_rfl)) (hD 7 54 (by kernel_rfl)) (hD 8 55 (by kernel_rfl)) (hD 10 57 (by kernel_rfl)) (hD 14 61 (by kernel_rfl))) ?_
    refine fsteps_cons 17 rfl (fun a u hE hD hk => f_new (o := ⟨some 63, _, _, _, _, _⟩) (.slice (some ⟨u.heap.size, 0, none⟩) 1 1) _ rfl (wanted_none rfl _) (exec_oneS slF (.tmp 62) (Fl.mk h.o (xi.o.q xi.left) pr h.n (no + (i : Int) + 1)).cells (by omega) rfl (hD 15 62 (by kernel_rfl)) ((Fl.mk h.o (xi.o.q xi.left) pr h.n (no + (i : Int) + 1)).len21)) (sl_one u 36 21 _ w14.heap.size ((Fl.mk h.o (xi.o.q xi.left) pr h.n (no + (i : Int) + 1)).len21) (by omega) hk.size) ((Keep.refl _ u).alloc _)) ?_
    exact fsteps_nil
   intro gv w1 w15 hV h0 hR hk1
   rw [show dstsOf _ 18 = [47, 48, 49, 50, 51, 52, 53, 54, 55, 56, 57, 58, 59, 60, 61, 62, 63, 64] by kernel_rfl]
   simp only [fC, fN, sA, sS, sZ, dS, dZ]
   have hT := hR 64 (by kernel_rfl)
   generalize gv 64 = v64 at hT ⊢
   rw [show gv 47 = .pointer (some ⟨go, 0, none⟩) from h0 47 (by kernel_rfl)]
   clear hV h0 hR
   obtain ⟨hs15, hk15, ho15⟩ := hT
   have hO15 := (HO14.out.kept hk1).keep hk15 (fun e => (HVN.out go e).1 rfl)
   refine l_val (o := ⟨some 65, _, _, _, _, _⟩) (.pointer (some ⟨go, 0, none⟩)) rfl (exec_nilp (.tmp 47) ⟨go, 0, none⟩ rfl (by kernel_rfl)) ?_
   simp only [Act.put, sA, sS, sZ]
   refine l_val (o := ⟨some 66, _, _, _, _, _⟩) (.pointer (some ⟨go, 9, none⟩)) rfl (exec_fldo 29 1 9 (.tmp 65) (go) (0) (9) rfl (by kernel_rfl) (by kernel_rfl) rfl) ?_
   simp only [Act.put, sA, sS, sZ]
   refine l_st1 (o := ⟨none, _, _, _, _, _⟩) 26 go 9 29 _ v64 (.tmp 66) (.tmp 64) rfl rfl (by kernel_rfl) (by kernel_rfl) (by kernel_rfl) (sl_cells hs15) (sl_onec hs15) hO15 (by rw [Oc.len15]; omega) ?_
   intro w16 hO16 hk16 hs16
   simp only [Act.put]
   refine wpList_nil ?_
   obtain ⟨vn, hvn⟩ : ∃ y, y = v64 := ⟨_, rfl⟩
   subst hvn
   rw [Oc.set_fills] at hO16
   have zk1 := hk1.size
   have z15 := hk15.size
   have hvn1 : ∀ b, vn.ownBlock = some b → b ≠ go ∧ b ≠ p := fun b hb => by
    rcases ho15 b hb with e | e
    ·exact HVN.out b e
    ·omega
   have HVN1 := Lib.hid hvn1
   have hvn2 : ∀ b, vn.ownBlock = some b → vf.ownBlock = some b ∨ w.heap.size ≤ b := fun b hb => by
    rcases ho15 b hb with e | e
    ·exact HGr.out b e
    ·exact .inr (by omega)
   have HVN2 := Lib.hid hvn2
   have K16 : Keep (fun b => b = go ∨ vv.ownBlock = some b) w14 w16 := (Keep.mono (T := fun b => b = go ∨ vv.ownBlock = some b) (Keep.any hk1 hk15) (fun _ _ e => .inr e)).trans hk16 (fun b _ e => .inl e)
   have HO16 := Lib.hid hO16
   have HF16 := Lib.hid (hs15.keep hk16 (fun b hb e => (hvn1 b hb).1 e))
   have HR916 := Lib.hid (blk_range (HB914.out.keep K16 (fun e => by
    rcases e with e | e
    ·omega
    ·have := HVG.out _ e; omega)))
   have HP16 := Lib.hid (HP14.out.keep K16 (fun e => by
    rcases e with e | e
    ·exact hgp e.symm
    ·exact (HVN.out _ e).2 rfl))
   have KW16 : Keep (fun b => b = go ∨ b = p ∨ vf.ownBlock = some b) w w16 := by
    refine (Keep.trans (hkr.kept k10) kp14 (fun b _ e => .inr (.inl e))).trans K16 (fun b hb e => ?_)
    rcases e with e | e
    ·exact .inl e
    ·rcases HGr.out b e with e | e
     ·exact .inr (.inr e)
     ·omega
   clear hO16 hs15 hk15 ho15 hk16 hs16 hO15 hk1 HO14 HF14 HB914 HB1014 HR9 HR10 HP14 K16 kp14 k10 hvn1 hvn2
   obtain ⟨xj, hxj⟩ : ∃ xj : Oc, xj = xi := ⟨_, rfl⟩
   go_upto_region 9 with fail
   refine wp_free 7 [.eq (.pointer (some ⟨go, 0, none⟩)), .eq (.pointer (some ⟨go, 0, none⟩)), .eq (.pointer (some ⟨go, 10, none⟩)), .eq (.int .i64 xi.left), .eq (.pointer (some ⟨b9, 9, none⟩)), .eq (.int .i64 h.n), .eq (.int .i64 (xi.left - h.n))] (by kernel_rfl) rfl (by kernel_rfl) ?_ ?_
   ·refine sv 1 rfl rfl rfl (fun a u hE hD hk => exec_move (.tmp 1) _ rfl (hE 1 (.pointer (some ⟨go, 0, none⟩)) (by kernel_rfl) (by kernel_rfl))) ?_
    refine sv 2 rfl rfl rfl (fun a u hE hD hk => exec_nilp (.tmp 67) ⟨go, 0, none⟩ rfl (hD 0 67 (by kernel_rfl))) ?_
    refine sv 3 rfl rfl rfl (fun a u hE hD hk => exec_fldo 29 2 10 (.tmp 68) (go) (0) (10) rfl (hD 1 68 (by kernel_rfl)) (by kernel_rfl) rfl) ?_
    refine sv 4 rfl rfl rfl (fun a u hE hD hk => exec_loadi 3 Try.underlying3 (.tmp 69) ⟨go, 10, none⟩ (.int .i64 xi.left) rfl (hD 2 69 (by kernel_rfl)) (by rw [(HO16.out.kept hk).cell]; rfl)) ?_
    refine sv 5 rfl rfl rfl (fun a u hE hD hk => exec_fldo 39 1 9 (.tmp 9) (b9) (0) (9) rfl (hE 9 (.pointer (some ⟨b9, 0, none⟩)) (by kernel_rfl) (by kernel_rfl)) (by kernel_rfl) rfl) ?_
    refine sv 6 rfl rfl rfl (fun a u hE hD hk => exec_loadi 3 Try.underlying3 (.tmp 71) ⟨b9, 9, none⟩ (.int .i64 h.n) rfl (hD 4 71 (by kernel_rfl)) (range_int (range_kept HR916.out hk) 9 _ rfl)) ?_
    refine sv 7 rfl rfl rfl (fun a u hE hD hk => exec_subn (xi.left - h.n) (p := xi.left) (q := h.n) rfl (hD 3 70 (by kernel_rfl)) (hD 5 72 (by kernel_rfl)) rfl (by omega) (by omega)) ?_
    exact fsteps_nil
   intro gv w17 hV k17
   rw [show dstsOf _ 7 = [67, 68, 69, 70, 71, 72, 73] by kernel_rfl]
   simp only [fC, fN, sA, sS, sZ, dS, dZ]
   rw [show gv 67 = .pointer (some ⟨go, 0, none⟩) from hV 0 67 (by kernel_rfl)]
   rw [show gv 73 = .int .i64 (xi.left - h.n) from hV 6 73 (by kernel_rfl)]
   clear hV
   refine l_val (o := ⟨some 74, _, _, _, _, _⟩) (.pointer (some ⟨go, 0, none⟩)) rfl (exec_nilp (.tmp 67) ⟨go, 0, none⟩ rfl (by kernel_rfl)) ?_
   simp only [Act.put, sA, sS, sZ]
   refine l_val (o := ⟨some 75, _, _, _, _, _⟩) (.pointer (some ⟨go, 10, none⟩)) rfl (exec_fldo 29 2 10 (.tmp 74) (go) (0) (10) rfl (by kernel_rfl) (by kernel_rfl) rfl) ?_
   simp only [Act.put, sA, sS, sZ]
   refine l_st1 (o := ⟨none, _, _, _, _, _⟩) 3 go 10 29 _ (.int .i64 (xi.left - h.n)) (.tmp 75) (.tmp 73) rfl rfl (by kernel_rfl) (by kernel_rfl) (by kernel_rfl) rfl rfl (HO16.out.kept k17) (by rw [Oc.len15]; omega) ?_
   intro w18 hO18 hk18 hs18
   simp only [Act.put]
   refine wpList_nil ?_
   rw [Oc.set_left] at hO18
   have HO18 : Hid (Blk w18 go 29 ((x.more pr no (H.take (i + 1))).cells vn)) := by
    show Blk _ _ _ _
    rw [HNX.out]
    exact hO18
   have HF18 : Hid (Sl w18 36 21 vn (x.more pr no (H.take (i + 1))).f.length (fls (x.more pr no (H.take (i + 1))).f)) := by
    show Sl _ _ _ _ _ _
    rw [HNX.out]
    simp only
    rw [List.length_append, fls_snoc, ← HXO.out]
    exact (HF16.out.kept k17).keep hk18 (fun b hb e => (HVN1.out b hb).1 e)
   have HP18 : Hid (Blk w18 p 75 (sideCs s v u0 (lastOf last (fillsOf x.o pr no x.left (H.take (i + 1)))) (no + ((i + 1 : Nat) : Int)))) := by
    show Blk _ _ _ _
    rw [HNF.out, show no + ((i + 1 : Nat) : Int) = no + (i : Int) + 1 by omega]
    exact (HP16.out.kept k17).keep hk18 (fun e => hgp e.symm)
   have KW18 : Keep (fun b => b = go ∨ b = p ∨ vf.ownBlock = some b) w w18 := (KW16.kept k17).trans hk18 (fun b _ e => .inl e)
   clear hO18 hk18 hs18 HO16 HF16 HP16 KW16 k17 HR916 hxj HNX HNF
   go_wp2
   exact ⟨⟨i + 1, vn, by omega, by go_num, HO18, HF18, HP18, HVN2, KW18⟩, by simp [intOf]; omega⟩
  ·have hin : i = n := by omega
   subst hin
   have HT : Hid (H.take i = H) := by show _ = _; exact List.take_of_length_le (by rw [HN.out]; omega)
   have HR : Hid (TradeIn w go p s v u0 vf last no pr x H (.returned (.tuple #[])) wr) := by
    rw [HT.out] at HOr HFr HBr
    exact ⟨vv, rfl, HOr.out, HFr.out, by rw [HN.out]; exact HBr.out, hkr, HGr.out⟩
   clear HOr HFr HBr HGr
   go_wp2
   go_end0
   exact HR.out
def Rejoin3 (w : World) (F : Nat → Prop) (p : Nat) (B : Bok) (s : Int) (u : Value) (Fs : Nat → Prop) : Prop :=
 ∀ (w' : World) (v' : Value) (L' : List Lev) (Fs' : Nat → Prop) (last no : Int) (S : Nat → Prop), Keep S w w' → (∀ b, F b → S b → Fs b ∨ b = p) → Blk w' p 75 (sideCs s v' u last no) → Way 110 112 97 w' Fs' v' L' → Grow w Fs Fs' → ∃ F', Bk w' F' p (B.to s L' last no) ∧ Grow w F F' ∧ ∀ b, F' b ↔ F b ∨ Fs' b
theorem Bk.open3 {w : World} {F : Nat → Prop} {p : Nat} {B : Bok} (h : Bk w F p B) {s : Int} (hs : s = 1 ∨ s = 2) :
  ∃ v u Z G Fs, levs Z = B.sd s ∧ WayZ 110 112 97 w Fs v Z G ∧ Blk w p 75 (sideCs s v u B.last B.no) ∧ (∀ b, Fs b → F b ∧ b ≠ p) ∧ F p ∧ (∀ b, F b → b < w.heap.size) ∧ Rejoin3 w F p B s u Fs := by
 obtain ⟨h1, h2, v1, v2, F1, F2, hB, hW1, hW2, h3, h4⟩ := h
 have hpl := h2 p h1
 rcases hs with rfl | rfl
 ·obtain ⟨Z, G, e, hz⟩ := hW1
  refine ⟨v1, v2, Z, G, F1, e, hz, hB, fun b hb => ⟨(h3 b hb).1, (h3 b hb).2.1⟩, h1, h2, ?_⟩
  intro w' v' L' Fs' last no S hk hS hB' hW' hG
  have hlt := hW'.lt
  refine ⟨fun b => F b ∨ Fs' b, ⟨.inl h1, fun b hb => hb.elim (fun h => Nat.lt_of_lt_of_le (h2 b h) hk.size) (hlt b), v', v2, Fs', F2, hB', hW', hW2.keep hk (fun b hb h => (hS b (h4 b hb).1 h).elim (fun h => (h3 b h).2.2 hb) (fun h => (h4 b hb).2 h)), fun b hb => ?_, fun b hb => ⟨.inl (h4 b hb).1, (h4 b hb).2⟩⟩, fun b hb => hb.elim .inl (fun h => (hG b h).imp (fun h => (h3 b h).1) id), fun b => Iff.rfl⟩
  refine ⟨.inr hb, ?_, ?_⟩
  ·rcases hG b hb with h | h
   ·exact (h3 b h).2.1
   ·omega
  ·rcases hG b hb with h | h
   ·exact (h3 b h).2.2
   ·intro h'
    have := h2 b (h4 b h').1
    omega
 ·obtain ⟨Z, G, e, hz⟩ := hW2
  refine ⟨v2, v1, Z, G, F2, e, hz, hB, h4, h1, h2, ?_⟩
  intro w' v' L' Fs' last no S hk hS hB' hW' hG
  have hlt := hW'.lt
  refine ⟨fun b => F b ∨ Fs' b, ⟨.inl h1, fun b hb => hb.elim (fun h => Nat.lt_of_lt_of_le (h2 b h) hk.size) (hlt b), v1, v', F1, Fs', hB', hW1.keep hk (fun b hb h => (hS b (h3 b hb).1 h).elim (fun h => (h3 b hb).2.2 h) (fun h => (h3 b hb).2.1 h)), hW', fun b hb => ⟨.inl (h3 b hb).1, (h3 b hb).2.1, fun h' => ?_⟩, fun b hb => ⟨.inr hb, ?_⟩⟩, fun b hb => hb.elim .inl (fun h => (hG b h).imp (fun h => (h4 b h).1) id), fun b => Iff.rfl⟩
  ·rcases hG b h' with h | h
   ·exact (h3 b hb).2.2 h
   ·have := h2 b (h3 b hb).1
    omega
  ·rcases hG b hb with h | h
   ·exact (h4 b h).2
   ·omega
theorem match_zero {o : Ord} {no q : Int} (h : q ≤ 0) : ∀ (L : List Lev), matchM o no q L = ⟨[], q, false, L⟩
 | [] => rfl
 | l :: R => by rw [matchM, if_neg (fun h' => by omega)]
def roundM (o : Ord) (no q : Int) (l : Lev) (R : List Lev) : Mt :=
 if (takeM o.firm q l.2).2.1 = true then ⟨[], q - seenM (takeM o.firm q l.2).1, true, dropE [] R (l.1, (takeM o.firm q l.2).2.2)⟩ else matchM o (no + (takeM o.firm q l.2).1.length) (q - seenM (takeM o.firm q l.2).1) (dropE [] R (l.1, (takeM o.firm q l.2).2.2))
theorem match_round {s : Int} {o : Ord} {no q : Int} {l : Lev} {R : List Lev} (hL : Sid s (l :: R)) (hq : 0 < q) (hc : o.crosses l.1 = true) :
  matchM o no q (l :: R) = ⟨fillsOf o l.1 no q (takeM o.firm q l.2).1 ++ (roundM o no q l R).f, (roundM o no q l R).left, (roundM o no q l R).self, (roundM o no q l R).L⟩ := by
 obtain ⟨hg, hy⟩ := hL.good (l := l) (by simp)
 obtain ⟨u1, u2, u3⟩ := takeM_end o.firm _ q l.2 (Nat.le_refl _) (by omega) hg hy
 rw [matchM, if_pos ⟨hq, hc⟩]
 unfold roundM dropE
 generalize takeM o.firm q l.2 = t at *
 obtain ⟨H, b, X⟩ := t
 simp only at *
 by_cases he : X.isEmpty = true
 ·rw [if_pos he, if_pos he]
  have he' : X = [] := by simpa using he
  subst he'
  have hb : b = false := by
   cases b with
   | false => rfl
   | true => obtain ⟨e, E, q1, _⟩ := u2 rfl; cases q1
  subst hb
  simp
 ·rw [if_neg he, if_neg he]
  cases b with
  | true => simp
  | false =>
   rcases u3 rfl with q1 | q1
   ·rw [if_neg (by simp), match_zero (by omega)]
    simp
   ·rw [q1] at he; exact absurd rfl he
structure RoundIs (s : Int) (o : Ord) (q : Int) (l : Lev) (R : List Lev) (t : List Ent × Bool × List Ent) : Prop where
 sid : Sid s (dropE [] R (l.1, t.2.2))
 pos : ∀ h ∈ t.1, 1 ≤ h.n
 sum : seenM t.1 ≤ q
 len : (t.1.length : Int) ≤ seenM t.1
 prog : t.2.1 = true ∨ 1 ≤ seenM t.1
 few : t.2.2.length ≤ 64
theorem round_is {s : Int} {o : Ord} {q : Int} {l : Lev} {R : List Lev} (hL : Sid s (l :: R)) (hq : 0 < q) : RoundIs s o q l R (takeM o.firm q l.2) := by
 obtain ⟨hg, hy⟩ := hL.good (l := l) (by simp)
 obtain ⟨t1, t2, t3, t4, t5⟩ := takeM_facts o.firm _ q l.2 (Nat.le_refl _) hg
 obtain ⟨u1, u2, u3⟩ := takeM_end o.firm _ q l.2 (Nat.le_refl _) (by omega) hg hy
 have hle := take_len o.firm q l.2
 have h64 : l.2.length ≤ 64 := by
  have := hL.few
  rw [entL_cons, List.length_append] at this
  omega
 refine ⟨?_, fun h hh => (t3 h hh).1, t5 (by omega), t4, ?_, by omega⟩
 ·unfold dropE
  split
  ·exact hL.tail
  ·rename_i he
   exact hL.with_ (by simpa using he) (take_at o.firm q (hL.at_ l (by simp))).1 hle (take_fresh o.firm q (hL.fr l (by simp)))
 ·cases hb : (takeM o.firm q l.2).2.1 with
  | true => exact .inl rfl
  | false =>
   right
   rcases u3 hb with q1 | q1
   ·omega
   ·rw [q1] at t2
    have h1 := whole_ge hg.ok
    have h2 := List.length_pos_iff.2 (hL.ne l (by simp))
    rw [show wholeM ([] : List Ent) = 0 from rfl] at t2
    omega
def mOut (bo : Nat) (w : World) : Nat := match w.cell? ⟨bo, 10, none⟩, w.cell? ⟨bo, 13, none⟩ with
 | some (.int _ l), some (.bool b) => 2 * l.toNat + (if b = true then 0 else 1)
 | _, _ => 0
theorem mOut_is {w : World} {bo : Nat} {x : Oc} {v : Value} {T : TypeId} (h : Blk w bo T (x.cells v)) : mOut bo w = 2 * x.left.toNat + (if x.self = true then 0 else 1) := by
 unfold mOut
 rw [h.cell, h.cell]
 rfl
def MatchIn (w : World) (F : Nat → Prop) (p : Nat) (B : Bok) (o : Ord) (m : Mt) (r : Ending) (w' : World) : Prop :=
 ∃ F' vf, r = .returned ((Oc.mk o m.f m.left false m.self 0).v vf) ∧ Bk w' F' p (B.to (3 - o.side) m.L (lastOf B.last m.f) (B.no + m.f.length)) ∧ Sl w' 36 21 vf m.f.length (fls m.f) ∧ (∀ b, vf.ownBlock = some b → w.heap.size ≤ b ∧ ¬ F' b) ∧ Grow w F F' ∧ Keep F w w'
theorem built_oc (o : Ord) (n : Int) : Try.prog.built 29 [(0, o.v), (2, .int .i64 n)] = some ((Oc.mk o [] n false false 0).cells (.slice none 0 0)).toArray := by kernel_rfl
set_option maxRecDepth 100000 in
set_option maxHeartbeats 3200000 in
theorem match_any (w : World) (F : Nat → Prop) (p : Nat) (B : Bok) (o : Ord) (h : Bk w F p B) (hI : Inv B) (hs : o.side = 1 ∨ o.side = 2) (hq : 1 ≤ o.qty ∧ o.qty ≤ 1048576) (hn : B.no ≤ 1000000000000) :
  Calls Try.prog 40 #[.pointer (some ⟨p, 0, none⟩), o.v] w (MatchIn w F p B o (B.matched o)) := by
 have hSid : Sid (3 - o.side) (B.sd (3 - o.side)) := (hI.side hs).theirs
 have hno0 := hI.no0
 have HSD := Lib.hid hSid
 have hFl := h.lt
 have HK := Lib.hid h
 have hpF := h.1
 obtain ⟨s, hse⟩ : ∃ s, 3 - o.side = s := ⟨_, rfl⟩
 have HSE := Lib.hid hse
 have HSO := Lib.hid hs
 have hs : s = 1 ∨ s = 2 := by omega
 rw [hse] at HSD
 clear hSid h hI hse
 go_enter Try.func40, Try.ntmps40
 go_upto_region 0 with fail
 refine wp_text 2 [.fresh w.heap.size 25 (o.cells), .fresh w.heap.size 29 (zeroC.cells (.slice none 0 0))] rfl (by kernel_rfl) ?_ ?_
 ·refine fsteps_cons 1 rfl (fun a u hE hD hk => f_new (o := ⟨some 3, _, _, _, _, _⟩) (.pointer (some ⟨u.heap.size, 0, none⟩)) _ rfl (wanted_none rfl _) (exec_box 25 (.tmp 1) (o.cells) rfl (hE 1 (o.v) (by kernel_rfl) (by kernel_rfl))) ⟨_, rfl, hk.size, Blk.new u _ _⟩ ((Keep.refl _ u).alloc _)) ?_
  refine fsteps_cons 2 rfl (fun a u hE hD hk => f_new (o := ⟨some 4, _, _, _, _, _⟩) (.pointer (some ⟨u.heap.size, 0, none⟩)) _ rfl (wanted_none rfl _) (exec_alc 29 (zeroC.cells (.slice none 0 0)) rfl zC) ⟨_, rfl, hk.size, Blk.new u _ _⟩ ((Keep.refl _ u).alloc _)) ?_
  exact fsteps_nil
 intro gv wa hV ka
 rw [show dstsOf _ 2 = [3, 4] by kernel_rfl]
 simp only [fC, fN, sA, sS, sZ, dS, dZ]
 have hv3 : (.fresh w.heap.size 25 (o.cells) : Kn).p (gv 3) wa := hV 0 3 (by kernel_rfl)
 generalize gv 3 = v3 at hv3 ⊢
 have hv4 : (.fresh w.heap.size 29 (zeroC.cells (.slice none 0 0)) : Kn).p (gv 4) wa := hV 1 4 (by kernel_rfl)
 generalize gv 4 = v4 at hv4 ⊢
 clear hV
 obtain ⟨bi, rfl, hbi, hBi⟩ := hv3
 obtain ⟨b4, rfl, hb4, hB4⟩ := hv4
 refine wpList_nil ?_
 have HIa := Lib.hid (blk_range hBi)
 have HB4a := Lib.hid hB4
 have l4 := hB4.lt
 have li := hBi.lt
 clear hBi hB4
 go_upto_region 1 with fail
 refine wp_text 5 [.eq (o.v), .eq (.pointer (some ⟨bi, 6, none⟩)), .eq (.int .i64 o.qty), .eq ((Oc.mk o [] o.qty false false 0).v (.slice none 0 0)), .fresh wa.heap.size 29 (zeroC.cells (.slice none 0 0))] rfl (by kernel_rfl) ?_ ?_
 ·refine sv 1 rfl rfl rfl (fun a u hE hD hk => exec_ldS 25 _ (.tmp 3) (bi) (0) (o.cells) rfl (hE 3 (.pointer (some ⟨bi, 0, none⟩)) (by kernel_rfl) (by kernel_rfl)) (range_kept HIa.out hk) Try.underlying25 (by rw [o.len9]; exact ord_size)) ?_
  refine sv 2 rfl rfl rfl (fun a u hE hD hk => exec_fldo 25 6 6 (.tmp 3) (bi) (0) (6) rfl (hE 3 (.pointer (some ⟨bi, 0, none⟩)) (by kernel_rfl) (by kernel_rfl)) (by kernel_rfl) rfl) ?_
  refine sv 3 rfl rfl rfl (fun a u hE hD hk => exec_loadi 3 Try.underlying3 (.tmp 11) ⟨bi, 6, none⟩ (.int .i64 o.qty) rfl (hD 1 11 (by kernel_rfl)) (range_int (range_kept HIa.out hk) 6 _ rfl)) ?_
  refine sv 4 rfl rfl rfl (fun a u hE hD hk => exec_build _ [(0, .tmp 10), (2, .tmp 12)] ((Oc.mk o [] o.qty false false 0).cells (.slice none 0 0)) rfl (by simp only [List.map_cons, List.map_nil]; rw [show a.eval (.tmp 10) = o.v from (hD 0 10 (by kernel_rfl)), show a.eval (.tmp 12) = .int .i64 o.qty from (hD 2 12 (by kernel_rfl))]; exact built_oc o o.qty)) ?_
  refine fsteps_cons 5 rfl (fun a u hE hD hk => f_new (o := ⟨some 5, _, _, _, _, _⟩) (.pointer (some ⟨u.heap.size, 0, none⟩)) _ rfl (wanted_none rfl _) (exec_alc 29 (zeroC.cells (.slice none 0 0)) rfl zC) ⟨_, rfl, hk.size, Blk.new u _ _⟩ ((Keep.refl _ u).alloc _)) ?_
  exact fsteps_nil
 intro gv wb hV kb
 rw [show dstsOf _ 5 = [10, 11, 12, 13, 5] by kernel_rfl]
 simp only [fC, fN, sA, sS, sZ, dS, dZ]
 have hv5 : (.fresh wa.heap.size 29 (zeroC.cells (.slice none 0 0)) : Kn).p (gv 5) wb := hV 4 5 (by kernel_rfl)
 generalize gv 5 = v5 at hv5 ⊢
 rw [show gv 13 = (Oc.mk o [] o.qty false false 0).v (.slice none 0 0) from hV 3 13 (by kernel_rfl)]
 clear hV
 obtain ⟨bo, rfl, hbo, hBo⟩ := hv5
 refine l_setS (o := ⟨none, _, _, _, _, _⟩) 29 bo 29 (zeroC.cells (.slice none 0 0)) ((Oc.mk o [] o.qty false false 0).cells (.slice none 0 0)) (.tmp 5) (.tmp 13) rfl rfl (by kernel_rfl) (by kernel_rfl) hBo (by rw [Oc.len15]; exact szC) (by rw [Oc.len15, Oc.len15]) (Oc.one _ _ rfl) ?_
 intro wc hBc hkc hsc
 simp only [Act.put]
 refine wpList_nil ?_
 have kac : Kept wa wc := kb.trans' hkc (by omega)
 have HOc := Lib.hid hBc
 have lo := hBc.lt
 have HIc := Lib.hid (range_kept HIa.out kac)
 have HB4c := Lib.hid (HB4a.out.kept kac)
 clear hBo hBc hkc hsc kb HIa HB4a
 have kwc := ka.trans kac
 clear ka kac
 go_upto_region 2 with fail
 refine wp_text 4 [.eq (.pointer (some ⟨p, 0, none⟩)), .eq (o.v), .eq (.pointer (some ⟨p, offS s, none⟩)), .eq (.pointer (some ⟨p, offS s, none⟩))] rfl (by kernel_rfl) ?_ ?_
 ·refine sv 1 rfl rfl rfl (fun a u hE hD hk => exec_move (.tmp 0) _ rfl (hE 0 (.pointer (some ⟨p, 0, none⟩)) (by kernel_rfl) (by kernel_rfl))) ?_
  refine sv 2 rfl rfl rfl (fun a u hE hD hk => exec_ldS 25 _ (.tmp 3) (bi) (0) (o.cells) rfl (hE 3 (.pointer (some ⟨bi, 0, none⟩)) (by kernel_rfl) (by kernel_rfl)) (range_kept HIc.out hk) Try.underlying25 (by rw [o.len9]; exact ord_size)) ?_
  refine fsteps_cons 3 rfl (fun a u hE hD hk => f_call (o := ⟨some 16, _, _, _, _, _⟩) 63 #[.pointer (some ⟨p, 0, none⟩), o.v] rfl (wanted_none rfl _) (exec_call 63 _ [.tmp 14, .tmp 15] _ [.pointer (some ⟨p, 0, none⟩), o.v] Try.func63 (by kernel_rfl) (by kernel_rfl) rfl (show [a.eval (.tmp 14), a.eval (.tmp 15)] = [.pointer (some ⟨p, 0, none⟩), o.v] from (by rw [show a.eval (.tmp 14) = .pointer (some ⟨p, 0, none⟩) from (hD 0 14 (by kernel_rfl)), show a.eval (.tmp 15) = o.v from (hD 1 15 (by kernel_rfl))] <;> rfl)) u) ((by have h := against_any u p o HSO.out; rw [HSE.out] at h; exact h))) ?_
  refine sv 4 rfl rfl rfl (fun a u hE hD hk => exec_assign (.tmp 16) _ rfl (hD 2 16 (by kernel_rfl))) ?_
  exact fsteps_nil
 intro gv w1 hV kd
 rw [show dstsOf _ 4 = [14, 15, 16, 6] by kernel_rfl]
 simp only [fC, fN, sA, sS, sZ, dS, dZ]
 rw [show gv 6 = .pointer (some ⟨p, offS s, none⟩) from hV 3 6 (by kernel_rfl)]
 clear hV
 refine wpList_nil ?_
 have k1 := kwc.trans kd
 have HI := Lib.hid (range_kept HIc.out kd)
 have HB4 := Lib.hid (HB4c.out.kept kd)
 have HO1 := Lib.hid (HOc.out.kept kd)
 have HK1 := Lib.hid (HK.out.kept k1)
 have zd := kd.size
 have z1 := k1.size
 have hFl1 : ∀ b, F b → b < w1.heap.size := fun b hb => Nat.lt_of_lt_of_le (hFl b hb) z1
 have h4F : ¬ F b4 := fun e => by have := hFl b4 e; omega
 have hoF : ¬ F bo := fun e => by have := hFl bo e; omega
 have hiF : ¬ F bi := fun e => by have := hFl bi e; omega
 have h4o : b4 ≠ bo := by omega
 have hio : bi ≠ bo := by omega
 clear HIc HB4c HOc HK kd kwc
 go_wp2_with fail
 go_loopw [7] (fun _ wr => ∃ (L : List Lev) (last no left : Int) (self : Bool) (fs : List Fl) (Fc : Nat → Prop) (vf : Value), Hid (Bk wr Fc p (B.to s L last no)) ∧ Hid (Blk wr bo 29 ((Oc.mk o fs left false self 0).cells vf)) ∧ Hid (Sl wr 36 21 vf fs.length (fls fs)) ∧ Hid (∀ b, vf.ownBlock = some b → w1.heap.size ≤ b ∧ ¬ Fc b ∧ b ≠ bo) ∧ Hid (Grow w1 F Fc) ∧ Keep (fun b => F b ∨ b = bo) w1 wr ∧ Hid (Sid s L) ∧ Hid (last = lastOf B.last fs ∧ no = B.no + fs.length) ∧ (0 ≤ left ∧ (fs.length : Int) + left ≤ o.qty) ∧ Hid (B.matched o = ⟨fs ++ (if self = true then Mt.mk [] left true L else matchM o no left L).f, (if self = true then Mt.mk [] left true L else matchM o no left L).left, (if self = true then Mt.mk [] left true L else matchM o no left L).self, (if self = true then Mt.mk [] left true L else matchM o no left L).L⟩)) (fun _ wr => mOut bo wr)
 case atStart =>
  refine ⟨B.sd s, B.last, B.no, o.qty, false, [], F, .slice none 0 0, by show Bk _ _ _ _; rw [Bok.to_self hs]; exact HK1.out, HO1.out, Sl.nil _ _ _, fun b hb => by simp [Value.ownBlock] at hb, Grow.refl _ _, Keep.refl _ _, HSD.out, ⟨rfl, by simp⟩, ⟨by omega, by simp⟩, ?_⟩
  show _ = _
  unfold Bok.matched
  rw [HSE.out]
  simp
 case round =>
  obtain ⟨L, last, no, left, self, fs, Fc, vf, HBr, HOr, HVr, HVn, HGr, hkr, HSr, HLN, hlf, HM⟩ := hrel
  have HIr := Lib.hid (range_keep HI.out hkr (fun e => e.elim hiF hio))
  have hL64 : L.length ≤ 1000 := by have := HSr.out.ok.len; omega
  have zr := hkr.size
  have hmo := mOut_is HOr.out
  by_cases hl0 : 0 < left
  ·by_cases hsf : self = true
   ·skip
    have HFIN : Hid (B.matched o = ⟨fs, left, self, L⟩) := by show _ = _; rw [HM.out, hsf]; simp
    clear HM
    go_upto_region 3 with fail
    refine wp_text 13 [.eq (.pointer (some ⟨bo, 10, none⟩)), .eq (.int .i64 (Oc.mk o fs left false self 0).left), .eq (.bool true), .eq (.bool true), .eq (.pointer (some ⟨bo, 13, none⟩)), .eq (.bool (Oc.mk o fs left false self 0).self), .eq (.bool false), .eq (.bool false), .eq (.bool false), .eq undef, .eq undef, .eq undef, .eq (.bool false)] rfl (by kernel_rfl) ?_ ?_
    ·refine sv 1 rfl rfl rfl (fun a u hE hD hk => exec_fldo 29 2 10 (.tmp 5) (bo) (0) (10) rfl (hE 5 (.pointer (some ⟨bo, 0, none⟩)) (by kernel_rfl) (by kernel_rfl)) (by kernel_rfl) rfl) ?_
     refine sv 2 rfl rfl rfl (fun a u hE hD hk => exec_loadi 3 Try.underlying3 (.tmp 17) ⟨bo, 10, none⟩ (.int .i64 (Oc.mk o fs left false self 0).left) rfl (hD 0 17 (by kernel_rfl)) (by rw [(HOr.out.kept hk).cell]; rfl)) ?_
     refine fsteps_cons 3 rfl (fun a u hE hD hk => f_as (show ((decide ((0 : Int) < ((Oc.mk o fs left false self 0).left : Int))) : Bool) = true from decide_eq_true hl0) (f_val (o := ⟨some 19, _, _, _, _, _⟩) (.bool (decide ((0 : Int) < ((Oc.mk o fs left false self 0).left : Int)))) rfl (wanted_none rfl _) (exec_gtn (p := (Oc.mk o fs left false self 0).left) (q := 0) rfl (hD 1 18 (by kernel_rfl)) rfl) rfl)) ?_
     refine sv 4 rfl rfl rfl (fun a u hE hD hk => exec_move (.tmp 19) _ rfl (hD 2 19 (by kernel_rfl))) ?_
     refine fsteps_cons 5 rfl (fun a u hE hD hk => f_val (o := ⟨some 21, _, _, _, _, _⟩) (.pointer (some ⟨bo, 13, none⟩)) rfl (wanted_at (b := true) true rfl rfl (hD 3 20 (by kernel_rfl))) (exec_fldo 29 5 13 (.tmp 5) (bo) (0) (13) rfl (hE 5 (.pointer (some ⟨bo, 0, none⟩)) (by kernel_rfl) (by kernel_rfl)) (by kernel_rfl) rfl) rfl) ?_
     refine fsteps_cons 6 rfl (fun a u hE hD hk => f_val (o := ⟨some 22, _, _, _, _, _⟩) (.bool (Oc.mk o fs left false self 0).self) rfl (wanted_at (b := true) true rfl rfl (hD 3 20 (by kernel_rfl))) (exec_ldb 4 Try.underlying4 (.tmp 21) ⟨bo, 13, none⟩ (.bool (Oc.mk o fs left false self 0).self) rfl (hD 4 21 (by kernel_rfl)) (by rw [(HOr.out.kept hk).cell]; rfl)) rfl) ?_
     refine fsteps_cons 7 rfl (fun a u hE hD hk => f_as (show ((!(Oc.mk o fs left false self 0).self) : Bool) = false from (by rw [hsf]; rfl)) (f_val (o := ⟨some 23, _, _, _, _, _⟩) (.bool (!(Oc.mk o fs left false self 0).self)) rfl (wanted_at (b := true) true rfl rfl (hD 3 20 (by kernel_rfl))) (exec_not _ (.tmp 22) (Oc.mk o fs left false self 0).self rfl (hD 5 22 (by kernel_rfl))) rfl)) ?_
     refine sv 8 rfl rfl rfl (fun a u hE hD hk => exec_pick (.tmp 20) (.tmp 23) (.const (.bool false)) (.bool false) rfl (hD 3 20 (by kernel_rfl)) (hD 6 23 (by kernel_rfl))) ?_
     refine sv 9 rfl rfl rfl (fun a u hE hD hk => exec_move (.tmp 24) _ rfl (hD 7 24 (by kernel_rfl))) ?_
     refine fsteps_cons 10 rfl (fun a u hE hD hk => f_skip (o := ⟨some 26, _, _, _, _, _⟩) rfl (wanted_at (b := true) false rfl rfl (hD 8 25 (by kernel_rfl))) rfl) ?_
     refine fsteps_cons 11 rfl (fun a u hE hD hk => f_skip (o := ⟨some 27, _, _, _, _, _⟩) rfl (wanted_at (b := true) false rfl rfl (hD 8 25 (by kernel_rfl))) rfl) ?_
     refine fsteps_cons 12 rfl (fun a u hE hD hk => f_skip (o := ⟨some 28, _, _, _, _, _⟩) rfl (wanted_at (b := true) false rfl rfl (hD 8 25 (by kernel_rfl))) rfl) ?_
     refine sv 13 rfl rfl rfl (fun a u hE hD hk => exec_pickF (.tmp 25) (.tmp 28) (.const (.bool false)) (.bool false) rfl (hD 8 25 (by kernel_rfl)) rfl) ?_
     exact fsteps_nil
    intro gv wq hV kq
    rw [show dstsOf _ 13 = [17, 18, 19, 20, 21, 22, 23, 24, 25, 26, 27, 28, 29] by kernel_rfl]
    simp only [fC, fN, sA, sS, sZ, dS, dZ]
    rw [show gv 29 = .bool false from hV 12 29 (by kernel_rfl)]
    clear hV
    refine wpList_nil ?_
    clear hsf
    have kwq := hkr.kept kq
    have HB4q := Lib.hid (HB4.out.keep kwq (fun e => e.elim h4F (fun e => h4o e)))
    have HOq := Lib.hid (HOr.out.kept kq)
    have HBq := Lib.hid (HBr.out.kept kq)
    have HVq := Lib.hid (HVr.out.kept kq)
    go_upto_region 9 with fail
    refine wp_text 1 [.eq ((Oc.mk o fs left false self 0).v vf)] rfl (by kernel_rfl) ?_ ?_
    ·refine sv 1 rfl rfl rfl (fun a u hE hD hk => exec_ldS 29 _ (.tmp 5) bo 0 ((Oc.mk o fs left false self 0).cells vf) rfl (hE 5 (.pointer (some ⟨bo, 0, none⟩)) (by kernel_rfl) (by kernel_rfl)) (blk_range (HOq.out.kept hk)) Try.underlying29 (by rw [Oc.len15]; exact szC)) ?_
     exact fsteps_nil
    intro gv wy hV ky
    rw [show dstsOf _ 1 = [54] by kernel_rfl]
    simp only [fC, fN, sA, sS, sZ, dS, dZ]
    rw [show gv 54 = (Oc.mk o fs left false self 0).v vf from hV 0 54 (by kernel_rfl)]
    clear hV
    refine l_setS (o := ⟨none, _, _, _, _, _⟩) 29 b4 29 (zeroC.cells (.slice none 0 0)) ((Oc.mk o fs left false self 0).cells vf) (.tmp 4) (.tmp 54) rfl rfl (by kernel_rfl) (by kernel_rfl) (HB4q.out.kept ky) (by rw [Oc.len15]; exact szC) (by rw [Oc.len15, Oc.len15]) (Oc.one _ _ (sl_onec HVq.out)) ?_
    intro wx hBx hkx hsx
    simp only [Act.put]
    refine wpList_nil ?_
    go_wp2
    refine bodyPost_ret (results_cell (p := 4) rfl _ _ b4 _ ((Oc.mk o fs left false self 0).cells vf) rfl hBx Try.underlying29 (by rw [Oc.len15]; exact szC)) rfl ?_
    rw [HFIN.out]
    unfold MatchIn
    rw [HSE.out]
    have hx4 : ¬ Fc b4 := fun e => (HGr.out b4 e).elim h4F (fun e => by omega)
    have hv4 : ∀ b, vf.ownBlock = some b → b ≠ b4 := fun b hb e => by have := (HVn.out b hb).1; omega
    have zq := kq.size
    have zy := ky.size
    have hlast := HLN.out
    refine ⟨Fc, vf, rfl, ?_, ?_, fun b hb => ⟨by have := (HVn.out b hb).1; omega, (HVn.out b hb).2.1⟩, fun b hb => (HGr.out b hb).imp id (fun h => by omega), ?_⟩
    ·have h1 := ((HBq.out.kept ky).keep hkx (fun b hb e => hx4 (by rw [← e]; exact hb)))
     rw [hlast.1, hlast.2] at h1
     exact h1
    ·exact (HVq.out.kept ky).keep hkx (fun b hb e => hv4 b hb e)
    ·exact ((Keep.any k1 kwq).mono (fun b hb e => e.elim id (fun e => by omega))).kept ky |>.trans hkx (fun b hb e => by omega)
   ·have hsf : self = false := by simpa using hsf
    cases hmt : o.meets L with
    | false =>
     have HCR := Lib.hid hmt
     have HFIN : Hid (B.matched o = ⟨fs, left, self, L⟩) := by show _ = _; rw [HM.out, hsf, match_none hmt]; simp
     clear HM hmt
     go_upto_region 3 with fail
     refine wp_text 13 [.eq (.pointer (some ⟨bo, 10, none⟩)), .eq (.int .i64 (Oc.mk o fs left false self 0).left), .eq (.bool true), .eq (.bool true), .eq (.pointer (some ⟨bo, 13, none⟩)), .eq (.bool (Oc.mk o fs left false self 0).self), .eq (.bool true), .eq (.bool true), .eq (.bool true), .eq (.pointer (some ⟨p, offS s, none⟩)), .eq (o.v), .eq (.bool false), .eq (.bool false)] rfl (by kernel_rfl) ?_ ?_
     ·refine sv 1 rfl rfl rfl (fun a u hE hD hk => exec_fldo 29 2 10 (.tmp 5) (bo) (0) (10) rfl (hE 5 (.pointer (some ⟨bo, 0, none⟩)) (by kernel_rfl) (by kernel_rfl)) (by kernel_rfl) rfl) ?_
      refine sv 2 rfl rfl rfl (fun a u hE hD hk => exec_loadi 3 Try.underlying3 (.tmp 17) ⟨bo, 10, none⟩ (.int .i64 (Oc.mk o fs left false self 0).left) rfl (hD 0 17 (by kernel_rfl)) (by rw [(HOr.out.kept hk).cell]; rfl)) ?_
      refine fsteps_cons 3 rfl (fun a u hE hD hk => f_as (show ((decide ((0 : Int) < ((Oc.mk o fs left false self 0).left : Int))) : Bool) = true from decide_eq_true hl0) (f_val (o := ⟨some 19, _, _, _, _, _⟩) (.bool (decide ((0 : Int) < ((Oc.mk o fs left false self 0).left : Int)))) rfl (wanted_none rfl _) (exec_gtn (p := (Oc.mk o fs left false self 0).left) (q := 0) rfl (hD 1 18 (by kernel_rfl)) rfl) rfl)) ?_
      refine sv 4 rfl rfl rfl (fun a u hE hD hk => exec_move (.tmp 19) _ rfl (hD 2 19 (by kernel_rfl))) ?_
      refine fsteps_cons 5 rfl (fun a u hE hD hk => f_val (o := ⟨some 21, _, _, _, _, _⟩) (.pointer (some ⟨bo, 13, none⟩)) rfl (wanted_at (b := true) true rfl rfl (hD 3 20 (by kernel_rfl))) (exec_fldo 29 5 13 (.tmp 5) (bo) (0) (13) rfl (hE 5 (.pointer (some ⟨bo, 0, none⟩)) (by kernel_rfl) (by kernel_rfl)) (by kernel_rfl) rfl) rfl) ?_
      refine fsteps_cons 6 rfl (fun a u hE hD hk => f_val (o := ⟨some 22, _, _, _, _, _⟩) (.bool (Oc.mk o fs left false self 0).self) rfl (wanted_at (b := true) true rfl rfl (hD 3 20 (by kernel_rfl))) (exec_ldb 4 Try.underlying4 (.tmp 21) ⟨bo, 13, none⟩ (.bool (Oc.mk o fs left false self 0).self) rfl (hD 4 21 (by kernel_rfl)) (by rw [(HOr.out.kept hk).cell]; rfl)) rfl) ?_
      refine fsteps_cons 7 rfl (fun a u hE hD hk => f_as (show ((!(Oc.mk o fs left false self 0).self) : Bool) = true from (by rw [hsf]; rfl)) (f_val (o := ⟨some 23, _, _, _, _, _⟩) (.bool (!(Oc.mk o fs left false self 0).self)) rfl (wanted_at (b := true) true rfl rfl (hD 3 20 (by kernel_rfl))) (exec_not _ (.tmp 22) (Oc.mk o fs left false self 0).self rfl (hD 5 22 (by kernel_rfl))) rfl)) ?_
      refine sv 8 rfl rfl rfl (fun a u hE hD hk => exec_pick (.tmp 20) (.tmp 23) (.const (.bool false)) (.bool true) rfl (hD 3 20 (by kernel_rfl)) (hD 6 23 (by kernel_rfl))) ?_
      refine sv 9 rfl rfl rfl (fun a u hE hD hk => exec_move (.tmp 24) _ rfl (hD 7 24 (by kernel_rfl))) ?_
      refine fsteps_cons 10 rfl (fun a u hE hD hk => f_val (o := ⟨some 26, _, _, _, _, _⟩) (.pointer (some ⟨p, offS s, none⟩)) rfl (wanted_at (b := true) true rfl rfl (hD 8 25 (by kernel_rfl))) (exec_move (.tmp 6) _ rfl (hE 6 (.pointer (some ⟨p, offS s, none⟩)) (by kernel_rfl) (by kernel_rfl))) rfl) ?_
      refine fsteps_cons 11 rfl (fun a u hE hD hk => f_val (o := ⟨some 27, _, _, _, _, _⟩) (o.v) rfl (wanted_at (b := true) true rfl rfl (hD 8 25 (by kernel_rfl))) (exec_ldS 25 _ (.tmp 3) (bi) (0) (o.cells) rfl (hE 3 (.pointer (some ⟨bi, 0, none⟩)) (by kernel_rfl) (by kernel_rfl)) (range_kept HIr.out hk) Try.underlying25 (by rw [o.len9]; exact ord_size)) rfl) ?_
      refine fsteps_cons 12 rfl (fun a u hE hD hk => f_call (o := ⟨some 28, _, _, _, _, _⟩) 64 #[.pointer (some ⟨p, offS s, none⟩), o.v] rfl (wanted_at (b := true) true rfl rfl (hD 8 25 (by kernel_rfl))) (exec_call 64 _ [.tmp 26, .tmp 27] _ [.pointer (some ⟨p, offS s, none⟩), o.v] Try.func64 (by kernel_rfl) (by kernel_rfl) rfl (show [a.eval (.tmp 26), a.eval (.tmp 27)] = [.pointer (some ⟨p, offS s, none⟩), o.v] from (by rw [show a.eval (.tmp 26) = .pointer (some ⟨p, offS s, none⟩) from (hD 9 26 (by kernel_rfl)), show a.eval (.tmp 27) = o.v from (hD 10 27 (by kernel_rfl))] <;> rfl)) u) ((by obtain ⟨F', hLd⟩ := (HBr.out.kept hk).lad hs; rw [Bok.to_sd hs] at hLd; rw [← HCR.out]; exact crossed_any u F' p (offS s) s L o hLd hL64))) ?_
      refine sv 13 rfl rfl rfl (fun a u hE hD hk => exec_pick (.tmp 25) (.tmp 28) (.const (.bool false)) (.bool false) rfl (hD 8 25 (by kernel_rfl)) (hD 11 28 (by kernel_rfl))) ?_
      exact fsteps_nil
     intro gv wq hV kq
     rw [show dstsOf _ 13 = [17, 18, 19, 20, 21, 22, 23, 24, 25, 26, 27, 28, 29] by kernel_rfl]
     simp only [fC, fN, sA, sS, sZ, dS, dZ]
     rw [show gv 29 = .bool false from hV 12 29 (by kernel_rfl)]
     clear hV
     refine wpList_nil ?_
     clear hsf
     have kwq := hkr.kept kq
     have HB4q := Lib.hid (HB4.out.keep kwq (fun e => e.elim h4F (fun e => h4o e)))
     have HOq := Lib.hid (HOr.out.kept kq)
     have HBq := Lib.hid (HBr.out.kept kq)
     have HVq := Lib.hid (HVr.out.kept kq)
     go_upto_region 9 with fail
     refine wp_text 1 [.eq ((Oc.mk o fs left false self 0).v vf)] rfl (by kernel_rfl) ?_ ?_
     ·refine sv 1 rfl rfl rfl (fun a u hE hD hk => exec_ldS 29 _ (.tmp 5) bo 0 ((Oc.mk o fs left false self 0).cells vf) rfl (hE 5 (.pointer (some ⟨bo, 0, none⟩)) (by kernel_rfl) (by kernel_rfl)) (blk_range (HOq.out.kept hk)) Try.underlying29 (by rw [Oc.len15]; exact szC)) ?_
      exact fsteps_nil
     intro gv wy hV ky
     rw [show dstsOf _ 1 = [54] by kernel_rfl]
     simp only [fC, fN, sA, sS, sZ, dS, dZ]
     rw [show gv 54 = (Oc.mk o fs left false self 0).v vf from hV 0 54 (by kernel_rfl)]
     clear hV
     refine l_setS (o := ⟨none, _, _, _, _, _⟩) 29 b4 29 (zeroC.cells (.slice none 0 0)) ((Oc.mk o fs left false self 0).cells vf) (.tmp 4) (.tmp 54) rfl rfl (by kernel_rfl) (by kernel_rfl) (HB4q.out.kept ky) (by rw [Oc.len15]; exact szC) (by rw [Oc.len15, Oc.len15]) (Oc.one _ _ (sl_onec HVq.out)) ?_
     intro wx hBx hkx hsx
     simp only [Act.put]
     refine wpList_nil ?_
     go_wp2
     refine bodyPost_ret (results_cell (p := 4) rfl _ _ b4 _ ((Oc.mk o fs left false self 0).cells vf) rfl hBx Try.underlying29 (by rw [Oc.len15]; exact szC)) rfl ?_
     rw [HFIN.out]
     unfold MatchIn
     rw [HSE.out]
     have hx4 : ¬ Fc b4 := fun e => (HGr.out b4 e).elim h4F (fun e => by omega)
     have hv4 : ∀ b, vf.ownBlock = some b → b ≠ b4 := fun b hb e => by have := (HVn.out b hb).1; omega
     have zq := kq.size
     have zy := ky.size
     have hlast := HLN.out
     refine ⟨Fc, vf, rfl, ?_, ?_, fun b hb => ⟨by have := (HVn.out b hb).1; omega, (HVn.out b hb).2.1⟩, fun b hb => (HGr.out b hb).imp id (fun h => by omega), ?_⟩
     ·have h1 := ((HBq.out.kept ky).keep hkx (fun b hb e => hx4 (by rw [← e]; exact hb)))
      rw [hlast.1, hlast.2] at h1
      exact h1
     ·exact (HVq.out.kept ky).keep hkx (fun b hb e => hv4 b hb e)
     ·exact ((Keep.any k1 kwq).mono (fun b hb e => e.elim id (fun e => by omega))).kept ky |>.trans hkx (fun b hb e => by omega)
    | true =>
     have HCR := Lib.hid hmt
     go_upto_region 3 with fail
     refine wp_text 13 [.eq (.pointer (some ⟨bo, 10, none⟩)), .eq (.int .i64 (Oc.mk o fs left false self 0).left), .eq (.bool true), .eq (.bool true), .eq (.pointer (some ⟨bo, 13, none⟩)), .eq (.bool (Oc.mk o fs left false self 0).self), .eq (.bool true), .eq (.bool true), .eq (.bool true), .eq (.pointer (some ⟨p, offS s, none⟩)), .eq (o.v), .eq (.bool true), .eq (.bool true)] rfl (by kernel_rfl) ?_ ?_
     ·refine sv 1 rfl rfl rfl (fun a u hE hD hk => exec_fldo 29 2 10 (.tmp 5) (bo) (0) (10) rfl (hE 5 (.pointer (some ⟨bo, 0, none⟩)) (by kernel_rfl) (by kernel_rfl)) (by kernel_rfl) rfl) ?_
      refine sv 2 rfl rfl rfl (fun a u hE hD hk => exec_loadi 3 Try.underlying3 (.tmp 17) ⟨bo, 10, none⟩ (.int .i64 (Oc.mk o fs left false self 0).left) rfl (hD 0 17 (by kernel_rfl)) (by rw [(HOr.out.kept hk).cell]; rfl)) ?_
      refine fsteps_cons 3 rfl (fun a u hE hD hk => f_as (show ((decide ((0 : Int) < ((Oc.mk o fs left false self 0).left : Int))) : Bool) = true from decide_eq_true hl0) (f_val (o := ⟨some 19, _, _, _, _, _⟩) (.bool (decide ((0 : Int) < ((Oc.mk o fs left false self 0).left : Int)))) rfl (wanted_none rfl _) (exec_gtn (p := (Oc.mk o fs left false self 0).left) (q := 0) rfl (hD 1 18 (by kernel_rfl)) rfl) rfl)) ?_
      refine sv 4 rfl rfl rfl (fun a u hE hD hk => exec_move (.tmp 19) _ rfl (hD 2 19 (by kernel_rfl))) ?_
      refine fsteps_cons 5 rfl (fun a u hE hD hk => f_val (o := ⟨some 21, _, _, _, _, _⟩) (.pointer (some ⟨bo, 13, none⟩)) rfl (wanted_at (b := true) true rfl rfl (hD 3 20 (by kernel_rfl))) (exec_fldo 29 5 13 (.tmp 5) (bo) (0) (13) rfl (hE 5 (.pointer (some ⟨bo, 0, none⟩)) (by kernel_rfl) (by kernel_rfl)) (by kernel_rfl) rfl) rfl) ?_
      refine fsteps_cons 6 rfl (fun a u hE hD hk => f_val (o := ⟨some 22, _, _, _, _, _⟩) (.bool (Oc.mk o fs left false self 0).self) rfl (wanted_at (b := true) true rfl rfl (hD 3 20 (by kernel_rfl))) (exec_ldb 4 Try.underlying4 (.tmp 21) ⟨bo, 13, none⟩ (.bool (Oc.mk o fs left false self 0).self) rfl (hD 4 21 (by kernel_rfl)) (by rw [(HOr.out.kept hk).cell]; rfl)) rfl) ?_
      refine fsteps_cons 7 rfl (fun a u hE hD hk => f_as (show ((!(Oc.mk o fs left false self 0).self) : Bool) = true from (by rw [hsf]; rfl)) (f_val (o := ⟨some 23, _, _, _, _, _⟩) (.bool (!(Oc.mk o fs left false self 0).self)) rfl (wanted_at (b := true) true rfl rfl (hD 3 20 (by kernel_rfl))) (exec_not _ (.tmp 22) (Oc.mk o fs left false self 0).self rfl (hD 5 22 (by kernel_rfl))) rfl)) ?_
      refine sv 8 rfl rfl rfl (fun a u hE hD hk => exec_pick (.tmp 20) (.tmp 23) (.const (.bool false)) (.bool true) rfl (hD 3 20 (by kernel_rfl)) (hD 6 23 (by kernel_rfl))) ?_
      refine sv 9 rfl rfl rfl (fun a u hE hD hk => exec_move (.tmp 24) _ rfl (hD 7 24 (by kernel_rfl))) ?_
      refine fsteps_cons 10 rfl (fun a u hE hD hk => f_val (o := ⟨some 26, _, _, _, _, _⟩) (.pointer (some ⟨p, offS s, none⟩)) rfl (wanted_at (b := true) true rfl rfl (hD 8 25 (by kernel_rfl))) (exec_move (.tmp 6) _ rfl (hE 6 (.pointer (some ⟨p, offS s, none⟩)) (by kernel_rfl) (by kernel_rfl))) rfl) ?_
      refine fsteps_cons 11 rfl (fun a u hE hD hk => f_val (o := ⟨some 27, _, _, _, _, _⟩) (o.v) rfl (wanted_at (b := true) true rfl rfl (hD 8 25 (by kernel_rfl))) (exec_ldS 25 _ (.tmp 3) (bi) (0) (o.cells) rfl (hE 3 (.pointer (some ⟨bi, 0, none⟩)) (by kernel_rfl) (by kernel_rfl)) (range_kept HIr.out hk) Try.underlying25 (by rw [o.len9]; exact ord_size)) rfl) ?_
      refine fsteps_cons 12 rfl (fun a u hE hD hk => f_call (o := ⟨some 28, _, _, _, _, _⟩) 64 #[.pointer (some ⟨p, offS s, none⟩), o.v] rfl (wanted_at (b := true) true rfl rfl (hD 8 25 (by kernel_rfl))) (exec_call 64 _ [.tmp 26, .tmp 27] _ [.pointer (some ⟨p, offS s, none⟩), o.v] Try.func64 (by kernel_rfl) (by kernel_rfl) rfl (show [a.eval (.tmp 26), a.eval (.tmp 27)] = [.pointer (some ⟨p, offS s, none⟩), o.v] from (by rw [show a.eval (.tmp 26) = .pointer (some ⟨p, offS s, none⟩) from (hD 9 26 (by kernel_rfl)), show a.eval (.tmp 27) = o.v from (hD 10 27 (by kernel_rfl))] <;> rfl)) u) ((by obtain ⟨F', hLd⟩ := (HBr.out.kept hk).lad hs; rw [Bok.to_sd hs] at hLd; rw [← HCR.out]; exact crossed_any u F' p (offS s) s L o hLd hL64))) ?_
      refine sv 13 rfl rfl rfl (fun a u hE hD hk => exec_pick (.tmp 25) (.tmp 28) (.const (.bool false)) (.bool true) rfl (hD 8 25 (by kernel_rfl)) (hD 11 28 (by kernel_rfl))) ?_
      exact fsteps_nil
     intro gv wq hV kq
     rw [show dstsOf _ 13 = [17, 18, 19, 20, 21, 22, 23, 24, 25, 26, 27, 28, 29] by kernel_rfl]
     simp only [fC, fN, sA, sS, sZ, dS, dZ]
     rw [show gv 29 = .bool true from hV 12 29 (by kernel_rfl)]
     clear hV
     refine wpList_nil ?_
     clear HCR
     obtain ⟨l, R, hLR⟩ : ∃ l R, L = l :: R := by
      cases L with
      | nil => cases hmt
      | cons l R => exact ⟨l, R, rfl⟩
     subst hLR
     obtain ⟨pr, X⟩ := l
     have hcr : o.crosses pr = true := hmt
     have HRD := Lib.hid (match_round (no := no) HSr.out hl0 hcr)
     have HRI := Lib.hid (round_is (o := o) HSr.out hl0)
     have HGD := Lib.hid (HSr.out.good (l := (pr, X)) (by simp)).1
     rw [hsf] at HM
     clear hmt
     obtain ⟨v, u0, Z, G, Fs, eL, hW, hB, hFs, hp, hlt, hJ⟩ := (HBr.out.kept kq).open3 hs
     rw [Bok.to_sd hs] at eL
     obtain ⟨z, ZR, hZ⟩ : ∃ z ZR, Z = z :: ZR := by
      cases Z with
      | nil => cases eL
      | cons z ZR => exact ⟨z, ZR, rfl⟩
     subst hZ
     obtain ⟨q, pr', X'⟩ := z
     rw [levs_cons] at eL
     obtain ⟨e1, eR⟩ := List.cons.inj eL
     simp only [Prod.mk.injEq] at e1
     obtain ⟨rfl, rfl⟩ := e1
     have ER := Lib.hid eR
     have HJ := Lib.hid hJ
     have HFs := Lib.hid hFs
     have HW := Lib.hid hW
     have hLv := hW.lv (q, pr', X') (by simp)
     have hGF := hW.in_ (q, pr', X') (by simp)
     simp only at hLv hGF
     obtain ⟨gs, os, c, rfl⟩ := hW.some_ (by simp)
     obtain ⟨n, hnn⟩ : ∃ n, List.length ((q, pr', X') :: ZR) = n := ⟨_, rfl⟩
     have hn0 : 0 < n := by rw [← hnn]; simp
     have HC := Lib.hid (hW.cell (i := 0) (z := (q, pr', X')) rfl)
     rw [hnn] at HW hB
     have HVV : Hid (wq.cell? ⟨p, offS s + 1, none⟩ = some (.slice (some ⟨gs, os, none⟩) n c)) := by show _ = _; rw [hB.cell]; exact sideCs_get s _ _ _ _
     have HBB := Lib.hid hB
     have HLv := Lib.hid hLv
     have HGF := Lib.hid hGF
     have hpl := hlt p hp
     have HLTF := Lib.hid hlt
     clear hB hW eL hJ hFs hLv hGF hnn eR
     have HOq := Lib.hid (HOr.out.kept kq)
     have HVq := Lib.hid (HVr.out.kept kq)
     have HIq := Lib.hid (range_kept HIr.out kq)
     have kwq := hkr.kept kq
     have zq := kwq.size
     have hoFc : ¬ Fc bo := fun e => (HGr.out bo e).elim hoF (fun e => by omega)
     have HSF := Lib.hid hsf
     have HMO := Lib.hid hmo
     clear HOr HVr HIr kq hsf hmo
     go_upto_region 4 with fail
     refine wp_text 7 [.eq (.pointer (some ⟨p, offS s, none⟩)), .eq (.pointer (some ⟨p, offS s, none⟩)), .eq (.pointer (some ⟨p, offS s + 1, none⟩)), .eq (.slice (some ⟨gs, os, none⟩) n c), .eq (.pointer (some ⟨gs, os, none⟩)), .eq (.pointer (some ⟨q, 0, none⟩)), .eq (.pointer (some ⟨q, 0, none⟩))] rfl (by kernel_rfl) ?_ ?_
     ·refine sv 1 rfl rfl rfl (fun a u hE hD hk => exec_move (.tmp 6) _ rfl (hE 6 (.pointer (some ⟨p, offS s, none⟩)) (by kernel_rfl) (by kernel_rfl))) ?_
      refine sv 2 rfl rfl rfl (fun a u hE hD hk => exec_nilp (.tmp 30) ⟨p, offS s, none⟩ rfl (hD 0 30 (by kernel_rfl))) ?_
      refine sv 3 rfl rfl rfl (fun a u hE hD hk => exec_fldo 73 1 1 (.tmp 31) (p) (offS s) (offS s + 1) rfl (hD 1 31 (by kernel_rfl)) (by kernel_rfl) rfl) ?_
      refine sv 4 rfl rfl rfl (fun a u hE hD hk => exec_ldv 71 _ Try.underlying71 (.tmp 32) ⟨p, offS s + 1, none⟩ (.slice (some ⟨gs, os, none⟩) n c) rfl (hD 2 32 (by kernel_rfl)) (Kept.cell hk (HVV.out))) ?_
      refine sv 5 rfl rfl rfl (fun a u hE hD hk => exec_ixo slQ (.tmp 33) (.const (.int .i64 0)) (gs) (os) n c 0 (os) (0) rfl (hD 3 33 (by kernel_rfl)) rfl (by first | rfl | omega) ((by omega)) (by first | rfl | omega)) ?_
      refine sv 6 rfl rfl rfl (fun a u hE hD hk => exec_ldp 97 _ Try.underlying97 (.tmp 34) ⟨gs, os, none⟩ (.pointer (some ⟨q, 0, none⟩)) rfl (hD 4 34 (by kernel_rfl)) (Kept.cell hk ((by simpa using HC.out)))) ?_
      refine sv 7 rfl rfl rfl (fun a u hE hD hk => exec_assign (.tmp 35) _ rfl (hD 5 35 (by kernel_rfl))) ?_
      exact fsteps_nil
     intro gv w2 hV k2
     rw [show dstsOf _ 7 = [30, 31, 32, 33, 34, 35, 7] by kernel_rfl]
     simp only [fC, fN, sA, sS, sZ, dS, dZ]
     rw [show gv 7 = .pointer (some ⟨q, 0, none⟩) from hV 6 7 (by kernel_rfl)]
     clear hV
     refine wpList_nil ?_
     have HO2 := Lib.hid (HOq.out.kept k2)
     have HI2 := Lib.hid (range_kept HIq.out k2)
     have HLv2 := Lib.hid (HLv.out.kept k2)
     obtain ⟨t, ht⟩ : ∃ t, takeM o.firm left X' = t := ⟨_, rfl⟩
     obtain ⟨H, ow, X2⟩ := t
     rw [ht] at HRI
     have HTT := Lib.hid ht
     clear HC HVV HLv ht
     go_upto_region 5 with fail
     refine wp_text 5 [.eq (.pointer (some ⟨q, 0, none⟩)), .eq (.pointer (some ⟨bi, 2, none⟩)), .eq (.int .i64 o.firm), .eq (.pointer (some ⟨bo, 10, none⟩)), .eq (.int .i64 (Oc.mk o fs left false self 0).left)] rfl (by kernel_rfl) ?_ ?_
     ·refine sv 1 rfl rfl rfl (fun a u hE hD hk => exec_move (.tmp 7) _ rfl (hE 7 (.pointer (some ⟨q, 0, none⟩)) (by kernel_rfl) (by kernel_rfl))) ?_
      refine sv 2 rfl rfl rfl (fun a u hE hD hk => exec_fldo 25 2 2 (.tmp 3) (bi) (0) (2) rfl (hE 3 (.pointer (some ⟨bi, 0, none⟩)) (by kernel_rfl) (by kernel_rfl)) (by kernel_rfl) rfl) ?_
      refine sv 3 rfl rfl rfl (fun a u hE hD hk => exec_loadi 3 Try.underlying3 (.tmp 38) ⟨bi, 2, none⟩ (.int .i64 o.firm) rfl (hD 1 38 (by kernel_rfl)) (range_int (range_kept HI2.out hk) 2 _ rfl)) ?_
      refine sv 4 rfl rfl rfl (fun a u hE hD hk => exec_fldo 29 2 10 (.tmp 5) (bo) (0) (10) rfl (hE 5 (.pointer (some ⟨bo, 0, none⟩)) (by kernel_rfl) (by kernel_rfl)) (by kernel_rfl) rfl) ?_
      refine sv 5 rfl rfl rfl (fun a u hE hD hk => exec_loadi 3 Try.underlying3 (.tmp 40) ⟨bo, 10, none⟩ (.int .i64 (Oc.mk o fs left false self 0).left) rfl (hD 3 40 (by kernel_rfl)) (by rw [(HO2.out.kept hk).cell]; rfl)) ?_
      exact fsteps_nil
     intro gv w3 hV k3
     rw [show dstsOf _ 5 = [37, 38, 39, 40, 41] by kernel_rfl]
     simp only [fC, fN, sA, sS, sZ, dS, dZ]
     rw [show gv 37 = .pointer (some ⟨q, 0, none⟩) from hV 0 37 (by kernel_rfl)]
     rw [show gv 39 = .int .i64 o.firm from hV 2 39 (by kernel_rfl)]
     rw [show gv 41 = .int .i64 (Oc.mk o fs left false self 0).left from hV 4 41 (by kernel_rfl)]
     clear hV
     refine l_call (o := ⟨some 42, _, _, _, _, _⟩) 66 #[.pointer (some ⟨q, 0, none⟩), .int .i64 o.firm, .int .i64 (Oc.mk o fs left false self 0).left] rfl (exec_call 66 _ [.tmp 37, .tmp 39, .tmp 41] _ _ Try.func66 (by kernel_rfl) (by kernel_rfl) rfl (by kernel_rfl) _) ?_
     refine (take_any w3 _ q X' o.firm left (HLv2.out.kept k3) HGD.out (by omega)).mono ?_
     rintro r w4 ⟨F4, vh, rfl, hl4, hs4, hv4, hg4, hk4⟩
     rw [HTT.out] at hl4 hs4
     refine ⟨.tuple #[vh, .bool ow], by rw [HTT.out], ?_⟩
     simp only [Act.put, sA, sS, sZ]
     refine l_val (o := ⟨some 36, _, _, _, _, _⟩) (.tuple #[vh, .bool ow]) rfl (exec_move (.tmp 42) (.tuple #[vh, .bool ow]) rfl (by kernel_rfl)) ?_
     simp only [Act.put, sA, sS, sZ]
     refine l_val (o := ⟨some 43, _, _, _, _, _⟩) (vh) rfl (exec_extract (.tmp 36) [vh, .bool ow] 0 (vh) rfl (by kernel_rfl) rfl) ?_
     simp only [Act.put, sA, sS, sZ]
     refine l_val (o := ⟨some 44, _, _, _, _, _⟩) (.bool ow) rfl (exec_extract (.tmp 36) [vh, .bool ow] 1 (.bool ow) rfl (by kernel_rfl) rfl) ?_
     simp only [Act.put, sA, sS, sZ]
     refine l_val (o := ⟨some 8, _, _, _, _, _⟩) (vh) rfl (exec_assign (.tmp 43) (vh) rfl (by kernel_rfl)) ?_
     simp only [Act.put, sA, sS, sZ]
     refine l_val (o := ⟨some 9, _, _, _, _, _⟩) (.bool ow) rfl (exec_assign (.tmp 44) (.bool ow) rfl (by kernel_rfl)) ?_
     simp only [Act.put, sA, sS, sZ]
     refine wpList_nil ?_
     have k03 := k2.trans k3
     have z3 := k03.size
     obtain ⟨Fs4, G4, hW4, hG4, hk4', _⟩ := WayZ.turn (A := []) (R := ZR) (q := q) (pr := pr') (X := X') (HW.out.kept k03) hk4 hl4 hg4
     have z4 := hk4.size
     have hFo : ¬ Fs bo := fun e => hoFc (HFs.out bo e).1
     have HO4 := Lib.hid ((HOq.out.kept k03).keep hk4' hFo)
     have HP4 := Lib.hid ((HBB.out.kept k03).keep hk4' (fun e => (HFs.out p e).2 rfl))
     have HI4 := Lib.hid (range_keep (range_kept HIq.out k03) hk4' (fun e => hiF ((HGr.out bi (HFs.out bi e).1).elim id (fun e => by omega))))
     have HV4 := Lib.hid ((HVq.out.kept k03).keep hk4' (fun b hb e => (HVn.out b hb).2.1 (HFs.out b e).1))
     have hvl : ∀ b, vf.ownBlock = some b → b < wq.heap.size := fun b hb => HVq.out.lt hb
     have HVL := Lib.hid hvl
     have HW4 := Lib.hid hW4
     have HS4 := Lib.hid hs4
     have HHV : Hid (∀ b, vh.ownBlock = some b → w3.heap.size ≤ b) := fun b hb => (hv4 b hb).1
     have HG4 := Lib.hid hG4
     have K4 : Keep Fs wq w4 := Keep.any k03 hk4'
     have hq4 := HW4.out.lv (q, pr', X2) (by simp)
     have HQ4 := Lib.hid hq4
     have hop : bo ≠ p := fun e => hoFc (by rw [e]; exact hp)
     have hW4l : ∀ b, Fs4 b → b < w4.heap.size := HW4.out.lt
     have HW4L := Lib.hid hW4l
     have HG3 : Hid (∀ b, Fs4 b → Fs b ∨ wq.heap.size ≤ b) := fun b hb => (HG4.out b hb).imp id (fun e => by omega)
     clear hq4 hvl hW4 hs4 hv4 hg4 hk4 hl4 hG4 hk4' k2 k3 HO2 HI2 HLv2 HOq HVq HIq HBB HW hW4l
     have hfl : fs.length ≤ 2000000 := by omega
     have hbn : 0 ≤ no ∧ no ≤ 2000000000000 := by have := HLN.out.2; omega
     go_upto_region 6 with fail
     refine wp_text 4 [.eq (.pointer (some ⟨p, 0, none⟩)), .eq (.pointer (some ⟨q, 0, none⟩)), .eq (.int .i64 pr'), .eq (vh)] rfl (by kernel_rfl) ?_ ?_
     ·refine sv 1 rfl rfl rfl (fun a u hE hD hk => exec_move (.tmp 0) _ rfl (hE 0 (.pointer (some ⟨p, 0, none⟩)) (by kernel_rfl) (by kernel_rfl))) ?_
      refine sv 2 rfl rfl rfl (fun a u hE hD hk => exec_move (.tmp 7) _ rfl (hE 7 (.pointer (some ⟨q, 0, none⟩)) (by kernel_rfl) (by kernel_rfl))) ?_
      refine fsteps_cons 3 rfl (fun a u hE hD hk => f_call (o := ⟨some 47, _, _, _, _, _⟩) 68 #[.pointer (some ⟨q, 0, none⟩)] rfl (wanted_none rfl _) (exec_call 68 _ [.tmp 46] _ [.pointer (some ⟨q, 0, none⟩)] Try.func68 (by kernel_rfl) (by kernel_rfl) rfl (show [a.eval (.tmp 46)] = [.pointer (some ⟨q, 0, none⟩)] from (by rw [show a.eval (.tmp 46) = .pointer (some ⟨q, 0, none⟩) from (hD 1 46 (by kernel_rfl))] <;> rfl)) u) (price_any u _ q X2 (HQ4.out.kept hk))) ?_
      refine sv 4 rfl rfl rfl (fun a u hE hD hk => exec_move (.tmp 8) _ rfl (hE 8 (vh) (by kernel_rfl) (by kernel_rfl))) ?_
      exact fsteps_nil
     intro gv w5 hV k5
     rw [show dstsOf _ 4 = [45, 46, 47, 48] by kernel_rfl]
     simp only [fC, fN, sA, sS, sZ, dS, dZ]
     rw [show gv 45 = .pointer (some ⟨p, 0, none⟩) from hV 0 45 (by kernel_rfl)]
     rw [show gv 47 = .int .i64 pr' from hV 2 47 (by kernel_rfl)]
     rw [show gv 48 = vh from hV 3 48 (by kernel_rfl)]
     clear hV
     refine l_call (o := ⟨some 49, _, _, _, _, _⟩) 67 #[.pointer (some ⟨p, 0, none⟩), .pointer (some ⟨bo, 0, none⟩), .int .i64 pr', vh] rfl (exec_call 67 _ [.tmp 45, .tmp 5, .tmp 47, .tmp 48] _ _ Try.func67 (by kernel_rfl) (by kernel_rfl) rfl (by kernel_rfl) _) ?_
     refine (trade_any w5 bo p s (.slice (some ⟨gs, os, none⟩) n c) u0 vf vh last no pr' (Oc.mk o fs left false self 0) H (HO4.out.kept k5) (HV4.out.kept k5) (HP4.out.kept k5) (HS4.out.kept k5) hop (fun b hb => ⟨(HVn.out b hb).2.2, fun e => (HVn.out b hb).2.1 (by rw [e]; exact hp)⟩) (fun b hb => ⟨fun e => by have := HHV.out b hb; omega, fun e => by have := HHV.out b hb; omega, fun e => by have := HHV.out b hb; have := HVL.out b e; omega⟩) HRI.out.pos HRI.out.sum (by simp only; omega) hfl hbn.1 hbn.2).mono ?_
     rintro r w6 ⟨vg, rfl, hO6, hV6, hP6, hk6, hv6⟩
     refine ⟨_, rfl, ?_⟩
     simp only [Act.put, sA, sS, sZ]
     refine wpList_nil ?_
     have z5 := k5.size
     have z6 := hk6.size
     have hSn : ∀ b, Fs4 b → ¬ (b = bo ∨ b = p ∨ vf.ownBlock = some b) := fun b hb e => by
      rcases e with e | e | e
      ·rcases HG3.out b hb with h | h
       ·exact hoFc (by rw [← e]; exact (HFs.out b h).1)
       ·omega
      ·rcases HG3.out b hb with h | h
       ·exact (HFs.out b h).2 e
       ·omega
      ·rcases HG3.out b hb with h | h
       ·exact (HVn.out b e).2.1 (HFs.out b h).1
       ·have := HVL.out b e; omega
     have hW6 := (HW4.out.kept k5).keep hk6 hSn
     have K6 : Keep (fun b => Fs b ∨ b = bo ∨ b = p ∨ vf.ownBlock = some b) wq w6 := ((Keep.mono (T := fun b => Fs b ∨ b = bo ∨ b = p ∨ vf.ownBlock = some b) K4 (fun _ _ e => .inl e)).kept k5).trans hk6 (fun b _ e => .inr e)
     obtain ⟨F6, hb6, hg6, hi6⟩ := HJ.out w6 _ _ _ _ _ _ K6 (fun b hb e => by
      rcases e with e | e | e | e
      ·exact .inl e
      ·exact absurd (by rw [← e]; exact hb) hoFc
      ·exact .inr e
      ·exact absurd hb (HVn.out b e).2.1) hP6 ⟨_, _, rfl, hW6⟩ (fun b hb => HG3.out b hb)
     rw [Bok.to_to hs, levs_append, levs_cons, ER.out] at hb6
     have HB6 := Lib.hid hb6
     have HI6 := Lib.hid hi6
     have HO6 := Lib.hid hO6
     have HV6 := Lib.hid hV6
     have hoF6 : ¬ F6 bo := fun e => ((hi6 bo).1 e).elim hoFc (fun e => hSn bo e (.inl rfl))
     have HVG : Hid (∀ b, vg.ownBlock = some b → vf.ownBlock = some b ∨ w5.heap.size ≤ b) := hv6
     have HVGL : Hid (∀ b, vg.ownBlock = some b → b < w6.heap.size) := fun b hb => hV6.lt hb
     have hgo : ∀ b, vg.ownBlock = some b → b ≠ bo := fun b hb e => by
      rcases HVG.out b hb with h | h
      ·exact (HVn.out b h).2.2 e
      ·omega
     have HGO := Lib.hid hgo
     clear hW6 hO6 hV6 hP6 hk6 hv6 hb6 hg6 hi6 K4 k5 HO4 HV4 HP4 HS4 HQ4 HW4 HJ hSn hgo
     go_upto_region 7 with fail
     refine wp_text 2 [.eq (.bool ow), .eq (.pointer (some ⟨bo, 13, none⟩))] rfl (by kernel_rfl) ?_ ?_
     ·refine sv 1 rfl rfl rfl (fun a u hE hD hk => exec_move (.tmp 9) _ rfl (hE 9 (.bool ow) (by kernel_rfl) (by kernel_rfl))) ?_
      refine sv 2 rfl rfl rfl (fun a u hE hD hk => exec_fldo 29 5 13 (.tmp 5) (bo) (0) (13) rfl (hE 5 (.pointer (some ⟨bo, 0, none⟩)) (by kernel_rfl) (by kernel_rfl)) (by kernel_rfl) rfl) ?_
      exact fsteps_nil
     intro gv w7 hV k7
     rw [show dstsOf _ 2 = [50, 51] by kernel_rfl]
     simp only [fC, fN, sA, sS, sZ, dS, dZ]
     rw [show gv 51 = .pointer (some ⟨bo, 13, none⟩) from hV 1 51 (by kernel_rfl)]
     rw [show gv 50 = .bool ow from hV 0 50 (by kernel_rfl)]
     clear hV
     refine l_st1 (o := ⟨none, _, _, _, _, _⟩) 4 bo 13 29 _ (.bool ow) (.tmp 51) (.tmp 50) rfl rfl (by kernel_rfl) (by kernel_rfl) (by kernel_rfl) rfl rfl (HO6.out.kept k7) (by rw [Oc.len15]; omega) ?_
     intro w8 hO8 hk8 hs8
     simp only [Act.put]
     refine wpList_nil ?_
     rw [Oc.set_self] at hO8
     have z7 := k7.size
     have z8 := hk8.size
     have HO8 := Lib.hid hO8
     have HB8 := Lib.hid ((HB6.out.kept k7).keep hk8 (fun b hb e => hoF6 (by rw [← e]; exact hb)))
     have HV8 := Lib.hid ((HV6.out.kept k7).keep hk8 (fun b hb e => HGO.out b hb e))
     have K8 : Keep (fun b => Fs b ∨ b = bo ∨ b = p ∨ vf.ownBlock = some b) wq w8 := (K6.kept k7).trans hk8 (fun b _ e => .inr (.inl e))
     clear hO8 hk8 hs8 k7 HO6 HB6 HV6 K6
     have hRl : R.length ≤ 64 := by have := HSr.out.ok.len; simp at this; omega
     have HRL := Lib.hid hRl
     clear hRl
     go_upto_region 8 with fail
     refine wp_text 1 [.eq (.pointer (some ⟨p, offS s, none⟩))] rfl (by kernel_rfl) ?_ ?_
     ·refine sv 1 rfl rfl rfl (fun a u hE hD hk => exec_move (.tmp 6) _ rfl (hE 6 (.pointer (some ⟨p, offS s, none⟩)) (by kernel_rfl) (by kernel_rfl))) ?_
      exact fsteps_nil
     intro gv w9 hV k9
     rw [show dstsOf _ 1 = [52] by kernel_rfl]
     simp only [fC, fN, sA, sS, sZ, dS, dZ]
     rw [show gv 52 = .pointer (some ⟨p, offS s, none⟩) from hV 0 52 (by kernel_rfl)]
     clear hV
     refine l_call (o := ⟨some 53, _, _, _, _, _⟩) 69 #[.pointer (some ⟨p, offS s, none⟩), .int .i64 0] rfl (exec_call 69 _ [.tmp 52, .const (.int .i64 0)] _ _ Try.func69 (by kernel_rfl) (by kernel_rfl) rfl (by kernel_rfl) _) ?_
     refine (drop_if_any w9 F6 p _ s [] R (pr', X2) 0 (HB8.out.kept k9) hs (by rw [Bok.to_sd hs]; rfl) rfl (by have := HRL.out; simp; omega) (by have := HRI.out.few; simp only at this ⊢; omega)).mono ?_
     rintro r w10 ⟨F10, rfl, hb10, hg10, hk10, hi10⟩
     refine ⟨_, rfl, ?_⟩
     simp only [Act.put, sA, sS, sZ]
     refine wpList_nil ?_
     rw [Bok.to_to hs] at hb10
     have z9 := k9.size
     have z10 := hk10.size
     have HO10 := Lib.hid ((HO8.out.kept k9).keep hk10 hoF6)
     have hVF6 : ∀ b, vg.ownBlock = some b → ¬ F6 b := fun b hb e => by
      rcases (HI6.out b).1 e with h | h
      ·rcases HVG.out b hb with h' | h'
       ·exact (HVn.out b h').2.1 h
       ·have := HLTF.out b h; omega
      ·rcases HVG.out b hb with h' | h'
       ·rcases HG3.out b h with h2 | h2
        ·exact (HVn.out b h').2.1 (HFs.out b h2).1
        ·have := HVL.out b h'; omega
       ·have := HW4L.out b h; omega
     have HV10 := Lib.hid ((HV8.out.kept k9).keep hk10 (fun b hb e => hVF6 b hb e))
     have HVN10 : Hid (∀ b, vg.ownBlock = some b → w1.heap.size ≤ b ∧ ¬ F10 b ∧ b ≠ bo) := fun b hb => by
      refine ⟨?_, fun e => ?_, HGO.out b hb⟩
      ·rcases HVG.out b hb with h | h
       ·exact (HVn.out b h).1
       ·omega
      ·rcases hg10 b e with h | h
       ·exact hVF6 b hb h
       ·have := HVGL.out b hb; omega
     have hF6 : ∀ b, F6 b → F b ∨ w1.heap.size ≤ b := fun b hb => by
      rcases (HI6.out b).1 hb with h | h
      ·exact HGr.out b h
      ·rcases HG3.out b h with h2 | h2
       ·exact HGr.out b (HFs.out b h2).1
       ·exact .inr (by omega)
     have HG10 : Hid (Grow w1 F F10) := fun b hb => by
      rcases hg10 b hb with h | h
      ·exact hF6 b h
      ·exact .inr (by omega)
     have K10 : Keep (fun b => F b ∨ b = bo) w1 w10 := by
      refine (Keep.trans kwq K8 (fun b hb e => ?_)).kept k9 |>.trans hk10 (fun b hb e => ?_)
      ·rcases e with e | e | e | e
       ·exact (HGr.out b (HFs.out b e).1).elim .inl (fun e => by omega)
       ·exact .inr e
       ·rw [e]; exact .inl hpF
       ·have := (HVn.out b e).1; omega
      ·exact (hF6 b e).elim .inl (fun e => by omega)
     have HB10 := Lib.hid hb10
     have HM10 : Hid (B.matched o = ⟨(fs ++ fillsOf o pr' no left H) ++ (if ow = true then Mt.mk [] (left - seenM H) true (dropE [] R (pr', X2)) else matchM o (no + H.length) (left - seenM H) (dropE [] R (pr', X2))).f, (if ow = true then Mt.mk [] (left - seenM H) true (dropE [] R (pr', X2)) else matchM o (no + H.length) (left - seenM H) (dropE [] R (pr', X2))).left, (if ow = true then Mt.mk [] (left - seenM H) true (dropE [] R (pr', X2)) else matchM o (no + H.length) (left - seenM H) (dropE [] R (pr', X2))).self, (if ow = true then Mt.mk [] (left - seenM H) true (dropE [] R (pr', X2)) else matchM o (no + H.length) (left - seenM H) (dropE [] R (pr', X2))).L⟩) := by
      show _ = _
      rw [HM.out]
      simp only [Bool.false_eq_true, if_false]
      rw [HRD.out]
      unfold roundM
      simp only
      rw [HTT.out]
      simp only [List.append_assoc]
     have HS10 := Lib.hid HRI.out.sid
     have HLN10 : Hid (lastOf last (fillsOf o pr' no left H) = lastOf B.last (fs ++ fillsOf o pr' no left H) ∧ no + (H.length : Int) = B.no + ((fs ++ fillsOf o pr' no left H).length : Nat)) := by
      refine ⟨by rw [lastOf_append, ← HLN.out.1], ?_⟩
      rw [List.length_append, fillsOf_len, HLN.out.2]
      omega
     have hlf10 : 0 ≤ left - seenM H ∧ (((fs ++ fillsOf o pr' no left H).length : Nat) : Int) + (left - seenM H) ≤ o.qty := by
      have h1 := HRI.out.sum
      have h2 := HRI.out.len
      rw [List.length_append, fillsOf_len]
      simp only at h1 h2
      omega
     have HLF10 := Lib.hid hlf10
     have HME : Hid (mOut bo w10 < mOut bo wr) := by
      show _ < _
      rw [HMO.out, mOut_is HO10.out]
      have h1 := HRI.out.prog
      have h2 := HRI.out.sum
      simp only at h1 h2
      show 2 * (left - seenM H).toNat + (if ow = true then 0 else 1) < 2 * left.toNat + (if self = true then 0 else 1)
      have e0 : (if self = true then (0 : Nat) else 1) = 1 := by rw [HSF.out]; rfl
      rw [e0]
      rcases h1 with h1 | h1
      ·rw [if_pos h1]
       have h3 := HRI.out.len
       simp only at h3
       omega
      ·split <;> omega
     clear hb10 hg10 hk10 hi10 k9 HO8 HB8 HV8 K8 hVF6 hF6 hlf10 HM HRD HRI HTT HGD HLN
     go_wp2
     exact ⟨⟨_, _, _, left - seenM H, ow, _, F10, vg, HB10.out, HO10.out, HV10.out, HVN10.out, HG10.out, K10, HS10.out, HLN10.out, HLF10.out, HM10.out⟩, HME.out⟩
  ·have HFIN : Hid (B.matched o = ⟨fs, left, self, L⟩) := by
    show _ = _
    rw [HM.out]
    cases self with
    | true => simp
    | false => rw [if_neg (by simp), match_zero (by omega)]; simp
   clear HM
   go_upto_region 3 with fail
   refine wp_text 13 [.eq (.pointer (some ⟨bo, 10, none⟩)), .eq (.int .i64 (Oc.mk o fs left false self 0).left), .eq (.bool false), .eq (.bool false), .eq undef, .eq undef, .eq undef, .eq (.bool false), .eq (.bool false), .eq undef, .eq undef, .eq undef, .eq (.bool false)] rfl (by kernel_rfl) ?_ ?_
   ·refine sv 1 rfl rfl rfl (fun a u hE hD hk => exec_fldo 29 2 10 (.tmp 5) (bo) (0) (10) rfl (hE 5 (.pointer (some ⟨bo, 0, none⟩)) (by kernel_rfl) (by kernel_rfl)) (by kernel_rfl) rfl) ?_
    refine sv 2 rfl rfl rfl (fun a u hE hD hk => exec_loadi 3 Try.underlying3 (.tmp 17) ⟨bo, 10, none⟩ (.int .i64 (Oc.mk o fs left false self 0).left) rfl (hD 0 17 (by kernel_rfl)) (by rw [(HOr.out.kept hk).cell]; rfl)) ?_
    refine fsteps_cons 3 rfl (fun a u hE hD hk => f_as (show ((decide ((0 : Int) < ((Oc.mk o fs left false self 0).left : Int))) : Bool) = false from decide_eq_false (by omega)) (f_val (o := ⟨some 19, _, _, _, _, _⟩) (.bool (decide ((0 : Int) < ((Oc.mk o fs left false self 0).left : Int)))) rfl (wanted_none rfl _) (exec_gtn (p := (Oc.mk o fs left false self 0).left) (q := 0) rfl (hD 1 18 (by kernel_rfl)) rfl) rfl)) ?_
    refine sv 4 rfl rfl rfl (fun a u hE hD hk => exec_move (.tmp 19) _ rfl (hD 2 19 (by kernel_rfl))) ?_
    refine fsteps_cons 5 rfl (fun a u hE hD hk => f_skip (o := ⟨some 21, _, _, _, _, _⟩) rfl (wanted_at (b := true) false rfl rfl (hD 3 20 (by kernel_rfl))) rfl) ?_
    refine fsteps_cons 6 rfl (fun a u hE hD hk => f_skip (o := ⟨some 22, _, _, _, _, _⟩) rfl (wanted_at (b := true) false rfl rfl (hD 3 20 (by kernel_rfl))) rfl) ?_
    refine fsteps_cons 7 rfl (fun a u hE hD hk => f_skip (o := ⟨some 23, _, _, _, _, _⟩) rfl (wanted_at (b := true) false rfl rfl (hD 3 20 (by kernel_rfl))) rfl) ?_
    refine sv 8 rfl rfl rfl (fun a u hE hD hk => exec_pickF (.tmp 20) (.tmp 23) (.const (.bool false)) (.bool false) rfl (hD 3 20 (by kernel_rfl)) rfl) ?_
    refine sv 9 rfl rfl rfl (fun a u hE hD hk => exec_move (.tmp 24) _ rfl (hD 7 24 (by kernel_rfl))) ?_
    refine fsteps_cons 10 rfl (fun a u hE hD hk => f_skip (o := ⟨some 26, _, _, _, _, _⟩) rfl (wanted_at (b := true) false rfl rfl (hD 8 25 (by kernel_rfl))) rfl) ?_
    refine fsteps_cons 11 rfl (fun a u hE hD hk => f_skip (o := ⟨some 27, _, _, _, _, _⟩) rfl (wanted_at (b := true) false rfl rfl (hD 8 25 (by kernel_rfl))) rfl) ?_
    refine fsteps_cons 12 rfl (fun a u hE hD hk => f_skip (o := ⟨some 28, _, _, _, _, _⟩) rfl (wanted_at (b := true) false rfl rfl (hD 8 25 (by kernel_rfl))) rfl) ?_
    refine sv 13 rfl rfl rfl (fun a u hE hD hk => exec_pickF (.tmp 25) (.tmp 28) (.const (.bool false)) (.bool false) rfl (hD 8 25 (by kernel_rfl)) rfl) ?_
    exact fsteps_nil
   intro gv wq hV kq
   rw [show dstsOf _ 13 = [17, 18, 19, 20, 21, 22, 23, 24, 25, 26, 27, 28, 29] by kernel_rfl]
   simp only [fC, fN, sA, sS, sZ, dS, dZ]
   rw [show gv 29 = .bool false from hV 12 29 (by kernel_rfl)]
   clear hV
   refine wpList_nil ?_
   have kwq := hkr.kept kq
   have HB4q := Lib.hid (HB4.out.keep kwq (fun e => e.elim h4F (fun e => h4o e)))
   have HOq := Lib.hid (HOr.out.kept kq)
   have HBq := Lib.hid (HBr.out.kept kq)
   have HVq := Lib.hid (HVr.out.kept kq)
   go_upto_region 9 with fail
   refine wp_text 1 [.eq ((Oc.mk o fs left false self 0).v vf)] rfl (by kernel_rfl) ?_ ?_
   ·refine sv 1 rfl rfl rfl (fun a u hE hD hk => exec_ldS 29 _ (.tmp 5) bo 0 ((Oc.mk o fs left false self 0).cells vf) rfl (hE 5 (.pointer (some ⟨bo, 0, none⟩)) (by kernel_rfl) (by kernel_rfl)) (blk_range (HOq.out.kept hk)) Try.underlying29 (by rw [Oc.len15]; exact szC)) ?_
    exact fsteps_nil
   intro gv wy hV ky
   rw [show dstsOf _ 1 = [54] by kernel_rfl]
   simp only [fC, fN, sA, sS, sZ, dS, dZ]
   rw [show gv 54 = (Oc.mk o fs left false self 0).v vf from hV 0 54 (by kernel_rfl)]
   clear hV
   refine l_setS (o := ⟨none, _, _, _, _, _⟩) 29 b4 29 (zeroC.cells (.slice none 0 0)) ((Oc.mk o fs left false self 0).cells vf) (.tmp 4) (.tmp 54) rfl rfl (by kernel_rfl) (by kernel_rfl) (HB4q.out.kept ky) (by rw [Oc.len15]; exact szC) (by rw [Oc.len15, Oc.len15]) (Oc.one _ _ (sl_onec HVq.out)) ?_
   intro wx hBx hkx hsx
   simp only [Act.put]
   refine wpList_nil ?_
   go_wp2
   refine bodyPost_ret (results_cell (p := 4) rfl _ _ b4 _ ((Oc.mk o fs left false self 0).cells vf) rfl hBx Try.underlying29 (by rw [Oc.len15]; exact szC)) rfl ?_
   rw [HFIN.out]
   unfold MatchIn
   rw [HSE.out]
   have hx4 : ¬ Fc b4 := fun e => (HGr.out b4 e).elim h4F (fun e => by omega)
   have hv4 : ∀ b, vf.ownBlock = some b → b ≠ b4 := fun b hb e => by have := (HVn.out b hb).1; omega
   have zq := kq.size
   have zy := ky.size
   have hlast := HLN.out
   refine ⟨Fc, vf, rfl, ?_, ?_, fun b hb => ⟨by have := (HVn.out b hb).1; omega, (HVn.out b hb).2.1⟩, fun b hb => (HGr.out b hb).imp id (fun h => by omega), ?_⟩
   ·have h1 := ((HBq.out.kept ky).keep hkx (fun b hb e => hx4 (by rw [← e]; exact hb)))
    rw [hlast.1, hlast.2] at h1
    exact h1
   ·exact (HVq.out.kept ky).keep hkx (fun b hb e => hv4 b hb e)
   ·exact ((Keep.any k1 kwq).mono (fun b hb e => e.elim id (fun e => by omega))).kept ky |>.trans hkx (fun b hb e => by omega)
end Go.Proofs.Ytfpfpmhkkgfdbaa
namespace Go.Proofs.Ytfpfpmhkkgfdbaa
open Go.RowKit
set_option maxRecDepth 100000
set_option maxRecDepth 100000 in
set_option maxHeartbeats 3200000 in
theorem refusal_any (w : World) (F : Nat → Prop) (p : Nat) (B : Bok) (o : Ord) (h : Bk w F p B) (hI : Inv B) : Gives 39 #[.pointer (some ⟨p, 0, none⟩), o.v] w (.eq (.int .i64 (B.err o))) := by
 refine gives_eq ?_
 have HB := Lib.hid h
 have HI := Lib.hid hI
 clear h hI
 go_enter Try.func39, Try.ntmps39
 go_upto_region 0 with fail
 refine wp_text 2 [.fresh w.heap.size 25 (o.cells), .eq (.int .i64 0)] rfl (by kernel_rfl) ?_ ?_
 ·refine fsteps_cons 1 rfl (fun a u hE hD hk => f_new (o := ⟨some 3, _, _, _, _, _⟩) (.pointer (some ⟨u.heap.size, 0, none⟩)) _ rfl (wanted_none rfl _) (exec_box 25 (.tmp 1) (o.cells) rfl (hE 1 (o.v) (by kernel_rfl) (by kernel_rfl))) ⟨_, rfl, hk.size, Blk.new u _ _⟩ ((Keep.refl _ u).alloc _)) ?_
  refine sv 2 rfl rfl rfl (fun a u hE hD hk => exec_assign (.const (.int .i64 0)) _ rfl rfl) ?_
  exact fsteps_nil
 intro gv w0 hV k0
 rw [show dstsOf _ 2 = [3, 4] by kernel_rfl]
 simp only [fC, fN, sA, sS, sZ, dS, dZ]
 have hv3 : (.fresh w.heap.size 25 (o.cells) : Kn).p (gv 3) w0 := hV 0 3 (by kernel_rfl)
 generalize gv 3 = v3 at hv3 ⊢
 rw [show gv 4 = .int .i64 0 from hV 1 4 (by kernel_rfl)]
 clear hV
 obtain ⟨g, rfl, hg, hBo⟩ := hv3
 refine wpList_nil ?_
 have HO := Lib.hid (blk_range hBo)
 clear hBo
 by_cases hr : o.right = true
 ·have hr1 : ¬ o.err ≠ 0 := by unfold Ord.err; rw [if_pos hr]; simp
  have HR := Lib.hid hr
  clear hr
  by_cases hst : o.stop ≠ 0
  ·have HE : Hid (B.err o = 1) := by show _ = _; unfold Bok.err; rw [if_pos (fun h => hst h.2)]
   go_upto_region 1 with fail
   refine wp_text 8 [.eq (o.v), .eq (.int .i64 o.err), .eq (.bool false), .eq (.bool false), .eq (.pointer (some ⟨g, 8, none⟩)), .eq (.int .i64 o.stop), .eq (.bool true), .eq (.bool true)] rfl (by kernel_rfl) ?_ ?_
   ·refine sv 1 rfl rfl rfl (fun a u hE hD hk => exec_ldS 25 _ (.tmp 3) (g) (0) (o.cells) rfl (hE 3 (.pointer (some ⟨g, 0, none⟩)) (by kernel_rfl) (by kernel_rfl)) (range_kept HO.out hk) Try.underlying25 (by rw [o.len9]; exact ord_size)) ?_
    refine fsteps_cons 2 rfl (fun a u hE hD hk => f_call (o := ⟨some 8, _, _, _, _, _⟩) 62 #[o.v] rfl (wanted_none rfl _) (exec_call 62 _ [.tmp 7] _ [o.v] Try.func62 (by kernel_rfl) (by kernel_rfl) rfl (show [a.eval (.tmp 7)] = [o.v] from (by rw [show a.eval (.tmp 7) = o.v from (hD 0 7 (by kernel_rfl))] <;> rfl)) u) (ordRight_any o u)) ?_
    refine fsteps_cons 3 rfl (fun a u hE hD hk => f_as (show ((decide ((o.err : Int) ≠ (0 : Int))) : Bool) = false from decide_eq_false hr1) (f_val (o := ⟨some 9, _, _, _, _, _⟩) (.bool (decide ((o.err : Int) ≠ (0 : Int)))) rfl (wanted_none rfl _) (exec_nen (p := o.err) (q := 0) rfl (hD 1 8 (by kernel_rfl)) rfl) rfl)) ?_
    refine sv 4 rfl rfl rfl (fun a u hE hD hk => exec_move (.tmp 9) _ rfl (hD 2 9 (by kernel_rfl))) ?_
    refine fsteps_cons 5 rfl (fun a u hE hD hk => f_val (o := ⟨some 11, _, _, _, _, _⟩) (.pointer (some ⟨g, 8, none⟩)) rfl (wanted_at (b := false) false rfl rfl (hD 3 10 (by kernel_rfl))) (exec_fldo 25 8 8 (.tmp 3) (g) (0) (8) rfl (hE 3 (.pointer (some ⟨g, 0, none⟩)) (by kernel_rfl) (by kernel_rfl)) (by kernel_rfl) rfl) rfl) ?_
    refine fsteps_cons 6 rfl (fun a u hE hD hk => f_val (o := ⟨some 12, _, _, _, _, _⟩) (.int .i64 o.stop) rfl (wanted_at (b := false) false rfl rfl (hD 3 10 (by kernel_rfl))) (exec_loadi 3 Try.underlying3 (.tmp 11) ⟨g, 8, none⟩ (.int .i64 o.stop) rfl (hD 4 11 (by kernel_rfl)) (range_int (range_kept HO.out hk) 8 _ rfl)) rfl) ?_
    refine fsteps_cons 7 rfl (fun a u hE hD hk => f_as (show ((decide ((o.stop : Int) ≠ (0 : Int))) : Bool) = true from decide_eq_true hst) (f_val (o := ⟨some 13, _, _, _, _, _⟩) (.bool (decide ((o.stop : Int) ≠ (0 : Int)))) rfl (wanted_at (b := false) false rfl rfl (hD 3 10 (by kernel_rfl))) (exec_nen (p := o.stop) (q := 0) rfl (hD 5 12 (by kernel_rfl)) rfl) rfl)) ?_
    refine sv 8 rfl rfl rfl (fun a u hE hD hk => exec_pickF (.tmp 10) (.const (.bool true)) (.tmp 13) (.bool true) rfl (hD 3 10 (by kernel_rfl)) (hD 6 13 (by kernel_rfl))) ?_
    exact fsteps_nil
   intro gv w1 hV k1
   rw [show dstsOf _ 8 = [7, 8, 9, 10, 11, 12, 13, 14] by kernel_rfl]
   simp only [fC, fN, sA, sS, sZ, dS, dZ]
   rw [show gv 14 = .bool true from hV 7 14 (by kernel_rfl)]
   clear hV
   refine wpList_nil ?_
   have kx := k0.trans k1
   clear HO hr1 hst
   go_wp2
   go_ret
   exact ⟨by rw [HE.out]; rfl, kx⟩
  ·skip
   go_upto_region 1 with fail
   refine wp_text 8 [.eq (o.v), .eq (.int .i64 o.err), .eq (.bool false), .eq (.bool false), .eq (.pointer (some ⟨g, 8, none⟩)), .eq (.int .i64 o.stop), .eq (.bool false), .eq (.bool false)] rfl (by kernel_rfl) ?_ ?_
   ·refine sv 1 rfl rfl rfl (fun a u hE hD hk => exec_ldS 25 _ (.tmp 3) (g) (0) (o.cells) rfl (hE 3 (.pointer (some ⟨g, 0, none⟩)) (by kernel_rfl) (by kernel_rfl)) (range_kept HO.out hk) Try.underlying25 (by rw [o.len9]; exact ord_size)) ?_
    refine fsteps_cons 2 rfl (fun a u hE hD hk => f_call (o := ⟨some 8, _, _, _, _, _⟩) 62 #[o.v] rfl (wanted_none rfl _) (exec_call 62 _ [.tmp 7] _ [o.v] Try.func62 (by kernel_rfl) (by kernel_rfl) rfl (show [a.eval (.tmp 7)] = [o.v] from (by rw [show a.eval (.tmp 7) = o.v from (hD 0 7 (by kernel_rfl))] <;> rfl)) u) (ordRight_any o u)) ?_
    refine fsteps_cons 3 rfl (fun a u hE hD hk => f_as (show ((decide ((o.err : Int) ≠ (0 : Int))) : Bool) = false from decide_eq_false hr1) (f_val (o := ⟨some 9, _, _, _, _, _⟩) (.bool (decide ((o.err : Int) ≠ (0 : Int)))) rfl (wanted_none rfl _) (exec_nen (p := o.err) (q := 0) rfl (hD 1 8 (by kernel_rfl)) rfl) rfl)) ?_
    refine sv 4 rfl rfl rfl (fun a u hE hD hk => exec_move (.tmp 9) _ rfl (hD 2 9 (by kernel_rfl))) ?_
    refine fsteps_cons 5 rfl (fun a u hE hD hk => f_val (o := ⟨some 11, _, _, _, _, _⟩) (.pointer (some ⟨g, 8, none⟩)) rfl (wanted_at (b := false) false rfl rfl (hD 3 10 (by kernel_rfl))) (exec_fldo 25 8 8 (.tmp 3) (g) (0) (8) rfl (hE 3 (.pointer (some ⟨g, 0, none⟩)) (by kernel_rfl) (by kernel_rfl)) (by kernel_rfl) rfl) rfl) ?_
    refine fsteps_cons 6 rfl (fun a u hE hD hk => f_val (o := ⟨some 12, _, _, _, _, _⟩) (.int .i64 o.stop) rfl (wanted_at (b := false) false rfl rfl (hD 3 10 (by kernel_rfl))) (exec_loadi 3 Try.underlying3 (.tmp 11) ⟨g, 8, none⟩ (.int .i64 o.stop) rfl (hD 4 11 (by kernel_rfl)) (range_int (range_kept HO.out hk) 8 _ rfl)) rfl) ?_
    refine fsteps_cons 7 rfl (fun a u hE hD hk => f_as (show ((decide ((o.stop : Int) ≠ (0 : Int))) : Bool) = false from decide_eq_false hst) (f_val (o := ⟨some 13, _, _, _, _, _⟩) (.bool (decide ((o.stop : Int) ≠ (0 : Int)))) rfl (wanted_at (b := false) false rfl rfl (hD 3 10 (by kernel_rfl))) (exec_nen (p := o.stop) (q := 0) rfl (hD 5 12 (by kernel_rfl)) rfl) rfl)) ?_
    refine sv 8 rfl rfl rfl (fun a u hE hD hk => exec_pickF (.tmp 10) (.const (.bool true)) (.tmp 13) (.bool false) rfl (hD 3 10 (by kernel_rfl)) (hD 6 13 (by kernel_rfl))) ?_
    exact fsteps_nil
   intro gv w1 hV k1
   rw [show dstsOf _ 8 = [7, 8, 9, 10, 11, 12, 13, 14] by kernel_rfl]
   simp only [fC, fN, sA, sS, sZ, dS, dZ]
   rw [show gv 14 = .bool false from hV 7 14 (by kernel_rfl)]
   clear hV
   refine wpList_nil ?_
   have kx := k0.trans k1
   have hst0 : o.stop = 0 := Classical.not_not.1 hst
   have HST := Lib.hid hst0
   have HO1 := Lib.hid (range_kept HO.out k1)
   have HSD := Lib.hid (right_side HR.out)
   have HQ := Lib.hid (right_qty HR.out)
   have HS3 : Hid (3 - o.side = 1 ∨ 3 - o.side = 2) := by have := HSD.out; show _ ∨ _; omega
   have HSID := Lib.hid (HI.out.side HSD.out).theirs
   have HL64 : Hid ((B.sd (3 - o.side)).length ≤ 1000) := by have := HSID.out.ok.len; show _ ≤ _; omega
   clear HO hr1 hst hst0 k0 k1
   obtain ⟨fo, hfo⟩ : ∃ x, (B.find o.tr o.id).1 = x := ⟨_, rfl⟩
   obtain ⟨hb, hhb⟩ : ∃ x, (B.find o.tr o.id).2 = x := ⟨_, rfl⟩
   have HFO := Lib.hid hfo
   have HHB := Lib.hid hhb
   clear hfo hhb
   go_upto_region 3 with fail
   refine wp_text 10 [.eq (.pointer (some ⟨p, 0, none⟩)), .eq (.pointer (some ⟨g, 0, none⟩)), .eq (.int .i64 o.tr), .eq (.pointer (some ⟨g, 1, none⟩)), .eq (.int .i64 o.id), .eq (.tuple #[fo.v, .bool hb]), .eq (.tuple #[fo.v, .bool hb]), .eq (fo.v), .eq (.bool hb), .fresh w1.heap.size 25 zeroO.cells] rfl (by kernel_rfl) ?_ ?_
   ·refine sv 1 rfl rfl rfl (fun a u hE hD hk => exec_move (.tmp 0) _ rfl (hE 0 (.pointer (some ⟨p, 0, none⟩)) (by kernel_rfl) (by kernel_rfl))) ?_
    refine sv 2 rfl rfl rfl (fun a u hE hD hk => exec_fldo 25 0 0 (.tmp 3) (g) (0) (0) rfl (hE 3 (.pointer (some ⟨g, 0, none⟩)) (by kernel_rfl) (by kernel_rfl)) (by kernel_rfl) rfl) ?_
    refine sv 3 rfl rfl rfl (fun a u hE hD hk => exec_loadi 3 Try.underlying3 (.tmp 17) ⟨g, 0, none⟩ (.int .i64 o.tr) rfl (hD 1 17 (by kernel_rfl)) (range_int (range_kept HO1.out hk) 0 _ rfl)) ?_
    refine sv 4 rfl rfl rfl (fun a u hE hD hk => exec_fldo 25 1 1 (.tmp 3) (g) (0) (1) rfl (hE 3 (.pointer (some ⟨g, 0, none⟩)) (by kernel_rfl) (by kernel_rfl)) (by kernel_rfl) rfl) ?_
    refine sv 5 rfl rfl rfl (fun a u hE hD hk => exec_loadi 3 Try.underlying3 (.tmp 19) ⟨g, 1, none⟩ (.int .i64 o.id) rfl (hD 3 19 (by kernel_rfl)) (range_int (range_kept HO1.out hk) 1 _ rfl)) ?_
    refine fsteps_cons 6 rfl (fun a u hE hD hk => f_call (o := ⟨some 21, _, _, _, _, _⟩) 28 #[.pointer (some ⟨p, 0, none⟩), .int .i64 o.tr, .int .i64 o.id] rfl (wanted_none rfl _) (exec_call 28 _ [.tmp 16, .tmp 18, .tmp 20] _ [.pointer (some ⟨p, 0, none⟩), .int .i64 o.tr, .int .i64 o.id] Try.func28 (by kernel_rfl) (by kernel_rfl) rfl (show [a.eval (.tmp 16), a.eval (.tmp 18), a.eval (.tmp 20)] = [.pointer (some ⟨p, 0, none⟩), .int .i64 o.tr, .int .i64 o.id] from (by rw [show a.eval (.tmp 16) = .pointer (some ⟨p, 0, none⟩) from (hD 0 16 (by kernel_rfl)), show a.eval (.tmp 18) = .int .i64 o.tr from (hD 2 18 (by kernel_rfl)), show a.eval (.tmp 20) = .int .i64 o.id from (hD 4 20 (by kernel_rfl))] <;> rfl)) u) ((by rw [← HFO.out, ← HHB.out]; exact bfind_any u F p B o.tr o.id (HB.out.kept (kx.trans hk)) HI.out))) ?_
    refine sv 7 rfl rfl rfl (fun a u hE hD hk => exec_move (.tmp 21) _ rfl (hD 5 21 (by kernel_rfl))) ?_
    refine sv 8 rfl rfl rfl (fun a u hE hD hk => exec_extract (.tmp 15) [fo.v, .bool hb] 0 (fo.v) rfl (hD 6 15 (by kernel_rfl)) rfl) ?_
    refine sv 9 rfl rfl rfl (fun a u hE hD hk => exec_extract (.tmp 15) [fo.v, .bool hb] 1 (.bool hb) rfl (hD 6 15 (by kernel_rfl)) rfl) ?_
    refine fsteps_cons 10 rfl (fun a u hE hD hk => f_new (o := ⟨some 5, _, _, _, _, _⟩) (.pointer (some ⟨u.heap.size, 0, none⟩)) _ rfl (wanted_none rfl _) (exec_alc 25 zeroO.cells rfl zO) ⟨_, rfl, hk.size, Blk.new u _ _⟩ ((Keep.refl _ u).alloc _)) ?_
    exact fsteps_nil
   intro gv w2 hV k2
   rw [show dstsOf _ 10 = [16, 17, 18, 19, 20, 21, 15, 22, 23, 5] by kernel_rfl]
   simp only [fC, fN, sA, sS, sZ, dS, dZ]
   have hv5 : (.fresh w1.heap.size 25 zeroO.cells : Kn).p (gv 5) w2 := hV 9 5 (by kernel_rfl)
   generalize gv 5 = v5 at hv5 ⊢
   rw [show gv 22 = fo.v from hV 7 22 (by kernel_rfl)]
   rw [show gv 23 = .bool hb from hV 8 23 (by kernel_rfl)]
   clear hV
   obtain ⟨b5, rfl, hb5, hB5⟩ := hv5
   refine l_setS (o := ⟨none, _, _, _, _, _⟩) 25 b5 25 zeroO.cells fo.cells (.tmp 5) (.tmp 22) rfl rfl (by kernel_rfl) (by kernel_rfl) hB5 (by rw [Ord.len9]; exact ord_size) (by rw [Ord.len9, Ord.len9]) (Ord.one1 _) ?_
   intro w3 hB3 hk3 hs3
   simp only [Act.put]
   refine l_val (o := ⟨some 6, _, _, _, _, _⟩) (.bool hb) rfl (exec_assign (.tmp 23) (.bool hb) rfl (by kernel_rfl)) ?_
   simp only [Act.put, sA, sS, sZ]
   refine wpList_nil ?_
   have k13 : Kept w1 w3 := k2.trans' hk3 (by omega)
   have kx3 := kx.trans k13
   have HO3 := Lib.hid (range_kept HO1.out k13)
   clear hB5 hB3 hk3 hs3 k2 k13 HO1
   cases hb with
   | true =>
    have HE : Hid (B.err o = 5) := by show _ = _; unfold Bok.err; rw [if_neg (fun h => h ⟨HR.out, HST.out⟩), if_pos (show B.has o.tr o.id = true from HHB.out)]
    have kx := kx3
    clear HO3 HFO HHB kx3
    go_wp2
    go_ret
    exact ⟨by rw [HE.out]; rfl, kx⟩
   | false =>
    have HNH : Hid (¬ B.has o.tr o.id = true) := by show ¬ _; unfold Bok.has; rw [HHB.out]; simp
    clear HFO HHB kx
    obtain ⟨mr, hmr⟩ : ∃ x, (decide (o.k = 1) || decide (o.k = 5)) = x := ⟨_, rfl⟩
    have HMR := Lib.hid hmr
    have hmr1 : mr = true ↔ (o.k = 1 ∨ o.k = 5) := by rw [← hmr]; simp
    have HM1 := Lib.hid hmr1
    clear hmr hmr1
    by_cases hfull : mr = true ∧ 64 ≤ B.len
    ·obtain ⟨hm1, hln0⟩ := hfull
     subst hm1
     have hln : (64 : Int) ≤ (B.len : Int) := by omega
     have HE : Hid (B.err o = 4) := by show _ = _; unfold Bok.err; rw [if_neg (fun h => h ⟨HR.out, HST.out⟩), if_neg HNH.out, if_pos ⟨HM1.out.1 rfl, hln0⟩]
     go_upto_region 6 with fail
     refine wp_text 7 [.eq (o.v), .eq (.bool true), .eq (.bool true), .eq (.pointer (some ⟨p, 0, none⟩)), .eq (.int .i64 (B.len : Int)), .eq (.bool true), .eq (.bool true)] rfl (by kernel_rfl) ?_ ?_
     ·refine sv 1 rfl rfl rfl (fun a u hE hD hk => exec_ldS 25 _ (.tmp 3) (g) (0) (o.cells) rfl (hE 3 (.pointer (some ⟨g, 0, none⟩)) (by kernel_rfl) (by kernel_rfl)) (range_kept HO3.out hk) Try.underlying25 (by rw [o.len9]; exact ord_size)) ?_
      refine fsteps_cons 2 rfl (fun a u hE hD hk => f_call (o := ⟨some 26, _, _, _, _, _⟩) 41 #[o.v] rfl (wanted_none rfl _) (exec_call 41 _ [.tmp 25] _ [o.v] Try.func41 (by kernel_rfl) (by kernel_rfl) rfl (show [a.eval (.tmp 25)] = [o.v] from (by rw [show a.eval (.tmp 25) = o.v from (hD 0 25 (by kernel_rfl))] <;> rfl)) u) ((by rw [← HMR.out]; exact mayRest_any u o))) ?_
      refine sv 3 rfl rfl rfl (fun a u hE hD hk => exec_move (.tmp 26) _ rfl (hD 1 26 (by kernel_rfl))) ?_
      refine fsteps_cons 4 rfl (fun a u hE hD hk => f_val (o := ⟨some 28, _, _, _, _, _⟩) (.pointer (some ⟨p, 0, none⟩)) rfl (wanted_at (b := true) true rfl rfl (hD 2 27 (by kernel_rfl))) (exec_move (.tmp 0) _ rfl (hE 0 (.pointer (some ⟨p, 0, none⟩)) (by kernel_rfl) (by kernel_rfl))) rfl) ?_
      refine fsteps_cons 5 rfl (fun a u hE hD hk => f_call (o := ⟨some 29, _, _, _, _, _⟩) 33 #[.pointer (some ⟨p, 0, none⟩)] rfl (wanted_at (b := true) true rfl rfl (hD 2 27 (by kernel_rfl))) (exec_call 33 _ [.tmp 28] _ [.pointer (some ⟨p, 0, none⟩)] Try.func33 (by kernel_rfl) (by kernel_rfl) rfl (show [a.eval (.tmp 28)] = [.pointer (some ⟨p, 0, none⟩)] from (by rw [show a.eval (.tmp 28) = .pointer (some ⟨p, 0, none⟩) from (hD 3 28 (by kernel_rfl))] <;> rfl)) u) (blen_any u F p B (HB.out.kept (kx3.trans hk)) HI.out)) ?_
      refine fsteps_cons 6 rfl (fun a u hE hD hk => f_as (show ((decide ((64 : Int) ≤ ((B.len : Int) : Int))) : Bool) = true from decide_eq_true hln) (f_val (o := ⟨some 30, _, _, _, _, _⟩) (.bool (decide ((64 : Int) ≤ ((B.len : Int) : Int)))) rfl (wanted_at (b := true) true rfl rfl (hD 2 27 (by kernel_rfl))) (exec_gen (p := (B.len : Int)) (q := 64) rfl (hD 4 29 (by kernel_rfl)) rfl) rfl)) ?_
      refine sv 7 rfl rfl rfl (fun a u hE hD hk => exec_pick (.tmp 27) (.tmp 30) (.const (.bool false)) (.bool true) rfl (hD 2 27 (by kernel_rfl)) (hD 5 30 (by kernel_rfl))) ?_
      exact fsteps_nil
     intro gv w4 hV k4
     rw [show dstsOf _ 7 = [25, 26, 27, 28, 29, 30, 31] by kernel_rfl]
     simp only [fC, fN, sA, sS, sZ, dS, dZ]
     rw [show gv 31 = .bool true from hV 6 31 (by kernel_rfl)]
     clear hV
     refine wpList_nil ?_
     have kx := kx3.trans k4
     clear HO3 k4 kx3 hln hln0
     go_wp2
     go_ret
     exact ⟨by rw [HE.out]; rfl, kx⟩
    ·have HNF : Hid (¬ ((o.k = 1 ∨ o.k = 5) ∧ 64 ≤ B.len)) := fun h => hfull ⟨HM1.out.2 h.1, h.2⟩
     have hE0 : B.err o = if o.k = 5 ∧ o.meets (B.sd (3 - o.side)) = true then 11 else if o.k = 4 ∧ 0 < (B.matched o).left then 12 else 0 := by
      unfold Bok.err
      rw [if_neg (fun h => h ⟨HR.out, HST.out⟩), if_neg HNH.out, if_neg HNF.out]
     have HE0 := Lib.hid hE0
     clear hE0
     have h4 : ∀ (K : Nat → Prop), True := fun _ => trivial
     clear h4
     obtain ⟨mb, hmb⟩ : ∃ x, o.meets (B.sd (3 - o.side)) = x := ⟨_, rfl⟩
     have HCR := Lib.hid hmb
     obtain ⟨gv0, hgv0⟩ : ∃ x, givesM o (B.sd (3 - o.side)) = x := ⟨_, rfl⟩
     have HGV := Lib.hid hgv0
     have HGL : Hid (gv0 < o.qty ↔ 0 < (B.matched o).left) := by
      have h1 := gives_left o (B.sd (3 - o.side)) B.no o.qty (by have := HQ.out; omega) HSID.out
      show _ ↔ _
      rw [hgv0] at h1
      unfold Bok.matched
      omega
     clear hmb hgv0
     cases mr with
     | true =>
      have hln : ¬ (64 : Int) ≤ (B.len : Int) := fun h => hfull ⟨rfl, by omega⟩
      clear hfull
      go_upto_region 6 with fail
      refine wp_text 7 [.eq (o.v), .eq (.bool true), .eq (.bool true), .eq (.pointer (some ⟨p, 0, none⟩)), .eq (.int .i64 (B.len : Int)), .eq (.bool false), .eq (.bool false)] rfl (by kernel_rfl) ?_ ?_
      ·refine sv 1 rfl rfl rfl (fun a u hE hD hk => exec_ldS 25 _ (.tmp 3) (g) (0) (o.cells) rfl (hE 3 (.pointer (some ⟨g, 0, none⟩)) (by kernel_rfl) (by kernel_rfl)) (range_kept HO3.out hk) Try.underlying25 (by rw [o.len9]; exact ord_size)) ?_
       refine fsteps_cons 2 rfl (fun a u hE hD hk => f_call (o := ⟨some 26, _, _, _, _, _⟩) 41 #[o.v] rfl (wanted_none rfl _) (exec_call 41 _ [.tmp 25] _ [o.v] Try.func41 (by kernel_rfl) (by kernel_rfl) rfl (show [a.eval (.tmp 25)] = [o.v] from (by rw [show a.eval (.tmp 25) = o.v from (hD 0 25 (by kernel_rfl))] <;> rfl)) u) ((by rw [← HMR.out]; exact mayRest_any u o))) ?_
       refine sv 3 rfl rfl rfl (fun a u hE hD hk => exec_move (.tmp 26) _ rfl (hD 1 26 (by kernel_rfl))) ?_
       refine fsteps_cons 4 rfl (fun a u hE hD hk => f_val (o := ⟨some 28, _, _, _, _, _⟩) (.pointer (some ⟨p, 0, none⟩)) rfl (wanted_at (b := true) true rfl rfl (hD 2 27 (by kernel_rfl))) (exec_move (.tmp 0) _ rfl (hE 0 (.pointer (some ⟨p, 0, none⟩)) (by kernel_rfl) (by kernel_rfl))) rfl) ?_
       refine fsteps_cons 5 rfl (fun a u hE hD hk => f_call (o := ⟨some 29, _, _, _, _, _⟩) 33 #[.pointer (some ⟨p, 0, none⟩)] rfl (wanted_at (b := true) true rfl rfl (hD 2 27 (by kernel_rfl))) (exec_call 33 _ [.tmp 28] _ [.pointer (some ⟨p, 0, none⟩)] Try.func33 (by kernel_rfl) (by kernel_rfl) rfl (show [a.eval (.tmp 28)] = [.pointer (some ⟨p, 0, none⟩)] from (by rw [show a.eval (.tmp 28) = .pointer (some ⟨p, 0, none⟩) from (hD 3 28 (by kernel_rfl))] <;> rfl)) u) (blen_any u F p B (HB.out.kept (kx3.trans hk)) HI.out)) ?_
       refine fsteps_cons 6 rfl (fun a u hE hD hk => f_as (show ((decide ((64 : Int) ≤ ((B.len : Int) : Int))) : Bool) = false from decide_eq_false hln) (f_val (o := ⟨some 30, _, _, _, _, _⟩) (.bool (decide ((64 : Int) ≤ ((B.len : Int) : Int)))) rfl (wanted_at (b := true) true rfl rfl (hD 2 27 (by kernel_rfl))) (exec_gen (p := (B.len : Int)) (q := 64) rfl (hD 4 29 (by kernel_rfl)) rfl) rfl)) ?_
       refine sv 7 rfl rfl rfl (fun a u hE hD hk => exec_pick (.tmp 27) (.tmp 30) (.const (.bool false)) (.bool false) rfl (hD 2 27 (by kernel_rfl)) (hD 5 30 (by kernel_rfl))) ?_
       exact fsteps_nil
      intro gv w4 hV k4
      rw [show dstsOf _ 7 = [25, 26, 27, 28, 29, 30, 31] by kernel_rfl]
      simp only [fC, fN, sA, sS, sZ, dS, dZ]
      rw [show gv 31 = .bool false from hV 6 31 (by kernel_rfl)]
      clear hV
      refine wpList_nil ?_
      clear hln
      have kx4 := kx3.trans k4
      have HO4 := Lib.hid (range_kept HO3.out k4)
      clear HO3 k4 kx3
      by_cases hk5 : o.k = 5
      ·skip
       have HK5 := Lib.hid hk5
       have hk4 : ¬ o.k = 4 := by omega
       cases mb with
       | true =>
        have HE : Hid (B.err o = 11) := by show _ = _; rw [HE0.out, if_pos ⟨hk5, HCR.out⟩]
        go_upto_region 8 with fail
        refine wp_free 10 [.eq (.pointer (some ⟨g, 4, none⟩)), .eq (.int .i64 o.k), .eq (.bool true), .eq (.bool true), .eq (.pointer (some ⟨p, 0, none⟩)), .eq (o.v), .eq (.pointer (some ⟨p, offS (3 - o.side), none⟩)), .eq (o.v), .eq (.bool true), .eq (.bool true)] (by kernel_rfl) rfl (by kernel_rfl) ?_ ?_
        ·refine sv 1 rfl rfl rfl (fun a u hE hD hk => exec_fldo 25 4 4 (.tmp 3) (g) (0) (4) rfl (hE 3 (.pointer (some ⟨g, 0, none⟩)) (by kernel_rfl) (by kernel_rfl)) (by kernel_rfl) rfl) ?_
         refine sv 2 rfl rfl rfl (fun a u hE hD hk => exec_loadi 3 Try.underlying3 (.tmp 32) ⟨g, 4, none⟩ (.int .i64 o.k) rfl (hD 0 32 (by kernel_rfl)) (range_int (range_kept HO4.out hk) 4 _ rfl)) ?_
         refine fsteps_cons 3 rfl (fun a u hE hD hk => f_as (show ((decide ((o.k : Int) = (5 : Int))) : Bool) = true from decide_eq_true hk5) (f_val (o := ⟨some 34, _, _, _, _, _⟩) (.bool (decide ((o.k : Int) = (5 : Int)))) rfl (wanted_none rfl _) (exec_eqn (p := o.k) (q := 5) rfl (hD 1 33 (by kernel_rfl)) rfl) rfl)) ?_
         refine sv 4 rfl rfl rfl (fun a u hE hD hk => exec_move (.tmp 34) _ rfl (hD 2 34 (by kernel_rfl))) ?_
         refine fsteps_cons 5 rfl (fun a u hE hD hk => f_val (o := ⟨some 36, _, _, _, _, _⟩) (.pointer (some ⟨p, 0, none⟩)) rfl (wanted_at (b := true) true rfl rfl (hD 3 35 (by kernel_rfl))) (exec_move (.tmp 0) _ rfl (hE 0 (.pointer (some ⟨p, 0, none⟩)) (by kernel_rfl) (by kernel_rfl))) rfl) ?_
         refine fsteps_cons 6 rfl (fun a u hE hD hk => f_val (o := ⟨some 37, _, _, _, _, _⟩) (o.v) rfl (wanted_at (b := true) true rfl rfl (hD 3 35 (by kernel_rfl))) (exec_ldS 25 _ (.tmp 3) (g) (0) (o.cells) rfl (hE 3 (.pointer (some ⟨g, 0, none⟩)) (by kernel_rfl) (by kernel_rfl)) (range_kept HO4.out hk) Try.underlying25 (by rw [o.len9]; exact ord_size)) rfl) ?_
         refine fsteps_cons 7 rfl (fun a u hE hD hk => f_call (o := ⟨some 38, _, _, _, _, _⟩) 63 #[.pointer (some ⟨p, 0, none⟩), o.v] rfl (wanted_at (b := true) true rfl rfl (hD 3 35 (by kernel_rfl))) (exec_call 63 _ [.tmp 36, .tmp 37] _ [.pointer (some ⟨p, 0, none⟩), o.v] Try.func63 (by kernel_rfl) (by kernel_rfl) rfl (show [a.eval (.tmp 36), a.eval (.tmp 37)] = [.pointer (some ⟨p, 0, none⟩), o.v] from (by rw [show a.eval (.tmp 36) = .pointer (some ⟨p, 0, none⟩) from (hD 4 36 (by kernel_rfl)), show a.eval (.tmp 37) = o.v from (hD 5 37 (by kernel_rfl))] <;> rfl)) u) (against_any u p o HSD.out)) ?_
         refine fsteps_cons 8 rfl (fun a u hE hD hk => f_val (o := ⟨some 39, _, _, _, _, _⟩) (o.v) rfl (wanted_at (b := true) true rfl rfl (hD 3 35 (by kernel_rfl))) (exec_ldS 25 _ (.tmp 3) (g) (0) (o.cells) rfl (hE 3 (.pointer (some ⟨g, 0, none⟩)) (by kernel_rfl) (by kernel_rfl)) (range_kept HO4.out hk) Try.underlying25 (by rw [o.len9]; exact ord_size)) rfl) ?_
         refine fsteps_cons 9 rfl (fun a u hE hD hk => f_call (o := ⟨some 40, _, _, _, _, _⟩) 64 #[.pointer (some ⟨p, offS (3 - o.side), none⟩), o.v] rfl (wanted_at (b := true) true rfl rfl (hD 3 35 (by kernel_rfl))) (exec_call 64 _ [.tmp 38, .tmp 39] _ [.pointer (some ⟨p, offS (3 - o.side), none⟩), o.v] Try.func64 (by kernel_rfl) (by kernel_rfl) rfl (show [a.eval (.tmp 38), a.eval (.tmp 39)] = [.pointer (some ⟨p, offS (3 - o.side), none⟩), o.v] from (by rw [show a.eval (.tmp 38) = .pointer (some ⟨p, offS (3 - o.side), none⟩) from (hD 6 38 (by kernel_rfl)), show a.eval (.tmp 39) = o.v from (hD 7 39 (by kernel_rfl))] <;> rfl)) u) ((by obtain ⟨F', hLd⟩ := (HB.out.kept (kx4.trans hk)).lad HS3.out; rw [← HCR.out]; exact crossed_any u F' p (offS (3 - o.side)) (3 - o.side) _ o hLd HL64.out))) ?_
         refine sv 10 rfl rfl rfl (fun a u hE hD hk => exec_pick (.tmp 35) (.tmp 40) (.const (.bool false)) (.bool true) rfl (hD 3 35 (by kernel_rfl)) (hD 8 40 (by kernel_rfl))) ?_
         exact fsteps_nil
        intro gv w5 hV k5
        rw [show dstsOf _ 10 = [32, 33, 34, 35, 36, 37, 38, 39, 40, 41] by kernel_rfl]
        simp only [fC, fN, sA, sS, sZ, dS, dZ]
        rw [show gv 41 = .bool true from hV 9 41 (by kernel_rfl)]
        clear hV
        refine wpList_nil ?_
        have kx := kx4.trans k5
        clear HO4 k5 kx4 hk5 hk4
        go_wp2
        go_ret
        exact ⟨by rw [HE.out]; rfl, kx⟩
       | false =>
        have HE : Hid (B.err o = 0) := by show _ = _; rw [HE0.out, if_neg (fun h => by rw [HCR.out] at h; cases h.2), if_neg (fun h => hk4 h.1)]
        go_upto_region 8 with fail
        refine wp_free 10 [.eq (.pointer (some ⟨g, 4, none⟩)), .eq (.int .i64 o.k), .eq (.bool true), .eq (.bool true), .eq (.pointer (some ⟨p, 0, none⟩)), .eq (o.v), .eq (.pointer (some ⟨p, offS (3 - o.side), none⟩)), .eq (o.v), .eq (.bool false), .eq (.bool false)] (by kernel_rfl) rfl (by kernel_rfl) ?_ ?_
        ·refine sv 1 rfl rfl rfl (fun a u hE hD hk => exec_fldo 25 4 4 (.tmp 3) (g) (0) (4) rfl (hE 3 (.pointer (some ⟨g, 0, none⟩)) (by kernel_rfl) (by kernel_rfl)) (by kernel_rfl) rfl) ?_
         refine sv 2 rfl rfl rfl (fun a u hE hD hk => exec_loadi 3 Try.underlying3 (.tmp 32) ⟨g, 4, none⟩ (.int .i64 o.k) rfl (hD 0 32 (by kernel_rfl)) (range_int (range_kept HO4.out hk) 4 _ rfl)) ?_
         refine fsteps_cons 3 rfl (fun a u hE hD hk => f_as (show ((decide ((o.k : Int) = (5 : Int))) : Bool) = true from decide_eq_true hk5) (f_val (o := ⟨some 34, _, _, _, _, _⟩) (.bool (decide ((o.k : Int) = (5 : Int)))) rfl (wanted_none rfl _) (exec_eqn (p := o.k) (q := 5) rfl (hD 1 33 (by kernel_rfl)) rfl) rfl)) ?_
         refine sv 4 rfl rfl rfl (fun a u hE hD hk => exec_move (.tmp 34) _ rfl (hD 2 34 (by kernel_rfl))) ?_
         refine fsteps_cons 5 rfl (fun a u hE hD hk => f_val (o := ⟨some 36, _, _, _, _, _⟩) (.pointer (some ⟨p, 0, none⟩)) rfl (wanted_at (b := true) true rfl rfl (hD 3 35 (by kernel_rfl))) (exec_move (.tmp 0) _ rfl (hE 0 (.pointer (some ⟨p, 0, none⟩)) (by kernel_rfl) (by kernel_rfl))) rfl) ?_
         refine fsteps_cons 6 rfl (fun a u hE hD hk => f_val (o := ⟨some 37, _, _, _, _, _⟩) (o.v) rfl (wanted_at (b := true) true rfl rfl (hD 3 35 (by kernel_rfl))) (exec_ldS 25 _ (.tmp 3) (g) (0) (o.cells) rfl (hE 3 (.pointer (some ⟨g, 0, none⟩)) (by kernel_rfl) (by kernel_rfl)) (range_kept HO4.out hk) Try.underlying25 (by rw [o.len9]; exact ord_size)) rfl) ?_
         refine fsteps_cons 7 rfl (fun a u hE hD hk => f_call (o := ⟨some 38, _, _, _, _, _⟩) 63 #[.pointer (some ⟨p, 0, none⟩), o.v] rfl (wanted_at (b := true) true rfl rfl (hD 3 35 (by kernel_rfl))) (exec_call 63 _ [.tmp 36, .tmp 37] _ [.pointer (some ⟨p, 0, none⟩), o.v] Try.func63 (by kernel_rfl) (by kernel_rfl) rfl (show [a.eval (.tmp 36), a.eval (.tmp 37)] = [.pointer (some ⟨p, 0, none⟩), o.v] from (by rw [show a.eval (.tmp 36) = .pointer (some ⟨p, 0, none⟩) from (hD 4 36 (by kernel_rfl)), show a.eval (.tmp 37) = o.v from (hD 5 37 (by kernel_rfl))] <;> rfl)) u) (against_any u p o HSD.out)) ?_
         refine fsteps_cons 8 rfl (fun a u hE hD hk => f_val (o := ⟨some 39, _, _, _, _, _⟩) (o.v) rfl (wanted_at (b := true) true rfl rfl (hD 3 35 (by kernel_rfl))) (exec_ldS 25 _ (.tmp 3) (g) (0) (o.cells) rfl (hE 3 (.pointer (some ⟨g, 0, none⟩)) (by kernel_rfl) (by kernel_rfl)) (range_kept HO4.out hk) Try.underlying25 (by rw [o.len9]; exact ord_size)) rfl) ?_
         refine fsteps_cons 9 rfl (fun a u hE hD hk => f_call (o := ⟨some 40, _, _, _, _, _⟩) 64 #[.pointer (some ⟨p, offS (3 - o.side), none⟩), o.v] rfl (wanted_at (b := true) true rfl rfl (hD 3 35 (by kernel_rfl))) (exec_call 64 _ [.tmp 38, .tmp 39] _ [.pointer (some ⟨p, offS (3 - o.side), none⟩), o.v] Try.func64 (by kernel_rfl) (by kernel_rfl) rfl (show [a.eval (.tmp 38), a.eval (.tmp 39)] = [.pointer (some ⟨p, offS (3 - o.side), none⟩), o.v] from (by rw [show a.eval (.tmp 38) = .pointer (some ⟨p, offS (3 - o.side), none⟩) from (hD 6 38 (by kernel_rfl)), show a.eval (.tmp 39) = o.v from (hD 7 39 (by kernel_rfl))] <;> rfl)) u) ((by obtain ⟨F', hLd⟩ := (HB.out.kept (kx4.trans hk)).lad HS3.out; rw [← HCR.out]; exact crossed_any u F' p (offS (3 - o.side)) (3 - o.side) _ o hLd HL64.out))) ?_
         refine sv 10 rfl rfl rfl (fun a u hE hD hk => exec_pick (.tmp 35) (.tmp 40) (.const (.bool false)) (.bool false) rfl (hD 3 35 (by kernel_rfl)) (hD 8 40 (by kernel_rfl))) ?_
         exact fsteps_nil
        intro gv w5 hV k5
        rw [show dstsOf _ 10 = [32, 33, 34, 35, 36, 37, 38, 39, 40, 41] by kernel_rfl]
        simp only [fC, fN, sA, sS, sZ, dS, dZ]
        rw [show gv 41 = .bool false from hV 9 41 (by kernel_rfl)]
        clear hV
        refine wpList_nil ?_
        have kx5 := kx4.trans k5
        have HO5 := Lib.hid (range_kept HO4.out k5)
        clear HO4 k5 kx4 hk5
        go_upto_region 10 with fail
        refine wp_free 13 [.eq (.pointer (some ⟨g, 4, none⟩)), .eq (.int .i64 o.k), .eq (.bool false), .eq (.bool false), .eq undef, .eq undef, .eq undef, .eq undef, .eq undef, .eq undef, .eq undef, .eq undef, .eq (.bool false)] (by kernel_rfl) rfl (by kernel_rfl) ?_ ?_
        ·refine sv 1 rfl rfl rfl (fun a u hE hD hk => exec_fldo 25 4 4 (.tmp 3) (g) (0) (4) rfl (hE 3 (.pointer (some ⟨g, 0, none⟩)) (by kernel_rfl) (by kernel_rfl)) (by kernel_rfl) rfl) ?_
         refine sv 2 rfl rfl rfl (fun a u hE hD hk => exec_loadi 3 Try.underlying3 (.tmp 42) ⟨g, 4, none⟩ (.int .i64 o.k) rfl (hD 0 42 (by kernel_rfl)) (range_int (range_kept HO5.out hk) 4 _ rfl)) ?_
         refine fsteps_cons 3 rfl (fun a u hE hD hk => f_as (show ((decide ((o.k : Int) = (4 : Int))) : Bool) = false from decide_eq_false hk4) (f_val (o := ⟨some 44, _, _, _, _, _⟩) (.bool (decide ((o.k : Int) = (4 : Int)))) rfl (wanted_none rfl _) (exec_eqn (p := o.k) (q := 4) rfl (hD 1 43 (by kernel_rfl)) rfl) rfl)) ?_
         refine sv 4 rfl rfl rfl (fun a u hE hD hk => exec_move (.tmp 44) _ rfl (hD 2 44 (by kernel_rfl))) ?_
         refine fsteps_cons 5 rfl (fun a u hE hD hk => f_skip (o := ⟨some 46, _, _, _, _, _⟩) rfl (wanted_at (b := true) false rfl rfl (hD 3 45 (by kernel_rfl))) rfl) ?_
         refine fsteps_cons 6 rfl (fun a u hE hD hk => f_skip (o := ⟨some 47, _, _, _, _, _⟩) rfl (wanted_at (b := true) false rfl rfl (hD 3 45 (by kernel_rfl))) rfl) ?_
         refine fsteps_cons 7 rfl (fun a u hE hD hk => f_skip (o := ⟨some 48, _, _, _, _, _⟩) rfl (wanted_at (b := true) false rfl rfl (hD 3 45 (by kernel_rfl))) rfl) ?_
         refine fsteps_cons 8 rfl (fun a u hE hD hk => f_skip (o := ⟨some 49, _, _, _, _, _⟩) rfl (wanted_at (b := true) false rfl rfl (hD 3 45 (by kernel_rfl))) rfl) ?_
         refine fsteps_cons 9 rfl (fun a u hE hD hk => f_skip (o := ⟨some 50, _, _, _, _, _⟩) rfl (wanted_at (b := true) false rfl rfl (hD 3 45 (by kernel_rfl))) rfl) ?_
         refine fsteps_cons 10 rfl (fun a u hE hD hk => f_skip (o := ⟨some 51, _, _, _, _, _⟩) rfl (wanted_at (b := true) false rfl rfl (hD 3 45 (by kernel_rfl))) rfl) ?_
         refine fsteps_cons 11 rfl (fun a u hE hD hk => f_skip (o := ⟨some 52, _, _, _, _, _⟩) rfl (wanted_at (b := true) false rfl rfl (hD 3 45 (by kernel_rfl))) rfl) ?_
         refine fsteps_cons 12 rfl (fun a u hE hD hk => f_skip (o := ⟨some 53, _, _, _, _, _⟩) rfl (wanted_at (b := true) false rfl rfl (hD 3 45 (by kernel_rfl))) rfl) ?_
         refine sv 13 rfl rfl rfl (fun a u hE hD hk => exec_pickF (.tmp 45) (.tmp 53) (.const (.bool false)) (.bool false) rfl (hD 3 45 (by kernel_rfl)) rfl) ?_
         exact fsteps_nil
        intro gv w6 hV k6
        rw [show dstsOf _ 13 = [42, 43, 44, 45, 46, 47, 48, 49, 50, 51, 52, 53, 54] by kernel_rfl]
        simp only [fC, fN, sA, sS, sZ, dS, dZ]
        rw [show gv 54 = .bool false from hV 12 54 (by kernel_rfl)]
        clear hV
        refine wpList_nil ?_
        have kx := kx5.trans k6
        clear HO5 k6 kx5 hk4
        go_wp2
        go_ret
        exact ⟨by rw [HE.out]; rfl, kx⟩
      ·skip
       go_upto_region 8 with fail
       refine wp_free 10 [.eq (.pointer (some ⟨g, 4, none⟩)), .eq (.int .i64 o.k), .eq (.bool false), .eq (.bool false), .eq undef, .eq undef, .eq undef, .eq undef, .eq undef, .eq (.bool false)] (by kernel_rfl) rfl (by kernel_rfl) ?_ ?_
       ·refine sv 1 rfl rfl rfl (fun a u hE hD hk => exec_fldo 25 4 4 (.tmp 3) (g) (0) (4) rfl (hE 3 (.pointer (some ⟨g, 0, none⟩)) (by kernel_rfl) (by kernel_rfl)) (by kernel_rfl) rfl) ?_
        refine sv 2 rfl rfl rfl (fun a u hE hD hk => exec_loadi 3 Try.underlying3 (.tmp 32) ⟨g, 4, none⟩ (.int .i64 o.k) rfl (hD 0 32 (by kernel_rfl)) (range_int (range_kept HO4.out hk) 4 _ rfl)) ?_
        refine fsteps_cons 3 rfl (fun a u hE hD hk => f_as (show ((decide ((o.k : Int) = (5 : Int))) : Bool) = false from decide_eq_false hk5) (f_val (o := ⟨some 34, _, _, _, _, _⟩) (.bool (decide ((o.k : Int) = (5 : Int)))) rfl (wanted_none rfl _) (exec_eqn (p := o.k) (q := 5) rfl (hD 1 33 (by kernel_rfl)) rfl) rfl)) ?_
        refine sv 4 rfl rfl rfl (fun a u hE hD hk => exec_move (.tmp 34) _ rfl (hD 2 34 (by kernel_rfl))) ?_
        refine fsteps_cons 5 rfl (fun a u hE hD hk => f_skip (o := ⟨some 36, _, _, _, _, _⟩) rfl (wanted_at (b := true) false rfl rfl (hD 3 35 (by kernel_rfl))) rfl) ?_
        refine fsteps_cons 6 rfl (fun a u hE hD hk => f_skip (o := ⟨some 37, _, _, _, _, _⟩) rfl (wanted_at (b := true) false rfl rfl (hD 3 35 (by kernel_rfl))) rfl) ?_
        refine fsteps_cons 7 rfl (fun a u hE hD hk => f_skip (o := ⟨some 38, _, _, _, _, _⟩) rfl (wanted_at (b := true) false rfl rfl (hD 3 35 (by kernel_rfl))) rfl) ?_
        refine fsteps_cons 8 rfl (fun a u hE hD hk => f_skip (o := ⟨some 39, _, _, _, _, _⟩) rfl (wanted_at (b := true) false rfl rfl (hD 3 35 (by kernel_rfl))) rfl) ?_
        refine fsteps_cons 9 rfl (fun a u hE hD hk => f_skip (o := ⟨some 40, _, _, _, _, _⟩) rfl (wanted_at (b := true) false rfl rfl (hD 3 35 (by kernel_rfl))) rfl) ?_
        refine sv 10 rfl rfl rfl (fun a u hE hD hk => exec_pickF (.tmp 35) (.tmp 40) (.const (.bool false)) (.bool false) rfl (hD 3 35 (by kernel_rfl)) rfl) ?_
        exact fsteps_nil
       intro gv w5 hV k5
       rw [show dstsOf _ 10 = [32, 33, 34, 35, 36, 37, 38, 39, 40, 41] by kernel_rfl]
       simp only [fC, fN, sA, sS, sZ, dS, dZ]
       rw [show gv 41 = .bool false from hV 9 41 (by kernel_rfl)]
       clear hV
       refine wpList_nil ?_
       have kx5 := kx4.trans k5
       have HO5 := Lib.hid (range_kept HO4.out k5)
       have HN5 := Lib.hid hk5
       clear HO4 k5 kx4 hk5
       by_cases hk4 : o.k = 4
       ·skip
        have HK4 := Lib.hid hk4
        by_cases hgv : gv0 < o.qty
        ·have HE : Hid (B.err o = 12) := by show _ = _; rw [HE0.out, if_neg (fun h => HN5.out h.1), if_pos ⟨hk4, HGL.out.1 hgv⟩]
         go_upto_region 10 with fail
         refine wp_free 13 [.eq (.pointer (some ⟨g, 4, none⟩)), .eq (.int .i64 o.k), .eq (.bool true), .eq (.bool true), .eq (.pointer (some ⟨p, 0, none⟩)), .eq (o.v), .eq (.pointer (some ⟨p, offS (3 - o.side), none⟩)), .eq (o.v), .eq (.int .i64 gv0), .eq (.pointer (some ⟨g, 6, none⟩)), .eq (.int .i64 o.qty), .eq (.bool true), .eq (.bool true)] (by kernel_rfl) rfl (by kernel_rfl) ?_ ?_
         ·refine sv 1 rfl rfl rfl (fun a u hE hD hk => exec_fldo 25 4 4 (.tmp 3) (g) (0) (4) rfl (hE 3 (.pointer (some ⟨g, 0, none⟩)) (by kernel_rfl) (by kernel_rfl)) (by kernel_rfl) rfl) ?_
          refine sv 2 rfl rfl rfl (fun a u hE hD hk => exec_loadi 3 Try.underlying3 (.tmp 42) ⟨g, 4, none⟩ (.int .i64 o.k) rfl (hD 0 42 (by kernel_rfl)) (range_int (range_kept HO5.out hk) 4 _ rfl)) ?_
          refine fsteps_cons 3 rfl (fun a u hE hD hk => f_as (show ((decide ((o.k : Int) = (4 : Int))) : Bool) = true from decide_eq_true hk4) (f_val (o := ⟨some 44, _, _, _, _, _⟩) (.bool (decide ((o.k : Int) = (4 : Int)))) rfl (wanted_none rfl _) (exec_eqn (p := o.k) (q := 4) rfl (hD 1 43 (by kernel_rfl)) rfl) rfl)) ?_
          refine sv 4 rfl rfl rfl (fun a u hE hD hk => exec_move (.tmp 44) _ rfl (hD 2 44 (by kernel_rfl))) ?_
          refine fsteps_cons 5 rfl (fun a u hE hD hk => f_val (o := ⟨some 46, _, _, _, _, _⟩) (.pointer (some ⟨p, 0, none⟩)) rfl (wanted_at (b := true) true rfl rfl (hD 3 45 (by kernel_rfl))) (exec_move (.tmp 0) _ rfl (hE 0 (.pointer (some ⟨p, 0, none⟩)) (by kernel_rfl) (by kernel_rfl))) rfl) ?_
          refine fsteps_cons 6 rfl (fun a u hE hD hk => f_val (o := ⟨some 47, _, _, _, _, _⟩) (o.v) rfl (wanted_at (b := true) true rfl rfl (hD 3 45 (by kernel_rfl))) (exec_ldS 25 _ (.tmp 3) (g) (0) (o.cells) rfl (hE 3 (.pointer (some ⟨g, 0, none⟩)) (by kernel_rfl) (by kernel_rfl)) (range_kept HO5.out hk) Try.underlying25 (by rw [o.len9]; exact ord_size)) rfl) ?_
          refine fsteps_cons 7 rfl (fun a u hE hD hk => f_call (o := ⟨some 48, _, _, _, _, _⟩) 63 #[.pointer (some ⟨p, 0, none⟩), o.v] rfl (wanted_at (b := true) true rfl rfl (hD 3 45 (by kernel_rfl))) (exec_call 63 _ [.tmp 46, .tmp 47] _ [.pointer (some ⟨p, 0, none⟩), o.v] Try.func63 (by kernel_rfl) (by kernel_rfl) rfl (show [a.eval (.tmp 46), a.eval (.tmp 47)] = [.pointer (some ⟨p, 0, none⟩), o.v] from (by rw [show a.eval (.tmp 46) = .pointer (some ⟨p, 0, none⟩) from (hD 4 46 (by kernel_rfl)), show a.eval (.tmp 47) = o.v from (hD 5 47 (by kernel_rfl))] <;> rfl)) u) (against_any u p o HSD.out)) ?_
          refine fsteps_cons 8 rfl (fun a u hE hD hk => f_val (o := ⟨some 49, _, _, _, _, _⟩) (o.v) rfl (wanted_at (b := true) true rfl rfl (hD 3 45 (by kernel_rfl))) (exec_ldS 25 _ (.tmp 3) (g) (0) (o.cells) rfl (hE 3 (.pointer (some ⟨g, 0, none⟩)) (by kernel_rfl) (by kernel_rfl)) (range_kept HO5.out hk) Try.underlying25 (by rw [o.len9]; exact ord_size)) rfl) ?_
          refine fsteps_cons 9 rfl (fun a u hE hD hk => f_call (o := ⟨some 50, _, _, _, _, _⟩) 65 #[.pointer (some ⟨p, offS (3 - o.side), none⟩), o.v] rfl (wanted_at (b := true) true rfl rfl (hD 3 45 (by kernel_rfl))) (exec_call 65 _ [.tmp 48, .tmp 49] _ [.pointer (some ⟨p, offS (3 - o.side), none⟩), o.v] Try.func65 (by kernel_rfl) (by kernel_rfl) rfl (show [a.eval (.tmp 48), a.eval (.tmp 49)] = [.pointer (some ⟨p, offS (3 - o.side), none⟩), o.v] from (by rw [show a.eval (.tmp 48) = .pointer (some ⟨p, offS (3 - o.side), none⟩) from (hD 6 48 (by kernel_rfl)), show a.eval (.tmp 49) = o.v from (hD 7 49 (by kernel_rfl))] <;> rfl)) u) ((by obtain ⟨F', hLd⟩ := (HB.out.kept (kx5.trans hk)).lad HS3.out; rw [← HGV.out]; exact gives_any u F' p (offS (3 - o.side)) (3 - o.side) (3 - o.side) _ o hLd HSID.out))) ?_
          refine fsteps_cons 10 rfl (fun a u hE hD hk => f_val (o := ⟨some 51, _, _, _, _, _⟩) (.pointer (some ⟨g, 6, none⟩)) rfl (wanted_at (b := true) true rfl rfl (hD 3 45 (by kernel_rfl))) (exec_fldo 25 6 6 (.tmp 3) (g) (0) (6) rfl (hE 3 (.pointer (some ⟨g, 0, none⟩)) (by kernel_rfl) (by kernel_rfl)) (by kernel_rfl) rfl) rfl) ?_
          refine fsteps_cons 11 rfl (fun a u hE hD hk => f_val (o := ⟨some 52, _, _, _, _, _⟩) (.int .i64 o.qty) rfl (wanted_at (b := true) true rfl rfl (hD 3 45 (by kernel_rfl))) (exec_loadi 3 Try.underlying3 (.tmp 51) ⟨g, 6, none⟩ (.int .i64 o.qty) rfl (hD 9 51 (by kernel_rfl)) (range_int (range_kept HO5.out hk) 6 _ rfl)) rfl) ?_
          refine fsteps_cons 12 rfl (fun a u hE hD hk => f_as (show ((decide ((gv0 : Int) < (o.qty : Int))) : Bool) = true from decide_eq_true hgv) (f_val (o := ⟨some 53, _, _, _, _, _⟩) (.bool (decide ((gv0 : Int) < (o.qty : Int)))) rfl (wanted_at (b := true) true rfl rfl (hD 3 45 (by kernel_rfl))) (exec_ltn (p := gv0) (q := o.qty) rfl (hD 8 50 (by kernel_rfl)) (hD 10 52 (by kernel_rfl))) rfl)) ?_
          refine sv 13 rfl rfl rfl (fun a u hE hD hk => exec_pick (.tmp 45) (.tmp 53) (.const (.bool false)) (.bool true) rfl (hD 3 45 (by kernel_rfl)) (hD 11 53 (by kernel_rfl))) ?_
          exact fsteps_nil
         intro gv w6 hV k6
         rw [show dstsOf _ 13 = [42, 43, 44, 45, 46, 47, 48, 49, 50, 51, 52, 53, 54] by kernel_rfl]
         simp only [fC, fN, sA, sS, sZ, dS, dZ]
         rw [show gv 54 = .bool true from hV 12 54 (by kernel_rfl)]
         clear hV
         refine wpList_nil ?_
         have kx := kx5.trans k6
         clear HO5 k6 kx5 hk4 hgv
         go_wp2
         go_ret
         exact ⟨by rw [HE.out]; rfl, kx⟩
        ·have HE : Hid (B.err o = 0) := by show _ = _; rw [HE0.out, if_neg (fun h => HN5.out h.1), if_neg (fun h => hgv (HGL.out.2 h.2))]
         go_upto_region 10 with fail
         refine wp_free 13 [.eq (.pointer (some ⟨g, 4, none⟩)), .eq (.int .i64 o.k), .eq (.bool true), .eq (.bool true), .eq (.pointer (some ⟨p, 0, none⟩)), .eq (o.v), .eq (.pointer (some ⟨p, offS (3 - o.side), none⟩)), .eq (o.v), .eq (.int .i64 gv0), .eq (.pointer (some ⟨g, 6, none⟩)), .eq (.int .i64 o.qty), .eq (.bool false), .eq (.bool false)] (by kernel_rfl) rfl (by kernel_rfl) ?_ ?_
         ·refine sv 1 rfl rfl rfl (fun a u hE hD hk => exec_fldo 25 4 4 (.tmp 3) (g) (0) (4) rfl (hE 3 (.pointer (some ⟨g, 0, none⟩)) (by kernel_rfl) (by kernel_rfl)) (by kernel_rfl) rfl) ?_
          refine sv 2 rfl rfl rfl (fun a u hE hD hk => exec_loadi 3 Try.underlying3 (.tmp 42) ⟨g, 4, none⟩ (.int .i64 o.k) rfl (hD 0 42 (by kernel_rfl)) (range_int (range_kept HO5.out hk) 4 _ rfl)) ?_
          refine fsteps_cons 3 rfl (fun a u hE hD hk => f_as (show ((decide ((o.k : Int) = (4 : Int))) : Bool) = true from decide_eq_true hk4) (f_val (o := ⟨some 44, _, _, _, _, _⟩) (.bool (decide ((o.k : Int) = (4 : Int)))) rfl (wanted_none rfl _) (exec_eqn (p := o.k) (q := 4) rfl (hD 1 43 (by kernel_rfl)) rfl) rfl)) ?_
          refine sv 4 rfl rfl rfl (fun a u hE hD hk => exec_move (.tmp 44) _ rfl (hD 2 44 (by kernel_rfl))) ?_
          refine fsteps_cons 5 rfl (fun a u hE hD hk => f_val (o := ⟨some 46, _, _, _, _, _⟩) (.pointer (some ⟨p, 0, none⟩)) rfl (wanted_at (b := true) true rfl rfl (hD 3 45 (by kernel_rfl))) (exec_move (.tmp 0) _ rfl (hE 0 (.pointer (some ⟨p, 0, none⟩)) (by kernel_rfl) (by kernel_rfl))) rfl) ?_
          refine fsteps_cons 6 rfl (fun a u hE hD hk => f_val (o := ⟨some 47, _, _, _, _, _⟩) (o.v) rfl (wanted_at (b := true) true rfl rfl (hD 3 45 (by kernel_rfl))) (exec_ldS 25 _ (.tmp 3) (g) (0) (o.cells) rfl (hE 3 (.pointer (some ⟨g, 0, none⟩)) (by kernel_rfl) (by kernel_rfl)) (range_kept HO5.out hk) Try.underlying25 (by rw [o.len9]; exact ord_size)) rfl) ?_
          refine fsteps_cons 7 rfl (fun a u hE hD hk => f_call (o := ⟨some 48, _, _, _, _, _⟩) 63 #[.pointer (some ⟨p, 0, none⟩), o.v] rfl (wanted_at (b := true) true rfl rfl (hD 3 45 (by kernel_rfl))) (exec_call 63 _ [.tmp 46, .tmp 47] _ [.pointer (some ⟨p, 0, none⟩), o.v] Try.func63 (by kernel_rfl) (by kernel_rfl) rfl (show [a.eval (.tmp 46), a.eval (.tmp 47)] = [.pointer (some ⟨p, 0, none⟩), o.v] from (by rw [show a.eval (.tmp 46) = .pointer (some ⟨p, 0, none⟩) from (hD 4 46 (by kernel_rfl)), show a.eval (.tmp 47) = o.v from (hD 5 47 (by kernel_rfl))] <;> rfl)) u) (against_any u p o HSD.out)) ?_
          refine fsteps_cons 8 rfl (fun a u hE hD hk => f_val (o := ⟨some 49, _, _, _, _, _⟩) (o.v) rfl (wanted_at (b := true) true rfl rfl (hD 3 45 (by kernel_rfl))) (exec_ldS 25 _ (.tmp 3) (g) (0) (o.cells) rfl (hE 3 (.pointer (some ⟨g, 0, none⟩)) (by kernel_rfl) (by kernel_rfl)) (range_kept HO5.out hk) Try.underlying25 (by rw [o.len9]; exact ord_size)) rfl) ?_
          refine fsteps_cons 9 rfl (fun a u hE hD hk => f_call (o := ⟨some 50, _, _, _, _, _⟩) 65 #[.pointer (some ⟨p, offS (3 - o.side), none⟩), o.v] rfl (wanted_at (b := true) true rfl rfl (hD 3 45 (by kernel_rfl))) (exec_call 65 _ [.tmp 48, .tmp 49] _ [.pointer (some ⟨p, offS (3 - o.side), none⟩), o.v] Try.func65 (by kernel_rfl) (by kernel_rfl) rfl (show [a.eval (.tmp 48), a.eval (.tmp 49)] = [.pointer (some ⟨p, offS (3 - o.side), none⟩), o.v] from (by rw [show a.eval (.tmp 48) = .pointer (some ⟨p, offS (3 - o.side), none⟩) from (hD 6 48 (by kernel_rfl)), show a.eval (.tmp 49) = o.v from (hD 7 49 (by kernel_rfl))] <;> rfl)) u) ((by obtain ⟨F', hLd⟩ := (HB.out.kept (kx5.trans hk)).lad HS3.out; rw [← HGV.out]; exact gives_any u F' p (offS (3 - o.side)) (3 - o.side) (3 - o.side) _ o hLd HSID.out))) ?_
          refine fsteps_cons 10 rfl (fun a u hE hD hk => f_val (o := ⟨some 51, _, _, _, _, _⟩) (.pointer (some ⟨g, 6, none⟩)) rfl (wanted_at (b := true) true rfl rfl (hD 3 45 (by kernel_rfl))) (exec_fldo 25 6 6 (.tmp 3) (g) (0) (6) rfl (hE 3 (.pointer (some ⟨g, 0, none⟩)) (by kernel_rfl) (by kernel_rfl)) (by kernel_rfl) rfl) rfl) ?_
          refine fsteps_cons 11 rfl (fun a u hE hD hk => f_val (o := ⟨some 52, _, _, _, _, _⟩) (.int .i64 o.qty) rfl (wanted_at (b := true) true rfl rfl (hD 3 45 (by kernel_rfl))) (exec_loadi 3 Try.underlying3 (.tmp 51) ⟨g, 6, none⟩ (.int .i64 o.qty) rfl (hD 9 51 (by kernel_rfl)) (range_int (range_kept HO5.out hk) 6 _ rfl)) rfl) ?_
          refine fsteps_cons 12 rfl (fun a u hE hD hk => f_as (show ((decide ((gv0 : Int) < (o.qty : Int))) : Bool) = false from decide_eq_false hgv) (f_val (o := ⟨some 53, _, _, _, _, _⟩) (.bool (decide ((gv0 : Int) < (o.qty : Int)))) rfl (wanted_at (b := true) true rfl rfl (hD 3 45 (by kernel_rfl))) (exec_ltn (p := gv0) (q := o.qty) rfl (hD 8 50 (by kernel_rfl)) (hD 10 52 (by kernel_rfl))) rfl)) ?_
          refine sv 13 rfl rfl rfl (fun a u hE hD hk => exec_pick (.tmp 45) (.tmp 53) (.const (.bool false)) (.bool false) rfl (hD 3 45 (by kernel_rfl)) (hD 11 53 (by kernel_rfl))) ?_
          exact fsteps_nil
         intro gv w6 hV k6
         rw [show dstsOf _ 13 = [42, 43, 44, 45, 46, 47, 48, 49, 50, 51, 52, 53, 54] by kernel_rfl]
         simp only [fC, fN, sA, sS, sZ, dS, dZ]
         rw [show gv 54 = .bool false from hV 12 54 (by kernel_rfl)]
         clear hV
         refine wpList_nil ?_
         have kx := kx5.trans k6
         clear HO5 k6 kx5 hk4 hgv
         go_wp2
         go_ret
         exact ⟨by rw [HE.out]; rfl, kx⟩
       ·have HE : Hid (B.err o = 0) := by show _ = _; rw [HE0.out, if_neg (fun h => HN5.out h.1), if_neg (fun h => hk4 h.1)]
        go_upto_region 10 with fail
        refine wp_free 13 [.eq (.pointer (some ⟨g, 4, none⟩)), .eq (.int .i64 o.k), .eq (.bool false), .eq (.bool false), .eq undef, .eq undef, .eq undef, .eq undef, .eq undef, .eq undef, .eq undef, .eq undef, .eq (.bool false)] (by kernel_rfl) rfl (by kernel_rfl) ?_ ?_
        ·refine sv 1 rfl rfl rfl (fun a u hE hD hk => exec_fldo 25 4 4 (.tmp 3) (g) (0) (4) rfl (hE 3 (.pointer (some ⟨g, 0, none⟩)) (by kernel_rfl) (by kernel_rfl)) (by kernel_rfl) rfl) ?_
         refine sv 2 rfl rfl rfl (fun a u hE hD hk => exec_loadi 3 Try.underlying3 (.tmp 42) ⟨g, 4, none⟩ (.int .i64 o.k) rfl (hD 0 42 (by kernel_rfl)) (range_int (range_kept HO5.out hk) 4 _ rfl)) ?_
         refine fsteps_cons 3 rfl (fun a u hE hD hk => f_as (show ((decide ((o.k : Int) = (4 : Int))) : Bool) = false from decide_eq_false hk4) (f_val (o := ⟨some 44, _, _, _, _, _⟩) (.bool (decide ((o.k : Int) = (4 : Int)))) rfl (wanted_none rfl _) (exec_eqn (p := o.k) (q := 4) rfl (hD 1 43 (by kernel_rfl)) rfl) rfl)) ?_
         refine sv 4 rfl rfl rfl (fun a u hE hD hk => exec_move (.tmp 44) _ rfl (hD 2 44 (by kernel_rfl))) ?_
         refine fsteps_cons 5 rfl (fun a u hE hD hk => f_skip (o := ⟨some 46, _, _, _, _, _⟩) rfl (wanted_at (b := true) false rfl rfl (hD 3 45 (by kernel_rfl))) rfl) ?_
         refine fsteps_cons 6 rfl (fun a u hE hD hk => f_skip (o := ⟨some 47, _, _, _, _, _⟩) rfl (wanted_at (b := true) false rfl rfl (hD 3 45 (by kernel_rfl))) rfl) ?_
         refine fsteps_cons 7 rfl (fun a u hE hD hk => f_skip (o := ⟨some 48, _, _, _, _, _⟩) rfl (wanted_at (b := true) false rfl rfl (hD 3 45 (by kernel_rfl))) rfl) ?_
         refine fsteps_cons 8 rfl (fun a u hE hD hk => f_skip (o := ⟨some 49, _, _, _, _, _⟩) rfl (wanted_at (b := true) false rfl rfl (hD 3 45 (by kernel_rfl))) rfl) ?_
         refine fsteps_cons 9 rfl (fun a u hE hD hk => f_skip (o := ⟨some 50, _, _, _, _, _⟩) rfl (wanted_at (b := true) false rfl rfl (hD 3 45 (by kernel_rfl))) rfl) ?_
         refine fsteps_cons 10 rfl (fun a u hE hD hk => f_skip (o := ⟨some 51, _, _, _, _, _⟩) rfl (wanted_at (b := true) false rfl rfl (hD 3 45 (by kernel_rfl))) rfl) ?_
         refine fsteps_cons 11 rfl (fun a u hE hD hk => f_skip (o := ⟨some 52, _, _, _, _, _⟩) rfl (wanted_at (b := true) false rfl rfl (hD 3 45 (by kernel_rfl))) rfl) ?_
         refine fsteps_cons 12 rfl (fun a u hE hD hk => f_skip (o := ⟨some 53, _, _, _, _, _⟩) rfl (wanted_at (b := true) false rfl rfl (hD 3 45 (by kernel_rfl))) rfl) ?_
         refine sv 13 rfl rfl rfl (fun a u hE hD hk => exec_pickF (.tmp 45) (.tmp 53) (.const (.bool false)) (.bool false) rfl (hD 3 45 (by kernel_rfl)) rfl) ?_
         exact fsteps_nil
        intro gv w6 hV k6
        rw [show dstsOf _ 13 = [42, 43, 44, 45, 46, 47, 48, 49, 50, 51, 52, 53, 54] by kernel_rfl]
        simp only [fC, fN, sA, sS, sZ, dS, dZ]
        rw [show gv 54 = .bool false from hV 12 54 (by kernel_rfl)]
        clear hV
        refine wpList_nil ?_
        have kx := kx5.trans k6
        clear HO5 k6 kx5 hk4
        go_wp2
        go_ret
        exact ⟨by rw [HE.out]; rfl, kx⟩
     | false =>
      clear hfull
      go_upto_region 6 with fail
      refine wp_text 7 [.eq (o.v), .eq (.bool false), .eq (.bool false), .eq undef, .eq undef, .eq undef, .eq (.bool false)] rfl (by kernel_rfl) ?_ ?_
      ·refine sv 1 rfl rfl rfl (fun a u hE hD hk => exec_ldS 25 _ (.tmp 3) (g) (0) (o.cells) rfl (hE 3 (.pointer (some ⟨g, 0, none⟩)) (by kernel_rfl) (by kernel_rfl)) (range_kept HO3.out hk) Try.underlying25 (by rw [o.len9]; exact ord_size)) ?_
       refine fsteps_cons 2 rfl (fun a u hE hD hk => f_call (o := ⟨some 26, _, _, _, _, _⟩) 41 #[o.v] rfl (wanted_none rfl _) (exec_call 41 _ [.tmp 25] _ [o.v] Try.func41 (by kernel_rfl) (by kernel_rfl) rfl (show [a.eval (.tmp 25)] = [o.v] from (by rw [show a.eval (.tmp 25) = o.v from (hD 0 25 (by kernel_rfl))] <;> rfl)) u) ((by rw [← HMR.out]; exact mayRest_any u o))) ?_
       refine sv 3 rfl rfl rfl (fun a u hE hD hk => exec_move (.tmp 26) _ rfl (hD 1 26 (by kernel_rfl))) ?_
       refine fsteps_cons 4 rfl (fun a u hE hD hk => f_skip (o := ⟨some 28, _, _, _, _, _⟩) rfl (wanted_at (b := true) false rfl rfl (hD 2 27 (by kernel_rfl))) rfl) ?_
       refine fsteps_cons 5 rfl (fun a u hE hD hk => f_skip (o := ⟨some 29, _, _, _, _, _⟩) rfl (wanted_at (b := true) false rfl rfl (hD 2 27 (by kernel_rfl))) rfl) ?_
       refine fsteps_cons 6 rfl (fun a u hE hD hk => f_skip (o := ⟨some 30, _, _, _, _, _⟩) rfl (wanted_at (b := true) false rfl rfl (hD 2 27 (by kernel_rfl))) rfl) ?_
       refine sv 7 rfl rfl rfl (fun a u hE hD hk => exec_pickF (.tmp 27) (.tmp 30) (.const (.bool false)) (.bool false) rfl (hD 2 27 (by kernel_rfl)) rfl) ?_
       exact fsteps_nil
      intro gv w4 hV k4
      rw [show dstsOf _ 7 = [25, 26, 27, 28, 29, 30, 31] by kernel_rfl]
      simp only [fC, fN, sA, sS, sZ, dS, dZ]
      rw [show gv 31 = .bool false from hV 6 31 (by kernel_rfl)]
      clear hV
      refine wpList_nil ?_
      have kx4 := kx3.trans k4
      have HO4 := Lib.hid (range_kept HO3.out k4)
      clear HO3 k4 kx3
      by_cases hk5 : o.k = 5
      ·skip
       have HK5 := Lib.hid hk5
       have hk4 : ¬ o.k = 4 := by omega
       cases mb with
       | true =>
        have HE : Hid (B.err o = 11) := by show _ = _; rw [HE0.out, if_pos ⟨hk5, HCR.out⟩]
        go_upto_region 8 with fail
        refine wp_free 10 [.eq (.pointer (some ⟨g, 4, none⟩)), .eq (.int .i64 o.k), .eq (.bool true), .eq (.bool true), .eq (.pointer (some ⟨p, 0, none⟩)), .eq (o.v), .eq (.pointer (some ⟨p, offS (3 - o.side), none⟩)), .eq (o.v), .eq (.bool true), .eq (.bool true)] (by kernel_rfl) rfl (by kernel_rfl) ?_ ?_
        ·refine sv 1 rfl rfl rfl (fun a u hE hD hk => exec_fldo 25 4 4 (.tmp 3) (g) (0) (4) rfl (hE 3 (.pointer (some ⟨g, 0, none⟩)) (by kernel_rfl) (by kernel_rfl)) (by kernel_rfl) rfl) ?_
         refine sv 2 rfl rfl rfl (fun a u hE hD hk => exec_loadi 3 Try.underlying3 (.tmp 32) ⟨g, 4, none⟩ (.int .i64 o.k) rfl (hD 0 32 (by kernel_rfl)) (range_int (range_kept HO4.out hk) 4 _ rfl)) ?_
         refine fsteps_cons 3 rfl (fun a u hE hD hk => f_as (show ((decide ((o.k : Int) = (5 : Int))) : Bool) = true from decide_eq_true hk5) (f_val (o := ⟨some 34, _, _, _, _, _⟩) (.bool (decide ((o.k : Int) = (5 : Int)))) rfl (wanted_none rfl _) (exec_eqn (p := o.k) (q := 5) rfl (hD 1 33 (by kernel_rfl)) rfl) rfl)) ?_
         refine sv 4 rfl rfl rfl (fun a u hE hD hk => exec_move (.tmp 34) _ rfl (hD 2 34 (by kernel_rfl))) ?_
         refine fsteps_cons 5 rfl (fun a u hE hD hk => f_val (o := ⟨some 36, _, _, _, _, _⟩) (.pointer (some ⟨p, 0, none⟩)) rfl (wanted_at (b := true) true rfl rfl (hD 3 35 (by kernel_rfl))) (exec_move (.tmp 0) _ rfl (hE 0 (.pointer (some ⟨p, 0, none⟩)) (by kernel_rfl) (by kernel_rfl))) rfl) ?_
         refine fsteps_cons 6 rfl (fun a u hE hD hk => f_val (o := ⟨some 37, _, _, _, _, _⟩) (o.v) rfl (wanted_at (b := true) true rfl rfl (hD 3 35 (by kernel_rfl))) (exec_ldS 25 _ (.tmp 3) (g) (0) (o.cells) rfl (hE 3 (.pointer (some ⟨g, 0, none⟩)) (by kernel_rfl) (by kernel_rfl)) (range_kept HO4.out hk) Try.underlying25 (by rw [o.len9]; exact ord_size)) rfl) ?_
         refine fsteps_cons 7 rfl (fun a u hE hD hk => f_call (o := ⟨some 38, _, _, _, _, _⟩) 63 #[.pointer (some ⟨p, 0, none⟩), o.v] rfl (wanted_at (b := true) true rfl rfl (hD 3 35 (by kernel_rfl))) (exec_call 63 _ [.tmp 36, .tmp 37] _ [.pointer (some ⟨p, 0, none⟩), o.v] Try.func63 (by kernel_rfl) (by kernel_rfl) rfl (show [a.eval (.tmp 36), a.eval (.tmp 37)] = [.pointer (some ⟨p, 0, none⟩), o.v] from (by rw [show a.eval (.tmp 36) = .pointer (some ⟨p, 0, none⟩) from (hD 4 36 (by kernel_rfl)), show a.eval (.tmp 37) = o.v from (hD 5 37 (by kernel_rfl))] <;> rfl)) u) (against_any u p o HSD.out)) ?_
         refine fsteps_cons 8 rfl (fun a u hE hD hk => f_val (o := ⟨some 39, _, _, _, _, _⟩) (o.v) rfl (wanted_at (b := true) true rfl rfl (hD 3 35 (by kernel_rfl))) (exec_ldS 25 _ (.tmp 3) (g) (0) (o.cells) rfl (hE 3 (.pointer (some ⟨g, 0, none⟩)) (by kernel_rfl) (by kernel_rfl)) (range_kept HO4.out hk) Try.underlying25 (by rw [o.len9]; exact ord_size)) rfl) ?_
         refine fsteps_cons 9 rfl (fun a u hE hD hk => f_call (o := ⟨some 40, _, _, _, _, _⟩) 64 #[.pointer (some ⟨p, offS (3 - o.side), none⟩), o.v] rfl (wanted_at (b := true) true rfl rfl (hD 3 35 (by kernel_rfl))) (exec_call 64 _ [.tmp 38, .tmp 39] _ [.pointer (some ⟨p, offS (3 - o.side), none⟩), o.v] Try.func64 (by kernel_rfl) (by kernel_rfl) rfl (show [a.eval (.tmp 38), a.eval (.tmp 39)] = [.pointer (some ⟨p, offS (3 - o.side), none⟩), o.v] from (by rw [show a.eval (.tmp 38) = .pointer (some ⟨p, offS (3 - o.side), none⟩) from (hD 6 38 (by kernel_rfl)), show a.eval (.tmp 39) = o.v from (hD 7 39 (by kernel_rfl))] <;> rfl)) u) ((by obtain ⟨F', hLd⟩ := (HB.out.kept (kx4.trans hk)).lad HS3.out; rw [← HCR.out]; exact crossed_any u F' p (offS (3 - o.side)) (3 - o.side) _ o hLd HL64.out))) ?_
         refine sv 10 rfl rfl rfl (fun a u hE hD hk => exec_pick (.tmp 35) (.tmp 40) (.const (.bool false)) (.bool true) rfl (hD 3 35 (by kernel_rfl)) (hD 8 40 (by kernel_rfl))) ?_
         exact fsteps_nil
        intro gv w5 hV k5
        rw [show dstsOf _ 10 = [32, 33, 34, 35, 36, 37, 38, 39, 40, 41] by kernel_rfl]
        simp only [fC, fN, sA, sS, sZ, dS, dZ]
        rw [show gv 41 = .bool true from hV 9 41 (by kernel_rfl)]
        clear hV
        refine wpList_nil ?_
        have kx := kx4.trans k5
        clear HO4 k5 kx4 hk5 hk4
        go_wp2
        go_ret
        exact ⟨by rw [HE.out]; rfl, kx⟩
       | false =>
        have HE : Hid (B.err o = 0) := by show _ = _; rw [HE0.out, if_neg (fun h => by rw [HCR.out] at h; cases h.2), if_neg (fun h => hk4 h.1)]
        go_upto_region 8 with fail
        refine wp_free 10 [.eq (.pointer (some ⟨g, 4, none⟩)), .eq (.int .i64 o.k), .eq (.bool true), .eq (.bool true), .eq (.pointer (some ⟨p, 0, none⟩)), .eq (o.v), .eq (.pointer (some ⟨p, offS (3 - o.side), none⟩)), .eq (o.v), .eq (.bool false), .eq (.bool false)] (by kernel_rfl) rfl (by kernel_rfl) ?_ ?_
        ·refine sv 1 rfl rfl rfl (fun a u hE hD hk => exec_fldo 25 4 4 (.tmp 3) (g) (0) (4) rfl (hE 3 (.pointer (some ⟨g, 0, none⟩)) (by kernel_rfl) (by kernel_rfl)) (by kernel_rfl) rfl) ?_
         refine sv 2 rfl rfl rfl (fun a u hE hD hk => exec_loadi 3 Try.underlying3 (.tmp 32) ⟨g, 4, none⟩ (.int .i64 o.k) rfl (hD 0 32 (by kernel_rfl)) (range_int (range_kept HO4.out hk) 4 _ rfl)) ?_
         refine fsteps_cons 3 rfl (fun a u hE hD hk => f_as (show ((decide ((o.k : Int) = (5 : Int))) : Bool) = true from decide_eq_true hk5) (f_val (o := ⟨some 34, _, _, _, _, _⟩) (.bool (decide ((o.k : Int) = (5 : Int)))) rfl (wanted_none rfl _) (exec_eqn (p := o.k) (q := 5) rfl (hD 1 33 (by kernel_rfl)) rfl) rfl)) ?_
         refine sv 4 rfl rfl rfl (fun a u hE hD hk => exec_move (.tmp 34) _ rfl (hD 2 34 (by kernel_rfl))) ?_
         refine fsteps_cons 5 rfl (fun a u hE hD hk => f_val (o := ⟨some 36, _, _, _, _, _⟩) (.pointer (some ⟨p, 0, none⟩)) rfl (wanted_at (b := true) true rfl rfl (hD 3 35 (by kernel_rfl))) (exec_move (.tmp 0) _ rfl (hE 0 (.pointer (some ⟨p, 0, none⟩)) (by kernel_rfl) (by kernel_rfl))) rfl) ?_
         refine fsteps_cons 6 rfl (fun a u hE hD hk => f_val (o := ⟨some 37, _, _, _, _, _⟩) (o.v) rfl (wanted_at (b := true) true rfl rfl (hD 3 35 (by kernel_rfl))) (exec_ldS 25 _ (.tmp 3) (g) (0) (o.cells) rfl (hE 3 (.pointer (some ⟨g, 0, none⟩)) (by kernel_rfl) (by kernel_rfl)) (range_kept HO4.out hk) Try.underlying25 (by rw [o.len9]; exact ord_size)) rfl) ?_
         refine fsteps_cons 7 rfl (fun a u hE hD hk => f_call (o := ⟨some 38, _, _, _, _, _⟩) 63 #[.pointer (some ⟨p, 0, none⟩), o.v] rfl (wanted_at (b := true) true rfl rfl (hD 3 35 (by kernel_rfl))) (exec_call 63 _ [.tmp 36, .tmp 37] _ [.pointer (some ⟨p, 0, none⟩), o.v] Try.func63 (by kernel_rfl) (by kernel_rfl) rfl (show [a.eval (.tmp 36), a.eval (.tmp 37)] = [.pointer (some ⟨p, 0, none⟩), o.v] from (by rw [show a.eval (.tmp 36) = .pointer (some ⟨p, 0, none⟩) from (hD 4 36 (by kernel_rfl)), show a.eval (.tmp 37) = o.v from (hD 5 37 (by kernel_rfl))] <;> rfl)) u) (against_any u p o HSD.out)) ?_
         refine fsteps_cons 8 rfl (fun a u hE hD hk => f_val (o := ⟨some 39, _, _, _, _, _⟩) (o.v) rfl (wanted_at (b := true) true rfl rfl (hD 3 35 (by kernel_rfl))) (exec_ldS 25 _ (.tmp 3) (g) (0) (o.cells) rfl (hE 3 (.pointer (some ⟨g, 0, none⟩)) (by kernel_rfl) (by kernel_rfl)) (range_kept HO4.out hk) Try.underlying25 (by rw [o.len9]; exact ord_size)) rfl) ?_
         refine fsteps_cons 9 rfl (fun a u hE hD hk => f_call (o := ⟨some 40, _, _, _, _, _⟩) 64 #[.pointer (some ⟨p, offS (3 - o.side), none⟩), o.v] rfl (wanted_at (b := true) true rfl rfl (hD 3 35 (by kernel_rfl))) (exec_call 64 _ [.tmp 38, .tmp 39] _ [.pointer (some ⟨p, offS (3 - o.side), none⟩), o.v] Try.func64 (by kernel_rfl) (by kernel_rfl) rfl (show [a.eval (.tmp 38), a.eval (.tmp 39)] = [.pointer (some ⟨p, offS (3 - o.side), none⟩), o.v] from (by rw [show a.eval (.tmp 38) = .pointer (some ⟨p, offS (3 - o.side), none⟩) from (hD 6 38 (by kernel_rfl)), show a.eval (.tmp 39) = o.v from (hD 7 39 (by kernel_rfl))] <;> rfl)) u) ((by obtain ⟨F', hLd⟩ := (HB.out.kept (kx4.trans hk)).lad HS3.out; rw [← HCR.out]; exact crossed_any u F' p (offS (3 - o.side)) (3 - o.side) _ o hLd HL64.out))) ?_
         refine sv 10 rfl rfl rfl (fun a u hE hD hk => exec_pick (.tmp 35) (.tmp 40) (.const (.bool false)) (.bool false) rfl (hD 3 35 (by kernel_rfl)) (hD 8 40 (by kernel_rfl))) ?_
         exact fsteps_nil
        intro gv w5 hV k5
        rw [show dstsOf _ 10 = [32, 33, 34, 35, 36, 37, 38, 39, 40, 41] by kernel_rfl]
        simp only [fC, fN, sA, sS, sZ, dS, dZ]
        rw [show gv 41 = .bool false from hV 9 41 (by kernel_rfl)]
        clear hV
        refine wpList_nil ?_
        have kx5 := kx4.trans k5
        have HO5 := Lib.hid (range_kept HO4.out k5)
        clear HO4 k5 kx4 hk5
        go_upto_region 10 with fail
        refine wp_free 13 [.eq (.pointer (some ⟨g, 4, none⟩)), .eq (.int .i64 o.k), .eq (.bool false), .eq (.bool false), .eq undef, .eq undef, .eq undef, .eq undef, .eq undef, .eq undef, .eq undef, .eq undef, .eq (.bool false)] (by kernel_rfl) rfl (by kernel_rfl) ?_ ?_
        ·refine sv 1 rfl rfl rfl (fun a u hE hD hk => exec_fldo 25 4 4 (.tmp 3) (g) (0) (4) rfl (hE 3 (.pointer (some ⟨g, 0, none⟩)) (by kernel_rfl) (by kernel_rfl)) (by kernel_rfl) rfl) ?_
         refine sv 2 rfl rfl rfl (fun a u hE hD hk => exec_loadi 3 Try.underlying3 (.tmp 42) ⟨g, 4, none⟩ (.int .i64 o.k) rfl (hD 0 42 (by kernel_rfl)) (range_int (range_kept HO5.out hk) 4 _ rfl)) ?_
         refine fsteps_cons 3 rfl (fun a u hE hD hk => f_as (show ((decide ((o.k : Int) = (4 : Int))) : Bool) = false from decide_eq_false hk4) (f_val (o := ⟨some 44, _, _, _, _, _⟩) (.bool (decide ((o.k : Int) = (4 : Int)))) rfl (wanted_none rfl _) (exec_eqn (p := o.k) (q := 4) rfl (hD 1 43 (by kernel_rfl)) rfl) rfl)) ?_
         refine sv 4 rfl rfl rfl (fun a u hE hD hk => exec_move (.tmp 44) _ rfl (hD 2 44 (by kernel_rfl))) ?_
         refine fsteps_cons 5 rfl (fun a u hE hD hk => f_skip (o := ⟨some 46, _, _, _, _, _⟩) rfl (wanted_at (b := true) false rfl rfl (hD 3 45 (by kernel_rfl))) rfl) ?_
         refine fsteps_cons 6 rfl (fun a u hE hD hk => f_skip (o := ⟨some 47, _, _, _, _, _⟩) rfl (wanted_at (b := true) false rfl rfl (hD 3 45 (by kernel_rfl))) rfl) ?_
         refine fsteps_cons 7 rfl (fun a u hE hD hk => f_skip (o := ⟨some 48, _, _, _, _, _⟩) rfl (wanted_at (b := true) false rfl rfl (hD 3 45 (by kernel_rfl))) rfl) ?_
         refine fsteps_cons 8 rfl (fun a u hE hD hk => f_skip (o := ⟨some 49, _, _, _, _, _⟩) rfl (wanted_at (b := true) false rfl rfl (hD 3 45 (by kernel_rfl))) rfl) ?_
         refine fsteps_cons 9 rfl (fun a u hE hD hk => f_skip (o := ⟨some 50, _, _, _, _, _⟩) rfl (wanted_at (b := true) false rfl rfl (hD 3 45 (by kernel_rfl))) rfl) ?_
         refine fsteps_cons 10 rfl (fun a u hE hD hk => f_skip (o := ⟨some 51, _, _, _, _, _⟩) rfl (wanted_at (b := true) false rfl rfl (hD 3 45 (by kernel_rfl))) rfl) ?_
         refine fsteps_cons 11 rfl (fun a u hE hD hk => f_skip (o := ⟨some 52, _, _, _, _, _⟩) rfl (wanted_at (b := true) false rfl rfl (hD 3 45 (by kernel_rfl))) rfl) ?_
         refine fsteps_cons 12 rfl (fun a u hE hD hk => f_skip (o := ⟨some 53, _, _, _, _, _⟩) rfl (wanted_at (b := true) false rfl rfl (hD 3 45 (by kernel_rfl))) rfl) ?_
         refine sv 13 rfl rfl rfl (fun a u hE hD hk => exec_pickF (.tmp 45) (.tmp 53) (.const (.bool false)) (.bool false) rfl (hD 3 45 (by kernel_rfl)) rfl) ?_
         exact fsteps_nil
        intro gv w6 hV k6
        rw [show dstsOf _ 13 = [42, 43, 44, 45, 46, 47, 48, 49, 50, 51, 52, 53, 54] by kernel_rfl]
        simp only [fC, fN, sA, sS, sZ, dS, dZ]
        rw [show gv 54 = .bool false from hV 12 54 (by kernel_rfl)]
        clear hV
        refine wpList_nil ?_
        have kx := kx5.trans k6
        clear HO5 k6 kx5 hk4
        go_wp2
        go_ret
        exact ⟨by rw [HE.out]; rfl, kx⟩
      ·skip
       go_upto_region 8 with fail
       refine wp_free 10 [.eq (.pointer (some ⟨g, 4, none⟩)), .eq (.int .i64 o.k), .eq (.bool false), .eq (.bool false), .eq undef, .eq undef, .eq undef, .eq undef, .eq undef, .eq (.bool false)] (by kernel_rfl) rfl (by kernel_rfl) ?_ ?_
       ·refine sv 1 rfl rfl rfl (fun a u hE hD hk => exec_fldo 25 4 4 (.tmp 3) (g) (0) (4) rfl (hE 3 (.pointer (some ⟨g, 0, none⟩)) (by kernel_rfl) (by kernel_rfl)) (by kernel_rfl) rfl) ?_
        refine sv 2 rfl rfl rfl (fun a u hE hD hk => exec_loadi 3 Try.underlying3 (.tmp 32) ⟨g, 4, none⟩ (.int .i64 o.k) rfl (hD 0 32 (by kernel_rfl)) (range_int (range_kept HO4.out hk) 4 _ rfl)) ?_
        refine fsteps_cons 3 rfl (fun a u hE hD hk => f_as (show ((decide ((o.k : Int) = (5 : Int))) : Bool) = false from decide_eq_false hk5) (f_val (o := ⟨some 34, _, _, _, _, _⟩) (.bool (decide ((o.k : Int) = (5 : Int)))) rfl (wanted_none rfl _) (exec_eqn (p := o.k) (q := 5) rfl (hD 1 33 (by kernel_rfl)) rfl) rfl)) ?_
        refine sv 4 rfl rfl rfl (fun a u hE hD hk => exec_move (.tmp 34) _ rfl (hD 2 34 (by kernel_rfl))) ?_
        refine fsteps_cons 5 rfl (fun a u hE hD hk => f_skip (o := ⟨some 36, _, _, _, _, _⟩) rfl (wanted_at (b := true) false rfl rfl (hD 3 35 (by kernel_rfl))) rfl) ?_
        refine fsteps_cons 6 rfl (fun a u hE hD hk => f_skip (o := ⟨some 37, _, _, _, _, _⟩) rfl (wanted_at (b := true) false rfl rfl (hD 3 35 (by kernel_rfl))) rfl) ?_
        refine fsteps_cons 7 rfl (fun a u hE hD hk => f_skip (o := ⟨some 38, _, _, _, _, _⟩) rfl (wanted_at (b := true) false rfl rfl (hD 3 35 (by kernel_rfl))) rfl) ?_
        refine fsteps_cons 8 rfl (fun a u hE hD hk => f_skip (o := ⟨some 39, _, _, _, _, _⟩) rfl (wanted_at (b := true) false rfl rfl (hD 3 35 (by kernel_rfl))) rfl) ?_
        refine fsteps_cons 9 rfl (fun a u hE hD hk => f_skip (o := ⟨some 40, _, _, _, _, _⟩) rfl (wanted_at (b := true) false rfl rfl (hD 3 35 (by kernel_rfl))) rfl) ?_
        refine sv 10 rfl rfl rfl (fun a u hE hD hk => exec_pickF (.tmp 35) (.tmp 40) (.const (.bool false)) (.bool false) rfl (hD 3 35 (by kernel_rfl)) rfl) ?_
        exact fsteps_nil
       intro gv w5 hV k5
       rw [show dstsOf _ 10 = [32, 33, 34, 35, 36, 37, 38, 39, 40, 41] by kernel_rfl]
       simp only [fC, fN, sA, sS, sZ, dS, dZ]
       rw [show gv 41 = .bool false from hV 9 41 (by kernel_rfl)]
       clear hV
       refine wpList_nil ?_
       have kx5 := kx4.trans k5
       have HO5 := Lib.hid (range_kept HO4.out k5)
       have HN5 := Lib.hid hk5
       clear HO4 k5 kx4 hk5
       by_cases hk4 : o.k = 4
       ·skip
        have HK4 := Lib.hid hk4
        by_cases hgv : gv0 < o.qty
        ·have HE : Hid (B.err o = 12) := by show _ = _; rw [HE0.out, if_neg (fun h => HN5.out h.1), if_pos ⟨hk4, HGL.out.1 hgv⟩]
         go_upto_region 10 with fail
         refine wp_free 13 [.eq (.pointer (some ⟨g, 4, none⟩)), .eq (.int .i64 o.k), .eq (.bool true), .eq (.bool true), .eq (.pointer (some ⟨p, 0, none⟩)), .eq (o.v), .eq (.pointer (some ⟨p, offS (3 - o.side), none⟩)), .eq (o.v), .eq (.int .i64 gv0), .eq (.pointer (some ⟨g, 6, none⟩)), .eq (.int .i64 o.qty), .eq (.bool true), .eq (.bool true)] (by kernel_rfl) rfl (by kernel_rfl) ?_ ?_
         ·refine sv 1 rfl rfl rfl (fun a u hE hD hk => exec_fldo 25 4 4 (.tmp 3) (g) (0) (4) rfl (hE 3 (.pointer (some ⟨g, 0, none⟩)) (by kernel_rfl) (by kernel_rfl)) (by kernel_rfl) rfl) ?_
          refine sv 2 rfl rfl rfl (fun a u hE hD hk => exec_loadi 3 Try.underlying3 (.tmp 42) ⟨g, 4, none⟩ (.int .i64 o.k) rfl (hD 0 42 (by kernel_rfl)) (range_int (range_kept HO5.out hk) 4 _ rfl)) ?_
          refine fsteps_cons 3 rfl (fun a u hE hD hk => f_as (show ((decide ((o.k : Int) = (4 : Int))) : Bool) = true from decide_eq_true hk4) (f_val (o := ⟨some 44, _, _, _, _, _⟩) (.bool (decide ((o.k : Int) = (4 : Int)))) rfl (wanted_none rfl _) (exec_eqn (p := o.k) (q := 4) rfl (hD 1 43 (by kernel_rfl)) rfl) rfl)) ?_
          refine sv 4 rfl rfl rfl (fun a u hE hD hk => exec_move (.tmp 44) _ rfl (hD 2 44 (by kernel_rfl))) ?_
          refine fsteps_cons 5 rfl (fun a u hE hD hk => f_val (o := ⟨some 46, _, _, _, _, _⟩) (.pointer (some ⟨p, 0, none⟩)) rfl (wanted_at (b := true) true rfl rfl (hD 3 45 (by kernel_rfl))) (exec_move (.tmp 0) _ rfl (hE 0 (.pointer (some ⟨p, 0, none⟩)) (by kernel_rfl) (by kernel_rfl))) rfl) ?_
          refine fsteps_cons 6 rfl (fun a u hE hD hk => f_val (o := ⟨some 47, _, _, _, _, _⟩) (o.v) rfl (wanted_at (b := true) true rfl rfl (hD 3 45 (by kernel_rfl))) (exec_ldS 25 _ (.tmp 3) (g) (0) (o.cells) rfl (hE 3 (.pointer (some ⟨g, 0, none⟩)) (by kernel_rfl) (by kernel_rfl)) (range_kept HO5.out hk) Try.underlying25 (by rw [o.len9]; exact ord_size)) rfl) ?_
          refine fsteps_cons 7 rfl (fun a u hE hD hk => f_call (o := ⟨some 48, _, _, _, _, _⟩) 63 #[.pointer (some ⟨p, 0, none⟩), o.v] rfl (wanted_at (b := true) true rfl rfl (hD 3 45 (by kernel_rfl))) (exec_call 63 _ [.tmp 46, .tmp 47] _ [.pointer (some ⟨p, 0, none⟩), o.v] Try.func63 (by kernel_rfl) (by kernel_rfl) rfl (show [a.eval (.tmp 46), a.eval (.tmp 47)] = [.pointer (some ⟨p, 0, none⟩), o.v] from (by rw [show a.eval (.tmp 46) = .pointer (some ⟨p, 0, none⟩) from (hD 4 46 (by kernel_rfl)), show a.eval (.tmp 47) = o.v from (hD 5 47 (by kernel_rfl))] <;> rfl)) u) (against_any u p o HSD.out)) ?_
          refine fsteps_cons 8 rfl (fun a u hE hD hk => f_val (o := ⟨some 49, _, _, _, _, _⟩) (o.v) rfl (wanted_at (b := true) true rfl rfl (hD 3 45 (by kernel_rfl))) (exec_ldS 25 _ (.tmp 3) (g) (0) (o.cells) rfl (hE 3 (.pointer (some ⟨g, 0, none⟩)) (by kernel_rfl) (by kernel_rfl)) (range_kept HO5.out hk) Try.underlying25 (by rw [o.len9]; exact ord_size)) rfl) ?_
          refine fsteps_cons 9 rfl (fun a u hE hD hk => f_call (o := ⟨some 50, _, _, _, _, _⟩) 65 #[.pointer (some ⟨p, offS (3 - o.side), none⟩), o.v] rfl (wanted_at (b := true) true rfl rfl (hD 3 45 (by kernel_rfl))) (exec_call 65 _ [.tmp 48, .tmp 49] _ [.pointer (some ⟨p, offS (3 - o.side), none⟩), o.v] Try.func65 (by kernel_rfl) (by kernel_rfl) rfl (show [a.eval (.tmp 48), a.eval (.tmp 49)] = [.pointer (some ⟨p, offS (3 - o.side), none⟩), o.v] from (by rw [show a.eval (.tmp 48) = .pointer (some ⟨p, offS (3 - o.side), none⟩) from (hD 6 48 (by kernel_rfl)), show a.eval (.tmp 49) = o.v from (hD 7 49 (by kernel_rfl))] <;> rfl)) u) ((by obtain ⟨F', hLd⟩ := (HB.out.kept (kx5.trans hk)).lad HS3.out; rw [← HGV.out]; exact gives_any u F' p (offS (3 - o.side)) (3 - o.side) (3 - o.side) _ o hLd HSID.out))) ?_
          refine fsteps_cons 10 rfl (fun a u hE hD hk => f_val (o := ⟨some 51, _, _, _, _, _⟩) (.pointer (some ⟨g, 6, none⟩)) rfl (wanted_at (b := true) true rfl rfl (hD 3 45 (by kernel_rfl))) (exec_fldo 25 6 6 (.tmp 3) (g) (0) (6) rfl (hE 3 (.pointer (some ⟨g, 0, none⟩)) (by kernel_rfl) (by kernel_rfl)) (by kernel_rfl) rfl) rfl) ?_
          refine fsteps_cons 11 rfl (fun a u hE hD hk => f_val (o := ⟨some 52, _, _, _, _, _⟩) (.int .i64 o.qty) rfl (wanted_at (b := true) true rfl rfl (hD 3 45 (by kernel_rfl))) (exec_loadi 3 Try.underlying3 (.tmp 51) ⟨g, 6, none⟩ (.int .i64 o.qty) rfl (hD 9 51 (by kernel_rfl)) (range_int (range_kept HO5.out hk) 6 _ rfl)) rfl) ?_
          refine fsteps_cons 12 rfl (fun a u hE hD hk => f_as (show ((decide ((gv0 : Int) < (o.qty : Int))) : Bool) = true from decide_eq_true hgv) (f_val (o := ⟨some 53, _, _, _, _, _⟩) (.bool (decide ((gv0 : Int) < (o.qty : Int)))) rfl (wanted_at (b := true) true rfl rfl (hD 3 45 (by kernel_rfl))) (exec_ltn (p := gv0) (q := o.qty) rfl (hD 8 50 (by kernel_rfl)) (hD 10 52 (by kernel_rfl))) rfl)) ?_
          refine sv 13 rfl rfl rfl (fun a u hE hD hk => exec_pick (.tmp 45) (.tmp 53) (.const (.bool false)) (.bool true) rfl (hD 3 45 (by kernel_rfl)) (hD 11 53 (by kernel_rfl))) ?_
          exact fsteps_nil
         intro gv w6 hV k6
         rw [show dstsOf _ 13 = [42, 43, 44, 45, 46, 47, 48, 49, 50, 51, 52, 53, 54] by kernel_rfl]
         simp only [fC, fN, sA, sS, sZ, dS, dZ]
         rw [show gv 54 = .bool true from hV 12 54 (by kernel_rfl)]
         clear hV
         refine wpList_nil ?_
         have kx := kx5.trans k6
         clear HO5 k6 kx5 hk4 hgv
         go_wp2
         go_ret
         exact ⟨by rw [HE.out]; rfl, kx⟩
        ·have HE : Hid (B.err o = 0) := by show _ = _; rw [HE0.out, if_neg (fun h => HN5.out h.1), if_neg (fun h => hgv (HGL.out.2 h.2))]
         go_upto_region 10 with fail
         refine wp_free 13 [.eq (.pointer (some ⟨g, 4, none⟩)), .eq (.int .i64 o.k), .eq (.bool true), .eq (.bool true), .eq (.pointer (some ⟨p, 0, none⟩)), .eq (o.v), .eq (.pointer (some ⟨p, offS (3 - o.side), none⟩)), .eq (o.v), .eq (.int .i64 gv0), .eq (.pointer (some ⟨g, 6, none⟩)), .eq (.int .i64 o.qty), .eq (.bool false), .eq (.bool false)] (by kernel_rfl) rfl (by kernel_rfl) ?_ ?_
         ·refine sv 1 rfl rfl rfl (fun a u hE hD hk => exec_fldo 25 4 4 (.tmp 3) (g) (0) (4) rfl (hE 3 (.pointer (some ⟨g, 0, none⟩)) (by kernel_rfl) (by kernel_rfl)) (by kernel_rfl) rfl) ?_
          refine sv 2 rfl rfl rfl (fun a u hE hD hk => exec_loadi 3 Try.underlying3 (.tmp 42) ⟨g, 4, none⟩ (.int .i64 o.k) rfl (hD 0 42 (by kernel_rfl)) (range_int (range_kept HO5.out hk) 4 _ rfl)) ?_
          refine fsteps_cons 3 rfl (fun a u hE hD hk => f_as (show ((decide ((o.k : Int) = (4 : Int))) : Bool) = true from decide_eq_true hk4) (f_val (o := ⟨some 44, _, _, _, _, _⟩) (.bool (decide ((o.k : Int) = (4 : Int)))) rfl (wanted_none rfl _) (exec_eqn (p := o.k) (q := 4) rfl (hD 1 43 (by kernel_rfl)) rfl) rfl)) ?_
          refine sv 4 rfl rfl rfl (fun a u hE hD hk => exec_move (.tmp 44) _ rfl (hD 2 44 (by kernel_rfl))) ?_
          refine fsteps_cons 5 rfl (fun a u hE hD hk => f_val (o := ⟨some 46, _, _, _, _, _⟩) (.pointer (some ⟨p, 0, none⟩)) rfl (wanted_at (b := true) true rfl rfl (hD 3 45 (by kernel_rfl))) (exec_move (.tmp 0) _ rfl (hE 0 (.pointer (some ⟨p, 0, none⟩)) (by kernel_rfl) (by kernel_rfl))) rfl) ?_
          refine fsteps_cons 6 rfl (fun a u hE hD hk => f_val (o := ⟨some 47, _, _, _, _, _⟩) (o.v) rfl (wanted_at (b := true) true rfl rfl (hD 3 45 (by kernel_rfl))) (exec_ldS 25 _ (.tmp 3) (g) (0) (o.cells) rfl (hE 3 (.pointer (some ⟨g, 0, none⟩)) (by kernel_rfl) (by kernel_rfl)) (range_kept HO5.out hk) Try.underlying25 (by rw [o.len9]; exact ord_size)) rfl) ?_
          refine fsteps_cons 7 rfl (fun a u hE hD hk => f_call (o := ⟨some 48, _, _, _, _, _⟩) 63 #[.pointer (some ⟨p, 0, none⟩), o.v] rfl (wanted_at (b := true) true rfl rfl (hD 3 45 (by kernel_rfl))) (exec_call 63 _ [.tmp 46, .tmp 47] _ [.pointer (some ⟨p, 0, none⟩), o.v] Try.func63 (by kernel_rfl) (by kernel_rfl) rfl (show [a.eval (.tmp 46), a.eval (.tmp 47)] = [.pointer (some ⟨p, 0, none⟩), o.v] from (by rw [show a.eval (.tmp 46) = .pointer (some ⟨p, 0, none⟩) from (hD 4 46 (by kernel_rfl)), show a.eval (.tmp 47) = o.v from (hD 5 47 (by kernel_rfl))] <;> rfl)) u) (against_any u p o HSD.out)) ?_
          refine fsteps_cons 8 rfl (fun a u hE hD hk => f_val (o := ⟨some 49, _, _, _, _, _⟩) (o.v) rfl (wanted_at (b := true) true rfl rfl (hD 3 45 (by kernel_rfl))) (exec_ldS 25 _ (.tmp 3) (g) (0) (o.cells) rfl (hE 3 (.pointer (some ⟨g, 0, none⟩)) (by kernel_rfl) (by kernel_rfl)) (range_kept HO5.out hk) Try.underlying25 (by rw [o.len9]; exact ord_size)) rfl) ?_
          refine fsteps_cons 9 rfl (fun a u hE hD hk => f_call (o := ⟨some 50, _, _, _, _, _⟩) 65 #[.pointer (some ⟨p, offS (3 - o.side), none⟩), o.v] rfl (wanted_at (b := true) true rfl rfl (hD 3 45 (by kernel_rfl))) (exec_call 65 _ [.tmp 48, .tmp 49] _ [.pointer (some ⟨p, offS (3 - o.side), none⟩), o.v] Try.func65 (by kernel_rfl) (by kernel_rfl) rfl (show [a.eval (.tmp 48), a.eval (.tmp 49)] = [.pointer (some ⟨p, offS (3 - o.side), none⟩), o.v] from (by rw [show a.eval (.tmp 48) = .pointer (some ⟨p, offS (3 - o.side), none⟩) from (hD 6 48 (by kernel_rfl)), show a.eval (.tmp 49) = o.v from (hD 7 49 (by kernel_rfl))] <;> rfl)) u) ((by obtain ⟨F', hLd⟩ := (HB.out.kept (kx5.trans hk)).lad HS3.out; rw [← HGV.out]; exact gives_any u F' p (offS (3 - o.side)) (3 - o.side) (3 - o.side) _ o hLd HSID.out))) ?_
          refine fsteps_cons 10 rfl (fun a u hE hD hk => f_val (o := ⟨some 51, _, _, _, _, _⟩) (.pointer (some ⟨g, 6, none⟩)) rfl (wanted_at (b := true) true rfl rfl (hD 3 45 (by kernel_rfl))) (exec_fldo 25 6 6 (.tmp 3) (g) (0) (6) rfl (hE 3 (.pointer (some ⟨g, 0, none⟩)) (by kernel_rfl) (by kernel_rfl)) (by kernel_rfl) rfl) rfl) ?_
          refine fsteps_cons 11 rfl (fun a u hE hD hk => f_val (o := ⟨some 52, _, _, _, _, _⟩) (.int .i64 o.qty) rfl (wanted_at (b := true) true rfl rfl (hD 3 45 (by kernel_rfl))) (exec_loadi 3 Try.underlying3 (.tmp 51) ⟨g, 6, none⟩ (.int .i64 o.qty) rfl (hD 9 51 (by kernel_rfl)) (range_int (range_kept HO5.out hk) 6 _ rfl)) rfl) ?_
          refine fsteps_cons 12 rfl (fun a u hE hD hk => f_as (show ((decide ((gv0 : Int) < (o.qty : Int))) : Bool) = false from decide_eq_false hgv) (f_val (o := ⟨some 53, _, _, _, _, _⟩) (.bool (decide ((gv0 : Int) < (o.qty : Int)))) rfl (wanted_at (b := true) true rfl rfl (hD 3 45 (by kernel_rfl))) (exec_ltn (p := gv0) (q := o.qty) rfl (hD 8 50 (by kernel_rfl)) (hD 10 52 (by kernel_rfl))) rfl)) ?_
          refine sv 13 rfl rfl rfl (fun a u hE hD hk => exec_pick (.tmp 45) (.tmp 53) (.const (.bool false)) (.bool false) rfl (hD 3 45 (by kernel_rfl)) (hD 11 53 (by kernel_rfl))) ?_
          exact fsteps_nil
         intro gv w6 hV k6
         rw [show dstsOf _ 13 = [42, 43, 44, 45, 46, 47, 48, 49, 50, 51, 52, 53, 54] by kernel_rfl]
         simp only [fC, fN, sA, sS, sZ, dS, dZ]
         rw [show gv 54 = .bool false from hV 12 54 (by kernel_rfl)]
         clear hV
         refine wpList_nil ?_
         have kx := kx5.trans k6
         clear HO5 k6 kx5 hk4 hgv
         go_wp2
         go_ret
         exact ⟨by rw [HE.out]; rfl, kx⟩
       ·have HE : Hid (B.err o = 0) := by show _ = _; rw [HE0.out, if_neg (fun h => HN5.out h.1), if_neg (fun h => hk4 h.1)]
        go_upto_region 10 with fail
        refine wp_free 13 [.eq (.pointer (some ⟨g, 4, none⟩)), .eq (.int .i64 o.k), .eq (.bool false), .eq (.bool false), .eq undef, .eq undef, .eq undef, .eq undef, .eq undef, .eq undef, .eq undef, .eq undef, .eq (.bool false)] (by kernel_rfl) rfl (by kernel_rfl) ?_ ?_
        ·refine sv 1 rfl rfl rfl (fun a u hE hD hk => exec_fldo 25 4 4 (.tmp 3) (g) (0) (4) rfl (hE 3 (.pointer (some ⟨g, 0, none⟩)) (by kernel_rfl) (by kernel_rfl)) (by kernel_rfl) rfl) ?_
         refine sv 2 rfl rfl rfl (fun a u hE hD hk => exec_loadi 3 Try.underlying3 (.tmp 42) ⟨g, 4, none⟩ (.int .i64 o.k) rfl (hD 0 42 (by kernel_rfl)) (range_int (range_kept HO5.out hk) 4 _ rfl)) ?_
         refine fsteps_cons 3 rfl (fun a u hE hD hk => f_as (show ((decide ((o.k : Int) = (4 : Int))) : Bool) = false from decide_eq_false hk4) (f_val (o := ⟨some 44, _, _, _, _, _⟩) (.bool (decide ((o.k : Int) = (4 : Int)))) rfl (wanted_none rfl _) (exec_eqn (p := o.k) (q := 4) rfl (hD 1 43 (by kernel_rfl)) rfl) rfl)) ?_
         refine sv 4 rfl rfl rfl (fun a u hE hD hk => exec_move (.tmp 44) _ rfl (hD 2 44 (by kernel_rfl))) ?_
         refine fsteps_cons 5 rfl (fun a u hE hD hk => f_skip (o := ⟨some 46, _, _, _, _, _⟩) rfl (wanted_at (b := true) false rfl rfl (hD 3 45 (by kernel_rfl))) rfl) ?_
         refine fsteps_cons 6 rfl (fun a u hE hD hk => f_skip (o := ⟨some 47, _, _, _, _, _⟩) rfl (wanted_at (b := true) false rfl rfl (hD 3 45 (by kernel_rfl))) rfl) ?_
         refine fsteps_cons 7 rfl (fun a u hE hD hk => f_skip (o := ⟨some 48, _, _, _, _, _⟩) rfl (wanted_at (b := true) false rfl rfl (hD 3 45 (by kernel_rfl))) rfl) ?_
         refine fsteps_cons 8 rfl (fun a u hE hD hk => f_skip (o := ⟨some 49, _, _, _, _, _⟩) rfl (wanted_at (b := true) false rfl rfl (hD 3 45 (by kernel_rfl))) rfl) ?_
         refine fsteps_cons 9 rfl (fun a u hE hD hk => f_skip (o := ⟨some 50, _, _, _, _, _⟩) rfl (wanted_at (b := true) false rfl rfl (hD 3 45 (by kernel_rfl))) rfl) ?_
         refine fsteps_cons 10 rfl (fun a u hE hD hk => f_skip (o := ⟨some 51, _, _, _, _, _⟩) rfl (wanted_at (b := true) false rfl rfl (hD 3 45 (by kernel_rfl))) rfl) ?_
         refine fsteps_cons 11 rfl (fun a u hE hD hk => f_skip (o := ⟨some 52, _, _, _, _, _⟩) rfl (wanted_at (b := true) false rfl rfl (hD 3 45 (by kernel_rfl))) rfl) ?_
         refine fsteps_cons 12 rfl (fun a u hE hD hk => f_skip (o := ⟨some 53, _, _, _, _, _⟩) rfl (wanted_at (b := true) false rfl rfl (hD 3 45 (by kernel_rfl))) rfl) ?_
         refine sv 13 rfl rfl rfl (fun a u hE hD hk => exec_pickF (.tmp 45) (.tmp 53) (.const (.bool false)) (.bool false) rfl (hD 3 45 (by kernel_rfl)) rfl) ?_
         exact fsteps_nil
        intro gv w6 hV k6
        rw [show dstsOf _ 13 = [42, 43, 44, 45, 46, 47, 48, 49, 50, 51, 52, 53, 54] by kernel_rfl]
        simp only [fC, fN, sA, sS, sZ, dS, dZ]
        rw [show gv 54 = .bool false from hV 12 54 (by kernel_rfl)]
        clear hV
        refine wpList_nil ?_
        have kx := kx5.trans k6
        clear HO5 k6 kx5 hk4
        go_wp2
        go_ret
        exact ⟨by rw [HE.out]; rfl, kx⟩
 ·have HE : Hid (B.err o = 1) := by show _ = _; unfold Bok.err; rw [if_pos (fun h => hr h.1)]
  have hr1 : o.err ≠ 0 := by unfold Ord.err; rw [if_neg hr]; decide
  go_upto_region 1 with fail
  refine wp_text 8 [.eq (o.v), .eq (.int .i64 o.err), .eq (.bool true), .eq (.bool true), .eq undef, .eq undef, .eq undef, .eq (.bool true)] rfl (by kernel_rfl) ?_ ?_
  ·refine sv 1 rfl rfl rfl (fun a u hE hD hk => exec_ldS 25 _ (.tmp 3) (g) (0) (o.cells) rfl (hE 3 (.pointer (some ⟨g, 0, none⟩)) (by kernel_rfl) (by kernel_rfl)) (range_kept HO.out hk) Try.underlying25 (by rw [o.len9]; exact ord_size)) ?_
   refine fsteps_cons 2 rfl (fun a u hE hD hk => f_call (o := ⟨some 8, _, _, _, _, _⟩) 62 #[o.v] rfl (wanted_none rfl _) (exec_call 62 _ [.tmp 7] _ [o.v] Try.func62 (by kernel_rfl) (by kernel_rfl) rfl (show [a.eval (.tmp 7)] = [o.v] from (by rw [show a.eval (.tmp 7) = o.v from (hD 0 7 (by kernel_rfl))] <;> rfl)) u) (ordRight_any o u)) ?_
   refine fsteps_cons 3 rfl (fun a u hE hD hk => f_as (show ((decide ((o.err : Int) ≠ (0 : Int))) : Bool) = true from decide_eq_true hr1) (f_val (o := ⟨some 9, _, _, _, _, _⟩) (.bool (decide ((o.err : Int) ≠ (0 : Int)))) rfl (wanted_none rfl _) (exec_nen (p := o.err) (q := 0) rfl (hD 1 8 (by kernel_rfl)) rfl) rfl)) ?_
   refine sv 4 rfl rfl rfl (fun a u hE hD hk => exec_move (.tmp 9) _ rfl (hD 2 9 (by kernel_rfl))) ?_
   refine fsteps_cons 5 rfl (fun a u hE hD hk => f_skip (o := ⟨some 11, _, _, _, _, _⟩) rfl (wanted_at (b := false) true rfl rfl (hD 3 10 (by kernel_rfl))) rfl) ?_
   refine fsteps_cons 6 rfl (fun a u hE hD hk => f_skip (o := ⟨some 12, _, _, _, _, _⟩) rfl (wanted_at (b := false) true rfl rfl (hD 3 10 (by kernel_rfl))) rfl) ?_
   refine fsteps_cons 7 rfl (fun a u hE hD hk => f_skip (o := ⟨some 13, _, _, _, _, _⟩) rfl (wanted_at (b := false) true rfl rfl (hD 3 10 (by kernel_rfl))) rfl) ?_
   refine sv 8 rfl rfl rfl (fun a u hE hD hk => exec_pick (.tmp 10) (.const (.bool true)) (.tmp 13) (.bool true) rfl (hD 3 10 (by kernel_rfl)) rfl) ?_
   exact fsteps_nil
  intro gv w1 hV k1
  rw [show dstsOf _ 8 = [7, 8, 9, 10, 11, 12, 13, 14] by kernel_rfl]
  simp only [fC, fN, sA, sS, sZ, dS, dZ]
  rw [show gv 14 = .bool true from hV 7 14 (by kernel_rfl)]
  clear hV
  refine wpList_nil ?_
  have kx := k0.trans k1
  clear HO hr1 hr
  go_wp2
  go_ret
  exact ⟨by rw [HE.out]; rfl, kx⟩
def AddIn (w : World) (F : Nat → Prop) (p : Nat) (x : Oc × Bok) (r : Ending) (w' : World) : Prop :=
 ∃ F' v, r = .returned (x.1.v v) ∧ Bk w' F' p x.2 ∧ Sl w' 36 21 v x.1.f.length (fls x.1.f) ∧ (∀ b, v.ownBlock = some b → w.heap.size ≤ b ∧ ¬ F' b) ∧ Grow w F F' ∧ Keep F w w'
theorem built_oce (o : Ord) (n e : Int) : Try.prog.built 29 [(0, o.v), (2, .int .i64 n), (6, .int .i64 e)] = some ((Oc.mk o [] n false false e).cells (.slice none 0 0)).toArray := by kernel_rfl
theorem Bok.traded_to (B : Bok) (o : Ord) : B.traded o = B.to (3 - o.side) (B.matched o).L (lastOf B.last (B.matched o).f) (B.no + (B.matched o).f.length) := rfl
set_option maxRecDepth 100000 in
set_option maxHeartbeats 3200000 in
theorem badd_any (w : World) (F : Nat → Prop) (p : Nat) (B : Bok) (o : Ord) (h : Bk w F p B) (hI : Inv B) (hn : B.no ≤ 1000000000000) : Calls Try.prog 15 #[.pointer (some ⟨p, 0, none⟩), o.v] w (AddIn w F p (B.add o)) := by
 have hFl := h.lt
 have HB := Lib.hid h
 have HI := Lib.hid hI
 have hpF := h.1
 clear h hI
 go_enter Try.func15, Try.ntmps15
 go_upto_region 0 with fail
 refine wp_text 2 [.fresh w.heap.size 25 (o.cells), .fresh w.heap.size 29 (zeroC.cells (.slice none 0 0))] rfl (by kernel_rfl) ?_ ?_
 ·refine fsteps_cons 1 rfl (fun a u hE hD hk => f_new (o := ⟨some 3, _, _, _, _, _⟩) (.pointer (some ⟨u.heap.size, 0, none⟩)) _ rfl (wanted_none rfl _) (exec_box 25 (.tmp 1) (o.cells) rfl (hE 1 (o.v) (by kernel_rfl) (by kernel_rfl))) ⟨_, rfl, hk.size, Blk.new u _ _⟩ ((Keep.refl _ u).alloc _)) ?_
  refine fsteps_cons 2 rfl (fun a u hE hD hk => f_new (o := ⟨some 4, _, _, _, _, _⟩) (.pointer (some ⟨u.heap.size, 0, none⟩)) _ rfl (wanted_none rfl _) (exec_alc 29 (zeroC.cells (.slice none 0 0)) rfl zC) ⟨_, rfl, hk.size, Blk.new u _ _⟩ ((Keep.refl _ u).alloc _)) ?_
  exact fsteps_nil
 intro gv w0 hV k0
 rw [show dstsOf _ 2 = [3, 4] by kernel_rfl]
 simp only [fC, fN, sA, sS, sZ, dS, dZ]
 have hv3 : (.fresh w.heap.size 25 (o.cells) : Kn).p (gv 3) w0 := hV 0 3 (by kernel_rfl)
 generalize gv 3 = v3 at hv3 ⊢
 have hv4 : (.fresh w.heap.size 29 (zeroC.cells (.slice none 0 0)) : Kn).p (gv 4) w0 := hV 1 4 (by kernel_rfl)
 generalize gv 4 = v4 at hv4 ⊢
 clear hV
 obtain ⟨bi, rfl, hbi, hBi⟩ := hv3
 obtain ⟨b4, rfl, hb4, hB4⟩ := hv4
 refine wpList_nil ?_
 have HO := Lib.hid (blk_range hBi)
 have HB4 := Lib.hid hB4
 have li := hBi.lt
 have l4 := hB4.lt
 clear hBi hB4
 obtain ⟨e, he⟩ : ∃ e, B.err o = e := ⟨_, rfl⟩
 have HE := Lib.hid he
 clear he
 go_upto_region 1 with fail
 refine wp_text 4 [.eq (.pointer (some ⟨p, 0, none⟩)), .eq (o.v), .eq (.int .i64 e), .eq (.int .i64 e)] rfl (by kernel_rfl) ?_ ?_
 ·refine sv 1 rfl rfl rfl (fun a u hE hD hk => exec_move (.tmp 0) _ rfl (hE 0 (.pointer (some ⟨p, 0, none⟩)) (by kernel_rfl) (by kernel_rfl))) ?_
  refine sv 2 rfl rfl rfl (fun a u hE hD hk => exec_ldS 25 _ (.tmp 3) (bi) (0) (o.cells) rfl (hE 3 (.pointer (some ⟨bi, 0, none⟩)) (by kernel_rfl) (by kernel_rfl)) (range_kept HO.out hk) Try.underlying25 (by rw [o.len9]; exact ord_size)) ?_
  refine fsteps_cons 3 rfl (fun a u hE hD hk => f_call (o := ⟨some 9, _, _, _, _, _⟩) 39 #[.pointer (some ⟨p, 0, none⟩), o.v] rfl (wanted_none rfl _) (exec_call 39 _ [.tmp 7, .tmp 8] _ [.pointer (some ⟨p, 0, none⟩), o.v] Try.func39 (by kernel_rfl) (by kernel_rfl) rfl (show [a.eval (.tmp 7), a.eval (.tmp 8)] = [.pointer (some ⟨p, 0, none⟩), o.v] from (by rw [show a.eval (.tmp 7) = .pointer (some ⟨p, 0, none⟩) from (hD 0 7 (by kernel_rfl)), show a.eval (.tmp 8) = o.v from (hD 1 8 (by kernel_rfl))] <;> rfl)) u) ((by rw [← HE.out]; exact refusal_any u F p B o (HB.out.kept (k0.trans hk)) HI.out))) ?_
  refine sv 4 rfl rfl rfl (fun a u hE hD hk => exec_assign (.tmp 9) _ rfl (hD 2 9 (by kernel_rfl))) ?_
  exact fsteps_nil
 intro gv w1 hV k1
 rw [show dstsOf _ 4 = [7, 8, 9, 5] by kernel_rfl]
 simp only [fC, fN, sA, sS, sZ, dS, dZ]
 rw [show gv 5 = .int .i64 e from hV 3 5 (by kernel_rfl)]
 clear hV
 refine wpList_nil ?_
 have k01 := k0.trans k1
 have HO1 := Lib.hid (range_kept HO.out k1)
 have HB41 := Lib.hid (HB4.out.kept k1)
 have z0 := k0.size
 have z1 := k1.size
 have h4F : ¬ F b4 := fun h => by have := hFl b4 h; omega
 have hiF : ¬ F bi := fun h => by have := hFl bi h; omega
 clear HO HB4 k0 k1
 by_cases he0 : e ≠ 0
 ·have HA : Hid (B.add o = (⟨o, [], o.qty, false, false, e⟩, B)) := by show _ = _; rw [add_err (by rw [HE.out]; exact he0), HE.out]
  go_upto_region 2 with fail
  refine wp_text 2 [.eq (.int .i64 e), .eq (.bool true)] rfl (by kernel_rfl) ?_ ?_
  ·refine sv 1 rfl rfl rfl (fun a u hE hD hk => exec_move (.tmp 5) _ rfl (hE 5 (.int .i64 e) (by kernel_rfl) (by kernel_rfl))) ?_
   refine fsteps_cons 2 rfl (fun a u hE hD hk => f_as (show ((decide ((e : Int) ≠ (0 : Int))) : Bool) = true from decide_eq_true he0) (f_val (o := ⟨some 11, _, _, _, _, _⟩) (.bool (decide ((e : Int) ≠ (0 : Int)))) rfl (wanted_none rfl _) (exec_nen (p := e) (q := 0) rfl (hD 0 10 (by kernel_rfl)) rfl) rfl)) ?_
   exact fsteps_nil
  intro gv w2 hV k2
  rw [show dstsOf _ 2 = [10, 11] by kernel_rfl]
  simp only [fC, fN, sA, sS, sZ, dS, dZ]
  rw [show gv 11 = .bool true from hV 1 11 (by kernel_rfl)]
  clear hV
  refine wpList_nil ?_
  have HO2 := Lib.hid (range_kept HO1.out k2)
  have HB42 := Lib.hid (HB41.out.kept k2)
  clear he0
  go_upto_region 3 with fail
  refine wp_text 5 [.eq (o.v), .eq (.pointer (some ⟨bi, 6, none⟩)), .eq (.int .i64 o.qty), .eq (.int .i64 e), .eq ((Oc.mk o [] o.qty false false e).v (.slice none 0 0))] rfl (by kernel_rfl) ?_ ?_
  ·refine sv 1 rfl rfl rfl (fun a u hE hD hk => exec_ldS 25 _ (.tmp 3) (bi) (0) (o.cells) rfl (hE 3 (.pointer (some ⟨bi, 0, none⟩)) (by kernel_rfl) (by kernel_rfl)) (range_kept HO2.out hk) Try.underlying25 (by rw [o.len9]; exact ord_size)) ?_
   refine sv 2 rfl rfl rfl (fun a u hE hD hk => exec_fldo 25 6 6 (.tmp 3) (bi) (0) (6) rfl (hE 3 (.pointer (some ⟨bi, 0, none⟩)) (by kernel_rfl) (by kernel_rfl)) (by kernel_rfl) rfl) ?_
   refine sv 3 rfl rfl rfl (fun a u hE hD hk => exec_loadi 3 Try.underlying3 (.tmp 13) ⟨bi, 6, none⟩ (.int .i64 o.qty) rfl (hD 1 13 (by kernel_rfl)) (range_int (range_kept HO2.out hk) 6 _ rfl)) ?_
   refine sv 4 rfl rfl rfl (fun a u hE hD hk => exec_move (.tmp 5) _ rfl (hE 5 (.int .i64 e) (by kernel_rfl) (by kernel_rfl))) ?_
   refine sv 5 rfl rfl rfl (fun a u hE hD hk => exec_build _ [(0, .tmp 12), (2, .tmp 14), (6, .tmp 15)] ((Oc.mk o [] o.qty false false e).cells (.slice none 0 0)) rfl (by simp only [List.map_cons, List.map_nil]; rw [show a.eval (.tmp 12) = o.v from (hD 0 12 (by kernel_rfl)), show a.eval (.tmp 14) = .int .i64 o.qty from (hD 2 14 (by kernel_rfl)), show a.eval (.tmp 15) = .int .i64 e from (hD 3 15 (by kernel_rfl))]; exact built_oce o o.qty e)) ?_
   exact fsteps_nil
  intro gv w3 hV k3
  rw [show dstsOf _ 5 = [12, 13, 14, 15, 16] by kernel_rfl]
  simp only [fC, fN, sA, sS, sZ, dS, dZ]
  rw [show gv 16 = (Oc.mk o [] o.qty false false e).v (.slice none 0 0) from hV 4 16 (by kernel_rfl)]
  clear hV
  refine l_setS (o := ⟨none, _, _, _, _, _⟩) 29 b4 29 (zeroC.cells (.slice none 0 0)) ((Oc.mk o [] o.qty false false e).cells (.slice none 0 0)) (.tmp 4) (.tmp 16) rfl rfl (by kernel_rfl) (by kernel_rfl) (HB42.out.kept k3) (by rw [Oc.len15]; exact szC) (by rw [Oc.len15, Oc.len15]) (Oc.one _ _ rfl) ?_
  intro w4 hB4 hk4 hs4
  simp only [Act.put]
  refine wpList_nil ?_
  go_wp2
  refine bodyPost_ret (results_cell (p := 4) rfl _ _ b4 _ ((Oc.mk o [] o.qty false false e).cells (.slice none 0 0)) rfl hB4 Try.underlying29 (by rw [Oc.len15]; exact szC)) rfl ?_
  rw [HA.out]
  have kk : Kept w w4 := ((k01.trans k2).trans k3).trans' hk4 (by omega)
  exact ⟨F, .slice none 0 0, rfl, HB.out.kept kk, Sl.nil _ _ _, fun b hb => by simp [Value.ownBlock] at hb, Grow.refl _ _, Keep.mono (T := F) kk (fun _ _ h => h.elim)⟩
 ·have he1 : e = 0 := Classical.not_not.1 he0
  subst he1
  have HEZ := Lib.hid (err_zero HE.out)
  have HAI := Lib.hid (add_is HI.out HE.out)
  go_upto_region 2 with fail
  refine wp_text 2 [.eq (.int .i64 0), .eq (.bool false)] rfl (by kernel_rfl) ?_ ?_
  ·refine sv 1 rfl rfl rfl (fun a u hE hD hk => exec_move (.tmp 5) _ rfl (hE 5 (.int .i64 0) (by kernel_rfl) (by kernel_rfl))) ?_
   refine fsteps_cons 2 rfl (fun a u hE hD hk => f_as (show ((decide ((0 : Int) ≠ (0 : Int))) : Bool) = false from by decide) (f_val (o := ⟨some 11, _, _, _, _, _⟩) (.bool (decide ((0 : Int) ≠ (0 : Int)))) rfl (wanted_none rfl _) (exec_nen (p := 0) (q := 0) rfl (hD 0 10 (by kernel_rfl)) rfl) rfl)) ?_
   exact fsteps_nil
  intro gv w2 hV k2
  rw [show dstsOf _ 2 = [10, 11] by kernel_rfl]
  simp only [fC, fN, sA, sS, sZ, dS, dZ]
  rw [show gv 11 = .bool false from hV 1 11 (by kernel_rfl)]
  clear hV
  refine wpList_nil ?_
  have k02 := k01.trans k2
  have z2 := k2.size
  have HO2 := Lib.hid (range_kept HO1.out k2)
  have HB42 := Lib.hid (HB41.out.kept k2)
  clear he0 k01 HO1 HB41
  obtain ⟨m, hm⟩ : ∃ m, B.matched o = m := ⟨_, rfl⟩
  have HMM := Lib.hid hm
  clear hm
  go_upto_region 4 with fail
  refine wp_text 2 [.eq (.pointer (some ⟨p, 0, none⟩)), .eq (o.v)] rfl (by kernel_rfl) ?_ ?_
  ·refine sv 1 rfl rfl rfl (fun a u hE hD hk => exec_move (.tmp 0) _ rfl (hE 0 (.pointer (some ⟨p, 0, none⟩)) (by kernel_rfl) (by kernel_rfl))) ?_
   refine sv 2 rfl rfl rfl (fun a u hE hD hk => exec_ldS 25 _ (.tmp 3) (bi) (0) (o.cells) rfl (hE 3 (.pointer (some ⟨bi, 0, none⟩)) (by kernel_rfl) (by kernel_rfl)) (range_kept HO2.out hk) Try.underlying25 (by rw [o.len9]; exact ord_size)) ?_
   exact fsteps_nil
  intro gv w3 hV k3
  rw [show dstsOf _ 2 = [17, 18] by kernel_rfl]
  simp only [fC, fN, sA, sS, sZ, dS, dZ]
  rw [show gv 17 = .pointer (some ⟨p, 0, none⟩) from hV 0 17 (by kernel_rfl)]
  rw [show gv 18 = o.v from hV 1 18 (by kernel_rfl)]
  clear hV
  refine l_call (o := ⟨some 19, _, _, _, _, _⟩) 40 #[.pointer (some ⟨p, 0, none⟩), o.v] rfl (exec_call 40 _ [.tmp 17, .tmp 18] _ _ Try.func40 (by kernel_rfl) (by kernel_rfl) rfl (by kernel_rfl) _) ?_
  refine (match_any w3 F p B o (HB.out.kept (k02.trans k3)) HI.out HAI.out.sd (right_qty HAI.out.rt) hn).mono ?_
  rintro r w4 ⟨F4, vf, rfl, hb4', hv4, ho4, hg4, hk4⟩
  rw [HMM.out] at hb4' hv4
  refine ⟨(Oc.mk o m.f m.left false m.self 0).v vf, by rw [HMM.out], ?_⟩
  simp only [Act.put, sA, sS, sZ]
  refine l_new (o := ⟨some 6, _, _, _, _, _⟩) (.pointer (some ⟨w4.heap.size, 0, none⟩)) (w4.alloc (.cells (zeroC.cells (.slice none 0 0)).toArray 29)) rfl (exec_alc 29 (zeroC.cells (.slice none 0 0)) rfl zC) ?_
  have hNw5 := Blk.new w4 29 (zeroC.cells (.slice none 0 0))
  have kw5 : Kept w4 (w4.alloc (.cells (zeroC.cells (.slice none 0 0)).toArray 29)) := (Keep.refl _ w4).alloc _
  generalize w4.alloc (.cells (zeroC.cells (.slice none 0 0)).toArray 29) = w5 at hNw5 kw5 ⊢
  simp only [Act.put, sA, sS, sZ]
  refine l_setS (o := ⟨none, _, _, _, _, _⟩) 29 w4.heap.size 29 (zeroC.cells (.slice none 0 0)) ((Oc.mk o m.f m.left false m.self 0).cells vf) (.tmp 6) (.tmp 19) rfl rfl (by kernel_rfl) (by kernel_rfl) hNw5 (by rw [Oc.len15]; exact szC) (by rw [Oc.len15, Oc.len15]) (Oc.one _ _ (sl_onec hv4)) ?_
  intro w6 hB6 hk6 hs6
  simp only [Act.put]
  refine wpList_nil ?_
  obtain ⟨bo, hbo⟩ : ∃ x, w4.heap.size = x := ⟨_, rfl⟩
  rw [hbo] at hNw5 hB6 hk6 ⊢
  have lo := hB6.lt
  have k46 : Kept w4 w6 := kw5.trans' hk6 (by omega)
  have k03 := k02.trans k3
  have z3 := k3.size
  have z4 := hk4.size
  have zz := k46.size
  have hbw : w.heap.size ≤ bo := by have := k03.size; omega
  have KF6 : Keep F w w6 := (Keep.any k03 hk4).kept k46
  have HB6 := Lib.hid (hb4'.kept k46)
  have HV6 := Lib.hid (hv4.kept k46)
  have HOo := Lib.hid hB6
  have HO6 := Lib.hid (range_kept (range_keep (range_kept HO2.out k3) hk4 hiF) k46)
  have HB46 := Lib.hid (((HB42.out.kept k3).keep hk4 h4F).kept k46)
  have HG4 : Hid (Grow w F F4) := hg4.wide k03.size
  have hoF4 : ¬ F4 bo := fun h => by have := hb4'.lt bo h; omega
  have hiF4 : ¬ F4 bi := fun h => (hg4 bi h).elim hiF (fun h => by omega)
  have h4F4 : ¬ F4 b4 := fun h => (hg4 b4 h).elim h4F (fun h => by omega)
  have HOw : Hid (∀ b, vf.ownBlock = some b → w.heap.size ≤ b ∧ ¬ F4 b) := fun b hb => ⟨by have := (ho4 b hb).1; have := k03.size; omega, (ho4 b hb).2⟩
  have HVL : Hid (∀ b, vf.ownBlock = some b → b < bo) := fun b hb => by have := hv4.lt hb; omega
  have hbo4 : bo ≠ b4 := by omega
  have hv4' : ∀ b, vf.ownBlock = some b → b ≠ b4 := fun b hb e => by
   have h1 := (ho4 b hb).1
   omega
  have HV4N := Lib.hid hv4'
  clear hb4' hv4 ho4 hg4 hk4 hNw5 hB6 hk6 hs6 kw5 k46 HO2 HB42 k3 hbo hv4'
  have HST : Hid (B.stays o = (decide (0 < m.left) && !m.self && (decide (o.k = 1) || decide (o.k = 5)))) := by show _ = _; unfold Bok.stays; rw [HMM.out]
  obtain ⟨st, hst⟩ : ∃ st, B.stays o = st := ⟨_, rfl⟩
  rw [hst] at HST
  have HSTY := Lib.hid hst
  have hst' : (decide (0 < m.left) && !m.self && (decide (o.k = 1) || decide (o.k = 5))) = st := HST.out.symm
  clear hst HST
  have HADD : Hid (B.add o = (⟨o, m.f, m.left, st, m.self, 0⟩, if st = true then (B.traded o).put o.side (restM (o.cut m.left) ((B.traded o).sd o.side)) else B.traded o)) := by
   show _ = _
   unfold Bok.add
   rw [if_neg (by rw [HE.out]; simp), HSTY.out, HMM.out]
  have HSTH := Lib.hid hst'
  clear hst'
  by_cases hl : 0 < m.left
  ·by_cases hsf0 : m.self = true
   ·have hsf := hsf0
    have hst : st = false := by rw [← HSTH.out, hsf]; simp
    subst hst
    clear hsf0
    go_upto_region 5 with fail
    refine wp_text 12 [.eq (.pointer (some ⟨bo, 10, none⟩)), .eq (.int .i64 (Oc.mk o m.f m.left false m.self 0).left), .eq (.bool true), .eq (.bool true), .eq (.pointer (some ⟨bo, 13, none⟩)), .eq (.bool (Oc.mk o m.f m.left false m.self 0).self), .eq (.bool false), .eq (.bool false), .eq (.bool false), .eq undef, .eq undef, .eq (.bool false)] rfl (by kernel_rfl) ?_ ?_
    ·refine sv 1 rfl rfl rfl (fun a u hE hD hk => exec_fldo 29 2 10 (.tmp 6) (bo) (0) (10) rfl (hE 6 (.pointer (some ⟨bo, 0, none⟩)) (by kernel_rfl) (by kernel_rfl)) (by kernel_rfl) rfl) ?_
     refine sv 2 rfl rfl rfl (fun a u hE hD hk => exec_loadi 3 Try.underlying3 (.tmp 20) ⟨bo, 10, none⟩ (.int .i64 (Oc.mk o m.f m.left false m.self 0).left) rfl (hD 0 20 (by kernel_rfl)) (by rw [(HOo.out.kept hk).cell]; rfl)) ?_
     refine fsteps_cons 3 rfl (fun a u hE hD hk => f_as (show ((decide ((0 : Int) < ((Oc.mk o m.f m.left false m.self 0).left : Int))) : Bool) = true from decide_eq_true hl) (f_val (o := ⟨some 22, _, _, _, _, _⟩) (.bool (decide ((0 : Int) < ((Oc.mk o m.f m.left false m.self 0).left : Int)))) rfl (wanted_none rfl _) (exec_gtn (p := (Oc.mk o m.f m.left false m.self 0).left) (q := 0) rfl (hD 1 21 (by kernel_rfl)) rfl) rfl)) ?_
     refine sv 4 rfl rfl rfl (fun a u hE hD hk => exec_move (.tmp 22) _ rfl (hD 2 22 (by kernel_rfl))) ?_
     refine fsteps_cons 5 rfl (fun a u hE hD hk => f_val (o := ⟨some 24, _, _, _, _, _⟩) (.pointer (some ⟨bo, 13, none⟩)) rfl (wanted_at (b := true) true rfl rfl (hD 3 23 (by kernel_rfl))) (exec_fldo 29 5 13 (.tmp 6) (bo) (0) (13) rfl (hE 6 (.pointer (some ⟨bo, 0, none⟩)) (by kernel_rfl) (by kernel_rfl)) (by kernel_rfl) rfl) rfl) ?_
     refine fsteps_cons 6 rfl (fun a u hE hD hk => f_val (o := ⟨some 25, _, _, _, _, _⟩) (.bool (Oc.mk o m.f m.left false m.self 0).self) rfl (wanted_at (b := true) true rfl rfl (hD 3 23 (by kernel_rfl))) (exec_ldb 4 Try.underlying4 (.tmp 24) ⟨bo, 13, none⟩ (.bool (Oc.mk o m.f m.left false m.self 0).self) rfl (hD 4 24 (by kernel_rfl)) (by rw [(HOo.out.kept hk).cell]; rfl)) rfl) ?_
     refine fsteps_cons 7 rfl (fun a u hE hD hk => f_as (show ((!(Oc.mk o m.f m.left false m.self 0).self) : Bool) = false from (by rw [hsf]; rfl)) (f_val (o := ⟨some 26, _, _, _, _, _⟩) (.bool (!(Oc.mk o m.f m.left false m.self 0).self)) rfl (wanted_at (b := true) true rfl rfl (hD 3 23 (by kernel_rfl))) (exec_not _ (.tmp 25) (Oc.mk o m.f m.left false m.self 0).self rfl (hD 5 25 (by kernel_rfl))) rfl)) ?_
     refine sv 8 rfl rfl rfl (fun a u hE hD hk => exec_pick (.tmp 23) (.tmp 26) (.const (.bool false)) (.bool false) rfl (hD 3 23 (by kernel_rfl)) (hD 6 26 (by kernel_rfl))) ?_
     refine sv 9 rfl rfl rfl (fun a u hE hD hk => exec_move (.tmp 27) _ rfl (hD 7 27 (by kernel_rfl))) ?_
     refine fsteps_cons 10 rfl (fun a u hE hD hk => f_skip (o := ⟨some 29, _, _, _, _, _⟩) rfl (wanted_at (b := true) false rfl rfl (hD 8 28 (by kernel_rfl))) rfl) ?_
     refine fsteps_cons 11 rfl (fun a u hE hD hk => f_skip (o := ⟨some 30, _, _, _, _, _⟩) rfl (wanted_at (b := true) false rfl rfl (hD 8 28 (by kernel_rfl))) rfl) ?_
     refine sv 12 rfl rfl rfl (fun a u hE hD hk => exec_pickF (.tmp 28) (.tmp 30) (.const (.bool false)) (.bool false) rfl (hD 8 28 (by kernel_rfl)) rfl) ?_
     exact fsteps_nil
    intro gv w7 hV k7
    rw [show dstsOf _ 12 = [20, 21, 22, 23, 24, 25, 26, 27, 28, 29, 30, 31] by kernel_rfl]
    simp only [fC, fN, sA, sS, sZ, dS, dZ]
    rw [show gv 31 = .bool false from hV 11 31 (by kernel_rfl)]
    clear hV
    refine wpList_nil ?_
    have HB7 := Lib.hid (HB6.out.kept k7)
    have HV7 := Lib.hid (HV6.out.kept k7)
    have HO7 := Lib.hid (HOo.out.kept k7)
    have HB47 := Lib.hid (HB46.out.kept k7)
    have KF7 := KF6.kept k7
    clear HB6 HV6 HOo HB46 HO6 KF6 k7
    go_upto_region 8 with fail
    refine wp_text 1 [.eq ((Oc.mk o m.f m.left false m.self 0).v vf)] rfl (by kernel_rfl) ?_ ?_
    ·refine sv 1 rfl rfl rfl (fun a u hE hD hk => exec_ldS 29 _ (.tmp 6) bo 0 ((Oc.mk o m.f m.left false m.self 0).cells vf) rfl (hE 6 (.pointer (some ⟨bo, 0, none⟩)) (by kernel_rfl) (by kernel_rfl)) (blk_range (HO7.out.kept hk)) Try.underlying29 (by rw [Oc.len15]; exact szC)) ?_
     exact fsteps_nil
    intro gv wy hV ky
    rw [show dstsOf _ 1 = [38] by kernel_rfl]
    simp only [fC, fN, sA, sS, sZ, dS, dZ]
    rw [show gv 38 = (Oc.mk o m.f m.left false m.self 0).v vf from hV 0 38 (by kernel_rfl)]
    clear hV
    refine l_setS (o := ⟨none, _, _, _, _, _⟩) 29 b4 29 (zeroC.cells (.slice none 0 0)) ((Oc.mk o m.f m.left false m.self 0).cells vf) (.tmp 4) (.tmp 38) rfl rfl (by kernel_rfl) (by kernel_rfl) (HB47.out.kept ky) (by rw [Oc.len15]; exact szC) (by rw [Oc.len15, Oc.len15]) (Oc.one _ _ (sl_onec HV7.out)) ?_
    intro wx hBx hkx hsx
    simp only [Act.put]
    refine wpList_nil ?_
    go_wp2
    refine bodyPost_ret (results_cell (p := 4) rfl _ _ b4 _ ((Oc.mk o m.f m.left false m.self 0).cells vf) rfl hBx Try.underlying29 (by rw [Oc.len15]; exact szC)) rfl ?_
    rw [HADD.out]
    refine ⟨F4, vf, rfl, ?_, (HV7.out.kept ky).keep hkx (fun b hb e => HV4N.out b hb e), HOw.out, HG4.out, (KF7.kept ky).trans hkx (fun b hb e => by omega)⟩
    have h1 := (HB7.out.kept ky).keep hkx (fun b hb e => h4F4 (by rw [← e]; exact hb))
    simp only [Bool.false_eq_true, if_false]
    rw [Bok.traded_to, HMM.out]
    exact h1
   ·have hsf : m.self = false := by simpa using hsf0
    clear hsf0
    obtain ⟨mr, hmr⟩ : ∃ x, (decide (o.k = 1) || decide (o.k = 5)) = x := ⟨_, rfl⟩
    have HMR := Lib.hid hmr
    cases mr with
    | false =>
     have hst : st = false := by rw [← HSTH.out, hmr]; simp
     subst hst
     clear hmr
     go_upto_region 5 with fail
     refine wp_text 12 [.eq (.pointer (some ⟨bo, 10, none⟩)), .eq (.int .i64 (Oc.mk o m.f m.left false m.self 0).left), .eq (.bool true), .eq (.bool true), .eq (.pointer (some ⟨bo, 13, none⟩)), .eq (.bool (Oc.mk o m.f m.left false m.self 0).self), .eq (.bool true), .eq (.bool true), .eq (.bool true), .eq (o.v), .eq (.bool false), .eq (.bool false)] rfl (by kernel_rfl) ?_ ?_
     ·refine sv 1 rfl rfl rfl (fun a u hE hD hk => exec_fldo 29 2 10 (.tmp 6) (bo) (0) (10) rfl (hE 6 (.pointer (some ⟨bo, 0, none⟩)) (by kernel_rfl) (by kernel_rfl)) (by kernel_rfl) rfl) ?_
      refine sv 2 rfl rfl rfl (fun a u hE hD hk => exec_loadi 3 Try.underlying3 (.tmp 20) ⟨bo, 10, none⟩ (.int .i64 (Oc.mk o m.f m.left false m.self 0).left) rfl (hD 0 20 (by kernel_rfl)) (by rw [(HOo.out.kept hk).cell]; rfl)) ?_
      refine fsteps_cons 3 rfl (fun a u hE hD hk => f_as (show ((decide ((0 : Int) < ((Oc.mk o m.f m.left false m.self 0).left : Int))) : Bool) = true from decide_eq_true hl) (f_val (o := ⟨some 22, _, _, _, _, _⟩) (.bool (decide ((0 : Int) < ((Oc.mk o m.f m.left false m.self 0).left : Int)))) rfl (wanted_none rfl _) (exec_gtn (p := (Oc.mk o m.f m.left false m.self 0).left) (q := 0) rfl (hD 1 21 (by kernel_rfl)) rfl) rfl)) ?_
      refine sv 4 rfl rfl rfl (fun a u hE hD hk => exec_move (.tmp 22) _ rfl (hD 2 22 (by kernel_rfl))) ?_
      refine fsteps_cons 5 rfl (fun a u hE hD hk => f_val (o := ⟨some 24, _, _, _, _, _⟩) (.pointer (some ⟨bo, 13, none⟩)) rfl (wanted_at (b := true) true rfl rfl (hD 3 23 (by kernel_rfl))) (exec_fldo 29 5 13 (.tmp 6) (bo) (0) (13) rfl (hE 6 (.pointer (some ⟨bo, 0, none⟩)) (by kernel_rfl) (by kernel_rfl)) (by kernel_rfl) rfl) rfl) ?_
      refine fsteps_cons 6 rfl (fun a u hE hD hk => f_val (o := ⟨some 25, _, _, _, _, _⟩) (.bool (Oc.mk o m.f m.left false m.self 0).self) rfl (wanted_at (b := true) true rfl rfl (hD 3 23 (by kernel_rfl))) (exec_ldb 4 Try.underlying4 (.tmp 24) ⟨bo, 13, none⟩ (.bool (Oc.mk o m.f m.left false m.self 0).self) rfl (hD 4 24 (by kernel_rfl)) (by rw [(HOo.out.kept hk).cell]; rfl)) rfl) ?_
      refine fsteps_cons 7 rfl (fun a u hE hD hk => f_as (show ((!(Oc.mk o m.f m.left false m.self 0).self) : Bool) = true from (by rw [hsf]; rfl)) (f_val (o := ⟨some 26, _, _, _, _, _⟩) (.bool (!(Oc.mk o m.f m.left false m.self 0).self)) rfl (wanted_at (b := true) true rfl rfl (hD 3 23 (by kernel_rfl))) (exec_not _ (.tmp 25) (Oc.mk o m.f m.left false m.self 0).self rfl (hD 5 25 (by kernel_rfl))) rfl)) ?_
      refine sv 8 rfl rfl rfl (fun a u hE hD hk => exec_pick (.tmp 23) (.tmp 26) (.const (.bool false)) (.bool true) rfl (hD 3 23 (by kernel_rfl)) (hD 6 26 (by kernel_rfl))) ?_
      refine sv 9 rfl rfl rfl (fun a u hE hD hk => exec_move (.tmp 27) _ rfl (hD 7 27 (by kernel_rfl))) ?_
      refine fsteps_cons 10 rfl (fun a u hE hD hk => f_val (o := ⟨some 29, _, _, _, _, _⟩) (o.v) rfl (wanted_at (b := true) true rfl rfl (hD 8 28 (by kernel_rfl))) (exec_ldS 25 _ (.tmp 3) (bi) (0) (o.cells) rfl (hE 3 (.pointer (some ⟨bi, 0, none⟩)) (by kernel_rfl) (by kernel_rfl)) (range_kept HO6.out hk) Try.underlying25 (by rw [o.len9]; exact ord_size)) rfl) ?_
      refine fsteps_cons 11 rfl (fun a u hE hD hk => f_call (o := ⟨some 30, _, _, _, _, _⟩) 41 #[o.v] rfl (wanted_at (b := true) true rfl rfl (hD 8 28 (by kernel_rfl))) (exec_call 41 _ [.tmp 29] _ [o.v] Try.func41 (by kernel_rfl) (by kernel_rfl) rfl (show [a.eval (.tmp 29)] = [o.v] from (by rw [show a.eval (.tmp 29) = o.v from (hD 9 29 (by kernel_rfl))] <;> rfl)) u) ((by rw [← HMR.out]; exact mayRest_any u o))) ?_
      refine sv 12 rfl rfl rfl (fun a u hE hD hk => exec_pick (.tmp 28) (.tmp 30) (.const (.bool false)) (.bool false) rfl (hD 8 28 (by kernel_rfl)) (hD 10 30 (by kernel_rfl))) ?_
      exact fsteps_nil
     intro gv w7 hV k7
     rw [show dstsOf _ 12 = [20, 21, 22, 23, 24, 25, 26, 27, 28, 29, 30, 31] by kernel_rfl]
     simp only [fC, fN, sA, sS, sZ, dS, dZ]
     rw [show gv 31 = .bool false from hV 11 31 (by kernel_rfl)]
     clear hV
     refine wpList_nil ?_
     have HB7 := Lib.hid (HB6.out.kept k7)
     have HV7 := Lib.hid (HV6.out.kept k7)
     have HO7 := Lib.hid (HOo.out.kept k7)
     have HB47 := Lib.hid (HB46.out.kept k7)
     have KF7 := KF6.kept k7
     clear HB6 HV6 HOo HB46 HO6 KF6 k7
     go_upto_region 8 with fail
     refine wp_text 1 [.eq ((Oc.mk o m.f m.left false m.self 0).v vf)] rfl (by kernel_rfl) ?_ ?_
     ·refine sv 1 rfl rfl rfl (fun a u hE hD hk => exec_ldS 29 _ (.tmp 6) bo 0 ((Oc.mk o m.f m.left false m.self 0).cells vf) rfl (hE 6 (.pointer (some ⟨bo, 0, none⟩)) (by kernel_rfl) (by kernel_rfl)) (blk_range (HO7.out.kept hk)) Try.underlying29 (by rw [Oc.len15]; exact szC)) ?_
      exact fsteps_nil
     intro gv wy hV ky
     rw [show dstsOf _ 1 = [38] by kernel_rfl]
     simp only [fC, fN, sA, sS, sZ, dS, dZ]
     rw [show gv 38 = (Oc.mk o m.f m.left false m.self 0).v vf from hV 0 38 (by kernel_rfl)]
     clear hV
     refine l_setS (o := ⟨none, _, _, _, _, _⟩) 29 b4 29 (zeroC.cells (.slice none 0 0)) ((Oc.mk o m.f m.left false m.self 0).cells vf) (.tmp 4) (.tmp 38) rfl rfl (by kernel_rfl) (by kernel_rfl) (HB47.out.kept ky) (by rw [Oc.len15]; exact szC) (by rw [Oc.len15, Oc.len15]) (Oc.one _ _ (sl_onec HV7.out)) ?_
     intro wx hBx hkx hsx
     simp only [Act.put]
     refine wpList_nil ?_
     go_wp2
     refine bodyPost_ret (results_cell (p := 4) rfl _ _ b4 _ ((Oc.mk o m.f m.left false m.self 0).cells vf) rfl hBx Try.underlying29 (by rw [Oc.len15]; exact szC)) rfl ?_
     rw [HADD.out]
     refine ⟨F4, vf, rfl, ?_, (HV7.out.kept ky).keep hkx (fun b hb e => HV4N.out b hb e), HOw.out, HG4.out, (KF7.kept ky).trans hkx (fun b hb e => by omega)⟩
     have h1 := (HB7.out.kept ky).keep hkx (fun b hb e => h4F4 (by rw [← e]; exact hb))
     simp only [Bool.false_eq_true, if_false]
     rw [Bok.traded_to, HMM.out]
     exact h1
    | true =>
     have hst : st = true := by rw [← HSTH.out, hmr, hsf]; simp; exact hl
     subst hst
     clear hmr
     go_upto_region 5 with fail
     refine wp_text 12 [.eq (.pointer (some ⟨bo, 10, none⟩)), .eq (.int .i64 (Oc.mk o m.f m.left false m.self 0).left), .eq (.bool true), .eq (.bool true), .eq (.pointer (some ⟨bo, 13, none⟩)), .eq (.bool (Oc.mk o m.f m.left false m.self 0).self), .eq (.bool true), .eq (.bool true), .eq (.bool true), .eq (o.v), .eq (.bool true), .eq (.bool true)] rfl (by kernel_rfl) ?_ ?_
     ·refine sv 1 rfl rfl rfl (fun a u hE hD hk => exec_fldo 29 2 10 (.tmp 6) (bo) (0) (10) rfl (hE 6 (.pointer (some ⟨bo, 0, none⟩)) (by kernel_rfl) (by kernel_rfl)) (by kernel_rfl) rfl) ?_
      refine sv 2 rfl rfl rfl (fun a u hE hD hk => exec_loadi 3 Try.underlying3 (.tmp 20) ⟨bo, 10, none⟩ (.int .i64 (Oc.mk o m.f m.left false m.self 0).left) rfl (hD 0 20 (by kernel_rfl)) (by rw [(HOo.out.kept hk).cell]; rfl)) ?_
      refine fsteps_cons 3 rfl (fun a u hE hD hk => f_as (show ((decide ((0 : Int) < ((Oc.mk o m.f m.left false m.self 0).left : Int))) : Bool) = true from decide_eq_true hl) (f_val (o := ⟨some 22, _, _, _, _, _⟩) (.bool (decide ((0 : Int) < ((Oc.mk o m.f m.left false m.self 0).left : Int)))) rfl (wanted_none rfl _) (exec_gtn (p := (Oc.mk o m.f m.left false m.self 0).left) (q := 0) rfl (hD 1 21 (by kernel_rfl)) rfl) rfl)) ?_
      refine sv 4 rfl rfl rfl (fun a u hE hD hk => exec_move (.tmp 22) _ rfl (hD 2 22 (by kernel_rfl))) ?_
      refine fsteps_cons 5 rfl (fun a u hE hD hk => f_val (o := ⟨some 24, _, _, _, _, _⟩) (.pointer (some ⟨bo, 13, none⟩)) rfl (wanted_at (b := true) true rfl rfl (hD 3 23 (by kernel_rfl))) (exec_fldo 29 5 13 (.tmp 6) (bo) (0) (13) rfl (hE 6 (.pointer (some ⟨bo, 0, none⟩)) (by kernel_rfl) (by kernel_rfl)) (by kernel_rfl) rfl) rfl) ?_
      refine fsteps_cons 6 rfl (fun a u hE hD hk => f_val (o := ⟨some 25, _, _, _, _, _⟩) (.bool (Oc.mk o m.f m.left false m.self 0).self) rfl (wanted_at (b := true) true rfl rfl (hD 3 23 (by kernel_rfl))) (exec_ldb 4 Try.underlying4 (.tmp 24) ⟨bo, 13, none⟩ (.bool (Oc.mk o m.f m.left false m.self 0).self) rfl (hD 4 24 (by kernel_rfl)) (by rw [(HOo.out.kept hk).cell]; rfl)) rfl) ?_
      refine fsteps_cons 7 rfl (fun a u hE hD hk => f_as (show ((!(Oc.mk o m.f m.left false m.self 0).self) : Bool) = true from (by rw [hsf]; rfl)) (f_val (o := ⟨some 26, _, _, _, _, _⟩) (.bool (!(Oc.mk o m.f m.left false m.self 0).self)) rfl (wanted_at (b := true) true rfl rfl (hD 3 23 (by kernel_rfl))) (exec_not _ (.tmp 25) (Oc.mk o m.f m.left false m.self 0).self rfl (hD 5 25 (by kernel_rfl))) rfl)) ?_
      refine sv 8 rfl rfl rfl (fun a u hE hD hk => exec_pick (.tmp 23) (.tmp 26) (.const (.bool false)) (.bool true) rfl (hD 3 23 (by kernel_rfl)) (hD 6 26 (by kernel_rfl))) ?_
      refine sv 9 rfl rfl rfl (fun a u hE hD hk => exec_move (.tmp 27) _ rfl (hD 7 27 (by kernel_rfl))) ?_
      refine fsteps_cons 10 rfl (fun a u hE hD hk => f_val (o := ⟨some 29, _, _, _, _, _⟩) (o.v) rfl (wanted_at (b := true) true rfl rfl (hD 8 28 (by kernel_rfl))) (exec_ldS 25 _ (.tmp 3) (bi) (0) (o.cells) rfl (hE 3 (.pointer (some ⟨bi, 0, none⟩)) (by kernel_rfl) (by kernel_rfl)) (range_kept HO6.out hk) Try.underlying25 (by rw [o.len9]; exact ord_size)) rfl) ?_
      refine fsteps_cons 11 rfl (fun a u hE hD hk => f_call (o := ⟨some 30, _, _, _, _, _⟩) 41 #[o.v] rfl (wanted_at (b := true) true rfl rfl (hD 8 28 (by kernel_rfl))) (exec_call 41 _ [.tmp 29] _ [o.v] Try.func41 (by kernel_rfl) (by kernel_rfl) rfl (show [a.eval (.tmp 29)] = [o.v] from (by rw [show a.eval (.tmp 29) = o.v from (hD 9 29 (by kernel_rfl))] <;> rfl)) u) ((by rw [← HMR.out]; exact mayRest_any u o))) ?_
      refine sv 12 rfl rfl rfl (fun a u hE hD hk => exec_pick (.tmp 28) (.tmp 30) (.const (.bool false)) (.bool true) rfl (hD 8 28 (by kernel_rfl)) (hD 10 30 (by kernel_rfl))) ?_
      exact fsteps_nil
     intro gv w7 hV k7
     rw [show dstsOf _ 12 = [20, 21, 22, 23, 24, 25, 26, 27, 28, 29, 30, 31] by kernel_rfl]
     simp only [fC, fN, sA, sS, sZ, dS, dZ]
     rw [show gv 31 = .bool true from hV 11 31 (by kernel_rfl)]
     clear hV
     refine wpList_nil ?_
     have HB7 := Lib.hid (HB6.out.kept k7)
     have HV7 := Lib.hid (HV6.out.kept k7)
     have HO7 := Lib.hid (HOo.out.kept k7)
     have HI7 := Lib.hid (range_kept HO6.out k7)
     have HB47 := Lib.hid (HB46.out.kept k7)
     have KF7 := KF6.kept k7
     have zk7 := k7.size
     have HLO : Hid (LvsOk ((B.to (3 - o.side) m.L (lastOf B.last m.f) (B.no + m.f.length)).sd o.side)) := by
      show LvsOk _
      have h1 := HI.out.ok o.side
      rcases HAI.out.sd with h2 | h2 <;> rw [h2] at h1 ⊢ <;> exact h1
     clear HB6 HV6 HOo HB46 HO6 KF6 k7 hl hsf
     go_upto_region 6 with fail
     refine wp_text 4 [.eq (.pointer (some ⟨p, 0, none⟩)), .eq (o.v), .eq (.pointer (some ⟨bo, 10, none⟩)), .eq (.int .i64 (Oc.mk o m.f m.left false m.self 0).left)] rfl (by kernel_rfl) ?_ ?_
     ·refine sv 1 rfl rfl rfl (fun a u hE hD hk => exec_move (.tmp 0) _ rfl (hE 0 (.pointer (some ⟨p, 0, none⟩)) (by kernel_rfl) (by kernel_rfl))) ?_
      refine sv 2 rfl rfl rfl (fun a u hE hD hk => exec_ldS 25 _ (.tmp 3) (bi) (0) (o.cells) rfl (hE 3 (.pointer (some ⟨bi, 0, none⟩)) (by kernel_rfl) (by kernel_rfl)) (range_kept HI7.out hk) Try.underlying25 (by rw [o.len9]; exact ord_size)) ?_
      refine sv 3 rfl rfl rfl (fun a u hE hD hk => exec_fldo 29 2 10 (.tmp 6) (bo) (0) (10) rfl (hE 6 (.pointer (some ⟨bo, 0, none⟩)) (by kernel_rfl) (by kernel_rfl)) (by kernel_rfl) rfl) ?_
      refine sv 4 rfl rfl rfl (fun a u hE hD hk => exec_loadi 3 Try.underlying3 (.tmp 34) ⟨bo, 10, none⟩ (.int .i64 (Oc.mk o m.f m.left false m.self 0).left) rfl (hD 2 34 (by kernel_rfl)) (by rw [(HO7.out.kept hk).cell]; rfl)) ?_
      exact fsteps_nil
     intro gv w8 hV k8
     rw [show dstsOf _ 4 = [32, 33, 34, 35] by kernel_rfl]
     simp only [fC, fN, sA, sS, sZ, dS, dZ]
     rw [show gv 32 = .pointer (some ⟨p, 0, none⟩) from hV 0 32 (by kernel_rfl)]
     rw [show gv 33 = o.v from hV 1 33 (by kernel_rfl)]
     rw [show gv 35 = .int .i64 (Oc.mk o m.f m.left false m.self 0).left from hV 3 35 (by kernel_rfl)]
     clear hV
     refine l_call (o := ⟨some 36, _, _, _, _, _⟩) 42 #[.pointer (some ⟨p, 0, none⟩), o.v, .int .i64 (Oc.mk o m.f m.left false m.self 0).left] rfl (exec_call 42 _ [.tmp 32, .tmp 33, .tmp 35] _ _ Try.func42 (by kernel_rfl) (by kernel_rfl) rfl (by kernel_rfl) _) ?_
     refine (rest_any w8 F4 p _ o m.left (HB7.out.kept k8) HAI.out.sd HLO.out).mono ?_
     rintro r w9 ⟨F9, rfl, hb9, hg9, hk9⟩
     refine ⟨_, rfl, ?_⟩
     simp only [Act.put, sA, sS, sZ]
     refine wpList_nil ?_
     have zk8 := k8.size
     have zk9 := hk9.size
     have HO9 := Lib.hid ((HO7.out.kept k8).keep hk9 hoF4)
     have HB49 := Lib.hid ((HB47.out.kept k8).keep hk9 h4F4)
     have HV9 := Lib.hid ((HV7.out.kept k8).keep hk9 (fun b hb e => (HOw.out b hb).2 e))
     have KF9 : Keep F w w9 := (KF7.kept k8).trans hk9 (fun b hb e => (HG4.out b e).elim id (fun e => by omega))
     have hF9 : ∀ b, F9 b → F4 b ∨ w8.heap.size ≤ b := hg9
     have ho9 : ¬ F9 bo := fun h => (hF9 bo h).elim hoF4 (fun h => by omega)
     have h49 : ¬ F9 b4 := fun h => (hF9 b4 h).elim h4F4 (fun h => by omega)
     have HOw9 : Hid (∀ b, vf.ownBlock = some b → w.heap.size ≤ b ∧ ¬ F9 b) := fun b hb => ⟨(HOw.out b hb).1, fun e => (hF9 b e).elim (HOw.out b hb).2 (fun e => by have := HVL.out b hb; omega)⟩
     have HG9 : Hid (Grow w F F9) := fun b hb => by
      rcases hF9 b hb with h | h
      ·exact HG4.out b h
      ·exact .inr (by have := KF7.size; omega)
     have HB9 := Lib.hid hb9
     clear hb9 hg9 hk9 k8 HB7 HV7 HO7 HI7 HB47 KF7 hF9
     go_upto_region 7 with fail
     refine wp_text 1 [.eq (.pointer (some ⟨bo, 11, none⟩))] rfl (by kernel_rfl) ?_ ?_
     ·refine sv 1 rfl rfl rfl (fun a u hE hD hk => exec_fldo 29 3 11 (.tmp 6) (bo) (0) (11) rfl (hE 6 (.pointer (some ⟨bo, 0, none⟩)) (by kernel_rfl) (by kernel_rfl)) (by kernel_rfl) rfl) ?_
      exact fsteps_nil
     intro gv wa hV ka
     rw [show dstsOf _ 1 = [37] by kernel_rfl]
     simp only [fC, fN, sA, sS, sZ, dS, dZ]
     rw [show gv 37 = .pointer (some ⟨bo, 11, none⟩) from hV 0 37 (by kernel_rfl)]
     clear hV
     refine l_st1 (o := ⟨none, _, _, _, _, _⟩) 4 bo 11 29 _ (.bool true) (.tmp 37) (.const (.bool true)) rfl rfl (by kernel_rfl) (by kernel_rfl) rfl rfl rfl (HO9.out.kept ka) (by rw [Oc.len15]; omega) ?_
     intro wb hOb hkb hsb
     simp only [Act.put]
     refine wpList_nil ?_
     rw [Oc.set_rests] at hOb
     have HOb := Lib.hid hOb
     have HBb := Lib.hid ((HB9.out.kept ka).keep hkb (fun b hb e => ho9 (by rw [← e]; exact hb)))
     have HVb := Lib.hid ((HV9.out.kept ka).keep hkb (fun b hb e => by have := HVL.out b hb; omega))
     have HB4b := Lib.hid ((HB49.out.kept ka).keep hkb (fun e => hbo4 e.symm))
     have KFb : Keep F w wb := (KF9.kept ka).trans hkb (fun b hb e => by omega)
     clear hOb hkb hsb ka HO9 HB9 HV9 HB49 KF9
     go_upto_region 8 with fail
     refine wp_text 1 [.eq ((Oc.mk o m.f m.left true m.self 0).v vf)] rfl (by kernel_rfl) ?_ ?_
     ·refine sv 1 rfl rfl rfl (fun a u hE hD hk => exec_ldS 29 _ (.tmp 6) bo 0 ((Oc.mk o m.f m.left true m.self 0).cells vf) rfl (hE 6 (.pointer (some ⟨bo, 0, none⟩)) (by kernel_rfl) (by kernel_rfl)) (blk_range (HOb.out.kept hk)) Try.underlying29 (by rw [Oc.len15]; exact szC)) ?_
      exact fsteps_nil
     intro gv wy hV ky
     rw [show dstsOf _ 1 = [38] by kernel_rfl]
     simp only [fC, fN, sA, sS, sZ, dS, dZ]
     rw [show gv 38 = (Oc.mk o m.f m.left true m.self 0).v vf from hV 0 38 (by kernel_rfl)]
     clear hV
     refine l_setS (o := ⟨none, _, _, _, _, _⟩) 29 b4 29 (zeroC.cells (.slice none 0 0)) ((Oc.mk o m.f m.left true m.self 0).cells vf) (.tmp 4) (.tmp 38) rfl rfl (by kernel_rfl) (by kernel_rfl) (HB4b.out.kept ky) (by rw [Oc.len15]; exact szC) (by rw [Oc.len15, Oc.len15]) (Oc.one _ _ (sl_onec HVb.out)) ?_
     intro wx hBx hkx hsx
     simp only [Act.put]
     refine wpList_nil ?_
     go_wp2
     refine bodyPost_ret (results_cell (p := 4) rfl _ _ b4 _ ((Oc.mk o m.f m.left true m.self 0).cells vf) rfl hBx Try.underlying29 (by rw [Oc.len15]; exact szC)) rfl ?_
     rw [HADD.out]
     refine ⟨F9, vf, rfl, ?_, (HVb.out.kept ky).keep hkx (fun b hb e => HV4N.out b hb e), HOw9.out, HG9.out, (KFb.kept ky).trans hkx (fun b hb e => by omega)⟩
     have h1 := (HBb.out.kept ky).keep hkx (fun b hb e => h49 (by rw [← e]; exact hb))
     simp only [if_true]
     rw [Bok.traded_to, HMM.out]
     rcases HAI.out.sd with h2 | h2
     ·rw [h2] at h1 ⊢
      exact h1
     ·rw [h2] at h1 ⊢
      exact h1
  ·have hst : st = false := by rw [← HSTH.out]; simp [hl]
   subst hst
   go_upto_region 5 with fail
   refine wp_text 12 [.eq (.pointer (some ⟨bo, 10, none⟩)), .eq (.int .i64 (Oc.mk o m.f m.left false m.self 0).left), .eq (.bool false), .eq (.bool false), .eq undef, .eq undef, .eq undef, .eq (.bool false), .eq (.bool false), .eq undef, .eq undef, .eq (.bool false)] rfl (by kernel_rfl) ?_ ?_
   ·refine sv 1 rfl rfl rfl (fun a u hE hD hk => exec_fldo 29 2 10 (.tmp 6) (bo) (0) (10) rfl (hE 6 (.pointer (some ⟨bo, 0, none⟩)) (by kernel_rfl) (by kernel_rfl)) (by kernel_rfl) rfl) ?_
    refine sv 2 rfl rfl rfl (fun a u hE hD hk => exec_loadi 3 Try.underlying3 (.tmp 20) ⟨bo, 10, none⟩ (.int .i64 (Oc.mk o m.f m.left false m.self 0).left) rfl (hD 0 20 (by kernel_rfl)) (by rw [(HOo.out.kept hk).cell]; rfl)) ?_
    refine fsteps_cons 3 rfl (fun a u hE hD hk => f_as (show ((decide ((0 : Int) < ((Oc.mk o m.f m.left false m.self 0).left : Int))) : Bool) = false from decide_eq_false hl) (f_val (o := ⟨some 22, _, _, _, _, _⟩) (.bool (decide ((0 : Int) < ((Oc.mk o m.f m.left false m.self 0).left : Int)))) rfl (wanted_none rfl _) (exec_gtn (p := (Oc.mk o m.f m.left false m.self 0).left) (q := 0) rfl (hD 1 21 (by kernel_rfl)) rfl) rfl)) ?_
    refine sv 4 rfl rfl rfl (fun a u hE hD hk => exec_move (.tmp 22) _ rfl (hD 2 22 (by kernel_rfl))) ?_
    refine fsteps_cons 5 rfl (fun a u hE hD hk => f_skip (o := ⟨some 24, _, _, _, _, _⟩) rfl (wanted_at (b := true) false rfl rfl (hD 3 23 (by kernel_rfl))) rfl) ?_
    refine fsteps_cons 6 rfl (fun a u hE hD hk => f_skip (o := ⟨some 25, _, _, _, _, _⟩) rfl (wanted_at (b := true) false rfl rfl (hD 3 23 (by kernel_rfl))) rfl) ?_
    refine fsteps_cons 7 rfl (fun a u hE hD hk => f_skip (o := ⟨some 26, _, _, _, _, _⟩) rfl (wanted_at (b := true) false rfl rfl (hD 3 23 (by kernel_rfl))) rfl) ?_
    refine sv 8 rfl rfl rfl (fun a u hE hD hk => exec_pickF (.tmp 23) (.tmp 26) (.const (.bool false)) (.bool false) rfl (hD 3 23 (by kernel_rfl)) rfl) ?_
    refine sv 9 rfl rfl rfl (fun a u hE hD hk => exec_move (.tmp 27) _ rfl (hD 7 27 (by kernel_rfl))) ?_
    refine fsteps_cons 10 rfl (fun a u hE hD hk => f_skip (o := ⟨some 29, _, _, _, _, _⟩) rfl (wanted_at (b := true) false rfl rfl (hD 8 28 (by kernel_rfl))) rfl) ?_
    refine fsteps_cons 11 rfl (fun a u hE hD hk => f_skip (o := ⟨some 30, _, _, _, _, _⟩) rfl (wanted_at (b := true) false rfl rfl (hD 8 28 (by kernel_rfl))) rfl) ?_
    refine sv 12 rfl rfl rfl (fun a u hE hD hk => exec_pickF (.tmp 28) (.tmp 30) (.const (.bool false)) (.bool false) rfl (hD 8 28 (by kernel_rfl)) rfl) ?_
    exact fsteps_nil
   intro gv w7 hV k7
   rw [show dstsOf _ 12 = [20, 21, 22, 23, 24, 25, 26, 27, 28, 29, 30, 31] by kernel_rfl]
   simp only [fC, fN, sA, sS, sZ, dS, dZ]
   rw [show gv 31 = .bool false from hV 11 31 (by kernel_rfl)]
   clear hV
   refine wpList_nil ?_
   have HB7 := Lib.hid (HB6.out.kept k7)
   have HV7 := Lib.hid (HV6.out.kept k7)
   have HO7 := Lib.hid (HOo.out.kept k7)
   have HB47 := Lib.hid (HB46.out.kept k7)
   have KF7 := KF6.kept k7
   clear HB6 HV6 HOo HB46 HO6 KF6 k7
   go_upto_region 8 with fail
   refine wp_text 1 [.eq ((Oc.mk o m.f m.left false m.self 0).v vf)] rfl (by kernel_rfl) ?_ ?_
   ·refine sv 1 rfl rfl rfl (fun a u hE hD hk => exec_ldS 29 _ (.tmp 6) bo 0 ((Oc.mk o m.f m.left false m.self 0).cells vf) rfl (hE 6 (.pointer (some ⟨bo, 0, none⟩)) (by kernel_rfl) (by kernel_rfl)) (blk_range (HO7.out.kept hk)) Try.underlying29 (by rw [Oc.len15]; exact szC)) ?_
    exact fsteps_nil
   intro gv wy hV ky
   rw [show dstsOf _ 1 = [38] by kernel_rfl]
   simp only [fC, fN, sA, sS, sZ, dS, dZ]
   rw [show gv 38 = (Oc.mk o m.f m.left false m.self 0).v vf from hV 0 38 (by kernel_rfl)]
   clear hV
   refine l_setS (o := ⟨none, _, _, _, _, _⟩) 29 b4 29 (zeroC.cells (.slice none 0 0)) ((Oc.mk o m.f m.left false m.self 0).cells vf) (.tmp 4) (.tmp 38) rfl rfl (by kernel_rfl) (by kernel_rfl) (HB47.out.kept ky) (by rw [Oc.len15]; exact szC) (by rw [Oc.len15, Oc.len15]) (Oc.one _ _ (sl_onec HV7.out)) ?_
   intro wx hBx hkx hsx
   simp only [Act.put]
   refine wpList_nil ?_
   go_wp2
   refine bodyPost_ret (results_cell (p := 4) rfl _ _ b4 _ ((Oc.mk o m.f m.left false m.self 0).cells vf) rfl hBx Try.underlying29 (by rw [Oc.len15]; exact szC)) rfl ?_
   rw [HADD.out]
   refine ⟨F4, vf, rfl, ?_, (HV7.out.kept ky).keep hkx (fun b hb e => HV4N.out b hb e), HOw.out, HG4.out, (KF7.kept ky).trans hkx (fun b hb e => by omega)⟩
   have h1 := (HB7.out.kept ky).keep hkx (fun b hb e => h4F4 (by rw [← e]; exact hb))
   simp only [Bool.false_eq_true, if_false]
   rw [Bok.traded_to, HMM.out]
   exact h1
end Go.Proofs.Ytfpfpmhkkgfdbaa
namespace Go.Proofs.Ytfpfpmhkkgfdbaa
open Go.RowKit
set_option maxRecDepth 100000
end Go.Proofs.Ytfpfpmhkkgfdbaa
namespace Go.Proofs.Ytfpfpmhkkgfdbaa
open Go.RowKit
set_option maxRecDepth 100000
section
variable {P : Program} {ops : Array Oper} {Q : Exit → Act → World → Prop} {V : List Kn} {n m m2 : Nat} {a0 : Act} {w0 : World} {S S2 : Nat → Prop}
end
end Go.Proofs.Ytfpfpmhkkgfdbaa
namespace Go.Proofs.Ytfpfpmhkkgfdbaa
open Go.RowKit
set_option maxRecDepth 100000
theorem add_frame {wa wb wc wd we : World} {F F' : Nat → Prop} {p n : Nat} {B' : Bok} {v : Value} {cs : List Value} {T : TypeId} {k : Nat} (k1 : Kept wa wb) (hB : Bk wc F' p B') (hS : Sl wc T k v n cs) (hO : ∀ b, v.ownBlock = some b → wb.heap.size ≤ b ∧ ¬ F' b) (hG : Grow wb F F') (hk : Keep F wb wc) (k2 : Kept wc wd) (hk3 : Keep (· = wc.heap.size) wd we) :
  Keep F wa we ∧ Bk we F' p B' ∧ Sl we T k v n cs ∧ (∀ b, v.ownBlock = some b → wa.heap.size ≤ b ∧ ¬ F' b ∧ b < wc.heap.size) ∧ Grow wa F F' ∧ (∀ b, F' b → b < wc.heap.size) ∧ wa.heap.size ≤ wc.heap.size := by
 have z1 := k1.size
 have z2 := hk.size
 have K : Keep (· = wc.heap.size) wc we := Keep.any k2 hk3
 refine ⟨(Keep.any k1 hk).new K (by omega), hB.keep K (fun b hb e => ?_), hS.keep K (fun b hb e => ?_), fun b hb => ⟨?_, (hO b hb).2, hS.lt hb⟩, hG.wide z1, hB.lt, by omega⟩
 ·have := hB.lt b hb; omega
 ·have := hS.lt hb; omega
 ·have := (hO b hb).1; omega
def Kn.add (base : Nat) (F : Nat → Prop) (p : Nat) (x : Oc × Bok) : Kn := ⟨fun rv w => ∃ F' v, rv = x.1.v v ∧ Bk w F' p x.2 ∧ Sl w 36 21 v x.1.f.length (fls x.1.f) ∧ (∀ b, v.ownBlock = some b → base ≤ b ∧ ¬ F' b) ∧ ∀ b, F' b → F b ∨ base ≤ b, fun _ _ _ ⟨F', v, h1, h2, h3, h4, h5⟩ hk => ⟨F', v, h1, h2.kept hk, h3.kept hk, h4, h5⟩⟩
def Kn.two (base : Nat) (F G : Nat → Prop) (p r : Nat) (x y : Oc × Bok) : Kn := ⟨fun rv w => ∃ F' G' v, rv = y.1.v v ∧ Bk w F' p x.2 ∧ Bk w G' r y.2 ∧ Sl w 36 21 v y.1.f.length (fls y.1.f) ∧ (∀ b, v.ownBlock = some b → base ≤ b ∧ ¬ G' b ∧ ¬ F' b) ∧ (∀ b, F' b → F b ∨ base ≤ b) ∧ (∀ b, G' b → G b ∨ base ≤ b) ∧ ∀ b, F' b → ¬ G' b,
 fun _ _ _ ⟨F', G', v, h1, h2, h3, h4, h5⟩ hk => ⟨F', G', v, h1, h2.kept hk, h3.kept hk, h4.kept hk, h5⟩⟩
end Go.Proofs.Ytfpfpmhkkgfdbaa
namespace Go.Proofs.Ytfpfpmhkkgfdbaa
open Go.RowKit
set_option maxRecDepth 100000
def wi (n lo hi : Int) : Int := lo + n % (hi - lo + 1)
theorem wi_in (n lo hi : Int) (h : lo ≤ hi) : lo ≤ wi n lo hi ∧ wi n lo hi ≤ hi := by
 unfold wi
 have p := Int.emod_nonneg n (show hi - lo + 1 ≠ 0 by omega)
 have q := Int.emod_lt_of_pos n (show 0 < hi - lo + 1 by omega)
 omega
theorem within_is (n lo hi : Int) (w : World) (h0 : 0 ≤ lo) (h1 : lo ≤ hi) (h2 : hi ≤ 1099511627776) : Gives 38 #[.int .i64 n, .int .i64 lo, .int .i64 hi] w (.eq (.int .i64 (wi n lo hi))) :=
 gives_eq ((within_any n lo hi w h0 h1 h2).mono fun e w' ⟨he, hw⟩ => ⟨he, by subst hw; exact Kept.refl _⟩)
end Go.Proofs.Ytfpfpmhkkgfdbaa
