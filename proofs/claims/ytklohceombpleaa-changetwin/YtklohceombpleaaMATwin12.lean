/-
 The walk of ChangeTwin. No condition.
-/
import Derived.Test.YtklohceombpleaaQA05
import Derived.Test.YtklohceombpleaaMAKOuts
import Derived.Test.YtklohceombpleaaMAPlM11
set_option linter.unusedVariables false
namespace Go.Proofs.Ytklohceombpleaa
open Go.RowKit
set_option maxRecDepth 100000
theorem any_right {M : Mkt} (h : InvK M) {x : Ord} (hx : x ∈ M.all) (hk : x.k ≠ 2) {p : Int} (hp : 1 ≤ p ∧ p ≤ 1048576) : (x.chg p x.qty).right = true := by
 have hf := h.fair x hx
 have h0 := hf.qty0
 have h1 := hf.qty1
 unfold Mkt.all at hx
 rcases List.mem_append.1 hx with hx | hx
 ·have hb : x.stt ∧ (x.side = 1 ∨ x.side = 2) := by
   rcases List.mem_append.1 hx with hb | hs
   ·obtain ⟨l, _, e, _, he, rfl⟩ := ordsL_at h.inv.two.mine x hb
    exact ⟨he.stt, .inl he.side⟩
   ·obtain ⟨l, _, e, _, he, rfl⟩ := ordsL_at h.inv.two.theirs x hs
    exact ⟨he.stt, .inr he.side⟩
  exact book_right hb.1 hb.2 hp ⟨h0, h1⟩
 ·have hr := (right_iff x).1 (h.good x hx).1
  refine (right_iff _).2 ?_
  have e : x.chg p x.qty = { x with price := p, qty := x.qty, shw := mx 0 (mn x.shw x.qty) } := rfl
  have h2 := mn_is x.shw x.qty
  have h3 := mx_is 0 (mn x.shw x.qty)
  rw [e]
  simp only
  omega
theorem amend_price {M : Mkt} (h : InvK M) {k : Nat} {x : Ord} (hx : M.all[k]? = some x) (hk : x.k ≠ 2) {p : Int} (hp : 1 ≤ p ∧ p ≤ 1048576) (hne : p ≠ x.price) : M.amend x.tr x.id p x.qty = ((M.back x.tr x.id (x.chg p x.qty)).1, 0, (M.back x.tr x.id (x.chg p x.qty)).2) := by
 unfold Mkt.amend
 rw [find_all_at h hx, if_neg (by simp), if_neg (by rw [any_right h (List.mem_of_getElem? hx) hk hp]; simp), if_neg (fun e => hne e.1)]
theorem chg_show (x : Ord) (p : Int) (h0 : 0 ≤ x.shw) (h1 : 0 ≤ x.qty) : stc ((x.l.set 5 p).set 7 (mn x.shw x.qty)) [] = (x.chg p x.qty).cells := by
 have h2 := mn_is x.shw x.qty
 have e : mx 0 (mn x.shw x.qty) = mn x.shw x.qty := by unfold mx; split <;> omega
 unfold Ord.cells Ord.chg
 rw [e]
 rfl
set_option maxRecDepth 100000 in
set_option maxHeartbeats 6400000 in
theorem changeTwin_any (v : Value) (l : List Kq) (at_ price : Int) (w : World) (hl : Kqs w v l) : Calls Try.prog 8 #[v, .int .i64 at_, .int .i64 price] w fun e w' => e = .returned (.bool true) ∧ Kept w w' := by
 have HIN := Lib.hid (fillM_inv (l.take 40))
 have HNo : Hid ((fillM (l.take 40)).b.no ≤ 3000000000) := by
  have h1 := HIN.out.2
  have h2 : (l.take 40).length ≤ 40 := by rw [List.length_take]; omega
  show _ ≤ _
  omega
 have HI := Lib.hid HIN.out.1
 have HMM : Hid (∀ (u : World), Kept w u → Calls Try.prog 11 #[v] u fun e w' => ∃ p F, e = .returned (.pointer (some ⟨p, 0, none⟩)) ∧ Mk w' F p (fillM (l.take 40)) ∧ Grow u (fun _ => False) F ∧ Kept u w') := fun u hu => mfilled_any v l u (hl.kept hu)
 clear HIN
 generalize fillM (l.take 40) = M at HI HNo HMM
 clear hl
 go_enter Try.func8, Try.ntmps8
 go_upto_region 1 with fail
 refine wp_region_lit ?_
 refine l_val (o := ⟨some 15, _, _, _, _, _⟩) (v) rfl (exec_move (.tmp 0) (v) rfl (by kernel_rfl)) ?_
 simp only [Act.put, sA, sS, sZ]
 refine l_call (o := ⟨some 16, _, _, _, _, _⟩) 11 #[v] rfl (exec_call 11 _ [.tmp 15] _ _ Try.func11 (by kernel_rfl) (by kernel_rfl) rfl (by kernel_rfl) _) ?_
 refine (HMM.out w (Kept.refl _)).mono ?_
 rintro rr w1a ⟨p, F, rfl, hMp, hGp, kcw1a⟩
 refine ⟨_, rfl, ?_⟩
 have kww1a := kcw1a
 simp only [Act.put, sA, sS, sZ]
 refine l_val (o := ⟨some 17, _, _, _, _, _⟩) (v) rfl (exec_move (.tmp 0) (v) rfl (by kernel_rfl)) ?_
 simp only [Act.put, sA, sS, sZ]
 refine l_call (o := ⟨some 18, _, _, _, _, _⟩) 11 #[v] rfl (exec_call 11 _ [.tmp 17] _ _ Try.func11 (by kernel_rfl) (by kernel_rfl) rfl (by kernel_rfl) _) ?_
 refine (HMM.out w1a kww1a).mono ?_
 rintro rr w1 ⟨r, G, rfl, hMr, hGr, kcw1⟩
 refine ⟨_, rfl, ?_⟩
 have kww1 := kww1a.trans kcw1
 simp only [Act.put, sA, sS, sZ]
 refine l_val (o := ⟨some 7, _, _, _, _, _⟩) (.pointer (some ⟨p, 0, none⟩)) rfl (exec_assign (.tmp 16) (.pointer (some ⟨p, 0, none⟩)) rfl (by kernel_rfl)) ?_
 simp only [Act.put, sA, sS, sZ]
 refine l_val (o := ⟨some 8, _, _, _, _, _⟩) (.pointer (some ⟨r, 0, none⟩)) rfl (exec_assign (.tmp 18) (.pointer (some ⟨r, 0, none⟩)) rfl (by kernel_rfl)) ?_
 simp only [Act.put, sA, sS, sZ]
 refine wpList_nil ?_
 have hFl := hMp.lt
 have HF : Hid (∀ b, F b → w.heap.size ≤ b) := fun b hb => (hGp b hb).elim (fun h => h.elim) id
 have hGb : ∀ b, G b → w1a.heap.size ≤ b := fun b hb => (hGr b hb).elim (fun h => h.elim) id
 have HD : Hid (∀ b, G b → ¬ F b) := fun b hb hf => by have := hFl b hf; have := hGb b hb; omega
 have zz := kcw1a.size
 have HGg : Hid (∀ b, G b → w.heap.size ≤ b) := fun b hb => by have := hGb b hb; omega
 have HM1 := Lib.hid (hMp.kept kcw1)
 have HC1 := Lib.hid hMr
 have k1 := kww1
 clear hMp hGp hMr hGr kcw1 kcw1a kww1 kww1a HMM hFl hGb
 obtain ⟨X, hX⟩ : ∃ X, M.all = X := ⟨_, rfl⟩
 obtain ⟨an, han⟩ : ∃ an, X.length = an := ⟨_, rfl⟩
 have hal : an ≤ 64 := by rw [← han, ← hX]; exact HI.out.all_few
 have hwl : M.w.length ≤ 64 := by have := HI.out.few; omega
 have HAN := Lib.hid han
 have HXX := Lib.hid hX
 clear hX han
 go_upto_region 2 with fail
 refine wp_text 6 [.eq (.pointer (some ⟨p, 0, none⟩)), .eq (.bool false), .eq (.bool false), .eq (.pointer (some ⟨r, 0, none⟩)), .eq (.bool false), .eq (.bool false)] rfl (by kernel_rfl) ?_ ?_
 ·refine sv 1 rfl rfl rfl (fun a u hE hD hk => exec_move (.tmp 7) _ rfl (hE 7 (.pointer (some ⟨p, 0, none⟩)) (by kernel_rfl) (by kernel_rfl))) ?_
  refine sv 2 rfl rfl rfl (fun a u hE hD hk => exec_eqP (.tmp 19) _ _ ⟨p, 0, none⟩ (by kernel_rfl) rfl (hD 0 19 (by kernel_rfl))) ?_
  refine sv 3 rfl rfl rfl (fun a u hE hD hk => exec_move (.tmp 20) _ rfl (hD 1 20 (by kernel_rfl))) ?_
  refine fsteps_cons 4 rfl (fun a u hE hD hk => f_val (o := ⟨some 22, _, _, _, _, _⟩) (.pointer (some ⟨r, 0, none⟩)) rfl (wanted_at (b := false) false rfl rfl (hD 2 21 (by kernel_rfl))) (exec_move (.tmp 8) _ rfl (hE 8 (.pointer (some ⟨r, 0, none⟩)) (by kernel_rfl) (by kernel_rfl))) rfl) ?_
  refine fsteps_cons 5 rfl (fun a u hE hD hk => f_val (o := ⟨some 23, _, _, _, _, _⟩) (.bool false) rfl (wanted_at (b := false) false rfl rfl (hD 2 21 (by kernel_rfl))) (exec_eqP (.tmp 22) _ _ ⟨r, 0, none⟩ (by kernel_rfl) rfl (hD 3 22 (by kernel_rfl))) rfl) ?_
  refine sv 6 rfl rfl rfl (fun a u hE hD hk => exec_pickF (.tmp 21) (.const (.bool true)) (.tmp 23) (.bool false) rfl (hD 2 21 (by kernel_rfl)) (hD 4 23 (by kernel_rfl))) ?_
  exact fsteps_nil
 intro gv w2 hV k2
 rw [show dstsOf _ 6 = [19, 20, 21, 22, 23, 24] by kernel_rfl]
 simp only [fC, fN, sA, sS, sZ, dS, dZ]
 rw [show gv 24 = .bool false from hV 5 24 (by kernel_rfl)]
 clear hV
 refine wpList_nil ?_
 have HM2 := Lib.hid (HM1.out.kept k2)
 have HC2 := Lib.hid (HC1.out.kept k2)
 have kw2 := k1.trans k2
 clear HM1 HC1 k1 k2
 go_upto_region 4 with fail
 refine wp_text 3 [.eq (.pointer (some ⟨p, 0, none⟩)), .sl w2.heap.size 24 9 an (ords X), .sl w2.heap.size 24 9 an (ords X)] rfl (by kernel_rfl) ?_ ?_
 ·refine sv 1 rfl rfl rfl (fun a u hE hD hk => exec_move (.tmp 7) _ rfl (hE 7 (.pointer (some ⟨p, 0, none⟩)) (by kernel_rfl) (by kernel_rfl))) ?_
  refine fsteps_cons 2 rfl (fun a u hE hD hk => f_call (o := ⟨some 26, _, _, _, _, _⟩) 13 #[.pointer (some ⟨p, 0, none⟩)] rfl (wanted_none rfl _) (exec_call 13 _ [.tmp 25] _ [.pointer (some ⟨p, 0, none⟩)] Try.func13 (by kernel_rfl) (by kernel_rfl) rfl (show [a.eval (.tmp 25)] = [.pointer (some ⟨p, 0, none⟩)] from (by rw [show a.eval (.tmp 25) = .pointer (some ⟨p, 0, none⟩) from (hD 0 25 (by kernel_rfl))] <;> rfl)) u) ((by rw [← HAN.out, ← HXX.out]; exact (mall_any u F p M (HM2.out.kept hk) HI.out.inv (by omega)).base hk.size))) ?_
  refine fsteps_cons 3 rfl (fun a u hE hD hk => f_val (o := ⟨some 9, _, _, _, _, _⟩) (a.eval (.tmp 26)) rfl (wanted_none rfl _) (exec_assign (.tmp 26) _ rfl rfl) (hD 1 26 (by kernel_rfl))) ?_
  exact fsteps_nil
 intro gv w3 hV k3
 rw [show dstsOf _ 3 = [25, 26, 9] by kernel_rfl]
 simp only [fC, fN, sA, sS, sZ, dS, dZ]
 have hv9 : (.sl w2.heap.size 24 9 an (ords X) : Kn).p (gv 9) w3 := hV 2 9 (by kernel_rfl)
 generalize gv 9 = v9 at hv9 ⊢
 clear hV
 refine wpList_nil ?_
 obtain ⟨va, hva⟩ : ∃ x, x = v9 := ⟨_, rfl⟩
 subst hva
 have HM3 := Lib.hid (HM2.out.kept k3)
 have HC3 := Lib.hid (HC2.out.kept k3)
 have HA3 := Lib.hid hv9.1
 have kw3 := kw2.trans k3
 clear hv9 HM2 HC2 kw2 k3
 by_cases h0 : an = 0
 ·go_upto_region 5 with fail
  refine wp_text 3 [.eq (va), .eq (.int .i64 (an : Int)), .eq (.bool true)] rfl (by kernel_rfl) ?_ ?_
  ·refine sv 1 rfl rfl rfl (fun a u hE hD hk => exec_move (.tmp 9) _ rfl (hE 9 (va) (by kernel_rfl) (by kernel_rfl))) ?_
   refine sv 2 rfl rfl rfl (fun a u hE hD hk => exec_lenS (.tmp 27) slO (va) (an) _ _ rfl (hD 0 27 (by kernel_rfl)) (HA3.out.kept hk)) ?_
   refine fsteps_cons 3 rfl (fun a u hE hD hk => f_as (show ((decide (((an : Int) : Int) = (0 : Int))) : Bool) = true from decide_eq_true (by omega)) (f_val (o := ⟨some 29, _, _, _, _, _⟩) (.bool (decide (((an : Int) : Int) = (0 : Int)))) rfl (wanted_none rfl _) (exec_eqn (p := (an : Int)) (q := 0) rfl (hD 1 28 (by kernel_rfl)) rfl) rfl)) ?_
   exact fsteps_nil
  intro gv w4 hV k4
  rw [show dstsOf _ 3 = [27, 28, 29] by kernel_rfl]
  simp only [fC, fN, sA, sS, sZ, dS, dZ]
  rw [show gv 29 = .bool true from hV 2 29 (by kernel_rfl)]
  clear hV
  refine wpList_nil ?_
  have kw4 := kw3.trans k4
  go_upto_region 6 with fail
  refine wp_region_lit ?_
  refine l_call (o := ⟨some 30, _, _, _, _, _⟩) 3 #[] rfl (exec_call 3 _ [] _ _ Try.func3 (by kernel_rfl) (by kernel_rfl) rfl (by kernel_rfl) _) ?_
  refine (changeRuns_any w4).mono ?_
  rintro r wz ⟨rfl, kz⟩
  refine ⟨_, rfl, ?_⟩
  simp only [Act.put, sA, sS, sZ]
  refine l_val (o := ⟨some 6, _, _, _, _, _⟩) (.bool true) rfl (exec_assign (.tmp 30) (.bool true) rfl (by kernel_rfl)) ?_
  simp only [Act.put, sA, sS, sZ]
  refine wpList_nil ?_
  go_wp2
  go_ret
  exact ⟨rfl, kw4.trans kz⟩
 ·obtain ⟨kI, hkI⟩ : ∃ kI, wi at_ 0 ((an : Int) - 1) = kI := ⟨_, rfl⟩
  have hk0 : 0 ≤ kI ∧ kI ≤ (an : Int) - 1 := by rw [← hkI]; exact wi_in at_ 0 _ (by omega)
  obtain ⟨kx, rfl⟩ : ∃ kx : Nat, kI = (kx : Int) := ⟨kI.toNat, by omega⟩
  have hkn : kx < an := by omega
  have HKI := Lib.hid hkI
  obtain ⟨x, hx⟩ : ∃ x, X[kx]? = some x := ⟨X[kx]'(by rw [HAN.out]; exact hkn), List.getElem?_eq_getElem _⟩
  have hxm : M.all[kx]? = some x := by rw [HXX.out]; exact hx
  have HXM := Lib.hid hxm
  have hfx := HI.out.fair x (List.mem_of_getElem? hxm)
  have hs0 := hfx.shw0
  have hq0 := hfx.qty0
  obtain ⟨ga, oa, ca, rfl⟩ := HA3.out.some_ (by omega)
  have HE3 : Hid (w3.rangeAt ga (oa + kx * 9) x.cells) := HA3.out.rngO kx x hx
  obtain ⟨pr, hpr⟩ : ∃ pr, wi price 95 105 = pr := ⟨_, rfl⟩
  have hpp : 95 ≤ pr ∧ pr ≤ 105 := by rw [← hpr]; exact wi_in price 95 _ (by omega)
  have HPR := Lib.hid hpr
  clear hkI hx hxm hfx hpr
  go_upto_region 5 with fail
  refine wp_text 3 [.eq (.slice (some ⟨ga, oa, none⟩) an ca), .eq (.int .i64 (an : Int)), .eq (.bool false)] rfl (by kernel_rfl) ?_ ?_
  ·refine sv 1 rfl rfl rfl (fun a u hE hD hk => exec_move (.tmp 9) _ rfl (hE 9 (.slice (some ⟨ga, oa, none⟩) an ca) (by kernel_rfl) (by kernel_rfl))) ?_
   refine sv 2 rfl rfl rfl (fun a u hE hD hk => exec_len (.tmp 27) _ _ slO.und (some ⟨ga, oa, none⟩) an ca rfl (hD 0 27 (by kernel_rfl))) ?_
   refine fsteps_cons 3 rfl (fun a u hE hD hk => f_as (show ((decide (((an : Int) : Int) = (0 : Int))) : Bool) = false from decide_eq_false (by omega)) (f_val (o := ⟨some 29, _, _, _, _, _⟩) (.bool (decide (((an : Int) : Int) = (0 : Int)))) rfl (wanted_none rfl _) (exec_eqn (p := (an : Int)) (q := 0) rfl (hD 1 28 (by kernel_rfl)) rfl) rfl)) ?_
   exact fsteps_nil
  intro gv w4 hV k4
  rw [show dstsOf _ 3 = [27, 28, 29] by kernel_rfl]
  simp only [fC, fN, sA, sS, sZ, dS, dZ]
  rw [show gv 29 = .bool false from hV 2 29 (by kernel_rfl)]
  clear hV
  refine wpList_nil ?_
  have HM4 := Lib.hid (HM3.out.kept k4)
  have HC4 := Lib.hid (HC3.out.kept k4)
  have HE4 := Lib.hid (range_kept HE3.out k4)
  have kw4 := kw3.trans k4
  clear HM3 HC3 HE3 HA3 kw3 k4
  go_upto_region 7 with fail
  refine wp_text 8 [.eq (.slice (some ⟨ga, oa, none⟩) an ca), .eq (.int .i64 at_), .eq (.slice (some ⟨ga, oa, none⟩) an ca), .eq (.int .i64 (an : Int)), .eq (.int .i64 (((an : Int) : Int) - (1 : Int))), .eq (.int .i64 (kx : Int)), .eq (.pointer (some ⟨ga, oa + kx * 9, none⟩)), .eq (x.v)] rfl (by kernel_rfl) ?_ ?_
  ·refine sv 1 rfl rfl rfl (fun a u hE hD hk => exec_move (.tmp 9) _ rfl (hE 9 (.slice (some ⟨ga, oa, none⟩) an ca) (by kernel_rfl) (by kernel_rfl))) ?_
   refine sv 2 rfl rfl rfl (fun a u hE hD hk => exec_move (.tmp 1) _ rfl (hE 1 (.int .i64 at_) (by kernel_rfl) (by kernel_rfl))) ?_
   refine sv 3 rfl rfl rfl (fun a u hE hD hk => exec_move (.tmp 9) _ rfl (hE 9 (.slice (some ⟨ga, oa, none⟩) an ca) (by kernel_rfl) (by kernel_rfl))) ?_
   refine sv 4 rfl rfl rfl (fun a u hE hD hk => exec_len (.tmp 33) _ _ slO.und (some ⟨ga, oa, none⟩) an ca rfl (hD 2 33 (by kernel_rfl))) ?_
   refine sv 5 rfl rfl rfl (fun a u hE hD hk => exec_subn (p := ((an : Int))) (q := (1)) (((an : Int) : Int) - (1 : Int)) rfl (hD 3 34 (by kernel_rfl)) rfl rfl (by omega) (by omega)) ?_
   refine fsteps_cons 6 rfl (fun a u hE hD hk => f_call (o := ⟨some 36, _, _, _, _, _⟩) 16 #[.int .i64 at_, .int .i64 0, .int .i64 (((an : Int) : Int) - (1 : Int))] rfl (wanted_none rfl _) (exec_call 16 _ [.tmp 32, .const (.int .i64 0), .tmp 35] _ [.int .i64 at_, .int .i64 0, .int .i64 (((an : Int) : Int) - (1 : Int))] Try.func16 (by kernel_rfl) (by kernel_rfl) rfl (show [a.eval (.tmp 32), a.eval (.const (.int .i64 0)), a.eval (.tmp 35)] = [.int .i64 at_, .int .i64 0, .int .i64 (((an : Int) : Int) - (1 : Int))] from (by rw [show a.eval (.tmp 32) = .int .i64 at_ from (hD 1 32 (by kernel_rfl)), show a.eval (.tmp 35) = .int .i64 (((an : Int) : Int) - (1 : Int)) from (hD 4 35 (by kernel_rfl))] <;> rfl)) u) ((by rw [← HKI.out]; exact within_is at_ 0 ((an : Int) - 1) u (by omega) (by omega) (by omega)))) ?_
   refine sv 7 rfl rfl rfl (fun a u hE hD hk => exec_ixo slO (.tmp 31) (.tmp 36) (ga) (oa) an ca kx (oa + kx * 9) ((kx : Int)) rfl (hD 0 31 (by kernel_rfl)) (hD 5 36 (by kernel_rfl)) (by first | rfl | omega) (hkn) (by first | rfl | omega)) ?_
   refine sv 8 rfl rfl rfl (fun a u hE hD hk => exec_ldS 24 _ (.tmp 37) (ga) (oa + kx * 9) (x.cells) rfl (hD 6 37 (by kernel_rfl)) (range_kept HE4.out hk) Try.underlying24 (by rw [x.len9]; exact ord_size)) ?_
   exact fsteps_nil
  intro gv wa0 hV ka0
  rw [show dstsOf _ 8 = [31, 32, 33, 34, 35, 36, 37, 38] by kernel_rfl]
  simp only [fC, fN, sA, sS, sZ, dS, dZ]
  rw [show gv 38 = x.v from hV 7 38 (by kernel_rfl)]
  clear hV
  refine l_new (o := ⟨some 10, _, _, _, _, _⟩) (.pointer (some ⟨wa0.heap.size, 0, none⟩)) (wa0.alloc (.cells zeroO.cells.toArray 24)) rfl (exec_alc 24 zeroO.cells rfl zO) ?_
  have hNwa1 := Blk.new wa0 24 zeroO.cells
  have kwa1 : Kept wa0 (wa0.alloc (.cells zeroO.cells.toArray 24)) := (Keep.refl _ wa0).alloc _
  generalize wa0.alloc (.cells zeroO.cells.toArray 24) = wa1 at hNwa1 kwa1 ⊢
  simp only [Act.put, sA, sS, sZ]
  refine l_setS (o := ⟨none, _, _, _, _, _⟩) 24 wa0.heap.size 24 zeroO.cells x.cells (.tmp 10) (.tmp 38) rfl rfl (by kernel_rfl) (by kernel_rfl) (hNwa1) (by rw [Ord.len9]; exact ord_size) (by rw [Ord.len9, Ord.len9]) (Ord.one1 _) ?_
  intro wa hCwa hkwa hswa
  simp only [Act.put]
  refine wpList_nil ?_
  obtain ⟨b10, h10⟩ : ∃ a, wa0.heap.size = a := ⟨_, rfl⟩
  rw [h10] at hNwa1 hCwa hkwa ⊢
  have z0 := ka0.size
  have k4a : Kept w4 wa := (ka0.trans kwa1).trans' hkwa (by omega)
  have hw10 : w.heap.size ≤ b10 := by have := kw4.size; omega
  have HBa := Lib.hid hCwa
  have l10 := hCwa.lt
  have hlF := HM4.out.lt
  have hlG := HC4.out.lt
  have hbF : ¬ F b10 := fun h => by have := hlF b10 h; omega
  have hbG : ¬ G b10 := fun h => by have := hlG b10 h; omega
  have HMa := Lib.hid (HM4.out.kept k4a)
  have HCa := Lib.hid (HC4.out.kept k4a)
  have kwa := kw4.trans k4a
  clear hNwa1 hCwa hkwa hswa kwa1 ka0 HM4 HC4 kw4 k4a HE4 hlF hlG
  go_upto_region 8 with fail
  refine wp_text 3 [.eq (.int .i64 price), .eq (.int .i64 pr), .eq (.int .i64 pr)] rfl (by kernel_rfl) ?_ ?_
  ·refine sv 1 rfl rfl rfl (fun a u hE hD hk => exec_move (.tmp 2) _ rfl (hE 2 (.int .i64 price) (by kernel_rfl) (by kernel_rfl))) ?_
   refine fsteps_cons 2 rfl (fun a u hE hD hk => f_call (o := ⟨some 40, _, _, _, _, _⟩) 16 #[.int .i64 price, .int .i64 95, .int .i64 105] rfl (wanted_none rfl _) (exec_call 16 _ [.tmp 39, .const (.int .i64 95), .const (.int .i64 105)] _ [.int .i64 price, .int .i64 95, .int .i64 105] Try.func16 (by kernel_rfl) (by kernel_rfl) rfl (show [a.eval (.tmp 39), a.eval (.const (.int .i64 95)), a.eval (.const (.int .i64 105))] = [.int .i64 price, .int .i64 95, .int .i64 105] from (by rw [show a.eval (.tmp 39) = .int .i64 price from (hD 0 39 (by kernel_rfl))] <;> rfl)) u) ((by rw [← HPR.out]; exact within_is price 95 105 u (by omega) (by omega) (by omega)))) ?_
   refine sv 3 rfl rfl rfl (fun a u hE hD hk => exec_assign (.tmp 40) _ rfl (hD 1 40 (by kernel_rfl))) ?_
   exact fsteps_nil
  intro gv wb hV kb
  rw [show dstsOf _ 3 = [39, 40, 11] by kernel_rfl]
  simp only [fC, fN, sA, sS, sZ, dS, dZ]
  rw [show gv 11 = .int .i64 pr from hV 2 11 (by kernel_rfl)]
  clear hV
  refine wpList_nil ?_
  have HBb := Lib.hid (HBa.out.kept kb)
  have HMb := Lib.hid (HMa.out.kept kb)
  have HCb := Lib.hid (HCa.out.kept kb)
  have kwb := kwa.trans kb
  have HOb := Lib.hid (blk_range HBb.out)
  clear HBa HMa HCa kwa
  by_cases hgo : pr ≠ x.price ∧ x.k ≠ 2
  ·obtain ⟨hg1, hg2⟩ := hgo
   go_upto_region 9 with fail
   refine wp_text 9 [.eq (.int .i64 pr), .eq (.pointer (some ⟨b10, 5, none⟩)), .eq (.int .i64 x.price), .eq (.bool false), .eq (.bool false), .eq (.pointer (some ⟨b10, 4, none⟩)), .eq (.int .i64 x.k), .eq (.bool false), .eq (.bool false)] rfl (by kernel_rfl) ?_ ?_
   ·refine sv 1 rfl rfl rfl (fun a u hE hD hk => exec_move (.tmp 11) _ rfl (hE 11 (.int .i64 pr) (by kernel_rfl) (by kernel_rfl))) ?_
    refine sv 2 rfl rfl rfl (fun a u hE hD hk => exec_fldo 24 5 5 (.tmp 10) (b10) (0) (5) rfl (hE 10 (.pointer (some ⟨b10, 0, none⟩)) (by kernel_rfl) (by kernel_rfl)) (by kernel_rfl) rfl) ?_
    refine sv 3 rfl rfl rfl (fun a u hE hD hk => exec_loadi 3 Try.underlying3 (.tmp 42) ⟨b10, 5, none⟩ (.int .i64 x.price) rfl (hD 1 42 (by kernel_rfl)) (range_int (range_kept HOb.out hk) 5 _ rfl)) ?_
    refine fsteps_cons 4 rfl (fun a u hE hD hk => f_as (show ((decide ((pr : Int) = (x.price : Int))) : Bool) = false from decide_eq_false hg1) (f_val (o := ⟨some 44, _, _, _, _, _⟩) (.bool (decide ((pr : Int) = (x.price : Int)))) rfl (wanted_none rfl _) (exec_eqn (p := pr) (q := x.price) rfl (hD 0 41 (by kernel_rfl)) (hD 2 43 (by kernel_rfl))) rfl)) ?_
    refine sv 5 rfl rfl rfl (fun a u hE hD hk => exec_move (.tmp 44) _ rfl (hD 3 44 (by kernel_rfl))) ?_
    refine fsteps_cons 6 rfl (fun a u hE hD hk => f_val (o := ⟨some 46, _, _, _, _, _⟩) (.pointer (some ⟨b10, 4, none⟩)) rfl (wanted_at (b := false) false rfl rfl (hD 4 45 (by kernel_rfl))) (exec_fldo 24 4 4 (.tmp 10) (b10) (0) (4) rfl (hE 10 (.pointer (some ⟨b10, 0, none⟩)) (by kernel_rfl) (by kernel_rfl)) (by kernel_rfl) rfl) rfl) ?_
    refine fsteps_cons 7 rfl (fun a u hE hD hk => f_val (o := ⟨some 47, _, _, _, _, _⟩) (.int .i64 x.k) rfl (wanted_at (b := false) false rfl rfl (hD 4 45 (by kernel_rfl))) (exec_loadi 3 Try.underlying3 (.tmp 46) ⟨b10, 4, none⟩ (.int .i64 x.k) rfl (hD 5 46 (by kernel_rfl)) (range_int (range_kept HOb.out hk) 4 _ rfl)) rfl) ?_
    refine fsteps_cons 8 rfl (fun a u hE hD hk => f_as (show ((decide ((x.k : Int) = (2 : Int))) : Bool) = false from decide_eq_false hg2) (f_val (o := ⟨some 48, _, _, _, _, _⟩) (.bool (decide ((x.k : Int) = (2 : Int)))) rfl (wanted_at (b := false) false rfl rfl (hD 4 45 (by kernel_rfl))) (exec_eqn (p := x.k) (q := 2) rfl (hD 6 47 (by kernel_rfl)) rfl) rfl)) ?_
    refine sv 9 rfl rfl rfl (fun a u hE hD hk => exec_pickF (.tmp 45) (.const (.bool true)) (.tmp 48) (.bool false) rfl (hD 4 45 (by kernel_rfl)) (hD 7 48 (by kernel_rfl))) ?_
    exact fsteps_nil
   intro gv w5 hV k5
   rw [show dstsOf _ 9 = [41, 42, 43, 44, 45, 46, 47, 48, 49] by kernel_rfl]
   simp only [fC, fN, sA, sS, sZ, dS, dZ]
   rw [show gv 49 = .bool false from hV 8 49 (by kernel_rfl)]
   clear hV
   refine wpList_nil ?_
   have HB5 := Lib.hid (HBb.out.kept k5)
   have HM5 := Lib.hid (HMb.out.kept k5)
   have HC5 := Lib.hid (HCb.out.kept k5)
   have kw5 := kwb.trans k5
   have HO5 := Lib.hid (blk_range HB5.out)
   have z5 := k5.size
   have zb := kb.size
   have HAM := Lib.hid (amend_price HI.out HXM.out hg2 (p := pr) (by omega) hg1)
   have HCC := Lib.hid (chg_show x pr hs0 (by omega))
   obtain ⟨c, hc⟩ : ∃ c, x.chg pr x.qty = c := ⟨_, rfl⟩
   rw [hc] at HAM HCC
   have hI1 := HI.out.remove x.tr x.id
   obtain ⟨M1, hM1⟩ : ∃ M1, (M.remove x.tr x.id).2.2 = M1 := ⟨_, rfl⟩
   have HR1 := Lib.hid hM1
   rw [hM1] at hI1
   have HI1 := Lib.hid hI1
   have hff := add_fills hI1.1 c
   have hI2 := hI1.1.add c
   obtain ⟨L, M2, hLM⟩ : ∃ L M2, M1.add c = (L, M2) := ⟨_, _, rfl⟩
   have hbk : M.back x.tr x.id c = (L, M2) := by unfold Mkt.back; rw [hM1, hLM]
   rw [hbk] at HAM
   rw [hLM] at hff hI2
   have HLM := Lib.hid hLM
   have HFF : Hid ((∀ x ∈ L, x.c.f.length ≤ 2000000) ∧ L.length ≤ 1000000) := hff
   have HI2 : Hid (InvK M2) := hI2
   have hml : M2.all.length ≤ 64 := HI2.out.all_few
   have hmw : M2.w.length ≤ 64 := by have := HI2.out.few; omega
   clear HBb HMb HCb HOb kwb k5 kb hc hM1 hI1 hff hI2 hLM hbk
   go_upto_region 11 with fail
   refine wp_text 8 [.eq (.pointer (some ⟨p, 0, none⟩)), .eq (.pointer (some ⟨b10, 0, none⟩)), .eq (.int .i64 x.tr), .eq (.pointer (some ⟨b10, 1, none⟩)), .eq (.int .i64 x.id), .eq (.int .i64 pr), .eq (.pointer (some ⟨b10, 6, none⟩)), .eq (.int .i64 x.qty)] rfl (by kernel_rfl) ?_ ?_
   ·refine sv 1 rfl rfl rfl (fun a u hE hD hk => exec_move (.tmp 7) _ rfl (hE 7 (.pointer (some ⟨p, 0, none⟩)) (by kernel_rfl) (by kernel_rfl))) ?_
    refine sv 2 rfl rfl rfl (fun a u hE hD hk => exec_fldo 24 0 0 (.tmp 10) (b10) (0) (0) rfl (hE 10 (.pointer (some ⟨b10, 0, none⟩)) (by kernel_rfl) (by kernel_rfl)) (by kernel_rfl) rfl) ?_
    refine sv 3 rfl rfl rfl (fun a u hE hD hk => exec_loadi 3 Try.underlying3 (.tmp 53) ⟨b10, 0, none⟩ (.int .i64 x.tr) rfl (hD 1 53 (by kernel_rfl)) (range_int (range_kept HO5.out hk) 0 _ rfl)) ?_
    refine sv 4 rfl rfl rfl (fun a u hE hD hk => exec_fldo 24 1 1 (.tmp 10) (b10) (0) (1) rfl (hE 10 (.pointer (some ⟨b10, 0, none⟩)) (by kernel_rfl) (by kernel_rfl)) (by kernel_rfl) rfl) ?_
    refine sv 5 rfl rfl rfl (fun a u hE hD hk => exec_loadi 3 Try.underlying3 (.tmp 55) ⟨b10, 1, none⟩ (.int .i64 x.id) rfl (hD 3 55 (by kernel_rfl)) (range_int (range_kept HO5.out hk) 1 _ rfl)) ?_
    refine sv 6 rfl rfl rfl (fun a u hE hD hk => exec_move (.tmp 11) _ rfl (hE 11 (.int .i64 pr) (by kernel_rfl) (by kernel_rfl))) ?_
    refine sv 7 rfl rfl rfl (fun a u hE hD hk => exec_fldo 24 6 6 (.tmp 10) (b10) (0) (6) rfl (hE 10 (.pointer (some ⟨b10, 0, none⟩)) (by kernel_rfl) (by kernel_rfl)) (by kernel_rfl) rfl) ?_
    refine sv 8 rfl rfl rfl (fun a u hE hD hk => exec_loadi 3 Try.underlying3 (.tmp 58) ⟨b10, 6, none⟩ (.int .i64 x.qty) rfl (hD 6 58 (by kernel_rfl)) (range_int (range_kept HO5.out hk) 6 _ rfl)) ?_
    exact fsteps_nil
   intro gv w6 hV k6
   rw [show dstsOf _ 8 = [52, 53, 54, 55, 56, 57, 58, 59] by kernel_rfl]
   simp only [fC, fN, sA, sS, sZ, dS, dZ]
   rw [show gv 52 = .pointer (some ⟨p, 0, none⟩) from hV 0 52 (by kernel_rfl)]
   rw [show gv 54 = .int .i64 x.tr from hV 2 54 (by kernel_rfl)]
   rw [show gv 56 = .int .i64 x.id from hV 4 56 (by kernel_rfl)]
   rw [show gv 57 = .int .i64 pr from hV 5 57 (by kernel_rfl)]
   rw [show gv 59 = .int .i64 x.qty from hV 7 59 (by kernel_rfl)]
   clear hV
   refine l_call (o := ⟨some 60, _, _, _, _, _⟩) 17 #[.pointer (some ⟨p, 0, none⟩), .int .i64 x.tr, .int .i64 x.id, .int .i64 pr, .int .i64 x.qty] rfl (exec_call 17 _ [.tmp 52, .tmp 54, .tmp 56, .tmp 57, .tmp 59] _ _ Try.func17 (by kernel_rfl) (by kernel_rfl) rfl (by kernel_rfl) _) ?_
   refine (mamend_at w6 F p M x.tr x.id pr x.qty _ HAM.out (HM5.out.kept k6) HI.out (by have := HNo.out; omega)).mono ?_
   rintro rr w7 ⟨F7, v12, Z7, rfl, hM7, hO7, hG7, hk7⟩
   refine ⟨.tuple #[v12, .int .i64 0], rfl, ?_⟩
   simp only [Act.put, sA, sS, sZ]
   refine l_val (o := ⟨some 51, _, _, _, _, _⟩) (.tuple #[v12, .int .i64 0]) rfl (exec_move (.tmp 60) (.tuple #[v12, .int .i64 0]) rfl (by kernel_rfl)) ?_
   simp only [Act.put, sA, sS, sZ]
   refine l_val (o := ⟨some 61, _, _, _, _, _⟩) (v12) rfl (exec_extract (.tmp 51) [v12, .int .i64 0] 0 (v12) rfl (by kernel_rfl) rfl) ?_
   simp only [Act.put, sA, sS, sZ]
   refine l_val (o := ⟨some 62, _, _, _, _, _⟩) (.int .i64 0) rfl (exec_extract (.tmp 51) [v12, .int .i64 0] 1 (.int .i64 0) rfl (by kernel_rfl) rfl) ?_
   simp only [Act.put, sA, sS, sZ]
   refine l_val (o := ⟨some 12, _, _, _, _, _⟩) (v12) rfl (exec_assign (.tmp 61) (v12) rfl (by kernel_rfl)) ?_
   simp only [Act.put, sA, sS, sZ]
   refine l_val (o := ⟨some 13, _, _, _, _, _⟩) (.int .i64 0) rfl (exec_assign (.tmp 62) (.int .i64 0) rfl (by kernel_rfl)) ?_
   simp only [Act.put, sA, sS, sZ]
   refine wpList_nil ?_
   have z6 := k6.size
   have K7 : Keep F w5 w7 := Keep.any k6 hk7
   have HB7 := Lib.hid (HB5.out.keep K7 hbF)
   have HC7 := Lib.hid (HC5.out.keep K7 (fun b hb => HD.out b hb))
   have hGl5 := HC5.out.lt
   have HD7 : Hid (∀ b, G b → ¬ F7 b) := fun b hb h => (hG7 b h).elim (HD.out b hb) (fun h => by have := hGl5 b hb; omega)
   have hb7 : ¬ F7 b10 := fun h => (hG7 b10 h).elim hbF (fun h => by omega)
   have HM7 := Lib.hid hM7
   have HX7 := Lib.hid hO7
   have HGO : Hid (∀ b, w6.heap.size ≤ b → ¬ G b) := fun b hb h => by have := hGl5 b h; omega
   have kw7 : Kept w w7 := Keep.trans (S := fun _ => False) kw5 K7 (fun b hb h => by have := HF.out b h; omega)
   have HO7 := Lib.hid (blk_range HB7.out)
   have z7 := K7.size
   clear hM7 hO7 hG7 hk7 K7 k6 HB5 HC5 HM5 HO5 hGl5 HAM kw5
   go_upto_region 12 with fail
   refine wp_text 5 [.eq (.pointer (some ⟨r, 0, none⟩)), .eq (.pointer (some ⟨b10, 0, none⟩)), .eq (.int .i64 x.tr), .eq (.pointer (some ⟨b10, 1, none⟩)), .eq (.int .i64 x.id)] rfl (by kernel_rfl) ?_ ?_
   ·refine sv 1 rfl rfl rfl (fun a u hE hD hk => exec_move (.tmp 8) _ rfl (hE 8 (.pointer (some ⟨r, 0, none⟩)) (by kernel_rfl) (by kernel_rfl))) ?_
    refine sv 2 rfl rfl rfl (fun a u hE hD hk => exec_fldo 24 0 0 (.tmp 10) (b10) (0) (0) rfl (hE 10 (.pointer (some ⟨b10, 0, none⟩)) (by kernel_rfl) (by kernel_rfl)) (by kernel_rfl) rfl) ?_
    refine sv 3 rfl rfl rfl (fun a u hE hD hk => exec_loadi 3 Try.underlying3 (.tmp 64) ⟨b10, 0, none⟩ (.int .i64 x.tr) rfl (hD 1 64 (by kernel_rfl)) (range_int (range_kept HO7.out hk) 0 _ rfl)) ?_
    refine sv 4 rfl rfl rfl (fun a u hE hD hk => exec_fldo 24 1 1 (.tmp 10) (b10) (0) (1) rfl (hE 10 (.pointer (some ⟨b10, 0, none⟩)) (by kernel_rfl) (by kernel_rfl)) (by kernel_rfl) rfl) ?_
    refine sv 5 rfl rfl rfl (fun a u hE hD hk => exec_loadi 3 Try.underlying3 (.tmp 66) ⟨b10, 1, none⟩ (.int .i64 x.id) rfl (hD 3 66 (by kernel_rfl)) (range_int (range_kept HO7.out hk) 1 _ rfl)) ?_
    exact fsteps_nil
   intro gv w8 hV k8
   rw [show dstsOf _ 5 = [63, 64, 65, 66, 67] by kernel_rfl]
   simp only [fC, fN, sA, sS, sZ, dS, dZ]
   rw [show gv 63 = .pointer (some ⟨r, 0, none⟩) from hV 0 63 (by kernel_rfl)]
   rw [show gv 65 = .int .i64 x.tr from hV 2 65 (by kernel_rfl)]
   rw [show gv 67 = .int .i64 x.id from hV 4 67 (by kernel_rfl)]
   clear hV
   refine l_call (o := ⟨some 68, _, _, _, _, _⟩) 23 #[.pointer (some ⟨r, 0, none⟩), .int .i64 x.tr, .int .i64 x.id] rfl (exec_call 23 _ [.tmp 63, .tmp 65, .tmp 67] _ _ Try.func23 (by kernel_rfl) (by kernel_rfl) rfl (by kernel_rfl) _) ?_
   refine (mremove_any w8 G r M x.tr x.id (HC7.out.kept k8) HI.out.inv (by omega)).mono ?_
   rintro rr w9 ⟨G9, rfl, hC9, hG9, hk9⟩
   rw [HR1.out] at hC9
   refine ⟨_, rfl, ?_⟩
   simp only [Act.put, sA, sS, sZ]
   refine wpList_nil ?_
   have z8 := k8.size
   have K9 : Keep G w7 w9 := Keep.any k8 hk9
   have HGr9 : Hid (Grow w7 G G9) := hG9.wide z8
   have HB9 := Lib.hid (HB7.out.keep K9 hbG)
   have hb9 : ¬ G9 b10 := fun h => (HGr9.out b10 h).elim hbG (fun h => by omega)
   have HK9 := Lib.hid K9
   have HC9 := Lib.hid hC9
   have z9 := K9.size
   clear hC9 hG9 hk9 k8 HB7 HC7 HO7 K9
   go_upto_region 13 with fail
   refine wp_text 2 [.eq (.int .i64 pr), .eq (.pointer (some ⟨b10, 5, none⟩))] rfl (by kernel_rfl) ?_ ?_
   ·refine sv 1 rfl rfl rfl (fun a u hE hD hk => exec_move (.tmp 11) _ rfl (hE 11 (.int .i64 pr) (by kernel_rfl) (by kernel_rfl))) ?_
    refine sv 2 rfl rfl rfl (fun a u hE hD hk => exec_fldo 24 5 5 (.tmp 10) (b10) (0) (5) rfl (hE 10 (.pointer (some ⟨b10, 0, none⟩)) (by kernel_rfl) (by kernel_rfl)) (by kernel_rfl) rfl) ?_
    exact fsteps_nil
   intro gv wc hV kc
   rw [show dstsOf _ 2 = [69, 70] by kernel_rfl]
   simp only [fC, fN, sA, sS, sZ, dS, dZ]
   rw [show gv 70 = .pointer (some ⟨b10, 5, none⟩) from hV 1 70 (by kernel_rfl)]
   rw [show gv 69 = .int .i64 pr from hV 0 69 (by kernel_rfl)]
   clear hV
   refine l_setf (o := ⟨none, _, _, _, _, _⟩) b10 5 24 x.l [] pr (.tmp 70) (.tmp 69) rfl rfl (by kernel_rfl) (by kernel_rfl) (HB9.out.kept kc) (by simp [Ord.l]) ?_
   intro wd hBd hkd hsd
   simp only [Act.put]
   refine wpList_nil ?_
   have HBd := Lib.hid hBd
   have K9d : Keep (· = b10) w9 wd := Keep.any kc hkd
   clear hBd hkd hsd kc HB9
   go_upto_region 14 with fail
   refine wp_text 6 [.eq (.pointer (some ⟨b10, 7, none⟩)), .eq (.int .i64 x.shw), .eq (.pointer (some ⟨b10, 6, none⟩)), .eq (.int .i64 x.qty), .eq (.int .i64 (mn (x.shw) (x.qty))), .eq (.pointer (some ⟨b10, 7, none⟩))] rfl (by kernel_rfl) ?_ ?_
   ·refine sv 1 rfl rfl rfl (fun a u hE hD hk => exec_fldo 24 7 7 (.tmp 10) (b10) (0) (7) rfl (hE 10 (.pointer (some ⟨b10, 0, none⟩)) (by kernel_rfl) (by kernel_rfl)) (by kernel_rfl) rfl) ?_
    refine sv 2 rfl rfl rfl (fun a u hE hD hk => exec_loadi 3 Try.underlying3 (.tmp 71) ⟨b10, 7, none⟩ (.int .i64 x.shw) rfl (hD 0 71 (by kernel_rfl)) (by rw [(HBd.out.kept hk).cell]; rfl)) ?_
    refine sv 3 rfl rfl rfl (fun a u hE hD hk => exec_fldo 24 6 6 (.tmp 10) (b10) (0) (6) rfl (hE 10 (.pointer (some ⟨b10, 0, none⟩)) (by kernel_rfl) (by kernel_rfl)) (by kernel_rfl) rfl) ?_
    refine sv 4 rfl rfl rfl (fun a u hE hD hk => exec_loadi 3 Try.underlying3 (.tmp 73) ⟨b10, 6, none⟩ (.int .i64 x.qty) rfl (hD 2 73 (by kernel_rfl)) (by rw [(HBd.out.kept hk).cell]; rfl)) ?_
    refine sv 5 rfl rfl rfl (fun a u hE hD hk => exec_min (.tmp 72) (.tmp 74) _ (x.shw) (x.qty) (mn (x.shw) (x.qty)) rfl (hD 1 72 (by kernel_rfl)) (hD 3 74 (by kernel_rfl)) rfl) ?_
    refine sv 6 rfl rfl rfl (fun a u hE hD hk => exec_fldo 24 7 7 (.tmp 10) (b10) (0) (7) rfl (hE 10 (.pointer (some ⟨b10, 0, none⟩)) (by kernel_rfl) (by kernel_rfl)) (by kernel_rfl) rfl) ?_
    exact fsteps_nil
   intro gv we hV ke
   rw [show dstsOf _ 6 = [71, 72, 73, 74, 75, 76] by kernel_rfl]
   simp only [fC, fN, sA, sS, sZ, dS, dZ]
   rw [show gv 76 = .pointer (some ⟨b10, 7, none⟩) from hV 5 76 (by kernel_rfl)]
   rw [show gv 75 = .int .i64 (mn (x.shw) (x.qty)) from hV 4 75 (by kernel_rfl)]
   clear hV
   refine l_setf (o := ⟨none, _, _, _, _, _⟩) b10 7 24 (x.l.set 5 pr) [] (mn x.shw x.qty) (.tmp 76) (.tmp 75) rfl rfl (by kernel_rfl) (by kernel_rfl) (HBd.out.kept ke) (by simp [Ord.l]) ?_
   intro wf hBf hkf hsf
   simp only [Act.put]
   refine wpList_nil ?_
   have K9f : Keep (· = b10) w9 wf := (K9d.kept ke).trans hkf (fun _ _ h => h)
   have HOf : Hid (wf.rangeAt b10 0 c.cells) := by rw [← HCC.out]; exact Lib.hid (blk_range hBf)
   have HCf := Lib.hid (HC9.out.keep K9f (fun b hb e => hb9 (by rw [← e]; exact hb)))
   have zf := K9f.size
   clear hBf hkf hsf ke HBd K9d HC9
   go_upto_region 15 with fail
   refine wp_text 2 [.eq (.pointer (some ⟨r, 0, none⟩)), .eq (c.v)] rfl (by kernel_rfl) ?_ ?_
   ·refine sv 1 rfl rfl rfl (fun a u hE hD hk => exec_move (.tmp 8) _ rfl (hE 8 (.pointer (some ⟨r, 0, none⟩)) (by kernel_rfl) (by kernel_rfl))) ?_
    refine sv 2 rfl rfl rfl (fun a u hE hD hk => exec_ldS 24 _ (.tmp 10) (b10) (0) (c.cells) rfl (hE 10 (.pointer (some ⟨b10, 0, none⟩)) (by kernel_rfl) (by kernel_rfl)) (range_kept HOf.out hk) Try.underlying24 (by rw [c.len9]; exact ord_size)) ?_
    exact fsteps_nil
   intro gv wg hV kg
   rw [show dstsOf _ 2 = [77, 78] by kernel_rfl]
   simp only [fC, fN, sA, sS, sZ, dS, dZ]
   rw [show gv 77 = .pointer (some ⟨r, 0, none⟩) from hV 0 77 (by kernel_rfl)]
   rw [show gv 78 = c.v from hV 1 78 (by kernel_rfl)]
   clear hV
   refine l_call (o := ⟨some 79, _, _, _, _, _⟩) 24 #[.pointer (some ⟨r, 0, none⟩), c.v] rfl (exec_call 24 _ [.tmp 77, .tmp 78] _ _ Try.func24 (by kernel_rfl) (by kernel_rfl) rfl (by kernel_rfl) _) ?_
   refine (madd_at wg G9 r M1 c _ HLM.out (HCf.out.kept kg) HI1.out.1 (by have := HI1.out.2; have := HNo.out; omega)).mono ?_
   rintro rr wh ⟨Gh, v14, Zh, rfl, hCh, hOh, hGh, hkh⟩
   refine ⟨_, rfl, ?_⟩
   simp only [Act.put, sA, sS, sZ]
   refine l_val (o := ⟨some 14, _, _, _, _, _⟩) (v14) rfl (exec_assign (.tmp 79) (v14) rfl (by kernel_rfl)) ?_
   simp only [Act.put, sA, sS, sZ]
   refine wpList_nil ?_
   have zg := kg.size
   have K7h : Keep (fun b => G b ∨ b = b10) w7 wh := by
    have h1 : Keep (fun b => G b ∨ b = b10) w7 wf := (HK9.out.mono (T := fun b => G b ∨ b = b10) (fun _ _ h => .inl h)).trans K9f (fun b _ h => .inr h)
    exact (h1.kept kg).trans hkh (fun b hb h => (HGr9.out b h).elim .inl (fun h => by omega))
   have hF7l := HM7.out.lt
   have HMh := Lib.hid (HM7.out.keep K7h (fun b hb h => h.elim (fun h => HD7.out b h hb) (fun h => hb7 (by rw [← h]; exact hb))))
   have HXh := Lib.hid (HX7.out.keep K7h (fun b h1 h2 h3 h => h.elim (HGO.out b h1) (fun h => by omega)))
   have HYh := Lib.hid hOh
   have HCh := Lib.hid hCh
   have kwh : Kept w wh := Keep.trans (S := fun _ => False) kw7 K7h (fun b hb h => h.elim (fun h => by have := HGg.out b h; omega) (fun h => by have := hw10; omega))
   clear hCh hOh hGh hkh kg K7h HM7 HX7 HOf HCf HK9 K9f hF7l
   go_upto_region 16 with fail
   refine wp_text 18 [.eq (.int .i64 0), .eq (.bool true), .eq (.bool true), .eq (v12), .eq (v14), .eq (.bool true), .eq (.bool true), .eq (.bool true), .eq (.pointer (some ⟨p, 0, none⟩)), .sl wh.heap.size 24 9 M2.all.length (ords M2.all), .eq (.pointer (some ⟨r, 0, none⟩)), .sl wh.heap.size 24 9 M2.all.length (ords M2.all), .eq (.bool true), .eq (.bool true), .eq (.bool true), .eq (.bool true), .eq (.bool true), .eq (.bool true)] rfl (by kernel_rfl) ?_ ?_
   ·refine sv 1 rfl rfl rfl (fun a u hE hD hk => exec_move (.tmp 13) _ rfl (hE 13 (.int .i64 0) (by kernel_rfl) (by kernel_rfl))) ?_
    refine fsteps_cons 2 rfl (fun a u hE hD hk => f_as (show ((decide ((0 : Int) = (0 : Int))) : Bool) = true from by decide) (f_val (o := ⟨some 81, _, _, _, _, _⟩) (.bool (decide ((0 : Int) = (0 : Int)))) rfl (wanted_none rfl _) (exec_eqn (p := 0) (q := 0) rfl (hD 0 80 (by kernel_rfl)) rfl) rfl)) ?_
    refine sv 3 rfl rfl rfl (fun a u hE hD hk => exec_move (.tmp 81) _ rfl (hD 1 81 (by kernel_rfl))) ?_
    refine fsteps_cons 4 rfl (fun a u hE hD hk => f_val (o := ⟨some 83, _, _, _, _, _⟩) (v12) rfl (wanted_at (b := true) true rfl rfl (hD 2 82 (by kernel_rfl))) (exec_move (.tmp 12) _ rfl (hE 12 (v12) (by kernel_rfl) (by kernel_rfl))) rfl) ?_
    refine fsteps_cons 5 rfl (fun a u hE hD hk => f_val (o := ⟨some 84, _, _, _, _, _⟩) (v14) rfl (wanted_at (b := true) true rfl rfl (hD 2 82 (by kernel_rfl))) (exec_move (.tmp 14) _ rfl (hE 14 (v14) (by kernel_rfl) (by kernel_rfl))) rfl) ?_
    refine fsteps_cons 6 rfl (fun a u hE hD hk => f_call (o := ⟨some 85, _, _, _, _, _⟩) 25 #[v12, v14] rfl (wanted_at (b := true) true rfl rfl (hD 2 82 (by kernel_rfl))) (exec_call 25 _ [.tmp 83, .tmp 84] _ [v12, v14] Try.func25 (by kernel_rfl) (by kernel_rfl) rfl (show [a.eval (.tmp 83), a.eval (.tmp 84)] = [v12, v14] from (by rw [show a.eval (.tmp 83) = v12 from (hD 3 83 (by kernel_rfl)), show a.eval (.tmp 84) = v14 from (hD 4 84 (by kernel_rfl))] <;> rfl)) u) (kouts_any v12 v14 L Z7 Zh u _ _ _ _ (HXh.out.kept hk) (HYh.out.kept hk) HFF.out.1 HFF.out.2)) ?_
    refine sv 7 rfl rfl rfl (fun a u hE hD hk => exec_pick (.tmp 82) (.tmp 85) (.const (.bool false)) (.bool true) rfl (hD 2 82 (by kernel_rfl)) (hD 5 85 (by kernel_rfl))) ?_
    refine sv 8 rfl rfl rfl (fun a u hE hD hk => exec_move (.tmp 86) _ rfl (hD 6 86 (by kernel_rfl))) ?_
    refine fsteps_cons 9 rfl (fun a u hE hD hk => f_val (o := ⟨some 88, _, _, _, _, _⟩) (.pointer (some ⟨p, 0, none⟩)) rfl (wanted_at (b := true) true rfl rfl (hD 7 87 (by kernel_rfl))) (exec_move (.tmp 7) _ rfl (hE 7 (.pointer (some ⟨p, 0, none⟩)) (by kernel_rfl) (by kernel_rfl))) rfl) ?_
    refine fsteps_cons 10 rfl (fun a u hE hD hk => f_call (o := ⟨some 89, _, _, _, _, _⟩) 13 #[.pointer (some ⟨p, 0, none⟩)] rfl (wanted_at (b := true) true rfl rfl (hD 7 87 (by kernel_rfl))) (exec_call 13 _ [.tmp 88] _ [.pointer (some ⟨p, 0, none⟩)] Try.func13 (by kernel_rfl) (by kernel_rfl) rfl (show [a.eval (.tmp 88)] = [.pointer (some ⟨p, 0, none⟩)] from (by rw [show a.eval (.tmp 88) = .pointer (some ⟨p, 0, none⟩) from (hD 8 88 (by kernel_rfl))] <;> rfl)) u) ((mall_any u F7 p M2 (HMh.out.kept hk) HI2.out.inv (by omega)).base hk.size)) ?_
    refine fsteps_cons 11 rfl (fun a u hE hD hk => f_val (o := ⟨some 90, _, _, _, _, _⟩) (.pointer (some ⟨r, 0, none⟩)) rfl (wanted_at (b := true) true rfl rfl (hD 7 87 (by kernel_rfl))) (exec_move (.tmp 8) _ rfl (hE 8 (.pointer (some ⟨r, 0, none⟩)) (by kernel_rfl) (by kernel_rfl))) rfl) ?_
    refine fsteps_cons 12 rfl (fun a u hE hD hk => f_call (o := ⟨some 91, _, _, _, _, _⟩) 13 #[.pointer (some ⟨r, 0, none⟩)] rfl (wanted_at (b := true) true rfl rfl (hD 7 87 (by kernel_rfl))) (exec_call 13 _ [.tmp 90] _ [.pointer (some ⟨r, 0, none⟩)] Try.func13 (by kernel_rfl) (by kernel_rfl) rfl (show [a.eval (.tmp 90)] = [.pointer (some ⟨r, 0, none⟩)] from (by rw [show a.eval (.tmp 90) = .pointer (some ⟨r, 0, none⟩) from (hD 10 90 (by kernel_rfl))] <;> rfl)) u) ((mall_any u Gh r M2 (HCh.out.kept hk) HI2.out.inv (by omega)).base hk.size)) ?_
    refine fsteps_cons 13 rfl (fun a u hE hD hk => f_call (o := ⟨some 92, _, _, _, _, _⟩) 19 #[a.eval (.tmp 89), a.eval (.tmp 91)] rfl (wanted_at (b := true) true rfl rfl (hD 7 87 (by kernel_rfl))) (exec_call 19 _ [.tmp 89, .tmp 91] _ [a.eval (.tmp 89), a.eval (.tmp 91)] Try.func19 (by kernel_rfl) (by kernel_rfl) rfl rfl u) ((by have h := sameO_any (a.eval (.tmp 89)) (a.eval (.tmp 91)) 0 0 M2.all M2.all u (hD 9 89 (by kernel_rfl)).1 (hD 11 91 (by kernel_rfl)).1 (by omega) (by omega); rw [decide_eq_true rfl] at h; exact h))) ?_
    refine sv 14 rfl rfl rfl (fun a u hE hD hk => exec_pick (.tmp 87) (.tmp 92) (.const (.bool false)) (.bool true) rfl (hD 7 87 (by kernel_rfl)) (hD 12 92 (by kernel_rfl))) ?_
    refine sv 15 rfl rfl rfl (fun a u hE hD hk => exec_move (.tmp 93) _ rfl (hD 13 93 (by kernel_rfl))) ?_
    refine fsteps_cons 16 rfl (fun a u hE hD hk => f_call (o := ⟨some 95, _, _, _, _, _⟩) 3 #[] rfl (wanted_at (b := true) true rfl rfl (hD 14 94 (by kernel_rfl))) (exec_call 3 _ [] _ [] Try.func3 (by kernel_rfl) (by kernel_rfl) rfl rfl u) (cruns_gives u)) ?_
    refine sv 17 rfl rfl rfl (fun a u hE hD hk => exec_pick (.tmp 94) (.tmp 95) (.const (.bool false)) (.bool true) rfl (hD 14 94 (by kernel_rfl)) (hD 15 95 (by kernel_rfl))) ?_
    refine sv 18 rfl rfl rfl (fun a u hE hD hk => exec_assign (.tmp 96) _ rfl (hD 16 96 (by kernel_rfl))) ?_
    exact fsteps_nil
   intro gv wz hV kz
   rw [show dstsOf _ 18 = [80, 81, 82, 83, 84, 85, 86, 87, 88, 89, 90, 91, 92, 93, 94, 95, 96, 6] by kernel_rfl]
   simp only [fC, fN, sA, sS, sZ, dS, dZ]
   rw [show gv 6 = .bool true from hV 17 6 (by kernel_rfl)]
   clear hV
   refine wpList_nil ?_
   go_wp2
   go_ret
   exact ⟨rfl, kwh.trans kz⟩
  ·by_cases hg1 : pr = x.price
   ·go_upto_region 9 with fail
    refine wp_text 9 [.eq (.int .i64 pr), .eq (.pointer (some ⟨b10, 5, none⟩)), .eq (.int .i64 x.price), .eq (.bool true), .eq (.bool true), .eq undef, .eq undef, .eq undef, .eq (.bool true)] rfl (by kernel_rfl) ?_ ?_
    ·refine sv 1 rfl rfl rfl (fun a u hE hD hk => exec_move (.tmp 11) _ rfl (hE 11 (.int .i64 pr) (by kernel_rfl) (by kernel_rfl))) ?_
     refine sv 2 rfl rfl rfl (fun a u hE hD hk => exec_fldo 24 5 5 (.tmp 10) (b10) (0) (5) rfl (hE 10 (.pointer (some ⟨b10, 0, none⟩)) (by kernel_rfl) (by kernel_rfl)) (by kernel_rfl) rfl) ?_
     refine sv 3 rfl rfl rfl (fun a u hE hD hk => exec_loadi 3 Try.underlying3 (.tmp 42) ⟨b10, 5, none⟩ (.int .i64 x.price) rfl (hD 1 42 (by kernel_rfl)) (range_int (range_kept HOb.out hk) 5 _ rfl)) ?_
     refine fsteps_cons 4 rfl (fun a u hE hD hk => f_as (show ((decide ((pr : Int) = (x.price : Int))) : Bool) = true from decide_eq_true hg1) (f_val (o := ⟨some 44, _, _, _, _, _⟩) (.bool (decide ((pr : Int) = (x.price : Int)))) rfl (wanted_none rfl _) (exec_eqn (p := pr) (q := x.price) rfl (hD 0 41 (by kernel_rfl)) (hD 2 43 (by kernel_rfl))) rfl)) ?_
     refine sv 5 rfl rfl rfl (fun a u hE hD hk => exec_move (.tmp 44) _ rfl (hD 3 44 (by kernel_rfl))) ?_
     refine fsteps_cons 6 rfl (fun a u hE hD hk => f_skip (o := ⟨some 46, _, _, _, _, _⟩) rfl (wanted_at (b := false) true rfl rfl (hD 4 45 (by kernel_rfl))) rfl) ?_
     refine fsteps_cons 7 rfl (fun a u hE hD hk => f_skip (o := ⟨some 47, _, _, _, _, _⟩) rfl (wanted_at (b := false) true rfl rfl (hD 4 45 (by kernel_rfl))) rfl) ?_
     refine fsteps_cons 8 rfl (fun a u hE hD hk => f_skip (o := ⟨some 48, _, _, _, _, _⟩) rfl (wanted_at (b := false) true rfl rfl (hD 4 45 (by kernel_rfl))) rfl) ?_
     refine sv 9 rfl rfl rfl (fun a u hE hD hk => exec_pick (.tmp 45) (.const (.bool true)) (.tmp 48) (.bool true) rfl (hD 4 45 (by kernel_rfl)) rfl) ?_
     exact fsteps_nil
    intro gv w5 hV k5
    rw [show dstsOf _ 9 = [41, 42, 43, 44, 45, 46, 47, 48, 49] by kernel_rfl]
    simp only [fC, fN, sA, sS, sZ, dS, dZ]
    rw [show gv 49 = .bool true from hV 8 49 (by kernel_rfl)]
    clear hV
    refine wpList_nil ?_
    have kw5 := kwb.trans k5
    go_upto_region 10 with fail
    refine wp_region_lit ?_
    refine l_call (o := ⟨some 50, _, _, _, _, _⟩) 3 #[] rfl (exec_call 3 _ [] _ _ Try.func3 (by kernel_rfl) (by kernel_rfl) rfl (by kernel_rfl) _) ?_
    refine (changeRuns_any w5).mono ?_
    rintro r wz ⟨rfl, kz⟩
    refine ⟨_, rfl, ?_⟩
    simp only [Act.put, sA, sS, sZ]
    refine l_val (o := ⟨some 6, _, _, _, _, _⟩) (.bool true) rfl (exec_assign (.tmp 50) (.bool true) rfl (by kernel_rfl)) ?_
    simp only [Act.put, sA, sS, sZ]
    refine wpList_nil ?_
    go_wp2
    go_ret
    exact ⟨rfl, kw5.trans kz⟩
   ·have hg2 : x.k = 2 := Classical.byContradiction fun h => hgo ⟨hg1, h⟩
    go_upto_region 9 with fail
    refine wp_text 9 [.eq (.int .i64 pr), .eq (.pointer (some ⟨b10, 5, none⟩)), .eq (.int .i64 x.price), .eq (.bool false), .eq (.bool false), .eq (.pointer (some ⟨b10, 4, none⟩)), .eq (.int .i64 x.k), .eq (.bool true), .eq (.bool true)] rfl (by kernel_rfl) ?_ ?_
    ·refine sv 1 rfl rfl rfl (fun a u hE hD hk => exec_move (.tmp 11) _ rfl (hE 11 (.int .i64 pr) (by kernel_rfl) (by kernel_rfl))) ?_
     refine sv 2 rfl rfl rfl (fun a u hE hD hk => exec_fldo 24 5 5 (.tmp 10) (b10) (0) (5) rfl (hE 10 (.pointer (some ⟨b10, 0, none⟩)) (by kernel_rfl) (by kernel_rfl)) (by kernel_rfl) rfl) ?_
     refine sv 3 rfl rfl rfl (fun a u hE hD hk => exec_loadi 3 Try.underlying3 (.tmp 42) ⟨b10, 5, none⟩ (.int .i64 x.price) rfl (hD 1 42 (by kernel_rfl)) (range_int (range_kept HOb.out hk) 5 _ rfl)) ?_
     refine fsteps_cons 4 rfl (fun a u hE hD hk => f_as (show ((decide ((pr : Int) = (x.price : Int))) : Bool) = false from decide_eq_false hg1) (f_val (o := ⟨some 44, _, _, _, _, _⟩) (.bool (decide ((pr : Int) = (x.price : Int)))) rfl (wanted_none rfl _) (exec_eqn (p := pr) (q := x.price) rfl (hD 0 41 (by kernel_rfl)) (hD 2 43 (by kernel_rfl))) rfl)) ?_
     refine sv 5 rfl rfl rfl (fun a u hE hD hk => exec_move (.tmp 44) _ rfl (hD 3 44 (by kernel_rfl))) ?_
     refine fsteps_cons 6 rfl (fun a u hE hD hk => f_val (o := ⟨some 46, _, _, _, _, _⟩) (.pointer (some ⟨b10, 4, none⟩)) rfl (wanted_at (b := false) false rfl rfl (hD 4 45 (by kernel_rfl))) (exec_fldo 24 4 4 (.tmp 10) (b10) (0) (4) rfl (hE 10 (.pointer (some ⟨b10, 0, none⟩)) (by kernel_rfl) (by kernel_rfl)) (by kernel_rfl) rfl) rfl) ?_
     refine fsteps_cons 7 rfl (fun a u hE hD hk => f_val (o := ⟨some 47, _, _, _, _, _⟩) (.int .i64 x.k) rfl (wanted_at (b := false) false rfl rfl (hD 4 45 (by kernel_rfl))) (exec_loadi 3 Try.underlying3 (.tmp 46) ⟨b10, 4, none⟩ (.int .i64 x.k) rfl (hD 5 46 (by kernel_rfl)) (range_int (range_kept HOb.out hk) 4 _ rfl)) rfl) ?_
     refine fsteps_cons 8 rfl (fun a u hE hD hk => f_as (show ((decide ((x.k : Int) = (2 : Int))) : Bool) = true from decide_eq_true hg2) (f_val (o := ⟨some 48, _, _, _, _, _⟩) (.bool (decide ((x.k : Int) = (2 : Int)))) rfl (wanted_at (b := false) false rfl rfl (hD 4 45 (by kernel_rfl))) (exec_eqn (p := x.k) (q := 2) rfl (hD 6 47 (by kernel_rfl)) rfl) rfl)) ?_
     refine sv 9 rfl rfl rfl (fun a u hE hD hk => exec_pickF (.tmp 45) (.const (.bool true)) (.tmp 48) (.bool true) rfl (hD 4 45 (by kernel_rfl)) (hD 7 48 (by kernel_rfl))) ?_
     exact fsteps_nil
    intro gv w5 hV k5
    rw [show dstsOf _ 9 = [41, 42, 43, 44, 45, 46, 47, 48, 49] by kernel_rfl]
    simp only [fC, fN, sA, sS, sZ, dS, dZ]
    rw [show gv 49 = .bool true from hV 8 49 (by kernel_rfl)]
    clear hV
    refine wpList_nil ?_
    have kw5 := kwb.trans k5
    go_upto_region 10 with fail
    refine wp_region_lit ?_
    refine l_call (o := ⟨some 50, _, _, _, _, _⟩) 3 #[] rfl (exec_call 3 _ [] _ _ Try.func3 (by kernel_rfl) (by kernel_rfl) rfl (by kernel_rfl) _) ?_
    refine (changeRuns_any w5).mono ?_
    rintro r wz ⟨rfl, kz⟩
    refine ⟨_, rfl, ?_⟩
    simp only [Act.put, sA, sS, sZ]
    refine l_val (o := ⟨some 6, _, _, _, _, _⟩) (.bool true) rfl (exec_assign (.tmp 50) (.bool true) rfl (by kernel_rfl)) ?_
    simp only [Act.put, sA, sS, sZ]
    refine wpList_nil ?_
    go_wp2
    go_ret
    exact ⟨rfl, kw5.trans kz⟩
end Go.Proofs.Ytklohceombpleaa
