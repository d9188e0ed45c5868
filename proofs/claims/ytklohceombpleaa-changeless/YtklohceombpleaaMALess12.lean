/-
 The walk of ChangeLess. No condition.
-/
import Derived.Test.YtklohceombpleaaQA05
set_option linter.unusedVariables false
namespace Go.Proofs.Ytklohceombpleaa
open Go.RowKit
set_option maxRecDepth 100000
set_option maxRecDepth 100000 in
set_option maxHeartbeats 6400000 in
theorem changeLess_any (v : Value) (l : List Kq) (at_ qty : Int) (w : World) (hl : Kqs w v l) : Calls Try.prog 4 #[v, .int .i64 at_, .int .i64 qty] w fun e w' => e = .returned (.bool true) ∧ Kept w w' := by
 have HIN := Lib.hid (fillM_inv (l.take 40))
 have HNo : Hid ((fillM (l.take 40)).b.no ≤ 3000000000) := by
  have h1 := HIN.out.2
  have h2 : (l.take 40).length ≤ 40 := by rw [List.length_take]; omega
  show _ ≤ _
  omega
 have HI := Lib.hid HIN.out.1
 have HMM : Hid (∀ (u : World), Kept w u → Calls Try.prog 11 #[v] u fun e w' => ∃ p F, e = .returned (.pointer (some ⟨p, 0, none⟩)) ∧ Mk w' F p (fillM (l.take 40)) ∧ Grow u (fun _ => False) F ∧ Kept u w') := fun u hu => mfilled_any v l u (hl.kept hu)
 clear HIN
 generalize fillM (l.take 40) = M at HI HNo HMM
 clear hl
 go_enter Try.func4, Try.ntmps4
 go_upto_region 1 with fail
 refine wp_region_lit ?_
 refine l_val (o := ⟨some 18, _, _, _, _, _⟩) (v) rfl (exec_move (.tmp 0) (v) rfl (by kernel_rfl)) ?_
 simp only [Act.put, sA, sS, sZ]
 refine l_call (o := ⟨some 19, _, _, _, _, _⟩) 11 #[v] rfl (exec_call 11 _ [.tmp 18] _ _ Try.func11 (by kernel_rfl) (by kernel_rfl) rfl (by kernel_rfl) _) ?_
 refine (HMM.out w (Kept.refl _)).mono ?_
 rintro r w1 ⟨p, F, rfl, hMp, hGp, kcw1⟩
 refine ⟨_, rfl, ?_⟩
 have kww1 := kcw1
 simp only [Act.put, sA, sS, sZ]
 refine l_val (o := ⟨some 7, _, _, _, _, _⟩) (.pointer (some ⟨p, 0, none⟩)) rfl (exec_assign (.tmp 19) (.pointer (some ⟨p, 0, none⟩)) rfl (by kernel_rfl)) ?_
 simp only [Act.put, sA, sS, sZ]
 refine wpList_nil ?_
 have HM1 := Lib.hid hMp
 have HF : Hid (∀ b, F b → w.heap.size ≤ b) := fun b hb => (hGp b hb).elim (fun h => h.elim) id
 have k1 := kww1
 clear hMp hGp kcw1 kww1 HMM
 obtain ⟨X, hX⟩ : ∃ X, M.all = X := ⟨_, rfl⟩
 obtain ⟨an, han⟩ : ∃ an, X.length = an := ⟨_, rfl⟩
 have hal : an ≤ 64 := by rw [← han, ← hX]; exact HI.out.all_few
 obtain ⟨wn, hwn⟩ : ∃ wn, M.w.length = wn := ⟨_, rfl⟩
 have hwl : wn ≤ 64 := by have := HI.out.few; omega
 have hwa : wn ≤ an := by have := all_len M; rw [hX, han] at this; unfold Mkt.len at this; omega
 have HWN := Lib.hid hwn
 have HAN := Lib.hid han
 have HXX := Lib.hid hX
 obtain ⟨no, hno⟩ : ∃ no, M.b.no = no := ⟨_, rfl⟩
 have HNN := Lib.hid hno
 clear hX han hno hwn
 obtain ⟨q, Fb, hq1, hq2⟩ := mk_book HM1.out
 have HQ1 := Lib.hid hq1
 have HQ2 := Lib.hid hq2
 clear hq1 hq2
 go_upto_region 2 with fail
 refine wp_text 7 [.eq (.pointer (some ⟨p, 0, none⟩)), .eq (.bool false), .eq (.bool false), .eq (.pointer (some ⟨p, 0, none⟩)), .eq (.pointer (some ⟨q, 0, none⟩)), .eq (.bool false), .eq (.bool false)] rfl (by kernel_rfl) ?_ ?_
 ·refine sv 1 rfl rfl rfl (fun a u hE hD hk => exec_move (.tmp 7) _ rfl (hE 7 (.pointer (some ⟨p, 0, none⟩)) (by kernel_rfl) (by kernel_rfl))) ?_
  refine sv 2 rfl rfl rfl (fun a u hE hD hk => exec_eqP (.tmp 20) _ _ ⟨p, 0, none⟩ (by kernel_rfl) rfl (hD 0 20 (by kernel_rfl))) ?_
  refine sv 3 rfl rfl rfl (fun a u hE hD hk => exec_move (.tmp 21) _ rfl (hD 1 21 (by kernel_rfl))) ?_
  refine fsteps_cons 4 rfl (fun a u hE hD hk => f_val (o := ⟨some 23, _, _, _, _, _⟩) (.pointer (some ⟨p, 0, none⟩)) rfl (wanted_at (b := false) false rfl rfl (hD 2 22 (by kernel_rfl))) (exec_move (.tmp 7) _ rfl (hE 7 (.pointer (some ⟨p, 0, none⟩)) (by kernel_rfl) (by kernel_rfl))) rfl) ?_
  refine fsteps_cons 5 rfl (fun a u hE hD hk => f_call (o := ⟨some 24, _, _, _, _, _⟩) 12 #[.pointer (some ⟨p, 0, none⟩)] rfl (wanted_at (b := false) false rfl rfl (hD 2 22 (by kernel_rfl))) (exec_call 12 _ [.tmp 23] _ [.pointer (some ⟨p, 0, none⟩)] Try.func12 (by kernel_rfl) (by kernel_rfl) rfl (show [a.eval (.tmp 23)] = [.pointer (some ⟨p, 0, none⟩)] from (by rw [show a.eval (.tmp 23) = .pointer (some ⟨p, 0, none⟩) from (hD 3 23 (by kernel_rfl))] <;> rfl)) u) (HQ1.out u hk)) ?_
  refine fsteps_cons 6 rfl (fun a u hE hD hk => f_val (o := ⟨some 25, _, _, _, _, _⟩) (.bool false) rfl (wanted_at (b := false) false rfl rfl (hD 2 22 (by kernel_rfl))) (exec_eqP (.tmp 24) _ _ ⟨q, 0, none⟩ (by kernel_rfl) rfl (hD 4 24 (by kernel_rfl))) rfl) ?_
  refine sv 7 rfl rfl rfl (fun a u hE hD hk => exec_pickF (.tmp 22) (.const (.bool true)) (.tmp 25) (.bool false) rfl (hD 2 22 (by kernel_rfl)) (hD 5 25 (by kernel_rfl))) ?_
  exact fsteps_nil
 intro gv w2 hV k2
 rw [show dstsOf _ 7 = [20, 21, 22, 23, 24, 25, 26] by kernel_rfl]
 simp only [fC, fN, sA, sS, sZ, dS, dZ]
 rw [show gv 26 = .bool false from hV 6 26 (by kernel_rfl)]
 clear hV
 refine wpList_nil ?_
 have HM2 := Lib.hid (HM1.out.kept k2)
 have kw2 := k1.trans k2
 clear HM1
 go_upto_region 4 with fail
 refine wp_text 7 [.eq (.pointer (some ⟨p, 0, none⟩)), .sl w2.heap.size 24 9 an (ords X), .eq (.pointer (some ⟨p, 0, none⟩)), .eq (.pointer (some ⟨q, 0, none⟩)), .eq (.int .i64 no), .sl w2.heap.size 24 9 an (ords X), .eq (.int .i64 no)] rfl (by kernel_rfl) ?_ ?_
 ·refine sv 1 rfl rfl rfl (fun a u hE hD hk => exec_move (.tmp 7) _ rfl (hE 7 (.pointer (some ⟨p, 0, none⟩)) (by kernel_rfl) (by kernel_rfl))) ?_
  refine fsteps_cons 2 rfl (fun a u hE hD hk => f_call (o := ⟨some 28, _, _, _, _, _⟩) 13 #[.pointer (some ⟨p, 0, none⟩)] rfl (wanted_none rfl _) (exec_call 13 _ [.tmp 27] _ [.pointer (some ⟨p, 0, none⟩)] Try.func13 (by kernel_rfl) (by kernel_rfl) rfl (show [a.eval (.tmp 27)] = [.pointer (some ⟨p, 0, none⟩)] from (by rw [show a.eval (.tmp 27) = .pointer (some ⟨p, 0, none⟩) from (hD 0 27 (by kernel_rfl))] <;> rfl)) u) ((by rw [← HAN.out, ← HXX.out]; exact (mall_any u F p M (HM2.out.kept hk) HI.out.inv (by have := HWN.out; omega)).base hk.size))) ?_
  refine sv 3 rfl rfl rfl (fun a u hE hD hk => exec_move (.tmp 7) _ rfl (hE 7 (.pointer (some ⟨p, 0, none⟩)) (by kernel_rfl) (by kernel_rfl))) ?_
  refine fsteps_cons 4 rfl (fun a u hE hD hk => f_call (o := ⟨some 30, _, _, _, _, _⟩) 12 #[.pointer (some ⟨p, 0, none⟩)] rfl (wanted_none rfl _) (exec_call 12 _ [.tmp 29] _ [.pointer (some ⟨p, 0, none⟩)] Try.func12 (by kernel_rfl) (by kernel_rfl) rfl (show [a.eval (.tmp 29)] = [.pointer (some ⟨p, 0, none⟩)] from (by rw [show a.eval (.tmp 29) = .pointer (some ⟨p, 0, none⟩) from (hD 2 29 (by kernel_rfl))] <;> rfl)) u) (HQ1.out u (k2.trans hk))) ?_
  refine fsteps_cons 5 rfl (fun a u hE hD hk => f_call (o := ⟨some 31, _, _, _, _, _⟩) 14 #[.pointer (some ⟨q, 0, none⟩)] rfl (wanted_none rfl _) (exec_call 14 _ [.tmp 30] _ [.pointer (some ⟨q, 0, none⟩)] Try.func14 (by kernel_rfl) (by kernel_rfl) rfl (show [a.eval (.tmp 30)] = [.pointer (some ⟨q, 0, none⟩)] from (by rw [show a.eval (.tmp 30) = .pointer (some ⟨q, 0, none⟩) from (hD 3 30 (by kernel_rfl))] <;> rfl)) u) ((by rw [← HNN.out]; exact bno_any u Fb q M.b (HQ2.out u (k2.trans hk))))) ?_
  refine fsteps_cons 6 rfl (fun a u hE hD hk => f_val (o := ⟨some 8, _, _, _, _, _⟩) (a.eval (.tmp 28)) rfl (wanted_none rfl _) (exec_assign (.tmp 28) _ rfl rfl) (hD 1 28 (by kernel_rfl))) ?_
  refine sv 7 rfl rfl rfl (fun a u hE hD hk => exec_assign (.tmp 31) _ rfl (hD 4 31 (by kernel_rfl))) ?_
  exact fsteps_nil
 intro gv w3 hV k3
 rw [show dstsOf _ 7 = [27, 28, 29, 30, 31, 8, 9] by kernel_rfl]
 simp only [fC, fN, sA, sS, sZ, dS, dZ]
 have hv8 : (.sl w2.heap.size 24 9 an (ords X) : Kn).p (gv 8) w3 := hV 5 8 (by kernel_rfl)
 generalize gv 8 = v8 at hv8 ⊢
 rw [show gv 9 = .int .i64 no from hV 6 9 (by kernel_rfl)]
 clear hV
 refine wpList_nil ?_
 obtain ⟨va, hva⟩ : ∃ x, x = v8 := ⟨_, rfl⟩
 subst hva
 have HM3 := Lib.hid (HM2.out.kept k3)
 have HA3 := Lib.hid hv8.1
 have HV3 : Hid (∀ b, va.ownBlock = some b → ¬ F b) := fun b hb h => by have := hv8.2 b hb; have := HM2.out.lt b h; omega
 have kw3 := kw2.trans k3
 clear hv8 HM2 kw2 k3 HQ1 HQ2 k1 k2
 go_upto_region 5 with fail
 refine wp_text 7 [.eq (va), .eq (.int .i64 (an : Int)), .eq (.pointer (some ⟨p, 0, none⟩)), .sl w3.heap.size 24 9 wn (ords M.w), .eq (.int .i64 (wn : Int)), .eq (.int .i64 (((an : Int) : Int) - ((wn : Int) : Int))), .eq (.int .i64 (((an : Int) : Int) - ((wn : Int) : Int)))] rfl (by kernel_rfl) ?_ ?_
 ·refine sv 1 rfl rfl rfl (fun a u hE hD hk => exec_move (.tmp 8) _ rfl (hE 8 (va) (by kernel_rfl) (by kernel_rfl))) ?_
  refine sv 2 rfl rfl rfl (fun a u hE hD hk => exec_lenS (.tmp 32) slO va an _ _ rfl (hD 0 32 (by kernel_rfl)) (HA3.out.kept hk)) ?_
  refine sv 3 rfl rfl rfl (fun a u hE hD hk => exec_move (.tmp 7) _ rfl (hE 7 (.pointer (some ⟨p, 0, none⟩)) (by kernel_rfl) (by kernel_rfl))) ?_
  refine fsteps_cons 4 rfl (fun a u hE hD hk => f_call (o := ⟨some 35, _, _, _, _, _⟩) 15 #[.pointer (some ⟨p, 0, none⟩)] rfl (wanted_none rfl _) (exec_call 15 _ [.tmp 34] _ [.pointer (some ⟨p, 0, none⟩)] Try.func15 (by kernel_rfl) (by kernel_rfl) rfl (show [a.eval (.tmp 34)] = [.pointer (some ⟨p, 0, none⟩)] from (by rw [show a.eval (.tmp 34) = .pointer (some ⟨p, 0, none⟩) from (hD 2 34 (by kernel_rfl))] <;> rfl)) u) ((by rw [← HWN.out]; exact (waiting_any u F p M (HM3.out.kept hk) (by have := HWN.out; omega)).base hk.size))) ?_
  refine sv 5 rfl rfl rfl (fun a u hE hD hk => exec_lenS (.tmp 35) slO (a.eval (.tmp 35)) wn _ _ rfl rfl (hD 3 35 (by kernel_rfl)).1) ?_
  refine sv 6 rfl rfl rfl (fun a u hE hD hk => exec_subn (p := ((an : Int))) (q := ((wn : Int))) (((an : Int) : Int) - ((wn : Int) : Int)) rfl (hD 1 33 (by kernel_rfl)) (hD 4 36 (by kernel_rfl)) rfl (by omega) (by omega)) ?_
  refine sv 7 rfl rfl rfl (fun a u hE hD hk => exec_assign (.tmp 37) _ rfl (hD 5 37 (by kernel_rfl))) ?_
  exact fsteps_nil
 intro gv w4 hV k4
 rw [show dstsOf _ 7 = [32, 33, 34, 35, 36, 37, 10] by kernel_rfl]
 simp only [fC, fN, sA, sS, sZ, dS, dZ]
 rw [show gv 10 = .int .i64 (((an : Int) : Int) - ((wn : Int) : Int)) from hV 6 10 (by kernel_rfl)]
 clear hV
 refine wpList_nil ?_
 have HM4 := Lib.hid (HM3.out.kept k4)
 have HA4 := Lib.hid (HA3.out.kept k4)
 have kw4 := kw3.trans k4
 clear HM3 HA3 kw3 k4
 by_cases hr0 : an ≤ wn
 ·go_upto_region 6 with fail
  refine wp_text 2 [.eq (.int .i64 ((an : Int) - (wn : Int))), .eq (.bool true)] rfl (by kernel_rfl) ?_ ?_
  ·refine sv 1 rfl rfl rfl (fun a u hE hD hk => exec_move (.tmp 10) _ rfl (hE 10 (.int .i64 ((an : Int) - (wn : Int))) (by kernel_rfl) (by kernel_rfl))) ?_
   refine fsteps_cons 2 rfl (fun a u hE hD hk => f_as (show ((decide ((((an : Int) - (wn : Int)) : Int) ≤ (0 : Int))) : Bool) = true from decide_eq_true (by omega)) (f_val (o := ⟨some 39, _, _, _, _, _⟩) (.bool (decide ((((an : Int) - (wn : Int)) : Int) ≤ (0 : Int)))) rfl (wanted_none rfl _) (exec_len_ (p := ((an : Int) - (wn : Int))) (q := 0) rfl (hD 0 38 (by kernel_rfl)) rfl) rfl)) ?_
   exact fsteps_nil
  intro gv w5 hV k5
  rw [show dstsOf _ 2 = [38, 39] by kernel_rfl]
  simp only [fC, fN, sA, sS, sZ, dS, dZ]
  rw [show gv 39 = .bool true from hV 1 39 (by kernel_rfl)]
  clear hV
  refine wpList_nil ?_
  go_upto_region 7 with fail
  refine wp_region_lit ?_
  refine l_call (o := ⟨some 40, _, _, _, _, _⟩) 3 #[] rfl (exec_call 3 _ [] _ _ Try.func3 (by kernel_rfl) (by kernel_rfl) rfl (by kernel_rfl) _) ?_
  refine (changeRuns_any w5).mono ?_
  rintro r w6 ⟨rfl, k6⟩
  refine ⟨_, rfl, ?_⟩
  simp only [Act.put, sA, sS, sZ]
  refine l_val (o := ⟨some 6, _, _, _, _, _⟩) (.bool true) rfl (exec_assign (.tmp 40) (.bool true) rfl (by kernel_rfl)) ?_
  simp only [Act.put, sA, sS, sZ]
  refine wpList_nil ?_
  go_wp2
  go_ret
  exact ⟨rfl, (kw4.trans k5).trans k6⟩
 ·obtain ⟨kI, hkI⟩ : ∃ kI, wi at_ 0 ((an : Int) - (wn : Int) - 1) = kI := ⟨_, rfl⟩
  have hk0 : 0 ≤ kI ∧ kI ≤ (an : Int) - (wn : Int) - 1 := by rw [← hkI]; exact wi_in at_ 0 _ (by omega)
  obtain ⟨kx, rfl⟩ : ∃ kx : Nat, kI = (kx : Int) := ⟨kI.toNat, by omega⟩
  have hkn : kx < an := by omega
  have hkr : kx + wn < an := by omega
  have HKI := Lib.hid hkI
  obtain ⟨x, hx⟩ : ∃ x, X[kx]? = some x := ⟨X[kx]'(by rw [HAN.out]; exact hkn), List.getElem?_eq_getElem _⟩
  have hxm : M.all[kx]? = some x := by rw [HXX.out]; exact hx
  have hkm : kx + M.w.length < M.all.length := by rw [HXX.out, HAN.out, HWN.out]; exact hkr
  have hfx := HI.out.fair x (List.mem_of_getElem? hxm)
  have hq0 := hfx.qty0
  have hq1 := hfx.qty1
  obtain ⟨n, hn⟩ : ∃ n, wi qty 1 x.qty = n := ⟨_, rfl⟩
  have hnn : 1 ≤ n ∧ n ≤ x.qty := by rw [← hn]; exact wi_in qty 1 _ (by omega)
  have HNW := Lib.hid hn
  have HAM := Lib.hid (amend_less HI.out hxm hkm hnn.1 hnn.2)
  obtain ⟨_, hl2, hl3⟩ := less_book HI.out hxm hkm hnn.1 hnn.2
  have hil := HI.out.less x.tr x.id n
  obtain ⟨M2, hM2⟩ : ∃ M2, (M.less x.tr x.id n).2 = M2 := ⟨_, rfl⟩
  rw [hM2] at HAM hl2 hl3 hil
  rw [HXX.out] at hl2
  have HL2 := Lib.hid hl2
  have HL3 := Lib.hid hil.1
  have HL4 : Hid (M2.b.no = no) := by show _ = _; rw [hil.2, HNN.out]
  have HL5 : Hid (M2.w.length = wn) := by show _ = _; rw [hl3, HWN.out]
  obtain ⟨ga, oa, ca, rfl⟩ := HA4.out.some_ (by omega)
  have HE4 : Hid (w4.rangeAt ga (oa + kx * 9) x.cells) := HA4.out.rngO kx x hx
  have HXK := Lib.hid hx
  clear hkI hx hxm hkm hfx hn hl2 hl3 hil hM2
  go_upto_region 6 with fail
  refine wp_text 2 [.eq (.int .i64 ((an : Int) - (wn : Int))), .eq (.bool false)] rfl (by kernel_rfl) ?_ ?_
  ·refine sv 1 rfl rfl rfl (fun a u hE hD hk => exec_move (.tmp 10) _ rfl (hE 10 (.int .i64 ((an : Int) - (wn : Int))) (by kernel_rfl) (by kernel_rfl))) ?_
   refine fsteps_cons 2 rfl (fun a u hE hD hk => f_as (show ((decide ((((an : Int) - (wn : Int)) : Int) ≤ (0 : Int))) : Bool) = false from decide_eq_false (by omega)) (f_val (o := ⟨some 39, _, _, _, _, _⟩) (.bool (decide ((((an : Int) - (wn : Int)) : Int) ≤ (0 : Int)))) rfl (wanted_none rfl _) (exec_len_ (p := ((an : Int) - (wn : Int))) (q := 0) rfl (hD 0 38 (by kernel_rfl)) rfl) rfl)) ?_
   exact fsteps_nil
  intro gv w5 hV k5
  rw [show dstsOf _ 2 = [38, 39] by kernel_rfl]
  simp only [fC, fN, sA, sS, sZ, dS, dZ]
  rw [show gv 39 = .bool false from hV 1 39 (by kernel_rfl)]
  clear hV
  refine wpList_nil ?_
  have HM5 := Lib.hid (HM4.out.kept k5)
  have HA5 := Lib.hid (HA4.out.kept k5)
  have HE5 := Lib.hid (range_kept HE4.out k5)
  have kw5 := kw4.trans k5
  clear HM4 HA4 HE4 kw4 k5
  go_upto_region 8 with fail
  refine wp_text 5 [.eq (.int .i64 at_), .eq (.int .i64 ((an : Int) - (wn : Int))), .eq (.int .i64 ((((an : Int) - (wn : Int)) : Int) - (1 : Int))), .eq (.int .i64 (kx : Int)), .eq (.int .i64 (kx : Int))] rfl (by kernel_rfl) ?_ ?_
  ·refine sv 1 rfl rfl rfl (fun a u hE hD hk => exec_move (.tmp 1) _ rfl (hE 1 (.int .i64 at_) (by kernel_rfl) (by kernel_rfl))) ?_
   refine sv 2 rfl rfl rfl (fun a u hE hD hk => exec_move (.tmp 10) _ rfl (hE 10 (.int .i64 ((an : Int) - (wn : Int))) (by kernel_rfl) (by kernel_rfl))) ?_
   refine sv 3 rfl rfl rfl (fun a u hE hD hk => exec_subn (p := (((an : Int) - (wn : Int)))) (q := (1)) ((((an : Int) - (wn : Int)) : Int) - (1 : Int)) rfl (hD 1 42 (by kernel_rfl)) rfl rfl (by omega) (by omega)) ?_
   refine fsteps_cons 4 rfl (fun a u hE hD hk => f_call (o := ⟨some 44, _, _, _, _, _⟩) 16 #[.int .i64 at_, .int .i64 0, .int .i64 ((((an : Int) - (wn : Int)) : Int) - (1 : Int))] rfl (wanted_none rfl _) (exec_call 16 _ [.tmp 41, .const (.int .i64 0), .tmp 43] _ [.int .i64 at_, .int .i64 0, .int .i64 ((((an : Int) - (wn : Int)) : Int) - (1 : Int))] Try.func16 (by kernel_rfl) (by kernel_rfl) rfl (show [a.eval (.tmp 41), a.eval (.const (.int .i64 0)), a.eval (.tmp 43)] = [.int .i64 at_, .int .i64 0, .int .i64 ((((an : Int) - (wn : Int)) : Int) - (1 : Int))] from (by rw [show a.eval (.tmp 41) = .int .i64 at_ from (hD 0 41 (by kernel_rfl)), show a.eval (.tmp 43) = .int .i64 ((((an : Int) - (wn : Int)) : Int) - (1 : Int)) from (hD 2 43 (by kernel_rfl))] <;> rfl)) u) ((by rw [← HKI.out]; exact within_is at_ 0 ((an : Int) - (wn : Int) - 1) u (by omega) (by omega) (by omega)))) ?_
   refine sv 5 rfl rfl rfl (fun a u hE hD hk => exec_assign (.tmp 44) _ rfl (hD 3 44 (by kernel_rfl))) ?_
   exact fsteps_nil
  intro gv w6 hV k6
  rw [show dstsOf _ 5 = [41, 42, 43, 44, 11] by kernel_rfl]
  simp only [fC, fN, sA, sS, sZ, dS, dZ]
  rw [show gv 11 = .int .i64 (kx : Int) from hV 4 11 (by kernel_rfl)]
  clear hV
  refine wpList_nil ?_
  have HM6 := Lib.hid (HM5.out.kept k6)
  have HA6 := Lib.hid (HA5.out.kept k6)
  have HE6 := Lib.hid (range_kept HE5.out k6)
  have kw6 := kw5.trans k6
  clear HM5 HA5 HE5 kw5 k6
  go_upto_region 9 with fail
  refine wp_text 8 [.eq (.int .i64 qty), .eq (.slice (some ⟨ga, oa, none⟩) an ca), .eq (.int .i64 (kx : Int)), .eq (.pointer (some ⟨ga, oa + kx * 9, none⟩)), .eq (.pointer (some ⟨ga, oa + kx * 9 + 6, none⟩)), .eq (.int .i64 x.qty), .eq (.int .i64 n), .eq (.int .i64 n)] rfl (by kernel_rfl) ?_ ?_
  ·refine sv 1 rfl rfl rfl (fun a u hE hD hk => exec_move (.tmp 2) _ rfl (hE 2 (.int .i64 qty) (by kernel_rfl) (by kernel_rfl))) ?_
   refine sv 2 rfl rfl rfl (fun a u hE hD hk => exec_move (.tmp 8) _ rfl (hE 8 (.slice (some ⟨ga, oa, none⟩) an ca) (by kernel_rfl) (by kernel_rfl))) ?_
   refine sv 3 rfl rfl rfl (fun a u hE hD hk => exec_move (.tmp 11) _ rfl (hE 11 (.int .i64 (kx : Int)) (by kernel_rfl) (by kernel_rfl))) ?_
   refine sv 4 rfl rfl rfl (fun a u hE hD hk => exec_ixo slO (.tmp 46) (.tmp 47) (ga) (oa) an ca kx (oa + kx * 9) ((kx : Int)) rfl (hD 1 46 (by kernel_rfl)) (hD 2 47 (by kernel_rfl)) (by first | rfl | omega) (hkn) (by first | rfl | omega)) ?_
   refine sv 5 rfl rfl rfl (fun a u hE hD hk => exec_fldo 24 6 6 (.tmp 48) (ga) (oa + kx * 9) (oa + kx * 9 + 6) rfl (hD 3 48 (by kernel_rfl)) (by kernel_rfl) rfl) ?_
   refine sv 6 rfl rfl rfl (fun a u hE hD hk => exec_loadi 3 Try.underlying3 (.tmp 49) ⟨ga, oa + kx * 9 + 6, none⟩ (.int .i64 x.qty) rfl (hD 4 49 (by kernel_rfl)) (range_int (range_kept HE6.out hk) 6 _ rfl)) ?_
   refine fsteps_cons 7 rfl (fun a u hE hD hk => f_call (o := ⟨some 51, _, _, _, _, _⟩) 16 #[.int .i64 qty, .int .i64 1, .int .i64 x.qty] rfl (wanted_none rfl _) (exec_call 16 _ [.tmp 45, .const (.int .i64 1), .tmp 50] _ [.int .i64 qty, .int .i64 1, .int .i64 x.qty] Try.func16 (by kernel_rfl) (by kernel_rfl) rfl (show [a.eval (.tmp 45), a.eval (.const (.int .i64 1)), a.eval (.tmp 50)] = [.int .i64 qty, .int .i64 1, .int .i64 x.qty] from (by rw [show a.eval (.tmp 45) = .int .i64 qty from (hD 0 45 (by kernel_rfl)), show a.eval (.tmp 50) = .int .i64 x.qty from (hD 5 50 (by kernel_rfl))] <;> rfl)) u) ((by rw [← HNW.out]; exact within_is qty 1 x.qty u (by omega) (by omega) (by omega)))) ?_
   refine sv 8 rfl rfl rfl (fun a u hE hD hk => exec_assign (.tmp 51) _ rfl (hD 6 51 (by kernel_rfl))) ?_
   exact fsteps_nil
  intro gv w7 hV k7
  rw [show dstsOf _ 8 = [45, 46, 47, 48, 49, 50, 51, 12] by kernel_rfl]
  simp only [fC, fN, sA, sS, sZ, dS, dZ]
  rw [show gv 12 = .int .i64 n from hV 7 12 (by kernel_rfl)]
  clear hV
  refine wpList_nil ?_
  have HM7 := Lib.hid (HM6.out.kept k7)
  have HA7 := Lib.hid (HA6.out.kept k7)
  have HE7 := Lib.hid (range_kept HE6.out k7)
  have kw7 := kw6.trans k7
  clear HM6 HA6 HE6 kw6 k7
  have HE7d : Hid (w7.drew.rangeAt ga (oa + kx * 9) x.cells) := range_kept HE7.out (Keep.drew (Keep.refl _ w7))
  have HM7d := Lib.hid (HM7.out.kept (Keep.drew (Keep.refl _ w7)))
  have hga : ¬ F ga := HV3.out ga rfl
  go_upto_region 10 with fail
  refine wp_sched (fun u => u.rangeAt ga (oa + kx * 9) x.cells) [(0, 0), (1, 0), (2, 0), (3, 0), (4, 0), (5, 0), (6, 0), (7, 0), (8, 0), (9, 0), (10, 0), (11, 0), (12, 0), (13, 0), (14, 0), (15, 0), (16, 0), (17, 1), (18, 0), (19, 0), (20, 0), (21, 0), (22, 0)] (by kernel_rfl) (by kernel_rfl) (HE7d.out) ?_
  refine s_val (o := ⟨some 53, _, _, _, _, _⟩) (.pointer (some ⟨p, 0, none⟩)) rfl (by kernel_rfl) (fun u hu => exec_move (.tmp 7) (.pointer (some ⟨p, 0, none⟩)) rfl (by kernel_rfl)) ?_
  simp only [Act.put, sA, sS, sZ]
  refine s_val (o := ⟨some 54, _, _, _, _, _⟩) (.slice (some ⟨ga, oa, none⟩) an ca) rfl (by kernel_rfl) (fun u hu => exec_move (.tmp 8) (.slice (some ⟨ga, oa, none⟩) an ca) rfl (by kernel_rfl)) ?_
  simp only [Act.put, sA, sS, sZ]
  refine s_val (o := ⟨some 55, _, _, _, _, _⟩) (.int .i64 (kx : Int)) rfl (by kernel_rfl) (fun u hu => exec_move (.tmp 11) (.int .i64 (kx : Int)) rfl (by kernel_rfl)) ?_
  simp only [Act.put, sA, sS, sZ]
  refine s_val (o := ⟨some 56, _, _, _, _, _⟩) (.pointer (some ⟨ga, oa + kx * 9, none⟩)) rfl (by kernel_rfl) (fun u hu => exec_ixo slO (.tmp 54) (.tmp 55) (ga) (oa) (an) (ca) (kx) (oa + kx * 9) (kx : Int) rfl (by kernel_rfl) (by kernel_rfl) rfl (by omega) (by first | rfl | omega)) ?_
  simp only [Act.put, sA, sS, sZ]
  refine s_val (o := ⟨some 57, _, _, _, _, _⟩) (.pointer (some ⟨ga, oa + kx * 9, none⟩)) rfl (by kernel_rfl) (fun u hu => exec_fldo 24 0 0 (.tmp 56) (ga) (oa + kx * 9) (oa + kx * 9) rfl (by kernel_rfl) (by kernel_rfl) rfl) ?_
  simp only [Act.put, sA, sS, sZ]
  refine s_val (o := ⟨some 58, _, _, _, _, _⟩) (.int .i64 x.tr) rfl (by kernel_rfl) (fun u hu => exec_loadi 3 Try.underlying3 (.tmp 57) ⟨ga, oa + kx * 9, none⟩ (.int .i64 x.tr) rfl (by kernel_rfl) (range_int hu 0 _ rfl)) ?_
  simp only [Act.put, sA, sS, sZ]
  refine s_val (o := ⟨some 59, _, _, _, _, _⟩) (.slice (some ⟨ga, oa, none⟩) an ca) rfl (by kernel_rfl) (fun u hu => exec_move (.tmp 8) (.slice (some ⟨ga, oa, none⟩) an ca) rfl (by kernel_rfl)) ?_
  simp only [Act.put, sA, sS, sZ]
  refine s_val (o := ⟨some 60, _, _, _, _, _⟩) (.int .i64 (kx : Int)) rfl (by kernel_rfl) (fun u hu => exec_move (.tmp 11) (.int .i64 (kx : Int)) rfl (by kernel_rfl)) ?_
  simp only [Act.put, sA, sS, sZ]
  refine s_val (o := ⟨some 61, _, _, _, _, _⟩) (.pointer (some ⟨ga, oa + kx * 9, none⟩)) rfl (by kernel_rfl) (fun u hu => exec_ixo slO (.tmp 59) (.tmp 60) (ga) (oa) (an) (ca) (kx) (oa + kx * 9) (kx : Int) rfl (by kernel_rfl) (by kernel_rfl) rfl (by omega) (by first | rfl | omega)) ?_
  simp only [Act.put, sA, sS, sZ]
  refine s_val (o := ⟨some 62, _, _, _, _, _⟩) (.pointer (some ⟨ga, oa + kx * 9 + 1, none⟩)) rfl (by kernel_rfl) (fun u hu => exec_fldo 24 1 1 (.tmp 61) (ga) (oa + kx * 9) (oa + kx * 9 + 1) rfl (by kernel_rfl) (by kernel_rfl) rfl) ?_
  simp only [Act.put, sA, sS, sZ]
  refine s_val (o := ⟨some 63, _, _, _, _, _⟩) (.int .i64 x.id) rfl (by kernel_rfl) (fun u hu => exec_loadi 3 Try.underlying3 (.tmp 62) ⟨ga, oa + kx * 9 + 1, none⟩ (.int .i64 x.id) rfl (by kernel_rfl) (range_int hu 1 _ rfl)) ?_
  simp only [Act.put, sA, sS, sZ]
  refine s_val (o := ⟨some 64, _, _, _, _, _⟩) (.slice (some ⟨ga, oa, none⟩) an ca) rfl (by kernel_rfl) (fun u hu => exec_move (.tmp 8) (.slice (some ⟨ga, oa, none⟩) an ca) rfl (by kernel_rfl)) ?_
  simp only [Act.put, sA, sS, sZ]
  refine s_val (o := ⟨some 65, _, _, _, _, _⟩) (.int .i64 (kx : Int)) rfl (by kernel_rfl) (fun u hu => exec_move (.tmp 11) (.int .i64 (kx : Int)) rfl (by kernel_rfl)) ?_
  simp only [Act.put, sA, sS, sZ]
  refine s_val (o := ⟨some 66, _, _, _, _, _⟩) (.pointer (some ⟨ga, oa + kx * 9, none⟩)) rfl (by kernel_rfl) (fun u hu => exec_ixo slO (.tmp 64) (.tmp 65) (ga) (oa) (an) (ca) (kx) (oa + kx * 9) (kx : Int) rfl (by kernel_rfl) (by kernel_rfl) rfl (by omega) (by first | rfl | omega)) ?_
  simp only [Act.put, sA, sS, sZ]
  refine s_val (o := ⟨some 67, _, _, _, _, _⟩) (.pointer (some ⟨ga, oa + kx * 9 + 5, none⟩)) rfl (by kernel_rfl) (fun u hu => exec_fldo 24 5 5 (.tmp 66) (ga) (oa + kx * 9) (oa + kx * 9 + 5) rfl (by kernel_rfl) (by kernel_rfl) rfl) ?_
  simp only [Act.put, sA, sS, sZ]
  refine s_val (o := ⟨some 68, _, _, _, _, _⟩) (.int .i64 x.price) rfl (by kernel_rfl) (fun u hu => exec_loadi 3 Try.underlying3 (.tmp 67) ⟨ga, oa + kx * 9 + 5, none⟩ (.int .i64 x.price) rfl (by kernel_rfl) (range_int hu 5 _ rfl)) ?_
  simp only [Act.put, sA, sS, sZ]
  refine s_val (o := ⟨some 69, _, _, _, _, _⟩) (.int .i64 n) rfl (by kernel_rfl) (fun u hu => exec_move (.tmp 12) (.int .i64 n) rfl (by kernel_rfl)) ?_
  simp only [Act.put, sA, sS, sZ]
  refine s_call (o := ⟨some 70, _, _, _, _, _⟩) 17 #[.pointer (some ⟨p, 0, none⟩), .int .i64 x.tr, .int .i64 x.id, .int .i64 x.price, .int .i64 n] rfl (by kernel_rfl) (exec_call 17 _ [.tmp 53, .tmp 58, .tmp 63, .tmp 68, .tmp 69] _ _ Try.func17 (by kernel_rfl) (by kernel_rfl) rfl (by kernel_rfl)) ?_
  refine (mamend_at w7.drew F p M x.tr x.id x.price n _ HAM.out HM7d.out HI.out (by have := HNo.out; omega)).mono ?_
  rintro e w8 ⟨F8, v13, Z8, rfl, hM8, hO8, hG8, hk8⟩
  refine ⟨.tuple #[v13, .int .i64 0], rfl, range_keep HE7d.out hk8 hga, ?_⟩
  simp only [Act.put, sA, sS, sZ]
  refine s_val (o := ⟨some 52, _, _, _, _, _⟩) (.tuple #[v13, .int .i64 0]) rfl (by kernel_rfl) (fun u hu => exec_move (.tmp 70) (.tuple #[v13, .int .i64 0]) rfl (by kernel_rfl)) ?_
  simp only [Act.put, sA, sS, sZ]
  refine s_val (o := ⟨some 71, _, _, _, _, _⟩) (v13) rfl (by kernel_rfl) (fun u hu => exec_extract (.tmp 52) [v13, .int .i64 0] 0 (v13) rfl (by kernel_rfl) rfl) ?_
  simp only [Act.put, sA, sS, sZ]
  refine s_val (o := ⟨some 72, _, _, _, _, _⟩) (.int .i64 0) rfl (by kernel_rfl) (fun u hu => exec_extract (.tmp 52) [v13, .int .i64 0] 1 (.int .i64 0) rfl (by kernel_rfl) rfl) ?_
  simp only [Act.put, sA, sS, sZ]
  refine s_val (o := ⟨some 13, _, _, _, _, _⟩) (v13) rfl (by kernel_rfl) (fun u hu => exec_assign (.tmp 71) (v13) rfl (by kernel_rfl)) ?_
  simp only [Act.put, sA, sS, sZ]
  refine s_val (o := ⟨some 14, _, _, _, _, _⟩) (.int .i64 0) rfl (by kernel_rfl) (fun u hu => exec_assign (.tmp 72) (.int .i64 0) rfl (by kernel_rfl)) ?_
  simp only [Act.put, sA, sS, sZ]
  refine s_done ?_
  have K8 : Keep F w7 w8 := Keep.any (Keep.drew (Keep.refl _ w7)) hk8
  have zd : w7.drew.heap.size = w7.heap.size := rfl
  obtain ⟨kw8, HF8, hA8, hV8⟩ := amd_frame kw7 HF.out HA7.out HV3.out (hG8.wide (by omega)) K8
  have HA8 := Lib.hid hA8
  have HM8 := Lib.hid hM8
  have HR8 := Lib.hid (outs_none hO8)
  clear hA8 hV8 hM8 hO8 hG8 hk8 K8 HM7 HA7 HE7 HE7d HM7d kw7 HV3 HF
  obtain ⟨q, Fb, hq1, hq2⟩ := mk_book HM8.out
  have HQ1 := Lib.hid hq1
  have HQ2 := Lib.hid hq2
  clear hq1 hq2
  have HAN2 : Hid (M2.all.length = an) := by show _ = _; rw [HL2.out, List.length_set, HAN.out]
  go_upto_region 11 with fail
  refine wp_text 3 [.eq (.pointer (some ⟨p, 0, none⟩)), .sl w8.heap.size 24 9 an (ords M2.all), .sl w8.heap.size 24 9 an (ords M2.all)] rfl (by kernel_rfl) ?_ ?_
  ·refine sv 1 rfl rfl rfl (fun a u hE hD hk => exec_move (.tmp 7) _ rfl (hE 7 (.pointer (some ⟨p, 0, none⟩)) (by kernel_rfl) (by kernel_rfl))) ?_
   refine fsteps_cons 2 rfl (fun a u hE hD hk => f_call (o := ⟨some 74, _, _, _, _, _⟩) 13 #[.pointer (some ⟨p, 0, none⟩)] rfl (wanted_none rfl _) (exec_call 13 _ [.tmp 73] _ [.pointer (some ⟨p, 0, none⟩)] Try.func13 (by kernel_rfl) (by kernel_rfl) rfl (show [a.eval (.tmp 73)] = [.pointer (some ⟨p, 0, none⟩)] from (by rw [show a.eval (.tmp 73) = .pointer (some ⟨p, 0, none⟩) from (hD 0 73 (by kernel_rfl))] <;> rfl)) u) ((by rw [← HAN2.out]; exact (mall_any u F8 p M2 (HM8.out.kept hk) HL3.out.inv (by have := HL5.out; omega)).base hk.size))) ?_
   refine fsteps_cons 3 rfl (fun a u hE hD hk => f_val (o := ⟨some 15, _, _, _, _, _⟩) (a.eval (.tmp 74)) rfl (wanted_none rfl _) (exec_assign (.tmp 74) _ rfl rfl) (hD 1 74 (by kernel_rfl))) ?_
   exact fsteps_nil
  intro gv w9 hV k9
  rw [show dstsOf _ 3 = [73, 74, 15] by kernel_rfl]
  simp only [fC, fN, sA, sS, sZ, dS, dZ]
  have hv15 : (.sl w8.heap.size 24 9 an (ords M2.all) : Kn).p (gv 15) w9 := hV 2 15 (by kernel_rfl)
  generalize gv 15 = v15 at hv15 ⊢
  clear hV
  refine wpList_nil ?_
  obtain ⟨vb, hvb⟩ : ∃ x, x = v15 := ⟨_, rfl⟩
  subst hvb
  have HB9 := Lib.hid hv15.1
  have HA9 := Lib.hid (HA8.out.kept k9)
  have HR9 := Lib.hid (HR8.out.kept k9)
  have kw9 := kw8.trans k9
  clear hv15 HA8 HR8 kw8 HM8
  go_upto_region 12 with fail
  refine wp_text 21 [.eq (.int .i64 0), .eq (.bool false), .eq (.bool false), .eq (v13), .eq (.int .i64 (0 : Int)), .eq (.bool false), .eq (.bool false), .eq (.bool false), .eq (vb), .eq (.int .i64 (an : Int)), .eq (.slice (some ⟨ga, oa, none⟩) an ca), .eq (.int .i64 (an : Int)), .eq (.bool false), .eq (.bool false), .eq (.bool false), .eq (.pointer (some ⟨p, 0, none⟩)), .eq (.pointer (some ⟨q, 0, none⟩)), .eq (.int .i64 no), .eq (.int .i64 no), .eq (.bool false), .eq (.bool false)] rfl (by kernel_rfl) ?_ ?_
  ·refine sv 1 rfl rfl rfl (fun a u hE hD hk => exec_move (.tmp 14) _ rfl (hE 14 (.int .i64 0) (by kernel_rfl) (by kernel_rfl))) ?_
   refine fsteps_cons 2 rfl (fun a u hE hD hk => f_as (show ((decide ((0 : Int) ≠ (0 : Int))) : Bool) = false from by decide) (f_val (o := ⟨some 76, _, _, _, _, _⟩) (.bool (decide ((0 : Int) ≠ (0 : Int)))) rfl (wanted_none rfl _) (exec_nen (p := 0) (q := 0) rfl (hD 0 75 (by kernel_rfl)) rfl) rfl)) ?_
   refine sv 3 rfl rfl rfl (fun a u hE hD hk => exec_move (.tmp 76) _ rfl (hD 1 76 (by kernel_rfl))) ?_
   refine fsteps_cons 4 rfl (fun a u hE hD hk => f_val (o := ⟨some 78, _, _, _, _, _⟩) (v13) rfl (wanted_at (b := false) false rfl rfl (hD 2 77 (by kernel_rfl))) (exec_move (.tmp 13) _ rfl (hE 13 (v13) (by kernel_rfl) (by kernel_rfl))) rfl) ?_
   refine fsteps_cons 5 rfl (fun a u hE hD hk => f_val (o := ⟨some 79, _, _, _, _, _⟩) (.int .i64 (0 : Int)) rfl (wanted_at (b := false) false rfl rfl (hD 2 77 (by kernel_rfl))) (exec_lenS (.tmp 78) slC (v13) (0) _ _ rfl (hD 3 78 (by kernel_rfl)) (HR9.out.kept hk)) rfl) ?_
   refine fsteps_cons 6 rfl (fun a u hE hD hk => f_as (show ((decide (((0 : Int) : Int) ≠ (0 : Int))) : Bool) = false from by decide) (f_val (o := ⟨some 80, _, _, _, _, _⟩) (.bool (decide (((0 : Int) : Int) ≠ (0 : Int)))) rfl (wanted_at (b := false) false rfl rfl (hD 2 77 (by kernel_rfl))) (exec_nen (p := (0 : Int)) (q := 0) rfl (hD 4 79 (by kernel_rfl)) rfl) rfl)) ?_
   refine sv 7 rfl rfl rfl (fun a u hE hD hk => exec_pickF (.tmp 77) (.const (.bool true)) (.tmp 80) (.bool false) rfl (hD 2 77 (by kernel_rfl)) (hD 5 80 (by kernel_rfl))) ?_
   refine sv 8 rfl rfl rfl (fun a u hE hD hk => exec_move (.tmp 81) _ rfl (hD 6 81 (by kernel_rfl))) ?_
   refine fsteps_cons 9 rfl (fun a u hE hD hk => f_val (o := ⟨some 83, _, _, _, _, _⟩) (vb) rfl (wanted_at (b := false) false rfl rfl (hD 7 82 (by kernel_rfl))) (exec_move (.tmp 15) _ rfl (hE 15 (vb) (by kernel_rfl) (by kernel_rfl))) rfl) ?_
   refine fsteps_cons 10 rfl (fun a u hE hD hk => f_val (o := ⟨some 84, _, _, _, _, _⟩) (.int .i64 (an : Int)) rfl (wanted_at (b := false) false rfl rfl (hD 7 82 (by kernel_rfl))) (exec_lenS (.tmp 83) slO (vb) (an) _ _ rfl (hD 8 83 (by kernel_rfl)) (HB9.out.kept hk)) rfl) ?_
   refine fsteps_cons 11 rfl (fun a u hE hD hk => f_val (o := ⟨some 85, _, _, _, _, _⟩) (.slice (some ⟨ga, oa, none⟩) an ca) rfl (wanted_at (b := false) false rfl rfl (hD 7 82 (by kernel_rfl))) (exec_move (.tmp 8) _ rfl (hE 8 (.slice (some ⟨ga, oa, none⟩) an ca) (by kernel_rfl) (by kernel_rfl))) rfl) ?_
   refine fsteps_cons 12 rfl (fun a u hE hD hk => f_val (o := ⟨some 86, _, _, _, _, _⟩) (.int .i64 (an : Int)) rfl (wanted_at (b := false) false rfl rfl (hD 7 82 (by kernel_rfl))) (exec_len (.tmp 85) _ _ slO.und (some ⟨ga, oa, none⟩) an ca rfl (hD 10 85 (by kernel_rfl))) rfl) ?_
   refine fsteps_cons 13 rfl (fun a u hE hD hk => f_as (show ((decide (((an : Int) : Int) ≠ ((an : Int) : Int))) : Bool) = false from decide_eq_false (by omega)) (f_val (o := ⟨some 87, _, _, _, _, _⟩) (.bool (decide (((an : Int) : Int) ≠ ((an : Int) : Int)))) rfl (wanted_at (b := false) false rfl rfl (hD 7 82 (by kernel_rfl))) (exec_nen (p := (an : Int)) (q := (an : Int)) rfl (hD 9 84 (by kernel_rfl)) (hD 11 86 (by kernel_rfl))) rfl)) ?_
   refine sv 14 rfl rfl rfl (fun a u hE hD hk => exec_pickF (.tmp 82) (.const (.bool true)) (.tmp 87) (.bool false) rfl (hD 7 82 (by kernel_rfl)) (hD 12 87 (by kernel_rfl))) ?_
   refine sv 15 rfl rfl rfl (fun a u hE hD hk => exec_move (.tmp 88) _ rfl (hD 13 88 (by kernel_rfl))) ?_
   refine fsteps_cons 16 rfl (fun a u hE hD hk => f_val (o := ⟨some 90, _, _, _, _, _⟩) (.pointer (some ⟨p, 0, none⟩)) rfl (wanted_at (b := false) false rfl rfl (hD 14 89 (by kernel_rfl))) (exec_move (.tmp 7) _ rfl (hE 7 (.pointer (some ⟨p, 0, none⟩)) (by kernel_rfl) (by kernel_rfl))) rfl) ?_
   refine fsteps_cons 17 rfl (fun a u hE hD hk => f_call (o := ⟨some 91, _, _, _, _, _⟩) 12 #[.pointer (some ⟨p, 0, none⟩)] rfl (wanted_at (b := false) false rfl rfl (hD 14 89 (by kernel_rfl))) (exec_call 12 _ [.tmp 90] _ [.pointer (some ⟨p, 0, none⟩)] Try.func12 (by kernel_rfl) (by kernel_rfl) rfl (show [a.eval (.tmp 90)] = [.pointer (some ⟨p, 0, none⟩)] from (by rw [show a.eval (.tmp 90) = .pointer (some ⟨p, 0, none⟩) from (hD 15 90 (by kernel_rfl))] <;> rfl)) u) (HQ1.out u (k9.trans hk))) ?_
   refine fsteps_cons 18 rfl (fun a u hE hD hk => f_call (o := ⟨some 92, _, _, _, _, _⟩) 14 #[.pointer (some ⟨q, 0, none⟩)] rfl (wanted_at (b := false) false rfl rfl (hD 14 89 (by kernel_rfl))) (exec_call 14 _ [.tmp 91] _ [.pointer (some ⟨q, 0, none⟩)] Try.func14 (by kernel_rfl) (by kernel_rfl) rfl (show [a.eval (.tmp 91)] = [.pointer (some ⟨q, 0, none⟩)] from (by rw [show a.eval (.tmp 91) = .pointer (some ⟨q, 0, none⟩) from (hD 16 91 (by kernel_rfl))] <;> rfl)) u) ((by rw [← HL4.out]; exact bno_any u Fb q M2.b (HQ2.out u (k9.trans hk))))) ?_
   refine fsteps_cons 19 rfl (fun a u hE hD hk => f_val (o := ⟨some 93, _, _, _, _, _⟩) (.int .i64 no) rfl (wanted_at (b := false) false rfl rfl (hD 14 89 (by kernel_rfl))) (exec_move (.tmp 9) _ rfl (hE 9 (.int .i64 no) (by kernel_rfl) (by kernel_rfl))) rfl) ?_
   refine fsteps_cons 20 rfl (fun a u hE hD hk => f_as (show ((decide ((no : Int) ≠ (no : Int))) : Bool) = false from decide_eq_false (by omega)) (f_val (o := ⟨some 94, _, _, _, _, _⟩) (.bool (decide ((no : Int) ≠ (no : Int)))) rfl (wanted_at (b := false) false rfl rfl (hD 14 89 (by kernel_rfl))) (exec_nen (p := no) (q := no) rfl (hD 17 92 (by kernel_rfl)) (hD 18 93 (by kernel_rfl))) rfl)) ?_
   refine sv 21 rfl rfl rfl (fun a u hE hD hk => exec_pickF (.tmp 89) (.const (.bool true)) (.tmp 94) (.bool false) rfl (hD 14 89 (by kernel_rfl)) (hD 19 94 (by kernel_rfl))) ?_
   exact fsteps_nil
  intro gv wa hV ka
  rw [show dstsOf _ 21 = [75, 76, 77, 78, 79, 80, 81, 82, 83, 84, 85, 86, 87, 88, 89, 90, 91, 92, 93, 94, 95] by kernel_rfl]
  simp only [fC, fN, sA, sS, sZ, dS, dZ]
  rw [show gv 95 = .bool false from hV 20 95 (by kernel_rfl)]
  clear hV
  refine wpList_nil ?_
  have HAa := Lib.hid (HA9.out.kept ka)
  have HBa := Lib.hid (HB9.out.kept ka)
  have kwa := kw9.trans ka
  clear HA9 HB9 kw9 HR9 HQ1 HQ2 k9 ka
  go_upto_region 14 with fail
  refine wp_text 3 [.eq (.slice (some ⟨ga, oa, none⟩) an ca), .eq (.int .i64 (an : Int)), .eq (.int .i64 0)] rfl (by kernel_rfl) ?_ ?_
  ·refine sv 1 rfl rfl rfl (fun a u hE hD hk => exec_move (.tmp 8) _ rfl (hE 8 (.slice (some ⟨ga, oa, none⟩) an ca) (by kernel_rfl) (by kernel_rfl))) ?_
   refine sv 2 rfl rfl rfl (fun a u hE hD hk => exec_len (.tmp 96) _ _ slO.und (some ⟨ga, oa, none⟩) an ca rfl (hD 0 96 (by kernel_rfl))) ?_
   refine sv 3 rfl rfl rfl (fun a u hE hD hk => exec_move (.const (.int .i64 0)) _ rfl rfl) ?_
   exact fsteps_nil
  intro gv wb hV kb
  rw [show dstsOf _ 3 = [96, 97, 98] by kernel_rfl]
  simp only [fC, fN, sA, sS, sZ, dS, dZ]
  rw [show gv 96 = .slice (some ⟨ga, oa, none⟩) an ca from hV 0 96 (by kernel_rfl)]
  rw [show gv 97 = .int .i64 (an : Int) from hV 1 97 (by kernel_rfl)]
  rw [show gv 98 = .int .i64 0 from hV 2 98 (by kernel_rfl)]
  clear hV
  refine wpList_nil ?_
  have HAb := Lib.hid (HAa.out.kept kb)
  have HBb := Lib.hid (HBa.out.kept kb)
  have kwb := kwa.trans kb
  clear HAa HBa kwa kb
  obtain ⟨gb, ob, cb, rfl⟩ := HBb.out.some_ (by omega)
  go_wp2_with fail
  go_loopw [98] (fun t wr => ∃ (i : Nat), i ≤ an ∧ t = .int .i64 (i : Int) ∧ Kept wb wr) (fun t _ => an - (intOf t).toNat)
  case atStart => exact ⟨0, Nat.zero_le _, rfl, Kept.refl _⟩
  case round =>
   obtain ⟨i, hi, rfl, hkr2⟩ := hrel
   by_cases hin : i < an
   ·obtain ⟨y, hy⟩ : ∃ y, X[i]? = some y := ⟨X[i]'(by rw [HAN.out]; exact hin), List.getElem?_eq_getElem _⟩
    have HY : Hid (wr.rangeAt ga (oa + i * 9) y.cells) := range_kept (HAb.out.rngO i y hy) hkr2
    have hz : ∃ z, M2.all[i]? = some z ∧ z = if i = kx then y.q n else y := by
     rw [HL2.out]
     by_cases hik : i = kx
     ·subst hik
      have hxy : x = y := by have := HXK.out; rw [hy] at this; injection this with this; exact this.symm
      rw [if_pos rfl, List.getElem?_set_self (by rw [HAN.out]; exact hin)]
      exact ⟨_, rfl, by rw [hxy]⟩
     ·rw [if_neg hik, List.getElem?_set_ne (fun h => hik h.symm)]
      exact ⟨_, hy, rfl⟩
    obtain ⟨z, hz1, hz2⟩ := hz
    have HZ : Hid (wr.rangeAt gb (ob + i * 9) z.cells) := range_kept (HBb.out.rngO i z hz1) hkr2
    have HZZ := Lib.hid hz2
    clear hy hz1 hz2
    go_upto_region 17 with fail
    refine wp_text 4 [.eq (.slice (some ⟨ga, oa, none⟩) an ca), .eq (.int .i64 (i : Int)), .eq (.pointer (some ⟨ga, oa + i * 9, none⟩)), .eq (y.v)] rfl (by kernel_rfl) ?_ ?_
    ·refine sv 1 rfl rfl rfl (fun a u hE hD hk => exec_move (.tmp 8) _ rfl (hE 8 (.slice (some ⟨ga, oa, none⟩) an ca) (by kernel_rfl) (by kernel_rfl))) ?_
     refine sv 2 rfl rfl rfl (fun a u hE hD hk => exec_move (.tmp 16) _ rfl (hE 16 (.int .i64 (i : Int)) (by kernel_rfl) (by kernel_rfl))) ?_
     refine sv 3 rfl rfl rfl (fun a u hE hD hk => exec_ixo slO (.tmp 101) (.tmp 102) (ga) (oa) an ca i (oa + i * 9) ((i : Int)) rfl (hD 0 101 (by kernel_rfl)) (hD 1 102 (by kernel_rfl)) (by first | rfl | omega) (hin) (by first | rfl | omega)) ?_
     refine sv 4 rfl rfl rfl (fun a u hE hD hk => exec_ldS 24 _ (.tmp 103) (ga) (oa + i * 9) (y.cells) rfl (hD 2 103 (by kernel_rfl)) (range_kept HY.out hk) Try.underlying24 (by rw [y.len9]; exact ord_size)) ?_
     exact fsteps_nil
    intro gv wc hV kc
    rw [show dstsOf _ 4 = [101, 102, 103, 104] by kernel_rfl]
    simp only [fC, fN, sA, sS, sZ, dS, dZ]
    rw [show gv 104 = y.v from hV 3 104 (by kernel_rfl)]
    clear hV
    refine l_new (o := ⟨some 17, _, _, _, _, _⟩) (.pointer (some ⟨wc.heap.size, 0, none⟩)) (wc.alloc (.cells zeroO.cells.toArray 24)) rfl (exec_alc 24 zeroO.cells rfl zO) ?_
    have hNwd := Blk.new wc 24 zeroO.cells
    have kwd : Kept wc (wc.alloc (.cells zeroO.cells.toArray 24)) := (Keep.refl _ wc).alloc _
    generalize wc.alloc (.cells zeroO.cells.toArray 24) = wd at hNwd kwd ⊢
    simp only [Act.put, sA, sS, sZ]
    refine l_setS (o := ⟨none, _, _, _, _, _⟩) 24 wc.heap.size 24 zeroO.cells y.cells (.tmp 17) (.tmp 104) rfl rfl (by kernel_rfl) (by kernel_rfl) (hNwd) (by rw [Ord.len9]; exact ord_size) (by rw [Ord.len9, Ord.len9]) (Ord.one1 _) ?_
    intro we hCwe hkwe hswe
    simp only [Act.put]
    refine wpList_nil ?_
    obtain ⟨b17, h17⟩ : ∃ a, wc.heap.size = a := ⟨_, rfl⟩
    rw [h17] at hNwd hCwe hkwe ⊢
    have zc := kc.size
    have kre : Kept wr we := (kc.trans kwd).trans' hkwe (by omega)
    have HCe := Lib.hid hCwe
    have HZe := Lib.hid (range_kept HZ.out kre)
    have hbe : Kept wb we := hkr2.trans kre
    have hgb : gb < wb.heap.size := HBb.out.lt rfl
    have hzb := hkr2.size
    clear hNwd hCwe hkwe hswe kwd kc HY HZ hkr2 kre
    by_cases hik : i = kx
    ·have HZq : Hid (z = y.q n) := by show _ = _; rw [HZZ.out, if_pos hik]
     go_upto_region 18 with fail
     refine wp_text 3 [.eq (.int .i64 (i : Int)), .eq (.int .i64 (kx : Int)), .eq (.bool true)] rfl (by kernel_rfl) ?_ ?_
     ·refine sv 1 rfl rfl rfl (fun a u hE hD hk => exec_move (.tmp 16) _ rfl (hE 16 (.int .i64 (i : Int)) (by kernel_rfl) (by kernel_rfl))) ?_
      refine sv 2 rfl rfl rfl (fun a u hE hD hk => exec_move (.tmp 11) _ rfl (hE 11 (.int .i64 (kx : Int)) (by kernel_rfl) (by kernel_rfl))) ?_
      refine fsteps_cons 3 rfl (fun a u hE hD hk => f_as (show ((decide (((i : Int) : Int) = ((kx : Int) : Int))) : Bool) = true from decide_eq_true (by omega)) (f_val (o := ⟨some 107, _, _, _, _, _⟩) (.bool (decide (((i : Int) : Int) = ((kx : Int) : Int)))) rfl (wanted_none rfl _) (exec_eqn (p := (i : Int)) (q := (kx : Int)) rfl (hD 0 105 (by kernel_rfl)) (hD 1 106 (by kernel_rfl))) rfl)) ?_
      exact fsteps_nil
     intro gv wf hV kf
     rw [show dstsOf _ 3 = [105, 106, 107] by kernel_rfl]
     simp only [fC, fN, sA, sS, sZ, dS, dZ]
     rw [show gv 107 = .bool true from hV 2 107 (by kernel_rfl)]
     clear hV
     refine wpList_nil ?_
     go_upto_region 19 with fail
     refine wp_text 2 [.eq (.int .i64 n), .eq (.pointer (some ⟨b17, 6, none⟩))] rfl (by kernel_rfl) ?_ ?_
     ·refine sv 1 rfl rfl rfl (fun a u hE hD hk => exec_move (.tmp 12) _ rfl (hE 12 (.int .i64 n) (by kernel_rfl) (by kernel_rfl))) ?_
      refine sv 2 rfl rfl rfl (fun a u hE hD hk => exec_fldo 24 6 6 (.tmp 17) (b17) (0) (6) rfl (hE 17 (.pointer (some ⟨b17, 0, none⟩)) (by kernel_rfl) (by kernel_rfl)) (by kernel_rfl) rfl) ?_
      exact fsteps_nil
     intro gv wg hV kg
     rw [show dstsOf _ 2 = [108, 109] by kernel_rfl]
     simp only [fC, fN, sA, sS, sZ, dS, dZ]
     rw [show gv 109 = .pointer (some ⟨b17, 6, none⟩) from hV 1 109 (by kernel_rfl)]
     rw [show gv 108 = .int .i64 n from hV 0 108 (by kernel_rfl)]
     clear hV
     refine l_setf (o := ⟨none, _, _, _, _, _⟩) b17 6 24 y.l [] n (.tmp 109) (.tmp 108) rfl rfl (by kernel_rfl) (by kernel_rfl) ((HCe.out.kept kf).kept kg) (by simp [Ord.l]) ?_
     intro wh hBh hkh hsh
     simp only [Act.put]
     refine wpList_nil ?_
     have hzf := kf.size
     have hzg := kg.size
     have HCh : Hid (wh.rangeAt b17 0 z.cells) := by rw [HZq.out]; exact Lib.hid (blk_range hBh)
     have keh : Keep (· = b17) we wh := Keep.any (kf.trans kg) hkh
     have HZh := Lib.hid (range_keep HZe.out keh (fun e => by omega))
     have hbh : Kept wb wh := hbe.trans' keh (by omega)
     clear hBh hkh hsh kf kg keh HCe HZe hbe HZZ
     go_upto_region 20 with fail
     refine wp_free 6 [.eq (.slice (some ⟨gb, ob, none⟩) an cb), .eq (.int .i64 (i : Int)), .eq (.pointer (some ⟨gb, ob + i * 9, none⟩)), .eq (z.v), .eq (z.v), .eq (.bool false)] (by kernel_rfl) rfl (by kernel_rfl) ?_ ?_
     ·refine sv 1 rfl rfl rfl (fun a u hE hD hk => exec_move (.tmp 15) _ rfl (hE 15 (.slice (some ⟨gb, ob, none⟩) an cb) (by kernel_rfl) (by kernel_rfl))) ?_
      refine sv 2 rfl rfl rfl (fun a u hE hD hk => exec_move (.tmp 16) _ rfl (hE 16 (.int .i64 (i : Int)) (by kernel_rfl) (by kernel_rfl))) ?_
      refine sv 3 rfl rfl rfl (fun a u hE hD hk => exec_ixo slO (.tmp 110) (.tmp 111) (gb) (ob) an cb i (ob + i * 9) ((i : Int)) rfl (hD 0 110 (by kernel_rfl)) (hD 1 111 (by kernel_rfl)) (by first | rfl | omega) (hin) (by first | rfl | omega)) ?_
      refine sv 4 rfl rfl rfl (fun a u hE hD hk => exec_ldS 24 _ (.tmp 112) (gb) (ob + i * 9) (z.cells) rfl (hD 2 112 (by kernel_rfl)) (range_kept HZh.out hk) Try.underlying24 (by rw [z.len9]; exact ord_size)) ?_
      refine sv 5 rfl rfl rfl (fun a u hE hD hk => exec_ldS 24 _ (.tmp 17) (b17) (0) (z.cells) rfl (hE 17 (.pointer (some ⟨b17, 0, none⟩)) (by kernel_rfl) (by kernel_rfl)) (range_kept HCh.out hk) Try.underlying24 (by rw [z.len9]; exact ord_size)) ?_
      refine sv 6 rfl rfl rfl (fun a u hE hD hk => exec_neOb false (.tmp 113) (.tmp 114) _ z z rfl (hD 3 113 (by kernel_rfl)) (hD 4 114 (by kernel_rfl)) (by simp)) ?_
      exact fsteps_nil
     intro gv wj hV kj
     rw [show dstsOf _ 6 = [110, 111, 112, 113, 114, 115] by kernel_rfl]
     simp only [fC, fN, sA, sS, sZ, dS, dZ]
     rw [show gv 115 = .bool false from hV 5 115 (by kernel_rfl)]
     clear hV
     refine wpList_nil ?_
     have hbj := hbh.trans kj
     clear hbh kj HZh HCh HZq
     go_wp2
     exact ⟨⟨i + 1, by omega, by go_num, hbj⟩, by simp [intOf]; omega⟩
    ·have HZq : Hid (z = y) := by show _ = _; rw [HZZ.out, if_neg hik]
     go_upto_region 18 with fail
     refine wp_text 3 [.eq (.int .i64 (i : Int)), .eq (.int .i64 (kx : Int)), .eq (.bool false)] rfl (by kernel_rfl) ?_ ?_
     ·refine sv 1 rfl rfl rfl (fun a u hE hD hk => exec_move (.tmp 16) _ rfl (hE 16 (.int .i64 (i : Int)) (by kernel_rfl) (by kernel_rfl))) ?_
      refine sv 2 rfl rfl rfl (fun a u hE hD hk => exec_move (.tmp 11) _ rfl (hE 11 (.int .i64 (kx : Int)) (by kernel_rfl) (by kernel_rfl))) ?_
      refine fsteps_cons 3 rfl (fun a u hE hD hk => f_as (show ((decide (((i : Int) : Int) = ((kx : Int) : Int))) : Bool) = false from decide_eq_false (by omega)) (f_val (o := ⟨some 107, _, _, _, _, _⟩) (.bool (decide (((i : Int) : Int) = ((kx : Int) : Int)))) rfl (wanted_none rfl _) (exec_eqn (p := (i : Int)) (q := (kx : Int)) rfl (hD 0 105 (by kernel_rfl)) (hD 1 106 (by kernel_rfl))) rfl)) ?_
      exact fsteps_nil
     intro gv wh hV kf
     rw [show dstsOf _ 3 = [105, 106, 107] by kernel_rfl]
     simp only [fC, fN, sA, sS, sZ, dS, dZ]
     rw [show gv 107 = .bool false from hV 2 107 (by kernel_rfl)]
     clear hV
     refine wpList_nil ?_
     have HCh : Hid (wh.rangeAt b17 0 z.cells) := by rw [HZq.out]; exact Lib.hid (blk_range (HCe.out.kept kf))
     have HZh := Lib.hid (range_kept HZe.out kf)
     have hbh : Kept wb wh := hbe.trans kf
     clear kf HCe HZe hbe HZZ
     go_upto_region 20 with fail
     refine wp_free 6 [.eq (.slice (some ⟨gb, ob, none⟩) an cb), .eq (.int .i64 (i : Int)), .eq (.pointer (some ⟨gb, ob + i * 9, none⟩)), .eq (z.v), .eq (z.v), .eq (.bool false)] (by kernel_rfl) rfl (by kernel_rfl) ?_ ?_
     ·refine sv 1 rfl rfl rfl (fun a u hE hD hk => exec_move (.tmp 15) _ rfl (hE 15 (.slice (some ⟨gb, ob, none⟩) an cb) (by kernel_rfl) (by kernel_rfl))) ?_
      refine sv 2 rfl rfl rfl (fun a u hE hD hk => exec_move (.tmp 16) _ rfl (hE 16 (.int .i64 (i : Int)) (by kernel_rfl) (by kernel_rfl))) ?_
      refine sv 3 rfl rfl rfl (fun a u hE hD hk => exec_ixo slO (.tmp 110) (.tmp 111) (gb) (ob) an cb i (ob + i * 9) ((i : Int)) rfl (hD 0 110 (by kernel_rfl)) (hD 1 111 (by kernel_rfl)) (by first | rfl | omega) (hin) (by first | rfl | omega)) ?_
      refine sv 4 rfl rfl rfl (fun a u hE hD hk => exec_ldS 24 _ (.tmp 112) (gb) (ob + i * 9) (z.cells) rfl (hD 2 112 (by kernel_rfl)) (range_kept HZh.out hk) Try.underlying24 (by rw [z.len9]; exact ord_size)) ?_
      refine sv 5 rfl rfl rfl (fun a u hE hD hk => exec_ldS 24 _ (.tmp 17) (b17) (0) (z.cells) rfl (hE 17 (.pointer (some ⟨b17, 0, none⟩)) (by kernel_rfl) (by kernel_rfl)) (range_kept HCh.out hk) Try.underlying24 (by rw [z.len9]; exact ord_size)) ?_
      refine sv 6 rfl rfl rfl (fun a u hE hD hk => exec_neOb false (.tmp 113) (.tmp 114) _ z z rfl (hD 3 113 (by kernel_rfl)) (hD 4 114 (by kernel_rfl)) (by simp)) ?_
      exact fsteps_nil
     intro gv wj hV kj
     rw [show dstsOf _ 6 = [110, 111, 112, 113, 114, 115] by kernel_rfl]
     simp only [fC, fN, sA, sS, sZ, dS, dZ]
     rw [show gv 115 = .bool false from hV 5 115 (by kernel_rfl)]
     clear hV
     refine wpList_nil ?_
     have hbj := hbh.trans kj
     clear hbh kj HZh HCh HZq
     go_wp2
     exact ⟨⟨i + 1, by omega, by go_num, hbj⟩, by simp [intOf]; omega⟩
   ·have kwr := kwb.trans hkr2
    go_upto_region 23 with fail
    refine wp_region_lit ?_
    refine l_call (o := ⟨some 117, _, _, _, _, _⟩) 3 #[] rfl (exec_call 3 _ [] _ _ Try.func3 (by kernel_rfl) (by kernel_rfl) rfl (by kernel_rfl) _) ?_
    refine (changeRuns_any wr).mono ?_
    rintro r wz ⟨rfl, kz⟩
    refine ⟨_, rfl, ?_⟩
    simp only [Act.put, sA, sS, sZ]
    refine l_val (o := ⟨some 6, _, _, _, _, _⟩) (.bool true) rfl (exec_assign (.tmp 117) (.bool true) rfl (by kernel_rfl)) ?_
    simp only [Act.put, sA, sS, sZ]
    refine wpList_nil ?_
    go_wp2
    go_ret
    exact ⟨rfl, kwr.trans kz⟩
end Go.Proofs.Ytklohceombpleaa
