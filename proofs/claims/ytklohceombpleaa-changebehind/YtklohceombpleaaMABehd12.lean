/-
 The walk of ChangeBehind. No condition.
-/
import Derived.Test.YtklohceombpleaaQA05
import Derived.Test.YtklohceombpleaaMABehM12
set_option linter.unusedVariables false
namespace Go.Proofs.Ytklohceombpleaa
open Go.RowKit
set_option maxRecDepth 100000
set_option maxRecDepth 100000 in
set_option maxHeartbeats 6400000 in
theorem changeBehind_any (v : Value) (l : List Kq) (at_ more : Int) (w : World) (hl : Kqs w v l) : Calls Try.prog 7 #[v, .int .i64 at_, .int .i64 more] w fun e w' => e = .returned (.bool true) ∧ Kept w w' := by
 have HIN := Lib.hid (fillM_inv (l.take 40))
 have HNo : Hid ((fillM (l.take 40)).b.no ≤ 3000000000) := by
  have h1 := HIN.out.2
  have h2 : (l.take 40).length ≤ 40 := by rw [List.length_take]; omega
  show _ ≤ _
  omega
 have HI := Lib.hid HIN.out.1
 have HMM : Hid (∀ (u : World), Kept w u → Calls Try.prog 11 #[v] u fun e w' => ∃ p F, e = .returned (.pointer (some ⟨p, 0, none⟩)) ∧ Mk w' F p (fillM (l.take 40)) ∧ Grow u (fun _ => False) F ∧ Kept u w') := fun u hu => mfilled_any v l u (hl.kept hu)
 have HQu : Hid (Quiet (fillM (l.take 40))) := fillM_quiet _
 have HQt : Hid (∀ o ∈ (fillM (l.take 40)).all, o.qty ≤ 480) := fill_qty l
 clear HIN
 generalize fillM (l.take 40) = M at HI HNo HMM HQu HQt
 clear hl
 go_enter Try.func7, Try.ntmps7
 go_upto_region 1 with fail
 refine wp_region_lit ?_
 refine l_val (o := ⟨some 16, _, _, _, _, _⟩) (v) rfl (exec_move (.tmp 0) (v) rfl (by kernel_rfl)) ?_
 simp only [Act.put, sA, sS, sZ]
 refine l_call (o := ⟨some 17, _, _, _, _, _⟩) 11 #[v] rfl (exec_call 11 _ [.tmp 16] _ _ Try.func11 (by kernel_rfl) (by kernel_rfl) rfl (by kernel_rfl) _) ?_
 refine (HMM.out w (Kept.refl _)).mono ?_
 rintro r w1 ⟨p, F, rfl, hMp, hGp, kcw1⟩
 refine ⟨_, rfl, ?_⟩
 have kww1 := kcw1
 simp only [Act.put, sA, sS, sZ]
 refine l_val (o := ⟨some 7, _, _, _, _, _⟩) (.pointer (some ⟨p, 0, none⟩)) rfl (exec_assign (.tmp 17) (.pointer (some ⟨p, 0, none⟩)) rfl (by kernel_rfl)) ?_
 simp only [Act.put, sA, sS, sZ]
 refine wpList_nil ?_
 have HM1 := Lib.hid hMp
 have HF : Hid (∀ b, F b → w.heap.size ≤ b) := fun b hb => (hGp b hb).elim (fun h => h.elim) id
 have k1 := kww1
 clear hMp hGp kcw1 kww1 HMM
 obtain ⟨X, hX⟩ : ∃ X, M.all = X := ⟨_, rfl⟩
 obtain ⟨an, han⟩ : ∃ an, X.length = an := ⟨_, rfl⟩
 have hal : an ≤ 64 := by rw [← han, ← hX]; exact HI.out.all_few
 obtain ⟨wn, hwn⟩ : ∃ wn, M.w.length = wn := ⟨_, rfl⟩
 have hwl : wn ≤ 64 := by have := HI.out.few; omega
 have hwa : wn ≤ an := by have := all_len M; rw [hX, han] at this; unfold Mkt.len at this; omega
 have HWN := Lib.hid hwn
 have HAN := Lib.hid han
 have HXX := Lib.hid hX
 clear hX han hwn
 obtain ⟨q, Fb, hq1, hq2⟩ := mk_book HM1.out
 have HQ1 := Lib.hid hq1
 clear hq1 hq2
 go_upto_region 2 with fail
 refine wp_text 7 [.eq (.pointer (some ⟨p, 0, none⟩)), .eq (.bool false), .eq (.bool false), .eq (.pointer (some ⟨p, 0, none⟩)), .eq (.pointer (some ⟨q, 0, none⟩)), .eq (.bool false), .eq (.bool false)] rfl (by kernel_rfl) ?_ ?_
 ·refine sv 1 rfl rfl rfl (fun a u hE hD hk => exec_move (.tmp 7) _ rfl (hE 7 (.pointer (some ⟨p, 0, none⟩)) (by kernel_rfl) (by kernel_rfl))) ?_
  refine sv 2 rfl rfl rfl (fun a u hE hD hk => exec_eqP (.tmp 18) _ _ ⟨p, 0, none⟩ (by kernel_rfl) rfl (hD 0 18 (by kernel_rfl))) ?_
  refine sv 3 rfl rfl rfl (fun a u hE hD hk => exec_move (.tmp 19) _ rfl (hD 1 19 (by kernel_rfl))) ?_
  refine fsteps_cons 4 rfl (fun a u hE hD hk => f_val (o := ⟨some 21, _, _, _, _, _⟩) (.pointer (some ⟨p, 0, none⟩)) rfl (wanted_at (b := false) false rfl rfl (hD 2 20 (by kernel_rfl))) (exec_move (.tmp 7) _ rfl (hE 7 (.pointer (some ⟨p, 0, none⟩)) (by kernel_rfl) (by kernel_rfl))) rfl) ?_
  refine fsteps_cons 5 rfl (fun a u hE hD hk => f_call (o := ⟨some 22, _, _, _, _, _⟩) 12 #[.pointer (some ⟨p, 0, none⟩)] rfl (wanted_at (b := false) false rfl rfl (hD 2 20 (by kernel_rfl))) (exec_call 12 _ [.tmp 21] _ [.pointer (some ⟨p, 0, none⟩)] Try.func12 (by kernel_rfl) (by kernel_rfl) rfl (show [a.eval (.tmp 21)] = [.pointer (some ⟨p, 0, none⟩)] from (by rw [show a.eval (.tmp 21) = .pointer (some ⟨p, 0, none⟩) from (hD 3 21 (by kernel_rfl))] <;> rfl)) u) (HQ1.out u hk)) ?_
  refine fsteps_cons 6 rfl (fun a u hE hD hk => f_val (o := ⟨some 23, _, _, _, _, _⟩) (.bool false) rfl (wanted_at (b := false) false rfl rfl (hD 2 20 (by kernel_rfl))) (exec_eqP (.tmp 22) _ _ ⟨q, 0, none⟩ (by kernel_rfl) rfl (hD 4 22 (by kernel_rfl))) rfl) ?_
  refine sv 7 rfl rfl rfl (fun a u hE hD hk => exec_pickF (.tmp 20) (.const (.bool true)) (.tmp 23) (.bool false) rfl (hD 2 20 (by kernel_rfl)) (hD 5 23 (by kernel_rfl))) ?_
  exact fsteps_nil
 intro gv w2 hV k2
 rw [show dstsOf _ 7 = [18, 19, 20, 21, 22, 23, 24] by kernel_rfl]
 simp only [fC, fN, sA, sS, sZ, dS, dZ]
 rw [show gv 24 = .bool false from hV 6 24 (by kernel_rfl)]
 clear hV
 refine wpList_nil ?_
 have HM2 := Lib.hid (HM1.out.kept k2)
 have kw2 := k1.trans k2
 clear HM1 HQ1 k1 k2
 go_upto_region 4 with fail
 refine wp_text 3 [.eq (.pointer (some ⟨p, 0, none⟩)), .sl w2.heap.size 24 9 an (ords X), .sl w2.heap.size 24 9 an (ords X)] rfl (by kernel_rfl) ?_ ?_
 ·refine sv 1 rfl rfl rfl (fun a u hE hD hk => exec_move (.tmp 7) _ rfl (hE 7 (.pointer (some ⟨p, 0, none⟩)) (by kernel_rfl) (by kernel_rfl))) ?_
  refine fsteps_cons 2 rfl (fun a u hE hD hk => f_call (o := ⟨some 26, _, _, _, _, _⟩) 13 #[.pointer (some ⟨p, 0, none⟩)] rfl (wanted_none rfl _) (exec_call 13 _ [.tmp 25] _ [.pointer (some ⟨p, 0, none⟩)] Try.func13 (by kernel_rfl) (by kernel_rfl) rfl (show [a.eval (.tmp 25)] = [.pointer (some ⟨p, 0, none⟩)] from (by rw [show a.eval (.tmp 25) = .pointer (some ⟨p, 0, none⟩) from (hD 0 25 (by kernel_rfl))] <;> rfl)) u) ((by rw [← HAN.out, ← HXX.out]; exact (mall_any u F p M (HM2.out.kept hk) HI.out.inv (by have := HWN.out; omega)).base hk.size))) ?_
  refine fsteps_cons 3 rfl (fun a u hE hD hk => f_val (o := ⟨some 8, _, _, _, _, _⟩) (a.eval (.tmp 26)) rfl (wanted_none rfl _) (exec_assign (.tmp 26) _ rfl rfl) (hD 1 26 (by kernel_rfl))) ?_
  exact fsteps_nil
 intro gv w3 hV k3
 rw [show dstsOf _ 3 = [25, 26, 8] by kernel_rfl]
 simp only [fC, fN, sA, sS, sZ, dS, dZ]
 have hv8 : (.sl w2.heap.size 24 9 an (ords X) : Kn).p (gv 8) w3 := hV 2 8 (by kernel_rfl)
 generalize gv 8 = v8 at hv8 ⊢
 clear hV
 refine wpList_nil ?_
 obtain ⟨va, hva⟩ : ∃ x, x = v8 := ⟨_, rfl⟩
 subst hva
 have HM3 := Lib.hid (HM2.out.kept k3)
 have HA3 := Lib.hid hv8.1
 have kw3 := kw2.trans k3
 clear hv8 HM2 kw2 k3
 go_upto_region 5 with fail
 refine wp_text 7 [.eq (va), .eq (.int .i64 (an : Int)), .eq (.pointer (some ⟨p, 0, none⟩)), .sl w3.heap.size 24 9 wn (ords M.w), .eq (.int .i64 (wn : Int)), .eq (.int .i64 (((an : Int) : Int) - ((wn : Int) : Int))), .eq (.int .i64 (((an : Int) : Int) - ((wn : Int) : Int)))] rfl (by kernel_rfl) ?_ ?_
 ·refine sv 1 rfl rfl rfl (fun a u hE hD hk => exec_move (.tmp 8) _ rfl (hE 8 (va) (by kernel_rfl) (by kernel_rfl))) ?_
  refine sv 2 rfl rfl rfl (fun a u hE hD hk => exec_lenS (.tmp 27) slO va an _ _ rfl (hD 0 27 (by kernel_rfl)) (HA3.out.kept hk)) ?_
  refine sv 3 rfl rfl rfl (fun a u hE hD hk => exec_move (.tmp 7) _ rfl (hE 7 (.pointer (some ⟨p, 0, none⟩)) (by kernel_rfl) (by kernel_rfl))) ?_
  refine fsteps_cons 4 rfl (fun a u hE hD hk => f_call (o := ⟨some 30, _, _, _, _, _⟩) 15 #[.pointer (some ⟨p, 0, none⟩)] rfl (wanted_none rfl _) (exec_call 15 _ [.tmp 29] _ [.pointer (some ⟨p, 0, none⟩)] Try.func15 (by kernel_rfl) (by kernel_rfl) rfl (show [a.eval (.tmp 29)] = [.pointer (some ⟨p, 0, none⟩)] from (by rw [show a.eval (.tmp 29) = .pointer (some ⟨p, 0, none⟩) from (hD 2 29 (by kernel_rfl))] <;> rfl)) u) ((by rw [← HWN.out]; exact (waiting_any u F p M (HM3.out.kept hk) (by have := HWN.out; omega)).base hk.size))) ?_
  refine sv 5 rfl rfl rfl (fun a u hE hD hk => exec_lenS (.tmp 30) slO (a.eval (.tmp 30)) wn _ _ rfl rfl (hD 3 30 (by kernel_rfl)).1) ?_
  refine sv 6 rfl rfl rfl (fun a u hE hD hk => exec_subn (p := ((an : Int))) (q := ((wn : Int))) (((an : Int) : Int) - ((wn : Int) : Int)) rfl (hD 1 28 (by kernel_rfl)) (hD 4 31 (by kernel_rfl)) rfl (by omega) (by omega)) ?_
  refine sv 7 rfl rfl rfl (fun a u hE hD hk => exec_assign (.tmp 32) _ rfl (hD 5 32 (by kernel_rfl))) ?_
  exact fsteps_nil
 intro gv w4 hV k4
 rw [show dstsOf _ 7 = [27, 28, 29, 30, 31, 32, 9] by kernel_rfl]
 simp only [fC, fN, sA, sS, sZ, dS, dZ]
 rw [show gv 9 = .int .i64 (((an : Int) : Int) - ((wn : Int) : Int)) from hV 6 9 (by kernel_rfl)]
 clear hV
 refine wpList_nil ?_
 have HM4 := Lib.hid (HM3.out.kept k4)
 have HA4 := Lib.hid (HA3.out.kept k4)
 have kw4 := kw3.trans k4
 clear HM3 HA3 kw3 k4
 by_cases hr0 : an ≤ wn
 ·go_upto_region 6 with fail
  refine wp_text 2 [.eq (.int .i64 ((an : Int) - (wn : Int))), .eq (.bool true)] rfl (by kernel_rfl) ?_ ?_
  ·refine sv 1 rfl rfl rfl (fun a u hE hD hk => exec_move (.tmp 9) _ rfl (hE 9 (.int .i64 ((an : Int) - (wn : Int))) (by kernel_rfl) (by kernel_rfl))) ?_
   refine fsteps_cons 2 rfl (fun a u hE hD hk => f_as (show ((decide ((((an : Int) - (wn : Int)) : Int) ≤ (0 : Int))) : Bool) = true from decide_eq_true (by omega)) (f_val (o := ⟨some 34, _, _, _, _, _⟩) (.bool (decide ((((an : Int) - (wn : Int)) : Int) ≤ (0 : Int)))) rfl (wanted_none rfl _) (exec_len_ (p := ((an : Int) - (wn : Int))) (q := 0) rfl (hD 0 33 (by kernel_rfl)) rfl) rfl)) ?_
   exact fsteps_nil
  intro gv w5 hV k5
  rw [show dstsOf _ 2 = [33, 34] by kernel_rfl]
  simp only [fC, fN, sA, sS, sZ, dS, dZ]
  rw [show gv 34 = .bool true from hV 1 34 (by kernel_rfl)]
  clear hV
  refine wpList_nil ?_
  have kw5 := kw4.trans k5
  go_upto_region 7 with fail
  refine wp_region_lit ?_
  refine l_call (o := ⟨some 35, _, _, _, _, _⟩) 3 #[] rfl (exec_call 3 _ [] _ _ Try.func3 (by kernel_rfl) (by kernel_rfl) rfl (by kernel_rfl) _) ?_
  refine (changeRuns_any w5).mono ?_
  rintro r wz ⟨rfl, kz⟩
  refine ⟨_, rfl, ?_⟩
  simp only [Act.put, sA, sS, sZ]
  refine l_val (o := ⟨some 6, _, _, _, _, _⟩) (.bool true) rfl (exec_assign (.tmp 35) (.bool true) rfl (by kernel_rfl)) ?_
  simp only [Act.put, sA, sS, sZ]
  refine wpList_nil ?_
  go_wp2
  go_ret
  exact ⟨rfl, kw5.trans kz⟩
 ·obtain ⟨kI, hkI⟩ : ∃ kI, wi at_ 0 ((an : Int) - (wn : Int) - 1) = kI := ⟨_, rfl⟩
  have hk0 : 0 ≤ kI ∧ kI ≤ (an : Int) - (wn : Int) - 1 := by rw [← hkI]; exact wi_in at_ 0 _ (by omega)
  obtain ⟨kx, rfl⟩ : ∃ kx : Nat, kI = (kx : Int) := ⟨kI.toNat, by omega⟩
  have hkn : kx < an := by omega
  have hkr : kx + wn < an := by omega
  have HKI := Lib.hid hkI
  obtain ⟨x, hx⟩ : ∃ x, X[kx]? = some x := ⟨X[kx]'(by rw [HAN.out]; exact hkn), List.getElem?_eq_getElem _⟩
  have hxm : M.all[kx]? = some x := by rw [HXX.out]; exact hx
  have hkm : kx + M.w.length < M.all.length := by rw [HXX.out, HAN.out, HWN.out]; exact hkr
  have hxq := HQt.out x (List.mem_of_getElem? hxm)
  have hfx := (HI.out.fair x (List.mem_of_getElem? hxm)).qty0
  obtain ⟨n, hn⟩ : ∃ n, wi more 1 9 = n := ⟨_, rfl⟩
  have hnn : 1 ≤ n ∧ n ≤ 9 := by rw [← hn]; exact wi_in more 1 _ (by omega)
  have HW9 : Hid (∀ u, Gives 16 #[.int .i64 more, .int .i64 1, .int .i64 9] u (.eq (.int .i64 n))) := fun u => by rw [← hn]; exact within_is more 1 9 u (by omega) (by omega) (by omega)
  have hss := (book_stt HI.out hxm hkm).2.1
  have HAM := Lib.hid (amend_more HI.out hxm hkm (q := x.qty + n) (by omega) (by omega))
  obtain ⟨x0, xr, hL, hlast⟩ := amend_behind HI.out HQu.out (x := x) (c := x.chg x.price (x.qty + n)) ⟨rfl, rfl, rfl, rfl⟩
  have hil := (HI.out.back x.tr x.id (x.chg x.price (x.qty + n))).1
  obtain ⟨M2, hM2⟩ : ∃ M2, (M.back x.tr x.id (x.chg x.price (x.qty + n))).2 = M2 := ⟨_, rfl⟩
  rw [hM2] at HAM hlast hil
  rw [hL] at HAM
  have HLS := Lib.hid hlast
  have HL3 := Lib.hid hil
  obtain ⟨ga, oa, ca, rfl⟩ := HA4.out.some_ (by omega)
  have HE4 : Hid (w4.rangeAt ga (oa + kx * 9) x.cells) := HA4.out.rngO kx x hx
  clear hkI hx hxm hkm hn hL hlast hil hM2 HQu HQt
  go_upto_region 6 with fail
  refine wp_text 2 [.eq (.int .i64 ((an : Int) - (wn : Int))), .eq (.bool false)] rfl (by kernel_rfl) ?_ ?_
  ·refine sv 1 rfl rfl rfl (fun a u hE hD hk => exec_move (.tmp 9) _ rfl (hE 9 (.int .i64 ((an : Int) - (wn : Int))) (by kernel_rfl) (by kernel_rfl))) ?_
   refine fsteps_cons 2 rfl (fun a u hE hD hk => f_as (show ((decide ((((an : Int) - (wn : Int)) : Int) ≤ (0 : Int))) : Bool) = false from decide_eq_false (by omega)) (f_val (o := ⟨some 34, _, _, _, _, _⟩) (.bool (decide ((((an : Int) - (wn : Int)) : Int) ≤ (0 : Int)))) rfl (wanted_none rfl _) (exec_len_ (p := ((an : Int) - (wn : Int))) (q := 0) rfl (hD 0 33 (by kernel_rfl)) rfl) rfl)) ?_
   exact fsteps_nil
  intro gv w5 hV k5
  rw [show dstsOf _ 2 = [33, 34] by kernel_rfl]
  simp only [fC, fN, sA, sS, sZ, dS, dZ]
  rw [show gv 34 = .bool false from hV 1 34 (by kernel_rfl)]
  clear hV
  refine wpList_nil ?_
  have HM5 := Lib.hid (HM4.out.kept k5)
  have HE5 := Lib.hid (range_kept HE4.out k5)
  have kw5 := kw4.trans k5
  clear HM4 HA4 HE4 kw4 k5
  go_upto_region 8 with fail
  refine wp_text 7 [.eq (.slice (some ⟨ga, oa, none⟩) an ca), .eq (.int .i64 at_), .eq (.int .i64 ((an : Int) - (wn : Int))), .eq (.int .i64 ((((an : Int) - (wn : Int)) : Int) - (1 : Int))), .eq (.int .i64 (kx : Int)), .eq (.pointer (some ⟨ga, oa + kx * 9, none⟩)), .eq (x.v)] rfl (by kernel_rfl) ?_ ?_
  ·refine sv 1 rfl rfl rfl (fun a u hE hD hk => exec_move (.tmp 8) _ rfl (hE 8 (.slice (some ⟨ga, oa, none⟩) an ca) (by kernel_rfl) (by kernel_rfl))) ?_
   refine sv 2 rfl rfl rfl (fun a u hE hD hk => exec_move (.tmp 1) _ rfl (hE 1 (.int .i64 at_) (by kernel_rfl) (by kernel_rfl))) ?_
   refine sv 3 rfl rfl rfl (fun a u hE hD hk => exec_move (.tmp 9) _ rfl (hE 9 (.int .i64 ((an : Int) - (wn : Int))) (by kernel_rfl) (by kernel_rfl))) ?_
   refine sv 4 rfl rfl rfl (fun a u hE hD hk => exec_subn (p := (((an : Int) - (wn : Int)))) (q := (1)) ((((an : Int) - (wn : Int)) : Int) - (1 : Int)) rfl (hD 2 38 (by kernel_rfl)) rfl rfl (by omega) (by omega)) ?_
   refine fsteps_cons 5 rfl (fun a u hE hD hk => f_call (o := ⟨some 40, _, _, _, _, _⟩) 16 #[.int .i64 at_, .int .i64 0, .int .i64 ((((an : Int) - (wn : Int)) : Int) - (1 : Int))] rfl (wanted_none rfl _) (exec_call 16 _ [.tmp 37, .const (.int .i64 0), .tmp 39] _ [.int .i64 at_, .int .i64 0, .int .i64 ((((an : Int) - (wn : Int)) : Int) - (1 : Int))] Try.func16 (by kernel_rfl) (by kernel_rfl) rfl (show [a.eval (.tmp 37), a.eval (.const (.int .i64 0)), a.eval (.tmp 39)] = [.int .i64 at_, .int .i64 0, .int .i64 ((((an : Int) - (wn : Int)) : Int) - (1 : Int))] from (by rw [show a.eval (.tmp 37) = .int .i64 at_ from (hD 1 37 (by kernel_rfl)), show a.eval (.tmp 39) = .int .i64 ((((an : Int) - (wn : Int)) : Int) - (1 : Int)) from (hD 3 39 (by kernel_rfl))] <;> rfl)) u) ((by rw [← HKI.out]; exact within_is at_ 0 ((an : Int) - (wn : Int) - 1) u (by omega) (by omega) (by omega)))) ?_
   refine sv 6 rfl rfl rfl (fun a u hE hD hk => exec_ixo slO (.tmp 36) (.tmp 40) (ga) (oa) an ca kx (oa + kx * 9) ((kx : Int)) rfl (hD 0 36 (by kernel_rfl)) (hD 4 40 (by kernel_rfl)) (by first | rfl | omega) (hkn) (by first | rfl | omega)) ?_
   refine sv 7 rfl rfl rfl (fun a u hE hD hk => exec_ldS 24 _ (.tmp 41) (ga) (oa + kx * 9) (x.cells) rfl (hD 5 41 (by kernel_rfl)) (range_kept HE5.out hk) Try.underlying24 (by rw [x.len9]; exact ord_size)) ?_
   exact fsteps_nil
  intro gv wa0 hV ka0
  rw [show dstsOf _ 7 = [36, 37, 38, 39, 40, 41, 42] by kernel_rfl]
  simp only [fC, fN, sA, sS, sZ, dS, dZ]
  rw [show gv 42 = x.v from hV 6 42 (by kernel_rfl)]
  clear hV
  refine l_new (o := ⟨some 10, _, _, _, _, _⟩) (.pointer (some ⟨wa0.heap.size, 0, none⟩)) (wa0.alloc (.cells zeroO.cells.toArray 24)) rfl (exec_alc 24 zeroO.cells rfl zO) ?_
  have hNwa1 := Blk.new wa0 24 zeroO.cells
  have kwa1 : Kept wa0 (wa0.alloc (.cells zeroO.cells.toArray 24)) := (Keep.refl _ wa0).alloc _
  generalize wa0.alloc (.cells zeroO.cells.toArray 24) = wa1 at hNwa1 kwa1 ⊢
  simp only [Act.put, sA, sS, sZ]
  refine l_setS (o := ⟨none, _, _, _, _, _⟩) 24 wa0.heap.size 24 zeroO.cells x.cells (.tmp 10) (.tmp 42) rfl rfl (by kernel_rfl) (by kernel_rfl) (hNwa1) (by rw [Ord.len9]; exact ord_size) (by rw [Ord.len9, Ord.len9]) (Ord.one1 _) ?_
  intro wa hCwa hkwa hswa
  simp only [Act.put]
  refine wpList_nil ?_
  obtain ⟨b10, h10⟩ : ∃ a, wa0.heap.size = a := ⟨_, rfl⟩
  rw [h10] at hNwa1 hCwa hkwa ⊢
  have z0 := ka0.size
  have k5a : Kept w5 wa := (ka0.trans kwa1).trans' hkwa (by omega)
  have HOa := Lib.hid (blk_range hCwa)
  have l10 := hCwa.lt
  have hlF := HM5.out.lt
  have hbF : ¬ F b10 := fun h => by have := hlF b10 h; omega
  have HMa := Lib.hid (HM5.out.kept k5a)
  have kwa := kw5.trans k5a
  clear hNwa1 hCwa hkwa hswa kwa1 ka0 HM5 kw5 k5a HE5 hlF
  by_cases hk1 : x.k = 1
  ·skip
   go_upto_region 9 with fail
   refine wp_text 3 [.eq (.pointer (some ⟨b10, 4, none⟩)), .eq (.int .i64 x.k), .eq (.bool false)] rfl (by kernel_rfl) ?_ ?_
   ·refine sv 1 rfl rfl rfl (fun a u hE hD hk => exec_fldo 24 4 4 (.tmp 10) (b10) (0) (4) rfl (hE 10 (.pointer (some ⟨b10, 0, none⟩)) (by kernel_rfl) (by kernel_rfl)) (by kernel_rfl) rfl) ?_
    refine sv 2 rfl rfl rfl (fun a u hE hD hk => exec_loadi 3 Try.underlying3 (.tmp 43) ⟨b10, 4, none⟩ (.int .i64 x.k) rfl (hD 0 43 (by kernel_rfl)) (range_int (range_kept HOa.out hk) 4 _ rfl)) ?_
    refine fsteps_cons 3 rfl (fun a u hE hD hk => f_as (show ((decide ((x.k : Int) ≠ (1 : Int))) : Bool) = false from decide_eq_false (by omega)) (f_val (o := ⟨some 45, _, _, _, _, _⟩) (.bool (decide ((x.k : Int) ≠ (1 : Int)))) rfl (wanted_none rfl _) (exec_nen (p := x.k) (q := 1) rfl (hD 1 44 (by kernel_rfl)) rfl) rfl)) ?_
    exact fsteps_nil
   intro gv w6 hV k6
   rw [show dstsOf _ 3 = [43, 44, 45] by kernel_rfl]
   simp only [fC, fN, sA, sS, sZ, dS, dZ]
   rw [show gv 45 = .bool false from hV 2 45 (by kernel_rfl)]
   clear hV
   refine wpList_nil ?_
   have HM6 := Lib.hid (HMa.out.kept k6)
   have HO6 := Lib.hid (range_kept HOa.out k6)
   have kw6 := kwa.trans k6
   have z6 := k6.size
   clear HMa HOa kwa k6
   have HO6d : Hid (w6.drew.rangeAt b10 0 x.cells) := range_kept HO6.out (Keep.drew (Keep.refl _ w6))
   have HM6d := Lib.hid (HM6.out.kept (Keep.drew (Keep.refl _ w6)))
   have zd6 : w6.drew.heap.size = w6.heap.size := rfl
   go_upto_region 11 with fail
   refine wp_sched (fun u => u.rangeAt b10 0 x.cells) [(0, 0), (1, 0), (2, 0), (3, 0), (4, 0), (5, 0), (6, 0), (7, 0), (8, 0), (9, 0), (10, 1), (11, 0), (12, 1), (13, 0), (14, 0), (15, 0), (16, 0), (17, 0)] (by kernel_rfl) (by kernel_rfl) (HO6d.out) ?_
   refine s_val (o := ⟨some 48, _, _, _, _, _⟩) (.pointer (some ⟨p, 0, none⟩)) rfl (by kernel_rfl) (fun u hu => exec_move (.tmp 7) (.pointer (some ⟨p, 0, none⟩)) rfl (by kernel_rfl)) ?_
   simp only [Act.put, sA, sS, sZ]
   refine s_val (o := ⟨some 49, _, _, _, _, _⟩) (.pointer (some ⟨b10, 0, none⟩)) rfl (by kernel_rfl) (fun u hu => exec_fldo 24 0 0 (.tmp 10) (b10) (0) (0) rfl (by kernel_rfl) (by kernel_rfl) rfl) ?_
   simp only [Act.put, sA, sS, sZ]
   refine s_val (o := ⟨some 50, _, _, _, _, _⟩) (.int .i64 x.tr) rfl (by kernel_rfl) (fun u hu => exec_loadi 3 Try.underlying3 (.tmp 49) ⟨b10, 0, none⟩ (.int .i64 x.tr) rfl (by kernel_rfl) (range_int hu 0 _ rfl)) ?_
   simp only [Act.put, sA, sS, sZ]
   refine s_val (o := ⟨some 51, _, _, _, _, _⟩) (.pointer (some ⟨b10, 1, none⟩)) rfl (by kernel_rfl) (fun u hu => exec_fldo 24 1 1 (.tmp 10) (b10) (0) (1) rfl (by kernel_rfl) (by kernel_rfl) rfl) ?_
   simp only [Act.put, sA, sS, sZ]
   refine s_val (o := ⟨some 52, _, _, _, _, _⟩) (.int .i64 x.id) rfl (by kernel_rfl) (fun u hu => exec_loadi 3 Try.underlying3 (.tmp 51) ⟨b10, 1, none⟩ (.int .i64 x.id) rfl (by kernel_rfl) (range_int hu 1 _ rfl)) ?_
   simp only [Act.put, sA, sS, sZ]
   refine s_val (o := ⟨some 53, _, _, _, _, _⟩) (.pointer (some ⟨b10, 5, none⟩)) rfl (by kernel_rfl) (fun u hu => exec_fldo 24 5 5 (.tmp 10) (b10) (0) (5) rfl (by kernel_rfl) (by kernel_rfl) rfl) ?_
   simp only [Act.put, sA, sS, sZ]
   refine s_val (o := ⟨some 54, _, _, _, _, _⟩) (.int .i64 x.price) rfl (by kernel_rfl) (fun u hu => exec_loadi 3 Try.underlying3 (.tmp 53) ⟨b10, 5, none⟩ (.int .i64 x.price) rfl (by kernel_rfl) (range_int hu 5 _ rfl)) ?_
   simp only [Act.put, sA, sS, sZ]
   refine s_val (o := ⟨some 55, _, _, _, _, _⟩) (.pointer (some ⟨b10, 6, none⟩)) rfl (by kernel_rfl) (fun u hu => exec_fldo 24 6 6 (.tmp 10) (b10) (0) (6) rfl (by kernel_rfl) (by kernel_rfl) rfl) ?_
   simp only [Act.put, sA, sS, sZ]
   refine s_val (o := ⟨some 56, _, _, _, _, _⟩) (.int .i64 x.qty) rfl (by kernel_rfl) (fun u hu => exec_loadi 3 Try.underlying3 (.tmp 55) ⟨b10, 6, none⟩ (.int .i64 x.qty) rfl (by kernel_rfl) (range_int hu 6 _ rfl)) ?_
   simp only [Act.put, sA, sS, sZ]
   refine s_val (o := ⟨some 57, _, _, _, _, _⟩) (.int .i64 more) rfl (by kernel_rfl) (fun u hu => exec_move (.tmp 2) (.int .i64 more) rfl (by kernel_rfl)) ?_
   simp only [Act.put, sA, sS, sZ]
   refine s_call (o := ⟨some 58, _, _, _, _, _⟩) 16 #[.int .i64 more, .int .i64 1, .int .i64 9] rfl (by kernel_rfl) (exec_call 16 _ [.tmp 57, .const (.int .i64 1), .const (.int .i64 9)] _ _ Try.func16 (by kernel_rfl) (by kernel_rfl) rfl (by kernel_rfl)) ?_
   refine (HW9.out w6.drew).mono ?_
   rintro e wq ⟨vo, rfl, hvo, ko⟩
   have hOq := range_kept HO6d.out ko
   have hMq := HM6d.out.kept ko
   refine ⟨.int .i64 n, by have h2 : vo = .int .i64 n := hvo; rw [h2], hOq, ?_⟩
   simp only [Act.put, sA, sS, sZ]
   refine s_val (o := ⟨some 59, _, _, _, _, _⟩) (.int .i64 (x.qty + n)) rfl (by kernel_rfl) (fun u hu => exec_addn (p := x.qty) (q := n) (x.qty + n) rfl (by kernel_rfl) (by kernel_rfl) rfl (by omega) (by omega)) ?_
   simp only [Act.put, sA, sS, sZ]
   refine s_call (o := ⟨some 60, _, _, _, _, _⟩) 17 #[.pointer (some ⟨p, 0, none⟩), .int .i64 x.tr, .int .i64 x.id, .int .i64 x.price, .int .i64 (x.qty + n)] rfl (by kernel_rfl) (exec_call 17 _ [.tmp 48, .tmp 50, .tmp 52, .tmp 54, .tmp 59] _ _ Try.func17 (by kernel_rfl) (by kernel_rfl) rfl (by kernel_rfl)) ?_
   refine (mamend_at wq F p M x.tr x.id x.price (x.qty + n) _ HAM.out hMq HI.out (by have := HNo.out; omega)).mono ?_
   rintro e w7 ⟨F7, v11, Z7, rfl, hM7, hO7, hG7, hk7⟩
   refine ⟨.tuple #[v11, .int .i64 0], rfl, range_keep hOq hk7 hbF, ?_⟩
   simp only [Act.put, sA, sS, sZ]
   refine s_val (o := ⟨some 47, _, _, _, _, _⟩) (.tuple #[v11, .int .i64 0]) rfl (by kernel_rfl) (fun u hu => exec_move (.tmp 60) (.tuple #[v11, .int .i64 0]) rfl (by kernel_rfl)) ?_
   simp only [Act.put, sA, sS, sZ]
   refine s_val (o := ⟨some 61, _, _, _, _, _⟩) (v11) rfl (by kernel_rfl) (fun u hu => exec_extract (.tmp 47) [v11, .int .i64 0] 0 (v11) rfl (by kernel_rfl) rfl) ?_
   simp only [Act.put, sA, sS, sZ]
   refine s_val (o := ⟨some 62, _, _, _, _, _⟩) (.int .i64 0) rfl (by kernel_rfl) (fun u hu => exec_extract (.tmp 47) [v11, .int .i64 0] 1 (.int .i64 0) rfl (by kernel_rfl) rfl) ?_
   simp only [Act.put, sA, sS, sZ]
   refine s_val (o := ⟨some 11, _, _, _, _, _⟩) (v11) rfl (by kernel_rfl) (fun u hu => exec_assign (.tmp 61) (v11) rfl (by kernel_rfl)) ?_
   simp only [Act.put, sA, sS, sZ]
   refine s_val (o := ⟨some 12, _, _, _, _, _⟩) (.int .i64 0) rfl (by kernel_rfl) (fun u hu => exec_assign (.tmp 62) (.int .i64 0) rfl (by kernel_rfl)) ?_
   simp only [Act.put, sA, sS, sZ]
   refine s_done ?_
   have K7 : Keep F w6 w7 := Keep.any (Kept.trans (Keep.drew (Keep.refl _ w6)) ko) hk7
   have zq7 := ko.size
   have hG67 : Grow w6 F F7 := hG7.wide (by omega)
   have kw7 : Kept w w7 := Keep.trans (S := fun _ => False) kw6 K7 (fun b hb h => by have := HF.out b h; omega)
   have HM7 := Lib.hid hM7
   have HO7 : Hid (w7.rangeAt b10 0 x.cells) := range_keep HO6.out K7 hbF
   have HX7 := Lib.hid hO7
   clear hOq hMq ko hM7 hO7 hG7 hk7 K7 HO6d HM6d HO6 HM6 kw6
   obtain ⟨m, hm⟩ : ∃ m, Z7.length = m := ⟨_, rfl⟩
   have hm1 : 1 ≤ m ∧ m = xr.length + 1 := by rw [← hm, HX7.out.len, List.length_cons]; omega
   obtain ⟨vf, Zr, hZ⟩ : ∃ vf Zr, Z7 = (x0, vf) :: Zr := by
    have h := HX7.out.eq
    cases hz : Z7 with
    | nil => rw [hz] at h; cases h
    | cons z Zr =>
     rw [hz, List.map_cons, List.cons.injEq] at h
     exact ⟨z.2, Zr, by rw [← h.1]⟩
   have hsx : Sl w7 54 15 v11 m (outc Z7) := by rw [← hm]; exact HX7.out.sl
   obtain ⟨gx, ox, cx, rfl⟩ := hsx.some_ (by omega)
   have HSX := Lib.hid hsx
   have HX0 : Hid (w7.rangeAt gx ox (x0.cells vf)) := by have := hsx.rngC 0 (x0, vf) (by rw [hZ]; rfl); rw [Nat.zero_mul, Nat.add_zero] at this; exact this
   obtain ⟨nf, hnf⟩ : ∃ nf, x0.c.f.length = nf := ⟨_, rfl⟩
   have HFX : Hid (Sl w7 61 21 vf nf (fls x0.c.f)) := by rw [← hnf]; exact HX7.out.fl (x0, vf) (by rw [hZ]; exact List.mem_cons_self)
   clear hsx hZ hm HX7
   go_upto_region 12 with fail
   refine wp_text 7 [.eq (.int .i64 0), .eq (.bool false), .eq (.bool false), .eq (.slice (some ⟨gx, ox, none⟩) m cx), .eq (.int .i64 (m : Int)), .eq (.bool false), .eq (.bool false)] rfl (by kernel_rfl) ?_ ?_
   ·refine sv 1 rfl rfl rfl (fun a u hE hD hk => exec_move (.tmp 12) _ rfl (hE 12 (.int .i64 0) (by kernel_rfl) (by kernel_rfl))) ?_
    refine fsteps_cons 2 rfl (fun a u hE hD hk => f_as (show ((decide ((0 : Int) ≠ (0 : Int))) : Bool) = false from by decide) (f_val (o := ⟨some 64, _, _, _, _, _⟩) (.bool (decide ((0 : Int) ≠ (0 : Int)))) rfl (wanted_none rfl _) (exec_nen (p := 0) (q := 0) rfl (hD 0 63 (by kernel_rfl)) rfl) rfl)) ?_
    refine sv 3 rfl rfl rfl (fun a u hE hD hk => exec_move (.tmp 64) _ rfl (hD 1 64 (by kernel_rfl))) ?_
    refine fsteps_cons 4 rfl (fun a u hE hD hk => f_val (o := ⟨some 66, _, _, _, _, _⟩) (.slice (some ⟨gx, ox, none⟩) m cx) rfl (wanted_at (b := false) false rfl rfl (hD 2 65 (by kernel_rfl))) (exec_move (.tmp 11) _ rfl (hE 11 (.slice (some ⟨gx, ox, none⟩) m cx) (by kernel_rfl) (by kernel_rfl))) rfl) ?_
    refine fsteps_cons 5 rfl (fun a u hE hD hk => f_val (o := ⟨some 67, _, _, _, _, _⟩) (.int .i64 (m : Int)) rfl (wanted_at (b := false) false rfl rfl (hD 2 65 (by kernel_rfl))) (exec_len (.tmp 66) _ _ slC.und (some ⟨gx, ox, none⟩) m cx rfl (hD 3 66 (by kernel_rfl))) rfl) ?_
    refine fsteps_cons 6 rfl (fun a u hE hD hk => f_as (show ((decide (((m : Int) : Int) < (1 : Int))) : Bool) = false from decide_eq_false (by omega)) (f_val (o := ⟨some 68, _, _, _, _, _⟩) (.bool (decide (((m : Int) : Int) < (1 : Int)))) rfl (wanted_at (b := false) false rfl rfl (hD 2 65 (by kernel_rfl))) (exec_ltn (p := (m : Int)) (q := 1) rfl (hD 4 67 (by kernel_rfl)) rfl) rfl)) ?_
    refine sv 7 rfl rfl rfl (fun a u hE hD hk => exec_pickF (.tmp 65) (.const (.bool true)) (.tmp 68) (.bool false) rfl (hD 2 65 (by kernel_rfl)) (hD 5 68 (by kernel_rfl))) ?_
    exact fsteps_nil
   intro gv w8 hV k8
   rw [show dstsOf _ 7 = [63, 64, 65, 66, 67, 68, 69] by kernel_rfl]
   simp only [fC, fN, sA, sS, sZ, dS, dZ]
   rw [show gv 69 = .bool false from hV 6 69 (by kernel_rfl)]
   clear hV
   refine wpList_nil ?_
   have HM8 := Lib.hid (HM7.out.kept k8)
   have HO8 := Lib.hid (range_kept HO7.out k8)
   have HX8 := Lib.hid (range_kept HX0.out k8)
   have HF8 := Lib.hid (HFX.out.kept k8)
   have kw8 := kw7.trans k8
   clear HM7 HO7 HX0 HFX kw7 k8 HSX
   by_cases hg : x0.c.rests = true ∧ nf = 0
   ·obtain ⟨hg1, hg2⟩ := hg
    have hf0 : x0.c.f = [] := List.eq_nil_of_length_eq_zero (by omega)
    obtain ⟨yl, hy1, hy2, hy3⟩ := HLS.out hg1 hf0
    have HYL := Lib.hid hy1
    clear hy1 hf0
    go_upto_region 14 with fail
    refine wp_text 13 [.eq (.slice (some ⟨gx, ox, none⟩) m cx), .eq (.pointer (some ⟨gx, ox, none⟩)), .eq (.pointer (some ⟨gx, ox + 11, none⟩)), .eq (.bool true), .eq (.bool false), .eq (.bool false), .eq (.slice (some ⟨gx, ox, none⟩) m cx), .eq (.pointer (some ⟨gx, ox, none⟩)), .eq (.pointer (some ⟨gx, ox + 9, none⟩)), .eq (vf), .eq (.int .i64 (nf : Int)), .eq (.bool false), .eq (.bool false)] rfl (by kernel_rfl) ?_ ?_
    ·refine sv 1 rfl rfl rfl (fun a u hE hD hk => exec_move (.tmp 11) _ rfl (hE 11 (.slice (some ⟨gx, ox, none⟩) m cx) (by kernel_rfl) (by kernel_rfl))) ?_
     refine sv 2 rfl rfl rfl (fun a u hE hD hk => exec_ixo slC (.tmp 70) (.const (.int .i64 0)) (gx) (ox) m cx 0 (ox) (0) rfl (hD 0 70 (by kernel_rfl)) rfl (by first | rfl | omega) ((by omega)) (by first | rfl | omega)) ?_
     refine sv 3 rfl rfl rfl (fun a u hE hD hk => exec_fldo 54 3 11 (.tmp 71) (gx) (ox) (ox + 11) rfl (hD 1 71 (by kernel_rfl)) (by kernel_rfl) rfl) ?_
     refine fsteps_cons 4 rfl (fun a u hE hD hk => f_as (show (x0.c.rests : Bool) = true from hg1) (f_val (o := ⟨some 73, _, _, _, _, _⟩) (.bool x0.c.rests) rfl (wanted_none rfl _) (exec_ldb 4 Try.underlying4 (.tmp 72) ⟨gx, ox + 11, none⟩ (.bool x0.c.rests) rfl (hD 2 72 (by kernel_rfl)) ((range_kept (HX8.out) hk) 11 _ rfl)) rfl)) ?_
     refine sv 5 rfl rfl rfl (fun a u hE hD hk => exec_not _ (.tmp 73) true rfl (hD 3 73 (by kernel_rfl))) ?_
     refine sv 6 rfl rfl rfl (fun a u hE hD hk => exec_move (.tmp 74) _ rfl (hD 4 74 (by kernel_rfl))) ?_
     refine fsteps_cons 7 rfl (fun a u hE hD hk => f_val (o := ⟨some 76, _, _, _, _, _⟩) (.slice (some ⟨gx, ox, none⟩) m cx) rfl (wanted_at (b := false) false rfl rfl (hD 5 75 (by kernel_rfl))) (exec_move (.tmp 11) _ rfl (hE 11 (.slice (some ⟨gx, ox, none⟩) m cx) (by kernel_rfl) (by kernel_rfl))) rfl) ?_
     refine fsteps_cons 8 rfl (fun a u hE hD hk => f_val (o := ⟨some 77, _, _, _, _, _⟩) (.pointer (some ⟨gx, ox, none⟩)) rfl (wanted_at (b := false) false rfl rfl (hD 5 75 (by kernel_rfl))) (exec_ixo slC (.tmp 76) (.const (.int .i64 0)) (gx) (ox) m cx 0 (ox) (0) rfl (hD 6 76 (by kernel_rfl)) rfl (by first | rfl | omega) ((by omega)) (by first | rfl | omega)) rfl) ?_
     refine fsteps_cons 9 rfl (fun a u hE hD hk => f_val (o := ⟨some 78, _, _, _, _, _⟩) (.pointer (some ⟨gx, ox + 9, none⟩)) rfl (wanted_at (b := false) false rfl rfl (hD 5 75 (by kernel_rfl))) (exec_fldo 54 1 9 (.tmp 77) (gx) (ox) (ox + 9) rfl (hD 7 77 (by kernel_rfl)) (by kernel_rfl) rfl) rfl) ?_
     refine fsteps_cons 10 rfl (fun a u hE hD hk => f_val (o := ⟨some 79, _, _, _, _, _⟩) (vf) rfl (wanted_at (b := false) false rfl rfl (hD 5 75 (by kernel_rfl))) (exec_ldv 52 _ Try.underlying52 (.tmp 78) ⟨gx, ox + 9, none⟩ (vf) rfl (hD 8 78 (by kernel_rfl)) ((range_kept (HX8.out) hk) 9 _ rfl)) rfl) ?_
     refine fsteps_cons 11 rfl (fun a u hE hD hk => f_val (o := ⟨some 80, _, _, _, _, _⟩) (.int .i64 (nf : Int)) rfl (wanted_at (b := false) false rfl rfl (hD 5 75 (by kernel_rfl))) (exec_lenS (.tmp 79) slF (vf) (nf) _ _ rfl (hD 9 79 (by kernel_rfl)) (HF8.out.kept hk)) rfl) ?_
     refine fsteps_cons 12 rfl (fun a u hE hD hk => f_as (show ((decide ((0 : Int) < ((nf : Int) : Int))) : Bool) = false from decide_eq_false (by omega)) (f_val (o := ⟨some 81, _, _, _, _, _⟩) (.bool (decide ((0 : Int) < ((nf : Int) : Int)))) rfl (wanted_at (b := false) false rfl rfl (hD 5 75 (by kernel_rfl))) (exec_gtn (p := (nf : Int)) (q := 0) rfl (hD 10 80 (by kernel_rfl)) rfl) rfl)) ?_
     refine sv 13 rfl rfl rfl (fun a u hE hD hk => exec_pickF (.tmp 75) (.const (.bool true)) (.tmp 81) (.bool false) rfl (hD 5 75 (by kernel_rfl)) (hD 11 81 (by kernel_rfl))) ?_
     exact fsteps_nil
    intro gv w9 hV k9
    rw [show dstsOf _ 13 = [70, 71, 72, 73, 74, 75, 76, 77, 78, 79, 80, 81, 82] by kernel_rfl]
    simp only [fC, fN, sA, sS, sZ, dS, dZ]
    rw [show gv 82 = .bool false from hV 12 82 (by kernel_rfl)]
    clear hV
    refine wpList_nil ?_
    have HM9 := Lib.hid (HM8.out.kept k9)
    have HO9 := Lib.hid (range_kept HO8.out k9)
    have kw9 := kw8.trans k9
    have z9 := kw9.size
    clear HM8 HO8 HX8 HF8 kw8 k9 HLS
    go_upto_region 16 with fail
    refine wp_text 1 [.eq (zeroO.v)] rfl (by kernel_rfl) ?_ ?_
    ·refine sv 1 rfl rfl rfl (fun a u hE hD hk => exec_build 24 [] zeroO.cells rfl (by kernel_rfl)) ?_
     exact fsteps_nil
    intro gv wb hV kb
    rw [show dstsOf _ 1 = [84] by kernel_rfl]
    simp only [fC, fN, sA, sS, sZ, dS, dZ]
    rw [show gv 84 = zeroO.v from hV 0 84 (by kernel_rfl)]
    clear hV
    refine l_new (o := ⟨some 13, _, _, _, _, _⟩) (.pointer (some ⟨wb.heap.size, 0, none⟩)) (wb.alloc (.cells zeroO.cells.toArray 24)) rfl (exec_alc 24 zeroO.cells rfl zO) ?_
    have hNwc := Blk.new wb 24 zeroO.cells
    have kwc : Kept wb (wb.alloc (.cells zeroO.cells.toArray 24)) := (Keep.refl _ wb).alloc _
    generalize wb.alloc (.cells zeroO.cells.toArray 24) = wc at hNwc kwc ⊢
    simp only [Act.put, sA, sS, sZ]
    refine l_setS (o := ⟨none, _, _, _, _, _⟩) 24 wb.heap.size 24 zeroO.cells zeroO.cells (.tmp 13) (.tmp 84) rfl rfl (by kernel_rfl) (by kernel_rfl) (hNwc) (by rw [Ord.len9]; exact ord_size) rfl (Ord.one1 _) ?_
    intro wd hCwd hkwd hswd
    simp only [Act.put]
    refine wpList_nil ?_
    obtain ⟨b13, h13⟩ : ∃ a, wb.heap.size = a := ⟨_, rfl⟩
    rw [h13] at hNwc hCwd hkwd ⊢
    have zb := kb.size
    have k9d : Kept w9 wd := (kb.trans kwc).trans' hkwd (by omega)
    have HCd := Lib.hid hCwd
    have HMd := Lib.hid (HM9.out.kept k9d)
    have HOd := Lib.hid (range_kept HO9.out k9d)
    have hl13 : w9.heap.size ≤ b13 := by omega
    have kwd := kw9.trans k9d
    have l13 := hCwd.lt
    have l10b : b10 < w9.heap.size := by have h := HO9.out 0 (.int .i64 x.tr) rfl; exact World.block_lt_of_cell? w9 _ h
    clear hNwc hCwd hkwd hswd kwc kb HM9 HO9 k9d
    obtain ⟨q, Fb, hq1, hq2⟩ := mk_book HMd.out
    have HQ1 := Lib.hid hq1
    have HQ2 := Lib.hid hq2
    obtain ⟨Y, hY⟩ : ∃ Y, ordsL (M2.b.sd x.side) = Y := ⟨_, rfl⟩
    obtain ⟨yn, hyn⟩ : ∃ yn, Y.length = yn := ⟨_, rfl⟩
    have hyl : yn ≤ 64 := by
     rw [← hyn, ← hY, ordsL_len]
     rcases hss with h | h <;> rw [h]
     ·exact HL3.out.inv.two.mine.few
     ·exact HL3.out.inv.two.theirs.few
    have HYY := Lib.hid hY
    have HYN := Lib.hid hyn
    rw [hY] at HYL
    clear hq1 hq2 hY hyn
    go_upto_region 17 with fail
    refine wp_free 7 [.eq (.pointer (some ⟨p, 0, none⟩)), .eq (.pointer (some ⟨q, 0, none⟩)), .eq (.pointer (some ⟨b10, 3, none⟩)), .eq (.int .i64 x.side), .sl wd.heap.size 24 9 yn (ords Y), .eq (.int .i64 (yn : Int)), .eq (.int .i64 0)] (by kernel_rfl) rfl (by kernel_rfl) ?_ ?_
    ·refine sv 1 rfl rfl rfl (fun a u hE hD hk => exec_move (.tmp 7) _ rfl (hE 7 (.pointer (some ⟨p, 0, none⟩)) (by kernel_rfl) (by kernel_rfl))) ?_
     refine fsteps_cons 2 rfl (fun a u hE hD hk => f_call (o := ⟨some 86, _, _, _, _, _⟩) 12 #[.pointer (some ⟨p, 0, none⟩)] rfl (wanted_none rfl _) (exec_call 12 _ [.tmp 85] _ [.pointer (some ⟨p, 0, none⟩)] Try.func12 (by kernel_rfl) (by kernel_rfl) rfl (show [a.eval (.tmp 85)] = [.pointer (some ⟨p, 0, none⟩)] from (by rw [show a.eval (.tmp 85) = .pointer (some ⟨p, 0, none⟩) from (hD 0 85 (by kernel_rfl))] <;> rfl)) u) (HQ1.out u hk)) ?_
     refine sv 3 rfl rfl rfl (fun a u hE hD hk => exec_fldo 24 3 3 (.tmp 10) (b10) (0) (3) rfl (hE 10 (.pointer (some ⟨b10, 0, none⟩)) (by kernel_rfl) (by kernel_rfl)) (by kernel_rfl) rfl) ?_
     refine sv 4 rfl rfl rfl (fun a u hE hD hk => exec_loadi 3 Try.underlying3 (.tmp 87) ⟨b10, 3, none⟩ (.int .i64 x.side) rfl (hD 2 87 (by kernel_rfl)) (range_int (range_kept HOd.out hk) 3 _ rfl)) ?_
     refine fsteps_cons 5 rfl (fun a u hE hD hk => f_call (o := ⟨some 89, _, _, _, _, _⟩) 22 #[.pointer (some ⟨q, 0, none⟩), .int .i64 x.side] rfl (wanted_none rfl _) (exec_call 22 _ [.tmp 86, .tmp 88] _ [.pointer (some ⟨q, 0, none⟩), .int .i64 x.side] Try.func22 (by kernel_rfl) (by kernel_rfl) rfl (show [a.eval (.tmp 86), a.eval (.tmp 88)] = [.pointer (some ⟨q, 0, none⟩), .int .i64 x.side] from (by rw [show a.eval (.tmp 86) = .pointer (some ⟨q, 0, none⟩) from (hD 1 86 (by kernel_rfl)), show a.eval (.tmp 88) = .int .i64 x.side from (hD 3 88 (by kernel_rfl))] <;> rfl)) u) ((by rw [← HYN.out, ← HYY.out]; exact (borders_any u Fb q M2.b x.side (HQ2.out u hk) HL3.out.inv).base hk.size))) ?_
     refine sv 6 rfl rfl rfl (fun a u hE hD hk => exec_lenS (.tmp 89) slO (a.eval (.tmp 89)) yn _ _ rfl rfl (hD 4 89 (by kernel_rfl)).1) ?_
     refine sv 7 rfl rfl rfl (fun a u hE hD hk => exec_move (.const (.int .i64 0)) _ rfl rfl) ?_
     exact fsteps_nil
    intro gv we hV ke
    rw [show dstsOf _ 7 = [85, 86, 87, 88, 89, 90, 91] by kernel_rfl]
    simp only [fC, fN, sA, sS, sZ, dS, dZ]
    have hv89 : (.sl wd.heap.size 24 9 yn (ords Y) : Kn).p (gv 89) we := hV 4 89 (by kernel_rfl)
    generalize gv 89 = v89 at hv89 ⊢
    rw [show gv 90 = .int .i64 (yn : Int) from hV 5 90 (by kernel_rfl)]
    rw [show gv 91 = .int .i64 0 from hV 6 91 (by kernel_rfl)]
    clear hV
    refine wpList_nil ?_
    obtain ⟨vy, hvy⟩ : ∃ x, x = v89 := ⟨_, rfl⟩
    subst hvy
    have HYe := Lib.hid hv89.1
    have HVy : Hid (∀ b, vy.ownBlock = some b → b ≠ b13) := fun b hb e => by have := hv89.2 b hb; omega
    have HOe := Lib.hid (range_kept HOd.out ke)
    have HCe : Hid (Blk we b13 24 (lastP x.price zeroO (Y.take 0)).cells) := by rw [List.take_zero]; exact Lib.hid (HCd.out.kept ke)
    have kwe := kwd.trans ke
    have ze := kwe.size
    have le13 : b13 < we.heap.size := HCe.out.lt
    clear hv89 HMd HOd HCd kwd ke HQ1 HQ2
    go_wp2_with fail
    go_loopw [91] (fun t wr => ∃ (k : Nat), k ≤ yn ∧ t = .int .i64 (k : Int) ∧ Hid (Blk wr b13 24 (lastP x.price zeroO (Y.take k)).cells) ∧ Keep (· = b13) we wr) (fun t _ => yn - (intOf t).toNat)
    case atStart => exact ⟨0, Nat.zero_le _, rfl, HCe, Keep.refl _ _⟩
    case round =>
     obtain ⟨k, hk, rfl, HCr, hkr3⟩ := hrel
     have zr := hkr3.size
     have HOr := Lib.hid (range_keep HOe.out hkr3 (fun e => by omega))
     by_cases hky : k < yn
     ·obtain ⟨gy, oy, cy, rfl⟩ := HYe.out.some_ (by omega)
      have hgy : gy ≠ b13 := HVy.out gy rfl
      obtain ⟨y, hy⟩ : ∃ y, Y[k]? = some y := ⟨Y[k]'(by rw [HYN.out]; exact hky), List.getElem?_eq_getElem _⟩
      have HYr : Hid (wr.rangeAt gy (oy + k * 9) y.cells) := range_keep (HYe.out.rngO k y hy) hkr3 (fun e => hgy e)
      have HNX := Lib.hid (lastP_next x.price zeroO Y k y hy)
      obtain ⟨la, hla⟩ : ∃ la, lastP x.price zeroO (Y.take k) = la := ⟨_, rfl⟩
      rw [hla] at HCr HNX
      clear hy hla
      go_upto_region 19 with fail
      refine wp_text 2 [.eq (.pointer (some ⟨gy, oy + k * 9, none⟩)), .eq (y.v)] rfl (by kernel_rfl) ?_ ?_
      ·refine sv 1 rfl rfl rfl (fun a u hE hD hk => exec_ixo slO (.tmp 89) (.tmp 91) (gy) (oy) yn cy k (oy + k * 9) ((k : Int)) rfl (hE 89 (.slice (some ⟨gy, oy, none⟩) yn cy) (by kernel_rfl) (by kernel_rfl)) (hE 91 (.int .i64 (k : Int)) (by kernel_rfl) (by kernel_rfl)) (by first | rfl | omega) (hky) (by first | rfl | omega)) ?_
       refine sv 2 rfl rfl rfl (fun a u hE hD hk => exec_ldS 24 _ (.tmp 93) (gy) (oy + k * 9) (y.cells) rfl (hD 0 93 (by kernel_rfl)) (range_kept HYr.out hk) Try.underlying24 (by rw [y.len9]; exact ord_size)) ?_
       exact fsteps_nil
      intro gv wf hV kf
      rw [show dstsOf _ 2 = [93, 94] by kernel_rfl]
      simp only [fC, fN, sA, sS, sZ, dS, dZ]
      rw [show gv 94 = y.v from hV 1 94 (by kernel_rfl)]
      clear hV
      refine l_new (o := ⟨some 15, _, _, _, _, _⟩) (.pointer (some ⟨wf.heap.size, 0, none⟩)) (wf.alloc (.cells zeroO.cells.toArray 24)) rfl (exec_alc 24 zeroO.cells rfl zO) ?_
      have hNwg := Blk.new wf 24 zeroO.cells
      have kwg : Kept wf (wf.alloc (.cells zeroO.cells.toArray 24)) := (Keep.refl _ wf).alloc _
      generalize wf.alloc (.cells zeroO.cells.toArray 24) = wg at hNwg kwg ⊢
      simp only [Act.put, sA, sS, sZ]
      refine l_setS (o := ⟨none, _, _, _, _, _⟩) 24 wf.heap.size 24 zeroO.cells y.cells (.tmp 15) (.tmp 94) rfl rfl (by kernel_rfl) (by kernel_rfl) (hNwg) (by rw [Ord.len9]; exact ord_size) (by rw [Ord.len9, Ord.len9]) (Ord.one1 _) ?_
      intro wh hCwh hkwh hswh
      simp only [Act.put]
      refine wpList_nil ?_
      obtain ⟨b15, h15⟩ : ∃ a, wf.heap.size = a := ⟨_, rfl⟩
      rw [h15] at hNwg hCwh hkwh ⊢
      have zf := kf.size
      have krh : Kept wr wh := (kf.trans kwg).trans' hkwh (by omega)
      have HYh := Lib.hid (blk_range hCwh)
      have HCh := Lib.hid (HCr.out.kept krh)
      have HOh := Lib.hid (range_kept HOr.out krh)
      have keh : Keep (· = b13) we wh := hkr3.kept krh
      clear hNwg hCwh hkwh hswh kwg kf HYr HCr HOr krh hkr3
      by_cases hyp : y.price = x.price
      ·have HLn : Hid (lastP x.price zeroO (Y.take (k + 1)) = y) := by show _ = _; rw [HNX.out, if_pos hyp]
       go_upto_region 20 with fail
       refine wp_text 5 [.eq (.pointer (some ⟨b15, 5, none⟩)), .eq (.int .i64 y.price), .eq (.pointer (some ⟨b10, 5, none⟩)), .eq (.int .i64 x.price), .eq (.bool true)] rfl (by kernel_rfl) ?_ ?_
       ·refine sv 1 rfl rfl rfl (fun a u hE hD hk => exec_fldo 24 5 5 (.tmp 15) (b15) (0) (5) rfl (hE 15 (.pointer (some ⟨b15, 0, none⟩)) (by kernel_rfl) (by kernel_rfl)) (by kernel_rfl) rfl) ?_
        refine sv 2 rfl rfl rfl (fun a u hE hD hk => exec_loadi 3 Try.underlying3 (.tmp 95) ⟨b15, 5, none⟩ (.int .i64 y.price) rfl (hD 0 95 (by kernel_rfl)) (range_int (range_kept HYh.out hk) 5 _ rfl)) ?_
        refine sv 3 rfl rfl rfl (fun a u hE hD hk => exec_fldo 24 5 5 (.tmp 10) (b10) (0) (5) rfl (hE 10 (.pointer (some ⟨b10, 0, none⟩)) (by kernel_rfl) (by kernel_rfl)) (by kernel_rfl) rfl) ?_
        refine sv 4 rfl rfl rfl (fun a u hE hD hk => exec_loadi 3 Try.underlying3 (.tmp 97) ⟨b10, 5, none⟩ (.int .i64 x.price) rfl (hD 2 97 (by kernel_rfl)) (range_int (range_kept HOh.out hk) 5 _ rfl)) ?_
        refine fsteps_cons 5 rfl (fun a u hE hD hk => f_as (show ((decide ((y.price : Int) = (x.price : Int))) : Bool) = true from decide_eq_true hyp) (f_val (o := ⟨some 99, _, _, _, _, _⟩) (.bool (decide ((y.price : Int) = (x.price : Int)))) rfl (wanted_none rfl _) (exec_eqn (p := y.price) (q := x.price) rfl (hD 1 96 (by kernel_rfl)) (hD 3 98 (by kernel_rfl))) rfl)) ?_
        exact fsteps_nil
       intro gv wi_ hV ki
       rw [show dstsOf _ 5 = [95, 96, 97, 98, 99] by kernel_rfl]
       simp only [fC, fN, sA, sS, sZ, dS, dZ]
       rw [show gv 99 = .bool true from hV 4 99 (by kernel_rfl)]
       clear hV
       refine wpList_nil ?_
       have HYi := Lib.hid (range_kept HYh.out ki)
       have HCi := Lib.hid (HCh.out.kept ki)
       have kei : Keep (· = b13) we wi_ := keh.kept ki
       clear HYh HCh HOh keh ki
       go_upto_region 21 with fail
       refine wp_text 1 [.eq (y.v)] rfl (by kernel_rfl) ?_ ?_
       ·refine sv 1 rfl rfl rfl (fun a u hE hD hk => exec_ldS 24 _ (.tmp 15) (b15) (0) (y.cells) rfl (hE 15 (.pointer (some ⟨b15, 0, none⟩)) (by kernel_rfl) (by kernel_rfl)) (range_kept HYi.out hk) Try.underlying24 (by rw [y.len9]; exact ord_size)) ?_
        exact fsteps_nil
       intro gv wj hV kj
       rw [show dstsOf _ 1 = [100] by kernel_rfl]
       simp only [fC, fN, sA, sS, sZ, dS, dZ]
       rw [show gv 100 = y.v from hV 0 100 (by kernel_rfl)]
       clear hV
       refine l_setS (o := ⟨none, _, _, _, _, _⟩) 24 b13 24 la.cells y.cells (.tmp 13) (.tmp 100) rfl rfl (by kernel_rfl) (by kernel_rfl) (HCi.out.kept kj) (by rw [Ord.len9]; exact ord_size) (by rw [Ord.len9, Ord.len9]) (Ord.one1 _) ?_
       intro wk hCwk hkwk hswk
       simp only [Act.put]
       refine wpList_nil ?_
       have HCk : Hid (Blk wk b13 24 (lastP x.price zeroO (Y.take (k + 1))).cells) := by rw [HLn.out]; exact Lib.hid hCwk
       have kek : Keep (· = b13) we wk := (kei.kept kj).trans hkwk (fun _ _ h => h)
       clear hCwk hkwk hswk kj HYi HCi kei
       go_wp2
       exact ⟨⟨k + 1, by omega, by go_num, HCk, kek⟩, by simp [intOf]; omega⟩
      ·have HLn : Hid (lastP x.price zeroO (Y.take (k + 1)) = la) := by show _ = _; rw [HNX.out, if_neg hyp]
       go_upto_region 20 with fail
       refine wp_text 5 [.eq (.pointer (some ⟨b15, 5, none⟩)), .eq (.int .i64 y.price), .eq (.pointer (some ⟨b10, 5, none⟩)), .eq (.int .i64 x.price), .eq (.bool false)] rfl (by kernel_rfl) ?_ ?_
       ·refine sv 1 rfl rfl rfl (fun a u hE hD hk => exec_fldo 24 5 5 (.tmp 15) (b15) (0) (5) rfl (hE 15 (.pointer (some ⟨b15, 0, none⟩)) (by kernel_rfl) (by kernel_rfl)) (by kernel_rfl) rfl) ?_
        refine sv 2 rfl rfl rfl (fun a u hE hD hk => exec_loadi 3 Try.underlying3 (.tmp 95) ⟨b15, 5, none⟩ (.int .i64 y.price) rfl (hD 0 95 (by kernel_rfl)) (range_int (range_kept HYh.out hk) 5 _ rfl)) ?_
        refine sv 3 rfl rfl rfl (fun a u hE hD hk => exec_fldo 24 5 5 (.tmp 10) (b10) (0) (5) rfl (hE 10 (.pointer (some ⟨b10, 0, none⟩)) (by kernel_rfl) (by kernel_rfl)) (by kernel_rfl) rfl) ?_
        refine sv 4 rfl rfl rfl (fun a u hE hD hk => exec_loadi 3 Try.underlying3 (.tmp 97) ⟨b10, 5, none⟩ (.int .i64 x.price) rfl (hD 2 97 (by kernel_rfl)) (range_int (range_kept HOh.out hk) 5 _ rfl)) ?_
        refine fsteps_cons 5 rfl (fun a u hE hD hk => f_as (show ((decide ((y.price : Int) = (x.price : Int))) : Bool) = false from decide_eq_false hyp) (f_val (o := ⟨some 99, _, _, _, _, _⟩) (.bool (decide ((y.price : Int) = (x.price : Int)))) rfl (wanted_none rfl _) (exec_eqn (p := y.price) (q := x.price) rfl (hD 1 96 (by kernel_rfl)) (hD 3 98 (by kernel_rfl))) rfl)) ?_
        exact fsteps_nil
       intro gv wk hV ki
       rw [show dstsOf _ 5 = [95, 96, 97, 98, 99] by kernel_rfl]
       simp only [fC, fN, sA, sS, sZ, dS, dZ]
       rw [show gv 99 = .bool false from hV 4 99 (by kernel_rfl)]
       clear hV
       refine wpList_nil ?_
       have HCk : Hid (Blk wk b13 24 (lastP x.price zeroO (Y.take (k + 1))).cells) := by rw [HLn.out]; exact Lib.hid (HCh.out.kept ki)
       have kek : Keep (· = b13) we wk := keh.kept ki
       clear HYh HCh HOh keh ki
       go_wp2
       exact ⟨⟨k + 1, by omega, by go_num, HCk, kek⟩, by simp [intOf]; omega⟩
     ·have HCy : Hid (wr.rangeAt b13 0 yl.cells) := by
       have h := blk_range HCr.out
       rw [show k = Y.length by rw [HYN.out]; omega, List.take_length, HYL.out] at h
       exact h
      have kwr : Kept w wr := Keep.trans (S := fun _ => False) kwe hkr3 (fun b hb e => by omega)
      clear HCr hkr3
      go_upto_region 23 with fail
      refine wp_text 16 [.eq (.pointer (some ⟨b13, 0, none⟩)), .eq (.int .i64 yl.tr), .eq (.pointer (some ⟨b10, 0, none⟩)), .eq (.int .i64 x.tr), .eq (.bool true), .eq (.bool true), .eq (.pointer (some ⟨b13, 1, none⟩)), .eq (.int .i64 yl.id), .eq (.pointer (some ⟨b10, 1, none⟩)), .eq (.int .i64 x.id), .eq (.bool true), .eq (.bool true), .eq (.bool true), .eq (.bool true), .eq (.bool true), .eq (.bool true)] rfl (by kernel_rfl) ?_ ?_
      ·refine sv 1 rfl rfl rfl (fun a u hE hD hk => exec_fldo 24 0 0 (.tmp 13) (b13) (0) (0) rfl (hE 13 (.pointer (some ⟨b13, 0, none⟩)) (by kernel_rfl) (by kernel_rfl)) (by kernel_rfl) rfl) ?_
       refine sv 2 rfl rfl rfl (fun a u hE hD hk => exec_loadi 3 Try.underlying3 (.tmp 102) ⟨b13, 0, none⟩ (.int .i64 yl.tr) rfl (hD 0 102 (by kernel_rfl)) (range_int (range_kept HCy.out hk) 0 _ rfl)) ?_
       refine sv 3 rfl rfl rfl (fun a u hE hD hk => exec_fldo 24 0 0 (.tmp 10) (b10) (0) (0) rfl (hE 10 (.pointer (some ⟨b10, 0, none⟩)) (by kernel_rfl) (by kernel_rfl)) (by kernel_rfl) rfl) ?_
       refine sv 4 rfl rfl rfl (fun a u hE hD hk => exec_loadi 3 Try.underlying3 (.tmp 104) ⟨b10, 0, none⟩ (.int .i64 x.tr) rfl (hD 2 104 (by kernel_rfl)) (range_int (range_kept HOr.out hk) 0 _ rfl)) ?_
       refine fsteps_cons 5 rfl (fun a u hE hD hk => f_as (show ((decide ((yl.tr : Int) = (x.tr : Int))) : Bool) = true from decide_eq_true hy2) (f_val (o := ⟨some 106, _, _, _, _, _⟩) (.bool (decide ((yl.tr : Int) = (x.tr : Int)))) rfl (wanted_none rfl _) (exec_eqn (p := yl.tr) (q := x.tr) rfl (hD 1 103 (by kernel_rfl)) (hD 3 105 (by kernel_rfl))) rfl)) ?_
       refine sv 6 rfl rfl rfl (fun a u hE hD hk => exec_move (.tmp 106) _ rfl (hD 4 106 (by kernel_rfl))) ?_
       refine fsteps_cons 7 rfl (fun a u hE hD hk => f_val (o := ⟨some 108, _, _, _, _, _⟩) (.pointer (some ⟨b13, 1, none⟩)) rfl (wanted_at (b := true) true rfl rfl (hD 5 107 (by kernel_rfl))) (exec_fldo 24 1 1 (.tmp 13) (b13) (0) (1) rfl (hE 13 (.pointer (some ⟨b13, 0, none⟩)) (by kernel_rfl) (by kernel_rfl)) (by kernel_rfl) rfl) rfl) ?_
       refine fsteps_cons 8 rfl (fun a u hE hD hk => f_val (o := ⟨some 109, _, _, _, _, _⟩) (.int .i64 yl.id) rfl (wanted_at (b := true) true rfl rfl (hD 5 107 (by kernel_rfl))) (exec_loadi 3 Try.underlying3 (.tmp 108) ⟨b13, 1, none⟩ (.int .i64 yl.id) rfl (hD 6 108 (by kernel_rfl)) (range_int (range_kept HCy.out hk) 1 _ rfl)) rfl) ?_
       refine fsteps_cons 9 rfl (fun a u hE hD hk => f_val (o := ⟨some 110, _, _, _, _, _⟩) (.pointer (some ⟨b10, 1, none⟩)) rfl (wanted_at (b := true) true rfl rfl (hD 5 107 (by kernel_rfl))) (exec_fldo 24 1 1 (.tmp 10) (b10) (0) (1) rfl (hE 10 (.pointer (some ⟨b10, 0, none⟩)) (by kernel_rfl) (by kernel_rfl)) (by kernel_rfl) rfl) rfl) ?_
       refine fsteps_cons 10 rfl (fun a u hE hD hk => f_val (o := ⟨some 111, _, _, _, _, _⟩) (.int .i64 x.id) rfl (wanted_at (b := true) true rfl rfl (hD 5 107 (by kernel_rfl))) (exec_loadi 3 Try.underlying3 (.tmp 110) ⟨b10, 1, none⟩ (.int .i64 x.id) rfl (hD 8 110 (by kernel_rfl)) (range_int (range_kept HOr.out hk) 1 _ rfl)) rfl) ?_
       refine fsteps_cons 11 rfl (fun a u hE hD hk => f_as (show ((decide ((yl.id : Int) = (x.id : Int))) : Bool) = true from decide_eq_true hy3) (f_val (o := ⟨some 112, _, _, _, _, _⟩) (.bool (decide ((yl.id : Int) = (x.id : Int)))) rfl (wanted_at (b := true) true rfl rfl (hD 5 107 (by kernel_rfl))) (exec_eqn (p := yl.id) (q := x.id) rfl (hD 7 109 (by kernel_rfl)) (hD 9 111 (by kernel_rfl))) rfl)) ?_
       refine sv 12 rfl rfl rfl (fun a u hE hD hk => exec_pick (.tmp 107) (.tmp 112) (.const (.bool false)) (.bool true) rfl (hD 5 107 (by kernel_rfl)) (hD 10 112 (by kernel_rfl))) ?_
       refine sv 13 rfl rfl rfl (fun a u hE hD hk => exec_move (.tmp 113) _ rfl (hD 11 113 (by kernel_rfl))) ?_
       refine fsteps_cons 14 rfl (fun a u hE hD hk => f_call (o := ⟨some 115, _, _, _, _, _⟩) 3 #[] rfl (wanted_at (b := true) true rfl rfl (hD 12 114 (by kernel_rfl))) (exec_call 3 _ [] _ [] Try.func3 (by kernel_rfl) (by kernel_rfl) rfl rfl u) (cruns_gives u)) ?_
       refine sv 15 rfl rfl rfl (fun a u hE hD hk => exec_pick (.tmp 114) (.tmp 115) (.const (.bool false)) (.bool true) rfl (hD 12 114 (by kernel_rfl)) (hD 13 115 (by kernel_rfl))) ?_
       refine sv 16 rfl rfl rfl (fun a u hE hD hk => exec_assign (.tmp 116) _ rfl (hD 14 116 (by kernel_rfl))) ?_
       exact fsteps_nil
      intro gv wy hV ky
      rw [show dstsOf _ 16 = [102, 103, 104, 105, 106, 107, 108, 109, 110, 111, 112, 113, 114, 115, 116, 6] by kernel_rfl]
      simp only [fC, fN, sA, sS, sZ, dS, dZ]
      rw [show gv 6 = .bool true from hV 15 6 (by kernel_rfl)]
      clear hV
      refine wpList_nil ?_
      go_wp2
      go_ret
      exact ⟨rfl, kwr.trans ky⟩
   ·by_cases hg1 : x0.c.rests = true
    ·have hg2 : ¬ nf = 0 := fun h => hg ⟨hg1, h⟩
     go_upto_region 14 with fail
     refine wp_text 13 [.eq (.slice (some ⟨gx, ox, none⟩) m cx), .eq (.pointer (some ⟨gx, ox, none⟩)), .eq (.pointer (some ⟨gx, ox + 11, none⟩)), .eq (.bool true), .eq (.bool false), .eq (.bool false), .eq (.slice (some ⟨gx, ox, none⟩) m cx), .eq (.pointer (some ⟨gx, ox, none⟩)), .eq (.pointer (some ⟨gx, ox + 9, none⟩)), .eq (vf), .eq (.int .i64 (nf : Int)), .eq (.bool true), .eq (.bool true)] rfl (by kernel_rfl) ?_ ?_
     ·refine sv 1 rfl rfl rfl (fun a u hE hD hk => exec_move (.tmp 11) _ rfl (hE 11 (.slice (some ⟨gx, ox, none⟩) m cx) (by kernel_rfl) (by kernel_rfl))) ?_
      refine sv 2 rfl rfl rfl (fun a u hE hD hk => exec_ixo slC (.tmp 70) (.const (.int .i64 0)) (gx) (ox) m cx 0 (ox) (0) rfl (hD 0 70 (by kernel_rfl)) rfl (by first | rfl | omega) ((by omega)) (by first | rfl | omega)) ?_
      refine sv 3 rfl rfl rfl (fun a u hE hD hk => exec_fldo 54 3 11 (.tmp 71) (gx) (ox) (ox + 11) rfl (hD 1 71 (by kernel_rfl)) (by kernel_rfl) rfl) ?_
      refine fsteps_cons 4 rfl (fun a u hE hD hk => f_as (show (x0.c.rests : Bool) = true from hg1) (f_val (o := ⟨some 73, _, _, _, _, _⟩) (.bool x0.c.rests) rfl (wanted_none rfl _) (exec_ldb 4 Try.underlying4 (.tmp 72) ⟨gx, ox + 11, none⟩ (.bool x0.c.rests) rfl (hD 2 72 (by kernel_rfl)) ((range_kept (HX8.out) hk) 11 _ rfl)) rfl)) ?_
      refine sv 5 rfl rfl rfl (fun a u hE hD hk => exec_not _ (.tmp 73) true rfl (hD 3 73 (by kernel_rfl))) ?_
      refine sv 6 rfl rfl rfl (fun a u hE hD hk => exec_move (.tmp 74) _ rfl (hD 4 74 (by kernel_rfl))) ?_
      refine fsteps_cons 7 rfl (fun a u hE hD hk => f_val (o := ⟨some 76, _, _, _, _, _⟩) (.slice (some ⟨gx, ox, none⟩) m cx) rfl (wanted_at (b := false) false rfl rfl (hD 5 75 (by kernel_rfl))) (exec_move (.tmp 11) _ rfl (hE 11 (.slice (some ⟨gx, ox, none⟩) m cx) (by kernel_rfl) (by kernel_rfl))) rfl) ?_
      refine fsteps_cons 8 rfl (fun a u hE hD hk => f_val (o := ⟨some 77, _, _, _, _, _⟩) (.pointer (some ⟨gx, ox, none⟩)) rfl (wanted_at (b := false) false rfl rfl (hD 5 75 (by kernel_rfl))) (exec_ixo slC (.tmp 76) (.const (.int .i64 0)) (gx) (ox) m cx 0 (ox) (0) rfl (hD 6 76 (by kernel_rfl)) rfl (by first | rfl | omega) ((by omega)) (by first | rfl | omega)) rfl) ?_
      refine fsteps_cons 9 rfl (fun a u hE hD hk => f_val (o := ⟨some 78, _, _, _, _, _⟩) (.pointer (some ⟨gx, ox + 9, none⟩)) rfl (wanted_at (b := false) false rfl rfl (hD 5 75 (by kernel_rfl))) (exec_fldo 54 1 9 (.tmp 77) (gx) (ox) (ox + 9) rfl (hD 7 77 (by kernel_rfl)) (by kernel_rfl) rfl) rfl) ?_
      refine fsteps_cons 10 rfl (fun a u hE hD hk => f_val (o := ⟨some 79, _, _, _, _, _⟩) (vf) rfl (wanted_at (b := false) false rfl rfl (hD 5 75 (by kernel_rfl))) (exec_ldv 52 _ Try.underlying52 (.tmp 78) ⟨gx, ox + 9, none⟩ (vf) rfl (hD 8 78 (by kernel_rfl)) ((range_kept (HX8.out) hk) 9 _ rfl)) rfl) ?_
      refine fsteps_cons 11 rfl (fun a u hE hD hk => f_val (o := ⟨some 80, _, _, _, _, _⟩) (.int .i64 (nf : Int)) rfl (wanted_at (b := false) false rfl rfl (hD 5 75 (by kernel_rfl))) (exec_lenS (.tmp 79) slF (vf) (nf) _ _ rfl (hD 9 79 (by kernel_rfl)) (HF8.out.kept hk)) rfl) ?_
      refine fsteps_cons 12 rfl (fun a u hE hD hk => f_as (show ((decide ((0 : Int) < ((nf : Int) : Int))) : Bool) = true from decide_eq_true (by omega)) (f_val (o := ⟨some 81, _, _, _, _, _⟩) (.bool (decide ((0 : Int) < ((nf : Int) : Int)))) rfl (wanted_at (b := false) false rfl rfl (hD 5 75 (by kernel_rfl))) (exec_gtn (p := (nf : Int)) (q := 0) rfl (hD 10 80 (by kernel_rfl)) rfl) rfl)) ?_
      refine sv 13 rfl rfl rfl (fun a u hE hD hk => exec_pickF (.tmp 75) (.const (.bool true)) (.tmp 81) (.bool true) rfl (hD 5 75 (by kernel_rfl)) (hD 11 81 (by kernel_rfl))) ?_
      exact fsteps_nil
     intro gv w9 hV k9
     rw [show dstsOf _ 13 = [70, 71, 72, 73, 74, 75, 76, 77, 78, 79, 80, 81, 82] by kernel_rfl]
     simp only [fC, fN, sA, sS, sZ, dS, dZ]
     rw [show gv 82 = .bool true from hV 12 82 (by kernel_rfl)]
     clear hV
     refine wpList_nil ?_
     have kw9 := kw8.trans k9
     go_upto_region 15 with fail
     refine wp_region_lit ?_
     refine l_call (o := ⟨some 83, _, _, _, _, _⟩) 3 #[] rfl (exec_call 3 _ [] _ _ Try.func3 (by kernel_rfl) (by kernel_rfl) rfl (by kernel_rfl) _) ?_
     refine (changeRuns_any w9).mono ?_
     rintro r wz ⟨rfl, kz⟩
     refine ⟨_, rfl, ?_⟩
     simp only [Act.put, sA, sS, sZ]
     refine l_val (o := ⟨some 6, _, _, _, _, _⟩) (.bool true) rfl (exec_assign (.tmp 83) (.bool true) rfl (by kernel_rfl)) ?_
     simp only [Act.put, sA, sS, sZ]
     refine wpList_nil ?_
     go_wp2
     go_ret
     exact ⟨rfl, kw9.trans kz⟩
    ·have hg2 : x0.c.rests = false := by simpa using hg1
     go_upto_region 14 with fail
     refine wp_text 13 [.eq (.slice (some ⟨gx, ox, none⟩) m cx), .eq (.pointer (some ⟨gx, ox, none⟩)), .eq (.pointer (some ⟨gx, ox + 11, none⟩)), .eq (.bool false), .eq (.bool true), .eq (.bool true), .eq undef, .eq undef, .eq undef, .eq undef, .eq undef, .eq undef, .eq (.bool true)] rfl (by kernel_rfl) ?_ ?_
     ·refine sv 1 rfl rfl rfl (fun a u hE hD hk => exec_move (.tmp 11) _ rfl (hE 11 (.slice (some ⟨gx, ox, none⟩) m cx) (by kernel_rfl) (by kernel_rfl))) ?_
      refine sv 2 rfl rfl rfl (fun a u hE hD hk => exec_ixo slC (.tmp 70) (.const (.int .i64 0)) (gx) (ox) m cx 0 (ox) (0) rfl (hD 0 70 (by kernel_rfl)) rfl (by first | rfl | omega) ((by omega)) (by first | rfl | omega)) ?_
      refine sv 3 rfl rfl rfl (fun a u hE hD hk => exec_fldo 54 3 11 (.tmp 71) (gx) (ox) (ox + 11) rfl (hD 1 71 (by kernel_rfl)) (by kernel_rfl) rfl) ?_
      refine fsteps_cons 4 rfl (fun a u hE hD hk => f_as (show (x0.c.rests : Bool) = false from hg2) (f_val (o := ⟨some 73, _, _, _, _, _⟩) (.bool x0.c.rests) rfl (wanted_none rfl _) (exec_ldb 4 Try.underlying4 (.tmp 72) ⟨gx, ox + 11, none⟩ (.bool x0.c.rests) rfl (hD 2 72 (by kernel_rfl)) ((range_kept (HX8.out) hk) 11 _ rfl)) rfl)) ?_
      refine sv 5 rfl rfl rfl (fun a u hE hD hk => exec_not _ (.tmp 73) false rfl (hD 3 73 (by kernel_rfl))) ?_
      refine sv 6 rfl rfl rfl (fun a u hE hD hk => exec_move (.tmp 74) _ rfl (hD 4 74 (by kernel_rfl))) ?_
      refine fsteps_cons 7 rfl (fun a u hE hD hk => f_skip (o := ⟨some 76, _, _, _, _, _⟩) rfl (wanted_at (b := false) true rfl rfl (hD 5 75 (by kernel_rfl))) rfl) ?_
      refine fsteps_cons 8 rfl (fun a u hE hD hk => f_skip (o := ⟨some 77, _, _, _, _, _⟩) rfl (wanted_at (b := false) true rfl rfl (hD 5 75 (by kernel_rfl))) rfl) ?_
      refine fsteps_cons 9 rfl (fun a u hE hD hk => f_skip (o := ⟨some 78, _, _, _, _, _⟩) rfl (wanted_at (b := false) true rfl rfl (hD 5 75 (by kernel_rfl))) rfl) ?_
      refine fsteps_cons 10 rfl (fun a u hE hD hk => f_skip (o := ⟨some 79, _, _, _, _, _⟩) rfl (wanted_at (b := false) true rfl rfl (hD 5 75 (by kernel_rfl))) rfl) ?_
      refine fsteps_cons 11 rfl (fun a u hE hD hk => f_skip (o := ⟨some 80, _, _, _, _, _⟩) rfl (wanted_at (b := false) true rfl rfl (hD 5 75 (by kernel_rfl))) rfl) ?_
      refine fsteps_cons 12 rfl (fun a u hE hD hk => f_skip (o := ⟨some 81, _, _, _, _, _⟩) rfl (wanted_at (b := false) true rfl rfl (hD 5 75 (by kernel_rfl))) rfl) ?_
      refine sv 13 rfl rfl rfl (fun a u hE hD hk => exec_pick (.tmp 75) (.const (.bool true)) (.tmp 81) (.bool true) rfl (hD 5 75 (by kernel_rfl)) rfl) ?_
      exact fsteps_nil
     intro gv w9 hV k9
     rw [show dstsOf _ 13 = [70, 71, 72, 73, 74, 75, 76, 77, 78, 79, 80, 81, 82] by kernel_rfl]
     simp only [fC, fN, sA, sS, sZ, dS, dZ]
     rw [show gv 82 = .bool true from hV 12 82 (by kernel_rfl)]
     clear hV
     refine wpList_nil ?_
     have kw9 := kw8.trans k9
     go_upto_region 15 with fail
     refine wp_region_lit ?_
     refine l_call (o := ⟨some 83, _, _, _, _, _⟩) 3 #[] rfl (exec_call 3 _ [] _ _ Try.func3 (by kernel_rfl) (by kernel_rfl) rfl (by kernel_rfl) _) ?_
     refine (changeRuns_any w9).mono ?_
     rintro r wz ⟨rfl, kz⟩
     refine ⟨_, rfl, ?_⟩
     simp only [Act.put, sA, sS, sZ]
     refine l_val (o := ⟨some 6, _, _, _, _, _⟩) (.bool true) rfl (exec_assign (.tmp 83) (.bool true) rfl (by kernel_rfl)) ?_
     simp only [Act.put, sA, sS, sZ]
     refine wpList_nil ?_
     go_wp2
     go_ret
     exact ⟨rfl, kw9.trans kz⟩
  ·skip
   go_upto_region 9 with fail
   refine wp_text 3 [.eq (.pointer (some ⟨b10, 4, none⟩)), .eq (.int .i64 x.k), .eq (.bool true)] rfl (by kernel_rfl) ?_ ?_
   ·refine sv 1 rfl rfl rfl (fun a u hE hD hk => exec_fldo 24 4 4 (.tmp 10) (b10) (0) (4) rfl (hE 10 (.pointer (some ⟨b10, 0, none⟩)) (by kernel_rfl) (by kernel_rfl)) (by kernel_rfl) rfl) ?_
    refine sv 2 rfl rfl rfl (fun a u hE hD hk => exec_loadi 3 Try.underlying3 (.tmp 43) ⟨b10, 4, none⟩ (.int .i64 x.k) rfl (hD 0 43 (by kernel_rfl)) (range_int (range_kept HOa.out hk) 4 _ rfl)) ?_
    refine fsteps_cons 3 rfl (fun a u hE hD hk => f_as (show ((decide ((x.k : Int) ≠ (1 : Int))) : Bool) = true from decide_eq_true hk1) (f_val (o := ⟨some 45, _, _, _, _, _⟩) (.bool (decide ((x.k : Int) ≠ (1 : Int)))) rfl (wanted_none rfl _) (exec_nen (p := x.k) (q := 1) rfl (hD 1 44 (by kernel_rfl)) rfl) rfl)) ?_
    exact fsteps_nil
   intro gv w6 hV k6
   rw [show dstsOf _ 3 = [43, 44, 45] by kernel_rfl]
   simp only [fC, fN, sA, sS, sZ, dS, dZ]
   rw [show gv 45 = .bool true from hV 2 45 (by kernel_rfl)]
   clear hV
   refine wpList_nil ?_
   have kw6 := kwa.trans k6
   go_upto_region 10 with fail
   refine wp_region_lit ?_
   refine l_call (o := ⟨some 46, _, _, _, _, _⟩) 3 #[] rfl (exec_call 3 _ [] _ _ Try.func3 (by kernel_rfl) (by kernel_rfl) rfl (by kernel_rfl) _) ?_
   refine (changeRuns_any w6).mono ?_
   rintro r wz ⟨rfl, kz⟩
   refine ⟨_, rfl, ?_⟩
   simp only [Act.put, sA, sS, sZ]
   refine l_val (o := ⟨some 6, _, _, _, _, _⟩) (.bool true) rfl (exec_assign (.tmp 46) (.bool true) rfl (by kernel_rfl)) ?_
   simp only [Act.put, sA, sS, sZ]
   refine wpList_nil ?_
   go_wp2
   go_ret
   exact ⟨rfl, kw6.trans kz⟩
end Go.Proofs.Ytklohceombpleaa
