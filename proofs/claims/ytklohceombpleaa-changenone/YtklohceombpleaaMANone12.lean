/-
 The walk of ChangeNone. No condition.
-/
import Derived.Test.YtklohceombpleaaQA05
set_option linter.unusedVariables false
namespace Go.Proofs.Ytklohceombpleaa
open Go.RowKit
set_option maxRecDepth 100000
set_option maxRecDepth 100000 in
set_option maxHeartbeats 6400000 in
theorem changeNone_any (v : Value) (l : List Kq) (t i at_ n : Int) (w : World) (hl : Kqs w v l) : Calls Try.prog 6 #[v, .int .i64 t, .int .i64 i, .int .i64 at_, .int .i64 n] w fun e w' => e = .returned (.bool true) ∧ Kept w w' := by
 have HIN := Lib.hid (fillM_inv (l.take 40))
 have HNo : Hid ((fillM (l.take 40)).b.no ≤ 3000000000) := by
  have h1 := HIN.out.2
  have h2 : (l.take 40).length ≤ 40 := by rw [List.length_take]; omega
  show _ ≤ _
  omega
 have HI := Lib.hid HIN.out.1
 have HMM : Hid (∀ (u : World), Kept w u → Calls Try.prog 11 #[v] u fun e w' => ∃ p F, e = .returned (.pointer (some ⟨p, 0, none⟩)) ∧ Mk w' F p (fillM (l.take 40)) ∧ Grow u (fun _ => False) F ∧ Kept u w') := fun u hu => mfilled_any v l u (hl.kept hu)
 clear HIN
 generalize fillM (l.take 40) = M at HI HNo HMM
 clear hl
 go_enter Try.func6, Try.ntmps6
 go_upto_region 1 with fail
 refine wp_region_lit ?_
 refine l_val (o := ⟨some 22, _, _, _, _, _⟩) (v) rfl (exec_move (.tmp 0) (v) rfl (by kernel_rfl)) ?_
 simp only [Act.put, sA, sS, sZ]
 refine l_call (o := ⟨some 23, _, _, _, _, _⟩) 11 #[v] rfl (exec_call 11 _ [.tmp 22] _ _ Try.func11 (by kernel_rfl) (by kernel_rfl) rfl (by kernel_rfl) _) ?_
 refine (HMM.out w (Kept.refl _)).mono ?_
 rintro r w1 ⟨p, F, rfl, hMp, hGp, kcw1⟩
 refine ⟨_, rfl, ?_⟩
 have kww1 := kcw1
 simp only [Act.put, sA, sS, sZ]
 refine l_val (o := ⟨some 11, _, _, _, _, _⟩) (.pointer (some ⟨p, 0, none⟩)) rfl (exec_assign (.tmp 23) (.pointer (some ⟨p, 0, none⟩)) rfl (by kernel_rfl)) ?_
 simp only [Act.put, sA, sS, sZ]
 refine wpList_nil ?_
 have HM1 := Lib.hid hMp
 have HF : Hid (∀ b, F b → w.heap.size ≤ b) := fun b hb => (hGp b hb).elim (fun h => h.elim) id
 have k1 := kww1
 clear hMp hGp kcw1 kww1 HMM
 obtain ⟨X, hX⟩ : ∃ X, M.all = X := ⟨_, rfl⟩
 obtain ⟨an, han⟩ : ∃ an, X.length = an := ⟨_, rfl⟩
 have hal : an ≤ 64 := by rw [← han, ← hX]; exact HI.out.all_few
 have hwl : M.w.length ≤ 64 := by have := HI.out.few; omega
 have HAN := Lib.hid han
 have HXX := Lib.hid hX
 clear hX han
 go_upto_region 2 with fail
 refine wp_text 2 [.eq (.pointer (some ⟨p, 0, none⟩)), .eq (.bool false)] rfl (by kernel_rfl) ?_ ?_
 ·refine sv 1 rfl rfl rfl (fun a u hE hD hk => exec_move (.tmp 11) _ rfl (hE 11 (.pointer (some ⟨p, 0, none⟩)) (by kernel_rfl) (by kernel_rfl))) ?_
  refine sv 2 rfl rfl rfl (fun a u hE hD hk => exec_eqP (.tmp 24) _ _ ⟨p, 0, none⟩ (by kernel_rfl) rfl (hD 0 24 (by kernel_rfl))) ?_
  exact fsteps_nil
 intro gv w2 hV k2
 rw [show dstsOf _ 2 = [24, 25] by kernel_rfl]
 simp only [fC, fN, sA, sS, sZ, dS, dZ]
 rw [show gv 25 = .bool false from hV 1 25 (by kernel_rfl)]
 clear hV
 refine wpList_nil ?_
 have HM2 := Lib.hid (HM1.out.kept k2)
 have kw2 := k1.trans k2
 clear HM1 k1 k2
 go_upto_region 4 with fail
 refine wp_text 3 [.eq (.pointer (some ⟨p, 0, none⟩)), .sl w2.heap.size 24 9 an (ords X), .sl w2.heap.size 24 9 an (ords X)] rfl (by kernel_rfl) ?_ ?_
 ·refine sv 1 rfl rfl rfl (fun a u hE hD hk => exec_move (.tmp 11) _ rfl (hE 11 (.pointer (some ⟨p, 0, none⟩)) (by kernel_rfl) (by kernel_rfl))) ?_
  refine fsteps_cons 2 rfl (fun a u hE hD hk => f_call (o := ⟨some 27, _, _, _, _, _⟩) 13 #[.pointer (some ⟨p, 0, none⟩)] rfl (wanted_none rfl _) (exec_call 13 _ [.tmp 26] _ [.pointer (some ⟨p, 0, none⟩)] Try.func13 (by kernel_rfl) (by kernel_rfl) rfl (show [a.eval (.tmp 26)] = [.pointer (some ⟨p, 0, none⟩)] from (by rw [show a.eval (.tmp 26) = .pointer (some ⟨p, 0, none⟩) from (hD 0 26 (by kernel_rfl))] <;> rfl)) u) ((by rw [← HAN.out, ← HXX.out]; exact (mall_any u F p M (HM2.out.kept hk) HI.out.inv (by omega)).base hk.size))) ?_
  refine fsteps_cons 3 rfl (fun a u hE hD hk => f_val (o := ⟨some 12, _, _, _, _, _⟩) (a.eval (.tmp 27)) rfl (wanted_none rfl _) (exec_assign (.tmp 27) _ rfl rfl) (hD 1 27 (by kernel_rfl))) ?_
  exact fsteps_nil
 intro gv w3 hV k3
 rw [show dstsOf _ 3 = [26, 27, 12] by kernel_rfl]
 simp only [fC, fN, sA, sS, sZ, dS, dZ]
 have hv12 : (.sl w2.heap.size 24 9 an (ords X) : Kn).p (gv 12) w3 := hV 2 12 (by kernel_rfl)
 generalize gv 12 = v12 at hv12 ⊢
 clear hV
 refine wpList_nil ?_
 obtain ⟨va, hva⟩ : ∃ x, x = v12 := ⟨_, rfl⟩
 subst hva
 have HM3 := Lib.hid (HM2.out.kept k3)
 have HA3 := Lib.hid hv12.1
 have HV3 : Hid (∀ b, va.ownBlock = some b → ¬ F b) := fun b hb h => by have := hv12.2 b hb; have := HM2.out.lt b h; omega
 have kw3 := kw2.trans k3
 clear hv12 HM2 kw2 k3
 obtain ⟨y, th, hy⟩ : ∃ y th, M.find t i = (y, th) := ⟨_, _, rfl⟩
 have HY := Lib.hid hy
 clear hy
 go_upto_region 5 with fail
 refine wp_text 7 [.eq (.pointer (some ⟨p, 0, none⟩)), .eq (.int .i64 t), .eq (.int .i64 i), .eq (.tuple #[y.v, .bool th]), .eq (.tuple #[y.v, .bool th]), .eq (y.v), .eq (.bool th)] rfl (by kernel_rfl) ?_ ?_
 ·refine sv 1 rfl rfl rfl (fun a u hE hD hk => exec_move (.tmp 11) _ rfl (hE 11 (.pointer (some ⟨p, 0, none⟩)) (by kernel_rfl) (by kernel_rfl))) ?_
  refine sv 2 rfl rfl rfl (fun a u hE hD hk => exec_move (.tmp 1) _ rfl (hE 1 (.int .i64 t) (by kernel_rfl) (by kernel_rfl))) ?_
  refine sv 3 rfl rfl rfl (fun a u hE hD hk => exec_move (.tmp 2) _ rfl (hE 2 (.int .i64 i) (by kernel_rfl) (by kernel_rfl))) ?_
  refine fsteps_cons 4 rfl (fun a u hE hD hk => f_call (o := ⟨some 32, _, _, _, _, _⟩) 21 #[.pointer (some ⟨p, 0, none⟩), .int .i64 t, .int .i64 i] rfl (wanted_none rfl _) (exec_call 21 _ [.tmp 29, .tmp 30, .tmp 31] _ [.pointer (some ⟨p, 0, none⟩), .int .i64 t, .int .i64 i] Try.func21 (by kernel_rfl) (by kernel_rfl) rfl (show [a.eval (.tmp 29), a.eval (.tmp 30), a.eval (.tmp 31)] = [.pointer (some ⟨p, 0, none⟩), .int .i64 t, .int .i64 i] from (by rw [show a.eval (.tmp 29) = .pointer (some ⟨p, 0, none⟩) from (hD 0 29 (by kernel_rfl)), show a.eval (.tmp 30) = .int .i64 t from (hD 1 30 (by kernel_rfl)), show a.eval (.tmp 31) = .int .i64 i from (hD 2 31 (by kernel_rfl))] <;> rfl)) u) ((by have h := mfind_any u F p M t i (HM3.out.kept hk) HI.out.inv (by omega); rw [HY.out] at h; exact h))) ?_
  refine sv 5 rfl rfl rfl (fun a u hE hD hk => exec_move (.tmp 32) _ rfl (hD 3 32 (by kernel_rfl))) ?_
  refine sv 6 rfl rfl rfl (fun a u hE hD hk => exec_extract (.tmp 28) [y.v, .bool th] 0 (y.v) rfl (hD 4 28 (by kernel_rfl)) rfl) ?_
  refine sv 7 rfl rfl rfl (fun a u hE hD hk => exec_extract (.tmp 28) [y.v, .bool th] 1 (.bool th) rfl (hD 4 28 (by kernel_rfl)) rfl) ?_
  exact fsteps_nil
 intro gv w4 hV k4
 rw [show dstsOf _ 7 = [29, 30, 31, 32, 28, 33, 34] by kernel_rfl]
 simp only [fC, fN, sA, sS, sZ, dS, dZ]
 rw [show gv 33 = y.v from hV 5 33 (by kernel_rfl)]
 rw [show gv 34 = .bool th from hV 6 34 (by kernel_rfl)]
 clear hV
 refine l_new (o := ⟨some 13, _, _, _, _, _⟩) (.pointer (some ⟨w4.heap.size, 0, none⟩)) (w4.alloc (.cells zeroO.cells.toArray 24)) rfl (exec_alc 24 zeroO.cells rfl zO) ?_
 have hNw5 := Blk.new w4 24 zeroO.cells
 have kw5 : Kept w4 (w4.alloc (.cells zeroO.cells.toArray 24)) := (Keep.refl _ w4).alloc _
 generalize w4.alloc (.cells zeroO.cells.toArray 24) = w5 at hNw5 kw5 ⊢
 simp only [Act.put, sA, sS, sZ]
 refine l_setS (o := ⟨none, _, _, _, _, _⟩) 24 w4.heap.size 24 zeroO.cells y.cells (.tmp 13) (.tmp 33) rfl rfl (by kernel_rfl) (by kernel_rfl) (hNw5) (by rw [Ord.len9]; exact ord_size) (by rw [Ord.len9, Ord.len9]) (Ord.one1 _) ?_
 intro w6 hCw6 hkw6 hsw6
 simp only [Act.put]
 refine l_val (o := ⟨some 14, _, _, _, _, _⟩) (.bool th) rfl (exec_assign (.tmp 34) (.bool th) rfl (by kernel_rfl)) ?_
 simp only [Act.put, sA, sS, sZ]
 refine wpList_nil ?_
 have k36 : Kept w3 w6 := (k4.trans kw5).trans' hkw6 (by have := k4.size; omega)
 have HM6 := Lib.hid (HM3.out.kept k36)
 have HA6 := Lib.hid (HA3.out.kept k36)
 have HV6 := HV3
 have kw6 := kw3.trans k36
 clear hNw5 hCw6 hkw6 hsw6 kw5 k4 k36 kw3 HM3 HA3 HV3
 cases th with
 | false =>
  have HAN6 : Hid (M.amend t i 100 1 = ([], 6, M)) := amend_none (by rw [HY.out])
  go_upto_region 7 with fail
  refine wp_text 3 [.eq (.pointer (some ⟨p, 0, none⟩)), .eq (.int .i64 t), .eq (.int .i64 i)] rfl (by kernel_rfl) ?_ ?_
  ·refine sv 1 rfl rfl rfl (fun a u hE hD hk => exec_move (.tmp 11) _ rfl (hE 11 (.pointer (some ⟨p, 0, none⟩)) (by kernel_rfl) (by kernel_rfl))) ?_
   refine sv 2 rfl rfl rfl (fun a u hE hD hk => exec_move (.tmp 1) _ rfl (hE 1 (.int .i64 t) (by kernel_rfl) (by kernel_rfl))) ?_
   refine sv 3 rfl rfl rfl (fun a u hE hD hk => exec_move (.tmp 2) _ rfl (hE 2 (.int .i64 i) (by kernel_rfl) (by kernel_rfl))) ?_
   exact fsteps_nil
  intro gv w7 hV k7
  rw [show dstsOf _ 3 = [38, 39, 40] by kernel_rfl]
  simp only [fC, fN, sA, sS, sZ, dS, dZ]
  rw [show gv 38 = .pointer (some ⟨p, 0, none⟩) from hV 0 38 (by kernel_rfl)]
  rw [show gv 39 = .int .i64 t from hV 1 39 (by kernel_rfl)]
  rw [show gv 40 = .int .i64 i from hV 2 40 (by kernel_rfl)]
  clear hV
  refine l_call (o := ⟨some 41, _, _, _, _, _⟩) 17 #[.pointer (some ⟨p, 0, none⟩), .int .i64 t, .int .i64 i, .int .i64 100, .int .i64 1] rfl (exec_call 17 _ [.tmp 38, .tmp 39, .tmp 40, .const (.int .i64 100), .const (.int .i64 1)] _ _ Try.func17 (by kernel_rfl) (by kernel_rfl) rfl (by kernel_rfl) _) ?_
  refine (mamend_at w7 F p M t i 100 1 _ HAN6.out (HM6.out.kept k7) HI.out (by have := HNo.out; omega)).mono ?_
  rintro r w8 ⟨F8, v15, Z8, rfl, hM8, hO8, hG8, hk8⟩
  refine ⟨.tuple #[v15, .int .i64 6], rfl, ?_⟩
  simp only [Act.put, sA, sS, sZ]
  refine l_val (o := ⟨some 37, _, _, _, _, _⟩) (.tuple #[v15, .int .i64 6]) rfl (exec_move (.tmp 41) (.tuple #[v15, .int .i64 6]) rfl (by kernel_rfl)) ?_
  simp only [Act.put, sA, sS, sZ]
  refine l_val (o := ⟨some 42, _, _, _, _, _⟩) (v15) rfl (exec_extract (.tmp 37) [v15, .int .i64 6] 0 (v15) rfl (by kernel_rfl) rfl) ?_
  simp only [Act.put, sA, sS, sZ]
  refine l_val (o := ⟨some 43, _, _, _, _, _⟩) (.int .i64 6) rfl (exec_extract (.tmp 37) [v15, .int .i64 6] 1 (.int .i64 6) rfl (by kernel_rfl) rfl) ?_
  simp only [Act.put, sA, sS, sZ]
  refine l_val (o := ⟨some 15, _, _, _, _, _⟩) (v15) rfl (exec_assign (.tmp 42) (v15) rfl (by kernel_rfl)) ?_
  simp only [Act.put, sA, sS, sZ]
  refine l_val (o := ⟨some 16, _, _, _, _, _⟩) (.int .i64 6) rfl (exec_assign (.tmp 43) (.int .i64 6) rfl (by kernel_rfl)) ?_
  simp only [Act.put, sA, sS, sZ]
  refine wpList_nil ?_
  obtain ⟨kw8, HF8, hA8, hV8⟩ := amd_frame (kw6.trans k7) HF.out (HA6.out.kept k7) HV6.out hG8 hk8
  have HA8 := Lib.hid hA8
  have HV8 := Lib.hid hV8
  have HM8 := Lib.hid hM8
  have HR8 := Lib.hid (outs_none hO8)
  clear hA8 hV8 hM8 hO8 hG8 hk8 HM6 HA6 HV6 kw6 k7 HF
  go_upto_region 8 with fail
  refine wp_text 7 [.eq (.int .i64 6), .eq (.bool false), .eq (.bool false), .eq (v15), .eq (.int .i64 (0 : Int)), .eq (.bool false), .eq (.bool false)] rfl (by kernel_rfl) ?_ ?_
  ·refine sv 1 rfl rfl rfl (fun a u hE hD hk => exec_move (.tmp 16) _ rfl (hE 16 (.int .i64 6) (by kernel_rfl) (by kernel_rfl))) ?_
   refine fsteps_cons 2 rfl (fun a u hE hD hk => f_as (show ((decide ((6 : Int) ≠ (6 : Int))) : Bool) = false from by decide) (f_val (o := ⟨some 45, _, _, _, _, _⟩) (.bool (decide ((6 : Int) ≠ (6 : Int)))) rfl (wanted_none rfl _) (exec_nen (p := 6) (q := 6) rfl (hD 0 44 (by kernel_rfl)) rfl) rfl)) ?_
   refine sv 3 rfl rfl rfl (fun a u hE hD hk => exec_move (.tmp 45) _ rfl (hD 1 45 (by kernel_rfl))) ?_
   refine fsteps_cons 4 rfl (fun a u hE hD hk => f_val (o := ⟨some 47, _, _, _, _, _⟩) (v15) rfl (wanted_at (b := false) false rfl rfl (hD 2 46 (by kernel_rfl))) (exec_move (.tmp 15) _ rfl (hE 15 (v15) (by kernel_rfl) (by kernel_rfl))) rfl) ?_
   refine fsteps_cons 5 rfl (fun a u hE hD hk => f_val (o := ⟨some 48, _, _, _, _, _⟩) (.int .i64 (0 : Int)) rfl (wanted_at (b := false) false rfl rfl (hD 2 46 (by kernel_rfl))) (exec_lenS (.tmp 47) slC (v15) (0) _ _ rfl (hD 3 47 (by kernel_rfl)) (HR8.out.kept hk)) rfl) ?_
   refine fsteps_cons 6 rfl (fun a u hE hD hk => f_as (show ((decide (((0 : Int) : Int) ≠ (0 : Int))) : Bool) = false from by decide) (f_val (o := ⟨some 49, _, _, _, _, _⟩) (.bool (decide (((0 : Int) : Int) ≠ (0 : Int)))) rfl (wanted_at (b := false) false rfl rfl (hD 2 46 (by kernel_rfl))) (exec_nen (p := (0 : Int)) (q := 0) rfl (hD 4 48 (by kernel_rfl)) rfl) rfl)) ?_
   refine sv 7 rfl rfl rfl (fun a u hE hD hk => exec_pickF (.tmp 46) (.const (.bool true)) (.tmp 49) (.bool false) rfl (hD 2 46 (by kernel_rfl)) (hD 5 49 (by kernel_rfl))) ?_
   exact fsteps_nil
  intro gv w9 hV k9
  rw [show dstsOf _ 7 = [44, 45, 46, 47, 48, 49, 50] by kernel_rfl]
  simp only [fC, fN, sA, sS, sZ, dS, dZ]
  rw [show gv 50 = .bool false from hV 6 50 (by kernel_rfl)]
  clear hV
  refine wpList_nil ?_
  have HM9 := Lib.hid (HM8.out.kept k9)
  have HA9 := Lib.hid (HA8.out.kept k9)
  have kww9 := kw8.trans k9
  clear HM8 HA8 kw8 k9 HR8
  have h0 : an = 0 ∨ 0 < an := by omega
  rcases h0 with h0 | h0
  ·go_upto_region 10 with fail
   refine wp_text 3 [.eq (va), .eq (.int .i64 (an : Int)), .eq (.bool false)] rfl (by kernel_rfl) ?_ ?_
   ·refine sv 1 rfl rfl rfl (fun a u hE hD hk => exec_move (.tmp 12) _ rfl (hE 12 (va) (by kernel_rfl) (by kernel_rfl))) ?_
    refine sv 2 rfl rfl rfl (fun a u hE hD hk => exec_lenS (.tmp 51) slO (va) (an) _ _ rfl (hD 0 51 (by kernel_rfl)) (HA9.out.kept hk)) ?_
    refine fsteps_cons 3 rfl (fun a u hE hD hk => f_as (show ((decide ((0 : Int) < ((an : Int) : Int))) : Bool) = false from decide_eq_false (by omega)) (f_val (o := ⟨some 53, _, _, _, _, _⟩) (.bool (decide ((0 : Int) < ((an : Int) : Int)))) rfl (wanted_none rfl _) (exec_gtn (p := (an : Int)) (q := 0) rfl (hD 1 52 (by kernel_rfl)) rfl) rfl)) ?_
    exact fsteps_nil
   intro gv wy hV ky
   rw [show dstsOf _ 3 = [51, 52, 53] by kernel_rfl]
   simp only [fC, fN, sA, sS, sZ, dS, dZ]
   rw [show gv 53 = .bool false from hV 2 53 (by kernel_rfl)]
   clear hV
   refine wpList_nil ?_
   have HMz := Lib.hid (HM9.out.kept ky)
   have HAz := Lib.hid (HA9.out.kept ky)
   have kwy := kww9.trans ky
   clear HM9 HA9 kww9 ky
   go_upto_region 16 with fail
   refine wp_text 8 [.eq (.pointer (some ⟨p, 0, none⟩)), .sl wy.heap.size 24 9 an (ords X), .eq (va), .eq (.bool true), .eq (.bool true), .eq (.bool true), .eq (.bool true), .eq (.bool true)] rfl (by kernel_rfl) ?_ ?_
   ·refine sv 1 rfl rfl rfl (fun a u hE hD hk => exec_move (.tmp 11) _ rfl (hE 11 (.pointer (some ⟨p, 0, none⟩)) (by kernel_rfl) (by kernel_rfl))) ?_
    refine fsteps_cons 2 rfl (fun a u hE hD hk => f_call (o := ⟨some 107, _, _, _, _, _⟩) 13 #[.pointer (some ⟨p, 0, none⟩)] rfl (wanted_none rfl _) (exec_call 13 _ [.tmp 106] _ [.pointer (some ⟨p, 0, none⟩)] Try.func13 (by kernel_rfl) (by kernel_rfl) rfl (show [a.eval (.tmp 106)] = [.pointer (some ⟨p, 0, none⟩)] from (by rw [show a.eval (.tmp 106) = .pointer (some ⟨p, 0, none⟩) from (hD 0 106 (by kernel_rfl))] <;> rfl)) u) ((by rw [← HAN.out, ← HXX.out]; exact (mall_any u _ p M (HMz.out.kept hk) HI.out.inv (by omega)).base hk.size))) ?_
    refine sv 3 rfl rfl rfl (fun a u hE hD hk => exec_move (.tmp 12) _ rfl (hE 12 (va) (by kernel_rfl) (by kernel_rfl))) ?_
    refine fsteps_cons 4 rfl (fun a u hE hD hk => f_call (o := ⟨some 109, _, _, _, _, _⟩) 19 #[a.eval (.tmp 107), va] rfl (wanted_none rfl _) (exec_call 19 _ [.tmp 107, .tmp 108] _ [a.eval (.tmp 107), va] Try.func19 (by kernel_rfl) (by kernel_rfl) rfl (show [a.eval (.tmp 107), a.eval (.tmp 108)] = [a.eval (.tmp 107), va] from (by rw [show a.eval (.tmp 108) = va from (hD 2 108 (by kernel_rfl))] <;> rfl)) u) ((by have h := sameO_any (a.eval (.tmp 107)) va 0 0 X X u (by rw [HAN.out]; exact (hD 1 107 (by kernel_rfl)).1) (by rw [HAN.out]; exact HAz.out.kept hk) (by have := HAN.out; omega) (by have := HAN.out; omega); rw [decide_eq_true rfl] at h; exact h))) ?_
    refine sv 5 rfl rfl rfl (fun a u hE hD hk => exec_move (.tmp 109) _ rfl (hD 3 109 (by kernel_rfl))) ?_
    refine fsteps_cons 6 rfl (fun a u hE hD hk => f_call (o := ⟨some 111, _, _, _, _, _⟩) 3 #[] rfl (wanted_at (b := true) true rfl rfl (hD 4 110 (by kernel_rfl))) (exec_call 3 _ [] _ [] Try.func3 (by kernel_rfl) (by kernel_rfl) rfl rfl u) (cruns_gives u)) ?_
    refine sv 7 rfl rfl rfl (fun a u hE hD hk => exec_pick (.tmp 110) (.tmp 111) (.const (.bool false)) (.bool true) rfl (hD 4 110 (by kernel_rfl)) (hD 5 111 (by kernel_rfl))) ?_
    refine sv 8 rfl rfl rfl (fun a u hE hD hk => exec_assign (.tmp 112) _ rfl (hD 6 112 (by kernel_rfl))) ?_
    exact fsteps_nil
   intro gv wz hV kz
   rw [show dstsOf _ 8 = [106, 107, 108, 109, 110, 111, 112, 10] by kernel_rfl]
   simp only [fC, fN, sA, sS, sZ, dS, dZ]
   rw [show gv 10 = .bool true from hV 7 10 (by kernel_rfl)]
   clear hV
   refine wpList_nil ?_
   go_wp2
   go_ret
   exact ⟨rfl, kwy.trans kz⟩
  ·obtain ⟨kI, hkI⟩ : ∃ kI, wi at_ 0 ((an : Int) - 1) = kI := ⟨_, rfl⟩
   have hk0 : 0 ≤ kI ∧ kI ≤ (an : Int) - 1 := by rw [← hkI]; exact wi_in at_ 0 _ (by omega)
   obtain ⟨kx, rfl⟩ : ∃ kx : Nat, kI = (kx : Int) := ⟨kI.toNat, by omega⟩
   have hkn : kx < an := by omega
   have HKI := Lib.hid hkI
   obtain ⟨o, ho⟩ : ∃ o, X[kx]? = some o := ⟨X[kx]'(by rw [HAN.out]; exact hkn), List.getElem?_eq_getElem _⟩
   have HFO : Hid (M.find o.tr o.id = (o, true)) := find_all_at HI.out (by rw [HXX.out]; exact ho)
   have hfo := HI.out.fair o (by rw [HXX.out]; exact List.mem_of_getElem? ho)
   obtain ⟨n9, hn9⟩ : ∃ n9, wi n 0 9 = n9 := ⟨_, rfl⟩
   have hn0 : 0 ≤ n9 ∧ n9 ≤ 9 := by rw [← hn9]; exact wi_in n 0 9 (by omega)
   have HW9 : Hid (∀ u, Gives 16 #[.int .i64 n, .int .i64 0, .int .i64 9] u (.eq (.int .i64 n9))) := fun u => by rw [← hn9]; exact within_is n 0 9 u (by omega) (by omega) (by omega)
   have HwbA : Hid (M.amend o.tr o.id o.price (-n9) = ([], 1, M)) := amend_bad HFO.out (chg_low (by omega))
   have HwcA : Hid (M.amend o.tr o.id (1048577 + n9) o.qty = ([], 1, M)) := amend_bad HFO.out (chg_high (by omega))
   obtain ⟨ga, oa, ca, rfl⟩ := HA9.out.some_ (by omega)
   have HE : Hid (w9.rangeAt ga (oa + kx * 9) o.cells) := HA9.out.rngO kx o ho
   clear hkI ho hn9 hfo
   go_upto_region 10 with fail
   refine wp_text 3 [.eq (.slice (some ⟨ga, oa, none⟩) an ca), .eq (.int .i64 (an : Int)), .eq (.bool true)] rfl (by kernel_rfl) ?_ ?_
   ·refine sv 1 rfl rfl rfl (fun a u hE hD hk => exec_move (.tmp 12) _ rfl (hE 12 (.slice (some ⟨ga, oa, none⟩) an ca) (by kernel_rfl) (by kernel_rfl))) ?_
    refine sv 2 rfl rfl rfl (fun a u hE hD hk => exec_len (.tmp 51) _ _ slO.und (some ⟨ga, oa, none⟩) an ca rfl (hD 0 51 (by kernel_rfl))) ?_
    refine fsteps_cons 3 rfl (fun a u hE hD hk => f_as (show ((decide ((0 : Int) < ((an : Int) : Int))) : Bool) = true from decide_eq_true (by omega)) (f_val (o := ⟨some 53, _, _, _, _, _⟩) (.bool (decide ((0 : Int) < ((an : Int) : Int)))) rfl (wanted_none rfl _) (exec_gtn (p := (an : Int)) (q := 0) rfl (hD 1 52 (by kernel_rfl)) rfl) rfl)) ?_
    exact fsteps_nil
   intro gv wy hV ky
   rw [show dstsOf _ 3 = [51, 52, 53] by kernel_rfl]
   simp only [fC, fN, sA, sS, sZ, dS, dZ]
   rw [show gv 53 = .bool true from hV 2 53 (by kernel_rfl)]
   clear hV
   refine wpList_nil ?_
   have HMwy := Lib.hid (HM9.out.kept ky)
   have HAwy := Lib.hid (HA9.out.kept ky)
   have kwwy := kww9.trans ky
   have HEy := Lib.hid (range_kept HE.out ky)
   clear HM9 HA9 kww9 ky HE
   go_upto_region 11 with fail
   refine wp_text 8 [.eq (.slice (some ⟨ga, oa, none⟩) an ca), .eq (.int .i64 at_), .eq (.slice (some ⟨ga, oa, none⟩) an ca), .eq (.int .i64 (an : Int)), .eq (.int .i64 (((an : Int) : Int) - (1 : Int))), .eq (.int .i64 (kx : Int)), .eq (.pointer (some ⟨ga, oa + kx * 9, none⟩)), .eq (o.v)] rfl (by kernel_rfl) ?_ ?_
   ·refine sv 1 rfl rfl rfl (fun a u hE hD hk => exec_move (.tmp 12) _ rfl (hE 12 (.slice (some ⟨ga, oa, none⟩) an ca) (by kernel_rfl) (by kernel_rfl))) ?_
    refine sv 2 rfl rfl rfl (fun a u hE hD hk => exec_move (.tmp 3) _ rfl (hE 3 (.int .i64 at_) (by kernel_rfl) (by kernel_rfl))) ?_
    refine sv 3 rfl rfl rfl (fun a u hE hD hk => exec_move (.tmp 12) _ rfl (hE 12 (.slice (some ⟨ga, oa, none⟩) an ca) (by kernel_rfl) (by kernel_rfl))) ?_
    refine sv 4 rfl rfl rfl (fun a u hE hD hk => exec_len (.tmp 56) _ _ slO.und (some ⟨ga, oa, none⟩) an ca rfl (hD 2 56 (by kernel_rfl))) ?_
    refine sv 5 rfl rfl rfl (fun a u hE hD hk => exec_subn (p := ((an : Int))) (q := (1)) (((an : Int) : Int) - (1 : Int)) rfl (hD 3 57 (by kernel_rfl)) rfl rfl (by omega) (by omega)) ?_
    refine fsteps_cons 6 rfl (fun a u hE hD hk => f_call (o := ⟨some 59, _, _, _, _, _⟩) 16 #[.int .i64 at_, .int .i64 0, .int .i64 (((an : Int) : Int) - (1 : Int))] rfl (wanted_none rfl _) (exec_call 16 _ [.tmp 55, .const (.int .i64 0), .tmp 58] _ [.int .i64 at_, .int .i64 0, .int .i64 (((an : Int) : Int) - (1 : Int))] Try.func16 (by kernel_rfl) (by kernel_rfl) rfl (show [a.eval (.tmp 55), a.eval (.const (.int .i64 0)), a.eval (.tmp 58)] = [.int .i64 at_, .int .i64 0, .int .i64 (((an : Int) : Int) - (1 : Int))] from (by rw [show a.eval (.tmp 55) = .int .i64 at_ from (hD 1 55 (by kernel_rfl)), show a.eval (.tmp 58) = .int .i64 (((an : Int) : Int) - (1 : Int)) from (hD 4 58 (by kernel_rfl))] <;> rfl)) u) ((by rw [← HKI.out]; exact within_is at_ 0 ((an : Int) - 1) u (by omega) (by omega) (by omega)))) ?_
    refine sv 7 rfl rfl rfl (fun a u hE hD hk => exec_ixo slO (.tmp 54) (.tmp 59) (ga) (oa) an ca kx (oa + kx * 9) ((kx : Int)) rfl (hD 0 54 (by kernel_rfl)) (hD 5 59 (by kernel_rfl)) (by first | rfl | omega) (hkn) (by first | rfl | omega)) ?_
    refine sv 8 rfl rfl rfl (fun a u hE hD hk => exec_ldS 24 _ (.tmp 60) (ga) (oa + kx * 9) (o.cells) rfl (hD 6 60 (by kernel_rfl)) (range_kept HEy.out hk) Try.underlying24 (by rw [o.len9]; exact ord_size)) ?_
    exact fsteps_nil
   intro gv wa0 hV ka0
   rw [show dstsOf _ 8 = [54, 55, 56, 57, 58, 59, 60, 61] by kernel_rfl]
   simp only [fC, fN, sA, sS, sZ, dS, dZ]
   rw [show gv 61 = o.v from hV 7 61 (by kernel_rfl)]
   clear hV
   refine l_new (o := ⟨some 17, _, _, _, _, _⟩) (.pointer (some ⟨wa0.heap.size, 0, none⟩)) (wa0.alloc (.cells zeroO.cells.toArray 24)) rfl (exec_alc 24 zeroO.cells rfl zO) ?_
   have hNwa1 := Blk.new wa0 24 zeroO.cells
   have kwa1 : Kept wa0 (wa0.alloc (.cells zeroO.cells.toArray 24)) := (Keep.refl _ wa0).alloc _
   generalize wa0.alloc (.cells zeroO.cells.toArray 24) = wa1 at hNwa1 kwa1 ⊢
   simp only [Act.put, sA, sS, sZ]
   refine l_setS (o := ⟨none, _, _, _, _, _⟩) 24 wa0.heap.size 24 zeroO.cells o.cells (.tmp 17) (.tmp 61) rfl rfl (by kernel_rfl) (by kernel_rfl) (hNwa1) (by rw [Ord.len9]; exact ord_size) (by rw [Ord.len9, Ord.len9]) (Ord.one1 _) ?_
   intro wa hCwa hkwa hswa
   simp only [Act.put]
   refine wpList_nil ?_
   obtain ⟨b17, h17⟩ : ∃ a, wa0.heap.size = a := ⟨_, rfl⟩
   rw [h17] at hNwa1 hCwa hkwa ⊢
   have z0 := ka0.size
   have kya : Kept wy wa := (ka0.trans kwa1).trans' hkwa (by omega)
   have HOwa := Lib.hid (blk_range hCwa)
   have l17 := hCwa.lt
   have hlF := HMwy.out.lt
   have hbF8 : ¬ F8 b17 := fun h => by have := hlF b17 h; omega
   have HMwa := Lib.hid (HMwy.out.kept kya)
   have HAwa := Lib.hid (HAwy.out.kept kya)
   have kwwa := kwwy.trans kya
   have HFwa := HF8
   have HVwa := HV8
   clear hNwa1 hCwa hkwa hswa kwa1 ka0 HMwy HAwy kwwy kya HEy hlF
   have HOwad : Hid (wa.drew.rangeAt b17 0 o.cells) := range_kept HOwa.out (Keep.drew (Keep.refl _ wa))
   have HMwad := Lib.hid (HMwa.out.kept (Keep.drew (Keep.refl _ wa)))
   have zdwa : wa.drew.heap.size = wa.heap.size := rfl
   go_upto_region 12 with fail
   refine wp_sched (fun u => u.rangeAt b17 0 o.cells) [(0, 0), (1, 0), (2, 0), (3, 0), (4, 0), (5, 0), (6, 0), (7, 0), (8, 1), (9, 0), (10, 1), (11, 0), (12, 0), (13, 0), (14, 0), (15, 0)] (by kernel_rfl) (by kernel_rfl) (HOwad.out) ?_
   refine s_val (o := ⟨some 63, _, _, _, _, _⟩) (.pointer (some ⟨p, 0, none⟩)) rfl (by kernel_rfl) (fun u hu => exec_move (.tmp 11) (.pointer (some ⟨p, 0, none⟩)) rfl (by kernel_rfl)) ?_
   simp only [Act.put, sA, sS, sZ]
   refine s_val (o := ⟨some 64, _, _, _, _, _⟩) (.pointer (some ⟨b17, 0, none⟩)) rfl (by kernel_rfl) (fun u hu => exec_fldo 24 0 0 (.tmp 17) (b17) (0) (0) rfl (by kernel_rfl) (by kernel_rfl) rfl) ?_
   simp only [Act.put, sA, sS, sZ]
   refine s_val (o := ⟨some 65, _, _, _, _, _⟩) (.int .i64 o.tr) rfl (by kernel_rfl) (fun u hu => exec_loadi 3 Try.underlying3 (.tmp 64) ⟨b17, 0, none⟩ (.int .i64 o.tr) rfl (by kernel_rfl) (range_int hu 0 _ rfl)) ?_
   simp only [Act.put, sA, sS, sZ]
   refine s_val (o := ⟨some 66, _, _, _, _, _⟩) (.pointer (some ⟨b17, 1, none⟩)) rfl (by kernel_rfl) (fun u hu => exec_fldo 24 1 1 (.tmp 17) (b17) (0) (1) rfl (by kernel_rfl) (by kernel_rfl) rfl) ?_
   simp only [Act.put, sA, sS, sZ]
   refine s_val (o := ⟨some 67, _, _, _, _, _⟩) (.int .i64 o.id) rfl (by kernel_rfl) (fun u hu => exec_loadi 3 Try.underlying3 (.tmp 66) ⟨b17, 1, none⟩ (.int .i64 o.id) rfl (by kernel_rfl) (range_int hu 1 _ rfl)) ?_
   simp only [Act.put, sA, sS, sZ]
   refine s_val (o := ⟨some 68, _, _, _, _, _⟩) (.pointer (some ⟨b17, 5, none⟩)) rfl (by kernel_rfl) (fun u hu => exec_fldo 24 5 5 (.tmp 17) (b17) (0) (5) rfl (by kernel_rfl) (by kernel_rfl) rfl) ?_
   simp only [Act.put, sA, sS, sZ]
   refine s_val (o := ⟨some 69, _, _, _, _, _⟩) (.int .i64 o.price) rfl (by kernel_rfl) (fun u hu => exec_loadi 3 Try.underlying3 (.tmp 68) ⟨b17, 5, none⟩ (.int .i64 o.price) rfl (by kernel_rfl) (range_int hu 5 _ rfl)) ?_
   simp only [Act.put, sA, sS, sZ]
   refine s_val (o := ⟨some 70, _, _, _, _, _⟩) (.int .i64 n) rfl (by kernel_rfl) (fun u hu => exec_move (.tmp 4) (.int .i64 n) rfl (by kernel_rfl)) ?_
   simp only [Act.put, sA, sS, sZ]
   refine s_call (o := ⟨some 71, _, _, _, _, _⟩) 16 #[.int .i64 n, .int .i64 0, .int .i64 9] rfl (by kernel_rfl) (exec_call 16 _ [.tmp 70, .const (.int .i64 0), .const (.int .i64 9)] _ _ Try.func16 (by kernel_rfl) (by kernel_rfl) rfl (by kernel_rfl)) ?_
   refine (HW9.out wa.drew).mono ?_
   rintro e wq ⟨vo, rfl, hvo, ko⟩
   have hOq := range_kept HOwad.out ko
   have hMq := HMwad.out.kept ko
   refine ⟨.int .i64 n9, by have h2 : vo = .int .i64 n9 := hvo; rw [h2], hOq, ?_⟩
   simp only [Act.put, sA, sS, sZ]
   refine s_val (o := ⟨some 72, _, _, _, _, _⟩) (.int .i64 (-n9)) rfl (by kernel_rfl) (fun u hu => exec_ng (-n9) rfl (by kernel_rfl) rfl (by omega) (by omega)) ?_
   simp only [Act.put, sA, sS, sZ]
   refine s_call (o := ⟨some 73, _, _, _, _, _⟩) 17 #[.pointer (some ⟨p, 0, none⟩), .int .i64 o.tr, .int .i64 o.id, .int .i64 o.price, .int .i64 (-n9)] rfl (by kernel_rfl) (exec_call 17 _ [.tmp 63, .tmp 65, .tmp 67, .tmp 69, .tmp 72] _ _ Try.func17 (by kernel_rfl) (by kernel_rfl) rfl (by kernel_rfl)) ?_
   refine (mamend_at wq F8 p M o.tr o.id o.price (-n9) _ HwbA.out hMq HI.out (by have := HNo.out; omega)).mono ?_
   rintro e wb ⟨Fwb, vwb, Zwb, rfl, hMwb, hOwb, hGwb, hkwb⟩
   refine ⟨.tuple #[vwb, .int .i64 1], rfl, range_keep hOq hkwb hbF8, ?_⟩
   simp only [Act.put, sA, sS, sZ]
   refine s_val (o := ⟨some 62, _, _, _, _, _⟩) (.tuple #[vwb, .int .i64 1]) rfl (by kernel_rfl) (fun u hu => exec_move (.tmp 73) (.tuple #[vwb, .int .i64 1]) rfl (by kernel_rfl)) ?_
   simp only [Act.put, sA, sS, sZ]
   refine s_val (o := ⟨some 74, _, _, _, _, _⟩) (vwb) rfl (by kernel_rfl) (fun u hu => exec_extract (.tmp 62) [vwb, .int .i64 1] 0 (vwb) rfl (by kernel_rfl) rfl) ?_
   simp only [Act.put, sA, sS, sZ]
   refine s_val (o := ⟨some 75, _, _, _, _, _⟩) (.int .i64 1) rfl (by kernel_rfl) (fun u hu => exec_extract (.tmp 62) [vwb, .int .i64 1] 1 (.int .i64 1) rfl (by kernel_rfl) rfl) ?_
   simp only [Act.put, sA, sS, sZ]
   refine s_val (o := ⟨some 18, _, _, _, _, _⟩) (vwb) rfl (by kernel_rfl) (fun u hu => exec_assign (.tmp 74) (vwb) rfl (by kernel_rfl)) ?_
   simp only [Act.put, sA, sS, sZ]
   refine s_val (o := ⟨some 19, _, _, _, _, _⟩) (.int .i64 1) rfl (by kernel_rfl) (fun u hu => exec_assign (.tmp 75) (.int .i64 1) rfl (by kernel_rfl)) ?_
   simp only [Act.put, sA, sS, sZ]
   refine s_done ?_
   have Kwb : Keep F8 wa wb := Keep.any (Kept.trans (Keep.drew (Keep.refl _ wa)) ko) hkwb
   have zqwb := ko.size
   have Gwb : Grow wa F8 Fwb := hGwb.wide (by omega)
   have hbFwb : ¬ Fwb b17 := blk_off hbF8 (by omega) Gwb
   obtain ⟨kwwb, HFwb, hAwb, hVwb⟩ := amd_frame kwwa HFwa HAwa.out HVwa.out Gwb Kwb
   have HAwb := Lib.hid hAwb
   have HVwb := Lib.hid hVwb
   have HMwb := Lib.hid hMwb
   have HRwb := Lib.hid (outs_none hOwb)
   have HOwb : Hid (wb.rangeAt b17 0 o.cells) := range_keep HOwa.out Kwb hbF8
   have lwb := Kwb.size
   have hOOwb := fun b hb => (hOwb.own b hb).2
   clear hOq hMq ko hMwb hOwb hGwb hkwb Kwb HOwad HMwad HOwa HMwa HAwa HVwa kwwa hAwb hVwb
   have HOwbd : Hid (wb.drew.rangeAt b17 0 o.cells) := range_kept HOwb.out (Keep.drew (Keep.refl _ wb))
   have HMwbd := Lib.hid (HMwb.out.kept (Keep.drew (Keep.refl _ wb)))
   have zdwb : wb.drew.heap.size = wb.heap.size := rfl
   go_upto_region 13 with fail
   refine wp_sched (fun u => u.rangeAt b17 0 o.cells) [(0, 0), (1, 0), (2, 0), (3, 0), (4, 0), (5, 0), (8, 0), (9, 0), (6, 1), (7, 0), (10, 1), (11, 0), (12, 0), (13, 0), (14, 0), (15, 0)] (by kernel_rfl) (by kernel_rfl) (HOwbd.out) ?_
   refine s_val (o := ⟨some 77, _, _, _, _, _⟩) (.pointer (some ⟨p, 0, none⟩)) rfl (by kernel_rfl) (fun u hu => exec_move (.tmp 11) (.pointer (some ⟨p, 0, none⟩)) rfl (by kernel_rfl)) ?_
   simp only [Act.put, sA, sS, sZ]
   refine s_val (o := ⟨some 78, _, _, _, _, _⟩) (.pointer (some ⟨b17, 0, none⟩)) rfl (by kernel_rfl) (fun u hu => exec_fldo 24 0 0 (.tmp 17) (b17) (0) (0) rfl (by kernel_rfl) (by kernel_rfl) rfl) ?_
   simp only [Act.put, sA, sS, sZ]
   refine s_val (o := ⟨some 79, _, _, _, _, _⟩) (.int .i64 o.tr) rfl (by kernel_rfl) (fun u hu => exec_loadi 3 Try.underlying3 (.tmp 78) ⟨b17, 0, none⟩ (.int .i64 o.tr) rfl (by kernel_rfl) (range_int hu 0 _ rfl)) ?_
   simp only [Act.put, sA, sS, sZ]
   refine s_val (o := ⟨some 80, _, _, _, _, _⟩) (.pointer (some ⟨b17, 1, none⟩)) rfl (by kernel_rfl) (fun u hu => exec_fldo 24 1 1 (.tmp 17) (b17) (0) (1) rfl (by kernel_rfl) (by kernel_rfl) rfl) ?_
   simp only [Act.put, sA, sS, sZ]
   refine s_val (o := ⟨some 81, _, _, _, _, _⟩) (.int .i64 o.id) rfl (by kernel_rfl) (fun u hu => exec_loadi 3 Try.underlying3 (.tmp 80) ⟨b17, 1, none⟩ (.int .i64 o.id) rfl (by kernel_rfl) (range_int hu 1 _ rfl)) ?_
   simp only [Act.put, sA, sS, sZ]
   refine s_val (o := ⟨some 82, _, _, _, _, _⟩) (.int .i64 n) rfl (by kernel_rfl) (fun u hu => exec_move (.tmp 4) (.int .i64 n) rfl (by kernel_rfl)) ?_
   simp only [Act.put, sA, sS, sZ]
   refine s_val (o := ⟨some 85, _, _, _, _, _⟩) (.pointer (some ⟨b17, 6, none⟩)) rfl (by kernel_rfl) (fun u hu => exec_fldo 24 6 6 (.tmp 17) (b17) (0) (6) rfl (by kernel_rfl) (by kernel_rfl) rfl) ?_
   simp only [Act.put, sA, sS, sZ]
   refine s_val (o := ⟨some 86, _, _, _, _, _⟩) (.int .i64 o.qty) rfl (by kernel_rfl) (fun u hu => exec_loadi 3 Try.underlying3 (.tmp 85) ⟨b17, 6, none⟩ (.int .i64 o.qty) rfl (by kernel_rfl) (range_int hu 6 _ rfl)) ?_
   simp only [Act.put, sA, sS, sZ]
   refine s_call (o := ⟨some 83, _, _, _, _, _⟩) 16 #[.int .i64 n, .int .i64 0, .int .i64 9] rfl (by kernel_rfl) (exec_call 16 _ [.tmp 82, .const (.int .i64 0), .const (.int .i64 9)] _ _ Try.func16 (by kernel_rfl) (by kernel_rfl) rfl (by kernel_rfl)) ?_
   refine (HW9.out wb.drew).mono ?_
   rintro e wq ⟨vo, rfl, hvo, ko⟩
   have hOq := range_kept HOwbd.out ko
   have hMq := HMwbd.out.kept ko
   refine ⟨.int .i64 n9, by have h2 : vo = .int .i64 n9 := hvo; rw [h2], hOq, ?_⟩
   simp only [Act.put, sA, sS, sZ]
   refine s_val (o := ⟨some 84, _, _, _, _, _⟩) (.int .i64 (1048577 + n9)) rfl (by kernel_rfl) (fun u hu => exec_addn (p := 1048577) (q := n9) (1048577 + n9) rfl rfl (by kernel_rfl) rfl (by omega) (by omega)) ?_
   simp only [Act.put, sA, sS, sZ]
   refine s_call (o := ⟨some 87, _, _, _, _, _⟩) 17 #[.pointer (some ⟨p, 0, none⟩), .int .i64 o.tr, .int .i64 o.id, .int .i64 (1048577 + n9), .int .i64 o.qty] rfl (by kernel_rfl) (exec_call 17 _ [.tmp 77, .tmp 79, .tmp 81, .tmp 84, .tmp 86] _ _ Try.func17 (by kernel_rfl) (by kernel_rfl) rfl (by kernel_rfl)) ?_
   refine (mamend_at wq Fwb p M o.tr o.id (1048577 + n9) o.qty _ HwcA.out hMq HI.out (by have := HNo.out; omega)).mono ?_
   rintro e wc ⟨Fwc, vwc, Zwc, rfl, hMwc, hOwc, hGwc, hkwc⟩
   refine ⟨.tuple #[vwc, .int .i64 1], rfl, range_keep hOq hkwc hbFwb, ?_⟩
   simp only [Act.put, sA, sS, sZ]
   refine s_val (o := ⟨some 76, _, _, _, _, _⟩) (.tuple #[vwc, .int .i64 1]) rfl (by kernel_rfl) (fun u hu => exec_move (.tmp 87) (.tuple #[vwc, .int .i64 1]) rfl (by kernel_rfl)) ?_
   simp only [Act.put, sA, sS, sZ]
   refine s_val (o := ⟨some 88, _, _, _, _, _⟩) (vwc) rfl (by kernel_rfl) (fun u hu => exec_extract (.tmp 76) [vwc, .int .i64 1] 0 (vwc) rfl (by kernel_rfl) rfl) ?_
   simp only [Act.put, sA, sS, sZ]
   refine s_val (o := ⟨some 89, _, _, _, _, _⟩) (.int .i64 1) rfl (by kernel_rfl) (fun u hu => exec_extract (.tmp 76) [vwc, .int .i64 1] 1 (.int .i64 1) rfl (by kernel_rfl) rfl) ?_
   simp only [Act.put, sA, sS, sZ]
   refine s_val (o := ⟨some 20, _, _, _, _, _⟩) (vwc) rfl (by kernel_rfl) (fun u hu => exec_assign (.tmp 88) (vwc) rfl (by kernel_rfl)) ?_
   simp only [Act.put, sA, sS, sZ]
   refine s_val (o := ⟨some 21, _, _, _, _, _⟩) (.int .i64 1) rfl (by kernel_rfl) (fun u hu => exec_assign (.tmp 89) (.int .i64 1) rfl (by kernel_rfl)) ?_
   simp only [Act.put, sA, sS, sZ]
   refine s_done ?_
   have Kwc : Keep Fwb wb wc := Keep.any (Kept.trans (Keep.drew (Keep.refl _ wb)) ko) hkwc
   have zqwc := ko.size
   have Gwc : Grow wb Fwb Fwc := hGwc.wide (by omega)
   have hbFwc : ¬ Fwc b17 := blk_off hbFwb (by omega) Gwc
   obtain ⟨kwwc, HFwc, hAwc, hVwc⟩ := amd_frame kwwb HFwb HAwb.out HVwb.out Gwc Kwc
   have HAwc := Lib.hid hAwc
   have HVwc := Lib.hid hVwc
   have HMwc := Lib.hid hMwc
   have HRwc := Lib.hid (outs_none hOwc)
   have HOwc : Hid (wc.rangeAt b17 0 o.cells) := range_keep HOwb.out Kwc hbFwb
   have lwc := Kwc.size
   have HRb := Lib.hid (HRwb.out.keep Kwc (fun b hb h => by have := (hOOwb b hb); exact this h))
   have HRc := HRwc
   go_upto_region 14 with fail
   refine wp_text 16 [.eq (.int .i64 1), .eq (.bool false), .eq (.bool false), .eq (.int .i64 1), .eq (.bool false), .eq (.bool false), .eq (.bool false), .eq (vwb), .eq (.int .i64 (0 : Int)), .eq (.bool false), .eq (.bool false), .eq (.bool false), .eq (vwc), .eq (.int .i64 (0 : Int)), .eq (.bool false), .eq (.bool false)] rfl (by kernel_rfl) ?_ ?_
   ·refine sv 1 rfl rfl rfl (fun a u hE hD hk => exec_move (.tmp 19) _ rfl (hE 19 (.int .i64 1) (by kernel_rfl) (by kernel_rfl))) ?_
    refine fsteps_cons 2 rfl (fun a u hE hD hk => f_as (show ((decide ((1 : Int) ≠ (1 : Int))) : Bool) = false from by decide) (f_val (o := ⟨some 91, _, _, _, _, _⟩) (.bool (decide ((1 : Int) ≠ (1 : Int)))) rfl (wanted_none rfl _) (exec_nen (p := 1) (q := 1) rfl (hD 0 90 (by kernel_rfl)) rfl) rfl)) ?_
    refine sv 3 rfl rfl rfl (fun a u hE hD hk => exec_move (.tmp 91) _ rfl (hD 1 91 (by kernel_rfl))) ?_
    refine fsteps_cons 4 rfl (fun a u hE hD hk => f_val (o := ⟨some 93, _, _, _, _, _⟩) (.int .i64 1) rfl (wanted_at (b := false) false rfl rfl (hD 2 92 (by kernel_rfl))) (exec_move (.tmp 21) _ rfl (hE 21 (.int .i64 1) (by kernel_rfl) (by kernel_rfl))) rfl) ?_
    refine fsteps_cons 5 rfl (fun a u hE hD hk => f_as (show ((decide ((1 : Int) ≠ (1 : Int))) : Bool) = false from by decide) (f_val (o := ⟨some 94, _, _, _, _, _⟩) (.bool (decide ((1 : Int) ≠ (1 : Int)))) rfl (wanted_at (b := false) false rfl rfl (hD 2 92 (by kernel_rfl))) (exec_nen (p := 1) (q := 1) rfl (hD 3 93 (by kernel_rfl)) rfl) rfl)) ?_
    refine sv 6 rfl rfl rfl (fun a u hE hD hk => exec_pickF (.tmp 92) (.const (.bool true)) (.tmp 94) (.bool false) rfl (hD 2 92 (by kernel_rfl)) (hD 4 94 (by kernel_rfl))) ?_
    refine sv 7 rfl rfl rfl (fun a u hE hD hk => exec_move (.tmp 95) _ rfl (hD 5 95 (by kernel_rfl))) ?_
    refine fsteps_cons 8 rfl (fun a u hE hD hk => f_val (o := ⟨some 97, _, _, _, _, _⟩) (vwb) rfl (wanted_at (b := false) false rfl rfl (hD 6 96 (by kernel_rfl))) (exec_move (.tmp 18) _ rfl (hE 18 (vwb) (by kernel_rfl) (by kernel_rfl))) rfl) ?_
    refine fsteps_cons 9 rfl (fun a u hE hD hk => f_val (o := ⟨some 98, _, _, _, _, _⟩) (.int .i64 (0 : Int)) rfl (wanted_at (b := false) false rfl rfl (hD 6 96 (by kernel_rfl))) (exec_lenS (.tmp 97) slC (vwb) (0) _ _ rfl (hD 7 97 (by kernel_rfl)) (HRb.out.kept hk)) rfl) ?_
    refine fsteps_cons 10 rfl (fun a u hE hD hk => f_as (show ((decide (((0 : Int) : Int) ≠ (0 : Int))) : Bool) = false from by decide) (f_val (o := ⟨some 99, _, _, _, _, _⟩) (.bool (decide (((0 : Int) : Int) ≠ (0 : Int)))) rfl (wanted_at (b := false) false rfl rfl (hD 6 96 (by kernel_rfl))) (exec_nen (p := (0 : Int)) (q := 0) rfl (hD 8 98 (by kernel_rfl)) rfl) rfl)) ?_
    refine sv 11 rfl rfl rfl (fun a u hE hD hk => exec_pickF (.tmp 96) (.const (.bool true)) (.tmp 99) (.bool false) rfl (hD 6 96 (by kernel_rfl)) (hD 9 99 (by kernel_rfl))) ?_
    refine sv 12 rfl rfl rfl (fun a u hE hD hk => exec_move (.tmp 100) _ rfl (hD 10 100 (by kernel_rfl))) ?_
    refine fsteps_cons 13 rfl (fun a u hE hD hk => f_val (o := ⟨some 102, _, _, _, _, _⟩) (vwc) rfl (wanted_at (b := false) false rfl rfl (hD 11 101 (by kernel_rfl))) (exec_move (.tmp 20) _ rfl (hE 20 (vwc) (by kernel_rfl) (by kernel_rfl))) rfl) ?_
    refine fsteps_cons 14 rfl (fun a u hE hD hk => f_val (o := ⟨some 103, _, _, _, _, _⟩) (.int .i64 (0 : Int)) rfl (wanted_at (b := false) false rfl rfl (hD 11 101 (by kernel_rfl))) (exec_lenS (.tmp 102) slC (vwc) (0) _ _ rfl (hD 12 102 (by kernel_rfl)) (HRc.out.kept hk)) rfl) ?_
    refine fsteps_cons 15 rfl (fun a u hE hD hk => f_as (show ((decide (((0 : Int) : Int) ≠ (0 : Int))) : Bool) = false from by decide) (f_val (o := ⟨some 104, _, _, _, _, _⟩) (.bool (decide (((0 : Int) : Int) ≠ (0 : Int)))) rfl (wanted_at (b := false) false rfl rfl (hD 11 101 (by kernel_rfl))) (exec_nen (p := (0 : Int)) (q := 0) rfl (hD 13 103 (by kernel_rfl)) rfl) rfl)) ?_
    refine sv 16 rfl rfl rfl (fun a u hE hD hk => exec_pickF (.tmp 101) (.const (.bool true)) (.tmp 104) (.bool false) rfl (hD 11 101 (by kernel_rfl)) (hD 14 104 (by kernel_rfl))) ?_
    exact fsteps_nil
   intro gv wd hV kd
   rw [show dstsOf _ 16 = [90, 91, 92, 93, 94, 95, 96, 97, 98, 99, 100, 101, 102, 103, 104, 105] by kernel_rfl]
   simp only [fC, fN, sA, sS, sZ, dS, dZ]
   rw [show gv 105 = .bool false from hV 15 105 (by kernel_rfl)]
   clear hV
   refine wpList_nil ?_
   have HMz := Lib.hid (hMwc.kept kd)
   have HAz := Lib.hid (HAwc.out.kept kd)
   have kwd := kwwc.trans kd
   go_upto_region 16 with fail
   refine wp_text 8 [.eq (.pointer (some ⟨p, 0, none⟩)), .sl wd.heap.size 24 9 an (ords X), .eq (.slice (some ⟨ga, oa, none⟩) an ca), .eq (.bool true), .eq (.bool true), .eq (.bool true), .eq (.bool true), .eq (.bool true)] rfl (by kernel_rfl) ?_ ?_
   ·refine sv 1 rfl rfl rfl (fun a u hE hD hk => exec_move (.tmp 11) _ rfl (hE 11 (.pointer (some ⟨p, 0, none⟩)) (by kernel_rfl) (by kernel_rfl))) ?_
    refine fsteps_cons 2 rfl (fun a u hE hD hk => f_call (o := ⟨some 107, _, _, _, _, _⟩) 13 #[.pointer (some ⟨p, 0, none⟩)] rfl (wanted_none rfl _) (exec_call 13 _ [.tmp 106] _ [.pointer (some ⟨p, 0, none⟩)] Try.func13 (by kernel_rfl) (by kernel_rfl) rfl (show [a.eval (.tmp 106)] = [.pointer (some ⟨p, 0, none⟩)] from (by rw [show a.eval (.tmp 106) = .pointer (some ⟨p, 0, none⟩) from (hD 0 106 (by kernel_rfl))] <;> rfl)) u) ((by rw [← HAN.out, ← HXX.out]; exact (mall_any u _ p M (HMz.out.kept hk) HI.out.inv (by omega)).base hk.size))) ?_
    refine sv 3 rfl rfl rfl (fun a u hE hD hk => exec_move (.tmp 12) _ rfl (hE 12 (.slice (some ⟨ga, oa, none⟩) an ca) (by kernel_rfl) (by kernel_rfl))) ?_
    refine fsteps_cons 4 rfl (fun a u hE hD hk => f_call (o := ⟨some 109, _, _, _, _, _⟩) 19 #[a.eval (.tmp 107), .slice (some ⟨ga, oa, none⟩) an ca] rfl (wanted_none rfl _) (exec_call 19 _ [.tmp 107, .tmp 108] _ [a.eval (.tmp 107), .slice (some ⟨ga, oa, none⟩) an ca] Try.func19 (by kernel_rfl) (by kernel_rfl) rfl (show [a.eval (.tmp 107), a.eval (.tmp 108)] = [a.eval (.tmp 107), .slice (some ⟨ga, oa, none⟩) an ca] from (by rw [show a.eval (.tmp 108) = .slice (some ⟨ga, oa, none⟩) an ca from (hD 2 108 (by kernel_rfl))] <;> rfl)) u) ((by have h := sameO_any (a.eval (.tmp 107)) (.slice (some ⟨ga, oa, none⟩) an ca) 0 0 X X u (by rw [HAN.out]; exact (hD 1 107 (by kernel_rfl)).1) (by rw [HAN.out]; exact HAz.out.kept hk) (by have := HAN.out; omega) (by have := HAN.out; omega); rw [decide_eq_true rfl] at h; exact h))) ?_
    refine sv 5 rfl rfl rfl (fun a u hE hD hk => exec_move (.tmp 109) _ rfl (hD 3 109 (by kernel_rfl))) ?_
    refine fsteps_cons 6 rfl (fun a u hE hD hk => f_call (o := ⟨some 111, _, _, _, _, _⟩) 3 #[] rfl (wanted_at (b := true) true rfl rfl (hD 4 110 (by kernel_rfl))) (exec_call 3 _ [] _ [] Try.func3 (by kernel_rfl) (by kernel_rfl) rfl rfl u) (cruns_gives u)) ?_
    refine sv 7 rfl rfl rfl (fun a u hE hD hk => exec_pick (.tmp 110) (.tmp 111) (.const (.bool false)) (.bool true) rfl (hD 4 110 (by kernel_rfl)) (hD 5 111 (by kernel_rfl))) ?_
    refine sv 8 rfl rfl rfl (fun a u hE hD hk => exec_assign (.tmp 112) _ rfl (hD 6 112 (by kernel_rfl))) ?_
    exact fsteps_nil
   intro gv wz hV kz
   rw [show dstsOf _ 8 = [106, 107, 108, 109, 110, 111, 112, 10] by kernel_rfl]
   simp only [fC, fN, sA, sS, sZ, dS, dZ]
   rw [show gv 10 = .bool true from hV 7 10 (by kernel_rfl)]
   clear hV
   refine wpList_nil ?_
   go_wp2
   go_ret
   exact ⟨rfl, kwd.trans kz⟩
 | true =>
  have HF6 : ∀ b, F b → w.heap.size ≤ b := HF.out
  have h0 : an = 0 ∨ 0 < an := by omega
  rcases h0 with h0 | h0
  ·go_upto_region 10 with fail
   refine wp_text 3 [.eq (va), .eq (.int .i64 (an : Int)), .eq (.bool false)] rfl (by kernel_rfl) ?_ ?_
   ·refine sv 1 rfl rfl rfl (fun a u hE hD hk => exec_move (.tmp 12) _ rfl (hE 12 (va) (by kernel_rfl) (by kernel_rfl))) ?_
    refine sv 2 rfl rfl rfl (fun a u hE hD hk => exec_lenS (.tmp 51) slO (va) (an) _ _ rfl (hD 0 51 (by kernel_rfl)) (HA6.out.kept hk)) ?_
    refine fsteps_cons 3 rfl (fun a u hE hD hk => f_as (show ((decide ((0 : Int) < ((an : Int) : Int))) : Bool) = false from decide_eq_false (by omega)) (f_val (o := ⟨some 53, _, _, _, _, _⟩) (.bool (decide ((0 : Int) < ((an : Int) : Int)))) rfl (wanted_none rfl _) (exec_gtn (p := (an : Int)) (q := 0) rfl (hD 1 52 (by kernel_rfl)) rfl) rfl)) ?_
    exact fsteps_nil
   intro gv wy hV ky
   rw [show dstsOf _ 3 = [51, 52, 53] by kernel_rfl]
   simp only [fC, fN, sA, sS, sZ, dS, dZ]
   rw [show gv 53 = .bool false from hV 2 53 (by kernel_rfl)]
   clear hV
   refine wpList_nil ?_
   have HMz := Lib.hid (HM6.out.kept ky)
   have HAz := Lib.hid (HA6.out.kept ky)
   have kwy := kw6.trans ky
   clear HM6 HA6 kw6 ky
   go_upto_region 16 with fail
   refine wp_text 8 [.eq (.pointer (some ⟨p, 0, none⟩)), .sl wy.heap.size 24 9 an (ords X), .eq (va), .eq (.bool true), .eq (.bool true), .eq (.bool true), .eq (.bool true), .eq (.bool true)] rfl (by kernel_rfl) ?_ ?_
   ·refine sv 1 rfl rfl rfl (fun a u hE hD hk => exec_move (.tmp 11) _ rfl (hE 11 (.pointer (some ⟨p, 0, none⟩)) (by kernel_rfl) (by kernel_rfl))) ?_
    refine fsteps_cons 2 rfl (fun a u hE hD hk => f_call (o := ⟨some 107, _, _, _, _, _⟩) 13 #[.pointer (some ⟨p, 0, none⟩)] rfl (wanted_none rfl _) (exec_call 13 _ [.tmp 106] _ [.pointer (some ⟨p, 0, none⟩)] Try.func13 (by kernel_rfl) (by kernel_rfl) rfl (show [a.eval (.tmp 106)] = [.pointer (some ⟨p, 0, none⟩)] from (by rw [show a.eval (.tmp 106) = .pointer (some ⟨p, 0, none⟩) from (hD 0 106 (by kernel_rfl))] <;> rfl)) u) ((by rw [← HAN.out, ← HXX.out]; exact (mall_any u _ p M (HMz.out.kept hk) HI.out.inv (by omega)).base hk.size))) ?_
    refine sv 3 rfl rfl rfl (fun a u hE hD hk => exec_move (.tmp 12) _ rfl (hE 12 (va) (by kernel_rfl) (by kernel_rfl))) ?_
    refine fsteps_cons 4 rfl (fun a u hE hD hk => f_call (o := ⟨some 109, _, _, _, _, _⟩) 19 #[a.eval (.tmp 107), va] rfl (wanted_none rfl _) (exec_call 19 _ [.tmp 107, .tmp 108] _ [a.eval (.tmp 107), va] Try.func19 (by kernel_rfl) (by kernel_rfl) rfl (show [a.eval (.tmp 107), a.eval (.tmp 108)] = [a.eval (.tmp 107), va] from (by rw [show a.eval (.tmp 108) = va from (hD 2 108 (by kernel_rfl))] <;> rfl)) u) ((by have h := sameO_any (a.eval (.tmp 107)) va 0 0 X X u (by rw [HAN.out]; exact (hD 1 107 (by kernel_rfl)).1) (by rw [HAN.out]; exact HAz.out.kept hk) (by have := HAN.out; omega) (by have := HAN.out; omega); rw [decide_eq_true rfl] at h; exact h))) ?_
    refine sv 5 rfl rfl rfl (fun a u hE hD hk => exec_move (.tmp 109) _ rfl (hD 3 109 (by kernel_rfl))) ?_
    refine fsteps_cons 6 rfl (fun a u hE hD hk => f_call (o := ⟨some 111, _, _, _, _, _⟩) 3 #[] rfl (wanted_at (b := true) true rfl rfl (hD 4 110 (by kernel_rfl))) (exec_call 3 _ [] _ [] Try.func3 (by kernel_rfl) (by kernel_rfl) rfl rfl u) (cruns_gives u)) ?_
    refine sv 7 rfl rfl rfl (fun a u hE hD hk => exec_pick (.tmp 110) (.tmp 111) (.const (.bool false)) (.bool true) rfl (hD 4 110 (by kernel_rfl)) (hD 5 111 (by kernel_rfl))) ?_
    refine sv 8 rfl rfl rfl (fun a u hE hD hk => exec_assign (.tmp 112) _ rfl (hD 6 112 (by kernel_rfl))) ?_
    exact fsteps_nil
   intro gv wz hV kz
   rw [show dstsOf _ 8 = [106, 107, 108, 109, 110, 111, 112, 10] by kernel_rfl]
   simp only [fC, fN, sA, sS, sZ, dS, dZ]
   rw [show gv 10 = .bool true from hV 7 10 (by kernel_rfl)]
   clear hV
   refine wpList_nil ?_
   go_wp2
   go_ret
   exact ⟨rfl, kwy.trans kz⟩
  ·obtain ⟨kI, hkI⟩ : ∃ kI, wi at_ 0 ((an : Int) - 1) = kI := ⟨_, rfl⟩
   have hk0 : 0 ≤ kI ∧ kI ≤ (an : Int) - 1 := by rw [← hkI]; exact wi_in at_ 0 _ (by omega)
   obtain ⟨kx, rfl⟩ : ∃ kx : Nat, kI = (kx : Int) := ⟨kI.toNat, by omega⟩
   have hkn : kx < an := by omega
   have HKI := Lib.hid hkI
   obtain ⟨o, ho⟩ : ∃ o, X[kx]? = some o := ⟨X[kx]'(by rw [HAN.out]; exact hkn), List.getElem?_eq_getElem _⟩
   have HFO : Hid (M.find o.tr o.id = (o, true)) := find_all_at HI.out (by rw [HXX.out]; exact ho)
   have hfo := HI.out.fair o (by rw [HXX.out]; exact List.mem_of_getElem? ho)
   obtain ⟨n9, hn9⟩ : ∃ n9, wi n 0 9 = n9 := ⟨_, rfl⟩
   have hn0 : 0 ≤ n9 ∧ n9 ≤ 9 := by rw [← hn9]; exact wi_in n 0 9 (by omega)
   have HW9 : Hid (∀ u, Gives 16 #[.int .i64 n, .int .i64 0, .int .i64 9] u (.eq (.int .i64 n9))) := fun u => by rw [← hn9]; exact within_is n 0 9 u (by omega) (by omega) (by omega)
   have HwbA : Hid (M.amend o.tr o.id o.price (-n9) = ([], 1, M)) := amend_bad HFO.out (chg_low (by omega))
   have HwcA : Hid (M.amend o.tr o.id (1048577 + n9) o.qty = ([], 1, M)) := amend_bad HFO.out (chg_high (by omega))
   obtain ⟨ga, oa, ca, rfl⟩ := HA6.out.some_ (by omega)
   have HE : Hid (w6.rangeAt ga (oa + kx * 9) o.cells) := HA6.out.rngO kx o ho
   clear hkI ho hn9 hfo
   go_upto_region 10 with fail
   refine wp_text 3 [.eq (.slice (some ⟨ga, oa, none⟩) an ca), .eq (.int .i64 (an : Int)), .eq (.bool true)] rfl (by kernel_rfl) ?_ ?_
   ·refine sv 1 rfl rfl rfl (fun a u hE hD hk => exec_move (.tmp 12) _ rfl (hE 12 (.slice (some ⟨ga, oa, none⟩) an ca) (by kernel_rfl) (by kernel_rfl))) ?_
    refine sv 2 rfl rfl rfl (fun a u hE hD hk => exec_len (.tmp 51) _ _ slO.und (some ⟨ga, oa, none⟩) an ca rfl (hD 0 51 (by kernel_rfl))) ?_
    refine fsteps_cons 3 rfl (fun a u hE hD hk => f_as (show ((decide ((0 : Int) < ((an : Int) : Int))) : Bool) = true from decide_eq_true (by omega)) (f_val (o := ⟨some 53, _, _, _, _, _⟩) (.bool (decide ((0 : Int) < ((an : Int) : Int)))) rfl (wanted_none rfl _) (exec_gtn (p := (an : Int)) (q := 0) rfl (hD 1 52 (by kernel_rfl)) rfl) rfl)) ?_
    exact fsteps_nil
   intro gv wy hV ky
   rw [show dstsOf _ 3 = [51, 52, 53] by kernel_rfl]
   simp only [fC, fN, sA, sS, sZ, dS, dZ]
   rw [show gv 53 = .bool true from hV 2 53 (by kernel_rfl)]
   clear hV
   refine wpList_nil ?_
   have HMwy := Lib.hid (HM6.out.kept ky)
   have HAwy := Lib.hid (HA6.out.kept ky)
   have kwwy := kw6.trans ky
   have HEy := Lib.hid (range_kept HE.out ky)
   clear HM6 HA6 kw6 ky HE
   go_upto_region 11 with fail
   refine wp_text 8 [.eq (.slice (some ⟨ga, oa, none⟩) an ca), .eq (.int .i64 at_), .eq (.slice (some ⟨ga, oa, none⟩) an ca), .eq (.int .i64 (an : Int)), .eq (.int .i64 (((an : Int) : Int) - (1 : Int))), .eq (.int .i64 (kx : Int)), .eq (.pointer (some ⟨ga, oa + kx * 9, none⟩)), .eq (o.v)] rfl (by kernel_rfl) ?_ ?_
   ·refine sv 1 rfl rfl rfl (fun a u hE hD hk => exec_move (.tmp 12) _ rfl (hE 12 (.slice (some ⟨ga, oa, none⟩) an ca) (by kernel_rfl) (by kernel_rfl))) ?_
    refine sv 2 rfl rfl rfl (fun a u hE hD hk => exec_move (.tmp 3) _ rfl (hE 3 (.int .i64 at_) (by kernel_rfl) (by kernel_rfl))) ?_
    refine sv 3 rfl rfl rfl (fun a u hE hD hk => exec_move (.tmp 12) _ rfl (hE 12 (.slice (some ⟨ga, oa, none⟩) an ca) (by kernel_rfl) (by kernel_rfl))) ?_
    refine sv 4 rfl rfl rfl (fun a u hE hD hk => exec_len (.tmp 56) _ _ slO.und (some ⟨ga, oa, none⟩) an ca rfl (hD 2 56 (by kernel_rfl))) ?_
    refine sv 5 rfl rfl rfl (fun a u hE hD hk => exec_subn (p := ((an : Int))) (q := (1)) (((an : Int) : Int) - (1 : Int)) rfl (hD 3 57 (by kernel_rfl)) rfl rfl (by omega) (by omega)) ?_
    refine fsteps_cons 6 rfl (fun a u hE hD hk => f_call (o := ⟨some 59, _, _, _, _, _⟩) 16 #[.int .i64 at_, .int .i64 0, .int .i64 (((an : Int) : Int) - (1 : Int))] rfl (wanted_none rfl _) (exec_call 16 _ [.tmp 55, .const (.int .i64 0), .tmp 58] _ [.int .i64 at_, .int .i64 0, .int .i64 (((an : Int) : Int) - (1 : Int))] Try.func16 (by kernel_rfl) (by kernel_rfl) rfl (show [a.eval (.tmp 55), a.eval (.const (.int .i64 0)), a.eval (.tmp 58)] = [.int .i64 at_, .int .i64 0, .int .i64 (((an : Int) : Int) - (1 : Int))] from (by rw [show a.eval (.tmp 55) = .int .i64 at_ from (hD 1 55 (by kernel_rfl)), show a.eval (.tmp 58) = .int .i64 (((an : Int) : Int) - (1 : Int)) from (hD 4 58 (by kernel_rfl))] <;> rfl)) u) ((by rw [← HKI.out]; exact within_is at_ 0 ((an : Int) - 1) u (by omega) (by omega) (by omega)))) ?_
    refine sv 7 rfl rfl rfl (fun a u hE hD hk => exec_ixo slO (.tmp 54) (.tmp 59) (ga) (oa) an ca kx (oa + kx * 9) ((kx : Int)) rfl (hD 0 54 (by kernel_rfl)) (hD 5 59 (by kernel_rfl)) (by first | rfl | omega) (hkn) (by first | rfl | omega)) ?_
    refine sv 8 rfl rfl rfl (fun a u hE hD hk => exec_ldS 24 _ (.tmp 60) (ga) (oa + kx * 9) (o.cells) rfl (hD 6 60 (by kernel_rfl)) (range_kept HEy.out hk) Try.underlying24 (by rw [o.len9]; exact ord_size)) ?_
    exact fsteps_nil
   intro gv wa0 hV ka0
   rw [show dstsOf _ 8 = [54, 55, 56, 57, 58, 59, 60, 61] by kernel_rfl]
   simp only [fC, fN, sA, sS, sZ, dS, dZ]
   rw [show gv 61 = o.v from hV 7 61 (by kernel_rfl)]
   clear hV
   refine l_new (o := ⟨some 17, _, _, _, _, _⟩) (.pointer (some ⟨wa0.heap.size, 0, none⟩)) (wa0.alloc (.cells zeroO.cells.toArray 24)) rfl (exec_alc 24 zeroO.cells rfl zO) ?_
   have hNwa1 := Blk.new wa0 24 zeroO.cells
   have kwa1 : Kept wa0 (wa0.alloc (.cells zeroO.cells.toArray 24)) := (Keep.refl _ wa0).alloc _
   generalize wa0.alloc (.cells zeroO.cells.toArray 24) = wa1 at hNwa1 kwa1 ⊢
   simp only [Act.put, sA, sS, sZ]
   refine l_setS (o := ⟨none, _, _, _, _, _⟩) 24 wa0.heap.size 24 zeroO.cells o.cells (.tmp 17) (.tmp 61) rfl rfl (by kernel_rfl) (by kernel_rfl) (hNwa1) (by rw [Ord.len9]; exact ord_size) (by rw [Ord.len9, Ord.len9]) (Ord.one1 _) ?_
   intro wa hCwa hkwa hswa
   simp only [Act.put]
   refine wpList_nil ?_
   obtain ⟨b17, h17⟩ : ∃ a, wa0.heap.size = a := ⟨_, rfl⟩
   rw [h17] at hNwa1 hCwa hkwa ⊢
   have z0 := ka0.size
   have kya : Kept wy wa := (ka0.trans kwa1).trans' hkwa (by omega)
   have HOwa := Lib.hid (blk_range hCwa)
   have l17 := hCwa.lt
   have hlF := HMwy.out.lt
   have hbF : ¬ F b17 := fun h => by have := hlF b17 h; omega
   have HMwa := Lib.hid (HMwy.out.kept kya)
   have HAwa := Lib.hid (HAwy.out.kept kya)
   have kwwa := kwwy.trans kya
   have HFwa := HF6
   have HVwa := HV6
   clear hNwa1 hCwa hkwa hswa kwa1 ka0 HMwy HAwy kwwy kya HEy hlF
   have HOwad : Hid (wa.drew.rangeAt b17 0 o.cells) := range_kept HOwa.out (Keep.drew (Keep.refl _ wa))
   have HMwad := Lib.hid (HMwa.out.kept (Keep.drew (Keep.refl _ wa)))
   have zdwa : wa.drew.heap.size = wa.heap.size := rfl
   go_upto_region 12 with fail
   refine wp_sched (fun u => u.rangeAt b17 0 o.cells) [(0, 0), (1, 0), (2, 0), (3, 0), (4, 0), (5, 0), (6, 0), (7, 0), (8, 1), (9, 0), (10, 1), (11, 0), (12, 0), (13, 0), (14, 0), (15, 0)] (by kernel_rfl) (by kernel_rfl) (HOwad.out) ?_
   refine s_val (o := ⟨some 63, _, _, _, _, _⟩) (.pointer (some ⟨p, 0, none⟩)) rfl (by kernel_rfl) (fun u hu => exec_move (.tmp 11) (.pointer (some ⟨p, 0, none⟩)) rfl (by kernel_rfl)) ?_
   simp only [Act.put, sA, sS, sZ]
   refine s_val (o := ⟨some 64, _, _, _, _, _⟩) (.pointer (some ⟨b17, 0, none⟩)) rfl (by kernel_rfl) (fun u hu => exec_fldo 24 0 0 (.tmp 17) (b17) (0) (0) rfl (by kernel_rfl) (by kernel_rfl) rfl) ?_
   simp only [Act.put, sA, sS, sZ]
   refine s_val (o := ⟨some 65, _, _, _, _, _⟩) (.int .i64 o.tr) rfl (by kernel_rfl) (fun u hu => exec_loadi 3 Try.underlying3 (.tmp 64) ⟨b17, 0, none⟩ (.int .i64 o.tr) rfl (by kernel_rfl) (range_int hu 0 _ rfl)) ?_
   simp only [Act.put, sA, sS, sZ]
   refine s_val (o := ⟨some 66, _, _, _, _, _⟩) (.pointer (some ⟨b17, 1, none⟩)) rfl (by kernel_rfl) (fun u hu => exec_fldo 24 1 1 (.tmp 17) (b17) (0) (1) rfl (by kernel_rfl) (by kernel_rfl) rfl) ?_
   simp only [Act.put, sA, sS, sZ]
   refine s_val (o := ⟨some 67, _, _, _, _, _⟩) (.int .i64 o.id) rfl (by kernel_rfl) (fun u hu => exec_loadi 3 Try.underlying3 (.tmp 66) ⟨b17, 1, none⟩ (.int .i64 o.id) rfl (by kernel_rfl) (range_int hu 1 _ rfl)) ?_
   simp only [Act.put, sA, sS, sZ]
   refine s_val (o := ⟨some 68, _, _, _, _, _⟩) (.pointer (some ⟨b17, 5, none⟩)) rfl (by kernel_rfl) (fun u hu => exec_fldo 24 5 5 (.tmp 17) (b17) (0) (5) rfl (by kernel_rfl) (by kernel_rfl) rfl) ?_
   simp only [Act.put, sA, sS, sZ]
   refine s_val (o := ⟨some 69, _, _, _, _, _⟩) (.int .i64 o.price) rfl (by kernel_rfl) (fun u hu => exec_loadi 3 Try.underlying3 (.tmp 68) ⟨b17, 5, none⟩ (.int .i64 o.price) rfl (by kernel_rfl) (range_int hu 5 _ rfl)) ?_
   simp only [Act.put, sA, sS, sZ]
   refine s_val (o := ⟨some 70, _, _, _, _, _⟩) (.int .i64 n) rfl (by kernel_rfl) (fun u hu => exec_move (.tmp 4) (.int .i64 n) rfl (by kernel_rfl)) ?_
   simp only [Act.put, sA, sS, sZ]
   refine s_call (o := ⟨some 71, _, _, _, _, _⟩) 16 #[.int .i64 n, .int .i64 0, .int .i64 9] rfl (by kernel_rfl) (exec_call 16 _ [.tmp 70, .const (.int .i64 0), .const (.int .i64 9)] _ _ Try.func16 (by kernel_rfl) (by kernel_rfl) rfl (by kernel_rfl)) ?_
   refine (HW9.out wa.drew).mono ?_
   rintro e wq ⟨vo, rfl, hvo, ko⟩
   have hOq := range_kept HOwad.out ko
   have hMq := HMwad.out.kept ko
   refine ⟨.int .i64 n9, by have h2 : vo = .int .i64 n9 := hvo; rw [h2], hOq, ?_⟩
   simp only [Act.put, sA, sS, sZ]
   refine s_val (o := ⟨some 72, _, _, _, _, _⟩) (.int .i64 (-n9)) rfl (by kernel_rfl) (fun u hu => exec_ng (-n9) rfl (by kernel_rfl) rfl (by omega) (by omega)) ?_
   simp only [Act.put, sA, sS, sZ]
   refine s_call (o := ⟨some 73, _, _, _, _, _⟩) 17 #[.pointer (some ⟨p, 0, none⟩), .int .i64 o.tr, .int .i64 o.id, .int .i64 o.price, .int .i64 (-n9)] rfl (by kernel_rfl) (exec_call 17 _ [.tmp 63, .tmp 65, .tmp 67, .tmp 69, .tmp 72] _ _ Try.func17 (by kernel_rfl) (by kernel_rfl) rfl (by kernel_rfl)) ?_
   refine (mamend_at wq F p M o.tr o.id o.price (-n9) _ HwbA.out hMq HI.out (by have := HNo.out; omega)).mono ?_
   rintro e wb ⟨Fwb, vwb, Zwb, rfl, hMwb, hOwb, hGwb, hkwb⟩
   refine ⟨.tuple #[vwb, .int .i64 1], rfl, range_keep hOq hkwb hbF, ?_⟩
   simp only [Act.put, sA, sS, sZ]
   refine s_val (o := ⟨some 62, _, _, _, _, _⟩) (.tuple #[vwb, .int .i64 1]) rfl (by kernel_rfl) (fun u hu => exec_move (.tmp 73) (.tuple #[vwb, .int .i64 1]) rfl (by kernel_rfl)) ?_
   simp only [Act.put, sA, sS, sZ]
   refine s_val (o := ⟨some 74, _, _, _, _, _⟩) (vwb) rfl (by kernel_rfl) (fun u hu => exec_extract (.tmp 62) [vwb, .int .i64 1] 0 (vwb) rfl (by kernel_rfl) rfl) ?_
   simp only [Act.put, sA, sS, sZ]
   refine s_val (o := ⟨some 75, _, _, _, _, _⟩) (.int .i64 1) rfl (by kernel_rfl) (fun u hu => exec_extract (.tmp 62) [vwb, .int .i64 1] 1 (.int .i64 1) rfl (by kernel_rfl) rfl) ?_
   simp only [Act.put, sA, sS, sZ]
   refine s_val (o := ⟨some 18, _, _, _, _, _⟩) (vwb) rfl (by kernel_rfl) (fun u hu => exec_assign (.tmp 74) (vwb) rfl (by kernel_rfl)) ?_
   simp only [Act.put, sA, sS, sZ]
   refine s_val (o := ⟨some 19, _, _, _, _, _⟩) (.int .i64 1) rfl (by kernel_rfl) (fun u hu => exec_assign (.tmp 75) (.int .i64 1) rfl (by kernel_rfl)) ?_
   simp only [Act.put, sA, sS, sZ]
   refine s_done ?_
   have Kwb : Keep F wa wb := Keep.any (Kept.trans (Keep.drew (Keep.refl _ wa)) ko) hkwb
   have zqwb := ko.size
   have Gwb : Grow wa F Fwb := hGwb.wide (by omega)
   have hbFwb : ¬ Fwb b17 := blk_off hbF (by omega) Gwb
   obtain ⟨kwwb, HFwb, hAwb, hVwb⟩ := amd_frame kwwa HFwa HAwa.out HVwa.out Gwb Kwb
   have HAwb := Lib.hid hAwb
   have HVwb := Lib.hid hVwb
   have HMwb := Lib.hid hMwb
   have HRwb := Lib.hid (outs_none hOwb)
   have HOwb : Hid (wb.rangeAt b17 0 o.cells) := range_keep HOwa.out Kwb hbF
   have lwb := Kwb.size
   have hOOwb := fun b hb => (hOwb.own b hb).2
   clear hOq hMq ko hMwb hOwb hGwb hkwb Kwb HOwad HMwad HOwa HMwa HAwa HVwa kwwa hAwb hVwb
   have HOwbd : Hid (wb.drew.rangeAt b17 0 o.cells) := range_kept HOwb.out (Keep.drew (Keep.refl _ wb))
   have HMwbd := Lib.hid (HMwb.out.kept (Keep.drew (Keep.refl _ wb)))
   have zdwb : wb.drew.heap.size = wb.heap.size := rfl
   go_upto_region 13 with fail
   refine wp_sched (fun u => u.rangeAt b17 0 o.cells) [(0, 0), (1, 0), (2, 0), (3, 0), (4, 0), (5, 0), (8, 0), (9, 0), (6, 1), (7, 0), (10, 1), (11, 0), (12, 0), (13, 0), (14, 0), (15, 0)] (by kernel_rfl) (by kernel_rfl) (HOwbd.out) ?_
   refine s_val (o := ⟨some 77, _, _, _, _, _⟩) (.pointer (some ⟨p, 0, none⟩)) rfl (by kernel_rfl) (fun u hu => exec_move (.tmp 11) (.pointer (some ⟨p, 0, none⟩)) rfl (by kernel_rfl)) ?_
   simp only [Act.put, sA, sS, sZ]
   refine s_val (o := ⟨some 78, _, _, _, _, _⟩) (.pointer (some ⟨b17, 0, none⟩)) rfl (by kernel_rfl) (fun u hu => exec_fldo 24 0 0 (.tmp 17) (b17) (0) (0) rfl (by kernel_rfl) (by kernel_rfl) rfl) ?_
   simp only [Act.put, sA, sS, sZ]
   refine s_val (o := ⟨some 79, _, _, _, _, _⟩) (.int .i64 o.tr) rfl (by kernel_rfl) (fun u hu => exec_loadi 3 Try.underlying3 (.tmp 78) ⟨b17, 0, none⟩ (.int .i64 o.tr) rfl (by kernel_rfl) (range_int hu 0 _ rfl)) ?_
   simp only [Act.put, sA, sS, sZ]
   refine s_val (o := ⟨some 80, _, _, _, _, _⟩) (.pointer (some ⟨b17, 1, none⟩)) rfl (by kernel_rfl) (fun u hu => exec_fldo 24 1 1 (.tmp 17) (b17) (0) (1) rfl (by kernel_rfl) (by kernel_rfl) rfl) ?_
   simp only [Act.put, sA, sS, sZ]
   refine s_val (o := ⟨some 81, _, _, _, _, _⟩) (.int .i64 o.id) rfl (by kernel_rfl) (fun u hu => exec_loadi 3 Try.underlying3 (.tmp 80) ⟨b17, 1, none⟩ (.int .i64 o.id) rfl (by kernel_rfl) (range_int hu 1 _ rfl)) ?_
   simp only [Act.put, sA, sS, sZ]
   refine s_val (o := ⟨some 82, _, _, _, _, _⟩) (.int .i64 n) rfl (by kernel_rfl) (fun u hu => exec_move (.tmp 4) (.int .i64 n) rfl (by kernel_rfl)) ?_
   simp only [Act.put, sA, sS, sZ]
   refine s_val (o := ⟨some 85, _, _, _, _, _⟩) (.pointer (some ⟨b17, 6, none⟩)) rfl (by kernel_rfl) (fun u hu => exec_fldo 24 6 6 (.tmp 17) (b17) (0) (6) rfl (by kernel_rfl) (by kernel_rfl) rfl) ?_
   simp only [Act.put, sA, sS, sZ]
   refine s_val (o := ⟨some 86, _, _, _, _, _⟩) (.int .i64 o.qty) rfl (by kernel_rfl) (fun u hu => exec_loadi 3 Try.underlying3 (.tmp 85) ⟨b17, 6, none⟩ (.int .i64 o.qty) rfl (by kernel_rfl) (range_int hu 6 _ rfl)) ?_
   simp only [Act.put, sA, sS, sZ]
   refine s_call (o := ⟨some 83, _, _, _, _, _⟩) 16 #[.int .i64 n, .int .i64 0, .int .i64 9] rfl (by kernel_rfl) (exec_call 16 _ [.tmp 82, .const (.int .i64 0), .const (.int .i64 9)] _ _ Try.func16 (by kernel_rfl) (by kernel_rfl) rfl (by kernel_rfl)) ?_
   refine (HW9.out wb.drew).mono ?_
   rintro e wq ⟨vo, rfl, hvo, ko⟩
   have hOq := range_kept HOwbd.out ko
   have hMq := HMwbd.out.kept ko
   refine ⟨.int .i64 n9, by have h2 : vo = .int .i64 n9 := hvo; rw [h2], hOq, ?_⟩
   simp only [Act.put, sA, sS, sZ]
   refine s_val (o := ⟨some 84, _, _, _, _, _⟩) (.int .i64 (1048577 + n9)) rfl (by kernel_rfl) (fun u hu => exec_addn (p := 1048577) (q := n9) (1048577 + n9) rfl rfl (by kernel_rfl) rfl (by omega) (by omega)) ?_
   simp only [Act.put, sA, sS, sZ]
   refine s_call (o := ⟨some 87, _, _, _, _, _⟩) 17 #[.pointer (some ⟨p, 0, none⟩), .int .i64 o.tr, .int .i64 o.id, .int .i64 (1048577 + n9), .int .i64 o.qty] rfl (by kernel_rfl) (exec_call 17 _ [.tmp 77, .tmp 79, .tmp 81, .tmp 84, .tmp 86] _ _ Try.func17 (by kernel_rfl) (by kernel_rfl) rfl (by kernel_rfl)) ?_
   refine (mamend_at wq Fwb p M o.tr o.id (1048577 + n9) o.qty _ HwcA.out hMq HI.out (by have := HNo.out; omega)).mono ?_
   rintro e wc ⟨Fwc, vwc, Zwc, rfl, hMwc, hOwc, hGwc, hkwc⟩
   refine ⟨.tuple #[vwc, .int .i64 1], rfl, range_keep hOq hkwc hbFwb, ?_⟩
   simp only [Act.put, sA, sS, sZ]
   refine s_val (o := ⟨some 76, _, _, _, _, _⟩) (.tuple #[vwc, .int .i64 1]) rfl (by kernel_rfl) (fun u hu => exec_move (.tmp 87) (.tuple #[vwc, .int .i64 1]) rfl (by kernel_rfl)) ?_
   simp only [Act.put, sA, sS, sZ]
   refine s_val (o := ⟨some 88, _, _, _, _, _⟩) (vwc) rfl (by kernel_rfl) (fun u hu => exec_extract (.tmp 76) [vwc, .int .i64 1] 0 (vwc) rfl (by kernel_rfl) rfl) ?_
   simp only [Act.put, sA, sS, sZ]
   refine s_val (o := ⟨some 89, _, _, _, _, _⟩) (.int .i64 1) rfl (by kernel_rfl) (fun u hu => exec_extract (.tmp 76) [vwc, .int .i64 1] 1 (.int .i64 1) rfl (by kernel_rfl) rfl) ?_
   simp only [Act.put, sA, sS, sZ]
   refine s_val (o := ⟨some 20, _, _, _, _, _⟩) (vwc) rfl (by kernel_rfl) (fun u hu => exec_assign (.tmp 88) (vwc) rfl (by kernel_rfl)) ?_
   simp only [Act.put, sA, sS, sZ]
   refine s_val (o := ⟨some 21, _, _, _, _, _⟩) (.int .i64 1) rfl (by kernel_rfl) (fun u hu => exec_assign (.tmp 89) (.int .i64 1) rfl (by kernel_rfl)) ?_
   simp only [Act.put, sA, sS, sZ]
   refine s_done ?_
   have Kwc : Keep Fwb wb wc := Keep.any (Kept.trans (Keep.drew (Keep.refl _ wb)) ko) hkwc
   have zqwc := ko.size
   have Gwc : Grow wb Fwb Fwc := hGwc.wide (by omega)
   have hbFwc : ¬ Fwc b17 := blk_off hbFwb (by omega) Gwc
   obtain ⟨kwwc, HFwc, hAwc, hVwc⟩ := amd_frame kwwb HFwb HAwb.out HVwb.out Gwc Kwc
   have HAwc := Lib.hid hAwc
   have HVwc := Lib.hid hVwc
   have HMwc := Lib.hid hMwc
   have HRwc := Lib.hid (outs_none hOwc)
   have HOwc : Hid (wc.rangeAt b17 0 o.cells) := range_keep HOwb.out Kwc hbFwb
   have lwc := Kwc.size
   have HRb := Lib.hid (HRwb.out.keep Kwc (fun b hb h => by have := (hOOwb b hb); exact this h))
   have HRc := HRwc
   go_upto_region 14 with fail
   refine wp_text 16 [.eq (.int .i64 1), .eq (.bool false), .eq (.bool false), .eq (.int .i64 1), .eq (.bool false), .eq (.bool false), .eq (.bool false), .eq (vwb), .eq (.int .i64 (0 : Int)), .eq (.bool false), .eq (.bool false), .eq (.bool false), .eq (vwc), .eq (.int .i64 (0 : Int)), .eq (.bool false), .eq (.bool false)] rfl (by kernel_rfl) ?_ ?_
   ·refine sv 1 rfl rfl rfl (fun a u hE hD hk => exec_move (.tmp 19) _ rfl (hE 19 (.int .i64 1) (by kernel_rfl) (by kernel_rfl))) ?_
    refine fsteps_cons 2 rfl (fun a u hE hD hk => f_as (show ((decide ((1 : Int) ≠ (1 : Int))) : Bool) = false from by decide) (f_val (o := ⟨some 91, _, _, _, _, _⟩) (.bool (decide ((1 : Int) ≠ (1 : Int)))) rfl (wanted_none rfl _) (exec_nen (p := 1) (q := 1) rfl (hD 0 90 (by kernel_rfl)) rfl) rfl)) ?_
    refine sv 3 rfl rfl rfl (fun a u hE hD hk => exec_move (.tmp 91) _ rfl (hD 1 91 (by kernel_rfl))) ?_
    refine fsteps_cons 4 rfl (fun a u hE hD hk => f_val (o := ⟨some 93, _, _, _, _, _⟩) (.int .i64 1) rfl (wanted_at (b := false) false rfl rfl (hD 2 92 (by kernel_rfl))) (exec_move (.tmp 21) _ rfl (hE 21 (.int .i64 1) (by kernel_rfl) (by kernel_rfl))) rfl) ?_
    refine fsteps_cons 5 rfl (fun a u hE hD hk => f_as (show ((decide ((1 : Int) ≠ (1 : Int))) : Bool) = false from by decide) (f_val (o := ⟨some 94, _, _, _, _, _⟩) (.bool (decide ((1 : Int) ≠ (1 : Int)))) rfl (wanted_at (b := false) false rfl rfl (hD 2 92 (by kernel_rfl))) (exec_nen (p := 1) (q := 1) rfl (hD 3 93 (by kernel_rfl)) rfl) rfl)) ?_
    refine sv 6 rfl rfl rfl (fun a u hE hD hk => exec_pickF (.tmp 92) (.const (.bool true)) (.tmp 94) (.bool false) rfl (hD 2 92 (by kernel_rfl)) (hD 4 94 (by kernel_rfl))) ?_
    refine sv 7 rfl rfl rfl (fun a u hE hD hk => exec_move (.tmp 95) _ rfl (hD 5 95 (by kernel_rfl))) ?_
    refine fsteps_cons 8 rfl (fun a u hE hD hk => f_val (o := ⟨some 97, _, _, _, _, _⟩) (vwb) rfl (wanted_at (b := false) false rfl rfl (hD 6 96 (by kernel_rfl))) (exec_move (.tmp 18) _ rfl (hE 18 (vwb) (by kernel_rfl) (by kernel_rfl))) rfl) ?_
    refine fsteps_cons 9 rfl (fun a u hE hD hk => f_val (o := ⟨some 98, _, _, _, _, _⟩) (.int .i64 (0 : Int)) rfl (wanted_at (b := false) false rfl rfl (hD 6 96 (by kernel_rfl))) (exec_lenS (.tmp 97) slC (vwb) (0) _ _ rfl (hD 7 97 (by kernel_rfl)) (HRb.out.kept hk)) rfl) ?_
    refine fsteps_cons 10 rfl (fun a u hE hD hk => f_as (show ((decide (((0 : Int) : Int) ≠ (0 : Int))) : Bool) = false from by decide) (f_val (o := ⟨some 99, _, _, _, _, _⟩) (.bool (decide (((0 : Int) : Int) ≠ (0 : Int)))) rfl (wanted_at (b := false) false rfl rfl (hD 6 96 (by kernel_rfl))) (exec_nen (p := (0 : Int)) (q := 0) rfl (hD 8 98 (by kernel_rfl)) rfl) rfl)) ?_
    refine sv 11 rfl rfl rfl (fun a u hE hD hk => exec_pickF (.tmp 96) (.const (.bool true)) (.tmp 99) (.bool false) rfl (hD 6 96 (by kernel_rfl)) (hD 9 99 (by kernel_rfl))) ?_
    refine sv 12 rfl rfl rfl (fun a u hE hD hk => exec_move (.tmp 100) _ rfl (hD 10 100 (by kernel_rfl))) ?_
    refine fsteps_cons 13 rfl (fun a u hE hD hk => f_val (o := ⟨some 102, _, _, _, _, _⟩) (vwc) rfl (wanted_at (b := false) false rfl rfl (hD 11 101 (by kernel_rfl))) (exec_move (.tmp 20) _ rfl (hE 20 (vwc) (by kernel_rfl) (by kernel_rfl))) rfl) ?_
    refine fsteps_cons 14 rfl (fun a u hE hD hk => f_val (o := ⟨some 103, _, _, _, _, _⟩) (.int .i64 (0 : Int)) rfl (wanted_at (b := false) false rfl rfl (hD 11 101 (by kernel_rfl))) (exec_lenS (.tmp 102) slC (vwc) (0) _ _ rfl (hD 12 102 (by kernel_rfl)) (HRc.out.kept hk)) rfl) ?_
    refine fsteps_cons 15 rfl (fun a u hE hD hk => f_as (show ((decide (((0 : Int) : Int) ≠ (0 : Int))) : Bool) = false from by decide) (f_val (o := ⟨some 104, _, _, _, _, _⟩) (.bool (decide (((0 : Int) : Int) ≠ (0 : Int)))) rfl (wanted_at (b := false) false rfl rfl (hD 11 101 (by kernel_rfl))) (exec_nen (p := (0 : Int)) (q := 0) rfl (hD 13 103 (by kernel_rfl)) rfl) rfl)) ?_
    refine sv 16 rfl rfl rfl (fun a u hE hD hk => exec_pickF (.tmp 101) (.const (.bool true)) (.tmp 104) (.bool false) rfl (hD 11 101 (by kernel_rfl)) (hD 14 104 (by kernel_rfl))) ?_
    exact fsteps_nil
   intro gv wd hV kd
   rw [show dstsOf _ 16 = [90, 91, 92, 93, 94, 95, 96, 97, 98, 99, 100, 101, 102, 103, 104, 105] by kernel_rfl]
   simp only [fC, fN, sA, sS, sZ, dS, dZ]
   rw [show gv 105 = .bool false from hV 15 105 (by kernel_rfl)]
   clear hV
   refine wpList_nil ?_
   have HMz := Lib.hid (hMwc.kept kd)
   have HAz := Lib.hid (HAwc.out.kept kd)
   have kwd := kwwc.trans kd
   go_upto_region 16 with fail
   refine wp_text 8 [.eq (.pointer (some ⟨p, 0, none⟩)), .sl wd.heap.size 24 9 an (ords X), .eq (.slice (some ⟨ga, oa, none⟩) an ca), .eq (.bool true), .eq (.bool true), .eq (.bool true), .eq (.bool true), .eq (.bool true)] rfl (by kernel_rfl) ?_ ?_
   ·refine sv 1 rfl rfl rfl (fun a u hE hD hk => exec_move (.tmp 11) _ rfl (hE 11 (.pointer (some ⟨p, 0, none⟩)) (by kernel_rfl) (by kernel_rfl))) ?_
    refine fsteps_cons 2 rfl (fun a u hE hD hk => f_call (o := ⟨some 107, _, _, _, _, _⟩) 13 #[.pointer (some ⟨p, 0, none⟩)] rfl (wanted_none rfl _) (exec_call 13 _ [.tmp 106] _ [.pointer (some ⟨p, 0, none⟩)] Try.func13 (by kernel_rfl) (by kernel_rfl) rfl (show [a.eval (.tmp 106)] = [.pointer (some ⟨p, 0, none⟩)] from (by rw [show a.eval (.tmp 106) = .pointer (some ⟨p, 0, none⟩) from (hD 0 106 (by kernel_rfl))] <;> rfl)) u) ((by rw [← HAN.out, ← HXX.out]; exact (mall_any u _ p M (HMz.out.kept hk) HI.out.inv (by omega)).base hk.size))) ?_
    refine sv 3 rfl rfl rfl (fun a u hE hD hk => exec_move (.tmp 12) _ rfl (hE 12 (.slice (some ⟨ga, oa, none⟩) an ca) (by kernel_rfl) (by kernel_rfl))) ?_
    refine fsteps_cons 4 rfl (fun a u hE hD hk => f_call (o := ⟨some 109, _, _, _, _, _⟩) 19 #[a.eval (.tmp 107), .slice (some ⟨ga, oa, none⟩) an ca] rfl (wanted_none rfl _) (exec_call 19 _ [.tmp 107, .tmp 108] _ [a.eval (.tmp 107), .slice (some ⟨ga, oa, none⟩) an ca] Try.func19 (by kernel_rfl) (by kernel_rfl) rfl (show [a.eval (.tmp 107), a.eval (.tmp 108)] = [a.eval (.tmp 107), .slice (some ⟨ga, oa, none⟩) an ca] from (by rw [show a.eval (.tmp 108) = .slice (some ⟨ga, oa, none⟩) an ca from (hD 2 108 (by kernel_rfl))] <;> rfl)) u) ((by have h := sameO_any (a.eval (.tmp 107)) (.slice (some ⟨ga, oa, none⟩) an ca) 0 0 X X u (by rw [HAN.out]; exact (hD 1 107 (by kernel_rfl)).1) (by rw [HAN.out]; exact HAz.out.kept hk) (by have := HAN.out; omega) (by have := HAN.out; omega); rw [decide_eq_true rfl] at h; exact h))) ?_
    refine sv 5 rfl rfl rfl (fun a u hE hD hk => exec_move (.tmp 109) _ rfl (hD 3 109 (by kernel_rfl))) ?_
    refine fsteps_cons 6 rfl (fun a u hE hD hk => f_call (o := ⟨some 111, _, _, _, _, _⟩) 3 #[] rfl (wanted_at (b := true) true rfl rfl (hD 4 110 (by kernel_rfl))) (exec_call 3 _ [] _ [] Try.func3 (by kernel_rfl) (by kernel_rfl) rfl rfl u) (cruns_gives u)) ?_
    refine sv 7 rfl rfl rfl (fun a u hE hD hk => exec_pick (.tmp 110) (.tmp 111) (.const (.bool false)) (.bool true) rfl (hD 4 110 (by kernel_rfl)) (hD 5 111 (by kernel_rfl))) ?_
    refine sv 8 rfl rfl rfl (fun a u hE hD hk => exec_assign (.tmp 112) _ rfl (hD 6 112 (by kernel_rfl))) ?_
    exact fsteps_nil
   intro gv wz hV kz
   rw [show dstsOf _ 8 = [106, 107, 108, 109, 110, 111, 112, 10] by kernel_rfl]
   simp only [fC, fN, sA, sS, sZ, dS, dZ]
   rw [show gv 10 = .bool true from hV 7 10 (by kernel_rfl)]
   clear hV
   refine wpList_nil ?_
   go_wp2
   go_ret
   exact ⟨rfl, kwd.trans kz⟩
end Go.Proofs.Ytklohceombpleaa
