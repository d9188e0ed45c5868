/-
 BookDepth answers true: depth has each price once, the best first, with no more than is there. No condition.
-/
import Derived.Test.YtfpfpmhkkgfdbaaQD04
import Derived.Test.YtfpfpmhkkgfdbaaMDFill10
import Derived.Test.YtfpfpmhkkgfdbaaMDRuns10
import Derived.Test.YtfpfpmhkkgfdbaaMDDepM10
set_option linter.unusedVariables false
namespace Go.Proofs.Ytfpfpmhkkgfdbaa
open Go.RowKit
set_option maxRecDepth 100000
theorem dep_step (X : List Ord) (j : Nat) (o : Ord) (ho : X[j]? = some o) : (keysP (X.take (j + 1)) = if o.price ∈ keysP (X.take j) then keysP (X.take j) else keysP (X.take j) ++ [o.price]) ∧ (sumP (X.take (j + 1)) = fun k => if k = o.price then sumP (X.take j) o.price + o.qty else sumP (X.take j) k) := by
 have e : X.take (j + 1) = X.take j ++ [o] := by rw [List.take_add_one, ho]; rfl
 rw [e, keysP_snoc]
 refine ⟨rfl, funext fun k => ?_⟩
 rw [sumP_snoc]
 by_cases h : o.price = k
 ·rw [if_pos h, if_pos h.symm, h]
 ·rw [if_neg h, if_neg (fun e => h e.symm)]
theorem wf_dep (p : Int) (h : 0 ≤ p ∧ p ≤ 1048576) : (Lit.int .i64 p).wf = true := by
 unfold Lit.wf
 have e1 : IntKind.i64.min = -9223372036854775808 := by decide
 have e2 : IntKind.i64.max = 9223372036854775807 := by decide
 simp only [e1, e2, Bool.and_eq_true, decide_eq_true_eq]
 omega
set_option maxRecDepth 100000 in
set_option maxHeartbeats 3200000 in
theorem bookDepth_any (v : Value) (l : List Kq) (w : World) (hl : Kqs w v l) : Calls Try.prog 11 #[v] w fun e w' => e = .returned (.bool true) ∧ Kept w w' := by
 go_enter Try.func11, Try.ntmps11
 go_upto_region 1 with fail
 refine wp_region_lit ?_
 refine l_val (o := ⟨some 11, _, _, _, _, _⟩) (v) rfl (exec_move (.tmp 0) (v) rfl (by kernel_rfl)) ?_
 simp only [Act.put, sA, sS, sZ]
 refine l_call (o := ⟨some 12, _, _, _, _, _⟩) 31 #[v, .int .i64 50] rfl (exec_call 31 _ [.tmp 11, .const (.int .i64 50)] _ _ Try.func31 (by kernel_rfl) (by kernel_rfl) rfl (by kernel_rfl) _) ?_
 refine (bfilled_any v l 50 w hl (by omega)).mono ?_
 rintro r w1 ⟨p, F, rfl, hB1, hG1, k1⟩
 refine ⟨_, rfl, ?_⟩
 simp only [Act.put, sA, sS, sZ]
 refine l_val (o := ⟨some 3, _, _, _, _, _⟩) (.pointer (some ⟨p, 0, none⟩)) rfl (exec_assign (.tmp 12) (.pointer (some ⟨p, 0, none⟩)) rfl (by kernel_rfl)) ?_
 simp only [Act.put, sA, sS, sZ]
 refine wpList_nil ?_
 have hI := (fillB_inv (l.take 50)).1
 generalize fillB (l.take 50) = B at hI hB1
 have HI := Lib.hid hI
 have HB1 := Lib.hid hB1
 clear hI hB1 hG1 hl
 go_wp2_with fail
 go_loopw [4] (fun q wr => ∃ s : Nat, 1 ≤ s ∧ s ≤ 3 ∧ q = .int .i64 (s : Int) ∧ Hid (Bk wr F p B) ∧ Kept w wr) (fun q _ => 3 - (intOf q).toNat)
 case atStart => exact ⟨1, by omega, by omega, rfl, HB1.out, k1⟩
 case round =>
  obtain ⟨s, hs1, hs3, rfl, HBr, hkr⟩ := hrel
  by_cases hs : s ≤ 2
  ·obtain ⟨sd, hsd⟩ : ∃ y : Int, (s : Int) = y := ⟨_, rfl⟩
   have hs12 : sd = 1 ∨ sd = 2 := by omega
   have HDI : Hid (DepIs sd (B.sd sd)) := dep_is (HI.out.side hs12).mine
   obtain ⟨X, hX⟩ : ∃ X, ordsL (B.sd sd) = X := ⟨_, rfl⟩
   obtain ⟨D, hD⟩ : ∃ D, depthL sd (B.sd sd) = D := ⟨_, rfl⟩
   obtain ⟨n, hn⟩ : ∃ n, X.length = n := ⟨_, rfl⟩
   obtain ⟨m, hm⟩ : ∃ m, D.length = m := ⟨_, rfl⟩
   have HXe := Lib.hid hX
   have HDe := Lib.hid hD
   have HN := Lib.hid hn
   have HM := Lib.hid hm
   have hkm : (keysP X).length = m := by rw [← hX, HDI.out.len, ← hm, ← hD]; unfold depthL; rw [List.length_map]
   have hn64 : n ≤ 64 := by rw [← hn, ← hX, ordsL_len]; exact (HI.out.side hs12).mine.few
   have hm64 : m ≤ 64 := by
    have h1 := (HI.out.side hs12).mine.len
    have h2 := (HI.out.side hs12).mine.few
    rw [← hm, ← hD]
    unfold depthL
    rw [List.length_map]
    omega
   have HQ : Hid (∀ o ∈ X, 0 ≤ o.qty ∧ o.qty ≤ 1048576 ∧ o.side = sd ∧ 0 ≤ o.price ∧ o.price ≤ 1048576) := by show ∀ o ∈ X, _; rw [← hX]; exact HDI.out.qty
   have HE1 : Hid (∀ (i : Nat) (h : Ent), D[i]? = some h → 1 ≤ h.n ∧ h.n ≤ sumP X h.o.price ∧ (0 ≤ h.o.price ∧ h.o.price ≤ 1048576) ∧ h.n ≤ 1048576 * 64) := fun i h hh => by
    rw [← hD] at hh
    rw [← hX]
    exact ⟨(HDI.out.each i h hh).1, (HDI.out.each i h hh).2, ⟨(HDI.out.price i h hh).1, (HDI.out.price i h hh).2.1⟩, (HDI.out.price i h hh).2.2⟩
   have HE2 : Hid (∀ (i : Nat) (h g : Ent), D[i]? = some h → D[i + 1]? = some g → bet sd h.o.price g.o.price = true) := fun i h g h1 h2 => by
    rw [← hD] at h1 h2
    exact HDI.out.best i h g h1 h2
   clear hX hD hn hm HDI
   go_upto_region 7 with fail
   rw [hsd]
   refine wp_region_lit ?_
   refine l_new (o := ⟨some 19, _, _, _, _, _⟩) (.map (some wr.heap.size)) (wr.alloc (.map #[] 0)) rfl (exec_mkmapI rfl) ?_
   have hM2 := MapI.new wr
   have k2 : Kept wr (wr.alloc (.map #[] 0)) := (Keep.refl _ wr).alloc _
   generalize wr.alloc (.map #[] 0) = w2 at hM2 k2 ⊢
   simp only [Act.put, sA, sS, sZ]
   refine l_val (o := ⟨some 5, _, _, _, _, _⟩) (.map (some wr.heap.size)) rfl (exec_assign (.tmp 19) (.map (some wr.heap.size)) rfl (by kernel_rfl)) ?_
   simp only [Act.put, sA, sS, sZ]
   refine wpList_nil ?_
   obtain ⟨gm, hgm⟩ : ∃ y, wr.heap.size = y := ⟨_, rfl⟩
   rw [hgm] at hM2 ⊢
   have lgm : gm < w2.heap.size := hM2.lt
   have HM2 := Lib.hid hM2
   have HB2 := Lib.hid (HBr.out.kept k2)
   have kw2 := hkr.trans k2
   have z0 := hkr.size
   have hFl : ∀ b, F b → b < gm := by rw [← hgm]; exact HBr.out.lt
   have HFl := Lib.hid hFl
   have hgw : w.heap.size ≤ gm := by rw [← hgm]; exact z0
   clear hM2 HBr hkr k2 hFl hgm
   go_upto_region 8 with fail
   refine wp_text 5 [.eq (.pointer (some ⟨p, 0, none⟩)), .eq (.int .i64 sd), .sl w2.heap.size 25 9 n (ords X), .eq (.int .i64 (n : Int)), .eq (.int .i64 0)] rfl (by kernel_rfl) ?_ ?_
   ·refine sv 1 rfl rfl rfl (fun a u hE hD hk => exec_move (.tmp 3) _ rfl (hE 3 (.pointer (some ⟨p, 0, none⟩)) (by kernel_rfl) (by kernel_rfl))) ?_
    refine sv 2 rfl rfl rfl (fun a u hE hD hk => exec_move (.tmp 4) _ rfl (hE 4 (.int .i64 sd) (by kernel_rfl) (by kernel_rfl))) ?_
    refine fsteps_cons 3 rfl (fun a u hE hD hk => f_call (o := ⟨some 22, _, _, _, _, _⟩) 32 #[.pointer (some ⟨p, 0, none⟩), .int .i64 sd] rfl (wanted_none rfl _) (exec_call 32 _ [.tmp 20, .tmp 21] _ [.pointer (some ⟨p, 0, none⟩), .int .i64 sd] Try.func32 (by kernel_rfl) (by kernel_rfl) rfl (show [a.eval (.tmp 20), a.eval (.tmp 21)] = [.pointer (some ⟨p, 0, none⟩), .int .i64 sd] from (by rw [show a.eval (.tmp 20) = .pointer (some ⟨p, 0, none⟩) from (hD 0 20 (by kernel_rfl)), show a.eval (.tmp 21) = .int .i64 sd from (hD 1 21 (by kernel_rfl))] <;> rfl)) u) ((by have h := (borders_any u F p B sd (HB2.out.kept hk) HI.out).base hk.size; rw [HXe.out, HN.out] at h; exact h))) ?_
    refine sv 4 rfl rfl rfl (fun a u hE hD hk => exec_lenS (.tmp 22) slO _ n _ u rfl rfl (hD 2 22 (by kernel_rfl)).1) ?_
    refine sv 5 rfl rfl rfl (fun a u hE hD hk => exec_move (.const (.int .i64 0)) _ rfl rfl) ?_
    exact fsteps_nil
   intro gv w3 hV k3
   rw [show dstsOf _ 5 = [20, 21, 22, 23, 24] by kernel_rfl]
   simp only [fC, fN, sA, sS, sZ, dS, dZ]
   have hv22 : (.sl w2.heap.size 25 9 n (ords X) : Kn).p (gv 22) w3 := hV 2 22 (by kernel_rfl)
   generalize gv 22 = v22 at hv22 ⊢
   rw [show gv 23 = .int .i64 (n : Int) from hV 3 23 (by kernel_rfl)]
   rw [show gv 24 = .int .i64 0 from hV 4 24 (by kernel_rfl)]
   clear hV
   obtain ⟨A1, c1, e1⟩ : ∃ A c, v22 = .slice A n c := by obtain ⟨_, A, c, h, _⟩ := hv22.1; exact ⟨A, c, h⟩
   subst e1
   refine wpList_nil ?_
   have HX3 : Hid (Sl w3 25 9 (.slice A1 n c1) n (ords X)) := hv22.1
   have HXo : Hid (∀ b, (Value.slice A1 n c1).ownBlock = some b → w2.heap.size ≤ b) := hv22.2
   have HB3 := Lib.hid (HB2.out.kept k3)
   have HM3 := Lib.hid (HM2.out.kept k3)
   have kw3 := kw2.trans k3
   have z3 := k3.size
   clear hv22 HB2 HM2 kw2 k3
   go_wp2_with fail
   go_loopw [24] (fun q wr => ∃ (j : Nat), j ≤ n ∧ q = .int .i64 (j : Int) ∧ Hid (MapI wr gm (keysP (X.take j)) (sumP (X.take j))) ∧ Keep (· = gm) w3 wr) (fun q _ => n - (intOf q).toNat)
   case atStart => exact ⟨0, Nat.zero_le _, rfl, by show MapI _ _ _ _; rw [List.take_zero]; exact HM3.out, Keep.refl _ _⟩
   case round =>
    obtain ⟨j, hj, rfl, HMr, hkr⟩ := hrel
    by_cases hjm : j < n
    ·obtain ⟨o, ho⟩ : ∃ o, X[j]? = some o := ⟨X[j]'(by rw [HN.out]; exact hjm), List.getElem?_eq_getElem (by rw [HN.out]; exact hjm)⟩
     obtain ⟨gx, ox, c1', e1⟩ := HX3.out.some_ (by omega)
     injection e1 with e1 _ e1'
     subst e1 e1'
     have hgx : w2.heap.size ≤ gx := HXo.out gx rfl
     have HO : Hid (wr.rangeAt gx (ox + j * 9) o.cells) := range_keep (HX3.out.rngO j o ho) hkr (fun h => by omega)
     obtain ⟨q1, q2, q3, q4, q5⟩ := HQ.out o (List.mem_of_getElem? ho)
     obtain ⟨e2, e3⟩ := dep_step X j o ho
     have hsm : 0 ≤ sumP (X.take j) o.price ∧ sumP (X.take j) o.price ≤ 1048576 * 64 := by
      have h1 := sumP_pos (X.take j) o.price (fun y hy => (HQ.out y (List.mem_of_mem_take hy)).1)
      have h2 := sumP_few (X.take j) o.price (fun y hy => ⟨(HQ.out y (List.mem_of_mem_take hy)).1, (HQ.out y (List.mem_of_mem_take hy)).2.1⟩)
      have h3 : (X.take j).length ≤ 64 := by rw [List.length_take]; omega
      omega
     have hnd := keysP_nodup (X.take j)
     have hwf := wf_dep o.price ⟨q4, q5⟩
     obtain ⟨K, hK⟩ : ∃ y, keysP (X.take j) = y := ⟨_, rfl⟩
     obtain ⟨f, hf⟩ : ∃ y, sumP (X.take j) = y := ⟨_, rfl⟩
     rw [hK, hf] at HMr
     rw [hK] at e2
     rw [hf] at e3 hsm
     rw [hK] at hnd
     have zr := hkr.size
     clear ho hK hf
     go_upto_region 10 with fail
     refine wp_text 3 [.eq (.pointer (some ⟨gx, ox + j * 9, none⟩)), .eq (o.v), .fresh wr.heap.size 25 zeroO.cells] rfl (by kernel_rfl) ?_ ?_
     ·refine sv 1 rfl rfl rfl (fun a u hE hD hk => exec_ixo slO (.tmp 22) (.tmp 24) (gx) (ox) n c1 j (ox + j * 9) ((j : Int)) rfl (hE 22 (.slice (some ⟨gx, ox, none⟩) n c1) (by kernel_rfl) (by kernel_rfl)) (hE 24 (.int .i64 (j : Int)) (by kernel_rfl) (by kernel_rfl)) (by first | rfl | omega) (hjm) (by first | rfl | omega)) ?_
      refine sv 2 rfl rfl rfl (fun a u hE hD hk => exec_ldS 25 _ (.tmp 26) (gx) (ox + j * 9) (o.cells) rfl (hD 0 26 (by kernel_rfl)) (range_kept HO.out hk) Try.underlying25 (by rw [o.len9]; exact ord_size)) ?_
      refine fsteps_cons 3 rfl (fun a u hE hD hk => f_new (o := ⟨some 7, _, _, _, _, _⟩) (.pointer (some ⟨u.heap.size, 0, none⟩)) _ rfl (wanted_none rfl _) (exec_alc 25 zeroO.cells rfl zO) ⟨_, rfl, hk.size, Blk.new u _ _⟩ ((Keep.refl _ u).alloc _)) ?_
      exact fsteps_nil
     intro gv w4 hV k4
     rw [show dstsOf _ 3 = [26, 27, 7] by kernel_rfl]
     simp only [fC, fN, sA, sS, sZ, dS, dZ]
     have hv7 : (.fresh wr.heap.size 25 zeroO.cells : Kn).p (gv 7) w4 := hV 2 7 (by kernel_rfl)
     generalize gv 7 = v7 at hv7 ⊢
     rw [show gv 27 = o.v from hV 1 27 (by kernel_rfl)]
     clear hV
     obtain ⟨g7, rfl, hg7, hB7⟩ := hv7
     refine l_setS (o := ⟨none, _, _, _, _, _⟩) 25 g7 25 zeroO.cells o.cells (.tmp 7) (.tmp 27) rfl rfl (by kernel_rfl) (by kernel_rfl) (hB7) (by rw [Ord.len9]; exact ord_size) (by rw [Ord.len9, Ord.len9]) (Ord.one1 _) ?_
     intro w5 hCw5 hkw5 hsw5
     simp only [Act.put]
     refine wpList_nil ?_
     have K5 : Keep (· = gm) w3 w5 := (hkr.kept k4).new hkw5 (by omega)
     have k5 : Kept wr w5 := k4.trans' hkw5 (by omega)
     have HM5 := Lib.hid (HMr.out.kept k5)
     have HO5 : Hid (w5.rangeAt g7 0 o.cells) := blk_range hCw5
     clear hB7 hCw5 hkw5 hsw5 k4 k5 HMr HO hkr
     go_upto_region 11 with fail
     refine wp_text 4 [.eq (.pointer (some ⟨g7, 3, none⟩)), .eq (.int .i64 o.side), .eq (.int .i64 sd), .eq (.bool false)] rfl (by kernel_rfl) ?_ ?_
     ·refine sv 1 rfl rfl rfl (fun a u hE hD hk => exec_fldo 25 3 3 (.tmp 7) (g7) (0) (3) rfl (hE 7 (.pointer (some ⟨g7, 0, none⟩)) (by kernel_rfl) (by kernel_rfl)) (by kernel_rfl) rfl) ?_
      refine sv 2 rfl rfl rfl (fun a u hE hD hk => exec_loadi 3 Try.underlying3 (.tmp 28) ⟨g7, 3, none⟩ (.int .i64 o.side) rfl (hD 0 28 (by kernel_rfl)) (range_int (range_kept HO5.out hk) 3 _ rfl)) ?_
      refine sv 3 rfl rfl rfl (fun a u hE hD hk => exec_move (.tmp 4) _ rfl (hE 4 (.int .i64 sd) (by kernel_rfl) (by kernel_rfl))) ?_
      refine fsteps_cons 4 rfl (fun a u hE hD hk => f_as (show ((decide ((o.side : Int) ≠ (sd : Int))) : Bool) = false from decide_eq_false (fun h => h q3)) (f_val (o := ⟨some 31, _, _, _, _, _⟩) (.bool (decide ((o.side : Int) ≠ (sd : Int)))) rfl (wanted_none rfl _) (exec_nen (p := o.side) (q := sd) rfl (hD 1 29 (by kernel_rfl)) (hD 2 30 (by kernel_rfl))) rfl)) ?_
      exact fsteps_nil
     intro gv w6 hV k6
     rw [show dstsOf _ 4 = [28, 29, 30, 31] by kernel_rfl]
     simp only [fC, fN, sA, sS, sZ, dS, dZ]
     rw [show gv 31 = .bool false from hV 3 31 (by kernel_rfl)]
     clear hV
     refine wpList_nil ?_
     have K6 := K5.kept k6
     have HM6 := Lib.hid (HM5.out.kept k6)
     have HO6 := Lib.hid (range_kept HO5.out k6)
     clear HM5 HO5 K5 k6
     go_upto_region 13 with fail
     refine wp_text 10 [.eq (.map (some gm)), .eq (.pointer (some ⟨g7, 5, none⟩)), .eq (.int .i64 o.price), .eq (.map (some gm)), .eq (.pointer (some ⟨g7, 5, none⟩)), .eq (.int .i64 o.price), .eq (.int .i64 (f o.price)), .eq (.pointer (some ⟨g7, 6, none⟩)), .eq (.int .i64 o.qty), .eq (.int .i64 (f o.price + o.qty))] rfl (by kernel_rfl) ?_ ?_
     ·refine sv 1 rfl rfl rfl (fun a u hE hD hk => exec_move (.tmp 5) _ rfl (hE 5 (.map (some gm)) (by kernel_rfl) (by kernel_rfl))) ?_
      refine sv 2 rfl rfl rfl (fun a u hE hD hk => exec_fldo 25 5 5 (.tmp 7) (g7) (0) (5) rfl (hE 7 (.pointer (some ⟨g7, 0, none⟩)) (by kernel_rfl) (by kernel_rfl)) (by kernel_rfl) rfl) ?_
      refine sv 3 rfl rfl rfl (fun a u hE hD hk => exec_loadi 3 Try.underlying3 (.tmp 33) ⟨g7, 5, none⟩ (.int .i64 o.price) rfl (hD 1 33 (by kernel_rfl)) (range_int (range_kept HO6.out hk) 5 _ rfl)) ?_
      refine sv 4 rfl rfl rfl (fun a u hE hD hk => exec_move (.tmp 5) _ rfl (hE 5 (.map (some gm)) (by kernel_rfl) (by kernel_rfl))) ?_
      refine sv 5 rfl rfl rfl (fun a u hE hD hk => exec_fldo 25 5 5 (.tmp 7) (g7) (0) (5) rfl (hE 7 (.pointer (some ⟨g7, 0, none⟩)) (by kernel_rfl) (by kernel_rfl)) (by kernel_rfl) rfl) ?_
      refine sv 6 rfl rfl rfl (fun a u hE hD hk => exec_loadi 3 Try.underlying3 (.tmp 36) ⟨g7, 5, none⟩ (.int .i64 o.price) rfl (hD 4 36 (by kernel_rfl)) (range_int (range_kept HO6.out hk) 5 _ rfl)) ?_
      refine sv 7 rfl rfl rfl (fun a u hE hD hk => exec_lookI (.tmp 35) (.tmp 37) gm K f o.price rfl (hD 3 35 (by kernel_rfl)) (hD 5 37 (by kernel_rfl)) hwf (HM6.out.kept hk)) ?_
      refine sv 8 rfl rfl rfl (fun a u hE hD hk => exec_fldo 25 6 6 (.tmp 7) (g7) (0) (6) rfl (hE 7 (.pointer (some ⟨g7, 0, none⟩)) (by kernel_rfl) (by kernel_rfl)) (by kernel_rfl) rfl) ?_
      refine sv 9 rfl rfl rfl (fun a u hE hD hk => exec_loadi 3 Try.underlying3 (.tmp 39) ⟨g7, 6, none⟩ (.int .i64 o.qty) rfl (hD 7 39 (by kernel_rfl)) (range_int (range_kept HO6.out hk) 6 _ rfl)) ?_
      refine sv 10 rfl rfl rfl (fun a u hE hD hk => exec_addn (f o.price + o.qty) (p := f o.price) (q := o.qty) rfl (hD 6 38 (by kernel_rfl)) (hD 8 40 (by kernel_rfl)) rfl (by omega) (by omega)) ?_
      exact fsteps_nil
     intro gv w7a hV k7a
     rw [show dstsOf _ 10 = [32, 33, 34, 35, 36, 37, 38, 39, 40, 41] by kernel_rfl]
     simp only [fC, fN, sA, sS, sZ, dS, dZ]
     rw [show gv 32 = .map (some gm) from hV 0 32 (by kernel_rfl)]
     rw [show gv 34 = .int .i64 o.price from hV 2 34 (by kernel_rfl)]
     rw [show gv 41 = .int .i64 (f o.price + o.qty) from hV 9 41 (by kernel_rfl)]
     clear hV
     refine l_iput (o := ⟨none, _, _, _, _, _⟩) (.tmp 32) (.tmp 34) (.tmp 41) gm K f o.price (f o.price + o.qty) rfl rfl (by kernel_rfl) (by kernel_rfl) (by kernel_rfl) hwf (HM6.out.kept k7a) hnd ?_
     intro w7 hM7 hk7 hs7
     simp only [Act.put]
     refine wpList_nil ?_
     rw [← e2, ← e3] at hM7
     have HM7 := Lib.hid hM7
     have K7 : Keep (· = gm) w3 w7 := (K6.kept k7a).trans hk7 (fun _ _ h => h)
     clear hM7 hk7 hs7 k7a K6 HM6 HO6
     go_wp2
     exact ⟨⟨j + 1, by omega, by go_num, HM7, K7⟩, by simp [intOf]; omega⟩
    ·have HMx : Hid (MapI wr gm (keysP X) (sumP X)) := by
      have h1 := HMr.out
      rw [List.take_of_length_le (by rw [HN.out]; omega)] at h1
      exact h1
     have HBx : Hid (Bk wr F p B) := HB3.out.keep hkr (fun b hb e => by have := HFl.out b hb; have e' : b = gm := e; omega)
     have kwx : Kept w wr := Keep.trans kw3 hkr (fun b hb e => by have e' : b = gm := e; omega)
     clear HMr HB3 kw3 HX3 HXo HM3 hkr
     go_upto_region 15 with fail
     refine wp_text 3 [.eq (.pointer (some ⟨p, 0, none⟩)), .eq (.int .i64 sd), .sl 0 39 10 m (ents D)] rfl (by kernel_rfl) ?_ ?_
     ·refine sv 1 rfl rfl rfl (fun a u hE hD hk => exec_move (.tmp 3) _ rfl (hE 3 (.pointer (some ⟨p, 0, none⟩)) (by kernel_rfl) (by kernel_rfl))) ?_
      refine sv 2 rfl rfl rfl (fun a u hE hD hk => exec_move (.tmp 4) _ rfl (hE 4 (.int .i64 sd) (by kernel_rfl) (by kernel_rfl))) ?_
      refine fsteps_cons 3 rfl (fun a u hE hD hk => f_call (o := ⟨some 45, _, _, _, _, _⟩) 17 #[.pointer (some ⟨p, 0, none⟩), .int .i64 sd] rfl (wanted_none rfl _) (exec_call 17 _ [.tmp 43, .tmp 44] _ [.pointer (some ⟨p, 0, none⟩), .int .i64 sd] Try.func17 (by kernel_rfl) (by kernel_rfl) rfl (show [a.eval (.tmp 43), a.eval (.tmp 44)] = [.pointer (some ⟨p, 0, none⟩), .int .i64 sd] from (by rw [show a.eval (.tmp 43) = .pointer (some ⟨p, 0, none⟩) from (hD 0 43 (by kernel_rfl)), show a.eval (.tmp 44) = .int .i64 sd from (hD 1 44 (by kernel_rfl))] <;> rfl)) u) ((by have h := (bdepth_any u F p B sd (HBx.out.kept hk) HI.out).base (Nat.zero_le _); rw [HDe.out, HM.out] at h; exact h))) ?_
      exact fsteps_nil
     intro gv w8 hV k8
     rw [show dstsOf _ 3 = [43, 44, 45] by kernel_rfl]
     simp only [fC, fN, sA, sS, sZ, dS, dZ]
     have hv45 : (.sl 0 39 10 m (ents D) : Kn).p (gv 45) w8 := hV 2 45 (by kernel_rfl)
     generalize gv 45 = v45 at hv45 ⊢
     clear hV
     obtain ⟨A2, c2, e1⟩ : ∃ A c, v45 = .slice A m c := by obtain ⟨_, A, c, h, _⟩ := hv45.1; exact ⟨A, c, h⟩
     subst e1
     refine l_val (o := ⟨some 8, _, _, _, _, _⟩) (.slice A2 m c2) rfl (exec_assign (.tmp 45) (.slice A2 m c2) rfl (by kernel_rfl)) ?_
     simp only [Act.put, sA, sS, sZ]
     refine wpList_nil ?_
     have HD8 : Hid (Sl w8 39 10 (.slice A2 m c2) m (ents D)) := hv45.1
     have HM8 := Lib.hid (HMx.out.kept k8)
     have HB8 := Lib.hid (HBx.out.kept k8)
     have kw8 := kwx.trans k8
     clear hv45 HMx HBx kwx k8
     go_upto_region 16 with fail
     refine wp_text 5 [.eq (.slice A2 m c2), .eq (.int .i64 (m : Int)), .eq (.map (some gm)), .eq (.int .i64 (m : Int)), .eq (.bool false)] rfl (by kernel_rfl) ?_ ?_
     ·refine sv 1 rfl rfl rfl (fun a u hE hD hk => exec_move (.tmp 8) _ rfl (hE 8 (.slice A2 m c2) (by kernel_rfl) (by kernel_rfl))) ?_
      refine sv 2 rfl rfl rfl (fun a u hE hD hk => exec_lenS (.tmp 46) slH (.slice A2 m c2) (m) _ _ rfl (hD 0 46 (by kernel_rfl)) HD8.out) ?_
      refine sv 3 rfl rfl rfl (fun a u hE hD hk => exec_move (.tmp 5) _ rfl (hE 5 (.map (some gm)) (by kernel_rfl) (by kernel_rfl))) ?_
      refine sv 4 rfl rfl rfl (fun a u hE hD hk => exec_lenI (.tmp 48) gm m (keysP X) (sumP X) rfl (hD 2 48 (by kernel_rfl)) (HM8.out.kept hk) hkm) ?_
      refine fsteps_cons 5 rfl (fun a u hE hD hk => f_as (show ((decide (((m : Int) : Int) ≠ ((m : Int) : Int))) : Bool) = false from decide_eq_false (fun h => h rfl)) (f_val (o := ⟨some 50, _, _, _, _, _⟩) (.bool (decide (((m : Int) : Int) ≠ ((m : Int) : Int)))) rfl (wanted_none rfl _) (exec_nen (p := (m : Int)) (q := (m : Int)) rfl (hD 1 47 (by kernel_rfl)) (hD 3 49 (by kernel_rfl))) rfl)) ?_
      exact fsteps_nil
     intro gv w9 hV k9
     rw [show dstsOf _ 5 = [46, 47, 48, 49, 50] by kernel_rfl]
     simp only [fC, fN, sA, sS, sZ, dS, dZ]
     rw [show gv 50 = .bool false from hV 4 50 (by kernel_rfl)]
     clear hV
     refine wpList_nil ?_
     have HD9 := Lib.hid (HD8.out.kept k9)
     have HM9 := Lib.hid (HM8.out.kept k9)
     have HB9 := Lib.hid (HB8.out.kept k9)
     have kw9 := kw8.trans k9
     clear HD8 HM8 HB8 kw8 k9
     go_upto_region 18 with fail
     refine wp_text 3 [.eq (.slice A2 m c2), .eq (.int .i64 (m : Int)), .eq (.int .i64 0)] rfl (by kernel_rfl) ?_ ?_
     ·refine sv 1 rfl rfl rfl (fun a u hE hD hk => exec_move (.tmp 8) _ rfl (hE 8 (.slice A2 m c2) (by kernel_rfl) (by kernel_rfl))) ?_
      refine sv 2 rfl rfl rfl (fun a u hE hD hk => exec_lenS (.tmp 51) slH (.slice A2 m c2) (m) _ _ rfl (hD 0 51 (by kernel_rfl)) HD9.out) ?_
      refine sv 3 rfl rfl rfl (fun a u hE hD hk => exec_move (.const (.int .i64 0)) _ rfl rfl) ?_
      exact fsteps_nil
     intro gv w10 hV k10
     rw [show dstsOf _ 3 = [51, 52, 53] by kernel_rfl]
     simp only [fC, fN, sA, sS, sZ, dS, dZ]
     rw [show gv 51 = .slice A2 m c2 from hV 0 51 (by kernel_rfl)]
     rw [show gv 52 = .int .i64 (m : Int) from hV 1 52 (by kernel_rfl)]
     rw [show gv 53 = .int .i64 0 from hV 2 53 (by kernel_rfl)]
     clear hV
     refine wpList_nil ?_
     have HD10 := Lib.hid (HD9.out.kept k10)
     have HM10 := Lib.hid (HM9.out.kept k10)
     have HB10 := Lib.hid (HB9.out.kept k10)
     have kw10 := kw9.trans k10
     clear HD9 HM9 HB9 kw9 k10
     go_wp2_with fail
     go_loopw [53] (fun q wr => ∃ (j : Nat), j ≤ m ∧ q = .int .i64 (j : Int) ∧ Kept w10 wr) (fun q _ => m - (intOf q).toNat)
     case atStart => exact ⟨0, Nat.zero_le _, rfl, Kept.refl _⟩
     case round =>
      obtain ⟨j, hj, rfl, hkr⟩ := hrel
      by_cases hjm : j < m
      ·obtain ⟨h, hh⟩ : ∃ h, D[j]? = some h := ⟨D[j]'(by rw [HM.out]; exact hjm), List.getElem?_eq_getElem (by rw [HM.out]; exact hjm)⟩
       obtain ⟨gd, od, c2', e1⟩ := HD10.out.some_ (by omega)
       injection e1 with e1 _ e1'
       subst e1 e1'
       have HH : Hid (wr.rangeAt gd (od + j * 10) h.cells) := range_kept (HD10.out.rng j h hh) hkr
       obtain ⟨q1, q2, q3, q4⟩ := HE1.out j h hh
       have hwf := wf_dep h.o.price q3
       have HMr := Lib.hid (HM10.out.kept hkr)
       go_upto_region 20 with fail
       refine wp_text 4 [.eq (.int .i64 (j : Int)), .eq (.pointer (some ⟨gd, od + j * 10, none⟩)), .eq (h.v), .fresh wr.heap.size 39 zeroE.cells] rfl (by kernel_rfl) ?_ ?_
       ·refine sv 1 rfl rfl rfl (fun a u hE hD hk => exec_move (.tmp 53) _ rfl (hE 53 (.int .i64 (j : Int)) (by kernel_rfl) (by kernel_rfl))) ?_
        refine sv 2 rfl rfl rfl (fun a u hE hD hk => exec_ixo slH (.tmp 51) (.tmp 53) (gd) (od) m c2 j (od + j * 10) ((j : Int)) rfl (hE 51 (.slice (some ⟨gd, od, none⟩) m c2) (by kernel_rfl) (by kernel_rfl)) (hE 53 (.int .i64 (j : Int)) (by kernel_rfl) (by kernel_rfl)) (by first | rfl | omega) (hjm) (by first | rfl | omega)) ?_
        refine sv 3 rfl rfl rfl (fun a u hE hD hk => exec_ldS 39 _ (.tmp 56) (gd) (od + j * 10) (h.cells) rfl (hD 1 56 (by kernel_rfl)) (range_kept HH.out hk) Try.underlying39 (by rw [h.len10]; exact szH)) ?_
        refine fsteps_cons 4 rfl (fun a u hE hD hk => f_new (o := ⟨some 10, _, _, _, _, _⟩) (.pointer (some ⟨u.heap.size, 0, none⟩)) _ rfl (wanted_none rfl _) (exec_alc 39 zeroE.cells rfl zH) ⟨_, rfl, hk.size, Blk.new u _ _⟩ ((Keep.refl _ u).alloc _)) ?_
        exact fsteps_nil
       intro gv wa hV ka
       rw [show dstsOf _ 4 = [55, 56, 57, 10] by kernel_rfl]
       simp only [fC, fN, sA, sS, sZ, dS, dZ]
       rw [show gv 55 = .int .i64 (j : Int) from hV 0 55 (by kernel_rfl)]
       have hv10 : (.fresh wr.heap.size 39 zeroE.cells : Kn).p (gv 10) wa := hV 3 10 (by kernel_rfl)
       generalize gv 10 = v10 at hv10 ⊢
       rw [show gv 57 = h.v from hV 2 57 (by kernel_rfl)]
       clear hV
       obtain ⟨g10, rfl, hg10, hB10'⟩ := hv10
       refine l_val (o := ⟨some 9, _, _, _, _, _⟩) (.int .i64 (j : Int)) rfl (exec_assign (.tmp 55) (.int .i64 (j : Int)) rfl (by kernel_rfl)) ?_
       simp only [Act.put, sA, sS, sZ]
       refine l_setS (o := ⟨none, _, _, _, _, _⟩) 39 g10 39 zeroE.cells h.cells (.tmp 10) (.tmp 57) rfl rfl (by kernel_rfl) (by kernel_rfl) hB10' (by rw [Ent.len10]; exact szH) (by rw [Ent.len10, Ent.len10]) (Ent.one _) ?_
       intro wb hBb hkb hsb
       simp only [Act.put]
       refine wpList_nil ?_
       have kb : Kept wr wb := ka.trans' hkb (by omega)
       have HHb := Lib.hid (blk_range hBb)
       have HMb := Lib.hid (HMr.out.kept kb)
       have kwb := hkr.trans kb
       clear hB10' hBb hkb hsb ka HMr HH
       by_cases hj0 : 0 < j
       ·obtain ⟨g, hg⟩ : ∃ g, D[j - 1]? = some g := ⟨D[j - 1]'(by rw [HM.out]; omega), List.getElem?_eq_getElem (by rw [HM.out]; omega)⟩
        have hbe : bet sd g.o.price h.o.price = true := HE2.out (j - 1) g h hg (by rw [show j - 1 + 1 = j by omega]; exact hh)
        have HG : Hid (wb.rangeAt gd (od + (j - 1) * 10) g.cells) := range_kept (HD10.out.rng (j - 1) g hg) kwb
        have HBE : Hid (∀ u, Gives 36 #[.int .i64 sd, .int .i64 g.o.price, .int .i64 h.o.price] u (.eq (.bool true))) := fun u => by have := better_any sd g.o.price h.o.price u; rwa [hbe] at this
        clear hh hg hbe
        go_upto_region 21 with fail
        refine wp_free 32 [.eq (.pointer (some ⟨g10, 9, none⟩)), .eq (.int .i64 h.n), .eq (.bool false), .eq (.bool false), .eq (.pointer (some ⟨g10, 9, none⟩)), .eq (.int .i64 h.n), .eq (.map (some gm)), .eq (.pointer (some ⟨g10, 0, none⟩)), .eq (.pointer (some ⟨g10, 5, none⟩)), .eq (.int .i64 h.o.price), .eq (.int .i64 (sumP X h.o.price)), .eq (.bool false), .eq (.bool false), .eq (.bool false), .eq (.int .i64 (j : Int)), .eq (.bool true), .eq (.bool true), .eq (.int .i64 sd), .eq (.slice (some ⟨gd, od, none⟩) m c2), .eq (.int .i64 (j : Int)), .eq (.int .i64 ((j : Int) - 1)), .eq (.pointer (some ⟨gd, od + (j - 1) * 10, none⟩)), .eq (.pointer (some ⟨gd, od + (j - 1) * 10, none⟩)), .eq (.pointer (some ⟨gd, od + (j - 1) * 10 + 5, none⟩)), .eq (.int .i64 g.o.price), .eq (.pointer (some ⟨g10, 0, none⟩)), .eq (.pointer (some ⟨g10, 5, none⟩)), .eq (.int .i64 h.o.price), .eq (.bool true), .eq (.bool false), .eq (.bool false), .eq (.bool false)] (by kernel_rfl) rfl (by kernel_rfl) ?_ ?_
        ·refine sv 1 rfl rfl rfl (fun a u hE hD hk => exec_fldo 39 1 9 (.tmp 10) (g10) (0) (9) rfl (hE 10 (.pointer (some ⟨g10, 0, none⟩)) (by kernel_rfl) (by kernel_rfl)) (by kernel_rfl) rfl) ?_
         refine sv 2 rfl rfl rfl (fun a u hE hD hk => exec_loadi 3 Try.underlying3 (.tmp 58) ⟨g10, 9, none⟩ (.int .i64 h.n) rfl (hD 0 58 (by kernel_rfl)) (range_int (range_kept HHb.out hk) 9 _ rfl)) ?_
         refine fsteps_cons 3 rfl (fun a u hE hD hk => f_as (show ((decide ((h.n : Int) < (1 : Int))) : Bool) = false from decide_eq_false (by omega)) (f_val (o := ⟨some 60, _, _, _, _, _⟩) (.bool (decide ((h.n : Int) < (1 : Int)))) rfl (wanted_none rfl _) (exec_ltn (p := h.n) (q := 1) rfl (hD 1 59 (by kernel_rfl)) rfl) rfl)) ?_
         refine sv 4 rfl rfl rfl (fun a u hE hD hk => exec_move (.tmp 60) _ rfl (hD 2 60 (by kernel_rfl))) ?_
         refine fsteps_cons 5 rfl (fun a u hE hD hk => f_val (o := ⟨some 62, _, _, _, _, _⟩) (.pointer (some ⟨g10, 9, none⟩)) rfl (wanted_at (b := false) false rfl rfl (hD 3 61 (by kernel_rfl))) (exec_fldo 39 1 9 (.tmp 10) (g10) (0) (9) rfl (hE 10 (.pointer (some ⟨g10, 0, none⟩)) (by kernel_rfl) (by kernel_rfl)) (by kernel_rfl) rfl) rfl) ?_
         refine fsteps_cons 6 rfl (fun a u hE hD hk => f_val (o := ⟨some 63, _, _, _, _, _⟩) (.int .i64 h.n) rfl (wanted_at (b := false) false rfl rfl (hD 3 61 (by kernel_rfl))) (exec_loadi 3 Try.underlying3 (.tmp 62) ⟨g10, 9, none⟩ (.int .i64 h.n) rfl (hD 4 62 (by kernel_rfl)) (range_int (range_kept HHb.out hk) 9 _ rfl)) rfl) ?_
         refine fsteps_cons 7 rfl (fun a u hE hD hk => f_val (o := ⟨some 64, _, _, _, _, _⟩) (.map (some gm)) rfl (wanted_at (b := false) false rfl rfl (hD 3 61 (by kernel_rfl))) (exec_move (.tmp 5) _ rfl (hE 5 (.map (some gm)) (by kernel_rfl) (by kernel_rfl))) rfl) ?_
         refine fsteps_cons 8 rfl (fun a u hE hD hk => f_val (o := ⟨some 65, _, _, _, _, _⟩) (.pointer (some ⟨g10, 0, none⟩)) rfl (wanted_at (b := false) false rfl rfl (hD 3 61 (by kernel_rfl))) (exec_fldo 39 0 0 (.tmp 10) (g10) (0) (0) rfl (hE 10 (.pointer (some ⟨g10, 0, none⟩)) (by kernel_rfl) (by kernel_rfl)) (by kernel_rfl) rfl) rfl) ?_
         refine fsteps_cons 9 rfl (fun a u hE hD hk => f_val (o := ⟨some 66, _, _, _, _, _⟩) (.pointer (some ⟨g10, 5, none⟩)) rfl (wanted_at (b := false) false rfl rfl (hD 3 61 (by kernel_rfl))) (exec_fldo 25 5 5 (.tmp 65) (g10) (0) (5) rfl (hD 7 65 (by kernel_rfl)) (by kernel_rfl) rfl) rfl) ?_
         refine fsteps_cons 10 rfl (fun a u hE hD hk => f_val (o := ⟨some 67, _, _, _, _, _⟩) (.int .i64 h.o.price) rfl (wanted_at (b := false) false rfl rfl (hD 3 61 (by kernel_rfl))) (exec_loadi 3 Try.underlying3 (.tmp 66) ⟨g10, 5, none⟩ (.int .i64 h.o.price) rfl (hD 8 66 (by kernel_rfl)) (range_int (range_kept HHb.out hk) 5 _ rfl)) rfl) ?_
         refine fsteps_cons 11 rfl (fun a u hE hD hk => f_val (o := ⟨some 68, _, _, _, _, _⟩) (.int .i64 (sumP X h.o.price)) rfl (wanted_at (b := false) false rfl rfl (hD 3 61 (by kernel_rfl))) (exec_lookI (.tmp 64) (.tmp 67) gm (keysP X) (sumP X) h.o.price rfl (hD 6 64 (by kernel_rfl)) (hD 9 67 (by kernel_rfl)) hwf (HMb.out.kept hk)) rfl) ?_
         refine fsteps_cons 12 rfl (fun a u hE hD hk => f_as (show ((decide (((sumP X h.o.price) : Int) < (h.n : Int))) : Bool) = false from decide_eq_false (by omega)) (f_val (o := ⟨some 69, _, _, _, _, _⟩) (.bool (decide (((sumP X h.o.price) : Int) < (h.n : Int)))) rfl (wanted_at (b := false) false rfl rfl (hD 3 61 (by kernel_rfl))) (exec_gtn (p := h.n) (q := (sumP X h.o.price)) rfl (hD 5 63 (by kernel_rfl)) (hD 10 68 (by kernel_rfl))) rfl)) ?_
         refine sv 13 rfl rfl rfl (fun a u hE hD hk => exec_pickF (.tmp 61) (.const (.bool true)) (.tmp 69) (.bool false) rfl (hD 3 61 (by kernel_rfl)) (hD 11 69 (by kernel_rfl))) ?_
         refine sv 14 rfl rfl rfl (fun a u hE hD hk => exec_move (.tmp 70) _ rfl (hD 12 70 (by kernel_rfl))) ?_
         refine fsteps_cons 15 rfl (fun a u hE hD hk => f_val (o := ⟨some 72, _, _, _, _, _⟩) (.int .i64 (j : Int)) rfl (wanted_at (b := false) false rfl rfl (hD 13 71 (by kernel_rfl))) (exec_move (.tmp 9) _ rfl (hE 9 (.int .i64 (j : Int)) (by kernel_rfl) (by kernel_rfl))) rfl) ?_
         refine fsteps_cons 16 rfl (fun a u hE hD hk => f_as (show ((decide ((0 : Int) < ((j : Int) : Int))) : Bool) = true from decide_eq_true (by omega)) (f_val (o := ⟨some 73, _, _, _, _, _⟩) (.bool (decide ((0 : Int) < ((j : Int) : Int)))) rfl (wanted_at (b := false) false rfl rfl (hD 13 71 (by kernel_rfl))) (exec_gtn (p := (j : Int)) (q := 0) rfl (hD 14 72 (by kernel_rfl)) rfl) rfl)) ?_
         refine fsteps_cons 17 rfl (fun a u hE hD hk => f_val (o := ⟨some 74, _, _, _, _, _⟩) (.bool true) rfl (wanted_at (b := false) false rfl rfl (hD 13 71 (by kernel_rfl))) (exec_move (.tmp 73) _ rfl (hD 15 73 (by kernel_rfl))) rfl) ?_
         refine fsteps_cons 18 rfl (fun a u hE hD hk => f_val (o := ⟨some 75, _, _, _, _, _⟩) (.int .i64 sd) rfl (wanted_at (b := true) true rfl rfl (hD 16 74 (by kernel_rfl))) (exec_move (.tmp 4) _ rfl (hE 4 (.int .i64 sd) (by kernel_rfl) (by kernel_rfl))) rfl) ?_
         refine fsteps_cons 19 rfl (fun a u hE hD hk => f_val (o := ⟨some 76, _, _, _, _, _⟩) (.slice (some ⟨gd, od, none⟩) m c2) rfl (wanted_at (b := true) true rfl rfl (hD 16 74 (by kernel_rfl))) (exec_move (.tmp 8) _ rfl (hE 8 (.slice (some ⟨gd, od, none⟩) m c2) (by kernel_rfl) (by kernel_rfl))) rfl) ?_
         refine fsteps_cons 20 rfl (fun a u hE hD hk => f_val (o := ⟨some 77, _, _, _, _, _⟩) (.int .i64 (j : Int)) rfl (wanted_at (b := true) true rfl rfl (hD 16 74 (by kernel_rfl))) (exec_move (.tmp 9) _ rfl (hE 9 (.int .i64 (j : Int)) (by kernel_rfl) (by kernel_rfl))) rfl) ?_
         refine fsteps_cons 21 rfl (fun a u hE hD hk => f_val (o := ⟨some 78, _, _, _, _, _⟩) (.int .i64 ((j : Int) - 1)) rfl (wanted_at (b := true) true rfl rfl (hD 16 74 (by kernel_rfl))) (exec_subn ((j : Int) - 1) (p := (j : Int)) (q := 1) rfl (hD 19 77 (by kernel_rfl)) rfl rfl (by omega) (by omega)) rfl) ?_
         refine fsteps_cons 22 rfl (fun a u hE hD hk => f_val (o := ⟨some 79, _, _, _, _, _⟩) (.pointer (some ⟨gd, od + (j - 1) * 10, none⟩)) rfl (wanted_at (b := true) true rfl rfl (hD 16 74 (by kernel_rfl))) (exec_ixo slH (.tmp 76) (.tmp 78) (gd) (od) m c2 (j - 1) (od + (j - 1) * 10) (((j : Int) - 1)) rfl (hD 18 76 (by kernel_rfl)) (hD 20 78 (by kernel_rfl)) (by first | rfl | omega) ((show j - 1 < m by omega)) (by first | rfl | omega)) rfl) ?_
         refine fsteps_cons 23 rfl (fun a u hE hD hk => f_val (o := ⟨some 80, _, _, _, _, _⟩) (.pointer (some ⟨gd, od + (j - 1) * 10, none⟩)) rfl (wanted_at (b := true) true rfl rfl (hD 16 74 (by kernel_rfl))) (exec_fldo 39 0 0 (.tmp 79) (gd) (od + (j - 1) * 10) (od + (j - 1) * 10) rfl (hD 21 79 (by kernel_rfl)) (by kernel_rfl) rfl) rfl) ?_
         refine fsteps_cons 24 rfl (fun a u hE hD hk => f_val (o := ⟨some 81, _, _, _, _, _⟩) (.pointer (some ⟨gd, od + (j - 1) * 10 + 5, none⟩)) rfl (wanted_at (b := true) true rfl rfl (hD 16 74 (by kernel_rfl))) (exec_fldo 25 5 5 (.tmp 80) (gd) (od + (j - 1) * 10) (od + (j - 1) * 10 + 5) rfl (hD 22 80 (by kernel_rfl)) (by kernel_rfl) rfl) rfl) ?_
         refine fsteps_cons 25 rfl (fun a u hE hD hk => f_val (o := ⟨some 82, _, _, _, _, _⟩) (.int .i64 g.o.price) rfl (wanted_at (b := true) true rfl rfl (hD 16 74 (by kernel_rfl))) (exec_loadi 3 Try.underlying3 (.tmp 81) ⟨gd, od + (j - 1) * 10 + 5, none⟩ (.int .i64 g.o.price) rfl (hD 23 81 (by kernel_rfl)) (range_int (range_kept HG.out hk) 5 _ rfl)) rfl) ?_
         refine fsteps_cons 26 rfl (fun a u hE hD hk => f_val (o := ⟨some 83, _, _, _, _, _⟩) (.pointer (some ⟨g10, 0, none⟩)) rfl (wanted_at (b := true) true rfl rfl (hD 16 74 (by kernel_rfl))) (exec_fldo 39 0 0 (.tmp 10) (g10) (0) (0) rfl (hE 10 (.pointer (some ⟨g10, 0, none⟩)) (by kernel_rfl) (by kernel_rfl)) (by kernel_rfl) rfl) rfl) ?_
         refine fsteps_cons 27 rfl (fun a u hE hD hk => f_val (o := ⟨some 84, _, _, _, _, _⟩) (.pointer (some ⟨g10, 5, none⟩)) rfl (wanted_at (b := true) true rfl rfl (hD 16 74 (by kernel_rfl))) (exec_fldo 25 5 5 (.tmp 83) (g10) (0) (5) rfl (hD 25 83 (by kernel_rfl)) (by kernel_rfl) rfl) rfl) ?_
         refine fsteps_cons 28 rfl (fun a u hE hD hk => f_val (o := ⟨some 85, _, _, _, _, _⟩) (.int .i64 h.o.price) rfl (wanted_at (b := true) true rfl rfl (hD 16 74 (by kernel_rfl))) (exec_loadi 3 Try.underlying3 (.tmp 84) ⟨g10, 5, none⟩ (.int .i64 h.o.price) rfl (hD 26 84 (by kernel_rfl)) (range_int (range_kept HHb.out hk) 5 _ rfl)) rfl) ?_
         refine fsteps_cons 29 rfl (fun a u hE hD hk => f_call (o := ⟨some 86, _, _, _, _, _⟩) 36 #[.int .i64 sd, .int .i64 g.o.price, .int .i64 h.o.price] rfl (wanted_at (b := true) true rfl rfl (hD 16 74 (by kernel_rfl))) (exec_call 36 _ [.tmp 75, .tmp 82, .tmp 85] _ [.int .i64 sd, .int .i64 g.o.price, .int .i64 h.o.price] Try.func36 (by kernel_rfl) (by kernel_rfl) rfl (show [a.eval (.tmp 75), a.eval (.tmp 82), a.eval (.tmp 85)] = [.int .i64 sd, .int .i64 g.o.price, .int .i64 h.o.price] from (by rw [show a.eval (.tmp 75) = .int .i64 sd from (hD 17 75 (by kernel_rfl)), show a.eval (.tmp 82) = .int .i64 g.o.price from (hD 24 82 (by kernel_rfl)), show a.eval (.tmp 85) = .int .i64 h.o.price from (hD 27 85 (by kernel_rfl))] <;> rfl)) u) (HBE.out u)) ?_
         refine fsteps_cons 30 rfl (fun a u hE hD hk => f_val (o := ⟨some 87, _, _, _, _, _⟩) (.bool false) rfl (wanted_at (b := true) true rfl rfl (hD 16 74 (by kernel_rfl))) (exec_not _ (.tmp 86) true rfl (hD 28 86 (by kernel_rfl))) rfl) ?_
         refine fsteps_cons 31 rfl (fun a u hE hD hk => f_val (o := ⟨some 88, _, _, _, _, _⟩) (.bool false) rfl (wanted_at (b := false) false rfl rfl (hD 13 71 (by kernel_rfl))) (exec_pick (.tmp 74) (.tmp 87) (.const (.bool false)) (.bool false) rfl (hD 16 74 (by kernel_rfl)) (hD 29 87 (by kernel_rfl))) rfl) ?_
         refine sv 32 rfl rfl rfl (fun a u hE hD hk => exec_pickF (.tmp 71) (.const (.bool true)) (.tmp 88) (.bool false) rfl (hD 13 71 (by kernel_rfl)) (hD 30 88 (by kernel_rfl))) ?_
         exact fsteps_nil
        intro gv wc hV kc
        rw [show dstsOf _ 32 = [58, 59, 60, 61, 62, 63, 64, 65, 66, 67, 68, 69, 70, 71, 72, 73, 74, 75, 76, 77, 78, 79, 80, 81, 82, 83, 84, 85, 86, 87, 88, 89] by kernel_rfl]
        simp only [fC, fN, sA, sS, sZ, dS, dZ]
        rw [show gv 89 = .bool false from hV 31 89 (by kernel_rfl)]
        clear hV
        refine wpList_nil ?_
        have kwc := kwb.trans kc
        go_wp2
        exact ⟨⟨j + 1, by omega, by go_num, kwc⟩, by simp [intOf]; omega⟩
       ·skip
        clear hh
        go_upto_region 21 with fail
        refine wp_free 32 [.eq (.pointer (some ⟨g10, 9, none⟩)), .eq (.int .i64 h.n), .eq (.bool false), .eq (.bool false), .eq (.pointer (some ⟨g10, 9, none⟩)), .eq (.int .i64 h.n), .eq (.map (some gm)), .eq (.pointer (some ⟨g10, 0, none⟩)), .eq (.pointer (some ⟨g10, 5, none⟩)), .eq (.int .i64 h.o.price), .eq (.int .i64 (sumP X h.o.price)), .eq (.bool false), .eq (.bool false), .eq (.bool false), .eq (.int .i64 (j : Int)), .eq (.bool false), .eq (.bool false), .eq undef, .eq undef, .eq undef, .eq undef, .eq undef, .eq undef, .eq undef, .eq undef, .eq undef, .eq undef, .eq undef, .eq undef, .eq undef, .eq (.bool false), .eq (.bool false)] (by kernel_rfl) rfl (by kernel_rfl) ?_ ?_
        ·refine sv 1 rfl rfl rfl (fun a u hE hD hk => exec_fldo 39 1 9 (.tmp 10) (g10) (0) (9) rfl (hE 10 (.pointer (some ⟨g10, 0, none⟩)) (by kernel_rfl) (by kernel_rfl)) (by kernel_rfl) rfl) ?_
         refine sv 2 rfl rfl rfl (fun a u hE hD hk => exec_loadi 3 Try.underlying3 (.tmp 58) ⟨g10, 9, none⟩ (.int .i64 h.n) rfl (hD 0 58 (by kernel_rfl)) (range_int (range_kept HHb.out hk) 9 _ rfl)) ?_
         refine fsteps_cons 3 rfl (fun a u hE hD hk => f_as (show ((decide ((h.n : Int) < (1 : Int))) : Bool) = false from decide_eq_false (by omega)) (f_val (o := ⟨some 60, _, _, _, _, _⟩) (.bool (decide ((h.n : Int) < (1 : Int)))) rfl (wanted_none rfl _) (exec_ltn (p := h.n) (q := 1) rfl (hD 1 59 (by kernel_rfl)) rfl) rfl)) ?_
         refine sv 4 rfl rfl rfl (fun a u hE hD hk => exec_move (.tmp 60) _ rfl (hD 2 60 (by kernel_rfl))) ?_
         refine fsteps_cons 5 rfl (fun a u hE hD hk => f_val (o := ⟨some 62, _, _, _, _, _⟩) (.pointer (some ⟨g10, 9, none⟩)) rfl (wanted_at (b := false) false rfl rfl (hD 3 61 (by kernel_rfl))) (exec_fldo 39 1 9 (.tmp 10) (g10) (0) (9) rfl (hE 10 (.pointer (some ⟨g10, 0, none⟩)) (by kernel_rfl) (by kernel_rfl)) (by kernel_rfl) rfl) rfl) ?_
         refine fsteps_cons 6 rfl (fun a u hE hD hk => f_val (o := ⟨some 63, _, _, _, _, _⟩) (.int .i64 h.n) rfl (wanted_at (b := false) false rfl rfl (hD 3 61 (by kernel_rfl))) (exec_loadi 3 Try.underlying3 (.tmp 62) ⟨g10, 9, none⟩ (.int .i64 h.n) rfl (hD 4 62 (by kernel_rfl)) (range_int (range_kept HHb.out hk) 9 _ rfl)) rfl) ?_
         refine fsteps_cons 7 rfl (fun a u hE hD hk => f_val (o := ⟨some 64, _, _, _, _, _⟩) (.map (some gm)) rfl (wanted_at (b := false) false rfl rfl (hD 3 61 (by kernel_rfl))) (exec_move (.tmp 5) _ rfl (hE 5 (.map (some gm)) (by kernel_rfl) (by kernel_rfl))) rfl) ?_
         refine fsteps_cons 8 rfl (fun a u hE hD hk => f_val (o := ⟨some 65, _, _, _, _, _⟩) (.pointer (some ⟨g10, 0, none⟩)) rfl (wanted_at (b := false) false rfl rfl (hD 3 61 (by kernel_rfl))) (exec_fldo 39 0 0 (.tmp 10) (g10) (0) (0) rfl (hE 10 (.pointer (some ⟨g10, 0, none⟩)) (by kernel_rfl) (by kernel_rfl)) (by kernel_rfl) rfl) rfl) ?_
         refine fsteps_cons 9 rfl (fun a u hE hD hk => f_val (o := ⟨some 66, _, _, _, _, _⟩) (.pointer (some ⟨g10, 5, none⟩)) rfl (wanted_at (b := false) false rfl rfl (hD 3 61 (by kernel_rfl))) (exec_fldo 25 5 5 (.tmp 65) (g10) (0) (5) rfl (hD 7 65 (by kernel_rfl)) (by kernel_rfl) rfl) rfl) ?_
         refine fsteps_cons 10 rfl (fun a u hE hD hk => f_val (o := ⟨some 67, _, _, _, _, _⟩) (.int .i64 h.o.price) rfl (wanted_at (b := false) false rfl rfl (hD 3 61 (by kernel_rfl))) (exec_loadi 3 Try.underlying3 (.tmp 66) ⟨g10, 5, none⟩ (.int .i64 h.o.price) rfl (hD 8 66 (by kernel_rfl)) (range_int (range_kept HHb.out hk) 5 _ rfl)) rfl) ?_
         refine fsteps_cons 11 rfl (fun a u hE hD hk => f_val (o := ⟨some 68, _, _, _, _, _⟩) (.int .i64 (sumP X h.o.price)) rfl (wanted_at (b := false) false rfl rfl (hD 3 61 (by kernel_rfl))) (exec_lookI (.tmp 64) (.tmp 67) gm (keysP X) (sumP X) h.o.price rfl (hD 6 64 (by kernel_rfl)) (hD 9 67 (by kernel_rfl)) hwf (HMb.out.kept hk)) rfl) ?_
         refine fsteps_cons 12 rfl (fun a u hE hD hk => f_as (show ((decide (((sumP X h.o.price) : Int) < (h.n : Int))) : Bool) = false from decide_eq_false (by omega)) (f_val (o := ⟨some 69, _, _, _, _, _⟩) (.bool (decide (((sumP X h.o.price) : Int) < (h.n : Int)))) rfl (wanted_at (b := false) false rfl rfl (hD 3 61 (by kernel_rfl))) (exec_gtn (p := h.n) (q := (sumP X h.o.price)) rfl (hD 5 63 (by kernel_rfl)) (hD 10 68 (by kernel_rfl))) rfl)) ?_
         refine sv 13 rfl rfl rfl (fun a u hE hD hk => exec_pickF (.tmp 61) (.const (.bool true)) (.tmp 69) (.bool false) rfl (hD 3 61 (by kernel_rfl)) (hD 11 69 (by kernel_rfl))) ?_
         refine sv 14 rfl rfl rfl (fun a u hE hD hk => exec_move (.tmp 70) _ rfl (hD 12 70 (by kernel_rfl))) ?_
         refine fsteps_cons 15 rfl (fun a u hE hD hk => f_val (o := ⟨some 72, _, _, _, _, _⟩) (.int .i64 (j : Int)) rfl (wanted_at (b := false) false rfl rfl (hD 13 71 (by kernel_rfl))) (exec_move (.tmp 9) _ rfl (hE 9 (.int .i64 (j : Int)) (by kernel_rfl) (by kernel_rfl))) rfl) ?_
         refine fsteps_cons 16 rfl (fun a u hE hD hk => f_as (show ((decide ((0 : Int) < ((j : Int) : Int))) : Bool) = false from decide_eq_false (by omega)) (f_val (o := ⟨some 73, _, _, _, _, _⟩) (.bool (decide ((0 : Int) < ((j : Int) : Int)))) rfl (wanted_at (b := false) false rfl rfl (hD 13 71 (by kernel_rfl))) (exec_gtn (p := (j : Int)) (q := 0) rfl (hD 14 72 (by kernel_rfl)) rfl) rfl)) ?_
         refine fsteps_cons 17 rfl (fun a u hE hD hk => f_val (o := ⟨some 74, _, _, _, _, _⟩) (.bool false) rfl (wanted_at (b := false) false rfl rfl (hD 13 71 (by kernel_rfl))) (exec_move (.tmp 73) _ rfl (hD 15 73 (by kernel_rfl))) rfl) ?_
         refine fsteps_cons 18 rfl (fun a u hE hD hk => f_skip (o := ⟨some 75, _, _, _, _, _⟩) rfl (wanted_at (b := true) false rfl rfl (hD 16 74 (by kernel_rfl))) rfl) ?_
         refine fsteps_cons 19 rfl (fun a u hE hD hk => f_skip (o := ⟨some 76, _, _, _, _, _⟩) rfl (wanted_at (b := true) false rfl rfl (hD 16 74 (by kernel_rfl))) rfl) ?_
         refine fsteps_cons 20 rfl (fun a u hE hD hk => f_skip (o := ⟨some 77, _, _, _, _, _⟩) rfl (wanted_at (b := true) false rfl rfl (hD 16 74 (by kernel_rfl))) rfl) ?_
         refine fsteps_cons 21 rfl (fun a u hE hD hk => f_skip (o := ⟨some 78, _, _, _, _, _⟩) rfl (wanted_at (b := true) false rfl rfl (hD 16 74 (by kernel_rfl))) rfl) ?_
         refine fsteps_cons 22 rfl (fun a u hE hD hk => f_skip (o := ⟨some 79, _, _, _, _, _⟩) rfl (wanted_at (b := true) false rfl rfl (hD 16 74 (by kernel_rfl))) rfl) ?_
         refine fsteps_cons 23 rfl (fun a u hE hD hk => f_skip (o := ⟨some 80, _, _, _, _, _⟩) rfl (wanted_at (b := true) false rfl rfl (hD 16 74 (by kernel_rfl))) rfl) ?_
         refine fsteps_cons 24 rfl (fun a u hE hD hk => f_skip (o := ⟨some 81, _, _, _, _, _⟩) rfl (wanted_at (b := true) false rfl rfl (hD 16 74 (by kernel_rfl))) rfl) ?_
         refine fsteps_cons 25 rfl (fun a u hE hD hk => f_skip (o := ⟨some 82, _, _, _, _, _⟩) rfl (wanted_at (b := true) false rfl rfl (hD 16 74 (by kernel_rfl))) rfl) ?_
         refine fsteps_cons 26 rfl (fun a u hE hD hk => f_skip (o := ⟨some 83, _, _, _, _, _⟩) rfl (wanted_at (b := true) false rfl rfl (hD 16 74 (by kernel_rfl))) rfl) ?_
         refine fsteps_cons 27 rfl (fun a u hE hD hk => f_skip (o := ⟨some 84, _, _, _, _, _⟩) rfl (wanted_at (b := true) false rfl rfl (hD 16 74 (by kernel_rfl))) rfl) ?_
         refine fsteps_cons 28 rfl (fun a u hE hD hk => f_skip (o := ⟨some 85, _, _, _, _, _⟩) rfl (wanted_at (b := true) false rfl rfl (hD 16 74 (by kernel_rfl))) rfl) ?_
         refine fsteps_cons 29 rfl (fun a u hE hD hk => f_skip (o := ⟨some 86, _, _, _, _, _⟩) rfl (wanted_at (b := true) false rfl rfl (hD 16 74 (by kernel_rfl))) rfl) ?_
         refine fsteps_cons 30 rfl (fun a u hE hD hk => f_skip (o := ⟨some 87, _, _, _, _, _⟩) rfl (wanted_at (b := true) false rfl rfl (hD 16 74 (by kernel_rfl))) rfl) ?_
         refine fsteps_cons 31 rfl (fun a u hE hD hk => f_val (o := ⟨some 88, _, _, _, _, _⟩) (.bool false) rfl (wanted_at (b := false) false rfl rfl (hD 13 71 (by kernel_rfl))) (exec_pickF (.tmp 74) (.tmp 87) (.const (.bool false)) (.bool false) rfl (hD 16 74 (by kernel_rfl)) rfl) rfl) ?_
         refine sv 32 rfl rfl rfl (fun a u hE hD hk => exec_pickF (.tmp 71) (.const (.bool true)) (.tmp 88) (.bool false) rfl (hD 13 71 (by kernel_rfl)) (hD 30 88 (by kernel_rfl))) ?_
         exact fsteps_nil
        intro gv wc hV kc
        rw [show dstsOf _ 32 = [58, 59, 60, 61, 62, 63, 64, 65, 66, 67, 68, 69, 70, 71, 72, 73, 74, 75, 76, 77, 78, 79, 80, 81, 82, 83, 84, 85, 86, 87, 88, 89] by kernel_rfl]
        simp only [fC, fN, sA, sS, sZ, dS, dZ]
        rw [show gv 89 = .bool false from hV 31 89 (by kernel_rfl)]
        clear hV
        refine wpList_nil ?_
        have kwc := kwb.trans kc
        go_wp2
        exact ⟨⟨j + 1, by omega, by go_num, kwc⟩, by simp [intOf]; omega⟩
      ·skip
       have HBe := Lib.hid (HB10.out.kept hkr)
       have kwe := kw10.trans hkr
       clear HB10 kw10 hkr HD10 HM10
       go_wp2
       exact ⟨⟨s + 1, by omega, by omega, by go_num, HBe, kwe⟩, by simp [intOf]; omega⟩
  ·have hs3' : s = 3 := by omega
   subst hs3'
   go_upto_region 24 with fail
   refine wp_text 13 [.eq (.pointer (some ⟨p, 0, none⟩)), .sl 0 39 10 0 (ents []), .eq (.int .i64 (0 : Int)), .eq (.bool true), .eq (.bool true), .eq (.pointer (some ⟨p, 0, none⟩)), .sl 0 25 9 0 (ords []), .eq (.int .i64 (0 : Int)), .eq (.bool true), .eq (.bool true), .eq (.bool true), .eq (.bool true), .eq (.bool true)] rfl (by kernel_rfl) ?_ ?_
   ·refine sv 1 rfl rfl rfl (fun a u hE hD hk => exec_move (.tmp 3) _ rfl (hE 3 (.pointer (some ⟨p, 0, none⟩)) (by kernel_rfl) (by kernel_rfl))) ?_
    refine fsteps_cons 2 rfl (fun a u hE hD hk => f_call (o := ⟨some 92, _, _, _, _, _⟩) 17 #[.pointer (some ⟨p, 0, none⟩), .int .i64 0] rfl (wanted_none rfl _) (exec_call 17 _ [.tmp 91, .const (.int .i64 0)] _ [.pointer (some ⟨p, 0, none⟩), .int .i64 0] Try.func17 (by kernel_rfl) (by kernel_rfl) rfl (show [a.eval (.tmp 91), a.eval (.const (.int .i64 0))] = [.pointer (some ⟨p, 0, none⟩), .int .i64 0] from (by rw [show a.eval (.tmp 91) = .pointer (some ⟨p, 0, none⟩) from (hD 0 91 (by kernel_rfl))] <;> rfl)) u) ((bdepth_any u F p B 0 (HBr.out.kept hk) HI.out).base (Nat.zero_le _))) ?_
    refine sv 3 rfl rfl rfl (fun a u hE hD hk => exec_lenS (.tmp 92) slH _ 0 _ u rfl rfl (hD 1 92 (by kernel_rfl)).1) ?_
    refine fsteps_cons 4 rfl (fun a u hE hD hk => f_as (show ((decide (((0 : Int) : Int) = (0 : Int))) : Bool) = true from decide_eq_true rfl) (f_val (o := ⟨some 94, _, _, _, _, _⟩) (.bool (decide (((0 : Int) : Int) = (0 : Int)))) rfl (wanted_none rfl _) (exec_eqn (p := (0 : Int)) (q := 0) rfl (hD 2 93 (by kernel_rfl)) rfl) rfl)) ?_
    refine sv 5 rfl rfl rfl (fun a u hE hD hk => exec_move (.tmp 94) _ rfl (hD 3 94 (by kernel_rfl))) ?_
    refine fsteps_cons 6 rfl (fun a u hE hD hk => f_val (o := ⟨some 96, _, _, _, _, _⟩) (.pointer (some ⟨p, 0, none⟩)) rfl (wanted_at (b := true) true rfl rfl (hD 4 95 (by kernel_rfl))) (exec_move (.tmp 3) _ rfl (hE 3 (.pointer (some ⟨p, 0, none⟩)) (by kernel_rfl) (by kernel_rfl))) rfl) ?_
    refine fsteps_cons 7 rfl (fun a u hE hD hk => f_call (o := ⟨some 97, _, _, _, _, _⟩) 32 #[.pointer (some ⟨p, 0, none⟩), .int .i64 3] rfl (wanted_at (b := true) true rfl rfl (hD 4 95 (by kernel_rfl))) (exec_call 32 _ [.tmp 96, .const (.int .i64 3)] _ [.pointer (some ⟨p, 0, none⟩), .int .i64 3] Try.func32 (by kernel_rfl) (by kernel_rfl) rfl (show [a.eval (.tmp 96), a.eval (.const (.int .i64 3))] = [.pointer (some ⟨p, 0, none⟩), .int .i64 3] from (by rw [show a.eval (.tmp 96) = .pointer (some ⟨p, 0, none⟩) from (hD 5 96 (by kernel_rfl))] <;> rfl)) u) ((borders_any u F p B 3 (HBr.out.kept hk) HI.out).base (Nat.zero_le _))) ?_
    refine fsteps_cons 8 rfl (fun a u hE hD hk => f_val (o := ⟨some 98, _, _, _, _, _⟩) (.int .i64 (0 : Int)) rfl (wanted_at (b := true) true rfl rfl (hD 4 95 (by kernel_rfl))) (exec_lenS (.tmp 97) slO _ 0 _ u rfl rfl (hD 6 97 (by kernel_rfl)).1) rfl) ?_
    refine fsteps_cons 9 rfl (fun a u hE hD hk => f_as (show ((decide (((0 : Int) : Int) = (0 : Int))) : Bool) = true from decide_eq_true rfl) (f_val (o := ⟨some 99, _, _, _, _, _⟩) (.bool (decide (((0 : Int) : Int) = (0 : Int)))) rfl (wanted_at (b := true) true rfl rfl (hD 4 95 (by kernel_rfl))) (exec_eqn (p := (0 : Int)) (q := 0) rfl (hD 7 98 (by kernel_rfl)) rfl) rfl)) ?_
    refine sv 10 rfl rfl rfl (fun a u hE hD hk => exec_pick (.tmp 95) (.tmp 99) (.const (.bool false)) (.bool true) rfl (hD 4 95 (by kernel_rfl)) (hD 8 99 (by kernel_rfl))) ?_
    refine sv 11 rfl rfl rfl (fun a u hE hD hk => exec_move (.tmp 100) _ rfl (hD 9 100 (by kernel_rfl))) ?_
    refine fsteps_cons 12 rfl (fun a u hE hD hk => f_call (o := ⟨some 102, _, _, _, _, _⟩) 3 #[] rfl (wanted_at (b := true) true rfl rfl (hD 10 101 (by kernel_rfl))) (exec_call 3 _ [] _ [] Try.func3 (by kernel_rfl) (by kernel_rfl) rfl rfl u) (bruns_gives u)) ?_
    refine sv 13 rfl rfl rfl (fun a u hE hD hk => exec_pick (.tmp 101) (.tmp 102) (.const (.bool false)) (.bool true) rfl (hD 10 101 (by kernel_rfl)) (hD 11 102 (by kernel_rfl))) ?_
    exact fsteps_nil
   intro gv wz hV kz
   rw [show dstsOf _ 13 = [91, 92, 93, 94, 95, 96, 97, 98, 99, 100, 101, 102, 103] by kernel_rfl]
   simp only [fC, fN, sA, sS, sZ, dS, dZ]
   rw [show gv 103 = .bool true from hV 12 103 (by kernel_rfl)]
   clear hV
   refine l_val (o := ⟨some 2, _, _, _, _, _⟩) (.bool true) rfl (exec_assign (.tmp 103) (.bool true) rfl (by kernel_rfl)) ?_
   simp only [Act.put, sA, sS, sZ]
   refine wpList_nil ?_
   go_wp2
   go_ret
   exact ⟨rfl, hkr.trans kz⟩
end Go.Proofs.Ytfpfpmhkkgfdbaa
