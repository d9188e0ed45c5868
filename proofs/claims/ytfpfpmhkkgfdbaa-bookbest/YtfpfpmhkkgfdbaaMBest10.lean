/-
  BookBest answers true: fills come the best price first, at no price that the order doesn't cross; what is left over in the book at a better price isn't there. No condition.
-/
import Derived.Test.YtfpfpmhkkgfdbaaQ05
import Derived.Test.YtfpfpmhkkgfdbaaMFill10
import Derived.Test.YtfpfpmhkkgfdbaaMRuns10
import Derived.Test.YtfpfpmhkkgfdbaaMCntM10
set_option linter.unusedVariables false
namespace Go.Proofs.Ytfpfpmhkkgfdbaa
open Go.RowKit
set_option maxRecDepth 100000
set_option maxRecDepth 100000 in
set_option maxHeartbeats 3200000 in
theorem bookBest_any (v : Value) (l : List Kq) (q : Kq) (w : World) (hl : Kqs w v l) : Calls Try.prog 7 #[v, q.v] w fun e w' => e = .returned (.bool true) ∧ Kept w w' := by
  obtain ⟨o, ho⟩ : ∃ o, q.o = o := ⟨_, rfl⟩
  have HKO : Hid (o.right = true ∧ o.stop = 0 ∧ o.qty ≤ 12) := by rw [← ho]; exact q.right
  have HGO : Hid (∀ u, Gives 22 #[q.v] u (.eq o.v)) := fun u => by rw [← ho]; exact korder_any q u
  clear ho
  go_enter Try.func7, Try.ntmps7
  go_upto_region 0 with fail
  refine wp_text 1 [.fresh w.heap.size 48 (q.cells)] rfl (by kernel_rfl) ?_ ?_
  · refine fsteps_cons 1 rfl (fun a u hE hD hk => f_new (o := ⟨some 3, _, _, _, _, _⟩) (.pointer (some ⟨u.heap.size, 0, none⟩)) _ rfl (wanted_none rfl _) (exec_box 48 (.tmp 1) (q.cells) rfl (hE 1 (q.v) (by kernel_rfl) (by kernel_rfl))) ⟨_, rfl, hk.size, Blk.new u _ _⟩ ((Keep.refl _ u).alloc _)) ?_
    exact fsteps_nil
  intro gv w0 hV k0
  rw [show dstsOf _ 1 = [3] by kernel_rfl]
  simp only [fC, fN, sA, sS, sZ, dS, dZ]
  have hv3 : (.fresh w.heap.size 48 (q.cells) : Kn).p (gv 3) w0 := hV 0 3 (by kernel_rfl)
  generalize gv 3 = v3 at hv3 ⊢
  clear hV
  obtain ⟨g3, rfl, hg3, hQ⟩ := hv3
  refine l_val (o := ⟨some 4, _, _, _, _, _⟩) (.bool false) rfl (exec_assign (.const (.bool false)) (.bool false) rfl (by kernel_rfl)) ?_
  simp only [Act.put, sA, sS, sZ]
  refine wpList_nil ?_
  have HQ0 := Lib.hid (blk_range hQ)
  have lq := hQ.lt
  have z0 := k0.size
  have hl0 := hl.kept k0
  clear hQ hl
  go_upto_region 1 with fail
  refine wp_region_lit ?_
  refine l_val (o := ⟨some 13, _, _, _, _, _⟩) (v) rfl (exec_move (.tmp 0) (v) rfl (by kernel_rfl)) ?_
  simp only [Act.put, sA, sS, sZ]
  refine l_call (o := ⟨some 14, _, _, _, _, _⟩) 31 #[v, .int .i64 40] rfl (exec_call 31 _ [.tmp 13, .const (.int .i64 40)] _ _ Try.func31 (by kernel_rfl) (by kernel_rfl) rfl (by kernel_rfl) _) ?_
  refine (bfilled_any v l 40 w0 hl0 (by omega)).mono ?_
  rintro r w1 ⟨p, F, rfl, hB1, hG1, k1⟩
  refine ⟨_, rfl, ?_⟩
  simp only [Act.put, sA, sS, sZ]
  refine l_val (o := ⟨some 5, _, _, _, _, _⟩) (.pointer (some ⟨p, 0, none⟩)) rfl (exec_assign (.tmp 14) (.pointer (some ⟨p, 0, none⟩)) rfl (by kernel_rfl)) ?_
  simp only [Act.put, sA, sS, sZ]
  refine wpList_nil ?_
  have hI := fillB_inv (l.take 40)
  have HNo : Hid ((fillB (l.take 40)).no ≤ 1000000000000) := by
    have h1 := hI.2
    have h2 : (l.take 40).length ≤ 40 := by rw [List.length_take]; omega
    show _ ≤ _
    omega
  have HI := Lib.hid hI.1
  clear hI
  generalize fillB (l.take 40) = B at HI hB1 HNo
  have HB1 := Lib.hid hB1
  have HFg : Hid (∀ b, F b → w0.heap.size ≤ b) := fun b hb => (hG1 b hb).elim (fun h => h.elim) id
  have HQ1 := Lib.hid (range_kept HQ0.out k1)
  have kw1 := k0.trans k1
  have z1 := k1.size
  clear hB1 hG1 hl0 HQ0 k0 k1
  go_upto_region 4 with fail
  refine wp_text 3 [.eq (q.v), .eq (o.v), .fresh w1.heap.size 25 zeroO.cells] rfl (by kernel_rfl) ?_ ?_
  · refine sv 1 rfl rfl rfl (fun a u hE hD hk => exec_ldS 48 _ (.tmp 3) (g3) (0) (q.cells) rfl (hE 3 (.pointer (some ⟨g3, 0, none⟩)) (by kernel_rfl) (by kernel_rfl)) (range_kept HQ1.out hk) Try.underlying48 (by rw [q.len7]; exact szK)) ?_
    refine fsteps_cons 2 rfl (fun a u hE hD hk => f_call (o := ⟨some 18, _, _, _, _, _⟩) 22 #[q.v] rfl (wanted_none rfl _) (exec_call 22 _ [.tmp 17] _ [q.v] Try.func22 (by kernel_rfl) (by kernel_rfl) rfl (show [a.eval (.tmp 17)] = [q.v] from (by rw [show a.eval (.tmp 17) = q.v from (hD 0 17 (by kernel_rfl))] <;> rfl)) u) (HGO.out u)) ?_
    refine fsteps_cons 3 rfl (fun a u hE hD hk => f_new (o := ⟨some 6, _, _, _, _, _⟩) (.pointer (some ⟨u.heap.size, 0, none⟩)) _ rfl (wanted_none rfl _) (exec_alc 25 zeroO.cells rfl zO) ⟨_, rfl, hk.size, Blk.new u _ _⟩ ((Keep.refl _ u).alloc _)) ?_
    exact fsteps_nil
  intro gv w2a hV kw2a
  rw [show dstsOf _ 3 = [17, 18, 6] by kernel_rfl]
  simp only [fC, fN, sA, sS, sZ, dS, dZ]
  have hv6 : (.fresh w1.heap.size 25 zeroO.cells : Kn).p (gv 6) w2a := hV 2 6 (by kernel_rfl)
  generalize gv 6 = v6 at hv6 ⊢
  rw [show gv 18 = o.v from hV 1 18 (by kernel_rfl)]
  clear hV
  obtain ⟨g6, rfl, hg6, hBn⟩ := hv6
  refine l_setS (o := ⟨none, _, _, _, _, _⟩) 25 g6 25 zeroO.cells o.cells (.tmp 6) (.tmp 18) rfl rfl (by kernel_rfl) (by kernel_rfl) hBn (by rw [Ord.len9]; exact ord_size) (by rw [Ord.len9, Ord.len9]) (Ord.one1 _) ?_
  intro w2 hBo hkn hsn
  simp only [Act.put]
  refine wpList_nil ?_
  have kw2 : Kept w1 w2 := kw2a.trans' hkn (by omega)
  have HOw2 := Lib.hid (blk_range hBo)
  have lo6 := hBo.lt
  have zw2 := kw2.size
  clear hBn hBo hkn hsn kw2a
  have HB2 := Lib.hid (HB1.out.kept kw2)
  have HFl := Lib.hid HB1.out.lt
  have kw2' := kw1.trans kw2
  have hs : o.side = 1 ∨ o.side = 2 := right_side HKO.out.1
  have hs3 : 3 - o.side = 1 ∨ 3 - o.side = 2 := by omega
  have HS1 := Lib.hid hs
  have HS3 := Lib.hid hs3
  clear hs hs3 HB1 HQ1 kw1 kw2
  obtain ⟨x, hx⟩ : ∃ x, (B.add o).1 = x := ⟨_, rfl⟩
  obtain ⟨B', hB'⟩ : ∃ B', (B.add o).2 = B' := ⟨_, rfl⟩
  have HAx : Hid (B.add o = (x, B')) := by rw [← hx, ← hB']; exact rfl
  clear hx hB'
  go_upto_region 5 with fail
  refine wp_text 2 [.eq (.pointer (some ⟨p, 0, none⟩)), .eq (o.v)] rfl (by kernel_rfl) ?_ ?_
  · refine sv 1 rfl rfl rfl (fun a u hE hD hk => exec_move (.tmp 5) _ rfl (hE 5 (.pointer (some ⟨p, 0, none⟩)) (by kernel_rfl) (by kernel_rfl))) ?_
    refine sv 2 rfl rfl rfl (fun a u hE hD hk => exec_ldS 25 _ (.tmp 6) (g6) (0) (o.cells) rfl (hE 6 (.pointer (some ⟨g6, 0, none⟩)) (by kernel_rfl) (by kernel_rfl)) (range_kept HOw2.out hk) Try.underlying25 (by rw [o.len9]; exact ord_size)) ?_
    exact fsteps_nil
  intro gv w3a hV kw3a
  rw [show dstsOf _ 2 = [19, 20] by kernel_rfl]
  simp only [fC, fN, sA, sS, sZ, dS, dZ]
  rw [show gv 19 = .pointer (some ⟨p, 0, none⟩) from hV 0 19 (by kernel_rfl)]
  rw [show gv 20 = o.v from hV 1 20 (by kernel_rfl)]
  clear hV
  refine l_call (o := ⟨some 21, _, _, _, _, _⟩) 15 #[.pointer (some ⟨p, 0, none⟩), o.v] rfl (exec_call 15 _ [.tmp 19, .tmp 20] _ _ Try.func15 (by kernel_rfl) (by kernel_rfl) rfl (by kernel_rfl) _) ?_
  refine (badd_at w3a F p B o _ HAx.out (HB2.out.kept kw3a) HI.out HNo.out).mono ?_
  rintro r w3b ⟨F3, vf, rfl, hBb, hSb, hOb, hGb, hkb⟩
  refine ⟨_, rfl, ?_⟩
  simp only [Act.put, sA, sS, sZ]
  refine l_new (o := ⟨some 7, _, _, _, _, _⟩) (.pointer (some ⟨w3b.heap.size, 0, none⟩)) (w3b.alloc (.cells (zeroC.cells (.slice none 0 0)).toArray 29)) rfl (exec_alc 29 (zeroC.cells (.slice none 0 0)) rfl zC) ?_
  have hNw3c := Blk.new w3b 29 (zeroC.cells (.slice none 0 0))
  have kw3c : Kept w3b (w3b.alloc (.cells (zeroC.cells (.slice none 0 0)).toArray 29)) := (Keep.refl _ w3b).alloc _
  generalize w3b.alloc (.cells (zeroC.cells (.slice none 0 0)).toArray 29) = w3c at hNw3c kw3c ⊢
  simp only [Act.put, sA, sS, sZ]
  refine l_setS (o := ⟨none, _, _, _, _, _⟩) 29 w3b.heap.size 29 (zeroC.cells (.slice none 0 0)) (x.cells vf) (.tmp 7) (.tmp 21) rfl rfl (by kernel_rfl) (by kernel_rfl) (hNw3c) (by rw [Oc.len15]; exact szC) (by rw [Oc.len15, Oc.len15]) (Oc.one _ _ (sl_onec hSb)) ?_
  intro w3 hCw3 hkw3 hsw3
  simp only [Act.put]
  refine wpList_nil ?_
  obtain ⟨Kw3, hBw3, hSw3, hOw3, hGw3, hFw3, zw3b⟩ := add_frame kw3a hBb hSb hOb hGb hkb kw3c hkw3
  obtain ⟨g7, hg7⟩ : ∃ a, w3b.heap.size = a := ⟨_, rfl⟩
  rw [hg7] at hCw3 hOw3 hFw3 zw3b ⊢
  have l7 := hCw3.lt
  have zw3 := Kw3.size
  have HBw3 := Lib.hid hBw3
  have HSw3 := Lib.hid hSw3
  have HCw3 := Lib.hid hCw3
  have HOww3 := Lib.hid hOw3
  have HGw3 := Lib.hid hGw3
  have HFw3 := Lib.hid hFw3
  clear hBb hSb hOb hGb hkb hNw3c hkw3 hsw3 hBw3 hSw3 hCw3 hOw3 hGw3 hFw3 kw3a kw3c hg7
  have HO3 : Hid (w3.rangeAt g6 0 o.cells) := range_keep HOw2.out Kw3 (fun h => by have := HFl.out _ h; omega)
  have kw3 : Kept w w3 := Keep.trans kw2' Kw3 (fun b hb h => by have := HFg.out b h; omega)
  have hI' : Inv B' := by have := (inv_add (o := o) HI.out).1; rw [HAx.out] at this; exact this
  have HI' := Lib.hid hI'
  have hbi : BestIs B o x B' := by have := best_is (o := o) HI.out; rw [HAx.out] at this; exact this
  have HBI := Lib.hid hbi
  have hxl : (x.f.length : Int) ≤ 12 := by have h1 := (counts_is (o := o) HI.out (right_qty HKO.out.1).1).len; rw [HAx.out] at h1; have := HKO.out.2.2; simp only at h1; omega
  obtain ⟨n, hn⟩ : ∃ n, x.f.length = n := ⟨_, rfl⟩
  have hn12 : n ≤ 12 := by omega
  have HN := Lib.hid hn
  have HSF := HSw3
  rw [hn] at HSF
  clear hI' hbi hxl hn HOw2 HB2 Kw3 kw2'
  go_upto_region 6 with fail
  refine wp_text 4 [.eq (.pointer (some ⟨g7, 9, none⟩)), .eq (vf), .eq (.int .i64 (n : Int)), .eq (.int .i64 0)] rfl (by kernel_rfl) ?_ ?_
  · refine sv 1 rfl rfl rfl (fun a u hE hD hk => exec_fldo 29 1 9 (.tmp 7) (g7) (0) (9) rfl (hE 7 (.pointer (some ⟨g7, 0, none⟩)) (by kernel_rfl) (by kernel_rfl)) (by kernel_rfl) rfl) ?_
    refine sv 2 rfl rfl rfl (fun a u hE hD hk => exec_ldv 26 _ Try.underlying26 (.tmp 22) ⟨g7, 9, none⟩ (vf) rfl (hD 0 22 (by kernel_rfl)) (by rw [(HCw3.out.kept hk).cell]; rfl)) ?_
    refine sv 3 rfl rfl rfl (fun a u hE hD hk => exec_lenS (.tmp 23) slF (vf) (n) _ _ rfl (hD 1 23 (by kernel_rfl)) HSF.out) ?_
    refine sv 4 rfl rfl rfl (fun a u hE hD hk => exec_move (.const (.int .i64 0)) _ rfl rfl) ?_
    exact fsteps_nil
  intro gv w4 hV k4
  rw [show dstsOf _ 4 = [22, 23, 24, 25] by kernel_rfl]
  simp only [fC, fN, sA, sS, sZ, dS, dZ]
  rw [show gv 23 = vf from hV 1 23 (by kernel_rfl)]
  rw [show gv 24 = .int .i64 (n : Int) from hV 2 24 (by kernel_rfl)]
  rw [show gv 25 = .int .i64 0 from hV 3 25 (by kernel_rfl)]
  clear hV
  refine wpList_nil ?_
  have HO4 := Lib.hid (range_kept HO3.out k4)
  have HB4 := Lib.hid (HBw3.out.kept k4)
  have HC4 := Lib.hid (HCw3.out.kept k4)
  have HS4 := Lib.hid (HSF.out.kept k4)
  have kw4 := kw3.trans k4
  clear HO3 HBw3 HCw3 HSF k4 kw3 HSw3
  go_wp2_with fail
  go_loopw [25] (fun q wr => ∃ (i : Nat), i ≤ n ∧ q = .int .i64 (i : Int) ∧ Kept w4 wr) (fun q _ => n - (intOf q).toNat)
  case atStart => exact ⟨0, Nat.zero_le _, rfl, Kept.refl _⟩
  case round =>
    obtain ⟨i, hi, rfl, hkr⟩ := hrel
    have HOr := Lib.hid (range_kept HO4.out hkr)
    have HCr := Lib.hid (HC4.out.kept hkr)
    by_cases hlt : i < n
    · skip
      obtain ⟨gf, of_, c, rfl⟩ := HS4.out.some_ (by omega)
      obtain ⟨f, hf⟩ : ∃ f, x.f[i]? = some f := ⟨x.f[i]'(by rw [HN.out]; omega), List.getElem?_eq_getElem (by rw [HN.out]; omega)⟩
      have HE : Hid (wr.rangeAt gf (of_ + i * 21) f.cells) := range_kept (HS4.out.rngF i f hf) hkr
      have HFI := Lib.hid hf
      obtain ⟨e1, e2⟩ := HBI.out.cross i f hf
      have HCX := Lib.hid e1
      clear hf e1
      go_upto_region 8 with fail
      refine wp_text 4 [.eq (.int .i64 (i : Int)), .eq (.pointer (some ⟨gf, of_ + i * 21, none⟩)), .eq (f.v), .fresh wr.heap.size 36 zeroF.cells] rfl (by kernel_rfl) ?_ ?_
      · refine sv 1 rfl rfl rfl (fun a u hE hD hk => exec_move (.tmp 25) _ rfl (hE 25 (.int .i64 (i : Int)) (by kernel_rfl) (by kernel_rfl))) ?_
        refine sv 2 rfl rfl rfl (fun a u hE hD hk => exec_ixo slF (.tmp 23) (.tmp 25) (gf) (of_) n c i (of_ + i * 21) ((i : Int)) rfl (hE 23 (.slice (some ⟨gf, of_, none⟩) n c) (by kernel_rfl) (by kernel_rfl)) (hE 25 (.int .i64 (i : Int)) (by kernel_rfl) (by kernel_rfl)) (by first | rfl | omega) (hlt) (by first | rfl | omega)) ?_
        refine sv 3 rfl rfl rfl (fun a u hE hD hk => exec_ldS 36 _ (.tmp 28) (gf) (of_ + i * 21) (f.cells) rfl (hD 1 28 (by kernel_rfl)) (range_kept HE.out hk) Try.underlying36 (by rw [f.len21]; exact szF)) ?_
        refine fsteps_cons 4 rfl (fun a u hE hD hk => f_new (o := ⟨some 9, _, _, _, _, _⟩) (.pointer (some ⟨u.heap.size, 0, none⟩)) _ rfl (wanted_none rfl _) (exec_alc 36 zeroF.cells rfl zF) ⟨_, rfl, hk.size, Blk.new u _ _⟩ ((Keep.refl _ u).alloc _)) ?_
        exact fsteps_nil
      intro gv wa hV ka
      rw [show dstsOf _ 4 = [27, 28, 29, 9] by kernel_rfl]
      simp only [fC, fN, sA, sS, sZ, dS, dZ]
      rw [show gv 27 = .int .i64 (i : Int) from hV 0 27 (by kernel_rfl)]
      have hv9 : (.fresh wr.heap.size 36 zeroF.cells : Kn).p (gv 9) wa := hV 3 9 (by kernel_rfl)
      generalize gv 9 = v9 at hv9 ⊢
      rw [show gv 29 = f.v from hV 2 29 (by kernel_rfl)]
      clear hV
      obtain ⟨g9, rfl, hg9, hB9⟩ := hv9
      refine l_val (o := ⟨some 8, _, _, _, _, _⟩) (.int .i64 (i : Int)) rfl (exec_assign (.tmp 27) (.int .i64 (i : Int)) rfl (by kernel_rfl)) ?_
      simp only [Act.put, sA, sS, sZ]
      refine l_setS (o := ⟨none, _, _, _, _, _⟩) 36 g9 36 zeroF.cells f.cells (.tmp 9) (.tmp 29) rfl rfl (by kernel_rfl) (by kernel_rfl) hB9 (by rw [Fl.len21]; exact szF) (by rw [Fl.len21, Fl.len21]) (Fl.one _) ?_
      intro wb hBb hkb hsb
      simp only [Act.put]
      refine wpList_nil ?_
      have kb : Kept wr wb := ka.trans' hkb (by omega)
      have HFb := Lib.hid (blk_range hBb)
      have HOb := Lib.hid (range_kept HOr.out kb)
      have HCb := Lib.hid (HCr.out.kept kb)
      have kwb := hkr.trans kb
      clear hB9 hBb hkb hsb ka HE HOr HCr kb
      cases i with
      | zero =>
        go_upto_region 9 with fail
        refine wp_free 23 [.eq (o.v), .eq (.pointer (some ⟨g9, 18, none⟩)), .eq (.int .i64 f.price), .eq (.bool true), .eq (.bool false), .eq (.bool false), .eq (.int .i64 0), .eq (.bool false), .eq (.bool false), .eq undef, .eq undef, .eq undef, .eq undef, .eq undef, .eq undef, .eq undef, .eq undef, .eq undef, .eq undef, .eq undef, .eq undef, .eq undef, .eq (.bool false)] (by kernel_rfl) rfl (by kernel_rfl) ?_ ?_
        · refine sv 1 rfl rfl rfl (fun a u hE hD hk => exec_ldS 25 _ (.tmp 6) (g6) (0) (o.cells) rfl (hE 6 (.pointer (some ⟨g6, 0, none⟩)) (by kernel_rfl) (by kernel_rfl)) (range_kept HOb.out hk) Try.underlying25 (by rw [o.len9]; exact ord_size)) ?_
          refine sv 2 rfl rfl rfl (fun a u hE hD hk => exec_fldo 36 2 18 (.tmp 9) (g9) (0) (18) rfl (hE 9 (.pointer (some ⟨g9, 0, none⟩)) (by kernel_rfl) (by kernel_rfl)) (by kernel_rfl) rfl) ?_
          refine sv 3 rfl rfl rfl (fun a u hE hD hk => exec_loadi 3 Try.underlying3 (.tmp 31) ⟨g9, 18, none⟩ (.int .i64 f.price) rfl (hD 1 31 (by kernel_rfl)) (range_int (range_kept HFb.out hk) 18 _ rfl)) ?_
          refine fsteps_cons 4 rfl (fun a u hE hD hk => f_call (o := ⟨some 33, _, _, _, _, _⟩) 35 #[o.v, .int .i64 f.price] rfl (wanted_none rfl _) (exec_call 35 _ [.tmp 30, .tmp 32] _ [o.v, .int .i64 f.price] Try.func35 (by kernel_rfl) (by kernel_rfl) rfl (show [a.eval (.tmp 30), a.eval (.tmp 32)] = [o.v, .int .i64 f.price] from (by rw [show a.eval (.tmp 30) = o.v from (hD 0 30 (by kernel_rfl)), show a.eval (.tmp 32) = .int .i64 f.price from (hD 2 32 (by kernel_rfl))] <;> rfl)) u) ((by have h := crosses_any o f.price u; rw [HCX.out] at h; exact h))) ?_
          refine sv 5 rfl rfl rfl (fun a u hE hD hk => exec_not _ (.tmp 33) true rfl (hD 3 33 (by kernel_rfl))) ?_
          refine sv 6 rfl rfl rfl (fun a u hE hD hk => exec_move (.tmp 34) _ rfl (hD 4 34 (by kernel_rfl))) ?_
          refine fsteps_cons 7 rfl (fun a u hE hD hk => f_val (o := ⟨some 36, _, _, _, _, _⟩) (.int .i64 0) rfl (wanted_at (b := false) false rfl rfl (hD 5 35 (by kernel_rfl))) (exec_move (.tmp 8) _ rfl (hE 8 (.int .i64 0) (by kernel_rfl) (by kernel_rfl))) rfl) ?_
          refine fsteps_cons 8 rfl (fun a u hE hD hk => f_as (show ((decide ((0 : Int) < (0 : Int))) : Bool) = false from by decide) (f_val (o := ⟨some 37, _, _, _, _, _⟩) (.bool (decide ((0 : Int) < (0 : Int)))) rfl (wanted_at (b := false) false rfl rfl (hD 5 35 (by kernel_rfl))) (exec_gtn (p := 0) (q := 0) rfl (hD 6 36 (by kernel_rfl)) rfl) rfl)) ?_
          refine fsteps_cons 9 rfl (fun a u hE hD hk => f_val (o := ⟨some 38, _, _, _, _, _⟩) (.bool false) rfl (wanted_at (b := false) false rfl rfl (hD 5 35 (by kernel_rfl))) (exec_move (.tmp 37) _ rfl (hD 7 37 (by kernel_rfl))) rfl) ?_
          refine fsteps_cons 10 rfl (fun a u hE hD hk => f_skip (o := ⟨some 39, _, _, _, _, _⟩) rfl (wanted_at (b := true) false rfl rfl (hD 8 38 (by kernel_rfl))) rfl) ?_
          refine fsteps_cons 11 rfl (fun a u hE hD hk => f_skip (o := ⟨some 40, _, _, _, _, _⟩) rfl (wanted_at (b := true) false rfl rfl (hD 8 38 (by kernel_rfl))) rfl) ?_
          refine fsteps_cons 12 rfl (fun a u hE hD hk => f_skip (o := ⟨some 41, _, _, _, _, _⟩) rfl (wanted_at (b := true) false rfl rfl (hD 8 38 (by kernel_rfl))) rfl) ?_
          refine fsteps_cons 13 rfl (fun a u hE hD hk => f_skip (o := ⟨some 42, _, _, _, _, _⟩) rfl (wanted_at (b := true) false rfl rfl (hD 8 38 (by kernel_rfl))) rfl) ?_
          refine fsteps_cons 14 rfl (fun a u hE hD hk => f_skip (o := ⟨some 43, _, _, _, _, _⟩) rfl (wanted_at (b := true) false rfl rfl (hD 8 38 (by kernel_rfl))) rfl) ?_
          refine fsteps_cons 15 rfl (fun a u hE hD hk => f_skip (o := ⟨some 44, _, _, _, _, _⟩) rfl (wanted_at (b := true) false rfl rfl (hD 8 38 (by kernel_rfl))) rfl) ?_
          refine fsteps_cons 16 rfl (fun a u hE hD hk => f_skip (o := ⟨some 45, _, _, _, _, _⟩) rfl (wanted_at (b := true) false rfl rfl (hD 8 38 (by kernel_rfl))) rfl) ?_
          refine fsteps_cons 17 rfl (fun a u hE hD hk => f_skip (o := ⟨some 46, _, _, _, _, _⟩) rfl (wanted_at (b := true) false rfl rfl (hD 8 38 (by kernel_rfl))) rfl) ?_
          refine fsteps_cons 18 rfl (fun a u hE hD hk => f_skip (o := ⟨some 47, _, _, _, _, _⟩) rfl (wanted_at (b := true) false rfl rfl (hD 8 38 (by kernel_rfl))) rfl) ?_
          refine fsteps_cons 19 rfl (fun a u hE hD hk => f_skip (o := ⟨some 48, _, _, _, _, _⟩) rfl (wanted_at (b := true) false rfl rfl (hD 8 38 (by kernel_rfl))) rfl) ?_
          refine fsteps_cons 20 rfl (fun a u hE hD hk => f_skip (o := ⟨some 49, _, _, _, _, _⟩) rfl (wanted_at (b := true) false rfl rfl (hD 8 38 (by kernel_rfl))) rfl) ?_
          refine fsteps_cons 21 rfl (fun a u hE hD hk => f_skip (o := ⟨some 50, _, _, _, _, _⟩) rfl (wanted_at (b := true) false rfl rfl (hD 8 38 (by kernel_rfl))) rfl) ?_
          refine fsteps_cons 22 rfl (fun a u hE hD hk => f_skip (o := ⟨some 51, _, _, _, _, _⟩) rfl (wanted_at (b := true) false rfl rfl (hD 8 38 (by kernel_rfl))) rfl) ?_
          refine fsteps_cons 23 rfl (fun a u hE hD hk => f_val (o := ⟨some 52, _, _, _, _, _⟩) (.bool false) rfl (wanted_at (b := false) false rfl rfl (hD 5 35 (by kernel_rfl))) (exec_pickF (.tmp 38) (.tmp 51) (.const (.bool false)) (.bool false) rfl (hD 8 38 (by kernel_rfl)) rfl) rfl) ?_
          exact fsteps_nil
        intro gv wc hV kc
        rw [show dstsOf _ 23 = [30, 31, 32, 33, 34, 35, 36, 37, 38, 39, 40, 41, 42, 43, 44, 45, 46, 47, 48, 49, 50, 51, 52] by kernel_rfl]
        simp only [fC, fN, sA, sS, sZ, dS, dZ]
        rw [show gv 35 = .bool false from hV 5 35 (by kernel_rfl)]
        rw [show gv 52 = .bool false from hV 22 52 (by kernel_rfl)]
        clear hV
        refine l_val (o := ⟨some 53, _, _, _, _, _⟩) (.bool false) rfl (exec_pickF (.tmp 35) (.const (.bool true)) (.tmp 52) (.bool false) rfl (by kernel_rfl) (by kernel_rfl)) ?_
        simp only [Act.put, sA, sS, sZ]
        refine wpList_nil ?_
        have kwc := kwb.trans kc
        go_wp2
        exact ⟨⟨0 + 1, by omega, by go_num, kwc⟩, by simp [intOf]; omega⟩
      | succ j =>
        obtain ⟨fp, hfp⟩ : ∃ fp, x.f[j]? = some fp := ⟨x.f[j]'(by rw [HN.out]; omega), List.getElem?_eq_getElem (by rw [HN.out]; omega)⟩
        have HEp : Hid (wb.rangeAt gf (of_ + j * 21) fp.cells) := range_kept (HS4.out.rngF j fp hfp) kwb
        have HBT : Hid (bet f.mk_.side f.price fp.price = false) := by show _ = _; rw [e2]; exact HBI.out.row j fp f hfp HFI.out
        have hjn : j < n := by omega
        clear hfp
        go_upto_region 9 with fail
        refine wp_free 23 [.eq (o.v), .eq (.pointer (some ⟨g9, 18, none⟩)), .eq (.int .i64 f.price), .eq (.bool true), .eq (.bool false), .eq (.bool false), .eq (.int .i64 ((j + 1 : Nat) : Int)), .eq (.bool true), .eq (.bool true), .eq (.pointer (some ⟨g9, 0, none⟩)), .eq (.pointer (some ⟨g9, 3, none⟩)), .eq (.int .i64 f.mk_.side), .eq (.pointer (some ⟨g9, 18, none⟩)), .eq (.int .i64 f.price), .eq (.pointer (some ⟨g7, 9, none⟩)), .eq (.slice (some ⟨gf, of_, none⟩) n c), .eq (.int .i64 ((j + 1 : Nat) : Int)), .eq (.int .i64 (j : Int)), .eq (.pointer (some ⟨gf, of_ + j * 21, none⟩)), .eq (.pointer (some ⟨gf, of_ + j * 21 + 18, none⟩)), .eq (.int .i64 fp.price), .eq (.bool false), .eq (.bool false)] (by kernel_rfl) rfl (by kernel_rfl) ?_ ?_
        · refine sv 1 rfl rfl rfl (fun a u hE hD hk => exec_ldS 25 _ (.tmp 6) (g6) (0) (o.cells) rfl (hE 6 (.pointer (some ⟨g6, 0, none⟩)) (by kernel_rfl) (by kernel_rfl)) (range_kept HOb.out hk) Try.underlying25 (by rw [o.len9]; exact ord_size)) ?_
          refine sv 2 rfl rfl rfl (fun a u hE hD hk => exec_fldo 36 2 18 (.tmp 9) (g9) (0) (18) rfl (hE 9 (.pointer (some ⟨g9, 0, none⟩)) (by kernel_rfl) (by kernel_rfl)) (by kernel_rfl) rfl) ?_
          refine sv 3 rfl rfl rfl (fun a u hE hD hk => exec_loadi 3 Try.underlying3 (.tmp 31) ⟨g9, 18, none⟩ (.int .i64 f.price) rfl (hD 1 31 (by kernel_rfl)) (range_int (range_kept HFb.out hk) 18 _ rfl)) ?_
          refine fsteps_cons 4 rfl (fun a u hE hD hk => f_call (o := ⟨some 33, _, _, _, _, _⟩) 35 #[o.v, .int .i64 f.price] rfl (wanted_none rfl _) (exec_call 35 _ [.tmp 30, .tmp 32] _ [o.v, .int .i64 f.price] Try.func35 (by kernel_rfl) (by kernel_rfl) rfl (show [a.eval (.tmp 30), a.eval (.tmp 32)] = [o.v, .int .i64 f.price] from (by rw [show a.eval (.tmp 30) = o.v from (hD 0 30 (by kernel_rfl)), show a.eval (.tmp 32) = .int .i64 f.price from (hD 2 32 (by kernel_rfl))] <;> rfl)) u) ((by have h := crosses_any o f.price u; rw [HCX.out] at h; exact h))) ?_
          refine sv 5 rfl rfl rfl (fun a u hE hD hk => exec_not _ (.tmp 33) true rfl (hD 3 33 (by kernel_rfl))) ?_
          refine sv 6 rfl rfl rfl (fun a u hE hD hk => exec_move (.tmp 34) _ rfl (hD 4 34 (by kernel_rfl))) ?_
          refine fsteps_cons 7 rfl (fun a u hE hD hk => f_val (o := ⟨some 36, _, _, _, _, _⟩) (.int .i64 ((j + 1 : Nat) : Int)) rfl (wanted_at (b := false) false rfl rfl (hD 5 35 (by kernel_rfl))) (exec_move (.tmp 8) _ rfl (hE 8 (.int .i64 ((j + 1 : Nat) : Int)) (by kernel_rfl) (by kernel_rfl))) rfl) ?_
          refine fsteps_cons 8 rfl (fun a u hE hD hk => f_as (show ((decide ((0 : Int) < (((j + 1 : Nat) : Int) : Int))) : Bool) = true from decide_eq_true (by omega)) (f_val (o := ⟨some 37, _, _, _, _, _⟩) (.bool (decide ((0 : Int) < (((j + 1 : Nat) : Int) : Int)))) rfl (wanted_at (b := false) false rfl rfl (hD 5 35 (by kernel_rfl))) (exec_gtn (p := ((j + 1 : Nat) : Int)) (q := 0) rfl (hD 6 36 (by kernel_rfl)) rfl) rfl)) ?_
          refine fsteps_cons 9 rfl (fun a u hE hD hk => f_val (o := ⟨some 38, _, _, _, _, _⟩) (.bool true) rfl (wanted_at (b := false) false rfl rfl (hD 5 35 (by kernel_rfl))) (exec_move (.tmp 37) _ rfl (hD 7 37 (by kernel_rfl))) rfl) ?_
          refine fsteps_cons 10 rfl (fun a u hE hD hk => f_val (o := ⟨some 39, _, _, _, _, _⟩) (.pointer (some ⟨g9, 0, none⟩)) rfl (wanted_at (b := true) true rfl rfl (hD 8 38 (by kernel_rfl))) (exec_fldo 36 0 0 (.tmp 9) (g9) (0) (0) rfl (hE 9 (.pointer (some ⟨g9, 0, none⟩)) (by kernel_rfl) (by kernel_rfl)) (by kernel_rfl) rfl) rfl) ?_
          refine fsteps_cons 11 rfl (fun a u hE hD hk => f_val (o := ⟨some 40, _, _, _, _, _⟩) (.pointer (some ⟨g9, 3, none⟩)) rfl (wanted_at (b := true) true rfl rfl (hD 8 38 (by kernel_rfl))) (exec_fldo 25 3 3 (.tmp 39) (g9) (0) (3) rfl (hD 9 39 (by kernel_rfl)) (by kernel_rfl) rfl) rfl) ?_
          refine fsteps_cons 12 rfl (fun a u hE hD hk => f_val (o := ⟨some 41, _, _, _, _, _⟩) (.int .i64 f.mk_.side) rfl (wanted_at (b := true) true rfl rfl (hD 8 38 (by kernel_rfl))) (exec_loadi 3 Try.underlying3 (.tmp 40) ⟨g9, 3, none⟩ (.int .i64 f.mk_.side) rfl (hD 10 40 (by kernel_rfl)) (range_int (range_kept HFb.out hk) 3 _ rfl)) rfl) ?_
          refine fsteps_cons 13 rfl (fun a u hE hD hk => f_val (o := ⟨some 42, _, _, _, _, _⟩) (.pointer (some ⟨g9, 18, none⟩)) rfl (wanted_at (b := true) true rfl rfl (hD 8 38 (by kernel_rfl))) (exec_fldo 36 2 18 (.tmp 9) (g9) (0) (18) rfl (hE 9 (.pointer (some ⟨g9, 0, none⟩)) (by kernel_rfl) (by kernel_rfl)) (by kernel_rfl) rfl) rfl) ?_
          refine fsteps_cons 14 rfl (fun a u hE hD hk => f_val (o := ⟨some 43, _, _, _, _, _⟩) (.int .i64 f.price) rfl (wanted_at (b := true) true rfl rfl (hD 8 38 (by kernel_rfl))) (exec_loadi 3 Try.underlying3 (.tmp 42) ⟨g9, 18, none⟩ (.int .i64 f.price) rfl (hD 12 42 (by kernel_rfl)) (range_int (range_kept HFb.out hk) 18 _ rfl)) rfl) ?_
          refine fsteps_cons 15 rfl (fun a u hE hD hk => f_val (o := ⟨some 44, _, _, _, _, _⟩) (.pointer (some ⟨g7, 9, none⟩)) rfl (wanted_at (b := true) true rfl rfl (hD 8 38 (by kernel_rfl))) (exec_fldo 29 1 9 (.tmp 7) (g7) (0) (9) rfl (hE 7 (.pointer (some ⟨g7, 0, none⟩)) (by kernel_rfl) (by kernel_rfl)) (by kernel_rfl) rfl) rfl) ?_
          refine fsteps_cons 16 rfl (fun a u hE hD hk => f_val (o := ⟨some 45, _, _, _, _, _⟩) (.slice (some ⟨gf, of_, none⟩) n c) rfl (wanted_at (b := true) true rfl rfl (hD 8 38 (by kernel_rfl))) (exec_ldv 26 _ Try.underlying26 (.tmp 44) ⟨g7, 9, none⟩ (.slice (some ⟨gf, of_, none⟩) n c) rfl (hD 14 44 (by kernel_rfl)) (by rw [(HCb.out.kept hk).cell]; rfl)) rfl) ?_
          refine fsteps_cons 17 rfl (fun a u hE hD hk => f_val (o := ⟨some 46, _, _, _, _, _⟩) (.int .i64 ((j + 1 : Nat) : Int)) rfl (wanted_at (b := true) true rfl rfl (hD 8 38 (by kernel_rfl))) (exec_move (.tmp 8) _ rfl (hE 8 (.int .i64 ((j + 1 : Nat) : Int)) (by kernel_rfl) (by kernel_rfl))) rfl) ?_
          refine fsteps_cons 18 rfl (fun a u hE hD hk => f_val (o := ⟨some 47, _, _, _, _, _⟩) (.int .i64 (j : Int)) rfl (wanted_at (b := true) true rfl rfl (hD 8 38 (by kernel_rfl))) (exec_subn (j : Int) (p := ((j + 1 : Nat) : Int)) (q := 1) rfl (hD 16 46 (by kernel_rfl)) rfl (by omega) (by omega) (by omega)) rfl) ?_
          refine fsteps_cons 19 rfl (fun a u hE hD hk => f_val (o := ⟨some 48, _, _, _, _, _⟩) (.pointer (some ⟨gf, of_ + j * 21, none⟩)) rfl (wanted_at (b := true) true rfl rfl (hD 8 38 (by kernel_rfl))) (exec_ixo slF (.tmp 45) (.tmp 47) (gf) (of_) n c j (of_ + j * 21) ((j : Int)) rfl (hD 15 45 (by kernel_rfl)) (hD 17 47 (by kernel_rfl)) (by first | rfl | omega) (hjn) (by first | rfl | omega)) rfl) ?_
          refine fsteps_cons 20 rfl (fun a u hE hD hk => f_val (o := ⟨some 49, _, _, _, _, _⟩) (.pointer (some ⟨gf, of_ + j * 21 + 18, none⟩)) rfl (wanted_at (b := true) true rfl rfl (hD 8 38 (by kernel_rfl))) (exec_fldo 36 2 18 (.tmp 48) (gf) (of_ + j * 21) (of_ + j * 21 + 18) rfl (hD 18 48 (by kernel_rfl)) (by kernel_rfl) rfl) rfl) ?_
          refine fsteps_cons 21 rfl (fun a u hE hD hk => f_val (o := ⟨some 50, _, _, _, _, _⟩) (.int .i64 fp.price) rfl (wanted_at (b := true) true rfl rfl (hD 8 38 (by kernel_rfl))) (exec_loadi 3 Try.underlying3 (.tmp 49) ⟨gf, of_ + j * 21 + 18, none⟩ (.int .i64 fp.price) rfl (hD 19 49 (by kernel_rfl)) (range_int (range_kept HEp.out hk) 18 _ rfl)) rfl) ?_
          refine fsteps_cons 22 rfl (fun a u hE hD hk => f_call (o := ⟨some 51, _, _, _, _, _⟩) 36 #[.int .i64 f.mk_.side, .int .i64 f.price, .int .i64 fp.price] rfl (wanted_at (b := true) true rfl rfl (hD 8 38 (by kernel_rfl))) (exec_call 36 _ [.tmp 41, .tmp 43, .tmp 50] _ [.int .i64 f.mk_.side, .int .i64 f.price, .int .i64 fp.price] Try.func36 (by kernel_rfl) (by kernel_rfl) rfl (show [a.eval (.tmp 41), a.eval (.tmp 43), a.eval (.tmp 50)] = [.int .i64 f.mk_.side, .int .i64 f.price, .int .i64 fp.price] from (by rw [show a.eval (.tmp 41) = .int .i64 f.mk_.side from (hD 11 41 (by kernel_rfl)), show a.eval (.tmp 43) = .int .i64 f.price from (hD 13 43 (by kernel_rfl)), show a.eval (.tmp 50) = .int .i64 fp.price from (hD 20 50 (by kernel_rfl))] <;> rfl)) u) ((by have h := better_any f.mk_.side f.price fp.price u; rw [HBT.out] at h; exact h))) ?_
          refine fsteps_cons 23 rfl (fun a u hE hD hk => f_val (o := ⟨some 52, _, _, _, _, _⟩) (.bool false) rfl (wanted_at (b := false) false rfl rfl (hD 5 35 (by kernel_rfl))) (exec_pick (.tmp 38) (.tmp 51) (.const (.bool false)) (.bool false) rfl (hD 8 38 (by kernel_rfl)) (hD 21 51 (by kernel_rfl))) rfl) ?_
          exact fsteps_nil
        intro gv wc hV kc
        rw [show dstsOf _ 23 = [30, 31, 32, 33, 34, 35, 36, 37, 38, 39, 40, 41, 42, 43, 44, 45, 46, 47, 48, 49, 50, 51, 52] by kernel_rfl]
        simp only [fC, fN, sA, sS, sZ, dS, dZ]
        rw [show gv 35 = .bool false from hV 5 35 (by kernel_rfl)]
        rw [show gv 52 = .bool false from hV 22 52 (by kernel_rfl)]
        clear hV
        refine l_val (o := ⟨some 53, _, _, _, _, _⟩) (.bool false) rfl (exec_pickF (.tmp 35) (.const (.bool true)) (.tmp 52) (.bool false) rfl (by kernel_rfl) (by kernel_rfl)) ?_
        simp only [Act.put, sA, sS, sZ]
        refine wpList_nil ?_
        have kwc := kwb.trans kc
        go_wp2
        exact ⟨⟨j + 1 + 1, by omega, by go_num, kwc⟩, by simp [intOf]; omega⟩
    · have kwr := kw4.trans hkr
      have HBr := Lib.hid (HB4.out.kept hkr)
      have HSr := Lib.hid (HS4.out.kept hkr)
      have hin : i = n := by omega
      by_cases hn0 : n = 0
      · skip
        go_upto_region 12 with fail
        refine wp_text 4 [.eq (.pointer (some ⟨g7, 9, none⟩)), .eq (vf), .eq (.int .i64 (n : Int)), .eq (.bool true)] rfl (by kernel_rfl) ?_ ?_
        · refine sv 1 rfl rfl rfl (fun a u hE hD hk => exec_fldo 29 1 9 (.tmp 7) (g7) (0) (9) rfl (hE 7 (.pointer (some ⟨g7, 0, none⟩)) (by kernel_rfl) (by kernel_rfl)) (by kernel_rfl) rfl) ?_
          refine sv 2 rfl rfl rfl (fun a u hE hD hk => exec_ldv 26 _ Try.underlying26 (.tmp 55) ⟨g7, 9, none⟩ (vf) rfl (hD 0 55 (by kernel_rfl)) (by rw [(HCr.out.kept hk).cell]; rfl)) ?_
          refine sv 3 rfl rfl rfl (fun a u hE hD hk => exec_lenS (.tmp 56) slF (vf) (n) _ _ rfl (hD 1 56 (by kernel_rfl)) HSr.out) ?_
          refine fsteps_cons 4 rfl (fun a u hE hD hk => f_as (show ((decide (((n : Int) : Int) = (0 : Int))) : Bool) = true from decide_eq_true (by omega)) (f_val (o := ⟨some 58, _, _, _, _, _⟩) (.bool (decide (((n : Int) : Int) = (0 : Int)))) rfl (wanted_none rfl _) (exec_eqn (p := (n : Int)) (q := 0) rfl (hD 2 57 (by kernel_rfl)) rfl) rfl)) ?_
          exact fsteps_nil
        intro gv wa hV ka
        rw [show dstsOf _ 4 = [55, 56, 57, 58] by kernel_rfl]
        simp only [fC, fN, sA, sS, sZ, dS, dZ]
        rw [show gv 58 = .bool true from hV 3 58 (by kernel_rfl)]
        clear hV
        refine wpList_nil ?_
        clear hn0
        go_upto_region 13 with fail
        refine wp_text 2 [.eq (.bool true), .eq (.bool true)] rfl (by kernel_rfl) ?_ ?_
        · refine fsteps_cons 1 rfl (fun a u hE hD hk => f_call (o := ⟨some 59, _, _, _, _, _⟩) 3 #[] rfl (wanted_none rfl _) (exec_call 3 _ [] _ [] Try.func3 (by kernel_rfl) (by kernel_rfl) rfl rfl u) (bruns_gives u)) ?_
          refine sv 2 rfl rfl rfl (fun a u hE hD hk => exec_assign (.tmp 59) _ rfl (hD 0 59 (by kernel_rfl))) ?_
          exact fsteps_nil
        intro gv wb hV kb
        rw [show dstsOf _ 2 = [59, 4] by kernel_rfl]
        simp only [fC, fN, sA, sS, sZ, dS, dZ]
        rw [show gv 4 = .bool true from hV 1 4 (by kernel_rfl)]
        clear hV
        refine wpList_nil ?_
        go_wp2
        go_ret
        exact ⟨rfl, (kwr.trans ka).trans kb⟩
      · skip
        obtain ⟨gf, of_, c, rfl⟩ := HS4.out.some_ (by omega)
        obtain ⟨m, hm⟩ : ∃ m, n = m + 1 := ⟨n - 1, by omega⟩
        obtain ⟨f, hf⟩ : ∃ f, x.f[m]? = some f := ⟨x.f[m]'(by rw [HN.out]; omega), List.getElem?_eq_getElem (by rw [HN.out]; omega)⟩
        have HE : Hid (wr.rangeAt gf (of_ + m * 21) f.cells) := range_kept (HS4.out.rngF m f hf) hkr
        obtain ⟨b1, b2⟩ := HBI.out.best f (by rw [HN.out, hm]; exact hf)
        have HBS := Lib.hid b1
        have HBL := Lib.hid b2
        have hmn : m < n := by omega
        have hmc : (n : Int) - 1 = (m : Int) := by omega
        clear hf b1 b2 hm hin
        go_upto_region 12 with fail
        refine wp_text 4 [.eq (.pointer (some ⟨g7, 9, none⟩)), .eq (.slice (some ⟨gf, of_, none⟩) n c), .eq (.int .i64 (n : Int)), .eq (.bool false)] rfl (by kernel_rfl) ?_ ?_
        · refine sv 1 rfl rfl rfl (fun a u hE hD hk => exec_fldo 29 1 9 (.tmp 7) (g7) (0) (9) rfl (hE 7 (.pointer (some ⟨g7, 0, none⟩)) (by kernel_rfl) (by kernel_rfl)) (by kernel_rfl) rfl) ?_
          refine sv 2 rfl rfl rfl (fun a u hE hD hk => exec_ldv 26 _ Try.underlying26 (.tmp 55) ⟨g7, 9, none⟩ (.slice (some ⟨gf, of_, none⟩) n c) rfl (hD 0 55 (by kernel_rfl)) (by rw [(HCr.out.kept hk).cell]; rfl)) ?_
          refine sv 3 rfl rfl rfl (fun a u hE hD hk => exec_len (.tmp 56) _ _ slF.und (some ⟨gf, of_, none⟩) n c rfl (hD 1 56 (by kernel_rfl))) ?_
          refine fsteps_cons 4 rfl (fun a u hE hD hk => f_as (show ((decide (((n : Int) : Int) = (0 : Int))) : Bool) = false from decide_eq_false (by omega)) (f_val (o := ⟨some 58, _, _, _, _, _⟩) (.bool (decide (((n : Int) : Int) = (0 : Int)))) rfl (wanted_none rfl _) (exec_eqn (p := (n : Int)) (q := 0) rfl (hD 2 57 (by kernel_rfl)) rfl) rfl)) ?_
          exact fsteps_nil
        intro gv wa hV ka
        rw [show dstsOf _ 4 = [55, 56, 57, 58] by kernel_rfl]
        simp only [fC, fN, sA, sS, sZ, dS, dZ]
        rw [show gv 58 = .bool false from hV 3 58 (by kernel_rfl)]
        clear hV
        refine wpList_nil ?_
        have HCa := Lib.hid (HCr.out.kept ka)
        have HEa := Lib.hid (range_kept HE.out ka)
        have HOa := Lib.hid (range_kept HOr.out ka)
        have HBa := Lib.hid (HBr.out.kept ka)
        clear hn0 HE HOr HBr HCr
        go_upto_region 14 with fail
        refine wp_text 10 [.eq (.pointer (some ⟨g7, 9, none⟩)), .eq (.slice (some ⟨gf, of_, none⟩) n c), .eq (.pointer (some ⟨g7, 9, none⟩)), .eq (.slice (some ⟨gf, of_, none⟩) n c), .eq (.int .i64 (n : Int)), .eq (.int .i64 (m : Int)), .eq (.pointer (some ⟨gf, of_ + m * 21, none⟩)), .eq (.pointer (some ⟨gf, of_ + m * 21 + 18, none⟩)), .eq (.int .i64 f.price), .eq (.int .i64 f.price)] rfl (by kernel_rfl) ?_ ?_
        · refine sv 1 rfl rfl rfl (fun a u hE hD hk => exec_fldo 29 1 9 (.tmp 7) (g7) (0) (9) rfl (hE 7 (.pointer (some ⟨g7, 0, none⟩)) (by kernel_rfl) (by kernel_rfl)) (by kernel_rfl) rfl) ?_
          refine sv 2 rfl rfl rfl (fun a u hE hD hk => exec_ldv 26 _ Try.underlying26 (.tmp 60) ⟨g7, 9, none⟩ (.slice (some ⟨gf, of_, none⟩) n c) rfl (hD 0 60 (by kernel_rfl)) (by rw [(HCa.out.kept hk).cell]; rfl)) ?_
          refine sv 3 rfl rfl rfl (fun a u hE hD hk => exec_fldo 29 1 9 (.tmp 7) (g7) (0) (9) rfl (hE 7 (.pointer (some ⟨g7, 0, none⟩)) (by kernel_rfl) (by kernel_rfl)) (by kernel_rfl) rfl) ?_
          refine sv 4 rfl rfl rfl (fun a u hE hD hk => exec_ldv 26 _ Try.underlying26 (.tmp 62) ⟨g7, 9, none⟩ (.slice (some ⟨gf, of_, none⟩) n c) rfl (hD 2 62 (by kernel_rfl)) (by rw [(HCa.out.kept hk).cell]; rfl)) ?_
          refine sv 5 rfl rfl rfl (fun a u hE hD hk => exec_len (.tmp 63) _ _ slF.und (some ⟨gf, of_, none⟩) n c rfl (hD 3 63 (by kernel_rfl))) ?_
          refine sv 6 rfl rfl rfl (fun a u hE hD hk => exec_subn (m : Int) (p := (n : Int)) (q := 1) rfl (hD 4 64 (by kernel_rfl)) rfl hmc (by omega) (by omega)) ?_
          refine sv 7 rfl rfl rfl (fun a u hE hD hk => exec_ixo slF (.tmp 61) (.tmp 65) (gf) (of_) n c m (of_ + m * 21) ((m : Int)) rfl (hD 1 61 (by kernel_rfl)) (hD 5 65 (by kernel_rfl)) (by first | rfl | omega) (hmn) (by first | rfl | omega)) ?_
          refine sv 8 rfl rfl rfl (fun a u hE hD hk => exec_fldo 36 2 18 (.tmp 66) (gf) (of_ + m * 21) (of_ + m * 21 + 18) rfl (hD 6 66 (by kernel_rfl)) (by kernel_rfl) rfl) ?_
          refine sv 9 rfl rfl rfl (fun a u hE hD hk => exec_loadi 3 Try.underlying3 (.tmp 67) ⟨gf, of_ + m * 21 + 18, none⟩ (.int .i64 f.price) rfl (hD 7 67 (by kernel_rfl)) (range_int (range_kept HEa.out hk) 18 _ rfl)) ?_
          refine sv 10 rfl rfl rfl (fun a u hE hD hk => exec_assign (.tmp 68) _ rfl (hD 8 68 (by kernel_rfl))) ?_
          exact fsteps_nil
        intro gv wb hV kb
        rw [show dstsOf _ 10 = [60, 61, 62, 63, 64, 65, 66, 67, 68, 10] by kernel_rfl]
        simp only [fC, fN, sA, sS, sZ, dS, dZ]
        rw [show gv 10 = .int .i64 f.price from hV 9 10 (by kernel_rfl)]
        clear hV
        refine wpList_nil ?_
        have HOb := Lib.hid (range_kept HOa.out kb)
        have HBb := Lib.hid (HBa.out.kept kb)
        have kwb := (kwr.trans ka).trans kb
        obtain ⟨X, hX⟩ : ∃ X, ordsL (B'.sd (3 - o.side)) = X := ⟨_, rfl⟩
        have HX := Lib.hid hX
        have hXl : X.length ≤ 64 := by rw [← hX, ordsL_len]; exact (HI'.out.side HS3.out).mine.few
        obtain ⟨r, hr⟩ : ∃ r, X.length = r := ⟨_, rfl⟩
        have HR := Lib.hid hr
        rw [hr] at hXl
        clear hX hr HCa HEa HOa HBa ka kb hmc hmn
        go_upto_region 15 with fail
        refine wp_text 7 [.eq (.pointer (some ⟨p, 0, none⟩)), .eq (.pointer (some ⟨g6, 3, none⟩)), .eq (.int .i64 o.side), .eq (.int .i64 (3 - o.side)), .sl wb.heap.size 25 9 r (ords X), .eq (.int .i64 (r : Int)), .eq (.int .i64 0)] rfl (by kernel_rfl) ?_ ?_
        · refine sv 1 rfl rfl rfl (fun a u hE hD hk => exec_move (.tmp 5) _ rfl (hE 5 (.pointer (some ⟨p, 0, none⟩)) (by kernel_rfl) (by kernel_rfl))) ?_
          refine sv 2 rfl rfl rfl (fun a u hE hD hk => exec_fldo 25 3 3 (.tmp 6) (g6) (0) (3) rfl (hE 6 (.pointer (some ⟨g6, 0, none⟩)) (by kernel_rfl) (by kernel_rfl)) (by kernel_rfl) rfl) ?_
          refine sv 3 rfl rfl rfl (fun a u hE hD hk => exec_loadi 3 Try.underlying3 (.tmp 70) ⟨g6, 3, none⟩ (.int .i64 o.side) rfl (hD 1 70 (by kernel_rfl)) (range_int (range_kept HOb.out hk) 3 _ rfl)) ?_
          refine sv 4 rfl rfl rfl (fun a u hE hD hk => exec_subn (3 - o.side) (p := 3) (q := o.side) rfl rfl (hD 2 71 (by kernel_rfl)) rfl (by have := HS1.out; omega) (by have := HS1.out; omega)) ?_
          refine fsteps_cons 5 rfl (fun a u hE hD hk => f_call (o := ⟨some 73, _, _, _, _, _⟩) 32 #[.pointer (some ⟨p, 0, none⟩), .int .i64 (3 - o.side)] rfl (wanted_none rfl _) (exec_call 32 _ [.tmp 69, .tmp 72] _ [.pointer (some ⟨p, 0, none⟩), .int .i64 (3 - o.side)] Try.func32 (by kernel_rfl) (by kernel_rfl) rfl (show [a.eval (.tmp 69), a.eval (.tmp 72)] = [.pointer (some ⟨p, 0, none⟩), .int .i64 (3 - o.side)] from (by rw [show a.eval (.tmp 69) = .pointer (some ⟨p, 0, none⟩) from (hD 0 69 (by kernel_rfl)), show a.eval (.tmp 72) = .int .i64 (3 - o.side) from (hD 3 72 (by kernel_rfl))] <;> rfl)) u) ((by have h := (borders_any u F3 p B' (3 - o.side) (HBb.out.kept hk) HI'.out).base hk.size; rw [HX.out, HR.out] at h; exact h))) ?_
          refine sv 6 rfl rfl rfl (fun a u hE hD hk => exec_lenS (.tmp 73) slO (a.eval (.tmp 73)) r _ _ rfl rfl (hD 4 73 (by kernel_rfl)).1) ?_
          refine sv 7 rfl rfl rfl (fun a u hE hD hk => exec_move (.const (.int .i64 0)) _ rfl rfl) ?_
          exact fsteps_nil
        intro gv wc hV kc
        rw [show dstsOf _ 7 = [69, 70, 71, 72, 73, 74, 75] by kernel_rfl]
        simp only [fC, fN, sA, sS, sZ, dS, dZ]
        have hv73 : (.sl wb.heap.size 25 9 r (ords X) : Kn).p (gv 73) wc := hV 4 73 (by kernel_rfl)
        generalize gv 73 = v73 at hv73 ⊢
        rw [show gv 74 = .int .i64 (r : Int) from hV 5 74 (by kernel_rfl)]
        rw [show gv 75 = .int .i64 0 from hV 6 75 (by kernel_rfl)]
        clear hV
        refine wpList_nil ?_
        have HXS := Lib.hid hv73.1
        obtain ⟨vs, hvs⟩ : ∃ y, y = v73 := ⟨_, rfl⟩
        subst hvs
        have HBc := Lib.hid (HBb.out.kept kc)
        have kwc := kwb.trans kc
        clear hv73 HOb HBb kwb kc
        go_wp2_with fail
        go_loopw [75] (fun q wr => ∃ (i : Nat), i ≤ r ∧ q = .int .i64 (i : Int) ∧ Kept wc wr) (fun q _ => r - (intOf q).toNat)
        case atStart => exact ⟨0, Nat.zero_le _, rfl, Kept.refl _⟩
        case round =>
          obtain ⟨i, hi, rfl, hkr⟩ := hrel
          by_cases hlt : i < r
          · skip
            obtain ⟨gx, ox, cx, rfl⟩ := HXS.out.some_ (by omega)
            obtain ⟨e, he⟩ : ∃ e, X[i]? = some e := ⟨X[i]'(by rw [HR.out]; omega), List.getElem?_eq_getElem (by rw [HR.out]; omega)⟩
            have HE : Hid (wr.rangeAt gx (ox + i * 9) e.cells) := range_kept (HXS.out.rngO i e he) hkr
            have HBT : Hid (bet e.side e.price f.price = false) := by
              have h1 := HBS.out e (by rw [HX.out]; exact List.mem_of_getElem? he)
              show _ = _
              rw [h1.1]
              exact h1.2
            clear he
            go_upto_region 17 with fail
            refine wp_text 3 [.eq (.pointer (some ⟨gx, ox + i * 9, none⟩)), .eq (e.v), .fresh wr.heap.size 25 zeroO.cells] rfl (by kernel_rfl) ?_ ?_
            · refine sv 1 rfl rfl rfl (fun a u hE hD hk => exec_ixo slO (.tmp 73) (.tmp 75) (gx) (ox) r cx i (ox + i * 9) ((i : Int)) rfl (hE 73 (.slice (some ⟨gx, ox, none⟩) r cx) (by kernel_rfl) (by kernel_rfl)) (hE 75 (.int .i64 (i : Int)) (by kernel_rfl) (by kernel_rfl)) (by first | rfl | omega) (hlt) (by first | rfl | omega)) ?_
              refine sv 2 rfl rfl rfl (fun a u hE hD hk => exec_ldS 25 _ (.tmp 77) (gx) (ox + i * 9) (e.cells) rfl (hD 0 77 (by kernel_rfl)) (range_kept HE.out hk) Try.underlying25 (by rw [e.len9]; exact ord_size)) ?_
              refine fsteps_cons 3 rfl (fun a u hE hD hk => f_new (o := ⟨some 12, _, _, _, _, _⟩) (.pointer (some ⟨u.heap.size, 0, none⟩)) _ rfl (wanted_none rfl _) (exec_alc 25 zeroO.cells rfl zO) ⟨_, rfl, hk.size, Blk.new u _ _⟩ ((Keep.refl _ u).alloc _)) ?_
              exact fsteps_nil
            intro gv wd hV kd
            rw [show dstsOf _ 3 = [77, 78, 12] by kernel_rfl]
            simp only [fC, fN, sA, sS, sZ, dS, dZ]
            have hv12 : (.fresh wr.heap.size 25 zeroO.cells : Kn).p (gv 12) wd := hV 2 12 (by kernel_rfl)
            generalize gv 12 = v12 at hv12 ⊢
            rw [show gv 78 = e.v from hV 1 78 (by kernel_rfl)]
            clear hV
            obtain ⟨g12, rfl, hg12, hB12⟩ := hv12
            refine l_setS (o := ⟨none, _, _, _, _, _⟩) 25 g12 25 zeroO.cells e.cells (.tmp 12) (.tmp 78) rfl rfl (by kernel_rfl) (by kernel_rfl) hB12 (by rw [Ord.len9]; exact ord_size) (by rw [Ord.len9, Ord.len9]) (Ord.one1 _) ?_
            intro we hBe hke hse
            simp only [Act.put]
            refine wpList_nil ?_
            have ke : Kept wr we := kd.trans' hke (by omega)
            have HEe := Lib.hid (blk_range hBe)
            clear hB12 hBe hke hse kd HE
            go_upto_region 18 with fail
            refine wp_text 6 [.eq (.pointer (some ⟨g12, 3, none⟩)), .eq (.int .i64 e.side), .eq (.pointer (some ⟨g12, 5, none⟩)), .eq (.int .i64 e.price), .eq (.int .i64 f.price), .eq (.bool false)] rfl (by kernel_rfl) ?_ ?_
            · refine sv 1 rfl rfl rfl (fun a u hE hD hk => exec_fldo 25 3 3 (.tmp 12) (g12) (0) (3) rfl (hE 12 (.pointer (some ⟨g12, 0, none⟩)) (by kernel_rfl) (by kernel_rfl)) (by kernel_rfl) rfl) ?_
              refine sv 2 rfl rfl rfl (fun a u hE hD hk => exec_loadi 3 Try.underlying3 (.tmp 79) ⟨g12, 3, none⟩ (.int .i64 e.side) rfl (hD 0 79 (by kernel_rfl)) (range_int (range_kept HEe.out hk) 3 _ rfl)) ?_
              refine sv 3 rfl rfl rfl (fun a u hE hD hk => exec_fldo 25 5 5 (.tmp 12) (g12) (0) (5) rfl (hE 12 (.pointer (some ⟨g12, 0, none⟩)) (by kernel_rfl) (by kernel_rfl)) (by kernel_rfl) rfl) ?_
              refine sv 4 rfl rfl rfl (fun a u hE hD hk => exec_loadi 3 Try.underlying3 (.tmp 81) ⟨g12, 5, none⟩ (.int .i64 e.price) rfl (hD 2 81 (by kernel_rfl)) (range_int (range_kept HEe.out hk) 5 _ rfl)) ?_
              refine sv 5 rfl rfl rfl (fun a u hE hD hk => exec_move (.tmp 10) _ rfl (hE 10 (.int .i64 f.price) (by kernel_rfl) (by kernel_rfl))) ?_
              refine fsteps_cons 6 rfl (fun a u hE hD hk => f_call (o := ⟨some 84, _, _, _, _, _⟩) 36 #[.int .i64 e.side, .int .i64 e.price, .int .i64 f.price] rfl (wanted_none rfl _) (exec_call 36 _ [.tmp 80, .tmp 82, .tmp 83] _ [.int .i64 e.side, .int .i64 e.price, .int .i64 f.price] Try.func36 (by kernel_rfl) (by kernel_rfl) rfl (show [a.eval (.tmp 80), a.eval (.tmp 82), a.eval (.tmp 83)] = [.int .i64 e.side, .int .i64 e.price, .int .i64 f.price] from (by rw [show a.eval (.tmp 80) = .int .i64 e.side from (hD 1 80 (by kernel_rfl)), show a.eval (.tmp 82) = .int .i64 e.price from (hD 3 82 (by kernel_rfl)), show a.eval (.tmp 83) = .int .i64 f.price from (hD 4 83 (by kernel_rfl))] <;> rfl)) u) ((by have h := better_any e.side e.price f.price u; rw [HBT.out] at h; exact h))) ?_
              exact fsteps_nil
            intro gv wf hV kf
            rw [show dstsOf _ 6 = [79, 80, 81, 82, 83, 84] by kernel_rfl]
            simp only [fC, fN, sA, sS, sZ, dS, dZ]
            rw [show gv 84 = .bool false from hV 5 84 (by kernel_rfl)]
            clear hV
            refine wpList_nil ?_
            have kwf := (hkr.trans ke).trans kf
            clear ke kf
            go_wp2
            exact ⟨⟨i + 1, by omega, by go_num, kwf⟩, by simp [intOf]; omega⟩
          · skip
            have HBr := Lib.hid (HBc.out.kept hkr)
            go_upto_region 21 with fail
            refine wp_text 8 [.eq (.pointer (some ⟨p, 0, none⟩)), .eq (.int .i64 f.price), .eq (.int .i64 f.price), .eq (.bool true), .eq (.bool true), .eq (.bool true), .eq (.bool true), .eq (.bool true)] rfl (by kernel_rfl) ?_ ?_
            · refine sv 1 rfl rfl rfl (fun a u hE hD hk => exec_move (.tmp 5) _ rfl (hE 5 (.pointer (some ⟨p, 0, none⟩)) (by kernel_rfl) (by kernel_rfl))) ?_
              refine fsteps_cons 2 rfl (fun a u hE hD hk => f_call (o := ⟨some 87, _, _, _, _, _⟩) 18 #[.pointer (some ⟨p, 0, none⟩)] rfl (wanted_none rfl _) (exec_call 18 _ [.tmp 86] _ [.pointer (some ⟨p, 0, none⟩)] Try.func18 (by kernel_rfl) (by kernel_rfl) rfl (show [a.eval (.tmp 86)] = [.pointer (some ⟨p, 0, none⟩)] from (by rw [show a.eval (.tmp 86) = .pointer (some ⟨p, 0, none⟩) from (hD 0 86 (by kernel_rfl))] <;> rfl)) u) ((by have h := blast_any u F3 p B' (HBr.out.kept hk); rw [HBL.out] at h; exact h))) ?_
              refine sv 3 rfl rfl rfl (fun a u hE hD hk => exec_move (.tmp 10) _ rfl (hE 10 (.int .i64 f.price) (by kernel_rfl) (by kernel_rfl))) ?_
              refine fsteps_cons 4 rfl (fun a u hE hD hk => f_as (show ((decide ((f.price : Int) = (f.price : Int))) : Bool) = true from decide_eq_true rfl) (f_val (o := ⟨some 89, _, _, _, _, _⟩) (.bool (decide ((f.price : Int) = (f.price : Int)))) rfl (wanted_none rfl _) (exec_eqn (p := f.price) (q := f.price) rfl (hD 1 87 (by kernel_rfl)) (hD 2 88 (by kernel_rfl))) rfl)) ?_
              refine sv 5 rfl rfl rfl (fun a u hE hD hk => exec_move (.tmp 89) _ rfl (hD 3 89 (by kernel_rfl))) ?_
              refine fsteps_cons 6 rfl (fun a u hE hD hk => f_call (o := ⟨some 91, _, _, _, _, _⟩) 3 #[] rfl (wanted_at (b := true) true rfl rfl (hD 4 90 (by kernel_rfl))) (exec_call 3 _ [] _ [] Try.func3 (by kernel_rfl) (by kernel_rfl) rfl rfl u) (bruns_gives u)) ?_
              refine sv 7 rfl rfl rfl (fun a u hE hD hk => exec_pick (.tmp 90) (.tmp 91) (.const (.bool false)) (.bool true) rfl (hD 4 90 (by kernel_rfl)) (hD 5 91 (by kernel_rfl))) ?_
              refine sv 8 rfl rfl rfl (fun a u hE hD hk => exec_assign (.tmp 92) _ rfl (hD 6 92 (by kernel_rfl))) ?_
              exact fsteps_nil
            intro gv wg hV kg
            rw [show dstsOf _ 8 = [86, 87, 88, 89, 90, 91, 92, 4] by kernel_rfl]
            simp only [fC, fN, sA, sS, sZ, dS, dZ]
            rw [show gv 4 = .bool true from hV 7 4 (by kernel_rfl)]
            clear hV
            refine wpList_nil ?_
            have kwg := (kwc.trans hkr).trans kg
            go_wp2
            go_ret
            exact ⟨rfl, kwg⟩
end Go.Proofs.Ytfpfpmhkkgfdbaa
