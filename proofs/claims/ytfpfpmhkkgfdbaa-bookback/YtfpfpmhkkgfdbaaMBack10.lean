/-
  BookBack answers true: an order that rests without a trade, and is removed, leaves the book as it was. No condition.
-/
import Derived.Test.YtfpfpmhkkgfdbaaQ05
import Derived.Test.YtfpfpmhkkgfdbaaMFill10
import Derived.Test.YtfpfpmhkkgfdbaaMRuns10
import Derived.Test.YtfpfpmhkkgfdbaaMKindsM10
set_option linter.unusedVariables false
namespace Go.Proofs.Ytfpfpmhkkgfdbaa
open Go.RowKit
set_option maxRecDepth 100000
set_option maxRecDepth 100000 in
set_option maxHeartbeats 3200000 in
theorem bookBack_any (v : Value) (l : List Kq) (q : Kq) (w : World) (hl : Kqs w v l) : Calls Try.prog 9 #[v, q.v] w fun e w' => e = .returned (.bool true) ∧ Kept w w' := by
  obtain ⟨o, ho⟩ : ∃ o, q.o = o := ⟨_, rfl⟩
  have HKO : Hid (o.right = true ∧ o.stop = 0 ∧ o.qty ≤ 12) := by rw [← ho]; exact q.right
  have HGO : Hid (∀ u, Gives 22 #[q.v] u (.eq o.v)) := fun u => by rw [← ho]; exact korder_any q u
  clear ho
  go_enter Try.func9, Try.ntmps9
  go_upto_region 0 with fail
  refine wp_text 1 [.fresh w.heap.size 48 (q.cells)] rfl (by kernel_rfl) ?_ ?_
  · refine fsteps_cons 1 rfl (fun a u hE hD hk => f_new (o := ⟨some 3, _, _, _, _, _⟩) (.pointer (some ⟨u.heap.size, 0, none⟩)) _ rfl (wanted_none rfl _) (exec_box 48 (.tmp 1) (q.cells) rfl (hE 1 (q.v) (by kernel_rfl) (by kernel_rfl))) ⟨_, rfl, hk.size, Blk.new u _ _⟩ ((Keep.refl _ u).alloc _)) ?_
    exact fsteps_nil
  intro gv w0 hV k0
  rw [show dstsOf _ 1 = [3] by kernel_rfl]
  simp only [fC, fN, sA, sS, sZ, dS, dZ]
  have hv3 : (.fresh w.heap.size 48 (q.cells) : Kn).p (gv 3) w0 := hV 0 3 (by kernel_rfl)
  generalize gv 3 = v3 at hv3 ⊢
  clear hV
  obtain ⟨g3, rfl, hg3, hQ⟩ := hv3
  refine l_val (o := ⟨some 4, _, _, _, _, _⟩) (.bool false) rfl (exec_assign (.const (.bool false)) (.bool false) rfl (by kernel_rfl)) ?_
  simp only [Act.put, sA, sS, sZ]
  refine wpList_nil ?_
  have HQ0 := Lib.hid (blk_range hQ)
  have lq := hQ.lt
  have z0 := k0.size
  have hl0 := hl.kept k0
  clear hQ hl
  go_upto_region 1 with fail
  refine wp_region_lit ?_
  refine l_val (o := ⟨some 16, _, _, _, _, _⟩) (v) rfl (exec_move (.tmp 0) (v) rfl (by kernel_rfl)) ?_
  simp only [Act.put, sA, sS, sZ]
  refine l_call (o := ⟨some 17, _, _, _, _, _⟩) 31 #[v, .int .i64 40] rfl (exec_call 31 _ [.tmp 16, .const (.int .i64 40)] _ _ Try.func31 (by kernel_rfl) (by kernel_rfl) rfl (by kernel_rfl) _) ?_
  refine (bfilled_any v l 40 w0 hl0 (by omega)).mono ?_
  rintro r w1 ⟨p, F, rfl, hB1, hG1, k1⟩
  refine ⟨_, rfl, ?_⟩
  simp only [Act.put, sA, sS, sZ]
  refine l_val (o := ⟨some 5, _, _, _, _, _⟩) (.pointer (some ⟨p, 0, none⟩)) rfl (exec_assign (.tmp 17) (.pointer (some ⟨p, 0, none⟩)) rfl (by kernel_rfl)) ?_
  simp only [Act.put, sA, sS, sZ]
  refine wpList_nil ?_
  have hI := fillB_inv (l.take 40)
  have HNo : Hid ((fillB (l.take 40)).no ≤ 1000000000000) := by
    have h1 := hI.2
    have h2 : (l.take 40).length ≤ 40 := by rw [List.length_take]; omega
    show _ ≤ _
    omega
  have HI := Lib.hid hI.1
  clear hI
  generalize fillB (l.take 40) = B at HI hB1 HNo
  have HB1 := Lib.hid hB1
  have HFg : Hid (∀ b, F b → w0.heap.size ≤ b) := fun b hb => (hG1 b hb).elim (fun h => h.elim) id
  have HQ1 := Lib.hid (range_kept HQ0.out k1)
  have kw1 := k0.trans k1
  have z1 := k1.size
  clear hB1 hG1 hl0 HQ0 k0 k1
  obtain ⟨X, hX⟩ : ∃ X, ordsL (B.sd 1) = X := ⟨_, rfl⟩
  obtain ⟨Y, hY⟩ : ∃ Y, ordsL (B.sd 2) = Y := ⟨_, rfl⟩
  have HXe := Lib.hid hX
  have HYe := Lib.hid hY
  have HXl : Hid (X.length ≤ 64 ∧ Y.length ≤ 64) := by
    have h1 := HI.out.two.few
    have h2 : X.length = (entL B.buys).length := by rw [← hX, ordsL_len]; rfl
    have h3 : Y.length = (entL B.sells).length := by rw [← hY, ordsL_len]; rfl
    show _ ∧ _
    omega
  clear hX hY
  go_upto_region 4 with fail
  refine wp_text 8 [.eq (.pointer (some ⟨p, 0, none⟩)), .sl w1.heap.size 25 9 X.length (ords X), .eq (.pointer (some ⟨p, 0, none⟩)), .sl w1.heap.size 25 9 Y.length (ords Y), .eq (.pointer (some ⟨p, 0, none⟩)), .eq (.int .i64 B.last), .eq (.pointer (some ⟨p, 0, none⟩)), .eq (.int .i64 B.no)] rfl (by kernel_rfl) ?_ ?_
  · refine sv 1 rfl rfl rfl (fun a u hE hD hk => exec_move (.tmp 5) _ rfl (hE 5 (.pointer (some ⟨p, 0, none⟩)) (by kernel_rfl) (by kernel_rfl))) ?_
    refine fsteps_cons 2 rfl (fun a u hE hD hk => f_call (o := ⟨some 21, _, _, _, _, _⟩) 32 #[.pointer (some ⟨p, 0, none⟩), .int .i64 1] rfl (wanted_none rfl _) (exec_call 32 _ [.tmp 20, .const (.int .i64 1)] _ [.pointer (some ⟨p, 0, none⟩), .int .i64 1] Try.func32 (by kernel_rfl) (by kernel_rfl) rfl (show [a.eval (.tmp 20), a.eval (.const (.int .i64 1))] = [.pointer (some ⟨p, 0, none⟩), .int .i64 1] from (by rw [show a.eval (.tmp 20) = .pointer (some ⟨p, 0, none⟩) from (hD 0 20 (by kernel_rfl))] <;> rfl)) u) ((by have h := (borders_any u F p B 1 (HB1.out.kept hk) HI.out).base hk.size; rw [HXe.out] at h; exact h))) ?_
    refine sv 3 rfl rfl rfl (fun a u hE hD hk => exec_move (.tmp 5) _ rfl (hE 5 (.pointer (some ⟨p, 0, none⟩)) (by kernel_rfl) (by kernel_rfl))) ?_
    refine fsteps_cons 4 rfl (fun a u hE hD hk => f_call (o := ⟨some 23, _, _, _, _, _⟩) 32 #[.pointer (some ⟨p, 0, none⟩), .int .i64 2] rfl (wanted_none rfl _) (exec_call 32 _ [.tmp 22, .const (.int .i64 2)] _ [.pointer (some ⟨p, 0, none⟩), .int .i64 2] Try.func32 (by kernel_rfl) (by kernel_rfl) rfl (show [a.eval (.tmp 22), a.eval (.const (.int .i64 2))] = [.pointer (some ⟨p, 0, none⟩), .int .i64 2] from (by rw [show a.eval (.tmp 22) = .pointer (some ⟨p, 0, none⟩) from (hD 2 22 (by kernel_rfl))] <;> rfl)) u) ((by have h := (borders_any u F p B 2 (HB1.out.kept hk) HI.out).base hk.size; rw [HYe.out] at h; exact h))) ?_
    refine sv 5 rfl rfl rfl (fun a u hE hD hk => exec_move (.tmp 5) _ rfl (hE 5 (.pointer (some ⟨p, 0, none⟩)) (by kernel_rfl) (by kernel_rfl))) ?_
    refine fsteps_cons 6 rfl (fun a u hE hD hk => f_call (o := ⟨some 25, _, _, _, _, _⟩) 18 #[.pointer (some ⟨p, 0, none⟩)] rfl (wanted_none rfl _) (exec_call 18 _ [.tmp 24] _ [.pointer (some ⟨p, 0, none⟩)] Try.func18 (by kernel_rfl) (by kernel_rfl) rfl (show [a.eval (.tmp 24)] = [.pointer (some ⟨p, 0, none⟩)] from (by rw [show a.eval (.tmp 24) = .pointer (some ⟨p, 0, none⟩) from (hD 4 24 (by kernel_rfl))] <;> rfl)) u) (blast_any u F p B (HB1.out.kept hk))) ?_
    refine sv 7 rfl rfl rfl (fun a u hE hD hk => exec_move (.tmp 5) _ rfl (hE 5 (.pointer (some ⟨p, 0, none⟩)) (by kernel_rfl) (by kernel_rfl))) ?_
    refine fsteps_cons 8 rfl (fun a u hE hD hk => f_call (o := ⟨some 27, _, _, _, _, _⟩) 19 #[.pointer (some ⟨p, 0, none⟩)] rfl (wanted_none rfl _) (exec_call 19 _ [.tmp 26] _ [.pointer (some ⟨p, 0, none⟩)] Try.func19 (by kernel_rfl) (by kernel_rfl) rfl (show [a.eval (.tmp 26)] = [.pointer (some ⟨p, 0, none⟩)] from (by rw [show a.eval (.tmp 26) = .pointer (some ⟨p, 0, none⟩) from (hD 6 26 (by kernel_rfl))] <;> rfl)) u) (bno_any u F p B (HB1.out.kept hk))) ?_
    exact fsteps_nil
  intro gv w2 hV kk2
  rw [show dstsOf _ 8 = [20, 21, 22, 23, 24, 25, 26, 27] by kernel_rfl]
  simp only [fC, fN, sA, sS, sZ, dS, dZ]
  have hv21 : (.sl w1.heap.size 25 9 X.length (ords X) : Kn).p (gv 21) w2 := hV 1 21 (by kernel_rfl)
  generalize gv 21 = v21 at hv21 ⊢
  have hv23 : (.sl w1.heap.size 25 9 Y.length (ords Y) : Kn).p (gv 23) w2 := hV 3 23 (by kernel_rfl)
  generalize gv 23 = v23 at hv23 ⊢
  rw [show gv 25 = .int .i64 B.last from hV 5 25 (by kernel_rfl)]
  rw [show gv 27 = .int .i64 B.no from hV 7 27 (by kernel_rfl)]
  clear hV
  refine l_val (o := ⟨some 6, _, _, _, _, _⟩) (v21) rfl (exec_assign (.tmp 21) (v21) rfl (by kernel_rfl)) ?_
  simp only [Act.put, sA, sS, sZ]
  refine l_val (o := ⟨some 7, _, _, _, _, _⟩) (v23) rfl (exec_assign (.tmp 23) (v23) rfl (by kernel_rfl)) ?_
  simp only [Act.put, sA, sS, sZ]
  refine l_val (o := ⟨some 8, _, _, _, _, _⟩) (.int .i64 B.last) rfl (exec_assign (.tmp 25) (.int .i64 B.last) rfl (by kernel_rfl)) ?_
  simp only [Act.put, sA, sS, sZ]
  refine l_val (o := ⟨some 9, _, _, _, _, _⟩) (.int .i64 B.no) rfl (exec_assign (.tmp 27) (.int .i64 B.no) rfl (by kernel_rfl)) ?_
  simp only [Act.put, sA, sS, sZ]
  refine wpList_nil ?_
  have HX2 := Lib.hid hv21.1
  have HXo := Lib.hid hv21.2
  have HY2 := Lib.hid hv23.1
  have HYo := Lib.hid hv23.2
  have HB2 := Lib.hid (HB1.out.kept kk2)
  have HQ2 := Lib.hid (range_kept HQ1.out kk2)
  have HFl := Lib.hid HB1.out.lt
  have kw2 := kw1.trans kk2
  have z2 := kk2.size
  clear hv21 hv23 HB1 HQ1 kw1 kk2
  go_upto_region 5 with fail
  refine wp_text 3 [.eq (q.v), .eq (o.v), .fresh w2.heap.size 25 zeroO.cells] rfl (by kernel_rfl) ?_ ?_
  · refine sv 1 rfl rfl rfl (fun a u hE hD hk => exec_ldS 48 _ (.tmp 3) (g3) (0) (q.cells) rfl (hE 3 (.pointer (some ⟨g3, 0, none⟩)) (by kernel_rfl) (by kernel_rfl)) (range_kept HQ2.out hk) Try.underlying48 (by rw [q.len7]; exact szK)) ?_
    refine fsteps_cons 2 rfl (fun a u hE hD hk => f_call (o := ⟨some 29, _, _, _, _, _⟩) 22 #[q.v] rfl (wanted_none rfl _) (exec_call 22 _ [.tmp 28] _ [q.v] Try.func22 (by kernel_rfl) (by kernel_rfl) rfl (show [a.eval (.tmp 28)] = [q.v] from (by rw [show a.eval (.tmp 28) = q.v from (hD 0 28 (by kernel_rfl))] <;> rfl)) u) (HGO.out u)) ?_
    refine fsteps_cons 3 rfl (fun a u hE hD hk => f_new (o := ⟨some 10, _, _, _, _, _⟩) (.pointer (some ⟨u.heap.size, 0, none⟩)) _ rfl (wanted_none rfl _) (exec_alc 25 zeroO.cells rfl zO) ⟨_, rfl, hk.size, Blk.new u _ _⟩ ((Keep.refl _ u).alloc _)) ?_
    exact fsteps_nil
  intro gv w3a hV kv3a
  rw [show dstsOf _ 3 = [28, 29, 10] by kernel_rfl]
  simp only [fC, fN, sA, sS, sZ, dS, dZ]
  have hv10 : (.fresh w2.heap.size 25 zeroO.cells : Kn).p (gv 10) w3a := hV 2 10 (by kernel_rfl)
  generalize gv 10 = v10 at hv10 ⊢
  rw [show gv 29 = o.v from hV 1 29 (by kernel_rfl)]
  clear hV
  obtain ⟨g10, rfl, hg10, hBn⟩ := hv10
  refine l_setS (o := ⟨none, _, _, _, _, _⟩) 25 g10 25 zeroO.cells o.cells (.tmp 10) (.tmp 29) rfl rfl (by kernel_rfl) (by kernel_rfl) hBn (by rw [Ord.len9]; exact ord_size) (by rw [Ord.len9, Ord.len9]) (Ord.one1 _) ?_
  intro w3 hBo hkn hsn
  simp only [Act.put]
  refine wpList_nil ?_
  have kv3 : Kept w2 w3 := kv3a.trans' hkn (by omega)
  have HOw3 := Lib.hid (blk_range hBo)
  have lo10 := hBo.lt
  have zw3 := kv3.size
  clear hBn hBo hkn hsn kv3a
  have HB3 := Lib.hid (HB2.out.kept kv3)
  have HX3 := Lib.hid (HX2.out.kept kv3)
  have HY3 := Lib.hid (HY2.out.kept kv3)
  have kw3 := kw2.trans kv3
  clear HB2 HX2 HY2 kw2 kv3 HQ2
  obtain ⟨x, hx⟩ : ∃ x, (B.add o).1 = x := ⟨_, rfl⟩
  obtain ⟨B', hB'⟩ : ∃ B', (B.add o).2 = B' := ⟨_, rfl⟩
  have HAx : Hid (B.add o = (x, B')) := by rw [← hx, ← hB']; exact rfl
  clear hx hB'
  go_upto_region 6 with fail
  refine wp_text 2 [.eq (.pointer (some ⟨p, 0, none⟩)), .eq (o.v)] rfl (by kernel_rfl) ?_ ?_
  · refine sv 1 rfl rfl rfl (fun a u hE hD hk => exec_move (.tmp 5) _ rfl (hE 5 (.pointer (some ⟨p, 0, none⟩)) (by kernel_rfl) (by kernel_rfl))) ?_
    refine sv 2 rfl rfl rfl (fun a u hE hD hk => exec_ldS 25 _ (.tmp 10) (g10) (0) (o.cells) rfl (hE 10 (.pointer (some ⟨g10, 0, none⟩)) (by kernel_rfl) (by kernel_rfl)) (range_kept HOw3.out hk) Try.underlying25 (by rw [o.len9]; exact ord_size)) ?_
    exact fsteps_nil
  intro gv w4a hV kw4a
  rw [show dstsOf _ 2 = [30, 31] by kernel_rfl]
  simp only [fC, fN, sA, sS, sZ, dS, dZ]
  rw [show gv 30 = .pointer (some ⟨p, 0, none⟩) from hV 0 30 (by kernel_rfl)]
  rw [show gv 31 = o.v from hV 1 31 (by kernel_rfl)]
  clear hV
  refine l_call (o := ⟨some 32, _, _, _, _, _⟩) 15 #[.pointer (some ⟨p, 0, none⟩), o.v] rfl (exec_call 15 _ [.tmp 30, .tmp 31] _ _ Try.func15 (by kernel_rfl) (by kernel_rfl) rfl (by kernel_rfl) _) ?_
  refine (badd_at w4a F p B o _ HAx.out (HB3.out.kept kw4a) HI.out HNo.out).mono ?_
  rintro r w4b ⟨F4, vf, rfl, hBb, hSb, hOb, hGb, hkb⟩
  refine ⟨_, rfl, ?_⟩
  simp only [Act.put, sA, sS, sZ]
  refine l_new (o := ⟨some 11, _, _, _, _, _⟩) (.pointer (some ⟨w4b.heap.size, 0, none⟩)) (w4b.alloc (.cells (zeroC.cells (.slice none 0 0)).toArray 29)) rfl (exec_alc 29 (zeroC.cells (.slice none 0 0)) rfl zC) ?_
  have hNw4c := Blk.new w4b 29 (zeroC.cells (.slice none 0 0))
  have kw4c : Kept w4b (w4b.alloc (.cells (zeroC.cells (.slice none 0 0)).toArray 29)) := (Keep.refl _ w4b).alloc _
  generalize w4b.alloc (.cells (zeroC.cells (.slice none 0 0)).toArray 29) = w4c at hNw4c kw4c ⊢
  simp only [Act.put, sA, sS, sZ]
  refine l_setS (o := ⟨none, _, _, _, _, _⟩) 29 w4b.heap.size 29 (zeroC.cells (.slice none 0 0)) (x.cells vf) (.tmp 11) (.tmp 32) rfl rfl (by kernel_rfl) (by kernel_rfl) (hNw4c) (by rw [Oc.len15]; exact szC) (by rw [Oc.len15, Oc.len15]) (Oc.one _ _ (sl_onec hSb)) ?_
  intro w4 hCw4 hkw4 hsw4
  simp only [Act.put]
  refine wpList_nil ?_
  obtain ⟨Kw4, hBw4, hSw4, hOw4, hGw4, hFw4, zw4b⟩ := add_frame kw4a hBb hSb hOb hGb hkb kw4c hkw4
  obtain ⟨g11, hg11⟩ : ∃ a, w4b.heap.size = a := ⟨_, rfl⟩
  rw [hg11] at hCw4 hOw4 hFw4 zw4b ⊢
  have l11 := hCw4.lt
  have zw4 := Kw4.size
  have HBw4 := Lib.hid hBw4
  have HSw4 := Lib.hid hSw4
  have HCw4 := Lib.hid hCw4
  have HOww4 := Lib.hid hOw4
  have HGw4 := Lib.hid hGw4
  have HFw4 := Lib.hid hFw4
  clear hBb hSb hOb hGb hkb hNw4c hkw4 hsw4 hBw4 hSw4 hCw4 hOw4 hGw4 hFw4 kw4a kw4c hg11
  have HO4 : Hid (w4.rangeAt g10 0 o.cells) := range_keep HOw3.out Kw4 (fun h => by have := HFl.out _ h; omega)
  have HX4 : Hid (Sl w4 25 9 v21 X.length (ords X)) := HX3.out.keep Kw4 (fun b hb h => by have := HFl.out _ h; have := HXo.out b hb; omega)
  have HY4 : Hid (Sl w4 25 9 v23 Y.length (ords Y)) := HY3.out.keep Kw4 (fun b hb h => by have := HFl.out _ h; have := HYo.out b hb; omega)
  have HXo4 : Hid (∀ b, v21.ownBlock = some b → ¬ F4 b) := fun b hb h => by
    rcases HGw4.out b h with h | h
    · have := HFl.out _ h; have := HXo.out b hb; omega
    · have := HX3.out.lt hb; omega
  have HYo4 : Hid (∀ b, v23.ownBlock = some b → ¬ F4 b) := fun b hb h => by
    rcases HGw4.out b h with h | h
    · have := HFl.out _ h; have := HYo.out b hb; omega
    · have := HY3.out.lt hb; omega
  have HgF : Hid (¬ F4 g10) := fun h => by
    rcases HGw4.out _ h with h | h
    · have := HFl.out _ h; omega
    · omega
  have HF4g : Hid (∀ b, F4 b → w0.heap.size ≤ b) := HGw4.out.ge HFg.out (by omega)
  have kw4 : Kept w w4 := Keep.trans kw3 Kw4 (fun b hb h => by have := HFg.out b h; omega)
  have hI' : Inv B' := by have := (inv_add (o := o) HI.out).1; rw [HAx.out] at this; exact this
  have HI' := Lib.hid hI'
  have HBK : Hid (x.rests = true → x.f = [] → B'.find o.tr o.id = (o, true) ∧ B'.remove o.tr o.id = (o, true, B)) := fun h1 h2 => by have := back_is (o := o) HI.out (by rw [HAx.out]; exact h1) (by rw [HAx.out]; exact h2); rw [HAx.out] at this; exact this
  clear hI' HB3 HX3 HY3 HOw3 Kw4 kw3
  by_cases hr : x.rests = true
  · skip
    by_cases hf : x.f.length = 0
    · skip
      go_upto_region 7 with fail
      refine wp_text 9 [.eq (.pointer (some ⟨g11, 11, none⟩)), .eq (.bool true), .eq (.bool false), .eq (.bool false), .eq (.pointer (some ⟨g11, 9, none⟩)), .eq (vf), .eq (.int .i64 (x.f.length : Int)), .eq (.bool false), .eq (.bool false)] rfl (by kernel_rfl) ?_ ?_
      · refine sv 1 rfl rfl rfl (fun a u hE hD hk => exec_fldo 29 3 11 (.tmp 11) (g11) (0) (11) rfl (hE 11 (.pointer (some ⟨g11, 0, none⟩)) (by kernel_rfl) (by kernel_rfl)) (by kernel_rfl) rfl) ?_
        refine fsteps_cons 2 rfl (fun a u hE hD hk => f_as (show (x.rests : Bool) = true from hr) (f_val (o := ⟨some 34, _, _, _, _, _⟩) (.bool x.rests) rfl (wanted_none rfl _) (exec_ldb 4 Try.underlying4 (.tmp 33) ⟨g11, 11, none⟩ (.bool x.rests) rfl (hD 0 33 (by kernel_rfl)) (by rw [(HCw4.out.kept hk).cell]; rfl)) rfl)) ?_
        refine sv 3 rfl rfl rfl (fun a u hE hD hk => exec_not _ (.tmp 34) true rfl (hD 1 34 (by kernel_rfl))) ?_
        refine sv 4 rfl rfl rfl (fun a u hE hD hk => exec_move (.tmp 35) _ rfl (hD 2 35 (by kernel_rfl))) ?_
        refine fsteps_cons 5 rfl (fun a u hE hD hk => f_val (o := ⟨some 37, _, _, _, _, _⟩) (.pointer (some ⟨g11, 9, none⟩)) rfl (wanted_at (b := false) false rfl rfl (hD 3 36 (by kernel_rfl))) (exec_fldo 29 1 9 (.tmp 11) (g11) (0) (9) rfl (hE 11 (.pointer (some ⟨g11, 0, none⟩)) (by kernel_rfl) (by kernel_rfl)) (by kernel_rfl) rfl) rfl) ?_
        refine fsteps_cons 6 rfl (fun a u hE hD hk => f_val (o := ⟨some 38, _, _, _, _, _⟩) (vf) rfl (wanted_at (b := false) false rfl rfl (hD 3 36 (by kernel_rfl))) (exec_ldv 26 _ Try.underlying26 (.tmp 37) ⟨g11, 9, none⟩ (vf) rfl (hD 4 37 (by kernel_rfl)) (by rw [(HCw4.out.kept hk).cell]; rfl)) rfl) ?_
        refine fsteps_cons 7 rfl (fun a u hE hD hk => f_val (o := ⟨some 39, _, _, _, _, _⟩) (.int .i64 (x.f.length : Int)) rfl (wanted_at (b := false) false rfl rfl (hD 3 36 (by kernel_rfl))) (exec_lenS (.tmp 38) slF (vf) (x.f.length) _ _ rfl (hD 5 38 (by kernel_rfl)) HSw4.out) rfl) ?_
        refine fsteps_cons 8 rfl (fun a u hE hD hk => f_as (show ((decide ((0 : Int) < ((x.f.length : Int) : Int))) : Bool) = false from decide_eq_false (by omega)) (f_val (o := ⟨some 40, _, _, _, _, _⟩) (.bool (decide ((0 : Int) < ((x.f.length : Int) : Int)))) rfl (wanted_at (b := false) false rfl rfl (hD 3 36 (by kernel_rfl))) (exec_gtn (p := (x.f.length : Int)) (q := 0) rfl (hD 6 39 (by kernel_rfl)) rfl) rfl)) ?_
        refine sv 9 rfl rfl rfl (fun a u hE hD hk => exec_pickF (.tmp 36) (.const (.bool true)) (.tmp 40) (.bool false) rfl (hD 3 36 (by kernel_rfl)) (hD 7 40 (by kernel_rfl))) ?_
        exact fsteps_nil
      intro gv w5 hV k5
      rw [show dstsOf _ 9 = [33, 34, 35, 36, 37, 38, 39, 40, 41] by kernel_rfl]
      simp only [fC, fN, sA, sS, sZ, dS, dZ]
      rw [show gv 41 = .bool false from hV 8 41 (by kernel_rfl)]
      clear hV
      refine wpList_nil ?_
      have hfi := HBK.out hr (List.eq_nil_of_length_eq_zero hf)
      have HFi : Hid (∀ u, Bk u F4 p B' → Gives 28 #[.pointer (some ⟨p, 0, none⟩), .int .i64 o.tr, .int .i64 o.id] u (.eq (.tuple #[o.v, .bool true]))) := fun u hu => by have := bfind_any u F4 p B' o.tr o.id hu HI'.out; rwa [hfi.1] at this
      have HRm : Hid (∀ u, Bk u F4 p B' → Calls Try.prog 24 #[.pointer (some ⟨p, 0, none⟩), .int .i64 o.tr, .int .i64 o.id] u fun r w' => ∃ F', r = .returned (.tuple #[o.v, .bool true]) ∧ Bk w' F' p B ∧ Grow u F4 F' ∧ Keep F4 u w') := fun u hu => by have := bremove_any u F4 p B' o.tr o.id hu HI'.out; rwa [hfi.2] at this
      have HB5 := Lib.hid (HBw4.out.kept k5)
      have HO5 := Lib.hid (range_kept HO4.out k5)
      have HX5 := Lib.hid (HX4.out.kept k5)
      have HY5 := Lib.hid (HY4.out.kept k5)
      have kw5 := kw4.trans k5
      have z5 := k5.size
      clear hfi HBw4 HO4 HX4 HY4 kw4 k5 HCw4 HSw4
      go_upto_region 9 with fail
      refine wp_text 10 [.eq (.pointer (some ⟨p, 0, none⟩)), .eq (.pointer (some ⟨g10, 0, none⟩)), .eq (.int .i64 o.tr), .eq (.pointer (some ⟨g10, 1, none⟩)), .eq (.int .i64 o.id), .eq (.tuple #[o.v, .bool true]), .eq (.tuple #[o.v, .bool true]), .eq (o.v), .eq (.bool true), .fresh w5.heap.size 25 zeroO.cells] rfl (by kernel_rfl) ?_ ?_
      · refine sv 1 rfl rfl rfl (fun a u hE hD hk => exec_move (.tmp 5) _ rfl (hE 5 (.pointer (some ⟨p, 0, none⟩)) (by kernel_rfl) (by kernel_rfl))) ?_
        refine sv 2 rfl rfl rfl (fun a u hE hD hk => exec_fldo 25 0 0 (.tmp 10) (g10) (0) (0) rfl (hE 10 (.pointer (some ⟨g10, 0, none⟩)) (by kernel_rfl) (by kernel_rfl)) (by kernel_rfl) rfl) ?_
        refine sv 3 rfl rfl rfl (fun a u hE hD hk => exec_loadi 3 Try.underlying3 (.tmp 45) ⟨g10, 0, none⟩ (.int .i64 o.tr) rfl (hD 1 45 (by kernel_rfl)) (range_int (range_kept HO5.out hk) 0 _ rfl)) ?_
        refine sv 4 rfl rfl rfl (fun a u hE hD hk => exec_fldo 25 1 1 (.tmp 10) (g10) (0) (1) rfl (hE 10 (.pointer (some ⟨g10, 0, none⟩)) (by kernel_rfl) (by kernel_rfl)) (by kernel_rfl) rfl) ?_
        refine sv 5 rfl rfl rfl (fun a u hE hD hk => exec_loadi 3 Try.underlying3 (.tmp 47) ⟨g10, 1, none⟩ (.int .i64 o.id) rfl (hD 3 47 (by kernel_rfl)) (range_int (range_kept HO5.out hk) 1 _ rfl)) ?_
        refine fsteps_cons 6 rfl (fun a u hE hD hk => f_call (o := ⟨some 49, _, _, _, _, _⟩) 28 #[.pointer (some ⟨p, 0, none⟩), .int .i64 o.tr, .int .i64 o.id] rfl (wanted_none rfl _) (exec_call 28 _ [.tmp 44, .tmp 46, .tmp 48] _ [.pointer (some ⟨p, 0, none⟩), .int .i64 o.tr, .int .i64 o.id] Try.func28 (by kernel_rfl) (by kernel_rfl) rfl (show [a.eval (.tmp 44), a.eval (.tmp 46), a.eval (.tmp 48)] = [.pointer (some ⟨p, 0, none⟩), .int .i64 o.tr, .int .i64 o.id] from (by rw [show a.eval (.tmp 44) = .pointer (some ⟨p, 0, none⟩) from (hD 0 44 (by kernel_rfl)), show a.eval (.tmp 46) = .int .i64 o.tr from (hD 2 46 (by kernel_rfl)), show a.eval (.tmp 48) = .int .i64 o.id from (hD 4 48 (by kernel_rfl))] <;> rfl)) u) (HFi.out u (HB5.out.kept hk))) ?_
        refine sv 7 rfl rfl rfl (fun a u hE hD hk => exec_move (.tmp 49) _ rfl (hD 5 49 (by kernel_rfl))) ?_
        refine sv 8 rfl rfl rfl (fun a u hE hD hk => exec_extract (.tmp 43) [o.v, .bool true] 0 (o.v) rfl (hD 6 43 (by kernel_rfl)) rfl) ?_
        refine sv 9 rfl rfl rfl (fun a u hE hD hk => exec_extract (.tmp 43) [o.v, .bool true] 1 (.bool true) rfl (hD 6 43 (by kernel_rfl)) rfl) ?_
        refine fsteps_cons 10 rfl (fun a u hE hD hk => f_new (o := ⟨some 12, _, _, _, _, _⟩) (.pointer (some ⟨u.heap.size, 0, none⟩)) _ rfl (wanted_none rfl _) (exec_alc 25 zeroO.cells rfl zO) ⟨_, rfl, hk.size, Blk.new u _ _⟩ ((Keep.refl _ u).alloc _)) ?_
        exact fsteps_nil
      intro gv w6a hV k6a
      rw [show dstsOf _ 10 = [44, 45, 46, 47, 48, 49, 43, 50, 51, 12] by kernel_rfl]
      simp only [fC, fN, sA, sS, sZ, dS, dZ]
      have hv12 : (.fresh w5.heap.size 25 zeroO.cells : Kn).p (gv 12) w6a := hV 9 12 (by kernel_rfl)
      generalize gv 12 = v12 at hv12 ⊢
      rw [show gv 50 = o.v from hV 7 50 (by kernel_rfl)]
      rw [show gv 51 = .bool true from hV 8 51 (by kernel_rfl)]
      clear hV
      obtain ⟨g12, rfl, hg12, hB12⟩ := hv12
      refine l_setS (o := ⟨none, _, _, _, _, _⟩) 25 g12 25 zeroO.cells o.cells (.tmp 12) (.tmp 50) rfl rfl (by kernel_rfl) (by kernel_rfl) (hB12) (by rw [Ord.len9]; exact ord_size) (by rw [Ord.len9, Ord.len9]) (Ord.one1 _) ?_
      intro w6 hCw6 hkw6 hsw6
      simp only [Act.put]
      refine l_val (o := ⟨some 13, _, _, _, _, _⟩) (.bool true) rfl (exec_assign (.tmp 51) (.bool true) rfl (by kernel_rfl)) ?_
      simp only [Act.put, sA, sS, sZ]
      refine wpList_nil ?_
      have k6 : Kept w5 w6 := k6a.trans' hkw6 (by omega)
      have HB6 := Lib.hid (HB5.out.kept k6)
      have HO6 := Lib.hid (range_kept HO5.out k6)
      have HP6 := Lib.hid (blk_range hCw6)
      have HX6 := Lib.hid (HX5.out.kept k6)
      have HY6 := Lib.hid (HY5.out.kept k6)
      have kw6 := kw5.trans k6
      have z6 := k6.size
      have l12 := hCw6.lt
      have HF4l := Lib.hid HB5.out.lt
      clear hB12 hCw6 hkw6 hsw6 k6a k6 HB5 HO5 HX5 HY5 kw5 HFi
      go_upto_region 10 with fail
      refine wp_text 5 [.eq (.pointer (some ⟨p, 0, none⟩)), .eq (.pointer (some ⟨g10, 0, none⟩)), .eq (.int .i64 o.tr), .eq (.pointer (some ⟨g10, 1, none⟩)), .eq (.int .i64 o.id)] rfl (by kernel_rfl) ?_ ?_
      · refine sv 1 rfl rfl rfl (fun a u hE hD hk => exec_move (.tmp 5) _ rfl (hE 5 (.pointer (some ⟨p, 0, none⟩)) (by kernel_rfl) (by kernel_rfl))) ?_
        refine sv 2 rfl rfl rfl (fun a u hE hD hk => exec_fldo 25 0 0 (.tmp 10) (g10) (0) (0) rfl (hE 10 (.pointer (some ⟨g10, 0, none⟩)) (by kernel_rfl) (by kernel_rfl)) (by kernel_rfl) rfl) ?_
        refine sv 3 rfl rfl rfl (fun a u hE hD hk => exec_loadi 3 Try.underlying3 (.tmp 54) ⟨g10, 0, none⟩ (.int .i64 o.tr) rfl (hD 1 54 (by kernel_rfl)) (range_int (range_kept HO6.out hk) 0 _ rfl)) ?_
        refine sv 4 rfl rfl rfl (fun a u hE hD hk => exec_fldo 25 1 1 (.tmp 10) (g10) (0) (1) rfl (hE 10 (.pointer (some ⟨g10, 0, none⟩)) (by kernel_rfl) (by kernel_rfl)) (by kernel_rfl) rfl) ?_
        refine sv 5 rfl rfl rfl (fun a u hE hD hk => exec_loadi 3 Try.underlying3 (.tmp 56) ⟨g10, 1, none⟩ (.int .i64 o.id) rfl (hD 3 56 (by kernel_rfl)) (range_int (range_kept HO6.out hk) 1 _ rfl)) ?_
        exact fsteps_nil
      intro gv w7a hV k7a
      rw [show dstsOf _ 5 = [53, 54, 55, 56, 57] by kernel_rfl]
      simp only [fC, fN, sA, sS, sZ, dS, dZ]
      rw [show gv 53 = .pointer (some ⟨p, 0, none⟩) from hV 0 53 (by kernel_rfl)]
      rw [show gv 55 = .int .i64 o.tr from hV 2 55 (by kernel_rfl)]
      rw [show gv 57 = .int .i64 o.id from hV 4 57 (by kernel_rfl)]
      clear hV
      refine l_call (o := ⟨some 58, _, _, _, _, _⟩) 24 #[.pointer (some ⟨p, 0, none⟩), .int .i64 o.tr, .int .i64 o.id] rfl (exec_call 24 _ [.tmp 53, .tmp 55, .tmp 57] _ _ Try.func24 (by kernel_rfl) (by kernel_rfl) rfl (by kernel_rfl) _) ?_
      refine (HRm.out w7a (HB6.out.kept k7a)).mono ?_
      rintro r w7b ⟨F7, rfl, hB7, hG7, hk7⟩
      refine ⟨_, rfl, ?_⟩
      simp only [Act.put, sA, sS, sZ]
      refine l_val (o := ⟨some 52, _, _, _, _, _⟩) (.tuple #[o.v, .bool true]) rfl (exec_move (.tmp 58) (.tuple #[o.v, .bool true]) rfl (by kernel_rfl)) ?_
      simp only [Act.put, sA, sS, sZ]
      refine l_val (o := ⟨some 59, _, _, _, _, _⟩) (o.v) rfl (exec_extract (.tmp 52) [o.v, .bool true] 0 (o.v) rfl (by kernel_rfl) rfl) ?_
      simp only [Act.put, sA, sS, sZ]
      refine l_val (o := ⟨some 60, _, _, _, _, _⟩) (.bool true) rfl (exec_extract (.tmp 52) [o.v, .bool true] 1 (.bool true) rfl (by kernel_rfl) rfl) ?_
      simp only [Act.put, sA, sS, sZ]
      refine l_new (o := ⟨some 14, _, _, _, _, _⟩) (.pointer (some ⟨w7b.heap.size, 0, none⟩)) (w7b.alloc (.cells zeroO.cells.toArray 25)) rfl (exec_alc 25 zeroO.cells rfl zO) ?_
      have hNw7c := Blk.new w7b 25 zeroO.cells
      have kw7c : Kept w7b (w7b.alloc (.cells zeroO.cells.toArray 25)) := (Keep.refl _ w7b).alloc _
      generalize w7b.alloc (.cells zeroO.cells.toArray 25) = w7c at hNw7c kw7c ⊢
      simp only [Act.put, sA, sS, sZ]
      refine l_setS (o := ⟨none, _, _, _, _, _⟩) 25 w7b.heap.size 25 zeroO.cells o.cells (.tmp 14) (.tmp 59) rfl rfl (by kernel_rfl) (by kernel_rfl) (hNw7c) (by rw [Ord.len9]; exact ord_size) (by rw [Ord.len9, Ord.len9]) (Ord.one1 _) ?_
      intro w7 hCw7 hkw7 hsw7
      simp only [Act.put]
      refine l_val (o := ⟨some 15, _, _, _, _, _⟩) (.bool true) rfl (exec_assign (.tmp 60) (.bool true) rfl (by kernel_rfl)) ?_
      simp only [Act.put, sA, sS, sZ]
      refine wpList_nil ?_
      have z7a := k7a.size
      have z7b := hk7.size
      have K7 : Keep F4 w6 w7 := ((Keep.any k7a hk7).trans kw7c (fun _ _ h => h.elim)).new hkw7 (by omega)
      have KB7 : Keep (· = w7b.heap.size) w7b w7 := Keep.any kw7c hkw7
      have HB7' : Hid (Bk w7 F7 p B) := hB7.keep KB7 (fun b hb e => by have := hB7.lt b hb; omega)
      have HO7 : Hid (w7.rangeAt g10 0 o.cells) := range_keep HO6.out K7 HgF.out
      have HP7 : Hid (w7.rangeAt g12 0 o.cells) := range_keep HP6.out K7 (fun h => by have := HF4l.out _ h; omega)
      have HR7 : Hid (w7.rangeAt w7b.heap.size 0 o.cells) := blk_range hCw7
      have HX7 : Hid (Sl w7 25 9 v21 X.length (ords X)) := HX6.out.keep K7 HXo4.out
      have HY7 : Hid (Sl w7 25 9 v23 Y.length (ords Y)) := HY6.out.keep K7 HYo4.out
      have kw7 : Kept w w7 := Keep.trans kw6 K7 (fun b hb h => by have := HF4g.out b h; omega)
      obtain ⟨g14, hg14⟩ : ∃ a, w7b.heap.size = a := ⟨_, rfl⟩
      rw [hg14] at HR7 ⊢
      clear hB7 hG7 hk7 hNw7c kw7c hCw7 hkw7 hsw7 k7a KB7 K7 HB6 HO6 HP6 HX6 HY6 kw6 hg14 HRm
      go_upto_region 11 with fail
      refine wp_text 41 [.eq (.bool true), .eq (.bool true), .eq (.bool true), .eq (.bool true), .eq (.bool true), .eq (o.v), .eq (o.v), .eq (.bool true), .eq (.bool true), .eq (.bool true), .eq (o.v), .eq (o.v), .eq (.bool true), .eq (.bool true), .eq (.bool true), .eq (.pointer (some ⟨p, 0, none⟩)), .sl 0 25 9 X.length (ords X), .eq (v21), .eq (.bool true), .eq (.bool true), .eq (.bool true), .eq (.pointer (some ⟨p, 0, none⟩)), .sl 0 25 9 Y.length (ords Y), .eq (v23), .eq (.bool true), .eq (.bool true), .eq (.bool true), .eq (.pointer (some ⟨p, 0, none⟩)), .eq (.int .i64 B.last), .eq (.int .i64 B.last), .eq (.bool true), .eq (.bool true), .eq (.bool true), .eq (.pointer (some ⟨p, 0, none⟩)), .eq (.int .i64 B.no), .eq (.int .i64 B.no), .eq (.bool true), .eq (.bool true), .eq (.bool true), .eq (.bool true), .eq (.bool true)] rfl (by kernel_rfl) ?_ ?_
      · refine sv 1 rfl rfl rfl (fun a u hE hD hk => exec_move (.tmp 13) _ rfl (hE 13 (.bool true) (by kernel_rfl) (by kernel_rfl))) ?_
        refine sv 2 rfl rfl rfl (fun a u hE hD hk => exec_move (.tmp 61) _ rfl (hD 0 61 (by kernel_rfl))) ?_
        refine fsteps_cons 3 rfl (fun a u hE hD hk => f_val (o := ⟨some 63, _, _, _, _, _⟩) (.bool true) rfl (wanted_at (b := true) true rfl rfl (hD 1 62 (by kernel_rfl))) (exec_move (.tmp 15) _ rfl (hE 15 (.bool true) (by kernel_rfl) (by kernel_rfl))) rfl) ?_
        refine sv 4 rfl rfl rfl (fun a u hE hD hk => exec_pick (.tmp 62) (.tmp 63) (.const (.bool false)) (.bool true) rfl (hD 1 62 (by kernel_rfl)) (hD 2 63 (by kernel_rfl))) ?_
        refine sv 5 rfl rfl rfl (fun a u hE hD hk => exec_move (.tmp 64) _ rfl (hD 3 64 (by kernel_rfl))) ?_
        refine fsteps_cons 6 rfl (fun a u hE hD hk => f_val (o := ⟨some 66, _, _, _, _, _⟩) (o.v) rfl (wanted_at (b := true) true rfl rfl (hD 4 65 (by kernel_rfl))) (exec_ldS 25 _ (.tmp 12) (g12) (0) (o.cells) rfl (hE 12 (.pointer (some ⟨g12, 0, none⟩)) (by kernel_rfl) (by kernel_rfl)) (range_kept HP7.out hk) Try.underlying25 (by rw [o.len9]; exact ord_size)) rfl) ?_
        refine fsteps_cons 7 rfl (fun a u hE hD hk => f_val (o := ⟨some 67, _, _, _, _, _⟩) (o.v) rfl (wanted_at (b := true) true rfl rfl (hD 4 65 (by kernel_rfl))) (exec_ldS 25 _ (.tmp 10) (g10) (0) (o.cells) rfl (hE 10 (.pointer (some ⟨g10, 0, none⟩)) (by kernel_rfl) (by kernel_rfl)) (range_kept HO7.out hk) Try.underlying25 (by rw [o.len9]; exact ord_size)) rfl) ?_
        refine fsteps_cons 8 rfl (fun a u hE hD hk => f_val (o := ⟨some 68, _, _, _, _, _⟩) (.bool true) rfl (wanted_at (b := true) true rfl rfl (hD 4 65 (by kernel_rfl))) (exec_eqOb' true (.tmp 66) (.tmp 67) _ o o rfl (hD 5 66 (by kernel_rfl)) (hD 6 67 (by kernel_rfl)) (decide_eq_true rfl)) rfl) ?_
        refine sv 9 rfl rfl rfl (fun a u hE hD hk => exec_pick (.tmp 65) (.tmp 68) (.const (.bool false)) (.bool true) rfl (hD 4 65 (by kernel_rfl)) (hD 7 68 (by kernel_rfl))) ?_
        refine sv 10 rfl rfl rfl (fun a u hE hD hk => exec_move (.tmp 69) _ rfl (hD 8 69 (by kernel_rfl))) ?_
        refine fsteps_cons 11 rfl (fun a u hE hD hk => f_val (o := ⟨some 71, _, _, _, _, _⟩) (o.v) rfl (wanted_at (b := true) true rfl rfl (hD 9 70 (by kernel_rfl))) (exec_ldS 25 _ (.tmp 14) (g14) (0) (o.cells) rfl (hE 14 (.pointer (some ⟨g14, 0, none⟩)) (by kernel_rfl) (by kernel_rfl)) (range_kept HR7.out hk) Try.underlying25 (by rw [o.len9]; exact ord_size)) rfl) ?_
        refine fsteps_cons 12 rfl (fun a u hE hD hk => f_val (o := ⟨some 72, _, _, _, _, _⟩) (o.v) rfl (wanted_at (b := true) true rfl rfl (hD 9 70 (by kernel_rfl))) (exec_ldS 25 _ (.tmp 10) (g10) (0) (o.cells) rfl (hE 10 (.pointer (some ⟨g10, 0, none⟩)) (by kernel_rfl) (by kernel_rfl)) (range_kept HO7.out hk) Try.underlying25 (by rw [o.len9]; exact ord_size)) rfl) ?_
        refine fsteps_cons 13 rfl (fun a u hE hD hk => f_val (o := ⟨some 73, _, _, _, _, _⟩) (.bool true) rfl (wanted_at (b := true) true rfl rfl (hD 9 70 (by kernel_rfl))) (exec_eqOb' true (.tmp 71) (.tmp 72) _ o o rfl (hD 10 71 (by kernel_rfl)) (hD 11 72 (by kernel_rfl)) (decide_eq_true rfl)) rfl) ?_
        refine sv 14 rfl rfl rfl (fun a u hE hD hk => exec_pick (.tmp 70) (.tmp 73) (.const (.bool false)) (.bool true) rfl (hD 9 70 (by kernel_rfl)) (hD 12 73 (by kernel_rfl))) ?_
        refine sv 15 rfl rfl rfl (fun a u hE hD hk => exec_move (.tmp 74) _ rfl (hD 13 74 (by kernel_rfl))) ?_
        refine fsteps_cons 16 rfl (fun a u hE hD hk => f_val (o := ⟨some 76, _, _, _, _, _⟩) (.pointer (some ⟨p, 0, none⟩)) rfl (wanted_at (b := true) true rfl rfl (hD 14 75 (by kernel_rfl))) (exec_move (.tmp 5) _ rfl (hE 5 (.pointer (some ⟨p, 0, none⟩)) (by kernel_rfl) (by kernel_rfl))) rfl) ?_
        refine fsteps_cons 17 rfl (fun a u hE hD hk => f_call (o := ⟨some 77, _, _, _, _, _⟩) 32 #[.pointer (some ⟨p, 0, none⟩), .int .i64 1] rfl (wanted_at (b := true) true rfl rfl (hD 14 75 (by kernel_rfl))) (exec_call 32 _ [.tmp 76, .const (.int .i64 1)] _ [.pointer (some ⟨p, 0, none⟩), .int .i64 1] Try.func32 (by kernel_rfl) (by kernel_rfl) rfl (show [a.eval (.tmp 76), a.eval (.const (.int .i64 1))] = [.pointer (some ⟨p, 0, none⟩), .int .i64 1] from (by rw [show a.eval (.tmp 76) = .pointer (some ⟨p, 0, none⟩) from (hD 15 76 (by kernel_rfl))] <;> rfl)) u) ((by have h := (borders_any u F7 p B 1 (HB7'.out.kept hk) HI.out).base (Nat.zero_le _); rw [HXe.out] at h; exact h))) ?_
        refine fsteps_cons 18 rfl (fun a u hE hD hk => f_val (o := ⟨some 78, _, _, _, _, _⟩) (v21) rfl (wanted_at (b := true) true rfl rfl (hD 14 75 (by kernel_rfl))) (exec_move (.tmp 6) _ rfl (hE 6 (v21) (by kernel_rfl) (by kernel_rfl))) rfl) ?_
        refine fsteps_cons 19 rfl (fun a u hE hD hk => f_call (o := ⟨some 79, _, _, _, _, _⟩) 37 #[a.eval (.tmp 77), v21] rfl (wanted_at (b := true) true rfl rfl (hD 14 75 (by kernel_rfl))) (exec_call 37 _ [.tmp 77, .tmp 78] _ [a.eval (.tmp 77), v21] Try.func37 (by kernel_rfl) (by kernel_rfl) rfl (show [a.eval (.tmp 77), a.eval (.tmp 78)] = [a.eval (.tmp 77), v21] from (by rw [show a.eval (.tmp 78) = v21 from (hD 17 78 (by kernel_rfl))] <;> rfl)) u) ((by have h := sameO_any (a.eval (.tmp 77)) v21 0 0 X X u (hD 16 77 (by kernel_rfl)).1 (HX7.out.kept hk) (by have := HXl.out; omega) (by have := HXl.out; omega); rwa [decide_eq_true rfl] at h))) ?_
        refine sv 20 rfl rfl rfl (fun a u hE hD hk => exec_pick (.tmp 75) (.tmp 79) (.const (.bool false)) (.bool true) rfl (hD 14 75 (by kernel_rfl)) (hD 18 79 (by kernel_rfl))) ?_
        refine sv 21 rfl rfl rfl (fun a u hE hD hk => exec_move (.tmp 80) _ rfl (hD 19 80 (by kernel_rfl))) ?_
        refine fsteps_cons 22 rfl (fun a u hE hD hk => f_val (o := ⟨some 82, _, _, _, _, _⟩) (.pointer (some ⟨p, 0, none⟩)) rfl (wanted_at (b := true) true rfl rfl (hD 20 81 (by kernel_rfl))) (exec_move (.tmp 5) _ rfl (hE 5 (.pointer (some ⟨p, 0, none⟩)) (by kernel_rfl) (by kernel_rfl))) rfl) ?_
        refine fsteps_cons 23 rfl (fun a u hE hD hk => f_call (o := ⟨some 83, _, _, _, _, _⟩) 32 #[.pointer (some ⟨p, 0, none⟩), .int .i64 2] rfl (wanted_at (b := true) true rfl rfl (hD 20 81 (by kernel_rfl))) (exec_call 32 _ [.tmp 82, .const (.int .i64 2)] _ [.pointer (some ⟨p, 0, none⟩), .int .i64 2] Try.func32 (by kernel_rfl) (by kernel_rfl) rfl (show [a.eval (.tmp 82), a.eval (.const (.int .i64 2))] = [.pointer (some ⟨p, 0, none⟩), .int .i64 2] from (by rw [show a.eval (.tmp 82) = .pointer (some ⟨p, 0, none⟩) from (hD 21 82 (by kernel_rfl))] <;> rfl)) u) ((by have h := (borders_any u F7 p B 2 (HB7'.out.kept hk) HI.out).base (Nat.zero_le _); rw [HYe.out] at h; exact h))) ?_
        refine fsteps_cons 24 rfl (fun a u hE hD hk => f_val (o := ⟨some 84, _, _, _, _, _⟩) (v23) rfl (wanted_at (b := true) true rfl rfl (hD 20 81 (by kernel_rfl))) (exec_move (.tmp 7) _ rfl (hE 7 (v23) (by kernel_rfl) (by kernel_rfl))) rfl) ?_
        refine fsteps_cons 25 rfl (fun a u hE hD hk => f_call (o := ⟨some 85, _, _, _, _, _⟩) 37 #[a.eval (.tmp 83), v23] rfl (wanted_at (b := true) true rfl rfl (hD 20 81 (by kernel_rfl))) (exec_call 37 _ [.tmp 83, .tmp 84] _ [a.eval (.tmp 83), v23] Try.func37 (by kernel_rfl) (by kernel_rfl) rfl (show [a.eval (.tmp 83), a.eval (.tmp 84)] = [a.eval (.tmp 83), v23] from (by rw [show a.eval (.tmp 84) = v23 from (hD 23 84 (by kernel_rfl))] <;> rfl)) u) ((by have h := sameO_any (a.eval (.tmp 83)) v23 0 0 Y Y u (hD 22 83 (by kernel_rfl)).1 (HY7.out.kept hk) (by have := HXl.out; omega) (by have := HXl.out; omega); rwa [decide_eq_true rfl] at h))) ?_
        refine sv 26 rfl rfl rfl (fun a u hE hD hk => exec_pick (.tmp 81) (.tmp 85) (.const (.bool false)) (.bool true) rfl (hD 20 81 (by kernel_rfl)) (hD 24 85 (by kernel_rfl))) ?_
        refine sv 27 rfl rfl rfl (fun a u hE hD hk => exec_move (.tmp 86) _ rfl (hD 25 86 (by kernel_rfl))) ?_
        refine fsteps_cons 28 rfl (fun a u hE hD hk => f_val (o := ⟨some 88, _, _, _, _, _⟩) (.pointer (some ⟨p, 0, none⟩)) rfl (wanted_at (b := true) true rfl rfl (hD 26 87 (by kernel_rfl))) (exec_move (.tmp 5) _ rfl (hE 5 (.pointer (some ⟨p, 0, none⟩)) (by kernel_rfl) (by kernel_rfl))) rfl) ?_
        refine fsteps_cons 29 rfl (fun a u hE hD hk => f_call (o := ⟨some 89, _, _, _, _, _⟩) 18 #[.pointer (some ⟨p, 0, none⟩)] rfl (wanted_at (b := true) true rfl rfl (hD 26 87 (by kernel_rfl))) (exec_call 18 _ [.tmp 88] _ [.pointer (some ⟨p, 0, none⟩)] Try.func18 (by kernel_rfl) (by kernel_rfl) rfl (show [a.eval (.tmp 88)] = [.pointer (some ⟨p, 0, none⟩)] from (by rw [show a.eval (.tmp 88) = .pointer (some ⟨p, 0, none⟩) from (hD 27 88 (by kernel_rfl))] <;> rfl)) u) (blast_any u F7 p B (HB7'.out.kept hk))) ?_
        refine fsteps_cons 30 rfl (fun a u hE hD hk => f_val (o := ⟨some 90, _, _, _, _, _⟩) (.int .i64 B.last) rfl (wanted_at (b := true) true rfl rfl (hD 26 87 (by kernel_rfl))) (exec_move (.tmp 8) _ rfl (hE 8 (.int .i64 B.last) (by kernel_rfl) (by kernel_rfl))) rfl) ?_
        refine fsteps_cons 31 rfl (fun a u hE hD hk => f_as (show ((decide ((B.last : Int) = (B.last : Int))) : Bool) = true from decide_eq_true rfl) (f_val (o := ⟨some 91, _, _, _, _, _⟩) (.bool (decide ((B.last : Int) = (B.last : Int)))) rfl (wanted_at (b := true) true rfl rfl (hD 26 87 (by kernel_rfl))) (exec_eqn (p := B.last) (q := B.last) rfl (hD 28 89 (by kernel_rfl)) (hD 29 90 (by kernel_rfl))) rfl)) ?_
        refine sv 32 rfl rfl rfl (fun a u hE hD hk => exec_pick (.tmp 87) (.tmp 91) (.const (.bool false)) (.bool true) rfl (hD 26 87 (by kernel_rfl)) (hD 30 91 (by kernel_rfl))) ?_
        refine sv 33 rfl rfl rfl (fun a u hE hD hk => exec_move (.tmp 92) _ rfl (hD 31 92 (by kernel_rfl))) ?_
        refine fsteps_cons 34 rfl (fun a u hE hD hk => f_val (o := ⟨some 94, _, _, _, _, _⟩) (.pointer (some ⟨p, 0, none⟩)) rfl (wanted_at (b := true) true rfl rfl (hD 32 93 (by kernel_rfl))) (exec_move (.tmp 5) _ rfl (hE 5 (.pointer (some ⟨p, 0, none⟩)) (by kernel_rfl) (by kernel_rfl))) rfl) ?_
        refine fsteps_cons 35 rfl (fun a u hE hD hk => f_call (o := ⟨some 95, _, _, _, _, _⟩) 19 #[.pointer (some ⟨p, 0, none⟩)] rfl (wanted_at (b := true) true rfl rfl (hD 32 93 (by kernel_rfl))) (exec_call 19 _ [.tmp 94] _ [.pointer (some ⟨p, 0, none⟩)] Try.func19 (by kernel_rfl) (by kernel_rfl) rfl (show [a.eval (.tmp 94)] = [.pointer (some ⟨p, 0, none⟩)] from (by rw [show a.eval (.tmp 94) = .pointer (some ⟨p, 0, none⟩) from (hD 33 94 (by kernel_rfl))] <;> rfl)) u) (bno_any u F7 p B (HB7'.out.kept hk))) ?_
        refine fsteps_cons 36 rfl (fun a u hE hD hk => f_val (o := ⟨some 96, _, _, _, _, _⟩) (.int .i64 B.no) rfl (wanted_at (b := true) true rfl rfl (hD 32 93 (by kernel_rfl))) (exec_move (.tmp 9) _ rfl (hE 9 (.int .i64 B.no) (by kernel_rfl) (by kernel_rfl))) rfl) ?_
        refine fsteps_cons 37 rfl (fun a u hE hD hk => f_as (show ((decide ((B.no : Int) = (B.no : Int))) : Bool) = true from decide_eq_true rfl) (f_val (o := ⟨some 97, _, _, _, _, _⟩) (.bool (decide ((B.no : Int) = (B.no : Int)))) rfl (wanted_at (b := true) true rfl rfl (hD 32 93 (by kernel_rfl))) (exec_eqn (p := B.no) (q := B.no) rfl (hD 34 95 (by kernel_rfl)) (hD 35 96 (by kernel_rfl))) rfl)) ?_
        refine sv 38 rfl rfl rfl (fun a u hE hD hk => exec_pick (.tmp 93) (.tmp 97) (.const (.bool false)) (.bool true) rfl (hD 32 93 (by kernel_rfl)) (hD 36 97 (by kernel_rfl))) ?_
        refine sv 39 rfl rfl rfl (fun a u hE hD hk => exec_move (.tmp 98) _ rfl (hD 37 98 (by kernel_rfl))) ?_
        refine fsteps_cons 40 rfl (fun a u hE hD hk => f_call (o := ⟨some 100, _, _, _, _, _⟩) 3 #[] rfl (wanted_at (b := true) true rfl rfl (hD 38 99 (by kernel_rfl))) (exec_call 3 _ [] _ [] Try.func3 (by kernel_rfl) (by kernel_rfl) rfl rfl u) (bruns_gives u)) ?_
        refine sv 41 rfl rfl rfl (fun a u hE hD hk => exec_pick (.tmp 99) (.tmp 100) (.const (.bool false)) (.bool true) rfl (hD 38 99 (by kernel_rfl)) (hD 39 100 (by kernel_rfl))) ?_
        exact fsteps_nil
      intro gv w8 hV k8
      rw [show dstsOf _ 41 = [61, 62, 63, 64, 65, 66, 67, 68, 69, 70, 71, 72, 73, 74, 75, 76, 77, 78, 79, 80, 81, 82, 83, 84, 85, 86, 87, 88, 89, 90, 91, 92, 93, 94, 95, 96, 97, 98, 99, 100, 101] by kernel_rfl]
      simp only [fC, fN, sA, sS, sZ, dS, dZ]
      rw [show gv 101 = .bool true from hV 40 101 (by kernel_rfl)]
      clear hV
      refine l_val (o := ⟨some 4, _, _, _, _, _⟩) (.bool true) rfl (exec_assign (.tmp 101) (.bool true) rfl (by kernel_rfl)) ?_
      simp only [Act.put, sA, sS, sZ]
      refine wpList_nil ?_
      go_wp2
      go_ret
      exact ⟨rfl, kw7.trans k8⟩
    · skip
      go_upto_region 7 with fail
      refine wp_text 9 [.eq (.pointer (some ⟨g11, 11, none⟩)), .eq (.bool true), .eq (.bool false), .eq (.bool false), .eq (.pointer (some ⟨g11, 9, none⟩)), .eq (vf), .eq (.int .i64 (x.f.length : Int)), .eq (.bool true), .eq (.bool true)] rfl (by kernel_rfl) ?_ ?_
      · refine sv 1 rfl rfl rfl (fun a u hE hD hk => exec_fldo 29 3 11 (.tmp 11) (g11) (0) (11) rfl (hE 11 (.pointer (some ⟨g11, 0, none⟩)) (by kernel_rfl) (by kernel_rfl)) (by kernel_rfl) rfl) ?_
        refine fsteps_cons 2 rfl (fun a u hE hD hk => f_as (show (x.rests : Bool) = true from hr) (f_val (o := ⟨some 34, _, _, _, _, _⟩) (.bool x.rests) rfl (wanted_none rfl _) (exec_ldb 4 Try.underlying4 (.tmp 33) ⟨g11, 11, none⟩ (.bool x.rests) rfl (hD 0 33 (by kernel_rfl)) (by rw [(HCw4.out.kept hk).cell]; rfl)) rfl)) ?_
        refine sv 3 rfl rfl rfl (fun a u hE hD hk => exec_not _ (.tmp 34) true rfl (hD 1 34 (by kernel_rfl))) ?_
        refine sv 4 rfl rfl rfl (fun a u hE hD hk => exec_move (.tmp 35) _ rfl (hD 2 35 (by kernel_rfl))) ?_
        refine fsteps_cons 5 rfl (fun a u hE hD hk => f_val (o := ⟨some 37, _, _, _, _, _⟩) (.pointer (some ⟨g11, 9, none⟩)) rfl (wanted_at (b := false) false rfl rfl (hD 3 36 (by kernel_rfl))) (exec_fldo 29 1 9 (.tmp 11) (g11) (0) (9) rfl (hE 11 (.pointer (some ⟨g11, 0, none⟩)) (by kernel_rfl) (by kernel_rfl)) (by kernel_rfl) rfl) rfl) ?_
        refine fsteps_cons 6 rfl (fun a u hE hD hk => f_val (o := ⟨some 38, _, _, _, _, _⟩) (vf) rfl (wanted_at (b := false) false rfl rfl (hD 3 36 (by kernel_rfl))) (exec_ldv 26 _ Try.underlying26 (.tmp 37) ⟨g11, 9, none⟩ (vf) rfl (hD 4 37 (by kernel_rfl)) (by rw [(HCw4.out.kept hk).cell]; rfl)) rfl) ?_
        refine fsteps_cons 7 rfl (fun a u hE hD hk => f_val (o := ⟨some 39, _, _, _, _, _⟩) (.int .i64 (x.f.length : Int)) rfl (wanted_at (b := false) false rfl rfl (hD 3 36 (by kernel_rfl))) (exec_lenS (.tmp 38) slF (vf) (x.f.length) _ _ rfl (hD 5 38 (by kernel_rfl)) HSw4.out) rfl) ?_
        refine fsteps_cons 8 rfl (fun a u hE hD hk => f_as (show ((decide ((0 : Int) < ((x.f.length : Int) : Int))) : Bool) = true from decide_eq_true (by omega)) (f_val (o := ⟨some 40, _, _, _, _, _⟩) (.bool (decide ((0 : Int) < ((x.f.length : Int) : Int)))) rfl (wanted_at (b := false) false rfl rfl (hD 3 36 (by kernel_rfl))) (exec_gtn (p := (x.f.length : Int)) (q := 0) rfl (hD 6 39 (by kernel_rfl)) rfl) rfl)) ?_
        refine sv 9 rfl rfl rfl (fun a u hE hD hk => exec_pickF (.tmp 36) (.const (.bool true)) (.tmp 40) (.bool true) rfl (hD 3 36 (by kernel_rfl)) (hD 7 40 (by kernel_rfl))) ?_
        exact fsteps_nil
      intro gv w5 hV k5
      rw [show dstsOf _ 9 = [33, 34, 35, 36, 37, 38, 39, 40, 41] by kernel_rfl]
      simp only [fC, fN, sA, sS, sZ, dS, dZ]
      rw [show gv 41 = .bool true from hV 8 41 (by kernel_rfl)]
      clear hV
      refine wpList_nil ?_
      go_upto_region 8 with fail
      refine wp_text 1 [.eq (.bool true)] rfl (by kernel_rfl) ?_ ?_
      · refine fsteps_cons 1 rfl (fun a u hE hD hk => f_call (o := ⟨some 42, _, _, _, _, _⟩) 3 #[] rfl (wanted_none rfl _) (exec_call 3 _ [] _ [] Try.func3 (by kernel_rfl) (by kernel_rfl) rfl rfl u) (bruns_gives u)) ?_
        exact fsteps_nil
      intro gv w6 hV k6
      rw [show dstsOf _ 1 = [42] by kernel_rfl]
      simp only [fC, fN, sA, sS, sZ, dS, dZ]
      rw [show gv 42 = .bool true from hV 0 42 (by kernel_rfl)]
      clear hV
      refine l_val (o := ⟨some 4, _, _, _, _, _⟩) (.bool true) rfl (exec_assign (.tmp 42) (.bool true) rfl (by kernel_rfl)) ?_
      simp only [Act.put, sA, sS, sZ]
      refine wpList_nil ?_
      go_wp2
      go_ret
      exact ⟨rfl, (kw4.trans k5).trans k6⟩
  · skip
    have hr0 : x.rests = false := by simpa using hr
    go_upto_region 7 with fail
    refine wp_text 9 [.eq (.pointer (some ⟨g11, 11, none⟩)), .eq (.bool false), .eq (.bool true), .eq (.bool true), .eq undef, .eq undef, .eq undef, .eq undef, .eq (.bool true)] rfl (by kernel_rfl) ?_ ?_
    · refine sv 1 rfl rfl rfl (fun a u hE hD hk => exec_fldo 29 3 11 (.tmp 11) (g11) (0) (11) rfl (hE 11 (.pointer (some ⟨g11, 0, none⟩)) (by kernel_rfl) (by kernel_rfl)) (by kernel_rfl) rfl) ?_
      refine fsteps_cons 2 rfl (fun a u hE hD hk => f_as (show (x.rests : Bool) = false from hr0) (f_val (o := ⟨some 34, _, _, _, _, _⟩) (.bool x.rests) rfl (wanted_none rfl _) (exec_ldb 4 Try.underlying4 (.tmp 33) ⟨g11, 11, none⟩ (.bool x.rests) rfl (hD 0 33 (by kernel_rfl)) (by rw [(HCw4.out.kept hk).cell]; rfl)) rfl)) ?_
      refine sv 3 rfl rfl rfl (fun a u hE hD hk => exec_not _ (.tmp 34) false rfl (hD 1 34 (by kernel_rfl))) ?_
      refine sv 4 rfl rfl rfl (fun a u hE hD hk => exec_move (.tmp 35) _ rfl (hD 2 35 (by kernel_rfl))) ?_
      refine fsteps_cons 5 rfl (fun a u hE hD hk => f_skip (o := ⟨some 37, _, _, _, _, _⟩) rfl (wanted_at (b := false) true rfl rfl (hD 3 36 (by kernel_rfl))) rfl) ?_
      refine fsteps_cons 6 rfl (fun a u hE hD hk => f_skip (o := ⟨some 38, _, _, _, _, _⟩) rfl (wanted_at (b := false) true rfl rfl (hD 3 36 (by kernel_rfl))) rfl) ?_
      refine fsteps_cons 7 rfl (fun a u hE hD hk => f_skip (o := ⟨some 39, _, _, _, _, _⟩) rfl (wanted_at (b := false) true rfl rfl (hD 3 36 (by kernel_rfl))) rfl) ?_
      refine fsteps_cons 8 rfl (fun a u hE hD hk => f_skip (o := ⟨some 40, _, _, _, _, _⟩) rfl (wanted_at (b := false) true rfl rfl (hD 3 36 (by kernel_rfl))) rfl) ?_
      refine sv 9 rfl rfl rfl (fun a u hE hD hk => exec_pick (.tmp 36) (.const (.bool true)) (.tmp 40) (.bool true) rfl (hD 3 36 (by kernel_rfl)) rfl) ?_
      exact fsteps_nil
    intro gv w5 hV k5
    rw [show dstsOf _ 9 = [33, 34, 35, 36, 37, 38, 39, 40, 41] by kernel_rfl]
    simp only [fC, fN, sA, sS, sZ, dS, dZ]
    rw [show gv 41 = .bool true from hV 8 41 (by kernel_rfl)]
    clear hV
    refine wpList_nil ?_
    go_upto_region 8 with fail
    refine wp_text 1 [.eq (.bool true)] rfl (by kernel_rfl) ?_ ?_
    · refine fsteps_cons 1 rfl (fun a u hE hD hk => f_call (o := ⟨some 42, _, _, _, _, _⟩) 3 #[] rfl (wanted_none rfl _) (exec_call 3 _ [] _ [] Try.func3 (by kernel_rfl) (by kernel_rfl) rfl rfl u) (bruns_gives u)) ?_
      exact fsteps_nil
    intro gv w6 hV k6
    rw [show dstsOf _ 1 = [42] by kernel_rfl]
    simp only [fC, fN, sA, sS, sZ, dS, dZ]
    rw [show gv 42 = .bool true from hV 0 42 (by kernel_rfl)]
    clear hV
    refine l_val (o := ⟨some 4, _, _, _, _, _⟩) (.bool true) rfl (exec_assign (.tmp 42) (.bool true) rfl (by kernel_rfl)) ?_
    simp only [Act.put, sA, sS, sZ]
    refine wpList_nil ?_
    go_wp2
    go_ret
    exact ⟨rfl, (kw4.trans k5).trans k6⟩
end Go.Proofs.Ytfpfpmhkkgfdbaa
