/-
  BookKinds answers true: what each kind of order does and never does. No condition.
-/
import Derived.Test.YtfpfpmhkkgfdbaaQ05
import Derived.Test.YtfpfpmhkkgfdbaaMFill10
import Derived.Test.YtfpfpmhkkgfdbaaMRuns10
import Derived.Test.YtfpfpmhkkgfdbaaMKindsM10
set_option linter.unusedVariables false
namespace Go.Proofs.Ytfpfpmhkkgfdbaa
open Go.RowKit
set_option maxRecDepth 100000
set_option maxRecDepth 100000 in
set_option maxHeartbeats 3200000 in
theorem bookKinds_any (v : Value) (l : List Kq) (q : Kq) (w : World) (hl : Kqs w v l) : Calls Try.prog 8 #[v, q.v] w fun e w' => e = .returned (.bool true) ∧ Kept w w' := by
  obtain ⟨o, ho⟩ : ∃ o, q.o = o := ⟨_, rfl⟩
  have HKO : Hid (o.right = true ∧ o.stop = 0 ∧ o.qty ≤ 12) := by rw [← ho]; exact q.right
  have HGO : Hid (∀ u, Gives 22 #[q.v] u (.eq o.v)) := fun u => by rw [← ho]; exact korder_any q u
  clear ho
  go_enter Try.func8, Try.ntmps8
  go_upto_region 0 with fail
  refine wp_text 1 [.fresh w.heap.size 48 (q.cells)] rfl (by kernel_rfl) ?_ ?_
  · refine fsteps_cons 1 rfl (fun a u hE hD hk => f_new (o := ⟨some 3, _, _, _, _, _⟩) (.pointer (some ⟨u.heap.size, 0, none⟩)) _ rfl (wanted_none rfl _) (exec_box 48 (.tmp 1) (q.cells) rfl (hE 1 (q.v) (by kernel_rfl) (by kernel_rfl))) ⟨_, rfl, hk.size, Blk.new u _ _⟩ ((Keep.refl _ u).alloc _)) ?_
    exact fsteps_nil
  intro gv w0 hV k0
  rw [show dstsOf _ 1 = [3] by kernel_rfl]
  simp only [fC, fN, sA, sS, sZ, dS, dZ]
  have hv3 : (.fresh w.heap.size 48 (q.cells) : Kn).p (gv 3) w0 := hV 0 3 (by kernel_rfl)
  generalize gv 3 = v3 at hv3 ⊢
  clear hV
  obtain ⟨g3, rfl, hg3, hQ⟩ := hv3
  refine l_val (o := ⟨some 4, _, _, _, _, _⟩) (.bool false) rfl (exec_assign (.const (.bool false)) (.bool false) rfl (by kernel_rfl)) ?_
  simp only [Act.put, sA, sS, sZ]
  refine wpList_nil ?_
  have HQ0 := Lib.hid (blk_range hQ)
  have lq := hQ.lt
  have z0 := k0.size
  have hl0 := hl.kept k0
  clear hQ hl
  go_upto_region 1 with fail
  refine wp_region_lit ?_
  refine l_val (o := ⟨some 10, _, _, _, _, _⟩) (v) rfl (exec_move (.tmp 0) (v) rfl (by kernel_rfl)) ?_
  simp only [Act.put, sA, sS, sZ]
  refine l_call (o := ⟨some 11, _, _, _, _, _⟩) 31 #[v, .int .i64 40] rfl (exec_call 31 _ [.tmp 10, .const (.int .i64 40)] _ _ Try.func31 (by kernel_rfl) (by kernel_rfl) rfl (by kernel_rfl) _) ?_
  refine (bfilled_any v l 40 w0 hl0 (by omega)).mono ?_
  rintro r w1 ⟨p, F, rfl, hB1, hG1, k1⟩
  refine ⟨_, rfl, ?_⟩
  simp only [Act.put, sA, sS, sZ]
  refine l_val (o := ⟨some 5, _, _, _, _, _⟩) (.pointer (some ⟨p, 0, none⟩)) rfl (exec_assign (.tmp 11) (.pointer (some ⟨p, 0, none⟩)) rfl (by kernel_rfl)) ?_
  simp only [Act.put, sA, sS, sZ]
  refine wpList_nil ?_
  have hI := fillB_inv (l.take 40)
  have HNo : Hid ((fillB (l.take 40)).no ≤ 1000000000000) := by
    have h1 := hI.2
    have h2 : (l.take 40).length ≤ 40 := by rw [List.length_take]; omega
    show _ ≤ _
    omega
  have HI := Lib.hid hI.1
  clear hI
  generalize fillB (l.take 40) = B at HI hB1 HNo
  have HB1 := Lib.hid hB1
  have HFg : Hid (∀ b, F b → w0.heap.size ≤ b) := fun b hb => (hG1 b hb).elim (fun h => h.elim) id
  have HQ1 := Lib.hid (range_kept HQ0.out k1)
  have kw1 := k0.trans k1
  have z1 := k1.size
  clear hB1 hG1 hl0 HQ0 k0 k1
  go_upto_region 4 with fail
  refine wp_text 3 [.eq (q.v), .eq (o.v), .fresh w1.heap.size 25 zeroO.cells] rfl (by kernel_rfl) ?_ ?_
  · refine sv 1 rfl rfl rfl (fun a u hE hD hk => exec_ldS 48 _ (.tmp 3) (g3) (0) (q.cells) rfl (hE 3 (.pointer (some ⟨g3, 0, none⟩)) (by kernel_rfl) (by kernel_rfl)) (range_kept HQ1.out hk) Try.underlying48 (by rw [q.len7]; exact szK)) ?_
    refine fsteps_cons 2 rfl (fun a u hE hD hk => f_call (o := ⟨some 15, _, _, _, _, _⟩) 22 #[q.v] rfl (wanted_none rfl _) (exec_call 22 _ [.tmp 14] _ [q.v] Try.func22 (by kernel_rfl) (by kernel_rfl) rfl (show [a.eval (.tmp 14)] = [q.v] from (by rw [show a.eval (.tmp 14) = q.v from (hD 0 14 (by kernel_rfl))] <;> rfl)) u) (HGO.out u)) ?_
    refine fsteps_cons 3 rfl (fun a u hE hD hk => f_new (o := ⟨some 6, _, _, _, _, _⟩) (.pointer (some ⟨u.heap.size, 0, none⟩)) _ rfl (wanted_none rfl _) (exec_alc 25 zeroO.cells rfl zO) ⟨_, rfl, hk.size, Blk.new u _ _⟩ ((Keep.refl _ u).alloc _)) ?_
    exact fsteps_nil
  intro gv w2a hV kw2a
  rw [show dstsOf _ 3 = [14, 15, 6] by kernel_rfl]
  simp only [fC, fN, sA, sS, sZ, dS, dZ]
  have hv6 : (.fresh w1.heap.size 25 zeroO.cells : Kn).p (gv 6) w2a := hV 2 6 (by kernel_rfl)
  generalize gv 6 = v6 at hv6 ⊢
  rw [show gv 15 = o.v from hV 1 15 (by kernel_rfl)]
  clear hV
  obtain ⟨g6, rfl, hg6, hBn⟩ := hv6
  refine l_setS (o := ⟨none, _, _, _, _, _⟩) 25 g6 25 zeroO.cells o.cells (.tmp 6) (.tmp 15) rfl rfl (by kernel_rfl) (by kernel_rfl) hBn (by rw [Ord.len9]; exact ord_size) (by rw [Ord.len9, Ord.len9]) (Ord.one1 _) ?_
  intro w2 hBo hkn hsn
  simp only [Act.put]
  refine wpList_nil ?_
  have kw2 : Kept w1 w2 := kw2a.trans' hkn (by omega)
  have HOw2 := Lib.hid (blk_range hBo)
  have lo6 := hBo.lt
  have zw2 := kw2.size
  clear hBn hBo hkn hsn kw2a
  have HB2 := Lib.hid (HB1.out.kept kw2)
  have HFl := Lib.hid HB1.out.lt
  have kw2' := kw1.trans kw2
  obtain ⟨x, hx⟩ : ∃ x, (B.add o).1 = x := ⟨_, rfl⟩
  obtain ⟨B', hB'⟩ : ∃ B', (B.add o).2 = B' := ⟨_, rfl⟩
  have HAx : Hid (B.add o = (x, B')) := by rw [← hx, ← hB']; exact rfl
  clear hx hB'
  go_upto_region 5 with fail
  refine wp_text 2 [.eq (.pointer (some ⟨p, 0, none⟩)), .eq (o.v)] rfl (by kernel_rfl) ?_ ?_
  · refine sv 1 rfl rfl rfl (fun a u hE hD hk => exec_move (.tmp 5) _ rfl (hE 5 (.pointer (some ⟨p, 0, none⟩)) (by kernel_rfl) (by kernel_rfl))) ?_
    refine sv 2 rfl rfl rfl (fun a u hE hD hk => exec_ldS 25 _ (.tmp 6) (g6) (0) (o.cells) rfl (hE 6 (.pointer (some ⟨g6, 0, none⟩)) (by kernel_rfl) (by kernel_rfl)) (range_kept HOw2.out hk) Try.underlying25 (by rw [o.len9]; exact ord_size)) ?_
    exact fsteps_nil
  intro gv w3a hV kw3a
  rw [show dstsOf _ 2 = [16, 17] by kernel_rfl]
  simp only [fC, fN, sA, sS, sZ, dS, dZ]
  rw [show gv 16 = .pointer (some ⟨p, 0, none⟩) from hV 0 16 (by kernel_rfl)]
  rw [show gv 17 = o.v from hV 1 17 (by kernel_rfl)]
  clear hV
  refine l_call (o := ⟨some 18, _, _, _, _, _⟩) 15 #[.pointer (some ⟨p, 0, none⟩), o.v] rfl (exec_call 15 _ [.tmp 16, .tmp 17] _ _ Try.func15 (by kernel_rfl) (by kernel_rfl) rfl (by kernel_rfl) _) ?_
  refine (badd_at w3a F p B o _ HAx.out (HB2.out.kept kw3a) HI.out HNo.out).mono ?_
  rintro r w3b ⟨F3, vf, rfl, hBb, hSb, hOb, hGb, hkb⟩
  refine ⟨_, rfl, ?_⟩
  simp only [Act.put, sA, sS, sZ]
  refine l_new (o := ⟨some 7, _, _, _, _, _⟩) (.pointer (some ⟨w3b.heap.size, 0, none⟩)) (w3b.alloc (.cells (zeroC.cells (.slice none 0 0)).toArray 29)) rfl (exec_alc 29 (zeroC.cells (.slice none 0 0)) rfl zC) ?_
  have hNw3c := Blk.new w3b 29 (zeroC.cells (.slice none 0 0))
  have kw3c : Kept w3b (w3b.alloc (.cells (zeroC.cells (.slice none 0 0)).toArray 29)) := (Keep.refl _ w3b).alloc _
  generalize w3b.alloc (.cells (zeroC.cells (.slice none 0 0)).toArray 29) = w3c at hNw3c kw3c ⊢
  simp only [Act.put, sA, sS, sZ]
  refine l_setS (o := ⟨none, _, _, _, _, _⟩) 29 w3b.heap.size 29 (zeroC.cells (.slice none 0 0)) (x.cells vf) (.tmp 7) (.tmp 18) rfl rfl (by kernel_rfl) (by kernel_rfl) (hNw3c) (by rw [Oc.len15]; exact szC) (by rw [Oc.len15, Oc.len15]) (Oc.one _ _ (sl_onec hSb)) ?_
  intro w3 hCw3 hkw3 hsw3
  simp only [Act.put]
  refine wpList_nil ?_
  obtain ⟨Kw3, hBw3, hSw3, hOw3, hGw3, hFw3, zw3b⟩ := add_frame kw3a hBb hSb hOb hGb hkb kw3c hkw3
  obtain ⟨g7, hg7⟩ : ∃ a, w3b.heap.size = a := ⟨_, rfl⟩
  rw [hg7] at hCw3 hOw3 hFw3 zw3b ⊢
  have l7 := hCw3.lt
  have zw3 := Kw3.size
  have HBw3 := Lib.hid hBw3
  have HSw3 := Lib.hid hSw3
  have HCw3 := Lib.hid hCw3
  have HOww3 := Lib.hid hOw3
  have HGw3 := Lib.hid hGw3
  have HFw3 := Lib.hid hFw3
  clear hBb hSb hOb hGb hkb hNw3c hkw3 hsw3 hBw3 hSw3 hCw3 hOw3 hGw3 hFw3 kw3a kw3c hg7
  have HO3 : Hid (w3.rangeAt g6 0 o.cells) := range_keep HOw2.out Kw3 (fun h => by have := HFl.out _ h; omega)
  have kw3 : Kept w w3 := Keep.trans kw2' Kw3 (fun b hb h => by have := HFg.out b h; omega)
  have hI' : Inv B' := by have := (inv_add (o := o) HI.out).1; rw [HAx.out] at this; exact this
  have HI' := Lib.hid hI'
  have HK2 : Hid (o.k = 2 ∨ o.k = 3 → x.rests = false ∧ (x.err = 0 ∨ x.err = 5)) := fun h => by have := kinds_take HI.out HKO.out.1 HKO.out.2.1 h; rw [HAx.out] at this; exact this
  have HK4 : Hid (o.k = 4 → x.rests = false ∧ (x.err = 0 ∧ x.left = 0 ∨ x.err ≠ 0 ∧ x.f = [])) := fun h => by have := kinds_fok HI.out h; rw [HAx.out] at this; exact this
  have HK5 : Hid (o.k = 5 → x.f = [] ∧ (x.err = 0 ∧ x.rests = true ∨ x.err ≠ 0 ∧ x.rests = false)) := fun h => by have := kinds_post HI.out h; rw [HAx.out] at this; exact this
  obtain ⟨fo, hfo⟩ : ∃ y, (B'.find o.tr o.id).1 = y := ⟨_, rfl⟩
  obtain ⟨ft, hft⟩ : ∃ y, (B'.find o.tr o.id).2 = y := ⟨_, rfl⟩
  have HK1 : Hid (o.k = 1 → (x.rests = true → ft = true) ∧ (x.rests = true ∨ x.err ≠ 0 ∨ x.left = 0 ∨ x.self = true)) := fun h => by have := kinds_limit HI.out h; rw [HAx.out, hft] at this; exact this
  have HFi : Hid (∀ u, Bk u F3 p B' → Gives 28 #[.pointer (some ⟨p, 0, none⟩), .int .i64 o.tr, .int .i64 o.id] u (.eq (.tuple #[fo.v, .bool ft]))) := fun u hu => by have := bfind_any u F3 p B' o.tr o.id hu HI'.out; rwa [hfo, hft] at this
  have hk15 : 1 ≤ o.k ∧ o.k ≤ 5 := by have := (right_iff o).1 HKO.out.1; omega
  clear hI' hfo hft HB1 HB2 HOw2 Kw3 kw2' kw1 kw2 HQ1
  go_upto_region 6 with fail
  refine wp_text 10 [.eq (.pointer (some ⟨p, 0, none⟩)), .eq (.pointer (some ⟨g6, 0, none⟩)), .eq (.int .i64 o.tr), .eq (.pointer (some ⟨g6, 1, none⟩)), .eq (.int .i64 o.id), .eq (.tuple #[fo.v, .bool ft]), .eq (.tuple #[fo.v, .bool ft]), .eq (fo.v), .eq (.bool ft), .fresh w3.heap.size 25 zeroO.cells] rfl (by kernel_rfl) ?_ ?_
  · refine sv 1 rfl rfl rfl (fun a u hE hD hk => exec_move (.tmp 5) _ rfl (hE 5 (.pointer (some ⟨p, 0, none⟩)) (by kernel_rfl) (by kernel_rfl))) ?_
    refine sv 2 rfl rfl rfl (fun a u hE hD hk => exec_fldo 25 0 0 (.tmp 6) (g6) (0) (0) rfl (hE 6 (.pointer (some ⟨g6, 0, none⟩)) (by kernel_rfl) (by kernel_rfl)) (by kernel_rfl) rfl) ?_
    refine sv 3 rfl rfl rfl (fun a u hE hD hk => exec_loadi 3 Try.underlying3 (.tmp 21) ⟨g6, 0, none⟩ (.int .i64 o.tr) rfl (hD 1 21 (by kernel_rfl)) (range_int (range_kept HO3.out hk) 0 _ rfl)) ?_
    refine sv 4 rfl rfl rfl (fun a u hE hD hk => exec_fldo 25 1 1 (.tmp 6) (g6) (0) (1) rfl (hE 6 (.pointer (some ⟨g6, 0, none⟩)) (by kernel_rfl) (by kernel_rfl)) (by kernel_rfl) rfl) ?_
    refine sv 5 rfl rfl rfl (fun a u hE hD hk => exec_loadi 3 Try.underlying3 (.tmp 23) ⟨g6, 1, none⟩ (.int .i64 o.id) rfl (hD 3 23 (by kernel_rfl)) (range_int (range_kept HO3.out hk) 1 _ rfl)) ?_
    refine fsteps_cons 6 rfl (fun a u hE hD hk => f_call (o := ⟨some 25, _, _, _, _, _⟩) 28 #[.pointer (some ⟨p, 0, none⟩), .int .i64 o.tr, .int .i64 o.id] rfl (wanted_none rfl _) (exec_call 28 _ [.tmp 20, .tmp 22, .tmp 24] _ [.pointer (some ⟨p, 0, none⟩), .int .i64 o.tr, .int .i64 o.id] Try.func28 (by kernel_rfl) (by kernel_rfl) rfl (show [a.eval (.tmp 20), a.eval (.tmp 22), a.eval (.tmp 24)] = [.pointer (some ⟨p, 0, none⟩), .int .i64 o.tr, .int .i64 o.id] from (by rw [show a.eval (.tmp 20) = .pointer (some ⟨p, 0, none⟩) from (hD 0 20 (by kernel_rfl)), show a.eval (.tmp 22) = .int .i64 o.tr from (hD 2 22 (by kernel_rfl)), show a.eval (.tmp 24) = .int .i64 o.id from (hD 4 24 (by kernel_rfl))] <;> rfl)) u) (HFi.out u (HBw3.out.kept hk))) ?_
    refine sv 7 rfl rfl rfl (fun a u hE hD hk => exec_move (.tmp 25) _ rfl (hD 5 25 (by kernel_rfl))) ?_
    refine sv 8 rfl rfl rfl (fun a u hE hD hk => exec_extract (.tmp 19) [fo.v, .bool ft] 0 (fo.v) rfl (hD 6 19 (by kernel_rfl)) rfl) ?_
    refine sv 9 rfl rfl rfl (fun a u hE hD hk => exec_extract (.tmp 19) [fo.v, .bool ft] 1 (.bool ft) rfl (hD 6 19 (by kernel_rfl)) rfl) ?_
    refine fsteps_cons 10 rfl (fun a u hE hD hk => f_new (o := ⟨some 8, _, _, _, _, _⟩) (.pointer (some ⟨u.heap.size, 0, none⟩)) _ rfl (wanted_none rfl _) (exec_alc 25 zeroO.cells rfl zO) ⟨_, rfl, hk.size, Blk.new u _ _⟩ ((Keep.refl _ u).alloc _)) ?_
    exact fsteps_nil
  intro gv w4a hV k4a
  rw [show dstsOf _ 10 = [20, 21, 22, 23, 24, 25, 19, 26, 27, 8] by kernel_rfl]
  simp only [fC, fN, sA, sS, sZ, dS, dZ]
  have hv8 : (.fresh w3.heap.size 25 zeroO.cells : Kn).p (gv 8) w4a := hV 9 8 (by kernel_rfl)
  generalize gv 8 = v8 at hv8 ⊢
  rw [show gv 26 = fo.v from hV 7 26 (by kernel_rfl)]
  rw [show gv 27 = .bool ft from hV 8 27 (by kernel_rfl)]
  clear hV
  obtain ⟨g8, rfl, hg8, hB8⟩ := hv8
  refine l_setS (o := ⟨none, _, _, _, _, _⟩) 25 g8 25 zeroO.cells fo.cells (.tmp 8) (.tmp 26) rfl rfl (by kernel_rfl) (by kernel_rfl) hB8 (by rw [Ord.len9]; exact ord_size) (by rw [Ord.len9, Ord.len9]) (Ord.one1 _) ?_
  intro w4 hB4 hk4 hs4
  simp only [Act.put]
  refine l_val (o := ⟨some 9, _, _, _, _, _⟩) (.bool ft) rfl (exec_assign (.tmp 27) (.bool ft) rfl (by kernel_rfl)) ?_
  simp only [Act.put, sA, sS, sZ]
  refine wpList_nil ?_
  have k4 : Kept w3 w4 := k4a.trans' hk4 (by omega)
  have HO4 := Lib.hid (range_kept HO3.out k4)
  have HC4 := Lib.hid (HCw3.out.kept k4)
  have HS4 := Lib.hid (HSw3.out.kept k4)
  have kw4 := kw3.trans k4
  clear hB8 hB4 hk4 hs4 k4a k4 HO3 HCw3 HSw3 kw3 HFi
  go_upto_region 7 with fail
  refine wp_text 2 [.eq (.pointer (some ⟨g6, 4, none⟩)), .eq (.int .i64 o.k)] rfl (by kernel_rfl) ?_ ?_
  · refine sv 1 rfl rfl rfl (fun a u hE hD hk => exec_fldo 25 4 4 (.tmp 6) (g6) (0) (4) rfl (hE 6 (.pointer (some ⟨g6, 0, none⟩)) (by kernel_rfl) (by kernel_rfl)) (by kernel_rfl) rfl) ?_
    refine sv 2 rfl rfl rfl (fun a u hE hD hk => exec_loadi 3 Try.underlying3 (.tmp 28) ⟨g6, 4, none⟩ (.int .i64 o.k) rfl (hD 0 28 (by kernel_rfl)) (range_int (range_kept HO4.out hk) 4 _ rfl)) ?_
    exact fsteps_nil
  intro gv w5 hV k5
  rw [show dstsOf _ 2 = [28, 29] by kernel_rfl]
  simp only [fC, fN, sA, sS, sZ, dS, dZ]
  rw [show gv 29 = .int .i64 o.k from hV 1 29 (by kernel_rfl)]
  clear hV
  refine wpList_nil ?_
  have HC5 := Lib.hid (HC4.out.kept k5)
  have HS5 := Lib.hid (HS4.out.kept k5)
  have kw5 := kw4.trans k5
  clear HC4 HS4 kw4 k5 HO4
  have hnl : 0 ≤ x.f.length := Nat.zero_le _
  by_cases h2 : o.k = 2
  · skip
    go_upto_region 8 with fail
    refine wp_text 2 [.eq (.bool true), .eq (.bool true)] rfl (by kernel_rfl) ?_ ?_
    · refine fsteps_cons 1 rfl (fun a u hE hD hk => f_as (show ((decide ((o.k : Int) = (2 : Int))) : Bool) = true from decide_eq_true h2) (f_val (o := ⟨some 31, _, _, _, _, _⟩) (.bool (decide ((o.k : Int) = (2 : Int)))) rfl (wanted_none rfl _) (exec_eqn (p := o.k) (q := 2) rfl (hE 29 (.int .i64 o.k) (by kernel_rfl) (by kernel_rfl)) rfl) rfl)) ?_
      refine sv 2 rfl rfl rfl (fun a u hE hD hk => exec_assign (.tmp 31) _ rfl (hD 0 31 (by kernel_rfl))) ?_
      exact fsteps_nil
    intro gv w6 hV k6
    rw [show dstsOf _ 2 = [31, 30] by kernel_rfl]
    simp only [fC, fN, sA, sS, sZ, dS, dZ]
    rw [show gv 30 = .bool true from hV 1 30 (by kernel_rfl)]
    clear hV
    refine wpList_nil ?_
    have HC6 := Lib.hid (HC5.out.kept k6)
    have HS6 := Lib.hid (HS5.out.kept k6)
    have kw6 := kw5.trans k6
    clear HC5 HS5 kw5 k6
    have hx1 := (HK2.out (.inl h2)).1
    have hx2 := (HK2.out (.inl h2)).2
    by_cases he : x.err = 0
    · skip
      go_upto_region 10 with fail
      refine wp_text 16 [.eq (.pointer (some ⟨g7, 11, none⟩)), .eq (.bool false), .eq (.bool true), .eq (.bool true), .eq (.pointer (some ⟨g7, 14, none⟩)), .eq (.int .i64 x.err), .eq (.bool true), .eq (.bool true), .eq undef, .eq undef, .eq undef, .eq (.bool true), .eq (.bool true), .eq (.bool true), .eq (.bool true), .eq (.bool true)] rfl (by kernel_rfl) ?_ ?_
      · refine sv 1 rfl rfl rfl (fun a u hE hD hk => exec_fldo 29 3 11 (.tmp 7) (g7) (0) (11) rfl (hE 7 (.pointer (some ⟨g7, 0, none⟩)) (by kernel_rfl) (by kernel_rfl)) (by kernel_rfl) rfl) ?_
        refine fsteps_cons 2 rfl (fun a u hE hD hk => f_as (show (x.rests : Bool) = false from hx1) (f_val (o := ⟨some 34, _, _, _, _, _⟩) (.bool x.rests) rfl (wanted_none rfl _) (exec_ldb 4 Try.underlying4 (.tmp 33) ⟨g7, 11, none⟩ (.bool x.rests) rfl (hD 0 33 (by kernel_rfl)) (by rw [(HC6.out.kept hk).cell]; rfl)) rfl)) ?_
        refine sv 3 rfl rfl rfl (fun a u hE hD hk => exec_not _ (.tmp 34) false rfl (hD 1 34 (by kernel_rfl))) ?_
        refine sv 4 rfl rfl rfl (fun a u hE hD hk => exec_move (.tmp 35) _ rfl (hD 2 35 (by kernel_rfl))) ?_
        refine fsteps_cons 5 rfl (fun a u hE hD hk => f_val (o := ⟨some 37, _, _, _, _, _⟩) (.pointer (some ⟨g7, 14, none⟩)) rfl (wanted_at (b := true) true rfl rfl (hD 3 36 (by kernel_rfl))) (exec_fldo 29 6 14 (.tmp 7) (g7) (0) (14) rfl (hE 7 (.pointer (some ⟨g7, 0, none⟩)) (by kernel_rfl) (by kernel_rfl)) (by kernel_rfl) rfl) rfl) ?_
        refine fsteps_cons 6 rfl (fun a u hE hD hk => f_val (o := ⟨some 38, _, _, _, _, _⟩) (.int .i64 x.err) rfl (wanted_at (b := true) true rfl rfl (hD 3 36 (by kernel_rfl))) (exec_loadi 27 Try.underlying27 (.tmp 37) ⟨g7, 14, none⟩ (.int .i64 x.err) rfl (hD 4 37 (by kernel_rfl)) (by rw [(HC6.out.kept hk).cell]; rfl)) rfl) ?_
        refine fsteps_cons 7 rfl (fun a u hE hD hk => f_as (show ((decide ((x.err : Int) = (0 : Int))) : Bool) = true from decide_eq_true he) (f_val (o := ⟨some 39, _, _, _, _, _⟩) (.bool (decide ((x.err : Int) = (0 : Int)))) rfl (wanted_at (b := true) true rfl rfl (hD 3 36 (by kernel_rfl))) (exec_eqn (p := x.err) (q := 0) rfl (hD 5 38 (by kernel_rfl)) rfl) rfl)) ?_
        refine fsteps_cons 8 rfl (fun a u hE hD hk => f_val (o := ⟨some 40, _, _, _, _, _⟩) (.bool true) rfl (wanted_at (b := true) true rfl rfl (hD 3 36 (by kernel_rfl))) (exec_move (.tmp 39) _ rfl (hD 6 39 (by kernel_rfl))) rfl) ?_
        refine fsteps_cons 9 rfl (fun a u hE hD hk => f_skip (o := ⟨some 41, _, _, _, _, _⟩) rfl (wanted_at (b := false) true rfl rfl (hD 7 40 (by kernel_rfl))) rfl) ?_
        refine fsteps_cons 10 rfl (fun a u hE hD hk => f_skip (o := ⟨some 42, _, _, _, _, _⟩) rfl (wanted_at (b := false) true rfl rfl (hD 7 40 (by kernel_rfl))) rfl) ?_
        refine fsteps_cons 11 rfl (fun a u hE hD hk => f_skip (o := ⟨some 43, _, _, _, _, _⟩) rfl (wanted_at (b := false) true rfl rfl (hD 7 40 (by kernel_rfl))) rfl) ?_
        refine fsteps_cons 12 rfl (fun a u hE hD hk => f_val (o := ⟨some 44, _, _, _, _, _⟩) (.bool true) rfl (wanted_at (b := true) true rfl rfl (hD 3 36 (by kernel_rfl))) (exec_pick (.tmp 40) (.const (.bool true)) (.tmp 43) (.bool true) rfl (hD 7 40 (by kernel_rfl)) rfl) rfl) ?_
        refine sv 13 rfl rfl rfl (fun a u hE hD hk => exec_pick (.tmp 36) (.tmp 44) (.const (.bool false)) (.bool true) rfl (hD 3 36 (by kernel_rfl)) (hD 11 44 (by kernel_rfl))) ?_
        refine sv 14 rfl rfl rfl (fun a u hE hD hk => exec_move (.tmp 45) _ rfl (hD 12 45 (by kernel_rfl))) ?_
        refine fsteps_cons 15 rfl (fun a u hE hD hk => f_call (o := ⟨some 47, _, _, _, _, _⟩) 3 #[] rfl (wanted_at (b := true) true rfl rfl (hD 13 46 (by kernel_rfl))) (exec_call 3 _ [] _ [] Try.func3 (by kernel_rfl) (by kernel_rfl) rfl rfl u) (bruns_gives u)) ?_
        refine sv 16 rfl rfl rfl (fun a u hE hD hk => exec_pick (.tmp 46) (.tmp 47) (.const (.bool false)) (.bool true) rfl (hD 13 46 (by kernel_rfl)) (hD 14 47 (by kernel_rfl))) ?_
        exact fsteps_nil
      intro gv wz hV kz
      rw [show dstsOf _ 16 = [33, 34, 35, 36, 37, 38, 39, 40, 41, 42, 43, 44, 45, 46, 47, 48] by kernel_rfl]
      simp only [fC, fN, sA, sS, sZ, dS, dZ]
      rw [show gv 48 = .bool true from hV 15 48 (by kernel_rfl)]
      clear hV
      refine l_val (o := ⟨some 4, _, _, _, _, _⟩) (.bool true) rfl (exec_assign (.tmp 48) (.bool true) rfl (by kernel_rfl)) ?_
      simp only [Act.put, sA, sS, sZ]
      refine wpList_nil ?_
      go_wp2
      go_ret
      exact ⟨rfl, kw6.trans kz⟩
    · skip
      have he5 : x.err = 5 := hx2.resolve_left he
      go_upto_region 10 with fail
      refine wp_text 16 [.eq (.pointer (some ⟨g7, 11, none⟩)), .eq (.bool false), .eq (.bool true), .eq (.bool true), .eq (.pointer (some ⟨g7, 14, none⟩)), .eq (.int .i64 x.err), .eq (.bool false), .eq (.bool false), .eq (.pointer (some ⟨g7, 14, none⟩)), .eq (.int .i64 x.err), .eq (.bool true), .eq (.bool true), .eq (.bool true), .eq (.bool true), .eq (.bool true), .eq (.bool true)] rfl (by kernel_rfl) ?_ ?_
      · refine sv 1 rfl rfl rfl (fun a u hE hD hk => exec_fldo 29 3 11 (.tmp 7) (g7) (0) (11) rfl (hE 7 (.pointer (some ⟨g7, 0, none⟩)) (by kernel_rfl) (by kernel_rfl)) (by kernel_rfl) rfl) ?_
        refine fsteps_cons 2 rfl (fun a u hE hD hk => f_as (show (x.rests : Bool) = false from hx1) (f_val (o := ⟨some 34, _, _, _, _, _⟩) (.bool x.rests) rfl (wanted_none rfl _) (exec_ldb 4 Try.underlying4 (.tmp 33) ⟨g7, 11, none⟩ (.bool x.rests) rfl (hD 0 33 (by kernel_rfl)) (by rw [(HC6.out.kept hk).cell]; rfl)) rfl)) ?_
        refine sv 3 rfl rfl rfl (fun a u hE hD hk => exec_not _ (.tmp 34) false rfl (hD 1 34 (by kernel_rfl))) ?_
        refine sv 4 rfl rfl rfl (fun a u hE hD hk => exec_move (.tmp 35) _ rfl (hD 2 35 (by kernel_rfl))) ?_
        refine fsteps_cons 5 rfl (fun a u hE hD hk => f_val (o := ⟨some 37, _, _, _, _, _⟩) (.pointer (some ⟨g7, 14, none⟩)) rfl (wanted_at (b := true) true rfl rfl (hD 3 36 (by kernel_rfl))) (exec_fldo 29 6 14 (.tmp 7) (g7) (0) (14) rfl (hE 7 (.pointer (some ⟨g7, 0, none⟩)) (by kernel_rfl) (by kernel_rfl)) (by kernel_rfl) rfl) rfl) ?_
        refine fsteps_cons 6 rfl (fun a u hE hD hk => f_val (o := ⟨some 38, _, _, _, _, _⟩) (.int .i64 x.err) rfl (wanted_at (b := true) true rfl rfl (hD 3 36 (by kernel_rfl))) (exec_loadi 27 Try.underlying27 (.tmp 37) ⟨g7, 14, none⟩ (.int .i64 x.err) rfl (hD 4 37 (by kernel_rfl)) (by rw [(HC6.out.kept hk).cell]; rfl)) rfl) ?_
        refine fsteps_cons 7 rfl (fun a u hE hD hk => f_as (show ((decide ((x.err : Int) = (0 : Int))) : Bool) = false from decide_eq_false he) (f_val (o := ⟨some 39, _, _, _, _, _⟩) (.bool (decide ((x.err : Int) = (0 : Int)))) rfl (wanted_at (b := true) true rfl rfl (hD 3 36 (by kernel_rfl))) (exec_eqn (p := x.err) (q := 0) rfl (hD 5 38 (by kernel_rfl)) rfl) rfl)) ?_
        refine fsteps_cons 8 rfl (fun a u hE hD hk => f_val (o := ⟨some 40, _, _, _, _, _⟩) (.bool false) rfl (wanted_at (b := true) true rfl rfl (hD 3 36 (by kernel_rfl))) (exec_move (.tmp 39) _ rfl (hD 6 39 (by kernel_rfl))) rfl) ?_
        refine fsteps_cons 9 rfl (fun a u hE hD hk => f_val (o := ⟨some 41, _, _, _, _, _⟩) (.pointer (some ⟨g7, 14, none⟩)) rfl (wanted_at (b := false) false rfl rfl (hD 7 40 (by kernel_rfl))) (exec_fldo 29 6 14 (.tmp 7) (g7) (0) (14) rfl (hE 7 (.pointer (some ⟨g7, 0, none⟩)) (by kernel_rfl) (by kernel_rfl)) (by kernel_rfl) rfl) rfl) ?_
        refine fsteps_cons 10 rfl (fun a u hE hD hk => f_val (o := ⟨some 42, _, _, _, _, _⟩) (.int .i64 x.err) rfl (wanted_at (b := false) false rfl rfl (hD 7 40 (by kernel_rfl))) (exec_loadi 27 Try.underlying27 (.tmp 41) ⟨g7, 14, none⟩ (.int .i64 x.err) rfl (hD 8 41 (by kernel_rfl)) (by rw [(HC6.out.kept hk).cell]; rfl)) rfl) ?_
        refine fsteps_cons 11 rfl (fun a u hE hD hk => f_as (show ((decide ((x.err : Int) = (5 : Int))) : Bool) = true from decide_eq_true he5) (f_val (o := ⟨some 43, _, _, _, _, _⟩) (.bool (decide ((x.err : Int) = (5 : Int)))) rfl (wanted_at (b := false) false rfl rfl (hD 7 40 (by kernel_rfl))) (exec_eqn (p := x.err) (q := 5) rfl (hD 9 42 (by kernel_rfl)) rfl) rfl)) ?_
        refine fsteps_cons 12 rfl (fun a u hE hD hk => f_val (o := ⟨some 44, _, _, _, _, _⟩) (.bool true) rfl (wanted_at (b := true) true rfl rfl (hD 3 36 (by kernel_rfl))) (exec_pickF (.tmp 40) (.const (.bool true)) (.tmp 43) (.bool true) rfl (hD 7 40 (by kernel_rfl)) (hD 10 43 (by kernel_rfl))) rfl) ?_
        refine sv 13 rfl rfl rfl (fun a u hE hD hk => exec_pick (.tmp 36) (.tmp 44) (.const (.bool false)) (.bool true) rfl (hD 3 36 (by kernel_rfl)) (hD 11 44 (by kernel_rfl))) ?_
        refine sv 14 rfl rfl rfl (fun a u hE hD hk => exec_move (.tmp 45) _ rfl (hD 12 45 (by kernel_rfl))) ?_
        refine fsteps_cons 15 rfl (fun a u hE hD hk => f_call (o := ⟨some 47, _, _, _, _, _⟩) 3 #[] rfl (wanted_at (b := true) true rfl rfl (hD 13 46 (by kernel_rfl))) (exec_call 3 _ [] _ [] Try.func3 (by kernel_rfl) (by kernel_rfl) rfl rfl u) (bruns_gives u)) ?_
        refine sv 16 rfl rfl rfl (fun a u hE hD hk => exec_pick (.tmp 46) (.tmp 47) (.const (.bool false)) (.bool true) rfl (hD 13 46 (by kernel_rfl)) (hD 14 47 (by kernel_rfl))) ?_
        exact fsteps_nil
      intro gv wz hV kz
      rw [show dstsOf _ 16 = [33, 34, 35, 36, 37, 38, 39, 40, 41, 42, 43, 44, 45, 46, 47, 48] by kernel_rfl]
      simp only [fC, fN, sA, sS, sZ, dS, dZ]
      rw [show gv 48 = .bool true from hV 15 48 (by kernel_rfl)]
      clear hV
      refine l_val (o := ⟨some 4, _, _, _, _, _⟩) (.bool true) rfl (exec_assign (.tmp 48) (.bool true) rfl (by kernel_rfl)) ?_
      simp only [Act.put, sA, sS, sZ]
      refine wpList_nil ?_
      go_wp2
      go_ret
      exact ⟨rfl, kw6.trans kz⟩
  · skip
    go_upto_region 8 with fail
    refine wp_text 2 [.eq (.bool false), .eq (.bool false)] rfl (by kernel_rfl) ?_ ?_
    · refine fsteps_cons 1 rfl (fun a u hE hD hk => f_as (show ((decide ((o.k : Int) = (2 : Int))) : Bool) = false from decide_eq_false h2) (f_val (o := ⟨some 31, _, _, _, _, _⟩) (.bool (decide ((o.k : Int) = (2 : Int)))) rfl (wanted_none rfl _) (exec_eqn (p := o.k) (q := 2) rfl (hE 29 (.int .i64 o.k) (by kernel_rfl) (by kernel_rfl)) rfl) rfl)) ?_
      refine sv 2 rfl rfl rfl (fun a u hE hD hk => exec_assign (.tmp 31) _ rfl (hD 0 31 (by kernel_rfl))) ?_
      exact fsteps_nil
    intro gv w6 hV k6
    rw [show dstsOf _ 2 = [31, 30] by kernel_rfl]
    simp only [fC, fN, sA, sS, sZ, dS, dZ]
    rw [show gv 30 = .bool false from hV 1 30 (by kernel_rfl)]
    clear hV
    refine wpList_nil ?_
    have HC6 := Lib.hid (HC5.out.kept k6)
    have HS6 := Lib.hid (HS5.out.kept k6)
    have kw6 := kw5.trans k6
    clear HC5 HS5 kw5 k6
    by_cases h3 : o.k = 3
    · skip
      go_upto_region 9 with fail
      refine wp_text 2 [.eq (.bool true), .eq (.bool true)] rfl (by kernel_rfl) ?_ ?_
      · refine fsteps_cons 1 rfl (fun a u hE hD hk => f_as (show ((decide ((o.k : Int) = (3 : Int))) : Bool) = true from decide_eq_true h3) (f_val (o := ⟨some 32, _, _, _, _, _⟩) (.bool (decide ((o.k : Int) = (3 : Int)))) rfl (wanted_none rfl _) (exec_eqn (p := o.k) (q := 3) rfl (hE 29 (.int .i64 o.k) (by kernel_rfl) (by kernel_rfl)) rfl) rfl)) ?_
        refine sv 2 rfl rfl rfl (fun a u hE hD hk => exec_assign (.tmp 32) _ rfl (hD 0 32 (by kernel_rfl))) ?_
        exact fsteps_nil
      intro gv w7 hV k7
      rw [show dstsOf _ 2 = [32, 30] by kernel_rfl]
      simp only [fC, fN, sA, sS, sZ, dS, dZ]
      rw [show gv 30 = .bool true from hV 1 30 (by kernel_rfl)]
      clear hV
      refine wpList_nil ?_
      have HC7 := Lib.hid (HC6.out.kept k7)
      have HS7 := Lib.hid (HS6.out.kept k7)
      have kw7 := kw6.trans k7
      clear HC6 HS6 kw6 k7
      have hx1 := (HK2.out (.inr h3)).1
      have hx2 := (HK2.out (.inr h3)).2
      by_cases he : x.err = 0
      · skip
        go_upto_region 10 with fail
        refine wp_text 16 [.eq (.pointer (some ⟨g7, 11, none⟩)), .eq (.bool false), .eq (.bool true), .eq (.bool true), .eq (.pointer (some ⟨g7, 14, none⟩)), .eq (.int .i64 x.err), .eq (.bool true), .eq (.bool true), .eq undef, .eq undef, .eq undef, .eq (.bool true), .eq (.bool true), .eq (.bool true), .eq (.bool true), .eq (.bool true)] rfl (by kernel_rfl) ?_ ?_
        · refine sv 1 rfl rfl rfl (fun a u hE hD hk => exec_fldo 29 3 11 (.tmp 7) (g7) (0) (11) rfl (hE 7 (.pointer (some ⟨g7, 0, none⟩)) (by kernel_rfl) (by kernel_rfl)) (by kernel_rfl) rfl) ?_
          refine fsteps_cons 2 rfl (fun a u hE hD hk => f_as (show (x.rests : Bool) = false from hx1) (f_val (o := ⟨some 34, _, _, _, _, _⟩) (.bool x.rests) rfl (wanted_none rfl _) (exec_ldb 4 Try.underlying4 (.tmp 33) ⟨g7, 11, none⟩ (.bool x.rests) rfl (hD 0 33 (by kernel_rfl)) (by rw [(HC7.out.kept hk).cell]; rfl)) rfl)) ?_
          refine sv 3 rfl rfl rfl (fun a u hE hD hk => exec_not _ (.tmp 34) false rfl (hD 1 34 (by kernel_rfl))) ?_
          refine sv 4 rfl rfl rfl (fun a u hE hD hk => exec_move (.tmp 35) _ rfl (hD 2 35 (by kernel_rfl))) ?_
          refine fsteps_cons 5 rfl (fun a u hE hD hk => f_val (o := ⟨some 37, _, _, _, _, _⟩) (.pointer (some ⟨g7, 14, none⟩)) rfl (wanted_at (b := true) true rfl rfl (hD 3 36 (by kernel_rfl))) (exec_fldo 29 6 14 (.tmp 7) (g7) (0) (14) rfl (hE 7 (.pointer (some ⟨g7, 0, none⟩)) (by kernel_rfl) (by kernel_rfl)) (by kernel_rfl) rfl) rfl) ?_
          refine fsteps_cons 6 rfl (fun a u hE hD hk => f_val (o := ⟨some 38, _, _, _, _, _⟩) (.int .i64 x.err) rfl (wanted_at (b := true) true rfl rfl (hD 3 36 (by kernel_rfl))) (exec_loadi 27 Try.underlying27 (.tmp 37) ⟨g7, 14, none⟩ (.int .i64 x.err) rfl (hD 4 37 (by kernel_rfl)) (by rw [(HC7.out.kept hk).cell]; rfl)) rfl) ?_
          refine fsteps_cons 7 rfl (fun a u hE hD hk => f_as (show ((decide ((x.err : Int) = (0 : Int))) : Bool) = true from decide_eq_true he) (f_val (o := ⟨some 39, _, _, _, _, _⟩) (.bool (decide ((x.err : Int) = (0 : Int)))) rfl (wanted_at (b := true) true rfl rfl (hD 3 36 (by kernel_rfl))) (exec_eqn (p := x.err) (q := 0) rfl (hD 5 38 (by kernel_rfl)) rfl) rfl)) ?_
          refine fsteps_cons 8 rfl (fun a u hE hD hk => f_val (o := ⟨some 40, _, _, _, _, _⟩) (.bool true) rfl (wanted_at (b := true) true rfl rfl (hD 3 36 (by kernel_rfl))) (exec_move (.tmp 39) _ rfl (hD 6 39 (by kernel_rfl))) rfl) ?_
          refine fsteps_cons 9 rfl (fun a u hE hD hk => f_skip (o := ⟨some 41, _, _, _, _, _⟩) rfl (wanted_at (b := false) true rfl rfl (hD 7 40 (by kernel_rfl))) rfl) ?_
          refine fsteps_cons 10 rfl (fun a u hE hD hk => f_skip (o := ⟨some 42, _, _, _, _, _⟩) rfl (wanted_at (b := false) true rfl rfl (hD 7 40 (by kernel_rfl))) rfl) ?_
          refine fsteps_cons 11 rfl (fun a u hE hD hk => f_skip (o := ⟨some 43, _, _, _, _, _⟩) rfl (wanted_at (b := false) true rfl rfl (hD 7 40 (by kernel_rfl))) rfl) ?_
          refine fsteps_cons 12 rfl (fun a u hE hD hk => f_val (o := ⟨some 44, _, _, _, _, _⟩) (.bool true) rfl (wanted_at (b := true) true rfl rfl (hD 3 36 (by kernel_rfl))) (exec_pick (.tmp 40) (.const (.bool true)) (.tmp 43) (.bool true) rfl (hD 7 40 (by kernel_rfl)) rfl) rfl) ?_
          refine sv 13 rfl rfl rfl (fun a u hE hD hk => exec_pick (.tmp 36) (.tmp 44) (.const (.bool false)) (.bool true) rfl (hD 3 36 (by kernel_rfl)) (hD 11 44 (by kernel_rfl))) ?_
          refine sv 14 rfl rfl rfl (fun a u hE hD hk => exec_move (.tmp 45) _ rfl (hD 12 45 (by kernel_rfl))) ?_
          refine fsteps_cons 15 rfl (fun a u hE hD hk => f_call (o := ⟨some 47, _, _, _, _, _⟩) 3 #[] rfl (wanted_at (b := true) true rfl rfl (hD 13 46 (by kernel_rfl))) (exec_call 3 _ [] _ [] Try.func3 (by kernel_rfl) (by kernel_rfl) rfl rfl u) (bruns_gives u)) ?_
          refine sv 16 rfl rfl rfl (fun a u hE hD hk => exec_pick (.tmp 46) (.tmp 47) (.const (.bool false)) (.bool true) rfl (hD 13 46 (by kernel_rfl)) (hD 14 47 (by kernel_rfl))) ?_
          exact fsteps_nil
        intro gv wz hV kz
        rw [show dstsOf _ 16 = [33, 34, 35, 36, 37, 38, 39, 40, 41, 42, 43, 44, 45, 46, 47, 48] by kernel_rfl]
        simp only [fC, fN, sA, sS, sZ, dS, dZ]
        rw [show gv 48 = .bool true from hV 15 48 (by kernel_rfl)]
        clear hV
        refine l_val (o := ⟨some 4, _, _, _, _, _⟩) (.bool true) rfl (exec_assign (.tmp 48) (.bool true) rfl (by kernel_rfl)) ?_
        simp only [Act.put, sA, sS, sZ]
        refine wpList_nil ?_
        go_wp2
        go_ret
        exact ⟨rfl, kw7.trans kz⟩
      · skip
        have he5 : x.err = 5 := hx2.resolve_left he
        go_upto_region 10 with fail
        refine wp_text 16 [.eq (.pointer (some ⟨g7, 11, none⟩)), .eq (.bool false), .eq (.bool true), .eq (.bool true), .eq (.pointer (some ⟨g7, 14, none⟩)), .eq (.int .i64 x.err), .eq (.bool false), .eq (.bool false), .eq (.pointer (some ⟨g7, 14, none⟩)), .eq (.int .i64 x.err), .eq (.bool true), .eq (.bool true), .eq (.bool true), .eq (.bool true), .eq (.bool true), .eq (.bool true)] rfl (by kernel_rfl) ?_ ?_
        · refine sv 1 rfl rfl rfl (fun a u hE hD hk => exec_fldo 29 3 11 (.tmp 7) (g7) (0) (11) rfl (hE 7 (.pointer (some ⟨g7, 0, none⟩)) (by kernel_rfl) (by kernel_rfl)) (by kernel_rfl) rfl) ?_
          refine fsteps_cons 2 rfl (fun a u hE hD hk => f_as (show (x.rests : Bool) = false from hx1) (f_val (o := ⟨some 34, _, _, _, _, _⟩) (.bool x.rests) rfl (wanted_none rfl _) (exec_ldb 4 Try.underlying4 (.tmp 33) ⟨g7, 11, none⟩ (.bool x.rests) rfl (hD 0 33 (by kernel_rfl)) (by rw [(HC7.out.kept hk).cell]; rfl)) rfl)) ?_
          refine sv 3 rfl rfl rfl (fun a u hE hD hk => exec_not _ (.tmp 34) false rfl (hD 1 34 (by kernel_rfl))) ?_
          refine sv 4 rfl rfl rfl (fun a u hE hD hk => exec_move (.tmp 35) _ rfl (hD 2 35 (by kernel_rfl))) ?_
          refine fsteps_cons 5 rfl (fun a u hE hD hk => f_val (o := ⟨some 37, _, _, _, _, _⟩) (.pointer (some ⟨g7, 14, none⟩)) rfl (wanted_at (b := true) true rfl rfl (hD 3 36 (by kernel_rfl))) (exec_fldo 29 6 14 (.tmp 7) (g7) (0) (14) rfl (hE 7 (.pointer (some ⟨g7, 0, none⟩)) (by kernel_rfl) (by kernel_rfl)) (by kernel_rfl) rfl) rfl) ?_
          refine fsteps_cons 6 rfl (fun a u hE hD hk => f_val (o := ⟨some 38, _, _, _, _, _⟩) (.int .i64 x.err) rfl (wanted_at (b := true) true rfl rfl (hD 3 36 (by kernel_rfl))) (exec_loadi 27 Try.underlying27 (.tmp 37) ⟨g7, 14, none⟩ (.int .i64 x.err) rfl (hD 4 37 (by kernel_rfl)) (by rw [(HC7.out.kept hk).cell]; rfl)) rfl) ?_
          refine fsteps_cons 7 rfl (fun a u hE hD hk => f_as (show ((decide ((x.err : Int) = (0 : Int))) : Bool) = false from decide_eq_false he) (f_val (o := ⟨some 39, _, _, _, _, _⟩) (.bool (decide ((x.err : Int) = (0 : Int)))) rfl (wanted_at (b := true) true rfl rfl (hD 3 36 (by kernel_rfl))) (exec_eqn (p := x.err) (q := 0) rfl (hD 5 38 (by kernel_rfl)) rfl) rfl)) ?_
          refine fsteps_cons 8 rfl (fun a u hE hD hk => f_val (o := ⟨some 40, _, _, _, _, _⟩) (.bool false) rfl (wanted_at (b := true) true rfl rfl (hD 3 36 (by kernel_rfl))) (exec_move (.tmp 39) _ rfl (hD 6 39 (by kernel_rfl))) rfl) ?_
          refine fsteps_cons 9 rfl (fun a u hE hD hk => f_val (o := ⟨some 41, _, _, _, _, _⟩) (.pointer (some ⟨g7, 14, none⟩)) rfl (wanted_at (b := false) false rfl rfl (hD 7 40 (by kernel_rfl))) (exec_fldo 29 6 14 (.tmp 7) (g7) (0) (14) rfl (hE 7 (.pointer (some ⟨g7, 0, none⟩)) (by kernel_rfl) (by kernel_rfl)) (by kernel_rfl) rfl) rfl) ?_
          refine fsteps_cons 10 rfl (fun a u hE hD hk => f_val (o := ⟨some 42, _, _, _, _, _⟩) (.int .i64 x.err) rfl (wanted_at (b := false) false rfl rfl (hD 7 40 (by kernel_rfl))) (exec_loadi 27 Try.underlying27 (.tmp 41) ⟨g7, 14, none⟩ (.int .i64 x.err) rfl (hD 8 41 (by kernel_rfl)) (by rw [(HC7.out.kept hk).cell]; rfl)) rfl) ?_
          refine fsteps_cons 11 rfl (fun a u hE hD hk => f_as (show ((decide ((x.err : Int) = (5 : Int))) : Bool) = true from decide_eq_true he5) (f_val (o := ⟨some 43, _, _, _, _, _⟩) (.bool (decide ((x.err : Int) = (5 : Int)))) rfl (wanted_at (b := false) false rfl rfl (hD 7 40 (by kernel_rfl))) (exec_eqn (p := x.err) (q := 5) rfl (hD 9 42 (by kernel_rfl)) rfl) rfl)) ?_
          refine fsteps_cons 12 rfl (fun a u hE hD hk => f_val (o := ⟨some 44, _, _, _, _, _⟩) (.bool true) rfl (wanted_at (b := true) true rfl rfl (hD 3 36 (by kernel_rfl))) (exec_pickF (.tmp 40) (.const (.bool true)) (.tmp 43) (.bool true) rfl (hD 7 40 (by kernel_rfl)) (hD 10 43 (by kernel_rfl))) rfl) ?_
          refine sv 13 rfl rfl rfl (fun a u hE hD hk => exec_pick (.tmp 36) (.tmp 44) (.const (.bool false)) (.bool true) rfl (hD 3 36 (by kernel_rfl)) (hD 11 44 (by kernel_rfl))) ?_
          refine sv 14 rfl rfl rfl (fun a u hE hD hk => exec_move (.tmp 45) _ rfl (hD 12 45 (by kernel_rfl))) ?_
          refine fsteps_cons 15 rfl (fun a u hE hD hk => f_call (o := ⟨some 47, _, _, _, _, _⟩) 3 #[] rfl (wanted_at (b := true) true rfl rfl (hD 13 46 (by kernel_rfl))) (exec_call 3 _ [] _ [] Try.func3 (by kernel_rfl) (by kernel_rfl) rfl rfl u) (bruns_gives u)) ?_
          refine sv 16 rfl rfl rfl (fun a u hE hD hk => exec_pick (.tmp 46) (.tmp 47) (.const (.bool false)) (.bool true) rfl (hD 13 46 (by kernel_rfl)) (hD 14 47 (by kernel_rfl))) ?_
          exact fsteps_nil
        intro gv wz hV kz
        rw [show dstsOf _ 16 = [33, 34, 35, 36, 37, 38, 39, 40, 41, 42, 43, 44, 45, 46, 47, 48] by kernel_rfl]
        simp only [fC, fN, sA, sS, sZ, dS, dZ]
        rw [show gv 48 = .bool true from hV 15 48 (by kernel_rfl)]
        clear hV
        refine l_val (o := ⟨some 4, _, _, _, _, _⟩) (.bool true) rfl (exec_assign (.tmp 48) (.bool true) rfl (by kernel_rfl)) ?_
        simp only [Act.put, sA, sS, sZ]
        refine wpList_nil ?_
        go_wp2
        go_ret
        exact ⟨rfl, kw7.trans kz⟩
    · skip
      go_upto_region 9 with fail
      refine wp_text 2 [.eq (.bool false), .eq (.bool false)] rfl (by kernel_rfl) ?_ ?_
      · refine fsteps_cons 1 rfl (fun a u hE hD hk => f_as (show ((decide ((o.k : Int) = (3 : Int))) : Bool) = false from decide_eq_false h3) (f_val (o := ⟨some 32, _, _, _, _, _⟩) (.bool (decide ((o.k : Int) = (3 : Int)))) rfl (wanted_none rfl _) (exec_eqn (p := o.k) (q := 3) rfl (hE 29 (.int .i64 o.k) (by kernel_rfl) (by kernel_rfl)) rfl) rfl)) ?_
        refine sv 2 rfl rfl rfl (fun a u hE hD hk => exec_assign (.tmp 32) _ rfl (hD 0 32 (by kernel_rfl))) ?_
        exact fsteps_nil
      intro gv w7 hV k7
      rw [show dstsOf _ 2 = [32, 30] by kernel_rfl]
      simp only [fC, fN, sA, sS, sZ, dS, dZ]
      rw [show gv 30 = .bool false from hV 1 30 (by kernel_rfl)]
      clear hV
      refine wpList_nil ?_
      have HC7 := Lib.hid (HC6.out.kept k7)
      have HS7 := Lib.hid (HS6.out.kept k7)
      have kw7 := kw6.trans k7
      clear HC6 HS6 kw6 k7
      by_cases h4 : o.k = 4
      · skip
        go_upto_region 11 with fail
        refine wp_text 2 [.eq (.bool true), .eq (.bool true)] rfl (by kernel_rfl) ?_ ?_
        · refine fsteps_cons 1 rfl (fun a u hE hD hk => f_as (show ((decide ((o.k : Int) = (4 : Int))) : Bool) = true from decide_eq_true h4) (f_val (o := ⟨some 50, _, _, _, _, _⟩) (.bool (decide ((o.k : Int) = (4 : Int)))) rfl (wanted_none rfl _) (exec_eqn (p := o.k) (q := 4) rfl (hE 29 (.int .i64 o.k) (by kernel_rfl) (by kernel_rfl)) rfl) rfl)) ?_
          refine sv 2 rfl rfl rfl (fun a u hE hD hk => exec_assign (.tmp 50) _ rfl (hD 0 50 (by kernel_rfl))) ?_
          exact fsteps_nil
        intro gv w8 hV k8
        rw [show dstsOf _ 2 = [50, 49] by kernel_rfl]
        simp only [fC, fN, sA, sS, sZ, dS, dZ]
        rw [show gv 49 = .bool true from hV 1 49 (by kernel_rfl)]
        clear hV
        refine wpList_nil ?_
        have HC8 := Lib.hid (HC7.out.kept k8)
        have HS8 := Lib.hid (HS7.out.kept k8)
        have kw8 := kw7.trans k8
        clear HC7 HS7 kw7 k8
        have hx1 := (HK4.out h4).1
        have hx2 := (HK4.out h4).2
        by_cases he : x.err = 0
        · skip
          have hl0 : x.left = 0 := by rcases hx2 with h | h; exact h.2; exact absurd he h.1
          go_upto_region 12 with fail
          refine wp_text 27 [.eq (.pointer (some ⟨g7, 11, none⟩)), .eq (.bool false), .eq (.bool true), .eq (.bool true), .eq (.pointer (some ⟨g7, 14, none⟩)), .eq (.int .i64 x.err), .eq (.bool true), .eq (.bool true), .eq (.pointer (some ⟨g7, 10, none⟩)), .eq (.int .i64 x.left), .eq (.bool true), .eq (.bool true), .eq (.bool true), .eq undef, .eq undef, .eq undef, .eq undef, .eq undef, .eq undef, .eq undef, .eq undef, .eq undef, .eq (.bool true), .eq (.bool true), .eq (.bool true), .eq (.bool true), .eq (.bool true)] rfl (by kernel_rfl) ?_ ?_
          · refine sv 1 rfl rfl rfl (fun a u hE hD hk => exec_fldo 29 3 11 (.tmp 7) (g7) (0) (11) rfl (hE 7 (.pointer (some ⟨g7, 0, none⟩)) (by kernel_rfl) (by kernel_rfl)) (by kernel_rfl) rfl) ?_
            refine fsteps_cons 2 rfl (fun a u hE hD hk => f_as (show (x.rests : Bool) = false from hx1) (f_val (o := ⟨some 52, _, _, _, _, _⟩) (.bool x.rests) rfl (wanted_none rfl _) (exec_ldb 4 Try.underlying4 (.tmp 51) ⟨g7, 11, none⟩ (.bool x.rests) rfl (hD 0 51 (by kernel_rfl)) (by rw [(HC8.out.kept hk).cell]; rfl)) rfl)) ?_
            refine sv 3 rfl rfl rfl (fun a u hE hD hk => exec_not _ (.tmp 52) false rfl (hD 1 52 (by kernel_rfl))) ?_
            refine sv 4 rfl rfl rfl (fun a u hE hD hk => exec_move (.tmp 53) _ rfl (hD 2 53 (by kernel_rfl))) ?_
            refine fsteps_cons 5 rfl (fun a u hE hD hk => f_val (o := ⟨some 55, _, _, _, _, _⟩) (.pointer (some ⟨g7, 14, none⟩)) rfl (wanted_at (b := true) true rfl rfl (hD 3 54 (by kernel_rfl))) (exec_fldo 29 6 14 (.tmp 7) (g7) (0) (14) rfl (hE 7 (.pointer (some ⟨g7, 0, none⟩)) (by kernel_rfl) (by kernel_rfl)) (by kernel_rfl) rfl) rfl) ?_
            refine fsteps_cons 6 rfl (fun a u hE hD hk => f_val (o := ⟨some 56, _, _, _, _, _⟩) (.int .i64 x.err) rfl (wanted_at (b := true) true rfl rfl (hD 3 54 (by kernel_rfl))) (exec_loadi 27 Try.underlying27 (.tmp 55) ⟨g7, 14, none⟩ (.int .i64 x.err) rfl (hD 4 55 (by kernel_rfl)) (by rw [(HC8.out.kept hk).cell]; rfl)) rfl) ?_
            refine fsteps_cons 7 rfl (fun a u hE hD hk => f_as (show ((decide ((x.err : Int) = (0 : Int))) : Bool) = true from decide_eq_true he) (f_val (o := ⟨some 57, _, _, _, _, _⟩) (.bool (decide ((x.err : Int) = (0 : Int)))) rfl (wanted_at (b := true) true rfl rfl (hD 3 54 (by kernel_rfl))) (exec_eqn (p := x.err) (q := 0) rfl (hD 5 56 (by kernel_rfl)) rfl) rfl)) ?_
            refine fsteps_cons 8 rfl (fun a u hE hD hk => f_val (o := ⟨some 58, _, _, _, _, _⟩) (.bool true) rfl (wanted_at (b := true) true rfl rfl (hD 3 54 (by kernel_rfl))) (exec_move (.tmp 57) _ rfl (hD 6 57 (by kernel_rfl))) rfl) ?_
            refine fsteps_cons 9 rfl (fun a u hE hD hk => f_val (o := ⟨some 59, _, _, _, _, _⟩) (.pointer (some ⟨g7, 10, none⟩)) rfl (wanted_at (b := true) true rfl rfl (hD 7 58 (by kernel_rfl))) (exec_fldo 29 2 10 (.tmp 7) (g7) (0) (10) rfl (hE 7 (.pointer (some ⟨g7, 0, none⟩)) (by kernel_rfl) (by kernel_rfl)) (by kernel_rfl) rfl) rfl) ?_
            refine fsteps_cons 10 rfl (fun a u hE hD hk => f_val (o := ⟨some 60, _, _, _, _, _⟩) (.int .i64 x.left) rfl (wanted_at (b := true) true rfl rfl (hD 7 58 (by kernel_rfl))) (exec_loadi 3 Try.underlying3 (.tmp 59) ⟨g7, 10, none⟩ (.int .i64 x.left) rfl (hD 8 59 (by kernel_rfl)) (by rw [(HC8.out.kept hk).cell]; rfl)) rfl) ?_
            refine fsteps_cons 11 rfl (fun a u hE hD hk => f_as (show ((decide ((x.left : Int) = (0 : Int))) : Bool) = true from decide_eq_true hl0) (f_val (o := ⟨some 61, _, _, _, _, _⟩) (.bool (decide ((x.left : Int) = (0 : Int)))) rfl (wanted_at (b := true) true rfl rfl (hD 7 58 (by kernel_rfl))) (exec_eqn (p := x.left) (q := 0) rfl (hD 9 60 (by kernel_rfl)) rfl) rfl)) ?_
            refine fsteps_cons 12 rfl (fun a u hE hD hk => f_val (o := ⟨some 62, _, _, _, _, _⟩) (.bool true) rfl (wanted_at (b := true) true rfl rfl (hD 3 54 (by kernel_rfl))) (exec_pick (.tmp 58) (.tmp 61) (.const (.bool false)) (.bool true) rfl (hD 7 58 (by kernel_rfl)) (hD 10 61 (by kernel_rfl))) rfl) ?_
            refine fsteps_cons 13 rfl (fun a u hE hD hk => f_val (o := ⟨some 63, _, _, _, _, _⟩) (.bool true) rfl (wanted_at (b := true) true rfl rfl (hD 3 54 (by kernel_rfl))) (exec_move (.tmp 62) _ rfl (hD 11 62 (by kernel_rfl))) rfl) ?_
            refine fsteps_cons 14 rfl (fun a u hE hD hk => f_skip (o := ⟨some 64, _, _, _, _, _⟩) rfl (wanted_at (b := false) true rfl rfl (hD 12 63 (by kernel_rfl))) rfl) ?_
            refine fsteps_cons 15 rfl (fun a u hE hD hk => f_skip (o := ⟨some 65, _, _, _, _, _⟩) rfl (wanted_at (b := false) true rfl rfl (hD 12 63 (by kernel_rfl))) rfl) ?_
            refine fsteps_cons 16 rfl (fun a u hE hD hk => f_skip (o := ⟨some 66, _, _, _, _, _⟩) rfl (wanted_at (b := false) true rfl rfl (hD 12 63 (by kernel_rfl))) rfl) ?_
            refine fsteps_cons 17 rfl (fun a u hE hD hk => f_skip (o := ⟨some 67, _, _, _, _, _⟩) rfl (wanted_at (b := false) true rfl rfl (hD 12 63 (by kernel_rfl))) rfl) ?_
            refine fsteps_cons 18 rfl (fun a u hE hD hk => f_skip (o := ⟨some 68, _, _, _, _, _⟩) rfl (wanted_undef (b := true) rfl rfl (hD 16 67 (by kernel_rfl))) rfl) ?_
            refine fsteps_cons 19 rfl (fun a u hE hD hk => f_skip (o := ⟨some 69, _, _, _, _, _⟩) rfl (wanted_undef (b := true) rfl rfl (hD 16 67 (by kernel_rfl))) rfl) ?_
            refine fsteps_cons 20 rfl (fun a u hE hD hk => f_skip (o := ⟨some 70, _, _, _, _, _⟩) rfl (wanted_undef (b := true) rfl rfl (hD 16 67 (by kernel_rfl))) rfl) ?_
            refine fsteps_cons 21 rfl (fun a u hE hD hk => f_skip (o := ⟨some 71, _, _, _, _, _⟩) rfl (wanted_undef (b := true) rfl rfl (hD 16 67 (by kernel_rfl))) rfl) ?_
            refine fsteps_cons 22 rfl (fun a u hE hD hk => f_skip (o := ⟨some 72, _, _, _, _, _⟩) rfl (wanted_at (b := false) true rfl rfl (hD 12 63 (by kernel_rfl))) rfl) ?_
            refine fsteps_cons 23 rfl (fun a u hE hD hk => f_val (o := ⟨some 73, _, _, _, _, _⟩) (.bool true) rfl (wanted_at (b := true) true rfl rfl (hD 3 54 (by kernel_rfl))) (exec_pick (.tmp 63) (.const (.bool true)) (.tmp 72) (.bool true) rfl (hD 12 63 (by kernel_rfl)) rfl) rfl) ?_
            refine sv 24 rfl rfl rfl (fun a u hE hD hk => exec_pick (.tmp 54) (.tmp 73) (.const (.bool false)) (.bool true) rfl (hD 3 54 (by kernel_rfl)) (hD 22 73 (by kernel_rfl))) ?_
            refine sv 25 rfl rfl rfl (fun a u hE hD hk => exec_move (.tmp 74) _ rfl (hD 23 74 (by kernel_rfl))) ?_
            refine fsteps_cons 26 rfl (fun a u hE hD hk => f_call (o := ⟨some 76, _, _, _, _, _⟩) 3 #[] rfl (wanted_at (b := true) true rfl rfl (hD 24 75 (by kernel_rfl))) (exec_call 3 _ [] _ [] Try.func3 (by kernel_rfl) (by kernel_rfl) rfl rfl u) (bruns_gives u)) ?_
            refine sv 27 rfl rfl rfl (fun a u hE hD hk => exec_pick (.tmp 75) (.tmp 76) (.const (.bool false)) (.bool true) rfl (hD 24 75 (by kernel_rfl)) (hD 25 76 (by kernel_rfl))) ?_
            exact fsteps_nil
          intro gv wz hV kz
          rw [show dstsOf _ 27 = [51, 52, 53, 54, 55, 56, 57, 58, 59, 60, 61, 62, 63, 64, 65, 66, 67, 68, 69, 70, 71, 72, 73, 74, 75, 76, 77] by kernel_rfl]
          simp only [fC, fN, sA, sS, sZ, dS, dZ]
          rw [show gv 77 = .bool true from hV 26 77 (by kernel_rfl)]
          clear hV
          refine l_val (o := ⟨some 4, _, _, _, _, _⟩) (.bool true) rfl (exec_assign (.tmp 77) (.bool true) rfl (by kernel_rfl)) ?_
          simp only [Act.put, sA, sS, sZ]
          refine wpList_nil ?_
          go_wp2
          go_ret
          exact ⟨rfl, kw8.trans kz⟩
        · skip
          have hf0 : x.f.length = 0 := by rcases hx2 with h | h; exact absurd h.1 he; rw [h.2]; rfl
          go_upto_region 12 with fail
          refine wp_text 27 [.eq (.pointer (some ⟨g7, 11, none⟩)), .eq (.bool false), .eq (.bool true), .eq (.bool true), .eq (.pointer (some ⟨g7, 14, none⟩)), .eq (.int .i64 x.err), .eq (.bool false), .eq (.bool false), .eq undef, .eq undef, .eq undef, .eq (.bool false), .eq (.bool false), .eq (.pointer (some ⟨g7, 14, none⟩)), .eq (.int .i64 x.err), .eq (.bool true), .eq (.bool true), .eq (.pointer (some ⟨g7, 9, none⟩)), .eq (vf), .eq (.int .i64 (x.f.length : Int)), .eq (.bool true), .eq (.bool true), .eq (.bool true), .eq (.bool true), .eq (.bool true), .eq (.bool true), .eq (.bool true)] rfl (by kernel_rfl) ?_ ?_
          · refine sv 1 rfl rfl rfl (fun a u hE hD hk => exec_fldo 29 3 11 (.tmp 7) (g7) (0) (11) rfl (hE 7 (.pointer (some ⟨g7, 0, none⟩)) (by kernel_rfl) (by kernel_rfl)) (by kernel_rfl) rfl) ?_
            refine fsteps_cons 2 rfl (fun a u hE hD hk => f_as (show (x.rests : Bool) = false from hx1) (f_val (o := ⟨some 52, _, _, _, _, _⟩) (.bool x.rests) rfl (wanted_none rfl _) (exec_ldb 4 Try.underlying4 (.tmp 51) ⟨g7, 11, none⟩ (.bool x.rests) rfl (hD 0 51 (by kernel_rfl)) (by rw [(HC8.out.kept hk).cell]; rfl)) rfl)) ?_
            refine sv 3 rfl rfl rfl (fun a u hE hD hk => exec_not _ (.tmp 52) false rfl (hD 1 52 (by kernel_rfl))) ?_
            refine sv 4 rfl rfl rfl (fun a u hE hD hk => exec_move (.tmp 53) _ rfl (hD 2 53 (by kernel_rfl))) ?_
            refine fsteps_cons 5 rfl (fun a u hE hD hk => f_val (o := ⟨some 55, _, _, _, _, _⟩) (.pointer (some ⟨g7, 14, none⟩)) rfl (wanted_at (b := true) true rfl rfl (hD 3 54 (by kernel_rfl))) (exec_fldo 29 6 14 (.tmp 7) (g7) (0) (14) rfl (hE 7 (.pointer (some ⟨g7, 0, none⟩)) (by kernel_rfl) (by kernel_rfl)) (by kernel_rfl) rfl) rfl) ?_
            refine fsteps_cons 6 rfl (fun a u hE hD hk => f_val (o := ⟨some 56, _, _, _, _, _⟩) (.int .i64 x.err) rfl (wanted_at (b := true) true rfl rfl (hD 3 54 (by kernel_rfl))) (exec_loadi 27 Try.underlying27 (.tmp 55) ⟨g7, 14, none⟩ (.int .i64 x.err) rfl (hD 4 55 (by kernel_rfl)) (by rw [(HC8.out.kept hk).cell]; rfl)) rfl) ?_
            refine fsteps_cons 7 rfl (fun a u hE hD hk => f_as (show ((decide ((x.err : Int) = (0 : Int))) : Bool) = false from decide_eq_false he) (f_val (o := ⟨some 57, _, _, _, _, _⟩) (.bool (decide ((x.err : Int) = (0 : Int)))) rfl (wanted_at (b := true) true rfl rfl (hD 3 54 (by kernel_rfl))) (exec_eqn (p := x.err) (q := 0) rfl (hD 5 56 (by kernel_rfl)) rfl) rfl)) ?_
            refine fsteps_cons 8 rfl (fun a u hE hD hk => f_val (o := ⟨some 58, _, _, _, _, _⟩) (.bool false) rfl (wanted_at (b := true) true rfl rfl (hD 3 54 (by kernel_rfl))) (exec_move (.tmp 57) _ rfl (hD 6 57 (by kernel_rfl))) rfl) ?_
            refine fsteps_cons 9 rfl (fun a u hE hD hk => f_skip (o := ⟨some 59, _, _, _, _, _⟩) rfl (wanted_at (b := true) false rfl rfl (hD 7 58 (by kernel_rfl))) rfl) ?_
            refine fsteps_cons 10 rfl (fun a u hE hD hk => f_skip (o := ⟨some 60, _, _, _, _, _⟩) rfl (wanted_at (b := true) false rfl rfl (hD 7 58 (by kernel_rfl))) rfl) ?_
            refine fsteps_cons 11 rfl (fun a u hE hD hk => f_skip (o := ⟨some 61, _, _, _, _, _⟩) rfl (wanted_at (b := true) false rfl rfl (hD 7 58 (by kernel_rfl))) rfl) ?_
            refine fsteps_cons 12 rfl (fun a u hE hD hk => f_val (o := ⟨some 62, _, _, _, _, _⟩) (.bool false) rfl (wanted_at (b := true) true rfl rfl (hD 3 54 (by kernel_rfl))) (exec_pickF (.tmp 58) (.tmp 61) (.const (.bool false)) (.bool false) rfl (hD 7 58 (by kernel_rfl)) rfl) rfl) ?_
            refine fsteps_cons 13 rfl (fun a u hE hD hk => f_val (o := ⟨some 63, _, _, _, _, _⟩) (.bool false) rfl (wanted_at (b := true) true rfl rfl (hD 3 54 (by kernel_rfl))) (exec_move (.tmp 62) _ rfl (hD 11 62 (by kernel_rfl))) rfl) ?_
            refine fsteps_cons 14 rfl (fun a u hE hD hk => f_val (o := ⟨some 64, _, _, _, _, _⟩) (.pointer (some ⟨g7, 14, none⟩)) rfl (wanted_at (b := false) false rfl rfl (hD 12 63 (by kernel_rfl))) (exec_fldo 29 6 14 (.tmp 7) (g7) (0) (14) rfl (hE 7 (.pointer (some ⟨g7, 0, none⟩)) (by kernel_rfl) (by kernel_rfl)) (by kernel_rfl) rfl) rfl) ?_
            refine fsteps_cons 15 rfl (fun a u hE hD hk => f_val (o := ⟨some 65, _, _, _, _, _⟩) (.int .i64 x.err) rfl (wanted_at (b := false) false rfl rfl (hD 12 63 (by kernel_rfl))) (exec_loadi 27 Try.underlying27 (.tmp 64) ⟨g7, 14, none⟩ (.int .i64 x.err) rfl (hD 13 64 (by kernel_rfl)) (by rw [(HC8.out.kept hk).cell]; rfl)) rfl) ?_
            refine fsteps_cons 16 rfl (fun a u hE hD hk => f_as (show ((decide ((x.err : Int) ≠ (0 : Int))) : Bool) = true from decide_eq_true he) (f_val (o := ⟨some 66, _, _, _, _, _⟩) (.bool (decide ((x.err : Int) ≠ (0 : Int)))) rfl (wanted_at (b := false) false rfl rfl (hD 12 63 (by kernel_rfl))) (exec_nen (p := x.err) (q := 0) rfl (hD 14 65 (by kernel_rfl)) rfl) rfl)) ?_
            refine fsteps_cons 17 rfl (fun a u hE hD hk => f_val (o := ⟨some 67, _, _, _, _, _⟩) (.bool true) rfl (wanted_at (b := false) false rfl rfl (hD 12 63 (by kernel_rfl))) (exec_move (.tmp 66) _ rfl (hD 15 66 (by kernel_rfl))) rfl) ?_
            refine fsteps_cons 18 rfl (fun a u hE hD hk => f_val (o := ⟨some 68, _, _, _, _, _⟩) (.pointer (some ⟨g7, 9, none⟩)) rfl (wanted_at (b := true) true rfl rfl (hD 16 67 (by kernel_rfl))) (exec_fldo 29 1 9 (.tmp 7) (g7) (0) (9) rfl (hE 7 (.pointer (some ⟨g7, 0, none⟩)) (by kernel_rfl) (by kernel_rfl)) (by kernel_rfl) rfl) rfl) ?_
            refine fsteps_cons 19 rfl (fun a u hE hD hk => f_val (o := ⟨some 69, _, _, _, _, _⟩) (vf) rfl (wanted_at (b := true) true rfl rfl (hD 16 67 (by kernel_rfl))) (exec_ldv 26 _ Try.underlying26 (.tmp 68) ⟨g7, 9, none⟩ (vf) rfl (hD 17 68 (by kernel_rfl)) (by rw [(HC8.out.kept hk).cell]; rfl)) rfl) ?_
            refine fsteps_cons 20 rfl (fun a u hE hD hk => f_val (o := ⟨some 70, _, _, _, _, _⟩) (.int .i64 (x.f.length : Int)) rfl (wanted_at (b := true) true rfl rfl (hD 16 67 (by kernel_rfl))) (exec_lenS (.tmp 69) slF (vf) (x.f.length) _ _ rfl (hD 18 69 (by kernel_rfl)) HS8.out) rfl) ?_
            refine fsteps_cons 21 rfl (fun a u hE hD hk => f_as (show ((decide (((x.f.length : Int) : Int) = (0 : Int))) : Bool) = true from decide_eq_true (by omega)) (f_val (o := ⟨some 71, _, _, _, _, _⟩) (.bool (decide (((x.f.length : Int) : Int) = (0 : Int)))) rfl (wanted_at (b := true) true rfl rfl (hD 16 67 (by kernel_rfl))) (exec_eqn (p := (x.f.length : Int)) (q := 0) rfl (hD 19 70 (by kernel_rfl)) rfl) rfl)) ?_
            refine fsteps_cons 22 rfl (fun a u hE hD hk => f_val (o := ⟨some 72, _, _, _, _, _⟩) (.bool true) rfl (wanted_at (b := false) false rfl rfl (hD 12 63 (by kernel_rfl))) (exec_pick (.tmp 67) (.tmp 71) (.const (.bool false)) (.bool true) rfl (hD 16 67 (by kernel_rfl)) (hD 20 71 (by kernel_rfl))) rfl) ?_
            refine fsteps_cons 23 rfl (fun a u hE hD hk => f_val (o := ⟨some 73, _, _, _, _, _⟩) (.bool true) rfl (wanted_at (b := true) true rfl rfl (hD 3 54 (by kernel_rfl))) (exec_pickF (.tmp 63) (.const (.bool true)) (.tmp 72) (.bool true) rfl (hD 12 63 (by kernel_rfl)) (hD 21 72 (by kernel_rfl))) rfl) ?_
            refine sv 24 rfl rfl rfl (fun a u hE hD hk => exec_pick (.tmp 54) (.tmp 73) (.const (.bool false)) (.bool true) rfl (hD 3 54 (by kernel_rfl)) (hD 22 73 (by kernel_rfl))) ?_
            refine sv 25 rfl rfl rfl (fun a u hE hD hk => exec_move (.tmp 74) _ rfl (hD 23 74 (by kernel_rfl))) ?_
            refine fsteps_cons 26 rfl (fun a u hE hD hk => f_call (o := ⟨some 76, _, _, _, _, _⟩) 3 #[] rfl (wanted_at (b := true) true rfl rfl (hD 24 75 (by kernel_rfl))) (exec_call 3 _ [] _ [] Try.func3 (by kernel_rfl) (by kernel_rfl) rfl rfl u) (bruns_gives u)) ?_
            refine sv 27 rfl rfl rfl (fun a u hE hD hk => exec_pick (.tmp 75) (.tmp 76) (.const (.bool false)) (.bool true) rfl (hD 24 75 (by kernel_rfl)) (hD 25 76 (by kernel_rfl))) ?_
            exact fsteps_nil
          intro gv wz hV kz
          rw [show dstsOf _ 27 = [51, 52, 53, 54, 55, 56, 57, 58, 59, 60, 61, 62, 63, 64, 65, 66, 67, 68, 69, 70, 71, 72, 73, 74, 75, 76, 77] by kernel_rfl]
          simp only [fC, fN, sA, sS, sZ, dS, dZ]
          rw [show gv 77 = .bool true from hV 26 77 (by kernel_rfl)]
          clear hV
          refine l_val (o := ⟨some 4, _, _, _, _, _⟩) (.bool true) rfl (exec_assign (.tmp 77) (.bool true) rfl (by kernel_rfl)) ?_
          simp only [Act.put, sA, sS, sZ]
          refine wpList_nil ?_
          go_wp2
          go_ret
          exact ⟨rfl, kw8.trans kz⟩
      · skip
        go_upto_region 11 with fail
        refine wp_text 2 [.eq (.bool false), .eq (.bool false)] rfl (by kernel_rfl) ?_ ?_
        · refine fsteps_cons 1 rfl (fun a u hE hD hk => f_as (show ((decide ((o.k : Int) = (4 : Int))) : Bool) = false from decide_eq_false h4) (f_val (o := ⟨some 50, _, _, _, _, _⟩) (.bool (decide ((o.k : Int) = (4 : Int)))) rfl (wanted_none rfl _) (exec_eqn (p := o.k) (q := 4) rfl (hE 29 (.int .i64 o.k) (by kernel_rfl) (by kernel_rfl)) rfl) rfl)) ?_
          refine sv 2 rfl rfl rfl (fun a u hE hD hk => exec_assign (.tmp 50) _ rfl (hD 0 50 (by kernel_rfl))) ?_
          exact fsteps_nil
        intro gv w8 hV k8
        rw [show dstsOf _ 2 = [50, 49] by kernel_rfl]
        simp only [fC, fN, sA, sS, sZ, dS, dZ]
        rw [show gv 49 = .bool false from hV 1 49 (by kernel_rfl)]
        clear hV
        refine wpList_nil ?_
        have HC8 := Lib.hid (HC7.out.kept k8)
        have HS8 := Lib.hid (HS7.out.kept k8)
        have kw8 := kw7.trans k8
        clear HC7 HS7 kw7 k8
        by_cases h5 : o.k = 5
        · skip
          go_upto_region 13 with fail
          refine wp_text 2 [.eq (.bool true), .eq (.bool true)] rfl (by kernel_rfl) ?_ ?_
          · refine fsteps_cons 1 rfl (fun a u hE hD hk => f_as (show ((decide ((o.k : Int) = (5 : Int))) : Bool) = true from decide_eq_true h5) (f_val (o := ⟨some 79, _, _, _, _, _⟩) (.bool (decide ((o.k : Int) = (5 : Int)))) rfl (wanted_none rfl _) (exec_eqn (p := o.k) (q := 5) rfl (hE 29 (.int .i64 o.k) (by kernel_rfl) (by kernel_rfl)) rfl) rfl)) ?_
            refine sv 2 rfl rfl rfl (fun a u hE hD hk => exec_assign (.tmp 79) _ rfl (hD 0 79 (by kernel_rfl))) ?_
            exact fsteps_nil
          intro gv w9 hV k9
          rw [show dstsOf _ 2 = [79, 78] by kernel_rfl]
          simp only [fC, fN, sA, sS, sZ, dS, dZ]
          rw [show gv 78 = .bool true from hV 1 78 (by kernel_rfl)]
          clear hV
          refine wpList_nil ?_
          have HC9 := Lib.hid (HC8.out.kept k9)
          have HS9 := Lib.hid (HS8.out.kept k9)
          have kw9 := kw8.trans k9
          clear HC8 HS8 kw8 k9
          have hf0 : x.f.length = 0 := by rw [(HK5.out h5).1]; rfl
          have hx2 := (HK5.out h5).2
          by_cases he : x.err = 0
          · skip
            have hr0 : x.rests = true := by rcases hx2 with h | h; exact h.2; exact absurd he h.1
            go_upto_region 14 with fail
            refine wp_text 15 [.eq (.pointer (some ⟨g7, 9, none⟩)), .eq (vf), .eq (.int .i64 (x.f.length : Int)), .eq (.bool true), .eq (.bool true), .eq (.pointer (some ⟨g7, 11, none⟩)), .eq (.bool true), .eq (.pointer (some ⟨g7, 14, none⟩)), .eq (.int .i64 x.err), .eq (.bool true), .eq (.bool true), .eq (.bool true), .eq (.bool true), .eq (.bool true), .eq (.bool true)] rfl (by kernel_rfl) ?_ ?_
            · refine sv 1 rfl rfl rfl (fun a u hE hD hk => exec_fldo 29 1 9 (.tmp 7) (g7) (0) (9) rfl (hE 7 (.pointer (some ⟨g7, 0, none⟩)) (by kernel_rfl) (by kernel_rfl)) (by kernel_rfl) rfl) ?_
              refine sv 2 rfl rfl rfl (fun a u hE hD hk => exec_ldv 26 _ Try.underlying26 (.tmp 80) ⟨g7, 9, none⟩ (vf) rfl (hD 0 80 (by kernel_rfl)) (by rw [(HC9.out.kept hk).cell]; rfl)) ?_
              refine sv 3 rfl rfl rfl (fun a u hE hD hk => exec_lenS (.tmp 81) slF (vf) (x.f.length) _ _ rfl (hD 1 81 (by kernel_rfl)) HS9.out) ?_
              refine fsteps_cons 4 rfl (fun a u hE hD hk => f_as (show ((decide (((x.f.length : Int) : Int) = (0 : Int))) : Bool) = true from decide_eq_true (by omega)) (f_val (o := ⟨some 83, _, _, _, _, _⟩) (.bool (decide (((x.f.length : Int) : Int) = (0 : Int)))) rfl (wanted_none rfl _) (exec_eqn (p := (x.f.length : Int)) (q := 0) rfl (hD 2 82 (by kernel_rfl)) rfl) rfl)) ?_
              refine sv 5 rfl rfl rfl (fun a u hE hD hk => exec_move (.tmp 83) _ rfl (hD 3 83 (by kernel_rfl))) ?_
              refine fsteps_cons 6 rfl (fun a u hE hD hk => f_val (o := ⟨some 85, _, _, _, _, _⟩) (.pointer (some ⟨g7, 11, none⟩)) rfl (wanted_at (b := true) true rfl rfl (hD 4 84 (by kernel_rfl))) (exec_fldo 29 3 11 (.tmp 7) (g7) (0) (11) rfl (hE 7 (.pointer (some ⟨g7, 0, none⟩)) (by kernel_rfl) (by kernel_rfl)) (by kernel_rfl) rfl) rfl) ?_
              refine fsteps_cons 7 rfl (fun a u hE hD hk => f_as (show (x.rests : Bool) = true from hr0) (f_val (o := ⟨some 86, _, _, _, _, _⟩) (.bool x.rests) rfl (wanted_at (b := true) true rfl rfl (hD 4 84 (by kernel_rfl))) (exec_ldb 4 Try.underlying4 (.tmp 85) ⟨g7, 11, none⟩ (.bool x.rests) rfl (hD 5 85 (by kernel_rfl)) (by rw [(HC9.out.kept hk).cell]; rfl)) rfl)) ?_
              refine fsteps_cons 8 rfl (fun a u hE hD hk => f_val (o := ⟨some 87, _, _, _, _, _⟩) (.pointer (some ⟨g7, 14, none⟩)) rfl (wanted_at (b := true) true rfl rfl (hD 4 84 (by kernel_rfl))) (exec_fldo 29 6 14 (.tmp 7) (g7) (0) (14) rfl (hE 7 (.pointer (some ⟨g7, 0, none⟩)) (by kernel_rfl) (by kernel_rfl)) (by kernel_rfl) rfl) rfl) ?_
              refine fsteps_cons 9 rfl (fun a u hE hD hk => f_val (o := ⟨some 88, _, _, _, _, _⟩) (.int .i64 x.err) rfl (wanted_at (b := true) true rfl rfl (hD 4 84 (by kernel_rfl))) (exec_loadi 27 Try.underlying27 (.tmp 87) ⟨g7, 14, none⟩ (.int .i64 x.err) rfl (hD 7 87 (by kernel_rfl)) (by rw [(HC9.out.kept hk).cell]; rfl)) rfl) ?_
              refine fsteps_cons 10 rfl (fun a u hE hD hk => f_as (show ((decide ((x.err : Int) = (0 : Int))) : Bool) = true from decide_eq_true he) (f_val (o := ⟨some 89, _, _, _, _, _⟩) (.bool (decide ((x.err : Int) = (0 : Int)))) rfl (wanted_at (b := true) true rfl rfl (hD 4 84 (by kernel_rfl))) (exec_eqn (p := x.err) (q := 0) rfl (hD 8 88 (by kernel_rfl)) rfl) rfl)) ?_
              refine fsteps_cons 11 rfl (fun a u hE hD hk => f_val (o := ⟨some 90, _, _, _, _, _⟩) (.bool true) rfl (wanted_at (b := true) true rfl rfl (hD 4 84 (by kernel_rfl))) (exec_eqb (.tmp 86) (.tmp 89) _ true true true rfl (hD 6 86 (by kernel_rfl)) (hD 9 89 (by kernel_rfl)) rfl) rfl) ?_
              refine sv 12 rfl rfl rfl (fun a u hE hD hk => exec_pick (.tmp 84) (.tmp 90) (.const (.bool false)) (.bool true) rfl (hD 4 84 (by kernel_rfl)) (hD 10 90 (by kernel_rfl))) ?_
              refine sv 13 rfl rfl rfl (fun a u hE hD hk => exec_move (.tmp 91) _ rfl (hD 11 91 (by kernel_rfl))) ?_
              refine fsteps_cons 14 rfl (fun a u hE hD hk => f_call (o := ⟨some 93, _, _, _, _, _⟩) 3 #[] rfl (wanted_at (b := true) true rfl rfl (hD 12 92 (by kernel_rfl))) (exec_call 3 _ [] _ [] Try.func3 (by kernel_rfl) (by kernel_rfl) rfl rfl u) (bruns_gives u)) ?_
              refine sv 15 rfl rfl rfl (fun a u hE hD hk => exec_pick (.tmp 92) (.tmp 93) (.const (.bool false)) (.bool true) rfl (hD 12 92 (by kernel_rfl)) (hD 13 93 (by kernel_rfl))) ?_
              exact fsteps_nil
            intro gv wz hV kz
            rw [show dstsOf _ 15 = [80, 81, 82, 83, 84, 85, 86, 87, 88, 89, 90, 91, 92, 93, 94] by kernel_rfl]
            simp only [fC, fN, sA, sS, sZ, dS, dZ]
            rw [show gv 94 = .bool true from hV 14 94 (by kernel_rfl)]
            clear hV
            refine l_val (o := ⟨some 4, _, _, _, _, _⟩) (.bool true) rfl (exec_assign (.tmp 94) (.bool true) rfl (by kernel_rfl)) ?_
            simp only [Act.put, sA, sS, sZ]
            refine wpList_nil ?_
            go_wp2
            go_ret
            exact ⟨rfl, kw9.trans kz⟩
          · skip
            have hr0 : x.rests = false := by rcases hx2 with h | h; exact absurd h.1 he; exact h.2
            go_upto_region 14 with fail
            refine wp_text 15 [.eq (.pointer (some ⟨g7, 9, none⟩)), .eq (vf), .eq (.int .i64 (x.f.length : Int)), .eq (.bool true), .eq (.bool true), .eq (.pointer (some ⟨g7, 11, none⟩)), .eq (.bool false), .eq (.pointer (some ⟨g7, 14, none⟩)), .eq (.int .i64 x.err), .eq (.bool false), .eq (.bool true), .eq (.bool true), .eq (.bool true), .eq (.bool true), .eq (.bool true)] rfl (by kernel_rfl) ?_ ?_
            · refine sv 1 rfl rfl rfl (fun a u hE hD hk => exec_fldo 29 1 9 (.tmp 7) (g7) (0) (9) rfl (hE 7 (.pointer (some ⟨g7, 0, none⟩)) (by kernel_rfl) (by kernel_rfl)) (by kernel_rfl) rfl) ?_
              refine sv 2 rfl rfl rfl (fun a u hE hD hk => exec_ldv 26 _ Try.underlying26 (.tmp 80) ⟨g7, 9, none⟩ (vf) rfl (hD 0 80 (by kernel_rfl)) (by rw [(HC9.out.kept hk).cell]; rfl)) ?_
              refine sv 3 rfl rfl rfl (fun a u hE hD hk => exec_lenS (.tmp 81) slF (vf) (x.f.length) _ _ rfl (hD 1 81 (by kernel_rfl)) HS9.out) ?_
              refine fsteps_cons 4 rfl (fun a u hE hD hk => f_as (show ((decide (((x.f.length : Int) : Int) = (0 : Int))) : Bool) = true from decide_eq_true (by omega)) (f_val (o := ⟨some 83, _, _, _, _, _⟩) (.bool (decide (((x.f.length : Int) : Int) = (0 : Int)))) rfl (wanted_none rfl _) (exec_eqn (p := (x.f.length : Int)) (q := 0) rfl (hD 2 82 (by kernel_rfl)) rfl) rfl)) ?_
              refine sv 5 rfl rfl rfl (fun a u hE hD hk => exec_move (.tmp 83) _ rfl (hD 3 83 (by kernel_rfl))) ?_
              refine fsteps_cons 6 rfl (fun a u hE hD hk => f_val (o := ⟨some 85, _, _, _, _, _⟩) (.pointer (some ⟨g7, 11, none⟩)) rfl (wanted_at (b := true) true rfl rfl (hD 4 84 (by kernel_rfl))) (exec_fldo 29 3 11 (.tmp 7) (g7) (0) (11) rfl (hE 7 (.pointer (some ⟨g7, 0, none⟩)) (by kernel_rfl) (by kernel_rfl)) (by kernel_rfl) rfl) rfl) ?_
              refine fsteps_cons 7 rfl (fun a u hE hD hk => f_as (show (x.rests : Bool) = false from hr0) (f_val (o := ⟨some 86, _, _, _, _, _⟩) (.bool x.rests) rfl (wanted_at (b := true) true rfl rfl (hD 4 84 (by kernel_rfl))) (exec_ldb 4 Try.underlying4 (.tmp 85) ⟨g7, 11, none⟩ (.bool x.rests) rfl (hD 5 85 (by kernel_rfl)) (by rw [(HC9.out.kept hk).cell]; rfl)) rfl)) ?_
              refine fsteps_cons 8 rfl (fun a u hE hD hk => f_val (o := ⟨some 87, _, _, _, _, _⟩) (.pointer (some ⟨g7, 14, none⟩)) rfl (wanted_at (b := true) true rfl rfl (hD 4 84 (by kernel_rfl))) (exec_fldo 29 6 14 (.tmp 7) (g7) (0) (14) rfl (hE 7 (.pointer (some ⟨g7, 0, none⟩)) (by kernel_rfl) (by kernel_rfl)) (by kernel_rfl) rfl) rfl) ?_
              refine fsteps_cons 9 rfl (fun a u hE hD hk => f_val (o := ⟨some 88, _, _, _, _, _⟩) (.int .i64 x.err) rfl (wanted_at (b := true) true rfl rfl (hD 4 84 (by kernel_rfl))) (exec_loadi 27 Try.underlying27 (.tmp 87) ⟨g7, 14, none⟩ (.int .i64 x.err) rfl (hD 7 87 (by kernel_rfl)) (by rw [(HC9.out.kept hk).cell]; rfl)) rfl) ?_
              refine fsteps_cons 10 rfl (fun a u hE hD hk => f_as (show ((decide ((x.err : Int) = (0 : Int))) : Bool) = false from decide_eq_false he) (f_val (o := ⟨some 89, _, _, _, _, _⟩) (.bool (decide ((x.err : Int) = (0 : Int)))) rfl (wanted_at (b := true) true rfl rfl (hD 4 84 (by kernel_rfl))) (exec_eqn (p := x.err) (q := 0) rfl (hD 8 88 (by kernel_rfl)) rfl) rfl)) ?_
              refine fsteps_cons 11 rfl (fun a u hE hD hk => f_val (o := ⟨some 90, _, _, _, _, _⟩) (.bool true) rfl (wanted_at (b := true) true rfl rfl (hD 4 84 (by kernel_rfl))) (exec_eqb (.tmp 86) (.tmp 89) _ false false true rfl (hD 6 86 (by kernel_rfl)) (hD 9 89 (by kernel_rfl)) rfl) rfl) ?_
              refine sv 12 rfl rfl rfl (fun a u hE hD hk => exec_pick (.tmp 84) (.tmp 90) (.const (.bool false)) (.bool true) rfl (hD 4 84 (by kernel_rfl)) (hD 10 90 (by kernel_rfl))) ?_
              refine sv 13 rfl rfl rfl (fun a u hE hD hk => exec_move (.tmp 91) _ rfl (hD 11 91 (by kernel_rfl))) ?_
              refine fsteps_cons 14 rfl (fun a u hE hD hk => f_call (o := ⟨some 93, _, _, _, _, _⟩) 3 #[] rfl (wanted_at (b := true) true rfl rfl (hD 12 92 (by kernel_rfl))) (exec_call 3 _ [] _ [] Try.func3 (by kernel_rfl) (by kernel_rfl) rfl rfl u) (bruns_gives u)) ?_
              refine sv 15 rfl rfl rfl (fun a u hE hD hk => exec_pick (.tmp 92) (.tmp 93) (.const (.bool false)) (.bool true) rfl (hD 12 92 (by kernel_rfl)) (hD 13 93 (by kernel_rfl))) ?_
              exact fsteps_nil
            intro gv wz hV kz
            rw [show dstsOf _ 15 = [80, 81, 82, 83, 84, 85, 86, 87, 88, 89, 90, 91, 92, 93, 94] by kernel_rfl]
            simp only [fC, fN, sA, sS, sZ, dS, dZ]
            rw [show gv 94 = .bool true from hV 14 94 (by kernel_rfl)]
            clear hV
            refine l_val (o := ⟨some 4, _, _, _, _, _⟩) (.bool true) rfl (exec_assign (.tmp 94) (.bool true) rfl (by kernel_rfl)) ?_
            simp only [Act.put, sA, sS, sZ]
            refine wpList_nil ?_
            go_wp2
            go_ret
            exact ⟨rfl, kw9.trans kz⟩
        · skip
          go_upto_region 13 with fail
          refine wp_text 2 [.eq (.bool false), .eq (.bool false)] rfl (by kernel_rfl) ?_ ?_
          · refine fsteps_cons 1 rfl (fun a u hE hD hk => f_as (show ((decide ((o.k : Int) = (5 : Int))) : Bool) = false from decide_eq_false h5) (f_val (o := ⟨some 79, _, _, _, _, _⟩) (.bool (decide ((o.k : Int) = (5 : Int)))) rfl (wanted_none rfl _) (exec_eqn (p := o.k) (q := 5) rfl (hE 29 (.int .i64 o.k) (by kernel_rfl) (by kernel_rfl)) rfl) rfl)) ?_
            refine sv 2 rfl rfl rfl (fun a u hE hD hk => exec_assign (.tmp 79) _ rfl (hD 0 79 (by kernel_rfl))) ?_
            exact fsteps_nil
          intro gv w9 hV k9
          rw [show dstsOf _ 2 = [79, 78] by kernel_rfl]
          simp only [fC, fN, sA, sS, sZ, dS, dZ]
          rw [show gv 78 = .bool false from hV 1 78 (by kernel_rfl)]
          clear hV
          refine wpList_nil ?_
          have HC9 := Lib.hid (HC8.out.kept k9)
          have HS9 := Lib.hid (HS8.out.kept k9)
          have kw9 := kw8.trans k9
          clear HC8 HS8 kw8 k9
          have h1 : o.k = 1 := by omega
          have hx1 := (HK1.out h1).1
          have hx2 := (HK1.out h1).2
          by_cases hr : x.rests = true
          · skip
            have hft := hx1 hr
            subst hft
            go_upto_region 15 with fail
            refine wp_text 27 [.eq (.pointer (some ⟨g7, 11, none⟩)), .eq (.bool true), .eq (.bool false), .eq (.bool false), .eq (.bool true), .eq (.bool true), .eq (.bool true), .eq (.pointer (some ⟨g7, 11, none⟩)), .eq (.bool true), .eq (.bool true), .eq undef, .eq undef, .eq undef, .eq (.bool true), .eq (.bool true), .eq undef, .eq undef, .eq undef, .eq (.bool true), .eq (.bool true), .eq undef, .eq undef, .eq (.bool true), .eq (.bool true), .eq (.bool true), .eq (.bool true), .eq (.bool true)] rfl (by kernel_rfl) ?_ ?_
            · refine sv 1 rfl rfl rfl (fun a u hE hD hk => exec_fldo 29 3 11 (.tmp 7) (g7) (0) (11) rfl (hE 7 (.pointer (some ⟨g7, 0, none⟩)) (by kernel_rfl) (by kernel_rfl)) (by kernel_rfl) rfl) ?_
              refine fsteps_cons 2 rfl (fun a u hE hD hk => f_as (show (x.rests : Bool) = true from hr) (f_val (o := ⟨some 96, _, _, _, _, _⟩) (.bool x.rests) rfl (wanted_none rfl _) (exec_ldb 4 Try.underlying4 (.tmp 95) ⟨g7, 11, none⟩ (.bool x.rests) rfl (hD 0 95 (by kernel_rfl)) (by rw [(HC9.out.kept hk).cell]; rfl)) rfl)) ?_
              refine sv 3 rfl rfl rfl (fun a u hE hD hk => exec_not _ (.tmp 96) true rfl (hD 1 96 (by kernel_rfl))) ?_
              refine sv 4 rfl rfl rfl (fun a u hE hD hk => exec_move (.tmp 97) _ rfl (hD 2 97 (by kernel_rfl))) ?_
              refine fsteps_cons 5 rfl (fun a u hE hD hk => f_val (o := ⟨some 99, _, _, _, _, _⟩) (.bool true) rfl (wanted_at (b := false) false rfl rfl (hD 3 98 (by kernel_rfl))) (exec_move (.tmp 9) _ rfl (hE 9 (.bool true) (by kernel_rfl) (by kernel_rfl))) rfl) ?_
              refine sv 6 rfl rfl rfl (fun a u hE hD hk => exec_pickF (.tmp 98) (.const (.bool true)) (.tmp 99) (.bool true) rfl (hD 3 98 (by kernel_rfl)) (hD 4 99 (by kernel_rfl))) ?_
              refine sv 7 rfl rfl rfl (fun a u hE hD hk => exec_move (.tmp 100) _ rfl (hD 5 100 (by kernel_rfl))) ?_
              refine fsteps_cons 8 rfl (fun a u hE hD hk => f_val (o := ⟨some 102, _, _, _, _, _⟩) (.pointer (some ⟨g7, 11, none⟩)) rfl (wanted_at (b := true) true rfl rfl (hD 6 101 (by kernel_rfl))) (exec_fldo 29 3 11 (.tmp 7) (g7) (0) (11) rfl (hE 7 (.pointer (some ⟨g7, 0, none⟩)) (by kernel_rfl) (by kernel_rfl)) (by kernel_rfl) rfl) rfl) ?_
              refine fsteps_cons 9 rfl (fun a u hE hD hk => f_as (show (x.rests : Bool) = true from hr) (f_val (o := ⟨some 103, _, _, _, _, _⟩) (.bool x.rests) rfl (wanted_at (b := true) true rfl rfl (hD 6 101 (by kernel_rfl))) (exec_ldb 4 Try.underlying4 (.tmp 102) ⟨g7, 11, none⟩ (.bool x.rests) rfl (hD 7 102 (by kernel_rfl)) (by rw [(HC9.out.kept hk).cell]; rfl)) rfl)) ?_
              refine fsteps_cons 10 rfl (fun a u hE hD hk => f_val (o := ⟨some 104, _, _, _, _, _⟩) (.bool true) rfl (wanted_at (b := true) true rfl rfl (hD 6 101 (by kernel_rfl))) (exec_move (.tmp 103) _ rfl (hD 8 103 (by kernel_rfl))) rfl) ?_
              refine fsteps_cons 11 rfl (fun a u hE hD hk => f_skip (o := ⟨some 105, _, _, _, _, _⟩) rfl (wanted_at (b := false) true rfl rfl (hD 9 104 (by kernel_rfl))) rfl) ?_
              refine fsteps_cons 12 rfl (fun a u hE hD hk => f_skip (o := ⟨some 106, _, _, _, _, _⟩) rfl (wanted_at (b := false) true rfl rfl (hD 9 104 (by kernel_rfl))) rfl) ?_
              refine fsteps_cons 13 rfl (fun a u hE hD hk => f_skip (o := ⟨some 107, _, _, _, _, _⟩) rfl (wanted_at (b := false) true rfl rfl (hD 9 104 (by kernel_rfl))) rfl) ?_
              refine fsteps_cons 14 rfl (fun a u hE hD hk => f_val (o := ⟨some 108, _, _, _, _, _⟩) (.bool true) rfl (wanted_at (b := true) true rfl rfl (hD 6 101 (by kernel_rfl))) (exec_pick (.tmp 104) (.const (.bool true)) (.tmp 107) (.bool true) rfl (hD 9 104 (by kernel_rfl)) rfl) rfl) ?_
              refine fsteps_cons 15 rfl (fun a u hE hD hk => f_val (o := ⟨some 109, _, _, _, _, _⟩) (.bool true) rfl (wanted_at (b := true) true rfl rfl (hD 6 101 (by kernel_rfl))) (exec_move (.tmp 108) _ rfl (hD 13 108 (by kernel_rfl))) rfl) ?_
              refine fsteps_cons 16 rfl (fun a u hE hD hk => f_skip (o := ⟨some 110, _, _, _, _, _⟩) rfl (wanted_at (b := false) true rfl rfl (hD 14 109 (by kernel_rfl))) rfl) ?_
              refine fsteps_cons 17 rfl (fun a u hE hD hk => f_skip (o := ⟨some 111, _, _, _, _, _⟩) rfl (wanted_at (b := false) true rfl rfl (hD 14 109 (by kernel_rfl))) rfl) ?_
              refine fsteps_cons 18 rfl (fun a u hE hD hk => f_skip (o := ⟨some 112, _, _, _, _, _⟩) rfl (wanted_at (b := false) true rfl rfl (hD 14 109 (by kernel_rfl))) rfl) ?_
              refine fsteps_cons 19 rfl (fun a u hE hD hk => f_val (o := ⟨some 113, _, _, _, _, _⟩) (.bool true) rfl (wanted_at (b := true) true rfl rfl (hD 6 101 (by kernel_rfl))) (exec_pick (.tmp 109) (.const (.bool true)) (.tmp 112) (.bool true) rfl (hD 14 109 (by kernel_rfl)) rfl) rfl) ?_
              refine fsteps_cons 20 rfl (fun a u hE hD hk => f_val (o := ⟨some 114, _, _, _, _, _⟩) (.bool true) rfl (wanted_at (b := true) true rfl rfl (hD 6 101 (by kernel_rfl))) (exec_move (.tmp 113) _ rfl (hD 18 113 (by kernel_rfl))) rfl) ?_
              refine fsteps_cons 21 rfl (fun a u hE hD hk => f_skip (o := ⟨some 115, _, _, _, _, _⟩) rfl (wanted_at (b := false) true rfl rfl (hD 19 114 (by kernel_rfl))) rfl) ?_
              refine fsteps_cons 22 rfl (fun a u hE hD hk => f_skip (o := ⟨some 116, _, _, _, _, _⟩) rfl (wanted_at (b := false) true rfl rfl (hD 19 114 (by kernel_rfl))) rfl) ?_
              refine fsteps_cons 23 rfl (fun a u hE hD hk => f_val (o := ⟨some 117, _, _, _, _, _⟩) (.bool true) rfl (wanted_at (b := true) true rfl rfl (hD 6 101 (by kernel_rfl))) (exec_pick (.tmp 114) (.const (.bool true)) (.tmp 116) (.bool true) rfl (hD 19 114 (by kernel_rfl)) rfl) rfl) ?_
              refine sv 24 rfl rfl rfl (fun a u hE hD hk => exec_pick (.tmp 101) (.tmp 117) (.const (.bool false)) (.bool true) rfl (hD 6 101 (by kernel_rfl)) (hD 22 117 (by kernel_rfl))) ?_
              refine sv 25 rfl rfl rfl (fun a u hE hD hk => exec_move (.tmp 118) _ rfl (hD 23 118 (by kernel_rfl))) ?_
              refine fsteps_cons 26 rfl (fun a u hE hD hk => f_call (o := ⟨some 120, _, _, _, _, _⟩) 3 #[] rfl (wanted_at (b := true) true rfl rfl (hD 24 119 (by kernel_rfl))) (exec_call 3 _ [] _ [] Try.func3 (by kernel_rfl) (by kernel_rfl) rfl rfl u) (bruns_gives u)) ?_
              refine sv 27 rfl rfl rfl (fun a u hE hD hk => exec_pick (.tmp 119) (.tmp 120) (.const (.bool false)) (.bool true) rfl (hD 24 119 (by kernel_rfl)) (hD 25 120 (by kernel_rfl))) ?_
              exact fsteps_nil
            intro gv wz hV kz
            rw [show dstsOf _ 27 = [95, 96, 97, 98, 99, 100, 101, 102, 103, 104, 105, 106, 107, 108, 109, 110, 111, 112, 113, 114, 115, 116, 117, 118, 119, 120, 121] by kernel_rfl]
            simp only [fC, fN, sA, sS, sZ, dS, dZ]
            rw [show gv 121 = .bool true from hV 26 121 (by kernel_rfl)]
            clear hV
            refine l_val (o := ⟨some 4, _, _, _, _, _⟩) (.bool true) rfl (exec_assign (.tmp 121) (.bool true) rfl (by kernel_rfl)) ?_
            simp only [Act.put, sA, sS, sZ]
            refine wpList_nil ?_
            go_wp2
            go_ret
            exact ⟨rfl, kw9.trans kz⟩
          · skip
            have hr0 : x.rests = false := by simpa using hr
            by_cases he : x.err = 0
            · skip
              by_cases hl0 : x.left = 0
              · skip
                go_upto_region 15 with fail
                refine wp_text 27 [.eq (.pointer (some ⟨g7, 11, none⟩)), .eq (.bool false), .eq (.bool true), .eq (.bool true), .eq undef, .eq (.bool true), .eq (.bool true), .eq (.pointer (some ⟨g7, 11, none⟩)), .eq (.bool false), .eq (.bool false), .eq (.pointer (some ⟨g7, 14, none⟩)), .eq (.int .i64 x.err), .eq (.bool false), .eq (.bool false), .eq (.bool false), .eq (.pointer (some ⟨g7, 10, none⟩)), .eq (.int .i64 x.left), .eq (.bool true), .eq (.bool true), .eq (.bool true), .eq undef, .eq undef, .eq (.bool true), .eq (.bool true), .eq (.bool true), .eq (.bool true), .eq (.bool true)] rfl (by kernel_rfl) ?_ ?_
                · refine sv 1 rfl rfl rfl (fun a u hE hD hk => exec_fldo 29 3 11 (.tmp 7) (g7) (0) (11) rfl (hE 7 (.pointer (some ⟨g7, 0, none⟩)) (by kernel_rfl) (by kernel_rfl)) (by kernel_rfl) rfl) ?_
                  refine fsteps_cons 2 rfl (fun a u hE hD hk => f_as (show (x.rests : Bool) = false from hr0) (f_val (o := ⟨some 96, _, _, _, _, _⟩) (.bool x.rests) rfl (wanted_none rfl _) (exec_ldb 4 Try.underlying4 (.tmp 95) ⟨g7, 11, none⟩ (.bool x.rests) rfl (hD 0 95 (by kernel_rfl)) (by rw [(HC9.out.kept hk).cell]; rfl)) rfl)) ?_
                  refine sv 3 rfl rfl rfl (fun a u hE hD hk => exec_not _ (.tmp 96) false rfl (hD 1 96 (by kernel_rfl))) ?_
                  refine sv 4 rfl rfl rfl (fun a u hE hD hk => exec_move (.tmp 97) _ rfl (hD 2 97 (by kernel_rfl))) ?_
                  refine fsteps_cons 5 rfl (fun a u hE hD hk => f_skip (o := ⟨some 99, _, _, _, _, _⟩) rfl (wanted_at (b := false) true rfl rfl (hD 3 98 (by kernel_rfl))) rfl) ?_
                  refine sv 6 rfl rfl rfl (fun a u hE hD hk => exec_pick (.tmp 98) (.const (.bool true)) (.tmp 99) (.bool true) rfl (hD 3 98 (by kernel_rfl)) rfl) ?_
                  refine sv 7 rfl rfl rfl (fun a u hE hD hk => exec_move (.tmp 100) _ rfl (hD 5 100 (by kernel_rfl))) ?_
                  refine fsteps_cons 8 rfl (fun a u hE hD hk => f_val (o := ⟨some 102, _, _, _, _, _⟩) (.pointer (some ⟨g7, 11, none⟩)) rfl (wanted_at (b := true) true rfl rfl (hD 6 101 (by kernel_rfl))) (exec_fldo 29 3 11 (.tmp 7) (g7) (0) (11) rfl (hE 7 (.pointer (some ⟨g7, 0, none⟩)) (by kernel_rfl) (by kernel_rfl)) (by kernel_rfl) rfl) rfl) ?_
                  refine fsteps_cons 9 rfl (fun a u hE hD hk => f_as (show (x.rests : Bool) = false from hr0) (f_val (o := ⟨some 103, _, _, _, _, _⟩) (.bool x.rests) rfl (wanted_at (b := true) true rfl rfl (hD 6 101 (by kernel_rfl))) (exec_ldb 4 Try.underlying4 (.tmp 102) ⟨g7, 11, none⟩ (.bool x.rests) rfl (hD 7 102 (by kernel_rfl)) (by rw [(HC9.out.kept hk).cell]; rfl)) rfl)) ?_
                  refine fsteps_cons 10 rfl (fun a u hE hD hk => f_val (o := ⟨some 104, _, _, _, _, _⟩) (.bool false) rfl (wanted_at (b := true) true rfl rfl (hD 6 101 (by kernel_rfl))) (exec_move (.tmp 103) _ rfl (hD 8 103 (by kernel_rfl))) rfl) ?_
                  refine fsteps_cons 11 rfl (fun a u hE hD hk => f_val (o := ⟨some 105, _, _, _, _, _⟩) (.pointer (some ⟨g7, 14, none⟩)) rfl (wanted_at (b := false) false rfl rfl (hD 9 104 (by kernel_rfl))) (exec_fldo 29 6 14 (.tmp 7) (g7) (0) (14) rfl (hE 7 (.pointer (some ⟨g7, 0, none⟩)) (by kernel_rfl) (by kernel_rfl)) (by kernel_rfl) rfl) rfl) ?_
                  refine fsteps_cons 12 rfl (fun a u hE hD hk => f_val (o := ⟨some 106, _, _, _, _, _⟩) (.int .i64 x.err) rfl (wanted_at (b := false) false rfl rfl (hD 9 104 (by kernel_rfl))) (exec_loadi 27 Try.underlying27 (.tmp 105) ⟨g7, 14, none⟩ (.int .i64 x.err) rfl (hD 10 105 (by kernel_rfl)) (by rw [(HC9.out.kept hk).cell]; rfl)) rfl) ?_
                  refine fsteps_cons 13 rfl (fun a u hE hD hk => f_as (show ((decide ((x.err : Int) ≠ (0 : Int))) : Bool) = false from decide_eq_false (fun h => h he)) (f_val (o := ⟨some 107, _, _, _, _, _⟩) (.bool (decide ((x.err : Int) ≠ (0 : Int)))) rfl (wanted_at (b := false) false rfl rfl (hD 9 104 (by kernel_rfl))) (exec_nen (p := x.err) (q := 0) rfl (hD 11 106 (by kernel_rfl)) rfl) rfl)) ?_
                  refine fsteps_cons 14 rfl (fun a u hE hD hk => f_val (o := ⟨some 108, _, _, _, _, _⟩) (.bool false) rfl (wanted_at (b := true) true rfl rfl (hD 6 101 (by kernel_rfl))) (exec_pickF (.tmp 104) (.const (.bool true)) (.tmp 107) (.bool false) rfl (hD 9 104 (by kernel_rfl)) (hD 12 107 (by kernel_rfl))) rfl) ?_
                  refine fsteps_cons 15 rfl (fun a u hE hD hk => f_val (o := ⟨some 109, _, _, _, _, _⟩) (.bool false) rfl (wanted_at (b := true) true rfl rfl (hD 6 101 (by kernel_rfl))) (exec_move (.tmp 108) _ rfl (hD 13 108 (by kernel_rfl))) rfl) ?_
                  refine fsteps_cons 16 rfl (fun a u hE hD hk => f_val (o := ⟨some 110, _, _, _, _, _⟩) (.pointer (some ⟨g7, 10, none⟩)) rfl (wanted_at (b := false) false rfl rfl (hD 14 109 (by kernel_rfl))) (exec_fldo 29 2 10 (.tmp 7) (g7) (0) (10) rfl (hE 7 (.pointer (some ⟨g7, 0, none⟩)) (by kernel_rfl) (by kernel_rfl)) (by kernel_rfl) rfl) rfl) ?_
                  refine fsteps_cons 17 rfl (fun a u hE hD hk => f_val (o := ⟨some 111, _, _, _, _, _⟩) (.int .i64 x.left) rfl (wanted_at (b := false) false rfl rfl (hD 14 109 (by kernel_rfl))) (exec_loadi 3 Try.underlying3 (.tmp 110) ⟨g7, 10, none⟩ (.int .i64 x.left) rfl (hD 15 110 (by kernel_rfl)) (by rw [(HC9.out.kept hk).cell]; rfl)) rfl) ?_
                  refine fsteps_cons 18 rfl (fun a u hE hD hk => f_as (show ((decide ((x.left : Int) = (0 : Int))) : Bool) = true from decide_eq_true hl0) (f_val (o := ⟨some 112, _, _, _, _, _⟩) (.bool (decide ((x.left : Int) = (0 : Int)))) rfl (wanted_at (b := false) false rfl rfl (hD 14 109 (by kernel_rfl))) (exec_eqn (p := x.left) (q := 0) rfl (hD 16 111 (by kernel_rfl)) rfl) rfl)) ?_
                  refine fsteps_cons 19 rfl (fun a u hE hD hk => f_val (o := ⟨some 113, _, _, _, _, _⟩) (.bool true) rfl (wanted_at (b := true) true rfl rfl (hD 6 101 (by kernel_rfl))) (exec_pickF (.tmp 109) (.const (.bool true)) (.tmp 112) (.bool true) rfl (hD 14 109 (by kernel_rfl)) (hD 17 112 (by kernel_rfl))) rfl) ?_
                  refine fsteps_cons 20 rfl (fun a u hE hD hk => f_val (o := ⟨some 114, _, _, _, _, _⟩) (.bool true) rfl (wanted_at (b := true) true rfl rfl (hD 6 101 (by kernel_rfl))) (exec_move (.tmp 113) _ rfl (hD 18 113 (by kernel_rfl))) rfl) ?_
                  refine fsteps_cons 21 rfl (fun a u hE hD hk => f_skip (o := ⟨some 115, _, _, _, _, _⟩) rfl (wanted_at (b := false) true rfl rfl (hD 19 114 (by kernel_rfl))) rfl) ?_
                  refine fsteps_cons 22 rfl (fun a u hE hD hk => f_skip (o := ⟨some 116, _, _, _, _, _⟩) rfl (wanted_at (b := false) true rfl rfl (hD 19 114 (by kernel_rfl))) rfl) ?_
                  refine fsteps_cons 23 rfl (fun a u hE hD hk => f_val (o := ⟨some 117, _, _, _, _, _⟩) (.bool true) rfl (wanted_at (b := true) true rfl rfl (hD 6 101 (by kernel_rfl))) (exec_pick (.tmp 114) (.const (.bool true)) (.tmp 116) (.bool true) rfl (hD 19 114 (by kernel_rfl)) rfl) rfl) ?_
                  refine sv 24 rfl rfl rfl (fun a u hE hD hk => exec_pick (.tmp 101) (.tmp 117) (.const (.bool false)) (.bool true) rfl (hD 6 101 (by kernel_rfl)) (hD 22 117 (by kernel_rfl))) ?_
                  refine sv 25 rfl rfl rfl (fun a u hE hD hk => exec_move (.tmp 118) _ rfl (hD 23 118 (by kernel_rfl))) ?_
                  refine fsteps_cons 26 rfl (fun a u hE hD hk => f_call (o := ⟨some 120, _, _, _, _, _⟩) 3 #[] rfl (wanted_at (b := true) true rfl rfl (hD 24 119 (by kernel_rfl))) (exec_call 3 _ [] _ [] Try.func3 (by kernel_rfl) (by kernel_rfl) rfl rfl u) (bruns_gives u)) ?_
                  refine sv 27 rfl rfl rfl (fun a u hE hD hk => exec_pick (.tmp 119) (.tmp 120) (.const (.bool false)) (.bool true) rfl (hD 24 119 (by kernel_rfl)) (hD 25 120 (by kernel_rfl))) ?_
                  exact fsteps_nil
                intro gv wz hV kz
                rw [show dstsOf _ 27 = [95, 96, 97, 98, 99, 100, 101, 102, 103, 104, 105, 106, 107, 108, 109, 110, 111, 112, 113, 114, 115, 116, 117, 118, 119, 120, 121] by kernel_rfl]
                simp only [fC, fN, sA, sS, sZ, dS, dZ]
                rw [show gv 121 = .bool true from hV 26 121 (by kernel_rfl)]
                clear hV
                refine l_val (o := ⟨some 4, _, _, _, _, _⟩) (.bool true) rfl (exec_assign (.tmp 121) (.bool true) rfl (by kernel_rfl)) ?_
                simp only [Act.put, sA, sS, sZ]
                refine wpList_nil ?_
                go_wp2
                go_ret
                exact ⟨rfl, kw9.trans kz⟩
              · skip
                have hs0 : x.self = true := by rcases hx2 with h | h | h | h; exact absurd h hr; exact absurd he h; exact absurd h hl0; exact h
                go_upto_region 15 with fail
                refine wp_text 27 [.eq (.pointer (some ⟨g7, 11, none⟩)), .eq (.bool false), .eq (.bool true), .eq (.bool true), .eq undef, .eq (.bool true), .eq (.bool true), .eq (.pointer (some ⟨g7, 11, none⟩)), .eq (.bool false), .eq (.bool false), .eq (.pointer (some ⟨g7, 14, none⟩)), .eq (.int .i64 x.err), .eq (.bool false), .eq (.bool false), .eq (.bool false), .eq (.pointer (some ⟨g7, 10, none⟩)), .eq (.int .i64 x.left), .eq (.bool false), .eq (.bool false), .eq (.bool false), .eq (.pointer (some ⟨g7, 13, none⟩)), .eq (.bool true), .eq (.bool true), .eq (.bool true), .eq (.bool true), .eq (.bool true), .eq (.bool true)] rfl (by kernel_rfl) ?_ ?_
                · refine sv 1 rfl rfl rfl (fun a u hE hD hk => exec_fldo 29 3 11 (.tmp 7) (g7) (0) (11) rfl (hE 7 (.pointer (some ⟨g7, 0, none⟩)) (by kernel_rfl) (by kernel_rfl)) (by kernel_rfl) rfl) ?_
                  refine fsteps_cons 2 rfl (fun a u hE hD hk => f_as (show (x.rests : Bool) = false from hr0) (f_val (o := ⟨some 96, _, _, _, _, _⟩) (.bool x.rests) rfl (wanted_none rfl _) (exec_ldb 4 Try.underlying4 (.tmp 95) ⟨g7, 11, none⟩ (.bool x.rests) rfl (hD 0 95 (by kernel_rfl)) (by rw [(HC9.out.kept hk).cell]; rfl)) rfl)) ?_
                  refine sv 3 rfl rfl rfl (fun a u hE hD hk => exec_not _ (.tmp 96) false rfl (hD 1 96 (by kernel_rfl))) ?_
                  refine sv 4 rfl rfl rfl (fun a u hE hD hk => exec_move (.tmp 97) _ rfl (hD 2 97 (by kernel_rfl))) ?_
                  refine fsteps_cons 5 rfl (fun a u hE hD hk => f_skip (o := ⟨some 99, _, _, _, _, _⟩) rfl (wanted_at (b := false) true rfl rfl (hD 3 98 (by kernel_rfl))) rfl) ?_
                  refine sv 6 rfl rfl rfl (fun a u hE hD hk => exec_pick (.tmp 98) (.const (.bool true)) (.tmp 99) (.bool true) rfl (hD 3 98 (by kernel_rfl)) rfl) ?_
                  refine sv 7 rfl rfl rfl (fun a u hE hD hk => exec_move (.tmp 100) _ rfl (hD 5 100 (by kernel_rfl))) ?_
                  refine fsteps_cons 8 rfl (fun a u hE hD hk => f_val (o := ⟨some 102, _, _, _, _, _⟩) (.pointer (some ⟨g7, 11, none⟩)) rfl (wanted_at (b := true) true rfl rfl (hD 6 101 (by kernel_rfl))) (exec_fldo 29 3 11 (.tmp 7) (g7) (0) (11) rfl (hE 7 (.pointer (some ⟨g7, 0, none⟩)) (by kernel_rfl) (by kernel_rfl)) (by kernel_rfl) rfl) rfl) ?_
                  refine fsteps_cons 9 rfl (fun a u hE hD hk => f_as (show (x.rests : Bool) = false from hr0) (f_val (o := ⟨some 103, _, _, _, _, _⟩) (.bool x.rests) rfl (wanted_at (b := true) true rfl rfl (hD 6 101 (by kernel_rfl))) (exec_ldb 4 Try.underlying4 (.tmp 102) ⟨g7, 11, none⟩ (.bool x.rests) rfl (hD 7 102 (by kernel_rfl)) (by rw [(HC9.out.kept hk).cell]; rfl)) rfl)) ?_
                  refine fsteps_cons 10 rfl (fun a u hE hD hk => f_val (o := ⟨some 104, _, _, _, _, _⟩) (.bool false) rfl (wanted_at (b := true) true rfl rfl (hD 6 101 (by kernel_rfl))) (exec_move (.tmp 103) _ rfl (hD 8 103 (by kernel_rfl))) rfl) ?_
                  refine fsteps_cons 11 rfl (fun a u hE hD hk => f_val (o := ⟨some 105, _, _, _, _, _⟩) (.pointer (some ⟨g7, 14, none⟩)) rfl (wanted_at (b := false) false rfl rfl (hD 9 104 (by kernel_rfl))) (exec_fldo 29 6 14 (.tmp 7) (g7) (0) (14) rfl (hE 7 (.pointer (some ⟨g7, 0, none⟩)) (by kernel_rfl) (by kernel_rfl)) (by kernel_rfl) rfl) rfl) ?_
                  refine fsteps_cons 12 rfl (fun a u hE hD hk => f_val (o := ⟨some 106, _, _, _, _, _⟩) (.int .i64 x.err) rfl (wanted_at (b := false) false rfl rfl (hD 9 104 (by kernel_rfl))) (exec_loadi 27 Try.underlying27 (.tmp 105) ⟨g7, 14, none⟩ (.int .i64 x.err) rfl (hD 10 105 (by kernel_rfl)) (by rw [(HC9.out.kept hk).cell]; rfl)) rfl) ?_
                  refine fsteps_cons 13 rfl (fun a u hE hD hk => f_as (show ((decide ((x.err : Int) ≠ (0 : Int))) : Bool) = false from decide_eq_false (fun h => h he)) (f_val (o := ⟨some 107, _, _, _, _, _⟩) (.bool (decide ((x.err : Int) ≠ (0 : Int)))) rfl (wanted_at (b := false) false rfl rfl (hD 9 104 (by kernel_rfl))) (exec_nen (p := x.err) (q := 0) rfl (hD 11 106 (by kernel_rfl)) rfl) rfl)) ?_
                  refine fsteps_cons 14 rfl (fun a u hE hD hk => f_val (o := ⟨some 108, _, _, _, _, _⟩) (.bool false) rfl (wanted_at (b := true) true rfl rfl (hD 6 101 (by kernel_rfl))) (exec_pickF (.tmp 104) (.const (.bool true)) (.tmp 107) (.bool false) rfl (hD 9 104 (by kernel_rfl)) (hD 12 107 (by kernel_rfl))) rfl) ?_
                  refine fsteps_cons 15 rfl (fun a u hE hD hk => f_val (o := ⟨some 109, _, _, _, _, _⟩) (.bool false) rfl (wanted_at (b := true) true rfl rfl (hD 6 101 (by kernel_rfl))) (exec_move (.tmp 108) _ rfl (hD 13 108 (by kernel_rfl))) rfl) ?_
                  refine fsteps_cons 16 rfl (fun a u hE hD hk => f_val (o := ⟨some 110, _, _, _, _, _⟩) (.pointer (some ⟨g7, 10, none⟩)) rfl (wanted_at (b := false) false rfl rfl (hD 14 109 (by kernel_rfl))) (exec_fldo 29 2 10 (.tmp 7) (g7) (0) (10) rfl (hE 7 (.pointer (some ⟨g7, 0, none⟩)) (by kernel_rfl) (by kernel_rfl)) (by kernel_rfl) rfl) rfl) ?_
                  refine fsteps_cons 17 rfl (fun a u hE hD hk => f_val (o := ⟨some 111, _, _, _, _, _⟩) (.int .i64 x.left) rfl (wanted_at (b := false) false rfl rfl (hD 14 109 (by kernel_rfl))) (exec_loadi 3 Try.underlying3 (.tmp 110) ⟨g7, 10, none⟩ (.int .i64 x.left) rfl (hD 15 110 (by kernel_rfl)) (by rw [(HC9.out.kept hk).cell]; rfl)) rfl) ?_
                  refine fsteps_cons 18 rfl (fun a u hE hD hk => f_as (show ((decide ((x.left : Int) = (0 : Int))) : Bool) = false from decide_eq_false hl0) (f_val (o := ⟨some 112, _, _, _, _, _⟩) (.bool (decide ((x.left : Int) = (0 : Int)))) rfl (wanted_at (b := false) false rfl rfl (hD 14 109 (by kernel_rfl))) (exec_eqn (p := x.left) (q := 0) rfl (hD 16 111 (by kernel_rfl)) rfl) rfl)) ?_
                  refine fsteps_cons 19 rfl (fun a u hE hD hk => f_val (o := ⟨some 113, _, _, _, _, _⟩) (.bool false) rfl (wanted_at (b := true) true rfl rfl (hD 6 101 (by kernel_rfl))) (exec_pickF (.tmp 109) (.const (.bool true)) (.tmp 112) (.bool false) rfl (hD 14 109 (by kernel_rfl)) (hD 17 112 (by kernel_rfl))) rfl) ?_
                  refine fsteps_cons 20 rfl (fun a u hE hD hk => f_val (o := ⟨some 114, _, _, _, _, _⟩) (.bool false) rfl (wanted_at (b := true) true rfl rfl (hD 6 101 (by kernel_rfl))) (exec_move (.tmp 113) _ rfl (hD 18 113 (by kernel_rfl))) rfl) ?_
                  refine fsteps_cons 21 rfl (fun a u hE hD hk => f_val (o := ⟨some 115, _, _, _, _, _⟩) (.pointer (some ⟨g7, 13, none⟩)) rfl (wanted_at (b := false) false rfl rfl (hD 19 114 (by kernel_rfl))) (exec_fldo 29 5 13 (.tmp 7) (g7) (0) (13) rfl (hE 7 (.pointer (some ⟨g7, 0, none⟩)) (by kernel_rfl) (by kernel_rfl)) (by kernel_rfl) rfl) rfl) ?_
                  refine fsteps_cons 22 rfl (fun a u hE hD hk => f_as (show (x.self : Bool) = true from hs0) (f_val (o := ⟨some 116, _, _, _, _, _⟩) (.bool x.self) rfl (wanted_at (b := false) false rfl rfl (hD 19 114 (by kernel_rfl))) (exec_ldb 4 Try.underlying4 (.tmp 115) ⟨g7, 13, none⟩ (.bool x.self) rfl (hD 20 115 (by kernel_rfl)) (by rw [(HC9.out.kept hk).cell]; rfl)) rfl)) ?_
                  refine fsteps_cons 23 rfl (fun a u hE hD hk => f_val (o := ⟨some 117, _, _, _, _, _⟩) (.bool true) rfl (wanted_at (b := true) true rfl rfl (hD 6 101 (by kernel_rfl))) (exec_pickF (.tmp 114) (.const (.bool true)) (.tmp 116) (.bool true) rfl (hD 19 114 (by kernel_rfl)) (hD 21 116 (by kernel_rfl))) rfl) ?_
                  refine sv 24 rfl rfl rfl (fun a u hE hD hk => exec_pick (.tmp 101) (.tmp 117) (.const (.bool false)) (.bool true) rfl (hD 6 101 (by kernel_rfl)) (hD 22 117 (by kernel_rfl))) ?_
                  refine sv 25 rfl rfl rfl (fun a u hE hD hk => exec_move (.tmp 118) _ rfl (hD 23 118 (by kernel_rfl))) ?_
                  refine fsteps_cons 26 rfl (fun a u hE hD hk => f_call (o := ⟨some 120, _, _, _, _, _⟩) 3 #[] rfl (wanted_at (b := true) true rfl rfl (hD 24 119 (by kernel_rfl))) (exec_call 3 _ [] _ [] Try.func3 (by kernel_rfl) (by kernel_rfl) rfl rfl u) (bruns_gives u)) ?_
                  refine sv 27 rfl rfl rfl (fun a u hE hD hk => exec_pick (.tmp 119) (.tmp 120) (.const (.bool false)) (.bool true) rfl (hD 24 119 (by kernel_rfl)) (hD 25 120 (by kernel_rfl))) ?_
                  exact fsteps_nil
                intro gv wz hV kz
                rw [show dstsOf _ 27 = [95, 96, 97, 98, 99, 100, 101, 102, 103, 104, 105, 106, 107, 108, 109, 110, 111, 112, 113, 114, 115, 116, 117, 118, 119, 120, 121] by kernel_rfl]
                simp only [fC, fN, sA, sS, sZ, dS, dZ]
                rw [show gv 121 = .bool true from hV 26 121 (by kernel_rfl)]
                clear hV
                refine l_val (o := ⟨some 4, _, _, _, _, _⟩) (.bool true) rfl (exec_assign (.tmp 121) (.bool true) rfl (by kernel_rfl)) ?_
                simp only [Act.put, sA, sS, sZ]
                refine wpList_nil ?_
                go_wp2
                go_ret
                exact ⟨rfl, kw9.trans kz⟩
            · skip
              go_upto_region 15 with fail
              refine wp_text 27 [.eq (.pointer (some ⟨g7, 11, none⟩)), .eq (.bool false), .eq (.bool true), .eq (.bool true), .eq undef, .eq (.bool true), .eq (.bool true), .eq (.pointer (some ⟨g7, 11, none⟩)), .eq (.bool false), .eq (.bool false), .eq (.pointer (some ⟨g7, 14, none⟩)), .eq (.int .i64 x.err), .eq (.bool true), .eq (.bool true), .eq (.bool true), .eq undef, .eq undef, .eq undef, .eq (.bool true), .eq (.bool true), .eq undef, .eq undef, .eq (.bool true), .eq (.bool true), .eq (.bool true), .eq (.bool true), .eq (.bool true)] rfl (by kernel_rfl) ?_ ?_
              · refine sv 1 rfl rfl rfl (fun a u hE hD hk => exec_fldo 29 3 11 (.tmp 7) (g7) (0) (11) rfl (hE 7 (.pointer (some ⟨g7, 0, none⟩)) (by kernel_rfl) (by kernel_rfl)) (by kernel_rfl) rfl) ?_
                refine fsteps_cons 2 rfl (fun a u hE hD hk => f_as (show (x.rests : Bool) = false from hr0) (f_val (o := ⟨some 96, _, _, _, _, _⟩) (.bool x.rests) rfl (wanted_none rfl _) (exec_ldb 4 Try.underlying4 (.tmp 95) ⟨g7, 11, none⟩ (.bool x.rests) rfl (hD 0 95 (by kernel_rfl)) (by rw [(HC9.out.kept hk).cell]; rfl)) rfl)) ?_
                refine sv 3 rfl rfl rfl (fun a u hE hD hk => exec_not _ (.tmp 96) false rfl (hD 1 96 (by kernel_rfl))) ?_
                refine sv 4 rfl rfl rfl (fun a u hE hD hk => exec_move (.tmp 97) _ rfl (hD 2 97 (by kernel_rfl))) ?_
                refine fsteps_cons 5 rfl (fun a u hE hD hk => f_skip (o := ⟨some 99, _, _, _, _, _⟩) rfl (wanted_at (b := false) true rfl rfl (hD 3 98 (by kernel_rfl))) rfl) ?_
                refine sv 6 rfl rfl rfl (fun a u hE hD hk => exec_pick (.tmp 98) (.const (.bool true)) (.tmp 99) (.bool true) rfl (hD 3 98 (by kernel_rfl)) rfl) ?_
                refine sv 7 rfl rfl rfl (fun a u hE hD hk => exec_move (.tmp 100) _ rfl (hD 5 100 (by kernel_rfl))) ?_
                refine fsteps_cons 8 rfl (fun a u hE hD hk => f_val (o := ⟨some 102, _, _, _, _, _⟩) (.pointer (some ⟨g7, 11, none⟩)) rfl (wanted_at (b := true) true rfl rfl (hD 6 101 (by kernel_rfl))) (exec_fldo 29 3 11 (.tmp 7) (g7) (0) (11) rfl (hE 7 (.pointer (some ⟨g7, 0, none⟩)) (by kernel_rfl) (by kernel_rfl)) (by kernel_rfl) rfl) rfl) ?_
                refine fsteps_cons 9 rfl (fun a u hE hD hk => f_as (show (x.rests : Bool) = false from hr0) (f_val (o := ⟨some 103, _, _, _, _, _⟩) (.bool x.rests) rfl (wanted_at (b := true) true rfl rfl (hD 6 101 (by kernel_rfl))) (exec_ldb 4 Try.underlying4 (.tmp 102) ⟨g7, 11, none⟩ (.bool x.rests) rfl (hD 7 102 (by kernel_rfl)) (by rw [(HC9.out.kept hk).cell]; rfl)) rfl)) ?_
                refine fsteps_cons 10 rfl (fun a u hE hD hk => f_val (o := ⟨some 104, _, _, _, _, _⟩) (.bool false) rfl (wanted_at (b := true) true rfl rfl (hD 6 101 (by kernel_rfl))) (exec_move (.tmp 103) _ rfl (hD 8 103 (by kernel_rfl))) rfl) ?_
                refine fsteps_cons 11 rfl (fun a u hE hD hk => f_val (o := ⟨some 105, _, _, _, _, _⟩) (.pointer (some ⟨g7, 14, none⟩)) rfl (wanted_at (b := false) false rfl rfl (hD 9 104 (by kernel_rfl))) (exec_fldo 29 6 14 (.tmp 7) (g7) (0) (14) rfl (hE 7 (.pointer (some ⟨g7, 0, none⟩)) (by kernel_rfl) (by kernel_rfl)) (by kernel_rfl) rfl) rfl) ?_
                refine fsteps_cons 12 rfl (fun a u hE hD hk => f_val (o := ⟨some 106, _, _, _, _, _⟩) (.int .i64 x.err) rfl (wanted_at (b := false) false rfl rfl (hD 9 104 (by kernel_rfl))) (exec_loadi 27 Try.underlying27 (.tmp 105) ⟨g7, 14, none⟩ (.int .i64 x.err) rfl (hD 10 105 (by kernel_rfl)) (by rw [(HC9.out.kept hk).cell]; rfl)) rfl) ?_
                refine fsteps_cons 13 rfl (fun a u hE hD hk => f_as (show ((decide ((x.err : Int) ≠ (0 : Int))) : Bool) = true from decide_eq_true he) (f_val (o := ⟨some 107, _, _, _, _, _⟩) (.bool (decide ((x.err : Int) ≠ (0 : Int)))) rfl (wanted_at (b := false) false rfl rfl (hD 9 104 (by kernel_rfl))) (exec_nen (p := x.err) (q := 0) rfl (hD 11 106 (by kernel_rfl)) rfl) rfl)) ?_
                refine fsteps_cons 14 rfl (fun a u hE hD hk => f_val (o := ⟨some 108, _, _, _, _, _⟩) (.bool true) rfl (wanted_at (b := true) true rfl rfl (hD 6 101 (by kernel_rfl))) (exec_pickF (.tmp 104) (.const (.bool true)) (.tmp 107) (.bool true) rfl (hD 9 104 (by kernel_rfl)) (hD 12 107 (by kernel_rfl))) rfl) ?_
                refine fsteps_cons 15 rfl (fun a u hE hD hk => f_val (o := ⟨some 109, _, _, _, _, _⟩) (.bool true) rfl (wanted_at (b := true) true rfl rfl (hD 6 101 (by kernel_rfl))) (exec_move (.tmp 108) _ rfl (hD 13 108 (by kernel_rfl))) rfl) ?_
                refine fsteps_cons 16 rfl (fun a u hE hD hk => f_skip (o := ⟨some 110, _, _, _, _, _⟩) rfl (wanted_at (b := false) true rfl rfl (hD 14 109 (by kernel_rfl))) rfl) ?_
                refine fsteps_cons 17 rfl (fun a u hE hD hk => f_skip (o := ⟨some 111, _, _, _, _, _⟩) rfl (wanted_at (b := false) true rfl rfl (hD 14 109 (by kernel_rfl))) rfl) ?_
                refine fsteps_cons 18 rfl (fun a u hE hD hk => f_skip (o := ⟨some 112, _, _, _, _, _⟩) rfl (wanted_at (b := false) true rfl rfl (hD 14 109 (by kernel_rfl))) rfl) ?_
                refine fsteps_cons 19 rfl (fun a u hE hD hk => f_val (o := ⟨some 113, _, _, _, _, _⟩) (.bool true) rfl (wanted_at (b := true) true rfl rfl (hD 6 101 (by kernel_rfl))) (exec_pick (.tmp 109) (.const (.bool true)) (.tmp 112) (.bool true) rfl (hD 14 109 (by kernel_rfl)) rfl) rfl) ?_
                refine fsteps_cons 20 rfl (fun a u hE hD hk => f_val (o := ⟨some 114, _, _, _, _, _⟩) (.bool true) rfl (wanted_at (b := true) true rfl rfl (hD 6 101 (by kernel_rfl))) (exec_move (.tmp 113) _ rfl (hD 18 113 (by kernel_rfl))) rfl) ?_
                refine fsteps_cons 21 rfl (fun a u hE hD hk => f_skip (o := ⟨some 115, _, _, _, _, _⟩) rfl (wanted_at (b := false) true rfl rfl (hD 19 114 (by kernel_rfl))) rfl) ?_
                refine fsteps_cons 22 rfl (fun a u hE hD hk => f_skip (o := ⟨some 116, _, _, _, _, _⟩) rfl (wanted_at (b := false) true rfl rfl (hD 19 114 (by kernel_rfl))) rfl) ?_
                refine fsteps_cons 23 rfl (fun a u hE hD hk => f_val (o := ⟨some 117, _, _, _, _, _⟩) (.bool true) rfl (wanted_at (b := true) true rfl rfl (hD 6 101 (by kernel_rfl))) (exec_pick (.tmp 114) (.const (.bool true)) (.tmp 116) (.bool true) rfl (hD 19 114 (by kernel_rfl)) rfl) rfl) ?_
                refine sv 24 rfl rfl rfl (fun a u hE hD hk => exec_pick (.tmp 101) (.tmp 117) (.const (.bool false)) (.bool true) rfl (hD 6 101 (by kernel_rfl)) (hD 22 117 (by kernel_rfl))) ?_
                refine sv 25 rfl rfl rfl (fun a u hE hD hk => exec_move (.tmp 118) _ rfl (hD 23 118 (by kernel_rfl))) ?_
                refine fsteps_cons 26 rfl (fun a u hE hD hk => f_call (o := ⟨some 120, _, _, _, _, _⟩) 3 #[] rfl (wanted_at (b := true) true rfl rfl (hD 24 119 (by kernel_rfl))) (exec_call 3 _ [] _ [] Try.func3 (by kernel_rfl) (by kernel_rfl) rfl rfl u) (bruns_gives u)) ?_
                refine sv 27 rfl rfl rfl (fun a u hE hD hk => exec_pick (.tmp 119) (.tmp 120) (.const (.bool false)) (.bool true) rfl (hD 24 119 (by kernel_rfl)) (hD 25 120 (by kernel_rfl))) ?_
                exact fsteps_nil
              intro gv wz hV kz
              rw [show dstsOf _ 27 = [95, 96, 97, 98, 99, 100, 101, 102, 103, 104, 105, 106, 107, 108, 109, 110, 111, 112, 113, 114, 115, 116, 117, 118, 119, 120, 121] by kernel_rfl]
              simp only [fC, fN, sA, sS, sZ, dS, dZ]
              rw [show gv 121 = .bool true from hV 26 121 (by kernel_rfl)]
              clear hV
              refine l_val (o := ⟨some 4, _, _, _, _, _⟩) (.bool true) rfl (exec_assign (.tmp 121) (.bool true) rfl (by kernel_rfl)) ?_
              simp only [Act.put, sA, sS, sZ]
              refine wpList_nil ?_
              go_wp2
              go_ret
              exact ⟨rfl, kw9.trans kz⟩
end Go.Proofs.Ytfpfpmhkkgfdbaa
