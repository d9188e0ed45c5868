/-
  BookCounts answers true: what an order was filled and what is left is what it was; what makers gave is missing from the other side; what rests is there; nothing else changes. No condition.
-/
import Derived.Test.YtfpfpmhkkgfdbaaQ05
import Derived.Test.YtfpfpmhkkgfdbaaMFill10
import Derived.Test.YtfpfpmhkkgfdbaaMRuns10
import Derived.Test.YtfpfpmhkkgfdbaaMCntM10
set_option linter.unusedVariables false
namespace Go.Proofs.Ytfpfpmhkkgfdbaa
open Go.RowKit
set_option maxRecDepth 100000
theorem whole_sd (v : Value) (B : Bok) (s : Int) (base : Nat) (u : World) (hs : s = 1 ∨ s = 2) (hI : Inv B) (h : (Kn.sl base 25 9 (ordsL (B.sd s)).length (ords (ordsL (B.sd s)))).p v u) : Gives 34 #[v] u (.eq (.int .i64 (wholeL (B.sd s)))) := by
  have hm := (hI.side hs).mine
  have h1 := bwhole_any v (ordsL (B.sd s)) u h.1 (fun o ho => by have := (ordsL_mem hm ho).2.2; omega) (by rw [ordsL_len]; have := hm.few; omega)
  rw [ordsL_whole] at h1
  exact h1
theorem whole_bd {B : Bok} {s : Int} (hs : s = 1 ∨ s = 2) (hI : Inv B) : 0 ≤ wholeL (B.sd s) ∧ wholeL (B.sd s) ≤ 67108864 := wholeL_le (hI.side hs).mine
set_option maxRecDepth 100000 in
set_option maxHeartbeats 3200000 in
theorem bookCounts_any (v : Value) (l : List Kq) (q : Kq) (w : World) (hl : Kqs w v l) : Calls Try.prog 6 #[v, q.v] w fun e w' => e = .returned (.bool true) ∧ Kept w w' := by
  obtain ⟨o, ho⟩ : ∃ o, q.o = o := ⟨_, rfl⟩
  have HKO : Hid (o.right = true ∧ o.stop = 0 ∧ o.qty ≤ 12) := by rw [← ho]; exact q.right
  have HGO : Hid (∀ u, Gives 22 #[q.v] u (.eq o.v)) := fun u => by rw [← ho]; exact korder_any q u
  clear ho
  go_enter Try.func6, Try.ntmps6
  go_upto_region 0 with fail
  refine wp_text 1 [.fresh w.heap.size 48 (q.cells)] rfl (by kernel_rfl) ?_ ?_
  · refine fsteps_cons 1 rfl (fun a u hE hD hk => f_new (o := ⟨some 3, _, _, _, _, _⟩) (.pointer (some ⟨u.heap.size, 0, none⟩)) _ rfl (wanted_none rfl _) (exec_box 48 (.tmp 1) (q.cells) rfl (hE 1 (q.v) (by kernel_rfl) (by kernel_rfl))) ⟨_, rfl, hk.size, Blk.new u _ _⟩ ((Keep.refl _ u).alloc _)) ?_
    exact fsteps_nil
  intro gv w0 hV k0
  rw [show dstsOf _ 1 = [3] by kernel_rfl]
  simp only [fC, fN, sA, sS, sZ, dS, dZ]
  have hv3 : (.fresh w.heap.size 48 (q.cells) : Kn).p (gv 3) w0 := hV 0 3 (by kernel_rfl)
  generalize gv 3 = v3 at hv3 ⊢
  clear hV
  obtain ⟨g3, rfl, hg3, hQ⟩ := hv3
  refine l_val (o := ⟨some 4, _, _, _, _, _⟩) (.bool false) rfl (exec_assign (.const (.bool false)) (.bool false) rfl (by kernel_rfl)) ?_
  simp only [Act.put, sA, sS, sZ]
  refine wpList_nil ?_
  have HQ0 := Lib.hid (blk_range hQ)
  have lq := hQ.lt
  have z0 := k0.size
  have hl0 := hl.kept k0
  clear hQ hl
  go_upto_region 1 with fail
  refine wp_region_lit ?_
  refine l_val (o := ⟨some 16, _, _, _, _, _⟩) (v) rfl (exec_move (.tmp 0) (v) rfl (by kernel_rfl)) ?_
  simp only [Act.put, sA, sS, sZ]
  refine l_call (o := ⟨some 17, _, _, _, _, _⟩) 31 #[v, .int .i64 40] rfl (exec_call 31 _ [.tmp 16, .const (.int .i64 40)] _ _ Try.func31 (by kernel_rfl) (by kernel_rfl) rfl (by kernel_rfl) _) ?_
  refine (bfilled_any v l 40 w0 hl0 (by omega)).mono ?_
  rintro r w1 ⟨p, F, rfl, hB1, hG1, k1⟩
  refine ⟨_, rfl, ?_⟩
  simp only [Act.put, sA, sS, sZ]
  refine l_val (o := ⟨some 5, _, _, _, _, _⟩) (.pointer (some ⟨p, 0, none⟩)) rfl (exec_assign (.tmp 17) (.pointer (some ⟨p, 0, none⟩)) rfl (by kernel_rfl)) ?_
  simp only [Act.put, sA, sS, sZ]
  refine wpList_nil ?_
  have hI := fillB_inv (l.take 40)
  have HNo : Hid ((fillB (l.take 40)).no ≤ 1000000000000) := by
    have h1 := hI.2
    have h2 : (l.take 40).length ≤ 40 := by rw [List.length_take]; omega
    show _ ≤ _
    omega
  have HI := Lib.hid hI.1
  clear hI
  generalize fillB (l.take 40) = B at HI hB1 HNo
  have HB1 := Lib.hid hB1
  have HFg : Hid (∀ b, F b → w0.heap.size ≤ b) := fun b hb => (hG1 b hb).elim (fun h => h.elim) id
  have HQ1 := Lib.hid (range_kept HQ0.out k1)
  have kw1 := k0.trans k1
  have z1 := k1.size
  clear hB1 hG1 hl0 HQ0 k0 k1
  go_upto_region 4 with fail
  refine wp_text 3 [.eq (q.v), .eq (o.v), .fresh w1.heap.size 25 zeroO.cells] rfl (by kernel_rfl) ?_ ?_
  · refine sv 1 rfl rfl rfl (fun a u hE hD hk => exec_ldS 48 _ (.tmp 3) (g3) (0) (q.cells) rfl (hE 3 (.pointer (some ⟨g3, 0, none⟩)) (by kernel_rfl) (by kernel_rfl)) (range_kept HQ1.out hk) Try.underlying48 (by rw [q.len7]; exact szK)) ?_
    refine fsteps_cons 2 rfl (fun a u hE hD hk => f_call (o := ⟨some 21, _, _, _, _, _⟩) 22 #[q.v] rfl (wanted_none rfl _) (exec_call 22 _ [.tmp 20] _ [q.v] Try.func22 (by kernel_rfl) (by kernel_rfl) rfl (show [a.eval (.tmp 20)] = [q.v] from (by rw [show a.eval (.tmp 20) = q.v from (hD 0 20 (by kernel_rfl))] <;> rfl)) u) (HGO.out u)) ?_
    refine fsteps_cons 3 rfl (fun a u hE hD hk => f_new (o := ⟨some 6, _, _, _, _, _⟩) (.pointer (some ⟨u.heap.size, 0, none⟩)) _ rfl (wanted_none rfl _) (exec_alc 25 zeroO.cells rfl zO) ⟨_, rfl, hk.size, Blk.new u _ _⟩ ((Keep.refl _ u).alloc _)) ?_
    exact fsteps_nil
  intro gv w2a hV kw2a
  rw [show dstsOf _ 3 = [20, 21, 6] by kernel_rfl]
  simp only [fC, fN, sA, sS, sZ, dS, dZ]
  have hv6 : (.fresh w1.heap.size 25 zeroO.cells : Kn).p (gv 6) w2a := hV 2 6 (by kernel_rfl)
  generalize gv 6 = v6 at hv6 ⊢
  rw [show gv 21 = o.v from hV 1 21 (by kernel_rfl)]
  clear hV
  obtain ⟨g6, rfl, hg6, hBn⟩ := hv6
  refine l_setS (o := ⟨none, _, _, _, _, _⟩) 25 g6 25 zeroO.cells o.cells (.tmp 6) (.tmp 21) rfl rfl (by kernel_rfl) (by kernel_rfl) hBn (by rw [Ord.len9]; exact ord_size) (by rw [Ord.len9, Ord.len9]) (Ord.one1 _) ?_
  intro w2 hBo hkn hsn
  simp only [Act.put]
  refine wpList_nil ?_
  have kw2 : Kept w1 w2 := kw2a.trans' hkn (by omega)
  have HOw2 := Lib.hid (blk_range hBo)
  have lo6 := hBo.lt
  have zw2 := kw2.size
  clear hBn hBo hkn hsn kw2a
  have HB2 := Lib.hid (HB1.out.kept kw2)
  have HFl := Lib.hid HB1.out.lt
  have kw2' := kw1.trans kw2
  have hs : o.side = 1 ∨ o.side = 2 := right_side HKO.out.1
  have hs3 : 3 - o.side = 1 ∨ 3 - o.side = 2 := by omega
  have HS1 := Lib.hid hs
  have HS3 := Lib.hid hs3
  have hoq : 1 ≤ o.qty ∧ o.qty ≤ 12 := ⟨(right_qty HKO.out.1).1, HKO.out.2.2⟩
  have HOQ := Lib.hid hoq
  have hno0 := HI.out.no0
  have hno1 := HNo.out
  clear hs hs3 HB1 HQ1 kw1 kw2 hoq
  go_upto_region 5 with fail
  refine wp_text 4 [.eq (.pointer (some ⟨g6, 3, none⟩)), .eq (.int .i64 o.side), .eq (.int .i64 (3 - o.side)), .eq (.int .i64 (3 - o.side))] rfl (by kernel_rfl) ?_ ?_
  · refine sv 1 rfl rfl rfl (fun a u hE hD hk => exec_fldo 25 3 3 (.tmp 6) (g6) (0) (3) rfl (hE 6 (.pointer (some ⟨g6, 0, none⟩)) (by kernel_rfl) (by kernel_rfl)) (by kernel_rfl) rfl) ?_
    refine sv 2 rfl rfl rfl (fun a u hE hD hk => exec_loadi 3 Try.underlying3 (.tmp 22) ⟨g6, 3, none⟩ (.int .i64 o.side) rfl (hD 0 22 (by kernel_rfl)) (range_int (range_kept HOw2.out hk) 3 _ rfl)) ?_
    refine sv 3 rfl rfl rfl (fun a u hE hD hk => exec_subn (3 - o.side) (p := 3) (q := o.side) rfl rfl (hD 1 23 (by kernel_rfl)) rfl (by have := HS1.out; omega) (by have := HS1.out; omega)) ?_
    refine sv 4 rfl rfl rfl (fun a u hE hD hk => exec_assign (.tmp 24) _ rfl (hD 2 24 (by kernel_rfl))) ?_
    exact fsteps_nil
  intro gv w3 hV k3
  rw [show dstsOf _ 4 = [22, 23, 24, 7] by kernel_rfl]
  simp only [fC, fN, sA, sS, sZ, dS, dZ]
  rw [show gv 7 = .int .i64 (3 - o.side) from hV 3 7 (by kernel_rfl)]
  clear hV
  refine wpList_nil ?_
  have HO3 := Lib.hid (range_kept HOw2.out k3)
  have HB3 := Lib.hid (HB2.out.kept k3)
  have kw3 := kw2'.trans k3
  clear HOw2 HB2 kw2' k3
  obtain ⟨m0, hm0⟩ : ∃ y, wholeL (B.sd o.side) = y := ⟨_, rfl⟩
  obtain ⟨t0, ht0⟩ : ∃ y, wholeL (B.sd (3 - o.side)) = y := ⟨_, rfl⟩
  have HM0 := Lib.hid hm0
  have HT0 := Lib.hid ht0
  have hbd : (0 ≤ m0 ∧ m0 ≤ 67108864) ∧ 0 ≤ t0 ∧ t0 ≤ 67108864 := by rw [← hm0, ← ht0]; exact ⟨whole_bd HS1.out HI.out, whole_bd HS3.out HI.out⟩
  clear hm0 ht0
  go_upto_region 6 with fail
  refine wp_text 14 [.eq (.pointer (some ⟨p, 0, none⟩)), .eq (.pointer (some ⟨g6, 3, none⟩)), .eq (.int .i64 o.side), .sl w3.heap.size 25 9 (ordsL (B.sd o.side)).length (ords (ordsL (B.sd o.side))), .eq (.int .i64 m0), .eq (.pointer (some ⟨p, 0, none⟩)), .eq (.int .i64 (3 - o.side)), .sl w3.heap.size 25 9 (ordsL (B.sd (3 - o.side))).length (ords (ordsL (B.sd (3 - o.side)))), .eq (.int .i64 t0), .eq (.pointer (some ⟨p, 0, none⟩)), .eq (.int .i64 B.no), .eq (.int .i64 m0), .eq (.int .i64 t0), .eq (.int .i64 B.no)] rfl (by kernel_rfl) ?_ ?_
  · refine sv 1 rfl rfl rfl (fun a u hE hD hk => exec_move (.tmp 5) _ rfl (hE 5 (.pointer (some ⟨p, 0, none⟩)) (by kernel_rfl) (by kernel_rfl))) ?_
    refine sv 2 rfl rfl rfl (fun a u hE hD hk => exec_fldo 25 3 3 (.tmp 6) (g6) (0) (3) rfl (hE 6 (.pointer (some ⟨g6, 0, none⟩)) (by kernel_rfl) (by kernel_rfl)) (by kernel_rfl) rfl) ?_
    refine sv 3 rfl rfl rfl (fun a u hE hD hk => exec_loadi 3 Try.underlying3 (.tmp 26) ⟨g6, 3, none⟩ (.int .i64 o.side) rfl (hD 1 26 (by kernel_rfl)) (range_int (range_kept HO3.out hk) 3 _ rfl)) ?_
    refine fsteps_cons 4 rfl (fun a u hE hD hk => f_call (o := ⟨some 28, _, _, _, _, _⟩) 32 #[.pointer (some ⟨p, 0, none⟩), .int .i64 o.side] rfl (wanted_none rfl _) (exec_call 32 _ [.tmp 25, .tmp 27] _ [.pointer (some ⟨p, 0, none⟩), .int .i64 o.side] Try.func32 (by kernel_rfl) (by kernel_rfl) rfl (show [a.eval (.tmp 25), a.eval (.tmp 27)] = [.pointer (some ⟨p, 0, none⟩), .int .i64 o.side] from (by rw [show a.eval (.tmp 25) = .pointer (some ⟨p, 0, none⟩) from (hD 0 25 (by kernel_rfl)), show a.eval (.tmp 27) = .int .i64 o.side from (hD 2 27 (by kernel_rfl))] <;> rfl)) u) ((borders_any u F p B o.side (HB3.out.kept hk) HI.out).base hk.size)) ?_
    refine fsteps_cons 5 rfl (fun a u hE hD hk => f_call (o := ⟨some 29, _, _, _, _, _⟩) 34 #[a.eval (.tmp 28)] rfl (wanted_none rfl _) (exec_call 34 _ [.tmp 28] _ [a.eval (.tmp 28)] Try.func34 (by kernel_rfl) (by kernel_rfl) rfl rfl u) ((by have h := whole_sd (a.eval (.tmp 28)) B o.side _ u HS1.out HI.out (hD 3 28 (by kernel_rfl)); rw [HM0.out] at h; exact h))) ?_
    refine sv 6 rfl rfl rfl (fun a u hE hD hk => exec_move (.tmp 5) _ rfl (hE 5 (.pointer (some ⟨p, 0, none⟩)) (by kernel_rfl) (by kernel_rfl))) ?_
    refine sv 7 rfl rfl rfl (fun a u hE hD hk => exec_move (.tmp 7) _ rfl (hE 7 (.int .i64 (3 - o.side)) (by kernel_rfl) (by kernel_rfl))) ?_
    refine fsteps_cons 8 rfl (fun a u hE hD hk => f_call (o := ⟨some 32, _, _, _, _, _⟩) 32 #[.pointer (some ⟨p, 0, none⟩), .int .i64 (3 - o.side)] rfl (wanted_none rfl _) (exec_call 32 _ [.tmp 30, .tmp 31] _ [.pointer (some ⟨p, 0, none⟩), .int .i64 (3 - o.side)] Try.func32 (by kernel_rfl) (by kernel_rfl) rfl (show [a.eval (.tmp 30), a.eval (.tmp 31)] = [.pointer (some ⟨p, 0, none⟩), .int .i64 (3 - o.side)] from (by rw [show a.eval (.tmp 30) = .pointer (some ⟨p, 0, none⟩) from (hD 5 30 (by kernel_rfl)), show a.eval (.tmp 31) = .int .i64 (3 - o.side) from (hD 6 31 (by kernel_rfl))] <;> rfl)) u) ((borders_any u F p B (3 - o.side) (HB3.out.kept hk) HI.out).base hk.size)) ?_
    refine fsteps_cons 9 rfl (fun a u hE hD hk => f_call (o := ⟨some 33, _, _, _, _, _⟩) 34 #[a.eval (.tmp 32)] rfl (wanted_none rfl _) (exec_call 34 _ [.tmp 32] _ [a.eval (.tmp 32)] Try.func34 (by kernel_rfl) (by kernel_rfl) rfl rfl u) ((by have h := whole_sd (a.eval (.tmp 32)) B (3 - o.side) _ u HS3.out HI.out (hD 7 32 (by kernel_rfl)); rw [HT0.out] at h; exact h))) ?_
    refine sv 10 rfl rfl rfl (fun a u hE hD hk => exec_move (.tmp 5) _ rfl (hE 5 (.pointer (some ⟨p, 0, none⟩)) (by kernel_rfl) (by kernel_rfl))) ?_
    refine fsteps_cons 11 rfl (fun a u hE hD hk => f_call (o := ⟨some 35, _, _, _, _, _⟩) 19 #[.pointer (some ⟨p, 0, none⟩)] rfl (wanted_none rfl _) (exec_call 19 _ [.tmp 34] _ [.pointer (some ⟨p, 0, none⟩)] Try.func19 (by kernel_rfl) (by kernel_rfl) rfl (show [a.eval (.tmp 34)] = [.pointer (some ⟨p, 0, none⟩)] from (by rw [show a.eval (.tmp 34) = .pointer (some ⟨p, 0, none⟩) from (hD 9 34 (by kernel_rfl))] <;> rfl)) u) (bno_any u F p B (HB3.out.kept hk))) ?_
    refine sv 12 rfl rfl rfl (fun a u hE hD hk => exec_assign (.tmp 29) _ rfl (hD 4 29 (by kernel_rfl))) ?_
    refine sv 13 rfl rfl rfl (fun a u hE hD hk => exec_assign (.tmp 33) _ rfl (hD 8 33 (by kernel_rfl))) ?_
    refine sv 14 rfl rfl rfl (fun a u hE hD hk => exec_assign (.tmp 35) _ rfl (hD 10 35 (by kernel_rfl))) ?_
    exact fsteps_nil
  intro gv w4 hV k4
  rw [show dstsOf _ 14 = [25, 26, 27, 28, 29, 30, 31, 32, 33, 34, 35, 8, 9, 10] by kernel_rfl]
  simp only [fC, fN, sA, sS, sZ, dS, dZ]
  rw [show gv 8 = .int .i64 m0 from hV 11 8 (by kernel_rfl)]
  rw [show gv 9 = .int .i64 t0 from hV 12 9 (by kernel_rfl)]
  rw [show gv 10 = .int .i64 B.no from hV 13 10 (by kernel_rfl)]
  clear hV
  refine wpList_nil ?_
  have HO4 := Lib.hid (range_kept HO3.out k4)
  have HB4 := Lib.hid (HB3.out.kept k4)
  have kw4 := kw3.trans k4
  have z4a := kw4.size
  clear HO3 HB3 kw3
  obtain ⟨x, hx⟩ : ∃ x, (B.add o).1 = x := ⟨_, rfl⟩
  obtain ⟨B', hB'⟩ : ∃ B', (B.add o).2 = B' := ⟨_, rfl⟩
  have HAx : Hid (B.add o = (x, B')) := by rw [← hx, ← hB']; exact rfl
  clear hx hB'
  go_upto_region 7 with fail
  refine wp_text 2 [.eq (.pointer (some ⟨p, 0, none⟩)), .eq (o.v)] rfl (by kernel_rfl) ?_ ?_
  · refine sv 1 rfl rfl rfl (fun a u hE hD hk => exec_move (.tmp 5) _ rfl (hE 5 (.pointer (some ⟨p, 0, none⟩)) (by kernel_rfl) (by kernel_rfl))) ?_
    refine sv 2 rfl rfl rfl (fun a u hE hD hk => exec_ldS 25 _ (.tmp 6) (g6) (0) (o.cells) rfl (hE 6 (.pointer (some ⟨g6, 0, none⟩)) (by kernel_rfl) (by kernel_rfl)) (range_kept HO4.out hk) Try.underlying25 (by rw [o.len9]; exact ord_size)) ?_
    exact fsteps_nil
  intro gv w5a hV kw5a
  rw [show dstsOf _ 2 = [36, 37] by kernel_rfl]
  simp only [fC, fN, sA, sS, sZ, dS, dZ]
  rw [show gv 36 = .pointer (some ⟨p, 0, none⟩) from hV 0 36 (by kernel_rfl)]
  rw [show gv 37 = o.v from hV 1 37 (by kernel_rfl)]
  clear hV
  refine l_call (o := ⟨some 38, _, _, _, _, _⟩) 15 #[.pointer (some ⟨p, 0, none⟩), o.v] rfl (exec_call 15 _ [.tmp 36, .tmp 37] _ _ Try.func15 (by kernel_rfl) (by kernel_rfl) rfl (by kernel_rfl) _) ?_
  refine (badd_at w5a F p B o _ HAx.out (HB4.out.kept kw5a) HI.out HNo.out).mono ?_
  rintro r w5b ⟨F5, vf, rfl, hBb, hSb, hOb, hGb, hkb⟩
  refine ⟨_, rfl, ?_⟩
  simp only [Act.put, sA, sS, sZ]
  refine l_new (o := ⟨some 11, _, _, _, _, _⟩) (.pointer (some ⟨w5b.heap.size, 0, none⟩)) (w5b.alloc (.cells (zeroC.cells (.slice none 0 0)).toArray 29)) rfl (exec_alc 29 (zeroC.cells (.slice none 0 0)) rfl zC) ?_
  have hNw5c := Blk.new w5b 29 (zeroC.cells (.slice none 0 0))
  have kw5c : Kept w5b (w5b.alloc (.cells (zeroC.cells (.slice none 0 0)).toArray 29)) := (Keep.refl _ w5b).alloc _
  generalize w5b.alloc (.cells (zeroC.cells (.slice none 0 0)).toArray 29) = w5c at hNw5c kw5c ⊢
  simp only [Act.put, sA, sS, sZ]
  refine l_setS (o := ⟨none, _, _, _, _, _⟩) 29 w5b.heap.size 29 (zeroC.cells (.slice none 0 0)) (x.cells vf) (.tmp 11) (.tmp 38) rfl rfl (by kernel_rfl) (by kernel_rfl) (hNw5c) (by rw [Oc.len15]; exact szC) (by rw [Oc.len15, Oc.len15]) (Oc.one _ _ (sl_onec hSb)) ?_
  intro w5 hCw5 hkw5 hsw5
  simp only [Act.put]
  refine wpList_nil ?_
  obtain ⟨Kw5, hBw5, hSw5, hOw5, hGw5, hFw5, zw5b⟩ := add_frame kw5a hBb hSb hOb hGb hkb kw5c hkw5
  obtain ⟨g11, hg11⟩ : ∃ gq, w5b.heap.size = gq := ⟨_, rfl⟩
  rw [hg11] at hCw5 hOw5 hFw5 zw5b ⊢
  have l11 := hCw5.lt
  have zw5 := Kw5.size
  have HBw5 := Lib.hid hBw5
  have HSw5 := Lib.hid hSw5
  have HCw5 := Lib.hid hCw5
  have HOww5 := Lib.hid hOw5
  have HGw5 := Lib.hid hGw5
  have HFw5 := Lib.hid hFw5
  clear hBb hSb hOb hGb hkb hNw5c hkw5 hsw5 hBw5 hSw5 hCw5 hOw5 hGw5 hFw5 kw5a kw5c hg11
  have HO5 : Hid (w5.rangeAt g6 0 o.cells) := range_keep HO4.out Kw5 (fun h => by have := HFl.out _ h; omega)
  have kw5 : Kept w w5 := Keep.trans kw4 Kw5 (fun b hb h => by have := HFg.out b h; omega)
  have hI' : Inv B' := by have := (inv_add (o := o) HI.out).1; rw [HAx.out] at this; exact this
  have HI' := Lib.hid hI'
  have hci : CountIs B o x B' := by have := counts_is (o := o) HI.out HOQ.out.1; rw [HAx.out] at this; exact this
  have HCI := Lib.hid hci
  obtain ⟨m1, hm1⟩ : ∃ y, wholeL (B'.sd o.side) = y := ⟨_, rfl⟩
  obtain ⟨t1, ht1⟩ : ∃ y, wholeL (B'.sd (3 - o.side)) = y := ⟨_, rfl⟩
  have HM1 := Lib.hid hm1
  have HT1 := Lib.hid ht1
  obtain ⟨n1, hn1⟩ : ∃ y, B'.no = y := ⟨_, rfl⟩
  have HN1 := Lib.hid hn1
  obtain ⟨n, hn⟩ : ∃ n, x.f.length = n := ⟨_, rfl⟩
  have hn12 : n ≤ 12 := by have := hci.len; have := HOQ.out; omega
  have HN := Lib.hid hn
  have HSF := HSw5
  rw [hn] at HSF
  have z5 := kw5.size
  clear hI' hci hm1 ht1 hn1 hn HO4 HB4 Kw5 kw4 k4
  go_upto_region 8 with fail
  refine wp_text 1 [.eq (.int .i64 0)] rfl (by kernel_rfl) ?_ ?_
  · refine sv 1 rfl rfl rfl (fun a u hE hD hk => exec_assign (.const (.int .i64 0)) _ rfl rfl) ?_
    exact fsteps_nil
  intro gv w6 hV k6
  rw [show dstsOf _ 1 = [12] by kernel_rfl]
  simp only [fC, fN, sA, sS, sZ, dS, dZ]
  rw [show gv 12 = .int .i64 0 from hV 0 12 (by kernel_rfl)]
  clear hV
  refine wpList_nil ?_
  have HC6 := Lib.hid (HCw5.out.kept k6)
  have HS6 := Lib.hid (HSF.out.kept k6)
  go_upto_region 9 with fail
  refine wp_text 4 [.eq (.pointer (some ⟨g11, 9, none⟩)), .eq (vf), .eq (.int .i64 (n : Int)), .eq (.int .i64 0)] rfl (by kernel_rfl) ?_ ?_
  · refine sv 1 rfl rfl rfl (fun a u hE hD hk => exec_fldo 29 1 9 (.tmp 11) (g11) (0) (9) rfl (hE 11 (.pointer (some ⟨g11, 0, none⟩)) (by kernel_rfl) (by kernel_rfl)) (by kernel_rfl) rfl) ?_
    refine sv 2 rfl rfl rfl (fun a u hE hD hk => exec_ldv 26 _ Try.underlying26 (.tmp 39) ⟨g11, 9, none⟩ (vf) rfl (hD 0 39 (by kernel_rfl)) (by rw [(HC6.out.kept hk).cell]; rfl)) ?_
    refine sv 3 rfl rfl rfl (fun a u hE hD hk => exec_lenS (.tmp 40) slF (vf) (n) _ _ rfl (hD 1 40 (by kernel_rfl)) HS6.out) ?_
    refine sv 4 rfl rfl rfl (fun a u hE hD hk => exec_move (.const (.int .i64 0)) _ rfl rfl) ?_
    exact fsteps_nil
  intro gv w7 hV k7
  rw [show dstsOf _ 4 = [39, 40, 41, 42] by kernel_rfl]
  simp only [fC, fN, sA, sS, sZ, dS, dZ]
  rw [show gv 40 = vf from hV 1 40 (by kernel_rfl)]
  rw [show gv 41 = .int .i64 (n : Int) from hV 2 41 (by kernel_rfl)]
  rw [show gv 42 = .int .i64 0 from hV 3 42 (by kernel_rfl)]
  clear hV
  refine wpList_nil ?_
  have k57 := k6.trans k7
  have HO7 := Lib.hid (range_kept HO5.out k57)
  have HB7 := Lib.hid (HBw5.out.kept k57)
  have HC7 := Lib.hid (HCw5.out.kept k57)
  have HS7 := Lib.hid (HSF.out.kept k57)
  have kw7 := kw5.trans k57
  clear HO5 HBw5 HCw5 HSF HC6 HS6 k6 k7 k57 kw5 HSw5
  go_wp2_with fail
  go_loopw [12, 42] (fun t q wr => ∃ (i : Nat) (gq : Int), i ≤ n ∧ q = .int .i64 (i : Int) ∧ t = .int .i64 gq ∧ Hid (gq = sumF (x.f.take i)) ∧ Kept w7 wr) (fun _ q _ => n - (intOf q).toNat)
  case atStart => exact ⟨0, 0, Nat.zero_le _, rfl, rfl, by show _ = _; rw [List.take_zero]; rfl, Kept.refl _⟩
  case round =>
    obtain ⟨i, gq, hi, rfl, rfl, HA, hkr⟩ := hrel
    have halow : 0 ≤ gq ∧ gq ≤ o.qty := by rw [HA.out]; exact HCI.out.low i
    by_cases hlt : i < n
    · skip
      obtain ⟨gf, of_, c, rfl⟩ := HS7.out.some_ (by omega)
      obtain ⟨f, hf⟩ : ∃ f, x.f[i]? = some f := ⟨x.f[i]'(by rw [HN.out]; omega), List.getElem?_eq_getElem (by rw [HN.out]; omega)⟩
      have HE : Hid (wr.rangeAt gf (of_ + i * 21) f.cells) := range_kept (HS7.out.rngF i f hf) hkr
      obtain ⟨e1, e2, e3, e4, e5, e6⟩ := HCI.out.each i f hf
      have hstep : sumF (x.f.take (i + 1)) = sumF (x.f.take i) + f.qty := sumF_take x.f i f hf
      have HA1 : Hid (gq + f.qty = sumF (x.f.take (i + 1))) := by show _ = _; rw [hstep, ← HA.out]
      have halow1 : 0 ≤ gq + f.qty ∧ gq + f.qty ≤ o.qty := by rw [HA1.out]; exact HCI.out.low (i + 1)
      rw [← HA.out] at e6
      have HOr := Lib.hid (range_kept HO7.out hkr)
      have hq12 := HOQ.out
      clear hf hstep HA
      go_upto_region 11 with fail
      refine wp_text 4 [.eq (.int .i64 (i : Int)), .eq (.pointer (some ⟨gf, of_ + i * 21, none⟩)), .eq (f.v), .fresh wr.heap.size 36 zeroF.cells] rfl (by kernel_rfl) ?_ ?_
      · refine sv 1 rfl rfl rfl (fun a u hE hD hk => exec_move (.tmp 42) _ rfl (hE 42 (.int .i64 (i : Int)) (by kernel_rfl) (by kernel_rfl))) ?_
        refine sv 2 rfl rfl rfl (fun a u hE hD hk => exec_ixo slF (.tmp 40) (.tmp 42) (gf) (of_) n c i (of_ + i * 21) ((i : Int)) rfl (hE 40 (.slice (some ⟨gf, of_, none⟩) n c) (by kernel_rfl) (by kernel_rfl)) (hE 42 (.int .i64 (i : Int)) (by kernel_rfl) (by kernel_rfl)) (by first | rfl | omega) (hlt) (by first | rfl | omega)) ?_
        refine sv 3 rfl rfl rfl (fun a u hE hD hk => exec_ldS 36 _ (.tmp 45) (gf) (of_ + i * 21) (f.cells) rfl (hD 1 45 (by kernel_rfl)) (range_kept HE.out hk) Try.underlying36 (by rw [f.len21]; exact szF)) ?_
        refine fsteps_cons 4 rfl (fun a u hE hD hk => f_new (o := ⟨some 14, _, _, _, _, _⟩) (.pointer (some ⟨u.heap.size, 0, none⟩)) _ rfl (wanted_none rfl _) (exec_alc 36 zeroF.cells rfl zF) ⟨_, rfl, hk.size, Blk.new u _ _⟩ ((Keep.refl _ u).alloc _)) ?_
        exact fsteps_nil
      intro gv wa hV ka
      rw [show dstsOf _ 4 = [44, 45, 46, 14] by kernel_rfl]
      simp only [fC, fN, sA, sS, sZ, dS, dZ]
      rw [show gv 44 = .int .i64 (i : Int) from hV 0 44 (by kernel_rfl)]
      have hv14 : (.fresh wr.heap.size 36 zeroF.cells : Kn).p (gv 14) wa := hV 3 14 (by kernel_rfl)
      generalize gv 14 = v14 at hv14 ⊢
      rw [show gv 46 = f.v from hV 2 46 (by kernel_rfl)]
      clear hV
      obtain ⟨g14, rfl, hg14, hB14⟩ := hv14
      refine l_val (o := ⟨some 13, _, _, _, _, _⟩) (.int .i64 (i : Int)) rfl (exec_assign (.tmp 44) (.int .i64 (i : Int)) rfl (by kernel_rfl)) ?_
      simp only [Act.put, sA, sS, sZ]
      refine l_setS (o := ⟨none, _, _, _, _, _⟩) 36 g14 36 zeroF.cells f.cells (.tmp 14) (.tmp 46) rfl rfl (by kernel_rfl) (by kernel_rfl) hB14 (by rw [Fl.len21]; exact szF) (by rw [Fl.len21, Fl.len21]) (Fl.one _) ?_
      intro wb hBb hkb hsb
      simp only [Act.put]
      refine wpList_nil ?_
      have kb : Kept wr wb := ka.trans' hkb (by omega)
      have HFb := Lib.hid (blk_range hBb)
      have HOb := Lib.hid (range_kept HOr.out kb)
      clear hB14 hBb hkb hsb ka HE HOr
      go_upto_region 12 with fail
      refine wp_text 45 [.eq (.pointer (some ⟨g14, 19, none⟩)), .eq (.int .i64 f.qty), .eq (.bool false), .eq (.bool false), .eq (.pointer (some ⟨g14, 0, none⟩)), .eq (.pointer (some ⟨g14, 2, none⟩)), .eq (.int .i64 f.mk_.firm), .eq (.pointer (some ⟨g6, 2, none⟩)), .eq (.int .i64 o.firm), .eq (.bool false), .eq (.bool false), .eq (.bool false), .eq (.pointer (some ⟨g14, 0, none⟩)), .eq (.pointer (some ⟨g14, 3, none⟩)), .eq (.int .i64 f.mk_.side), .eq (.int .i64 (3 - o.side)), .eq (.bool false), .eq (.bool false), .eq (.bool false), .eq (.pointer (some ⟨g14, 20, none⟩)), .eq (.int .i64 f.no), .eq (.int .i64 B.no), .eq (.int .i64 (i : Int)), .eq (.int .i64 (B.no + (i : Int))), .eq (.int .i64 (B.no + (i : Int) + 1)), .eq (.bool false), .eq (.bool false), .eq (.bool false), .eq (.pointer (some ⟨g14, 18, none⟩)), .eq (.int .i64 f.price), .eq (.pointer (some ⟨g14, 0, none⟩)), .eq (.pointer (some ⟨g14, 5, none⟩)), .eq (.int .i64 f.mk_.price), .eq (.bool false), .eq (.bool false), .eq (.bool false), .eq (.pointer (some ⟨g14, 9, none⟩)), .eq (.pointer (some ⟨g14, 15, none⟩)), .eq (.int .i64 f.tk.qty), .eq (.pointer (some ⟨g6, 6, none⟩)), .eq (.int .i64 o.qty), .eq (.int .i64 gq), .eq (.int .i64 (o.qty - gq)), .eq (.bool false), .eq (.bool false)] rfl (by kernel_rfl) ?_ ?_
      · refine sv 1 rfl rfl rfl (fun a u hE hD hk => exec_fldo 36 3 19 (.tmp 14) (g14) (0) (19) rfl (hE 14 (.pointer (some ⟨g14, 0, none⟩)) (by kernel_rfl) (by kernel_rfl)) (by kernel_rfl) rfl) ?_
        refine sv 2 rfl rfl rfl (fun a u hE hD hk => exec_loadi 3 Try.underlying3 (.tmp 47) ⟨g14, 19, none⟩ (.int .i64 f.qty) rfl (hD 0 47 (by kernel_rfl)) (range_int (range_kept HFb.out hk) 19 _ rfl)) ?_
        refine fsteps_cons 3 rfl (fun a u hE hD hk => f_as (show ((decide ((f.qty : Int) < (1 : Int))) : Bool) = false from decide_eq_false (by omega)) (f_val (o := ⟨some 49, _, _, _, _, _⟩) (.bool (decide ((f.qty : Int) < (1 : Int)))) rfl (wanted_none rfl _) (exec_ltn (p := f.qty) (q := 1) rfl (hD 1 48 (by kernel_rfl)) rfl) rfl)) ?_
        refine sv 4 rfl rfl rfl (fun a u hE hD hk => exec_move (.tmp 49) _ rfl (hD 2 49 (by kernel_rfl))) ?_
        refine fsteps_cons 5 rfl (fun a u hE hD hk => f_val (o := ⟨some 51, _, _, _, _, _⟩) (.pointer (some ⟨g14, 0, none⟩)) rfl (wanted_at (b := false) false rfl rfl (hD 3 50 (by kernel_rfl))) (exec_fldo 36 0 0 (.tmp 14) (g14) (0) (0) rfl (hE 14 (.pointer (some ⟨g14, 0, none⟩)) (by kernel_rfl) (by kernel_rfl)) (by kernel_rfl) rfl) rfl) ?_
        refine fsteps_cons 6 rfl (fun a u hE hD hk => f_val (o := ⟨some 52, _, _, _, _, _⟩) (.pointer (some ⟨g14, 2, none⟩)) rfl (wanted_at (b := false) false rfl rfl (hD 3 50 (by kernel_rfl))) (exec_fldo 25 2 2 (.tmp 51) (g14) (0) (2) rfl (hD 4 51 (by kernel_rfl)) (by kernel_rfl) rfl) rfl) ?_
        refine fsteps_cons 7 rfl (fun a u hE hD hk => f_val (o := ⟨some 53, _, _, _, _, _⟩) (.int .i64 f.mk_.firm) rfl (wanted_at (b := false) false rfl rfl (hD 3 50 (by kernel_rfl))) (exec_loadi 3 Try.underlying3 (.tmp 52) ⟨g14, 2, none⟩ (.int .i64 f.mk_.firm) rfl (hD 5 52 (by kernel_rfl)) (range_int (range_kept HFb.out hk) 2 _ rfl)) rfl) ?_
        refine fsteps_cons 8 rfl (fun a u hE hD hk => f_val (o := ⟨some 54, _, _, _, _, _⟩) (.pointer (some ⟨g6, 2, none⟩)) rfl (wanted_at (b := false) false rfl rfl (hD 3 50 (by kernel_rfl))) (exec_fldo 25 2 2 (.tmp 6) (g6) (0) (2) rfl (hE 6 (.pointer (some ⟨g6, 0, none⟩)) (by kernel_rfl) (by kernel_rfl)) (by kernel_rfl) rfl) rfl) ?_
        refine fsteps_cons 9 rfl (fun a u hE hD hk => f_val (o := ⟨some 55, _, _, _, _, _⟩) (.int .i64 o.firm) rfl (wanted_at (b := false) false rfl rfl (hD 3 50 (by kernel_rfl))) (exec_loadi 3 Try.underlying3 (.tmp 54) ⟨g6, 2, none⟩ (.int .i64 o.firm) rfl (hD 7 54 (by kernel_rfl)) (range_int (range_kept HOb.out hk) 2 _ rfl)) rfl) ?_
        refine fsteps_cons 10 rfl (fun a u hE hD hk => f_as (show ((decide ((f.mk_.firm : Int) = (o.firm : Int))) : Bool) = false from decide_eq_false e2) (f_val (o := ⟨some 56, _, _, _, _, _⟩) (.bool (decide ((f.mk_.firm : Int) = (o.firm : Int)))) rfl (wanted_at (b := false) false rfl rfl (hD 3 50 (by kernel_rfl))) (exec_eqn (p := f.mk_.firm) (q := o.firm) rfl (hD 6 53 (by kernel_rfl)) (hD 8 55 (by kernel_rfl))) rfl)) ?_
        refine sv 11 rfl rfl rfl (fun a u hE hD hk => exec_pickF (.tmp 50) (.const (.bool true)) (.tmp 56) (.bool false) rfl (hD 3 50 (by kernel_rfl)) (hD 9 56 (by kernel_rfl))) ?_
        refine sv 12 rfl rfl rfl (fun a u hE hD hk => exec_move (.tmp 57) _ rfl (hD 10 57 (by kernel_rfl))) ?_
        refine fsteps_cons 13 rfl (fun a u hE hD hk => f_val (o := ⟨some 59, _, _, _, _, _⟩) (.pointer (some ⟨g14, 0, none⟩)) rfl (wanted_at (b := false) false rfl rfl (hD 11 58 (by kernel_rfl))) (exec_fldo 36 0 0 (.tmp 14) (g14) (0) (0) rfl (hE 14 (.pointer (some ⟨g14, 0, none⟩)) (by kernel_rfl) (by kernel_rfl)) (by kernel_rfl) rfl) rfl) ?_
        refine fsteps_cons 14 rfl (fun a u hE hD hk => f_val (o := ⟨some 60, _, _, _, _, _⟩) (.pointer (some ⟨g14, 3, none⟩)) rfl (wanted_at (b := false) false rfl rfl (hD 11 58 (by kernel_rfl))) (exec_fldo 25 3 3 (.tmp 59) (g14) (0) (3) rfl (hD 12 59 (by kernel_rfl)) (by kernel_rfl) rfl) rfl) ?_
        refine fsteps_cons 15 rfl (fun a u hE hD hk => f_val (o := ⟨some 61, _, _, _, _, _⟩) (.int .i64 f.mk_.side) rfl (wanted_at (b := false) false rfl rfl (hD 11 58 (by kernel_rfl))) (exec_loadi 3 Try.underlying3 (.tmp 60) ⟨g14, 3, none⟩ (.int .i64 f.mk_.side) rfl (hD 13 60 (by kernel_rfl)) (range_int (range_kept HFb.out hk) 3 _ rfl)) rfl) ?_
        refine fsteps_cons 16 rfl (fun a u hE hD hk => f_val (o := ⟨some 62, _, _, _, _, _⟩) (.int .i64 (3 - o.side)) rfl (wanted_at (b := false) false rfl rfl (hD 11 58 (by kernel_rfl))) (exec_move (.tmp 7) _ rfl (hE 7 (.int .i64 (3 - o.side)) (by kernel_rfl) (by kernel_rfl))) rfl) ?_
        refine fsteps_cons 17 rfl (fun a u hE hD hk => f_as (show ((decide ((f.mk_.side : Int) ≠ ((3 - o.side) : Int))) : Bool) = false from decide_eq_false (by omega)) (f_val (o := ⟨some 63, _, _, _, _, _⟩) (.bool (decide ((f.mk_.side : Int) ≠ ((3 - o.side) : Int)))) rfl (wanted_at (b := false) false rfl rfl (hD 11 58 (by kernel_rfl))) (exec_nen (p := f.mk_.side) (q := (3 - o.side)) rfl (hD 14 61 (by kernel_rfl)) (hD 15 62 (by kernel_rfl))) rfl)) ?_
        refine sv 18 rfl rfl rfl (fun a u hE hD hk => exec_pickF (.tmp 58) (.const (.bool true)) (.tmp 63) (.bool false) rfl (hD 11 58 (by kernel_rfl)) (hD 16 63 (by kernel_rfl))) ?_
        refine sv 19 rfl rfl rfl (fun a u hE hD hk => exec_move (.tmp 64) _ rfl (hD 17 64 (by kernel_rfl))) ?_
        refine fsteps_cons 20 rfl (fun a u hE hD hk => f_val (o := ⟨some 66, _, _, _, _, _⟩) (.pointer (some ⟨g14, 20, none⟩)) rfl (wanted_at (b := false) false rfl rfl (hD 18 65 (by kernel_rfl))) (exec_fldo 36 4 20 (.tmp 14) (g14) (0) (20) rfl (hE 14 (.pointer (some ⟨g14, 0, none⟩)) (by kernel_rfl) (by kernel_rfl)) (by kernel_rfl) rfl) rfl) ?_
        refine fsteps_cons 21 rfl (fun a u hE hD hk => f_val (o := ⟨some 67, _, _, _, _, _⟩) (.int .i64 f.no) rfl (wanted_at (b := false) false rfl rfl (hD 18 65 (by kernel_rfl))) (exec_loadi 3 Try.underlying3 (.tmp 66) ⟨g14, 20, none⟩ (.int .i64 f.no) rfl (hD 19 66 (by kernel_rfl)) (range_int (range_kept HFb.out hk) 20 _ rfl)) rfl) ?_
        refine fsteps_cons 22 rfl (fun a u hE hD hk => f_val (o := ⟨some 68, _, _, _, _, _⟩) (.int .i64 B.no) rfl (wanted_at (b := false) false rfl rfl (hD 18 65 (by kernel_rfl))) (exec_move (.tmp 10) _ rfl (hE 10 (.int .i64 B.no) (by kernel_rfl) (by kernel_rfl))) rfl) ?_
        refine fsteps_cons 23 rfl (fun a u hE hD hk => f_val (o := ⟨some 69, _, _, _, _, _⟩) (.int .i64 (i : Int)) rfl (wanted_at (b := false) false rfl rfl (hD 18 65 (by kernel_rfl))) (exec_move (.tmp 13) _ rfl (hE 13 (.int .i64 (i : Int)) (by kernel_rfl) (by kernel_rfl))) rfl) ?_
        refine fsteps_cons 24 rfl (fun a u hE hD hk => f_val (o := ⟨some 70, _, _, _, _, _⟩) (.int .i64 (B.no + (i : Int))) rfl (wanted_at (b := false) false rfl rfl (hD 18 65 (by kernel_rfl))) (exec_addn (B.no + (i : Int)) (p := B.no) (q := (i : Int)) rfl (hD 21 68 (by kernel_rfl)) (hD 22 69 (by kernel_rfl)) rfl (by omega) (by omega)) rfl) ?_
        refine fsteps_cons 25 rfl (fun a u hE hD hk => f_val (o := ⟨some 71, _, _, _, _, _⟩) (.int .i64 (B.no + (i : Int) + 1)) rfl (wanted_at (b := false) false rfl rfl (hD 18 65 (by kernel_rfl))) (exec_addn (B.no + (i : Int) + 1) (p := B.no + (i : Int)) (q := 1) rfl (hD 23 70 (by kernel_rfl)) rfl rfl (by omega) (by omega)) rfl) ?_
        refine fsteps_cons 26 rfl (fun a u hE hD hk => f_as (show ((decide ((f.no : Int) ≠ ((B.no + (i : Int) + 1) : Int))) : Bool) = false from decide_eq_false (by omega)) (f_val (o := ⟨some 72, _, _, _, _, _⟩) (.bool (decide ((f.no : Int) ≠ ((B.no + (i : Int) + 1) : Int)))) rfl (wanted_at (b := false) false rfl rfl (hD 18 65 (by kernel_rfl))) (exec_nen (p := f.no) (q := (B.no + (i : Int) + 1)) rfl (hD 20 67 (by kernel_rfl)) (hD 24 71 (by kernel_rfl))) rfl)) ?_
        refine sv 27 rfl rfl rfl (fun a u hE hD hk => exec_pickF (.tmp 65) (.const (.bool true)) (.tmp 72) (.bool false) rfl (hD 18 65 (by kernel_rfl)) (hD 25 72 (by kernel_rfl))) ?_
        refine sv 28 rfl rfl rfl (fun a u hE hD hk => exec_move (.tmp 73) _ rfl (hD 26 73 (by kernel_rfl))) ?_
        refine fsteps_cons 29 rfl (fun a u hE hD hk => f_val (o := ⟨some 75, _, _, _, _, _⟩) (.pointer (some ⟨g14, 18, none⟩)) rfl (wanted_at (b := false) false rfl rfl (hD 27 74 (by kernel_rfl))) (exec_fldo 36 2 18 (.tmp 14) (g14) (0) (18) rfl (hE 14 (.pointer (some ⟨g14, 0, none⟩)) (by kernel_rfl) (by kernel_rfl)) (by kernel_rfl) rfl) rfl) ?_
        refine fsteps_cons 30 rfl (fun a u hE hD hk => f_val (o := ⟨some 76, _, _, _, _, _⟩) (.int .i64 f.price) rfl (wanted_at (b := false) false rfl rfl (hD 27 74 (by kernel_rfl))) (exec_loadi 3 Try.underlying3 (.tmp 75) ⟨g14, 18, none⟩ (.int .i64 f.price) rfl (hD 28 75 (by kernel_rfl)) (range_int (range_kept HFb.out hk) 18 _ rfl)) rfl) ?_
        refine fsteps_cons 31 rfl (fun a u hE hD hk => f_val (o := ⟨some 77, _, _, _, _, _⟩) (.pointer (some ⟨g14, 0, none⟩)) rfl (wanted_at (b := false) false rfl rfl (hD 27 74 (by kernel_rfl))) (exec_fldo 36 0 0 (.tmp 14) (g14) (0) (0) rfl (hE 14 (.pointer (some ⟨g14, 0, none⟩)) (by kernel_rfl) (by kernel_rfl)) (by kernel_rfl) rfl) rfl) ?_
        refine fsteps_cons 32 rfl (fun a u hE hD hk => f_val (o := ⟨some 78, _, _, _, _, _⟩) (.pointer (some ⟨g14, 5, none⟩)) rfl (wanted_at (b := false) false rfl rfl (hD 27 74 (by kernel_rfl))) (exec_fldo 25 5 5 (.tmp 77) (g14) (0) (5) rfl (hD 30 77 (by kernel_rfl)) (by kernel_rfl) rfl) rfl) ?_
        refine fsteps_cons 33 rfl (fun a u hE hD hk => f_val (o := ⟨some 79, _, _, _, _, _⟩) (.int .i64 f.mk_.price) rfl (wanted_at (b := false) false rfl rfl (hD 27 74 (by kernel_rfl))) (exec_loadi 3 Try.underlying3 (.tmp 78) ⟨g14, 5, none⟩ (.int .i64 f.mk_.price) rfl (hD 31 78 (by kernel_rfl)) (range_int (range_kept HFb.out hk) 5 _ rfl)) rfl) ?_
        refine fsteps_cons 34 rfl (fun a u hE hD hk => f_as (show ((decide ((f.price : Int) ≠ (f.mk_.price : Int))) : Bool) = false from decide_eq_false (by omega)) (f_val (o := ⟨some 80, _, _, _, _, _⟩) (.bool (decide ((f.price : Int) ≠ (f.mk_.price : Int)))) rfl (wanted_at (b := false) false rfl rfl (hD 27 74 (by kernel_rfl))) (exec_nen (p := f.price) (q := f.mk_.price) rfl (hD 29 76 (by kernel_rfl)) (hD 32 79 (by kernel_rfl))) rfl)) ?_
        refine sv 35 rfl rfl rfl (fun a u hE hD hk => exec_pickF (.tmp 74) (.const (.bool true)) (.tmp 80) (.bool false) rfl (hD 27 74 (by kernel_rfl)) (hD 33 80 (by kernel_rfl))) ?_
        refine sv 36 rfl rfl rfl (fun a u hE hD hk => exec_move (.tmp 81) _ rfl (hD 34 81 (by kernel_rfl))) ?_
        refine fsteps_cons 37 rfl (fun a u hE hD hk => f_val (o := ⟨some 83, _, _, _, _, _⟩) (.pointer (some ⟨g14, 9, none⟩)) rfl (wanted_at (b := false) false rfl rfl (hD 35 82 (by kernel_rfl))) (exec_fldo 36 1 9 (.tmp 14) (g14) (0) (9) rfl (hE 14 (.pointer (some ⟨g14, 0, none⟩)) (by kernel_rfl) (by kernel_rfl)) (by kernel_rfl) rfl) rfl) ?_
        refine fsteps_cons 38 rfl (fun a u hE hD hk => f_val (o := ⟨some 84, _, _, _, _, _⟩) (.pointer (some ⟨g14, 15, none⟩)) rfl (wanted_at (b := false) false rfl rfl (hD 35 82 (by kernel_rfl))) (exec_fldo 25 6 6 (.tmp 83) (g14) (9) (15) rfl (hD 36 83 (by kernel_rfl)) (by kernel_rfl) rfl) rfl) ?_
        refine fsteps_cons 39 rfl (fun a u hE hD hk => f_val (o := ⟨some 85, _, _, _, _, _⟩) (.int .i64 f.tk.qty) rfl (wanted_at (b := false) false rfl rfl (hD 35 82 (by kernel_rfl))) (exec_loadi 3 Try.underlying3 (.tmp 84) ⟨g14, 15, none⟩ (.int .i64 f.tk.qty) rfl (hD 37 84 (by kernel_rfl)) (range_int (range_kept HFb.out hk) 15 _ rfl)) rfl) ?_
        refine fsteps_cons 40 rfl (fun a u hE hD hk => f_val (o := ⟨some 86, _, _, _, _, _⟩) (.pointer (some ⟨g6, 6, none⟩)) rfl (wanted_at (b := false) false rfl rfl (hD 35 82 (by kernel_rfl))) (exec_fldo 25 6 6 (.tmp 6) (g6) (0) (6) rfl (hE 6 (.pointer (some ⟨g6, 0, none⟩)) (by kernel_rfl) (by kernel_rfl)) (by kernel_rfl) rfl) rfl) ?_
        refine fsteps_cons 41 rfl (fun a u hE hD hk => f_val (o := ⟨some 87, _, _, _, _, _⟩) (.int .i64 o.qty) rfl (wanted_at (b := false) false rfl rfl (hD 35 82 (by kernel_rfl))) (exec_loadi 3 Try.underlying3 (.tmp 86) ⟨g6, 6, none⟩ (.int .i64 o.qty) rfl (hD 39 86 (by kernel_rfl)) (range_int (range_kept HOb.out hk) 6 _ rfl)) rfl) ?_
        refine fsteps_cons 42 rfl (fun a u hE hD hk => f_val (o := ⟨some 88, _, _, _, _, _⟩) (.int .i64 gq) rfl (wanted_at (b := false) false rfl rfl (hD 35 82 (by kernel_rfl))) (exec_move (.tmp 12) _ rfl (hE 12 (.int .i64 gq) (by kernel_rfl) (by kernel_rfl))) rfl) ?_
        refine fsteps_cons 43 rfl (fun a u hE hD hk => f_val (o := ⟨some 89, _, _, _, _, _⟩) (.int .i64 (o.qty - gq)) rfl (wanted_at (b := false) false rfl rfl (hD 35 82 (by kernel_rfl))) (exec_subn (o.qty - gq) (p := o.qty) (q := gq) rfl (hD 40 87 (by kernel_rfl)) (hD 41 88 (by kernel_rfl)) rfl (by omega) (by omega)) rfl) ?_
        refine fsteps_cons 44 rfl (fun a u hE hD hk => f_as (show ((decide ((f.tk.qty : Int) ≠ ((o.qty - gq) : Int))) : Bool) = false from decide_eq_false (by omega)) (f_val (o := ⟨some 90, _, _, _, _, _⟩) (.bool (decide ((f.tk.qty : Int) ≠ ((o.qty - gq) : Int)))) rfl (wanted_at (b := false) false rfl rfl (hD 35 82 (by kernel_rfl))) (exec_nen (p := f.tk.qty) (q := (o.qty - gq)) rfl (hD 38 85 (by kernel_rfl)) (hD 42 89 (by kernel_rfl))) rfl)) ?_
        refine sv 45 rfl rfl rfl (fun a u hE hD hk => exec_pickF (.tmp 82) (.const (.bool true)) (.tmp 90) (.bool false) rfl (hD 35 82 (by kernel_rfl)) (hD 43 90 (by kernel_rfl))) ?_
        exact fsteps_nil
      intro gv wc hV kc
      rw [show dstsOf _ 45 = [47, 48, 49, 50, 51, 52, 53, 54, 55, 56, 57, 58, 59, 60, 61, 62, 63, 64, 65, 66, 67, 68, 69, 70, 71, 72, 73, 74, 75, 76, 77, 78, 79, 80, 81, 82, 83, 84, 85, 86, 87, 88, 89, 90, 91] by kernel_rfl]
      simp only [fC, fN, sA, sS, sZ, dS, dZ]
      rw [show gv 91 = .bool false from hV 44 91 (by kernel_rfl)]
      clear hV
      refine wpList_nil ?_
      have HFc := Lib.hid (range_kept HFb.out kc)
      have kwc := (hkr.trans kb).trans kc
      clear HFb HOb e2 e3 e4 e5 e6 kb kc
      go_upto_region 14 with fail
      refine wp_text 4 [.eq (.int .i64 gq), .eq (.pointer (some ⟨g14, 19, none⟩)), .eq (.int .i64 f.qty), .eq (.int .i64 (gq + f.qty))] rfl (by kernel_rfl) ?_ ?_
      · refine sv 1 rfl rfl rfl (fun a u hE hD hk => exec_move (.tmp 12) _ rfl (hE 12 (.int .i64 gq) (by kernel_rfl) (by kernel_rfl))) ?_
        refine sv 2 rfl rfl rfl (fun a u hE hD hk => exec_fldo 36 3 19 (.tmp 14) (g14) (0) (19) rfl (hE 14 (.pointer (some ⟨g14, 0, none⟩)) (by kernel_rfl) (by kernel_rfl)) (by kernel_rfl) rfl) ?_
        refine sv 3 rfl rfl rfl (fun a u hE hD hk => exec_loadi 3 Try.underlying3 (.tmp 93) ⟨g14, 19, none⟩ (.int .i64 f.qty) rfl (hD 1 93 (by kernel_rfl)) (range_int (range_kept HFc.out hk) 19 _ rfl)) ?_
        refine sv 4 rfl rfl rfl (fun a u hE hD hk => exec_addn (gq + f.qty) (p := gq) (q := f.qty) rfl (hD 0 92 (by kernel_rfl)) (hD 2 94 (by kernel_rfl)) rfl (by omega) (by omega)) ?_
        exact fsteps_nil
      intro gv wd hV kd
      rw [show dstsOf _ 4 = [92, 93, 94, 95] by kernel_rfl]
      simp only [fC, fN, sA, sS, sZ, dS, dZ]
      rw [show gv 95 = .int .i64 (gq + f.qty) from hV 3 95 (by kernel_rfl)]
      clear hV
      refine l_val (o := ⟨some 12, _, _, _, _, _⟩) (.int .i64 (gq + f.qty)) rfl (exec_assign (.tmp 95) (.int .i64 (gq + f.qty)) rfl (by kernel_rfl)) ?_
      simp only [Act.put, sA, sS, sZ]
      refine wpList_nil ?_
      have kwd := kwc.trans kd
      clear halow halow1 hq12 e1 kwc kd
      go_wp2
      exact ⟨⟨i + 1, gq + f.qty, by omega, by go_num, rfl, HA1, kwd⟩, by simp [intOf]; omega⟩
    · have HAF : Hid (gq = sumF x.f) := by show _ = _; rw [HA.out, List.take_of_length_le (by rw [HN.out]; omega)]
      have HO8 := Lib.hid (range_kept HO7.out hkr)
      have HB8 := Lib.hid (HB7.out.kept hkr)
      have HC8 := Lib.hid (HC7.out.kept hkr)
      have HS8 := Lib.hid (HS7.out.kept hkr)
      have kw8 := kw7.trans hkr
      clear HA
      by_cases hxe : x.err ≠ 0
      · obtain ⟨b1, b2, b3, b4⟩ := HCI.out.bad hxe
        have ha0 : gq = 0 := by rw [HAF.out, b1]; rfl
        have hm10 : m1 = m0 := by rw [← HM1.out, ← HM0.out, b4]
        have ht10 : t1 = t0 := by rw [← HT1.out, ← HT0.out, b4]
        have hn10 : n1 = B.no := by rw [← HN1.out, b4]
        clear b1 b4
        go_upto_region 16 with fail
        refine wp_text 3 [.eq (.pointer (some ⟨g11, 14, none⟩)), .eq (.int .i64 x.err), .eq (.bool true)] rfl (by kernel_rfl) ?_ ?_
        · refine sv 1 rfl rfl rfl (fun a u hE hD hk => exec_fldo 29 6 14 (.tmp 11) (g11) (0) (14) rfl (hE 11 (.pointer (some ⟨g11, 0, none⟩)) (by kernel_rfl) (by kernel_rfl)) (by kernel_rfl) rfl) ?_
          refine sv 2 rfl rfl rfl (fun a u hE hD hk => exec_loadi 27 Try.underlying27 (.tmp 97) ⟨g11, 14, none⟩ (.int .i64 x.err) rfl (hD 0 97 (by kernel_rfl)) (by rw [(HC8.out.kept hk).cell]; rfl)) ?_
          refine fsteps_cons 3 rfl (fun a u hE hD hk => f_as (show ((decide ((x.err : Int) ≠ (0 : Int))) : Bool) = true from decide_eq_true hxe) (f_val (o := ⟨some 99, _, _, _, _, _⟩) (.bool (decide ((x.err : Int) ≠ (0 : Int)))) rfl (wanted_none rfl _) (exec_nen (p := x.err) (q := 0) rfl (hD 1 98 (by kernel_rfl)) rfl) rfl)) ?_
          exact fsteps_nil
        intro gv w9 hV k9
        rw [show dstsOf _ 3 = [97, 98, 99] by kernel_rfl]
        simp only [fC, fN, sA, sS, sZ, dS, dZ]
        rw [show gv 99 = .bool true from hV 2 99 (by kernel_rfl)]
        clear hV
        refine wpList_nil ?_
        have HO9 := Lib.hid (range_kept HO8.out k9)
        have HB9 := Lib.hid (HB8.out.kept k9)
        have HC9 := Lib.hid (HC8.out.kept k9)
        clear HO8 HB8 HC8 HS8 hxe
        go_upto_region 17 with fail
        refine wp_text 41 [.eq (.int .i64 gq), .eq (.bool true), .eq (.bool true), .eq (.pointer (some ⟨g11, 10, none⟩)), .eq (.int .i64 x.left), .eq (.pointer (some ⟨g6, 6, none⟩)), .eq (.int .i64 o.qty), .eq (.bool true), .eq (.bool true), .eq (.bool true), .eq (.pointer (some ⟨g11, 11, none⟩)), .eq (.bool x.rests), .eq (.bool true), .eq (.bool true), .eq (.bool true), .eq (.pointer (some ⟨p, 0, none⟩)), .eq (.pointer (some ⟨g6, 3, none⟩)), .eq (.int .i64 o.side), .sl w9.heap.size 25 9 (ordsL (B'.sd o.side)).length (ords (ordsL (B'.sd o.side))), .eq (.int .i64 m1), .eq (.int .i64 m0), .eq (.bool true), .eq (.bool true), .eq (.bool true), .eq (.pointer (some ⟨p, 0, none⟩)), .eq (.int .i64 (3 - o.side)), .sl w9.heap.size 25 9 (ordsL (B'.sd (3 - o.side))).length (ords (ordsL (B'.sd (3 - o.side)))), .eq (.int .i64 t1), .eq (.int .i64 t0), .eq (.bool true), .eq (.bool true), .eq (.bool true), .eq (.pointer (some ⟨p, 0, none⟩)), .eq (.int .i64 n1), .eq (.int .i64 B.no), .eq (.bool true), .eq (.bool true), .eq (.bool true), .eq (.bool true), .eq (.bool true), .eq (.bool true)] rfl (by kernel_rfl) ?_ ?_
        · refine sv 1 rfl rfl rfl (fun a u hE hD hk => exec_move (.tmp 12) _ rfl (hE 12 (.int .i64 gq) (by kernel_rfl) (by kernel_rfl))) ?_
          refine fsteps_cons 2 rfl (fun a u hE hD hk => f_as (show ((decide ((gq : Int) = (0 : Int))) : Bool) = true from decide_eq_true ha0) (f_val (o := ⟨some 101, _, _, _, _, _⟩) (.bool (decide ((gq : Int) = (0 : Int)))) rfl (wanted_none rfl _) (exec_eqn (p := gq) (q := 0) rfl (hD 0 100 (by kernel_rfl)) rfl) rfl)) ?_
          refine sv 3 rfl rfl rfl (fun a u hE hD hk => exec_move (.tmp 101) _ rfl (hD 1 101 (by kernel_rfl))) ?_
          refine fsteps_cons 4 rfl (fun a u hE hD hk => f_val (o := ⟨some 103, _, _, _, _, _⟩) (.pointer (some ⟨g11, 10, none⟩)) rfl (wanted_at (b := true) true rfl rfl (hD 2 102 (by kernel_rfl))) (exec_fldo 29 2 10 (.tmp 11) (g11) (0) (10) rfl (hE 11 (.pointer (some ⟨g11, 0, none⟩)) (by kernel_rfl) (by kernel_rfl)) (by kernel_rfl) rfl) rfl) ?_
          refine fsteps_cons 5 rfl (fun a u hE hD hk => f_val (o := ⟨some 104, _, _, _, _, _⟩) (.int .i64 x.left) rfl (wanted_at (b := true) true rfl rfl (hD 2 102 (by kernel_rfl))) (exec_loadi 3 Try.underlying3 (.tmp 103) ⟨g11, 10, none⟩ (.int .i64 x.left) rfl (hD 3 103 (by kernel_rfl)) (by rw [(HC9.out.kept hk).cell]; rfl)) rfl) ?_
          refine fsteps_cons 6 rfl (fun a u hE hD hk => f_val (o := ⟨some 105, _, _, _, _, _⟩) (.pointer (some ⟨g6, 6, none⟩)) rfl (wanted_at (b := true) true rfl rfl (hD 2 102 (by kernel_rfl))) (exec_fldo 25 6 6 (.tmp 6) (g6) (0) (6) rfl (hE 6 (.pointer (some ⟨g6, 0, none⟩)) (by kernel_rfl) (by kernel_rfl)) (by kernel_rfl) rfl) rfl) ?_
          refine fsteps_cons 7 rfl (fun a u hE hD hk => f_val (o := ⟨some 106, _, _, _, _, _⟩) (.int .i64 o.qty) rfl (wanted_at (b := true) true rfl rfl (hD 2 102 (by kernel_rfl))) (exec_loadi 3 Try.underlying3 (.tmp 105) ⟨g6, 6, none⟩ (.int .i64 o.qty) rfl (hD 5 105 (by kernel_rfl)) (range_int (range_kept HO9.out hk) 6 _ rfl)) rfl) ?_
          refine fsteps_cons 8 rfl (fun a u hE hD hk => f_as (show ((decide ((x.left : Int) = (o.qty : Int))) : Bool) = true from decide_eq_true b2) (f_val (o := ⟨some 107, _, _, _, _, _⟩) (.bool (decide ((x.left : Int) = (o.qty : Int)))) rfl (wanted_at (b := true) true rfl rfl (hD 2 102 (by kernel_rfl))) (exec_eqn (p := x.left) (q := o.qty) rfl (hD 4 104 (by kernel_rfl)) (hD 6 106 (by kernel_rfl))) rfl)) ?_
          refine sv 9 rfl rfl rfl (fun a u hE hD hk => exec_pick (.tmp 102) (.tmp 107) (.const (.bool false)) (.bool true) rfl (hD 2 102 (by kernel_rfl)) (hD 7 107 (by kernel_rfl))) ?_
          refine sv 10 rfl rfl rfl (fun a u hE hD hk => exec_move (.tmp 108) _ rfl (hD 8 108 (by kernel_rfl))) ?_
          refine fsteps_cons 11 rfl (fun a u hE hD hk => f_val (o := ⟨some 110, _, _, _, _, _⟩) (.pointer (some ⟨g11, 11, none⟩)) rfl (wanted_at (b := true) true rfl rfl (hD 9 109 (by kernel_rfl))) (exec_fldo 29 3 11 (.tmp 11) (g11) (0) (11) rfl (hE 11 (.pointer (some ⟨g11, 0, none⟩)) (by kernel_rfl) (by kernel_rfl)) (by kernel_rfl) rfl) rfl) ?_
          refine fsteps_cons 12 rfl (fun a u hE hD hk => f_val (o := ⟨some 111, _, _, _, _, _⟩) (.bool x.rests) rfl (wanted_at (b := true) true rfl rfl (hD 9 109 (by kernel_rfl))) (exec_ldb 4 Try.underlying4 (.tmp 110) ⟨g11, 11, none⟩ (.bool x.rests) rfl (hD 10 110 (by kernel_rfl)) (by rw [(HC9.out.kept hk).cell]; rfl)) rfl) ?_
          refine fsteps_cons 13 rfl (fun a u hE hD hk => f_as (show ((!x.rests) : Bool) = true from (by rw [b3]; rfl)) (f_val (o := ⟨some 112, _, _, _, _, _⟩) (.bool (!x.rests)) rfl (wanted_at (b := true) true rfl rfl (hD 9 109 (by kernel_rfl))) (exec_not _ (.tmp 111) x.rests rfl (hD 11 111 (by kernel_rfl))) rfl)) ?_
          refine sv 14 rfl rfl rfl (fun a u hE hD hk => exec_pick (.tmp 109) (.tmp 112) (.const (.bool false)) (.bool true) rfl (hD 9 109 (by kernel_rfl)) (hD 12 112 (by kernel_rfl))) ?_
          refine sv 15 rfl rfl rfl (fun a u hE hD hk => exec_move (.tmp 113) _ rfl (hD 13 113 (by kernel_rfl))) ?_
          refine fsteps_cons 16 rfl (fun a u hE hD hk => f_val (o := ⟨some 115, _, _, _, _, _⟩) (.pointer (some ⟨p, 0, none⟩)) rfl (wanted_at (b := true) true rfl rfl (hD 14 114 (by kernel_rfl))) (exec_move (.tmp 5) _ rfl (hE 5 (.pointer (some ⟨p, 0, none⟩)) (by kernel_rfl) (by kernel_rfl))) rfl) ?_
          refine fsteps_cons 17 rfl (fun a u hE hD hk => f_val (o := ⟨some 116, _, _, _, _, _⟩) (.pointer (some ⟨g6, 3, none⟩)) rfl (wanted_at (b := true) true rfl rfl (hD 14 114 (by kernel_rfl))) (exec_fldo 25 3 3 (.tmp 6) (g6) (0) (3) rfl (hE 6 (.pointer (some ⟨g6, 0, none⟩)) (by kernel_rfl) (by kernel_rfl)) (by kernel_rfl) rfl) rfl) ?_
          refine fsteps_cons 18 rfl (fun a u hE hD hk => f_val (o := ⟨some 117, _, _, _, _, _⟩) (.int .i64 o.side) rfl (wanted_at (b := true) true rfl rfl (hD 14 114 (by kernel_rfl))) (exec_loadi 3 Try.underlying3 (.tmp 116) ⟨g6, 3, none⟩ (.int .i64 o.side) rfl (hD 16 116 (by kernel_rfl)) (range_int (range_kept HO9.out hk) 3 _ rfl)) rfl) ?_
          refine fsteps_cons 19 rfl (fun a u hE hD hk => f_call (o := ⟨some 118, _, _, _, _, _⟩) 32 #[.pointer (some ⟨p, 0, none⟩), .int .i64 o.side] rfl (wanted_at (b := true) true rfl rfl (hD 14 114 (by kernel_rfl))) (exec_call 32 _ [.tmp 115, .tmp 117] _ [.pointer (some ⟨p, 0, none⟩), .int .i64 o.side] Try.func32 (by kernel_rfl) (by kernel_rfl) rfl (show [a.eval (.tmp 115), a.eval (.tmp 117)] = [.pointer (some ⟨p, 0, none⟩), .int .i64 o.side] from (by rw [show a.eval (.tmp 115) = .pointer (some ⟨p, 0, none⟩) from (hD 15 115 (by kernel_rfl)), show a.eval (.tmp 117) = .int .i64 o.side from (hD 17 117 (by kernel_rfl))] <;> rfl)) u) ((borders_any u F5 p B' o.side (HB9.out.kept hk) HI'.out).base hk.size)) ?_
          refine fsteps_cons 20 rfl (fun a u hE hD hk => f_call (o := ⟨some 119, _, _, _, _, _⟩) 34 #[a.eval (.tmp 118)] rfl (wanted_at (b := true) true rfl rfl (hD 14 114 (by kernel_rfl))) (exec_call 34 _ [.tmp 118] _ [a.eval (.tmp 118)] Try.func34 (by kernel_rfl) (by kernel_rfl) rfl rfl u) ((by have h := whole_sd (a.eval (.tmp 118)) B' o.side _ u HS1.out HI'.out (hD 18 118 (by kernel_rfl)); rw [HM1.out] at h; exact h))) ?_
          refine fsteps_cons 21 rfl (fun a u hE hD hk => f_val (o := ⟨some 120, _, _, _, _, _⟩) (.int .i64 m0) rfl (wanted_at (b := true) true rfl rfl (hD 14 114 (by kernel_rfl))) (exec_move (.tmp 8) _ rfl (hE 8 (.int .i64 m0) (by kernel_rfl) (by kernel_rfl))) rfl) ?_
          refine fsteps_cons 22 rfl (fun a u hE hD hk => f_as (show ((decide ((m1 : Int) = (m0 : Int))) : Bool) = true from decide_eq_true hm10) (f_val (o := ⟨some 121, _, _, _, _, _⟩) (.bool (decide ((m1 : Int) = (m0 : Int)))) rfl (wanted_at (b := true) true rfl rfl (hD 14 114 (by kernel_rfl))) (exec_eqn (p := m1) (q := m0) rfl (hD 19 119 (by kernel_rfl)) (hD 20 120 (by kernel_rfl))) rfl)) ?_
          refine sv 23 rfl rfl rfl (fun a u hE hD hk => exec_pick (.tmp 114) (.tmp 121) (.const (.bool false)) (.bool true) rfl (hD 14 114 (by kernel_rfl)) (hD 21 121 (by kernel_rfl))) ?_
          refine sv 24 rfl rfl rfl (fun a u hE hD hk => exec_move (.tmp 122) _ rfl (hD 22 122 (by kernel_rfl))) ?_
          refine fsteps_cons 25 rfl (fun a u hE hD hk => f_val (o := ⟨some 124, _, _, _, _, _⟩) (.pointer (some ⟨p, 0, none⟩)) rfl (wanted_at (b := true) true rfl rfl (hD 23 123 (by kernel_rfl))) (exec_move (.tmp 5) _ rfl (hE 5 (.pointer (some ⟨p, 0, none⟩)) (by kernel_rfl) (by kernel_rfl))) rfl) ?_
          refine fsteps_cons 26 rfl (fun a u hE hD hk => f_val (o := ⟨some 125, _, _, _, _, _⟩) (.int .i64 (3 - o.side)) rfl (wanted_at (b := true) true rfl rfl (hD 23 123 (by kernel_rfl))) (exec_move (.tmp 7) _ rfl (hE 7 (.int .i64 (3 - o.side)) (by kernel_rfl) (by kernel_rfl))) rfl) ?_
          refine fsteps_cons 27 rfl (fun a u hE hD hk => f_call (o := ⟨some 126, _, _, _, _, _⟩) 32 #[.pointer (some ⟨p, 0, none⟩), .int .i64 (3 - o.side)] rfl (wanted_at (b := true) true rfl rfl (hD 23 123 (by kernel_rfl))) (exec_call 32 _ [.tmp 124, .tmp 125] _ [.pointer (some ⟨p, 0, none⟩), .int .i64 (3 - o.side)] Try.func32 (by kernel_rfl) (by kernel_rfl) rfl (show [a.eval (.tmp 124), a.eval (.tmp 125)] = [.pointer (some ⟨p, 0, none⟩), .int .i64 (3 - o.side)] from (by rw [show a.eval (.tmp 124) = .pointer (some ⟨p, 0, none⟩) from (hD 24 124 (by kernel_rfl)), show a.eval (.tmp 125) = .int .i64 (3 - o.side) from (hD 25 125 (by kernel_rfl))] <;> rfl)) u) ((borders_any u F5 p B' (3 - o.side) (HB9.out.kept hk) HI'.out).base hk.size)) ?_
          refine fsteps_cons 28 rfl (fun a u hE hD hk => f_call (o := ⟨some 127, _, _, _, _, _⟩) 34 #[a.eval (.tmp 126)] rfl (wanted_at (b := true) true rfl rfl (hD 23 123 (by kernel_rfl))) (exec_call 34 _ [.tmp 126] _ [a.eval (.tmp 126)] Try.func34 (by kernel_rfl) (by kernel_rfl) rfl rfl u) ((by have h := whole_sd (a.eval (.tmp 126)) B' (3 - o.side) _ u HS3.out HI'.out (hD 26 126 (by kernel_rfl)); rw [HT1.out] at h; exact h))) ?_
          refine fsteps_cons 29 rfl (fun a u hE hD hk => f_val (o := ⟨some 128, _, _, _, _, _⟩) (.int .i64 t0) rfl (wanted_at (b := true) true rfl rfl (hD 23 123 (by kernel_rfl))) (exec_move (.tmp 9) _ rfl (hE 9 (.int .i64 t0) (by kernel_rfl) (by kernel_rfl))) rfl) ?_
          refine fsteps_cons 30 rfl (fun a u hE hD hk => f_as (show ((decide ((t1 : Int) = (t0 : Int))) : Bool) = true from decide_eq_true ht10) (f_val (o := ⟨some 129, _, _, _, _, _⟩) (.bool (decide ((t1 : Int) = (t0 : Int)))) rfl (wanted_at (b := true) true rfl rfl (hD 23 123 (by kernel_rfl))) (exec_eqn (p := t1) (q := t0) rfl (hD 27 127 (by kernel_rfl)) (hD 28 128 (by kernel_rfl))) rfl)) ?_
          refine sv 31 rfl rfl rfl (fun a u hE hD hk => exec_pick (.tmp 123) (.tmp 129) (.const (.bool false)) (.bool true) rfl (hD 23 123 (by kernel_rfl)) (hD 29 129 (by kernel_rfl))) ?_
          refine sv 32 rfl rfl rfl (fun a u hE hD hk => exec_move (.tmp 130) _ rfl (hD 30 130 (by kernel_rfl))) ?_
          refine fsteps_cons 33 rfl (fun a u hE hD hk => f_val (o := ⟨some 132, _, _, _, _, _⟩) (.pointer (some ⟨p, 0, none⟩)) rfl (wanted_at (b := true) true rfl rfl (hD 31 131 (by kernel_rfl))) (exec_move (.tmp 5) _ rfl (hE 5 (.pointer (some ⟨p, 0, none⟩)) (by kernel_rfl) (by kernel_rfl))) rfl) ?_
          refine fsteps_cons 34 rfl (fun a u hE hD hk => f_call (o := ⟨some 133, _, _, _, _, _⟩) 19 #[.pointer (some ⟨p, 0, none⟩)] rfl (wanted_at (b := true) true rfl rfl (hD 31 131 (by kernel_rfl))) (exec_call 19 _ [.tmp 132] _ [.pointer (some ⟨p, 0, none⟩)] Try.func19 (by kernel_rfl) (by kernel_rfl) rfl (show [a.eval (.tmp 132)] = [.pointer (some ⟨p, 0, none⟩)] from (by rw [show a.eval (.tmp 132) = .pointer (some ⟨p, 0, none⟩) from (hD 32 132 (by kernel_rfl))] <;> rfl)) u) ((by have h := bno_any u F5 p B' (HB9.out.kept hk); rw [HN1.out] at h; exact h))) ?_
          refine fsteps_cons 35 rfl (fun a u hE hD hk => f_val (o := ⟨some 134, _, _, _, _, _⟩) (.int .i64 B.no) rfl (wanted_at (b := true) true rfl rfl (hD 31 131 (by kernel_rfl))) (exec_move (.tmp 10) _ rfl (hE 10 (.int .i64 B.no) (by kernel_rfl) (by kernel_rfl))) rfl) ?_
          refine fsteps_cons 36 rfl (fun a u hE hD hk => f_as (show ((decide ((n1 : Int) = (B.no : Int))) : Bool) = true from decide_eq_true hn10) (f_val (o := ⟨some 135, _, _, _, _, _⟩) (.bool (decide ((n1 : Int) = (B.no : Int)))) rfl (wanted_at (b := true) true rfl rfl (hD 31 131 (by kernel_rfl))) (exec_eqn (p := n1) (q := B.no) rfl (hD 33 133 (by kernel_rfl)) (hD 34 134 (by kernel_rfl))) rfl)) ?_
          refine sv 37 rfl rfl rfl (fun a u hE hD hk => exec_pick (.tmp 131) (.tmp 135) (.const (.bool false)) (.bool true) rfl (hD 31 131 (by kernel_rfl)) (hD 35 135 (by kernel_rfl))) ?_
          refine sv 38 rfl rfl rfl (fun a u hE hD hk => exec_move (.tmp 136) _ rfl (hD 36 136 (by kernel_rfl))) ?_
          refine fsteps_cons 39 rfl (fun a u hE hD hk => f_call (o := ⟨some 138, _, _, _, _, _⟩) 3 #[] rfl (wanted_at (b := true) true rfl rfl (hD 37 137 (by kernel_rfl))) (exec_call 3 _ [] _ [] Try.func3 (by kernel_rfl) (by kernel_rfl) rfl rfl u) (bruns_gives u)) ?_
          refine sv 40 rfl rfl rfl (fun a u hE hD hk => exec_pick (.tmp 137) (.tmp 138) (.const (.bool false)) (.bool true) rfl (hD 37 137 (by kernel_rfl)) (hD 38 138 (by kernel_rfl))) ?_
          refine sv 41 rfl rfl rfl (fun a u hE hD hk => exec_assign (.tmp 139) _ rfl (hD 39 139 (by kernel_rfl))) ?_
          exact fsteps_nil
        intro gv wx hV kx
        rw [show dstsOf _ 41 = [100, 101, 102, 103, 104, 105, 106, 107, 108, 109, 110, 111, 112, 113, 114, 115, 116, 117, 118, 119, 120, 121, 122, 123, 124, 125, 126, 127, 128, 129, 130, 131, 132, 133, 134, 135, 136, 137, 138, 139, 4] by kernel_rfl]
        simp only [fC, fN, sA, sS, sZ, dS, dZ]
        rw [show gv 4 = .bool true from hV 40 4 (by kernel_rfl)]
        clear hV
        refine wpList_nil ?_
        go_wp2
        go_ret
        exact ⟨rfl, (kw8.trans k9).trans kx⟩
      · have hx0 : x.err = 0 := Classical.not_not.1 hxe
        obtain ⟨c1, c2, c3, c4⟩ := HCI.out.ok hx0
        rw [HT1.out, HT0.out, ← HAF.out] at c2
        rw [HM1.out, HM0.out] at c3
        rw [HN1.out, HN.out] at c4
        rw [← HAF.out] at c1
        have hlf := HCI.out.left
        have hq12 := HOQ.out
        go_upto_region 16 with fail
        refine wp_text 3 [.eq (.pointer (some ⟨g11, 14, none⟩)), .eq (.int .i64 x.err), .eq (.bool false)] rfl (by kernel_rfl) ?_ ?_
        · refine sv 1 rfl rfl rfl (fun a u hE hD hk => exec_fldo 29 6 14 (.tmp 11) (g11) (0) (14) rfl (hE 11 (.pointer (some ⟨g11, 0, none⟩)) (by kernel_rfl) (by kernel_rfl)) (by kernel_rfl) rfl) ?_
          refine sv 2 rfl rfl rfl (fun a u hE hD hk => exec_loadi 27 Try.underlying27 (.tmp 97) ⟨g11, 14, none⟩ (.int .i64 x.err) rfl (hD 0 97 (by kernel_rfl)) (by rw [(HC8.out.kept hk).cell]; rfl)) ?_
          refine fsteps_cons 3 rfl (fun a u hE hD hk => f_as (show ((decide ((x.err : Int) ≠ (0 : Int))) : Bool) = false from decide_eq_false hxe) (f_val (o := ⟨some 99, _, _, _, _, _⟩) (.bool (decide ((x.err : Int) ≠ (0 : Int)))) rfl (wanted_none rfl _) (exec_nen (p := x.err) (q := 0) rfl (hD 1 98 (by kernel_rfl)) rfl) rfl)) ?_
          exact fsteps_nil
        intro gv w9 hV k9
        rw [show dstsOf _ 3 = [97, 98, 99] by kernel_rfl]
        simp only [fC, fN, sA, sS, sZ, dS, dZ]
        rw [show gv 99 = .bool false from hV 2 99 (by kernel_rfl)]
        clear hV
        refine wpList_nil ?_
        have HO9 := Lib.hid (range_kept HO8.out k9)
        have HB9 := Lib.hid (HB8.out.kept k9)
        have HC9 := Lib.hid (HC8.out.kept k9)
        have HS9 := Lib.hid (HS8.out.kept k9)
        have kw9 := kw8.trans k9
        clear HO8 HB8 HC8 HS8 hxe hx0 k9 kw8
        go_upto_region 18 with fail
        refine wp_text 1 [.eq (.int .i64 0)] rfl (by kernel_rfl) ?_ ?_
        · refine sv 1 rfl rfl rfl (fun a u hE hD hk => exec_assign (.const (.int .i64 0)) _ rfl rfl) ?_
          exact fsteps_nil
        intro gv wa hV ka
        rw [show dstsOf _ 1 = [15] by kernel_rfl]
        simp only [fC, fN, sA, sS, sZ, dS, dZ]
        rw [show gv 15 = .int .i64 0 from hV 0 15 (by kernel_rfl)]
        clear hV
        refine wpList_nil ?_
        have HCa := Lib.hid (HC9.out.kept ka)
        by_cases hrs : x.rests = true
        · rw [if_pos hrs] at c3
          go_upto_region 19 with fail
          refine wp_text 2 [.eq (.pointer (some ⟨g11, 11, none⟩)), .eq (.bool x.rests)] rfl (by kernel_rfl) ?_ ?_
          · refine sv 1 rfl rfl rfl (fun a u hE hD hk => exec_fldo 29 3 11 (.tmp 11) (g11) (0) (11) rfl (hE 11 (.pointer (some ⟨g11, 0, none⟩)) (by kernel_rfl) (by kernel_rfl)) (by kernel_rfl) rfl) ?_
            refine sv 2 rfl rfl rfl (fun a u hE hD hk => exec_ldb 4 Try.underlying4 (.tmp 140) ⟨g11, 11, none⟩ (.bool x.rests) rfl (hD 0 140 (by kernel_rfl)) (by rw [(HCa.out.kept hk).cell]; rfl)) ?_
            exact fsteps_nil
          intro gv wb hV kb
          rw [show dstsOf _ 2 = [140, 141] by kernel_rfl]
          simp only [fC, fN, sA, sS, sZ, dS, dZ]
          rw [show gv 141 = .bool x.rests from hV 1 141 (by kernel_rfl)]
          clear hV
          refine wpList_nil ?_
          rw [hrs]
          have HCc := Lib.hid (HCa.out.kept kb)
          go_upto_region 20 with fail
          refine wp_text 3 [.eq (.pointer (some ⟨g11, 10, none⟩)), .eq (.int .i64 x.left), .eq (.int .i64 x.left)] rfl (by kernel_rfl) ?_ ?_
          · refine sv 1 rfl rfl rfl (fun a u hE hD hk => exec_fldo 29 2 10 (.tmp 11) (g11) (0) (10) rfl (hE 11 (.pointer (some ⟨g11, 0, none⟩)) (by kernel_rfl) (by kernel_rfl)) (by kernel_rfl) rfl) ?_
            refine sv 2 rfl rfl rfl (fun a u hE hD hk => exec_loadi 3 Try.underlying3 (.tmp 142) ⟨g11, 10, none⟩ (.int .i64 x.left) rfl (hD 0 142 (by kernel_rfl)) (by rw [(HCc.out.kept hk).cell]; rfl)) ?_
            refine sv 3 rfl rfl rfl (fun a u hE hD hk => exec_assign (.tmp 143) _ rfl (hD 1 143 (by kernel_rfl))) ?_
            exact fsteps_nil
          intro gv wc hV kc
          rw [show dstsOf _ 3 = [142, 143, 15] by kernel_rfl]
          simp only [fC, fN, sA, sS, sZ, dS, dZ]
          rw [show gv 15 = .int .i64 x.left from hV 2 15 (by kernel_rfl)]
          clear hV
          refine wpList_nil ?_
          have kac := (ka.trans kb).trans kc
          have HOc := Lib.hid (range_kept HO9.out kac)
          have HBc := Lib.hid (HB9.out.kept kac)
          have HCd := Lib.hid (HC9.out.kept kac)
          have HSd := Lib.hid (HS9.out.kept kac)
          go_upto_region 21 with fail
          refine wp_free 41 [.eq (.int .i64 gq), .eq (.pointer (some ⟨g11, 10, none⟩)), .eq (.int .i64 x.left), .eq (.int .i64 (gq + x.left)), .eq (.pointer (some ⟨g6, 6, none⟩)), .eq (.int .i64 o.qty), .eq (.bool true), .eq (.bool true), .eq (.pointer (some ⟨p, 0, none⟩)), .eq (.int .i64 (3 - o.side)), .sl wc.heap.size 25 9 (ordsL (B'.sd (3 - o.side))).length (ords (ordsL (B'.sd (3 - o.side)))), .eq (.int .i64 t1), .eq (.int .i64 t0), .eq (.int .i64 gq), .eq (.int .i64 (t0 - gq)), .eq (.bool true), .eq (.bool true), .eq (.bool true), .eq (.pointer (some ⟨p, 0, none⟩)), .eq (.pointer (some ⟨g6, 3, none⟩)), .eq (.int .i64 o.side), .sl wc.heap.size 25 9 (ordsL (B'.sd o.side)).length (ords (ordsL (B'.sd o.side))), .eq (.int .i64 m1), .eq (.int .i64 m0), .eq (.int .i64 x.left), .eq (.int .i64 (m0 + x.left)), .eq (.bool true), .eq (.bool true), .eq (.bool true), .eq (.pointer (some ⟨p, 0, none⟩)), .eq (.int .i64 n1), .eq (.int .i64 B.no), .eq (.pointer (some ⟨g11, 9, none⟩)), .eq (vf), .eq (.int .i64 (n : Int)), .eq (.int .i64 (B.no + (n : Int))), .eq (.bool true), .eq (.bool true), .eq (.bool true), .eq (.bool true), .eq (.bool true)] (by kernel_rfl) rfl (by kernel_rfl) ?_ ?_
          · refine sv 1 rfl rfl rfl (fun a u hE hD hk => exec_move (.tmp 12) _ rfl (hE 12 (.int .i64 gq) (by kernel_rfl) (by kernel_rfl))) ?_
            refine sv 2 rfl rfl rfl (fun a u hE hD hk => exec_fldo 29 2 10 (.tmp 11) (g11) (0) (10) rfl (hE 11 (.pointer (some ⟨g11, 0, none⟩)) (by kernel_rfl) (by kernel_rfl)) (by kernel_rfl) rfl) ?_
            refine sv 3 rfl rfl rfl (fun a u hE hD hk => exec_loadi 3 Try.underlying3 (.tmp 145) ⟨g11, 10, none⟩ (.int .i64 x.left) rfl (hD 1 145 (by kernel_rfl)) (by rw [(HCd.out.kept hk).cell]; rfl)) ?_
            refine sv 4 rfl rfl rfl (fun a u hE hD hk => exec_addn (gq + x.left) (p := gq) (q := x.left) rfl (hD 0 144 (by kernel_rfl)) (hD 2 146 (by kernel_rfl)) rfl (by omega) (by omega)) ?_
            refine sv 5 rfl rfl rfl (fun a u hE hD hk => exec_fldo 25 6 6 (.tmp 6) (g6) (0) (6) rfl (hE 6 (.pointer (some ⟨g6, 0, none⟩)) (by kernel_rfl) (by kernel_rfl)) (by kernel_rfl) rfl) ?_
            refine sv 6 rfl rfl rfl (fun a u hE hD hk => exec_loadi 3 Try.underlying3 (.tmp 148) ⟨g6, 6, none⟩ (.int .i64 o.qty) rfl (hD 4 148 (by kernel_rfl)) (range_int (range_kept HOc.out hk) 6 _ rfl)) ?_
            refine fsteps_cons 7 rfl (fun a u hE hD hk => f_as (show ((decide (((gq + x.left) : Int) = (o.qty : Int))) : Bool) = true from decide_eq_true c1) (f_val (o := ⟨some 150, _, _, _, _, _⟩) (.bool (decide (((gq + x.left) : Int) = (o.qty : Int)))) rfl (wanted_none rfl _) (exec_eqn (p := (gq + x.left)) (q := o.qty) rfl (hD 3 147 (by kernel_rfl)) (hD 5 149 (by kernel_rfl))) rfl)) ?_
            refine sv 8 rfl rfl rfl (fun a u hE hD hk => exec_move (.tmp 150) _ rfl (hD 6 150 (by kernel_rfl))) ?_
            refine fsteps_cons 9 rfl (fun a u hE hD hk => f_val (o := ⟨some 152, _, _, _, _, _⟩) (.pointer (some ⟨p, 0, none⟩)) rfl (wanted_at (b := true) true rfl rfl (hD 7 151 (by kernel_rfl))) (exec_move (.tmp 5) _ rfl (hE 5 (.pointer (some ⟨p, 0, none⟩)) (by kernel_rfl) (by kernel_rfl))) rfl) ?_
            refine fsteps_cons 10 rfl (fun a u hE hD hk => f_val (o := ⟨some 153, _, _, _, _, _⟩) (.int .i64 (3 - o.side)) rfl (wanted_at (b := true) true rfl rfl (hD 7 151 (by kernel_rfl))) (exec_move (.tmp 7) _ rfl (hE 7 (.int .i64 (3 - o.side)) (by kernel_rfl) (by kernel_rfl))) rfl) ?_
            refine fsteps_cons 11 rfl (fun a u hE hD hk => f_call (o := ⟨some 154, _, _, _, _, _⟩) 32 #[.pointer (some ⟨p, 0, none⟩), .int .i64 (3 - o.side)] rfl (wanted_at (b := true) true rfl rfl (hD 7 151 (by kernel_rfl))) (exec_call 32 _ [.tmp 152, .tmp 153] _ [.pointer (some ⟨p, 0, none⟩), .int .i64 (3 - o.side)] Try.func32 (by kernel_rfl) (by kernel_rfl) rfl (show [a.eval (.tmp 152), a.eval (.tmp 153)] = [.pointer (some ⟨p, 0, none⟩), .int .i64 (3 - o.side)] from (by rw [show a.eval (.tmp 152) = .pointer (some ⟨p, 0, none⟩) from (hD 8 152 (by kernel_rfl)), show a.eval (.tmp 153) = .int .i64 (3 - o.side) from (hD 9 153 (by kernel_rfl))] <;> rfl)) u) ((borders_any u F5 p B' (3 - o.side) (HBc.out.kept hk) HI'.out).base hk.size)) ?_
            refine fsteps_cons 12 rfl (fun a u hE hD hk => f_call (o := ⟨some 155, _, _, _, _, _⟩) 34 #[a.eval (.tmp 154)] rfl (wanted_at (b := true) true rfl rfl (hD 7 151 (by kernel_rfl))) (exec_call 34 _ [.tmp 154] _ [a.eval (.tmp 154)] Try.func34 (by kernel_rfl) (by kernel_rfl) rfl rfl u) ((by have h := whole_sd (a.eval (.tmp 154)) B' (3 - o.side) _ u HS3.out HI'.out (hD 10 154 (by kernel_rfl)); rw [HT1.out] at h; exact h))) ?_
            refine fsteps_cons 13 rfl (fun a u hE hD hk => f_val (o := ⟨some 156, _, _, _, _, _⟩) (.int .i64 t0) rfl (wanted_at (b := true) true rfl rfl (hD 7 151 (by kernel_rfl))) (exec_move (.tmp 9) _ rfl (hE 9 (.int .i64 t0) (by kernel_rfl) (by kernel_rfl))) rfl) ?_
            refine fsteps_cons 14 rfl (fun a u hE hD hk => f_val (o := ⟨some 157, _, _, _, _, _⟩) (.int .i64 gq) rfl (wanted_at (b := true) true rfl rfl (hD 7 151 (by kernel_rfl))) (exec_move (.tmp 12) _ rfl (hE 12 (.int .i64 gq) (by kernel_rfl) (by kernel_rfl))) rfl) ?_
            refine fsteps_cons 15 rfl (fun a u hE hD hk => f_val (o := ⟨some 158, _, _, _, _, _⟩) (.int .i64 (t0 - gq)) rfl (wanted_at (b := true) true rfl rfl (hD 7 151 (by kernel_rfl))) (exec_subn (t0 - gq) (p := t0) (q := gq) rfl (hD 12 156 (by kernel_rfl)) (hD 13 157 (by kernel_rfl)) rfl (by omega) (by omega)) rfl) ?_
            refine fsteps_cons 16 rfl (fun a u hE hD hk => f_as (show ((decide ((t1 : Int) = ((t0 - gq) : Int))) : Bool) = true from decide_eq_true c2) (f_val (o := ⟨some 159, _, _, _, _, _⟩) (.bool (decide ((t1 : Int) = ((t0 - gq) : Int)))) rfl (wanted_at (b := true) true rfl rfl (hD 7 151 (by kernel_rfl))) (exec_eqn (p := t1) (q := (t0 - gq)) rfl (hD 11 155 (by kernel_rfl)) (hD 14 158 (by kernel_rfl))) rfl)) ?_
            refine sv 17 rfl rfl rfl (fun a u hE hD hk => exec_pick (.tmp 151) (.tmp 159) (.const (.bool false)) (.bool true) rfl (hD 7 151 (by kernel_rfl)) (hD 15 159 (by kernel_rfl))) ?_
            refine sv 18 rfl rfl rfl (fun a u hE hD hk => exec_move (.tmp 160) _ rfl (hD 16 160 (by kernel_rfl))) ?_
            refine fsteps_cons 19 rfl (fun a u hE hD hk => f_val (o := ⟨some 162, _, _, _, _, _⟩) (.pointer (some ⟨p, 0, none⟩)) rfl (wanted_at (b := true) true rfl rfl (hD 17 161 (by kernel_rfl))) (exec_move (.tmp 5) _ rfl (hE 5 (.pointer (some ⟨p, 0, none⟩)) (by kernel_rfl) (by kernel_rfl))) rfl) ?_
            refine fsteps_cons 20 rfl (fun a u hE hD hk => f_val (o := ⟨some 163, _, _, _, _, _⟩) (.pointer (some ⟨g6, 3, none⟩)) rfl (wanted_at (b := true) true rfl rfl (hD 17 161 (by kernel_rfl))) (exec_fldo 25 3 3 (.tmp 6) (g6) (0) (3) rfl (hE 6 (.pointer (some ⟨g6, 0, none⟩)) (by kernel_rfl) (by kernel_rfl)) (by kernel_rfl) rfl) rfl) ?_
            refine fsteps_cons 21 rfl (fun a u hE hD hk => f_val (o := ⟨some 164, _, _, _, _, _⟩) (.int .i64 o.side) rfl (wanted_at (b := true) true rfl rfl (hD 17 161 (by kernel_rfl))) (exec_loadi 3 Try.underlying3 (.tmp 163) ⟨g6, 3, none⟩ (.int .i64 o.side) rfl (hD 19 163 (by kernel_rfl)) (range_int (range_kept HOc.out hk) 3 _ rfl)) rfl) ?_
            refine fsteps_cons 22 rfl (fun a u hE hD hk => f_call (o := ⟨some 165, _, _, _, _, _⟩) 32 #[.pointer (some ⟨p, 0, none⟩), .int .i64 o.side] rfl (wanted_at (b := true) true rfl rfl (hD 17 161 (by kernel_rfl))) (exec_call 32 _ [.tmp 162, .tmp 164] _ [.pointer (some ⟨p, 0, none⟩), .int .i64 o.side] Try.func32 (by kernel_rfl) (by kernel_rfl) rfl (show [a.eval (.tmp 162), a.eval (.tmp 164)] = [.pointer (some ⟨p, 0, none⟩), .int .i64 o.side] from (by rw [show a.eval (.tmp 162) = .pointer (some ⟨p, 0, none⟩) from (hD 18 162 (by kernel_rfl)), show a.eval (.tmp 164) = .int .i64 o.side from (hD 20 164 (by kernel_rfl))] <;> rfl)) u) ((borders_any u F5 p B' o.side (HBc.out.kept hk) HI'.out).base hk.size)) ?_
            refine fsteps_cons 23 rfl (fun a u hE hD hk => f_call (o := ⟨some 166, _, _, _, _, _⟩) 34 #[a.eval (.tmp 165)] rfl (wanted_at (b := true) true rfl rfl (hD 17 161 (by kernel_rfl))) (exec_call 34 _ [.tmp 165] _ [a.eval (.tmp 165)] Try.func34 (by kernel_rfl) (by kernel_rfl) rfl rfl u) ((by have h := whole_sd (a.eval (.tmp 165)) B' o.side _ u HS1.out HI'.out (hD 21 165 (by kernel_rfl)); rw [HM1.out] at h; exact h))) ?_
            refine fsteps_cons 24 rfl (fun a u hE hD hk => f_val (o := ⟨some 167, _, _, _, _, _⟩) (.int .i64 m0) rfl (wanted_at (b := true) true rfl rfl (hD 17 161 (by kernel_rfl))) (exec_move (.tmp 8) _ rfl (hE 8 (.int .i64 m0) (by kernel_rfl) (by kernel_rfl))) rfl) ?_
            refine fsteps_cons 25 rfl (fun a u hE hD hk => f_val (o := ⟨some 168, _, _, _, _, _⟩) (.int .i64 x.left) rfl (wanted_at (b := true) true rfl rfl (hD 17 161 (by kernel_rfl))) (exec_move (.tmp 15) _ rfl (hE 15 (.int .i64 x.left) (by kernel_rfl) (by kernel_rfl))) rfl) ?_
            refine fsteps_cons 26 rfl (fun a u hE hD hk => f_val (o := ⟨some 169, _, _, _, _, _⟩) (.int .i64 (m0 + x.left)) rfl (wanted_at (b := true) true rfl rfl (hD 17 161 (by kernel_rfl))) (exec_addn (m0 + x.left) (p := m0) (q := x.left) rfl (hD 23 167 (by kernel_rfl)) (hD 24 168 (by kernel_rfl)) rfl (by omega) (by omega)) rfl) ?_
            refine fsteps_cons 27 rfl (fun a u hE hD hk => f_as (show ((decide ((m1 : Int) = ((m0 + x.left) : Int))) : Bool) = true from decide_eq_true c3) (f_val (o := ⟨some 170, _, _, _, _, _⟩) (.bool (decide ((m1 : Int) = ((m0 + x.left) : Int)))) rfl (wanted_at (b := true) true rfl rfl (hD 17 161 (by kernel_rfl))) (exec_eqn (p := m1) (q := (m0 + x.left)) rfl (hD 22 166 (by kernel_rfl)) (hD 25 169 (by kernel_rfl))) rfl)) ?_
            refine sv 28 rfl rfl rfl (fun a u hE hD hk => exec_pick (.tmp 161) (.tmp 170) (.const (.bool false)) (.bool true) rfl (hD 17 161 (by kernel_rfl)) (hD 26 170 (by kernel_rfl))) ?_
            refine sv 29 rfl rfl rfl (fun a u hE hD hk => exec_move (.tmp 171) _ rfl (hD 27 171 (by kernel_rfl))) ?_
            refine fsteps_cons 30 rfl (fun a u hE hD hk => f_val (o := ⟨some 173, _, _, _, _, _⟩) (.pointer (some ⟨p, 0, none⟩)) rfl (wanted_at (b := true) true rfl rfl (hD 28 172 (by kernel_rfl))) (exec_move (.tmp 5) _ rfl (hE 5 (.pointer (some ⟨p, 0, none⟩)) (by kernel_rfl) (by kernel_rfl))) rfl) ?_
            refine fsteps_cons 31 rfl (fun a u hE hD hk => f_call (o := ⟨some 174, _, _, _, _, _⟩) 19 #[.pointer (some ⟨p, 0, none⟩)] rfl (wanted_at (b := true) true rfl rfl (hD 28 172 (by kernel_rfl))) (exec_call 19 _ [.tmp 173] _ [.pointer (some ⟨p, 0, none⟩)] Try.func19 (by kernel_rfl) (by kernel_rfl) rfl (show [a.eval (.tmp 173)] = [.pointer (some ⟨p, 0, none⟩)] from (by rw [show a.eval (.tmp 173) = .pointer (some ⟨p, 0, none⟩) from (hD 29 173 (by kernel_rfl))] <;> rfl)) u) ((by have h := bno_any u F5 p B' (HBc.out.kept hk); rw [HN1.out] at h; exact h))) ?_
            refine fsteps_cons 32 rfl (fun a u hE hD hk => f_val (o := ⟨some 175, _, _, _, _, _⟩) (.int .i64 B.no) rfl (wanted_at (b := true) true rfl rfl (hD 28 172 (by kernel_rfl))) (exec_move (.tmp 10) _ rfl (hE 10 (.int .i64 B.no) (by kernel_rfl) (by kernel_rfl))) rfl) ?_
            refine fsteps_cons 33 rfl (fun a u hE hD hk => f_val (o := ⟨some 176, _, _, _, _, _⟩) (.pointer (some ⟨g11, 9, none⟩)) rfl (wanted_at (b := true) true rfl rfl (hD 28 172 (by kernel_rfl))) (exec_fldo 29 1 9 (.tmp 11) (g11) (0) (9) rfl (hE 11 (.pointer (some ⟨g11, 0, none⟩)) (by kernel_rfl) (by kernel_rfl)) (by kernel_rfl) rfl) rfl) ?_
            refine fsteps_cons 34 rfl (fun a u hE hD hk => f_val (o := ⟨some 177, _, _, _, _, _⟩) (vf) rfl (wanted_at (b := true) true rfl rfl (hD 28 172 (by kernel_rfl))) (exec_ldv 26 _ Try.underlying26 (.tmp 176) ⟨g11, 9, none⟩ (vf) rfl (hD 32 176 (by kernel_rfl)) (by rw [(HCd.out.kept hk).cell]; rfl)) rfl) ?_
            refine fsteps_cons 35 rfl (fun a u hE hD hk => f_val (o := ⟨some 178, _, _, _, _, _⟩) (.int .i64 (n : Int)) rfl (wanted_at (b := true) true rfl rfl (hD 28 172 (by kernel_rfl))) (exec_lenS (.tmp 177) slF (vf) (n) _ _ rfl (hD 33 177 (by kernel_rfl)) HSd.out) rfl) ?_
            refine fsteps_cons 36 rfl (fun a u hE hD hk => f_val (o := ⟨some 179, _, _, _, _, _⟩) (.int .i64 (B.no + (n : Int))) rfl (wanted_at (b := true) true rfl rfl (hD 28 172 (by kernel_rfl))) (exec_addn (B.no + (n : Int)) (p := B.no) (q := (n : Int)) rfl (hD 31 175 (by kernel_rfl)) (hD 34 178 (by kernel_rfl)) rfl (by omega) (by omega)) rfl) ?_
            refine fsteps_cons 37 rfl (fun a u hE hD hk => f_as (show ((decide ((n1 : Int) = ((B.no + (n : Int)) : Int))) : Bool) = true from decide_eq_true c4) (f_val (o := ⟨some 180, _, _, _, _, _⟩) (.bool (decide ((n1 : Int) = ((B.no + (n : Int)) : Int)))) rfl (wanted_at (b := true) true rfl rfl (hD 28 172 (by kernel_rfl))) (exec_eqn (p := n1) (q := (B.no + (n : Int))) rfl (hD 30 174 (by kernel_rfl)) (hD 35 179 (by kernel_rfl))) rfl)) ?_
            refine sv 38 rfl rfl rfl (fun a u hE hD hk => exec_pick (.tmp 172) (.tmp 180) (.const (.bool false)) (.bool true) rfl (hD 28 172 (by kernel_rfl)) (hD 36 180 (by kernel_rfl))) ?_
            refine sv 39 rfl rfl rfl (fun a u hE hD hk => exec_move (.tmp 181) _ rfl (hD 37 181 (by kernel_rfl))) ?_
            refine fsteps_cons 40 rfl (fun a u hE hD hk => f_call (o := ⟨some 183, _, _, _, _, _⟩) 3 #[] rfl (wanted_at (b := true) true rfl rfl (hD 38 182 (by kernel_rfl))) (exec_call 3 _ [] _ [] Try.func3 (by kernel_rfl) (by kernel_rfl) rfl rfl u) (bruns_gives u)) ?_
            refine sv 41 rfl rfl rfl (fun a u hE hD hk => exec_pick (.tmp 182) (.tmp 183) (.const (.bool false)) (.bool true) rfl (hD 38 182 (by kernel_rfl)) (hD 39 183 (by kernel_rfl))) ?_
            exact fsteps_nil
          intro gv wy hV ky
          rw [show dstsOf _ 41 = [144, 145, 146, 147, 148, 149, 150, 151, 152, 153, 154, 155, 156, 157, 158, 159, 160, 161, 162, 163, 164, 165, 166, 167, 168, 169, 170, 171, 172, 173, 174, 175, 176, 177, 178, 179, 180, 181, 182, 183, 184] by kernel_rfl]
          simp only [fC, fN, sA, sS, sZ, dS, dZ]
          rw [show gv 184 = .bool true from hV 40 184 (by kernel_rfl)]
          clear hV
          refine l_val (o := ⟨some 4, _, _, _, _, _⟩) (.bool true) rfl (exec_assign (.tmp 184) (.bool true) rfl (by kernel_rfl)) ?_
          simp only [Act.put, sA, sS, sZ]
          refine wpList_nil ?_
          go_wp2
          go_ret
          exact ⟨rfl, (kw9.trans kac).trans ky⟩
        · have hrs0 : x.rests = false := by simpa using hrs
          rw [if_neg hrs] at c3
          go_upto_region 19 with fail
          refine wp_text 2 [.eq (.pointer (some ⟨g11, 11, none⟩)), .eq (.bool x.rests)] rfl (by kernel_rfl) ?_ ?_
          · refine sv 1 rfl rfl rfl (fun a u hE hD hk => exec_fldo 29 3 11 (.tmp 11) (g11) (0) (11) rfl (hE 11 (.pointer (some ⟨g11, 0, none⟩)) (by kernel_rfl) (by kernel_rfl)) (by kernel_rfl) rfl) ?_
            refine sv 2 rfl rfl rfl (fun a u hE hD hk => exec_ldb 4 Try.underlying4 (.tmp 140) ⟨g11, 11, none⟩ (.bool x.rests) rfl (hD 0 140 (by kernel_rfl)) (by rw [(HCa.out.kept hk).cell]; rfl)) ?_
            exact fsteps_nil
          intro gv wb hV kb
          rw [show dstsOf _ 2 = [140, 141] by kernel_rfl]
          simp only [fC, fN, sA, sS, sZ, dS, dZ]
          rw [show gv 141 = .bool x.rests from hV 1 141 (by kernel_rfl)]
          clear hV
          refine wpList_nil ?_
          rw [hrs0]
          obtain ⟨wc, hwc⟩ : ∃ y, y = wb := ⟨_, rfl⟩
          subst hwc
          have kac := ka.trans kb
          have HOc := Lib.hid (range_kept HO9.out kac)
          have HBc := Lib.hid (HB9.out.kept kac)
          have HCd := Lib.hid (HC9.out.kept kac)
          have HSd := Lib.hid (HS9.out.kept kac)
          go_upto_region 21 with fail
          refine wp_free 41 [.eq (.int .i64 gq), .eq (.pointer (some ⟨g11, 10, none⟩)), .eq (.int .i64 x.left), .eq (.int .i64 (gq + x.left)), .eq (.pointer (some ⟨g6, 6, none⟩)), .eq (.int .i64 o.qty), .eq (.bool true), .eq (.bool true), .eq (.pointer (some ⟨p, 0, none⟩)), .eq (.int .i64 (3 - o.side)), .sl wc.heap.size 25 9 (ordsL (B'.sd (3 - o.side))).length (ords (ordsL (B'.sd (3 - o.side)))), .eq (.int .i64 t1), .eq (.int .i64 t0), .eq (.int .i64 gq), .eq (.int .i64 (t0 - gq)), .eq (.bool true), .eq (.bool true), .eq (.bool true), .eq (.pointer (some ⟨p, 0, none⟩)), .eq (.pointer (some ⟨g6, 3, none⟩)), .eq (.int .i64 o.side), .sl wc.heap.size 25 9 (ordsL (B'.sd o.side)).length (ords (ordsL (B'.sd o.side))), .eq (.int .i64 m1), .eq (.int .i64 m0), .eq (.int .i64 0), .eq (.int .i64 (m0 + 0)), .eq (.bool true), .eq (.bool true), .eq (.bool true), .eq (.pointer (some ⟨p, 0, none⟩)), .eq (.int .i64 n1), .eq (.int .i64 B.no), .eq (.pointer (some ⟨g11, 9, none⟩)), .eq (vf), .eq (.int .i64 (n : Int)), .eq (.int .i64 (B.no + (n : Int))), .eq (.bool true), .eq (.bool true), .eq (.bool true), .eq (.bool true), .eq (.bool true)] (by kernel_rfl) rfl (by kernel_rfl) ?_ ?_
          · refine sv 1 rfl rfl rfl (fun a u hE hD hk => exec_move (.tmp 12) _ rfl (hE 12 (.int .i64 gq) (by kernel_rfl) (by kernel_rfl))) ?_
            refine sv 2 rfl rfl rfl (fun a u hE hD hk => exec_fldo 29 2 10 (.tmp 11) (g11) (0) (10) rfl (hE 11 (.pointer (some ⟨g11, 0, none⟩)) (by kernel_rfl) (by kernel_rfl)) (by kernel_rfl) rfl) ?_
            refine sv 3 rfl rfl rfl (fun a u hE hD hk => exec_loadi 3 Try.underlying3 (.tmp 145) ⟨g11, 10, none⟩ (.int .i64 x.left) rfl (hD 1 145 (by kernel_rfl)) (by rw [(HCd.out.kept hk).cell]; rfl)) ?_
            refine sv 4 rfl rfl rfl (fun a u hE hD hk => exec_addn (gq + x.left) (p := gq) (q := x.left) rfl (hD 0 144 (by kernel_rfl)) (hD 2 146 (by kernel_rfl)) rfl (by omega) (by omega)) ?_
            refine sv 5 rfl rfl rfl (fun a u hE hD hk => exec_fldo 25 6 6 (.tmp 6) (g6) (0) (6) rfl (hE 6 (.pointer (some ⟨g6, 0, none⟩)) (by kernel_rfl) (by kernel_rfl)) (by kernel_rfl) rfl) ?_
            refine sv 6 rfl rfl rfl (fun a u hE hD hk => exec_loadi 3 Try.underlying3 (.tmp 148) ⟨g6, 6, none⟩ (.int .i64 o.qty) rfl (hD 4 148 (by kernel_rfl)) (range_int (range_kept HOc.out hk) 6 _ rfl)) ?_
            refine fsteps_cons 7 rfl (fun a u hE hD hk => f_as (show ((decide (((gq + x.left) : Int) = (o.qty : Int))) : Bool) = true from decide_eq_true c1) (f_val (o := ⟨some 150, _, _, _, _, _⟩) (.bool (decide (((gq + x.left) : Int) = (o.qty : Int)))) rfl (wanted_none rfl _) (exec_eqn (p := (gq + x.left)) (q := o.qty) rfl (hD 3 147 (by kernel_rfl)) (hD 5 149 (by kernel_rfl))) rfl)) ?_
            refine sv 8 rfl rfl rfl (fun a u hE hD hk => exec_move (.tmp 150) _ rfl (hD 6 150 (by kernel_rfl))) ?_
            refine fsteps_cons 9 rfl (fun a u hE hD hk => f_val (o := ⟨some 152, _, _, _, _, _⟩) (.pointer (some ⟨p, 0, none⟩)) rfl (wanted_at (b := true) true rfl rfl (hD 7 151 (by kernel_rfl))) (exec_move (.tmp 5) _ rfl (hE 5 (.pointer (some ⟨p, 0, none⟩)) (by kernel_rfl) (by kernel_rfl))) rfl) ?_
            refine fsteps_cons 10 rfl (fun a u hE hD hk => f_val (o := ⟨some 153, _, _, _, _, _⟩) (.int .i64 (3 - o.side)) rfl (wanted_at (b := true) true rfl rfl (hD 7 151 (by kernel_rfl))) (exec_move (.tmp 7) _ rfl (hE 7 (.int .i64 (3 - o.side)) (by kernel_rfl) (by kernel_rfl))) rfl) ?_
            refine fsteps_cons 11 rfl (fun a u hE hD hk => f_call (o := ⟨some 154, _, _, _, _, _⟩) 32 #[.pointer (some ⟨p, 0, none⟩), .int .i64 (3 - o.side)] rfl (wanted_at (b := true) true rfl rfl (hD 7 151 (by kernel_rfl))) (exec_call 32 _ [.tmp 152, .tmp 153] _ [.pointer (some ⟨p, 0, none⟩), .int .i64 (3 - o.side)] Try.func32 (by kernel_rfl) (by kernel_rfl) rfl (show [a.eval (.tmp 152), a.eval (.tmp 153)] = [.pointer (some ⟨p, 0, none⟩), .int .i64 (3 - o.side)] from (by rw [show a.eval (.tmp 152) = .pointer (some ⟨p, 0, none⟩) from (hD 8 152 (by kernel_rfl)), show a.eval (.tmp 153) = .int .i64 (3 - o.side) from (hD 9 153 (by kernel_rfl))] <;> rfl)) u) ((borders_any u F5 p B' (3 - o.side) (HBc.out.kept hk) HI'.out).base hk.size)) ?_
            refine fsteps_cons 12 rfl (fun a u hE hD hk => f_call (o := ⟨some 155, _, _, _, _, _⟩) 34 #[a.eval (.tmp 154)] rfl (wanted_at (b := true) true rfl rfl (hD 7 151 (by kernel_rfl))) (exec_call 34 _ [.tmp 154] _ [a.eval (.tmp 154)] Try.func34 (by kernel_rfl) (by kernel_rfl) rfl rfl u) ((by have h := whole_sd (a.eval (.tmp 154)) B' (3 - o.side) _ u HS3.out HI'.out (hD 10 154 (by kernel_rfl)); rw [HT1.out] at h; exact h))) ?_
            refine fsteps_cons 13 rfl (fun a u hE hD hk => f_val (o := ⟨some 156, _, _, _, _, _⟩) (.int .i64 t0) rfl (wanted_at (b := true) true rfl rfl (hD 7 151 (by kernel_rfl))) (exec_move (.tmp 9) _ rfl (hE 9 (.int .i64 t0) (by kernel_rfl) (by kernel_rfl))) rfl) ?_
            refine fsteps_cons 14 rfl (fun a u hE hD hk => f_val (o := ⟨some 157, _, _, _, _, _⟩) (.int .i64 gq) rfl (wanted_at (b := true) true rfl rfl (hD 7 151 (by kernel_rfl))) (exec_move (.tmp 12) _ rfl (hE 12 (.int .i64 gq) (by kernel_rfl) (by kernel_rfl))) rfl) ?_
            refine fsteps_cons 15 rfl (fun a u hE hD hk => f_val (o := ⟨some 158, _, _, _, _, _⟩) (.int .i64 (t0 - gq)) rfl (wanted_at (b := true) true rfl rfl (hD 7 151 (by kernel_rfl))) (exec_subn (t0 - gq) (p := t0) (q := gq) rfl (hD 12 156 (by kernel_rfl)) (hD 13 157 (by kernel_rfl)) rfl (by omega) (by omega)) rfl) ?_
            refine fsteps_cons 16 rfl (fun a u hE hD hk => f_as (show ((decide ((t1 : Int) = ((t0 - gq) : Int))) : Bool) = true from decide_eq_true c2) (f_val (o := ⟨some 159, _, _, _, _, _⟩) (.bool (decide ((t1 : Int) = ((t0 - gq) : Int)))) rfl (wanted_at (b := true) true rfl rfl (hD 7 151 (by kernel_rfl))) (exec_eqn (p := t1) (q := (t0 - gq)) rfl (hD 11 155 (by kernel_rfl)) (hD 14 158 (by kernel_rfl))) rfl)) ?_
            refine sv 17 rfl rfl rfl (fun a u hE hD hk => exec_pick (.tmp 151) (.tmp 159) (.const (.bool false)) (.bool true) rfl (hD 7 151 (by kernel_rfl)) (hD 15 159 (by kernel_rfl))) ?_
            refine sv 18 rfl rfl rfl (fun a u hE hD hk => exec_move (.tmp 160) _ rfl (hD 16 160 (by kernel_rfl))) ?_
            refine fsteps_cons 19 rfl (fun a u hE hD hk => f_val (o := ⟨some 162, _, _, _, _, _⟩) (.pointer (some ⟨p, 0, none⟩)) rfl (wanted_at (b := true) true rfl rfl (hD 17 161 (by kernel_rfl))) (exec_move (.tmp 5) _ rfl (hE 5 (.pointer (some ⟨p, 0, none⟩)) (by kernel_rfl) (by kernel_rfl))) rfl) ?_
            refine fsteps_cons 20 rfl (fun a u hE hD hk => f_val (o := ⟨some 163, _, _, _, _, _⟩) (.pointer (some ⟨g6, 3, none⟩)) rfl (wanted_at (b := true) true rfl rfl (hD 17 161 (by kernel_rfl))) (exec_fldo 25 3 3 (.tmp 6) (g6) (0) (3) rfl (hE 6 (.pointer (some ⟨g6, 0, none⟩)) (by kernel_rfl) (by kernel_rfl)) (by kernel_rfl) rfl) rfl) ?_
            refine fsteps_cons 21 rfl (fun a u hE hD hk => f_val (o := ⟨some 164, _, _, _, _, _⟩) (.int .i64 o.side) rfl (wanted_at (b := true) true rfl rfl (hD 17 161 (by kernel_rfl))) (exec_loadi 3 Try.underlying3 (.tmp 163) ⟨g6, 3, none⟩ (.int .i64 o.side) rfl (hD 19 163 (by kernel_rfl)) (range_int (range_kept HOc.out hk) 3 _ rfl)) rfl) ?_
            refine fsteps_cons 22 rfl (fun a u hE hD hk => f_call (o := ⟨some 165, _, _, _, _, _⟩) 32 #[.pointer (some ⟨p, 0, none⟩), .int .i64 o.side] rfl (wanted_at (b := true) true rfl rfl (hD 17 161 (by kernel_rfl))) (exec_call 32 _ [.tmp 162, .tmp 164] _ [.pointer (some ⟨p, 0, none⟩), .int .i64 o.side] Try.func32 (by kernel_rfl) (by kernel_rfl) rfl (show [a.eval (.tmp 162), a.eval (.tmp 164)] = [.pointer (some ⟨p, 0, none⟩), .int .i64 o.side] from (by rw [show a.eval (.tmp 162) = .pointer (some ⟨p, 0, none⟩) from (hD 18 162 (by kernel_rfl)), show a.eval (.tmp 164) = .int .i64 o.side from (hD 20 164 (by kernel_rfl))] <;> rfl)) u) ((borders_any u F5 p B' o.side (HBc.out.kept hk) HI'.out).base hk.size)) ?_
            refine fsteps_cons 23 rfl (fun a u hE hD hk => f_call (o := ⟨some 166, _, _, _, _, _⟩) 34 #[a.eval (.tmp 165)] rfl (wanted_at (b := true) true rfl rfl (hD 17 161 (by kernel_rfl))) (exec_call 34 _ [.tmp 165] _ [a.eval (.tmp 165)] Try.func34 (by kernel_rfl) (by kernel_rfl) rfl rfl u) ((by have h := whole_sd (a.eval (.tmp 165)) B' o.side _ u HS1.out HI'.out (hD 21 165 (by kernel_rfl)); rw [HM1.out] at h; exact h))) ?_
            refine fsteps_cons 24 rfl (fun a u hE hD hk => f_val (o := ⟨some 167, _, _, _, _, _⟩) (.int .i64 m0) rfl (wanted_at (b := true) true rfl rfl (hD 17 161 (by kernel_rfl))) (exec_move (.tmp 8) _ rfl (hE 8 (.int .i64 m0) (by kernel_rfl) (by kernel_rfl))) rfl) ?_
            refine fsteps_cons 25 rfl (fun a u hE hD hk => f_val (o := ⟨some 168, _, _, _, _, _⟩) (.int .i64 0) rfl (wanted_at (b := true) true rfl rfl (hD 17 161 (by kernel_rfl))) (exec_move (.tmp 15) _ rfl (hE 15 (.int .i64 0) (by kernel_rfl) (by kernel_rfl))) rfl) ?_
            refine fsteps_cons 26 rfl (fun a u hE hD hk => f_val (o := ⟨some 169, _, _, _, _, _⟩) (.int .i64 (m0 + 0)) rfl (wanted_at (b := true) true rfl rfl (hD 17 161 (by kernel_rfl))) (exec_addn (m0 + 0) (p := m0) (q := 0) rfl (hD 23 167 (by kernel_rfl)) (hD 24 168 (by kernel_rfl)) rfl (by omega) (by omega)) rfl) ?_
            refine fsteps_cons 27 rfl (fun a u hE hD hk => f_as (show ((decide ((m1 : Int) = ((m0 + 0) : Int))) : Bool) = true from decide_eq_true c3) (f_val (o := ⟨some 170, _, _, _, _, _⟩) (.bool (decide ((m1 : Int) = ((m0 + 0) : Int)))) rfl (wanted_at (b := true) true rfl rfl (hD 17 161 (by kernel_rfl))) (exec_eqn (p := m1) (q := (m0 + 0)) rfl (hD 22 166 (by kernel_rfl)) (hD 25 169 (by kernel_rfl))) rfl)) ?_
            refine sv 28 rfl rfl rfl (fun a u hE hD hk => exec_pick (.tmp 161) (.tmp 170) (.const (.bool false)) (.bool true) rfl (hD 17 161 (by kernel_rfl)) (hD 26 170 (by kernel_rfl))) ?_
            refine sv 29 rfl rfl rfl (fun a u hE hD hk => exec_move (.tmp 171) _ rfl (hD 27 171 (by kernel_rfl))) ?_
            refine fsteps_cons 30 rfl (fun a u hE hD hk => f_val (o := ⟨some 173, _, _, _, _, _⟩) (.pointer (some ⟨p, 0, none⟩)) rfl (wanted_at (b := true) true rfl rfl (hD 28 172 (by kernel_rfl))) (exec_move (.tmp 5) _ rfl (hE 5 (.pointer (some ⟨p, 0, none⟩)) (by kernel_rfl) (by kernel_rfl))) rfl) ?_
            refine fsteps_cons 31 rfl (fun a u hE hD hk => f_call (o := ⟨some 174, _, _, _, _, _⟩) 19 #[.pointer (some ⟨p, 0, none⟩)] rfl (wanted_at (b := true) true rfl rfl (hD 28 172 (by kernel_rfl))) (exec_call 19 _ [.tmp 173] _ [.pointer (some ⟨p, 0, none⟩)] Try.func19 (by kernel_rfl) (by kernel_rfl) rfl (show [a.eval (.tmp 173)] = [.pointer (some ⟨p, 0, none⟩)] from (by rw [show a.eval (.tmp 173) = .pointer (some ⟨p, 0, none⟩) from (hD 29 173 (by kernel_rfl))] <;> rfl)) u) ((by have h := bno_any u F5 p B' (HBc.out.kept hk); rw [HN1.out] at h; exact h))) ?_
            refine fsteps_cons 32 rfl (fun a u hE hD hk => f_val (o := ⟨some 175, _, _, _, _, _⟩) (.int .i64 B.no) rfl (wanted_at (b := true) true rfl rfl (hD 28 172 (by kernel_rfl))) (exec_move (.tmp 10) _ rfl (hE 10 (.int .i64 B.no) (by kernel_rfl) (by kernel_rfl))) rfl) ?_
            refine fsteps_cons 33 rfl (fun a u hE hD hk => f_val (o := ⟨some 176, _, _, _, _, _⟩) (.pointer (some ⟨g11, 9, none⟩)) rfl (wanted_at (b := true) true rfl rfl (hD 28 172 (by kernel_rfl))) (exec_fldo 29 1 9 (.tmp 11) (g11) (0) (9) rfl (hE 11 (.pointer (some ⟨g11, 0, none⟩)) (by kernel_rfl) (by kernel_rfl)) (by kernel_rfl) rfl) rfl) ?_
            refine fsteps_cons 34 rfl (fun a u hE hD hk => f_val (o := ⟨some 177, _, _, _, _, _⟩) (vf) rfl (wanted_at (b := true) true rfl rfl (hD 28 172 (by kernel_rfl))) (exec_ldv 26 _ Try.underlying26 (.tmp 176) ⟨g11, 9, none⟩ (vf) rfl (hD 32 176 (by kernel_rfl)) (by rw [(HCd.out.kept hk).cell]; rfl)) rfl) ?_
            refine fsteps_cons 35 rfl (fun a u hE hD hk => f_val (o := ⟨some 178, _, _, _, _, _⟩) (.int .i64 (n : Int)) rfl (wanted_at (b := true) true rfl rfl (hD 28 172 (by kernel_rfl))) (exec_lenS (.tmp 177) slF (vf) (n) _ _ rfl (hD 33 177 (by kernel_rfl)) HSd.out) rfl) ?_
            refine fsteps_cons 36 rfl (fun a u hE hD hk => f_val (o := ⟨some 179, _, _, _, _, _⟩) (.int .i64 (B.no + (n : Int))) rfl (wanted_at (b := true) true rfl rfl (hD 28 172 (by kernel_rfl))) (exec_addn (B.no + (n : Int)) (p := B.no) (q := (n : Int)) rfl (hD 31 175 (by kernel_rfl)) (hD 34 178 (by kernel_rfl)) rfl (by omega) (by omega)) rfl) ?_
            refine fsteps_cons 37 rfl (fun a u hE hD hk => f_as (show ((decide ((n1 : Int) = ((B.no + (n : Int)) : Int))) : Bool) = true from decide_eq_true c4) (f_val (o := ⟨some 180, _, _, _, _, _⟩) (.bool (decide ((n1 : Int) = ((B.no + (n : Int)) : Int)))) rfl (wanted_at (b := true) true rfl rfl (hD 28 172 (by kernel_rfl))) (exec_eqn (p := n1) (q := (B.no + (n : Int))) rfl (hD 30 174 (by kernel_rfl)) (hD 35 179 (by kernel_rfl))) rfl)) ?_
            refine sv 38 rfl rfl rfl (fun a u hE hD hk => exec_pick (.tmp 172) (.tmp 180) (.const (.bool false)) (.bool true) rfl (hD 28 172 (by kernel_rfl)) (hD 36 180 (by kernel_rfl))) ?_
            refine sv 39 rfl rfl rfl (fun a u hE hD hk => exec_move (.tmp 181) _ rfl (hD 37 181 (by kernel_rfl))) ?_
            refine fsteps_cons 40 rfl (fun a u hE hD hk => f_call (o := ⟨some 183, _, _, _, _, _⟩) 3 #[] rfl (wanted_at (b := true) true rfl rfl (hD 38 182 (by kernel_rfl))) (exec_call 3 _ [] _ [] Try.func3 (by kernel_rfl) (by kernel_rfl) rfl rfl u) (bruns_gives u)) ?_
            refine sv 41 rfl rfl rfl (fun a u hE hD hk => exec_pick (.tmp 182) (.tmp 183) (.const (.bool false)) (.bool true) rfl (hD 38 182 (by kernel_rfl)) (hD 39 183 (by kernel_rfl))) ?_
            exact fsteps_nil
          intro gv wy hV ky
          rw [show dstsOf _ 41 = [144, 145, 146, 147, 148, 149, 150, 151, 152, 153, 154, 155, 156, 157, 158, 159, 160, 161, 162, 163, 164, 165, 166, 167, 168, 169, 170, 171, 172, 173, 174, 175, 176, 177, 178, 179, 180, 181, 182, 183, 184] by kernel_rfl]
          simp only [fC, fN, sA, sS, sZ, dS, dZ]
          rw [show gv 184 = .bool true from hV 40 184 (by kernel_rfl)]
          clear hV
          refine l_val (o := ⟨some 4, _, _, _, _, _⟩) (.bool true) rfl (exec_assign (.tmp 184) (.bool true) rfl (by kernel_rfl)) ?_
          simp only [Act.put, sA, sS, sZ]
          refine wpList_nil ?_
          go_wp2
          go_ret
          exact ⟨rfl, (kw9.trans kac).trans ky⟩
end Go.Proofs.Ytfpfpmhkkgfdbaa
