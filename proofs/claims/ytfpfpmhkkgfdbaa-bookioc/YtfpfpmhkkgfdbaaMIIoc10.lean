/-
 BookIoc answers true: an immediate order is a limit order whose rest is removed at once. No condition.
-/
import Derived.Test.YtfpfpmhkkgfdbaaQI05
import Derived.Test.YtfpfpmhkkgfdbaaMIFill10
import Derived.Test.YtfpfpmhkkgfdbaaMIRuns10
import Derived.Test.YtfpfpmhkkgfdbaaMIFokM10
set_option linter.unusedVariables false
namespace Go.Proofs.Ytfpfpmhkkgfdbaa
open Go.RowKit
set_option maxRecDepth 100000
set_option maxRecDepth 100000 in
set_option maxHeartbeats 3200000 in
theorem bookIoc_any (v : Value) (l : List Kq) (q : Kq) (w : World) (hl : Kqs w v l) : Calls Try.prog 13 #[v, q.v] w fun e w' => e = .returned (.bool true) ∧ Kept w w' := by
 obtain ⟨o, ho⟩ : ∃ o, q.o = o := ⟨_, rfl⟩
 have HKO : Hid (o.right = true ∧ o.stop = 0 ∧ o.qty ≤ 12) := by rw [← ho]; exact q.right
 have HGO : Hid (∀ u, Gives 22 #[q.v] u (.eq o.v)) := fun u => by rw [← ho]; exact korder_any q u
 clear ho
 go_enter Try.func13, Try.ntmps13
 go_upto_region 0 with fail
 refine wp_text 1 [.fresh w.heap.size 48 (q.cells)] rfl (by kernel_rfl) ?_ ?_
 ·refine fsteps_cons 1 rfl (fun a u hE hD hk => f_new (o := ⟨some 3, _, _, _, _, _⟩) (.pointer (some ⟨u.heap.size, 0, none⟩)) _ rfl (wanted_none rfl _) (exec_box 48 (.tmp 1) (q.cells) rfl (hE 1 (q.v) (by kernel_rfl) (by kernel_rfl))) ⟨_, rfl, hk.size, Blk.new u _ _⟩ ((Keep.refl _ u).alloc _)) ?_
  exact fsteps_nil
 intro gv w0 hV k0
 rw [show dstsOf _ 1 = [3] by kernel_rfl]
 simp only [fC, fN, sA, sS, sZ, dS, dZ]
 have hv3 : (.fresh w.heap.size 48 (q.cells) : Kn).p (gv 3) w0 := hV 0 3 (by kernel_rfl)
 generalize gv 3 = v3 at hv3 ⊢
 clear hV
 obtain ⟨g3, rfl, hg3, hQ⟩ := hv3
 refine l_val (o := ⟨some 4, _, _, _, _, _⟩) (.bool false) rfl (exec_assign (.const (.bool false)) (.bool false) rfl (by kernel_rfl)) ?_
 simp only [Act.put, sA, sS, sZ]
 refine wpList_nil ?_
 have HQ0 := Lib.hid (blk_range hQ)
 have lq := hQ.lt
 have z0 := k0.size
 have hl0 := hl.kept k0
 clear hQ hl
 go_upto_region 1 with fail
 refine wp_region_lit ?_
 refine l_val (o := ⟨some 11, _, _, _, _, _⟩) (v) rfl (exec_move (.tmp 0) (v) rfl (by kernel_rfl)) ?_
 simp only [Act.put, sA, sS, sZ]
 refine l_call (o := ⟨some 12, _, _, _, _, _⟩) 31 #[v, .int .i64 40] rfl (exec_call 31 _ [.tmp 11, .const (.int .i64 40)] _ _ Try.func31 (by kernel_rfl) (by kernel_rfl) rfl (by kernel_rfl) _) ?_
 refine (bfilled_any v l 40 w0 hl0 (by omega)).mono ?_
 rintro rr w1a ⟨p, F, rfl, hA1, hG1, k1a⟩
 refine ⟨_, rfl, ?_⟩
 simp only [Act.put, sA, sS, sZ]
 refine l_val (o := ⟨some 13, _, _, _, _, _⟩) (v) rfl (exec_move (.tmp 0) (v) rfl (by kernel_rfl)) ?_
 simp only [Act.put, sA, sS, sZ]
 refine l_call (o := ⟨some 14, _, _, _, _, _⟩) 31 #[v, .int .i64 40] rfl (exec_call 31 _ [.tmp 13, .const (.int .i64 40)] _ _ Try.func31 (by kernel_rfl) (by kernel_rfl) rfl (by kernel_rfl) _) ?_
 refine (bfilled_any v l 40 w1a (hl0.kept k1a) (by omega)).mono ?_
 rintro rr w1 ⟨r, G, rfl, hB1, hG2, k1b⟩
 refine ⟨_, rfl, ?_⟩
 simp only [Act.put, sA, sS, sZ]
 refine l_val (o := ⟨some 5, _, _, _, _, _⟩) (.pointer (some ⟨p, 0, none⟩)) rfl (exec_assign (.tmp 12) (.pointer (some ⟨p, 0, none⟩)) rfl (by kernel_rfl)) ?_
 simp only [Act.put, sA, sS, sZ]
 refine l_val (o := ⟨some 6, _, _, _, _, _⟩) (.pointer (some ⟨r, 0, none⟩)) rfl (exec_assign (.tmp 14) (.pointer (some ⟨r, 0, none⟩)) rfl (by kernel_rfl)) ?_
 simp only [Act.put, sA, sS, sZ]
 refine wpList_nil ?_
 have hI := fillB_inv (l.take 40)
 have HNo : Hid ((fillB (l.take 40)).no ≤ 1000000000000) := by
  have h1 := hI.2
  have h2 : (l.take 40).length ≤ 40 := by rw [List.length_take]; omega
  show _ ≤ _
  omega
 have HI := Lib.hid hI.1
 clear hI
 generalize fillB (l.take 40) = B at HI hB1 hA1 HNo
 have HB1 := Lib.hid hB1
 have k1 := k1a.trans k1b
 have HFl : Hid (∀ b, F b → b < w1a.heap.size) := hA1.lt
 have HGl : Hid (∀ b, G b → b < w1.heap.size) := hB1.lt
 have z1b := k1b.size
 have z1a := k1a.size
 have HA1 := Lib.hid (hA1.kept k1b)
 have HFg : Hid (∀ b, F b → w0.heap.size ≤ b) := fun b hb => (hG1 b hb).elim (fun h => h.elim) id
 have HGg : Hid (∀ b, G b → w1a.heap.size ≤ b) := fun b hb => (hG2 b hb).elim (fun h => h.elim) id
 have HD : Hid (∀ b, F b → ¬ G b) := fun b h h' => by have := HFl.out b h; have := HGg.out b h'; omega
 have HQ1 := Lib.hid (range_kept HQ0.out k1)
 have kw1 := k0.trans k1
 have z1 := k1.size
 clear hB1 hA1 hG1 hG2 hl0 HQ0 k0 k1 k1a k1b
 go_upto_region 4 with fail
 refine wp_text 3 [.eq (q.v), .eq (o.v), .fresh w1.heap.size 25 zeroO.cells] rfl (by kernel_rfl) ?_ ?_
 ·refine sv 1 rfl rfl rfl (fun a u hE hD hk => exec_ldS 48 _ (.tmp 3) (g3) (0) (q.cells) rfl (hE 3 (.pointer (some ⟨g3, 0, none⟩)) (by kernel_rfl) (by kernel_rfl)) (range_kept HQ1.out hk) Try.underlying48 (by rw [q.len7]; exact szK)) ?_
  refine fsteps_cons 2 rfl (fun a u hE hD hk => f_call (o := ⟨some 22, _, _, _, _, _⟩) 22 #[q.v] rfl (wanted_none rfl _) (exec_call 22 _ [.tmp 21] _ [q.v] Try.func22 (by kernel_rfl) (by kernel_rfl) rfl (show [a.eval (.tmp 21)] = [q.v] from (by rw [show a.eval (.tmp 21) = q.v from (hD 0 21 (by kernel_rfl))] <;> rfl)) u) (HGO.out u)) ?_
  refine fsteps_cons 3 rfl (fun a u hE hD hk => f_new (o := ⟨some 7, _, _, _, _, _⟩) (.pointer (some ⟨u.heap.size, 0, none⟩)) _ rfl (wanted_none rfl _) (exec_alc 25 zeroO.cells rfl zO) ⟨_, rfl, hk.size, Blk.new u _ _⟩ ((Keep.refl _ u).alloc _)) ?_
  exact fsteps_nil
 intro gv w2a hV kv2a
 rw [show dstsOf _ 3 = [21, 22, 7] by kernel_rfl]
 simp only [fC, fN, sA, sS, sZ, dS, dZ]
 have hv7 : (.fresh w1.heap.size 25 zeroO.cells : Kn).p (gv 7) w2a := hV 2 7 (by kernel_rfl)
 generalize gv 7 = v7 at hv7 ⊢
 rw [show gv 22 = o.v from hV 1 22 (by kernel_rfl)]
 clear hV
 obtain ⟨g7, rfl, hg7, hBn⟩ := hv7
 refine l_setS (o := ⟨none, _, _, _, _, _⟩) 25 g7 25 zeroO.cells o.cells (.tmp 7) (.tmp 22) rfl rfl (by kernel_rfl) (by kernel_rfl) hBn (by rw [Ord.len9]; exact ord_size) (by rw [Ord.len9, Ord.len9]) (Ord.one1 _) ?_
 intro w2 hBo hkn hsn
 simp only [Act.put]
 refine wpList_nil ?_
 have kv2 : Kept w1 w2 := kv2a.trans' hkn (by omega)
 have HOw2 := Lib.hid (blk_range hBo)
 have lo7 := hBo.lt
 have zw2 := kv2.size
 have HOB := Lib.hid hBo
 clear hBn hBo hkn hsn kv2a
 obtain ⟨o0, ho0⟩ : ∃ y, ({ o with shw := 0, k := 1 } : Ord) = y := ⟨_, rfl⟩
 go_upto_region 5 with fail
 refine wp_text 1 [.eq (.pointer (some ⟨g7, 7, none⟩))] rfl (by kernel_rfl) ?_ ?_
 ·refine sv 1 rfl rfl rfl (fun a u hE hD hk => exec_fldo 25 7 7 (.tmp 7) (g7) (0) (7) rfl (hE 7 (.pointer (some ⟨g7, 0, none⟩)) (by kernel_rfl) (by kernel_rfl)) (by kernel_rfl) rfl) ?_
  exact fsteps_nil
 intro gv w3a hV k3a
 rw [show dstsOf _ 1 = [23] by kernel_rfl]
 simp only [fC, fN, sA, sS, sZ, dS, dZ]
 rw [show gv 23 = .pointer (some ⟨g7, 7, none⟩) from hV 0 23 (by kernel_rfl)]
 clear hV
 refine l_setf (o := ⟨none, _, _, _, _, _⟩) g7 7 25 o.l [] 0 (.tmp 23) (.const (.int .i64 0)) rfl rfl (by kernel_rfl) rfl (HOB.out.kept k3a) (by simp [Ord.l]) ?_
 intro w3b hB3b hk3b hs3b
 simp only [Act.put]
 refine l_val (o := ⟨some 24, _, _, _, _, _⟩) (.pointer (some ⟨g7, 4, none⟩)) rfl (exec_fldo 25 4 4 (.tmp 7) (g7) (0) (4) rfl (by kernel_rfl) (by kernel_rfl) rfl) ?_
 simp only [Act.put, sA, sS, sZ]
 refine l_setf (o := ⟨none, _, _, _, _, _⟩) g7 4 25 (o.l.set 7 0) [] 1 (.tmp 24) (.const (.int .i64 1)) rfl rfl (by kernel_rfl) rfl hB3b (by simp [Ord.l]) ?_
 intro w3 hB3 hk3 hs3
 simp only [Act.put]
 refine wpList_nil ?_
 have HB3 : Hid (Blk w3 g7 25 o0.cells) := by show Blk _ _ _ _; rw [← ho0]; exact hB3
 have kv3 : Kept w1 w3 := ((kv2.trans k3a).trans' hk3b (by omega)).trans' hk3 (by omega)
 have HO3 : Hid (w3.rangeAt g7 0 o0.cells) := blk_range HB3.out
 have z3 := kv3.size
 have lg7 : g7 < w3.heap.size := HB3.out.lt
 clear hB3b hk3b hs3b hB3 hk3 hs3 k3a HOB HOw2 HQ1
 by_cases hp : o0.price = 0
 ·skip
  go_upto_region 6 with fail
  refine wp_text 3 [.eq (.pointer (some ⟨g7, 5, none⟩)), .eq (.int .i64 o0.price), .eq (.bool true)] rfl (by kernel_rfl) ?_ ?_
  ·refine sv 1 rfl rfl rfl (fun a u hE hD hk => exec_fldo 25 5 5 (.tmp 7) (g7) (0) (5) rfl (hE 7 (.pointer (some ⟨g7, 0, none⟩)) (by kernel_rfl) (by kernel_rfl)) (by kernel_rfl) rfl) ?_
   refine sv 2 rfl rfl rfl (fun a u hE hD hk => exec_loadi 3 Try.underlying3 (.tmp 25) ⟨g7, 5, none⟩ (.int .i64 o0.price) rfl (hD 0 25 (by kernel_rfl)) (range_int (range_kept HO3.out hk) 5 _ rfl)) ?_
   refine fsteps_cons 3 rfl (fun a u hE hD hk => f_as (show ((decide ((o0.price : Int) = (0 : Int))) : Bool) = true from decide_eq_true hp) (f_val (o := ⟨some 27, _, _, _, _, _⟩) (.bool (decide ((o0.price : Int) = (0 : Int)))) rfl (wanted_none rfl _) (exec_eqn (p := o0.price) (q := 0) rfl (hD 1 26 (by kernel_rfl)) rfl) rfl)) ?_
   exact fsteps_nil
  intro gv w4 hV k4
  rw [show dstsOf _ 3 = [25, 26, 27] by kernel_rfl]
  simp only [fC, fN, sA, sS, sZ, dS, dZ]
  rw [show gv 27 = .bool true from hV 2 27 (by kernel_rfl)]
  clear hV
  refine wpList_nil ?_
  have kv4 := kv3.trans k4
  have HB4 := Lib.hid (HB3.out.kept k4)
  clear HB3 HO3 k4 kv3
  obtain ⟨o1, ho1⟩ : ∃ y, ({ o0 with price := 99 } : Ord) = y := ⟨_, rfl⟩
  have HII : Hid (IocIs B o1 (B.add o1) (B.add { o1 with k := 3 })) := by
   show IocIs _ _ _ _
   rw [← ho1, ← ho0]
   obtain ⟨h1, h2⟩ := (right_ioc o HKO.out.1 HKO.out.2.1).2
   exact ioc_is (o := { o with shw := 0, k := 1, price := 99 }) HI.out h1 h2 HKO.out.2.1
  go_upto_region 7 with fail
  refine wp_text 1 [.eq (.pointer (some ⟨g7, 5, none⟩))] rfl (by kernel_rfl) ?_ ?_
  ·refine sv 1 rfl rfl rfl (fun a u hE hD hk => exec_fldo 25 5 5 (.tmp 7) (g7) (0) (5) rfl (hE 7 (.pointer (some ⟨g7, 0, none⟩)) (by kernel_rfl) (by kernel_rfl)) (by kernel_rfl) rfl) ?_
   exact fsteps_nil
  intro gv w5a hV kw5a
  rw [show dstsOf _ 1 = [28] by kernel_rfl]
  simp only [fC, fN, sA, sS, sZ, dS, dZ]
  rw [show gv 28 = .pointer (some ⟨g7, 5, none⟩) from hV 0 28 (by kernel_rfl)]
  clear hV
  refine l_setf (o := ⟨none, _, _, _, _, _⟩) g7 5 25 o0.l [] 99 (.tmp 28) (.const (.int .i64 99)) rfl rfl (by kernel_rfl) rfl (HB4.out.kept kw5a) (by simp [Ord.l]) ?_
  intro w5 hBw5 hkw5 hsw5
  simp only [Act.put]
  refine wpList_nil ?_
  have HBw5 : Hid (Blk w5 g7 25 o1.cells) := by show Blk _ _ _ _; rw [← ho1]; exact hBw5
  have Kw5 : Kept w4 w5a := kw5a
  have kv5 : Kept w1 w5 := (kv4.trans kw5a).trans' hkw5 (by omega)
  clear HB4 hBw5 hkw5 hsw5 kw5a Kw5 kv4
  have z5 := kv5.size
  have HO5 : Hid (w5.rangeAt g7 0 o1.cells) := blk_range HBw5.out
  have lh7 : g7 < w5.heap.size := HBw5.out.lt
  clear ho0 ho1 HKO HGO
  go_upto_region 8 with fail
  refine wp_text 2 [.eq (o1.v), .fresh w5.heap.size 25 zeroO.cells] rfl (by kernel_rfl) ?_ ?_
  ·refine sv 1 rfl rfl rfl (fun a u hE hD hk => exec_ldS 25 _ (.tmp 7) (g7) (0) (o1.cells) rfl (hE 7 (.pointer (some ⟨g7, 0, none⟩)) (by kernel_rfl) (by kernel_rfl)) (range_kept HO5.out hk) Try.underlying25 (by rw [o1.len9]; exact ord_size)) ?_
   refine fsteps_cons 2 rfl (fun a u hE hD hk => f_new (o := ⟨some 8, _, _, _, _, _⟩) (.pointer (some ⟨u.heap.size, 0, none⟩)) _ rfl (wanted_none rfl _) (exec_alc 25 zeroO.cells rfl zO) ⟨_, rfl, hk.size, Blk.new u _ _⟩ ((Keep.refl _ u).alloc _)) ?_
   exact fsteps_nil
  intro gv w6a hV k6a
  rw [show dstsOf _ 2 = [29, 8] by kernel_rfl]
  simp only [fC, fN, sA, sS, sZ, dS, dZ]
  have hv8 : (.fresh w5.heap.size 25 zeroO.cells : Kn).p (gv 8) w6a := hV 1 8 (by kernel_rfl)
  generalize gv 8 = v8 at hv8 ⊢
  rw [show gv 29 = o1.v from hV 0 29 (by kernel_rfl)]
  clear hV
  obtain ⟨g8, rfl, hg8, hB8⟩ := hv8
  refine l_setS (o := ⟨none, _, _, _, _, _⟩) 25 g8 25 zeroO.cells o1.cells (.tmp 8) (.tmp 29) rfl rfl (by kernel_rfl) (by kernel_rfl) (hB8) (by rw [Ord.len9]; exact ord_size) (by rw [Ord.len9, Ord.len9]) (Ord.one1 _) ?_
  intro w6 hCw6 hkw6 hsw6
  simp only [Act.put]
  refine wpList_nil ?_
  have kv6 : Kept w1 w6 := (kv5.trans k6a).trans' hkw6 (by omega)
  have HO6 : Hid (w6.rangeAt g7 0 o1.cells) := range_kept HO5.out (k6a.trans' hkw6 (by omega))
  have z56 : w5.heap.size ≤ w6.heap.size := (k6a.trans' hkw6 (by omega)).size
  have HBw6 : Hid (Blk w6 g8 25 o1.cells) := hCw6
  have z6 := kv6.size
  have lg8 : g8 < w6.heap.size := hCw6.lt
  obtain ⟨io, hio⟩ : ∃ y, ({ o1 with k := 3 } : Ord) = y := ⟨_, rfl⟩
  have hg87 : g8 ≠ g7 := by omega
  clear hB8 hCw6 hkw6 hsw6 k6a HO5 HBw5 kv5
  go_upto_region 9 with fail
  refine wp_text 1 [.eq (.pointer (some ⟨g8, 4, none⟩))] rfl (by kernel_rfl) ?_ ?_
  ·refine sv 1 rfl rfl rfl (fun a u hE hD hk => exec_fldo 25 4 4 (.tmp 8) (g8) (0) (4) rfl (hE 8 (.pointer (some ⟨g8, 0, none⟩)) (by kernel_rfl) (by kernel_rfl)) (by kernel_rfl) rfl) ?_
   exact fsteps_nil
  intro gv w7a hV kw7a
  rw [show dstsOf _ 1 = [30] by kernel_rfl]
  simp only [fC, fN, sA, sS, sZ, dS, dZ]
  rw [show gv 30 = .pointer (some ⟨g8, 4, none⟩) from hV 0 30 (by kernel_rfl)]
  clear hV
  refine l_setf (o := ⟨none, _, _, _, _, _⟩) g8 4 25 o1.l [] 3 (.tmp 30) (.const (.int .i64 3)) rfl rfl (by kernel_rfl) rfl (HBw6.out.kept kw7a) (by simp [Ord.l]) ?_
  intro w7 hBw7 hkw7 hsw7
  simp only [Act.put]
  refine wpList_nil ?_
  have HBw7 : Hid (Blk w7 g8 25 io.cells) := by show Blk _ _ _ _; rw [← hio]; exact hBw7
  have Kw7 : Kept w6 w7a := kw7a
  have z67 : w6.heap.size ≤ w7.heap.size := Nat.le_trans kw7a.size hkw7.size
  have kv7 : Kept w1 w7 := (kv6.trans kw7a).trans' hkw7 (by omega)
  have HO7 : Hid (w7.rangeAt g7 0 o1.cells) := range_keep (range_kept HO6.out kw7a) hkw7 (fun h => hg87 h.symm)
  have HP7 : Hid (w7.rangeAt g8 0 io.cells) := blk_range HBw7.out
  have z7 := kv7.size
  have HAw7 := Lib.hid (HA1.out.kept kv7)
  have HB7 := Lib.hid (HB1.out.kept kv7)
  have kw7 := kw1.trans kv7
  have HBk7 := HB7
  clear HBw6 hBw7 hkw7 hsw7 kw7a Kw7 kv6 HO6 HA1 HB1 HBw7
  have HBw7 := HBk7
  clear HB7 HBk7
  obtain ⟨x, hx⟩ : ∃ y, (B.add o1).1 = y := ⟨_, rfl⟩
  obtain ⟨A2, hA2⟩ : ∃ y, (B.add o1).2 = y := ⟨_, rfl⟩
  obtain ⟨y, hy⟩ : ∃ y, (B.add io).1 = y := ⟨_, rfl⟩
  obtain ⟨B2, hB2⟩ : ∃ y, (B.add io).2 = y := ⟨_, rfl⟩
  have HX : Hid (B.add o1 = (x, A2)) := by rw [← hx, ← hA2]; exact rfl
  have HY : Hid (B.add io = (y, B2)) := by rw [← hy, ← hB2]; exact rfl
  have HI2 : Hid (Inv B2) := by show Inv _; rw [← hB2]; exact (inv_add HI.out).1
  have HIO : Hid (IocIs B o1 (x, A2) (y, B2)) := by show IocIs _ _ _ _; rw [← HX.out, ← HY.out, ← hio]; exact HII.out
  have HI1 : Hid (Inv A2) := by show Inv _; rw [← hA2]; exact (inv_add HI.out).1
  clear hx hA2 hy hB2 HII hio
  go_upto_region 10 with fail
  refine wp_freeN 8 2 5 6 7 [0, 1, 3, 4, 6, 7] [0, 1, 2, 3, 4, 6, 7] (fun Av => [.eq (.pointer (some ⟨p, 0, none⟩)), .eq (o1.v), .addA w7.heap.size Av F p (x, A2), .eq (.pointer (some ⟨r, 0, none⟩)), .eq (io.v), .twoA w7.heap.size Av F G p r (x, A2) (y, B2), .fresh w7.heap.size 29 (zeroC.cells (.slice none 0 0)), .fresh w7.heap.size 29 (zeroC.cells (.slice none 0 0))]) (F) (G) (by kernel_rfl) (fun _ => rfl) (by omega) (by omega) (by omega) (by kernel_rfl) (by kernel_rfl) (by kernel_rfl) (by kernel_rfl) ?_ ?_ (by omega) (by omega) (by omega) (by omega) (by omega) (fun _ => Kn.old_fresh) (fun _ => Kn.old_fresh) ?_ (.fresh w7.heap.size 29 (zeroC.cells (.slice none 0 0))) (.fresh w7.heap.size 29 (zeroC.cells (.slice none 0 0))) (fun _ => rfl) (fun _ => rfl) (fun Av a u hE hD hk => n_new (K := (.fresh w7.heap.size 29 (zeroC.cells (.slice none 0 0)) : Kn)) (o := ⟨some 9, _, _, _, _, _⟩) (.pointer (some ⟨u.heap.size, 0, none⟩)) _ rfl (wanted_none rfl _) (exec_alc 29 (zeroC.cells (.slice none 0 0)) rfl zC) ⟨_, rfl, hk.size, Blk.new u _ _⟩ ((Keep.refl _ u).alloc _) rfl) (fun Av a u hE hD hk => n_new (K := (.fresh w7.heap.size 29 (zeroC.cells (.slice none 0 0)) : Kn)) (o := ⟨some 10, _, _, _, _, _⟩) (.pointer (some ⟨u.heap.size, 0, none⟩)) _ rfl (wanted_none rfl _) (exec_alc 29 (zeroC.cells (.slice none 0 0)) rfl zC) ⟨_, rfl, hk.size, Blk.new u _ _⟩ ((Keep.refl _ u).alloc _) rfl) ?_ (fun Av a u hE hD hk hAv => v_call (o := ⟨some 33, _, _, _, _, _⟩) 15 #[.pointer (some ⟨p, 0, none⟩), o1.v] rfl (wanted_none rfl _) (exec_call 15 _ [.tmp 31, .tmp 32] _ [.pointer (some ⟨p, 0, none⟩), o1.v] Try.func15 (by kernel_rfl) (by kernel_rfl) rfl (show [a.eval (.tmp 31), a.eval (.tmp 32)] = [.pointer (some ⟨p, 0, none⟩), o1.v] from (by rw [show a.eval (.tmp 31) = .pointer (some ⟨p, 0, none⟩) from (hD 0 31 (by kernel_rfl)), show a.eval (.tmp 32) = o1.v from (hD 1 32 (by kernel_rfl))] <;> rfl)) u) (badd_knA u Av F p B o1 (x, A2) w7.heap.size HX.out (HAw7.out.kept hk) HI.out HNo.out hk.size (fun b hb => ⟨fun h => by have := HFl.out _ h; have := (hAv b hb).1; omega, (hAv b hb).2⟩))) (fun Av a u hE hD hk hAv => v_call (o := ⟨some 36, _, _, _, _, _⟩) 15 #[.pointer (some ⟨r, 0, none⟩), io.v] rfl (wanted_none rfl _) (exec_call 15 _ [.tmp 34, .tmp 35] _ [.pointer (some ⟨r, 0, none⟩), io.v] Try.func15 (by kernel_rfl) (by kernel_rfl) rfl (show [a.eval (.tmp 34), a.eval (.tmp 35)] = [.pointer (some ⟨r, 0, none⟩), io.v] from (by rw [show a.eval (.tmp 34) = .pointer (some ⟨r, 0, none⟩) from (hD 3 34 (by kernel_rfl)), show a.eval (.tmp 35) = io.v from (hD 4 35 (by kernel_rfl))] <;> rfl)) u) (badd_twoA u Av F G p r B io (x, A2) (y, B2) w7.heap.size HY.out _ (hD 2 33 (by kernel_rfl)) (HBw7.out.keep hk (fun b hb h => HD.out b h hb)) HI.out HNo.out hk.size HD.out (fun b hb => by have := HGl.out b hb; omega) hAv)) ?_
  ·intro Av i hi
   have hi2 : i = 0 ∨ i = 1 ∨ i = 3 ∨ i = 4 ∨ i = 6 ∨ i = 7 := by simpa using hi
   rcases hi2 with rfl | rfl | rfl | rfl | rfl | rfl
   ·exact Kn.safe_eq _ _
   ·exact Kn.safe_eq _ _
   ·exact Kn.safe_eq _ _
   ·exact Kn.safe_eq _ _
   ·exact Kn.safe_fresh (fun b hb h => by have := HFl.out _ h; omega)
   ·exact Kn.safe_fresh (fun b hb h => by have := HFl.out _ h; omega)
  ·intro Av i hi hAv
   have hi2 : i = 0 ∨ i = 1 ∨ i = 2 ∨ i = 3 ∨ i = 4 ∨ i = 6 ∨ i = 7 := by simpa using hi
   rcases hi2 with rfl | rfl | rfl | rfl | rfl | rfl | rfl
   ·exact Kn.safe_eq _ _
   ·exact Kn.safe_eq _ _
   ·exact Kn.safe_addA HD.out (fun b hb h => by have := HGl.out _ h; omega)
   ·exact Kn.safe_eq _ _
   ·exact Kn.safe_eq _ _
   ·exact Kn.safe_fresh (fun b hb h => by have := HGl.out _ h; omega)
   ·exact Kn.safe_fresh (fun b hb h => by have := HGl.out _ h; omega)
  ·intro Av g j v w_ hj h hg
   have hj2 : j = 0 ∨ j = 1 ∨ j = 2 ∨ j = 3 ∨ j = 4 ∨ j = 5 ∨ j = 6 ∨ j = 7 := by omega
   rcases hj2 with rfl | rfl | rfl | rfl | rfl | rfl | rfl | rfl
   ·exact h
   ·exact h
   ·exact Kn.addA_grow h hg
   ·exact h
   ·exact h
   ·exact Kn.twoA_grow h hg
   ·exact h
   ·exact h
  ·intro Av
   refine nsteps_cons 1 rfl (fun a u hE hD hk => f_val (o := ⟨some 31, _, _, _, _, _⟩) (.pointer (some ⟨p, 0, none⟩)) rfl (wanted_none rfl _) (exec_move (.tmp 5) _ rfl (hE 5 (.pointer (some ⟨p, 0, none⟩)) (by kernel_rfl) (by kernel_rfl))) rfl) ?_
   refine nsteps_cons 2 rfl (fun a u hE hD hk => f_val (o := ⟨some 32, _, _, _, _, _⟩) (o1.v) rfl (wanted_none rfl _) (exec_ldS 25 _ (.tmp 7) (g7) (0) (o1.cells) rfl (hE 7 (.pointer (some ⟨g7, 0, none⟩)) (by kernel_rfl) (by kernel_rfl)) (range_keep HO7.out hk (fun h => h.elim (fun h => by have := HFl.out _ h; omega) (fun h => by have := HGl.out _ h; omega))) Try.underlying25 (by rw [o1.len9]; exact ord_size)) rfl) ?_
   refine nsteps_turn 3 rfl (by omega) ?_
   refine nsteps_cons 4 rfl (fun a u hE hD hk => f_val (o := ⟨some 34, _, _, _, _, _⟩) (.pointer (some ⟨r, 0, none⟩)) rfl (wanted_none rfl _) (exec_move (.tmp 6) _ rfl (hE 6 (.pointer (some ⟨r, 0, none⟩)) (by kernel_rfl) (by kernel_rfl))) rfl) ?_
   refine nsteps_cons 5 rfl (fun a u hE hD hk => f_val (o := ⟨some 35, _, _, _, _, _⟩) (io.v) rfl (wanted_none rfl _) (exec_ldS 25 _ (.tmp 8) (g8) (0) (io.cells) rfl (hE 8 (.pointer (some ⟨g8, 0, none⟩)) (by kernel_rfl) (by kernel_rfl)) (range_keep HP7.out hk (fun h => h.elim (fun h => by have := HFl.out _ h; omega) (fun h => by have := HGl.out _ h; omega))) Try.underlying25 (by rw [io.len9]; exact ord_size)) rfl) ?_
   refine nsteps_turn 6 rfl (by omega) ?_
   refine nsteps_turn 7 rfl (by omega) ?_
   refine nsteps_turn 8 rfl (by omega) ?_
   exact nsteps_nil
  intro Av gv w8a hV Kw8a hAx hAy hUN
  replace hUN := hUN 9 10 (by kernel_rfl) (by kernel_rfl)
  replace hAx := fun b => hAx 9 b (by kernel_rfl)
  replace hAy := fun b => hAy 10 b (by kernel_rfl)
  rw [show dstsOf _ 8 = [31, 32, 33, 34, 35, 36, 9, 10] by kernel_rfl]
  simp only [fC, fN, sA, sS, sZ, dS, dZ]
  have hv9 : (.fresh w7.heap.size 29 (zeroC.cells (.slice none 0 0)) : Kn).p (gv 9) w8a := hV 6 9 (by kernel_rfl)
  generalize gv 9 = v9 at hv9 hUN hAx ⊢
  have hv33 : (.addA w7.heap.size Av F p (x, A2) : Kn).p (gv 33) w8a := hV 2 33 (by kernel_rfl)
  generalize gv 33 = v33 at hv33 ⊢
  have hv10 : (.fresh w7.heap.size 29 (zeroC.cells (.slice none 0 0)) : Kn).p (gv 10) w8a := hV 7 10 (by kernel_rfl)
  generalize gv 10 = v10 at hv10 hUN hAy ⊢
  have hv36 : (.twoA w7.heap.size Av F G p r (x, A2) (y, B2) : Kn).p (gv 36) w8a := hV 5 36 (by kernel_rfl)
  generalize gv 36 = v36 at hv36 ⊢
  clear hV
  obtain ⟨_, vx, rfl, _, hSx, hOx, _, _⟩ := hv33
  obtain ⟨F', G', vy, rfl, hA', hB', hSy, hOy, hF', hG', hD', hV'⟩ := hv36
  obtain ⟨g9, rfl, hg9, hBx⟩ := hv9
  obtain ⟨g10, rfl, hg10, hBy⟩ := hv10
  have hxy : g9 ≠ g10 := fun h => hUN (by rw [h])
  have hAvx := hAx _ rfl
  have hAvy := hAy _ rfl
  refine l_setS (o := ⟨none, _, _, _, _, _⟩) 29 g9 29 (zeroC.cells (.slice none 0 0)) (x.cells vx) (.tmp 9) (.tmp 33) rfl rfl (by kernel_rfl) (by kernel_rfl) (hBx) (by rw [Oc.len15]; exact szC) (by rw [Oc.len15, Oc.len15]) (Oc.one _ _ (sl_onec hSx)) ?_
  intro w8b hCw8b hkw8b hsw8b
  simp only [Act.put]
  refine l_setS (o := ⟨none, _, _, _, _, _⟩) 29 g10 29 (zeroC.cells (.slice none 0 0)) (y.cells vy) (.tmp 10) (.tmp 36) rfl rfl (by kernel_rfl) (by kernel_rfl) (hBy.keep hkw8b (fun h => hxy h.symm)) (by rw [Oc.len15]; exact szC) (by rw [Oc.len15, Oc.len15]) (Oc.one _ _ (sl_onec hSy)) ?_
  intro w8 hCw8 hkw8 hsw8
  simp only [Act.put]
  refine wpList_nil ?_
  have Kw8 : Keep (Both F G) w7 w8 := (Kw8a.new hkw8b (by omega)).new hkw8 (by omega)
  have HAw8 : Hid (Bk w8 F' p A2) := (hA'.keep hkw8b (fun b hb e => (hV' _ hAvx).1 (by have e' : b = g9 := e; rw [← e']; exact hb))).keep hkw8 (fun b hb e => (hV' _ hAvy).1 (by have e' : b = g10 := e; rw [← e']; exact hb))
  have HBw8 : Hid (Bk w8 G' r B2) := (hB'.keep hkw8b (fun b hb e => (hV' _ hAvx).2 (by have e' : b = g9 := e; rw [← e']; exact hb))).keep hkw8 (fun b hb e => (hV' _ hAvy).2 (by have e' : b = g10 := e; rw [← e']; exact hb))
  have HSxw8 : Hid (Sl w8 36 21 vx x.f.length (fls x.f)) := (hSx.keep hkw8b (fun b hb e => (hOx b hb).2.2 (by have e' : b = g9 := e; rw [e']; exact hAvx))).keep hkw8 (fun b hb e => (hOx b hb).2.2 (by have e' : b = g10 := e; rw [e']; exact hAvy))
  have HSyw8 : Hid (Sl w8 36 21 vy y.f.length (fls y.f)) := (hSy.keep hkw8b (fun b hb e => (hOy b hb).2.2.2 (by have e' : b = g9 := e; rw [e']; exact hAvx))).keep hkw8 (fun b hb e => (hOy b hb).2.2.2 (by have e' : b = g10 := e; rw [e']; exact hAvy))
  have HCxw8 : Hid (Blk w8 g9 29 (x.cells vx)) := hCw8b.keep hkw8 (fun h => hxy h)
  have HCyw8 : Hid (Blk w8 g10 29 (y.cells vy)) := hCw8
  have HFw8 : Hid (∀ b, F' b → F b ∨ w7.heap.size ≤ b) := hF'
  have HGw8 : Hid (∀ b, G' b → G b ∨ w7.heap.size ≤ b) := hG'
  have HVw8 : Hid ((¬ F' g9 ∧ ¬ G' g9) ∧ ¬ F' g10 ∧ ¬ G' g10) := ⟨hV' _ hAvx, hV' _ hAvy⟩
  have HDw8 := Lib.hid hD'
  have zw8 := Kw8.size
  clear hSx hOx hA' hB' hSy hOy hF' hG' hD' hV' hBx hBy hAx hAy hUN hCw8b hkw8b hsw8b hCw8 hkw8 hsw8 Kw8a hAvx hAvy
  have HO8 : Hid (w8.rangeAt g7 0 o1.cells) := range_keep HO7.out Kw8 (fun h => h.elim (fun h => by have := HFl.out _ h; omega) (fun h => by have := HGl.out _ h; omega))
  have kw8 : Kept w w8 := Keep.trans kw7 Kw8 (fun b hb h => h.elim (fun h => by have := HFg.out b h; omega) (fun h => by have := HGg.out b h; omega))
  have HG8 : Hid (∀ b, F' b → w.heap.size ≤ b) := fun b hb => (HFw8.out b hb).elim (fun h => by have := HFg.out b h; omega) (fun h => by omega)
  have hF7 : ¬ F' g7 := fun h => (HFw8.out g7 h).elim (fun h => by have := HFl.out _ h; omega) (fun h => by omega)
  clear HO7 HP7 HAw7 HBw7 kw7 kv7 Kw8 HX HY
  by_cases he : x.err = 0
  ·skip
   go_upto_region 11 with fail
   refine wp_text 3 [.eq (.pointer (some ⟨g9, 14, none⟩)), .eq (.int .i64 x.err), .eq (.bool false)] rfl (by kernel_rfl) ?_ ?_
   ·refine sv 1 rfl rfl rfl (fun a u hE hD hk => exec_fldo 29 6 14 (.tmp 9) (g9) (0) (14) rfl (hE 9 (.pointer (some ⟨g9, 0, none⟩)) (by kernel_rfl) (by kernel_rfl)) (by kernel_rfl) rfl) ?_
    refine sv 2 rfl rfl rfl (fun a u hE hD hk => exec_loadi 27 Try.underlying27 (.tmp 37) ⟨g9, 14, none⟩ (.int .i64 x.err) rfl (hD 0 37 (by kernel_rfl)) (by rw [(HCxw8.out.kept hk).cell]; rfl)) ?_
    refine fsteps_cons 3 rfl (fun a u hE hD hk => f_as (show ((decide ((x.err : Int) ≠ (0 : Int))) : Bool) = false from decide_eq_false (fun h => h he)) (f_val (o := ⟨some 39, _, _, _, _, _⟩) (.bool (decide ((x.err : Int) ≠ (0 : Int)))) rfl (wanted_none rfl _) (exec_nen (p := x.err) (q := 0) rfl (hD 1 38 (by kernel_rfl)) rfl) rfl)) ?_
    exact fsteps_nil
   intro gv w9 hV k9
   rw [show dstsOf _ 3 = [37, 38, 39] by kernel_rfl]
   simp only [fC, fN, sA, sS, sZ, dS, dZ]
   rw [show gv 39 = .bool false from hV 2 39 (by kernel_rfl)]
   clear hV
   refine wpList_nil ?_
   have kw9 := kw8.trans k9
   have HCx9 := Lib.hid (HCxw8.out.kept k9)
   have HCy9 := Lib.hid (HCyw8.out.kept k9)
   by_cases hrs : x.rests = true
   ·skip
    have HA9 := Lib.hid (HAw8.out.kept k9)
    have HB9 := Lib.hid (HBw8.out.kept k9)
    have HSx9 := Lib.hid (HSxw8.out.kept k9)
    have HSy9 := Lib.hid (HSyw8.out.kept k9)
    have HO9 := Lib.hid (range_kept HO8.out k9)
    clear HAw8 HBw8 HSxw8 HSyw8 HO8 HCxw8 HCyw8 k9 kw8
    go_upto_region 13 with fail
    refine wp_text 2 [.eq (.pointer (some ⟨g9, 11, none⟩)), .eq (.bool true)] rfl (by kernel_rfl) ?_ ?_
    ·refine sv 1 rfl rfl rfl (fun a u hE hD hk => exec_fldo 29 3 11 (.tmp 9) (g9) (0) (11) rfl (hE 9 (.pointer (some ⟨g9, 0, none⟩)) (by kernel_rfl) (by kernel_rfl)) (by kernel_rfl) rfl) ?_
     refine fsteps_cons 2 rfl (fun a u hE hD hk => f_as (show (x.rests : Bool) = true from hrs) (f_val (o := ⟨some 62, _, _, _, _, _⟩) (.bool x.rests) rfl (wanted_none rfl _) (exec_ldb 4 Try.underlying4 (.tmp 61) ⟨g9, 11, none⟩ (.bool x.rests) rfl (hD 0 61 (by kernel_rfl)) (by rw [(HCx9.out.kept hk).cell]; rfl)) rfl)) ?_
     exact fsteps_nil
    intro gv w10 hV k10
    rw [show dstsOf _ 2 = [61, 62] by kernel_rfl]
    simp only [fC, fN, sA, sS, sZ, dS, dZ]
    rw [show gv 62 = .bool true from hV 1 62 (by kernel_rfl)]
    clear hV
    refine wpList_nil ?_
    have HA10 := Lib.hid (HA9.out.kept k10)
    have HB10 := Lib.hid (HB9.out.kept k10)
    have HCx10 := Lib.hid (HCx9.out.kept k10)
    have HCy10 := Lib.hid (HCy9.out.kept k10)
    have HSx10 := Lib.hid (HSx9.out.kept k10)
    have HSy10 := Lib.hid (HSy9.out.kept k10)
    have HO10 := Lib.hid (range_kept HO9.out k10)
    have kw10 := kw9.trans k10
    clear HA9 HB9 HCx9 HCy9 HSx9 HSy9 HO9 kw9 k10
    obtain ⟨z, hz⟩ := (HIO.out.yes he).2.2.2.2.2 hrs
    have HRm : Hid (∀ u, Bk u F' p A2 → Calls Try.prog 24 #[.pointer (some ⟨p, 0, none⟩), .int .i64 o1.tr, .int .i64 o1.id] u fun e w' => ∃ F2, e = .returned (.tuple #[z.v, .bool true]) ∧ Bk w' F2 p B2 ∧ Grow u F' F2 ∧ Keep F' u w') := fun u hu => by have h := bremove_any u F' p A2 o1.tr o1.id hu HI1.out; rw [show A2.remove o1.tr o1.id = (z, true, B2) from hz] at h; exact h
    clear hz
    go_upto_region 14 with fail
    refine wp_text 5 [.eq (.pointer (some ⟨p, 0, none⟩)), .eq (.pointer (some ⟨g7, 0, none⟩)), .eq (.int .i64 o1.tr), .eq (.pointer (some ⟨g7, 1, none⟩)), .eq (.int .i64 o1.id)] rfl (by kernel_rfl) ?_ ?_
    ·refine sv 1 rfl rfl rfl (fun a u hE hD hk => exec_move (.tmp 5) _ rfl (hE 5 (.pointer (some ⟨p, 0, none⟩)) (by kernel_rfl) (by kernel_rfl))) ?_
     refine sv 2 rfl rfl rfl (fun a u hE hD hk => exec_fldo 25 0 0 (.tmp 7) (g7) (0) (0) rfl (hE 7 (.pointer (some ⟨g7, 0, none⟩)) (by kernel_rfl) (by kernel_rfl)) (by kernel_rfl) rfl) ?_
     refine sv 3 rfl rfl rfl (fun a u hE hD hk => exec_loadi 3 Try.underlying3 (.tmp 64) ⟨g7, 0, none⟩ (.int .i64 o1.tr) rfl (hD 1 64 (by kernel_rfl)) (range_int (range_kept HO10.out hk) 0 _ rfl)) ?_
     refine sv 4 rfl rfl rfl (fun a u hE hD hk => exec_fldo 25 1 1 (.tmp 7) (g7) (0) (1) rfl (hE 7 (.pointer (some ⟨g7, 0, none⟩)) (by kernel_rfl) (by kernel_rfl)) (by kernel_rfl) rfl) ?_
     refine sv 5 rfl rfl rfl (fun a u hE hD hk => exec_loadi 3 Try.underlying3 (.tmp 66) ⟨g7, 1, none⟩ (.int .i64 o1.id) rfl (hD 3 66 (by kernel_rfl)) (range_int (range_kept HO10.out hk) 1 _ rfl)) ?_
     exact fsteps_nil
    intro gv w11a hV k11a
    rw [show dstsOf _ 5 = [63, 64, 65, 66, 67] by kernel_rfl]
    simp only [fC, fN, sA, sS, sZ, dS, dZ]
    rw [show gv 63 = .pointer (some ⟨p, 0, none⟩) from hV 0 63 (by kernel_rfl)]
    rw [show gv 65 = .int .i64 o1.tr from hV 2 65 (by kernel_rfl)]
    rw [show gv 67 = .int .i64 o1.id from hV 4 67 (by kernel_rfl)]
    clear hV
    refine l_call (o := ⟨some 68, _, _, _, _, _⟩) 24 #[.pointer (some ⟨p, 0, none⟩), .int .i64 o1.tr, .int .i64 o1.id] rfl (exec_call 24 _ [.tmp 63, .tmp 65, .tmp 67] _ _ Try.func24 (by kernel_rfl) (by kernel_rfl) rfl (by kernel_rfl) _) ?_
    refine (HRm.out w11a (HA10.out.kept k11a)).mono ?_
    rintro e w11 ⟨F2, rfl, hA11, hG11, hk11⟩
    refine ⟨_, rfl, ?_⟩
    simp only [Act.put, sA, sS, sZ]
    refine wpList_nil ?_
    have K11 : Keep F' w10 w11 := Keep.any k11a hk11
    have HA11 := Lib.hid hA11
    have HB11 : Hid (Bk w11 G' r B2) := HB10.out.keep K11 (fun b hb h => HDw8.out b h hb)
    have HCx11 : Hid (Blk w11 g9 29 (x.cells vx)) := HCx10.out.keep K11 HVw8.out.1.1
    have HCy11 : Hid (Blk w11 g10 29 (y.cells vy)) := HCy10.out.keep K11 HVw8.out.2.1
    have kw11 : Kept w w11 := Keep.trans kw10 K11 (fun b hb h => by have := HG8.out b h; omega)
    clear hA11 hG11 hk11 K11 k11a HA10 HB10 HCx10 HCy10 HO10 kw10 HRm
    obtain ⟨ey, el, es, eln, _, _⟩ := HIO.out.yes he
    obtain ⟨X, hX⟩ : ∃ X, ordsL (B2.sd 1) = X := ⟨_, rfl⟩
    obtain ⟨Y, hY⟩ : ∃ Y, ordsL (B2.sd 2) = Y := ⟨_, rfl⟩
    have HXe := Lib.hid hX
    have HYe := Lib.hid hY
    have HXl : Hid (X.length ≤ 64 ∧ Y.length ≤ 64) := by
     have h1 := HI2.out.two.few
     have h2 : X.length = (entL B2.buys).length := by rw [← hX, ordsL_len]; rfl
     have h3 : Y.length = (entL B2.sells).length := by rw [← hY, ordsL_len]; rfl
     show _ ∧ _
     omega
    have hln : (x.f.length : Int) = (y.f.length : Int) := by have : x.f.length = y.f.length := eln; omega
    clear hX hY eln
    go_upto_region 15 with fail
    refine wp_text 57 [.eq (.pointer (some ⟨g10, 14, none⟩)), .eq (.int .i64 y.err), .eq (.bool true), .eq (.bool true), .eq (.pointer (some ⟨g9, 10, none⟩)), .eq (.int .i64 x.left), .eq (.pointer (some ⟨g10, 10, none⟩)), .eq (.int .i64 y.left), .eq (.bool true), .eq (.bool true), .eq (.bool true), .eq (.pointer (some ⟨g9, 13, none⟩)), .eq (.bool x.self), .eq (.pointer (some ⟨g10, 13, none⟩)), .eq (.bool y.self), .eq (.bool true), .eq (.bool true), .eq (.bool true), .eq (.pointer (some ⟨g9, 9, none⟩)), .eq (vx), .eq (.int .i64 (x.f.length : Int)), .eq (.pointer (some ⟨g10, 9, none⟩)), .eq (vy), .eq (.int .i64 (y.f.length : Int)), .eq (.bool true), .eq (.bool true), .eq (.bool true), .eq (.pointer (some ⟨p, 0, none⟩)), .sl 0 25 9 X.length (ords X), .eq (.pointer (some ⟨r, 0, none⟩)), .sl 0 25 9 X.length (ords X), .eq (.bool true), .eq (.bool true), .eq (.bool true), .eq (.pointer (some ⟨p, 0, none⟩)), .sl 0 25 9 Y.length (ords Y), .eq (.pointer (some ⟨r, 0, none⟩)), .sl 0 25 9 Y.length (ords Y), .eq (.bool true), .eq (.bool true), .eq (.bool true), .eq (.pointer (some ⟨p, 0, none⟩)), .eq (.int .i64 B2.last), .eq (.pointer (some ⟨r, 0, none⟩)), .eq (.int .i64 B2.last), .eq (.bool true), .eq (.bool true), .eq (.bool true), .eq (.pointer (some ⟨p, 0, none⟩)), .eq (.int .i64 B2.no), .eq (.pointer (some ⟨r, 0, none⟩)), .eq (.int .i64 B2.no), .eq (.bool true), .eq (.bool true), .eq (.bool true), .eq (.bool true), .eq (.bool true)] rfl (by kernel_rfl) ?_ ?_
    ·refine sv 1 rfl rfl rfl (fun a u hE hD hk => exec_fldo 29 6 14 (.tmp 10) (g10) (0) (14) rfl (hE 10 (.pointer (some ⟨g10, 0, none⟩)) (by kernel_rfl) (by kernel_rfl)) (by kernel_rfl) rfl) ?_
     refine sv 2 rfl rfl rfl (fun a u hE hD hk => exec_loadi 27 Try.underlying27 (.tmp 69) ⟨g10, 14, none⟩ (.int .i64 y.err) rfl (hD 0 69 (by kernel_rfl)) (by rw [(HCy11.out.kept hk).cell]; rfl)) ?_
     refine fsteps_cons 3 rfl (fun a u hE hD hk => f_as (show ((decide ((y.err : Int) = (0 : Int))) : Bool) = true from decide_eq_true ey) (f_val (o := ⟨some 71, _, _, _, _, _⟩) (.bool (decide ((y.err : Int) = (0 : Int)))) rfl (wanted_none rfl _) (exec_eqn (p := y.err) (q := 0) rfl (hD 1 70 (by kernel_rfl)) rfl) rfl)) ?_
     refine sv 4 rfl rfl rfl (fun a u hE hD hk => exec_move (.tmp 71) _ rfl (hD 2 71 (by kernel_rfl))) ?_
     refine fsteps_cons 5 rfl (fun a u hE hD hk => f_val (o := ⟨some 73, _, _, _, _, _⟩) (.pointer (some ⟨g9, 10, none⟩)) rfl (wanted_at (b := true) true rfl rfl (hD 3 72 (by kernel_rfl))) (exec_fldo 29 2 10 (.tmp 9) (g9) (0) (10) rfl (hE 9 (.pointer (some ⟨g9, 0, none⟩)) (by kernel_rfl) (by kernel_rfl)) (by kernel_rfl) rfl) rfl) ?_
     refine fsteps_cons 6 rfl (fun a u hE hD hk => f_val (o := ⟨some 74, _, _, _, _, _⟩) (.int .i64 x.left) rfl (wanted_at (b := true) true rfl rfl (hD 3 72 (by kernel_rfl))) (exec_loadi 3 Try.underlying3 (.tmp 73) ⟨g9, 10, none⟩ (.int .i64 x.left) rfl (hD 4 73 (by kernel_rfl)) (by rw [(HCx11.out.kept hk).cell]; rfl)) rfl) ?_
     refine fsteps_cons 7 rfl (fun a u hE hD hk => f_val (o := ⟨some 75, _, _, _, _, _⟩) (.pointer (some ⟨g10, 10, none⟩)) rfl (wanted_at (b := true) true rfl rfl (hD 3 72 (by kernel_rfl))) (exec_fldo 29 2 10 (.tmp 10) (g10) (0) (10) rfl (hE 10 (.pointer (some ⟨g10, 0, none⟩)) (by kernel_rfl) (by kernel_rfl)) (by kernel_rfl) rfl) rfl) ?_
     refine fsteps_cons 8 rfl (fun a u hE hD hk => f_val (o := ⟨some 76, _, _, _, _, _⟩) (.int .i64 y.left) rfl (wanted_at (b := true) true rfl rfl (hD 3 72 (by kernel_rfl))) (exec_loadi 3 Try.underlying3 (.tmp 75) ⟨g10, 10, none⟩ (.int .i64 y.left) rfl (hD 6 75 (by kernel_rfl)) (by rw [(HCy11.out.kept hk).cell]; rfl)) rfl) ?_
     refine fsteps_cons 9 rfl (fun a u hE hD hk => f_as (show ((decide ((x.left : Int) = (y.left : Int))) : Bool) = true from decide_eq_true el) (f_val (o := ⟨some 77, _, _, _, _, _⟩) (.bool (decide ((x.left : Int) = (y.left : Int)))) rfl (wanted_at (b := true) true rfl rfl (hD 3 72 (by kernel_rfl))) (exec_eqn (p := x.left) (q := y.left) rfl (hD 5 74 (by kernel_rfl)) (hD 7 76 (by kernel_rfl))) rfl)) ?_
     refine sv 10 rfl rfl rfl (fun a u hE hD hk => exec_pick (.tmp 72) (.tmp 77) (.const (.bool false)) (.bool true) rfl (hD 3 72 (by kernel_rfl)) (hD 8 77 (by kernel_rfl))) ?_
     refine sv 11 rfl rfl rfl (fun a u hE hD hk => exec_move (.tmp 78) _ rfl (hD 9 78 (by kernel_rfl))) ?_
     refine fsteps_cons 12 rfl (fun a u hE hD hk => f_val (o := ⟨some 80, _, _, _, _, _⟩) (.pointer (some ⟨g9, 13, none⟩)) rfl (wanted_at (b := true) true rfl rfl (hD 10 79 (by kernel_rfl))) (exec_fldo 29 5 13 (.tmp 9) (g9) (0) (13) rfl (hE 9 (.pointer (some ⟨g9, 0, none⟩)) (by kernel_rfl) (by kernel_rfl)) (by kernel_rfl) rfl) rfl) ?_
     refine fsteps_cons 13 rfl (fun a u hE hD hk => f_val (o := ⟨some 81, _, _, _, _, _⟩) (.bool x.self) rfl (wanted_at (b := true) true rfl rfl (hD 10 79 (by kernel_rfl))) (exec_ldb 4 Try.underlying4 (.tmp 80) ⟨g9, 13, none⟩ (.bool x.self) rfl (hD 11 80 (by kernel_rfl)) (by rw [(HCx11.out.kept hk).cell]; rfl)) rfl) ?_
     refine fsteps_cons 14 rfl (fun a u hE hD hk => f_val (o := ⟨some 82, _, _, _, _, _⟩) (.pointer (some ⟨g10, 13, none⟩)) rfl (wanted_at (b := true) true rfl rfl (hD 10 79 (by kernel_rfl))) (exec_fldo 29 5 13 (.tmp 10) (g10) (0) (13) rfl (hE 10 (.pointer (some ⟨g10, 0, none⟩)) (by kernel_rfl) (by kernel_rfl)) (by kernel_rfl) rfl) rfl) ?_
     refine fsteps_cons 15 rfl (fun a u hE hD hk => f_val (o := ⟨some 83, _, _, _, _, _⟩) (.bool y.self) rfl (wanted_at (b := true) true rfl rfl (hD 10 79 (by kernel_rfl))) (exec_ldb 4 Try.underlying4 (.tmp 82) ⟨g10, 13, none⟩ (.bool y.self) rfl (hD 13 82 (by kernel_rfl)) (by rw [(HCy11.out.kept hk).cell]; rfl)) rfl) ?_
     refine fsteps_cons 16 rfl (fun a u hE hD hk => f_val (o := ⟨some 84, _, _, _, _, _⟩) (.bool true) rfl (wanted_at (b := true) true rfl rfl (hD 10 79 (by kernel_rfl))) (exec_eqb (.tmp 81) (.tmp 83) _ x.self y.self true rfl (hD 12 81 (by kernel_rfl)) (hD 14 83 (by kernel_rfl)) (by rw [show x.self = y.self from es]; simp)) rfl) ?_
     refine sv 17 rfl rfl rfl (fun a u hE hD hk => exec_pick (.tmp 79) (.tmp 84) (.const (.bool false)) (.bool true) rfl (hD 10 79 (by kernel_rfl)) (hD 15 84 (by kernel_rfl))) ?_
     refine sv 18 rfl rfl rfl (fun a u hE hD hk => exec_move (.tmp 85) _ rfl (hD 16 85 (by kernel_rfl))) ?_
     refine fsteps_cons 19 rfl (fun a u hE hD hk => f_val (o := ⟨some 87, _, _, _, _, _⟩) (.pointer (some ⟨g9, 9, none⟩)) rfl (wanted_at (b := true) true rfl rfl (hD 17 86 (by kernel_rfl))) (exec_fldo 29 1 9 (.tmp 9) (g9) (0) (9) rfl (hE 9 (.pointer (some ⟨g9, 0, none⟩)) (by kernel_rfl) (by kernel_rfl)) (by kernel_rfl) rfl) rfl) ?_
     refine fsteps_cons 20 rfl (fun a u hE hD hk => f_val (o := ⟨some 88, _, _, _, _, _⟩) (vx) rfl (wanted_at (b := true) true rfl rfl (hD 17 86 (by kernel_rfl))) (exec_ldv 26 _ Try.underlying26 (.tmp 87) ⟨g9, 9, none⟩ (vx) rfl (hD 18 87 (by kernel_rfl)) (by rw [(HCx11.out.kept hk).cell]; rfl)) rfl) ?_
     refine fsteps_cons 21 rfl (fun a u hE hD hk => f_val (o := ⟨some 89, _, _, _, _, _⟩) (.int .i64 (x.f.length : Int)) rfl (wanted_at (b := true) true rfl rfl (hD 17 86 (by kernel_rfl))) (exec_lenS (.tmp 88) slF (vx) (x.f.length) _ _ rfl (hD 19 88 (by kernel_rfl)) HSx10.out) rfl) ?_
     refine fsteps_cons 22 rfl (fun a u hE hD hk => f_val (o := ⟨some 90, _, _, _, _, _⟩) (.pointer (some ⟨g10, 9, none⟩)) rfl (wanted_at (b := true) true rfl rfl (hD 17 86 (by kernel_rfl))) (exec_fldo 29 1 9 (.tmp 10) (g10) (0) (9) rfl (hE 10 (.pointer (some ⟨g10, 0, none⟩)) (by kernel_rfl) (by kernel_rfl)) (by kernel_rfl) rfl) rfl) ?_
     refine fsteps_cons 23 rfl (fun a u hE hD hk => f_val (o := ⟨some 91, _, _, _, _, _⟩) (vy) rfl (wanted_at (b := true) true rfl rfl (hD 17 86 (by kernel_rfl))) (exec_ldv 26 _ Try.underlying26 (.tmp 90) ⟨g10, 9, none⟩ (vy) rfl (hD 21 90 (by kernel_rfl)) (by rw [(HCy11.out.kept hk).cell]; rfl)) rfl) ?_
     refine fsteps_cons 24 rfl (fun a u hE hD hk => f_val (o := ⟨some 92, _, _, _, _, _⟩) (.int .i64 (y.f.length : Int)) rfl (wanted_at (b := true) true rfl rfl (hD 17 86 (by kernel_rfl))) (exec_lenS (.tmp 91) slF (vy) (y.f.length) _ _ rfl (hD 22 91 (by kernel_rfl)) HSy10.out) rfl) ?_
     refine fsteps_cons 25 rfl (fun a u hE hD hk => f_as (show ((decide (((x.f.length : Int) : Int) = ((y.f.length : Int) : Int))) : Bool) = true from decide_eq_true hln) (f_val (o := ⟨some 93, _, _, _, _, _⟩) (.bool (decide (((x.f.length : Int) : Int) = ((y.f.length : Int) : Int)))) rfl (wanted_at (b := true) true rfl rfl (hD 17 86 (by kernel_rfl))) (exec_eqn (p := (x.f.length : Int)) (q := (y.f.length : Int)) rfl (hD 20 89 (by kernel_rfl)) (hD 23 92 (by kernel_rfl))) rfl)) ?_
     refine sv 26 rfl rfl rfl (fun a u hE hD hk => exec_pick (.tmp 86) (.tmp 93) (.const (.bool false)) (.bool true) rfl (hD 17 86 (by kernel_rfl)) (hD 24 93 (by kernel_rfl))) ?_
     refine sv 27 rfl rfl rfl (fun a u hE hD hk => exec_move (.tmp 94) _ rfl (hD 25 94 (by kernel_rfl))) ?_
     refine fsteps_cons 28 rfl (fun a u hE hD hk => f_val (o := ⟨some 96, _, _, _, _, _⟩) (.pointer (some ⟨p, 0, none⟩)) rfl (wanted_at (b := true) true rfl rfl (hD 26 95 (by kernel_rfl))) (exec_move (.tmp 5) _ rfl (hE 5 (.pointer (some ⟨p, 0, none⟩)) (by kernel_rfl) (by kernel_rfl))) rfl) ?_
     refine fsteps_cons 29 rfl (fun a u hE hD hk => f_call (o := ⟨some 97, _, _, _, _, _⟩) 32 #[.pointer (some ⟨p, 0, none⟩), .int .i64 1] rfl (wanted_at (b := true) true rfl rfl (hD 26 95 (by kernel_rfl))) (exec_call 32 _ [.tmp 96, .const (.int .i64 1)] _ [.pointer (some ⟨p, 0, none⟩), .int .i64 1] Try.func32 (by kernel_rfl) (by kernel_rfl) rfl (show [a.eval (.tmp 96), a.eval (.const (.int .i64 1))] = [.pointer (some ⟨p, 0, none⟩), .int .i64 1] from (by rw [show a.eval (.tmp 96) = .pointer (some ⟨p, 0, none⟩) from (hD 27 96 (by kernel_rfl))] <;> rfl)) u) ((by have h := (borders_any u F2 p B2 1 (HA11.out.kept hk) HI2.out).base (Nat.zero_le _); rw [HXe.out] at h; exact h))) ?_
     refine fsteps_cons 30 rfl (fun a u hE hD hk => f_val (o := ⟨some 98, _, _, _, _, _⟩) (.pointer (some ⟨r, 0, none⟩)) rfl (wanted_at (b := true) true rfl rfl (hD 26 95 (by kernel_rfl))) (exec_move (.tmp 6) _ rfl (hE 6 (.pointer (some ⟨r, 0, none⟩)) (by kernel_rfl) (by kernel_rfl))) rfl) ?_
     refine fsteps_cons 31 rfl (fun a u hE hD hk => f_call (o := ⟨some 99, _, _, _, _, _⟩) 32 #[.pointer (some ⟨r, 0, none⟩), .int .i64 1] rfl (wanted_at (b := true) true rfl rfl (hD 26 95 (by kernel_rfl))) (exec_call 32 _ [.tmp 98, .const (.int .i64 1)] _ [.pointer (some ⟨r, 0, none⟩), .int .i64 1] Try.func32 (by kernel_rfl) (by kernel_rfl) rfl (show [a.eval (.tmp 98), a.eval (.const (.int .i64 1))] = [.pointer (some ⟨r, 0, none⟩), .int .i64 1] from (by rw [show a.eval (.tmp 98) = .pointer (some ⟨r, 0, none⟩) from (hD 29 98 (by kernel_rfl))] <;> rfl)) u) ((by have h := (borders_any u G' r B2 1 (HB11.out.kept hk) HI2.out).base (Nat.zero_le _); rw [HXe.out] at h; exact h))) ?_
     refine fsteps_cons 32 rfl (fun a u hE hD hk => f_call (o := ⟨some 100, _, _, _, _, _⟩) 37 #[a.eval (.tmp 97), a.eval (.tmp 99)] rfl (wanted_at (b := true) true rfl rfl (hD 26 95 (by kernel_rfl))) (exec_call 37 _ [.tmp 97, .tmp 99] _ [a.eval (.tmp 97), a.eval (.tmp 99)] Try.func37 (by kernel_rfl) (by kernel_rfl) rfl rfl u) ((by have h := sameO_any (a.eval (.tmp 97)) (a.eval (.tmp 99)) 0 0 X X u (hD 28 97 (by kernel_rfl)).1 (hD 30 99 (by kernel_rfl)).1 (by have := HXl.out; omega) (by have := HXl.out; omega); rwa [decide_eq_true rfl] at h))) ?_
     refine sv 33 rfl rfl rfl (fun a u hE hD hk => exec_pick (.tmp 95) (.tmp 100) (.const (.bool false)) (.bool true) rfl (hD 26 95 (by kernel_rfl)) (hD 31 100 (by kernel_rfl))) ?_
     refine sv 34 rfl rfl rfl (fun a u hE hD hk => exec_move (.tmp 101) _ rfl (hD 32 101 (by kernel_rfl))) ?_
     refine fsteps_cons 35 rfl (fun a u hE hD hk => f_val (o := ⟨some 103, _, _, _, _, _⟩) (.pointer (some ⟨p, 0, none⟩)) rfl (wanted_at (b := true) true rfl rfl (hD 33 102 (by kernel_rfl))) (exec_move (.tmp 5) _ rfl (hE 5 (.pointer (some ⟨p, 0, none⟩)) (by kernel_rfl) (by kernel_rfl))) rfl) ?_
     refine fsteps_cons 36 rfl (fun a u hE hD hk => f_call (o := ⟨some 104, _, _, _, _, _⟩) 32 #[.pointer (some ⟨p, 0, none⟩), .int .i64 2] rfl (wanted_at (b := true) true rfl rfl (hD 33 102 (by kernel_rfl))) (exec_call 32 _ [.tmp 103, .const (.int .i64 2)] _ [.pointer (some ⟨p, 0, none⟩), .int .i64 2] Try.func32 (by kernel_rfl) (by kernel_rfl) rfl (show [a.eval (.tmp 103), a.eval (.const (.int .i64 2))] = [.pointer (some ⟨p, 0, none⟩), .int .i64 2] from (by rw [show a.eval (.tmp 103) = .pointer (some ⟨p, 0, none⟩) from (hD 34 103 (by kernel_rfl))] <;> rfl)) u) ((by have h := (borders_any u F2 p B2 2 (HA11.out.kept hk) HI2.out).base (Nat.zero_le _); rw [HYe.out] at h; exact h))) ?_
     refine fsteps_cons 37 rfl (fun a u hE hD hk => f_val (o := ⟨some 105, _, _, _, _, _⟩) (.pointer (some ⟨r, 0, none⟩)) rfl (wanted_at (b := true) true rfl rfl (hD 33 102 (by kernel_rfl))) (exec_move (.tmp 6) _ rfl (hE 6 (.pointer (some ⟨r, 0, none⟩)) (by kernel_rfl) (by kernel_rfl))) rfl) ?_
     refine fsteps_cons 38 rfl (fun a u hE hD hk => f_call (o := ⟨some 106, _, _, _, _, _⟩) 32 #[.pointer (some ⟨r, 0, none⟩), .int .i64 2] rfl (wanted_at (b := true) true rfl rfl (hD 33 102 (by kernel_rfl))) (exec_call 32 _ [.tmp 105, .const (.int .i64 2)] _ [.pointer (some ⟨r, 0, none⟩), .int .i64 2] Try.func32 (by kernel_rfl) (by kernel_rfl) rfl (show [a.eval (.tmp 105), a.eval (.const (.int .i64 2))] = [.pointer (some ⟨r, 0, none⟩), .int .i64 2] from (by rw [show a.eval (.tmp 105) = .pointer (some ⟨r, 0, none⟩) from (hD 36 105 (by kernel_rfl))] <;> rfl)) u) ((by have h := (borders_any u G' r B2 2 (HB11.out.kept hk) HI2.out).base (Nat.zero_le _); rw [HYe.out] at h; exact h))) ?_
     refine fsteps_cons 39 rfl (fun a u hE hD hk => f_call (o := ⟨some 107, _, _, _, _, _⟩) 37 #[a.eval (.tmp 104), a.eval (.tmp 106)] rfl (wanted_at (b := true) true rfl rfl (hD 33 102 (by kernel_rfl))) (exec_call 37 _ [.tmp 104, .tmp 106] _ [a.eval (.tmp 104), a.eval (.tmp 106)] Try.func37 (by kernel_rfl) (by kernel_rfl) rfl rfl u) ((by have h := sameO_any (a.eval (.tmp 104)) (a.eval (.tmp 106)) 0 0 Y Y u (hD 35 104 (by kernel_rfl)).1 (hD 37 106 (by kernel_rfl)).1 (by have := HXl.out; omega) (by have := HXl.out; omega); rwa [decide_eq_true rfl] at h))) ?_
     refine sv 40 rfl rfl rfl (fun a u hE hD hk => exec_pick (.tmp 102) (.tmp 107) (.const (.bool false)) (.bool true) rfl (hD 33 102 (by kernel_rfl)) (hD 38 107 (by kernel_rfl))) ?_
     refine sv 41 rfl rfl rfl (fun a u hE hD hk => exec_move (.tmp 108) _ rfl (hD 39 108 (by kernel_rfl))) ?_
     refine fsteps_cons 42 rfl (fun a u hE hD hk => f_val (o := ⟨some 110, _, _, _, _, _⟩) (.pointer (some ⟨p, 0, none⟩)) rfl (wanted_at (b := true) true rfl rfl (hD 40 109 (by kernel_rfl))) (exec_move (.tmp 5) _ rfl (hE 5 (.pointer (some ⟨p, 0, none⟩)) (by kernel_rfl) (by kernel_rfl))) rfl) ?_
     refine fsteps_cons 43 rfl (fun a u hE hD hk => f_call (o := ⟨some 111, _, _, _, _, _⟩) 18 #[.pointer (some ⟨p, 0, none⟩)] rfl (wanted_at (b := true) true rfl rfl (hD 40 109 (by kernel_rfl))) (exec_call 18 _ [.tmp 110] _ [.pointer (some ⟨p, 0, none⟩)] Try.func18 (by kernel_rfl) (by kernel_rfl) rfl (show [a.eval (.tmp 110)] = [.pointer (some ⟨p, 0, none⟩)] from (by rw [show a.eval (.tmp 110) = .pointer (some ⟨p, 0, none⟩) from (hD 41 110 (by kernel_rfl))] <;> rfl)) u) (blast_any u F2 p B2 (HA11.out.kept hk))) ?_
     refine fsteps_cons 44 rfl (fun a u hE hD hk => f_val (o := ⟨some 112, _, _, _, _, _⟩) (.pointer (some ⟨r, 0, none⟩)) rfl (wanted_at (b := true) true rfl rfl (hD 40 109 (by kernel_rfl))) (exec_move (.tmp 6) _ rfl (hE 6 (.pointer (some ⟨r, 0, none⟩)) (by kernel_rfl) (by kernel_rfl))) rfl) ?_
     refine fsteps_cons 45 rfl (fun a u hE hD hk => f_call (o := ⟨some 113, _, _, _, _, _⟩) 18 #[.pointer (some ⟨r, 0, none⟩)] rfl (wanted_at (b := true) true rfl rfl (hD 40 109 (by kernel_rfl))) (exec_call 18 _ [.tmp 112] _ [.pointer (some ⟨r, 0, none⟩)] Try.func18 (by kernel_rfl) (by kernel_rfl) rfl (show [a.eval (.tmp 112)] = [.pointer (some ⟨r, 0, none⟩)] from (by rw [show a.eval (.tmp 112) = .pointer (some ⟨r, 0, none⟩) from (hD 43 112 (by kernel_rfl))] <;> rfl)) u) (blast_any u G' r B2 (HB11.out.kept hk))) ?_
     refine fsteps_cons 46 rfl (fun a u hE hD hk => f_as (show ((decide ((B2.last : Int) = (B2.last : Int))) : Bool) = true from decide_eq_true rfl) (f_val (o := ⟨some 114, _, _, _, _, _⟩) (.bool (decide ((B2.last : Int) = (B2.last : Int)))) rfl (wanted_at (b := true) true rfl rfl (hD 40 109 (by kernel_rfl))) (exec_eqn (p := B2.last) (q := B2.last) rfl (hD 42 111 (by kernel_rfl)) (hD 44 113 (by kernel_rfl))) rfl)) ?_
     refine sv 47 rfl rfl rfl (fun a u hE hD hk => exec_pick (.tmp 109) (.tmp 114) (.const (.bool false)) (.bool true) rfl (hD 40 109 (by kernel_rfl)) (hD 45 114 (by kernel_rfl))) ?_
     refine sv 48 rfl rfl rfl (fun a u hE hD hk => exec_move (.tmp 115) _ rfl (hD 46 115 (by kernel_rfl))) ?_
     refine fsteps_cons 49 rfl (fun a u hE hD hk => f_val (o := ⟨some 117, _, _, _, _, _⟩) (.pointer (some ⟨p, 0, none⟩)) rfl (wanted_at (b := true) true rfl rfl (hD 47 116 (by kernel_rfl))) (exec_move (.tmp 5) _ rfl (hE 5 (.pointer (some ⟨p, 0, none⟩)) (by kernel_rfl) (by kernel_rfl))) rfl) ?_
     refine fsteps_cons 50 rfl (fun a u hE hD hk => f_call (o := ⟨some 118, _, _, _, _, _⟩) 19 #[.pointer (some ⟨p, 0, none⟩)] rfl (wanted_at (b := true) true rfl rfl (hD 47 116 (by kernel_rfl))) (exec_call 19 _ [.tmp 117] _ [.pointer (some ⟨p, 0, none⟩)] Try.func19 (by kernel_rfl) (by kernel_rfl) rfl (show [a.eval (.tmp 117)] = [.pointer (some ⟨p, 0, none⟩)] from (by rw [show a.eval (.tmp 117) = .pointer (some ⟨p, 0, none⟩) from (hD 48 117 (by kernel_rfl))] <;> rfl)) u) (bno_any u F2 p B2 (HA11.out.kept hk))) ?_
     refine fsteps_cons 51 rfl (fun a u hE hD hk => f_val (o := ⟨some 119, _, _, _, _, _⟩) (.pointer (some ⟨r, 0, none⟩)) rfl (wanted_at (b := true) true rfl rfl (hD 47 116 (by kernel_rfl))) (exec_move (.tmp 6) _ rfl (hE 6 (.pointer (some ⟨r, 0, none⟩)) (by kernel_rfl) (by kernel_rfl))) rfl) ?_
     refine fsteps_cons 52 rfl (fun a u hE hD hk => f_call (o := ⟨some 120, _, _, _, _, _⟩) 19 #[.pointer (some ⟨r, 0, none⟩)] rfl (wanted_at (b := true) true rfl rfl (hD 47 116 (by kernel_rfl))) (exec_call 19 _ [.tmp 119] _ [.pointer (some ⟨r, 0, none⟩)] Try.func19 (by kernel_rfl) (by kernel_rfl) rfl (show [a.eval (.tmp 119)] = [.pointer (some ⟨r, 0, none⟩)] from (by rw [show a.eval (.tmp 119) = .pointer (some ⟨r, 0, none⟩) from (hD 50 119 (by kernel_rfl))] <;> rfl)) u) (bno_any u G' r B2 (HB11.out.kept hk))) ?_
     refine fsteps_cons 53 rfl (fun a u hE hD hk => f_as (show ((decide ((B2.no : Int) = (B2.no : Int))) : Bool) = true from decide_eq_true rfl) (f_val (o := ⟨some 121, _, _, _, _, _⟩) (.bool (decide ((B2.no : Int) = (B2.no : Int)))) rfl (wanted_at (b := true) true rfl rfl (hD 47 116 (by kernel_rfl))) (exec_eqn (p := B2.no) (q := B2.no) rfl (hD 49 118 (by kernel_rfl)) (hD 51 120 (by kernel_rfl))) rfl)) ?_
     refine sv 54 rfl rfl rfl (fun a u hE hD hk => exec_pick (.tmp 116) (.tmp 121) (.const (.bool false)) (.bool true) rfl (hD 47 116 (by kernel_rfl)) (hD 52 121 (by kernel_rfl))) ?_
     refine sv 55 rfl rfl rfl (fun a u hE hD hk => exec_move (.tmp 122) _ rfl (hD 53 122 (by kernel_rfl))) ?_
     refine fsteps_cons 56 rfl (fun a u hE hD hk => f_call (o := ⟨some 124, _, _, _, _, _⟩) 3 #[] rfl (wanted_at (b := true) true rfl rfl (hD 54 123 (by kernel_rfl))) (exec_call 3 _ [] _ [] Try.func3 (by kernel_rfl) (by kernel_rfl) rfl rfl u) (bruns_gives u)) ?_
     refine sv 57 rfl rfl rfl (fun a u hE hD hk => exec_pick (.tmp 123) (.tmp 124) (.const (.bool false)) (.bool true) rfl (hD 54 123 (by kernel_rfl)) (hD 55 124 (by kernel_rfl))) ?_
     exact fsteps_nil
    intro gv wz hV kz
    rw [show dstsOf _ 57 = [69, 70, 71, 72, 73, 74, 75, 76, 77, 78, 79, 80, 81, 82, 83, 84, 85, 86, 87, 88, 89, 90, 91, 92, 93, 94, 95, 96, 97, 98, 99, 100, 101, 102, 103, 104, 105, 106, 107, 108, 109, 110, 111, 112, 113, 114, 115, 116, 117, 118, 119, 120, 121, 122, 123, 124, 125] by kernel_rfl]
    simp only [fC, fN, sA, sS, sZ, dS, dZ]
    rw [show gv 125 = .bool true from hV 56 125 (by kernel_rfl)]
    clear hV
    refine l_val (o := ⟨some 4, _, _, _, _, _⟩) (.bool true) rfl (exec_assign (.tmp 125) (.bool true) rfl (by kernel_rfl)) ?_
    simp only [Act.put, sA, sS, sZ]
    refine wpList_nil ?_
    go_wp2
    go_ret
    exact ⟨rfl, kw11.trans kz⟩
   ·skip
    have hrs : x.rests = false := by simpa using hrs
    have HA9 := Lib.hid (HAw8.out.kept k9)
    have HB9 := Lib.hid (HBw8.out.kept k9)
    have HSx9 := Lib.hid (HSxw8.out.kept k9)
    have HSy9 := Lib.hid (HSyw8.out.kept k9)
    have HO9 := Lib.hid (range_kept HO8.out k9)
    clear HAw8 HBw8 HSxw8 HSyw8 HO8 HCxw8 HCyw8 k9 kw8
    go_upto_region 13 with fail
    refine wp_text 2 [.eq (.pointer (some ⟨g9, 11, none⟩)), .eq (.bool false)] rfl (by kernel_rfl) ?_ ?_
    ·refine sv 1 rfl rfl rfl (fun a u hE hD hk => exec_fldo 29 3 11 (.tmp 9) (g9) (0) (11) rfl (hE 9 (.pointer (some ⟨g9, 0, none⟩)) (by kernel_rfl) (by kernel_rfl)) (by kernel_rfl) rfl) ?_
     refine fsteps_cons 2 rfl (fun a u hE hD hk => f_as (show (x.rests : Bool) = false from hrs) (f_val (o := ⟨some 62, _, _, _, _, _⟩) (.bool x.rests) rfl (wanted_none rfl _) (exec_ldb 4 Try.underlying4 (.tmp 61) ⟨g9, 11, none⟩ (.bool x.rests) rfl (hD 0 61 (by kernel_rfl)) (by rw [(HCx9.out.kept hk).cell]; rfl)) rfl)) ?_
     exact fsteps_nil
    intro gv w10 hV k10
    rw [show dstsOf _ 2 = [61, 62] by kernel_rfl]
    simp only [fC, fN, sA, sS, sZ, dS, dZ]
    rw [show gv 62 = .bool false from hV 1 62 (by kernel_rfl)]
    clear hV
    refine wpList_nil ?_
    have HA10 := Lib.hid (HA9.out.kept k10)
    have HB10 := Lib.hid (HB9.out.kept k10)
    have HCx10 := Lib.hid (HCx9.out.kept k10)
    have HCy10 := Lib.hid (HCy9.out.kept k10)
    have HSx10 := Lib.hid (HSx9.out.kept k10)
    have HSy10 := Lib.hid (HSy9.out.kept k10)
    have HO10 := Lib.hid (range_kept HO9.out k10)
    have kw10 := kw9.trans k10
    clear HA9 HB9 HCx9 HCy9 HSx9 HSy9 HO9 kw9 k10
    have hab : A2 = B2 := (HIO.out.yes he).2.2.2.2.1 hrs
    obtain ⟨F2, w11, HA11, HB11, HCx11, HCy11, kw11, hw11⟩ : ∃ (F2 : Nat → Prop) (w11 : World), Hid (Bk w11 F2 p B2) ∧ Hid (Bk w11 G' r B2) ∧ Hid (Blk w11 g9 29 (x.cells vx)) ∧ Hid (Blk w11 g10 29 (y.cells vy)) ∧ Kept w w11 ∧ w11 = w10 := ⟨F', w10, by rw [← hab]; exact HA10, HB10, HCx10, HCy10, kw10, rfl⟩
    rw [← hw11]
    clear hw11 HA10 HB10 HCx10 HCy10 HO10 kw10
    obtain ⟨ey, el, es, eln, _, _⟩ := HIO.out.yes he
    obtain ⟨X, hX⟩ : ∃ X, ordsL (B2.sd 1) = X := ⟨_, rfl⟩
    obtain ⟨Y, hY⟩ : ∃ Y, ordsL (B2.sd 2) = Y := ⟨_, rfl⟩
    have HXe := Lib.hid hX
    have HYe := Lib.hid hY
    have HXl : Hid (X.length ≤ 64 ∧ Y.length ≤ 64) := by
     have h1 := HI2.out.two.few
     have h2 : X.length = (entL B2.buys).length := by rw [← hX, ordsL_len]; rfl
     have h3 : Y.length = (entL B2.sells).length := by rw [← hY, ordsL_len]; rfl
     show _ ∧ _
     omega
    have hln : (x.f.length : Int) = (y.f.length : Int) := by have : x.f.length = y.f.length := eln; omega
    clear hX hY eln
    go_upto_region 15 with fail
    refine wp_text 57 [.eq (.pointer (some ⟨g10, 14, none⟩)), .eq (.int .i64 y.err), .eq (.bool true), .eq (.bool true), .eq (.pointer (some ⟨g9, 10, none⟩)), .eq (.int .i64 x.left), .eq (.pointer (some ⟨g10, 10, none⟩)), .eq (.int .i64 y.left), .eq (.bool true), .eq (.bool true), .eq (.bool true), .eq (.pointer (some ⟨g9, 13, none⟩)), .eq (.bool x.self), .eq (.pointer (some ⟨g10, 13, none⟩)), .eq (.bool y.self), .eq (.bool true), .eq (.bool true), .eq (.bool true), .eq (.pointer (some ⟨g9, 9, none⟩)), .eq (vx), .eq (.int .i64 (x.f.length : Int)), .eq (.pointer (some ⟨g10, 9, none⟩)), .eq (vy), .eq (.int .i64 (y.f.length : Int)), .eq (.bool true), .eq (.bool true), .eq (.bool true), .eq (.pointer (some ⟨p, 0, none⟩)), .sl 0 25 9 X.length (ords X), .eq (.pointer (some ⟨r, 0, none⟩)), .sl 0 25 9 X.length (ords X), .eq (.bool true), .eq (.bool true), .eq (.bool true), .eq (.pointer (some ⟨p, 0, none⟩)), .sl 0 25 9 Y.length (ords Y), .eq (.pointer (some ⟨r, 0, none⟩)), .sl 0 25 9 Y.length (ords Y), .eq (.bool true), .eq (.bool true), .eq (.bool true), .eq (.pointer (some ⟨p, 0, none⟩)), .eq (.int .i64 B2.last), .eq (.pointer (some ⟨r, 0, none⟩)), .eq (.int .i64 B2.last), .eq (.bool true), .eq (.bool true), .eq (.bool true), .eq (.pointer (some ⟨p, 0, none⟩)), .eq (.int .i64 B2.no), .eq (.pointer (some ⟨r, 0, none⟩)), .eq (.int .i64 B2.no), .eq (.bool true), .eq (.bool true), .eq (.bool true), .eq (.bool true), .eq (.bool true)] rfl (by kernel_rfl) ?_ ?_
    ·refine sv 1 rfl rfl rfl (fun a u hE hD hk => exec_fldo 29 6 14 (.tmp 10) (g10) (0) (14) rfl (hE 10 (.pointer (some ⟨g10, 0, none⟩)) (by kernel_rfl) (by kernel_rfl)) (by kernel_rfl) rfl) ?_
     refine sv 2 rfl rfl rfl (fun a u hE hD hk => exec_loadi 27 Try.underlying27 (.tmp 69) ⟨g10, 14, none⟩ (.int .i64 y.err) rfl (hD 0 69 (by kernel_rfl)) (by rw [(HCy11.out.kept hk).cell]; rfl)) ?_
     refine fsteps_cons 3 rfl (fun a u hE hD hk => f_as (show ((decide ((y.err : Int) = (0 : Int))) : Bool) = true from decide_eq_true ey) (f_val (o := ⟨some 71, _, _, _, _, _⟩) (.bool (decide ((y.err : Int) = (0 : Int)))) rfl (wanted_none rfl _) (exec_eqn (p := y.err) (q := 0) rfl (hD 1 70 (by kernel_rfl)) rfl) rfl)) ?_
     refine sv 4 rfl rfl rfl (fun a u hE hD hk => exec_move (.tmp 71) _ rfl (hD 2 71 (by kernel_rfl))) ?_
     refine fsteps_cons 5 rfl (fun a u hE hD hk => f_val (o := ⟨some 73, _, _, _, _, _⟩) (.pointer (some ⟨g9, 10, none⟩)) rfl (wanted_at (b := true) true rfl rfl (hD 3 72 (by kernel_rfl))) (exec_fldo 29 2 10 (.tmp 9) (g9) (0) (10) rfl (hE 9 (.pointer (some ⟨g9, 0, none⟩)) (by kernel_rfl) (by kernel_rfl)) (by kernel_rfl) rfl) rfl) ?_
     refine fsteps_cons 6 rfl (fun a u hE hD hk => f_val (o := ⟨some 74, _, _, _, _, _⟩) (.int .i64 x.left) rfl (wanted_at (b := true) true rfl rfl (hD 3 72 (by kernel_rfl))) (exec_loadi 3 Try.underlying3 (.tmp 73) ⟨g9, 10, none⟩ (.int .i64 x.left) rfl (hD 4 73 (by kernel_rfl)) (by rw [(HCx11.out.kept hk).cell]; rfl)) rfl) ?_
     refine fsteps_cons 7 rfl (fun a u hE hD hk => f_val (o := ⟨some 75, _, _, _, _, _⟩) (.pointer (some ⟨g10, 10, none⟩)) rfl (wanted_at (b := true) true rfl rfl (hD 3 72 (by kernel_rfl))) (exec_fldo 29 2 10 (.tmp 10) (g10) (0) (10) rfl (hE 10 (.pointer (some ⟨g10, 0, none⟩)) (by kernel_rfl) (by kernel_rfl)) (by kernel_rfl) rfl) rfl) ?_
     refine fsteps_cons 8 rfl (fun a u hE hD hk => f_val (o := ⟨some 76, _, _, _, _, _⟩) (.int .i64 y.left) rfl (wanted_at (b := true) true rfl rfl (hD 3 72 (by kernel_rfl))) (exec_loadi 3 Try.underlying3 (.tmp 75) ⟨g10, 10, none⟩ (.int .i64 y.left) rfl (hD 6 75 (by kernel_rfl)) (by rw [(HCy11.out.kept hk).cell]; rfl)) rfl) ?_
     refine fsteps_cons 9 rfl (fun a u hE hD hk => f_as (show ((decide ((x.left : Int) = (y.left : Int))) : Bool) = true from decide_eq_true el) (f_val (o := ⟨some 77, _, _, _, _, _⟩) (.bool (decide ((x.left : Int) = (y.left : Int)))) rfl (wanted_at (b := true) true rfl rfl (hD 3 72 (by kernel_rfl))) (exec_eqn (p := x.left) (q := y.left) rfl (hD 5 74 (by kernel_rfl)) (hD 7 76 (by kernel_rfl))) rfl)) ?_
     refine sv 10 rfl rfl rfl (fun a u hE hD hk => exec_pick (.tmp 72) (.tmp 77) (.const (.bool false)) (.bool true) rfl (hD 3 72 (by kernel_rfl)) (hD 8 77 (by kernel_rfl))) ?_
     refine sv 11 rfl rfl rfl (fun a u hE hD hk => exec_move (.tmp 78) _ rfl (hD 9 78 (by kernel_rfl))) ?_
     refine fsteps_cons 12 rfl (fun a u hE hD hk => f_val (o := ⟨some 80, _, _, _, _, _⟩) (.pointer (some ⟨g9, 13, none⟩)) rfl (wanted_at (b := true) true rfl rfl (hD 10 79 (by kernel_rfl))) (exec_fldo 29 5 13 (.tmp 9) (g9) (0) (13) rfl (hE 9 (.pointer (some ⟨g9, 0, none⟩)) (by kernel_rfl) (by kernel_rfl)) (by kernel_rfl) rfl) rfl) ?_
     refine fsteps_cons 13 rfl (fun a u hE hD hk => f_val (o := ⟨some 81, _, _, _, _, _⟩) (.bool x.self) rfl (wanted_at (b := true) true rfl rfl (hD 10 79 (by kernel_rfl))) (exec_ldb 4 Try.underlying4 (.tmp 80) ⟨g9, 13, none⟩ (.bool x.self) rfl (hD 11 80 (by kernel_rfl)) (by rw [(HCx11.out.kept hk).cell]; rfl)) rfl) ?_
     refine fsteps_cons 14 rfl (fun a u hE hD hk => f_val (o := ⟨some 82, _, _, _, _, _⟩) (.pointer (some ⟨g10, 13, none⟩)) rfl (wanted_at (b := true) true rfl rfl (hD 10 79 (by kernel_rfl))) (exec_fldo 29 5 13 (.tmp 10) (g10) (0) (13) rfl (hE 10 (.pointer (some ⟨g10, 0, none⟩)) (by kernel_rfl) (by kernel_rfl)) (by kernel_rfl) rfl) rfl) ?_
     refine fsteps_cons 15 rfl (fun a u hE hD hk => f_val (o := ⟨some 83, _, _, _, _, _⟩) (.bool y.self) rfl (wanted_at (b := true) true rfl rfl (hD 10 79 (by kernel_rfl))) (exec_ldb 4 Try.underlying4 (.tmp 82) ⟨g10, 13, none⟩ (.bool y.self) rfl (hD 13 82 (by kernel_rfl)) (by rw [(HCy11.out.kept hk).cell]; rfl)) rfl) ?_
     refine fsteps_cons 16 rfl (fun a u hE hD hk => f_val (o := ⟨some 84, _, _, _, _, _⟩) (.bool true) rfl (wanted_at (b := true) true rfl rfl (hD 10 79 (by kernel_rfl))) (exec_eqb (.tmp 81) (.tmp 83) _ x.self y.self true rfl (hD 12 81 (by kernel_rfl)) (hD 14 83 (by kernel_rfl)) (by rw [show x.self = y.self from es]; simp)) rfl) ?_
     refine sv 17 rfl rfl rfl (fun a u hE hD hk => exec_pick (.tmp 79) (.tmp 84) (.const (.bool false)) (.bool true) rfl (hD 10 79 (by kernel_rfl)) (hD 15 84 (by kernel_rfl))) ?_
     refine sv 18 rfl rfl rfl (fun a u hE hD hk => exec_move (.tmp 85) _ rfl (hD 16 85 (by kernel_rfl))) ?_
     refine fsteps_cons 19 rfl (fun a u hE hD hk => f_val (o := ⟨some 87, _, _, _, _, _⟩) (.pointer (some ⟨g9, 9, none⟩)) rfl (wanted_at (b := true) true rfl rfl (hD 17 86 (by kernel_rfl))) (exec_fldo 29 1 9 (.tmp 9) (g9) (0) (9) rfl (hE 9 (.pointer (some ⟨g9, 0, none⟩)) (by kernel_rfl) (by kernel_rfl)) (by kernel_rfl) rfl) rfl) ?_
     refine fsteps_cons 20 rfl (fun a u hE hD hk => f_val (o := ⟨some 88, _, _, _, _, _⟩) (vx) rfl (wanted_at (b := true) true rfl rfl (hD 17 86 (by kernel_rfl))) (exec_ldv 26 _ Try.underlying26 (.tmp 87) ⟨g9, 9, none⟩ (vx) rfl (hD 18 87 (by kernel_rfl)) (by rw [(HCx11.out.kept hk).cell]; rfl)) rfl) ?_
     refine fsteps_cons 21 rfl (fun a u hE hD hk => f_val (o := ⟨some 89, _, _, _, _, _⟩) (.int .i64 (x.f.length : Int)) rfl (wanted_at (b := true) true rfl rfl (hD 17 86 (by kernel_rfl))) (exec_lenS (.tmp 88) slF (vx) (x.f.length) _ _ rfl (hD 19 88 (by kernel_rfl)) HSx10.out) rfl) ?_
     refine fsteps_cons 22 rfl (fun a u hE hD hk => f_val (o := ⟨some 90, _, _, _, _, _⟩) (.pointer (some ⟨g10, 9, none⟩)) rfl (wanted_at (b := true) true rfl rfl (hD 17 86 (by kernel_rfl))) (exec_fldo 29 1 9 (.tmp 10) (g10) (0) (9) rfl (hE 10 (.pointer (some ⟨g10, 0, none⟩)) (by kernel_rfl) (by kernel_rfl)) (by kernel_rfl) rfl) rfl) ?_
     refine fsteps_cons 23 rfl (fun a u hE hD hk => f_val (o := ⟨some 91, _, _, _, _, _⟩) (vy) rfl (wanted_at (b := true) true rfl rfl (hD 17 86 (by kernel_rfl))) (exec_ldv 26 _ Try.underlying26 (.tmp 90) ⟨g10, 9, none⟩ (vy) rfl (hD 21 90 (by kernel_rfl)) (by rw [(HCy11.out.kept hk).cell]; rfl)) rfl) ?_
     refine fsteps_cons 24 rfl (fun a u hE hD hk => f_val (o := ⟨some 92, _, _, _, _, _⟩) (.int .i64 (y.f.length : Int)) rfl (wanted_at (b := true) true rfl rfl (hD 17 86 (by kernel_rfl))) (exec_lenS (.tmp 91) slF (vy) (y.f.length) _ _ rfl (hD 22 91 (by kernel_rfl)) HSy10.out) rfl) ?_
     refine fsteps_cons 25 rfl (fun a u hE hD hk => f_as (show ((decide (((x.f.length : Int) : Int) = ((y.f.length : Int) : Int))) : Bool) = true from decide_eq_true hln) (f_val (o := ⟨some 93, _, _, _, _, _⟩) (.bool (decide (((x.f.length : Int) : Int) = ((y.f.length : Int) : Int)))) rfl (wanted_at (b := true) true rfl rfl (hD 17 86 (by kernel_rfl))) (exec_eqn (p := (x.f.length : Int)) (q := (y.f.length : Int)) rfl (hD 20 89 (by kernel_rfl)) (hD 23 92 (by kernel_rfl))) rfl)) ?_
     refine sv 26 rfl rfl rfl (fun a u hE hD hk => exec_pick (.tmp 86) (.tmp 93) (.const (.bool false)) (.bool true) rfl (hD 17 86 (by kernel_rfl)) (hD 24 93 (by kernel_rfl))) ?_
     refine sv 27 rfl rfl rfl (fun a u hE hD hk => exec_move (.tmp 94) _ rfl (hD 25 94 (by kernel_rfl))) ?_
     refine fsteps_cons 28 rfl (fun a u hE hD hk => f_val (o := ⟨some 96, _, _, _, _, _⟩) (.pointer (some ⟨p, 0, none⟩)) rfl (wanted_at (b := true) true rfl rfl (hD 26 95 (by kernel_rfl))) (exec_move (.tmp 5) _ rfl (hE 5 (.pointer (some ⟨p, 0, none⟩)) (by kernel_rfl) (by kernel_rfl))) rfl) ?_
     refine fsteps_cons 29 rfl (fun a u hE hD hk => f_call (o := ⟨some 97, _, _, _, _, _⟩) 32 #[.pointer (some ⟨p, 0, none⟩), .int .i64 1] rfl (wanted_at (b := true) true rfl rfl (hD 26 95 (by kernel_rfl))) (exec_call 32 _ [.tmp 96, .const (.int .i64 1)] _ [.pointer (some ⟨p, 0, none⟩), .int .i64 1] Try.func32 (by kernel_rfl) (by kernel_rfl) rfl (show [a.eval (.tmp 96), a.eval (.const (.int .i64 1))] = [.pointer (some ⟨p, 0, none⟩), .int .i64 1] from (by rw [show a.eval (.tmp 96) = .pointer (some ⟨p, 0, none⟩) from (hD 27 96 (by kernel_rfl))] <;> rfl)) u) ((by have h := (borders_any u F2 p B2 1 (HA11.out.kept hk) HI2.out).base (Nat.zero_le _); rw [HXe.out] at h; exact h))) ?_
     refine fsteps_cons 30 rfl (fun a u hE hD hk => f_val (o := ⟨some 98, _, _, _, _, _⟩) (.pointer (some ⟨r, 0, none⟩)) rfl (wanted_at (b := true) true rfl rfl (hD 26 95 (by kernel_rfl))) (exec_move (.tmp 6) _ rfl (hE 6 (.pointer (some ⟨r, 0, none⟩)) (by kernel_rfl) (by kernel_rfl))) rfl) ?_
     refine fsteps_cons 31 rfl (fun a u hE hD hk => f_call (o := ⟨some 99, _, _, _, _, _⟩) 32 #[.pointer (some ⟨r, 0, none⟩), .int .i64 1] rfl (wanted_at (b := true) true rfl rfl (hD 26 95 (by kernel_rfl))) (exec_call 32 _ [.tmp 98, .const (.int .i64 1)] _ [.pointer (some ⟨r, 0, none⟩), .int .i64 1] Try.func32 (by kernel_rfl) (by kernel_rfl) rfl (show [a.eval (.tmp 98), a.eval (.const (.int .i64 1))] = [.pointer (some ⟨r, 0, none⟩), .int .i64 1] from (by rw [show a.eval (.tmp 98) = .pointer (some ⟨r, 0, none⟩) from (hD 29 98 (by kernel_rfl))] <;> rfl)) u) ((by have h := (borders_any u G' r B2 1 (HB11.out.kept hk) HI2.out).base (Nat.zero_le _); rw [HXe.out] at h; exact h))) ?_
     refine fsteps_cons 32 rfl (fun a u hE hD hk => f_call (o := ⟨some 100, _, _, _, _, _⟩) 37 #[a.eval (.tmp 97), a.eval (.tmp 99)] rfl (wanted_at (b := true) true rfl rfl (hD 26 95 (by kernel_rfl))) (exec_call 37 _ [.tmp 97, .tmp 99] _ [a.eval (.tmp 97), a.eval (.tmp 99)] Try.func37 (by kernel_rfl) (by kernel_rfl) rfl rfl u) ((by have h := sameO_any (a.eval (.tmp 97)) (a.eval (.tmp 99)) 0 0 X X u (hD 28 97 (by kernel_rfl)).1 (hD 30 99 (by kernel_rfl)).1 (by have := HXl.out; omega) (by have := HXl.out; omega); rwa [decide_eq_true rfl] at h))) ?_
     refine sv 33 rfl rfl rfl (fun a u hE hD hk => exec_pick (.tmp 95) (.tmp 100) (.const (.bool false)) (.bool true) rfl (hD 26 95 (by kernel_rfl)) (hD 31 100 (by kernel_rfl))) ?_
     refine sv 34 rfl rfl rfl (fun a u hE hD hk => exec_move (.tmp 101) _ rfl (hD 32 101 (by kernel_rfl))) ?_
     refine fsteps_cons 35 rfl (fun a u hE hD hk => f_val (o := ⟨some 103, _, _, _, _, _⟩) (.pointer (some ⟨p, 0, none⟩)) rfl (wanted_at (b := true) true rfl rfl (hD 33 102 (by kernel_rfl))) (exec_move (.tmp 5) _ rfl (hE 5 (.pointer (some ⟨p, 0, none⟩)) (by kernel_rfl) (by kernel_rfl))) rfl) ?_
     refine fsteps_cons 36 rfl (fun a u hE hD hk => f_call (o := ⟨some 104, _, _, _, _, _⟩) 32 #[.pointer (some ⟨p, 0, none⟩), .int .i64 2] rfl (wanted_at (b := true) true rfl rfl (hD 33 102 (by kernel_rfl))) (exec_call 32 _ [.tmp 103, .const (.int .i64 2)] _ [.pointer (some ⟨p, 0, none⟩), .int .i64 2] Try.func32 (by kernel_rfl) (by kernel_rfl) rfl (show [a.eval (.tmp 103), a.eval (.const (.int .i64 2))] = [.pointer (some ⟨p, 0, none⟩), .int .i64 2] from (by rw [show a.eval (.tmp 103) = .pointer (some ⟨p, 0, none⟩) from (hD 34 103 (by kernel_rfl))] <;> rfl)) u) ((by have h := (borders_any u F2 p B2 2 (HA11.out.kept hk) HI2.out).base (Nat.zero_le _); rw [HYe.out] at h; exact h))) ?_
     refine fsteps_cons 37 rfl (fun a u hE hD hk => f_val (o := ⟨some 105, _, _, _, _, _⟩) (.pointer (some ⟨r, 0, none⟩)) rfl (wanted_at (b := true) true rfl rfl (hD 33 102 (by kernel_rfl))) (exec_move (.tmp 6) _ rfl (hE 6 (.pointer (some ⟨r, 0, none⟩)) (by kernel_rfl) (by kernel_rfl))) rfl) ?_
     refine fsteps_cons 38 rfl (fun a u hE hD hk => f_call (o := ⟨some 106, _, _, _, _, _⟩) 32 #[.pointer (some ⟨r, 0, none⟩), .int .i64 2] rfl (wanted_at (b := true) true rfl rfl (hD 33 102 (by kernel_rfl))) (exec_call 32 _ [.tmp 105, .const (.int .i64 2)] _ [.pointer (some ⟨r, 0, none⟩), .int .i64 2] Try.func32 (by kernel_rfl) (by kernel_rfl) rfl (show [a.eval (.tmp 105), a.eval (.const (.int .i64 2))] = [.pointer (some ⟨r, 0, none⟩), .int .i64 2] from (by rw [show a.eval (.tmp 105) = .pointer (some ⟨r, 0, none⟩) from (hD 36 105 (by kernel_rfl))] <;> rfl)) u) ((by have h := (borders_any u G' r B2 2 (HB11.out.kept hk) HI2.out).base (Nat.zero_le _); rw [HYe.out] at h; exact h))) ?_
     refine fsteps_cons 39 rfl (fun a u hE hD hk => f_call (o := ⟨some 107, _, _, _, _, _⟩) 37 #[a.eval (.tmp 104), a.eval (.tmp 106)] rfl (wanted_at (b := true) true rfl rfl (hD 33 102 (by kernel_rfl))) (exec_call 37 _ [.tmp 104, .tmp 106] _ [a.eval (.tmp 104), a.eval (.tmp 106)] Try.func37 (by kernel_rfl) (by kernel_rfl) rfl rfl u) ((by have h := sameO_any (a.eval (.tmp 104)) (a.eval (.tmp 106)) 0 0 Y Y u (hD 35 104 (by kernel_rfl)).1 (hD 37 106 (by kernel_rfl)).1 (by have := HXl.out; omega) (by have := HXl.out; omega); rwa [decide_eq_true rfl] at h))) ?_
     refine sv 40 rfl rfl rfl (fun a u hE hD hk => exec_pick (.tmp 102) (.tmp 107) (.const (.bool false)) (.bool true) rfl (hD 33 102 (by kernel_rfl)) (hD 38 107 (by kernel_rfl))) ?_
     refine sv 41 rfl rfl rfl (fun a u hE hD hk => exec_move (.tmp 108) _ rfl (hD 39 108 (by kernel_rfl))) ?_
     refine fsteps_cons 42 rfl (fun a u hE hD hk => f_val (o := ⟨some 110, _, _, _, _, _⟩) (.pointer (some ⟨p, 0, none⟩)) rfl (wanted_at (b := true) true rfl rfl (hD 40 109 (by kernel_rfl))) (exec_move (.tmp 5) _ rfl (hE 5 (.pointer (some ⟨p, 0, none⟩)) (by kernel_rfl) (by kernel_rfl))) rfl) ?_
     refine fsteps_cons 43 rfl (fun a u hE hD hk => f_call (o := ⟨some 111, _, _, _, _, _⟩) 18 #[.pointer (some ⟨p, 0, none⟩)] rfl (wanted_at (b := true) true rfl rfl (hD 40 109 (by kernel_rfl))) (exec_call 18 _ [.tmp 110] _ [.pointer (some ⟨p, 0, none⟩)] Try.func18 (by kernel_rfl) (by kernel_rfl) rfl (show [a.eval (.tmp 110)] = [.pointer (some ⟨p, 0, none⟩)] from (by rw [show a.eval (.tmp 110) = .pointer (some ⟨p, 0, none⟩) from (hD 41 110 (by kernel_rfl))] <;> rfl)) u) (blast_any u F2 p B2 (HA11.out.kept hk))) ?_
     refine fsteps_cons 44 rfl (fun a u hE hD hk => f_val (o := ⟨some 112, _, _, _, _, _⟩) (.pointer (some ⟨r, 0, none⟩)) rfl (wanted_at (b := true) true rfl rfl (hD 40 109 (by kernel_rfl))) (exec_move (.tmp 6) _ rfl (hE 6 (.pointer (some ⟨r, 0, none⟩)) (by kernel_rfl) (by kernel_rfl))) rfl) ?_
     refine fsteps_cons 45 rfl (fun a u hE hD hk => f_call (o := ⟨some 113, _, _, _, _, _⟩) 18 #[.pointer (some ⟨r, 0, none⟩)] rfl (wanted_at (b := true) true rfl rfl (hD 40 109 (by kernel_rfl))) (exec_call 18 _ [.tmp 112] _ [.pointer (some ⟨r, 0, none⟩)] Try.func18 (by kernel_rfl) (by kernel_rfl) rfl (show [a.eval (.tmp 112)] = [.pointer (some ⟨r, 0, none⟩)] from (by rw [show a.eval (.tmp 112) = .pointer (some ⟨r, 0, none⟩) from (hD 43 112 (by kernel_rfl))] <;> rfl)) u) (blast_any u G' r B2 (HB11.out.kept hk))) ?_
     refine fsteps_cons 46 rfl (fun a u hE hD hk => f_as (show ((decide ((B2.last : Int) = (B2.last : Int))) : Bool) = true from decide_eq_true rfl) (f_val (o := ⟨some 114, _, _, _, _, _⟩) (.bool (decide ((B2.last : Int) = (B2.last : Int)))) rfl (wanted_at (b := true) true rfl rfl (hD 40 109 (by kernel_rfl))) (exec_eqn (p := B2.last) (q := B2.last) rfl (hD 42 111 (by kernel_rfl)) (hD 44 113 (by kernel_rfl))) rfl)) ?_
     refine sv 47 rfl rfl rfl (fun a u hE hD hk => exec_pick (.tmp 109) (.tmp 114) (.const (.bool false)) (.bool true) rfl (hD 40 109 (by kernel_rfl)) (hD 45 114 (by kernel_rfl))) ?_
     refine sv 48 rfl rfl rfl (fun a u hE hD hk => exec_move (.tmp 115) _ rfl (hD 46 115 (by kernel_rfl))) ?_
     refine fsteps_cons 49 rfl (fun a u hE hD hk => f_val (o := ⟨some 117, _, _, _, _, _⟩) (.pointer (some ⟨p, 0, none⟩)) rfl (wanted_at (b := true) true rfl rfl (hD 47 116 (by kernel_rfl))) (exec_move (.tmp 5) _ rfl (hE 5 (.pointer (some ⟨p, 0, none⟩)) (by kernel_rfl) (by kernel_rfl))) rfl) ?_
     refine fsteps_cons 50 rfl (fun a u hE hD hk => f_call (o := ⟨some 118, _, _, _, _, _⟩) 19 #[.pointer (some ⟨p, 0, none⟩)] rfl (wanted_at (b := true) true rfl rfl (hD 47 116 (by kernel_rfl))) (exec_call 19 _ [.tmp 117] _ [.pointer (some ⟨p, 0, none⟩)] Try.func19 (by kernel_rfl) (by kernel_rfl) rfl (show [a.eval (.tmp 117)] = [.pointer (some ⟨p, 0, none⟩)] from (by rw [show a.eval (.tmp 117) = .pointer (some ⟨p, 0, none⟩) from (hD 48 117 (by kernel_rfl))] <;> rfl)) u) (bno_any u F2 p B2 (HA11.out.kept hk))) ?_
     refine fsteps_cons 51 rfl (fun a u hE hD hk => f_val (o := ⟨some 119, _, _, _, _, _⟩) (.pointer (some ⟨r, 0, none⟩)) rfl (wanted_at (b := true) true rfl rfl (hD 47 116 (by kernel_rfl))) (exec_move (.tmp 6) _ rfl (hE 6 (.pointer (some ⟨r, 0, none⟩)) (by kernel_rfl) (by kernel_rfl))) rfl) ?_
     refine fsteps_cons 52 rfl (fun a u hE hD hk => f_call (o := ⟨some 120, _, _, _, _, _⟩) 19 #[.pointer (some ⟨r, 0, none⟩)] rfl (wanted_at (b := true) true rfl rfl (hD 47 116 (by kernel_rfl))) (exec_call 19 _ [.tmp 119] _ [.pointer (some ⟨r, 0, none⟩)] Try.func19 (by kernel_rfl) (by kernel_rfl) rfl (show [a.eval (.tmp 119)] = [.pointer (some ⟨r, 0, none⟩)] from (by rw [show a.eval (.tmp 119) = .pointer (some ⟨r, 0, none⟩) from (hD 50 119 (by kernel_rfl))] <;> rfl)) u) (bno_any u G' r B2 (HB11.out.kept hk))) ?_
     refine fsteps_cons 53 rfl (fun a u hE hD hk => f_as (show ((decide ((B2.no : Int) = (B2.no : Int))) : Bool) = true from decide_eq_true rfl) (f_val (o := ⟨some 121, _, _, _, _, _⟩) (.bool (decide ((B2.no : Int) = (B2.no : Int)))) rfl (wanted_at (b := true) true rfl rfl (hD 47 116 (by kernel_rfl))) (exec_eqn (p := B2.no) (q := B2.no) rfl (hD 49 118 (by kernel_rfl)) (hD 51 120 (by kernel_rfl))) rfl)) ?_
     refine sv 54 rfl rfl rfl (fun a u hE hD hk => exec_pick (.tmp 116) (.tmp 121) (.const (.bool false)) (.bool true) rfl (hD 47 116 (by kernel_rfl)) (hD 52 121 (by kernel_rfl))) ?_
     refine sv 55 rfl rfl rfl (fun a u hE hD hk => exec_move (.tmp 122) _ rfl (hD 53 122 (by kernel_rfl))) ?_
     refine fsteps_cons 56 rfl (fun a u hE hD hk => f_call (o := ⟨some 124, _, _, _, _, _⟩) 3 #[] rfl (wanted_at (b := true) true rfl rfl (hD 54 123 (by kernel_rfl))) (exec_call 3 _ [] _ [] Try.func3 (by kernel_rfl) (by kernel_rfl) rfl rfl u) (bruns_gives u)) ?_
     refine sv 57 rfl rfl rfl (fun a u hE hD hk => exec_pick (.tmp 123) (.tmp 124) (.const (.bool false)) (.bool true) rfl (hD 54 123 (by kernel_rfl)) (hD 55 124 (by kernel_rfl))) ?_
     exact fsteps_nil
    intro gv wz hV kz
    rw [show dstsOf _ 57 = [69, 70, 71, 72, 73, 74, 75, 76, 77, 78, 79, 80, 81, 82, 83, 84, 85, 86, 87, 88, 89, 90, 91, 92, 93, 94, 95, 96, 97, 98, 99, 100, 101, 102, 103, 104, 105, 106, 107, 108, 109, 110, 111, 112, 113, 114, 115, 116, 117, 118, 119, 120, 121, 122, 123, 124, 125] by kernel_rfl]
    simp only [fC, fN, sA, sS, sZ, dS, dZ]
    rw [show gv 125 = .bool true from hV 56 125 (by kernel_rfl)]
    clear hV
    refine l_val (o := ⟨some 4, _, _, _, _, _⟩) (.bool true) rfl (exec_assign (.tmp 125) (.bool true) rfl (by kernel_rfl)) ?_
    simp only [Act.put, sA, sS, sZ]
    refine wpList_nil ?_
    go_wp2
    go_ret
    exact ⟨rfl, kw11.trans kz⟩
  ·skip
   obtain ⟨he45, he5⟩ := HIO.out.no he
   go_upto_region 11 with fail
   refine wp_text 3 [.eq (.pointer (some ⟨g9, 14, none⟩)), .eq (.int .i64 x.err), .eq (.bool true)] rfl (by kernel_rfl) ?_ ?_
   ·refine sv 1 rfl rfl rfl (fun a u hE hD hk => exec_fldo 29 6 14 (.tmp 9) (g9) (0) (14) rfl (hE 9 (.pointer (some ⟨g9, 0, none⟩)) (by kernel_rfl) (by kernel_rfl)) (by kernel_rfl) rfl) ?_
    refine sv 2 rfl rfl rfl (fun a u hE hD hk => exec_loadi 27 Try.underlying27 (.tmp 37) ⟨g9, 14, none⟩ (.int .i64 x.err) rfl (hD 0 37 (by kernel_rfl)) (by rw [(HCxw8.out.kept hk).cell]; rfl)) ?_
    refine fsteps_cons 3 rfl (fun a u hE hD hk => f_as (show ((decide ((x.err : Int) ≠ (0 : Int))) : Bool) = true from decide_eq_true he) (f_val (o := ⟨some 39, _, _, _, _, _⟩) (.bool (decide ((x.err : Int) ≠ (0 : Int)))) rfl (wanted_none rfl _) (exec_nen (p := x.err) (q := 0) rfl (hD 1 38 (by kernel_rfl)) rfl) rfl)) ?_
    exact fsteps_nil
   intro gv w9 hV k9
   rw [show dstsOf _ 3 = [37, 38, 39] by kernel_rfl]
   simp only [fC, fN, sA, sS, sZ, dS, dZ]
   rw [show gv 39 = .bool true from hV 2 39 (by kernel_rfl)]
   clear hV
   refine wpList_nil ?_
   have kw9 := kw8.trans k9
   have HCx9 := Lib.hid (HCxw8.out.kept k9)
   have HCy9 := Lib.hid (HCyw8.out.kept k9)
   by_cases h5 : x.err = 5
   ·skip
    have hy5 := he5 h5
    go_upto_region 12 with fail
    refine wp_text 21 [.eq (.pointer (some ⟨g9, 14, none⟩)), .eq (.int .i64 x.err), .eq (.bool true), .eq (.bool true), .eq undef, .eq undef, .eq undef, .eq (.bool true), .eq (.bool true), .eq (.pointer (some ⟨g9, 14, none⟩)), .eq (.int .i64 x.err), .eq (.bool false), .eq (.bool false), .eq (.pointer (some ⟨g10, 14, none⟩)), .eq (.int .i64 y.err), .eq (.bool true), .eq (.bool true), .eq (.bool true), .eq (.bool true), .eq (.bool true), .eq (.bool true)] rfl (by kernel_rfl) ?_ ?_
    ·refine sv 1 rfl rfl rfl (fun a u hE hD hk => exec_fldo 29 6 14 (.tmp 9) (g9) (0) (14) rfl (hE 9 (.pointer (some ⟨g9, 0, none⟩)) (by kernel_rfl) (by kernel_rfl)) (by kernel_rfl) rfl) ?_
     refine sv 2 rfl rfl rfl (fun a u hE hD hk => exec_loadi 27 Try.underlying27 (.tmp 40) ⟨g9, 14, none⟩ (.int .i64 x.err) rfl (hD 0 40 (by kernel_rfl)) (by rw [(HCx9.out.kept hk).cell]; rfl)) ?_
     refine fsteps_cons 3 rfl (fun a u hE hD hk => f_as (show ((decide ((x.err : Int) = (5 : Int))) : Bool) = true from decide_eq_true h5) (f_val (o := ⟨some 42, _, _, _, _, _⟩) (.bool (decide ((x.err : Int) = (5 : Int)))) rfl (wanted_none rfl _) (exec_eqn (p := x.err) (q := 5) rfl (hD 1 41 (by kernel_rfl)) rfl) rfl)) ?_
     refine sv 4 rfl rfl rfl (fun a u hE hD hk => exec_move (.tmp 42) _ rfl (hD 2 42 (by kernel_rfl))) ?_
     refine fsteps_cons 5 rfl (fun a u hE hD hk => f_skip (o := ⟨some 44, _, _, _, _, _⟩) rfl (wanted_at (b := false) true rfl rfl (hD 3 43 (by kernel_rfl))) rfl) ?_
     refine fsteps_cons 6 rfl (fun a u hE hD hk => f_skip (o := ⟨some 45, _, _, _, _, _⟩) rfl (wanted_at (b := false) true rfl rfl (hD 3 43 (by kernel_rfl))) rfl) ?_
     refine fsteps_cons 7 rfl (fun a u hE hD hk => f_skip (o := ⟨some 46, _, _, _, _, _⟩) rfl (wanted_at (b := false) true rfl rfl (hD 3 43 (by kernel_rfl))) rfl) ?_
     refine sv 8 rfl rfl rfl (fun a u hE hD hk => exec_pick (.tmp 43) (.const (.bool true)) (.tmp 46) (.bool true) rfl (hD 3 43 (by kernel_rfl)) rfl) ?_
     refine sv 9 rfl rfl rfl (fun a u hE hD hk => exec_move (.tmp 47) _ rfl (hD 7 47 (by kernel_rfl))) ?_
     refine fsteps_cons 10 rfl (fun a u hE hD hk => f_val (o := ⟨some 49, _, _, _, _, _⟩) (.pointer (some ⟨g9, 14, none⟩)) rfl (wanted_at (b := true) true rfl rfl (hD 8 48 (by kernel_rfl))) (exec_fldo 29 6 14 (.tmp 9) (g9) (0) (14) rfl (hE 9 (.pointer (some ⟨g9, 0, none⟩)) (by kernel_rfl) (by kernel_rfl)) (by kernel_rfl) rfl) rfl) ?_
     refine fsteps_cons 11 rfl (fun a u hE hD hk => f_val (o := ⟨some 50, _, _, _, _, _⟩) (.int .i64 x.err) rfl (wanted_at (b := true) true rfl rfl (hD 8 48 (by kernel_rfl))) (exec_loadi 27 Try.underlying27 (.tmp 49) ⟨g9, 14, none⟩ (.int .i64 x.err) rfl (hD 9 49 (by kernel_rfl)) (by rw [(HCx9.out.kept hk).cell]; rfl)) rfl) ?_
     refine fsteps_cons 12 rfl (fun a u hE hD hk => f_as (show ((decide ((x.err : Int) ≠ (5 : Int))) : Bool) = false from decide_eq_false (fun h => h h5)) (f_val (o := ⟨some 51, _, _, _, _, _⟩) (.bool (decide ((x.err : Int) ≠ (5 : Int)))) rfl (wanted_at (b := true) true rfl rfl (hD 8 48 (by kernel_rfl))) (exec_nen (p := x.err) (q := 5) rfl (hD 10 50 (by kernel_rfl)) rfl) rfl)) ?_
     refine fsteps_cons 13 rfl (fun a u hE hD hk => f_val (o := ⟨some 52, _, _, _, _, _⟩) (.bool false) rfl (wanted_at (b := true) true rfl rfl (hD 8 48 (by kernel_rfl))) (exec_move (.tmp 51) _ rfl (hD 11 51 (by kernel_rfl))) rfl) ?_
     refine fsteps_cons 14 rfl (fun a u hE hD hk => f_val (o := ⟨some 53, _, _, _, _, _⟩) (.pointer (some ⟨g10, 14, none⟩)) rfl (wanted_at (b := false) false rfl rfl (hD 12 52 (by kernel_rfl))) (exec_fldo 29 6 14 (.tmp 10) (g10) (0) (14) rfl (hE 10 (.pointer (some ⟨g10, 0, none⟩)) (by kernel_rfl) (by kernel_rfl)) (by kernel_rfl) rfl) rfl) ?_
     refine fsteps_cons 15 rfl (fun a u hE hD hk => f_val (o := ⟨some 54, _, _, _, _, _⟩) (.int .i64 y.err) rfl (wanted_at (b := false) false rfl rfl (hD 12 52 (by kernel_rfl))) (exec_loadi 27 Try.underlying27 (.tmp 53) ⟨g10, 14, none⟩ (.int .i64 y.err) rfl (hD 13 53 (by kernel_rfl)) (by rw [(HCy9.out.kept hk).cell]; rfl)) rfl) ?_
     refine fsteps_cons 16 rfl (fun a u hE hD hk => f_as (show ((decide ((y.err : Int) = (5 : Int))) : Bool) = true from decide_eq_true hy5) (f_val (o := ⟨some 55, _, _, _, _, _⟩) (.bool (decide ((y.err : Int) = (5 : Int)))) rfl (wanted_at (b := false) false rfl rfl (hD 12 52 (by kernel_rfl))) (exec_eqn (p := y.err) (q := 5) rfl (hD 14 54 (by kernel_rfl)) rfl) rfl)) ?_
     refine fsteps_cons 17 rfl (fun a u hE hD hk => f_val (o := ⟨some 56, _, _, _, _, _⟩) (.bool true) rfl (wanted_at (b := true) true rfl rfl (hD 8 48 (by kernel_rfl))) (exec_pickF (.tmp 52) (.const (.bool true)) (.tmp 55) (.bool true) rfl (hD 12 52 (by kernel_rfl)) (hD 15 55 (by kernel_rfl))) rfl) ?_
     refine sv 18 rfl rfl rfl (fun a u hE hD hk => exec_pick (.tmp 48) (.tmp 56) (.const (.bool false)) (.bool true) rfl (hD 8 48 (by kernel_rfl)) (hD 16 56 (by kernel_rfl))) ?_
     refine sv 19 rfl rfl rfl (fun a u hE hD hk => exec_move (.tmp 57) _ rfl (hD 17 57 (by kernel_rfl))) ?_
     refine fsteps_cons 20 rfl (fun a u hE hD hk => f_call (o := ⟨some 59, _, _, _, _, _⟩) 3 #[] rfl (wanted_at (b := true) true rfl rfl (hD 18 58 (by kernel_rfl))) (exec_call 3 _ [] _ [] Try.func3 (by kernel_rfl) (by kernel_rfl) rfl rfl u) (bruns_gives u)) ?_
     refine sv 21 rfl rfl rfl (fun a u hE hD hk => exec_pick (.tmp 58) (.tmp 59) (.const (.bool false)) (.bool true) rfl (hD 18 58 (by kernel_rfl)) (hD 19 59 (by kernel_rfl))) ?_
     exact fsteps_nil
    intro gv wz hV kz
    rw [show dstsOf _ 21 = [40, 41, 42, 43, 44, 45, 46, 47, 48, 49, 50, 51, 52, 53, 54, 55, 56, 57, 58, 59, 60] by kernel_rfl]
    simp only [fC, fN, sA, sS, sZ, dS, dZ]
    rw [show gv 60 = .bool true from hV 20 60 (by kernel_rfl)]
    clear hV
    refine l_val (o := ⟨some 4, _, _, _, _, _⟩) (.bool true) rfl (exec_assign (.tmp 60) (.bool true) rfl (by kernel_rfl)) ?_
    simp only [Act.put, sA, sS, sZ]
    refine wpList_nil ?_
    go_wp2
    go_ret
    exact ⟨rfl, kw9.trans kz⟩
   ·skip
    have h4 : x.err = 4 := he45.resolve_left h5
    go_upto_region 12 with fail
    refine wp_text 21 [.eq (.pointer (some ⟨g9, 14, none⟩)), .eq (.int .i64 x.err), .eq (.bool false), .eq (.bool false), .eq (.pointer (some ⟨g9, 14, none⟩)), .eq (.int .i64 x.err), .eq (.bool true), .eq (.bool true), .eq (.bool true), .eq (.pointer (some ⟨g9, 14, none⟩)), .eq (.int .i64 x.err), .eq (.bool true), .eq (.bool true), .eq undef, .eq undef, .eq undef, .eq (.bool true), .eq (.bool true), .eq (.bool true), .eq (.bool true), .eq (.bool true)] rfl (by kernel_rfl) ?_ ?_
    ·refine sv 1 rfl rfl rfl (fun a u hE hD hk => exec_fldo 29 6 14 (.tmp 9) (g9) (0) (14) rfl (hE 9 (.pointer (some ⟨g9, 0, none⟩)) (by kernel_rfl) (by kernel_rfl)) (by kernel_rfl) rfl) ?_
     refine sv 2 rfl rfl rfl (fun a u hE hD hk => exec_loadi 27 Try.underlying27 (.tmp 40) ⟨g9, 14, none⟩ (.int .i64 x.err) rfl (hD 0 40 (by kernel_rfl)) (by rw [(HCx9.out.kept hk).cell]; rfl)) ?_
     refine fsteps_cons 3 rfl (fun a u hE hD hk => f_as (show ((decide ((x.err : Int) = (5 : Int))) : Bool) = false from decide_eq_false h5) (f_val (o := ⟨some 42, _, _, _, _, _⟩) (.bool (decide ((x.err : Int) = (5 : Int)))) rfl (wanted_none rfl _) (exec_eqn (p := x.err) (q := 5) rfl (hD 1 41 (by kernel_rfl)) rfl) rfl)) ?_
     refine sv 4 rfl rfl rfl (fun a u hE hD hk => exec_move (.tmp 42) _ rfl (hD 2 42 (by kernel_rfl))) ?_
     refine fsteps_cons 5 rfl (fun a u hE hD hk => f_val (o := ⟨some 44, _, _, _, _, _⟩) (.pointer (some ⟨g9, 14, none⟩)) rfl (wanted_at (b := false) false rfl rfl (hD 3 43 (by kernel_rfl))) (exec_fldo 29 6 14 (.tmp 9) (g9) (0) (14) rfl (hE 9 (.pointer (some ⟨g9, 0, none⟩)) (by kernel_rfl) (by kernel_rfl)) (by kernel_rfl) rfl) rfl) ?_
     refine fsteps_cons 6 rfl (fun a u hE hD hk => f_val (o := ⟨some 45, _, _, _, _, _⟩) (.int .i64 x.err) rfl (wanted_at (b := false) false rfl rfl (hD 3 43 (by kernel_rfl))) (exec_loadi 27 Try.underlying27 (.tmp 44) ⟨g9, 14, none⟩ (.int .i64 x.err) rfl (hD 4 44 (by kernel_rfl)) (by rw [(HCx9.out.kept hk).cell]; rfl)) rfl) ?_
     refine fsteps_cons 7 rfl (fun a u hE hD hk => f_as (show ((decide ((x.err : Int) = (4 : Int))) : Bool) = true from decide_eq_true h4) (f_val (o := ⟨some 46, _, _, _, _, _⟩) (.bool (decide ((x.err : Int) = (4 : Int)))) rfl (wanted_at (b := false) false rfl rfl (hD 3 43 (by kernel_rfl))) (exec_eqn (p := x.err) (q := 4) rfl (hD 5 45 (by kernel_rfl)) rfl) rfl)) ?_
     refine sv 8 rfl rfl rfl (fun a u hE hD hk => exec_pickF (.tmp 43) (.const (.bool true)) (.tmp 46) (.bool true) rfl (hD 3 43 (by kernel_rfl)) (hD 6 46 (by kernel_rfl))) ?_
     refine sv 9 rfl rfl rfl (fun a u hE hD hk => exec_move (.tmp 47) _ rfl (hD 7 47 (by kernel_rfl))) ?_
     refine fsteps_cons 10 rfl (fun a u hE hD hk => f_val (o := ⟨some 49, _, _, _, _, _⟩) (.pointer (some ⟨g9, 14, none⟩)) rfl (wanted_at (b := true) true rfl rfl (hD 8 48 (by kernel_rfl))) (exec_fldo 29 6 14 (.tmp 9) (g9) (0) (14) rfl (hE 9 (.pointer (some ⟨g9, 0, none⟩)) (by kernel_rfl) (by kernel_rfl)) (by kernel_rfl) rfl) rfl) ?_
     refine fsteps_cons 11 rfl (fun a u hE hD hk => f_val (o := ⟨some 50, _, _, _, _, _⟩) (.int .i64 x.err) rfl (wanted_at (b := true) true rfl rfl (hD 8 48 (by kernel_rfl))) (exec_loadi 27 Try.underlying27 (.tmp 49) ⟨g9, 14, none⟩ (.int .i64 x.err) rfl (hD 9 49 (by kernel_rfl)) (by rw [(HCx9.out.kept hk).cell]; rfl)) rfl) ?_
     refine fsteps_cons 12 rfl (fun a u hE hD hk => f_as (show ((decide ((x.err : Int) ≠ (5 : Int))) : Bool) = true from decide_eq_true h5) (f_val (o := ⟨some 51, _, _, _, _, _⟩) (.bool (decide ((x.err : Int) ≠ (5 : Int)))) rfl (wanted_at (b := true) true rfl rfl (hD 8 48 (by kernel_rfl))) (exec_nen (p := x.err) (q := 5) rfl (hD 10 50 (by kernel_rfl)) rfl) rfl)) ?_
     refine fsteps_cons 13 rfl (fun a u hE hD hk => f_val (o := ⟨some 52, _, _, _, _, _⟩) (.bool true) rfl (wanted_at (b := true) true rfl rfl (hD 8 48 (by kernel_rfl))) (exec_move (.tmp 51) _ rfl (hD 11 51 (by kernel_rfl))) rfl) ?_
     refine fsteps_cons 14 rfl (fun a u hE hD hk => f_skip (o := ⟨some 53, _, _, _, _, _⟩) rfl (wanted_at (b := false) true rfl rfl (hD 12 52 (by kernel_rfl))) rfl) ?_
     refine fsteps_cons 15 rfl (fun a u hE hD hk => f_skip (o := ⟨some 54, _, _, _, _, _⟩) rfl (wanted_at (b := false) true rfl rfl (hD 12 52 (by kernel_rfl))) rfl) ?_
     refine fsteps_cons 16 rfl (fun a u hE hD hk => f_skip (o := ⟨some 55, _, _, _, _, _⟩) rfl (wanted_at (b := false) true rfl rfl (hD 12 52 (by kernel_rfl))) rfl) ?_
     refine fsteps_cons 17 rfl (fun a u hE hD hk => f_val (o := ⟨some 56, _, _, _, _, _⟩) (.bool true) rfl (wanted_at (b := true) true rfl rfl (hD 8 48 (by kernel_rfl))) (exec_pick (.tmp 52) (.const (.bool true)) (.tmp 55) (.bool true) rfl (hD 12 52 (by kernel_rfl)) rfl) rfl) ?_
     refine sv 18 rfl rfl rfl (fun a u hE hD hk => exec_pick (.tmp 48) (.tmp 56) (.const (.bool false)) (.bool true) rfl (hD 8 48 (by kernel_rfl)) (hD 16 56 (by kernel_rfl))) ?_
     refine sv 19 rfl rfl rfl (fun a u hE hD hk => exec_move (.tmp 57) _ rfl (hD 17 57 (by kernel_rfl))) ?_
     refine fsteps_cons 20 rfl (fun a u hE hD hk => f_call (o := ⟨some 59, _, _, _, _, _⟩) 3 #[] rfl (wanted_at (b := true) true rfl rfl (hD 18 58 (by kernel_rfl))) (exec_call 3 _ [] _ [] Try.func3 (by kernel_rfl) (by kernel_rfl) rfl rfl u) (bruns_gives u)) ?_
     refine sv 21 rfl rfl rfl (fun a u hE hD hk => exec_pick (.tmp 58) (.tmp 59) (.const (.bool false)) (.bool true) rfl (hD 18 58 (by kernel_rfl)) (hD 19 59 (by kernel_rfl))) ?_
     exact fsteps_nil
    intro gv wz hV kz
    rw [show dstsOf _ 21 = [40, 41, 42, 43, 44, 45, 46, 47, 48, 49, 50, 51, 52, 53, 54, 55, 56, 57, 58, 59, 60] by kernel_rfl]
    simp only [fC, fN, sA, sS, sZ, dS, dZ]
    rw [show gv 60 = .bool true from hV 20 60 (by kernel_rfl)]
    clear hV
    refine l_val (o := ⟨some 4, _, _, _, _, _⟩) (.bool true) rfl (exec_assign (.tmp 60) (.bool true) rfl (by kernel_rfl)) ?_
    simp only [Act.put, sA, sS, sZ]
    refine wpList_nil ?_
    go_wp2
    go_ret
    exact ⟨rfl, kw9.trans kz⟩
 ·skip
  go_upto_region 6 with fail
  refine wp_text 3 [.eq (.pointer (some ⟨g7, 5, none⟩)), .eq (.int .i64 o0.price), .eq (.bool false)] rfl (by kernel_rfl) ?_ ?_
  ·refine sv 1 rfl rfl rfl (fun a u hE hD hk => exec_fldo 25 5 5 (.tmp 7) (g7) (0) (5) rfl (hE 7 (.pointer (some ⟨g7, 0, none⟩)) (by kernel_rfl) (by kernel_rfl)) (by kernel_rfl) rfl) ?_
   refine sv 2 rfl rfl rfl (fun a u hE hD hk => exec_loadi 3 Try.underlying3 (.tmp 25) ⟨g7, 5, none⟩ (.int .i64 o0.price) rfl (hD 0 25 (by kernel_rfl)) (range_int (range_kept HO3.out hk) 5 _ rfl)) ?_
   refine fsteps_cons 3 rfl (fun a u hE hD hk => f_as (show ((decide ((o0.price : Int) = (0 : Int))) : Bool) = false from decide_eq_false hp) (f_val (o := ⟨some 27, _, _, _, _, _⟩) (.bool (decide ((o0.price : Int) = (0 : Int)))) rfl (wanted_none rfl _) (exec_eqn (p := o0.price) (q := 0) rfl (hD 1 26 (by kernel_rfl)) rfl) rfl)) ?_
   exact fsteps_nil
  intro gv w4 hV k4
  rw [show dstsOf _ 3 = [25, 26, 27] by kernel_rfl]
  simp only [fC, fN, sA, sS, sZ, dS, dZ]
  rw [show gv 27 = .bool false from hV 2 27 (by kernel_rfl)]
  clear hV
  refine wpList_nil ?_
  have kv4 := kv3.trans k4
  have HB4 := Lib.hid (HB3.out.kept k4)
  clear HB3 HO3 k4 kv3
  obtain ⟨o1, ho1⟩ : ∃ y, o0 = y := ⟨_, rfl⟩
  have HII : Hid (IocIs B o1 (B.add o1) (B.add { o1 with k := 3 })) := by
   show IocIs _ _ _ _
   rw [← ho1, ← ho0]
   obtain ⟨h1, h2⟩ := (right_ioc o HKO.out.1 HKO.out.2.1).1 (by rw [← ho0] at hp; exact hp)
   exact ioc_is (o := { o with shw := 0, k := 1 }) HI.out h1 h2 HKO.out.2.1
  obtain ⟨w5, hw5⟩ : ∃ y, w4 = y := ⟨_, rfl⟩
  rw [hw5, ho1] at HB4
  rw [hw5] at kv4 ⊢
  have HBw5 := HB4
  have kv5 := kv4
  clear HB4 kv4
  have z5 := kv5.size
  have HO5 : Hid (w5.rangeAt g7 0 o1.cells) := blk_range HBw5.out
  have lh7 : g7 < w5.heap.size := HBw5.out.lt
  clear ho0 ho1 HKO HGO
  go_upto_region 8 with fail
  refine wp_text 2 [.eq (o1.v), .fresh w5.heap.size 25 zeroO.cells] rfl (by kernel_rfl) ?_ ?_
  ·refine sv 1 rfl rfl rfl (fun a u hE hD hk => exec_ldS 25 _ (.tmp 7) (g7) (0) (o1.cells) rfl (hE 7 (.pointer (some ⟨g7, 0, none⟩)) (by kernel_rfl) (by kernel_rfl)) (range_kept HO5.out hk) Try.underlying25 (by rw [o1.len9]; exact ord_size)) ?_
   refine fsteps_cons 2 rfl (fun a u hE hD hk => f_new (o := ⟨some 8, _, _, _, _, _⟩) (.pointer (some ⟨u.heap.size, 0, none⟩)) _ rfl (wanted_none rfl _) (exec_alc 25 zeroO.cells rfl zO) ⟨_, rfl, hk.size, Blk.new u _ _⟩ ((Keep.refl _ u).alloc _)) ?_
   exact fsteps_nil
  intro gv w6a hV k6a
  rw [show dstsOf _ 2 = [29, 8] by kernel_rfl]
  simp only [fC, fN, sA, sS, sZ, dS, dZ]
  have hv8 : (.fresh w5.heap.size 25 zeroO.cells : Kn).p (gv 8) w6a := hV 1 8 (by kernel_rfl)
  generalize gv 8 = v8 at hv8 ⊢
  rw [show gv 29 = o1.v from hV 0 29 (by kernel_rfl)]
  clear hV
  obtain ⟨g8, rfl, hg8, hB8⟩ := hv8
  refine l_setS (o := ⟨none, _, _, _, _, _⟩) 25 g8 25 zeroO.cells o1.cells (.tmp 8) (.tmp 29) rfl rfl (by kernel_rfl) (by kernel_rfl) (hB8) (by rw [Ord.len9]; exact ord_size) (by rw [Ord.len9, Ord.len9]) (Ord.one1 _) ?_
  intro w6 hCw6 hkw6 hsw6
  simp only [Act.put]
  refine wpList_nil ?_
  have kv6 : Kept w1 w6 := (kv5.trans k6a).trans' hkw6 (by omega)
  have HO6 : Hid (w6.rangeAt g7 0 o1.cells) := range_kept HO5.out (k6a.trans' hkw6 (by omega))
  have z56 : w5.heap.size ≤ w6.heap.size := (k6a.trans' hkw6 (by omega)).size
  have HBw6 : Hid (Blk w6 g8 25 o1.cells) := hCw6
  have z6 := kv6.size
  have lg8 : g8 < w6.heap.size := hCw6.lt
  obtain ⟨io, hio⟩ : ∃ y, ({ o1 with k := 3 } : Ord) = y := ⟨_, rfl⟩
  have hg87 : g8 ≠ g7 := by omega
  clear hB8 hCw6 hkw6 hsw6 k6a HO5 HBw5 kv5
  go_upto_region 9 with fail
  refine wp_text 1 [.eq (.pointer (some ⟨g8, 4, none⟩))] rfl (by kernel_rfl) ?_ ?_
  ·refine sv 1 rfl rfl rfl (fun a u hE hD hk => exec_fldo 25 4 4 (.tmp 8) (g8) (0) (4) rfl (hE 8 (.pointer (some ⟨g8, 0, none⟩)) (by kernel_rfl) (by kernel_rfl)) (by kernel_rfl) rfl) ?_
   exact fsteps_nil
  intro gv w7a hV kw7a
  rw [show dstsOf _ 1 = [30] by kernel_rfl]
  simp only [fC, fN, sA, sS, sZ, dS, dZ]
  rw [show gv 30 = .pointer (some ⟨g8, 4, none⟩) from hV 0 30 (by kernel_rfl)]
  clear hV
  refine l_setf (o := ⟨none, _, _, _, _, _⟩) g8 4 25 o1.l [] 3 (.tmp 30) (.const (.int .i64 3)) rfl rfl (by kernel_rfl) rfl (HBw6.out.kept kw7a) (by simp [Ord.l]) ?_
  intro w7 hBw7 hkw7 hsw7
  simp only [Act.put]
  refine wpList_nil ?_
  have HBw7 : Hid (Blk w7 g8 25 io.cells) := by show Blk _ _ _ _; rw [← hio]; exact hBw7
  have Kw7 : Kept w6 w7a := kw7a
  have z67 : w6.heap.size ≤ w7.heap.size := Nat.le_trans kw7a.size hkw7.size
  have kv7 : Kept w1 w7 := (kv6.trans kw7a).trans' hkw7 (by omega)
  have HO7 : Hid (w7.rangeAt g7 0 o1.cells) := range_keep (range_kept HO6.out kw7a) hkw7 (fun h => hg87 h.symm)
  have HP7 : Hid (w7.rangeAt g8 0 io.cells) := blk_range HBw7.out
  have z7 := kv7.size
  have HAw7 := Lib.hid (HA1.out.kept kv7)
  have HB7 := Lib.hid (HB1.out.kept kv7)
  have kw7 := kw1.trans kv7
  have HBk7 := HB7
  clear HBw6 hBw7 hkw7 hsw7 kw7a Kw7 kv6 HO6 HA1 HB1 HBw7
  have HBw7 := HBk7
  clear HB7 HBk7
  obtain ⟨x, hx⟩ : ∃ y, (B.add o1).1 = y := ⟨_, rfl⟩
  obtain ⟨A2, hA2⟩ : ∃ y, (B.add o1).2 = y := ⟨_, rfl⟩
  obtain ⟨y, hy⟩ : ∃ y, (B.add io).1 = y := ⟨_, rfl⟩
  obtain ⟨B2, hB2⟩ : ∃ y, (B.add io).2 = y := ⟨_, rfl⟩
  have HX : Hid (B.add o1 = (x, A2)) := by rw [← hx, ← hA2]; exact rfl
  have HY : Hid (B.add io = (y, B2)) := by rw [← hy, ← hB2]; exact rfl
  have HI2 : Hid (Inv B2) := by show Inv _; rw [← hB2]; exact (inv_add HI.out).1
  have HIO : Hid (IocIs B o1 (x, A2) (y, B2)) := by show IocIs _ _ _ _; rw [← HX.out, ← HY.out, ← hio]; exact HII.out
  have HI1 : Hid (Inv A2) := by show Inv _; rw [← hA2]; exact (inv_add HI.out).1
  clear hx hA2 hy hB2 HII hio
  go_upto_region 10 with fail
  refine wp_freeN 8 2 5 6 7 [0, 1, 3, 4, 6, 7] [0, 1, 2, 3, 4, 6, 7] (fun Av => [.eq (.pointer (some ⟨p, 0, none⟩)), .eq (o1.v), .addA w7.heap.size Av F p (x, A2), .eq (.pointer (some ⟨r, 0, none⟩)), .eq (io.v), .twoA w7.heap.size Av F G p r (x, A2) (y, B2), .fresh w7.heap.size 29 (zeroC.cells (.slice none 0 0)), .fresh w7.heap.size 29 (zeroC.cells (.slice none 0 0))]) (F) (G) (by kernel_rfl) (fun _ => rfl) (by omega) (by omega) (by omega) (by kernel_rfl) (by kernel_rfl) (by kernel_rfl) (by kernel_rfl) ?_ ?_ (by omega) (by omega) (by omega) (by omega) (by omega) (fun _ => Kn.old_fresh) (fun _ => Kn.old_fresh) ?_ (.fresh w7.heap.size 29 (zeroC.cells (.slice none 0 0))) (.fresh w7.heap.size 29 (zeroC.cells (.slice none 0 0))) (fun _ => rfl) (fun _ => rfl) (fun Av a u hE hD hk => n_new (K := (.fresh w7.heap.size 29 (zeroC.cells (.slice none 0 0)) : Kn)) (o := ⟨some 9, _, _, _, _, _⟩) (.pointer (some ⟨u.heap.size, 0, none⟩)) _ rfl (wanted_none rfl _) (exec_alc 29 (zeroC.cells (.slice none 0 0)) rfl zC) ⟨_, rfl, hk.size, Blk.new u _ _⟩ ((Keep.refl _ u).alloc _) rfl) (fun Av a u hE hD hk => n_new (K := (.fresh w7.heap.size 29 (zeroC.cells (.slice none 0 0)) : Kn)) (o := ⟨some 10, _, _, _, _, _⟩) (.pointer (some ⟨u.heap.size, 0, none⟩)) _ rfl (wanted_none rfl _) (exec_alc 29 (zeroC.cells (.slice none 0 0)) rfl zC) ⟨_, rfl, hk.size, Blk.new u _ _⟩ ((Keep.refl _ u).alloc _) rfl) ?_ (fun Av a u hE hD hk hAv => v_call (o := ⟨some 33, _, _, _, _, _⟩) 15 #[.pointer (some ⟨p, 0, none⟩), o1.v] rfl (wanted_none rfl _) (exec_call 15 _ [.tmp 31, .tmp 32] _ [.pointer (some ⟨p, 0, none⟩), o1.v] Try.func15 (by kernel_rfl) (by kernel_rfl) rfl (show [a.eval (.tmp 31), a.eval (.tmp 32)] = [.pointer (some ⟨p, 0, none⟩), o1.v] from (by rw [show a.eval (.tmp 31) = .pointer (some ⟨p, 0, none⟩) from (hD 0 31 (by kernel_rfl)), show a.eval (.tmp 32) = o1.v from (hD 1 32 (by kernel_rfl))] <;> rfl)) u) (badd_knA u Av F p B o1 (x, A2) w7.heap.size HX.out (HAw7.out.kept hk) HI.out HNo.out hk.size (fun b hb => ⟨fun h => by have := HFl.out _ h; have := (hAv b hb).1; omega, (hAv b hb).2⟩))) (fun Av a u hE hD hk hAv => v_call (o := ⟨some 36, _, _, _, _, _⟩) 15 #[.pointer (some ⟨r, 0, none⟩), io.v] rfl (wanted_none rfl _) (exec_call 15 _ [.tmp 34, .tmp 35] _ [.pointer (some ⟨r, 0, none⟩), io.v] Try.func15 (by kernel_rfl) (by kernel_rfl) rfl (show [a.eval (.tmp 34), a.eval (.tmp 35)] = [.pointer (some ⟨r, 0, none⟩), io.v] from (by rw [show a.eval (.tmp 34) = .pointer (some ⟨r, 0, none⟩) from (hD 3 34 (by kernel_rfl)), show a.eval (.tmp 35) = io.v from (hD 4 35 (by kernel_rfl))] <;> rfl)) u) (badd_twoA u Av F G p r B io (x, A2) (y, B2) w7.heap.size HY.out _ (hD 2 33 (by kernel_rfl)) (HBw7.out.keep hk (fun b hb h => HD.out b h hb)) HI.out HNo.out hk.size HD.out (fun b hb => by have := HGl.out b hb; omega) hAv)) ?_
  ·intro Av i hi
   have hi2 : i = 0 ∨ i = 1 ∨ i = 3 ∨ i = 4 ∨ i = 6 ∨ i = 7 := by simpa using hi
   rcases hi2 with rfl | rfl | rfl | rfl | rfl | rfl
   ·exact Kn.safe_eq _ _
   ·exact Kn.safe_eq _ _
   ·exact Kn.safe_eq _ _
   ·exact Kn.safe_eq _ _
   ·exact Kn.safe_fresh (fun b hb h => by have := HFl.out _ h; omega)
   ·exact Kn.safe_fresh (fun b hb h => by have := HFl.out _ h; omega)
  ·intro Av i hi hAv
   have hi2 : i = 0 ∨ i = 1 ∨ i = 2 ∨ i = 3 ∨ i = 4 ∨ i = 6 ∨ i = 7 := by simpa using hi
   rcases hi2 with rfl | rfl | rfl | rfl | rfl | rfl | rfl
   ·exact Kn.safe_eq _ _
   ·exact Kn.safe_eq _ _
   ·exact Kn.safe_addA HD.out (fun b hb h => by have := HGl.out _ h; omega)
   ·exact Kn.safe_eq _ _
   ·exact Kn.safe_eq _ _
   ·exact Kn.safe_fresh (fun b hb h => by have := HGl.out _ h; omega)
   ·exact Kn.safe_fresh (fun b hb h => by have := HGl.out _ h; omega)
  ·intro Av g j v w_ hj h hg
   have hj2 : j = 0 ∨ j = 1 ∨ j = 2 ∨ j = 3 ∨ j = 4 ∨ j = 5 ∨ j = 6 ∨ j = 7 := by omega
   rcases hj2 with rfl | rfl | rfl | rfl | rfl | rfl | rfl | rfl
   ·exact h
   ·exact h
   ·exact Kn.addA_grow h hg
   ·exact h
   ·exact h
   ·exact Kn.twoA_grow h hg
   ·exact h
   ·exact h
  ·intro Av
   refine nsteps_cons 1 rfl (fun a u hE hD hk => f_val (o := ⟨some 31, _, _, _, _, _⟩) (.pointer (some ⟨p, 0, none⟩)) rfl (wanted_none rfl _) (exec_move (.tmp 5) _ rfl (hE 5 (.pointer (some ⟨p, 0, none⟩)) (by kernel_rfl) (by kernel_rfl))) rfl) ?_
   refine nsteps_cons 2 rfl (fun a u hE hD hk => f_val (o := ⟨some 32, _, _, _, _, _⟩) (o1.v) rfl (wanted_none rfl _) (exec_ldS 25 _ (.tmp 7) (g7) (0) (o1.cells) rfl (hE 7 (.pointer (some ⟨g7, 0, none⟩)) (by kernel_rfl) (by kernel_rfl)) (range_keep HO7.out hk (fun h => h.elim (fun h => by have := HFl.out _ h; omega) (fun h => by have := HGl.out _ h; omega))) Try.underlying25 (by rw [o1.len9]; exact ord_size)) rfl) ?_
   refine nsteps_turn 3 rfl (by omega) ?_
   refine nsteps_cons 4 rfl (fun a u hE hD hk => f_val (o := ⟨some 34, _, _, _, _, _⟩) (.pointer (some ⟨r, 0, none⟩)) rfl (wanted_none rfl _) (exec_move (.tmp 6) _ rfl (hE 6 (.pointer (some ⟨r, 0, none⟩)) (by kernel_rfl) (by kernel_rfl))) rfl) ?_
   refine nsteps_cons 5 rfl (fun a u hE hD hk => f_val (o := ⟨some 35, _, _, _, _, _⟩) (io.v) rfl (wanted_none rfl _) (exec_ldS 25 _ (.tmp 8) (g8) (0) (io.cells) rfl (hE 8 (.pointer (some ⟨g8, 0, none⟩)) (by kernel_rfl) (by kernel_rfl)) (range_keep HP7.out hk (fun h => h.elim (fun h => by have := HFl.out _ h; omega) (fun h => by have := HGl.out _ h; omega))) Try.underlying25 (by rw [io.len9]; exact ord_size)) rfl) ?_
   refine nsteps_turn 6 rfl (by omega) ?_
   refine nsteps_turn 7 rfl (by omega) ?_
   refine nsteps_turn 8 rfl (by omega) ?_
   exact nsteps_nil
  intro Av gv w8a hV Kw8a hAx hAy hUN
  replace hUN := hUN 9 10 (by kernel_rfl) (by kernel_rfl)
  replace hAx := fun b => hAx 9 b (by kernel_rfl)
  replace hAy := fun b => hAy 10 b (by kernel_rfl)
  rw [show dstsOf _ 8 = [31, 32, 33, 34, 35, 36, 9, 10] by kernel_rfl]
  simp only [fC, fN, sA, sS, sZ, dS, dZ]
  have hv9 : (.fresh w7.heap.size 29 (zeroC.cells (.slice none 0 0)) : Kn).p (gv 9) w8a := hV 6 9 (by kernel_rfl)
  generalize gv 9 = v9 at hv9 hUN hAx ⊢
  have hv33 : (.addA w7.heap.size Av F p (x, A2) : Kn).p (gv 33) w8a := hV 2 33 (by kernel_rfl)
  generalize gv 33 = v33 at hv33 ⊢
  have hv10 : (.fresh w7.heap.size 29 (zeroC.cells (.slice none 0 0)) : Kn).p (gv 10) w8a := hV 7 10 (by kernel_rfl)
  generalize gv 10 = v10 at hv10 hUN hAy ⊢
  have hv36 : (.twoA w7.heap.size Av F G p r (x, A2) (y, B2) : Kn).p (gv 36) w8a := hV 5 36 (by kernel_rfl)
  generalize gv 36 = v36 at hv36 ⊢
  clear hV
  obtain ⟨_, vx, rfl, _, hSx, hOx, _, _⟩ := hv33
  obtain ⟨F', G', vy, rfl, hA', hB', hSy, hOy, hF', hG', hD', hV'⟩ := hv36
  obtain ⟨g9, rfl, hg9, hBx⟩ := hv9
  obtain ⟨g10, rfl, hg10, hBy⟩ := hv10
  have hxy : g9 ≠ g10 := fun h => hUN (by rw [h])
  have hAvx := hAx _ rfl
  have hAvy := hAy _ rfl
  refine l_setS (o := ⟨none, _, _, _, _, _⟩) 29 g9 29 (zeroC.cells (.slice none 0 0)) (x.cells vx) (.tmp 9) (.tmp 33) rfl rfl (by kernel_rfl) (by kernel_rfl) (hBx) (by rw [Oc.len15]; exact szC) (by rw [Oc.len15, Oc.len15]) (Oc.one _ _ (sl_onec hSx)) ?_
  intro w8b hCw8b hkw8b hsw8b
  simp only [Act.put]
  refine l_setS (o := ⟨none, _, _, _, _, _⟩) 29 g10 29 (zeroC.cells (.slice none 0 0)) (y.cells vy) (.tmp 10) (.tmp 36) rfl rfl (by kernel_rfl) (by kernel_rfl) (hBy.keep hkw8b (fun h => hxy h.symm)) (by rw [Oc.len15]; exact szC) (by rw [Oc.len15, Oc.len15]) (Oc.one _ _ (sl_onec hSy)) ?_
  intro w8 hCw8 hkw8 hsw8
  simp only [Act.put]
  refine wpList_nil ?_
  have Kw8 : Keep (Both F G) w7 w8 := (Kw8a.new hkw8b (by omega)).new hkw8 (by omega)
  have HAw8 : Hid (Bk w8 F' p A2) := (hA'.keep hkw8b (fun b hb e => (hV' _ hAvx).1 (by have e' : b = g9 := e; rw [← e']; exact hb))).keep hkw8 (fun b hb e => (hV' _ hAvy).1 (by have e' : b = g10 := e; rw [← e']; exact hb))
  have HBw8 : Hid (Bk w8 G' r B2) := (hB'.keep hkw8b (fun b hb e => (hV' _ hAvx).2 (by have e' : b = g9 := e; rw [← e']; exact hb))).keep hkw8 (fun b hb e => (hV' _ hAvy).2 (by have e' : b = g10 := e; rw [← e']; exact hb))
  have HSxw8 : Hid (Sl w8 36 21 vx x.f.length (fls x.f)) := (hSx.keep hkw8b (fun b hb e => (hOx b hb).2.2 (by have e' : b = g9 := e; rw [e']; exact hAvx))).keep hkw8 (fun b hb e => (hOx b hb).2.2 (by have e' : b = g10 := e; rw [e']; exact hAvy))
  have HSyw8 : Hid (Sl w8 36 21 vy y.f.length (fls y.f)) := (hSy.keep hkw8b (fun b hb e => (hOy b hb).2.2.2 (by have e' : b = g9 := e; rw [e']; exact hAvx))).keep hkw8 (fun b hb e => (hOy b hb).2.2.2 (by have e' : b = g10 := e; rw [e']; exact hAvy))
  have HCxw8 : Hid (Blk w8 g9 29 (x.cells vx)) := hCw8b.keep hkw8 (fun h => hxy h)
  have HCyw8 : Hid (Blk w8 g10 29 (y.cells vy)) := hCw8
  have HFw8 : Hid (∀ b, F' b → F b ∨ w7.heap.size ≤ b) := hF'
  have HGw8 : Hid (∀ b, G' b → G b ∨ w7.heap.size ≤ b) := hG'
  have HVw8 : Hid ((¬ F' g9 ∧ ¬ G' g9) ∧ ¬ F' g10 ∧ ¬ G' g10) := ⟨hV' _ hAvx, hV' _ hAvy⟩
  have HDw8 := Lib.hid hD'
  have zw8 := Kw8.size
  clear hSx hOx hA' hB' hSy hOy hF' hG' hD' hV' hBx hBy hAx hAy hUN hCw8b hkw8b hsw8b hCw8 hkw8 hsw8 Kw8a hAvx hAvy
  have HO8 : Hid (w8.rangeAt g7 0 o1.cells) := range_keep HO7.out Kw8 (fun h => h.elim (fun h => by have := HFl.out _ h; omega) (fun h => by have := HGl.out _ h; omega))
  have kw8 : Kept w w8 := Keep.trans kw7 Kw8 (fun b hb h => h.elim (fun h => by have := HFg.out b h; omega) (fun h => by have := HGg.out b h; omega))
  have HG8 : Hid (∀ b, F' b → w.heap.size ≤ b) := fun b hb => (HFw8.out b hb).elim (fun h => by have := HFg.out b h; omega) (fun h => by omega)
  have hF7 : ¬ F' g7 := fun h => (HFw8.out g7 h).elim (fun h => by have := HFl.out _ h; omega) (fun h => by omega)
  clear HO7 HP7 HAw7 HBw7 kw7 kv7 Kw8 HX HY
  by_cases he : x.err = 0
  ·skip
   go_upto_region 11 with fail
   refine wp_text 3 [.eq (.pointer (some ⟨g9, 14, none⟩)), .eq (.int .i64 x.err), .eq (.bool false)] rfl (by kernel_rfl) ?_ ?_
   ·refine sv 1 rfl rfl rfl (fun a u hE hD hk => exec_fldo 29 6 14 (.tmp 9) (g9) (0) (14) rfl (hE 9 (.pointer (some ⟨g9, 0, none⟩)) (by kernel_rfl) (by kernel_rfl)) (by kernel_rfl) rfl) ?_
    refine sv 2 rfl rfl rfl (fun a u hE hD hk => exec_loadi 27 Try.underlying27 (.tmp 37) ⟨g9, 14, none⟩ (.int .i64 x.err) rfl (hD 0 37 (by kernel_rfl)) (by rw [(HCxw8.out.kept hk).cell]; rfl)) ?_
    refine fsteps_cons 3 rfl (fun a u hE hD hk => f_as (show ((decide ((x.err : Int) ≠ (0 : Int))) : Bool) = false from decide_eq_false (fun h => h he)) (f_val (o := ⟨some 39, _, _, _, _, _⟩) (.bool (decide ((x.err : Int) ≠ (0 : Int)))) rfl (wanted_none rfl _) (exec_nen (p := x.err) (q := 0) rfl (hD 1 38 (by kernel_rfl)) rfl) rfl)) ?_
    exact fsteps_nil
   intro gv w9 hV k9
   rw [show dstsOf _ 3 = [37, 38, 39] by kernel_rfl]
   simp only [fC, fN, sA, sS, sZ, dS, dZ]
   rw [show gv 39 = .bool false from hV 2 39 (by kernel_rfl)]
   clear hV
   refine wpList_nil ?_
   have kw9 := kw8.trans k9
   have HCx9 := Lib.hid (HCxw8.out.kept k9)
   have HCy9 := Lib.hid (HCyw8.out.kept k9)
   by_cases hrs : x.rests = true
   ·skip
    have HA9 := Lib.hid (HAw8.out.kept k9)
    have HB9 := Lib.hid (HBw8.out.kept k9)
    have HSx9 := Lib.hid (HSxw8.out.kept k9)
    have HSy9 := Lib.hid (HSyw8.out.kept k9)
    have HO9 := Lib.hid (range_kept HO8.out k9)
    clear HAw8 HBw8 HSxw8 HSyw8 HO8 HCxw8 HCyw8 k9 kw8
    go_upto_region 13 with fail
    refine wp_text 2 [.eq (.pointer (some ⟨g9, 11, none⟩)), .eq (.bool true)] rfl (by kernel_rfl) ?_ ?_
    ·refine sv 1 rfl rfl rfl (fun a u hE hD hk => exec_fldo 29 3 11 (.tmp 9) (g9) (0) (11) rfl (hE 9 (.pointer (some ⟨g9, 0, none⟩)) (by kernel_rfl) (by kernel_rfl)) (by kernel_rfl) rfl) ?_
     refine fsteps_cons 2 rfl (fun a u hE hD hk => f_as (show (x.rests : Bool) = true from hrs) (f_val (o := ⟨some 62, _, _, _, _, _⟩) (.bool x.rests) rfl (wanted_none rfl _) (exec_ldb 4 Try.underlying4 (.tmp 61) ⟨g9, 11, none⟩ (.bool x.rests) rfl (hD 0 61 (by kernel_rfl)) (by rw [(HCx9.out.kept hk).cell]; rfl)) rfl)) ?_
     exact fsteps_nil
    intro gv w10 hV k10
    rw [show dstsOf _ 2 = [61, 62] by kernel_rfl]
    simp only [fC, fN, sA, sS, sZ, dS, dZ]
    rw [show gv 62 = .bool true from hV 1 62 (by kernel_rfl)]
    clear hV
    refine wpList_nil ?_
    have HA10 := Lib.hid (HA9.out.kept k10)
    have HB10 := Lib.hid (HB9.out.kept k10)
    have HCx10 := Lib.hid (HCx9.out.kept k10)
    have HCy10 := Lib.hid (HCy9.out.kept k10)
    have HSx10 := Lib.hid (HSx9.out.kept k10)
    have HSy10 := Lib.hid (HSy9.out.kept k10)
    have HO10 := Lib.hid (range_kept HO9.out k10)
    have kw10 := kw9.trans k10
    clear HA9 HB9 HCx9 HCy9 HSx9 HSy9 HO9 kw9 k10
    obtain ⟨z, hz⟩ := (HIO.out.yes he).2.2.2.2.2 hrs
    have HRm : Hid (∀ u, Bk u F' p A2 → Calls Try.prog 24 #[.pointer (some ⟨p, 0, none⟩), .int .i64 o1.tr, .int .i64 o1.id] u fun e w' => ∃ F2, e = .returned (.tuple #[z.v, .bool true]) ∧ Bk w' F2 p B2 ∧ Grow u F' F2 ∧ Keep F' u w') := fun u hu => by have h := bremove_any u F' p A2 o1.tr o1.id hu HI1.out; rw [show A2.remove o1.tr o1.id = (z, true, B2) from hz] at h; exact h
    clear hz
    go_upto_region 14 with fail
    refine wp_text 5 [.eq (.pointer (some ⟨p, 0, none⟩)), .eq (.pointer (some ⟨g7, 0, none⟩)), .eq (.int .i64 o1.tr), .eq (.pointer (some ⟨g7, 1, none⟩)), .eq (.int .i64 o1.id)] rfl (by kernel_rfl) ?_ ?_
    ·refine sv 1 rfl rfl rfl (fun a u hE hD hk => exec_move (.tmp 5) _ rfl (hE 5 (.pointer (some ⟨p, 0, none⟩)) (by kernel_rfl) (by kernel_rfl))) ?_
     refine sv 2 rfl rfl rfl (fun a u hE hD hk => exec_fldo 25 0 0 (.tmp 7) (g7) (0) (0) rfl (hE 7 (.pointer (some ⟨g7, 0, none⟩)) (by kernel_rfl) (by kernel_rfl)) (by kernel_rfl) rfl) ?_
     refine sv 3 rfl rfl rfl (fun a u hE hD hk => exec_loadi 3 Try.underlying3 (.tmp 64) ⟨g7, 0, none⟩ (.int .i64 o1.tr) rfl (hD 1 64 (by kernel_rfl)) (range_int (range_kept HO10.out hk) 0 _ rfl)) ?_
     refine sv 4 rfl rfl rfl (fun a u hE hD hk => exec_fldo 25 1 1 (.tmp 7) (g7) (0) (1) rfl (hE 7 (.pointer (some ⟨g7, 0, none⟩)) (by kernel_rfl) (by kernel_rfl)) (by kernel_rfl) rfl) ?_
     refine sv 5 rfl rfl rfl (fun a u hE hD hk => exec_loadi 3 Try.underlying3 (.tmp 66) ⟨g7, 1, none⟩ (.int .i64 o1.id) rfl (hD 3 66 (by kernel_rfl)) (range_int (range_kept HO10.out hk) 1 _ rfl)) ?_
     exact fsteps_nil
    intro gv w11a hV k11a
    rw [show dstsOf _ 5 = [63, 64, 65, 66, 67] by kernel_rfl]
    simp only [fC, fN, sA, sS, sZ, dS, dZ]
    rw [show gv 63 = .pointer (some ⟨p, 0, none⟩) from hV 0 63 (by kernel_rfl)]
    rw [show gv 65 = .int .i64 o1.tr from hV 2 65 (by kernel_rfl)]
    rw [show gv 67 = .int .i64 o1.id from hV 4 67 (by kernel_rfl)]
    clear hV
    refine l_call (o := ⟨some 68, _, _, _, _, _⟩) 24 #[.pointer (some ⟨p, 0, none⟩), .int .i64 o1.tr, .int .i64 o1.id] rfl (exec_call 24 _ [.tmp 63, .tmp 65, .tmp 67] _ _ Try.func24 (by kernel_rfl) (by kernel_rfl) rfl (by kernel_rfl) _) ?_
    refine (HRm.out w11a (HA10.out.kept k11a)).mono ?_
    rintro e w11 ⟨F2, rfl, hA11, hG11, hk11⟩
    refine ⟨_, rfl, ?_⟩
    simp only [Act.put, sA, sS, sZ]
    refine wpList_nil ?_
    have K11 : Keep F' w10 w11 := Keep.any k11a hk11
    have HA11 := Lib.hid hA11
    have HB11 : Hid (Bk w11 G' r B2) := HB10.out.keep K11 (fun b hb h => HDw8.out b h hb)
    have HCx11 : Hid (Blk w11 g9 29 (x.cells vx)) := HCx10.out.keep K11 HVw8.out.1.1
    have HCy11 : Hid (Blk w11 g10 29 (y.cells vy)) := HCy10.out.keep K11 HVw8.out.2.1
    have kw11 : Kept w w11 := Keep.trans kw10 K11 (fun b hb h => by have := HG8.out b h; omega)
    clear hA11 hG11 hk11 K11 k11a HA10 HB10 HCx10 HCy10 HO10 kw10 HRm
    obtain ⟨ey, el, es, eln, _, _⟩ := HIO.out.yes he
    obtain ⟨X, hX⟩ : ∃ X, ordsL (B2.sd 1) = X := ⟨_, rfl⟩
    obtain ⟨Y, hY⟩ : ∃ Y, ordsL (B2.sd 2) = Y := ⟨_, rfl⟩
    have HXe := Lib.hid hX
    have HYe := Lib.hid hY
    have HXl : Hid (X.length ≤ 64 ∧ Y.length ≤ 64) := by
     have h1 := HI2.out.two.few
     have h2 : X.length = (entL B2.buys).length := by rw [← hX, ordsL_len]; rfl
     have h3 : Y.length = (entL B2.sells).length := by rw [← hY, ordsL_len]; rfl
     show _ ∧ _
     omega
    have hln : (x.f.length : Int) = (y.f.length : Int) := by have : x.f.length = y.f.length := eln; omega
    clear hX hY eln
    go_upto_region 15 with fail
    refine wp_text 57 [.eq (.pointer (some ⟨g10, 14, none⟩)), .eq (.int .i64 y.err), .eq (.bool true), .eq (.bool true), .eq (.pointer (some ⟨g9, 10, none⟩)), .eq (.int .i64 x.left), .eq (.pointer (some ⟨g10, 10, none⟩)), .eq (.int .i64 y.left), .eq (.bool true), .eq (.bool true), .eq (.bool true), .eq (.pointer (some ⟨g9, 13, none⟩)), .eq (.bool x.self), .eq (.pointer (some ⟨g10, 13, none⟩)), .eq (.bool y.self), .eq (.bool true), .eq (.bool true), .eq (.bool true), .eq (.pointer (some ⟨g9, 9, none⟩)), .eq (vx), .eq (.int .i64 (x.f.length : Int)), .eq (.pointer (some ⟨g10, 9, none⟩)), .eq (vy), .eq (.int .i64 (y.f.length : Int)), .eq (.bool true), .eq (.bool true), .eq (.bool true), .eq (.pointer (some ⟨p, 0, none⟩)), .sl 0 25 9 X.length (ords X), .eq (.pointer (some ⟨r, 0, none⟩)), .sl 0 25 9 X.length (ords X), .eq (.bool true), .eq (.bool true), .eq (.bool true), .eq (.pointer (some ⟨p, 0, none⟩)), .sl 0 25 9 Y.length (ords Y), .eq (.pointer (some ⟨r, 0, none⟩)), .sl 0 25 9 Y.length (ords Y), .eq (.bool true), .eq (.bool true), .eq (.bool true), .eq (.pointer (some ⟨p, 0, none⟩)), .eq (.int .i64 B2.last), .eq (.pointer (some ⟨r, 0, none⟩)), .eq (.int .i64 B2.last), .eq (.bool true), .eq (.bool true), .eq (.bool true), .eq (.pointer (some ⟨p, 0, none⟩)), .eq (.int .i64 B2.no), .eq (.pointer (some ⟨r, 0, none⟩)), .eq (.int .i64 B2.no), .eq (.bool true), .eq (.bool true), .eq (.bool true), .eq (.bool true), .eq (.bool true)] rfl (by kernel_rfl) ?_ ?_
    ·refine sv 1 rfl rfl rfl (fun a u hE hD hk => exec_fldo 29 6 14 (.tmp 10) (g10) (0) (14) rfl (hE 10 (.pointer (some ⟨g10, 0, none⟩)) (by kernel_rfl) (by kernel_rfl)) (by kernel_rfl) rfl) ?_
     refine sv 2 rfl rfl rfl (fun a u hE hD hk => exec_loadi 27 Try.underlying27 (.tmp 69) ⟨g10, 14, none⟩ (.int .i64 y.err) rfl (hD 0 69 (by kernel_rfl)) (by rw [(HCy11.out.kept hk).cell]; rfl)) ?_
     refine fsteps_cons 3 rfl (fun a u hE hD hk => f_as (show ((decide ((y.err : Int) = (0 : Int))) : Bool) = true from decide_eq_true ey) (f_val (o := ⟨some 71, _, _, _, _, _⟩) (.bool (decide ((y.err : Int) = (0 : Int)))) rfl (wanted_none rfl _) (exec_eqn (p := y.err) (q := 0) rfl (hD 1 70 (by kernel_rfl)) rfl) rfl)) ?_
     refine sv 4 rfl rfl rfl (fun a u hE hD hk => exec_move (.tmp 71) _ rfl (hD 2 71 (by kernel_rfl))) ?_
     refine fsteps_cons 5 rfl (fun a u hE hD hk => f_val (o := ⟨some 73, _, _, _, _, _⟩) (.pointer (some ⟨g9, 10, none⟩)) rfl (wanted_at (b := true) true rfl rfl (hD 3 72 (by kernel_rfl))) (exec_fldo 29 2 10 (.tmp 9) (g9) (0) (10) rfl (hE 9 (.pointer (some ⟨g9, 0, none⟩)) (by kernel_rfl) (by kernel_rfl)) (by kernel_rfl) rfl) rfl) ?_
     refine fsteps_cons 6 rfl (fun a u hE hD hk => f_val (o := ⟨some 74, _, _, _, _, _⟩) (.int .i64 x.left) rfl (wanted_at (b := true) true rfl rfl (hD 3 72 (by kernel_rfl))) (exec_loadi 3 Try.underlying3 (.tmp 73) ⟨g9, 10, none⟩ (.int .i64 x.left) rfl (hD 4 73 (by kernel_rfl)) (by rw [(HCx11.out.kept hk).cell]; rfl)) rfl) ?_
     refine fsteps_cons 7 rfl (fun a u hE hD hk => f_val (o := ⟨some 75, _, _, _, _, _⟩) (.pointer (some ⟨g10, 10, none⟩)) rfl (wanted_at (b := true) true rfl rfl (hD 3 72 (by kernel_rfl))) (exec_fldo 29 2 10 (.tmp 10) (g10) (0) (10) rfl (hE 10 (.pointer (some ⟨g10, 0, none⟩)) (by kernel_rfl) (by kernel_rfl)) (by kernel_rfl) rfl) rfl) ?_
     refine fsteps_cons 8 rfl (fun a u hE hD hk => f_val (o := ⟨some 76, _, _, _, _, _⟩) (.int .i64 y.left) rfl (wanted_at (b := true) true rfl rfl (hD 3 72 (by kernel_rfl))) (exec_loadi 3 Try.underlying3 (.tmp 75) ⟨g10, 10, none⟩ (.int .i64 y.left) rfl (hD 6 75 (by kernel_rfl)) (by rw [(HCy11.out.kept hk).cell]; rfl)) rfl) ?_
     refine fsteps_cons 9 rfl (fun a u hE hD hk => f_as (show ((decide ((x.left : Int) = (y.left : Int))) : Bool) = true from decide_eq_true el) (f_val (o := ⟨some 77, _, _, _, _, _⟩) (.bool (decide ((x.left : Int) = (y.left : Int)))) rfl (wanted_at (b := true) true rfl rfl (hD 3 72 (by kernel_rfl))) (exec_eqn (p := x.left) (q := y.left) rfl (hD 5 74 (by kernel_rfl)) (hD 7 76 (by kernel_rfl))) rfl)) ?_
     refine sv 10 rfl rfl rfl (fun a u hE hD hk => exec_pick (.tmp 72) (.tmp 77) (.const (.bool false)) (.bool true) rfl (hD 3 72 (by kernel_rfl)) (hD 8 77 (by kernel_rfl))) ?_
     refine sv 11 rfl rfl rfl (fun a u hE hD hk => exec_move (.tmp 78) _ rfl (hD 9 78 (by kernel_rfl))) ?_
     refine fsteps_cons 12 rfl (fun a u hE hD hk => f_val (o := ⟨some 80, _, _, _, _, _⟩) (.pointer (some ⟨g9, 13, none⟩)) rfl (wanted_at (b := true) true rfl rfl (hD 10 79 (by kernel_rfl))) (exec_fldo 29 5 13 (.tmp 9) (g9) (0) (13) rfl (hE 9 (.pointer (some ⟨g9, 0, none⟩)) (by kernel_rfl) (by kernel_rfl)) (by kernel_rfl) rfl) rfl) ?_
     refine fsteps_cons 13 rfl (fun a u hE hD hk => f_val (o := ⟨some 81, _, _, _, _, _⟩) (.bool x.self) rfl (wanted_at (b := true) true rfl rfl (hD 10 79 (by kernel_rfl))) (exec_ldb 4 Try.underlying4 (.tmp 80) ⟨g9, 13, none⟩ (.bool x.self) rfl (hD 11 80 (by kernel_rfl)) (by rw [(HCx11.out.kept hk).cell]; rfl)) rfl) ?_
     refine fsteps_cons 14 rfl (fun a u hE hD hk => f_val (o := ⟨some 82, _, _, _, _, _⟩) (.pointer (some ⟨g10, 13, none⟩)) rfl (wanted_at (b := true) true rfl rfl (hD 10 79 (by kernel_rfl))) (exec_fldo 29 5 13 (.tmp 10) (g10) (0) (13) rfl (hE 10 (.pointer (some ⟨g10, 0, none⟩)) (by kernel_rfl) (by kernel_rfl)) (by kernel_rfl) rfl) rfl) ?_
     refine fsteps_cons 15 rfl (fun a u hE hD hk => f_val (o := ⟨some 83, _, _, _, _, _⟩) (.bool y.self) rfl (wanted_at (b := true) true rfl rfl (hD 10 79 (by kernel_rfl))) (exec_ldb 4 Try.underlying4 (.tmp 82) ⟨g10, 13, none⟩ (.bool y.self) rfl (hD 13 82 (by kernel_rfl)) (by rw [(HCy11.out.kept hk).cell]; rfl)) rfl) ?_
     refine fsteps_cons 16 rfl (fun a u hE hD hk => f_val (o := ⟨some 84, _, _, _, _, _⟩) (.bool true) rfl (wanted_at (b := true) true rfl rfl (hD 10 79 (by kernel_rfl))) (exec_eqb (.tmp 81) (.tmp 83) _ x.self y.self true rfl (hD 12 81 (by kernel_rfl)) (hD 14 83 (by kernel_rfl)) (by rw [show x.self = y.self from es]; simp)) rfl) ?_
     refine sv 17 rfl rfl rfl (fun a u hE hD hk => exec_pick (.tmp 79) (.tmp 84) (.const (.bool false)) (.bool true) rfl (hD 10 79 (by kernel_rfl)) (hD 15 84 (by kernel_rfl))) ?_
     refine sv 18 rfl rfl rfl (fun a u hE hD hk => exec_move (.tmp 85) _ rfl (hD 16 85 (by kernel_rfl))) ?_
     refine fsteps_cons 19 rfl (fun a u hE hD hk => f_val (o := ⟨some 87, _, _, _, _, _⟩) (.pointer (some ⟨g9, 9, none⟩)) rfl (wanted_at (b := true) true rfl rfl (hD 17 86 (by kernel_rfl))) (exec_fldo 29 1 9 (.tmp 9) (g9) (0) (9) rfl (hE 9 (.pointer (some ⟨g9, 0, none⟩)) (by kernel_rfl) (by kernel_rfl)) (by kernel_rfl) rfl) rfl) ?_
     refine fsteps_cons 20 rfl (fun a u hE hD hk => f_val (o := ⟨some 88, _, _, _, _, _⟩) (vx) rfl (wanted_at (b := true) true rfl rfl (hD 17 86 (by kernel_rfl))) (exec_ldv 26 _ Try.underlying26 (.tmp 87) ⟨g9, 9, none⟩ (vx) rfl (hD 18 87 (by kernel_rfl)) (by rw [(HCx11.out.kept hk).cell]; rfl)) rfl) ?_
     refine fsteps_cons 21 rfl (fun a u hE hD hk => f_val (o := ⟨some 89, _, _, _, _, _⟩) (.int .i64 (x.f.length : Int)) rfl (wanted_at (b := true) true rfl rfl (hD 17 86 (by kernel_rfl))) (exec_lenS (.tmp 88) slF (vx) (x.f.length) _ _ rfl (hD 19 88 (by kernel_rfl)) HSx10.out) rfl) ?_
     refine fsteps_cons 22 rfl (fun a u hE hD hk => f_val (o := ⟨some 90, _, _, _, _, _⟩) (.pointer (some ⟨g10, 9, none⟩)) rfl (wanted_at (b := true) true rfl rfl (hD 17 86 (by kernel_rfl))) (exec_fldo 29 1 9 (.tmp 10) (g10) (0) (9) rfl (hE 10 (.pointer (some ⟨g10, 0, none⟩)) (by kernel_rfl) (by kernel_rfl)) (by kernel_rfl) rfl) rfl) ?_
     refine fsteps_cons 23 rfl (fun a u hE hD hk => f_val (o := ⟨some 91, _, _, _, _, _⟩) (vy) rfl (wanted_at (b := true) true rfl rfl (hD 17 86 (by kernel_rfl))) (exec_ldv 26 _ Try.underlying26 (.tmp 90) ⟨g10, 9, none⟩ (vy) rfl (hD 21 90 (by kernel_rfl)) (by rw [(HCy11.out.kept hk).cell]; rfl)) rfl) ?_
     refine fsteps_cons 24 rfl (fun a u hE hD hk => f_val (o := ⟨some 92, _, _, _, _, _⟩) (.int .i64 (y.f.length : Int)) rfl (wanted_at (b := true) true rfl rfl (hD 17 86 (by kernel_rfl))) (exec_lenS (.tmp 91) slF (vy) (y.f.length) _ _ rfl (hD 22 91 (by kernel_rfl)) HSy10.out) rfl) ?_
     refine fsteps_cons 25 rfl (fun a u hE hD hk => f_as (show ((decide (((x.f.length : Int) : Int) = ((y.f.length : Int) : Int))) : Bool) = true from decide_eq_true hln) (f_val (o := ⟨some 93, _, _, _, _, _⟩) (.bool (decide (((x.f.length : Int) : Int) = ((y.f.length : Int) : Int)))) rfl (wanted_at (b := true) true rfl rfl (hD 17 86 (by kernel_rfl))) (exec_eqn (p := (x.f.length : Int)) (q := (y.f.length : Int)) rfl (hD 20 89 (by kernel_rfl)) (hD 23 92 (by kernel_rfl))) rfl)) ?_
     refine sv 26 rfl rfl rfl (fun a u hE hD hk => exec_pick (.tmp 86) (.tmp 93) (.const (.bool false)) (.bool true) rfl (hD 17 86 (by kernel_rfl)) (hD 24 93 (by kernel_rfl))) ?_
     refine sv 27 rfl rfl rfl (fun a u hE hD hk => exec_move (.tmp 94) _ rfl (hD 25 94 (by kernel_rfl))) ?_
     refine fsteps_cons 28 rfl (fun a u hE hD hk => f_val (o := ⟨some 96, _, _, _, _, _⟩) (.pointer (some ⟨p, 0, none⟩)) rfl (wanted_at (b := true) true rfl rfl (hD 26 95 (by kernel_rfl))) (exec_move (.tmp 5) _ rfl (hE 5 (.pointer (some ⟨p, 0, none⟩)) (by kernel_rfl) (by kernel_rfl))) rfl) ?_
     refine fsteps_cons 29 rfl (fun a u hE hD hk => f_call (o := ⟨some 97, _, _, _, _, _⟩) 32 #[.pointer (some ⟨p, 0, none⟩), .int .i64 1] rfl (wanted_at (b := true) true rfl rfl (hD 26 95 (by kernel_rfl))) (exec_call 32 _ [.tmp 96, .const (.int .i64 1)] _ [.pointer (some ⟨p, 0, none⟩), .int .i64 1] Try.func32 (by kernel_rfl) (by kernel_rfl) rfl (show [a.eval (.tmp 96), a.eval (.const (.int .i64 1))] = [.pointer (some ⟨p, 0, none⟩), .int .i64 1] from (by rw [show a.eval (.tmp 96) = .pointer (some ⟨p, 0, none⟩) from (hD 27 96 (by kernel_rfl))] <;> rfl)) u) ((by have h := (borders_any u F2 p B2 1 (HA11.out.kept hk) HI2.out).base (Nat.zero_le _); rw [HXe.out] at h; exact h))) ?_
     refine fsteps_cons 30 rfl (fun a u hE hD hk => f_val (o := ⟨some 98, _, _, _, _, _⟩) (.pointer (some ⟨r, 0, none⟩)) rfl (wanted_at (b := true) true rfl rfl (hD 26 95 (by kernel_rfl))) (exec_move (.tmp 6) _ rfl (hE 6 (.pointer (some ⟨r, 0, none⟩)) (by kernel_rfl) (by kernel_rfl))) rfl) ?_
     refine fsteps_cons 31 rfl (fun a u hE hD hk => f_call (o := ⟨some 99, _, _, _, _, _⟩) 32 #[.pointer (some ⟨r, 0, none⟩), .int .i64 1] rfl (wanted_at (b := true) true rfl rfl (hD 26 95 (by kernel_rfl))) (exec_call 32 _ [.tmp 98, .const (.int .i64 1)] _ [.pointer (some ⟨r, 0, none⟩), .int .i64 1] Try.func32 (by kernel_rfl) (by kernel_rfl) rfl (show [a.eval (.tmp 98), a.eval (.const (.int .i64 1))] = [.pointer (some ⟨r, 0, none⟩), .int .i64 1] from (by rw [show a.eval (.tmp 98) = .pointer (some ⟨r, 0, none⟩) from (hD 29 98 (by kernel_rfl))] <;> rfl)) u) ((by have h := (borders_any u G' r B2 1 (HB11.out.kept hk) HI2.out).base (Nat.zero_le _); rw [HXe.out] at h; exact h))) ?_
     refine fsteps_cons 32 rfl (fun a u hE hD hk => f_call (o := ⟨some 100, _, _, _, _, _⟩) 37 #[a.eval (.tmp 97), a.eval (.tmp 99)] rfl (wanted_at (b := true) true rfl rfl (hD 26 95 (by kernel_rfl))) (exec_call 37 _ [.tmp 97, .tmp 99] _ [a.eval (.tmp 97), a.eval (.tmp 99)] Try.func37 (by kernel_rfl) (by kernel_rfl) rfl rfl u) ((by have h := sameO_any (a.eval (.tmp 97)) (a.eval (.tmp 99)) 0 0 X X u (hD 28 97 (by kernel_rfl)).1 (hD 30 99 (by kernel_rfl)).1 (by have := HXl.out; omega) (by have := HXl.out; omega); rwa [decide_eq_true rfl] at h))) ?_
     refine sv 33 rfl rfl rfl (fun a u hE hD hk => exec_pick (.tmp 95) (.tmp 100) (.const (.bool false)) (.bool true) rfl (hD 26 95 (by kernel_rfl)) (hD 31 100 (by kernel_rfl))) ?_
     refine sv 34 rfl rfl rfl (fun a u hE hD hk => exec_move (.tmp 101) _ rfl (hD 32 101 (by kernel_rfl))) ?_
     refine fsteps_cons 35 rfl (fun a u hE hD hk => f_val (o := ⟨some 103, _, _, _, _, _⟩) (.pointer (some ⟨p, 0, none⟩)) rfl (wanted_at (b := true) true rfl rfl (hD 33 102 (by kernel_rfl))) (exec_move (.tmp 5) _ rfl (hE 5 (.pointer (some ⟨p, 0, none⟩)) (by kernel_rfl) (by kernel_rfl))) rfl) ?_
     refine fsteps_cons 36 rfl (fun a u hE hD hk => f_call (o := ⟨some 104, _, _, _, _, _⟩) 32 #[.pointer (some ⟨p, 0, none⟩), .int .i64 2] rfl (wanted_at (b := true) true rfl rfl (hD 33 102 (by kernel_rfl))) (exec_call 32 _ [.tmp 103, .const (.int .i64 2)] _ [.pointer (some ⟨p, 0, none⟩), .int .i64 2] Try.func32 (by kernel_rfl) (by kernel_rfl) rfl (show [a.eval (.tmp 103), a.eval (.const (.int .i64 2))] = [.pointer (some ⟨p, 0, none⟩), .int .i64 2] from (by rw [show a.eval (.tmp 103) = .pointer (some ⟨p, 0, none⟩) from (hD 34 103 (by kernel_rfl))] <;> rfl)) u) ((by have h := (borders_any u F2 p B2 2 (HA11.out.kept hk) HI2.out).base (Nat.zero_le _); rw [HYe.out] at h; exact h))) ?_
     refine fsteps_cons 37 rfl (fun a u hE hD hk => f_val (o := ⟨some 105, _, _, _, _, _⟩) (.pointer (some ⟨r, 0, none⟩)) rfl (wanted_at (b := true) true rfl rfl (hD 33 102 (by kernel_rfl))) (exec_move (.tmp 6) _ rfl (hE 6 (.pointer (some ⟨r, 0, none⟩)) (by kernel_rfl) (by kernel_rfl))) rfl) ?_
     refine fsteps_cons 38 rfl (fun a u hE hD hk => f_call (o := ⟨some 106, _, _, _, _, _⟩) 32 #[.pointer (some ⟨r, 0, none⟩), .int .i64 2] rfl (wanted_at (b := true) true rfl rfl (hD 33 102 (by kernel_rfl))) (exec_call 32 _ [.tmp 105, .const (.int .i64 2)] _ [.pointer (some ⟨r, 0, none⟩), .int .i64 2] Try.func32 (by kernel_rfl) (by kernel_rfl) rfl (show [a.eval (.tmp 105), a.eval (.const (.int .i64 2))] = [.pointer (some ⟨r, 0, none⟩), .int .i64 2] from (by rw [show a.eval (.tmp 105) = .pointer (some ⟨r, 0, none⟩) from (hD 36 105 (by kernel_rfl))] <;> rfl)) u) ((by have h := (borders_any u G' r B2 2 (HB11.out.kept hk) HI2.out).base (Nat.zero_le _); rw [HYe.out] at h; exact h))) ?_
     refine fsteps_cons 39 rfl (fun a u hE hD hk => f_call (o := ⟨some 107, _, _, _, _, _⟩) 37 #[a.eval (.tmp 104), a.eval (.tmp 106)] rfl (wanted_at (b := true) true rfl rfl (hD 33 102 (by kernel_rfl))) (exec_call 37 _ [.tmp 104, .tmp 106] _ [a.eval (.tmp 104), a.eval (.tmp 106)] Try.func37 (by kernel_rfl) (by kernel_rfl) rfl rfl u) ((by have h := sameO_any (a.eval (.tmp 104)) (a.eval (.tmp 106)) 0 0 Y Y u (hD 35 104 (by kernel_rfl)).1 (hD 37 106 (by kernel_rfl)).1 (by have := HXl.out; omega) (by have := HXl.out; omega); rwa [decide_eq_true rfl] at h))) ?_
     refine sv 40 rfl rfl rfl (fun a u hE hD hk => exec_pick (.tmp 102) (.tmp 107) (.const (.bool false)) (.bool true) rfl (hD 33 102 (by kernel_rfl)) (hD 38 107 (by kernel_rfl))) ?_
     refine sv 41 rfl rfl rfl (fun a u hE hD hk => exec_move (.tmp 108) _ rfl (hD 39 108 (by kernel_rfl))) ?_
     refine fsteps_cons 42 rfl (fun a u hE hD hk => f_val (o := ⟨some 110, _, _, _, _, _⟩) (.pointer (some ⟨p, 0, none⟩)) rfl (wanted_at (b := true) true rfl rfl (hD 40 109 (by kernel_rfl))) (exec_move (.tmp 5) _ rfl (hE 5 (.pointer (some ⟨p, 0, none⟩)) (by kernel_rfl) (by kernel_rfl))) rfl) ?_
     refine fsteps_cons 43 rfl (fun a u hE hD hk => f_call (o := ⟨some 111, _, _, _, _, _⟩) 18 #[.pointer (some ⟨p, 0, none⟩)] rfl (wanted_at (b := true) true rfl rfl (hD 40 109 (by kernel_rfl))) (exec_call 18 _ [.tmp 110] _ [.pointer (some ⟨p, 0, none⟩)] Try.func18 (by kernel_rfl) (by kernel_rfl) rfl (show [a.eval (.tmp 110)] = [.pointer (some ⟨p, 0, none⟩)] from (by rw [show a.eval (.tmp 110) = .pointer (some ⟨p, 0, none⟩) from (hD 41 110 (by kernel_rfl))] <;> rfl)) u) (blast_any u F2 p B2 (HA11.out.kept hk))) ?_
     refine fsteps_cons 44 rfl (fun a u hE hD hk => f_val (o := ⟨some 112, _, _, _, _, _⟩) (.pointer (some ⟨r, 0, none⟩)) rfl (wanted_at (b := true) true rfl rfl (hD 40 109 (by kernel_rfl))) (exec_move (.tmp 6) _ rfl (hE 6 (.pointer (some ⟨r, 0, none⟩)) (by kernel_rfl) (by kernel_rfl))) rfl) ?_
     refine fsteps_cons 45 rfl (fun a u hE hD hk => f_call (o := ⟨some 113, _, _, _, _, _⟩) 18 #[.pointer (some ⟨r, 0, none⟩)] rfl (wanted_at (b := true) true rfl rfl (hD 40 109 (by kernel_rfl))) (exec_call 18 _ [.tmp 112] _ [.pointer (some ⟨r, 0, none⟩)] Try.func18 (by kernel_rfl) (by kernel_rfl) rfl (show [a.eval (.tmp 112)] = [.pointer (some ⟨r, 0, none⟩)] from (by rw [show a.eval (.tmp 112) = .pointer (some ⟨r, 0, none⟩) from (hD 43 112 (by kernel_rfl))] <;> rfl)) u) (blast_any u G' r B2 (HB11.out.kept hk))) ?_
     refine fsteps_cons 46 rfl (fun a u hE hD hk => f_as (show ((decide ((B2.last : Int) = (B2.last : Int))) : Bool) = true from decide_eq_true rfl) (f_val (o := ⟨some 114, _, _, _, _, _⟩) (.bool (decide ((B2.last : Int) = (B2.last : Int)))) rfl (wanted_at (b := true) true rfl rfl (hD 40 109 (by kernel_rfl))) (exec_eqn (p := B2.last) (q := B2.last) rfl (hD 42 111 (by kernel_rfl)) (hD 44 113 (by kernel_rfl))) rfl)) ?_
     refine sv 47 rfl rfl rfl (fun a u hE hD hk => exec_pick (.tmp 109) (.tmp 114) (.const (.bool false)) (.bool true) rfl (hD 40 109 (by kernel_rfl)) (hD 45 114 (by kernel_rfl))) ?_
     refine sv 48 rfl rfl rfl (fun a u hE hD hk => exec_move (.tmp 115) _ rfl (hD 46 115 (by kernel_rfl))) ?_
     refine fsteps_cons 49 rfl (fun a u hE hD hk => f_val (o := ⟨some 117, _, _, _, _, _⟩) (.pointer (some ⟨p, 0, none⟩)) rfl (wanted_at (b := true) true rfl rfl (hD 47 116 (by kernel_rfl))) (exec_move (.tmp 5) _ rfl (hE 5 (.pointer (some ⟨p, 0, none⟩)) (by kernel_rfl) (by kernel_rfl))) rfl) ?_
     refine fsteps_cons 50 rfl (fun a u hE hD hk => f_call (o := ⟨some 118, _, _, _, _, _⟩) 19 #[.pointer (some ⟨p, 0, none⟩)] rfl (wanted_at (b := true) true rfl rfl (hD 47 116 (by kernel_rfl))) (exec_call 19 _ [.tmp 117] _ [.pointer (some ⟨p, 0, none⟩)] Try.func19 (by kernel_rfl) (by kernel_rfl) rfl (show [a.eval (.tmp 117)] = [.pointer (some ⟨p, 0, none⟩)] from (by rw [show a.eval (.tmp 117) = .pointer (some ⟨p, 0, none⟩) from (hD 48 117 (by kernel_rfl))] <;> rfl)) u) (bno_any u F2 p B2 (HA11.out.kept hk))) ?_
     refine fsteps_cons 51 rfl (fun a u hE hD hk => f_val (o := ⟨some 119, _, _, _, _, _⟩) (.pointer (some ⟨r, 0, none⟩)) rfl (wanted_at (b := true) true rfl rfl (hD 47 116 (by kernel_rfl))) (exec_move (.tmp 6) _ rfl (hE 6 (.pointer (some ⟨r, 0, none⟩)) (by kernel_rfl) (by kernel_rfl))) rfl) ?_
     refine fsteps_cons 52 rfl (fun a u hE hD hk => f_call (o := ⟨some 120, _, _, _, _, _⟩) 19 #[.pointer (some ⟨r, 0, none⟩)] rfl (wanted_at (b := true) true rfl rfl (hD 47 116 (by kernel_rfl))) (exec_call 19 _ [.tmp 119] _ [.pointer (some ⟨r, 0, none⟩)] Try.func19 (by kernel_rfl) (by kernel_rfl) rfl (show [a.eval (.tmp 119)] = [.pointer (some ⟨r, 0, none⟩)] from (by rw [show a.eval (.tmp 119) = .pointer (some ⟨r, 0, none⟩) from (hD 50 119 (by kernel_rfl))] <;> rfl)) u) (bno_any u G' r B2 (HB11.out.kept hk))) ?_
     refine fsteps_cons 53 rfl (fun a u hE hD hk => f_as (show ((decide ((B2.no : Int) = (B2.no : Int))) : Bool) = true from decide_eq_true rfl) (f_val (o := ⟨some 121, _, _, _, _, _⟩) (.bool (decide ((B2.no : Int) = (B2.no : Int)))) rfl (wanted_at (b := true) true rfl rfl (hD 47 116 (by kernel_rfl))) (exec_eqn (p := B2.no) (q := B2.no) rfl (hD 49 118 (by kernel_rfl)) (hD 51 120 (by kernel_rfl))) rfl)) ?_
     refine sv 54 rfl rfl rfl (fun a u hE hD hk => exec_pick (.tmp 116) (.tmp 121) (.const (.bool false)) (.bool true) rfl (hD 47 116 (by kernel_rfl)) (hD 52 121 (by kernel_rfl))) ?_
     refine sv 55 rfl rfl rfl (fun a u hE hD hk => exec_move (.tmp 122) _ rfl (hD 53 122 (by kernel_rfl))) ?_
     refine fsteps_cons 56 rfl (fun a u hE hD hk => f_call (o := ⟨some 124, _, _, _, _, _⟩) 3 #[] rfl (wanted_at (b := true) true rfl rfl (hD 54 123 (by kernel_rfl))) (exec_call 3 _ [] _ [] Try.func3 (by kernel_rfl) (by kernel_rfl) rfl rfl u) (bruns_gives u)) ?_
     refine sv 57 rfl rfl rfl (fun a u hE hD hk => exec_pick (.tmp 123) (.tmp 124) (.const (.bool false)) (.bool true) rfl (hD 54 123 (by kernel_rfl)) (hD 55 124 (by kernel_rfl))) ?_
     exact fsteps_nil
    intro gv wz hV kz
    rw [show dstsOf _ 57 = [69, 70, 71, 72, 73, 74, 75, 76, 77, 78, 79, 80, 81, 82, 83, 84, 85, 86, 87, 88, 89, 90, 91, 92, 93, 94, 95, 96, 97, 98, 99, 100, 101, 102, 103, 104, 105, 106, 107, 108, 109, 110, 111, 112, 113, 114, 115, 116, 117, 118, 119, 120, 121, 122, 123, 124, 125] by kernel_rfl]
    simp only [fC, fN, sA, sS, sZ, dS, dZ]
    rw [show gv 125 = .bool true from hV 56 125 (by kernel_rfl)]
    clear hV
    refine l_val (o := ⟨some 4, _, _, _, _, _⟩) (.bool true) rfl (exec_assign (.tmp 125) (.bool true) rfl (by kernel_rfl)) ?_
    simp only [Act.put, sA, sS, sZ]
    refine wpList_nil ?_
    go_wp2
    go_ret
    exact ⟨rfl, kw11.trans kz⟩
   ·skip
    have hrs : x.rests = false := by simpa using hrs
    have HA9 := Lib.hid (HAw8.out.kept k9)
    have HB9 := Lib.hid (HBw8.out.kept k9)
    have HSx9 := Lib.hid (HSxw8.out.kept k9)
    have HSy9 := Lib.hid (HSyw8.out.kept k9)
    have HO9 := Lib.hid (range_kept HO8.out k9)
    clear HAw8 HBw8 HSxw8 HSyw8 HO8 HCxw8 HCyw8 k9 kw8
    go_upto_region 13 with fail
    refine wp_text 2 [.eq (.pointer (some ⟨g9, 11, none⟩)), .eq (.bool false)] rfl (by kernel_rfl) ?_ ?_
    ·refine sv 1 rfl rfl rfl (fun a u hE hD hk => exec_fldo 29 3 11 (.tmp 9) (g9) (0) (11) rfl (hE 9 (.pointer (some ⟨g9, 0, none⟩)) (by kernel_rfl) (by kernel_rfl)) (by kernel_rfl) rfl) ?_
     refine fsteps_cons 2 rfl (fun a u hE hD hk => f_as (show (x.rests : Bool) = false from hrs) (f_val (o := ⟨some 62, _, _, _, _, _⟩) (.bool x.rests) rfl (wanted_none rfl _) (exec_ldb 4 Try.underlying4 (.tmp 61) ⟨g9, 11, none⟩ (.bool x.rests) rfl (hD 0 61 (by kernel_rfl)) (by rw [(HCx9.out.kept hk).cell]; rfl)) rfl)) ?_
     exact fsteps_nil
    intro gv w10 hV k10
    rw [show dstsOf _ 2 = [61, 62] by kernel_rfl]
    simp only [fC, fN, sA, sS, sZ, dS, dZ]
    rw [show gv 62 = .bool false from hV 1 62 (by kernel_rfl)]
    clear hV
    refine wpList_nil ?_
    have HA10 := Lib.hid (HA9.out.kept k10)
    have HB10 := Lib.hid (HB9.out.kept k10)
    have HCx10 := Lib.hid (HCx9.out.kept k10)
    have HCy10 := Lib.hid (HCy9.out.kept k10)
    have HSx10 := Lib.hid (HSx9.out.kept k10)
    have HSy10 := Lib.hid (HSy9.out.kept k10)
    have HO10 := Lib.hid (range_kept HO9.out k10)
    have kw10 := kw9.trans k10
    clear HA9 HB9 HCx9 HCy9 HSx9 HSy9 HO9 kw9 k10
    have hab : A2 = B2 := (HIO.out.yes he).2.2.2.2.1 hrs
    obtain ⟨F2, w11, HA11, HB11, HCx11, HCy11, kw11, hw11⟩ : ∃ (F2 : Nat → Prop) (w11 : World), Hid (Bk w11 F2 p B2) ∧ Hid (Bk w11 G' r B2) ∧ Hid (Blk w11 g9 29 (x.cells vx)) ∧ Hid (Blk w11 g10 29 (y.cells vy)) ∧ Kept w w11 ∧ w11 = w10 := ⟨F', w10, by rw [← hab]; exact HA10, HB10, HCx10, HCy10, kw10, rfl⟩
    rw [← hw11]
    clear hw11 HA10 HB10 HCx10 HCy10 HO10 kw10
    obtain ⟨ey, el, es, eln, _, _⟩ := HIO.out.yes he
    obtain ⟨X, hX⟩ : ∃ X, ordsL (B2.sd 1) = X := ⟨_, rfl⟩
    obtain ⟨Y, hY⟩ : ∃ Y, ordsL (B2.sd 2) = Y := ⟨_, rfl⟩
    have HXe := Lib.hid hX
    have HYe := Lib.hid hY
    have HXl : Hid (X.length ≤ 64 ∧ Y.length ≤ 64) := by
     have h1 := HI2.out.two.few
     have h2 : X.length = (entL B2.buys).length := by rw [← hX, ordsL_len]; rfl
     have h3 : Y.length = (entL B2.sells).length := by rw [← hY, ordsL_len]; rfl
     show _ ∧ _
     omega
    have hln : (x.f.length : Int) = (y.f.length : Int) := by have : x.f.length = y.f.length := eln; omega
    clear hX hY eln
    go_upto_region 15 with fail
    refine wp_text 57 [.eq (.pointer (some ⟨g10, 14, none⟩)), .eq (.int .i64 y.err), .eq (.bool true), .eq (.bool true), .eq (.pointer (some ⟨g9, 10, none⟩)), .eq (.int .i64 x.left), .eq (.pointer (some ⟨g10, 10, none⟩)), .eq (.int .i64 y.left), .eq (.bool true), .eq (.bool true), .eq (.bool true), .eq (.pointer (some ⟨g9, 13, none⟩)), .eq (.bool x.self), .eq (.pointer (some ⟨g10, 13, none⟩)), .eq (.bool y.self), .eq (.bool true), .eq (.bool true), .eq (.bool true), .eq (.pointer (some ⟨g9, 9, none⟩)), .eq (vx), .eq (.int .i64 (x.f.length : Int)), .eq (.pointer (some ⟨g10, 9, none⟩)), .eq (vy), .eq (.int .i64 (y.f.length : Int)), .eq (.bool true), .eq (.bool true), .eq (.bool true), .eq (.pointer (some ⟨p, 0, none⟩)), .sl 0 25 9 X.length (ords X), .eq (.pointer (some ⟨r, 0, none⟩)), .sl 0 25 9 X.length (ords X), .eq (.bool true), .eq (.bool true), .eq (.bool true), .eq (.pointer (some ⟨p, 0, none⟩)), .sl 0 25 9 Y.length (ords Y), .eq (.pointer (some ⟨r, 0, none⟩)), .sl 0 25 9 Y.length (ords Y), .eq (.bool true), .eq (.bool true), .eq (.bool true), .eq (.pointer (some ⟨p, 0, none⟩)), .eq (.int .i64 B2.last), .eq (.pointer (some ⟨r, 0, none⟩)), .eq (.int .i64 B2.last), .eq (.bool true), .eq (.bool true), .eq (.bool true), .eq (.pointer (some ⟨p, 0, none⟩)), .eq (.int .i64 B2.no), .eq (.pointer (some ⟨r, 0, none⟩)), .eq (.int .i64 B2.no), .eq (.bool true), .eq (.bool true), .eq (.bool true), .eq (.bool true), .eq (.bool true)] rfl (by kernel_rfl) ?_ ?_
    ·refine sv 1 rfl rfl rfl (fun a u hE hD hk => exec_fldo 29 6 14 (.tmp 10) (g10) (0) (14) rfl (hE 10 (.pointer (some ⟨g10, 0, none⟩)) (by kernel_rfl) (by kernel_rfl)) (by kernel_rfl) rfl) ?_
     refine sv 2 rfl rfl rfl (fun a u hE hD hk => exec_loadi 27 Try.underlying27 (.tmp 69) ⟨g10, 14, none⟩ (.int .i64 y.err) rfl (hD 0 69 (by kernel_rfl)) (by rw [(HCy11.out.kept hk).cell]; rfl)) ?_
     refine fsteps_cons 3 rfl (fun a u hE hD hk => f_as (show ((decide ((y.err : Int) = (0 : Int))) : Bool) = true from decide_eq_true ey) (f_val (o := ⟨some 71, _, _, _, _, _⟩) (.bool (decide ((y.err : Int) = (0 : Int)))) rfl (wanted_none rfl _) (exec_eqn (p := y.err) (q := 0) rfl (hD 1 70 (by kernel_rfl)) rfl) rfl)) ?_
     refine sv 4 rfl rfl rfl (fun a u hE hD hk => exec_move (.tmp 71) _ rfl (hD 2 71 (by kernel_rfl))) ?_
     refine fsteps_cons 5 rfl (fun a u hE hD hk => f_val (o := ⟨some 73, _, _, _, _, _⟩) (.pointer (some ⟨g9, 10, none⟩)) rfl (wanted_at (b := true) true rfl rfl (hD 3 72 (by kernel_rfl))) (exec_fldo 29 2 10 (.tmp 9) (g9) (0) (10) rfl (hE 9 (.pointer (some ⟨g9, 0, none⟩)) (by kernel_rfl) (by kernel_rfl)) (by kernel_rfl) rfl) rfl) ?_
     refine fsteps_cons 6 rfl (fun a u hE hD hk => f_val (o := ⟨some 74, _, _, _, _, _⟩) (.int .i64 x.left) rfl (wanted_at (b := true) true rfl rfl (hD 3 72 (by kernel_rfl))) (exec_loadi 3 Try.underlying3 (.tmp 73) ⟨g9, 10, none⟩ (.int .i64 x.left) rfl (hD 4 73 (by kernel_rfl)) (by rw [(HCx11.out.kept hk).cell]; rfl)) rfl) ?_
     refine fsteps_cons 7 rfl (fun a u hE hD hk => f_val (o := ⟨some 75, _, _, _, _, _⟩) (.pointer (some ⟨g10, 10, none⟩)) rfl (wanted_at (b := true) true rfl rfl (hD 3 72 (by kernel_rfl))) (exec_fldo 29 2 10 (.tmp 10) (g10) (0) (10) rfl (hE 10 (.pointer (some ⟨g10, 0, none⟩)) (by kernel_rfl) (by kernel_rfl)) (by kernel_rfl) rfl) rfl) ?_
     refine fsteps_cons 8 rfl (fun a u hE hD hk => f_val (o := ⟨some 76, _, _, _, _, _⟩) (.int .i64 y.left) rfl (wanted_at (b := true) true rfl rfl (hD 3 72 (by kernel_rfl))) (exec_loadi 3 Try.underlying3 (.tmp 75) ⟨g10, 10, none⟩ (.int .i64 y.left) rfl (hD 6 75 (by kernel_rfl)) (by rw [(HCy11.out.kept hk).cell]; rfl)) rfl) ?_
     refine fsteps_cons 9 rfl (fun a u hE hD hk => f_as (show ((decide ((x.left : Int) = (y.left : Int))) : Bool) = true from decide_eq_true el) (f_val (o := ⟨some 77, _, _, _, _, _⟩) (.bool (decide ((x.left : Int) = (y.left : Int)))) rfl (wanted_at (b := true) true rfl rfl (hD 3 72 (by kernel_rfl))) (exec_eqn (p := x.left) (q := y.left) rfl (hD 5 74 (by kernel_rfl)) (hD 7 76 (by kernel_rfl))) rfl)) ?_
     refine sv 10 rfl rfl rfl (fun a u hE hD hk => exec_pick (.tmp 72) (.tmp 77) (.const (.bool false)) (.bool true) rfl (hD 3 72 (by kernel_rfl)) (hD 8 77 (by kernel_rfl))) ?_
     refine sv 11 rfl rfl rfl (fun a u hE hD hk => exec_move (.tmp 78) _ rfl (hD 9 78 (by kernel_rfl))) ?_
     refine fsteps_cons 12 rfl (fun a u hE hD hk => f_val (o := ⟨some 80, _, _, _, _, _⟩) (.pointer (some ⟨g9, 13, none⟩)) rfl (wanted_at (b := true) true rfl rfl (hD 10 79 (by kernel_rfl))) (exec_fldo 29 5 13 (.tmp 9) (g9) (0) (13) rfl (hE 9 (.pointer (some ⟨g9, 0, none⟩)) (by kernel_rfl) (by kernel_rfl)) (by kernel_rfl) rfl) rfl) ?_
     refine fsteps_cons 13 rfl (fun a u hE hD hk => f_val (o := ⟨some 81, _, _, _, _, _⟩) (.bool x.self) rfl (wanted_at (b := true) true rfl rfl (hD 10 79 (by kernel_rfl))) (exec_ldb 4 Try.underlying4 (.tmp 80) ⟨g9, 13, none⟩ (.bool x.self) rfl (hD 11 80 (by kernel_rfl)) (by rw [(HCx11.out.kept hk).cell]; rfl)) rfl) ?_
     refine fsteps_cons 14 rfl (fun a u hE hD hk => f_val (o := ⟨some 82, _, _, _, _, _⟩) (.pointer (some ⟨g10, 13, none⟩)) rfl (wanted_at (b := true) true rfl rfl (hD 10 79 (by kernel_rfl))) (exec_fldo 29 5 13 (.tmp 10) (g10) (0) (13) rfl (hE 10 (.pointer (some ⟨g10, 0, none⟩)) (by kernel_rfl) (by kernel_rfl)) (by kernel_rfl) rfl) rfl) ?_
     refine fsteps_cons 15 rfl (fun a u hE hD hk => f_val (o := ⟨some 83, _, _, _, _, _⟩) (.bool y.self) rfl (wanted_at (b := true) true rfl rfl (hD 10 79 (by kernel_rfl))) (exec_ldb 4 Try.underlying4 (.tmp 82) ⟨g10, 13, none⟩ (.bool y.self) rfl (hD 13 82 (by kernel_rfl)) (by rw [(HCy11.out.kept hk).cell]; rfl)) rfl) ?_
     refine fsteps_cons 16 rfl (fun a u hE hD hk => f_val (o := ⟨some 84, _, _, _, _, _⟩) (.bool true) rfl (wanted_at (b := true) true rfl rfl (hD 10 79 (by kernel_rfl))) (exec_eqb (.tmp 81) (.tmp 83) _ x.self y.self true rfl (hD 12 81 (by kernel_rfl)) (hD 14 83 (by kernel_rfl)) (by rw [show x.self = y.self from es]; simp)) rfl) ?_
     refine sv 17 rfl rfl rfl (fun a u hE hD hk => exec_pick (.tmp 79) (.tmp 84) (.const (.bool false)) (.bool true) rfl (hD 10 79 (by kernel_rfl)) (hD 15 84 (by kernel_rfl))) ?_
     refine sv 18 rfl rfl rfl (fun a u hE hD hk => exec_move (.tmp 85) _ rfl (hD 16 85 (by kernel_rfl))) ?_
     refine fsteps_cons 19 rfl (fun a u hE hD hk => f_val (o := ⟨some 87, _, _, _, _, _⟩) (.pointer (some ⟨g9, 9, none⟩)) rfl (wanted_at (b := true) true rfl rfl (hD 17 86 (by kernel_rfl))) (exec_fldo 29 1 9 (.tmp 9) (g9) (0) (9) rfl (hE 9 (.pointer (some ⟨g9, 0, none⟩)) (by kernel_rfl) (by kernel_rfl)) (by kernel_rfl) rfl) rfl) ?_
     refine fsteps_cons 20 rfl (fun a u hE hD hk => f_val (o := ⟨some 88, _, _, _, _, _⟩) (vx) rfl (wanted_at (b := true) true rfl rfl (hD 17 86 (by kernel_rfl))) (exec_ldv 26 _ Try.underlying26 (.tmp 87) ⟨g9, 9, none⟩ (vx) rfl (hD 18 87 (by kernel_rfl)) (by rw [(HCx11.out.kept hk).cell]; rfl)) rfl) ?_
     refine fsteps_cons 21 rfl (fun a u hE hD hk => f_val (o := ⟨some 89, _, _, _, _, _⟩) (.int .i64 (x.f.length : Int)) rfl (wanted_at (b := true) true rfl rfl (hD 17 86 (by kernel_rfl))) (exec_lenS (.tmp 88) slF (vx) (x.f.length) _ _ rfl (hD 19 88 (by kernel_rfl)) HSx10.out) rfl) ?_
     refine fsteps_cons 22 rfl (fun a u hE hD hk => f_val (o := ⟨some 90, _, _, _, _, _⟩) (.pointer (some ⟨g10, 9, none⟩)) rfl (wanted_at (b := true) true rfl rfl (hD 17 86 (by kernel_rfl))) (exec_fldo 29 1 9 (.tmp 10) (g10) (0) (9) rfl (hE 10 (.pointer (some ⟨g10, 0, none⟩)) (by kernel_rfl) (by kernel_rfl)) (by kernel_rfl) rfl) rfl) ?_
     refine fsteps_cons 23 rfl (fun a u hE hD hk => f_val (o := ⟨some 91, _, _, _, _, _⟩) (vy) rfl (wanted_at (b := true) true rfl rfl (hD 17 86 (by kernel_rfl))) (exec_ldv 26 _ Try.underlying26 (.tmp 90) ⟨g10, 9, none⟩ (vy) rfl (hD 21 90 (by kernel_rfl)) (by rw [(HCy11.out.kept hk).cell]; rfl)) rfl) ?_
     refine fsteps_cons 24 rfl (fun a u hE hD hk => f_val (o := ⟨some 92, _, _, _, _, _⟩) (.int .i64 (y.f.length : Int)) rfl (wanted_at (b := true) true rfl rfl (hD 17 86 (by kernel_rfl))) (exec_lenS (.tmp 91) slF (vy) (y.f.length) _ _ rfl (hD 22 91 (by kernel_rfl)) HSy10.out) rfl) ?_
     refine fsteps_cons 25 rfl (fun a u hE hD hk => f_as (show ((decide (((x.f.length : Int) : Int) = ((y.f.length : Int) : Int))) : Bool) = true from decide_eq_true hln) (f_val (o := ⟨some 93, _, _, _, _, _⟩) (.bool (decide (((x.f.length : Int) : Int) = ((y.f.length : Int) : Int)))) rfl (wanted_at (b := true) true rfl rfl (hD 17 86 (by kernel_rfl))) (exec_eqn (p := (x.f.length : Int)) (q := (y.f.length : Int)) rfl (hD 20 89 (by kernel_rfl)) (hD 23 92 (by kernel_rfl))) rfl)) ?_
     refine sv 26 rfl rfl rfl (fun a u hE hD hk => exec_pick (.tmp 86) (.tmp 93) (.const (.bool false)) (.bool true) rfl (hD 17 86 (by kernel_rfl)) (hD 24 93 (by kernel_rfl))) ?_
     refine sv 27 rfl rfl rfl (fun a u hE hD hk => exec_move (.tmp 94) _ rfl (hD 25 94 (by kernel_rfl))) ?_
     refine fsteps_cons 28 rfl (fun a u hE hD hk => f_val (o := ⟨some 96, _, _, _, _, _⟩) (.pointer (some ⟨p, 0, none⟩)) rfl (wanted_at (b := true) true rfl rfl (hD 26 95 (by kernel_rfl))) (exec_move (.tmp 5) _ rfl (hE 5 (.pointer (some ⟨p, 0, none⟩)) (by kernel_rfl) (by kernel_rfl))) rfl) ?_
     refine fsteps_cons 29 rfl (fun a u hE hD hk => f_call (o := ⟨some 97, _, _, _, _, _⟩) 32 #[.pointer (some ⟨p, 0, none⟩), .int .i64 1] rfl (wanted_at (b := true) true rfl rfl (hD 26 95 (by kernel_rfl))) (exec_call 32 _ [.tmp 96, .const (.int .i64 1)] _ [.pointer (some ⟨p, 0, none⟩), .int .i64 1] Try.func32 (by kernel_rfl) (by kernel_rfl) rfl (show [a.eval (.tmp 96), a.eval (.const (.int .i64 1))] = [.pointer (some ⟨p, 0, none⟩), .int .i64 1] from (by rw [show a.eval (.tmp 96) = .pointer (some ⟨p, 0, none⟩) from (hD 27 96 (by kernel_rfl))] <;> rfl)) u) ((by have h := (borders_any u F2 p B2 1 (HA11.out.kept hk) HI2.out).base (Nat.zero_le _); rw [HXe.out] at h; exact h))) ?_
     refine fsteps_cons 30 rfl (fun a u hE hD hk => f_val (o := ⟨some 98, _, _, _, _, _⟩) (.pointer (some ⟨r, 0, none⟩)) rfl (wanted_at (b := true) true rfl rfl (hD 26 95 (by kernel_rfl))) (exec_move (.tmp 6) _ rfl (hE 6 (.pointer (some ⟨r, 0, none⟩)) (by kernel_rfl) (by kernel_rfl))) rfl) ?_
     refine fsteps_cons 31 rfl (fun a u hE hD hk => f_call (o := ⟨some 99, _, _, _, _, _⟩) 32 #[.pointer (some ⟨r, 0, none⟩), .int .i64 1] rfl (wanted_at (b := true) true rfl rfl (hD 26 95 (by kernel_rfl))) (exec_call 32 _ [.tmp 98, .const (.int .i64 1)] _ [.pointer (some ⟨r, 0, none⟩), .int .i64 1] Try.func32 (by kernel_rfl) (by kernel_rfl) rfl (show [a.eval (.tmp 98), a.eval (.const (.int .i64 1))] = [.pointer (some ⟨r, 0, none⟩), .int .i64 1] from (by rw [show a.eval (.tmp 98) = .pointer (some ⟨r, 0, none⟩) from (hD 29 98 (by kernel_rfl))] <;> rfl)) u) ((by have h := (borders_any u G' r B2 1 (HB11.out.kept hk) HI2.out).base (Nat.zero_le _); rw [HXe.out] at h; exact h))) ?_
     refine fsteps_cons 32 rfl (fun a u hE hD hk => f_call (o := ⟨some 100, _, _, _, _, _⟩) 37 #[a.eval (.tmp 97), a.eval (.tmp 99)] rfl (wanted_at (b := true) true rfl rfl (hD 26 95 (by kernel_rfl))) (exec_call 37 _ [.tmp 97, .tmp 99] _ [a.eval (.tmp 97), a.eval (.tmp 99)] Try.func37 (by kernel_rfl) (by kernel_rfl) rfl rfl u) ((by have h := sameO_any (a.eval (.tmp 97)) (a.eval (.tmp 99)) 0 0 X X u (hD 28 97 (by kernel_rfl)).1 (hD 30 99 (by kernel_rfl)).1 (by have := HXl.out; omega) (by have := HXl.out; omega); rwa [decide_eq_true rfl] at h))) ?_
     refine sv 33 rfl rfl rfl (fun a u hE hD hk => exec_pick (.tmp 95) (.tmp 100) (.const (.bool false)) (.bool true) rfl (hD 26 95 (by kernel_rfl)) (hD 31 100 (by kernel_rfl))) ?_
     refine sv 34 rfl rfl rfl (fun a u hE hD hk => exec_move (.tmp 101) _ rfl (hD 32 101 (by kernel_rfl))) ?_
     refine fsteps_cons 35 rfl (fun a u hE hD hk => f_val (o := ⟨some 103, _, _, _, _, _⟩) (.pointer (some ⟨p, 0, none⟩)) rfl (wanted_at (b := true) true rfl rfl (hD 33 102 (by kernel_rfl))) (exec_move (.tmp 5) _ rfl (hE 5 (.pointer (some ⟨p, 0, none⟩)) (by kernel_rfl) (by kernel_rfl))) rfl) ?_
     refine fsteps_cons 36 rfl (fun a u hE hD hk => f_call (o := ⟨some 104, _, _, _, _, _⟩) 32 #[.pointer (some ⟨p, 0, none⟩), .int .i64 2] rfl (wanted_at (b := true) true rfl rfl (hD 33 102 (by kernel_rfl))) (exec_call 32 _ [.tmp 103, .const (.int .i64 2)] _ [.pointer (some ⟨p, 0, none⟩), .int .i64 2] Try.func32 (by kernel_rfl) (by kernel_rfl) rfl (show [a.eval (.tmp 103), a.eval (.const (.int .i64 2))] = [.pointer (some ⟨p, 0, none⟩), .int .i64 2] from (by rw [show a.eval (.tmp 103) = .pointer (some ⟨p, 0, none⟩) from (hD 34 103 (by kernel_rfl))] <;> rfl)) u) ((by have h := (borders_any u F2 p B2 2 (HA11.out.kept hk) HI2.out).base (Nat.zero_le _); rw [HYe.out] at h; exact h))) ?_
     refine fsteps_cons 37 rfl (fun a u hE hD hk => f_val (o := ⟨some 105, _, _, _, _, _⟩) (.pointer (some ⟨r, 0, none⟩)) rfl (wanted_at (b := true) true rfl rfl (hD 33 102 (by kernel_rfl))) (exec_move (.tmp 6) _ rfl (hE 6 (.pointer (some ⟨r, 0, none⟩)) (by kernel_rfl) (by kernel_rfl))) rfl) ?_
     refine fsteps_cons 38 rfl (fun a u hE hD hk => f_call (o := ⟨some 106, _, _, _, _, _⟩) 32 #[.pointer (some ⟨r, 0, none⟩), .int .i64 2] rfl (wanted_at (b := true) true rfl rfl (hD 33 102 (by kernel_rfl))) (exec_call 32 _ [.tmp 105, .const (.int .i64 2)] _ [.pointer (some ⟨r, 0, none⟩), .int .i64 2] Try.func32 (by kernel_rfl) (by kernel_rfl) rfl (show [a.eval (.tmp 105), a.eval (.const (.int .i64 2))] = [.pointer (some ⟨r, 0, none⟩), .int .i64 2] from (by rw [show a.eval (.tmp 105) = .pointer (some ⟨r, 0, none⟩) from (hD 36 105 (by kernel_rfl))] <;> rfl)) u) ((by have h := (borders_any u G' r B2 2 (HB11.out.kept hk) HI2.out).base (Nat.zero_le _); rw [HYe.out] at h; exact h))) ?_
     refine fsteps_cons 39 rfl (fun a u hE hD hk => f_call (o := ⟨some 107, _, _, _, _, _⟩) 37 #[a.eval (.tmp 104), a.eval (.tmp 106)] rfl (wanted_at (b := true) true rfl rfl (hD 33 102 (by kernel_rfl))) (exec_call 37 _ [.tmp 104, .tmp 106] _ [a.eval (.tmp 104), a.eval (.tmp 106)] Try.func37 (by kernel_rfl) (by kernel_rfl) rfl rfl u) ((by have h := sameO_any (a.eval (.tmp 104)) (a.eval (.tmp 106)) 0 0 Y Y u (hD 35 104 (by kernel_rfl)).1 (hD 37 106 (by kernel_rfl)).1 (by have := HXl.out; omega) (by have := HXl.out; omega); rwa [decide_eq_true rfl] at h))) ?_
     refine sv 40 rfl rfl rfl (fun a u hE hD hk => exec_pick (.tmp 102) (.tmp 107) (.const (.bool false)) (.bool true) rfl (hD 33 102 (by kernel_rfl)) (hD 38 107 (by kernel_rfl))) ?_
     refine sv 41 rfl rfl rfl (fun a u hE hD hk => exec_move (.tmp 108) _ rfl (hD 39 108 (by kernel_rfl))) ?_
     refine fsteps_cons 42 rfl (fun a u hE hD hk => f_val (o := ⟨some 110, _, _, _, _, _⟩) (.pointer (some ⟨p, 0, none⟩)) rfl (wanted_at (b := true) true rfl rfl (hD 40 109 (by kernel_rfl))) (exec_move (.tmp 5) _ rfl (hE 5 (.pointer (some ⟨p, 0, none⟩)) (by kernel_rfl) (by kernel_rfl))) rfl) ?_
     refine fsteps_cons 43 rfl (fun a u hE hD hk => f_call (o := ⟨some 111, _, _, _, _, _⟩) 18 #[.pointer (some ⟨p, 0, none⟩)] rfl (wanted_at (b := true) true rfl rfl (hD 40 109 (by kernel_rfl))) (exec_call 18 _ [.tmp 110] _ [.pointer (some ⟨p, 0, none⟩)] Try.func18 (by kernel_rfl) (by kernel_rfl) rfl (show [a.eval (.tmp 110)] = [.pointer (some ⟨p, 0, none⟩)] from (by rw [show a.eval (.tmp 110) = .pointer (some ⟨p, 0, none⟩) from (hD 41 110 (by kernel_rfl))] <;> rfl)) u) (blast_any u F2 p B2 (HA11.out.kept hk))) ?_
     refine fsteps_cons 44 rfl (fun a u hE hD hk => f_val (o := ⟨some 112, _, _, _, _, _⟩) (.pointer (some ⟨r, 0, none⟩)) rfl (wanted_at (b := true) true rfl rfl (hD 40 109 (by kernel_rfl))) (exec_move (.tmp 6) _ rfl (hE 6 (.pointer (some ⟨r, 0, none⟩)) (by kernel_rfl) (by kernel_rfl))) rfl) ?_
     refine fsteps_cons 45 rfl (fun a u hE hD hk => f_call (o := ⟨some 113, _, _, _, _, _⟩) 18 #[.pointer (some ⟨r, 0, none⟩)] rfl (wanted_at (b := true) true rfl rfl (hD 40 109 (by kernel_rfl))) (exec_call 18 _ [.tmp 112] _ [.pointer (some ⟨r, 0, none⟩)] Try.func18 (by kernel_rfl) (by kernel_rfl) rfl (show [a.eval (.tmp 112)] = [.pointer (some ⟨r, 0, none⟩)] from (by rw [show a.eval (.tmp 112) = .pointer (some ⟨r, 0, none⟩) from (hD 43 112 (by kernel_rfl))] <;> rfl)) u) (blast_any u G' r B2 (HB11.out.kept hk))) ?_
     refine fsteps_cons 46 rfl (fun a u hE hD hk => f_as (show ((decide ((B2.last : Int) = (B2.last : Int))) : Bool) = true from decide_eq_true rfl) (f_val (o := ⟨some 114, _, _, _, _, _⟩) (.bool (decide ((B2.last : Int) = (B2.last : Int)))) rfl (wanted_at (b := true) true rfl rfl (hD 40 109 (by kernel_rfl))) (exec_eqn (p := B2.last) (q := B2.last) rfl (hD 42 111 (by kernel_rfl)) (hD 44 113 (by kernel_rfl))) rfl)) ?_
     refine sv 47 rfl rfl rfl (fun a u hE hD hk => exec_pick (.tmp 109) (.tmp 114) (.const (.bool false)) (.bool true) rfl (hD 40 109 (by kernel_rfl)) (hD 45 114 (by kernel_rfl))) ?_
     refine sv 48 rfl rfl rfl (fun a u hE hD hk => exec_move (.tmp 115) _ rfl (hD 46 115 (by kernel_rfl))) ?_
     refine fsteps_cons 49 rfl (fun a u hE hD hk => f_val (o := ⟨some 117, _, _, _, _, _⟩) (.pointer (some ⟨p, 0, none⟩)) rfl (wanted_at (b := true) true rfl rfl (hD 47 116 (by kernel_rfl))) (exec_move (.tmp 5) _ rfl (hE 5 (.pointer (some ⟨p, 0, none⟩)) (by kernel_rfl) (by kernel_rfl))) rfl) ?_
     refine fsteps_cons 50 rfl (fun a u hE hD hk => f_call (o := ⟨some 118, _, _, _, _, _⟩) 19 #[.pointer (some ⟨p, 0, none⟩)] rfl (wanted_at (b := true) true rfl rfl (hD 47 116 (by kernel_rfl))) (exec_call 19 _ [.tmp 117] _ [.pointer (some ⟨p, 0, none⟩)] Try.func19 (by kernel_rfl) (by kernel_rfl) rfl (show [a.eval (.tmp 117)] = [.pointer (some ⟨p, 0, none⟩)] from (by rw [show a.eval (.tmp 117) = .pointer (some ⟨p, 0, none⟩) from (hD 48 117 (by kernel_rfl))] <;> rfl)) u) (bno_any u F2 p B2 (HA11.out.kept hk))) ?_
     refine fsteps_cons 51 rfl (fun a u hE hD hk => f_val (o := ⟨some 119, _, _, _, _, _⟩) (.pointer (some ⟨r, 0, none⟩)) rfl (wanted_at (b := true) true rfl rfl (hD 47 116 (by kernel_rfl))) (exec_move (.tmp 6) _ rfl (hE 6 (.pointer (some ⟨r, 0, none⟩)) (by kernel_rfl) (by kernel_rfl))) rfl) ?_
     refine fsteps_cons 52 rfl (fun a u hE hD hk => f_call (o := ⟨some 120, _, _, _, _, _⟩) 19 #[.pointer (some ⟨r, 0, none⟩)] rfl (wanted_at (b := true) true rfl rfl (hD 47 116 (by kernel_rfl))) (exec_call 19 _ [.tmp 119] _ [.pointer (some ⟨r, 0, none⟩)] Try.func19 (by kernel_rfl) (by kernel_rfl) rfl (show [a.eval (.tmp 119)] = [.pointer (some ⟨r, 0, none⟩)] from (by rw [show a.eval (.tmp 119) = .pointer (some ⟨r, 0, none⟩) from (hD 50 119 (by kernel_rfl))] <;> rfl)) u) (bno_any u G' r B2 (HB11.out.kept hk))) ?_
     refine fsteps_cons 53 rfl (fun a u hE hD hk => f_as (show ((decide ((B2.no : Int) = (B2.no : Int))) : Bool) = true from decide_eq_true rfl) (f_val (o := ⟨some 121, _, _, _, _, _⟩) (.bool (decide ((B2.no : Int) = (B2.no : Int)))) rfl (wanted_at (b := true) true rfl rfl (hD 47 116 (by kernel_rfl))) (exec_eqn (p := B2.no) (q := B2.no) rfl (hD 49 118 (by kernel_rfl)) (hD 51 120 (by kernel_rfl))) rfl)) ?_
     refine sv 54 rfl rfl rfl (fun a u hE hD hk => exec_pick (.tmp 116) (.tmp 121) (.const (.bool false)) (.bool true) rfl (hD 47 116 (by kernel_rfl)) (hD 52 121 (by kernel_rfl))) ?_
     refine sv 55 rfl rfl rfl (fun a u hE hD hk => exec_move (.tmp 122) _ rfl (hD 53 122 (by kernel_rfl))) ?_
     refine fsteps_cons 56 rfl (fun a u hE hD hk => f_call (o := ⟨some 124, _, _, _, _, _⟩) 3 #[] rfl (wanted_at (b := true) true rfl rfl (hD 54 123 (by kernel_rfl))) (exec_call 3 _ [] _ [] Try.func3 (by kernel_rfl) (by kernel_rfl) rfl rfl u) (bruns_gives u)) ?_
     refine sv 57 rfl rfl rfl (fun a u hE hD hk => exec_pick (.tmp 123) (.tmp 124) (.const (.bool false)) (.bool true) rfl (hD 54 123 (by kernel_rfl)) (hD 55 124 (by kernel_rfl))) ?_
     exact fsteps_nil
    intro gv wz hV kz
    rw [show dstsOf _ 57 = [69, 70, 71, 72, 73, 74, 75, 76, 77, 78, 79, 80, 81, 82, 83, 84, 85, 86, 87, 88, 89, 90, 91, 92, 93, 94, 95, 96, 97, 98, 99, 100, 101, 102, 103, 104, 105, 106, 107, 108, 109, 110, 111, 112, 113, 114, 115, 116, 117, 118, 119, 120, 121, 122, 123, 124, 125] by kernel_rfl]
    simp only [fC, fN, sA, sS, sZ, dS, dZ]
    rw [show gv 125 = .bool true from hV 56 125 (by kernel_rfl)]
    clear hV
    refine l_val (o := ⟨some 4, _, _, _, _, _⟩) (.bool true) rfl (exec_assign (.tmp 125) (.bool true) rfl (by kernel_rfl)) ?_
    simp only [Act.put, sA, sS, sZ]
    refine wpList_nil ?_
    go_wp2
    go_ret
    exact ⟨rfl, kw11.trans kz⟩
  ·skip
   obtain ⟨he45, he5⟩ := HIO.out.no he
   go_upto_region 11 with fail
   refine wp_text 3 [.eq (.pointer (some ⟨g9, 14, none⟩)), .eq (.int .i64 x.err), .eq (.bool true)] rfl (by kernel_rfl) ?_ ?_
   ·refine sv 1 rfl rfl rfl (fun a u hE hD hk => exec_fldo 29 6 14 (.tmp 9) (g9) (0) (14) rfl (hE 9 (.pointer (some ⟨g9, 0, none⟩)) (by kernel_rfl) (by kernel_rfl)) (by kernel_rfl) rfl) ?_
    refine sv 2 rfl rfl rfl (fun a u hE hD hk => exec_loadi 27 Try.underlying27 (.tmp 37) ⟨g9, 14, none⟩ (.int .i64 x.err) rfl (hD 0 37 (by kernel_rfl)) (by rw [(HCxw8.out.kept hk).cell]; rfl)) ?_
    refine fsteps_cons 3 rfl (fun a u hE hD hk => f_as (show ((decide ((x.err : Int) ≠ (0 : Int))) : Bool) = true from decide_eq_true he) (f_val (o := ⟨some 39, _, _, _, _, _⟩) (.bool (decide ((x.err : Int) ≠ (0 : Int)))) rfl (wanted_none rfl _) (exec_nen (p := x.err) (q := 0) rfl (hD 1 38 (by kernel_rfl)) rfl) rfl)) ?_
    exact fsteps_nil
   intro gv w9 hV k9
   rw [show dstsOf _ 3 = [37, 38, 39] by kernel_rfl]
   simp only [fC, fN, sA, sS, sZ, dS, dZ]
   rw [show gv 39 = .bool true from hV 2 39 (by kernel_rfl)]
   clear hV
   refine wpList_nil ?_
   have kw9 := kw8.trans k9
   have HCx9 := Lib.hid (HCxw8.out.kept k9)
   have HCy9 := Lib.hid (HCyw8.out.kept k9)
   by_cases h5 : x.err = 5
   ·skip
    have hy5 := he5 h5
    go_upto_region 12 with fail
    refine wp_text 21 [.eq (.pointer (some ⟨g9, 14, none⟩)), .eq (.int .i64 x.err), .eq (.bool true), .eq (.bool true), .eq undef, .eq undef, .eq undef, .eq (.bool true), .eq (.bool true), .eq (.pointer (some ⟨g9, 14, none⟩)), .eq (.int .i64 x.err), .eq (.bool false), .eq (.bool false), .eq (.pointer (some ⟨g10, 14, none⟩)), .eq (.int .i64 y.err), .eq (.bool true), .eq (.bool true), .eq (.bool true), .eq (.bool true), .eq (.bool true), .eq (.bool true)] rfl (by kernel_rfl) ?_ ?_
    ·refine sv 1 rfl rfl rfl (fun a u hE hD hk => exec_fldo 29 6 14 (.tmp 9) (g9) (0) (14) rfl (hE 9 (.pointer (some ⟨g9, 0, none⟩)) (by kernel_rfl) (by kernel_rfl)) (by kernel_rfl) rfl) ?_
     refine sv 2 rfl rfl rfl (fun a u hE hD hk => exec_loadi 27 Try.underlying27 (.tmp 40) ⟨g9, 14, none⟩ (.int .i64 x.err) rfl (hD 0 40 (by kernel_rfl)) (by rw [(HCx9.out.kept hk).cell]; rfl)) ?_
     refine fsteps_cons 3 rfl (fun a u hE hD hk => f_as (show ((decide ((x.err : Int) = (5 : Int))) : Bool) = true from decide_eq_true h5) (f_val (o := ⟨some 42, _, _, _, _, _⟩) (.bool (decide ((x.err : Int) = (5 : Int)))) rfl (wanted_none rfl _) (exec_eqn (p := x.err) (q := 5) rfl (hD 1 41 (by kernel_rfl)) rfl) rfl)) ?_
     refine sv 4 rfl rfl rfl (fun a u hE hD hk => exec_move (.tmp 42) _ rfl (hD 2 42 (by kernel_rfl))) ?_
     refine fsteps_cons 5 rfl (fun a u hE hD hk => f_skip (o := ⟨some 44, _, _, _, _, _⟩) rfl (wanted_at (b := false) true rfl rfl (hD 3 43 (by kernel_rfl))) rfl) ?_
     refine fsteps_cons 6 rfl (fun a u hE hD hk => f_skip (o := ⟨some 45, _, _, _, _, _⟩) rfl (wanted_at (b := false) true rfl rfl (hD 3 43 (by kernel_rfl))) rfl) ?_
     refine fsteps_cons 7 rfl (fun a u hE hD hk => f_skip (o := ⟨some 46, _, _, _, _, _⟩) rfl (wanted_at (b := false) true rfl rfl (hD 3 43 (by kernel_rfl))) rfl) ?_
     refine sv 8 rfl rfl rfl (fun a u hE hD hk => exec_pick (.tmp 43) (.const (.bool true)) (.tmp 46) (.bool true) rfl (hD 3 43 (by kernel_rfl)) rfl) ?_
     refine sv 9 rfl rfl rfl (fun a u hE hD hk => exec_move (.tmp 47) _ rfl (hD 7 47 (by kernel_rfl))) ?_
     refine fsteps_cons 10 rfl (fun a u hE hD hk => f_val (o := ⟨some 49, _, _, _, _, _⟩) (.pointer (some ⟨g9, 14, none⟩)) rfl (wanted_at (b := true) true rfl rfl (hD 8 48 (by kernel_rfl))) (exec_fldo 29 6 14 (.tmp 9) (g9) (0) (14) rfl (hE 9 (.pointer (some ⟨g9, 0, none⟩)) (by kernel_rfl) (by kernel_rfl)) (by kernel_rfl) rfl) rfl) ?_
     refine fsteps_cons 11 rfl (fun a u hE hD hk => f_val (o := ⟨some 50, _, _, _, _, _⟩) (.int .i64 x.err) rfl (wanted_at (b := true) true rfl rfl (hD 8 48 (by kernel_rfl))) (exec_loadi 27 Try.underlying27 (.tmp 49) ⟨g9, 14, none⟩ (.int .i64 x.err) rfl (hD 9 49 (by kernel_rfl)) (by rw [(HCx9.out.kept hk).cell]; rfl)) rfl) ?_
     refine fsteps_cons 12 rfl (fun a u hE hD hk => f_as (show ((decide ((x.err : Int) ≠ (5 : Int))) : Bool) = false from decide_eq_false (fun h => h h5)) (f_val (o := ⟨some 51, _, _, _, _, _⟩) (.bool (decide ((x.err : Int) ≠ (5 : Int)))) rfl (wanted_at (b := true) true rfl rfl (hD 8 48 (by kernel_rfl))) (exec_nen (p := x.err) (q := 5) rfl (hD 10 50 (by kernel_rfl)) rfl) rfl)) ?_
     refine fsteps_cons 13 rfl (fun a u hE hD hk => f_val (o := ⟨some 52, _, _, _, _, _⟩) (.bool false) rfl (wanted_at (b := true) true rfl rfl (hD 8 48 (by kernel_rfl))) (exec_move (.tmp 51) _ rfl (hD 11 51 (by kernel_rfl))) rfl) ?_
     refine fsteps_cons 14 rfl (fun a u hE hD hk => f_val (o := ⟨some 53, _, _, _, _, _⟩) (.pointer (some ⟨g10, 14, none⟩)) rfl (wanted_at (b := false) false rfl rfl (hD 12 52 (by kernel_rfl))) (exec_fldo 29 6 14 (.tmp 10) (g10) (0) (14) rfl (hE 10 (.pointer (some ⟨g10, 0, none⟩)) (by kernel_rfl) (by kernel_rfl)) (by kernel_rfl) rfl) rfl) ?_
     refine fsteps_cons 15 rfl (fun a u hE hD hk => f_val (o := ⟨some 54, _, _, _, _, _⟩) (.int .i64 y.err) rfl (wanted_at (b := false) false rfl rfl (hD 12 52 (by kernel_rfl))) (exec_loadi 27 Try.underlying27 (.tmp 53) ⟨g10, 14, none⟩ (.int .i64 y.err) rfl (hD 13 53 (by kernel_rfl)) (by rw [(HCy9.out.kept hk).cell]; rfl)) rfl) ?_
     refine fsteps_cons 16 rfl (fun a u hE hD hk => f_as (show ((decide ((y.err : Int) = (5 : Int))) : Bool) = true from decide_eq_true hy5) (f_val (o := ⟨some 55, _, _, _, _, _⟩) (.bool (decide ((y.err : Int) = (5 : Int)))) rfl (wanted_at (b := false) false rfl rfl (hD 12 52 (by kernel_rfl))) (exec_eqn (p := y.err) (q := 5) rfl (hD 14 54 (by kernel_rfl)) rfl) rfl)) ?_
     refine fsteps_cons 17 rfl (fun a u hE hD hk => f_val (o := ⟨some 56, _, _, _, _, _⟩) (.bool true) rfl (wanted_at (b := true) true rfl rfl (hD 8 48 (by kernel_rfl))) (exec_pickF (.tmp 52) (.const (.bool true)) (.tmp 55) (.bool true) rfl (hD 12 52 (by kernel_rfl)) (hD 15 55 (by kernel_rfl))) rfl) ?_
     refine sv 18 rfl rfl rfl (fun a u hE hD hk => exec_pick (.tmp 48) (.tmp 56) (.const (.bool false)) (.bool true) rfl (hD 8 48 (by kernel_rfl)) (hD 16 56 (by kernel_rfl))) ?_
     refine sv 19 rfl rfl rfl (fun a u hE hD hk => exec_move (.tmp 57) _ rfl (hD 17 57 (by kernel_rfl))) ?_
     refine fsteps_cons 20 rfl (fun a u hE hD hk => f_call (o := ⟨some 59, _, _, _, _, _⟩) 3 #[] rfl (wanted_at (b := true) true rfl rfl (hD 18 58 (by kernel_rfl))) (exec_call 3 _ [] _ [] Try.func3 (by kernel_rfl) (by kernel_rfl) rfl rfl u) (bruns_gives u)) ?_
     refine sv 21 rfl rfl rfl (fun a u hE hD hk => exec_pick (.tmp 58) (.tmp 59) (.const (.bool false)) (.bool true) rfl (hD 18 58 (by kernel_rfl)) (hD 19 59 (by kernel_rfl))) ?_
     exact fsteps_nil
    intro gv wz hV kz
    rw [show dstsOf _ 21 = [40, 41, 42, 43, 44, 45, 46, 47, 48, 49, 50, 51, 52, 53, 54, 55, 56, 57, 58, 59, 60] by kernel_rfl]
    simp only [fC, fN, sA, sS, sZ, dS, dZ]
    rw [show gv 60 = .bool true from hV 20 60 (by kernel_rfl)]
    clear hV
    refine l_val (o := ⟨some 4, _, _, _, _, _⟩) (.bool true) rfl (exec_assign (.tmp 60) (.bool true) rfl (by kernel_rfl)) ?_
    simp only [Act.put, sA, sS, sZ]
    refine wpList_nil ?_
    go_wp2
    go_ret
    exact ⟨rfl, kw9.trans kz⟩
   ·skip
    have h4 : x.err = 4 := he45.resolve_left h5
    go_upto_region 12 with fail
    refine wp_text 21 [.eq (.pointer (some ⟨g9, 14, none⟩)), .eq (.int .i64 x.err), .eq (.bool false), .eq (.bool false), .eq (.pointer (some ⟨g9, 14, none⟩)), .eq (.int .i64 x.err), .eq (.bool true), .eq (.bool true), .eq (.bool true), .eq (.pointer (some ⟨g9, 14, none⟩)), .eq (.int .i64 x.err), .eq (.bool true), .eq (.bool true), .eq undef, .eq undef, .eq undef, .eq (.bool true), .eq (.bool true), .eq (.bool true), .eq (.bool true), .eq (.bool true)] rfl (by kernel_rfl) ?_ ?_
    ·refine sv 1 rfl rfl rfl (fun a u hE hD hk => exec_fldo 29 6 14 (.tmp 9) (g9) (0) (14) rfl (hE 9 (.pointer (some ⟨g9, 0, none⟩)) (by kernel_rfl) (by kernel_rfl)) (by kernel_rfl) rfl) ?_
     refine sv 2 rfl rfl rfl (fun a u hE hD hk => exec_loadi 27 Try.underlying27 (.tmp 40) ⟨g9, 14, none⟩ (.int .i64 x.err) rfl (hD 0 40 (by kernel_rfl)) (by rw [(HCx9.out.kept hk).cell]; rfl)) ?_
     refine fsteps_cons 3 rfl (fun a u hE hD hk => f_as (show ((decide ((x.err : Int) = (5 : Int))) : Bool) = false from decide_eq_false h5) (f_val (o := ⟨some 42, _, _, _, _, _⟩) (.bool (decide ((x.err : Int) = (5 : Int)))) rfl (wanted_none rfl _) (exec_eqn (p := x.err) (q := 5) rfl (hD 1 41 (by kernel_rfl)) rfl) rfl)) ?_
     refine sv 4 rfl rfl rfl (fun a u hE hD hk => exec_move (.tmp 42) _ rfl (hD 2 42 (by kernel_rfl))) ?_
     refine fsteps_cons 5 rfl (fun a u hE hD hk => f_val (o := ⟨some 44, _, _, _, _, _⟩) (.pointer (some ⟨g9, 14, none⟩)) rfl (wanted_at (b := false) false rfl rfl (hD 3 43 (by kernel_rfl))) (exec_fldo 29 6 14 (.tmp 9) (g9) (0) (14) rfl (hE 9 (.pointer (some ⟨g9, 0, none⟩)) (by kernel_rfl) (by kernel_rfl)) (by kernel_rfl) rfl) rfl) ?_
     refine fsteps_cons 6 rfl (fun a u hE hD hk => f_val (o := ⟨some 45, _, _, _, _, _⟩) (.int .i64 x.err) rfl (wanted_at (b := false) false rfl rfl (hD 3 43 (by kernel_rfl))) (exec_loadi 27 Try.underlying27 (.tmp 44) ⟨g9, 14, none⟩ (.int .i64 x.err) rfl (hD 4 44 (by kernel_rfl)) (by rw [(HCx9.out.kept hk).cell]; rfl)) rfl) ?_
     refine fsteps_cons 7 rfl (fun a u hE hD hk => f_as (show ((decide ((x.err : Int) = (4 : Int))) : Bool) = true from decide_eq_true h4) (f_val (o := ⟨some 46, _, _, _, _, _⟩) (.bool (decide ((x.err : Int) = (4 : Int)))) rfl (wanted_at (b := false) false rfl rfl (hD 3 43 (by kernel_rfl))) (exec_eqn (p := x.err) (q := 4) rfl (hD 5 45 (by kernel_rfl)) rfl) rfl)) ?_
     refine sv 8 rfl rfl rfl (fun a u hE hD hk => exec_pickF (.tmp 43) (.const (.bool true)) (.tmp 46) (.bool true) rfl (hD 3 43 (by kernel_rfl)) (hD 6 46 (by kernel_rfl))) ?_
     refine sv 9 rfl rfl rfl (fun a u hE hD hk => exec_move (.tmp 47) _ rfl (hD 7 47 (by kernel_rfl))) ?_
     refine fsteps_cons 10 rfl (fun a u hE hD hk => f_val (o := ⟨some 49, _, _, _, _, _⟩) (.pointer (some ⟨g9, 14, none⟩)) rfl (wanted_at (b := true) true rfl rfl (hD 8 48 (by kernel_rfl))) (exec_fldo 29 6 14 (.tmp 9) (g9) (0) (14) rfl (hE 9 (.pointer (some ⟨g9, 0, none⟩)) (by kernel_rfl) (by kernel_rfl)) (by kernel_rfl) rfl) rfl) ?_
     refine fsteps_cons 11 rfl (fun a u hE hD hk => f_val (o := ⟨some 50, _, _, _, _, _⟩) (.int .i64 x.err) rfl (wanted_at (b := true) true rfl rfl (hD 8 48 (by kernel_rfl))) (exec_loadi 27 Try.underlying27 (.tmp 49) ⟨g9, 14, none⟩ (.int .i64 x.err) rfl (hD 9 49 (by kernel_rfl)) (by rw [(HCx9.out.kept hk).cell]; rfl)) rfl) ?_
     refine fsteps_cons 12 rfl (fun a u hE hD hk => f_as (show ((decide ((x.err : Int) ≠ (5 : Int))) : Bool) = true from decide_eq_true h5) (f_val (o := ⟨some 51, _, _, _, _, _⟩) (.bool (decide ((x.err : Int) ≠ (5 : Int)))) rfl (wanted_at (b := true) true rfl rfl (hD 8 48 (by kernel_rfl))) (exec_nen (p := x.err) (q := 5) rfl (hD 10 50 (by kernel_rfl)) rfl) rfl)) ?_
     refine fsteps_cons 13 rfl (fun a u hE hD hk => f_val (o := ⟨some 52, _, _, _, _, _⟩) (.bool true) rfl (wanted_at (b := true) true rfl rfl (hD 8 48 (by kernel_rfl))) (exec_move (.tmp 51) _ rfl (hD 11 51 (by kernel_rfl))) rfl) ?_
     refine fsteps_cons 14 rfl (fun a u hE hD hk => f_skip (o := ⟨some 53, _, _, _, _, _⟩) rfl (wanted_at (b := false) true rfl rfl (hD 12 52 (by kernel_rfl))) rfl) ?_
     refine fsteps_cons 15 rfl (fun a u hE hD hk => f_skip (o := ⟨some 54, _, _, _, _, _⟩) rfl (wanted_at (b := false) true rfl rfl (hD 12 52 (by kernel_rfl))) rfl) ?_
     refine fsteps_cons 16 rfl (fun a u hE hD hk => f_skip (o := ⟨some 55, _, _, _, _, _⟩) rfl (wanted_at (b := false) true rfl rfl (hD 12 52 (by kernel_rfl))) rfl) ?_
     refine fsteps_cons 17 rfl (fun a u hE hD hk => f_val (o := ⟨some 56, _, _, _, _, _⟩) (.bool true) rfl (wanted_at (b := true) true rfl rfl (hD 8 48 (by kernel_rfl))) (exec_pick (.tmp 52) (.const (.bool true)) (.tmp 55) (.bool true) rfl (hD 12 52 (by kernel_rfl)) rfl) rfl) ?_
     refine sv 18 rfl rfl rfl (fun a u hE hD hk => exec_pick (.tmp 48) (.tmp 56) (.const (.bool false)) (.bool true) rfl (hD 8 48 (by kernel_rfl)) (hD 16 56 (by kernel_rfl))) ?_
     refine sv 19 rfl rfl rfl (fun a u hE hD hk => exec_move (.tmp 57) _ rfl (hD 17 57 (by kernel_rfl))) ?_
     refine fsteps_cons 20 rfl (fun a u hE hD hk => f_call (o := ⟨some 59, _, _, _, _, _⟩) 3 #[] rfl (wanted_at (b := true) true rfl rfl (hD 18 58 (by kernel_rfl))) (exec_call 3 _ [] _ [] Try.func3 (by kernel_rfl) (by kernel_rfl) rfl rfl u) (bruns_gives u)) ?_
     refine sv 21 rfl rfl rfl (fun a u hE hD hk => exec_pick (.tmp 58) (.tmp 59) (.const (.bool false)) (.bool true) rfl (hD 18 58 (by kernel_rfl)) (hD 19 59 (by kernel_rfl))) ?_
     exact fsteps_nil
    intro gv wz hV kz
    rw [show dstsOf _ 21 = [40, 41, 42, 43, 44, 45, 46, 47, 48, 49, 50, 51, 52, 53, 54, 55, 56, 57, 58, 59, 60] by kernel_rfl]
    simp only [fC, fN, sA, sS, sZ, dS, dZ]
    rw [show gv 60 = .bool true from hV 20 60 (by kernel_rfl)]
    clear hV
    refine l_val (o := ⟨some 4, _, _, _, _, _⟩) (.bool true) rfl (exec_assign (.tmp 60) (.bool true) rfl (by kernel_rfl)) ?_
    simp only [Act.put, sA, sS, sZ]
    refine wpList_nil ?_
    go_wp2
    go_ret
    exact ⟨rfl, kw9.trans kz⟩
end Go.Proofs.Ytfpfpmhkkgfdbaa
