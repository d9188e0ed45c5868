/-
 BookFok answers true: a fill-or-kill order does what an immediate one does that fills it, or nothing. No condition.
-/
import Derived.Test.YtfpfpmhkkgfdbaaQF05
import Derived.Test.YtfpfpmhkkgfdbaaMFFill10
import Derived.Test.YtfpfpmhkkgfdbaaMFRuns10
import Derived.Test.YtfpfpmhkkgfdbaaMFFokM10
set_option linter.unusedVariables false
namespace Go.Proofs.Ytfpfpmhkkgfdbaa
open Go.RowKit
set_option maxRecDepth 100000
theorem core_at {X Y : List Fl} (h : X.map Fl.core = Y.map Fl.core) (j : Nat) (f : Fl) (hf : X[j]? = some f) : ∃ g, Y[j]? = some g ∧ f.mk_ = g.mk_ ∧ f.price = g.price ∧ f.qty = g.qty := by
 have h1 := congrArg (fun l : List (Ord × Int × Int × Int) => l[j]?) h
 simp only [List.getElem?_map, hf, Option.map_some] at h1
 cases hg : Y[j]? with
 | none => rw [hg] at h1; cases h1
 | some g =>
  rw [hg] at h1
  simp only [Option.map_some, Option.some.injEq, Fl.core, Prod.mk.injEq] at h1
  exact ⟨g, rfl, h1.1, h1.2.1, h1.2.2.1⟩
set_option maxRecDepth 100000 in
set_option maxHeartbeats 3200000 in
theorem bookFok_m (v : Value) (l : List Kq) (q : Kq) (w : World) (hl : Kqs w v l) (hkk : q.o.k = 2) : Calls Try.prog 10 #[v, q.v] w fun e w' => e = .returned (.bool true) ∧ Kept w w' := by
 obtain ⟨o, ho⟩ : ∃ o, q.o = o := ⟨_, rfl⟩
 have HKO : Hid (o.right = true ∧ o.stop = 0 ∧ o.qty ≤ 12) := by rw [← ho]; exact q.right
 have HGO : Hid (∀ u, Gives 22 #[q.v] u (.eq o.v)) := fun u => by rw [← ho]; exact korder_any q u
 have HKK : Hid (o.k = 2) := by rw [← ho]; exact hkk
 clear ho hkk
 go_enter Try.func10, Try.ntmps10
 go_upto_region 0 with fail
 refine wp_text 1 [.fresh w.heap.size 48 (q.cells)] rfl (by kernel_rfl) ?_ ?_
 ·refine fsteps_cons 1 rfl (fun a u hE hD hk => f_new (o := ⟨some 3, _, _, _, _, _⟩) (.pointer (some ⟨u.heap.size, 0, none⟩)) _ rfl (wanted_none rfl _) (exec_box 48 (.tmp 1) (q.cells) rfl (hE 1 (q.v) (by kernel_rfl) (by kernel_rfl))) ⟨_, rfl, hk.size, Blk.new u _ _⟩ ((Keep.refl _ u).alloc _)) ?_
  exact fsteps_nil
 intro gv w0 hV k0
 rw [show dstsOf _ 1 = [3] by kernel_rfl]
 simp only [fC, fN, sA, sS, sZ, dS, dZ]
 have hv3 : (.fresh w.heap.size 48 (q.cells) : Kn).p (gv 3) w0 := hV 0 3 (by kernel_rfl)
 generalize gv 3 = v3 at hv3 ⊢
 clear hV
 obtain ⟨g3, rfl, hg3, hQ⟩ := hv3
 refine l_val (o := ⟨some 4, _, _, _, _, _⟩) (.bool false) rfl (exec_assign (.const (.bool false)) (.bool false) rfl (by kernel_rfl)) ?_
 simp only [Act.put, sA, sS, sZ]
 refine wpList_nil ?_
 have HQ0 := Lib.hid (blk_range hQ)
 have lq := hQ.lt
 have z0 := k0.size
 have hl0 := hl.kept k0
 clear hQ hl
 go_upto_region 1 with fail
 refine wp_region_lit ?_
 refine l_val (o := ⟨some 13, _, _, _, _, _⟩) (v) rfl (exec_move (.tmp 0) (v) rfl (by kernel_rfl)) ?_
 simp only [Act.put, sA, sS, sZ]
 refine l_call (o := ⟨some 14, _, _, _, _, _⟩) 31 #[v, .int .i64 40] rfl (exec_call 31 _ [.tmp 13, .const (.int .i64 40)] _ _ Try.func31 (by kernel_rfl) (by kernel_rfl) rfl (by kernel_rfl) _) ?_
 refine (bfilled_any v l 40 w0 hl0 (by omega)).mono ?_
 rintro rr w1a ⟨p, F, rfl, hA1, hG1, k1a⟩
 refine ⟨_, rfl, ?_⟩
 simp only [Act.put, sA, sS, sZ]
 refine l_val (o := ⟨some 15, _, _, _, _, _⟩) (v) rfl (exec_move (.tmp 0) (v) rfl (by kernel_rfl)) ?_
 simp only [Act.put, sA, sS, sZ]
 refine l_call (o := ⟨some 16, _, _, _, _, _⟩) 31 #[v, .int .i64 40] rfl (exec_call 31 _ [.tmp 15, .const (.int .i64 40)] _ _ Try.func31 (by kernel_rfl) (by kernel_rfl) rfl (by kernel_rfl) _) ?_
 refine (bfilled_any v l 40 w1a (hl0.kept k1a) (by omega)).mono ?_
 rintro rr w1 ⟨r, G, rfl, hB1, hG2, k1b⟩
 refine ⟨_, rfl, ?_⟩
 simp only [Act.put, sA, sS, sZ]
 refine l_val (o := ⟨some 5, _, _, _, _, _⟩) (.pointer (some ⟨p, 0, none⟩)) rfl (exec_assign (.tmp 14) (.pointer (some ⟨p, 0, none⟩)) rfl (by kernel_rfl)) ?_
 simp only [Act.put, sA, sS, sZ]
 refine l_val (o := ⟨some 6, _, _, _, _, _⟩) (.pointer (some ⟨r, 0, none⟩)) rfl (exec_assign (.tmp 16) (.pointer (some ⟨r, 0, none⟩)) rfl (by kernel_rfl)) ?_
 simp only [Act.put, sA, sS, sZ]
 refine wpList_nil ?_
 have hI := fillB_inv (l.take 40)
 have HNo : Hid ((fillB (l.take 40)).no ≤ 1000000000000) := by
  have h1 := hI.2
  have h2 : (l.take 40).length ≤ 40 := by rw [List.length_take]; omega
  show _ ≤ _
  omega
 have HI := Lib.hid hI.1
 clear hI
 generalize fillB (l.take 40) = B at HI hB1 hA1 HNo
 have HB1 := Lib.hid hB1
 have k1 := k1a.trans k1b
 have HFl : Hid (∀ b, F b → b < w1a.heap.size) := hA1.lt
 have HGl : Hid (∀ b, G b → b < w1.heap.size) := hB1.lt
 have z1b := k1b.size
 have z1a := k1a.size
 have HA1 := Lib.hid (hA1.kept k1b)
 have HFg : Hid (∀ b, F b → w0.heap.size ≤ b) := fun b hb => (hG1 b hb).elim (fun h => h.elim) id
 have HGg : Hid (∀ b, G b → w1a.heap.size ≤ b) := fun b hb => (hG2 b hb).elim (fun h => h.elim) id
 have HD : Hid (∀ b, F b → ¬ G b) := fun b h h' => by have := HFl.out b h; have := HGg.out b h'; omega
 have HQ1 := Lib.hid (range_kept HQ0.out k1)
 have kw1 := k0.trans k1
 have z1 := k1.size
 clear hB1 hA1 hG1 hG2 hl0 HQ0 k0 k1 k1a k1b
 go_upto_region 4 with fail
 refine wp_text 3 [.eq (q.v), .eq (o.v), .fresh w1.heap.size 25 zeroO.cells] rfl (by kernel_rfl) ?_ ?_
 ·refine sv 1 rfl rfl rfl (fun a u hE hD hk => exec_ldS 48 _ (.tmp 3) (g3) (0) (q.cells) rfl (hE 3 (.pointer (some ⟨g3, 0, none⟩)) (by kernel_rfl) (by kernel_rfl)) (range_kept HQ1.out hk) Try.underlying48 (by rw [q.len7]; exact szK)) ?_
  refine fsteps_cons 2 rfl (fun a u hE hD hk => f_call (o := ⟨some 24, _, _, _, _, _⟩) 22 #[q.v] rfl (wanted_none rfl _) (exec_call 22 _ [.tmp 23] _ [q.v] Try.func22 (by kernel_rfl) (by kernel_rfl) rfl (show [a.eval (.tmp 23)] = [q.v] from (by rw [show a.eval (.tmp 23) = q.v from (hD 0 23 (by kernel_rfl))] <;> rfl)) u) (HGO.out u)) ?_
  refine fsteps_cons 3 rfl (fun a u hE hD hk => f_new (o := ⟨some 7, _, _, _, _, _⟩) (.pointer (some ⟨u.heap.size, 0, none⟩)) _ rfl (wanted_none rfl _) (exec_alc 25 zeroO.cells rfl zO) ⟨_, rfl, hk.size, Blk.new u _ _⟩ ((Keep.refl _ u).alloc _)) ?_
  exact fsteps_nil
 intro gv w2a hV kv2a
 rw [show dstsOf _ 3 = [23, 24, 7] by kernel_rfl]
 simp only [fC, fN, sA, sS, sZ, dS, dZ]
 have hv7 : (.fresh w1.heap.size 25 zeroO.cells : Kn).p (gv 7) w2a := hV 2 7 (by kernel_rfl)
 generalize gv 7 = v7 at hv7 ⊢
 rw [show gv 24 = o.v from hV 1 24 (by kernel_rfl)]
 clear hV
 obtain ⟨g7, rfl, hg7, hBn⟩ := hv7
 refine l_setS (o := ⟨none, _, _, _, _, _⟩) 25 g7 25 zeroO.cells o.cells (.tmp 7) (.tmp 24) rfl rfl (by kernel_rfl) (by kernel_rfl) hBn (by rw [Ord.len9]; exact ord_size) (by rw [Ord.len9, Ord.len9]) (Ord.one1 _) ?_
 intro w2 hBo hkn hsn
 simp only [Act.put]
 refine wpList_nil ?_
 have kv2 : Kept w1 w2 := kv2a.trans' hkn (by omega)
 have HOw2 := Lib.hid (blk_range hBo)
 have lo7 := hBo.lt
 have zw2 := kv2.size
 have HOB := Lib.hid hBo
 clear hBn hBo hkn hsn kv2a
 obtain ⟨o0, ho0⟩ : ∃ y, ({ o with shw := 0 } : Ord) = y := ⟨_, rfl⟩
 go_upto_region 5 with fail
 refine wp_text 1 [.eq (.pointer (some ⟨g7, 7, none⟩))] rfl (by kernel_rfl) ?_ ?_
 ·refine sv 1 rfl rfl rfl (fun a u hE hD hk => exec_fldo 25 7 7 (.tmp 7) (g7) (0) (7) rfl (hE 7 (.pointer (some ⟨g7, 0, none⟩)) (by kernel_rfl) (by kernel_rfl)) (by kernel_rfl) rfl) ?_
  exact fsteps_nil
 intro gv w3a hV kw3a
 rw [show dstsOf _ 1 = [25] by kernel_rfl]
 simp only [fC, fN, sA, sS, sZ, dS, dZ]
 rw [show gv 25 = .pointer (some ⟨g7, 7, none⟩) from hV 0 25 (by kernel_rfl)]
 clear hV
 refine l_setf (o := ⟨none, _, _, _, _, _⟩) g7 7 25 o.l [] 0 (.tmp 25) (.const (.int .i64 0)) rfl rfl (by kernel_rfl) rfl (HOB.out.kept kw3a) (by simp [Ord.l]) ?_
 intro w3 hBw3 hkw3 hsw3
 simp only [Act.put]
 refine wpList_nil ?_
 have HBw3 : Hid (Blk w3 g7 25 o0.cells) := by show Blk _ _ _ _; rw [← ho0]; exact hBw3
 have Kw3 : Kept w2 w3a := kw3a
 have kv3 : Kept w1 w3 := (kv2.trans kw3a).trans' hkw3 (by omega)
 have HB3 := HBw3
 have HO3 : Hid (w3.rangeAt g7 0 o0.cells) := blk_range HBw3.out
 have z3 := kv3.size
 have lg7 : g7 < w3.heap.size := HB3.out.lt
 clear hBw3 hkw3 hsw3 kw3a Kw3 HOB HOw2 HQ1 HBw3 kv2
 have hp : o0.k = 2 := by rw [← ho0]; exact HKK.out
 go_upto_region 6 with fail
 refine wp_text 3 [.eq (.pointer (some ⟨g7, 4, none⟩)), .eq (.int .i64 o0.k), .eq (.bool true)] rfl (by kernel_rfl) ?_ ?_
 ·refine sv 1 rfl rfl rfl (fun a u hE hD hk => exec_fldo 25 4 4 (.tmp 7) (g7) (0) (4) rfl (hE 7 (.pointer (some ⟨g7, 0, none⟩)) (by kernel_rfl) (by kernel_rfl)) (by kernel_rfl) rfl) ?_
  refine sv 2 rfl rfl rfl (fun a u hE hD hk => exec_loadi 3 Try.underlying3 (.tmp 26) ⟨g7, 4, none⟩ (.int .i64 o0.k) rfl (hD 0 26 (by kernel_rfl)) (range_int (range_kept HO3.out hk) 4 _ rfl)) ?_
  refine fsteps_cons 3 rfl (fun a u hE hD hk => f_as (show ((decide ((o0.k : Int) = (2 : Int))) : Bool) = true from decide_eq_true hp) (f_val (o := ⟨some 28, _, _, _, _, _⟩) (.bool (decide ((o0.k : Int) = (2 : Int)))) rfl (wanted_none rfl _) (exec_eqn (p := o0.k) (q := 2) rfl (hD 1 27 (by kernel_rfl)) rfl) rfl)) ?_
  exact fsteps_nil
 intro gv w4 hV k4
 rw [show dstsOf _ 3 = [26, 27, 28] by kernel_rfl]
 simp only [fC, fN, sA, sS, sZ, dS, dZ]
 rw [show gv 28 = .bool true from hV 2 28 (by kernel_rfl)]
 clear hV
 refine wpList_nil ?_
 have kv4 := kv3.trans k4
 have HB4 := Lib.hid (HB3.out.kept k4)
 clear HB3 HO3 k4 kv3
 obtain ⟨o1, ho1⟩ : ∃ y, ({ o0 with price := 100 } : Ord) = y := ⟨_, rfl⟩
 have HII : Hid (FokIs (B.add { o1 with k := 4 }) (B.add { o1 with k := 3 })) := by
  show FokIs _ _
  rw [← ho1, ← ho0]
  obtain ⟨h1, h2⟩ := (right_fok o HKO.out.1 HKO.out.2.1).2
  exact fok_is (o := { o with shw := 0, price := 100 }) HI.out h1 h2 HKO.out.2.1
 go_upto_region 7 with fail
 refine wp_text 1 [.eq (.pointer (some ⟨g7, 5, none⟩))] rfl (by kernel_rfl) ?_ ?_
 ·refine sv 1 rfl rfl rfl (fun a u hE hD hk => exec_fldo 25 5 5 (.tmp 7) (g7) (0) (5) rfl (hE 7 (.pointer (some ⟨g7, 0, none⟩)) (by kernel_rfl) (by kernel_rfl)) (by kernel_rfl) rfl) ?_
  exact fsteps_nil
 intro gv w5a hV kw5a
 rw [show dstsOf _ 1 = [29] by kernel_rfl]
 simp only [fC, fN, sA, sS, sZ, dS, dZ]
 rw [show gv 29 = .pointer (some ⟨g7, 5, none⟩) from hV 0 29 (by kernel_rfl)]
 clear hV
 refine l_setf (o := ⟨none, _, _, _, _, _⟩) g7 5 25 o0.l [] 100 (.tmp 29) (.const (.int .i64 100)) rfl rfl (by kernel_rfl) rfl (HB4.out.kept kw5a) (by simp [Ord.l]) ?_
 intro w5 hBw5 hkw5 hsw5
 simp only [Act.put]
 refine wpList_nil ?_
 have HBw5 : Hid (Blk w5 g7 25 o1.cells) := by show Blk _ _ _ _; rw [← ho1]; exact hBw5
 have Kw5 : Kept w4 w5a := kw5a
 have kv5 : Kept w1 w5 := (kv4.trans kw5a).trans' hkw5 (by omega)
 clear HB4 hBw5 hkw5 hsw5 kw5a Kw5 kv4
 have z5 := kv5.size
 have lh7 : g7 < w5.heap.size := HBw5.out.lt
 clear ho0 ho1 HKO HGO
 go_upto_region 8 with fail
 refine wp_allocs [0, 1] 25 zeroO.cells [(2, 8), (3, 9)] [(4, 1), (5, 1)] (by kernel_rfl) zO (by kernel_rfl) ?_
 refine p_val (o := ⟨some 30, _, _, _, _, _⟩) o1.v rfl rfl (fun u hu => exec_loadS 25 (.tmp 7) g7 25 o1.cells _ rfl (by kernel_rfl) (HBw5.out.kept hu) Try.underlying25 (by rw [Ord.cells_len _ trivial]; exact ord_size)) ?_
 simp only [Act.put, sA, sS, sZ]
 refine p_val (o := ⟨some 31, _, _, _, _, _⟩) o1.v rfl rfl (fun u hu => exec_loadS 25 (.tmp 7) g7 25 o1.cells _ rfl (by kernel_rfl) (HBw5.out.kept hu) Try.underlying25 (by rw [Ord.cells_len _ trivial]; exact ord_size)) ?_
 simp only [Act.put, sA, sS, sZ]
 intro β u1 hβ hβd ku1
 obtain ⟨hg8, A1⟩ : w5.heap.size ≤ β 8 ∧ Blk u1 (β 8) 25 zeroO.cells := hβ (2, 8) (by decide)
 obtain ⟨hg9, B1⟩ : w5.heap.size ≤ β 9 ∧ Blk u1 (β 9) 25 zeroO.cells := hβ (3, 9) (by decide)
 have nab : β 8 ≠ β 9 := hβd (2, 8) (by decide) (3, 9) (by decide) (by decide)
 clear hβ hβd
 simp only [puts, List.foldl_cons, List.foldl_nil]
 simp only [Act.put, sA, sS, sZ]
 generalize β 8 = g8 at *
 generalize β 9 = g9 at *
 clear β
 refine s_setS (o := ⟨none, _, _, _, _, _⟩) 25 g8 25 zeroO.cells o1.cells (.tmp 8) (.tmp 30) rfl rfl rfl (by kernel_rfl) (by kernel_rfl) A1 (by rw [Ord.cells_len _ trivial]; exact ord_size) (by rw [Ord.len9, Ord.len9]) (Ord.one1 _) (fun w' hk => Kept.trans' ku1 hk (by omega)) ?_
 intro u2 A2 k2
 have ku2 : Kept w5 u2 := Kept.trans' ku1 k2 (by omega)
 have B2 := B1.keep k2 (by omega)
 simp only [Act.put]
 refine s_setS (o := ⟨none, _, _, _, _, _⟩) 25 g9 25 zeroO.cells o1.cells (.tmp 9) (.tmp 31) rfl rfl rfl (by kernel_rfl) (by kernel_rfl) B2 (by rw [Ord.cells_len _ trivial]; exact ord_size) (by rw [Ord.len9, Ord.len9]) (Ord.one1 _) (fun w' hk => Kept.trans' ku2 hk (by omega)) ?_
 intro w6 B3 k3
 have ku3 : Kept w5 w6 := Kept.trans' ku2 k3 (by omega)
 have A3 := A2.keep k3 (by omega)
 simp only [Act.put]
 refine s_done ?_
 have HA6 := Lib.hid A3
 have HB6 := Lib.hid B3
 have kv6 := kv5.trans ku3
 have z6 := kv6.size
 have z56 := ku3.size
 have lg8 : g8 < w6.heap.size := HA6.out.lt
 have lg9 : g9 < w6.heap.size := HB6.out.lt
 clear A1 B1 A2 B2 k2 k3 ku1 ku2 ku3 A3 B3 HBw5 kv5
 obtain ⟨fo, hfo⟩ : ∃ y, ({ o1 with k := 4 } : Ord) = y := ⟨_, rfl⟩
 obtain ⟨io, hio⟩ : ∃ y, ({ o1 with k := 3 } : Ord) = y := ⟨_, rfl⟩
 rw [hfo, hio] at HII
 go_upto_region 9 with fail
 refine wp_text 1 [.eq (.pointer (some ⟨g8, 4, none⟩))] rfl (by kernel_rfl) ?_ ?_
 ·refine sv 1 rfl rfl rfl (fun a u hE hD hk => exec_fldo 25 4 4 (.tmp 8) (g8) (0) (4) rfl (hE 8 (.pointer (some ⟨g8, 0, none⟩)) (by kernel_rfl) (by kernel_rfl)) (by kernel_rfl) rfl) ?_
  exact fsteps_nil
 intro gv w7a hV k7a
 rw [show dstsOf _ 1 = [32] by kernel_rfl]
 simp only [fC, fN, sA, sS, sZ, dS, dZ]
 rw [show gv 32 = .pointer (some ⟨g8, 4, none⟩) from hV 0 32 (by kernel_rfl)]
 clear hV
 refine l_setf (o := ⟨none, _, _, _, _, _⟩) g8 4 25 o1.l [] 4 (.tmp 32) (.const (.int .i64 4)) rfl rfl (by kernel_rfl) rfl (HA6.out.kept k7a) (by simp [Ord.l]) ?_
 intro w7b hA7b hk7b hs7b
 simp only [Act.put]
 refine l_val (o := ⟨some 33, _, _, _, _, _⟩) (.pointer (some ⟨g9, 4, none⟩)) rfl (exec_fldo 25 4 4 (.tmp 9) (g9) (0) (4) rfl (by kernel_rfl) (by kernel_rfl) rfl) ?_
 simp only [Act.put, sA, sS, sZ]
 refine l_setf (o := ⟨none, _, _, _, _, _⟩) g9 4 25 o1.l [] 3 (.tmp 33) (.const (.int .i64 3)) rfl rfl (by kernel_rfl) rfl ((HB6.out.kept k7a).keep hk7b (fun h => nab h.symm)) (by simp [Ord.l]) ?_
 intro w7 hB7 hk7 hs7
 simp only [Act.put]
 refine wpList_nil ?_
 have hA7 := hA7b.keep hk7 nab
 have HO7 : Hid (w7.rangeAt g8 0 fo.cells) := by show World.rangeAt _ _ _ _; rw [← hfo]; exact blk_range hA7
 have HP7 : Hid (w7.rangeAt g9 0 io.cells) := by show World.rangeAt _ _ _ _; rw [← hio]; exact blk_range hB7
 have kv7 : Kept w1 w7 := ((kv6.trans k7a).trans' hk7b (by omega)).trans' hk7 (by omega)
 have z67 : w6.heap.size ≤ w7.heap.size := Nat.le_trans k7a.size (Nat.le_trans hk7b.size hk7.size)
 have z7 := kv7.size
 have HAw7 := Lib.hid (HA1.out.kept kv7)
 have HBw7 := Lib.hid (HB1.out.kept kv7)
 have kw7 := kw1.trans kv7
 clear hA7b hk7b hs7b hB7 hk7 hs7 hA7 k7a HA6 HB6 kv6 HA1 HB1 hfo hio
 obtain ⟨x, hx⟩ : ∃ y, (B.add fo).1 = y := ⟨_, rfl⟩
 obtain ⟨A2, hA2⟩ : ∃ y, (B.add fo).2 = y := ⟨_, rfl⟩
 obtain ⟨y, hy⟩ : ∃ y, (B.add io).1 = y := ⟨_, rfl⟩
 obtain ⟨B2, hB2⟩ : ∃ y, (B.add io).2 = y := ⟨_, rfl⟩
 have HX : Hid (B.add fo = (x, A2)) := by rw [← hx, ← hA2]; exact rfl
 have HY : Hid (B.add io = (y, B2)) := by rw [← hy, ← hB2]; exact rfl
 have HI2 : Hid (Inv B2) := by show Inv _; rw [← hB2]; exact (inv_add HI.out).1
 have HIO : Hid (FokIs (x, A2) (y, B2)) := by show FokIs _ _; rw [← HX.out, ← HY.out]; exact HII.out
 clear hx hA2 hy hB2 HII
 go_upto_region 10 with fail
 refine wp_freeN 8 2 5 6 7 [0, 1, 3, 4, 6, 7] [0, 1, 2, 3, 4, 6, 7] (fun Av => [.eq (.pointer (some ⟨p, 0, none⟩)), .eq (fo.v), .addA w7.heap.size Av F p (x, A2), .eq (.pointer (some ⟨r, 0, none⟩)), .eq (io.v), .twoA w7.heap.size Av F G p r (x, A2) (y, B2), .fresh w7.heap.size 29 (zeroC.cells (.slice none 0 0)), .fresh w7.heap.size 29 (zeroC.cells (.slice none 0 0))]) (F) (G) (by kernel_rfl) (fun _ => rfl) (by omega) (by omega) (by omega) (by kernel_rfl) (by kernel_rfl) (by kernel_rfl) (by kernel_rfl) ?_ ?_ (by omega) (by omega) (by omega) (by omega) (by omega) (fun _ => Kn.old_fresh) (fun _ => Kn.old_fresh) ?_ (.fresh w7.heap.size 29 (zeroC.cells (.slice none 0 0))) (.fresh w7.heap.size 29 (zeroC.cells (.slice none 0 0))) (fun _ => rfl) (fun _ => rfl) (fun Av a u hE hD hk => n_new (K := (.fresh w7.heap.size 29 (zeroC.cells (.slice none 0 0)) : Kn)) (o := ⟨some 10, _, _, _, _, _⟩) (.pointer (some ⟨u.heap.size, 0, none⟩)) _ rfl (wanted_none rfl _) (exec_alc 29 (zeroC.cells (.slice none 0 0)) rfl zC) ⟨_, rfl, hk.size, Blk.new u _ _⟩ ((Keep.refl _ u).alloc _) rfl) (fun Av a u hE hD hk => n_new (K := (.fresh w7.heap.size 29 (zeroC.cells (.slice none 0 0)) : Kn)) (o := ⟨some 11, _, _, _, _, _⟩) (.pointer (some ⟨u.heap.size, 0, none⟩)) _ rfl (wanted_none rfl _) (exec_alc 29 (zeroC.cells (.slice none 0 0)) rfl zC) ⟨_, rfl, hk.size, Blk.new u _ _⟩ ((Keep.refl _ u).alloc _) rfl) ?_ (fun Av a u hE hD hk hAv => v_call (o := ⟨some 36, _, _, _, _, _⟩) 15 #[.pointer (some ⟨p, 0, none⟩), fo.v] rfl (wanted_none rfl _) (exec_call 15 _ [.tmp 34, .tmp 35] _ [.pointer (some ⟨p, 0, none⟩), fo.v] Try.func15 (by kernel_rfl) (by kernel_rfl) rfl (show [a.eval (.tmp 34), a.eval (.tmp 35)] = [.pointer (some ⟨p, 0, none⟩), fo.v] from (by rw [show a.eval (.tmp 34) = .pointer (some ⟨p, 0, none⟩) from (hD 0 34 (by kernel_rfl)), show a.eval (.tmp 35) = fo.v from (hD 1 35 (by kernel_rfl))] <;> rfl)) u) (badd_knA u Av F p B fo (x, A2) w7.heap.size HX.out (HAw7.out.kept hk) HI.out HNo.out hk.size (fun b hb => ⟨fun h => by have := HFl.out _ h; have := (hAv b hb).1; omega, (hAv b hb).2⟩))) (fun Av a u hE hD hk hAv => v_call (o := ⟨some 39, _, _, _, _, _⟩) 15 #[.pointer (some ⟨r, 0, none⟩), io.v] rfl (wanted_none rfl _) (exec_call 15 _ [.tmp 37, .tmp 38] _ [.pointer (some ⟨r, 0, none⟩), io.v] Try.func15 (by kernel_rfl) (by kernel_rfl) rfl (show [a.eval (.tmp 37), a.eval (.tmp 38)] = [.pointer (some ⟨r, 0, none⟩), io.v] from (by rw [show a.eval (.tmp 37) = .pointer (some ⟨r, 0, none⟩) from (hD 3 37 (by kernel_rfl)), show a.eval (.tmp 38) = io.v from (hD 4 38 (by kernel_rfl))] <;> rfl)) u) (badd_twoA u Av F G p r B io (x, A2) (y, B2) w7.heap.size HY.out _ (hD 2 36 (by kernel_rfl)) (HBw7.out.keep hk (fun b hb h => HD.out b h hb)) HI.out HNo.out hk.size HD.out (fun b hb => by have := HGl.out b hb; omega) hAv)) ?_
 ·intro Av i hi
  have hi2 : i = 0 ∨ i = 1 ∨ i = 3 ∨ i = 4 ∨ i = 6 ∨ i = 7 := by simpa using hi
  rcases hi2 with rfl | rfl | rfl | rfl | rfl | rfl
  ·exact Kn.safe_eq _ _
  ·exact Kn.safe_eq _ _
  ·exact Kn.safe_eq _ _
  ·exact Kn.safe_eq _ _
  ·exact Kn.safe_fresh (fun b hb h => by have := HFl.out _ h; omega)
  ·exact Kn.safe_fresh (fun b hb h => by have := HFl.out _ h; omega)
 ·intro Av i hi hAv
  have hi2 : i = 0 ∨ i = 1 ∨ i = 2 ∨ i = 3 ∨ i = 4 ∨ i = 6 ∨ i = 7 := by simpa using hi
  rcases hi2 with rfl | rfl | rfl | rfl | rfl | rfl | rfl
  ·exact Kn.safe_eq _ _
  ·exact Kn.safe_eq _ _
  ·exact Kn.safe_addA HD.out (fun b hb h => by have := HGl.out _ h; omega)
  ·exact Kn.safe_eq _ _
  ·exact Kn.safe_eq _ _
  ·exact Kn.safe_fresh (fun b hb h => by have := HGl.out _ h; omega)
  ·exact Kn.safe_fresh (fun b hb h => by have := HGl.out _ h; omega)
 ·intro Av g j v w_ hj h hg
  have hj2 : j = 0 ∨ j = 1 ∨ j = 2 ∨ j = 3 ∨ j = 4 ∨ j = 5 ∨ j = 6 ∨ j = 7 := by omega
  rcases hj2 with rfl | rfl | rfl | rfl | rfl | rfl | rfl | rfl
  ·exact h
  ·exact h
  ·exact Kn.addA_grow h hg
  ·exact h
  ·exact h
  ·exact Kn.twoA_grow h hg
  ·exact h
  ·exact h
 ·intro Av
  refine nsteps_cons 1 rfl (fun a u hE hD hk => f_val (o := ⟨some 34, _, _, _, _, _⟩) (.pointer (some ⟨p, 0, none⟩)) rfl (wanted_none rfl _) (exec_move (.tmp 5) _ rfl (hE 5 (.pointer (some ⟨p, 0, none⟩)) (by kernel_rfl) (by kernel_rfl))) rfl) ?_
  refine nsteps_cons 2 rfl (fun a u hE hD hk => f_val (o := ⟨some 35, _, _, _, _, _⟩) (fo.v) rfl (wanted_none rfl _) (exec_ldS 25 _ (.tmp 8) (g8) (0) (fo.cells) rfl (hE 8 (.pointer (some ⟨g8, 0, none⟩)) (by kernel_rfl) (by kernel_rfl)) (range_keep HO7.out hk (fun h => h.elim (fun h => by have := HFl.out _ h; omega) (fun h => by have := HGl.out _ h; omega))) Try.underlying25 (by rw [fo.len9]; exact ord_size)) rfl) ?_
  refine nsteps_turn 3 rfl (by omega) ?_
  refine nsteps_cons 4 rfl (fun a u hE hD hk => f_val (o := ⟨some 37, _, _, _, _, _⟩) (.pointer (some ⟨r, 0, none⟩)) rfl (wanted_none rfl _) (exec_move (.tmp 6) _ rfl (hE 6 (.pointer (some ⟨r, 0, none⟩)) (by kernel_rfl) (by kernel_rfl))) rfl) ?_
  refine nsteps_cons 5 rfl (fun a u hE hD hk => f_val (o := ⟨some 38, _, _, _, _, _⟩) (io.v) rfl (wanted_none rfl _) (exec_ldS 25 _ (.tmp 9) (g9) (0) (io.cells) rfl (hE 9 (.pointer (some ⟨g9, 0, none⟩)) (by kernel_rfl) (by kernel_rfl)) (range_keep HP7.out hk (fun h => h.elim (fun h => by have := HFl.out _ h; omega) (fun h => by have := HGl.out _ h; omega))) Try.underlying25 (by rw [io.len9]; exact ord_size)) rfl) ?_
  refine nsteps_turn 6 rfl (by omega) ?_
  refine nsteps_turn 7 rfl (by omega) ?_
  refine nsteps_turn 8 rfl (by omega) ?_
  exact nsteps_nil
 intro Av gv w8a hV Kw8a hAx hAy hUN
 replace hUN := hUN 10 11 (by kernel_rfl) (by kernel_rfl)
 replace hAx := fun b => hAx 10 b (by kernel_rfl)
 replace hAy := fun b => hAy 11 b (by kernel_rfl)
 rw [show dstsOf _ 8 = [34, 35, 36, 37, 38, 39, 10, 11] by kernel_rfl]
 simp only [fC, fN, sA, sS, sZ, dS, dZ]
 have hv10 : (.fresh w7.heap.size 29 (zeroC.cells (.slice none 0 0)) : Kn).p (gv 10) w8a := hV 6 10 (by kernel_rfl)
 generalize gv 10 = v10 at hv10 hUN hAx ⊢
 have hv36 : (.addA w7.heap.size Av F p (x, A2) : Kn).p (gv 36) w8a := hV 2 36 (by kernel_rfl)
 generalize gv 36 = v36 at hv36 ⊢
 have hv11 : (.fresh w7.heap.size 29 (zeroC.cells (.slice none 0 0)) : Kn).p (gv 11) w8a := hV 7 11 (by kernel_rfl)
 generalize gv 11 = v11 at hv11 hUN hAy ⊢
 have hv39 : (.twoA w7.heap.size Av F G p r (x, A2) (y, B2) : Kn).p (gv 39) w8a := hV 5 39 (by kernel_rfl)
 generalize gv 39 = v39 at hv39 ⊢
 clear hV
 obtain ⟨_, vx, rfl, _, hSx, hOx, _, _⟩ := hv36
 obtain ⟨F', G', vy, rfl, hA', hB', hSy, hOy, hF', hG', hD', hV'⟩ := hv39
 obtain ⟨g10, rfl, hg10, hBx⟩ := hv10
 obtain ⟨g11, rfl, hg11, hBy⟩ := hv11
 have hxy : g10 ≠ g11 := fun h => hUN (by rw [h])
 have hAvx := hAx _ rfl
 have hAvy := hAy _ rfl
 refine l_setS (o := ⟨none, _, _, _, _, _⟩) 29 g10 29 (zeroC.cells (.slice none 0 0)) (x.cells vx) (.tmp 10) (.tmp 36) rfl rfl (by kernel_rfl) (by kernel_rfl) (hBx) (by rw [Oc.len15]; exact szC) (by rw [Oc.len15, Oc.len15]) (Oc.one _ _ (sl_onec hSx)) ?_
 intro w8b hCw8b hkw8b hsw8b
 simp only [Act.put]
 refine l_setS (o := ⟨none, _, _, _, _, _⟩) 29 g11 29 (zeroC.cells (.slice none 0 0)) (y.cells vy) (.tmp 11) (.tmp 39) rfl rfl (by kernel_rfl) (by kernel_rfl) (hBy.keep hkw8b (fun h => hxy h.symm)) (by rw [Oc.len15]; exact szC) (by rw [Oc.len15, Oc.len15]) (Oc.one _ _ (sl_onec hSy)) ?_
 intro w8 hCw8 hkw8 hsw8
 simp only [Act.put]
 refine wpList_nil ?_
 have Kw8 : Keep (Both F G) w7 w8 := (Kw8a.new hkw8b (by omega)).new hkw8 (by omega)
 have HAw8 : Hid (Bk w8 F' p A2) := (hA'.keep hkw8b (fun b hb e => (hV' _ hAvx).1 (by have e' : b = g10 := e; rw [← e']; exact hb))).keep hkw8 (fun b hb e => (hV' _ hAvy).1 (by have e' : b = g11 := e; rw [← e']; exact hb))
 have HBw8 : Hid (Bk w8 G' r B2) := (hB'.keep hkw8b (fun b hb e => (hV' _ hAvx).2 (by have e' : b = g10 := e; rw [← e']; exact hb))).keep hkw8 (fun b hb e => (hV' _ hAvy).2 (by have e' : b = g11 := e; rw [← e']; exact hb))
 have HSxw8 : Hid (Sl w8 36 21 vx x.f.length (fls x.f)) := (hSx.keep hkw8b (fun b hb e => (hOx b hb).2.2 (by have e' : b = g10 := e; rw [e']; exact hAvx))).keep hkw8 (fun b hb e => (hOx b hb).2.2 (by have e' : b = g11 := e; rw [e']; exact hAvy))
 have HSyw8 : Hid (Sl w8 36 21 vy y.f.length (fls y.f)) := (hSy.keep hkw8b (fun b hb e => (hOy b hb).2.2.2 (by have e' : b = g10 := e; rw [e']; exact hAvx))).keep hkw8 (fun b hb e => (hOy b hb).2.2.2 (by have e' : b = g11 := e; rw [e']; exact hAvy))
 have HCxw8 : Hid (Blk w8 g10 29 (x.cells vx)) := hCw8b.keep hkw8 (fun h => hxy h)
 have HCyw8 : Hid (Blk w8 g11 29 (y.cells vy)) := hCw8
 have HFw8 : Hid (∀ b, F' b → F b ∨ w7.heap.size ≤ b) := hF'
 have HGw8 : Hid (∀ b, G' b → G b ∨ w7.heap.size ≤ b) := hG'
 have HVw8 : Hid ((¬ F' g10 ∧ ¬ G' g10) ∧ ¬ F' g11 ∧ ¬ G' g11) := ⟨hV' _ hAvx, hV' _ hAvy⟩
 have HDw8 := Lib.hid hD'
 have zw8 := Kw8.size
 clear hSx hOx hA' hB' hSy hOy hF' hG' hD' hV' hBx hBy hAx hAy hUN hCw8b hkw8b hsw8b hCw8 hkw8 hsw8 Kw8a hAvx hAvy
 have kw8 : Kept w w8 := Keep.trans kw7 Kw8 (fun b hb h => h.elim (fun h => by have := HFg.out b h; omega) (fun h => by have := HGg.out b h; omega))
 clear HO7 HP7 HAw7 HBw7 kw7 kv7 Kw8 HX HY
 by_cases he : y.err = 0
 ·skip
  go_upto_region 11 with fail
  refine wp_text 3 [.eq (.pointer (some ⟨g11, 14, none⟩)), .eq (.int .i64 y.err), .eq (.bool false)] rfl (by kernel_rfl) ?_ ?_
  ·refine sv 1 rfl rfl rfl (fun a u hE hD hk => exec_fldo 29 6 14 (.tmp 11) (g11) (0) (14) rfl (hE 11 (.pointer (some ⟨g11, 0, none⟩)) (by kernel_rfl) (by kernel_rfl)) (by kernel_rfl) rfl) ?_
   refine sv 2 rfl rfl rfl (fun a u hE hD hk => exec_loadi 27 Try.underlying27 (.tmp 40) ⟨g11, 14, none⟩ (.int .i64 y.err) rfl (hD 0 40 (by kernel_rfl)) (by rw [(HCyw8.out.kept hk).cell]; rfl)) ?_
   refine fsteps_cons 3 rfl (fun a u hE hD hk => f_as (show ((decide ((y.err : Int) ≠ (0 : Int))) : Bool) = false from decide_eq_false (fun h => h he)) (f_val (o := ⟨some 42, _, _, _, _, _⟩) (.bool (decide ((y.err : Int) ≠ (0 : Int)))) rfl (wanted_none rfl _) (exec_nen (p := y.err) (q := 0) rfl (hD 1 41 (by kernel_rfl)) rfl) rfl)) ?_
   exact fsteps_nil
  intro gv w9 hV k9
  rw [show dstsOf _ 3 = [40, 41, 42] by kernel_rfl]
  simp only [fC, fN, sA, sS, sZ, dS, dZ]
  rw [show gv 42 = .bool false from hV 2 42 (by kernel_rfl)]
  clear hV
  refine wpList_nil ?_
  have kw9 := kw8.trans k9
  have HCx9 := Lib.hid (HCxw8.out.kept k9)
  have HCy9 := Lib.hid (HCyw8.out.kept k9)
  by_cases hl : 0 < y.left
  ·skip
   have HA9 := Lib.hid (HAw8.out.kept k9)
   have HB9 := Lib.hid (HBw8.out.kept k9)
   have HSx9 := Lib.hid (HSxw8.out.kept k9)
   have HSy9 := Lib.hid (HSyw8.out.kept k9)
   clear HAw8 HBw8 HSxw8 HSyw8 HCxw8 HCyw8 k9 kw8
   go_upto_region 13 with fail
   refine wp_text 3 [.eq (.pointer (some ⟨g11, 10, none⟩)), .eq (.int .i64 y.left), .eq (.bool true)] rfl (by kernel_rfl) ?_ ?_
   ·refine sv 1 rfl rfl rfl (fun a u hE hD hk => exec_fldo 29 2 10 (.tmp 11) (g11) (0) (10) rfl (hE 11 (.pointer (some ⟨g11, 0, none⟩)) (by kernel_rfl) (by kernel_rfl)) (by kernel_rfl) rfl) ?_
    refine sv 2 rfl rfl rfl (fun a u hE hD hk => exec_loadi 3 Try.underlying3 (.tmp 51) ⟨g11, 10, none⟩ (.int .i64 y.left) rfl (hD 0 51 (by kernel_rfl)) (by rw [(HCy9.out.kept hk).cell]; rfl)) ?_
    refine fsteps_cons 3 rfl (fun a u hE hD hk => f_as (show ((decide ((0 : Int) < (y.left : Int))) : Bool) = true from decide_eq_true hl) (f_val (o := ⟨some 53, _, _, _, _, _⟩) (.bool (decide ((0 : Int) < (y.left : Int)))) rfl (wanted_none rfl _) (exec_gtn (p := y.left) (q := 0) rfl (hD 1 52 (by kernel_rfl)) rfl) rfl)) ?_
    exact fsteps_nil
   intro gv w10 hV k10
   rw [show dstsOf _ 3 = [51, 52, 53] by kernel_rfl]
   simp only [fC, fN, sA, sS, sZ, dS, dZ]
   rw [show gv 53 = .bool true from hV 2 53 (by kernel_rfl)]
   clear hV
   refine wpList_nil ?_
   have HA10 := Lib.hid (HA9.out.kept k10)
   have HB10 := Lib.hid (HB9.out.kept k10)
   have HCx10 := Lib.hid (HCx9.out.kept k10)
   have HCy10 := Lib.hid (HCy9.out.kept k10)
   have HSx10 := Lib.hid (HSx9.out.kept k10)
   have HSy10 := Lib.hid (HSy9.out.kept k10)
   have kw10 := kw9.trans k10
   clear HA9 HB9 HCx9 HCy9 HSx9 HSy9 kw9 k10
   obtain ⟨h12, hnf⟩ := HIO.out.less he hl
   have hnf0 : (x.f.length : Int) = 0 := by rw [show x.f = [] from hnf]; rfl
   go_upto_region 14 with fail
   refine wp_text 12 [.eq (.pointer (some ⟨g10, 14, none⟩)), .eq (.int .i64 x.err), .eq (.bool true), .eq (.bool true), .eq (.pointer (some ⟨g10, 9, none⟩)), .eq (vx), .eq (.int .i64 (x.f.length : Int)), .eq (.bool true), .eq (.bool true), .eq (.bool true), .eq (.bool true), .eq (.bool true)] rfl (by kernel_rfl) ?_ ?_
   ·refine sv 1 rfl rfl rfl (fun a u hE hD hk => exec_fldo 29 6 14 (.tmp 10) (g10) (0) (14) rfl (hE 10 (.pointer (some ⟨g10, 0, none⟩)) (by kernel_rfl) (by kernel_rfl)) (by kernel_rfl) rfl) ?_
    refine sv 2 rfl rfl rfl (fun a u hE hD hk => exec_loadi 27 Try.underlying27 (.tmp 54) ⟨g10, 14, none⟩ (.int .i64 x.err) rfl (hD 0 54 (by kernel_rfl)) (by rw [(HCx10.out.kept hk).cell]; rfl)) ?_
    refine fsteps_cons 3 rfl (fun a u hE hD hk => f_as (show ((decide ((x.err : Int) = (12 : Int))) : Bool) = true from decide_eq_true h12) (f_val (o := ⟨some 56, _, _, _, _, _⟩) (.bool (decide ((x.err : Int) = (12 : Int)))) rfl (wanted_none rfl _) (exec_eqn (p := x.err) (q := 12) rfl (hD 1 55 (by kernel_rfl)) rfl) rfl)) ?_
    refine sv 4 rfl rfl rfl (fun a u hE hD hk => exec_move (.tmp 56) _ rfl (hD 2 56 (by kernel_rfl))) ?_
    refine fsteps_cons 5 rfl (fun a u hE hD hk => f_val (o := ⟨some 58, _, _, _, _, _⟩) (.pointer (some ⟨g10, 9, none⟩)) rfl (wanted_at (b := true) true rfl rfl (hD 3 57 (by kernel_rfl))) (exec_fldo 29 1 9 (.tmp 10) (g10) (0) (9) rfl (hE 10 (.pointer (some ⟨g10, 0, none⟩)) (by kernel_rfl) (by kernel_rfl)) (by kernel_rfl) rfl) rfl) ?_
    refine fsteps_cons 6 rfl (fun a u hE hD hk => f_val (o := ⟨some 59, _, _, _, _, _⟩) (vx) rfl (wanted_at (b := true) true rfl rfl (hD 3 57 (by kernel_rfl))) (exec_ldv 26 _ Try.underlying26 (.tmp 58) ⟨g10, 9, none⟩ (vx) rfl (hD 4 58 (by kernel_rfl)) (by rw [(HCx10.out.kept hk).cell]; rfl)) rfl) ?_
    refine fsteps_cons 7 rfl (fun a u hE hD hk => f_val (o := ⟨some 60, _, _, _, _, _⟩) (.int .i64 (x.f.length : Int)) rfl (wanted_at (b := true) true rfl rfl (hD 3 57 (by kernel_rfl))) (exec_lenS (.tmp 59) slF (vx) (x.f.length) _ _ rfl (hD 5 59 (by kernel_rfl)) HSx10.out) rfl) ?_
    refine fsteps_cons 8 rfl (fun a u hE hD hk => f_as (show ((decide (((x.f.length : Int) : Int) = (0 : Int))) : Bool) = true from decide_eq_true hnf0) (f_val (o := ⟨some 61, _, _, _, _, _⟩) (.bool (decide (((x.f.length : Int) : Int) = (0 : Int)))) rfl (wanted_at (b := true) true rfl rfl (hD 3 57 (by kernel_rfl))) (exec_eqn (p := (x.f.length : Int)) (q := 0) rfl (hD 6 60 (by kernel_rfl)) rfl) rfl)) ?_
    refine sv 9 rfl rfl rfl (fun a u hE hD hk => exec_pick (.tmp 57) (.tmp 61) (.const (.bool false)) (.bool true) rfl (hD 3 57 (by kernel_rfl)) (hD 7 61 (by kernel_rfl))) ?_
    refine sv 10 rfl rfl rfl (fun a u hE hD hk => exec_move (.tmp 62) _ rfl (hD 8 62 (by kernel_rfl))) ?_
    refine fsteps_cons 11 rfl (fun a u hE hD hk => f_call (o := ⟨some 64, _, _, _, _, _⟩) 3 #[] rfl (wanted_at (b := true) true rfl rfl (hD 9 63 (by kernel_rfl))) (exec_call 3 _ [] _ [] Try.func3 (by kernel_rfl) (by kernel_rfl) rfl rfl u) (bruns_gives u)) ?_
    refine sv 12 rfl rfl rfl (fun a u hE hD hk => exec_pick (.tmp 63) (.tmp 64) (.const (.bool false)) (.bool true) rfl (hD 9 63 (by kernel_rfl)) (hD 10 64 (by kernel_rfl))) ?_
    exact fsteps_nil
   intro gv wz hV kz
   rw [show dstsOf _ 12 = [54, 55, 56, 57, 58, 59, 60, 61, 62, 63, 64, 65] by kernel_rfl]
   simp only [fC, fN, sA, sS, sZ, dS, dZ]
   rw [show gv 65 = .bool true from hV 11 65 (by kernel_rfl)]
   clear hV
   refine l_val (o := ⟨some 4, _, _, _, _, _⟩) (.bool true) rfl (exec_assign (.tmp 65) (.bool true) rfl (by kernel_rfl)) ?_
   simp only [Act.put, sA, sS, sZ]
   refine wpList_nil ?_
   go_wp2
   go_ret
   exact ⟨rfl, kw10.trans kz⟩
  ·skip
   have HA9 := Lib.hid (HAw8.out.kept k9)
   have HB9 := Lib.hid (HBw8.out.kept k9)
   have HSx9 := Lib.hid (HSxw8.out.kept k9)
   have HSy9 := Lib.hid (HSyw8.out.kept k9)
   clear HAw8 HBw8 HSxw8 HSyw8 HCxw8 HCyw8 k9 kw8
   go_upto_region 13 with fail
   refine wp_text 3 [.eq (.pointer (some ⟨g11, 10, none⟩)), .eq (.int .i64 y.left), .eq (.bool false)] rfl (by kernel_rfl) ?_ ?_
   ·refine sv 1 rfl rfl rfl (fun a u hE hD hk => exec_fldo 29 2 10 (.tmp 11) (g11) (0) (10) rfl (hE 11 (.pointer (some ⟨g11, 0, none⟩)) (by kernel_rfl) (by kernel_rfl)) (by kernel_rfl) rfl) ?_
    refine sv 2 rfl rfl rfl (fun a u hE hD hk => exec_loadi 3 Try.underlying3 (.tmp 51) ⟨g11, 10, none⟩ (.int .i64 y.left) rfl (hD 0 51 (by kernel_rfl)) (by rw [(HCy9.out.kept hk).cell]; rfl)) ?_
    refine fsteps_cons 3 rfl (fun a u hE hD hk => f_as (show ((decide ((0 : Int) < (y.left : Int))) : Bool) = false from decide_eq_false hl) (f_val (o := ⟨some 53, _, _, _, _, _⟩) (.bool (decide ((0 : Int) < (y.left : Int)))) rfl (wanted_none rfl _) (exec_gtn (p := y.left) (q := 0) rfl (hD 1 52 (by kernel_rfl)) rfl) rfl)) ?_
    exact fsteps_nil
   intro gv w10 hV k10
   rw [show dstsOf _ 3 = [51, 52, 53] by kernel_rfl]
   simp only [fC, fN, sA, sS, sZ, dS, dZ]
   rw [show gv 53 = .bool false from hV 2 53 (by kernel_rfl)]
   clear hV
   refine wpList_nil ?_
   have HA10 := Lib.hid (HA9.out.kept k10)
   have HB10 := Lib.hid (HB9.out.kept k10)
   have HCx10 := Lib.hid (HCx9.out.kept k10)
   have HCy10 := Lib.hid (HCy9.out.kept k10)
   have HSx10 := Lib.hid (HSx9.out.kept k10)
   have HSy10 := Lib.hid (HSy9.out.kept k10)
   have kw10 := kw9.trans k10
   clear HA9 HB9 HCx9 HCy9 HSx9 HSy9 kw9 k10
   obtain ⟨h0, hl0, hco, hab⟩ := HIO.out.all he hl
   have hln : x.f.length = y.f.length := by have := congrArg List.length hco; simpa using this
   have hAB : A2 = B2 := hab
   have HCO : Hid (x.f.map Fl.core = y.f.map Fl.core) := hco
   rw [hAB] at HA10
   obtain ⟨m, hm⟩ : ∃ m, x.f.length = m := ⟨_, rfl⟩
   have HM := Lib.hid hm
   have hmy : y.f.length = m := by rw [← hln, hm]
   rw [hm] at HSx10
   rw [hmy] at HSy10
   have hmm : ¬ ((m : Int) ≠ (m : Int)) := fun h => h rfl
   have hm63 : m ≤ 9223372036854775807 := by
    obtain ⟨_, _, _, _, q1, q2, _⟩ := HSx10.out
    unfold maxLen at q2
    omega
   clear hco hab hAB hln hm
   go_upto_region 15 with fail
   refine wp_text 17 [.eq (.pointer (some ⟨g10, 14, none⟩)), .eq (.int .i64 x.err), .eq (.bool false), .eq (.bool false), .eq (.pointer (some ⟨g10, 10, none⟩)), .eq (.int .i64 x.left), .eq (.bool false), .eq (.bool false), .eq (.bool false), .eq (.pointer (some ⟨g10, 9, none⟩)), .eq (vx), .eq (.int .i64 (m : Int)), .eq (.pointer (some ⟨g11, 9, none⟩)), .eq (vy), .eq (.int .i64 (m : Int)), .eq (.bool false), .eq (.bool false)] rfl (by kernel_rfl) ?_ ?_
   ·refine sv 1 rfl rfl rfl (fun a u hE hD hk => exec_fldo 29 6 14 (.tmp 10) (g10) (0) (14) rfl (hE 10 (.pointer (some ⟨g10, 0, none⟩)) (by kernel_rfl) (by kernel_rfl)) (by kernel_rfl) rfl) ?_
    refine sv 2 rfl rfl rfl (fun a u hE hD hk => exec_loadi 27 Try.underlying27 (.tmp 66) ⟨g10, 14, none⟩ (.int .i64 x.err) rfl (hD 0 66 (by kernel_rfl)) (by rw [(HCx10.out.kept hk).cell]; rfl)) ?_
    refine fsteps_cons 3 rfl (fun a u hE hD hk => f_as (show ((decide ((x.err : Int) ≠ (0 : Int))) : Bool) = false from decide_eq_false (fun h => h h0)) (f_val (o := ⟨some 68, _, _, _, _, _⟩) (.bool (decide ((x.err : Int) ≠ (0 : Int)))) rfl (wanted_none rfl _) (exec_nen (p := x.err) (q := 0) rfl (hD 1 67 (by kernel_rfl)) rfl) rfl)) ?_
    refine sv 4 rfl rfl rfl (fun a u hE hD hk => exec_move (.tmp 68) _ rfl (hD 2 68 (by kernel_rfl))) ?_
    refine fsteps_cons 5 rfl (fun a u hE hD hk => f_val (o := ⟨some 70, _, _, _, _, _⟩) (.pointer (some ⟨g10, 10, none⟩)) rfl (wanted_at (b := false) false rfl rfl (hD 3 69 (by kernel_rfl))) (exec_fldo 29 2 10 (.tmp 10) (g10) (0) (10) rfl (hE 10 (.pointer (some ⟨g10, 0, none⟩)) (by kernel_rfl) (by kernel_rfl)) (by kernel_rfl) rfl) rfl) ?_
    refine fsteps_cons 6 rfl (fun a u hE hD hk => f_val (o := ⟨some 71, _, _, _, _, _⟩) (.int .i64 x.left) rfl (wanted_at (b := false) false rfl rfl (hD 3 69 (by kernel_rfl))) (exec_loadi 3 Try.underlying3 (.tmp 70) ⟨g10, 10, none⟩ (.int .i64 x.left) rfl (hD 4 70 (by kernel_rfl)) (by rw [(HCx10.out.kept hk).cell]; rfl)) rfl) ?_
    refine fsteps_cons 7 rfl (fun a u hE hD hk => f_as (show ((decide ((x.left : Int) ≠ (0 : Int))) : Bool) = false from decide_eq_false (fun h => h hl0)) (f_val (o := ⟨some 72, _, _, _, _, _⟩) (.bool (decide ((x.left : Int) ≠ (0 : Int)))) rfl (wanted_at (b := false) false rfl rfl (hD 3 69 (by kernel_rfl))) (exec_nen (p := x.left) (q := 0) rfl (hD 5 71 (by kernel_rfl)) rfl) rfl)) ?_
    refine sv 8 rfl rfl rfl (fun a u hE hD hk => exec_pickF (.tmp 69) (.const (.bool true)) (.tmp 72) (.bool false) rfl (hD 3 69 (by kernel_rfl)) (hD 6 72 (by kernel_rfl))) ?_
    refine sv 9 rfl rfl rfl (fun a u hE hD hk => exec_move (.tmp 73) _ rfl (hD 7 73 (by kernel_rfl))) ?_
    refine fsteps_cons 10 rfl (fun a u hE hD hk => f_val (o := ⟨some 75, _, _, _, _, _⟩) (.pointer (some ⟨g10, 9, none⟩)) rfl (wanted_at (b := false) false rfl rfl (hD 8 74 (by kernel_rfl))) (exec_fldo 29 1 9 (.tmp 10) (g10) (0) (9) rfl (hE 10 (.pointer (some ⟨g10, 0, none⟩)) (by kernel_rfl) (by kernel_rfl)) (by kernel_rfl) rfl) rfl) ?_
    refine fsteps_cons 11 rfl (fun a u hE hD hk => f_val (o := ⟨some 76, _, _, _, _, _⟩) (vx) rfl (wanted_at (b := false) false rfl rfl (hD 8 74 (by kernel_rfl))) (exec_ldv 26 _ Try.underlying26 (.tmp 75) ⟨g10, 9, none⟩ (vx) rfl (hD 9 75 (by kernel_rfl)) (by rw [(HCx10.out.kept hk).cell]; rfl)) rfl) ?_
    refine fsteps_cons 12 rfl (fun a u hE hD hk => f_val (o := ⟨some 77, _, _, _, _, _⟩) (.int .i64 (m : Int)) rfl (wanted_at (b := false) false rfl rfl (hD 8 74 (by kernel_rfl))) (exec_lenS (.tmp 76) slF (vx) (m) _ _ rfl (hD 10 76 (by kernel_rfl)) HSx10.out) rfl) ?_
    refine fsteps_cons 13 rfl (fun a u hE hD hk => f_val (o := ⟨some 78, _, _, _, _, _⟩) (.pointer (some ⟨g11, 9, none⟩)) rfl (wanted_at (b := false) false rfl rfl (hD 8 74 (by kernel_rfl))) (exec_fldo 29 1 9 (.tmp 11) (g11) (0) (9) rfl (hE 11 (.pointer (some ⟨g11, 0, none⟩)) (by kernel_rfl) (by kernel_rfl)) (by kernel_rfl) rfl) rfl) ?_
    refine fsteps_cons 14 rfl (fun a u hE hD hk => f_val (o := ⟨some 79, _, _, _, _, _⟩) (vy) rfl (wanted_at (b := false) false rfl rfl (hD 8 74 (by kernel_rfl))) (exec_ldv 26 _ Try.underlying26 (.tmp 78) ⟨g11, 9, none⟩ (vy) rfl (hD 12 78 (by kernel_rfl)) (by rw [(HCy10.out.kept hk).cell]; rfl)) rfl) ?_
    refine fsteps_cons 15 rfl (fun a u hE hD hk => f_val (o := ⟨some 80, _, _, _, _, _⟩) (.int .i64 (m : Int)) rfl (wanted_at (b := false) false rfl rfl (hD 8 74 (by kernel_rfl))) (exec_lenS (.tmp 79) slF (vy) (m) _ _ rfl (hD 13 79 (by kernel_rfl)) HSy10.out) rfl) ?_
    refine fsteps_cons 16 rfl (fun a u hE hD hk => f_as (show ((decide (((m : Int) : Int) ≠ ((m : Int) : Int))) : Bool) = false from decide_eq_false hmm) (f_val (o := ⟨some 81, _, _, _, _, _⟩) (.bool (decide (((m : Int) : Int) ≠ ((m : Int) : Int)))) rfl (wanted_at (b := false) false rfl rfl (hD 8 74 (by kernel_rfl))) (exec_nen (p := (m : Int)) (q := (m : Int)) rfl (hD 11 77 (by kernel_rfl)) (hD 14 80 (by kernel_rfl))) rfl)) ?_
    refine sv 17 rfl rfl rfl (fun a u hE hD hk => exec_pickF (.tmp 74) (.const (.bool true)) (.tmp 81) (.bool false) rfl (hD 8 74 (by kernel_rfl)) (hD 15 81 (by kernel_rfl))) ?_
    exact fsteps_nil
   intro gv w11a hV k11a
   rw [show dstsOf _ 17 = [66, 67, 68, 69, 70, 71, 72, 73, 74, 75, 76, 77, 78, 79, 80, 81, 82] by kernel_rfl]
   simp only [fC, fN, sA, sS, sZ, dS, dZ]
   rw [show gv 82 = .bool false from hV 16 82 (by kernel_rfl)]
   clear hV
   refine wpList_nil ?_
   have HCx11a := Lib.hid (HCx10.out.kept k11a)
   go_upto_region 17 with fail
   refine wp_text 4 [.eq (.pointer (some ⟨g10, 9, none⟩)), .eq (vx), .eq (.int .i64 (m : Int)), .eq (.int .i64 0)] rfl (by kernel_rfl) ?_ ?_
   ·refine sv 1 rfl rfl rfl (fun a u hE hD hk => exec_fldo 29 1 9 (.tmp 10) (g10) (0) (9) rfl (hE 10 (.pointer (some ⟨g10, 0, none⟩)) (by kernel_rfl) (by kernel_rfl)) (by kernel_rfl) rfl) ?_
    refine sv 2 rfl rfl rfl (fun a u hE hD hk => exec_ldv 26 _ Try.underlying26 (.tmp 83) ⟨g10, 9, none⟩ (vx) rfl (hD 0 83 (by kernel_rfl)) (by rw [(HCx11a.out.kept hk).cell]; rfl)) ?_
    refine sv 3 rfl rfl rfl (fun a u hE hD hk => exec_lenS (.tmp 84) slF (vx) (m) _ _ rfl (hD 1 84 (by kernel_rfl)) HSx10.out) ?_
    refine sv 4 rfl rfl rfl (fun a u hE hD hk => exec_move (.const (.int .i64 0)) _ rfl rfl) ?_
    exact fsteps_nil
   intro gv w11 hV k11b
   rw [show dstsOf _ 4 = [83, 84, 85, 86] by kernel_rfl]
   simp only [fC, fN, sA, sS, sZ, dS, dZ]
   rw [show gv 84 = vx from hV 1 84 (by kernel_rfl)]
   rw [show gv 85 = .int .i64 (m : Int) from hV 2 85 (by kernel_rfl)]
   rw [show gv 86 = .int .i64 0 from hV 3 86 (by kernel_rfl)]
   clear hV
   refine wpList_nil ?_
   have k11 := k11a.trans k11b
   have HA11 := Lib.hid (HA10.out.kept k11)
   have HB11 := Lib.hid (HB10.out.kept k11)
   have HCx11 := Lib.hid (HCx10.out.kept k11)
   have HCy11 := Lib.hid (HCy10.out.kept k11)
   have HSx11 := Lib.hid (HSx10.out.kept k11)
   have HSy11 := Lib.hid (HSy10.out.kept k11)
   have kw11 := kw10.trans k11
   clear HCx11a HA10 HB10 HCx10 HCy10 HSx10 HSy10 kw10 k11 k11a k11b
   go_wp2_with fail
   go_loopw [86] (fun q wr => ∃ (j : Nat), j ≤ m ∧ q = .int .i64 (j : Int) ∧ Kept w11 wr) (fun q _ => m - (intOf q).toNat)
   case atStart => exact ⟨0, Nat.zero_le _, rfl, Kept.refl _⟩
   case round =>
    obtain ⟨j, hj, rfl, hkr⟩ := hrel
    by_cases hjm : j < m
    ·obtain ⟨gf, of_, c2, rfl⟩ := HSx11.out.some_ (by omega)
     obtain ⟨gg, og, c3, rfl⟩ := HSy11.out.some_ (by omega)
     obtain ⟨f, hf⟩ : ∃ f, x.f[j]? = some f := ⟨x.f[j]'(by rw [HM.out]; exact hjm), List.getElem?_eq_getElem (by rw [HM.out]; exact hjm)⟩
     obtain ⟨f2, hf2, e1, e2, e3⟩ := core_at HCO.out j f hf
     have HE : Hid (wr.rangeAt gf (of_ + j * 21) f.cells) := range_kept (HSx11.out.rngF j f hf) hkr
     have HE2 : Hid (wr.rangeAt gg (og + j * 21) f2.cells) := range_kept (HSy11.out.rngF j f2 hf2) hkr
     have HCx12 := Lib.hid (HCx11.out.kept hkr)
     have HCy12 := Lib.hid (HCy11.out.kept hkr)
     clear hf hf2
     go_upto_region 20 with fail
     refine wp_free 43 [.eq (.pointer (some ⟨g10, 9, none⟩)), .eq (.slice (some ⟨gf, of_, none⟩) m c2), .eq (.int .i64 (j : Int)), .eq (.pointer (some ⟨gf, of_ + j * 21, none⟩)), .eq (.pointer (some ⟨gf, of_ + j * 21, none⟩)), .eq (f.mk_.v), .eq (.pointer (some ⟨g11, 9, none⟩)), .eq (.slice (some ⟨gg, og, none⟩) m c3), .eq (.int .i64 (j : Int)), .eq (.pointer (some ⟨gg, og + j * 21, none⟩)), .eq (.pointer (some ⟨gg, og + j * 21, none⟩)), .eq (f2.mk_.v), .eq (.bool false), .eq (.bool false), .eq (.pointer (some ⟨g10, 9, none⟩)), .eq (.slice (some ⟨gf, of_, none⟩) m c2), .eq (.int .i64 (j : Int)), .eq (.pointer (some ⟨gf, of_ + j * 21, none⟩)), .eq (.pointer (some ⟨gf, of_ + j * 21 + 18, none⟩)), .eq (.int .i64 f.price), .eq (.pointer (some ⟨g11, 9, none⟩)), .eq (.slice (some ⟨gg, og, none⟩) m c3), .eq (.int .i64 (j : Int)), .eq (.pointer (some ⟨gg, og + j * 21, none⟩)), .eq (.pointer (some ⟨gg, og + j * 21 + 18, none⟩)), .eq (.int .i64 f2.price), .eq (.bool false), .eq (.bool false), .eq (.bool false), .eq (.pointer (some ⟨g10, 9, none⟩)), .eq (.slice (some ⟨gf, of_, none⟩) m c2), .eq (.int .i64 (j : Int)), .eq (.pointer (some ⟨gf, of_ + j * 21, none⟩)), .eq (.pointer (some ⟨gf, of_ + j * 21 + 19, none⟩)), .eq (.int .i64 f.qty), .eq (.pointer (some ⟨g11, 9, none⟩)), .eq (.slice (some ⟨gg, og, none⟩) m c3), .eq (.int .i64 (j : Int)), .eq (.pointer (some ⟨gg, og + j * 21, none⟩)), .eq (.pointer (some ⟨gg, og + j * 21 + 19, none⟩)), .eq (.int .i64 f2.qty), .eq (.bool false), .eq (.bool false)] (by kernel_rfl) rfl (by kernel_rfl) ?_ ?_
     ·refine sv 1 rfl rfl rfl (fun a u hE hD hk => exec_fldo 29 1 9 (.tmp 10) (g10) (0) (9) rfl (hE 10 (.pointer (some ⟨g10, 0, none⟩)) (by kernel_rfl) (by kernel_rfl)) (by kernel_rfl) rfl) ?_
      refine sv 2 rfl rfl rfl (fun a u hE hD hk => exec_ldv 26 _ Try.underlying26 (.tmp 89) ⟨g10, 9, none⟩ (.slice (some ⟨gf, of_, none⟩) m c2) rfl (hD 0 89 (by kernel_rfl)) (by rw [(HCx12.out.kept hk).cell]; rfl)) ?_
      refine sv 3 rfl rfl rfl (fun a u hE hD hk => exec_move (.tmp 12) _ rfl (hE 12 (.int .i64 (j : Int)) (by kernel_rfl) (by kernel_rfl))) ?_
      refine sv 4 rfl rfl rfl (fun a u hE hD hk => exec_ixo slF (.tmp 90) (.tmp 91) (gf) (of_) m c2 j (of_ + j * 21) ((j : Int)) rfl (hD 1 90 (by kernel_rfl)) (hD 2 91 (by kernel_rfl)) (by first | rfl | omega) (hjm) (by first | rfl | omega)) ?_
      refine sv 5 rfl rfl rfl (fun a u hE hD hk => exec_fldo 36 0 0 (.tmp 92) (gf) (of_ + j * 21) (of_ + j * 21) rfl (hD 3 92 (by kernel_rfl)) (by kernel_rfl) rfl) ?_
      refine sv 6 rfl rfl rfl (fun a u hE hD hk => exec_ldS 25 _ (.tmp 93) (gf) (of_ + j * 21) (f.mk_.cells) rfl (hD 4 93 (by kernel_rfl)) (fl_mk (range_kept HE.out hk)) Try.underlying25 (by rw [f.mk_.len9]; exact ord_size)) ?_
      refine sv 7 rfl rfl rfl (fun a u hE hD hk => exec_fldo 29 1 9 (.tmp 11) (g11) (0) (9) rfl (hE 11 (.pointer (some ⟨g11, 0, none⟩)) (by kernel_rfl) (by kernel_rfl)) (by kernel_rfl) rfl) ?_
      refine sv 8 rfl rfl rfl (fun a u hE hD hk => exec_ldv 26 _ Try.underlying26 (.tmp 95) ⟨g11, 9, none⟩ (.slice (some ⟨gg, og, none⟩) m c3) rfl (hD 6 95 (by kernel_rfl)) (by rw [(HCy12.out.kept hk).cell]; rfl)) ?_
      refine sv 9 rfl rfl rfl (fun a u hE hD hk => exec_move (.tmp 12) _ rfl (hE 12 (.int .i64 (j : Int)) (by kernel_rfl) (by kernel_rfl))) ?_
      refine sv 10 rfl rfl rfl (fun a u hE hD hk => exec_ixo slF (.tmp 96) (.tmp 97) (gg) (og) m c3 j (og + j * 21) ((j : Int)) rfl (hD 7 96 (by kernel_rfl)) (hD 8 97 (by kernel_rfl)) (by first | rfl | omega) (hjm) (by first | rfl | omega)) ?_
      refine sv 11 rfl rfl rfl (fun a u hE hD hk => exec_fldo 36 0 0 (.tmp 98) (gg) (og + j * 21) (og + j * 21) rfl (hD 9 98 (by kernel_rfl)) (by kernel_rfl) rfl) ?_
      refine sv 12 rfl rfl rfl (fun a u hE hD hk => exec_ldS 25 _ (.tmp 99) (gg) (og + j * 21) (f2.mk_.cells) rfl (hD 10 99 (by kernel_rfl)) (fl_mk (range_kept HE2.out hk)) Try.underlying25 (by rw [f2.mk_.len9]; exact ord_size)) ?_
      refine sv 13 rfl rfl rfl (fun a u hE hD hk => exec_neOb false (.tmp 94) (.tmp 100) _ f.mk_ f2.mk_ rfl (hD 5 94 (by kernel_rfl)) (hD 11 100 (by kernel_rfl)) (decide_eq_false (fun h => h e1))) ?_
      refine sv 14 rfl rfl rfl (fun a u hE hD hk => exec_move (.tmp 101) _ rfl (hD 12 101 (by kernel_rfl))) ?_
      refine fsteps_cons 15 rfl (fun a u hE hD hk => f_val (o := ⟨some 103, _, _, _, _, _⟩) (.pointer (some ⟨g10, 9, none⟩)) rfl (wanted_at (b := false) false rfl rfl (hD 13 102 (by kernel_rfl))) (exec_fldo 29 1 9 (.tmp 10) (g10) (0) (9) rfl (hE 10 (.pointer (some ⟨g10, 0, none⟩)) (by kernel_rfl) (by kernel_rfl)) (by kernel_rfl) rfl) rfl) ?_
      refine fsteps_cons 16 rfl (fun a u hE hD hk => f_val (o := ⟨some 104, _, _, _, _, _⟩) (.slice (some ⟨gf, of_, none⟩) m c2) rfl (wanted_at (b := false) false rfl rfl (hD 13 102 (by kernel_rfl))) (exec_ldv 26 _ Try.underlying26 (.tmp 103) ⟨g10, 9, none⟩ (.slice (some ⟨gf, of_, none⟩) m c2) rfl (hD 14 103 (by kernel_rfl)) (by rw [(HCx12.out.kept hk).cell]; rfl)) rfl) ?_
      refine fsteps_cons 17 rfl (fun a u hE hD hk => f_val (o := ⟨some 105, _, _, _, _, _⟩) (.int .i64 (j : Int)) rfl (wanted_at (b := false) false rfl rfl (hD 13 102 (by kernel_rfl))) (exec_move (.tmp 12) _ rfl (hE 12 (.int .i64 (j : Int)) (by kernel_rfl) (by kernel_rfl))) rfl) ?_
      refine fsteps_cons 18 rfl (fun a u hE hD hk => f_val (o := ⟨some 106, _, _, _, _, _⟩) (.pointer (some ⟨gf, of_ + j * 21, none⟩)) rfl (wanted_at (b := false) false rfl rfl (hD 13 102 (by kernel_rfl))) (exec_ixo slF (.tmp 104) (.tmp 105) (gf) (of_) m c2 j (of_ + j * 21) ((j : Int)) rfl (hD 15 104 (by kernel_rfl)) (hD 16 105 (by kernel_rfl)) (by first | rfl | omega) (hjm) (by first | rfl | omega)) rfl) ?_
      refine fsteps_cons 19 rfl (fun a u hE hD hk => f_val (o := ⟨some 107, _, _, _, _, _⟩) (.pointer (some ⟨gf, of_ + j * 21 + 18, none⟩)) rfl (wanted_at (b := false) false rfl rfl (hD 13 102 (by kernel_rfl))) (exec_fldo 36 2 18 (.tmp 106) (gf) (of_ + j * 21) (of_ + j * 21 + 18) rfl (hD 17 106 (by kernel_rfl)) (by kernel_rfl) rfl) rfl) ?_
      refine fsteps_cons 20 rfl (fun a u hE hD hk => f_val (o := ⟨some 108, _, _, _, _, _⟩) (.int .i64 f.price) rfl (wanted_at (b := false) false rfl rfl (hD 13 102 (by kernel_rfl))) (exec_loadi 3 Try.underlying3 (.tmp 107) ⟨gf, of_ + j * 21 + 18, none⟩ (.int .i64 f.price) rfl (hD 18 107 (by kernel_rfl)) (range_int (range_kept HE.out hk) 18 _ rfl)) rfl) ?_
      refine fsteps_cons 21 rfl (fun a u hE hD hk => f_val (o := ⟨some 109, _, _, _, _, _⟩) (.pointer (some ⟨g11, 9, none⟩)) rfl (wanted_at (b := false) false rfl rfl (hD 13 102 (by kernel_rfl))) (exec_fldo 29 1 9 (.tmp 11) (g11) (0) (9) rfl (hE 11 (.pointer (some ⟨g11, 0, none⟩)) (by kernel_rfl) (by kernel_rfl)) (by kernel_rfl) rfl) rfl) ?_
      refine fsteps_cons 22 rfl (fun a u hE hD hk => f_val (o := ⟨some 110, _, _, _, _, _⟩) (.slice (some ⟨gg, og, none⟩) m c3) rfl (wanted_at (b := false) false rfl rfl (hD 13 102 (by kernel_rfl))) (exec_ldv 26 _ Try.underlying26 (.tmp 109) ⟨g11, 9, none⟩ (.slice (some ⟨gg, og, none⟩) m c3) rfl (hD 20 109 (by kernel_rfl)) (by rw [(HCy12.out.kept hk).cell]; rfl)) rfl) ?_
      refine fsteps_cons 23 rfl (fun a u hE hD hk => f_val (o := ⟨some 111, _, _, _, _, _⟩) (.int .i64 (j : Int)) rfl (wanted_at (b := false) false rfl rfl (hD 13 102 (by kernel_rfl))) (exec_move (.tmp 12) _ rfl (hE 12 (.int .i64 (j : Int)) (by kernel_rfl) (by kernel_rfl))) rfl) ?_
      refine fsteps_cons 24 rfl (fun a u hE hD hk => f_val (o := ⟨some 112, _, _, _, _, _⟩) (.pointer (some ⟨gg, og + j * 21, none⟩)) rfl (wanted_at (b := false) false rfl rfl (hD 13 102 (by kernel_rfl))) (exec_ixo slF (.tmp 110) (.tmp 111) (gg) (og) m c3 j (og + j * 21) ((j : Int)) rfl (hD 21 110 (by kernel_rfl)) (hD 22 111 (by kernel_rfl)) (by first | rfl | omega) (hjm) (by first | rfl | omega)) rfl) ?_
      refine fsteps_cons 25 rfl (fun a u hE hD hk => f_val (o := ⟨some 113, _, _, _, _, _⟩) (.pointer (some ⟨gg, og + j * 21 + 18, none⟩)) rfl (wanted_at (b := false) false rfl rfl (hD 13 102 (by kernel_rfl))) (exec_fldo 36 2 18 (.tmp 112) (gg) (og + j * 21) (og + j * 21 + 18) rfl (hD 23 112 (by kernel_rfl)) (by kernel_rfl) rfl) rfl) ?_
      refine fsteps_cons 26 rfl (fun a u hE hD hk => f_val (o := ⟨some 114, _, _, _, _, _⟩) (.int .i64 f2.price) rfl (wanted_at (b := false) false rfl rfl (hD 13 102 (by kernel_rfl))) (exec_loadi 3 Try.underlying3 (.tmp 113) ⟨gg, og + j * 21 + 18, none⟩ (.int .i64 f2.price) rfl (hD 24 113 (by kernel_rfl)) (range_int (range_kept HE2.out hk) 18 _ rfl)) rfl) ?_
      refine fsteps_cons 27 rfl (fun a u hE hD hk => f_as (show ((decide ((f.price : Int) ≠ (f2.price : Int))) : Bool) = false from decide_eq_false (fun h => h e2)) (f_val (o := ⟨some 115, _, _, _, _, _⟩) (.bool (decide ((f.price : Int) ≠ (f2.price : Int)))) rfl (wanted_at (b := false) false rfl rfl (hD 13 102 (by kernel_rfl))) (exec_nen (p := f.price) (q := f2.price) rfl (hD 19 108 (by kernel_rfl)) (hD 25 114 (by kernel_rfl))) rfl)) ?_
      refine sv 28 rfl rfl rfl (fun a u hE hD hk => exec_pickF (.tmp 102) (.const (.bool true)) (.tmp 115) (.bool false) rfl (hD 13 102 (by kernel_rfl)) (hD 26 115 (by kernel_rfl))) ?_
      refine sv 29 rfl rfl rfl (fun a u hE hD hk => exec_move (.tmp 116) _ rfl (hD 27 116 (by kernel_rfl))) ?_
      refine fsteps_cons 30 rfl (fun a u hE hD hk => f_val (o := ⟨some 118, _, _, _, _, _⟩) (.pointer (some ⟨g10, 9, none⟩)) rfl (wanted_at (b := false) false rfl rfl (hD 28 117 (by kernel_rfl))) (exec_fldo 29 1 9 (.tmp 10) (g10) (0) (9) rfl (hE 10 (.pointer (some ⟨g10, 0, none⟩)) (by kernel_rfl) (by kernel_rfl)) (by kernel_rfl) rfl) rfl) ?_
      refine fsteps_cons 31 rfl (fun a u hE hD hk => f_val (o := ⟨some 119, _, _, _, _, _⟩) (.slice (some ⟨gf, of_, none⟩) m c2) rfl (wanted_at (b := false) false rfl rfl (hD 28 117 (by kernel_rfl))) (exec_ldv 26 _ Try.underlying26 (.tmp 118) ⟨g10, 9, none⟩ (.slice (some ⟨gf, of_, none⟩) m c2) rfl (hD 29 118 (by kernel_rfl)) (by rw [(HCx12.out.kept hk).cell]; rfl)) rfl) ?_
      refine fsteps_cons 32 rfl (fun a u hE hD hk => f_val (o := ⟨some 120, _, _, _, _, _⟩) (.int .i64 (j : Int)) rfl (wanted_at (b := false) false rfl rfl (hD 28 117 (by kernel_rfl))) (exec_move (.tmp 12) _ rfl (hE 12 (.int .i64 (j : Int)) (by kernel_rfl) (by kernel_rfl))) rfl) ?_
      refine fsteps_cons 33 rfl (fun a u hE hD hk => f_val (o := ⟨some 121, _, _, _, _, _⟩) (.pointer (some ⟨gf, of_ + j * 21, none⟩)) rfl (wanted_at (b := false) false rfl rfl (hD 28 117 (by kernel_rfl))) (exec_ixo slF (.tmp 119) (.tmp 120) (gf) (of_) m c2 j (of_ + j * 21) ((j : Int)) rfl (hD 30 119 (by kernel_rfl)) (hD 31 120 (by kernel_rfl)) (by first | rfl | omega) (hjm) (by first | rfl | omega)) rfl) ?_
      refine fsteps_cons 34 rfl (fun a u hE hD hk => f_val (o := ⟨some 122, _, _, _, _, _⟩) (.pointer (some ⟨gf, of_ + j * 21 + 19, none⟩)) rfl (wanted_at (b := false) false rfl rfl (hD 28 117 (by kernel_rfl))) (exec_fldo 36 3 19 (.tmp 121) (gf) (of_ + j * 21) (of_ + j * 21 + 19) rfl (hD 32 121 (by kernel_rfl)) (by kernel_rfl) rfl) rfl) ?_
      refine fsteps_cons 35 rfl (fun a u hE hD hk => f_val (o := ⟨some 123, _, _, _, _, _⟩) (.int .i64 f.qty) rfl (wanted_at (b := false) false rfl rfl (hD 28 117 (by kernel_rfl))) (exec_loadi 3 Try.underlying3 (.tmp 122) ⟨gf, of_ + j * 21 + 19, none⟩ (.int .i64 f.qty) rfl (hD 33 122 (by kernel_rfl)) (range_int (range_kept HE.out hk) 19 _ rfl)) rfl) ?_
      refine fsteps_cons 36 rfl (fun a u hE hD hk => f_val (o := ⟨some 124, _, _, _, _, _⟩) (.pointer (some ⟨g11, 9, none⟩)) rfl (wanted_at (b := false) false rfl rfl (hD 28 117 (by kernel_rfl))) (exec_fldo 29 1 9 (.tmp 11) (g11) (0) (9) rfl (hE 11 (.pointer (some ⟨g11, 0, none⟩)) (by kernel_rfl) (by kernel_rfl)) (by kernel_rfl) rfl) rfl) ?_
      refine fsteps_cons 37 rfl (fun a u hE hD hk => f_val (o := ⟨some 125, _, _, _, _, _⟩) (.slice (some ⟨gg, og, none⟩) m c3) rfl (wanted_at (b := false) false rfl rfl (hD 28 117 (by kernel_rfl))) (exec_ldv 26 _ Try.underlying26 (.tmp 124) ⟨g11, 9, none⟩ (.slice (some ⟨gg, og, none⟩) m c3) rfl (hD 35 124 (by kernel_rfl)) (by rw [(HCy12.out.kept hk).cell]; rfl)) rfl) ?_
      refine fsteps_cons 38 rfl (fun a u hE hD hk => f_val (o := ⟨some 126, _, _, _, _, _⟩) (.int .i64 (j : Int)) rfl (wanted_at (b := false) false rfl rfl (hD 28 117 (by kernel_rfl))) (exec_move (.tmp 12) _ rfl (hE 12 (.int .i64 (j : Int)) (by kernel_rfl) (by kernel_rfl))) rfl) ?_
      refine fsteps_cons 39 rfl (fun a u hE hD hk => f_val (o := ⟨some 127, _, _, _, _, _⟩) (.pointer (some ⟨gg, og + j * 21, none⟩)) rfl (wanted_at (b := false) false rfl rfl (hD 28 117 (by kernel_rfl))) (exec_ixo slF (.tmp 125) (.tmp 126) (gg) (og) m c3 j (og + j * 21) ((j : Int)) rfl (hD 36 125 (by kernel_rfl)) (hD 37 126 (by kernel_rfl)) (by first | rfl | omega) (hjm) (by first | rfl | omega)) rfl) ?_
      refine fsteps_cons 40 rfl (fun a u hE hD hk => f_val (o := ⟨some 128, _, _, _, _, _⟩) (.pointer (some ⟨gg, og + j * 21 + 19, none⟩)) rfl (wanted_at (b := false) false rfl rfl (hD 28 117 (by kernel_rfl))) (exec_fldo 36 3 19 (.tmp 127) (gg) (og + j * 21) (og + j * 21 + 19) rfl (hD 38 127 (by kernel_rfl)) (by kernel_rfl) rfl) rfl) ?_
      refine fsteps_cons 41 rfl (fun a u hE hD hk => f_val (o := ⟨some 129, _, _, _, _, _⟩) (.int .i64 f2.qty) rfl (wanted_at (b := false) false rfl rfl (hD 28 117 (by kernel_rfl))) (exec_loadi 3 Try.underlying3 (.tmp 128) ⟨gg, og + j * 21 + 19, none⟩ (.int .i64 f2.qty) rfl (hD 39 128 (by kernel_rfl)) (range_int (range_kept HE2.out hk) 19 _ rfl)) rfl) ?_
      refine fsteps_cons 42 rfl (fun a u hE hD hk => f_as (show ((decide ((f.qty : Int) ≠ (f2.qty : Int))) : Bool) = false from decide_eq_false (fun h => h e3)) (f_val (o := ⟨some 130, _, _, _, _, _⟩) (.bool (decide ((f.qty : Int) ≠ (f2.qty : Int)))) rfl (wanted_at (b := false) false rfl rfl (hD 28 117 (by kernel_rfl))) (exec_nen (p := f.qty) (q := f2.qty) rfl (hD 34 123 (by kernel_rfl)) (hD 40 129 (by kernel_rfl))) rfl)) ?_
      refine sv 43 rfl rfl rfl (fun a u hE hD hk => exec_pickF (.tmp 117) (.const (.bool true)) (.tmp 130) (.bool false) rfl (hD 28 117 (by kernel_rfl)) (hD 41 130 (by kernel_rfl))) ?_
      exact fsteps_nil
     intro gv wc hV kc
     rw [show dstsOf _ 43 = [89, 90, 91, 92, 93, 94, 95, 96, 97, 98, 99, 100, 101, 102, 103, 104, 105, 106, 107, 108, 109, 110, 111, 112, 113, 114, 115, 116, 117, 118, 119, 120, 121, 122, 123, 124, 125, 126, 127, 128, 129, 130, 131] by kernel_rfl]
     simp only [fC, fN, sA, sS, sZ, dS, dZ]
     rw [show gv 131 = .bool false from hV 42 131 (by kernel_rfl)]
     clear hV
     refine wpList_nil ?_
     have kwc := hkr.trans kc
     go_wp2
     exact ⟨⟨j + 1, by omega, by go_num, kwc⟩, by simp [intOf]; omega⟩
    ·skip
     have HA12 := Lib.hid (HA11.out.kept hkr)
     have HB12 := Lib.hid (HB11.out.kept hkr)
     have kw12 := kw11.trans hkr
     obtain ⟨X, hX⟩ : ∃ X, ordsL (B2.sd 1) = X := ⟨_, rfl⟩
     obtain ⟨Y, hY⟩ : ∃ Y, ordsL (B2.sd 2) = Y := ⟨_, rfl⟩
     have HXe := Lib.hid hX
     have HYe := Lib.hid hY
     have HXl : Hid (X.length ≤ 64 ∧ Y.length ≤ 64) := by
      have h1 := HI2.out.two.few
      have h2 : X.length = (entL B2.buys).length := by rw [← hX, ordsL_len]; rfl
      have h3 : Y.length = (entL B2.sells).length := by rw [← hY, ordsL_len]; rfl
      show _ ∧ _
      omega
     clear hX hY HCx11 HCy11 HSx11 HSy11 HA11 HB11 kw11 hkr
     go_upto_region 23 with fail
     refine wp_text 15 [.eq (.pointer (some ⟨p, 0, none⟩)), .sl 0 25 9 X.length (ords X), .eq (.pointer (some ⟨r, 0, none⟩)), .sl 0 25 9 X.length (ords X), .eq (.bool true), .eq (.bool true), .eq (.pointer (some ⟨p, 0, none⟩)), .sl 0 25 9 Y.length (ords Y), .eq (.pointer (some ⟨r, 0, none⟩)), .sl 0 25 9 Y.length (ords Y), .eq (.bool true), .eq (.bool true), .eq (.bool true), .eq (.bool true), .eq (.bool true)] rfl (by kernel_rfl) ?_ ?_
     ·refine sv 1 rfl rfl rfl (fun a u hE hD hk => exec_move (.tmp 5) _ rfl (hE 5 (.pointer (some ⟨p, 0, none⟩)) (by kernel_rfl) (by kernel_rfl))) ?_
      refine fsteps_cons 2 rfl (fun a u hE hD hk => f_call (o := ⟨some 134, _, _, _, _, _⟩) 32 #[.pointer (some ⟨p, 0, none⟩), .int .i64 1] rfl (wanted_none rfl _) (exec_call 32 _ [.tmp 133, .const (.int .i64 1)] _ [.pointer (some ⟨p, 0, none⟩), .int .i64 1] Try.func32 (by kernel_rfl) (by kernel_rfl) rfl (show [a.eval (.tmp 133), a.eval (.const (.int .i64 1))] = [.pointer (some ⟨p, 0, none⟩), .int .i64 1] from (by rw [show a.eval (.tmp 133) = .pointer (some ⟨p, 0, none⟩) from (hD 0 133 (by kernel_rfl))] <;> rfl)) u) ((by have h := (borders_any u F' p B2 1 (HA12.out.kept hk) HI2.out).base (Nat.zero_le _); rw [HXe.out] at h; exact h))) ?_
      refine sv 3 rfl rfl rfl (fun a u hE hD hk => exec_move (.tmp 6) _ rfl (hE 6 (.pointer (some ⟨r, 0, none⟩)) (by kernel_rfl) (by kernel_rfl))) ?_
      refine fsteps_cons 4 rfl (fun a u hE hD hk => f_call (o := ⟨some 136, _, _, _, _, _⟩) 32 #[.pointer (some ⟨r, 0, none⟩), .int .i64 1] rfl (wanted_none rfl _) (exec_call 32 _ [.tmp 135, .const (.int .i64 1)] _ [.pointer (some ⟨r, 0, none⟩), .int .i64 1] Try.func32 (by kernel_rfl) (by kernel_rfl) rfl (show [a.eval (.tmp 135), a.eval (.const (.int .i64 1))] = [.pointer (some ⟨r, 0, none⟩), .int .i64 1] from (by rw [show a.eval (.tmp 135) = .pointer (some ⟨r, 0, none⟩) from (hD 2 135 (by kernel_rfl))] <;> rfl)) u) ((by have h := (borders_any u G' r B2 1 (HB12.out.kept hk) HI2.out).base (Nat.zero_le _); rw [HXe.out] at h; exact h))) ?_
      refine fsteps_cons 5 rfl (fun a u hE hD hk => f_call (o := ⟨some 137, _, _, _, _, _⟩) 37 #[a.eval (.tmp 134), a.eval (.tmp 136)] rfl (wanted_none rfl _) (exec_call 37 _ [.tmp 134, .tmp 136] _ [a.eval (.tmp 134), a.eval (.tmp 136)] Try.func37 (by kernel_rfl) (by kernel_rfl) rfl rfl u) ((by have h := sameO_any (a.eval (.tmp 134)) (a.eval (.tmp 136)) 0 0 X X u (hD 1 134 (by kernel_rfl)).1 (hD 3 136 (by kernel_rfl)).1 (by have := HXl.out; omega) (by have := HXl.out; omega); rwa [decide_eq_true rfl] at h))) ?_
      refine sv 6 rfl rfl rfl (fun a u hE hD hk => exec_move (.tmp 137) _ rfl (hD 4 137 (by kernel_rfl))) ?_
      refine fsteps_cons 7 rfl (fun a u hE hD hk => f_val (o := ⟨some 139, _, _, _, _, _⟩) (.pointer (some ⟨p, 0, none⟩)) rfl (wanted_at (b := true) true rfl rfl (hD 5 138 (by kernel_rfl))) (exec_move (.tmp 5) _ rfl (hE 5 (.pointer (some ⟨p, 0, none⟩)) (by kernel_rfl) (by kernel_rfl))) rfl) ?_
      refine fsteps_cons 8 rfl (fun a u hE hD hk => f_call (o := ⟨some 140, _, _, _, _, _⟩) 32 #[.pointer (some ⟨p, 0, none⟩), .int .i64 2] rfl (wanted_at (b := true) true rfl rfl (hD 5 138 (by kernel_rfl))) (exec_call 32 _ [.tmp 139, .const (.int .i64 2)] _ [.pointer (some ⟨p, 0, none⟩), .int .i64 2] Try.func32 (by kernel_rfl) (by kernel_rfl) rfl (show [a.eval (.tmp 139), a.eval (.const (.int .i64 2))] = [.pointer (some ⟨p, 0, none⟩), .int .i64 2] from (by rw [show a.eval (.tmp 139) = .pointer (some ⟨p, 0, none⟩) from (hD 6 139 (by kernel_rfl))] <;> rfl)) u) ((by have h := (borders_any u F' p B2 2 (HA12.out.kept hk) HI2.out).base (Nat.zero_le _); rw [HYe.out] at h; exact h))) ?_
      refine fsteps_cons 9 rfl (fun a u hE hD hk => f_val (o := ⟨some 141, _, _, _, _, _⟩) (.pointer (some ⟨r, 0, none⟩)) rfl (wanted_at (b := true) true rfl rfl (hD 5 138 (by kernel_rfl))) (exec_move (.tmp 6) _ rfl (hE 6 (.pointer (some ⟨r, 0, none⟩)) (by kernel_rfl) (by kernel_rfl))) rfl) ?_
      refine fsteps_cons 10 rfl (fun a u hE hD hk => f_call (o := ⟨some 142, _, _, _, _, _⟩) 32 #[.pointer (some ⟨r, 0, none⟩), .int .i64 2] rfl (wanted_at (b := true) true rfl rfl (hD 5 138 (by kernel_rfl))) (exec_call 32 _ [.tmp 141, .const (.int .i64 2)] _ [.pointer (some ⟨r, 0, none⟩), .int .i64 2] Try.func32 (by kernel_rfl) (by kernel_rfl) rfl (show [a.eval (.tmp 141), a.eval (.const (.int .i64 2))] = [.pointer (some ⟨r, 0, none⟩), .int .i64 2] from (by rw [show a.eval (.tmp 141) = .pointer (some ⟨r, 0, none⟩) from (hD 8 141 (by kernel_rfl))] <;> rfl)) u) ((by have h := (borders_any u G' r B2 2 (HB12.out.kept hk) HI2.out).base (Nat.zero_le _); rw [HYe.out] at h; exact h))) ?_
      refine fsteps_cons 11 rfl (fun a u hE hD hk => f_call (o := ⟨some 143, _, _, _, _, _⟩) 37 #[a.eval (.tmp 140), a.eval (.tmp 142)] rfl (wanted_at (b := true) true rfl rfl (hD 5 138 (by kernel_rfl))) (exec_call 37 _ [.tmp 140, .tmp 142] _ [a.eval (.tmp 140), a.eval (.tmp 142)] Try.func37 (by kernel_rfl) (by kernel_rfl) rfl rfl u) ((by have h := sameO_any (a.eval (.tmp 140)) (a.eval (.tmp 142)) 0 0 Y Y u (hD 7 140 (by kernel_rfl)).1 (hD 9 142 (by kernel_rfl)).1 (by have := HXl.out; omega) (by have := HXl.out; omega); rwa [decide_eq_true rfl] at h))) ?_
      refine sv 12 rfl rfl rfl (fun a u hE hD hk => exec_pick (.tmp 138) (.tmp 143) (.const (.bool false)) (.bool true) rfl (hD 5 138 (by kernel_rfl)) (hD 10 143 (by kernel_rfl))) ?_
      refine sv 13 rfl rfl rfl (fun a u hE hD hk => exec_move (.tmp 144) _ rfl (hD 11 144 (by kernel_rfl))) ?_
      refine fsteps_cons 14 rfl (fun a u hE hD hk => f_call (o := ⟨some 146, _, _, _, _, _⟩) 3 #[] rfl (wanted_at (b := true) true rfl rfl (hD 12 145 (by kernel_rfl))) (exec_call 3 _ [] _ [] Try.func3 (by kernel_rfl) (by kernel_rfl) rfl rfl u) (bruns_gives u)) ?_
      refine sv 15 rfl rfl rfl (fun a u hE hD hk => exec_pick (.tmp 145) (.tmp 146) (.const (.bool false)) (.bool true) rfl (hD 12 145 (by kernel_rfl)) (hD 13 146 (by kernel_rfl))) ?_
      exact fsteps_nil
     intro gv wz hV kz
     rw [show dstsOf _ 15 = [133, 134, 135, 136, 137, 138, 139, 140, 141, 142, 143, 144, 145, 146, 147] by kernel_rfl]
     simp only [fC, fN, sA, sS, sZ, dS, dZ]
     rw [show gv 147 = .bool true from hV 14 147 (by kernel_rfl)]
     clear hV
     refine l_val (o := ⟨some 4, _, _, _, _, _⟩) (.bool true) rfl (exec_assign (.tmp 147) (.bool true) rfl (by kernel_rfl)) ?_
     simp only [Act.put, sA, sS, sZ]
     refine wpList_nil ?_
     go_wp2
     go_ret
     exact ⟨rfl, kw12.trans kz⟩
 ·skip
  go_upto_region 11 with fail
  refine wp_text 3 [.eq (.pointer (some ⟨g11, 14, none⟩)), .eq (.int .i64 y.err), .eq (.bool true)] rfl (by kernel_rfl) ?_ ?_
  ·refine sv 1 rfl rfl rfl (fun a u hE hD hk => exec_fldo 29 6 14 (.tmp 11) (g11) (0) (14) rfl (hE 11 (.pointer (some ⟨g11, 0, none⟩)) (by kernel_rfl) (by kernel_rfl)) (by kernel_rfl) rfl) ?_
   refine sv 2 rfl rfl rfl (fun a u hE hD hk => exec_loadi 27 Try.underlying27 (.tmp 40) ⟨g11, 14, none⟩ (.int .i64 y.err) rfl (hD 0 40 (by kernel_rfl)) (by rw [(HCyw8.out.kept hk).cell]; rfl)) ?_
   refine fsteps_cons 3 rfl (fun a u hE hD hk => f_as (show ((decide ((y.err : Int) ≠ (0 : Int))) : Bool) = true from decide_eq_true he) (f_val (o := ⟨some 42, _, _, _, _, _⟩) (.bool (decide ((y.err : Int) ≠ (0 : Int)))) rfl (wanted_none rfl _) (exec_nen (p := y.err) (q := 0) rfl (hD 1 41 (by kernel_rfl)) rfl) rfl)) ?_
   exact fsteps_nil
  intro gv w9 hV k9
  rw [show dstsOf _ 3 = [40, 41, 42] by kernel_rfl]
  simp only [fC, fN, sA, sS, sZ, dS, dZ]
  rw [show gv 42 = .bool true from hV 2 42 (by kernel_rfl)]
  clear hV
  refine wpList_nil ?_
  have kw9 := kw8.trans k9
  have HCx9 := Lib.hid (HCxw8.out.kept k9)
  have HCy9 := Lib.hid (HCyw8.out.kept k9)
  go_upto_region 12 with fail
  refine wp_text 8 [.eq (.pointer (some ⟨g10, 14, none⟩)), .eq (.int .i64 x.err), .eq (.pointer (some ⟨g11, 14, none⟩)), .eq (.int .i64 y.err), .eq (.bool true), .eq (.bool true), .eq (.bool true), .eq (.bool true)] rfl (by kernel_rfl) ?_ ?_
  ·refine sv 1 rfl rfl rfl (fun a u hE hD hk => exec_fldo 29 6 14 (.tmp 10) (g10) (0) (14) rfl (hE 10 (.pointer (some ⟨g10, 0, none⟩)) (by kernel_rfl) (by kernel_rfl)) (by kernel_rfl) rfl) ?_
   refine sv 2 rfl rfl rfl (fun a u hE hD hk => exec_loadi 27 Try.underlying27 (.tmp 43) ⟨g10, 14, none⟩ (.int .i64 x.err) rfl (hD 0 43 (by kernel_rfl)) (by rw [(HCx9.out.kept hk).cell]; rfl)) ?_
   refine sv 3 rfl rfl rfl (fun a u hE hD hk => exec_fldo 29 6 14 (.tmp 11) (g11) (0) (14) rfl (hE 11 (.pointer (some ⟨g11, 0, none⟩)) (by kernel_rfl) (by kernel_rfl)) (by kernel_rfl) rfl) ?_
   refine sv 4 rfl rfl rfl (fun a u hE hD hk => exec_loadi 27 Try.underlying27 (.tmp 45) ⟨g11, 14, none⟩ (.int .i64 y.err) rfl (hD 2 45 (by kernel_rfl)) (by rw [(HCy9.out.kept hk).cell]; rfl)) ?_
   refine fsteps_cons 5 rfl (fun a u hE hD hk => f_as (show ((decide ((x.err : Int) = (y.err : Int))) : Bool) = true from decide_eq_true (HIO.out.no he)) (f_val (o := ⟨some 47, _, _, _, _, _⟩) (.bool (decide ((x.err : Int) = (y.err : Int)))) rfl (wanted_none rfl _) (exec_eqn (p := x.err) (q := y.err) rfl (hD 1 44 (by kernel_rfl)) (hD 3 46 (by kernel_rfl))) rfl)) ?_
   refine sv 6 rfl rfl rfl (fun a u hE hD hk => exec_move (.tmp 47) _ rfl (hD 4 47 (by kernel_rfl))) ?_
   refine fsteps_cons 7 rfl (fun a u hE hD hk => f_call (o := ⟨some 49, _, _, _, _, _⟩) 3 #[] rfl (wanted_at (b := true) true rfl rfl (hD 5 48 (by kernel_rfl))) (exec_call 3 _ [] _ [] Try.func3 (by kernel_rfl) (by kernel_rfl) rfl rfl u) (bruns_gives u)) ?_
   refine sv 8 rfl rfl rfl (fun a u hE hD hk => exec_pick (.tmp 48) (.tmp 49) (.const (.bool false)) (.bool true) rfl (hD 5 48 (by kernel_rfl)) (hD 6 49 (by kernel_rfl))) ?_
   exact fsteps_nil
  intro gv wz hV kz
  rw [show dstsOf _ 8 = [43, 44, 45, 46, 47, 48, 49, 50] by kernel_rfl]
  simp only [fC, fN, sA, sS, sZ, dS, dZ]
  rw [show gv 50 = .bool true from hV 7 50 (by kernel_rfl)]
  clear hV
  refine l_val (o := ⟨some 4, _, _, _, _, _⟩) (.bool true) rfl (exec_assign (.tmp 50) (.bool true) rfl (by kernel_rfl)) ?_
  simp only [Act.put, sA, sS, sZ]
  refine wpList_nil ?_
  go_wp2
  go_ret
  exact ⟨rfl, kw9.trans kz⟩
set_option maxRecDepth 100000 in
set_option maxHeartbeats 3200000 in
theorem bookFok_l (v : Value) (l : List Kq) (q : Kq) (w : World) (hl : Kqs w v l) (hkk : q.o.k ≠ 2) : Calls Try.prog 10 #[v, q.v] w fun e w' => e = .returned (.bool true) ∧ Kept w w' := by
 obtain ⟨o, ho⟩ : ∃ o, q.o = o := ⟨_, rfl⟩
 have HKO : Hid (o.right = true ∧ o.stop = 0 ∧ o.qty ≤ 12) := by rw [← ho]; exact q.right
 have HGO : Hid (∀ u, Gives 22 #[q.v] u (.eq o.v)) := fun u => by rw [← ho]; exact korder_any q u
 have HKK : Hid (o.k ≠ 2) := by rw [← ho]; exact hkk
 clear ho hkk
 go_enter Try.func10, Try.ntmps10
 go_upto_region 0 with fail
 refine wp_text 1 [.fresh w.heap.size 48 (q.cells)] rfl (by kernel_rfl) ?_ ?_
 ·refine fsteps_cons 1 rfl (fun a u hE hD hk => f_new (o := ⟨some 3, _, _, _, _, _⟩) (.pointer (some ⟨u.heap.size, 0, none⟩)) _ rfl (wanted_none rfl _) (exec_box 48 (.tmp 1) (q.cells) rfl (hE 1 (q.v) (by kernel_rfl) (by kernel_rfl))) ⟨_, rfl, hk.size, Blk.new u _ _⟩ ((Keep.refl _ u).alloc _)) ?_
  exact fsteps_nil
 intro gv w0 hV k0
 rw [show dstsOf _ 1 = [3] by kernel_rfl]
 simp only [fC, fN, sA, sS, sZ, dS, dZ]
 have hv3 : (.fresh w.heap.size 48 (q.cells) : Kn).p (gv 3) w0 := hV 0 3 (by kernel_rfl)
 generalize gv 3 = v3 at hv3 ⊢
 clear hV
 obtain ⟨g3, rfl, hg3, hQ⟩ := hv3
 refine l_val (o := ⟨some 4, _, _, _, _, _⟩) (.bool false) rfl (exec_assign (.const (.bool false)) (.bool false) rfl (by kernel_rfl)) ?_
 simp only [Act.put, sA, sS, sZ]
 refine wpList_nil ?_
 have HQ0 := Lib.hid (blk_range hQ)
 have lq := hQ.lt
 have z0 := k0.size
 have hl0 := hl.kept k0
 clear hQ hl
 go_upto_region 1 with fail
 refine wp_region_lit ?_
 refine l_val (o := ⟨some 13, _, _, _, _, _⟩) (v) rfl (exec_move (.tmp 0) (v) rfl (by kernel_rfl)) ?_
 simp only [Act.put, sA, sS, sZ]
 refine l_call (o := ⟨some 14, _, _, _, _, _⟩) 31 #[v, .int .i64 40] rfl (exec_call 31 _ [.tmp 13, .const (.int .i64 40)] _ _ Try.func31 (by kernel_rfl) (by kernel_rfl) rfl (by kernel_rfl) _) ?_
 refine (bfilled_any v l 40 w0 hl0 (by omega)).mono ?_
 rintro rr w1a ⟨p, F, rfl, hA1, hG1, k1a⟩
 refine ⟨_, rfl, ?_⟩
 simp only [Act.put, sA, sS, sZ]
 refine l_val (o := ⟨some 15, _, _, _, _, _⟩) (v) rfl (exec_move (.tmp 0) (v) rfl (by kernel_rfl)) ?_
 simp only [Act.put, sA, sS, sZ]
 refine l_call (o := ⟨some 16, _, _, _, _, _⟩) 31 #[v, .int .i64 40] rfl (exec_call 31 _ [.tmp 15, .const (.int .i64 40)] _ _ Try.func31 (by kernel_rfl) (by kernel_rfl) rfl (by kernel_rfl) _) ?_
 refine (bfilled_any v l 40 w1a (hl0.kept k1a) (by omega)).mono ?_
 rintro rr w1 ⟨r, G, rfl, hB1, hG2, k1b⟩
 refine ⟨_, rfl, ?_⟩
 simp only [Act.put, sA, sS, sZ]
 refine l_val (o := ⟨some 5, _, _, _, _, _⟩) (.pointer (some ⟨p, 0, none⟩)) rfl (exec_assign (.tmp 14) (.pointer (some ⟨p, 0, none⟩)) rfl (by kernel_rfl)) ?_
 simp only [Act.put, sA, sS, sZ]
 refine l_val (o := ⟨some 6, _, _, _, _, _⟩) (.pointer (some ⟨r, 0, none⟩)) rfl (exec_assign (.tmp 16) (.pointer (some ⟨r, 0, none⟩)) rfl (by kernel_rfl)) ?_
 simp only [Act.put, sA, sS, sZ]
 refine wpList_nil ?_
 have hI := fillB_inv (l.take 40)
 have HNo : Hid ((fillB (l.take 40)).no ≤ 1000000000000) := by
  have h1 := hI.2
  have h2 : (l.take 40).length ≤ 40 := by rw [List.length_take]; omega
  show _ ≤ _
  omega
 have HI := Lib.hid hI.1
 clear hI
 generalize fillB (l.take 40) = B at HI hB1 hA1 HNo
 have HB1 := Lib.hid hB1
 have k1 := k1a.trans k1b
 have HFl : Hid (∀ b, F b → b < w1a.heap.size) := hA1.lt
 have HGl : Hid (∀ b, G b → b < w1.heap.size) := hB1.lt
 have z1b := k1b.size
 have z1a := k1a.size
 have HA1 := Lib.hid (hA1.kept k1b)
 have HFg : Hid (∀ b, F b → w0.heap.size ≤ b) := fun b hb => (hG1 b hb).elim (fun h => h.elim) id
 have HGg : Hid (∀ b, G b → w1a.heap.size ≤ b) := fun b hb => (hG2 b hb).elim (fun h => h.elim) id
 have HD : Hid (∀ b, F b → ¬ G b) := fun b h h' => by have := HFl.out b h; have := HGg.out b h'; omega
 have HQ1 := Lib.hid (range_kept HQ0.out k1)
 have kw1 := k0.trans k1
 have z1 := k1.size
 clear hB1 hA1 hG1 hG2 hl0 HQ0 k0 k1 k1a k1b
 go_upto_region 4 with fail
 refine wp_text 3 [.eq (q.v), .eq (o.v), .fresh w1.heap.size 25 zeroO.cells] rfl (by kernel_rfl) ?_ ?_
 ·refine sv 1 rfl rfl rfl (fun a u hE hD hk => exec_ldS 48 _ (.tmp 3) (g3) (0) (q.cells) rfl (hE 3 (.pointer (some ⟨g3, 0, none⟩)) (by kernel_rfl) (by kernel_rfl)) (range_kept HQ1.out hk) Try.underlying48 (by rw [q.len7]; exact szK)) ?_
  refine fsteps_cons 2 rfl (fun a u hE hD hk => f_call (o := ⟨some 24, _, _, _, _, _⟩) 22 #[q.v] rfl (wanted_none rfl _) (exec_call 22 _ [.tmp 23] _ [q.v] Try.func22 (by kernel_rfl) (by kernel_rfl) rfl (show [a.eval (.tmp 23)] = [q.v] from (by rw [show a.eval (.tmp 23) = q.v from (hD 0 23 (by kernel_rfl))] <;> rfl)) u) (HGO.out u)) ?_
  refine fsteps_cons 3 rfl (fun a u hE hD hk => f_new (o := ⟨some 7, _, _, _, _, _⟩) (.pointer (some ⟨u.heap.size, 0, none⟩)) _ rfl (wanted_none rfl _) (exec_alc 25 zeroO.cells rfl zO) ⟨_, rfl, hk.size, Blk.new u _ _⟩ ((Keep.refl _ u).alloc _)) ?_
  exact fsteps_nil
 intro gv w2a hV kv2a
 rw [show dstsOf _ 3 = [23, 24, 7] by kernel_rfl]
 simp only [fC, fN, sA, sS, sZ, dS, dZ]
 have hv7 : (.fresh w1.heap.size 25 zeroO.cells : Kn).p (gv 7) w2a := hV 2 7 (by kernel_rfl)
 generalize gv 7 = v7 at hv7 ⊢
 rw [show gv 24 = o.v from hV 1 24 (by kernel_rfl)]
 clear hV
 obtain ⟨g7, rfl, hg7, hBn⟩ := hv7
 refine l_setS (o := ⟨none, _, _, _, _, _⟩) 25 g7 25 zeroO.cells o.cells (.tmp 7) (.tmp 24) rfl rfl (by kernel_rfl) (by kernel_rfl) hBn (by rw [Ord.len9]; exact ord_size) (by rw [Ord.len9, Ord.len9]) (Ord.one1 _) ?_
 intro w2 hBo hkn hsn
 simp only [Act.put]
 refine wpList_nil ?_
 have kv2 : Kept w1 w2 := kv2a.trans' hkn (by omega)
 have HOw2 := Lib.hid (blk_range hBo)
 have lo7 := hBo.lt
 have zw2 := kv2.size
 have HOB := Lib.hid hBo
 clear hBn hBo hkn hsn kv2a
 obtain ⟨o0, ho0⟩ : ∃ y, ({ o with shw := 0 } : Ord) = y := ⟨_, rfl⟩
 go_upto_region 5 with fail
 refine wp_text 1 [.eq (.pointer (some ⟨g7, 7, none⟩))] rfl (by kernel_rfl) ?_ ?_
 ·refine sv 1 rfl rfl rfl (fun a u hE hD hk => exec_fldo 25 7 7 (.tmp 7) (g7) (0) (7) rfl (hE 7 (.pointer (some ⟨g7, 0, none⟩)) (by kernel_rfl) (by kernel_rfl)) (by kernel_rfl) rfl) ?_
  exact fsteps_nil
 intro gv w3a hV kw3a
 rw [show dstsOf _ 1 = [25] by kernel_rfl]
 simp only [fC, fN, sA, sS, sZ, dS, dZ]
 rw [show gv 25 = .pointer (some ⟨g7, 7, none⟩) from hV 0 25 (by kernel_rfl)]
 clear hV
 refine l_setf (o := ⟨none, _, _, _, _, _⟩) g7 7 25 o.l [] 0 (.tmp 25) (.const (.int .i64 0)) rfl rfl (by kernel_rfl) rfl (HOB.out.kept kw3a) (by simp [Ord.l]) ?_
 intro w3 hBw3 hkw3 hsw3
 simp only [Act.put]
 refine wpList_nil ?_
 have HBw3 : Hid (Blk w3 g7 25 o0.cells) := by show Blk _ _ _ _; rw [← ho0]; exact hBw3
 have Kw3 : Kept w2 w3a := kw3a
 have kv3 : Kept w1 w3 := (kv2.trans kw3a).trans' hkw3 (by omega)
 have HB3 := HBw3
 have HO3 : Hid (w3.rangeAt g7 0 o0.cells) := blk_range HBw3.out
 have z3 := kv3.size
 have lg7 : g7 < w3.heap.size := HB3.out.lt
 clear hBw3 hkw3 hsw3 kw3a Kw3 HOB HOw2 HQ1 HBw3 kv2
 have hp : o0.k ≠ 2 := by rw [← ho0]; exact HKK.out
 go_upto_region 6 with fail
 refine wp_text 3 [.eq (.pointer (some ⟨g7, 4, none⟩)), .eq (.int .i64 o0.k), .eq (.bool false)] rfl (by kernel_rfl) ?_ ?_
 ·refine sv 1 rfl rfl rfl (fun a u hE hD hk => exec_fldo 25 4 4 (.tmp 7) (g7) (0) (4) rfl (hE 7 (.pointer (some ⟨g7, 0, none⟩)) (by kernel_rfl) (by kernel_rfl)) (by kernel_rfl) rfl) ?_
  refine sv 2 rfl rfl rfl (fun a u hE hD hk => exec_loadi 3 Try.underlying3 (.tmp 26) ⟨g7, 4, none⟩ (.int .i64 o0.k) rfl (hD 0 26 (by kernel_rfl)) (range_int (range_kept HO3.out hk) 4 _ rfl)) ?_
  refine fsteps_cons 3 rfl (fun a u hE hD hk => f_as (show ((decide ((o0.k : Int) = (2 : Int))) : Bool) = false from decide_eq_false hp) (f_val (o := ⟨some 28, _, _, _, _, _⟩) (.bool (decide ((o0.k : Int) = (2 : Int)))) rfl (wanted_none rfl _) (exec_eqn (p := o0.k) (q := 2) rfl (hD 1 27 (by kernel_rfl)) rfl) rfl)) ?_
  exact fsteps_nil
 intro gv w4 hV k4
 rw [show dstsOf _ 3 = [26, 27, 28] by kernel_rfl]
 simp only [fC, fN, sA, sS, sZ, dS, dZ]
 rw [show gv 28 = .bool false from hV 2 28 (by kernel_rfl)]
 clear hV
 refine wpList_nil ?_
 have kv4 := kv3.trans k4
 have HB4 := Lib.hid (HB3.out.kept k4)
 clear HB3 HO3 k4 kv3
 obtain ⟨o1, ho1⟩ : ∃ y, o0 = y := ⟨_, rfl⟩
 have HII : Hid (FokIs (B.add { o1 with k := 4 }) (B.add { o1 with k := 3 })) := by
  show FokIs _ _
  rw [← ho1, ← ho0]
  obtain ⟨h1, h2⟩ := (right_fok o HKO.out.1 HKO.out.2.1).1 (by rw [← ho0] at hp; exact hp)
  exact fok_is (o := { o with shw := 0 }) HI.out h1 h2 HKO.out.2.1
 obtain ⟨w5, hw5⟩ : ∃ y, w4 = y := ⟨_, rfl⟩
 rw [hw5, ho1] at HB4
 rw [hw5] at kv4 ⊢
 have HBw5 := HB4
 have kv5 := kv4
 clear HB4 kv4
 have z5 := kv5.size
 have lh7 : g7 < w5.heap.size := HBw5.out.lt
 clear ho0 ho1 HKO HGO
 go_upto_region 8 with fail
 refine wp_allocs [0, 1] 25 zeroO.cells [(2, 8), (3, 9)] [(4, 1), (5, 1)] (by kernel_rfl) zO (by kernel_rfl) ?_
 refine p_val (o := ⟨some 30, _, _, _, _, _⟩) o1.v rfl rfl (fun u hu => exec_loadS 25 (.tmp 7) g7 25 o1.cells _ rfl (by kernel_rfl) (HBw5.out.kept hu) Try.underlying25 (by rw [Ord.cells_len _ trivial]; exact ord_size)) ?_
 simp only [Act.put, sA, sS, sZ]
 refine p_val (o := ⟨some 31, _, _, _, _, _⟩) o1.v rfl rfl (fun u hu => exec_loadS 25 (.tmp 7) g7 25 o1.cells _ rfl (by kernel_rfl) (HBw5.out.kept hu) Try.underlying25 (by rw [Ord.cells_len _ trivial]; exact ord_size)) ?_
 simp only [Act.put, sA, sS, sZ]
 intro β u1 hβ hβd ku1
 obtain ⟨hg8, A1⟩ : w5.heap.size ≤ β 8 ∧ Blk u1 (β 8) 25 zeroO.cells := hβ (2, 8) (by decide)
 obtain ⟨hg9, B1⟩ : w5.heap.size ≤ β 9 ∧ Blk u1 (β 9) 25 zeroO.cells := hβ (3, 9) (by decide)
 have nab : β 8 ≠ β 9 := hβd (2, 8) (by decide) (3, 9) (by decide) (by decide)
 clear hβ hβd
 simp only [puts, List.foldl_cons, List.foldl_nil]
 simp only [Act.put, sA, sS, sZ]
 generalize β 8 = g8 at *
 generalize β 9 = g9 at *
 clear β
 refine s_setS (o := ⟨none, _, _, _, _, _⟩) 25 g8 25 zeroO.cells o1.cells (.tmp 8) (.tmp 30) rfl rfl rfl (by kernel_rfl) (by kernel_rfl) A1 (by rw [Ord.cells_len _ trivial]; exact ord_size) (by rw [Ord.len9, Ord.len9]) (Ord.one1 _) (fun w' hk => Kept.trans' ku1 hk (by omega)) ?_
 intro u2 A2 k2
 have ku2 : Kept w5 u2 := Kept.trans' ku1 k2 (by omega)
 have B2 := B1.keep k2 (by omega)
 simp only [Act.put]
 refine s_setS (o := ⟨none, _, _, _, _, _⟩) 25 g9 25 zeroO.cells o1.cells (.tmp 9) (.tmp 31) rfl rfl rfl (by kernel_rfl) (by kernel_rfl) B2 (by rw [Ord.cells_len _ trivial]; exact ord_size) (by rw [Ord.len9, Ord.len9]) (Ord.one1 _) (fun w' hk => Kept.trans' ku2 hk (by omega)) ?_
 intro w6 B3 k3
 have ku3 : Kept w5 w6 := Kept.trans' ku2 k3 (by omega)
 have A3 := A2.keep k3 (by omega)
 simp only [Act.put]
 refine s_done ?_
 have HA6 := Lib.hid A3
 have HB6 := Lib.hid B3
 have kv6 := kv5.trans ku3
 have z6 := kv6.size
 have z56 := ku3.size
 have lg8 : g8 < w6.heap.size := HA6.out.lt
 have lg9 : g9 < w6.heap.size := HB6.out.lt
 clear A1 B1 A2 B2 k2 k3 ku1 ku2 ku3 A3 B3 HBw5 kv5
 obtain ⟨fo, hfo⟩ : ∃ y, ({ o1 with k := 4 } : Ord) = y := ⟨_, rfl⟩
 obtain ⟨io, hio⟩ : ∃ y, ({ o1 with k := 3 } : Ord) = y := ⟨_, rfl⟩
 rw [hfo, hio] at HII
 go_upto_region 9 with fail
 refine wp_text 1 [.eq (.pointer (some ⟨g8, 4, none⟩))] rfl (by kernel_rfl) ?_ ?_
 ·refine sv 1 rfl rfl rfl (fun a u hE hD hk => exec_fldo 25 4 4 (.tmp 8) (g8) (0) (4) rfl (hE 8 (.pointer (some ⟨g8, 0, none⟩)) (by kernel_rfl) (by kernel_rfl)) (by kernel_rfl) rfl) ?_
  exact fsteps_nil
 intro gv w7a hV k7a
 rw [show dstsOf _ 1 = [32] by kernel_rfl]
 simp only [fC, fN, sA, sS, sZ, dS, dZ]
 rw [show gv 32 = .pointer (some ⟨g8, 4, none⟩) from hV 0 32 (by kernel_rfl)]
 clear hV
 refine l_setf (o := ⟨none, _, _, _, _, _⟩) g8 4 25 o1.l [] 4 (.tmp 32) (.const (.int .i64 4)) rfl rfl (by kernel_rfl) rfl (HA6.out.kept k7a) (by simp [Ord.l]) ?_
 intro w7b hA7b hk7b hs7b
 simp only [Act.put]
 refine l_val (o := ⟨some 33, _, _, _, _, _⟩) (.pointer (some ⟨g9, 4, none⟩)) rfl (exec_fldo 25 4 4 (.tmp 9) (g9) (0) (4) rfl (by kernel_rfl) (by kernel_rfl) rfl) ?_
 simp only [Act.put, sA, sS, sZ]
 refine l_setf (o := ⟨none, _, _, _, _, _⟩) g9 4 25 o1.l [] 3 (.tmp 33) (.const (.int .i64 3)) rfl rfl (by kernel_rfl) rfl ((HB6.out.kept k7a).keep hk7b (fun h => nab h.symm)) (by simp [Ord.l]) ?_
 intro w7 hB7 hk7 hs7
 simp only [Act.put]
 refine wpList_nil ?_
 have hA7 := hA7b.keep hk7 nab
 have HO7 : Hid (w7.rangeAt g8 0 fo.cells) := by show World.rangeAt _ _ _ _; rw [← hfo]; exact blk_range hA7
 have HP7 : Hid (w7.rangeAt g9 0 io.cells) := by show World.rangeAt _ _ _ _; rw [← hio]; exact blk_range hB7
 have kv7 : Kept w1 w7 := ((kv6.trans k7a).trans' hk7b (by omega)).trans' hk7 (by omega)
 have z67 : w6.heap.size ≤ w7.heap.size := Nat.le_trans k7a.size (Nat.le_trans hk7b.size hk7.size)
 have z7 := kv7.size
 have HAw7 := Lib.hid (HA1.out.kept kv7)
 have HBw7 := Lib.hid (HB1.out.kept kv7)
 have kw7 := kw1.trans kv7
 clear hA7b hk7b hs7b hB7 hk7 hs7 hA7 k7a HA6 HB6 kv6 HA1 HB1 hfo hio
 obtain ⟨x, hx⟩ : ∃ y, (B.add fo).1 = y := ⟨_, rfl⟩
 obtain ⟨A2, hA2⟩ : ∃ y, (B.add fo).2 = y := ⟨_, rfl⟩
 obtain ⟨y, hy⟩ : ∃ y, (B.add io).1 = y := ⟨_, rfl⟩
 obtain ⟨B2, hB2⟩ : ∃ y, (B.add io).2 = y := ⟨_, rfl⟩
 have HX : Hid (B.add fo = (x, A2)) := by rw [← hx, ← hA2]; exact rfl
 have HY : Hid (B.add io = (y, B2)) := by rw [← hy, ← hB2]; exact rfl
 have HI2 : Hid (Inv B2) := by show Inv _; rw [← hB2]; exact (inv_add HI.out).1
 have HIO : Hid (FokIs (x, A2) (y, B2)) := by show FokIs _ _; rw [← HX.out, ← HY.out]; exact HII.out
 clear hx hA2 hy hB2 HII
 go_upto_region 10 with fail
 refine wp_freeN 8 2 5 6 7 [0, 1, 3, 4, 6, 7] [0, 1, 2, 3, 4, 6, 7] (fun Av => [.eq (.pointer (some ⟨p, 0, none⟩)), .eq (fo.v), .addA w7.heap.size Av F p (x, A2), .eq (.pointer (some ⟨r, 0, none⟩)), .eq (io.v), .twoA w7.heap.size Av F G p r (x, A2) (y, B2), .fresh w7.heap.size 29 (zeroC.cells (.slice none 0 0)), .fresh w7.heap.size 29 (zeroC.cells (.slice none 0 0))]) (F) (G) (by kernel_rfl) (fun _ => rfl) (by omega) (by omega) (by omega) (by kernel_rfl) (by kernel_rfl) (by kernel_rfl) (by kernel_rfl) ?_ ?_ (by omega) (by omega) (by omega) (by omega) (by omega) (fun _ => Kn.old_fresh) (fun _ => Kn.old_fresh) ?_ (.fresh w7.heap.size 29 (zeroC.cells (.slice none 0 0))) (.fresh w7.heap.size 29 (zeroC.cells (.slice none 0 0))) (fun _ => rfl) (fun _ => rfl) (fun Av a u hE hD hk => n_new (K := (.fresh w7.heap.size 29 (zeroC.cells (.slice none 0 0)) : Kn)) (o := ⟨some 10, _, _, _, _, _⟩) (.pointer (some ⟨u.heap.size, 0, none⟩)) _ rfl (wanted_none rfl _) (exec_alc 29 (zeroC.cells (.slice none 0 0)) rfl zC) ⟨_, rfl, hk.size, Blk.new u _ _⟩ ((Keep.refl _ u).alloc _) rfl) (fun Av a u hE hD hk => n_new (K := (.fresh w7.heap.size 29 (zeroC.cells (.slice none 0 0)) : Kn)) (o := ⟨some 11, _, _, _, _, _⟩) (.pointer (some ⟨u.heap.size, 0, none⟩)) _ rfl (wanted_none rfl _) (exec_alc 29 (zeroC.cells (.slice none 0 0)) rfl zC) ⟨_, rfl, hk.size, Blk.new u _ _⟩ ((Keep.refl _ u).alloc _) rfl) ?_ (fun Av a u hE hD hk hAv => v_call (o := ⟨some 36, _, _, _, _, _⟩) 15 #[.pointer (some ⟨p, 0, none⟩), fo.v] rfl (wanted_none rfl _) (exec_call 15 _ [.tmp 34, .tmp 35] _ [.pointer (some ⟨p, 0, none⟩), fo.v] Try.func15 (by kernel_rfl) (by kernel_rfl) rfl (show [a.eval (.tmp 34), a.eval (.tmp 35)] = [.pointer (some ⟨p, 0, none⟩), fo.v] from (by rw [show a.eval (.tmp 34) = .pointer (some ⟨p, 0, none⟩) from (hD 0 34 (by kernel_rfl)), show a.eval (.tmp 35) = fo.v from (hD 1 35 (by kernel_rfl))] <;> rfl)) u) (badd_knA u Av F p B fo (x, A2) w7.heap.size HX.out (HAw7.out.kept hk) HI.out HNo.out hk.size (fun b hb => ⟨fun h => by have := HFl.out _ h; have := (hAv b hb).1; omega, (hAv b hb).2⟩))) (fun Av a u hE hD hk hAv => v_call (o := ⟨some 39, _, _, _, _, _⟩) 15 #[.pointer (some ⟨r, 0, none⟩), io.v] rfl (wanted_none rfl _) (exec_call 15 _ [.tmp 37, .tmp 38] _ [.pointer (some ⟨r, 0, none⟩), io.v] Try.func15 (by kernel_rfl) (by kernel_rfl) rfl (show [a.eval (.tmp 37), a.eval (.tmp 38)] = [.pointer (some ⟨r, 0, none⟩), io.v] from (by rw [show a.eval (.tmp 37) = .pointer (some ⟨r, 0, none⟩) from (hD 3 37 (by kernel_rfl)), show a.eval (.tmp 38) = io.v from (hD 4 38 (by kernel_rfl))] <;> rfl)) u) (badd_twoA u Av F G p r B io (x, A2) (y, B2) w7.heap.size HY.out _ (hD 2 36 (by kernel_rfl)) (HBw7.out.keep hk (fun b hb h => HD.out b h hb)) HI.out HNo.out hk.size HD.out (fun b hb => by have := HGl.out b hb; omega) hAv)) ?_
 ·intro Av i hi
  have hi2 : i = 0 ∨ i = 1 ∨ i = 3 ∨ i = 4 ∨ i = 6 ∨ i = 7 := by simpa using hi
  rcases hi2 with rfl | rfl | rfl | rfl | rfl | rfl
  ·exact Kn.safe_eq _ _
  ·exact Kn.safe_eq _ _
  ·exact Kn.safe_eq _ _
  ·exact Kn.safe_eq _ _
  ·exact Kn.safe_fresh (fun b hb h => by have := HFl.out _ h; omega)
  ·exact Kn.safe_fresh (fun b hb h => by have := HFl.out _ h; omega)
 ·intro Av i hi hAv
  have hi2 : i = 0 ∨ i = 1 ∨ i = 2 ∨ i = 3 ∨ i = 4 ∨ i = 6 ∨ i = 7 := by simpa using hi
  rcases hi2 with rfl | rfl | rfl | rfl | rfl | rfl | rfl
  ·exact Kn.safe_eq _ _
  ·exact Kn.safe_eq _ _
  ·exact Kn.safe_addA HD.out (fun b hb h => by have := HGl.out _ h; omega)
  ·exact Kn.safe_eq _ _
  ·exact Kn.safe_eq _ _
  ·exact Kn.safe_fresh (fun b hb h => by have := HGl.out _ h; omega)
  ·exact Kn.safe_fresh (fun b hb h => by have := HGl.out _ h; omega)
 ·intro Av g j v w_ hj h hg
  have hj2 : j = 0 ∨ j = 1 ∨ j = 2 ∨ j = 3 ∨ j = 4 ∨ j = 5 ∨ j = 6 ∨ j = 7 := by omega
  rcases hj2 with rfl | rfl | rfl | rfl | rfl | rfl | rfl | rfl
  ·exact h
  ·exact h
  ·exact Kn.addA_grow h hg
  ·exact h
  ·exact h
  ·exact Kn.twoA_grow h hg
  ·exact h
  ·exact h
 ·intro Av
  refine nsteps_cons 1 rfl (fun a u hE hD hk => f_val (o := ⟨some 34, _, _, _, _, _⟩) (.pointer (some ⟨p, 0, none⟩)) rfl (wanted_none rfl _) (exec_move (.tmp 5) _ rfl (hE 5 (.pointer (some ⟨p, 0, none⟩)) (by kernel_rfl) (by kernel_rfl))) rfl) ?_
  refine nsteps_cons 2 rfl (fun a u hE hD hk => f_val (o := ⟨some 35, _, _, _, _, _⟩) (fo.v) rfl (wanted_none rfl _) (exec_ldS 25 _ (.tmp 8) (g8) (0) (fo.cells) rfl (hE 8 (.pointer (some ⟨g8, 0, none⟩)) (by kernel_rfl) (by kernel_rfl)) (range_keep HO7.out hk (fun h => h.elim (fun h => by have := HFl.out _ h; omega) (fun h => by have := HGl.out _ h; omega))) Try.underlying25 (by rw [fo.len9]; exact ord_size)) rfl) ?_
  refine nsteps_turn 3 rfl (by omega) ?_
  refine nsteps_cons 4 rfl (fun a u hE hD hk => f_val (o := ⟨some 37, _, _, _, _, _⟩) (.pointer (some ⟨r, 0, none⟩)) rfl (wanted_none rfl _) (exec_move (.tmp 6) _ rfl (hE 6 (.pointer (some ⟨r, 0, none⟩)) (by kernel_rfl) (by kernel_rfl))) rfl) ?_
  refine nsteps_cons 5 rfl (fun a u hE hD hk => f_val (o := ⟨some 38, _, _, _, _, _⟩) (io.v) rfl (wanted_none rfl _) (exec_ldS 25 _ (.tmp 9) (g9) (0) (io.cells) rfl (hE 9 (.pointer (some ⟨g9, 0, none⟩)) (by kernel_rfl) (by kernel_rfl)) (range_keep HP7.out hk (fun h => h.elim (fun h => by have := HFl.out _ h; omega) (fun h => by have := HGl.out _ h; omega))) Try.underlying25 (by rw [io.len9]; exact ord_size)) rfl) ?_
  refine nsteps_turn 6 rfl (by omega) ?_
  refine nsteps_turn 7 rfl (by omega) ?_
  refine nsteps_turn 8 rfl (by omega) ?_
  exact nsteps_nil
 intro Av gv w8a hV Kw8a hAx hAy hUN
 replace hUN := hUN 10 11 (by kernel_rfl) (by kernel_rfl)
 replace hAx := fun b => hAx 10 b (by kernel_rfl)
 replace hAy := fun b => hAy 11 b (by kernel_rfl)
 rw [show dstsOf _ 8 = [34, 35, 36, 37, 38, 39, 10, 11] by kernel_rfl]
 simp only [fC, fN, sA, sS, sZ, dS, dZ]
 have hv10 : (.fresh w7.heap.size 29 (zeroC.cells (.slice none 0 0)) : Kn).p (gv 10) w8a := hV 6 10 (by kernel_rfl)
 generalize gv 10 = v10 at hv10 hUN hAx ⊢
 have hv36 : (.addA w7.heap.size Av F p (x, A2) : Kn).p (gv 36) w8a := hV 2 36 (by kernel_rfl)
 generalize gv 36 = v36 at hv36 ⊢
 have hv11 : (.fresh w7.heap.size 29 (zeroC.cells (.slice none 0 0)) : Kn).p (gv 11) w8a := hV 7 11 (by kernel_rfl)
 generalize gv 11 = v11 at hv11 hUN hAy ⊢
 have hv39 : (.twoA w7.heap.size Av F G p r (x, A2) (y, B2) : Kn).p (gv 39) w8a := hV 5 39 (by kernel_rfl)
 generalize gv 39 = v39 at hv39 ⊢
 clear hV
 obtain ⟨_, vx, rfl, _, hSx, hOx, _, _⟩ := hv36
 obtain ⟨F', G', vy, rfl, hA', hB', hSy, hOy, hF', hG', hD', hV'⟩ := hv39
 obtain ⟨g10, rfl, hg10, hBx⟩ := hv10
 obtain ⟨g11, rfl, hg11, hBy⟩ := hv11
 have hxy : g10 ≠ g11 := fun h => hUN (by rw [h])
 have hAvx := hAx _ rfl
 have hAvy := hAy _ rfl
 refine l_setS (o := ⟨none, _, _, _, _, _⟩) 29 g10 29 (zeroC.cells (.slice none 0 0)) (x.cells vx) (.tmp 10) (.tmp 36) rfl rfl (by kernel_rfl) (by kernel_rfl) (hBx) (by rw [Oc.len15]; exact szC) (by rw [Oc.len15, Oc.len15]) (Oc.one _ _ (sl_onec hSx)) ?_
 intro w8b hCw8b hkw8b hsw8b
 simp only [Act.put]
 refine l_setS (o := ⟨none, _, _, _, _, _⟩) 29 g11 29 (zeroC.cells (.slice none 0 0)) (y.cells vy) (.tmp 11) (.tmp 39) rfl rfl (by kernel_rfl) (by kernel_rfl) (hBy.keep hkw8b (fun h => hxy h.symm)) (by rw [Oc.len15]; exact szC) (by rw [Oc.len15, Oc.len15]) (Oc.one _ _ (sl_onec hSy)) ?_
 intro w8 hCw8 hkw8 hsw8
 simp only [Act.put]
 refine wpList_nil ?_
 have Kw8 : Keep (Both F G) w7 w8 := (Kw8a.new hkw8b (by omega)).new hkw8 (by omega)
 have HAw8 : Hid (Bk w8 F' p A2) := (hA'.keep hkw8b (fun b hb e => (hV' _ hAvx).1 (by have e' : b = g10 := e; rw [← e']; exact hb))).keep hkw8 (fun b hb e => (hV' _ hAvy).1 (by have e' : b = g11 := e; rw [← e']; exact hb))
 have HBw8 : Hid (Bk w8 G' r B2) := (hB'.keep hkw8b (fun b hb e => (hV' _ hAvx).2 (by have e' : b = g10 := e; rw [← e']; exact hb))).keep hkw8 (fun b hb e => (hV' _ hAvy).2 (by have e' : b = g11 := e; rw [← e']; exact hb))
 have HSxw8 : Hid (Sl w8 36 21 vx x.f.length (fls x.f)) := (hSx.keep hkw8b (fun b hb e => (hOx b hb).2.2 (by have e' : b = g10 := e; rw [e']; exact hAvx))).keep hkw8 (fun b hb e => (hOx b hb).2.2 (by have e' : b = g11 := e; rw [e']; exact hAvy))
 have HSyw8 : Hid (Sl w8 36 21 vy y.f.length (fls y.f)) := (hSy.keep hkw8b (fun b hb e => (hOy b hb).2.2.2 (by have e' : b = g10 := e; rw [e']; exact hAvx))).keep hkw8 (fun b hb e => (hOy b hb).2.2.2 (by have e' : b = g11 := e; rw [e']; exact hAvy))
 have HCxw8 : Hid (Blk w8 g10 29 (x.cells vx)) := hCw8b.keep hkw8 (fun h => hxy h)
 have HCyw8 : Hid (Blk w8 g11 29 (y.cells vy)) := hCw8
 have HFw8 : Hid (∀ b, F' b → F b ∨ w7.heap.size ≤ b) := hF'
 have HGw8 : Hid (∀ b, G' b → G b ∨ w7.heap.size ≤ b) := hG'
 have HVw8 : Hid ((¬ F' g10 ∧ ¬ G' g10) ∧ ¬ F' g11 ∧ ¬ G' g11) := ⟨hV' _ hAvx, hV' _ hAvy⟩
 have HDw8 := Lib.hid hD'
 have zw8 := Kw8.size
 clear hSx hOx hA' hB' hSy hOy hF' hG' hD' hV' hBx hBy hAx hAy hUN hCw8b hkw8b hsw8b hCw8 hkw8 hsw8 Kw8a hAvx hAvy
 have kw8 : Kept w w8 := Keep.trans kw7 Kw8 (fun b hb h => h.elim (fun h => by have := HFg.out b h; omega) (fun h => by have := HGg.out b h; omega))
 clear HO7 HP7 HAw7 HBw7 kw7 kv7 Kw8 HX HY
 by_cases he : y.err = 0
 ·skip
  go_upto_region 11 with fail
  refine wp_text 3 [.eq (.pointer (some ⟨g11, 14, none⟩)), .eq (.int .i64 y.err), .eq (.bool false)] rfl (by kernel_rfl) ?_ ?_
  ·refine sv 1 rfl rfl rfl (fun a u hE hD hk => exec_fldo 29 6 14 (.tmp 11) (g11) (0) (14) rfl (hE 11 (.pointer (some ⟨g11, 0, none⟩)) (by kernel_rfl) (by kernel_rfl)) (by kernel_rfl) rfl) ?_
   refine sv 2 rfl rfl rfl (fun a u hE hD hk => exec_loadi 27 Try.underlying27 (.tmp 40) ⟨g11, 14, none⟩ (.int .i64 y.err) rfl (hD 0 40 (by kernel_rfl)) (by rw [(HCyw8.out.kept hk).cell]; rfl)) ?_
   refine fsteps_cons 3 rfl (fun a u hE hD hk => f_as (show ((decide ((y.err : Int) ≠ (0 : Int))) : Bool) = false from decide_eq_false (fun h => h he)) (f_val (o := ⟨some 42, _, _, _, _, _⟩) (.bool (decide ((y.err : Int) ≠ (0 : Int)))) rfl (wanted_none rfl _) (exec_nen (p := y.err) (q := 0) rfl (hD 1 41 (by kernel_rfl)) rfl) rfl)) ?_
   exact fsteps_nil
  intro gv w9 hV k9
  rw [show dstsOf _ 3 = [40, 41, 42] by kernel_rfl]
  simp only [fC, fN, sA, sS, sZ, dS, dZ]
  rw [show gv 42 = .bool false from hV 2 42 (by kernel_rfl)]
  clear hV
  refine wpList_nil ?_
  have kw9 := kw8.trans k9
  have HCx9 := Lib.hid (HCxw8.out.kept k9)
  have HCy9 := Lib.hid (HCyw8.out.kept k9)
  by_cases hl : 0 < y.left
  ·skip
   have HA9 := Lib.hid (HAw8.out.kept k9)
   have HB9 := Lib.hid (HBw8.out.kept k9)
   have HSx9 := Lib.hid (HSxw8.out.kept k9)
   have HSy9 := Lib.hid (HSyw8.out.kept k9)
   clear HAw8 HBw8 HSxw8 HSyw8 HCxw8 HCyw8 k9 kw8
   go_upto_region 13 with fail
   refine wp_text 3 [.eq (.pointer (some ⟨g11, 10, none⟩)), .eq (.int .i64 y.left), .eq (.bool true)] rfl (by kernel_rfl) ?_ ?_
   ·refine sv 1 rfl rfl rfl (fun a u hE hD hk => exec_fldo 29 2 10 (.tmp 11) (g11) (0) (10) rfl (hE 11 (.pointer (some ⟨g11, 0, none⟩)) (by kernel_rfl) (by kernel_rfl)) (by kernel_rfl) rfl) ?_
    refine sv 2 rfl rfl rfl (fun a u hE hD hk => exec_loadi 3 Try.underlying3 (.tmp 51) ⟨g11, 10, none⟩ (.int .i64 y.left) rfl (hD 0 51 (by kernel_rfl)) (by rw [(HCy9.out.kept hk).cell]; rfl)) ?_
    refine fsteps_cons 3 rfl (fun a u hE hD hk => f_as (show ((decide ((0 : Int) < (y.left : Int))) : Bool) = true from decide_eq_true hl) (f_val (o := ⟨some 53, _, _, _, _, _⟩) (.bool (decide ((0 : Int) < (y.left : Int)))) rfl (wanted_none rfl _) (exec_gtn (p := y.left) (q := 0) rfl (hD 1 52 (by kernel_rfl)) rfl) rfl)) ?_
    exact fsteps_nil
   intro gv w10 hV k10
   rw [show dstsOf _ 3 = [51, 52, 53] by kernel_rfl]
   simp only [fC, fN, sA, sS, sZ, dS, dZ]
   rw [show gv 53 = .bool true from hV 2 53 (by kernel_rfl)]
   clear hV
   refine wpList_nil ?_
   have HA10 := Lib.hid (HA9.out.kept k10)
   have HB10 := Lib.hid (HB9.out.kept k10)
   have HCx10 := Lib.hid (HCx9.out.kept k10)
   have HCy10 := Lib.hid (HCy9.out.kept k10)
   have HSx10 := Lib.hid (HSx9.out.kept k10)
   have HSy10 := Lib.hid (HSy9.out.kept k10)
   have kw10 := kw9.trans k10
   clear HA9 HB9 HCx9 HCy9 HSx9 HSy9 kw9 k10
   obtain ⟨h12, hnf⟩ := HIO.out.less he hl
   have hnf0 : (x.f.length : Int) = 0 := by rw [show x.f = [] from hnf]; rfl
   go_upto_region 14 with fail
   refine wp_text 12 [.eq (.pointer (some ⟨g10, 14, none⟩)), .eq (.int .i64 x.err), .eq (.bool true), .eq (.bool true), .eq (.pointer (some ⟨g10, 9, none⟩)), .eq (vx), .eq (.int .i64 (x.f.length : Int)), .eq (.bool true), .eq (.bool true), .eq (.bool true), .eq (.bool true), .eq (.bool true)] rfl (by kernel_rfl) ?_ ?_
   ·refine sv 1 rfl rfl rfl (fun a u hE hD hk => exec_fldo 29 6 14 (.tmp 10) (g10) (0) (14) rfl (hE 10 (.pointer (some ⟨g10, 0, none⟩)) (by kernel_rfl) (by kernel_rfl)) (by kernel_rfl) rfl) ?_
    refine sv 2 rfl rfl rfl (fun a u hE hD hk => exec_loadi 27 Try.underlying27 (.tmp 54) ⟨g10, 14, none⟩ (.int .i64 x.err) rfl (hD 0 54 (by kernel_rfl)) (by rw [(HCx10.out.kept hk).cell]; rfl)) ?_
    refine fsteps_cons 3 rfl (fun a u hE hD hk => f_as (show ((decide ((x.err : Int) = (12 : Int))) : Bool) = true from decide_eq_true h12) (f_val (o := ⟨some 56, _, _, _, _, _⟩) (.bool (decide ((x.err : Int) = (12 : Int)))) rfl (wanted_none rfl _) (exec_eqn (p := x.err) (q := 12) rfl (hD 1 55 (by kernel_rfl)) rfl) rfl)) ?_
    refine sv 4 rfl rfl rfl (fun a u hE hD hk => exec_move (.tmp 56) _ rfl (hD 2 56 (by kernel_rfl))) ?_
    refine fsteps_cons 5 rfl (fun a u hE hD hk => f_val (o := ⟨some 58, _, _, _, _, _⟩) (.pointer (some ⟨g10, 9, none⟩)) rfl (wanted_at (b := true) true rfl rfl (hD 3 57 (by kernel_rfl))) (exec_fldo 29 1 9 (.tmp 10) (g10) (0) (9) rfl (hE 10 (.pointer (some ⟨g10, 0, none⟩)) (by kernel_rfl) (by kernel_rfl)) (by kernel_rfl) rfl) rfl) ?_
    refine fsteps_cons 6 rfl (fun a u hE hD hk => f_val (o := ⟨some 59, _, _, _, _, _⟩) (vx) rfl (wanted_at (b := true) true rfl rfl (hD 3 57 (by kernel_rfl))) (exec_ldv 26 _ Try.underlying26 (.tmp 58) ⟨g10, 9, none⟩ (vx) rfl (hD 4 58 (by kernel_rfl)) (by rw [(HCx10.out.kept hk).cell]; rfl)) rfl) ?_
    refine fsteps_cons 7 rfl (fun a u hE hD hk => f_val (o := ⟨some 60, _, _, _, _, _⟩) (.int .i64 (x.f.length : Int)) rfl (wanted_at (b := true) true rfl rfl (hD 3 57 (by kernel_rfl))) (exec_lenS (.tmp 59) slF (vx) (x.f.length) _ _ rfl (hD 5 59 (by kernel_rfl)) HSx10.out) rfl) ?_
    refine fsteps_cons 8 rfl (fun a u hE hD hk => f_as (show ((decide (((x.f.length : Int) : Int) = (0 : Int))) : Bool) = true from decide_eq_true hnf0) (f_val (o := ⟨some 61, _, _, _, _, _⟩) (.bool (decide (((x.f.length : Int) : Int) = (0 : Int)))) rfl (wanted_at (b := true) true rfl rfl (hD 3 57 (by kernel_rfl))) (exec_eqn (p := (x.f.length : Int)) (q := 0) rfl (hD 6 60 (by kernel_rfl)) rfl) rfl)) ?_
    refine sv 9 rfl rfl rfl (fun a u hE hD hk => exec_pick (.tmp 57) (.tmp 61) (.const (.bool false)) (.bool true) rfl (hD 3 57 (by kernel_rfl)) (hD 7 61 (by kernel_rfl))) ?_
    refine sv 10 rfl rfl rfl (fun a u hE hD hk => exec_move (.tmp 62) _ rfl (hD 8 62 (by kernel_rfl))) ?_
    refine fsteps_cons 11 rfl (fun a u hE hD hk => f_call (o := ⟨some 64, _, _, _, _, _⟩) 3 #[] rfl (wanted_at (b := true) true rfl rfl (hD 9 63 (by kernel_rfl))) (exec_call 3 _ [] _ [] Try.func3 (by kernel_rfl) (by kernel_rfl) rfl rfl u) (bruns_gives u)) ?_
    refine sv 12 rfl rfl rfl (fun a u hE hD hk => exec_pick (.tmp 63) (.tmp 64) (.const (.bool false)) (.bool true) rfl (hD 9 63 (by kernel_rfl)) (hD 10 64 (by kernel_rfl))) ?_
    exact fsteps_nil
   intro gv wz hV kz
   rw [show dstsOf _ 12 = [54, 55, 56, 57, 58, 59, 60, 61, 62, 63, 64, 65] by kernel_rfl]
   simp only [fC, fN, sA, sS, sZ, dS, dZ]
   rw [show gv 65 = .bool true from hV 11 65 (by kernel_rfl)]
   clear hV
   refine l_val (o := ⟨some 4, _, _, _, _, _⟩) (.bool true) rfl (exec_assign (.tmp 65) (.bool true) rfl (by kernel_rfl)) ?_
   simp only [Act.put, sA, sS, sZ]
   refine wpList_nil ?_
   go_wp2
   go_ret
   exact ⟨rfl, kw10.trans kz⟩
  ·skip
   have HA9 := Lib.hid (HAw8.out.kept k9)
   have HB9 := Lib.hid (HBw8.out.kept k9)
   have HSx9 := Lib.hid (HSxw8.out.kept k9)
   have HSy9 := Lib.hid (HSyw8.out.kept k9)
   clear HAw8 HBw8 HSxw8 HSyw8 HCxw8 HCyw8 k9 kw8
   go_upto_region 13 with fail
   refine wp_text 3 [.eq (.pointer (some ⟨g11, 10, none⟩)), .eq (.int .i64 y.left), .eq (.bool false)] rfl (by kernel_rfl) ?_ ?_
   ·refine sv 1 rfl rfl rfl (fun a u hE hD hk => exec_fldo 29 2 10 (.tmp 11) (g11) (0) (10) rfl (hE 11 (.pointer (some ⟨g11, 0, none⟩)) (by kernel_rfl) (by kernel_rfl)) (by kernel_rfl) rfl) ?_
    refine sv 2 rfl rfl rfl (fun a u hE hD hk => exec_loadi 3 Try.underlying3 (.tmp 51) ⟨g11, 10, none⟩ (.int .i64 y.left) rfl (hD 0 51 (by kernel_rfl)) (by rw [(HCy9.out.kept hk).cell]; rfl)) ?_
    refine fsteps_cons 3 rfl (fun a u hE hD hk => f_as (show ((decide ((0 : Int) < (y.left : Int))) : Bool) = false from decide_eq_false hl) (f_val (o := ⟨some 53, _, _, _, _, _⟩) (.bool (decide ((0 : Int) < (y.left : Int)))) rfl (wanted_none rfl _) (exec_gtn (p := y.left) (q := 0) rfl (hD 1 52 (by kernel_rfl)) rfl) rfl)) ?_
    exact fsteps_nil
   intro gv w10 hV k10
   rw [show dstsOf _ 3 = [51, 52, 53] by kernel_rfl]
   simp only [fC, fN, sA, sS, sZ, dS, dZ]
   rw [show gv 53 = .bool false from hV 2 53 (by kernel_rfl)]
   clear hV
   refine wpList_nil ?_
   have HA10 := Lib.hid (HA9.out.kept k10)
   have HB10 := Lib.hid (HB9.out.kept k10)
   have HCx10 := Lib.hid (HCx9.out.kept k10)
   have HCy10 := Lib.hid (HCy9.out.kept k10)
   have HSx10 := Lib.hid (HSx9.out.kept k10)
   have HSy10 := Lib.hid (HSy9.out.kept k10)
   have kw10 := kw9.trans k10
   clear HA9 HB9 HCx9 HCy9 HSx9 HSy9 kw9 k10
   obtain ⟨h0, hl0, hco, hab⟩ := HIO.out.all he hl
   have hln : x.f.length = y.f.length := by have := congrArg List.length hco; simpa using this
   have hAB : A2 = B2 := hab
   have HCO : Hid (x.f.map Fl.core = y.f.map Fl.core) := hco
   rw [hAB] at HA10
   obtain ⟨m, hm⟩ : ∃ m, x.f.length = m := ⟨_, rfl⟩
   have HM := Lib.hid hm
   have hmy : y.f.length = m := by rw [← hln, hm]
   rw [hm] at HSx10
   rw [hmy] at HSy10
   have hmm : ¬ ((m : Int) ≠ (m : Int)) := fun h => h rfl
   have hm63 : m ≤ 9223372036854775807 := by
    obtain ⟨_, _, _, _, q1, q2, _⟩ := HSx10.out
    unfold maxLen at q2
    omega
   clear hco hab hAB hln hm
   go_upto_region 15 with fail
   refine wp_text 17 [.eq (.pointer (some ⟨g10, 14, none⟩)), .eq (.int .i64 x.err), .eq (.bool false), .eq (.bool false), .eq (.pointer (some ⟨g10, 10, none⟩)), .eq (.int .i64 x.left), .eq (.bool false), .eq (.bool false), .eq (.bool false), .eq (.pointer (some ⟨g10, 9, none⟩)), .eq (vx), .eq (.int .i64 (m : Int)), .eq (.pointer (some ⟨g11, 9, none⟩)), .eq (vy), .eq (.int .i64 (m : Int)), .eq (.bool false), .eq (.bool false)] rfl (by kernel_rfl) ?_ ?_
   ·refine sv 1 rfl rfl rfl (fun a u hE hD hk => exec_fldo 29 6 14 (.tmp 10) (g10) (0) (14) rfl (hE 10 (.pointer (some ⟨g10, 0, none⟩)) (by kernel_rfl) (by kernel_rfl)) (by kernel_rfl) rfl) ?_
    refine sv 2 rfl rfl rfl (fun a u hE hD hk => exec_loadi 27 Try.underlying27 (.tmp 66) ⟨g10, 14, none⟩ (.int .i64 x.err) rfl (hD 0 66 (by kernel_rfl)) (by rw [(HCx10.out.kept hk).cell]; rfl)) ?_
    refine fsteps_cons 3 rfl (fun a u hE hD hk => f_as (show ((decide ((x.err : Int) ≠ (0 : Int))) : Bool) = false from decide_eq_false (fun h => h h0)) (f_val (o := ⟨some 68, _, _, _, _, _⟩) (.bool (decide ((x.err : Int) ≠ (0 : Int)))) rfl (wanted_none rfl _) (exec_nen (p := x.err) (q := 0) rfl (hD 1 67 (by kernel_rfl)) rfl) rfl)) ?_
    refine sv 4 rfl rfl rfl (fun a u hE hD hk => exec_move (.tmp 68) _ rfl (hD 2 68 (by kernel_rfl))) ?_
    refine fsteps_cons 5 rfl (fun a u hE hD hk => f_val (o := ⟨some 70, _, _, _, _, _⟩) (.pointer (some ⟨g10, 10, none⟩)) rfl (wanted_at (b := false) false rfl rfl (hD 3 69 (by kernel_rfl))) (exec_fldo 29 2 10 (.tmp 10) (g10) (0) (10) rfl (hE 10 (.pointer (some ⟨g10, 0, none⟩)) (by kernel_rfl) (by kernel_rfl)) (by kernel_rfl) rfl) rfl) ?_
    refine fsteps_cons 6 rfl (fun a u hE hD hk => f_val (o := ⟨some 71, _, _, _, _, _⟩) (.int .i64 x.left) rfl (wanted_at (b := false) false rfl rfl (hD 3 69 (by kernel_rfl))) (exec_loadi 3 Try.underlying3 (.tmp 70) ⟨g10, 10, none⟩ (.int .i64 x.left) rfl (hD 4 70 (by kernel_rfl)) (by rw [(HCx10.out.kept hk).cell]; rfl)) rfl) ?_
    refine fsteps_cons 7 rfl (fun a u hE hD hk => f_as (show ((decide ((x.left : Int) ≠ (0 : Int))) : Bool) = false from decide_eq_false (fun h => h hl0)) (f_val (o := ⟨some 72, _, _, _, _, _⟩) (.bool (decide ((x.left : Int) ≠ (0 : Int)))) rfl (wanted_at (b := false) false rfl rfl (hD 3 69 (by kernel_rfl))) (exec_nen (p := x.left) (q := 0) rfl (hD 5 71 (by kernel_rfl)) rfl) rfl)) ?_
    refine sv 8 rfl rfl rfl (fun a u hE hD hk => exec_pickF (.tmp 69) (.const (.bool true)) (.tmp 72) (.bool false) rfl (hD 3 69 (by kernel_rfl)) (hD 6 72 (by kernel_rfl))) ?_
    refine sv 9 rfl rfl rfl (fun a u hE hD hk => exec_move (.tmp 73) _ rfl (hD 7 73 (by kernel_rfl))) ?_
    refine fsteps_cons 10 rfl (fun a u hE hD hk => f_val (o := ⟨some 75, _, _, _, _, _⟩) (.pointer (some ⟨g10, 9, none⟩)) rfl (wanted_at (b := false) false rfl rfl (hD 8 74 (by kernel_rfl))) (exec_fldo 29 1 9 (.tmp 10) (g10) (0) (9) rfl (hE 10 (.pointer (some ⟨g10, 0, none⟩)) (by kernel_rfl) (by kernel_rfl)) (by kernel_rfl) rfl) rfl) ?_
    refine fsteps_cons 11 rfl (fun a u hE hD hk => f_val (o := ⟨some 76, _, _, _, _, _⟩) (vx) rfl (wanted_at (b := false) false rfl rfl (hD 8 74 (by kernel_rfl))) (exec_ldv 26 _ Try.underlying26 (.tmp 75) ⟨g10, 9, none⟩ (vx) rfl (hD 9 75 (by kernel_rfl)) (by rw [(HCx10.out.kept hk).cell]; rfl)) rfl) ?_
    refine fsteps_cons 12 rfl (fun a u hE hD hk => f_val (o := ⟨some 77, _, _, _, _, _⟩) (.int .i64 (m : Int)) rfl (wanted_at (b := false) false rfl rfl (hD 8 74 (by kernel_rfl))) (exec_lenS (.tmp 76) slF (vx) (m) _ _ rfl (hD 10 76 (by kernel_rfl)) HSx10.out) rfl) ?_
    refine fsteps_cons 13 rfl (fun a u hE hD hk => f_val (o := ⟨some 78, _, _, _, _, _⟩) (.pointer (some ⟨g11, 9, none⟩)) rfl (wanted_at (b := false) false rfl rfl (hD 8 74 (by kernel_rfl))) (exec_fldo 29 1 9 (.tmp 11) (g11) (0) (9) rfl (hE 11 (.pointer (some ⟨g11, 0, none⟩)) (by kernel_rfl) (by kernel_rfl)) (by kernel_rfl) rfl) rfl) ?_
    refine fsteps_cons 14 rfl (fun a u hE hD hk => f_val (o := ⟨some 79, _, _, _, _, _⟩) (vy) rfl (wanted_at (b := false) false rfl rfl (hD 8 74 (by kernel_rfl))) (exec_ldv 26 _ Try.underlying26 (.tmp 78) ⟨g11, 9, none⟩ (vy) rfl (hD 12 78 (by kernel_rfl)) (by rw [(HCy10.out.kept hk).cell]; rfl)) rfl) ?_
    refine fsteps_cons 15 rfl (fun a u hE hD hk => f_val (o := ⟨some 80, _, _, _, _, _⟩) (.int .i64 (m : Int)) rfl (wanted_at (b := false) false rfl rfl (hD 8 74 (by kernel_rfl))) (exec_lenS (.tmp 79) slF (vy) (m) _ _ rfl (hD 13 79 (by kernel_rfl)) HSy10.out) rfl) ?_
    refine fsteps_cons 16 rfl (fun a u hE hD hk => f_as (show ((decide (((m : Int) : Int) ≠ ((m : Int) : Int))) : Bool) = false from decide_eq_false hmm) (f_val (o := ⟨some 81, _, _, _, _, _⟩) (.bool (decide (((m : Int) : Int) ≠ ((m : Int) : Int)))) rfl (wanted_at (b := false) false rfl rfl (hD 8 74 (by kernel_rfl))) (exec_nen (p := (m : Int)) (q := (m : Int)) rfl (hD 11 77 (by kernel_rfl)) (hD 14 80 (by kernel_rfl))) rfl)) ?_
    refine sv 17 rfl rfl rfl (fun a u hE hD hk => exec_pickF (.tmp 74) (.const (.bool true)) (.tmp 81) (.bool false) rfl (hD 8 74 (by kernel_rfl)) (hD 15 81 (by kernel_rfl))) ?_
    exact fsteps_nil
   intro gv w11a hV k11a
   rw [show dstsOf _ 17 = [66, 67, 68, 69, 70, 71, 72, 73, 74, 75, 76, 77, 78, 79, 80, 81, 82] by kernel_rfl]
   simp only [fC, fN, sA, sS, sZ, dS, dZ]
   rw [show gv 82 = .bool false from hV 16 82 (by kernel_rfl)]
   clear hV
   refine wpList_nil ?_
   have HCx11a := Lib.hid (HCx10.out.kept k11a)
   go_upto_region 17 with fail
   refine wp_text 4 [.eq (.pointer (some ⟨g10, 9, none⟩)), .eq (vx), .eq (.int .i64 (m : Int)), .eq (.int .i64 0)] rfl (by kernel_rfl) ?_ ?_
   ·refine sv 1 rfl rfl rfl (fun a u hE hD hk => exec_fldo 29 1 9 (.tmp 10) (g10) (0) (9) rfl (hE 10 (.pointer (some ⟨g10, 0, none⟩)) (by kernel_rfl) (by kernel_rfl)) (by kernel_rfl) rfl) ?_
    refine sv 2 rfl rfl rfl (fun a u hE hD hk => exec_ldv 26 _ Try.underlying26 (.tmp 83) ⟨g10, 9, none⟩ (vx) rfl (hD 0 83 (by kernel_rfl)) (by rw [(HCx11a.out.kept hk).cell]; rfl)) ?_
    refine sv 3 rfl rfl rfl (fun a u hE hD hk => exec_lenS (.tmp 84) slF (vx) (m) _ _ rfl (hD 1 84 (by kernel_rfl)) HSx10.out) ?_
    refine sv 4 rfl rfl rfl (fun a u hE hD hk => exec_move (.const (.int .i64 0)) _ rfl rfl) ?_
    exact fsteps_nil
   intro gv w11 hV k11b
   rw [show dstsOf _ 4 = [83, 84, 85, 86] by kernel_rfl]
   simp only [fC, fN, sA, sS, sZ, dS, dZ]
   rw [show gv 84 = vx from hV 1 84 (by kernel_rfl)]
   rw [show gv 85 = .int .i64 (m : Int) from hV 2 85 (by kernel_rfl)]
   rw [show gv 86 = .int .i64 0 from hV 3 86 (by kernel_rfl)]
   clear hV
   refine wpList_nil ?_
   have k11 := k11a.trans k11b
   have HA11 := Lib.hid (HA10.out.kept k11)
   have HB11 := Lib.hid (HB10.out.kept k11)
   have HCx11 := Lib.hid (HCx10.out.kept k11)
   have HCy11 := Lib.hid (HCy10.out.kept k11)
   have HSx11 := Lib.hid (HSx10.out.kept k11)
   have HSy11 := Lib.hid (HSy10.out.kept k11)
   have kw11 := kw10.trans k11
   clear HCx11a HA10 HB10 HCx10 HCy10 HSx10 HSy10 kw10 k11 k11a k11b
   go_wp2_with fail
   go_loopw [86] (fun q wr => ∃ (j : Nat), j ≤ m ∧ q = .int .i64 (j : Int) ∧ Kept w11 wr) (fun q _ => m - (intOf q).toNat)
   case atStart => exact ⟨0, Nat.zero_le _, rfl, Kept.refl _⟩
   case round =>
    obtain ⟨j, hj, rfl, hkr⟩ := hrel
    by_cases hjm : j < m
    ·obtain ⟨gf, of_, c2, rfl⟩ := HSx11.out.some_ (by omega)
     obtain ⟨gg, og, c3, rfl⟩ := HSy11.out.some_ (by omega)
     obtain ⟨f, hf⟩ : ∃ f, x.f[j]? = some f := ⟨x.f[j]'(by rw [HM.out]; exact hjm), List.getElem?_eq_getElem (by rw [HM.out]; exact hjm)⟩
     obtain ⟨f2, hf2, e1, e2, e3⟩ := core_at HCO.out j f hf
     have HE : Hid (wr.rangeAt gf (of_ + j * 21) f.cells) := range_kept (HSx11.out.rngF j f hf) hkr
     have HE2 : Hid (wr.rangeAt gg (og + j * 21) f2.cells) := range_kept (HSy11.out.rngF j f2 hf2) hkr
     have HCx12 := Lib.hid (HCx11.out.kept hkr)
     have HCy12 := Lib.hid (HCy11.out.kept hkr)
     clear hf hf2
     go_upto_region 20 with fail
     refine wp_free 43 [.eq (.pointer (some ⟨g10, 9, none⟩)), .eq (.slice (some ⟨gf, of_, none⟩) m c2), .eq (.int .i64 (j : Int)), .eq (.pointer (some ⟨gf, of_ + j * 21, none⟩)), .eq (.pointer (some ⟨gf, of_ + j * 21, none⟩)), .eq (f.mk_.v), .eq (.pointer (some ⟨g11, 9, none⟩)), .eq (.slice (some ⟨gg, og, none⟩) m c3), .eq (.int .i64 (j : Int)), .eq (.pointer (some ⟨gg, og + j * 21, none⟩)), .eq (.pointer (some ⟨gg, og + j * 21, none⟩)), .eq (f2.mk_.v), .eq (.bool false), .eq (.bool false), .eq (.pointer (some ⟨g10, 9, none⟩)), .eq (.slice (some ⟨gf, of_, none⟩) m c2), .eq (.int .i64 (j : Int)), .eq (.pointer (some ⟨gf, of_ + j * 21, none⟩)), .eq (.pointer (some ⟨gf, of_ + j * 21 + 18, none⟩)), .eq (.int .i64 f.price), .eq (.pointer (some ⟨g11, 9, none⟩)), .eq (.slice (some ⟨gg, og, none⟩) m c3), .eq (.int .i64 (j : Int)), .eq (.pointer (some ⟨gg, og + j * 21, none⟩)), .eq (.pointer (some ⟨gg, og + j * 21 + 18, none⟩)), .eq (.int .i64 f2.price), .eq (.bool false), .eq (.bool false), .eq (.bool false), .eq (.pointer (some ⟨g10, 9, none⟩)), .eq (.slice (some ⟨gf, of_, none⟩) m c2), .eq (.int .i64 (j : Int)), .eq (.pointer (some ⟨gf, of_ + j * 21, none⟩)), .eq (.pointer (some ⟨gf, of_ + j * 21 + 19, none⟩)), .eq (.int .i64 f.qty), .eq (.pointer (some ⟨g11, 9, none⟩)), .eq (.slice (some ⟨gg, og, none⟩) m c3), .eq (.int .i64 (j : Int)), .eq (.pointer (some ⟨gg, og + j * 21, none⟩)), .eq (.pointer (some ⟨gg, og + j * 21 + 19, none⟩)), .eq (.int .i64 f2.qty), .eq (.bool false), .eq (.bool false)] (by kernel_rfl) rfl (by kernel_rfl) ?_ ?_
     ·refine sv 1 rfl rfl rfl (fun a u hE hD hk => exec_fldo 29 1 9 (.tmp 10) (g10) (0) (9) rfl (hE 10 (.pointer (some ⟨g10, 0, none⟩)) (by kernel_rfl) (by kernel_rfl)) (by kernel_rfl) rfl) ?_
      refine sv 2 rfl rfl rfl (fun a u hE hD hk => exec_ldv 26 _ Try.underlying26 (.tmp 89) ⟨g10, 9, none⟩ (.slice (some ⟨gf, of_, none⟩) m c2) rfl (hD 0 89 (by kernel_rfl)) (by rw [(HCx12.out.kept hk).cell]; rfl)) ?_
      refine sv 3 rfl rfl rfl (fun a u hE hD hk => exec_move (.tmp 12) _ rfl (hE 12 (.int .i64 (j : Int)) (by kernel_rfl) (by kernel_rfl))) ?_
      refine sv 4 rfl rfl rfl (fun a u hE hD hk => exec_ixo slF (.tmp 90) (.tmp 91) (gf) (of_) m c2 j (of_ + j * 21) ((j : Int)) rfl (hD 1 90 (by kernel_rfl)) (hD 2 91 (by kernel_rfl)) (by first | rfl | omega) (hjm) (by first | rfl | omega)) ?_
      refine sv 5 rfl rfl rfl (fun a u hE hD hk => exec_fldo 36 0 0 (.tmp 92) (gf) (of_ + j * 21) (of_ + j * 21) rfl (hD 3 92 (by kernel_rfl)) (by kernel_rfl) rfl) ?_
      refine sv 6 rfl rfl rfl (fun a u hE hD hk => exec_ldS 25 _ (.tmp 93) (gf) (of_ + j * 21) (f.mk_.cells) rfl (hD 4 93 (by kernel_rfl)) (fl_mk (range_kept HE.out hk)) Try.underlying25 (by rw [f.mk_.len9]; exact ord_size)) ?_
      refine sv 7 rfl rfl rfl (fun a u hE hD hk => exec_fldo 29 1 9 (.tmp 11) (g11) (0) (9) rfl (hE 11 (.pointer (some ⟨g11, 0, none⟩)) (by kernel_rfl) (by kernel_rfl)) (by kernel_rfl) rfl) ?_
      refine sv 8 rfl rfl rfl (fun a u hE hD hk => exec_ldv 26 _ Try.underlying26 (.tmp 95) ⟨g11, 9, none⟩ (.slice (some ⟨gg, og, none⟩) m c3) rfl (hD 6 95 (by kernel_rfl)) (by rw [(HCy12.out.kept hk).cell]; rfl)) ?_
      refine sv 9 rfl rfl rfl (fun a u hE hD hk => exec_move (.tmp 12) _ rfl (hE 12 (.int .i64 (j : Int)) (by kernel_rfl) (by kernel_rfl))) ?_
      refine sv 10 rfl rfl rfl (fun a u hE hD hk => exec_ixo slF (.tmp 96) (.tmp 97) (gg) (og) m c3 j (og + j * 21) ((j : Int)) rfl (hD 7 96 (by kernel_rfl)) (hD 8 97 (by kernel_rfl)) (by first | rfl | omega) (hjm) (by first | rfl | omega)) ?_
      refine sv 11 rfl rfl rfl (fun a u hE hD hk => exec_fldo 36 0 0 (.tmp 98) (gg) (og + j * 21) (og + j * 21) rfl (hD 9 98 (by kernel_rfl)) (by kernel_rfl) rfl) ?_
      refine sv 12 rfl rfl rfl (fun a u hE hD hk => exec_ldS 25 _ (.tmp 99) (gg) (og + j * 21) (f2.mk_.cells) rfl (hD 10 99 (by kernel_rfl)) (fl_mk (range_kept HE2.out hk)) Try.underlying25 (by rw [f2.mk_.len9]; exact ord_size)) ?_
      refine sv 13 rfl rfl rfl (fun a u hE hD hk => exec_neOb false (.tmp 94) (.tmp 100) _ f.mk_ f2.mk_ rfl (hD 5 94 (by kernel_rfl)) (hD 11 100 (by kernel_rfl)) (decide_eq_false (fun h => h e1))) ?_
      refine sv 14 rfl rfl rfl (fun a u hE hD hk => exec_move (.tmp 101) _ rfl (hD 12 101 (by kernel_rfl))) ?_
      refine fsteps_cons 15 rfl (fun a u hE hD hk => f_val (o := ⟨some 103, _, _, _, _, _⟩) (.pointer (some ⟨g10, 9, none⟩)) rfl (wanted_at (b := false) false rfl rfl (hD 13 102 (by kernel_rfl))) (exec_fldo 29 1 9 (.tmp 10) (g10) (0) (9) rfl (hE 10 (.pointer (some ⟨g10, 0, none⟩)) (by kernel_rfl) (by kernel_rfl)) (by kernel_rfl) rfl) rfl) ?_
      refine fsteps_cons 16 rfl (fun a u hE hD hk => f_val (o := ⟨some 104, _, _, _, _, _⟩) (.slice (some ⟨gf, of_, none⟩) m c2) rfl (wanted_at (b := false) false rfl rfl (hD 13 102 (by kernel_rfl))) (exec_ldv 26 _ Try.underlying26 (.tmp 103) ⟨g10, 9, none⟩ (.slice (some ⟨gf, of_, none⟩) m c2) rfl (hD 14 103 (by kernel_rfl)) (by rw [(HCx12.out.kept hk).cell]; rfl)) rfl) ?_
      refine fsteps_cons 17 rfl (fun a u hE hD hk => f_val (o := ⟨some 105, _, _, _, _, _⟩) (.int .i64 (j : Int)) rfl (wanted_at (b := false) false rfl rfl (hD 13 102 (by kernel_rfl))) (exec_move (.tmp 12) _ rfl (hE 12 (.int .i64 (j : Int)) (by kernel_rfl) (by kernel_rfl))) rfl) ?_
      refine fsteps_cons 18 rfl (fun a u hE hD hk => f_val (o := ⟨some 106, _, _, _, _, _⟩) (.pointer (some ⟨gf, of_ + j * 21, none⟩)) rfl (wanted_at (b := false) false rfl rfl (hD 13 102 (by kernel_rfl))) (exec_ixo slF (.tmp 104) (.tmp 105) (gf) (of_) m c2 j (of_ + j * 21) ((j : Int)) rfl (hD 15 104 (by kernel_rfl)) (hD 16 105 (by kernel_rfl)) (by first | rfl | omega) (hjm) (by first | rfl | omega)) rfl) ?_
      refine fsteps_cons 19 rfl (fun a u hE hD hk => f_val (o := ⟨some 107, _, _, _, _, _⟩) (.pointer (some ⟨gf, of_ + j * 21 + 18, none⟩)) rfl (wanted_at (b := false) false rfl rfl (hD 13 102 (by kernel_rfl))) (exec_fldo 36 2 18 (.tmp 106) (gf) (of_ + j * 21) (of_ + j * 21 + 18) rfl (hD 17 106 (by kernel_rfl)) (by kernel_rfl) rfl) rfl) ?_
      refine fsteps_cons 20 rfl (fun a u hE hD hk => f_val (o := ⟨some 108, _, _, _, _, _⟩) (.int .i64 f.price) rfl (wanted_at (b := false) false rfl rfl (hD 13 102 (by kernel_rfl))) (exec_loadi 3 Try.underlying3 (.tmp 107) ⟨gf, of_ + j * 21 + 18, none⟩ (.int .i64 f.price) rfl (hD 18 107 (by kernel_rfl)) (range_int (range_kept HE.out hk) 18 _ rfl)) rfl) ?_
      refine fsteps_cons 21 rfl (fun a u hE hD hk => f_val (o := ⟨some 109, _, _, _, _, _⟩) (.pointer (some ⟨g11, 9, none⟩)) rfl (wanted_at (b := false) false rfl rfl (hD 13 102 (by kernel_rfl))) (exec_fldo 29 1 9 (.tmp 11) (g11) (0) (9) rfl (hE 11 (.pointer (some ⟨g11, 0, none⟩)) (by kernel_rfl) (by kernel_rfl)) (by kernel_rfl) rfl) rfl) ?_
      refine fsteps_cons 22 rfl (fun a u hE hD hk => f_val (o := ⟨some 110, _, _, _, _, _⟩) (.slice (some ⟨gg, og, none⟩) m c3) rfl (wanted_at (b := false) false rfl rfl (hD 13 102 (by kernel_rfl))) (exec_ldv 26 _ Try.underlying26 (.tmp 109) ⟨g11, 9, none⟩ (.slice (some ⟨gg, og, none⟩) m c3) rfl (hD 20 109 (by kernel_rfl)) (by rw [(HCy12.out.kept hk).cell]; rfl)) rfl) ?_
      refine fsteps_cons 23 rfl (fun a u hE hD hk => f_val (o := ⟨some 111, _, _, _, _, _⟩) (.int .i64 (j : Int)) rfl (wanted_at (b := false) false rfl rfl (hD 13 102 (by kernel_rfl))) (exec_move (.tmp 12) _ rfl (hE 12 (.int .i64 (j : Int)) (by kernel_rfl) (by kernel_rfl))) rfl) ?_
      refine fsteps_cons 24 rfl (fun a u hE hD hk => f_val (o := ⟨some 112, _, _, _, _, _⟩) (.pointer (some ⟨gg, og + j * 21, none⟩)) rfl (wanted_at (b := false) false rfl rfl (hD 13 102 (by kernel_rfl))) (exec_ixo slF (.tmp 110) (.tmp 111) (gg) (og) m c3 j (og + j * 21) ((j : Int)) rfl (hD 21 110 (by kernel_rfl)) (hD 22 111 (by kernel_rfl)) (by first | rfl | omega) (hjm) (by first | rfl | omega)) rfl) ?_
      refine fsteps_cons 25 rfl (fun a u hE hD hk => f_val (o := ⟨some 113, _, _, _, _, _⟩) (.pointer (some ⟨gg, og + j * 21 + 18, none⟩)) rfl (wanted_at (b := false) false rfl rfl (hD 13 102 (by kernel_rfl))) (exec_fldo 36 2 18 (.tmp 112) (gg) (og + j * 21) (og + j * 21 + 18) rfl (hD 23 112 (by kernel_rfl)) (by kernel_rfl) rfl) rfl) ?_
      refine fsteps_cons 26 rfl (fun a u hE hD hk => f_val (o := ⟨some 114, _, _, _, _, _⟩) (.int .i64 f2.price) rfl (wanted_at (b := false) false rfl rfl (hD 13 102 (by kernel_rfl))) (exec_loadi 3 Try.underlying3 (.tmp 113) ⟨gg, og + j * 21 + 18, none⟩ (.int .i64 f2.price) rfl (hD 24 113 (by kernel_rfl)) (range_int (range_kept HE2.out hk) 18 _ rfl)) rfl) ?_
      refine fsteps_cons 27 rfl (fun a u hE hD hk => f_as (show ((decide ((f.price : Int) ≠ (f2.price : Int))) : Bool) = false from decide_eq_false (fun h => h e2)) (f_val (o := ⟨some 115, _, _, _, _, _⟩) (.bool (decide ((f.price : Int) ≠ (f2.price : Int)))) rfl (wanted_at (b := false) false rfl rfl (hD 13 102 (by kernel_rfl))) (exec_nen (p := f.price) (q := f2.price) rfl (hD 19 108 (by kernel_rfl)) (hD 25 114 (by kernel_rfl))) rfl)) ?_
      refine sv 28 rfl rfl rfl (fun a u hE hD hk => exec_pickF (.tmp 102) (.const (.bool true)) (.tmp 115) (.bool false) rfl (hD 13 102 (by kernel_rfl)) (hD 26 115 (by kernel_rfl))) ?_
      refine sv 29 rfl rfl rfl (fun a u hE hD hk => exec_move (.tmp 116) _ rfl (hD 27 116 (by kernel_rfl))) ?_
      refine fsteps_cons 30 rfl (fun a u hE hD hk => f_val (o := ⟨some 118, _, _, _, _, _⟩) (.pointer (some ⟨g10, 9, none⟩)) rfl (wanted_at (b := false) false rfl rfl (hD 28 117 (by kernel_rfl))) (exec_fldo 29 1 9 (.tmp 10) (g10) (0) (9) rfl (hE 10 (.pointer (some ⟨g10, 0, none⟩)) (by kernel_rfl) (by kernel_rfl)) (by kernel_rfl) rfl) rfl) ?_
      refine fsteps_cons 31 rfl (fun a u hE hD hk => f_val (o := ⟨some 119, _, _, _, _, _⟩) (.slice (some ⟨gf, of_, none⟩) m c2) rfl (wanted_at (b := false) false rfl rfl (hD 28 117 (by kernel_rfl))) (exec_ldv 26 _ Try.underlying26 (.tmp 118) ⟨g10, 9, none⟩ (.slice (some ⟨gf, of_, none⟩) m c2) rfl (hD 29 118 (by kernel_rfl)) (by rw [(HCx12.out.kept hk).cell]; rfl)) rfl) ?_
      refine fsteps_cons 32 rfl (fun a u hE hD hk => f_val (o := ⟨some 120, _, _, _, _, _⟩) (.int .i64 (j : Int)) rfl (wanted_at (b := false) false rfl rfl (hD 28 117 (by kernel_rfl))) (exec_move (.tmp 12) _ rfl (hE 12 (.int .i64 (j : Int)) (by kernel_rfl) (by kernel_rfl))) rfl) ?_
      refine fsteps_cons 33 rfl (fun a u hE hD hk => f_val (o := ⟨some 121, _, _, _, _, _⟩) (.pointer (some ⟨gf, of_ + j * 21, none⟩)) rfl (wanted_at (b := false) false rfl rfl (hD 28 117 (by kernel_rfl))) (exec_ixo slF (.tmp 119) (.tmp 120) (gf) (of_) m c2 j (of_ + j * 21) ((j : Int)) rfl (hD 30 119 (by kernel_rfl)) (hD 31 120 (by kernel_rfl)) (by first | rfl | omega) (hjm) (by first | rfl | omega)) rfl) ?_
      refine fsteps_cons 34 rfl (fun a u hE hD hk => f_val (o := ⟨some 122, _, _, _, _, _⟩) (.pointer (some ⟨gf, of_ + j * 21 + 19, none⟩)) rfl (wanted_at (b := false) false rfl rfl (hD 28 117 (by kernel_rfl))) (exec_fldo 36 3 19 (.tmp 121) (gf) (of_ + j * 21) (of_ + j * 21 + 19) rfl (hD 32 121 (by kernel_rfl)) (by kernel_rfl) rfl) rfl) ?_
      refine fsteps_cons 35 rfl (fun a u hE hD hk => f_val (o := ⟨some 123, _, _, _, _, _⟩) (.int .i64 f.qty) rfl (wanted_at (b := false) false rfl rfl (hD 28 117 (by kernel_rfl))) (exec_loadi 3 Try.underlying3 (.tmp 122) ⟨gf, of_ + j * 21 + 19, none⟩ (.int .i64 f.qty) rfl (hD 33 122 (by kernel_rfl)) (range_int (range_kept HE.out hk) 19 _ rfl)) rfl) ?_
      refine fsteps_cons 36 rfl (fun a u hE hD hk => f_val (o := ⟨some 124, _, _, _, _, _⟩) (.pointer (some ⟨g11, 9, none⟩)) rfl (wanted_at (b := false) false rfl rfl (hD 28 117 (by kernel_rfl))) (exec_fldo 29 1 9 (.tmp 11) (g11) (0) (9) rfl (hE 11 (.pointer (some ⟨g11, 0, none⟩)) (by kernel_rfl) (by kernel_rfl)) (by kernel_rfl) rfl) rfl) ?_
      refine fsteps_cons 37 rfl (fun a u hE hD hk => f_val (o := ⟨some 125, _, _, _, _, _⟩) (.slice (some ⟨gg, og, none⟩) m c3) rfl (wanted_at (b := false) false rfl rfl (hD 28 117 (by kernel_rfl))) (exec_ldv 26 _ Try.underlying26 (.tmp 124) ⟨g11, 9, none⟩ (.slice (some ⟨gg, og, none⟩) m c3) rfl (hD 35 124 (by kernel_rfl)) (by rw [(HCy12.out.kept hk).cell]; rfl)) rfl) ?_
      refine fsteps_cons 38 rfl (fun a u hE hD hk => f_val (o := ⟨some 126, _, _, _, _, _⟩) (.int .i64 (j : Int)) rfl (wanted_at (b := false) false rfl rfl (hD 28 117 (by kernel_rfl))) (exec_move (.tmp 12) _ rfl (hE 12 (.int .i64 (j : Int)) (by kernel_rfl) (by kernel_rfl))) rfl) ?_
      refine fsteps_cons 39 rfl (fun a u hE hD hk => f_val (o := ⟨some 127, _, _, _, _, _⟩) (.pointer (some ⟨gg, og + j * 21, none⟩)) rfl (wanted_at (b := false) false rfl rfl (hD 28 117 (by kernel_rfl))) (exec_ixo slF (.tmp 125) (.tmp 126) (gg) (og) m c3 j (og + j * 21) ((j : Int)) rfl (hD 36 125 (by kernel_rfl)) (hD 37 126 (by kernel_rfl)) (by first | rfl | omega) (hjm) (by first | rfl | omega)) rfl) ?_
      refine fsteps_cons 40 rfl (fun a u hE hD hk => f_val (o := ⟨some 128, _, _, _, _, _⟩) (.pointer (some ⟨gg, og + j * 21 + 19, none⟩)) rfl (wanted_at (b := false) false rfl rfl (hD 28 117 (by kernel_rfl))) (exec_fldo 36 3 19 (.tmp 127) (gg) (og + j * 21) (og + j * 21 + 19) rfl (hD 38 127 (by kernel_rfl)) (by kernel_rfl) rfl) rfl) ?_
      refine fsteps_cons 41 rfl (fun a u hE hD hk => f_val (o := ⟨some 129, _, _, _, _, _⟩) (.int .i64 f2.qty) rfl (wanted_at (b := false) false rfl rfl (hD 28 117 (by kernel_rfl))) (exec_loadi 3 Try.underlying3 (.tmp 128) ⟨gg, og + j * 21 + 19, none⟩ (.int .i64 f2.qty) rfl (hD 39 128 (by kernel_rfl)) (range_int (range_kept HE2.out hk) 19 _ rfl)) rfl) ?_
      refine fsteps_cons 42 rfl (fun a u hE hD hk => f_as (show ((decide ((f.qty : Int) ≠ (f2.qty : Int))) : Bool) = false from decide_eq_false (fun h => h e3)) (f_val (o := ⟨some 130, _, _, _, _, _⟩) (.bool (decide ((f.qty : Int) ≠ (f2.qty : Int)))) rfl (wanted_at (b := false) false rfl rfl (hD 28 117 (by kernel_rfl))) (exec_nen (p := f.qty) (q := f2.qty) rfl (hD 34 123 (by kernel_rfl)) (hD 40 129 (by kernel_rfl))) rfl)) ?_
      refine sv 43 rfl rfl rfl (fun a u hE hD hk => exec_pickF (.tmp 117) (.const (.bool true)) (.tmp 130) (.bool false) rfl (hD 28 117 (by kernel_rfl)) (hD 41 130 (by kernel_rfl))) ?_
      exact fsteps_nil
     intro gv wc hV kc
     rw [show dstsOf _ 43 = [89, 90, 91, 92, 93, 94, 95, 96, 97, 98, 99, 100, 101, 102, 103, 104, 105, 106, 107, 108, 109, 110, 111, 112, 113, 114, 115, 116, 117, 118, 119, 120, 121, 122, 123, 124, 125, 126, 127, 128, 129, 130, 131] by kernel_rfl]
     simp only [fC, fN, sA, sS, sZ, dS, dZ]
     rw [show gv 131 = .bool false from hV 42 131 (by kernel_rfl)]
     clear hV
     refine wpList_nil ?_
     have kwc := hkr.trans kc
     go_wp2
     exact ⟨⟨j + 1, by omega, by go_num, kwc⟩, by simp [intOf]; omega⟩
    ·skip
     have HA12 := Lib.hid (HA11.out.kept hkr)
     have HB12 := Lib.hid (HB11.out.kept hkr)
     have kw12 := kw11.trans hkr
     obtain ⟨X, hX⟩ : ∃ X, ordsL (B2.sd 1) = X := ⟨_, rfl⟩
     obtain ⟨Y, hY⟩ : ∃ Y, ordsL (B2.sd 2) = Y := ⟨_, rfl⟩
     have HXe := Lib.hid hX
     have HYe := Lib.hid hY
     have HXl : Hid (X.length ≤ 64 ∧ Y.length ≤ 64) := by
      have h1 := HI2.out.two.few
      have h2 : X.length = (entL B2.buys).length := by rw [← hX, ordsL_len]; rfl
      have h3 : Y.length = (entL B2.sells).length := by rw [← hY, ordsL_len]; rfl
      show _ ∧ _
      omega
     clear hX hY HCx11 HCy11 HSx11 HSy11 HA11 HB11 kw11 hkr
     go_upto_region 23 with fail
     refine wp_text 15 [.eq (.pointer (some ⟨p, 0, none⟩)), .sl 0 25 9 X.length (ords X), .eq (.pointer (some ⟨r, 0, none⟩)), .sl 0 25 9 X.length (ords X), .eq (.bool true), .eq (.bool true), .eq (.pointer (some ⟨p, 0, none⟩)), .sl 0 25 9 Y.length (ords Y), .eq (.pointer (some ⟨r, 0, none⟩)), .sl 0 25 9 Y.length (ords Y), .eq (.bool true), .eq (.bool true), .eq (.bool true), .eq (.bool true), .eq (.bool true)] rfl (by kernel_rfl) ?_ ?_
     ·refine sv 1 rfl rfl rfl (fun a u hE hD hk => exec_move (.tmp 5) _ rfl (hE 5 (.pointer (some ⟨p, 0, none⟩)) (by kernel_rfl) (by kernel_rfl))) ?_
      refine fsteps_cons 2 rfl (fun a u hE hD hk => f_call (o := ⟨some 134, _, _, _, _, _⟩) 32 #[.pointer (some ⟨p, 0, none⟩), .int .i64 1] rfl (wanted_none rfl _) (exec_call 32 _ [.tmp 133, .const (.int .i64 1)] _ [.pointer (some ⟨p, 0, none⟩), .int .i64 1] Try.func32 (by kernel_rfl) (by kernel_rfl) rfl (show [a.eval (.tmp 133), a.eval (.const (.int .i64 1))] = [.pointer (some ⟨p, 0, none⟩), .int .i64 1] from (by rw [show a.eval (.tmp 133) = .pointer (some ⟨p, 0, none⟩) from (hD 0 133 (by kernel_rfl))] <;> rfl)) u) ((by have h := (borders_any u F' p B2 1 (HA12.out.kept hk) HI2.out).base (Nat.zero_le _); rw [HXe.out] at h; exact h))) ?_
      refine sv 3 rfl rfl rfl (fun a u hE hD hk => exec_move (.tmp 6) _ rfl (hE 6 (.pointer (some ⟨r, 0, none⟩)) (by kernel_rfl) (by kernel_rfl))) ?_
      refine fsteps_cons 4 rfl (fun a u hE hD hk => f_call (o := ⟨some 136, _, _, _, _, _⟩) 32 #[.pointer (some ⟨r, 0, none⟩), .int .i64 1] rfl (wanted_none rfl _) (exec_call 32 _ [.tmp 135, .const (.int .i64 1)] _ [.pointer (some ⟨r, 0, none⟩), .int .i64 1] Try.func32 (by kernel_rfl) (by kernel_rfl) rfl (show [a.eval (.tmp 135), a.eval (.const (.int .i64 1))] = [.pointer (some ⟨r, 0, none⟩), .int .i64 1] from (by rw [show a.eval (.tmp 135) = .pointer (some ⟨r, 0, none⟩) from (hD 2 135 (by kernel_rfl))] <;> rfl)) u) ((by have h := (borders_any u G' r B2 1 (HB12.out.kept hk) HI2.out).base (Nat.zero_le _); rw [HXe.out] at h; exact h))) ?_
      refine fsteps_cons 5 rfl (fun a u hE hD hk => f_call (o := ⟨some 137, _, _, _, _, _⟩) 37 #[a.eval (.tmp 134), a.eval (.tmp 136)] rfl (wanted_none rfl _) (exec_call 37 _ [.tmp 134, .tmp 136] _ [a.eval (.tmp 134), a.eval (.tmp 136)] Try.func37 (by kernel_rfl) (by kernel_rfl) rfl rfl u) ((by have h := sameO_any (a.eval (.tmp 134)) (a.eval (.tmp 136)) 0 0 X X u (hD 1 134 (by kernel_rfl)).1 (hD 3 136 (by kernel_rfl)).1 (by have := HXl.out; omega) (by have := HXl.out; omega); rwa [decide_eq_true rfl] at h))) ?_
      refine sv 6 rfl rfl rfl (fun a u hE hD hk => exec_move (.tmp 137) _ rfl (hD 4 137 (by kernel_rfl))) ?_
      refine fsteps_cons 7 rfl (fun a u hE hD hk => f_val (o := ⟨some 139, _, _, _, _, _⟩) (.pointer (some ⟨p, 0, none⟩)) rfl (wanted_at (b := true) true rfl rfl (hD 5 138 (by kernel_rfl))) (exec_move (.tmp 5) _ rfl (hE 5 (.pointer (some ⟨p, 0, none⟩)) (by kernel_rfl) (by kernel_rfl))) rfl) ?_
      refine fsteps_cons 8 rfl (fun a u hE hD hk => f_call (o := ⟨some 140, _, _, _, _, _⟩) 32 #[.pointer (some ⟨p, 0, none⟩), .int .i64 2] rfl (wanted_at (b := true) true rfl rfl (hD 5 138 (by kernel_rfl))) (exec_call 32 _ [.tmp 139, .const (.int .i64 2)] _ [.pointer (some ⟨p, 0, none⟩), .int .i64 2] Try.func32 (by kernel_rfl) (by kernel_rfl) rfl (show [a.eval (.tmp 139), a.eval (.const (.int .i64 2))] = [.pointer (some ⟨p, 0, none⟩), .int .i64 2] from (by rw [show a.eval (.tmp 139) = .pointer (some ⟨p, 0, none⟩) from (hD 6 139 (by kernel_rfl))] <;> rfl)) u) ((by have h := (borders_any u F' p B2 2 (HA12.out.kept hk) HI2.out).base (Nat.zero_le _); rw [HYe.out] at h; exact h))) ?_
      refine fsteps_cons 9 rfl (fun a u hE hD hk => f_val (o := ⟨some 141, _, _, _, _, _⟩) (.pointer (some ⟨r, 0, none⟩)) rfl (wanted_at (b := true) true rfl rfl (hD 5 138 (by kernel_rfl))) (exec_move (.tmp 6) _ rfl (hE 6 (.pointer (some ⟨r, 0, none⟩)) (by kernel_rfl) (by kernel_rfl))) rfl) ?_
      refine fsteps_cons 10 rfl (fun a u hE hD hk => f_call (o := ⟨some 142, _, _, _, _, _⟩) 32 #[.pointer (some ⟨r, 0, none⟩), .int .i64 2] rfl (wanted_at (b := true) true rfl rfl (hD 5 138 (by kernel_rfl))) (exec_call 32 _ [.tmp 141, .const (.int .i64 2)] _ [.pointer (some ⟨r, 0, none⟩), .int .i64 2] Try.func32 (by kernel_rfl) (by kernel_rfl) rfl (show [a.eval (.tmp 141), a.eval (.const (.int .i64 2))] = [.pointer (some ⟨r, 0, none⟩), .int .i64 2] from (by rw [show a.eval (.tmp 141) = .pointer (some ⟨r, 0, none⟩) from (hD 8 141 (by kernel_rfl))] <;> rfl)) u) ((by have h := (borders_any u G' r B2 2 (HB12.out.kept hk) HI2.out).base (Nat.zero_le _); rw [HYe.out] at h; exact h))) ?_
      refine fsteps_cons 11 rfl (fun a u hE hD hk => f_call (o := ⟨some 143, _, _, _, _, _⟩) 37 #[a.eval (.tmp 140), a.eval (.tmp 142)] rfl (wanted_at (b := true) true rfl rfl (hD 5 138 (by kernel_rfl))) (exec_call 37 _ [.tmp 140, .tmp 142] _ [a.eval (.tmp 140), a.eval (.tmp 142)] Try.func37 (by kernel_rfl) (by kernel_rfl) rfl rfl u) ((by have h := sameO_any (a.eval (.tmp 140)) (a.eval (.tmp 142)) 0 0 Y Y u (hD 7 140 (by kernel_rfl)).1 (hD 9 142 (by kernel_rfl)).1 (by have := HXl.out; omega) (by have := HXl.out; omega); rwa [decide_eq_true rfl] at h))) ?_
      refine sv 12 rfl rfl rfl (fun a u hE hD hk => exec_pick (.tmp 138) (.tmp 143) (.const (.bool false)) (.bool true) rfl (hD 5 138 (by kernel_rfl)) (hD 10 143 (by kernel_rfl))) ?_
      refine sv 13 rfl rfl rfl (fun a u hE hD hk => exec_move (.tmp 144) _ rfl (hD 11 144 (by kernel_rfl))) ?_
      refine fsteps_cons 14 rfl (fun a u hE hD hk => f_call (o := ⟨some 146, _, _, _, _, _⟩) 3 #[] rfl (wanted_at (b := true) true rfl rfl (hD 12 145 (by kernel_rfl))) (exec_call 3 _ [] _ [] Try.func3 (by kernel_rfl) (by kernel_rfl) rfl rfl u) (bruns_gives u)) ?_
      refine sv 15 rfl rfl rfl (fun a u hE hD hk => exec_pick (.tmp 145) (.tmp 146) (.const (.bool false)) (.bool true) rfl (hD 12 145 (by kernel_rfl)) (hD 13 146 (by kernel_rfl))) ?_
      exact fsteps_nil
     intro gv wz hV kz
     rw [show dstsOf _ 15 = [133, 134, 135, 136, 137, 138, 139, 140, 141, 142, 143, 144, 145, 146, 147] by kernel_rfl]
     simp only [fC, fN, sA, sS, sZ, dS, dZ]
     rw [show gv 147 = .bool true from hV 14 147 (by kernel_rfl)]
     clear hV
     refine l_val (o := ⟨some 4, _, _, _, _, _⟩) (.bool true) rfl (exec_assign (.tmp 147) (.bool true) rfl (by kernel_rfl)) ?_
     simp only [Act.put, sA, sS, sZ]
     refine wpList_nil ?_
     go_wp2
     go_ret
     exact ⟨rfl, kw12.trans kz⟩
 ·skip
  go_upto_region 11 with fail
  refine wp_text 3 [.eq (.pointer (some ⟨g11, 14, none⟩)), .eq (.int .i64 y.err), .eq (.bool true)] rfl (by kernel_rfl) ?_ ?_
  ·refine sv 1 rfl rfl rfl (fun a u hE hD hk => exec_fldo 29 6 14 (.tmp 11) (g11) (0) (14) rfl (hE 11 (.pointer (some ⟨g11, 0, none⟩)) (by kernel_rfl) (by kernel_rfl)) (by kernel_rfl) rfl) ?_
   refine sv 2 rfl rfl rfl (fun a u hE hD hk => exec_loadi 27 Try.underlying27 (.tmp 40) ⟨g11, 14, none⟩ (.int .i64 y.err) rfl (hD 0 40 (by kernel_rfl)) (by rw [(HCyw8.out.kept hk).cell]; rfl)) ?_
   refine fsteps_cons 3 rfl (fun a u hE hD hk => f_as (show ((decide ((y.err : Int) ≠ (0 : Int))) : Bool) = true from decide_eq_true he) (f_val (o := ⟨some 42, _, _, _, _, _⟩) (.bool (decide ((y.err : Int) ≠ (0 : Int)))) rfl (wanted_none rfl _) (exec_nen (p := y.err) (q := 0) rfl (hD 1 41 (by kernel_rfl)) rfl) rfl)) ?_
   exact fsteps_nil
  intro gv w9 hV k9
  rw [show dstsOf _ 3 = [40, 41, 42] by kernel_rfl]
  simp only [fC, fN, sA, sS, sZ, dS, dZ]
  rw [show gv 42 = .bool true from hV 2 42 (by kernel_rfl)]
  clear hV
  refine wpList_nil ?_
  have kw9 := kw8.trans k9
  have HCx9 := Lib.hid (HCxw8.out.kept k9)
  have HCy9 := Lib.hid (HCyw8.out.kept k9)
  go_upto_region 12 with fail
  refine wp_text 8 [.eq (.pointer (some ⟨g10, 14, none⟩)), .eq (.int .i64 x.err), .eq (.pointer (some ⟨g11, 14, none⟩)), .eq (.int .i64 y.err), .eq (.bool true), .eq (.bool true), .eq (.bool true), .eq (.bool true)] rfl (by kernel_rfl) ?_ ?_
  ·refine sv 1 rfl rfl rfl (fun a u hE hD hk => exec_fldo 29 6 14 (.tmp 10) (g10) (0) (14) rfl (hE 10 (.pointer (some ⟨g10, 0, none⟩)) (by kernel_rfl) (by kernel_rfl)) (by kernel_rfl) rfl) ?_
   refine sv 2 rfl rfl rfl (fun a u hE hD hk => exec_loadi 27 Try.underlying27 (.tmp 43) ⟨g10, 14, none⟩ (.int .i64 x.err) rfl (hD 0 43 (by kernel_rfl)) (by rw [(HCx9.out.kept hk).cell]; rfl)) ?_
   refine sv 3 rfl rfl rfl (fun a u hE hD hk => exec_fldo 29 6 14 (.tmp 11) (g11) (0) (14) rfl (hE 11 (.pointer (some ⟨g11, 0, none⟩)) (by kernel_rfl) (by kernel_rfl)) (by kernel_rfl) rfl) ?_
   refine sv 4 rfl rfl rfl (fun a u hE hD hk => exec_loadi 27 Try.underlying27 (.tmp 45) ⟨g11, 14, none⟩ (.int .i64 y.err) rfl (hD 2 45 (by kernel_rfl)) (by rw [(HCy9.out.kept hk).cell]; rfl)) ?_
   refine fsteps_cons 5 rfl (fun a u hE hD hk => f_as (show ((decide ((x.err : Int) = (y.err : Int))) : Bool) = true from decide_eq_true (HIO.out.no he)) (f_val (o := ⟨some 47, _, _, _, _, _⟩) (.bool (decide ((x.err : Int) = (y.err : Int)))) rfl (wanted_none rfl _) (exec_eqn (p := x.err) (q := y.err) rfl (hD 1 44 (by kernel_rfl)) (hD 3 46 (by kernel_rfl))) rfl)) ?_
   refine sv 6 rfl rfl rfl (fun a u hE hD hk => exec_move (.tmp 47) _ rfl (hD 4 47 (by kernel_rfl))) ?_
   refine fsteps_cons 7 rfl (fun a u hE hD hk => f_call (o := ⟨some 49, _, _, _, _, _⟩) 3 #[] rfl (wanted_at (b := true) true rfl rfl (hD 5 48 (by kernel_rfl))) (exec_call 3 _ [] _ [] Try.func3 (by kernel_rfl) (by kernel_rfl) rfl rfl u) (bruns_gives u)) ?_
   refine sv 8 rfl rfl rfl (fun a u hE hD hk => exec_pick (.tmp 48) (.tmp 49) (.const (.bool false)) (.bool true) rfl (hD 5 48 (by kernel_rfl)) (hD 6 49 (by kernel_rfl))) ?_
   exact fsteps_nil
  intro gv wz hV kz
  rw [show dstsOf _ 8 = [43, 44, 45, 46, 47, 48, 49, 50] by kernel_rfl]
  simp only [fC, fN, sA, sS, sZ, dS, dZ]
  rw [show gv 50 = .bool true from hV 7 50 (by kernel_rfl)]
  clear hV
  refine l_val (o := ⟨some 4, _, _, _, _, _⟩) (.bool true) rfl (exec_assign (.tmp 50) (.bool true) rfl (by kernel_rfl)) ?_
  simp only [Act.put, sA, sS, sZ]
  refine wpList_nil ?_
  go_wp2
  go_ret
  exact ⟨rfl, kw9.trans kz⟩
theorem bookFok_any (v : Value) (l : List Kq) (q : Kq) (w : World) (hl : Kqs w v l) : Calls Try.prog 10 #[v, q.v] w fun e w' => e = .returned (.bool true) ∧ Kept w w' := by
 by_cases h : q.o.k = 2
 ·exact bookFok_m v l q w hl h
 ·exact bookFok_l v l q w hl h
end Go.Proofs.Ytfpfpmhkkgfdbaa
