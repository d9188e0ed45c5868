/-
 Chapter 10's runs: what the book does at them, as mathematics, and the walk. No condition.
-/
import Derived.Test.YtfpfpmhkkgfdbaaQD04
import Derived.Deep.DeepCutAuto
set_option linter.unusedVariables false
namespace Go.Proofs.Ytfpfpmhkkgfdbaa
open Go.RowKit
set_option maxRecDepth 100000
def mkO (firm id side k price qty : Int) : Ord := ⟨firm, id, firm, side, k, price, qty, 0, 0⟩
theorem add_go {B : Bok} {o : Ord} {m : Mt} (he : B.err o = 0) (hm : B.matched o = m) : B.add o = (⟨o, m.f, m.left, decide (0 < m.left) && !m.self && (decide (o.k = 1) || decide (o.k = 5)), m.self, 0⟩,
  if (decide (0 < m.left) && !m.self && (decide (o.k = 1) || decide (o.k = 5))) = true then ({ B.put (3 - o.side) m.L with last := lastOf B.last m.f, no := B.no + m.f.length } : Bok).put o.side (restM (o.cut m.left) (({ B.put (3 - o.side) m.L with last := lastOf B.last m.f, no := B.no + m.f.length } : Bok).sd o.side)) else { B.put (3 - o.side) m.L with last := lastOf B.last m.f, no := B.no + m.f.length }) := by
 subst hm
 unfold Bok.add
 rw [if_neg (by simp [he])]
 rfl
def r1 : Ord := mkO 1 1 2 1 10 5
def r2 : Ord := mkO 2 1 2 1 9 5
def r3 : Ord := mkO 3 1 1 1 10 7
def r4 : Ord := mkO 3 2 1 4 10 9
def r5 : Ord := mkO 1 2 1 1 10 1
def R1 : Bok := ⟨[], [(10, [⟨r1, 5⟩])], 0, 0⟩
def R2 : Bok := ⟨[], [(9, [⟨r2, 5⟩]), (10, [⟨r1, 5⟩])], 0, 0⟩
def R3 : Bok := ⟨[], [(10, [⟨r1.q 3, 3⟩])], 10, 2⟩
def f1 : Fl := ⟨r2, r3, 9, 5, 1⟩
def f2 : Fl := ⟨r1, r3.q 2, 10, 2, 2⟩
theorem run1 : Bok.zero.add r1 = (⟨r1, [], 5, true, false, 0⟩, R1) := by
 rw [add_go (m := ⟨[], 5, false, []⟩) (by decide) rfl]
 rfl
theorem run2 : R1.add r2 = (⟨r2, [], 5, true, false, 0⟩, R2) := by
 rw [add_go (m := ⟨[], 5, false, []⟩) (by decide) rfl]
 rfl
theorem run3 : R2.add r3 = (⟨r3, [f1, f2], 0, false, false, 0⟩, R3) := by
 have t1 : takeM 3 7 [⟨r2, 5⟩] = ([⟨r2, 5⟩], false, []) := by
  rw [takeM_go 3 7 ⟨r2, 5⟩ [] (by decide) (by decide) (by decide)]
  rw [show nextM ⟨r2, 5⟩ (mn 7 (⟨r2, 5⟩ : Ent).n) [] = [] by decide, takeM_nil]
  rfl
 have t2 : takeM 3 2 [⟨r1, 5⟩] = ([⟨r1, 2⟩], false, [⟨r1.q 3, 3⟩]) := by
  rw [takeM_go 3 2 ⟨r1, 5⟩ [] (by decide) (by decide) (by decide)]
  rw [show nextM ⟨r1, 5⟩ (mn 2 (⟨r1, 5⟩ : Ent).n) [] = [⟨r1.q 3, 3⟩] by decide, takeM_zero _ _ _ (by decide)]
  rfl
 have hm : R2.matched r3 = ⟨[f1, f2], 0, false, [(10, [⟨r1.q 3, 3⟩])]⟩ := by
  show matchM r3 0 7 [(9, [⟨r2, 5⟩]), (10, [⟨r1, 5⟩])] = _
  rw [matchM, if_pos (by decide)]
  simp only [show r3.firm = 3 from rfl, t1]
  rw [if_pos (by decide)]
  simp only [show (7 : Int) - seenM [⟨r2, 5⟩] = 2 by decide]
  rw [matchM, if_pos (by decide)]
  simp only [show r3.firm = 3 from rfl, t2]
  rw [if_neg (by decide)]
  rfl
 rw [add_go (by decide) hm]
 rfl
theorem run4 : R3.add r4 = (⟨r4, [], 9, false, false, 12⟩, R3) := by
 have t1 : takeM 3 9 [⟨r1.q 3, 3⟩] = ([⟨r1.q 3, 3⟩], false, []) := by
  rw [takeM_go 3 9 ⟨r1.q 3, 3⟩ [] (by decide) (by decide) (by decide)]
  rw [show nextM ⟨r1.q 3, 3⟩ (mn 9 (⟨r1.q 3, 3⟩ : Ent).n) [] = [] by decide, takeM_nil]
  rfl
 have hm : (R3.matched r4).left = 6 := by
  show (matchM r4 2 9 [(10, [⟨r1.q 3, 3⟩])]).left = _
  rw [matchM, if_pos (by decide)]
  simp only [show r4.firm = 3 from rfl, t1]
  rw [if_pos (by decide)]
  rfl
 have he : R3.err r4 = 12 := by
  unfold Bok.err
  rw [if_neg (by decide), if_neg (by decide), if_neg (by decide), if_neg (by decide), if_pos ⟨rfl, by rw [hm]; decide⟩]
 rw [add_err (by rw [he]; decide), he]
 rfl
theorem run5 : R3.add r5 = (⟨r5, [], 1, false, true, 0⟩, R3) := by
 have hm : R3.matched r5 = ⟨[], 1, true, [(10, [⟨r1.q 3, 3⟩])]⟩ := by
  show matchM r5 2 1 [(10, [⟨r1.q 3, 3⟩])] = _
  rw [matchM, if_pos (by decide)]
  simp only [show r5.firm = 1 from rfl, takeM_own 1 1 ⟨r1.q 3, 3⟩ [] (by decide) (by decide) rfl]
  rw [if_neg (by decide)]
  rfl
 rw [add_go (by decide) hm]
 rfl
theorem inv1 : Inv R1 := by have := inv_add (o := r1) Inv.zero; rw [run1] at this; exact this.1
theorem inv2 : Inv R2 := by have := inv_add (o := r2) inv1; rw [run2] at this; exact this.1
theorem inv3 : Inv R3 := by have := inv_add (o := r3) inv2; rw [run3] at this; exact this.1
def oc1 : Oc := ⟨r1, [], 5, true, false, 0⟩
def oc2 : Oc := ⟨r2, [], 5, true, false, 0⟩
def oc3 : Oc := ⟨r3, [f1, f2], 0, false, false, 0⟩
def oc4 : Oc := ⟨r4, [], 9, false, false, 12⟩
def oc5 : Oc := ⟨r5, [], 1, false, true, 0⟩
theorem builtO (a b c d e f g : Int) : Try.prog.built 25 [(0, .int .i64 a), (1, .int .i64 b), (2, .int .i64 c), (3, .int .i64 d), (4, .int .i64 e), (5, .int .i64 f), (6, .int .i64 g)] = some (Ord.mk a b c d e f g 0 0).cells.toArray := by kernel_rfl
theorem exec_builtO {a : Act} {o : Oper} {u : World} (x0 x1 x2 x3 x4 x5 x6 : Operand) (a0 a1 a2 a3 a4 a5 a6 : Int) (hop : o.op = .build 25 #[(0, x0), (1, x1), (2, x2), (3, x3), (4, x4), (5, x5), (6, x6)]) (h0 : a.eval x0 = .int .i64 a0) (h1 : a.eval x1 = .int .i64 a1) (h2 : a.eval x2 = .int .i64 a2) (h3 : a.eval x3 = .int .i64 a3) (h4 : a.eval x4 = .int .i64 a4) (h5 : a.eval x5 = .int .i64 a5) (h6 : a.eval x6 = .int .i64 a6) : (execOp a.eval o).run Try.prog u = .ok (.value (Ord.mk a0 a1 a2 a3 a4 a5 a6 0 0).v) u :=
 exec_build _ [(0, x0), (1, x1), (2, x2), (3, x3), (4, x4), (5, x5), (6, x6)] (Ord.mk a0 a1 a2 a3 a4 a5 a6 0 0).cells hop (by
  simp only [List.map_cons, List.map_nil, h0, h1, h2, h3, h4, h5, h6]
  exact builtO _ _ _ _ _ _ _)
set_option maxRecDepth 100000 in
set_option maxHeartbeats 800000 in
theorem o_any (f i s k p n : Int) (w : World) : Gives 16 #[.int .i64 f, .int .i64 i, .int .i64 s, .int .i64 k, .int .i64 p, .int .i64 n] w (.eq (mkO f i s k p n).v) := by
 refine gives_eq ?_
 go_enter Try.func16, Try.ntmps16
 go_upto_region 0 with fail
 refine wp_text 1 [.fresh w.heap.size 25 zeroO.cells] rfl (by kernel_rfl) ?_ ?_
 ·refine fsteps_cons 1 rfl (fun a u hE hD hk => f_new (o := ⟨some 12, _, _, _, _, _⟩) (.pointer (some ⟨u.heap.size, 0, none⟩)) _ rfl (wanted_none rfl _) (exec_alc 25 zeroO.cells rfl zO) ⟨_, rfl, hk.size, Blk.new u _ _⟩ ((Keep.refl _ u).alloc _)) ?_
  exact fsteps_nil
 intro gv w0 hV k0
 rw [show dstsOf _ 1 = [12] by kernel_rfl]
 simp only [fC, fN, sA, sS, sZ, dS, dZ]
 have hv12 : (.fresh w.heap.size 25 zeroO.cells : Kn).p (gv 12) w0 := hV 0 12 (by kernel_rfl)
 generalize gv 12 = v12 at hv12 ⊢
 clear hV
 obtain ⟨g, rfl, hg, hB⟩ := hv12
 refine wpList_nil ?_
 have HB := Lib.hid hB
 have l1 := hB.lt
 clear hB
 go_upto_region 1 with fail
 refine wp_text 8 [.eq (.int .i64 f), .eq (.int .i64 i), .eq (.int .i64 f), .eq (.int .i64 s), .eq (.int .i64 k), .eq (.int .i64 p), .eq (.int .i64 n), .eq ((Ord.mk f i f s k p n 0 0).v)] rfl (by kernel_rfl) ?_ ?_
 ·refine sv 1 rfl rfl rfl (fun a u hE hD hk => exec_move (.tmp 0) _ rfl (hE 0 (.int .i64 f) (by kernel_rfl) (by kernel_rfl))) ?_
  refine sv 2 rfl rfl rfl (fun a u hE hD hk => exec_move (.tmp 1) _ rfl (hE 1 (.int .i64 i) (by kernel_rfl) (by kernel_rfl))) ?_
  refine sv 3 rfl rfl rfl (fun a u hE hD hk => exec_move (.tmp 0) _ rfl (hE 0 (.int .i64 f) (by kernel_rfl) (by kernel_rfl))) ?_
  refine sv 4 rfl rfl rfl (fun a u hE hD hk => exec_move (.tmp 2) _ rfl (hE 2 (.int .i64 s) (by kernel_rfl) (by kernel_rfl))) ?_
  refine sv 5 rfl rfl rfl (fun a u hE hD hk => exec_move (.tmp 3) _ rfl (hE 3 (.int .i64 k) (by kernel_rfl) (by kernel_rfl))) ?_
  refine sv 6 rfl rfl rfl (fun a u hE hD hk => exec_move (.tmp 4) _ rfl (hE 4 (.int .i64 p) (by kernel_rfl) (by kernel_rfl))) ?_
  refine sv 7 rfl rfl rfl (fun a u hE hD hk => exec_move (.tmp 5) _ rfl (hE 5 (.int .i64 n) (by kernel_rfl) (by kernel_rfl))) ?_
  refine sv 8 rfl rfl rfl (fun a u hE hD hk => exec_builtO (.tmp 13) (.tmp 14) (.tmp 15) (.tmp 16) (.tmp 17) (.tmp 18) (.tmp 19) f i f s k p n rfl (hD 0 13 (by kernel_rfl)) (hD 1 14 (by kernel_rfl)) (hD 2 15 (by kernel_rfl)) (hD 3 16 (by kernel_rfl)) (hD 4 17 (by kernel_rfl)) (hD 5 18 (by kernel_rfl)) (hD 6 19 (by kernel_rfl))) ?_
  exact fsteps_nil
 intro gv w1 hV k1
 rw [show dstsOf _ 8 = [13, 14, 15, 16, 17, 18, 19, 20] by kernel_rfl]
 simp only [fC, fN, sA, sS, sZ, dS, dZ]
 rw [show gv 20 = (Ord.mk f i f s k p n 0 0).v from hV 7 20 (by kernel_rfl)]
 clear hV
 refine l_setS (o := ⟨none, _, _, _, _, _⟩) 25 g 25 zeroO.cells (Ord.mk f i f s k p n 0 0).cells (.tmp 12) (.tmp 20) rfl rfl (by kernel_rfl) (by kernel_rfl) (HB.out.kept k1) (by rw [Ord.len9]; exact ord_size) (by rw [Ord.len9, Ord.len9]) (Ord.one1 _) ?_
 intro w2 hC2 hk2 hs2
 simp only [Act.put]
 refine wpList_nil ?_
 go_wp2
 refine bodyPost_ret (results_cell (p := 12) rfl _ _ g _ (Ord.mk f i f s k p n 0 0).cells rfl hC2 Try.underlying25 (by rw [Ord.len9]; exact ord_size)) rfl ?_
 exact ⟨rfl, (k0.trans k1).trans' hk2 (by omega)⟩
theorem badd_at (w : World) (F : Nat → Prop) (p : Nat) (B : Bok) (o : Ord) (x : Oc × Bok) (hx : B.add o = x) (h : Bk w F p B) (hI : Inv B) (hn : B.no ≤ 1000000000000) : Calls Try.prog 15 #[.pointer (some ⟨p, 0, none⟩), o.v] w (AddIn w F p x) := by
 rw [← hx]
 exact badd_any w F p B o h hI hn
set_option maxRecDepth 100000 in
set_option maxHeartbeats 3200000 in
theorem bookRuns_any (w : World) : Calls Try.prog 3 #[] w fun e w' => e = .returned (.bool true) ∧ Kept w w' := by
 go_enter Try.func3, Try.ntmps3
 go_upto_region 1 with fail
 refine wp_region_lit ?_
 refine l_call (o := ⟨some 10, _, _, _, _, _⟩) 14 #[] rfl (exec_call 14 _ [] _ _ Try.func14 (by kernel_rfl) (by kernel_rfl) rfl (by kernel_rfl) _) ?_
 refine (bnew_any w).mono ?_
 rintro r w1 ⟨p, F1, rfl, hB1, hG1, k1⟩
 refine ⟨_, rfl, ?_⟩
 simp only [Act.put, sA, sS, sZ]
 refine l_val (o := ⟨some 1, _, _, _, _, _⟩) (.pointer (some ⟨p, 0, none⟩)) rfl (exec_assign (.tmp 10) (.pointer (some ⟨p, 0, none⟩)) rfl (by kernel_rfl)) ?_
 simp only [Act.put, sA, sS, sZ]
 refine wpList_nil ?_
 have HF1 : Hid (∀ b, F1 b → w.heap.size ≤ b) := fun b hb => (hG1 b hb).elim (fun h => h.elim) id
 have HB1 := Lib.hid hB1
 clear hB1 hG1
 go_upto_region 4 with fail
 refine wp_region_lit ?_
 refine l_val (o := ⟨some 13, _, _, _, _, _⟩) (.pointer (some ⟨p, 0, none⟩)) rfl (exec_move (.tmp 1) (.pointer (some ⟨p, 0, none⟩)) rfl (by kernel_rfl)) ?_
 simp only [Act.put, sA, sS, sZ]
 refine l_call (o := ⟨some 14, _, _, _, _, _⟩) 16 #[.int .i64 1, .int .i64 1, .int .i64 2, .int .i64 1, .int .i64 10, .int .i64 5] rfl (exec_call 16 _ [.const (.int .i64 1), .const (.int .i64 1), .const (.int .i64 2), .const (.int .i64 1), .const (.int .i64 10), .const (.int .i64 5)] _ _ Try.func16 (by kernel_rfl) (by kernel_rfl) rfl (by kernel_rfl) _) ?_
 refine (o_any 1 1 2 1 10 5 w1).mono ?_
 rintro r w2 ⟨_, rfl, rfl, kw2⟩
 refine ⟨_, rfl, ?_⟩
 simp only [Act.put, sA, sS, sZ]
 refine l_call (o := ⟨some 15, _, _, _, _, _⟩) 15 #[.pointer (some ⟨p, 0, none⟩), r1.v] rfl (exec_call 15 _ [.tmp 13, .tmp 14] _ _ Try.func15 (by kernel_rfl) (by kernel_rfl) rfl (by kernel_rfl) _) ?_
 refine (badd_at w2 F1 p Bok.zero r1 _ run1 (HB1.out.kept kw2) Inv.zero (by decide)).mono ?_
 rintro r w3 ⟨F3, v1, rfl, hBw3, hSw3, hOw3, hGw3, hkw3⟩
 refine ⟨_, rfl, ?_⟩
 simp only [Act.put, sA, sS, sZ]
 refine l_val (o := ⟨some 16, _, _, _, _, _⟩) (.pointer (some ⟨p, 0, none⟩)) rfl (exec_move (.tmp 1) (.pointer (some ⟨p, 0, none⟩)) rfl (by kernel_rfl)) ?_
 simp only [Act.put, sA, sS, sZ]
 refine l_call (o := ⟨some 17, _, _, _, _, _⟩) 16 #[.int .i64 2, .int .i64 1, .int .i64 2, .int .i64 1, .int .i64 9, .int .i64 5] rfl (exec_call 16 _ [.const (.int .i64 2), .const (.int .i64 1), .const (.int .i64 2), .const (.int .i64 1), .const (.int .i64 9), .const (.int .i64 5)] _ _ Try.func16 (by kernel_rfl) (by kernel_rfl) rfl (by kernel_rfl) _) ?_
 refine (o_any 2 1 2 1 9 5 w3).mono ?_
 rintro r w4 ⟨_, rfl, rfl, kw4⟩
 refine ⟨_, rfl, ?_⟩
 simp only [Act.put, sA, sS, sZ]
 refine l_call (o := ⟨some 18, _, _, _, _, _⟩) 15 #[.pointer (some ⟨p, 0, none⟩), r2.v] rfl (exec_call 15 _ [.tmp 16, .tmp 17] _ _ Try.func15 (by kernel_rfl) (by kernel_rfl) rfl (by kernel_rfl) _) ?_
 refine (badd_at w4 F3 p R1 r2 _ run2 (hBw3.kept kw4) inv1 (by decide)).mono ?_
 rintro r w5 ⟨F5, v2, rfl, hBw5, hSw5, hOw5, hGw5, hkw5⟩
 refine ⟨_, rfl, ?_⟩
 simp only [Act.put, sA, sS, sZ]
 refine l_new (o := ⟨some 2, _, _, _, _, _⟩) (.pointer (some ⟨w5.heap.size, 0, none⟩)) (w5.alloc (.cells (zeroC.cells (.slice none 0 0)).toArray 29)) rfl (exec_alc 29 (zeroC.cells (.slice none 0 0)) rfl zC) ?_
 have hNw6 := Blk.new w5 29 (zeroC.cells (.slice none 0 0))
 have kw6 : Kept w5 (w5.alloc (.cells (zeroC.cells (.slice none 0 0)).toArray 29)) := (Keep.refl _ w5).alloc _
 generalize w5.alloc (.cells (zeroC.cells (.slice none 0 0)).toArray 29) = w6 at hNw6 kw6 ⊢
 simp only [Act.put, sA, sS, sZ]
 refine l_new (o := ⟨some 3, _, _, _, _, _⟩) (.pointer (some ⟨w6.heap.size, 0, none⟩)) (w6.alloc (.cells (zeroC.cells (.slice none 0 0)).toArray 29)) rfl (exec_alc 29 (zeroC.cells (.slice none 0 0)) rfl zC) ?_
 have hNw7 := Blk.new w6 29 (zeroC.cells (.slice none 0 0))
 have kw7 : Kept w6 (w6.alloc (.cells (zeroC.cells (.slice none 0 0)).toArray 29)) := (Keep.refl _ w6).alloc _
 generalize w6.alloc (.cells (zeroC.cells (.slice none 0 0)).toArray 29) = w7 at hNw7 kw7 ⊢
 simp only [Act.put, sA, sS, sZ]
 refine l_setS (o := ⟨none, _, _, _, _, _⟩) 29 w5.heap.size 29 (zeroC.cells (.slice none 0 0)) (oc1.cells v1) (.tmp 2) (.tmp 15) rfl rfl (by kernel_rfl) (by kernel_rfl) (hNw6.kept kw7) (by rw [Oc.len15]; exact szC) (by rw [Oc.len15, Oc.len15]) (Oc.one _ _ (sl_onec hSw3)) ?_
 intro w8 hCw8 hkw8 hsw8
 simp only [Act.put]
 refine l_setS (o := ⟨none, _, _, _, _, _⟩) 29 w6.heap.size 29 (zeroC.cells (.slice none 0 0)) (oc2.cells v2) (.tmp 3) (.tmp 18) rfl rfl (by kernel_rfl) (by kernel_rfl) (hNw7.keep hkw8 (by have := kw6.size; have := hNw6.lt; omega)) (by rw [Oc.len15]; exact szC) (by rw [Oc.len15, Oc.len15]) (Oc.one _ _ (sl_onec hSw5)) ?_
 intro w9 hCw9 hkw9 hsw9
 simp only [Act.put]
 refine wpList_nil ?_
 have z2 := kw2.size
 have z3 := hkw3.size
 have z4 := kw4.size
 have z5 := hkw5.size
 have z6 := kw6.size
 have z7 := kw7.size
 have l6 := hNw6.lt
 have l7 := hNw7.lt
 have z1 := k1.size
 have HF3 : Hid (∀ b, F3 b → w.heap.size ≤ b) := fun b hb => (hGw3 b hb).elim (HF1.out b) (fun h => by omega)
 have HF5 : Hid (∀ b, F5 b → w.heap.size ≤ b) := fun b hb => (hGw5 b hb).elim (HF3.out b) (fun h => by omega)
 have hF5l := hBw5.lt
 have K9 : Keep (fun b => b = w5.heap.size ∨ b = w6.heap.size) w5 w9 := ((kw6.trans kw7).mono (T := fun b => b = w5.heap.size ∨ b = w6.heap.size) (fun _ _ h => h.elim)).trans ((hkw8.mono (T := fun b => b = w5.heap.size ∨ b = w6.heap.size) (fun _ _ h => .inl h)).trans (hkw9.mono (T := fun b => b = w5.heap.size ∨ b = w6.heap.size) (fun _ _ h => .inr h)) (fun _ _ h => h)) (fun _ _ h => h)
 have kw9 : Kept w w9 := by
  refine Keep.trans (Keep.trans (Keep.trans (k1.trans kw2) hkw3 (fun b hb h => by have := HF1.out b h; omega)) (kw4.mono (T := F3) (fun _ _ h => h.elim) |>.trans hkw5 (fun _ _ h => h)) (fun b hb h => by have := HF3.out b h; omega)) K9 (fun b hb h => by omega)
 have HB9 : Hid (Bk w9 F5 p R2) := hBw5.keep K9 (fun b hb h => by have := hF5l b hb; omega)
 have HX : Hid (Blk w9 w5.heap.size 29 (oc1.cells v1)) := hCw8.keep hkw9 (by omega)
 have HY : Hid (Blk w9 w6.heap.size 29 (oc2.cells v2)) := hCw9
 have z9 := K9.size
 obtain ⟨a2, ha2⟩ : ∃ a, w5.heap.size = a := ⟨_, rfl⟩
 obtain ⟨a3, ha3⟩ : ∃ a, w6.heap.size = a := ⟨_, rfl⟩
 rw [ha2] at HX ⊢
 rw [ha3] at HY ⊢
 have q2 : w.heap.size ≤ a2 := by omega
 have q3 : a2 < a3 := by omega
 have q4 : a3 < w9.heap.size := by rw [← ha3]; exact hCw9.lt
 have HFa : Hid (∀ b, F5 b → b < a2) := fun b hb => by rw [← ha2]; exact hF5l b hb
 clear hBw3 hSw3 hOw3 hGw3 hkw3 hBw5 hSw5 hOw5 hGw5 hkw5 hNw6 hNw7 hCw8 hCw9 hkw8 hkw9 hsw8 hsw9 K9 kw2 kw4 kw6 kw7 HB1 hF5l l6 l7 z2 z3 z4 z5 z6 z7 HF1 HF3 ha2 ha3 k1
 go_upto_region 5 with fail
 refine wp_region_lit ?_
 refine l_val (o := ⟨some 19, _, _, _, _, _⟩) (.pointer (some ⟨p, 0, none⟩)) rfl (exec_move (.tmp 1) (.pointer (some ⟨p, 0, none⟩)) rfl (by kernel_rfl)) ?_
 simp only [Act.put, sA, sS, sZ]
 refine l_call (o := ⟨some 20, _, _, _, _, _⟩) 16 #[.int .i64 3, .int .i64 1, .int .i64 1, .int .i64 1, .int .i64 10, .int .i64 7] rfl (exec_call 16 _ [.const (.int .i64 3), .const (.int .i64 1), .const (.int .i64 1), .const (.int .i64 1), .const (.int .i64 10), .const (.int .i64 7)] _ _ Try.func16 (by kernel_rfl) (by kernel_rfl) rfl (by kernel_rfl) _) ?_
 refine (o_any 3 1 1 1 10 7 w9).mono ?_
 rintro r w10 ⟨_, rfl, rfl, kw10⟩
 refine ⟨_, rfl, ?_⟩
 simp only [Act.put, sA, sS, sZ]
 refine l_call (o := ⟨some 21, _, _, _, _, _⟩) 15 #[.pointer (some ⟨p, 0, none⟩), r3.v] rfl (exec_call 15 _ [.tmp 19, .tmp 20] _ _ Try.func15 (by kernel_rfl) (by kernel_rfl) rfl (by kernel_rfl) _) ?_
 refine (badd_at w10 F5 p R2 r3 _ run3 (HB9.out.kept kw10) inv2 (by decide)).mono ?_
 rintro r w11 ⟨F11, v3, rfl, hBw11, hSw11, hOw11, hGw11, hkw11⟩
 refine ⟨_, rfl, ?_⟩
 simp only [Act.put, sA, sS, sZ]
 refine l_new (o := ⟨some 4, _, _, _, _, _⟩) (.pointer (some ⟨w11.heap.size, 0, none⟩)) (w11.alloc (.cells (zeroC.cells (.slice none 0 0)).toArray 29)) rfl (exec_alc 29 (zeroC.cells (.slice none 0 0)) rfl zC) ?_
 have hNw12 := Blk.new w11 29 (zeroC.cells (.slice none 0 0))
 have kw12 : Kept w11 (w11.alloc (.cells (zeroC.cells (.slice none 0 0)).toArray 29)) := (Keep.refl _ w11).alloc _
 generalize w11.alloc (.cells (zeroC.cells (.slice none 0 0)).toArray 29) = w12 at hNw12 kw12 ⊢
 simp only [Act.put, sA, sS, sZ]
 refine l_setS (o := ⟨none, _, _, _, _, _⟩) 29 w11.heap.size 29 (zeroC.cells (.slice none 0 0)) (oc3.cells v3) (.tmp 4) (.tmp 21) rfl rfl (by kernel_rfl) (by kernel_rfl) (hNw12) (by rw [Oc.len15]; exact szC) (by rw [Oc.len15, Oc.len15]) (Oc.one _ _ (sl_onec hSw11)) ?_
 intro w13 hCw13 hkw13 hsw13
 simp only [Act.put]
 refine wpList_nil ?_
 obtain ⟨K13, hB13, hS13, hO13, hG13, hF13, z11⟩ := add_frame kw10 hBw11 hSw11 hOw11 hGw11 hkw11 kw12 hkw13
 obtain ⟨a4, ha4⟩ : ∃ a, w11.heap.size = a := ⟨_, rfl⟩
 rw [ha4] at hCw13 hO13 hF13 z11 ⊢
 have l4 := hCw13.lt
 have HF11 : Hid (∀ b, F11 b → w.heap.size ≤ b) := hG13.ge HF5.out (by omega)
 have HX13 : Hid (Blk w13 a2 29 (oc1.cells v1)) := HX.out.keep K13 (fun h => by have := HFa.out _ h; omega)
 have HY13 : Hid (Blk w13 a3 29 (oc2.cells v2)) := HY.out.keep K13 (fun h => by have := HFa.out _ h; omega)
 have HZ13 : Hid (Blk w13 a4 29 (oc3.cells v3)) := hCw13
 have HS13 := Lib.hid hS13
 have HO13 := Lib.hid hO13
 have HB13 := Lib.hid hB13
 have HF13 := Lib.hid hF13
 have kw13 : Kept w w13 := Keep.trans kw9 K13 (fun b hb h => by have := HF5.out b h; omega)
 have z13 := K13.size
 clear hBw11 hSw11 hOw11 hGw11 hkw11 hNw12 hkw13 hsw13 hB13 hS13 hO13 hG13 hF13 hCw13 kw10 kw12 K13 HB9 HX HY HF5 HFa kw9 ha4
 go_upto_region 6 with fail
 refine wp_text 24 [.eq (.pointer (some ⟨a2, 11, none⟩)), .eq (.bool true), .eq (.bool false), .eq (.bool false), .eq (.pointer (some ⟨a3, 11, none⟩)), .eq (.bool true), .eq (.bool false), .eq (.bool false), .eq (.bool false), .eq (.pointer (some ⟨a4, 14, none⟩)), .eq (.int .i64 oc3.err), .eq (.bool false), .eq (.bool false), .eq (.bool false), .eq (.pointer (some ⟨a4, 9, none⟩)), .eq (v3), .eq (.int .i64 (2 : Int)), .eq (.bool false), .eq (.bool false), .eq (.bool false), .eq (.pointer (some ⟨a4, 10, none⟩)), .eq (.int .i64 oc3.left), .eq (.bool false), .eq (.bool false)] rfl (by kernel_rfl) ?_ ?_
 ·refine sv 1 rfl rfl rfl (fun a u hE hD hk => exec_fldo 29 3 11 (.tmp 2) (a2) (0) (11) rfl (hE 2 (.pointer (some ⟨a2, 0, none⟩)) (by kernel_rfl) (by kernel_rfl)) (by kernel_rfl) rfl) ?_
  refine fsteps_cons 2 rfl (fun a u hE hD hk => f_as (show (oc1.rests : Bool) = true from rfl) (f_val (o := ⟨some 23, _, _, _, _, _⟩) (.bool oc1.rests) rfl (wanted_none rfl _) (exec_ldb 4 Try.underlying4 (.tmp 22) ⟨a2, 11, none⟩ (.bool oc1.rests) rfl (hD 0 22 (by kernel_rfl)) (by rw [(HX13.out.kept hk).cell]; rfl)) rfl)) ?_
  refine sv 3 rfl rfl rfl (fun a u hE hD hk => exec_not _ (.tmp 23) true rfl (hD 1 23 (by kernel_rfl))) ?_
  refine sv 4 rfl rfl rfl (fun a u hE hD hk => exec_move (.tmp 24) _ rfl (hD 2 24 (by kernel_rfl))) ?_
  refine fsteps_cons 5 rfl (fun a u hE hD hk => f_val (o := ⟨some 26, _, _, _, _, _⟩) (.pointer (some ⟨a3, 11, none⟩)) rfl (wanted_at (b := false) false rfl rfl (hD 3 25 (by kernel_rfl))) (exec_fldo 29 3 11 (.tmp 3) (a3) (0) (11) rfl (hE 3 (.pointer (some ⟨a3, 0, none⟩)) (by kernel_rfl) (by kernel_rfl)) (by kernel_rfl) rfl) rfl) ?_
  refine fsteps_cons 6 rfl (fun a u hE hD hk => f_as (show (oc2.rests : Bool) = true from rfl) (f_val (o := ⟨some 27, _, _, _, _, _⟩) (.bool oc2.rests) rfl (wanted_at (b := false) false rfl rfl (hD 3 25 (by kernel_rfl))) (exec_ldb 4 Try.underlying4 (.tmp 26) ⟨a3, 11, none⟩ (.bool oc2.rests) rfl (hD 4 26 (by kernel_rfl)) (by rw [(HY13.out.kept hk).cell]; rfl)) rfl)) ?_
  refine fsteps_cons 7 rfl (fun a u hE hD hk => f_val (o := ⟨some 28, _, _, _, _, _⟩) (.bool false) rfl (wanted_at (b := false) false rfl rfl (hD 3 25 (by kernel_rfl))) (exec_not _ (.tmp 27) true rfl (hD 5 27 (by kernel_rfl))) rfl) ?_
  refine sv 8 rfl rfl rfl (fun a u hE hD hk => exec_pickF (.tmp 25) (.const (.bool true)) (.tmp 28) (.bool false) rfl (hD 3 25 (by kernel_rfl)) (hD 6 28 (by kernel_rfl))) ?_
  refine sv 9 rfl rfl rfl (fun a u hE hD hk => exec_move (.tmp 29) _ rfl (hD 7 29 (by kernel_rfl))) ?_
  refine fsteps_cons 10 rfl (fun a u hE hD hk => f_val (o := ⟨some 31, _, _, _, _, _⟩) (.pointer (some ⟨a4, 14, none⟩)) rfl (wanted_at (b := false) false rfl rfl (hD 8 30 (by kernel_rfl))) (exec_fldo 29 6 14 (.tmp 4) (a4) (0) (14) rfl (hE 4 (.pointer (some ⟨a4, 0, none⟩)) (by kernel_rfl) (by kernel_rfl)) (by kernel_rfl) rfl) rfl) ?_
  refine fsteps_cons 11 rfl (fun a u hE hD hk => f_val (o := ⟨some 32, _, _, _, _, _⟩) (.int .i64 oc3.err) rfl (wanted_at (b := false) false rfl rfl (hD 8 30 (by kernel_rfl))) (exec_loadi 27 Try.underlying27 (.tmp 31) ⟨a4, 14, none⟩ (.int .i64 oc3.err) rfl (hD 9 31 (by kernel_rfl)) (by rw [(HZ13.out.kept hk).cell]; rfl)) rfl) ?_
  refine fsteps_cons 12 rfl (fun a u hE hD hk => f_as (show ((decide ((oc3.err : Int) ≠ (0 : Int))) : Bool) = false from rfl) (f_val (o := ⟨some 33, _, _, _, _, _⟩) (.bool (decide ((oc3.err : Int) ≠ (0 : Int)))) rfl (wanted_at (b := false) false rfl rfl (hD 8 30 (by kernel_rfl))) (exec_nen (p := oc3.err) (q := 0) rfl (hD 10 32 (by kernel_rfl)) rfl) rfl)) ?_
  refine sv 13 rfl rfl rfl (fun a u hE hD hk => exec_pickF (.tmp 30) (.const (.bool true)) (.tmp 33) (.bool false) rfl (hD 8 30 (by kernel_rfl)) (hD 11 33 (by kernel_rfl))) ?_
  refine sv 14 rfl rfl rfl (fun a u hE hD hk => exec_move (.tmp 34) _ rfl (hD 12 34 (by kernel_rfl))) ?_
  refine fsteps_cons 15 rfl (fun a u hE hD hk => f_val (o := ⟨some 36, _, _, _, _, _⟩) (.pointer (some ⟨a4, 9, none⟩)) rfl (wanted_at (b := false) false rfl rfl (hD 13 35 (by kernel_rfl))) (exec_fldo 29 1 9 (.tmp 4) (a4) (0) (9) rfl (hE 4 (.pointer (some ⟨a4, 0, none⟩)) (by kernel_rfl) (by kernel_rfl)) (by kernel_rfl) rfl) rfl) ?_
  refine fsteps_cons 16 rfl (fun a u hE hD hk => f_val (o := ⟨some 37, _, _, _, _, _⟩) (v3) rfl (wanted_at (b := false) false rfl rfl (hD 13 35 (by kernel_rfl))) (exec_ldv 26 _ Try.underlying26 (.tmp 36) ⟨a4, 9, none⟩ (v3) rfl (hD 14 36 (by kernel_rfl)) (by rw [(HZ13.out.kept hk).cell]; rfl)) rfl) ?_
  refine fsteps_cons 17 rfl (fun a u hE hD hk => f_val (o := ⟨some 38, _, _, _, _, _⟩) (.int .i64 (2 : Int)) rfl (wanted_at (b := false) false rfl rfl (hD 13 35 (by kernel_rfl))) (exec_lenS (.tmp 37) slF (v3) (2) _ _ rfl (hD 15 37 (by kernel_rfl)) HS13.out) rfl) ?_
  refine fsteps_cons 18 rfl (fun a u hE hD hk => f_as (show ((decide (((2 : Int) : Int) ≠ (2 : Int))) : Bool) = false from rfl) (f_val (o := ⟨some 39, _, _, _, _, _⟩) (.bool (decide (((2 : Int) : Int) ≠ (2 : Int)))) rfl (wanted_at (b := false) false rfl rfl (hD 13 35 (by kernel_rfl))) (exec_nen (p := (2 : Int)) (q := 2) rfl (hD 16 38 (by kernel_rfl)) rfl) rfl)) ?_
  refine sv 19 rfl rfl rfl (fun a u hE hD hk => exec_pickF (.tmp 35) (.const (.bool true)) (.tmp 39) (.bool false) rfl (hD 13 35 (by kernel_rfl)) (hD 17 39 (by kernel_rfl))) ?_
  refine sv 20 rfl rfl rfl (fun a u hE hD hk => exec_move (.tmp 40) _ rfl (hD 18 40 (by kernel_rfl))) ?_
  refine fsteps_cons 21 rfl (fun a u hE hD hk => f_val (o := ⟨some 42, _, _, _, _, _⟩) (.pointer (some ⟨a4, 10, none⟩)) rfl (wanted_at (b := false) false rfl rfl (hD 19 41 (by kernel_rfl))) (exec_fldo 29 2 10 (.tmp 4) (a4) (0) (10) rfl (hE 4 (.pointer (some ⟨a4, 0, none⟩)) (by kernel_rfl) (by kernel_rfl)) (by kernel_rfl) rfl) rfl) ?_
  refine fsteps_cons 22 rfl (fun a u hE hD hk => f_val (o := ⟨some 43, _, _, _, _, _⟩) (.int .i64 oc3.left) rfl (wanted_at (b := false) false rfl rfl (hD 19 41 (by kernel_rfl))) (exec_loadi 3 Try.underlying3 (.tmp 42) ⟨a4, 10, none⟩ (.int .i64 oc3.left) rfl (hD 20 42 (by kernel_rfl)) (by rw [(HZ13.out.kept hk).cell]; rfl)) rfl) ?_
  refine fsteps_cons 23 rfl (fun a u hE hD hk => f_as (show ((decide ((oc3.left : Int) ≠ (0 : Int))) : Bool) = false from rfl) (f_val (o := ⟨some 44, _, _, _, _, _⟩) (.bool (decide ((oc3.left : Int) ≠ (0 : Int)))) rfl (wanted_at (b := false) false rfl rfl (hD 19 41 (by kernel_rfl))) (exec_nen (p := oc3.left) (q := 0) rfl (hD 21 43 (by kernel_rfl)) rfl) rfl)) ?_
  refine sv 24 rfl rfl rfl (fun a u hE hD hk => exec_pickF (.tmp 41) (.const (.bool true)) (.tmp 44) (.bool false) rfl (hD 19 41 (by kernel_rfl)) (hD 22 44 (by kernel_rfl))) ?_
  exact fsteps_nil
 intro gv w14 hV k14
 rw [show dstsOf _ 24 = [22, 23, 24, 25, 26, 27, 28, 29, 30, 31, 32, 33, 34, 35, 36, 37, 38, 39, 40, 41, 42, 43, 44, 45] by kernel_rfl]
 simp only [fC, fN, sA, sS, sZ, dS, dZ]
 rw [show gv 45 = .bool false from hV 23 45 (by kernel_rfl)]
 clear hV
 refine wpList_nil ?_
 have HZ14 := Lib.hid (HZ13.out.kept k14)
 have HS14 := Lib.hid (HS13.out.kept k14)
 have HB14 := Lib.hid (HB13.out.kept k14)
 have kw14 := kw13.trans k14
 have z14 := k14.size
 clear HX13 HY13 HZ13 HS13 HB13 kw13 k14
 go_upto_region 8 with fail
 refine wp_text 6 [.eq (.pointer (some ⟨p, 0, none⟩)), .sl w14.heap.size 39 10 1 (ents [⟨⟨0, 0, 0, 2, 0, 10, 0, 0, 0⟩, 3⟩]), .eq (.pointer (some ⟨p, 0, none⟩)), .eq (.int .i64 10), .eq (.pointer (some ⟨p, 0, none⟩)), .eq (.int .i64 2)] rfl (by kernel_rfl) ?_ ?_
 ·refine sv 1 rfl rfl rfl (fun a u hE hD hk => exec_move (.tmp 1) _ rfl (hE 1 (.pointer (some ⟨p, 0, none⟩)) (by kernel_rfl) (by kernel_rfl))) ?_
  refine fsteps_cons 2 rfl (fun a u hE hD hk => f_call (o := ⟨some 47, _, _, _, _, _⟩) 17 #[.pointer (some ⟨p, 0, none⟩), .int .i64 2] rfl (wanted_none rfl _) (exec_call 17 _ [.tmp 46, .const (.int .i64 2)] _ [.pointer (some ⟨p, 0, none⟩), .int .i64 2] Try.func17 (by kernel_rfl) (by kernel_rfl) rfl (show [a.eval (.tmp 46), a.eval (.const (.int .i64 2))] = [.pointer (some ⟨p, 0, none⟩), .int .i64 2] from (by rw [show a.eval (.tmp 46) = .pointer (some ⟨p, 0, none⟩) from (hD 0 46 (by kernel_rfl))] <;> rfl)) u) ((bdepth_any u F11 p R3 2 (HB14.out.kept hk) inv3).base hk.size)) ?_
  refine sv 3 rfl rfl rfl (fun a u hE hD hk => exec_move (.tmp 1) _ rfl (hE 1 (.pointer (some ⟨p, 0, none⟩)) (by kernel_rfl) (by kernel_rfl))) ?_
  refine fsteps_cons 4 rfl (fun a u hE hD hk => f_call (o := ⟨some 49, _, _, _, _, _⟩) 18 #[.pointer (some ⟨p, 0, none⟩)] rfl (wanted_none rfl _) (exec_call 18 _ [.tmp 48] _ [.pointer (some ⟨p, 0, none⟩)] Try.func18 (by kernel_rfl) (by kernel_rfl) rfl (show [a.eval (.tmp 48)] = [.pointer (some ⟨p, 0, none⟩)] from (by rw [show a.eval (.tmp 48) = .pointer (some ⟨p, 0, none⟩) from (hD 2 48 (by kernel_rfl))] <;> rfl)) u) (blast_any u F11 p R3 (HB14.out.kept hk))) ?_
  refine sv 5 rfl rfl rfl (fun a u hE hD hk => exec_move (.tmp 1) _ rfl (hE 1 (.pointer (some ⟨p, 0, none⟩)) (by kernel_rfl) (by kernel_rfl))) ?_
  refine fsteps_cons 6 rfl (fun a u hE hD hk => f_call (o := ⟨some 51, _, _, _, _, _⟩) 19 #[.pointer (some ⟨p, 0, none⟩)] rfl (wanted_none rfl _) (exec_call 19 _ [.tmp 50] _ [.pointer (some ⟨p, 0, none⟩)] Try.func19 (by kernel_rfl) (by kernel_rfl) rfl (show [a.eval (.tmp 50)] = [.pointer (some ⟨p, 0, none⟩)] from (by rw [show a.eval (.tmp 50) = .pointer (some ⟨p, 0, none⟩) from (hD 4 50 (by kernel_rfl))] <;> rfl)) u) (bno_any u F11 p R3 (HB14.out.kept hk))) ?_
  exact fsteps_nil
 intro gv w15 hV k15
 rw [show dstsOf _ 6 = [46, 47, 48, 49, 50, 51] by kernel_rfl]
 simp only [fC, fN, sA, sS, sZ, dS, dZ]
 have hv47 : (.sl w14.heap.size 39 10 1 (ents [⟨⟨0, 0, 0, 2, 0, 10, 0, 0, 0⟩, 3⟩]) : Kn).p (gv 47) w15 := hV 1 47 (by kernel_rfl)
 generalize gv 47 = v47 at hv47 ⊢
 rw [show gv 49 = .int .i64 10 from hV 3 49 (by kernel_rfl)]
 rw [show gv 51 = .int .i64 2 from hV 5 51 (by kernel_rfl)]
 clear hV
 refine l_val (o := ⟨some 5, _, _, _, _, _⟩) (v47) rfl (exec_assign (.tmp 47) (v47) rfl (by kernel_rfl)) ?_
 simp only [Act.put, sA, sS, sZ]
 refine l_val (o := ⟨some 6, _, _, _, _, _⟩) (.int .i64 10) rfl (exec_assign (.tmp 49) (.int .i64 10) rfl (by kernel_rfl)) ?_
 simp only [Act.put, sA, sS, sZ]
 refine l_val (o := ⟨some 7, _, _, _, _, _⟩) (.int .i64 2) rfl (exec_assign (.tmp 51) (.int .i64 2) rfl (by kernel_rfl)) ?_
 simp only [Act.put, sA, sS, sZ]
 refine wpList_nil ?_
 have HZ15 := Lib.hid (HZ14.out.kept k15)
 have HS15 := Lib.hid (HS14.out.kept k15)
 have HB15 := Lib.hid (HB14.out.kept k15)
 have kw15 := kw14.trans k15
 have z15 := k15.size
 have HD := Lib.hid hv47.1
 have HDo := Lib.hid hv47.2
 clear HZ14 HS14 HB14 kw14 k15 hv47
 go_upto_region 9 with fail
 refine wp_region_lit ?_
 refine l_val (o := ⟨some 52, _, _, _, _, _⟩) (.pointer (some ⟨p, 0, none⟩)) rfl (exec_move (.tmp 1) (.pointer (some ⟨p, 0, none⟩)) rfl (by kernel_rfl)) ?_
 simp only [Act.put, sA, sS, sZ]
 refine l_call (o := ⟨some 53, _, _, _, _, _⟩) 16 #[.int .i64 3, .int .i64 2, .int .i64 1, .int .i64 4, .int .i64 10, .int .i64 9] rfl (exec_call 16 _ [.const (.int .i64 3), .const (.int .i64 2), .const (.int .i64 1), .const (.int .i64 4), .const (.int .i64 10), .const (.int .i64 9)] _ _ Try.func16 (by kernel_rfl) (by kernel_rfl) rfl (by kernel_rfl) _) ?_
 refine (o_any 3 2 1 4 10 9 w15).mono ?_
 rintro r w16 ⟨_, rfl, rfl, kw16⟩
 refine ⟨_, rfl, ?_⟩
 simp only [Act.put, sA, sS, sZ]
 refine l_call (o := ⟨some 54, _, _, _, _, _⟩) 15 #[.pointer (some ⟨p, 0, none⟩), r4.v] rfl (exec_call 15 _ [.tmp 52, .tmp 53] _ _ Try.func15 (by kernel_rfl) (by kernel_rfl) rfl (by kernel_rfl) _) ?_
 refine (badd_at w16 F11 p R3 r4 _ run4 (HB15.out.kept kw16) inv3 (by decide)).mono ?_
 rintro r w17 ⟨F17, v4, rfl, hBw17, hSw17, hOw17, hGw17, hkw17⟩
 refine ⟨_, rfl, ?_⟩
 simp only [Act.put, sA, sS, sZ]
 refine l_val (o := ⟨some 55, _, _, _, _, _⟩) (.pointer (some ⟨p, 0, none⟩)) rfl (exec_move (.tmp 1) (.pointer (some ⟨p, 0, none⟩)) rfl (by kernel_rfl)) ?_
 simp only [Act.put, sA, sS, sZ]
 refine l_call (o := ⟨some 56, _, _, _, _, _⟩) 16 #[.int .i64 1, .int .i64 2, .int .i64 1, .int .i64 1, .int .i64 10, .int .i64 1] rfl (exec_call 16 _ [.const (.int .i64 1), .const (.int .i64 2), .const (.int .i64 1), .const (.int .i64 1), .const (.int .i64 10), .const (.int .i64 1)] _ _ Try.func16 (by kernel_rfl) (by kernel_rfl) rfl (by kernel_rfl) _) ?_
 refine (o_any 1 2 1 1 10 1 w17).mono ?_
 rintro r w18 ⟨_, rfl, rfl, kw18⟩
 refine ⟨_, rfl, ?_⟩
 simp only [Act.put, sA, sS, sZ]
 refine l_call (o := ⟨some 57, _, _, _, _, _⟩) 15 #[.pointer (some ⟨p, 0, none⟩), r5.v] rfl (exec_call 15 _ [.tmp 55, .tmp 56] _ _ Try.func15 (by kernel_rfl) (by kernel_rfl) rfl (by kernel_rfl) _) ?_
 refine (badd_at w18 F17 p R3 r5 _ run5 (hBw17.kept kw18) inv3 (by decide)).mono ?_
 rintro r w19 ⟨F19, v5, rfl, hBw19, hSw19, hOw19, hGw19, hkw19⟩
 refine ⟨_, rfl, ?_⟩
 simp only [Act.put, sA, sS, sZ]
 refine l_new (o := ⟨some 8, _, _, _, _, _⟩) (.pointer (some ⟨w19.heap.size, 0, none⟩)) (w19.alloc (.cells (zeroC.cells (.slice none 0 0)).toArray 29)) rfl (exec_alc 29 (zeroC.cells (.slice none 0 0)) rfl zC) ?_
 have hNw20 := Blk.new w19 29 (zeroC.cells (.slice none 0 0))
 have kw20 : Kept w19 (w19.alloc (.cells (zeroC.cells (.slice none 0 0)).toArray 29)) := (Keep.refl _ w19).alloc _
 generalize w19.alloc (.cells (zeroC.cells (.slice none 0 0)).toArray 29) = w20 at hNw20 kw20 ⊢
 simp only [Act.put, sA, sS, sZ]
 refine l_new (o := ⟨some 9, _, _, _, _, _⟩) (.pointer (some ⟨w20.heap.size, 0, none⟩)) (w20.alloc (.cells (zeroC.cells (.slice none 0 0)).toArray 29)) rfl (exec_alc 29 (zeroC.cells (.slice none 0 0)) rfl zC) ?_
 have hNw21 := Blk.new w20 29 (zeroC.cells (.slice none 0 0))
 have kw21 : Kept w20 (w20.alloc (.cells (zeroC.cells (.slice none 0 0)).toArray 29)) := (Keep.refl _ w20).alloc _
 generalize w20.alloc (.cells (zeroC.cells (.slice none 0 0)).toArray 29) = w21 at hNw21 kw21 ⊢
 simp only [Act.put, sA, sS, sZ]
 refine l_setS (o := ⟨none, _, _, _, _, _⟩) 29 w19.heap.size 29 (zeroC.cells (.slice none 0 0)) (oc4.cells v4) (.tmp 8) (.tmp 54) rfl rfl (by kernel_rfl) (by kernel_rfl) (hNw20.kept kw21) (by rw [Oc.len15]; exact szC) (by rw [Oc.len15, Oc.len15]) (Oc.one _ _ (sl_onec hSw17)) ?_
 intro w22 hCw22 hkw22 hsw22
 simp only [Act.put]
 refine l_setS (o := ⟨none, _, _, _, _, _⟩) 29 w20.heap.size 29 (zeroC.cells (.slice none 0 0)) (oc5.cells v5) (.tmp 9) (.tmp 57) rfl rfl (by kernel_rfl) (by kernel_rfl) (hNw21.keep hkw22 (by have := kw20.size; have := hNw20.lt; omega)) (by rw [Oc.len15]; exact szC) (by rw [Oc.len15, Oc.len15]) (Oc.one _ _ (sl_onec hSw19)) ?_
 intro w23 hCw23 hkw23 hsw23
 simp only [Act.put]
 refine wpList_nil ?_
 have z16 := kw16.size
 have z17 := hkw17.size
 have z18 := kw18.size
 have z19 := hkw19.size
 have z20 := kw20.size
 have z21 := kw21.size
 have l20 := hNw20.lt
 have l21 := hNw21.lt
 have G17 : Grow w15 F11 F17 := hGw17.wide (by omega)
 have K19 : Keep F11 w15 w19 := G17.keep (Keep.any kw16 hkw17) (Keep.any kw18 hkw19)
 have K23 : Keep F11 w15 w23 := (K19.trans (kw20.trans kw21) (fun _ _ h => h.elim)).new hkw22 (by omega) |>.new hkw23 (by omega)
 have HF11l := HB15.out.lt
 have HZ23 : Hid (Blk w23 a4 29 (oc3.cells v3)) := HZ15.out.keep K23 (fun h => by have := HF13.out _ h; omega)
 have HS23 : Hid (Sl w23 36 21 v3 2 (fls [f1, f2])) := HS15.out.keep K23 (fun b hb h => (HO13.out b hb).2.1 h)
 have HD23 : Hid (Sl w23 39 10 v47 1 (ents [⟨⟨0, 0, 0, 2, 0, 10, 0, 0, 0⟩, 3⟩])) := HD.out.keep K23 (fun b hb h => by have := HF13.out _ h; have := HDo.out b hb; omega)
 have HP23 : Hid (Blk w23 w19.heap.size 29 (oc4.cells v4)) := hCw22.keep hkw23 (by omega)
 have HQ23 : Hid (Blk w23 w20.heap.size 29 (oc5.cells v5)) := hCw23
 have kw23 : Kept w w23 := Keep.trans kw15 K23 (fun b hb h => by have := HF11.out b h; omega)
 obtain ⟨a8, ha8⟩ : ∃ a, w19.heap.size = a := ⟨_, rfl⟩
 obtain ⟨a9, ha9⟩ : ∃ a, w20.heap.size = a := ⟨_, rfl⟩
 rw [ha8] at HP23 ⊢
 rw [ha9] at HQ23 ⊢
 clear hBw17 hSw17 hOw17 hGw17 hkw17 hBw19 hSw19 hOw19 hGw19 hkw19 hNw20 hNw21 hCw22 hCw23 hkw22 hkw23 hsw22 hsw23 kw16 kw18 kw20 kw21 K19 K23 G17 HZ15 HS15 HB15 HD HDo HF11l kw15 ha8 ha9
 obtain ⟨g, off, c3, hv3⟩ := HS23.out.some_ (by omega)
 subst hv3
 have HE0 : Hid (w23.rangeAt g (off + 0 * 21) f1.cells) := HS23.out.rngF 0 f1 rfl
 have HE1 : Hid (w23.rangeAt g (off + 1 * 21) f2.cells) := HS23.out.rngF 1 f2 rfl
 have HE0' : Hid (w23.rangeAt g off f1.cells) := by have := HE0.out; rwa [Nat.zero_mul, Nat.add_zero] at this
 clear HE0
 go_upto_region 10 with fail
 refine wp_text 64 [.eq (.pointer (some ⟨a4, 9, none⟩)), .eq (.slice (some ⟨g, off, none⟩) 2 c3), .eq (.pointer (some ⟨g, off, none⟩)), .eq (.pointer (some ⟨g, off + 19, none⟩)), .eq (.int .i64 f1.qty), .eq (.bool true), .eq (.bool true), .eq (.pointer (some ⟨a4, 9, none⟩)), .eq (.slice (some ⟨g, off, none⟩) 2 c3), .eq (.pointer (some ⟨g, off, none⟩)), .eq (.pointer (some ⟨g, off + 18, none⟩)), .eq (.int .i64 f1.price), .eq (.bool true), .eq (.bool true), .eq (.bool true), .eq (.pointer (some ⟨a4, 9, none⟩)), .eq (.slice (some ⟨g, off, none⟩) 2 c3), .eq (.pointer (some ⟨g, off + 1 * 21, none⟩)), .eq (.pointer (some ⟨g, off + 1 * 21 + 19, none⟩)), .eq (.int .i64 f2.qty), .eq (.bool true), .eq (.bool true), .eq (.bool true), .eq (.pointer (some ⟨a4, 9, none⟩)), .eq (.slice (some ⟨g, off, none⟩) 2 c3), .eq (.pointer (some ⟨g, off + 1 * 21, none⟩)), .eq (.pointer (some ⟨g, off + 1 * 21 + 18, none⟩)), .eq (.int .i64 f2.price), .eq (.bool true), .eq (.bool true), .eq (.bool true), .eq (v47), .eq ((Ord.mk 0 0 0 2 0 10 0 0 0).v), .eq ((Ent.mk (Ord.mk 0 0 0 2 0 10 0 0 0) (3)).v), .sl w23.heap.size 39 10 1 (Ent.mk (Ord.mk 0 0 0 2 0 10 0 0 0) (3)).cells, .eq (.bool true), .eq (.bool true), .eq (.bool true), .eq (.int .i64 10), .eq (.bool true), .eq (.bool true), .eq (.bool true), .eq (.int .i64 2), .eq (.bool true), .eq (.bool true), .eq (.bool true), .eq (.pointer (some ⟨a8, 14, none⟩)), .eq (.int .i64 oc4.err), .eq (.bool true), .eq (.bool true), .eq (.bool true), .eq (.pointer (some ⟨a9, 13, none⟩)), .eq (.bool true), .eq (.bool true), .eq (.bool true), .eq (.pointer (some ⟨a9, 10, none⟩)), .eq (.int .i64 oc5.left), .eq (.bool true), .eq (.bool true), .eq (.bool true), .eq (.pointer (some ⟨a9, 14, none⟩)), .eq (.int .i64 oc5.err), .eq (.bool true), .eq (.bool true)] rfl (by kernel_rfl) ?_ ?_
 ·refine sv 1 rfl rfl rfl (fun a u hE hD hk => exec_fldo 29 1 9 (.tmp 4) (a4) (0) (9) rfl (hE 4 (.pointer (some ⟨a4, 0, none⟩)) (by kernel_rfl) (by kernel_rfl)) (by kernel_rfl) rfl) ?_
  refine sv 2 rfl rfl rfl (fun a u hE hD hk => exec_ldv 26 _ Try.underlying26 (.tmp 58) ⟨a4, 9, none⟩ (.slice (some ⟨g, off, none⟩) 2 c3) rfl (hD 0 58 (by kernel_rfl)) (by rw [(HZ23.out.kept hk).cell]; rfl)) ?_
  refine sv 3 rfl rfl rfl (fun a u hE hD hk => exec_ixo slF (.tmp 59) (.const (.int .i64 0)) (g) (off) 2 c3 0 (off) (0) rfl (hD 1 59 (by kernel_rfl)) rfl (by first | rfl | omega) ((by omega)) (by first | rfl | omega)) ?_
  refine sv 4 rfl rfl rfl (fun a u hE hD hk => exec_fldo 36 3 19 (.tmp 60) (g) (off) (off + 19) rfl (hD 2 60 (by kernel_rfl)) (by kernel_rfl) rfl) ?_
  refine sv 5 rfl rfl rfl (fun a u hE hD hk => exec_loadi 3 Try.underlying3 (.tmp 61) ⟨g, off + 19, none⟩ (.int .i64 f1.qty) rfl (hD 3 61 (by kernel_rfl)) (range_int (range_kept HE0'.out hk) 19 _ rfl)) ?_
  refine fsteps_cons 6 rfl (fun a u hE hD hk => f_as (show ((decide ((f1.qty : Int) = (5 : Int))) : Bool) = true from rfl) (f_val (o := ⟨some 63, _, _, _, _, _⟩) (.bool (decide ((f1.qty : Int) = (5 : Int)))) rfl (wanted_none rfl _) (exec_eqn (p := f1.qty) (q := 5) rfl (hD 4 62 (by kernel_rfl)) rfl) rfl)) ?_
  refine sv 7 rfl rfl rfl (fun a u hE hD hk => exec_move (.tmp 63) _ rfl (hD 5 63 (by kernel_rfl))) ?_
  refine fsteps_cons 8 rfl (fun a u hE hD hk => f_val (o := ⟨some 65, _, _, _, _, _⟩) (.pointer (some ⟨a4, 9, none⟩)) rfl (wanted_at (b := true) true rfl rfl (hD 6 64 (by kernel_rfl))) (exec_fldo 29 1 9 (.tmp 4) (a4) (0) (9) rfl (hE 4 (.pointer (some ⟨a4, 0, none⟩)) (by kernel_rfl) (by kernel_rfl)) (by kernel_rfl) rfl) rfl) ?_
  refine fsteps_cons 9 rfl (fun a u hE hD hk => f_val (o := ⟨some 66, _, _, _, _, _⟩) (.slice (some ⟨g, off, none⟩) 2 c3) rfl (wanted_at (b := true) true rfl rfl (hD 6 64 (by kernel_rfl))) (exec_ldv 26 _ Try.underlying26 (.tmp 65) ⟨a4, 9, none⟩ (.slice (some ⟨g, off, none⟩) 2 c3) rfl (hD 7 65 (by kernel_rfl)) (by rw [(HZ23.out.kept hk).cell]; rfl)) rfl) ?_
  refine fsteps_cons 10 rfl (fun a u hE hD hk => f_val (o := ⟨some 67, _, _, _, _, _⟩) (.pointer (some ⟨g, off, none⟩)) rfl (wanted_at (b := true) true rfl rfl (hD 6 64 (by kernel_rfl))) (exec_ixo slF (.tmp 66) (.const (.int .i64 0)) (g) (off) 2 c3 0 (off) (0) rfl (hD 8 66 (by kernel_rfl)) rfl (by first | rfl | omega) ((by omega)) (by first | rfl | omega)) rfl) ?_
  refine fsteps_cons 11 rfl (fun a u hE hD hk => f_val (o := ⟨some 68, _, _, _, _, _⟩) (.pointer (some ⟨g, off + 18, none⟩)) rfl (wanted_at (b := true) true rfl rfl (hD 6 64 (by kernel_rfl))) (exec_fldo 36 2 18 (.tmp 67) (g) (off) (off + 18) rfl (hD 9 67 (by kernel_rfl)) (by kernel_rfl) rfl) rfl) ?_
  refine fsteps_cons 12 rfl (fun a u hE hD hk => f_val (o := ⟨some 69, _, _, _, _, _⟩) (.int .i64 f1.price) rfl (wanted_at (b := true) true rfl rfl (hD 6 64 (by kernel_rfl))) (exec_loadi 3 Try.underlying3 (.tmp 68) ⟨g, off + 18, none⟩ (.int .i64 f1.price) rfl (hD 10 68 (by kernel_rfl)) (range_int (range_kept HE0'.out hk) 18 _ rfl)) rfl) ?_
  refine fsteps_cons 13 rfl (fun a u hE hD hk => f_as (show ((decide ((f1.price : Int) = (9 : Int))) : Bool) = true from rfl) (f_val (o := ⟨some 70, _, _, _, _, _⟩) (.bool (decide ((f1.price : Int) = (9 : Int)))) rfl (wanted_at (b := true) true rfl rfl (hD 6 64 (by kernel_rfl))) (exec_eqn (p := f1.price) (q := 9) rfl (hD 11 69 (by kernel_rfl)) rfl) rfl)) ?_
  refine sv 14 rfl rfl rfl (fun a u hE hD hk => exec_pick (.tmp 64) (.tmp 70) (.const (.bool false)) (.bool true) rfl (hD 6 64 (by kernel_rfl)) (hD 12 70 (by kernel_rfl))) ?_
  refine sv 15 rfl rfl rfl (fun a u hE hD hk => exec_move (.tmp 71) _ rfl (hD 13 71 (by kernel_rfl))) ?_
  refine fsteps_cons 16 rfl (fun a u hE hD hk => f_val (o := ⟨some 73, _, _, _, _, _⟩) (.pointer (some ⟨a4, 9, none⟩)) rfl (wanted_at (b := true) true rfl rfl (hD 14 72 (by kernel_rfl))) (exec_fldo 29 1 9 (.tmp 4) (a4) (0) (9) rfl (hE 4 (.pointer (some ⟨a4, 0, none⟩)) (by kernel_rfl) (by kernel_rfl)) (by kernel_rfl) rfl) rfl) ?_
  refine fsteps_cons 17 rfl (fun a u hE hD hk => f_val (o := ⟨some 74, _, _, _, _, _⟩) (.slice (some ⟨g, off, none⟩) 2 c3) rfl (wanted_at (b := true) true rfl rfl (hD 14 72 (by kernel_rfl))) (exec_ldv 26 _ Try.underlying26 (.tmp 73) ⟨a4, 9, none⟩ (.slice (some ⟨g, off, none⟩) 2 c3) rfl (hD 15 73 (by kernel_rfl)) (by rw [(HZ23.out.kept hk).cell]; rfl)) rfl) ?_
  refine fsteps_cons 18 rfl (fun a u hE hD hk => f_val (o := ⟨some 75, _, _, _, _, _⟩) (.pointer (some ⟨g, off + 1 * 21, none⟩)) rfl (wanted_at (b := true) true rfl rfl (hD 14 72 (by kernel_rfl))) (exec_ixo slF (.tmp 74) (.const (.int .i64 1)) (g) (off) 2 c3 1 (off + 1 * 21) (1) rfl (hD 16 74 (by kernel_rfl)) rfl (by first | rfl | omega) ((by omega)) (by first | rfl | omega)) rfl) ?_
  refine fsteps_cons 19 rfl (fun a u hE hD hk => f_val (o := ⟨some 76, _, _, _, _, _⟩) (.pointer (some ⟨g, off + 1 * 21 + 19, none⟩)) rfl (wanted_at (b := true) true rfl rfl (hD 14 72 (by kernel_rfl))) (exec_fldo 36 3 19 (.tmp 75) (g) (off + 1 * 21) (off + 1 * 21 + 19) rfl (hD 17 75 (by kernel_rfl)) (by kernel_rfl) rfl) rfl) ?_
  refine fsteps_cons 20 rfl (fun a u hE hD hk => f_val (o := ⟨some 77, _, _, _, _, _⟩) (.int .i64 f2.qty) rfl (wanted_at (b := true) true rfl rfl (hD 14 72 (by kernel_rfl))) (exec_loadi 3 Try.underlying3 (.tmp 76) ⟨g, off + 1 * 21 + 19, none⟩ (.int .i64 f2.qty) rfl (hD 18 76 (by kernel_rfl)) (range_int (range_kept HE1.out hk) 19 _ rfl)) rfl) ?_
  refine fsteps_cons 21 rfl (fun a u hE hD hk => f_as (show ((decide ((f2.qty : Int) = (2 : Int))) : Bool) = true from rfl) (f_val (o := ⟨some 78, _, _, _, _, _⟩) (.bool (decide ((f2.qty : Int) = (2 : Int)))) rfl (wanted_at (b := true) true rfl rfl (hD 14 72 (by kernel_rfl))) (exec_eqn (p := f2.qty) (q := 2) rfl (hD 19 77 (by kernel_rfl)) rfl) rfl)) ?_
  refine sv 22 rfl rfl rfl (fun a u hE hD hk => exec_pick (.tmp 72) (.tmp 78) (.const (.bool false)) (.bool true) rfl (hD 14 72 (by kernel_rfl)) (hD 20 78 (by kernel_rfl))) ?_
  refine sv 23 rfl rfl rfl (fun a u hE hD hk => exec_move (.tmp 79) _ rfl (hD 21 79 (by kernel_rfl))) ?_
  refine fsteps_cons 24 rfl (fun a u hE hD hk => f_val (o := ⟨some 81, _, _, _, _, _⟩) (.pointer (some ⟨a4, 9, none⟩)) rfl (wanted_at (b := true) true rfl rfl (hD 22 80 (by kernel_rfl))) (exec_fldo 29 1 9 (.tmp 4) (a4) (0) (9) rfl (hE 4 (.pointer (some ⟨a4, 0, none⟩)) (by kernel_rfl) (by kernel_rfl)) (by kernel_rfl) rfl) rfl) ?_
  refine fsteps_cons 25 rfl (fun a u hE hD hk => f_val (o := ⟨some 82, _, _, _, _, _⟩) (.slice (some ⟨g, off, none⟩) 2 c3) rfl (wanted_at (b := true) true rfl rfl (hD 22 80 (by kernel_rfl))) (exec_ldv 26 _ Try.underlying26 (.tmp 81) ⟨a4, 9, none⟩ (.slice (some ⟨g, off, none⟩) 2 c3) rfl (hD 23 81 (by kernel_rfl)) (by rw [(HZ23.out.kept hk).cell]; rfl)) rfl) ?_
  refine fsteps_cons 26 rfl (fun a u hE hD hk => f_val (o := ⟨some 83, _, _, _, _, _⟩) (.pointer (some ⟨g, off + 1 * 21, none⟩)) rfl (wanted_at (b := true) true rfl rfl (hD 22 80 (by kernel_rfl))) (exec_ixo slF (.tmp 82) (.const (.int .i64 1)) (g) (off) 2 c3 1 (off + 1 * 21) (1) rfl (hD 24 82 (by kernel_rfl)) rfl (by first | rfl | omega) ((by omega)) (by first | rfl | omega)) rfl) ?_
  refine fsteps_cons 27 rfl (fun a u hE hD hk => f_val (o := ⟨some 84, _, _, _, _, _⟩) (.pointer (some ⟨g, off + 1 * 21 + 18, none⟩)) rfl (wanted_at (b := true) true rfl rfl (hD 22 80 (by kernel_rfl))) (exec_fldo 36 2 18 (.tmp 83) (g) (off + 1 * 21) (off + 1 * 21 + 18) rfl (hD 25 83 (by kernel_rfl)) (by kernel_rfl) rfl) rfl) ?_
  refine fsteps_cons 28 rfl (fun a u hE hD hk => f_val (o := ⟨some 85, _, _, _, _, _⟩) (.int .i64 f2.price) rfl (wanted_at (b := true) true rfl rfl (hD 22 80 (by kernel_rfl))) (exec_loadi 3 Try.underlying3 (.tmp 84) ⟨g, off + 1 * 21 + 18, none⟩ (.int .i64 f2.price) rfl (hD 26 84 (by kernel_rfl)) (range_int (range_kept HE1.out hk) 18 _ rfl)) rfl) ?_
  refine fsteps_cons 29 rfl (fun a u hE hD hk => f_as (show ((decide ((f2.price : Int) = (10 : Int))) : Bool) = true from rfl) (f_val (o := ⟨some 86, _, _, _, _, _⟩) (.bool (decide ((f2.price : Int) = (10 : Int)))) rfl (wanted_at (b := true) true rfl rfl (hD 22 80 (by kernel_rfl))) (exec_eqn (p := f2.price) (q := 10) rfl (hD 27 85 (by kernel_rfl)) rfl) rfl)) ?_
  refine sv 30 rfl rfl rfl (fun a u hE hD hk => exec_pick (.tmp 80) (.tmp 86) (.const (.bool false)) (.bool true) rfl (hD 22 80 (by kernel_rfl)) (hD 28 86 (by kernel_rfl))) ?_
  refine sv 31 rfl rfl rfl (fun a u hE hD hk => exec_move (.tmp 87) _ rfl (hD 29 87 (by kernel_rfl))) ?_
  refine fsteps_cons 32 rfl (fun a u hE hD hk => f_val (o := ⟨some 89, _, _, _, _, _⟩) (v47) rfl (wanted_at (b := true) true rfl rfl (hD 30 88 (by kernel_rfl))) (exec_move (.tmp 5) _ rfl (hE 5 (v47) (by kernel_rfl) (by kernel_rfl))) rfl) ?_
  refine fsteps_cons 33 rfl (fun a u hE hD hk => f_val (o := ⟨some 90, _, _, _, _, _⟩) ((Ord.mk 0 0 0 2 0 10 0 0 0).v) rfl (wanted_at (b := true) true rfl rfl (hD 30 88 (by kernel_rfl))) (exec_build 25 _ (Ord.mk 0 0 0 2 0 10 0 0 0).cells rfl (by kernel_rfl)) rfl) ?_
  refine fsteps_cons 34 rfl (fun a u hE hD hk => f_val (o := ⟨some 91, _, _, _, _, _⟩) ((Ent.mk (Ord.mk 0 0 0 2 0 10 0 0 0) (3)).v) rfl (wanted_at (b := true) true rfl rfl (hD 30 88 (by kernel_rfl))) (exec_bent 39 builtH (.tmp 90) (.const (.int .i64 3)) ((Ord.mk 0 0 0 2 0 10 0 0 0)) (3) rfl (hD 32 90 (by kernel_rfl)) rfl) rfl) ?_
  refine fsteps_cons 35 rfl (fun a u hE hD hk => f_new (o := ⟨some 92, _, _, _, _, _⟩) (.slice (some ⟨u.heap.size, 0, none⟩) 1 1) _ rfl (wanted_at (b := true) true rfl rfl (hD 30 88 (by kernel_rfl))) (exec_oneS slH (.tmp 91) (Ent.mk (Ord.mk 0 0 0 2 0 10 0 0 0) (3)).cells (by omega) rfl (hD 33 91 (by kernel_rfl)) ((Ent.mk (Ord.mk 0 0 0 2 0 10 0 0 0) (3)).len10)) (sl_one u 39 10 _ w23.heap.size ((Ent.mk (Ord.mk 0 0 0 2 0 10 0 0 0) (3)).len10) (by omega) hk.size) ((Keep.refl _ u).alloc _)) ?_
  refine fsteps_cons 36 rfl (fun a u hE hD hk => f_call (o := ⟨some 93, _, _, _, _, _⟩) 20 #[v47, a.eval (.tmp 92)] rfl (wanted_at (b := true) true rfl rfl (hD 30 88 (by kernel_rfl))) (exec_call 20 _ [.tmp 89, .tmp 92] _ [v47, a.eval (.tmp 92)] Try.func20 (by kernel_rfl) (by kernel_rfl) rfl (show [a.eval (.tmp 89), a.eval (.tmp 92)] = [v47, a.eval (.tmp 92)] from (by rw [show a.eval (.tmp 89) = v47 from (hD 31 89 (by kernel_rfl))] <;> rfl)) u) ((by have h := sameH_any v47 (a.eval (.tmp 92)) 1 1 [⟨⟨0, 0, 0, 2, 0, 10, 0, 0, 0⟩, 3⟩] [⟨⟨0, 0, 0, 2, 0, 10, 0, 0, 0⟩, 3⟩] u (HD23.out.kept hk) (hD 34 92 (by kernel_rfl)).1 (by decide) (by decide); rwa [decide_eq_true rfl] at h))) ?_
  refine sv 37 rfl rfl rfl (fun a u hE hD hk => exec_pick (.tmp 88) (.tmp 93) (.const (.bool false)) (.bool true) rfl (hD 30 88 (by kernel_rfl)) (hD 35 93 (by kernel_rfl))) ?_
  refine sv 38 rfl rfl rfl (fun a u hE hD hk => exec_move (.tmp 94) _ rfl (hD 36 94 (by kernel_rfl))) ?_
  refine fsteps_cons 39 rfl (fun a u hE hD hk => f_val (o := ⟨some 96, _, _, _, _, _⟩) (.int .i64 10) rfl (wanted_at (b := true) true rfl rfl (hD 37 95 (by kernel_rfl))) (exec_move (.tmp 6) _ rfl (hE 6 (.int .i64 10) (by kernel_rfl) (by kernel_rfl))) rfl) ?_
  refine fsteps_cons 40 rfl (fun a u hE hD hk => f_as (show ((decide ((10 : Int) = (10 : Int))) : Bool) = true from rfl) (f_val (o := ⟨some 97, _, _, _, _, _⟩) (.bool (decide ((10 : Int) = (10 : Int)))) rfl (wanted_at (b := true) true rfl rfl (hD 37 95 (by kernel_rfl))) (exec_eqn (p := 10) (q := 10) rfl (hD 38 96 (by kernel_rfl)) rfl) rfl)) ?_
  refine sv 41 rfl rfl rfl (fun a u hE hD hk => exec_pick (.tmp 95) (.tmp 97) (.const (.bool false)) (.bool true) rfl (hD 37 95 (by kernel_rfl)) (hD 39 97 (by kernel_rfl))) ?_
  refine sv 42 rfl rfl rfl (fun a u hE hD hk => exec_move (.tmp 98) _ rfl (hD 40 98 (by kernel_rfl))) ?_
  refine fsteps_cons 43 rfl (fun a u hE hD hk => f_val (o := ⟨some 100, _, _, _, _, _⟩) (.int .i64 2) rfl (wanted_at (b := true) true rfl rfl (hD 41 99 (by kernel_rfl))) (exec_move (.tmp 7) _ rfl (hE 7 (.int .i64 2) (by kernel_rfl) (by kernel_rfl))) rfl) ?_
  refine fsteps_cons 44 rfl (fun a u hE hD hk => f_as (show ((decide ((2 : Int) = (2 : Int))) : Bool) = true from rfl) (f_val (o := ⟨some 101, _, _, _, _, _⟩) (.bool (decide ((2 : Int) = (2 : Int)))) rfl (wanted_at (b := true) true rfl rfl (hD 41 99 (by kernel_rfl))) (exec_eqn (p := 2) (q := 2) rfl (hD 42 100 (by kernel_rfl)) rfl) rfl)) ?_
  refine sv 45 rfl rfl rfl (fun a u hE hD hk => exec_pick (.tmp 99) (.tmp 101) (.const (.bool false)) (.bool true) rfl (hD 41 99 (by kernel_rfl)) (hD 43 101 (by kernel_rfl))) ?_
  refine sv 46 rfl rfl rfl (fun a u hE hD hk => exec_move (.tmp 102) _ rfl (hD 44 102 (by kernel_rfl))) ?_
  refine fsteps_cons 47 rfl (fun a u hE hD hk => f_val (o := ⟨some 104, _, _, _, _, _⟩) (.pointer (some ⟨a8, 14, none⟩)) rfl (wanted_at (b := true) true rfl rfl (hD 45 103 (by kernel_rfl))) (exec_fldo 29 6 14 (.tmp 8) (a8) (0) (14) rfl (hE 8 (.pointer (some ⟨a8, 0, none⟩)) (by kernel_rfl) (by kernel_rfl)) (by kernel_rfl) rfl) rfl) ?_
  refine fsteps_cons 48 rfl (fun a u hE hD hk => f_val (o := ⟨some 105, _, _, _, _, _⟩) (.int .i64 oc4.err) rfl (wanted_at (b := true) true rfl rfl (hD 45 103 (by kernel_rfl))) (exec_loadi 27 Try.underlying27 (.tmp 104) ⟨a8, 14, none⟩ (.int .i64 oc4.err) rfl (hD 46 104 (by kernel_rfl)) (by rw [(HP23.out.kept hk).cell]; rfl)) rfl) ?_
  refine fsteps_cons 49 rfl (fun a u hE hD hk => f_as (show ((decide ((oc4.err : Int) = (12 : Int))) : Bool) = true from rfl) (f_val (o := ⟨some 106, _, _, _, _, _⟩) (.bool (decide ((oc4.err : Int) = (12 : Int)))) rfl (wanted_at (b := true) true rfl rfl (hD 45 103 (by kernel_rfl))) (exec_eqn (p := oc4.err) (q := 12) rfl (hD 47 105 (by kernel_rfl)) rfl) rfl)) ?_
  refine sv 50 rfl rfl rfl (fun a u hE hD hk => exec_pick (.tmp 103) (.tmp 106) (.const (.bool false)) (.bool true) rfl (hD 45 103 (by kernel_rfl)) (hD 48 106 (by kernel_rfl))) ?_
  refine sv 51 rfl rfl rfl (fun a u hE hD hk => exec_move (.tmp 107) _ rfl (hD 49 107 (by kernel_rfl))) ?_
  refine fsteps_cons 52 rfl (fun a u hE hD hk => f_val (o := ⟨some 109, _, _, _, _, _⟩) (.pointer (some ⟨a9, 13, none⟩)) rfl (wanted_at (b := true) true rfl rfl (hD 50 108 (by kernel_rfl))) (exec_fldo 29 5 13 (.tmp 9) (a9) (0) (13) rfl (hE 9 (.pointer (some ⟨a9, 0, none⟩)) (by kernel_rfl) (by kernel_rfl)) (by kernel_rfl) rfl) rfl) ?_
  refine fsteps_cons 53 rfl (fun a u hE hD hk => f_as (show (oc5.self : Bool) = true from rfl) (f_val (o := ⟨some 110, _, _, _, _, _⟩) (.bool oc5.self) rfl (wanted_at (b := true) true rfl rfl (hD 50 108 (by kernel_rfl))) (exec_ldb 4 Try.underlying4 (.tmp 109) ⟨a9, 13, none⟩ (.bool oc5.self) rfl (hD 51 109 (by kernel_rfl)) (by rw [(HQ23.out.kept hk).cell]; rfl)) rfl)) ?_
  refine sv 54 rfl rfl rfl (fun a u hE hD hk => exec_pick (.tmp 108) (.tmp 110) (.const (.bool false)) (.bool true) rfl (hD 50 108 (by kernel_rfl)) (hD 52 110 (by kernel_rfl))) ?_
  refine sv 55 rfl rfl rfl (fun a u hE hD hk => exec_move (.tmp 111) _ rfl (hD 53 111 (by kernel_rfl))) ?_
  refine fsteps_cons 56 rfl (fun a u hE hD hk => f_val (o := ⟨some 113, _, _, _, _, _⟩) (.pointer (some ⟨a9, 10, none⟩)) rfl (wanted_at (b := true) true rfl rfl (hD 54 112 (by kernel_rfl))) (exec_fldo 29 2 10 (.tmp 9) (a9) (0) (10) rfl (hE 9 (.pointer (some ⟨a9, 0, none⟩)) (by kernel_rfl) (by kernel_rfl)) (by kernel_rfl) rfl) rfl) ?_
  refine fsteps_cons 57 rfl (fun a u hE hD hk => f_val (o := ⟨some 114, _, _, _, _, _⟩) (.int .i64 oc5.left) rfl (wanted_at (b := true) true rfl rfl (hD 54 112 (by kernel_rfl))) (exec_loadi 3 Try.underlying3 (.tmp 113) ⟨a9, 10, none⟩ (.int .i64 oc5.left) rfl (hD 55 113 (by kernel_rfl)) (by rw [(HQ23.out.kept hk).cell]; rfl)) rfl) ?_
  refine fsteps_cons 58 rfl (fun a u hE hD hk => f_as (show ((decide ((oc5.left : Int) = (1 : Int))) : Bool) = true from rfl) (f_val (o := ⟨some 115, _, _, _, _, _⟩) (.bool (decide ((oc5.left : Int) = (1 : Int)))) rfl (wanted_at (b := true) true rfl rfl (hD 54 112 (by kernel_rfl))) (exec_eqn (p := oc5.left) (q := 1) rfl (hD 56 114 (by kernel_rfl)) rfl) rfl)) ?_
  refine sv 59 rfl rfl rfl (fun a u hE hD hk => exec_pick (.tmp 112) (.tmp 115) (.const (.bool false)) (.bool true) rfl (hD 54 112 (by kernel_rfl)) (hD 57 115 (by kernel_rfl))) ?_
  refine sv 60 rfl rfl rfl (fun a u hE hD hk => exec_move (.tmp 116) _ rfl (hD 58 116 (by kernel_rfl))) ?_
  refine fsteps_cons 61 rfl (fun a u hE hD hk => f_val (o := ⟨some 118, _, _, _, _, _⟩) (.pointer (some ⟨a9, 14, none⟩)) rfl (wanted_at (b := true) true rfl rfl (hD 59 117 (by kernel_rfl))) (exec_fldo 29 6 14 (.tmp 9) (a9) (0) (14) rfl (hE 9 (.pointer (some ⟨a9, 0, none⟩)) (by kernel_rfl) (by kernel_rfl)) (by kernel_rfl) rfl) rfl) ?_
  refine fsteps_cons 62 rfl (fun a u hE hD hk => f_val (o := ⟨some 119, _, _, _, _, _⟩) (.int .i64 oc5.err) rfl (wanted_at (b := true) true rfl rfl (hD 59 117 (by kernel_rfl))) (exec_loadi 27 Try.underlying27 (.tmp 118) ⟨a9, 14, none⟩ (.int .i64 oc5.err) rfl (hD 60 118 (by kernel_rfl)) (by rw [(HQ23.out.kept hk).cell]; rfl)) rfl) ?_
  refine fsteps_cons 63 rfl (fun a u hE hD hk => f_as (show ((decide ((oc5.err : Int) = (0 : Int))) : Bool) = true from rfl) (f_val (o := ⟨some 120, _, _, _, _, _⟩) (.bool (decide ((oc5.err : Int) = (0 : Int)))) rfl (wanted_at (b := true) true rfl rfl (hD 59 117 (by kernel_rfl))) (exec_eqn (p := oc5.err) (q := 0) rfl (hD 61 119 (by kernel_rfl)) rfl) rfl)) ?_
  refine sv 64 rfl rfl rfl (fun a u hE hD hk => exec_pick (.tmp 117) (.tmp 120) (.const (.bool false)) (.bool true) rfl (hD 59 117 (by kernel_rfl)) (hD 62 120 (by kernel_rfl))) ?_
  exact fsteps_nil
 intro gv w24 hV k24
 rw [show dstsOf _ 64 = [58, 59, 60, 61, 62, 63, 64, 65, 66, 67, 68, 69, 70, 71, 72, 73, 74, 75, 76, 77, 78, 79, 80, 81, 82, 83, 84, 85, 86, 87, 88, 89, 90, 91, 92, 93, 94, 95, 96, 97, 98, 99, 100, 101, 102, 103, 104, 105, 106, 107, 108, 109, 110, 111, 112, 113, 114, 115, 116, 117, 118, 119, 120, 121] by kernel_rfl]
 simp only [List.append_eq, List.cons_append, List.nil_append]
 simp only [fC, fN, sA, sS, sZ, dS, dZ]
 rw [show gv 121 = .bool true from hV 63 121 (by kernel_rfl)]
 clear hV
 refine l_val (o := ⟨some 0, _, _, _, _, _⟩) (.bool true) rfl (exec_assign (.tmp 121) (.bool true) rfl (by kernel_rfl)) ?_
 simp only [Act.put, List.setIfInBounds_toArray, List.set_cons_zero]
 refine wpList_nil ?_
 go_wp2
 go_ret
 exact ⟨rfl, kw23.trans k24⟩
theorem bruns_gives (w : World) : Gives 3 #[] w (.eq (.bool true)) := gives_eq (bookRuns_any w)
end Go.Proofs.Ytfpfpmhkkgfdbaa
