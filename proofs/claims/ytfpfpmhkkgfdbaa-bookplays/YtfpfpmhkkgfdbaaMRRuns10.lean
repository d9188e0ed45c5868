/-
 Chapter 10's runs: what the book does at them, as mathematics, and the walk. No condition.
-/
import Derived.Test.YtfpfpmhkkgfdbaaQR05
import Derived.Deep.DeepCutAuto
set_option linter.unusedVariables false
namespace Go.Proofs.Ytfpfpmhkkgfdbaa
open Go.RowKit
set_option maxRecDepth 100000
def mkO (firm id side k price qty : Int) : Ord := ⟨firm, id, firm, side, k, price, qty, 0, 0⟩
theorem add_go {B : Bok} {o : Ord} {m : Mt} (he : B.err o = 0) (hm : B.matched o = m) : B.add o = (⟨o, m.f, m.left, decide (0 < m.left) && !m.self && (decide (o.k = 1) || decide (o.k = 5)), m.self, 0⟩,
  if (decide (0 < m.left) && !m.self && (decide (o.k = 1) || decide (o.k = 5))) = true then ({ B.put (3 - o.side) m.L with last := lastOf B.last m.f, no := B.no + m.f.length } : Bok).put o.side (restM (o.cut m.left) (({ B.put (3 - o.side) m.L with last := lastOf B.last m.f, no := B.no + m.f.length } : Bok).sd o.side)) else { B.put (3 - o.side) m.L with last := lastOf B.last m.f, no := B.no + m.f.length }) := by
 subst hm
 unfold Bok.add
 rw [if_neg (by simp [he])]
 rfl
def r1 : Ord := mkO 1 1 2 1 10 5
def r2 : Ord := mkO 2 1 2 1 9 5
def r3 : Ord := mkO 3 1 1 1 10 7
def r4 : Ord := mkO 3 2 1 4 10 9
def r5 : Ord := mkO 1 2 1 1 10 1
def R1 : Bok := ⟨[], [(10, [⟨r1, 5⟩])], 0, 0⟩
def R2 : Bok := ⟨[], [(9, [⟨r2, 5⟩]), (10, [⟨r1, 5⟩])], 0, 0⟩
def R3 : Bok := ⟨[], [(10, [⟨r1.q 3, 3⟩])], 10, 2⟩
def f1 : Fl := ⟨r2, r3, 9, 5, 1⟩
def f2 : Fl := ⟨r1, r3.q 2, 10, 2, 2⟩
theorem run1 : Bok.zero.add r1 = (⟨r1, [], 5, true, false, 0⟩, R1) := by
 rw [add_go (m := ⟨[], 5, false, []⟩) (by decide) rfl]
 rfl
theorem run2 : R1.add r2 = (⟨r2, [], 5, true, false, 0⟩, R2) := by
 rw [add_go (m := ⟨[], 5, false, []⟩) (by decide) rfl]
 rfl
theorem run3 : R2.add r3 = (⟨r3, [f1, f2], 0, false, false, 0⟩, R3) := by
 have t1 : takeM 3 7 [⟨r2, 5⟩] = ([⟨r2, 5⟩], false, []) := by
  rw [takeM_go 3 7 ⟨r2, 5⟩ [] (by decide) (by decide) (by decide)]
  rw [show nextM ⟨r2, 5⟩ (mn 7 (⟨r2, 5⟩ : Ent).n) [] = [] by decide, takeM_nil]
  rfl
 have t2 : takeM 3 2 [⟨r1, 5⟩] = ([⟨r1, 2⟩], false, [⟨r1.q 3, 3⟩]) := by
  rw [takeM_go 3 2 ⟨r1, 5⟩ [] (by decide) (by decide) (by decide)]
  rw [show nextM ⟨r1, 5⟩ (mn 2 (⟨r1, 5⟩ : Ent).n) [] = [⟨r1.q 3, 3⟩] by decide, takeM_zero _ _ _ (by decide)]
  rfl
 have hm : R2.matched r3 = ⟨[f1, f2], 0, false, [(10, [⟨r1.q 3, 3⟩])]⟩ := by
  show matchM r3 0 7 [(9, [⟨r2, 5⟩]), (10, [⟨r1, 5⟩])] = _
  rw [matchM, if_pos (by decide)]
  simp only [show r3.firm = 3 from rfl, t1]
  rw [if_pos (by decide)]
  simp only [show (7 : Int) - seenM [⟨r2, 5⟩] = 2 by decide]
  rw [matchM, if_pos (by decide)]
  simp only [show r3.firm = 3 from rfl, t2]
  rw [if_neg (by decide)]
  rfl
 rw [add_go (by decide) hm]
 rfl
theorem run4 : R3.add r4 = (⟨r4, [], 9, false, false, 12⟩, R3) := by
 have t1 : takeM 3 9 [⟨r1.q 3, 3⟩] = ([⟨r1.q 3, 3⟩], false, []) := by
  rw [takeM_go 3 9 ⟨r1.q 3, 3⟩ [] (by decide) (by decide) (by decide)]
  rw [show nextM ⟨r1.q 3, 3⟩ (mn 9 (⟨r1.q 3, 3⟩ : Ent).n) [] = [] by decide, takeM_nil]
  rfl
 have hm : (R3.matched r4).left = 6 := by
  show (matchM r4 2 9 [(10, [⟨r1.q 3, 3⟩])]).left = _
  rw [matchM, if_pos (by decide)]
  simp only [show r4.firm = 3 from rfl, t1]
  rw [if_pos (by decide)]
  rfl
 have he : R3.err r4 = 12 := by
  unfold Bok.err
  rw [if_neg (by decide), if_neg (by decide), if_neg (by decide), if_neg (by decide), if_pos ⟨rfl, by rw [hm]; decide⟩]
 rw [add_err (by rw [he]; decide), he]
 rfl
theorem run5 : R3.add r5 = (⟨r5, [], 1, false, true, 0⟩, R3) := by
 have hm : R3.matched r5 = ⟨[], 1, true, [(10, [⟨r1.q 3, 3⟩])]⟩ := by
  show matchM r5 2 1 [(10, [⟨r1.q 3, 3⟩])] = _
  rw [matchM, if_pos (by decide)]
  simp only [show r5.firm = 1 from rfl, takeM_own 1 1 ⟨r1.q 3, 3⟩ [] (by decide) (by decide) rfl]
  rw [if_neg (by decide)]
  rfl
 rw [add_go (by decide) hm]
 rfl
theorem inv1 : Inv R1 := by have := inv_add (o := r1) Inv.zero; rw [run1] at this; exact this.1
theorem inv2 : Inv R2 := by have := inv_add (o := r2) inv1; rw [run2] at this; exact this.1
theorem inv3 : Inv R3 := by have := inv_add (o := r3) inv2; rw [run3] at this; exact this.1
def oc1 : Oc := ⟨r1, [], 5, true, false, 0⟩
def oc2 : Oc := ⟨r2, [], 5, true, false, 0⟩
def oc3 : Oc := ⟨r3, [f1, f2], 0, false, false, 0⟩
def oc4 : Oc := ⟨r4, [], 9, false, false, 12⟩
def oc5 : Oc := ⟨r5, [], 1, false, true, 0⟩
theorem builtO (a b c d e f g : Int) : Try.prog.built 25 [(0, .int .i64 a), (1, .int .i64 b), (2, .int .i64 c), (3, .int .i64 d), (4, .int .i64 e), (5, .int .i64 f), (6, .int .i64 g)] = some (Ord.mk a b c d e f g 0 0).cells.toArray := by kernel_rfl
theorem exec_builtO {a : Act} {o : Oper} {u : World} (x0 x1 x2 x3 x4 x5 x6 : Operand) (a0 a1 a2 a3 a4 a5 a6 : Int) (hop : o.op = .build 25 #[(0, x0), (1, x1), (2, x2), (3, x3), (4, x4), (5, x5), (6, x6)]) (h0 : a.eval x0 = .int .i64 a0) (h1 : a.eval x1 = .int .i64 a1) (h2 : a.eval x2 = .int .i64 a2) (h3 : a.eval x3 = .int .i64 a3) (h4 : a.eval x4 = .int .i64 a4) (h5 : a.eval x5 = .int .i64 a5) (h6 : a.eval x6 = .int .i64 a6) : (execOp a.eval o).run Try.prog u = .ok (.value (Ord.mk a0 a1 a2 a3 a4 a5 a6 0 0).v) u :=
 exec_build _ [(0, x0), (1, x1), (2, x2), (3, x3), (4, x4), (5, x5), (6, x6)] (Ord.mk a0 a1 a2 a3 a4 a5 a6 0 0).cells hop (by
  simp only [List.map_cons, List.map_nil, h0, h1, h2, h3, h4, h5, h6]
  exact builtO _ _ _ _ _ _ _)
set_option maxRecDepth 100000 in
set_option maxHeartbeats 800000 in
theorem o_any (f i s k p n : Int) (w : World) : Gives 16 #[.int .i64 f, .int .i64 i, .int .i64 s, .int .i64 k, .int .i64 p, .int .i64 n] w (.eq (mkO f i s k p n).v) := by
 refine gives_eq ?_
 go_enter Try.func16, Try.ntmps16
 go_upto_region 0 with fail
 refine wp_text 1 [.fresh w.heap.size 25 zeroO.cells] rfl (by kernel_rfl) ?_ ?_
 ·refine nW 1 rfl (fun a u E D hk=>⟨_, _, exec_alc 25 zeroO.cells rfl zO, ⟨_, rfl, hk.size, Blk.new u _ _⟩, ((Keep.refl _ u).alloc _)⟩) ?_
  exact fz
 intro gv w0 hV k0
 rw [dq 1 [12]]
 simp only [F7]
 have hv12 : (.fresh w.heap.size 25 zeroO.cells : Kn).p (gv 12) w0 := hV 0 12 (by kernel_rfl)
 generalize gv 12 = v12 at hv12 ⊢
 clear hV
 obtain ⟨g, rfl, hg, hB⟩ := hv12
 refine wpList_nil ?_
 have HB := Lib.hid hB
 have l1 := hB.lt
 clear hB
 go_upto_region 1 with fail
 refine wp_text 8 [iE f, iE i, iE f, iE s, iE k, iE p, iE n, .eq ((Ord.mk f i f s k p n 0 0).v)] rfl (by kernel_rfl) ?_ ?_
 ·refine mE 1 0 ?_
  refine mE 2 1 ?_
  refine mE 3 0 ?_
  refine mE 4 2 ?_
  refine mE 5 3 ?_
  refine mE 6 4 ?_
  refine mE 7 5 ?_
  refine sW 8 rfl (fun a u E D hk=>exec_builtO _ _ _ _ _ _ _ f i f s k p n rfl (dD D 0) (dD D 1) (dD D 2) (dD D 3) (dD D 4) (dD D 5) (dD D 6)) ?_
  exact fz
 intro gv w1 hV k1
 rw [dq 8 [13,14,15,16,17,18,19,20]]
 simp only [F7]
 rw [gQ hV 7 20 ((Ord.mk f i f s k p n 0 0).v)]
 clear hV
 refine l_setS 25 g 25 zeroO.cells (Ord.mk f i f s k p n 0 0).cells _ _ rfl rfl (by kernel_rfl) (by kernel_rfl) (HB.out.kept k1) (by rw [Ord.len9]; exact ord_size) (by rw [Ord.len9, Ord.len9]) (Ord.one1 _) ?_
 intro w2 hC2 hk2 hs2
 simp only [Act.put]
 refine wpList_nil ?_
 go_wp2
 refine bodyPost_ret (results_cell (p := 12) rfl _ _ g _ (Ord.mk f i f s k p n 0 0).cells rfl hC2 Try.underlying25 (by rw [Ord.len9]; exact ord_size)) rfl ?_
 exact ⟨rfl, (k0.trans k1).trans' hk2 (by omega)⟩
theorem badd_at (w : World) (F : Nat → Prop) (p : Nat) (B : Bok) (o : Ord) (x : Oc × Bok) (hx : B.add o = x) (h : Bk w F p B) (hI : Inv B) (hn : B.no ≤ 1000000000000) : Calls Try.prog 15 #[.pointer (some ⟨p, 0, none⟩), o.v] w (AddIn w F p x) := by
 rw [← hx]
 exact badd_any w F p B o h hI hn
set_option maxRecDepth 100000 in
set_option maxHeartbeats 3200000 in
theorem bookRuns_any (w : World) : Calls Try.prog 3 #[] w fun e w' => e = .returned (.bool true) ∧ Kept w w' := by
 go_enter Try.func3, Try.ntmps3
 go_upto_region 1 with fail
 refine wp_region_lit ?_
 refine l_call 14 #[] rfl (exec_call 14 _ [] _ _ Try.func14 (by kernel_rfl) (by kernel_rfl) rfl (by kernel_rfl) _) ?_
 refine (bnew_any w).mono ?_
 rintro r w1 ⟨p, F1, rfl, hB1, hG1, k1⟩
 refine ⟨_, rfl, ?_⟩
 simp only [Act.put, sA, sS, sZ]
 refine l_val (.pointer (some ⟨p, 0, none⟩)) rfl (exec_assign _ _ rfl (by kernel_rfl)) ?_
 simp only [Act.put, sA, sS, sZ]
 refine wpList_nil ?_
 have HF1 : Hid (∀ b, F1 b → w.heap.size ≤ b) := fun b hb => (hG1 b hb).elim (fun h => h.elim) id
 have HB1 := Lib.hid hB1
 clear hB1 hG1
 go_upto_region 4 with fail
 refine wp_region_lit ?_
 refine l_val (.pointer (some ⟨p, 0, none⟩)) rfl (exec_move _ _ rfl (by kernel_rfl)) ?_
 simp only [Act.put, sA, sS, sZ]
 refine l_call 16 #[.int .i64 1, .int .i64 1, .int .i64 2, .int .i64 1, .int .i64 10, .int .i64 5] rfl (exec_call 16 _ [.const (.int .i64 1), .const (.int .i64 1), .const (.int .i64 2), .const (.int .i64 1), .const (.int .i64 10), .const (.int .i64 5)] _ _ Try.func16 (by kernel_rfl) (by kernel_rfl) rfl (by kernel_rfl) _) ?_
 refine (o_any 1 1 2 1 10 5 w1).mono ?_
 rintro r w2 ⟨_, rfl, rfl, kw2⟩
 refine ⟨_, rfl, ?_⟩
 simp only [Act.put, sA, sS, sZ]
 refine l_call 15 #[.pointer (some ⟨p, 0, none⟩), r1.v] rfl (exec_call 15 _ [.tmp 13, .tmp 14] _ _ Try.func15 (by kernel_rfl) (by kernel_rfl) rfl (by kernel_rfl) _) ?_
 refine (badd_at w2 F1 p Bok.zero r1 _ run1 (HB1.out.kept kw2) Inv.zero (by decide)).mono ?_
 rintro r w3 ⟨F3, v1, rfl, hBw3, hSw3, hOw3, hGw3, hkw3⟩
 refine ⟨_, rfl, ?_⟩
 simp only [Act.put, sA, sS, sZ]
 refine l_val (.pointer (some ⟨p, 0, none⟩)) rfl (exec_move _ _ rfl (by kernel_rfl)) ?_
 simp only [Act.put, sA, sS, sZ]
 refine l_call 16 #[.int .i64 2, .int .i64 1, .int .i64 2, .int .i64 1, .int .i64 9, .int .i64 5] rfl (exec_call 16 _ [.const (.int .i64 2), .const (.int .i64 1), .const (.int .i64 2), .const (.int .i64 1), .const (.int .i64 9), .const (.int .i64 5)] _ _ Try.func16 (by kernel_rfl) (by kernel_rfl) rfl (by kernel_rfl) _) ?_
 refine (o_any 2 1 2 1 9 5 w3).mono ?_
 rintro r w4 ⟨_, rfl, rfl, kw4⟩
 refine ⟨_, rfl, ?_⟩
 simp only [Act.put, sA, sS, sZ]
 refine l_call 15 #[.pointer (some ⟨p, 0, none⟩), r2.v] rfl (exec_call 15 _ [.tmp 16, .tmp 17] _ _ Try.func15 (by kernel_rfl) (by kernel_rfl) rfl (by kernel_rfl) _) ?_
 refine (badd_at w4 F3 p R1 r2 _ run2 (hBw3.kept kw4) inv1 (by decide)).mono ?_
 rintro r w5 ⟨F5, v2, rfl, hBw5, hSw5, hOw5, hGw5, hkw5⟩
 refine ⟨_, rfl, ?_⟩
 simp only [Act.put, sA, sS, sZ]
 refine l_new (.pointer (some ⟨w5.heap.size, 0, none⟩)) (w5.alloc (.cells (zeroC.cells (.slice none 0 0)).toArray 29)) rfl (exec_alc 29 (zeroC.cells (.slice none 0 0)) rfl zC) ?_
 have hNw6 := Blk.new w5 29 (zeroC.cells (.slice none 0 0))
 have kw6 : Kept w5 (w5.alloc (.cells (zeroC.cells (.slice none 0 0)).toArray 29)) := (Keep.refl _ w5).alloc _
 generalize w5.alloc (.cells (zeroC.cells (.slice none 0 0)).toArray 29) = w6 at hNw6 kw6 ⊢
 simp only [Act.put, sA, sS, sZ]
 refine l_new (.pointer (some ⟨w6.heap.size, 0, none⟩)) (w6.alloc (.cells (zeroC.cells (.slice none 0 0)).toArray 29)) rfl (exec_alc 29 (zeroC.cells (.slice none 0 0)) rfl zC) ?_
 have hNw7 := Blk.new w6 29 (zeroC.cells (.slice none 0 0))
 have kw7 : Kept w6 (w6.alloc (.cells (zeroC.cells (.slice none 0 0)).toArray 29)) := (Keep.refl _ w6).alloc _
 generalize w6.alloc (.cells (zeroC.cells (.slice none 0 0)).toArray 29) = w7 at hNw7 kw7 ⊢
 simp only [Act.put, sA, sS, sZ]
 refine l_setS 29 w5.heap.size 29 (zeroC.cells (.slice none 0 0)) (oc1.cells v1) _ _ rfl rfl (by kernel_rfl) (by kernel_rfl) (hNw6.kept kw7) (by rw [Oc.len15]; exact szC) (by rw [Oc.len15, Oc.len15]) (Oc.one _ _ (sl_onec hSw3)) ?_
 intro w8 hCw8 hkw8 hsw8
 simp only [Act.put]
 refine l_setS 29 w6.heap.size 29 (zeroC.cells (.slice none 0 0)) (oc2.cells v2) _ _ rfl rfl (by kernel_rfl) (by kernel_rfl) (hNw7.keep hkw8 (by have := kw6.size; have := hNw6.lt; omega)) (by rw [Oc.len15]; exact szC) (by rw [Oc.len15, Oc.len15]) (Oc.one _ _ (sl_onec hSw5)) ?_
 intro w9 hCw9 hkw9 hsw9
 simp only [Act.put]
 refine wpList_nil ?_
 have z2 := kw2.size
 have z3 := hkw3.size
 have z4 := kw4.size
 have z5 := hkw5.size
 have z6 := kw6.size
 have z7 := kw7.size
 have l6 := hNw6.lt
 have l7 := hNw7.lt
 have z1 := k1.size
 have HF3 : Hid (∀ b, F3 b → w.heap.size ≤ b) := fun b hb => (hGw3 b hb).elim (HF1.out b) (fun h => by omega)
 have HF5 : Hid (∀ b, F5 b → w.heap.size ≤ b) := fun b hb => (hGw5 b hb).elim (HF3.out b) (fun h => by omega)
 have hF5l := hBw5.lt
 have K9 : Keep (fun b => b = w5.heap.size ∨ b = w6.heap.size) w5 w9 := ((kw6.trans kw7).mono (T := fun b => b = w5.heap.size ∨ b = w6.heap.size) (fun _ _ h => h.elim)).trans ((hkw8.mono (T := fun b => b = w5.heap.size ∨ b = w6.heap.size) (fun _ _ h => .inl h)).trans (hkw9.mono (T := fun b => b = w5.heap.size ∨ b = w6.heap.size) (fun _ _ h => .inr h)) (fun _ _ h => h)) (fun _ _ h => h)
 have kw9 : Kept w w9 := by
  refine Keep.trans (Keep.trans (Keep.trans (k1.trans kw2) hkw3 (fun b hb h => by have := HF1.out b h; omega)) (kw4.mono (T := F3) (fun _ _ h => h.elim) |>.trans hkw5 (fun _ _ h => h)) (fun b hb h => by have := HF3.out b h; omega)) K9 (fun b hb h => by omega)
 have HB9 : Hid (Bk w9 F5 p R2) := hBw5.keep K9 (fun b hb h => by have := hF5l b hb; omega)
 have HX : Hid (Blk w9 w5.heap.size 29 (oc1.cells v1)) := hCw8.keep hkw9 (by omega)
 have HY : Hid (Blk w9 w6.heap.size 29 (oc2.cells v2)) := hCw9
 have z9 := K9.size
 obtain ⟨a2, ha2⟩ : ∃ a, w5.heap.size = a := ⟨_, rfl⟩
 obtain ⟨a3, ha3⟩ : ∃ a, w6.heap.size = a := ⟨_, rfl⟩
 rw [ha2] at HX ⊢
 rw [ha3] at HY ⊢
 have q2 : w.heap.size ≤ a2 := by omega
 have q3 : a2 < a3 := by omega
 have q4 : a3 < w9.heap.size := by rw [← ha3]; exact hCw9.lt
 have HFa : Hid (∀ b, F5 b → b < a2) := fun b hb => by rw [← ha2]; exact hF5l b hb
 clear hBw3 hSw3 hOw3 hGw3 hkw3 hBw5 hSw5 hOw5 hGw5 hkw5 hNw6 hNw7 hCw8 hCw9 hkw8 hkw9 hsw8 hsw9 K9 kw2 kw4 kw6 kw7 HB1 hF5l l6 l7 z2 z3 z4 z5 z6 z7 HF1 HF3 ha2 ha3 k1
 go_upto_region 5 with fail
 refine wp_region_lit ?_
 refine l_val (.pointer (some ⟨p, 0, none⟩)) rfl (exec_move _ _ rfl (by kernel_rfl)) ?_
 simp only [Act.put, sA, sS, sZ]
 refine l_call 16 #[.int .i64 3, .int .i64 1, .int .i64 1, .int .i64 1, .int .i64 10, .int .i64 7] rfl (exec_call 16 _ [.const (.int .i64 3), .const (.int .i64 1), .const (.int .i64 1), .const (.int .i64 1), .const (.int .i64 10), .const (.int .i64 7)] _ _ Try.func16 (by kernel_rfl) (by kernel_rfl) rfl (by kernel_rfl) _) ?_
 refine (o_any 3 1 1 1 10 7 w9).mono ?_
 rintro r w10 ⟨_, rfl, rfl, kw10⟩
 refine ⟨_, rfl, ?_⟩
 simp only [Act.put, sA, sS, sZ]
 refine l_call 15 #[.pointer (some ⟨p, 0, none⟩), r3.v] rfl (exec_call 15 _ [.tmp 19, .tmp 20] _ _ Try.func15 (by kernel_rfl) (by kernel_rfl) rfl (by kernel_rfl) _) ?_
 refine (badd_at w10 F5 p R2 r3 _ run3 (HB9.out.kept kw10) inv2 (by decide)).mono ?_
 rintro r w11 ⟨F11, v3, rfl, hBw11, hSw11, hOw11, hGw11, hkw11⟩
 refine ⟨_, rfl, ?_⟩
 simp only [Act.put, sA, sS, sZ]
 refine l_new (.pointer (some ⟨w11.heap.size, 0, none⟩)) (w11.alloc (.cells (zeroC.cells (.slice none 0 0)).toArray 29)) rfl (exec_alc 29 (zeroC.cells (.slice none 0 0)) rfl zC) ?_
 have hNw12 := Blk.new w11 29 (zeroC.cells (.slice none 0 0))
 have kw12 : Kept w11 (w11.alloc (.cells (zeroC.cells (.slice none 0 0)).toArray 29)) := (Keep.refl _ w11).alloc _
 generalize w11.alloc (.cells (zeroC.cells (.slice none 0 0)).toArray 29) = w12 at hNw12 kw12 ⊢
 simp only [Act.put, sA, sS, sZ]
 refine l_setS 29 w11.heap.size 29 (zeroC.cells (.slice none 0 0)) (oc3.cells v3) _ _ rfl rfl (by kernel_rfl) (by kernel_rfl) (hNw12) (by rw [Oc.len15]; exact szC) (by rw [Oc.len15, Oc.len15]) (Oc.one _ _ (sl_onec hSw11)) ?_
 intro w13 hCw13 hkw13 hsw13
 simp only [Act.put]
 refine wpList_nil ?_
 obtain ⟨K13, hB13, hS13, hO13, hG13, hF13, z11⟩ := add_frame kw10 hBw11 hSw11 hOw11 hGw11 hkw11 kw12 hkw13
 obtain ⟨a4, ha4⟩ : ∃ a, w11.heap.size = a := ⟨_, rfl⟩
 rw [ha4] at hCw13 hO13 hF13 z11 ⊢
 have l4 := hCw13.lt
 have HF11 : Hid (∀ b, F11 b → w.heap.size ≤ b) := hG13.ge HF5.out (by omega)
 have HX13 : Hid (Blk w13 a2 29 (oc1.cells v1)) := HX.out.keep K13 (fun h => by have := HFa.out _ h; omega)
 have HY13 : Hid (Blk w13 a3 29 (oc2.cells v2)) := HY.out.keep K13 (fun h => by have := HFa.out _ h; omega)
 have HZ13 : Hid (Blk w13 a4 29 (oc3.cells v3)) := hCw13
 have HS13 := Lib.hid hS13
 have HO13 := Lib.hid hO13
 have HB13 := Lib.hid hB13
 have HF13 := Lib.hid hF13
 have kw13 : Kept w w13 := Keep.trans kw9 K13 (fun b hb h => by have := HF5.out b h; omega)
 have z13 := K13.size
 clear hBw11 hSw11 hOw11 hGw11 hkw11 hNw12 hkw13 hsw13 hB13 hS13 hO13 hG13 hF13 hCw13 kw10 kw12 K13 HB9 HX HY HF5 HFa kw9 ha4
 go_upto_region 6 with fail
 refine wp_text 24 [pE a2 11, bE true, bE false, bE false, pE a3 11, bE true, bE false, bE false, bE false, pE a4 14, iE oc3.err, bE false, bE false, bE false, pE a4 9, .eq (v3), iE (2 : Int), bE false, bE false, bE false, pE a4 10, iE oc3.left, bE false, bE false] rfl (by kernel_rfl) ?_ ?_
 ·refine fE 1 2 29 3 11 0 ?_
  refine aS 2 rfl (fun a u E D hk=>exec_ldb _ Try.underlying4 _ _ _ rfl (dD D 0) (by rw [(HX13.out.kept hk).cell]; rfl)) rfl ?_
  refine sW 3 rfl (fun a u E D hk=>exec_not _ _ true rfl (dD D 1)) ?_
  refine mD 4 24 2 ?_
  refine fE 5 3 29 3 11 0 ?_
  refine aS 6 rfl (fun a u E D hk=>exec_ldb _ Try.underlying4 _ _ _ rfl (dD D 4) (by rw [(HY13.out.kept hk).cell]; rfl)) rfl ?_
  refine sW 7 rfl (fun a u E D hk=>exec_not _ _ true rfl (dD D 5)) ?_
  refine sW 8 rfl (fun a u E D hk=>exec_pickF _ _ _ _ rfl (dD D 3) (dD D 6)) ?_
  refine mD 9 29 7 ?_
  refine fE 10 4 29 6 14 0 ?_
  refine sW 11 rfl (fun a u E D hk=>exec_loadi _ Try.underlying27 _ _ _ rfl (dD D 9) (by rw [(HZ13.out.kept hk).cell]; rfl)) ?_
  refine aS 12 rfl (fun a u E D hk=>exec_nen rfl (dD D 10) rfl) rfl ?_
  refine sW 13 rfl (fun a u E D hk=>exec_pickF _ _ _ _ rfl (dD D 8) (dD D 11)) ?_
  refine mD 14 34 12 ?_
  refine fE 15 4 29 1 9 0 ?_
  refine sW 16 rfl (fun a u E D hk=>exec_ldv _ _ Try.underlying26 _ _ _ rfl (dD D 14) (by rw [(HZ13.out.kept hk).cell]; rfl)) ?_
  refine sW 17 rfl (fun a u E D hk=>exec_lenS _ slF _ _ _ _ rfl (dD D 15) HS13.out) ?_
  refine aS 18 rfl (fun a u E D hk=>exec_nen rfl (dD D 16) rfl) rfl ?_
  refine sW 19 rfl (fun a u E D hk=>exec_pickF _ _ _ _ rfl (dD D 13) (dD D 17)) ?_
  refine mD 20 40 18 ?_
  refine fE 21 4 29 2 10 0 ?_
  refine sW 22 rfl (fun a u E D hk=>exec_loadi _ Try.underlying3 _ _ _ rfl (dD D 20) (by rw [(HZ13.out.kept hk).cell]; rfl)) ?_
  refine aS 23 rfl (fun a u E D hk=>exec_nen rfl (dD D 21) rfl) rfl ?_
  refine sW 24 rfl (fun a u E D hk=>exec_pickF _ _ _ _ rfl (dD D 19) (dD D 22)) ?_
  exact fz
 intro gv w14 hV k14
 rw [dq 24 [22,23,24,25,26,27,28,29,30,31,32,33,34,35,36,37,38,39,40,41,42,43,44,45]]
 simp only [F7]
 rw [gQ hV 23 45 (.bool false)]
 clear hV
 refine wpList_nil ?_
 have HZ14 := Lib.hid (HZ13.out.kept k14)
 have HS14 := Lib.hid (HS13.out.kept k14)
 have HB14 := Lib.hid (HB13.out.kept k14)
 have kw14 := kw13.trans k14
 have z14 := k14.size
 clear HX13 HY13 HZ13 HS13 HB13 kw13 k14
 go_upto_region 8 with fail
 refine wp_text 6 [pE p 0, .sl w14.heap.size 39 10 1 (ents [⟨⟨0, 0, 0, 2, 0, 10, 0, 0, 0⟩, 3⟩]), pE p 0, iE 10, pE p 0, iE 2] rfl (by kernel_rfl) ?_ ?_
 ·refine mE 1 1 ?_
  refine cS 2 17 [.pointer (some ⟨p, 0, none⟩), .int .i64 2] rfl Try.func17 rfl (fun a u E D hk=>⟨ll (dD D 0) (ll rfl rfl), (bdepth_any u F11 p R3 2 (HB14.out.kept hk) inv3).base hk.size⟩) ?_
  refine mE 3 1 ?_
  refine cS 4 18 [.pointer (some ⟨p, 0, none⟩)] rfl Try.func18 rfl (fun a u E D hk=>⟨ll (dD D 2) rfl, blast_any u F11 p R3 (HB14.out.kept hk)⟩) ?_
  refine mE 5 1 ?_
  refine cS 6 19 [.pointer (some ⟨p, 0, none⟩)] rfl Try.func19 rfl (fun a u E D hk=>⟨ll (dD D 4) rfl, bno_any u F11 p R3 (HB14.out.kept hk)⟩) ?_
  exact fz
 intro gv w15 hV k15
 rw [dq 6 [46,47,48,49,50,51]]
 simp only [F7]
 have hv47 : (.sl w14.heap.size 39 10 1 (ents [⟨⟨0, 0, 0, 2, 0, 10, 0, 0, 0⟩, 3⟩]) : Kn).p (gv 47) w15 := hV 1 47 (by kernel_rfl)
 generalize gv 47 = v47 at hv47 ⊢
 rw [gQ hV 3 49 (.int .i64 10)]
 rw [gQ hV 5 51 (.int .i64 2)]
 clear hV
 refine l_val (v47) rfl (exec_assign _ _ rfl (by kernel_rfl)) ?_
 simp only [Act.put, sA, sS, sZ]
 refine l_val (.int .i64 10) rfl (exec_assign _ _ rfl (by kernel_rfl)) ?_
 simp only [Act.put, sA, sS, sZ]
 refine l_val (.int .i64 2) rfl (exec_assign _ _ rfl (by kernel_rfl)) ?_
 simp only [Act.put, sA, sS, sZ]
 refine wpList_nil ?_
 have HZ15 := Lib.hid (HZ14.out.kept k15)
 have HS15 := Lib.hid (HS14.out.kept k15)
 have HB15 := Lib.hid (HB14.out.kept k15)
 have kw15 := kw14.trans k15
 have z15 := k15.size
 have HD := Lib.hid hv47.1
 have HDo := Lib.hid hv47.2
 clear HZ14 HS14 HB14 kw14 k15 hv47
 go_upto_region 9 with fail
 refine wp_region_lit ?_
 refine l_val (.pointer (some ⟨p, 0, none⟩)) rfl (exec_move _ _ rfl (by kernel_rfl)) ?_
 simp only [Act.put, sA, sS, sZ]
 refine l_call 16 #[.int .i64 3, .int .i64 2, .int .i64 1, .int .i64 4, .int .i64 10, .int .i64 9] rfl (exec_call 16 _ [.const (.int .i64 3), .const (.int .i64 2), .const (.int .i64 1), .const (.int .i64 4), .const (.int .i64 10), .const (.int .i64 9)] _ _ Try.func16 (by kernel_rfl) (by kernel_rfl) rfl (by kernel_rfl) _) ?_
 refine (o_any 3 2 1 4 10 9 w15).mono ?_
 rintro r w16 ⟨_, rfl, rfl, kw16⟩
 refine ⟨_, rfl, ?_⟩
 simp only [Act.put, sA, sS, sZ]
 refine l_call 15 #[.pointer (some ⟨p, 0, none⟩), r4.v] rfl (exec_call 15 _ [.tmp 52, .tmp 53] _ _ Try.func15 (by kernel_rfl) (by kernel_rfl) rfl (by kernel_rfl) _) ?_
 refine (badd_at w16 F11 p R3 r4 _ run4 (HB15.out.kept kw16) inv3 (by decide)).mono ?_
 rintro r w17 ⟨F17, v4, rfl, hBw17, hSw17, hOw17, hGw17, hkw17⟩
 refine ⟨_, rfl, ?_⟩
 simp only [Act.put, sA, sS, sZ]
 refine l_val (.pointer (some ⟨p, 0, none⟩)) rfl (exec_move _ _ rfl (by kernel_rfl)) ?_
 simp only [Act.put, sA, sS, sZ]
 refine l_call 16 #[.int .i64 1, .int .i64 2, .int .i64 1, .int .i64 1, .int .i64 10, .int .i64 1] rfl (exec_call 16 _ [.const (.int .i64 1), .const (.int .i64 2), .const (.int .i64 1), .const (.int .i64 1), .const (.int .i64 10), .const (.int .i64 1)] _ _ Try.func16 (by kernel_rfl) (by kernel_rfl) rfl (by kernel_rfl) _) ?_
 refine (o_any 1 2 1 1 10 1 w17).mono ?_
 rintro r w18 ⟨_, rfl, rfl, kw18⟩
 refine ⟨_, rfl, ?_⟩
 simp only [Act.put, sA, sS, sZ]
 refine l_call 15 #[.pointer (some ⟨p, 0, none⟩), r5.v] rfl (exec_call 15 _ [.tmp 55, .tmp 56] _ _ Try.func15 (by kernel_rfl) (by kernel_rfl) rfl (by kernel_rfl) _) ?_
 refine (badd_at w18 F17 p R3 r5 _ run5 (hBw17.kept kw18) inv3 (by decide)).mono ?_
 rintro r w19 ⟨F19, v5, rfl, hBw19, hSw19, hOw19, hGw19, hkw19⟩
 refine ⟨_, rfl, ?_⟩
 simp only [Act.put, sA, sS, sZ]
 refine l_new (.pointer (some ⟨w19.heap.size, 0, none⟩)) (w19.alloc (.cells (zeroC.cells (.slice none 0 0)).toArray 29)) rfl (exec_alc 29 (zeroC.cells (.slice none 0 0)) rfl zC) ?_
 have hNw20 := Blk.new w19 29 (zeroC.cells (.slice none 0 0))
 have kw20 : Kept w19 (w19.alloc (.cells (zeroC.cells (.slice none 0 0)).toArray 29)) := (Keep.refl _ w19).alloc _
 generalize w19.alloc (.cells (zeroC.cells (.slice none 0 0)).toArray 29) = w20 at hNw20 kw20 ⊢
 simp only [Act.put, sA, sS, sZ]
 refine l_new (.pointer (some ⟨w20.heap.size, 0, none⟩)) (w20.alloc (.cells (zeroC.cells (.slice none 0 0)).toArray 29)) rfl (exec_alc 29 (zeroC.cells (.slice none 0 0)) rfl zC) ?_
 have hNw21 := Blk.new w20 29 (zeroC.cells (.slice none 0 0))
 have kw21 : Kept w20 (w20.alloc (.cells (zeroC.cells (.slice none 0 0)).toArray 29)) := (Keep.refl _ w20).alloc _
 generalize w20.alloc (.cells (zeroC.cells (.slice none 0 0)).toArray 29) = w21 at hNw21 kw21 ⊢
 simp only [Act.put, sA, sS, sZ]
 refine l_setS 29 w19.heap.size 29 (zeroC.cells (.slice none 0 0)) (oc4.cells v4) _ _ rfl rfl (by kernel_rfl) (by kernel_rfl) (hNw20.kept kw21) (by rw [Oc.len15]; exact szC) (by rw [Oc.len15, Oc.len15]) (Oc.one _ _ (sl_onec hSw17)) ?_
 intro w22 hCw22 hkw22 hsw22
 simp only [Act.put]
 refine l_setS 29 w20.heap.size 29 (zeroC.cells (.slice none 0 0)) (oc5.cells v5) _ _ rfl rfl (by kernel_rfl) (by kernel_rfl) (hNw21.keep hkw22 (by have := kw20.size; have := hNw20.lt; omega)) (by rw [Oc.len15]; exact szC) (by rw [Oc.len15, Oc.len15]) (Oc.one _ _ (sl_onec hSw19)) ?_
 intro w23 hCw23 hkw23 hsw23
 simp only [Act.put]
 refine wpList_nil ?_
 have z16 := kw16.size
 have z17 := hkw17.size
 have z18 := kw18.size
 have z19 := hkw19.size
 have z20 := kw20.size
 have z21 := kw21.size
 have l20 := hNw20.lt
 have l21 := hNw21.lt
 have G17 : Grow w15 F11 F17 := hGw17.wide (by omega)
 have K19 : Keep F11 w15 w19 := G17.keep (Keep.any kw16 hkw17) (Keep.any kw18 hkw19)
 have K23 : Keep F11 w15 w23 := (K19.trans (kw20.trans kw21) (fun _ _ h => h.elim)).new hkw22 (by omega) |>.new hkw23 (by omega)
 have HF11l := HB15.out.lt
 have HZ23 : Hid (Blk w23 a4 29 (oc3.cells v3)) := HZ15.out.keep K23 (fun h => by have := HF13.out _ h; omega)
 have HS23 : Hid (Sl w23 36 21 v3 2 (fls [f1, f2])) := HS15.out.keep K23 (fun b hb h => (HO13.out b hb).2.1 h)
 have HD23 : Hid (Sl w23 39 10 v47 1 (ents [⟨⟨0, 0, 0, 2, 0, 10, 0, 0, 0⟩, 3⟩])) := HD.out.keep K23 (fun b hb h => by have := HF13.out _ h; have := HDo.out b hb; omega)
 have HP23 : Hid (Blk w23 w19.heap.size 29 (oc4.cells v4)) := hCw22.keep hkw23 (by omega)
 have HQ23 : Hid (Blk w23 w20.heap.size 29 (oc5.cells v5)) := hCw23
 have kw23 : Kept w w23 := Keep.trans kw15 K23 (fun b hb h => by have := HF11.out b h; omega)
 obtain ⟨a8, ha8⟩ : ∃ a, w19.heap.size = a := ⟨_, rfl⟩
 obtain ⟨a9, ha9⟩ : ∃ a, w20.heap.size = a := ⟨_, rfl⟩
 rw [ha8] at HP23 ⊢
 rw [ha9] at HQ23 ⊢
 clear hBw17 hSw17 hOw17 hGw17 hkw17 hBw19 hSw19 hOw19 hGw19 hkw19 hNw20 hNw21 hCw22 hCw23 hkw22 hkw23 hsw22 hsw23 kw16 kw18 kw20 kw21 K19 K23 G17 HZ15 HS15 HB15 HD HDo HF11l kw15 ha8 ha9
 obtain ⟨g, off, c3, hv3⟩ := HS23.out.some_ (by omega)
 subst hv3
 have HE0 : Hid (w23.rangeAt g (off + 0 * 21) f1.cells) := HS23.out.rngF 0 f1 rfl
 have HE1 : Hid (w23.rangeAt g (off + 1 * 21) f2.cells) := HS23.out.rngF 1 f2 rfl
 have HE0' : Hid (w23.rangeAt g off f1.cells) := by have := HE0.out; rwa [Nat.zero_mul, Nat.add_zero] at this
 clear HE0
 go_upto_region 10 with fail
 refine wp_text 64 [pE a4 9, .eq (.slice (some ⟨g, off, none⟩) 2 c3), pE g off, pE g (off + 19), iE f1.qty, bE true, bE true, pE a4 9, .eq (.slice (some ⟨g, off, none⟩) 2 c3), pE g off, pE g (off + 18), iE f1.price, bE true, bE true, bE true, pE a4 9, .eq (.slice (some ⟨g, off, none⟩) 2 c3), pE g (off + 1 * 21), pE g (off + 1 * 21 + 19), iE f2.qty, bE true, bE true, bE true, pE a4 9, .eq (.slice (some ⟨g, off, none⟩) 2 c3), pE g (off + 1 * 21), pE g (off + 1 * 21 + 18), iE f2.price, bE true, bE true, bE true, .eq (v47), .eq ((Ord.mk 0 0 0 2 0 10 0 0 0).v), .eq ((Ent.mk (Ord.mk 0 0 0 2 0 10 0 0 0) (3)).v), .sl w23.heap.size 39 10 1 (Ent.mk (Ord.mk 0 0 0 2 0 10 0 0 0) (3)).cells, bE true, bE true, bE true, iE 10, bE true, bE true, bE true, iE 2, bE true, bE true, bE true, pE a8 14, iE oc4.err, bE true, bE true, bE true, pE a9 13, bE true, bE true, bE true, pE a9 10, iE oc5.left, bE true, bE true, bE true, pE a9 14, iE oc5.err, bE true, bE true] rfl (by kernel_rfl) ?_ ?_
 ·refine fE 1 4 29 1 9 0 ?_
  refine sW 2 rfl (fun a u E D hk=>exec_ldv _ _ Try.underlying26 _ _ _ rfl (dD D 0) (by rw [(HZ23.out.kept hk).cell]; rfl)) ?_
  refine sW 3 rfl (fun a u E D hk=>exec_ixo slF _ _ (g) (off) 2 c3 0 (off) (0) rfl (dD D 1) rfl (by first | rfl | omega) ((by omega)) (by first | rfl | omega)) ?_
  refine fD 4 60 2 36 3 19 off ?_
  refine sW 5 rfl (fun a u E D hk=>exec_loadi _ Try.underlying3 _ _ _ rfl (dD D 3) (range_int (range_kept HE0'.out hk) 19 _ rfl)) ?_
  refine aS 6 rfl (fun a u E D hk=>exec_eqn rfl (dD D 4) rfl) rfl ?_
  refine mD 7 63 5 ?_
  refine fE 8 4 29 1 9 0 ?_
  refine sW 9 rfl (fun a u E D hk=>exec_ldv _ _ Try.underlying26 _ _ _ rfl (dD D 7) (by rw [(HZ23.out.kept hk).cell]; rfl)) ?_
  refine sW 10 rfl (fun a u E D hk=>exec_ixo slF _ _ (g) (off) 2 c3 0 (off) (0) rfl (dD D 8) rfl (by first | rfl | omega) ((by omega)) (by first | rfl | omega)) ?_
  refine fD 11 67 9 36 2 18 off ?_
  refine sW 12 rfl (fun a u E D hk=>exec_loadi _ Try.underlying3 _ _ _ rfl (dD D 10) (range_int (range_kept HE0'.out hk) 18 _ rfl)) ?_
  refine aS 13 rfl (fun a u E D hk=>exec_eqn rfl (dD D 11) rfl) rfl ?_
  refine sW 14 rfl (fun a u E D hk=>exec_pick _ _ _ _ rfl (dD D 6) (dD D 12)) ?_
  refine mD 15 71 13 ?_
  refine fE 16 4 29 1 9 0 ?_
  refine sW 17 rfl (fun a u E D hk=>exec_ldv _ _ Try.underlying26 _ _ _ rfl (dD D 15) (by rw [(HZ23.out.kept hk).cell]; rfl)) ?_
  refine sW 18 rfl (fun a u E D hk=>exec_ixo slF _ _ (g) (off) 2 c3 1 (off + 1 * 21) (1) rfl (dD D 16) rfl (by first | rfl | omega) ((by omega)) (by first | rfl | omega)) ?_
  refine fD 19 75 17 36 3 19 (off + 1 * 21) ?_
  refine sW 20 rfl (fun a u E D hk=>exec_loadi _ Try.underlying3 _ _ _ rfl (dD D 18) (range_int (range_kept HE1.out hk) 19 _ rfl)) ?_
  refine aS 21 rfl (fun a u E D hk=>exec_eqn rfl (dD D 19) rfl) rfl ?_
  refine sW 22 rfl (fun a u E D hk=>exec_pick _ _ _ _ rfl (dD D 14) (dD D 20)) ?_
  refine mD 23 79 21 ?_
  refine fE 24 4 29 1 9 0 ?_
  refine sW 25 rfl (fun a u E D hk=>exec_ldv _ _ Try.underlying26 _ _ _ rfl (dD D 23) (by rw [(HZ23.out.kept hk).cell]; rfl)) ?_
  refine sW 26 rfl (fun a u E D hk=>exec_ixo slF _ _ (g) (off) 2 c3 1 (off + 1 * 21) (1) rfl (dD D 24) rfl (by first | rfl | omega) ((by omega)) (by first | rfl | omega)) ?_
  refine fD 27 83 25 36 2 18 (off + 1 * 21) ?_
  refine sW 28 rfl (fun a u E D hk=>exec_loadi _ Try.underlying3 _ _ _ rfl (dD D 26) (range_int (range_kept HE1.out hk) 18 _ rfl)) ?_
  refine aS 29 rfl (fun a u E D hk=>exec_eqn rfl (dD D 27) rfl) rfl ?_
  refine sW 30 rfl (fun a u E D hk=>exec_pick _ _ _ _ rfl (dD D 22) (dD D 28)) ?_
  refine mD 31 87 29 ?_
  refine mE 32 5 ?_
  refine sW 33 rfl (fun a u E D hk=>exec_build 25 _ (Ord.mk 0 0 0 2 0 10 0 0 0).cells rfl (by kernel_rfl)) ?_
  refine sW 34 rfl (fun a u E D hk=>exec_bent 39 builtH _ _ ((Ord.mk 0 0 0 2 0 10 0 0 0)) (3) rfl (dD D 32) rfl) ?_
  refine nW 35 rfl (fun a u E D hk=>⟨_, _, exec_oneS slH _ (Ent.mk (Ord.mk 0 0 0 2 0 10 0 0 0) (3)).cells (by omega) rfl (dD D 33) ((Ent.mk (Ord.mk 0 0 0 2 0 10 0 0 0) (3)).len10), (sl_one u 39 10 _ w23.heap.size ((Ent.mk (Ord.mk 0 0 0 2 0 10 0 0 0) (3)).len10) (by omega) hk.size), ((Keep.refl _ u).alloc _)⟩) ?_
  refine fsteps_cons 36 rfl (fun a u hE hD hk => f_call 20 #[v47, a.eval (.tmp 92)] rfl (wanted_at (b := true) true rfl rfl (dD hD 30)) (exec_call 20 _ [.tmp 89, .tmp 92] _ [v47, a.eval (.tmp 92)] Try.func20 (by kernel_rfl) (by kernel_rfl) rfl (show [a.eval (.tmp 89), a.eval (.tmp 92)] = [v47, a.eval (.tmp 92)] from (by rw [show a.eval (.tmp 89) = v47 from (dD hD 31)] <;> rfl)) u) ((by have h := sameH_any v47 (a.eval (.tmp 92)) 1 1 [⟨⟨0, 0, 0, 2, 0, 10, 0, 0, 0⟩, 3⟩] [⟨⟨0, 0, 0, 2, 0, 10, 0, 0, 0⟩, 3⟩] u (HD23.out.kept hk) (hD 34 92 (by kernel_rfl)).1 (by decide) (by decide); rwa [decide_eq_true rfl] at h))) ?_
  refine sW 37 rfl (fun a u E D hk=>exec_pick _ _ _ _ rfl (dD D 30) (dD D 35)) ?_
  refine mD 38 94 36 ?_
  refine mE 39 6 ?_
  refine aS 40 rfl (fun a u E D hk=>exec_eqn rfl (dD D 38) rfl) rfl ?_
  refine sW 41 rfl (fun a u E D hk=>exec_pick _ _ _ _ rfl (dD D 37) (dD D 39)) ?_
  refine mD 42 98 40 ?_
  refine mE 43 7 ?_
  refine aS 44 rfl (fun a u E D hk=>exec_eqn rfl (dD D 42) rfl) rfl ?_
  refine sW 45 rfl (fun a u E D hk=>exec_pick _ _ _ _ rfl (dD D 41) (dD D 43)) ?_
  refine mD 46 102 44 ?_
  refine fE 47 8 29 6 14 0 ?_
  refine sW 48 rfl (fun a u E D hk=>exec_loadi _ Try.underlying27 _ _ _ rfl (dD D 46) (by rw [(HP23.out.kept hk).cell]; rfl)) ?_
  refine aS 49 rfl (fun a u E D hk=>exec_eqn rfl (dD D 47) rfl) rfl ?_
  refine sW 50 rfl (fun a u E D hk=>exec_pick _ _ _ _ rfl (dD D 45) (dD D 48)) ?_
  refine mD 51 107 49 ?_
  refine fE 52 9 29 5 13 0 ?_
  refine aS 53 rfl (fun a u E D hk=>exec_ldb _ Try.underlying4 _ _ _ rfl (dD D 51) (by rw [(HQ23.out.kept hk).cell]; rfl)) rfl ?_
  refine sW 54 rfl (fun a u E D hk=>exec_pick _ _ _ _ rfl (dD D 50) (dD D 52)) ?_
  refine mD 55 111 53 ?_
  refine fE 56 9 29 2 10 0 ?_
  refine sW 57 rfl (fun a u E D hk=>exec_loadi _ Try.underlying3 _ _ _ rfl (dD D 55) (by rw [(HQ23.out.kept hk).cell]; rfl)) ?_
  refine aS 58 rfl (fun a u E D hk=>exec_eqn rfl (dD D 56) rfl) rfl ?_
  refine sW 59 rfl (fun a u E D hk=>exec_pick _ _ _ _ rfl (dD D 54) (dD D 57)) ?_
  refine mD 60 116 58 ?_
  refine fE 61 9 29 6 14 0 ?_
  refine sW 62 rfl (fun a u E D hk=>exec_loadi _ Try.underlying27 _ _ _ rfl (dD D 60) (by rw [(HQ23.out.kept hk).cell]; rfl)) ?_
  refine aS 63 rfl (fun a u E D hk=>exec_eqn rfl (dD D 61) rfl) rfl ?_
  refine sW 64 rfl (fun a u E D hk=>exec_pick _ _ _ _ rfl (dD D 59) (dD D 62)) ?_
  exact fz
 intro gv w24 hV k24
 rw [dq 64 [58,59,60,61,62,63,64,65,66,67,68,69,70,71,72,73,74,75,76,77,78,79,80,81,82,83,84,85,86,87,88,89,90,91,92,93,94,95,96,97,98,99,100,101,102,103,104,105,106,107,108,109,110,111,112,113,114,115,116,117,118,119,120,121]]
 simp only [List.append_eq, List.cons_append, List.nil_append]
 simp only [F7]
 rw [gQ hV 63 121 (.bool true)]
 clear hV
 refine l_val (.bool true) rfl (exec_assign _ _ rfl (by kernel_rfl)) ?_
 simp only [Act.put, List.setIfInBounds_toArray, List.set_cons_zero]
 refine wpList_nil ?_
 go_wp2
 go_ret
 exact ⟨rfl, kw23.trans k24⟩
end Go.Proofs.Ytfpfpmhkkgfdbaa
