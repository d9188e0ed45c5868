/-
  Chapter 9's runs. No condition.
-/
import Derived.Test.YtlbkehpdohihlaaLvlT
import Derived.Test.YtlbkehpdohihlaaTwo9
namespace Go.Proofs.Ytlbkehpdohihlaa
open Go.RowKit
set_option linter.unusedVariables false
def a9 : Ord := ⟨1, 1, 1, 2, 1, 7, 5, 2, 0⟩
def b9 : Ord := ⟨2, 1, 2, 2, 1, 7, 3, 0, 0⟩
def X9 : List Ent := [Ent.of a9, Ent.of b9]
def Y9 : List Ent := [⟨b9.q 1, 1⟩, ⟨a9.q 3, 2⟩]
def H9 : List Ent := [⟨a9, 2⟩, ⟨b9, 2⟩]
instance (e : Ent) : Decidable e.ok := by unfold Ent.ok; infer_instance
theorem good_X9 : Good X9 := ⟨by decide, by decide⟩
theorem good_Y9 : Good Y9 := ⟨by decide, by decide⟩
theorem take_X9 : takeM 3 4 X9 = (H9, false, Y9) := by
  unfold X9
  rw [takeM_go 3 4 (Ent.of a9) [Ent.of b9] (by decide) (by decide) (by decide)]
  rw [show (4 : Int) - mn 4 (Ent.of a9).n = 2 from rfl, show nextM (Ent.of a9) (mn 4 (Ent.of a9).n) [Ent.of b9] = [Ent.of b9, ⟨a9.q 3, 2⟩] from rfl]
  rw [takeM_go 3 2 (Ent.of b9) [⟨a9.q 3, 2⟩] (by decide) (by decide) (by decide)]
  rw [show (2 : Int) - mn 2 (Ent.of b9).n = 0 from rfl, show nextM (Ent.of b9) (mn 2 (Ent.of b9).n) [⟨a9.q 3, 2⟩] = Y9 from rfl]
  rw [takeM_zero 3 0 Y9 (by decide)]
  rfl
theorem take_Y9 : takeM 2 1 Y9 = ([], true, Y9) := takeM_own 2 1 ⟨b9.q 1, 1⟩ [⟨a9.q 3, 2⟩] (by decide) (by decide) rfl

set_option maxRecDepth 100000 in
set_option maxHeartbeats 1600000 in
theorem levelRuns_any (w : World) : Calls Try.prog 3 #[] w fun e w' => e = .returned (.bool true) ∧ Kept w w' := by
  go_enter Try.func3, Try.ntmps3
  go_upto_region 1 with fail
  refine wp_region_lit ?_
  refine l_call (o := ⟨some 11, _, _, _, _, _⟩) 9 #[.int .i64 7] rfl (exec_call 9 _ [.const (.int .i64 7)] _ _ Try.func9 (by kernel_rfl) (by kernel_rfl) rfl (by kernel_rfl) _) ?_
  refine (new_any w).mono ?_
  rintro r w1 ⟨p, F1, rfl, hL1, hG1, k1⟩
  refine ⟨_, rfl, ?_⟩
  simp only [Act.put, List.setIfInBounds_toArray, List.set_cons_succ, List.set_cons_zero]
  refine l_val (o := ⟨some 1, _, _, _, _, _⟩) (.pointer (some ⟨p, 0, none⟩)) rfl (exec_assign (.tmp 11) (.pointer (some ⟨p, 0, none⟩)) rfl (by kernel_rfl)) ?_
  simp only [Act.put, List.setIfInBounds_toArray, List.set_cons_succ, List.set_cons_zero]
  refine wpList_nil ?_
  have HF1 : Hid (∀ b, F1 b → w.heap.size ≤ b) := fun b hb => (hG1 b hb).elim (fun h => h.elim) id
  have HL1 := Lib.hid hL1
  have HFL1 : Hid (∀ b, F1 b → b < w1.heap.size) := hL1.2.1
  clear hL1 hG1
  go_upto_region 4 with fail
  refine wp_text 2 [.eq (a9.v), .fresh w1.heap.size 25 zeroO.cells] rfl (by kernel_rfl) ?_ ?_
  · refine fsteps_cons 1 rfl (fun a u hE hD hk => f_val (o := ⟨some 14, _, _, _, _, _⟩) (a9.v) rfl (wanted_none rfl _) (exec_build 25 _ a9.cells rfl (by kernel_rfl)) rfl) ?_
    refine fsteps_cons 2 rfl (fun a u hE hD hk => f_new (o := ⟨some 2, _, _, _, _, _⟩) (.pointer (some ⟨u.heap.size, 0, none⟩)) _ rfl (wanted_none rfl _) (exec_alc 25 zeroO.cells rfl zO) ⟨_, rfl, hk.size, Blk.new u _ _⟩ ((Keep.refl _ u).alloc _)) ?_
    exact fsteps_nil
  intro gv u1 hV ku1
  rw [show dstsOf _ 2 = [14, 2] by kernel_rfl]
  simp only [List.foldl_cons, List.foldl_nil, List.setIfInBounds_toArray, List.set_cons_succ, List.set_cons_zero, List.drop_succ_cons, List.drop_zero]
  have hv2 : (.fresh w1.heap.size 25 zeroO.cells : Kn).p (gv 2) u1 := hV 1 2 (by kernel_rfl)
  generalize gv 2 = v2 at hv2 ⊢
  rw [show gv 14 = a9.v from hV 0 14 (by kernel_rfl)]
  clear hV
  obtain ⟨g2, rfl, hg2, hN2⟩ := hv2
  refine l_setS (o := ⟨none, _, _, _, _, _⟩) 25 g2 25 zeroO.cells a9.cells (.tmp 2) (.tmp 14) rfl rfl (by kernel_rfl) (by kernel_rfl) hN2 (by rw [Ord.len9]; exact ord_size) (by rw [Ord.len9, Ord.len9]) (Ord.one1 _) ?_
  intro w2 hB2 hkk hss
  simp only [Act.put]
  refine wpList_nil ?_
  have q2 : Kept w1 w2 := ku1.trans' hkk (by omega)
  have HO2 := Lib.hid (blk_range hB2)
  have hl2 := hB2.lt
  have HL2 := Lib.hid (HL1.out.kept q2)
  have z2 := q2.size
  clear hN2 hB2 hkk ku1 HL1 hss
  go_upto_region 5 with fail
  refine wp_text 2 [.eq (b9.v), .fresh w2.heap.size 25 zeroO.cells] rfl (by kernel_rfl) ?_ ?_
  · refine fsteps_cons 1 rfl (fun a u hE hD hk => f_val (o := ⟨some 15, _, _, _, _, _⟩) (b9.v) rfl (wanted_none rfl _) (exec_build 25 _ b9.cells rfl (by kernel_rfl)) rfl) ?_
    refine fsteps_cons 2 rfl (fun a u hE hD hk => f_new (o := ⟨some 3, _, _, _, _, _⟩) (.pointer (some ⟨u.heap.size, 0, none⟩)) _ rfl (wanted_none rfl _) (exec_alc 25 zeroO.cells rfl zO) ⟨_, rfl, hk.size, Blk.new u _ _⟩ ((Keep.refl _ u).alloc _)) ?_
    exact fsteps_nil
  intro gv u2 hV ku2
  rw [show dstsOf _ 2 = [15, 3] by kernel_rfl]
  simp only [List.foldl_cons, List.foldl_nil, List.setIfInBounds_toArray, List.set_cons_succ, List.set_cons_zero, List.drop_succ_cons, List.drop_zero]
  have hv3 : (.fresh w2.heap.size 25 zeroO.cells : Kn).p (gv 3) u2 := hV 1 3 (by kernel_rfl)
  generalize gv 3 = v3 at hv3 ⊢
  rw [show gv 15 = b9.v from hV 0 15 (by kernel_rfl)]
  clear hV
  obtain ⟨g3, rfl, hg3, hN3⟩ := hv3
  refine l_setS (o := ⟨none, _, _, _, _, _⟩) 25 g3 25 zeroO.cells b9.cells (.tmp 3) (.tmp 15) rfl rfl (by kernel_rfl) (by kernel_rfl) hN3 (by rw [Ord.len9]; exact ord_size) (by rw [Ord.len9, Ord.len9]) (Ord.one1 _) ?_
  intro w3 hB3 hkk hss
  simp only [Act.put]
  refine wpList_nil ?_
  have q3 : Kept w2 w3 := ku2.trans' hkk (by omega)
  have HO3 := Lib.hid (blk_range hB3)
  have hl3 := hB3.lt
  have HL3 := Lib.hid (HL2.out.kept q3)
  have z3 := q3.size
  have HO2 := Lib.hid (range_kept HO2.out q3)
  clear hN3 hB3 hkk ku2 HL2 hss
  have kw3 : Kept w w3 := (k1.trans q2).trans q3
  have sw := kw3.size
  clear q2 q3 k1
  have HFL : Hid (∀ b, F1 b → b < w1.heap.size) := HFL1.out
  go_upto_region 6 with fail
  refine wp_text 2 [.eq (.pointer (some ⟨p, 0, none⟩)), .eq (a9.v)] rfl (by kernel_rfl) ?_ ?_
  · refine fsteps_cons 1 rfl (fun a u hE hD hk => f_val (o := ⟨some 16, _, _, _, _, _⟩) (.pointer (some ⟨p, 0, none⟩)) rfl (wanted_none rfl _) (exec_move (.tmp 1) (.pointer (some ⟨p, 0, none⟩)) rfl (hE 1 (.pointer (some ⟨p, 0, none⟩)) (by kernel_rfl) (by kernel_rfl))) rfl) ?_
    refine fsteps_cons 2 rfl (fun a u hE hD hk => f_val (o := ⟨some 17, _, _, _, _, _⟩) (a9.v) rfl (wanted_none rfl _) (exec_ldS 25 _ (.tmp 2) (g2) (0) (a9.cells) rfl (hE 2 (.pointer (some ⟨g2, 0, none⟩)) (by kernel_rfl) (by kernel_rfl)) (range_kept HO2.out hk) Try.underlying25 (by rw [a9.len9]; exact ord_size)) rfl) ?_
    exact fsteps_nil
  intro gv u3 hV ku3
  rw [show dstsOf _ 2 = [16, 17] by kernel_rfl]
  simp only [List.foldl_cons, List.foldl_nil, List.setIfInBounds_toArray, List.set_cons_succ, List.set_cons_zero, List.drop_succ_cons, List.drop_zero]
  rw [show gv 16 = .pointer (some ⟨p, 0, none⟩) from hV 0 16 (by kernel_rfl)]
  rw [show gv 17 = a9.v from hV 1 17 (by kernel_rfl)]
  clear hV
  refine l_call (o := ⟨some 18, _, _, _, _, _⟩) 10 #[.pointer (some ⟨p, 0, none⟩), a9.v] rfl (exec_call 10 _ [.tmp 16, .tmp 17] _ _ Try.func10 (by kernel_rfl) (by kernel_rfl) rfl (by kernel_rfl) _) ?_
  refine (add_any u3 F1 p ([] : List Ent) a9 (HL3.out.kept ku3) (by simp)).mono ?_
  rintro r w4 ⟨F2, rfl, hLn, hGn, hkn⟩
  refine ⟨_, rfl, ?_⟩
  simp only [Act.put, List.setIfInBounds_toArray, List.set_cons_succ, List.set_cons_zero]
  refine wpList_nil ?_
  have zu := ku3.size
  have zn := hkn.size
  have HF2 : Hid (∀ b, F2 b → w.heap.size ≤ b ∧ b ≠ g2 ∧ b ≠ g3) := fun b hb => by
    rcases hGn b hb with h | h
    · have h1 := HF1.out b h; have h2 := HFL.out b h; exact ⟨h1, by omega, by omega⟩
    · exact ⟨by omega, by omega, by omega⟩
  have HO2 := Lib.hid (range_keep (range_kept HO2.out ku3) hkn (fun h => by have := HFL.out g2 h; omega))
  have HO3 := Lib.hid (range_keep (range_kept HO3.out ku3) hkn (fun h => by have := HFL.out g3 h; omega))
  have kw4 : Kept w w4 := Keep.trans (kw3.trans ku3) hkn (fun b hb h => by have := HF1.out b h; omega)
  have HL4 := Lib.hid hLn
  have zsz4 : w3.heap.size ≤ w4.heap.size := by omega
  clear hLn hGn hkn ku3 HL3 zu zn kw3
  have zs4 : w3.heap.size ≤ w4.heap.size := zsz4
  go_upto_region 7 with fail
  refine wp_text 2 [.eq (.pointer (some ⟨p, 0, none⟩)), .eq (b9.v)] rfl (by kernel_rfl) ?_ ?_
  · refine fsteps_cons 1 rfl (fun a u hE hD hk => f_val (o := ⟨some 19, _, _, _, _, _⟩) (.pointer (some ⟨p, 0, none⟩)) rfl (wanted_none rfl _) (exec_move (.tmp 1) (.pointer (some ⟨p, 0, none⟩)) rfl (hE 1 (.pointer (some ⟨p, 0, none⟩)) (by kernel_rfl) (by kernel_rfl))) rfl) ?_
    refine fsteps_cons 2 rfl (fun a u hE hD hk => f_val (o := ⟨some 20, _, _, _, _, _⟩) (b9.v) rfl (wanted_none rfl _) (exec_ldS 25 _ (.tmp 3) (g3) (0) (b9.cells) rfl (hE 3 (.pointer (some ⟨g3, 0, none⟩)) (by kernel_rfl) (by kernel_rfl)) (range_kept HO3.out hk) Try.underlying25 (by rw [b9.len9]; exact ord_size)) rfl) ?_
    exact fsteps_nil
  intro gv u4 hV ku4
  rw [show dstsOf _ 2 = [19, 20] by kernel_rfl]
  simp only [List.foldl_cons, List.foldl_nil, List.setIfInBounds_toArray, List.set_cons_succ, List.set_cons_zero, List.drop_succ_cons, List.drop_zero]
  rw [show gv 19 = .pointer (some ⟨p, 0, none⟩) from hV 0 19 (by kernel_rfl)]
  rw [show gv 20 = b9.v from hV 1 20 (by kernel_rfl)]
  clear hV
  refine l_call (o := ⟨some 21, _, _, _, _, _⟩) 10 #[.pointer (some ⟨p, 0, none⟩), b9.v] rfl (exec_call 10 _ [.tmp 19, .tmp 20] _ _ Try.func10 (by kernel_rfl) (by kernel_rfl) rfl (by kernel_rfl) _) ?_
  refine (add_any u4 F2 p ([] ++ [Ent.of a9]) b9 (HL4.out.kept ku4) (by simp)).mono ?_
  rintro r w5 ⟨F3, rfl, hLn, hGn, hkn⟩
  refine ⟨_, rfl, ?_⟩
  simp only [Act.put, List.setIfInBounds_toArray, List.set_cons_succ, List.set_cons_zero]
  refine wpList_nil ?_
  have zu := ku4.size
  have zn := hkn.size
  have HF3 : Hid (∀ b, F3 b → w.heap.size ≤ b ∧ b ≠ g2 ∧ b ≠ g3) := fun b hb => by
    rcases hGn b hb with h | h
    · exact HF2.out b h
    · exact ⟨by omega, by omega, by omega⟩
  have HO2 := Lib.hid (range_keep (range_kept HO2.out ku4) hkn (fun h => (HF2.out g2 h).2.1 rfl))
  have HO3 := Lib.hid (range_keep (range_kept HO3.out ku4) hkn (fun h => (HF2.out g3 h).2.2 rfl))
  have kw5 : Kept w w5 := Keep.trans (kw4.trans ku4) hkn (fun b hb h => by have := (HF2.out b h).1; omega)
  have HL5 := Lib.hid hLn
  have zsz5 : w4.heap.size ≤ w5.heap.size := by omega
  clear hLn hGn hkn ku4 HL4 zu zn kw4
  have zs5 : w4.heap.size ≤ w5.heap.size := zsz5
  have HL5 : Hid (Lvl 58 61 w5 F3 p X9) := HL5.out
  go_upto_region 8 with fail
  refine wp_region_lit ?_
  refine l_val (o := ⟨some 23, _, _, _, _, _⟩) (.pointer (some ⟨p, 0, none⟩)) rfl (exec_move (.tmp 1) (.pointer (some ⟨p, 0, none⟩)) rfl (by kernel_rfl)) ?_
  simp only [Act.put, List.setIfInBounds_toArray, List.set_cons_succ, List.set_cons_zero]
  refine l_call (o := ⟨some 24, _, _, _, _, _⟩) 11 #[.pointer (some ⟨p, 0, none⟩), .int .i64 3, .int .i64 4] rfl (exec_call 11 _ [.tmp 23, .const (.int .i64 3), .const (.int .i64 4)] _ _ Try.func11 (by kernel_rfl) (by kernel_rfl) rfl (by kernel_rfl) _) ?_
  refine (take_any w5 F3 p X9 3 4 HL5.out good_X9 (by decide)).mono ?_
  rintro r w6 ⟨F4, v4, rfl, hL6, hS6, hO6, hG6, hk6⟩
  refine ⟨_, rfl, ?_⟩
  simp only [Act.put, List.setIfInBounds_toArray, List.set_cons_succ, List.set_cons_zero]
  refine l_val (o := ⟨some 22, _, _, _, _, _⟩) (.tuple #[v4, .bool (takeM 3 4 X9).2.1]) rfl (exec_move (.tmp 24) (.tuple #[v4, .bool (takeM 3 4 X9).2.1]) rfl (by kernel_rfl)) ?_
  simp only [Act.put, List.setIfInBounds_toArray, List.set_cons_succ, List.set_cons_zero]
  refine l_val (o := ⟨some 25, _, _, _, _, _⟩) (v4) rfl (exec_extract (.tmp 22) [v4, .bool (takeM 3 4 X9).2.1] 0 (v4) rfl (by kernel_rfl) rfl) ?_
  simp only [Act.put, List.setIfInBounds_toArray, List.set_cons_succ, List.set_cons_zero]
  refine l_val (o := ⟨some 26, _, _, _, _, _⟩) (.bool (takeM 3 4 X9).2.1) rfl (exec_extract (.tmp 22) [v4, .bool (takeM 3 4 X9).2.1] 1 (.bool (takeM 3 4 X9).2.1) rfl (by kernel_rfl) rfl) ?_
  simp only [Act.put, List.setIfInBounds_toArray, List.set_cons_succ, List.set_cons_zero]
  refine l_val (o := ⟨some 4, _, _, _, _, _⟩) (v4) rfl (exec_assign (.tmp 25) (v4) rfl (by kernel_rfl)) ?_
  simp only [Act.put, List.setIfInBounds_toArray, List.set_cons_succ, List.set_cons_zero]
  refine l_val (o := ⟨some 5, _, _, _, _, _⟩) (.bool (takeM 3 4 X9).2.1) rfl (exec_assign (.tmp 26) (.bool (takeM 3 4 X9).2.1) rfl (by kernel_rfl)) ?_
  simp only [Act.put, List.setIfInBounds_toArray, List.set_cons_succ, List.set_cons_zero]
  refine wpList_nil ?_
  rw [take_X9] at hL6 hS6 ⊢
  have z6 := hk6.size
  have HF4 : Hid (∀ b, F4 b → w.heap.size ≤ b ∧ b ≠ g2 ∧ b ≠ g3) := fun b hb => by
    rcases hG6 b hb with h | h
    · exact HF3.out b h
    · exact ⟨by omega, by omega, by omega⟩
  have HO2 := Lib.hid (range_keep HO2.out hk6 (fun h => (HF3.out g2 h).2.1 rfl))
  have HO3 := Lib.hid (range_keep HO3.out hk6 (fun h => (HF3.out g3 h).2.2 rfl))
  have kw6 : Kept w w6 := Keep.trans kw5 hk6 (fun b hb h => by have := (HF3.out b h).1; omega)
  have HL6 : Hid (Lvl 58 61 w6 F4 p Y9) := hL6
  have HS6 : Hid (Sl w6 35 10 v4 2 (ents H9)) := hS6
  have HV4 : Hid (∀ b, v4.ownBlock = some b → ¬ F4 b) := fun b hb => (hO6 b hb).2
  clear hL6 hS6 hO6 hG6 hk6 HL5 kw5
  go_upto_region 9 with fail
  refine wp_region_lit ?_
  refine l_val (o := ⟨some 27, _, _, _, _, _⟩) (.pointer (some ⟨p, 0, none⟩)) rfl (exec_move (.tmp 1) (.pointer (some ⟨p, 0, none⟩)) rfl (by kernel_rfl)) ?_
  simp only [Act.put, List.setIfInBounds_toArray, List.set_cons_succ, List.set_cons_zero]
  refine l_call (o := ⟨some 28, _, _, _, _, _⟩) 12 #[.pointer (some ⟨p, 0, none⟩)] rfl (exec_call 12 _ [.tmp 27] _ _ Try.func12 (by kernel_rfl) (by kernel_rfl) rfl (by kernel_rfl) _) ?_
  refine (seen_any w6 F4 p Y9 HL6.out good_Y9).mono ?_
  rintro r w7 ⟨_, rfl, rfl, k7⟩
  refine ⟨_, rfl, ?_⟩
  simp only [Act.put, List.setIfInBounds_toArray, List.set_cons_succ, List.set_cons_zero]
  refine l_val (o := ⟨some 29, _, _, _, _, _⟩) (.pointer (some ⟨p, 0, none⟩)) rfl (exec_move (.tmp 1) (.pointer (some ⟨p, 0, none⟩)) rfl (by kernel_rfl)) ?_
  simp only [Act.put, List.setIfInBounds_toArray, List.set_cons_succ, List.set_cons_zero]
  refine l_call (o := ⟨some 30, _, _, _, _, _⟩) 13 #[.pointer (some ⟨p, 0, none⟩)] rfl (exec_call 13 _ [.tmp 29] _ _ Try.func13 (by kernel_rfl) (by kernel_rfl) rfl (by kernel_rfl) _) ?_
  refine (orders_any w7 F4 p Y9 (HL6.out.kept k7) good_Y9).mono ?_
  rintro r w8 ⟨v7, rfl, hv7, k8⟩
  refine ⟨_, rfl, ?_⟩
  simp only [Act.put, List.setIfInBounds_toArray, List.set_cons_succ, List.set_cons_zero]
  refine l_val (o := ⟨some 6, _, _, _, _, _⟩) (.int .i64 3) rfl (exec_assign (.tmp 28) (.int .i64 3) rfl (by kernel_rfl)) ?_
  simp only [Act.put, List.setIfInBounds_toArray, List.set_cons_succ, List.set_cons_zero]
  refine l_val (o := ⟨some 7, _, _, _, _, _⟩) (v7) rfl (exec_assign (.tmp 30) (v7) rfl (by kernel_rfl)) ?_
  simp only [Act.put, List.setIfInBounds_toArray, List.set_cons_succ, List.set_cons_zero]
  refine wpList_nil ?_
  have k68 := k7.trans k8
  have HL8 := Lib.hid (HL6.out.kept k68)
  have HS8 := Lib.hid (HS6.out.kept k68)
  have HO2 := Lib.hid (range_kept HO2.out k68)
  have HO3 := Lib.hid (range_kept HO3.out k68)
  have HV7 : Hid (Sl w8 25 9 v7 2 (ords [b9.q 1, a9.q 3])) := hv7.1
  have HW7 : Hid (∀ b, v7.ownBlock = some b → w6.heap.size ≤ b) := fun b hb => Nat.le_trans k7.size (hv7.2 b hb)
  have kw8 := kw6.trans k68
  have z8 := k68.size
  have HF4L : Hid (∀ b, F4 b → b < w6.heap.size) := HL6.out.2.1
  clear hv7 k7 k8 k68 HL6 HS6 kw6
  go_upto_region 10 with fail
  refine wp_text 3 [.eq (b9.v), .eq (a9.v), .sl2 w8.heap.size 25 9 (b9.cells ++ a9.cells)] rfl (by kernel_rfl) ?_ ?_
  · refine fsteps_cons 1 rfl (fun a u hE hD hk => f_val (o := ⟨some 31, _, _, _, _, _⟩) (b9.v) rfl (wanted_none rfl _) (exec_ldS 25 _ (.tmp 3) (g3) (0) (b9.cells) rfl (hE 3 (.pointer (some ⟨g3, 0, none⟩)) (by kernel_rfl) (by kernel_rfl)) (range_kept HO3.out hk) Try.underlying25 (by rw [b9.len9]; exact ord_size)) rfl) ?_
    refine fsteps_cons 2 rfl (fun a u hE hD hk => f_val (o := ⟨some 32, _, _, _, _, _⟩) (a9.v) rfl (wanted_none rfl _) (exec_ldS 25 _ (.tmp 2) (g2) (0) (a9.cells) rfl (hE 2 (.pointer (some ⟨g2, 0, none⟩)) (by kernel_rfl) (by kernel_rfl)) (range_kept HO2.out hk) Try.underlying25 (by rw [a9.len9]; exact ord_size)) rfl) ?_
    refine fsteps_cons 3 rfl (fun a u hE hD hk => f_new (o := ⟨some 33, _, _, _, _, _⟩) (.slice (some ⟨u.heap.size, 0, none⟩) 2 2) _ rfl (wanted_none rfl _) (exec_twoS slO (.tmp 31) (.tmp 32) b9.cells a9.cells (by omega) rfl (hD 0 31 (by kernel_rfl)) (hD 1 32 (by kernel_rfl)) b9.len9 a9.len9) ⟨u.heap.size, rfl, hk.size, (sl_two u _ 9 _ 0 rfl (by omega) (by omega)).1⟩ ((Keep.refl _ u).alloc _)) ?_
    exact fsteps_nil
  intro gv w9 hV k9
  rw [show dstsOf _ 3 = [31, 32, 33] by kernel_rfl]
  simp only [List.foldl_cons, List.foldl_nil, List.setIfInBounds_toArray, List.set_cons_succ, List.set_cons_zero, List.drop_succ_cons, List.drop_zero]
  have hv33 : (.sl2 w8.heap.size 25 9 (b9.cells ++ a9.cells) : Kn).p (gv 33) w9 := hV 2 33 (by kernel_rfl)
  generalize gv 33 = v33 at hv33 ⊢
  clear hV
  obtain ⟨g8, rfl, hg8, hs9⟩ := hv33
  refine l_val (o := ⟨some 8, _, _, _, _, _⟩) (.slice (some ⟨g8, 0, none⟩) 2 2) rfl (exec_assign (.tmp 33) (.slice (some ⟨g8, 0, none⟩) 2 2) rfl (by kernel_rfl)) ?_
  simp only [Act.put, List.setIfInBounds_toArray, List.set_cons_succ, List.set_cons_zero]
  refine wpList_nil ?_
  have HS9 : Hid (Sl w9 25 9 (.slice (some ⟨g8, 0, none⟩) 2 2) 2 (ords [b9, a9])) := hs9
  have z9 := k9.size
  have hg8l : g8 < w9.heap.size := hs9.lt rfl
  clear hs9
  go_upto_region 11 with fail
  refine wp_region_lit ?_
  refine l_val (o := ⟨some 34, _, _, _, _, _⟩) (.slice (some ⟨g8, 0, none⟩) 2 2) rfl (exec_move (.tmp 8) (.slice (some ⟨g8, 0, none⟩) 2 2) rfl (by kernel_rfl)) ?_
  simp only [Act.put, List.setIfInBounds_toArray, List.set_cons_succ, List.set_cons_zero]
  refine l_val (o := ⟨some 35, _, _, _, _, _⟩) (.slice (some ⟨g8, 0, none⟩) 2 2) rfl (exec_move (.tmp 8) (.slice (some ⟨g8, 0, none⟩) 2 2) rfl (by kernel_rfl)) ?_
  simp only [Act.put, List.setIfInBounds_toArray, List.set_cons_succ, List.set_cons_zero]
  refine l_val (o := ⟨some 36, _, _, _, _, _⟩) (.pointer (some ⟨g8, 0, none⟩)) rfl (exec_ixo slO (.tmp 34) (.const (.int .i64 0)) (g8) (0) 2 2 0 (0) (0) rfl (by kernel_rfl) rfl (by first | rfl | omega) ((by omega)) (by first | rfl | omega)) ?_
  simp only [Act.put, List.setIfInBounds_toArray, List.set_cons_succ, List.set_cons_zero]
  refine l_val (o := ⟨some 37, _, _, _, _, _⟩) (.pointer (some ⟨g8, 6, none⟩)) rfl (exec_fldo 25 6 6 (.tmp 36) (g8) (0) (6) rfl (by kernel_rfl) (by kernel_rfl) rfl) ?_
  simp only [Act.put, List.setIfInBounds_toArray, List.set_cons_succ, List.set_cons_zero]
  refine l_rowo (o := ⟨none, _, _, _, _, _⟩) 25 g8 0 2 2 0 6 [b9, a9] b9 (b9.q 1) 1 ⟨g8, 6, none⟩ (.tmp 37) (.const (.int .i64 1)) rfl rfl (by kernel_rfl) rfl rfl HS9.out rfl rfl (by omega) rfl ?_
  intro w10 hs10 hk10 _
  simp only [Act.put]
  refine l_val (o := ⟨some 38, _, _, _, _, _⟩) (.pointer (some ⟨g8, 0 + 1 * 9, none⟩)) rfl (exec_ixo slO (.tmp 35) (.const (.int .i64 1)) (g8) (0) 2 2 1 (0 + 1 * 9) (1) rfl (by kernel_rfl) rfl (by first | rfl | omega) ((by omega)) (by first | rfl | omega)) ?_
  simp only [Act.put, List.setIfInBounds_toArray, List.set_cons_succ, List.set_cons_zero]
  refine l_val (o := ⟨some 39, _, _, _, _, _⟩) (.pointer (some ⟨g8, 0 + 1 * 9 + 6, none⟩)) rfl (exec_fldo 25 6 6 (.tmp 38) (g8) (0 + 1 * 9) (0 + 1 * 9 + 6) rfl (by kernel_rfl) (by kernel_rfl) rfl) ?_
  simp only [Act.put, List.setIfInBounds_toArray, List.set_cons_succ, List.set_cons_zero]
  refine l_rowo (o := ⟨none, _, _, _, _, _⟩) 25 g8 0 2 2 1 6 [b9.q 1, a9] a9 (a9.q 3) 3 ⟨g8, 15, none⟩ (.tmp 39) (.const (.int .i64 3)) rfl rfl (by kernel_rfl) rfl rfl hs10 rfl rfl (by omega) rfl ?_
  intro w11 hs11 hk11 _
  simp only [Act.put]
  refine wpList_nil ?_
  have K11 : Keep (· = g8) w9 w11 := hk10.trans hk11 (fun _ _ h => h)
  have HS11 : Hid (Sl w11 25 9 (.slice (some ⟨g8, 0, none⟩) 2 2) 2 (ords [b9.q 1, a9.q 3])) := hs11
  have z11 := K11.size
  have k811 : Kept w8 w11 := k9.trans' K11 (by omega)
  have HL11 := Lib.hid (HL8.out.kept k811)
  have HV11 := Lib.hid (HV7.out.kept k811)
  have HH11 := Lib.hid (HS8.out.kept k811)
  have HO2 := Lib.hid (range_kept HO2.out k811)
  have HO3 := Lib.hid (range_kept HO3.out k811)
  have kw11 := kw8.trans k811
  clear hs10 hs11 hk10 hk11 K11 HS9 k9 HL8 HV7 HS8 kw8 k811
  go_upto_region 12 with fail
  refine wp_region_lit ?_
  refine l_val (o := ⟨some 41, _, _, _, _, _⟩) (.pointer (some ⟨p, 0, none⟩)) rfl (exec_move (.tmp 1) (.pointer (some ⟨p, 0, none⟩)) rfl (by kernel_rfl)) ?_
  simp only [Act.put, List.setIfInBounds_toArray, List.set_cons_succ, List.set_cons_zero]
  refine l_call (o := ⟨some 42, _, _, _, _, _⟩) 11 #[.pointer (some ⟨p, 0, none⟩), .int .i64 2, .int .i64 1] rfl (exec_call 11 _ [.tmp 41, .const (.int .i64 2), .const (.int .i64 1)] _ _ Try.func11 (by kernel_rfl) (by kernel_rfl) rfl (by kernel_rfl) _) ?_
  refine (take_any w11 F4 p Y9 2 1 HL11.out good_Y9 (by decide)).mono ?_
  rintro r w12 ⟨F5, v9, rfl, hL12, hS12, hO12, hG12, hk12⟩
  refine ⟨_, rfl, ?_⟩
  simp only [Act.put, List.setIfInBounds_toArray, List.set_cons_succ, List.set_cons_zero]
  refine l_val (o := ⟨some 40, _, _, _, _, _⟩) (.tuple #[v9, .bool (takeM 2 1 Y9).2.1]) rfl (exec_move (.tmp 42) (.tuple #[v9, .bool (takeM 2 1 Y9).2.1]) rfl (by kernel_rfl)) ?_
  simp only [Act.put, List.setIfInBounds_toArray, List.set_cons_succ, List.set_cons_zero]
  refine l_val (o := ⟨some 43, _, _, _, _, _⟩) (v9) rfl (exec_extract (.tmp 40) [v9, .bool (takeM 2 1 Y9).2.1] 0 (v9) rfl (by kernel_rfl) rfl) ?_
  simp only [Act.put, List.setIfInBounds_toArray, List.set_cons_succ, List.set_cons_zero]
  refine l_val (o := ⟨some 44, _, _, _, _, _⟩) (.bool (takeM 2 1 Y9).2.1) rfl (exec_extract (.tmp 40) [v9, .bool (takeM 2 1 Y9).2.1] 1 (.bool (takeM 2 1 Y9).2.1) rfl (by kernel_rfl) rfl) ?_
  simp only [Act.put, List.setIfInBounds_toArray, List.set_cons_succ, List.set_cons_zero]
  refine l_val (o := ⟨some 9, _, _, _, _, _⟩) (v9) rfl (exec_assign (.tmp 43) (v9) rfl (by kernel_rfl)) ?_
  simp only [Act.put, List.setIfInBounds_toArray, List.set_cons_succ, List.set_cons_zero]
  refine l_val (o := ⟨some 10, _, _, _, _, _⟩) (.bool (takeM 2 1 Y9).2.1) rfl (exec_assign (.tmp 44) (.bool (takeM 2 1 Y9).2.1) rfl (by kernel_rfl)) ?_
  simp only [Act.put, List.setIfInBounds_toArray, List.set_cons_succ, List.set_cons_zero]
  refine wpList_nil ?_
  rw [take_Y9] at hS12 ⊢
  have HO2 := Lib.hid (range_keep HO2.out hk12 (fun h => (HF4.out g2 h).2.1 rfl))
  have HO3 := Lib.hid (range_keep HO3.out hk12 (fun h => (HF4.out g3 h).2.2 rfl))
  have HS12 := Lib.hid (HS11.out.keep hk12 (fun b hb h => by simp [Value.ownBlock] at hb; have := HF4L.out b h; omega))
  have HV12 := Lib.hid (HV11.out.keep hk12 (fun b hb h => by have h1 := HW7.out b hb; have h2 := HF4L.out b h; omega))
  have HH12 := Lib.hid (HH11.out.keep hk12 (fun b hb h => HV4.out b hb h))
  have HG12 : Hid (Sl w12 35 10 v9 0 (ents [])) := hS12
  have kw12 : Kept w w12 := Keep.trans kw11 hk12 (fun b hb h => by have := (HF4.out b h).1; omega)
  clear hL12 hS12 hO12 hG12 hk12 kw11 HL11 HV11 HH11 HS11
  go_upto_region 13 with fail
  refine wp_text 28 [.eq (v4), .eq (a9.v), .eq ((Ent.mk a9 (2)).v), .eq (b9.v), .eq ((Ent.mk b9 (2)).v), .sl w12.heap.size 35 10 2 (ents H9), .eq (.bool true), .eq (.bool true), .eq (.bool false), .eq (.bool true), .eq (.bool true), .eq (.bool true), .eq (.int .i64 3), .eq (.bool true), .eq (.bool true), .eq (.bool true), .eq (v7), .eq (.slice (some ⟨g8, 0, none⟩) 2 2), .eq (.bool true), .eq (.bool true), .eq (.bool true), .eq (v9), .eq (.int .i64 (0 : Int)), .eq (.bool true), .eq (.bool true), .eq (.bool true), .eq (.bool true), .eq (.bool true)] rfl (by kernel_rfl) ?_ ?_
  · refine fsteps_cons 1 rfl (fun a u hE hD hk => f_val (o := ⟨some 45, _, _, _, _, _⟩) (v4) rfl (wanted_none rfl _) (exec_move (.tmp 4) (v4) rfl (hE 4 (v4) (by kernel_rfl) (by kernel_rfl))) rfl) ?_
    refine fsteps_cons 2 rfl (fun a u hE hD hk => f_val (o := ⟨some 46, _, _, _, _, _⟩) (a9.v) rfl (wanted_none rfl _) (exec_ldS 25 _ (.tmp 2) (g2) (0) (a9.cells) rfl (hE 2 (.pointer (some ⟨g2, 0, none⟩)) (by kernel_rfl) (by kernel_rfl)) (range_kept HO2.out hk) Try.underlying25 (by rw [a9.len9]; exact ord_size)) rfl) ?_
    refine fsteps_cons 3 rfl (fun a u hE hD hk => f_val (o := ⟨some 47, _, _, _, _, _⟩) ((Ent.mk a9 (2)).v) rfl (wanted_none rfl _) (exec_bent 35 builtH (.tmp 46) (.const (.int .i64 2)) (a9) (2) rfl (hD 1 46 (by kernel_rfl)) rfl) rfl) ?_
    refine fsteps_cons 4 rfl (fun a u hE hD hk => f_val (o := ⟨some 48, _, _, _, _, _⟩) (b9.v) rfl (wanted_none rfl _) (exec_ldS 25 _ (.tmp 3) (g3) (0) (b9.cells) rfl (hE 3 (.pointer (some ⟨g3, 0, none⟩)) (by kernel_rfl) (by kernel_rfl)) (range_kept HO3.out hk) Try.underlying25 (by rw [b9.len9]; exact ord_size)) rfl) ?_
    refine fsteps_cons 5 rfl (fun a u hE hD hk => f_val (o := ⟨some 49, _, _, _, _, _⟩) ((Ent.mk b9 (2)).v) rfl (wanted_none rfl _) (exec_bent 35 builtH (.tmp 48) (.const (.int .i64 2)) (b9) (2) rfl (hD 3 48 (by kernel_rfl)) rfl) rfl) ?_
    refine fsteps_cons 6 rfl (fun a u hE hD hk => f_new (o := ⟨some 50, _, _, _, _, _⟩) (.slice (some ⟨u.heap.size, 0, none⟩) 2 2) _ rfl (wanted_none rfl _) (exec_twoS slH (.tmp 47) (.tmp 49) (Ent.mk a9 2).cells (Ent.mk b9 2).cells (by omega) rfl (hD 2 47 (by kernel_rfl)) (hD 4 49 (by kernel_rfl)) (Ent.len10 _) (Ent.len10 _)) (sl_two u _ 10 _ w12.heap.size rfl (by omega) hk.size) ((Keep.refl _ u).alloc _)) ?_
    refine fsteps_cons 7 rfl (fun a u hE hD hk => f_call (o := ⟨some 51, _, _, _, _, _⟩) 14 #[v4, a.eval (.tmp 50)] rfl (wanted_none rfl _) (exec_call 14 _ [.tmp 45, .tmp 50] _ [v4, a.eval (.tmp 50)] Try.func14 (by kernel_rfl) (by kernel_rfl) rfl (show [a.eval (.tmp 45), a.eval (.tmp 50)] = [v4, a.eval (.tmp 50)] from (by rw [show a.eval (.tmp 45) = v4 from (hD 0 45 (by kernel_rfl))] <;> rfl)) u) (sameH_any v4 _ 2 2 H9 H9 u (HH12.out.kept hk) ((hD 5 50 (by kernel_rfl))).1 (by decide) (by decide))) ?_
    refine fsteps_cons 8 rfl (fun a u hE hD hk => f_val (o := ⟨some 52, _, _, _, _, _⟩) (.bool true) rfl (wanted_none rfl _) (exec_move (.tmp 51) (.bool true) rfl (hD 6 51 (by kernel_rfl))) rfl) ?_
    refine fsteps_cons 9 rfl (fun a u hE hD hk => f_val (o := ⟨some 53, _, _, _, _, _⟩) (.bool false) rfl (wanted_at (b := true) true rfl rfl (hD 7 52 (by kernel_rfl))) (exec_move (.tmp 5) (.bool false) rfl (hE 5 (.bool false) (by kernel_rfl) (by kernel_rfl))) rfl) ?_
    refine fsteps_cons 10 rfl (fun a u hE hD hk => f_val (o := ⟨some 54, _, _, _, _, _⟩) (.bool true) rfl (wanted_at (b := true) true rfl rfl (hD 7 52 (by kernel_rfl))) (exec_not _ (.tmp 53) false rfl (hD 8 53 (by kernel_rfl))) rfl) ?_
    refine fsteps_cons 11 rfl (fun a u hE hD hk => f_val (o := ⟨some 55, _, _, _, _, _⟩) (.bool true) rfl (wanted_none rfl _) (exec_pick (.tmp 52) (.tmp 54) (.const (.bool false)) (.bool true) rfl (hD 7 52 (by kernel_rfl)) (hD 9 54 (by kernel_rfl))) rfl) ?_
    refine fsteps_cons 12 rfl (fun a u hE hD hk => f_val (o := ⟨some 56, _, _, _, _, _⟩) (.bool true) rfl (wanted_none rfl _) (exec_move (.tmp 55) (.bool true) rfl (hD 10 55 (by kernel_rfl))) rfl) ?_
    refine fsteps_cons 13 rfl (fun a u hE hD hk => f_val (o := ⟨some 57, _, _, _, _, _⟩) (.int .i64 3) rfl (wanted_at (b := true) true rfl rfl (hD 11 56 (by kernel_rfl))) (exec_move (.tmp 6) (.int .i64 3) rfl (hE 6 (.int .i64 3) (by kernel_rfl) (by kernel_rfl))) rfl) ?_
    refine fsteps_cons 14 rfl (fun a u hE hD hk => f_as (show ((decide ((3 : Int) = (3 : Int))) : Bool) = true from rfl) (f_val (o := ⟨some 58, _, _, _, _, _⟩) (.bool (decide ((3 : Int) = (3 : Int)))) rfl (wanted_at (b := true) true rfl rfl (hD 11 56 (by kernel_rfl))) (exec_eqn (p := 3) (q := 3) rfl (hD 12 57 (by kernel_rfl)) rfl) rfl)) ?_
    refine fsteps_cons 15 rfl (fun a u hE hD hk => f_val (o := ⟨some 59, _, _, _, _, _⟩) (.bool true) rfl (wanted_none rfl _) (exec_pick (.tmp 56) (.tmp 58) (.const (.bool false)) (.bool true) rfl (hD 11 56 (by kernel_rfl)) (hD 13 58 (by kernel_rfl))) rfl) ?_
    refine fsteps_cons 16 rfl (fun a u hE hD hk => f_val (o := ⟨some 60, _, _, _, _, _⟩) (.bool true) rfl (wanted_none rfl _) (exec_move (.tmp 59) (.bool true) rfl (hD 14 59 (by kernel_rfl))) rfl) ?_
    refine fsteps_cons 17 rfl (fun a u hE hD hk => f_val (o := ⟨some 61, _, _, _, _, _⟩) (v7) rfl (wanted_at (b := true) true rfl rfl (hD 15 60 (by kernel_rfl))) (exec_move (.tmp 7) (v7) rfl (hE 7 (v7) (by kernel_rfl) (by kernel_rfl))) rfl) ?_
    refine fsteps_cons 18 rfl (fun a u hE hD hk => f_val (o := ⟨some 62, _, _, _, _, _⟩) (.slice (some ⟨g8, 0, none⟩) 2 2) rfl (wanted_at (b := true) true rfl rfl (hD 15 60 (by kernel_rfl))) (exec_move (.tmp 8) (.slice (some ⟨g8, 0, none⟩) 2 2) rfl (hE 8 (.slice (some ⟨g8, 0, none⟩) 2 2) (by kernel_rfl) (by kernel_rfl))) rfl) ?_
    refine fsteps_cons 19 rfl (fun a u hE hD hk => f_call (o := ⟨some 63, _, _, _, _, _⟩) 15 #[v7, .slice (some ⟨g8, 0, none⟩) 2 2] rfl (wanted_at (b := true) true rfl rfl (hD 15 60 (by kernel_rfl))) (exec_call 15 _ [.tmp 61, .tmp 62] _ [v7, .slice (some ⟨g8, 0, none⟩) 2 2] Try.func15 (by kernel_rfl) (by kernel_rfl) rfl (show [a.eval (.tmp 61), a.eval (.tmp 62)] = [v7, .slice (some ⟨g8, 0, none⟩) 2 2] from (by rw [show a.eval (.tmp 61) = v7 from (hD 16 61 (by kernel_rfl)), show a.eval (.tmp 62) = .slice (some ⟨g8, 0, none⟩) 2 2 from (hD 17 62 (by kernel_rfl))] <;> rfl)) u) (sameO_any v7 _ 2 2 [b9.q 1, a9.q 3] [b9.q 1, a9.q 3] u (HV12.out.kept hk) (HS12.out.kept hk) (by decide) (by decide))) ?_
    refine fsteps_cons 20 rfl (fun a u hE hD hk => f_val (o := ⟨some 64, _, _, _, _, _⟩) (.bool true) rfl (wanted_none rfl _) (exec_pick (.tmp 60) (.tmp 63) (.const (.bool false)) (.bool true) rfl (hD 15 60 (by kernel_rfl)) (hD 18 63 (by kernel_rfl))) rfl) ?_
    refine fsteps_cons 21 rfl (fun a u hE hD hk => f_val (o := ⟨some 65, _, _, _, _, _⟩) (.bool true) rfl (wanted_none rfl _) (exec_move (.tmp 64) (.bool true) rfl (hD 19 64 (by kernel_rfl))) rfl) ?_
    refine fsteps_cons 22 rfl (fun a u hE hD hk => f_val (o := ⟨some 66, _, _, _, _, _⟩) (v9) rfl (wanted_at (b := true) true rfl rfl (hD 20 65 (by kernel_rfl))) (exec_move (.tmp 9) (v9) rfl (hE 9 (v9) (by kernel_rfl) (by kernel_rfl))) rfl) ?_
    refine fsteps_cons 23 rfl (fun a u hE hD hk => f_val (o := ⟨some 67, _, _, _, _, _⟩) (.int .i64 (0 : Int)) rfl (wanted_at (b := true) true rfl rfl (hD 20 65 (by kernel_rfl))) (exec_lenS (.tmp 66) slH (v9) (0) _ _ rfl (hD 21 66 (by kernel_rfl)) HG12.out) rfl) ?_
    refine fsteps_cons 24 rfl (fun a u hE hD hk => f_as (show ((decide (((0 : Int) : Int) = (0 : Int))) : Bool) = true from rfl) (f_val (o := ⟨some 68, _, _, _, _, _⟩) (.bool (decide (((0 : Int) : Int) = (0 : Int)))) rfl (wanted_at (b := true) true rfl rfl (hD 20 65 (by kernel_rfl))) (exec_eqn (p := (0 : Int)) (q := 0) rfl (hD 22 67 (by kernel_rfl)) rfl) rfl)) ?_
    refine fsteps_cons 25 rfl (fun a u hE hD hk => f_val (o := ⟨some 69, _, _, _, _, _⟩) (.bool true) rfl (wanted_none rfl _) (exec_pick (.tmp 65) (.tmp 68) (.const (.bool false)) (.bool true) rfl (hD 20 65 (by kernel_rfl)) (hD 23 68 (by kernel_rfl))) rfl) ?_
    refine fsteps_cons 26 rfl (fun a u hE hD hk => f_val (o := ⟨some 70, _, _, _, _, _⟩) (.bool true) rfl (wanted_none rfl _) (exec_move (.tmp 69) (.bool true) rfl (hD 24 69 (by kernel_rfl))) rfl) ?_
    refine fsteps_cons 27 rfl (fun a u hE hD hk => f_val (o := ⟨some 71, _, _, _, _, _⟩) (.bool true) rfl (wanted_at (b := true) true rfl rfl (hD 25 70 (by kernel_rfl))) (exec_move (.tmp 10) (.bool true) rfl (hE 10 (.bool true) (by kernel_rfl) (by kernel_rfl))) rfl) ?_
    refine fsteps_cons 28 rfl (fun a u hE hD hk => f_val (o := ⟨some 72, _, _, _, _, _⟩) (.bool true) rfl (wanted_none rfl _) (exec_pick (.tmp 70) (.tmp 71) (.const (.bool false)) (.bool true) rfl (hD 25 70 (by kernel_rfl)) (hD 26 71 (by kernel_rfl))) rfl) ?_
    exact fsteps_nil
  intro gv w13 hV k13
  rw [show dstsOf _ 28 = [45, 46, 47, 48, 49, 50, 51, 52, 53, 54, 55, 56, 57, 58, 59, 60, 61, 62, 63, 64, 65, 66, 67, 68, 69, 70, 71, 72] by kernel_rfl]
  simp only [List.foldl_cons, List.foldl_nil, List.setIfInBounds_toArray, List.set_cons_succ, List.set_cons_zero, List.drop_succ_cons, List.drop_zero]
  rw [show gv 72 = .bool true from hV 27 72 (by kernel_rfl)]
  clear hV
  refine l_val (o := ⟨some 0, _, _, _, _, _⟩) (.bool true) rfl (exec_assign (.tmp 72) (.bool true) rfl (by kernel_rfl)) ?_
  simp only [Act.put, List.setIfInBounds_toArray, List.set_cons_zero]
  refine wpList_nil ?_
  go_wp2
  go_ret
  exact ⟨rfl, kw12.trans k13⟩
end Go.Proofs.Ytlbkehpdohihlaa
