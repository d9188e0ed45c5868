/-
  The contract of jobberlaw9.LevelParts: any asks, any quantities: it answers true. No condition.
-/
import Derived.Test.YtlbkehpdohihlaaTakes9
namespace Go.Proofs.Ytlbkehpdohihlaa
open Go.RowKit
set_option linter.unusedVariables false
theorem same_self (va vb : Value) (Z : List Ent) (w : World) (ha : Sl w 25 9 va Z.length (ords (Z.map (·.o)))) (hb : Sl w 25 9 vb Z.length (ords (Z.map (·.o)))) (hn : Z.length ≤ 100000) : Gives 15 #[va, vb] w (.eq (.bool true)) := by
  have := sameO_any va vb 0 0 (Z.map (·.o)) (Z.map (·.o)) w (by rw [List.length_map]; exact ha) (by rw [List.length_map]; exact hb) (by rw [List.length_map]; omega) (by rw [List.length_map]; omega)
  rw [decide_eq_true rfl] at this
  exact this
set_option maxRecDepth 100000 in
set_option maxHeartbeats 3200000 in
theorem levelParts_any (v : Value) (l : List Ask) (a0 b0 : Int) (w : World) (hl : Asks w v l) : Calls Try.prog 6 #[v, .int .i64 a0, .int .i64 b0] w fun e w' => e = .returned (.bool true) ∧ Kept w w' := by
  obtain ⟨m, hm⟩ : ∃ n, wi a0 0 40 = n := ⟨_, rfl⟩
  have hm1 := wi_in a0 0 40 (by omega)
  rw [hm] at hm1
  have HM := Lib.hid hm
  obtain ⟨n, hn⟩ : ∃ n, wi b0 0 40 = n := ⟨_, rfl⟩
  have hn1 := wi_in b0 0 40 (by omega)
  rw [hn] at hn1
  have HN := Lib.hid hn
  clear hm hn
  have hX := fill_good [] (l.take 20) (by rw [List.length_take]; omega)
  have hNF := fill_firm [] (l.take 20)
  have HFI : Hid (∀ w, Asks w v l → Calls Try.prog 29 #[v] w fun e w' => ∃ p F, e = .returned (.pointer (some ⟨p, 0, none⟩)) ∧ Lvl 58 61 w' F p (fillE [] (l.take 20)) ∧ Grow w (fun _ => False) F ∧ Kept w w') := fun w h => filled_any v l w h
  generalize fillE [] (l.take 20) = X at hX hNF HFI
  obtain ⟨tm1, _⟩ := takeM_facts 9 m.toNat m X (Nat.le_refl _) hX
  obtain ⟨tn1, _⟩ := takeM_facts 9 n.toNat n _ (Nat.le_refl _) tm1
  have HT2 : Hid ((takeM 9 (m + n) X).2.2 = (takeM 9 n (takeM 9 m X).2.2).2.2) := takeM_two 9 m.toNat m n X (Nat.le_refl _) hm1.1 hn1.1 hX hNF
  have HX := Lib.hid hX
  have HA := Lib.hid hl
  have HX1 := Lib.hid tm1
  have HX2 := Lib.hid tn1
  clear hX hNF hl tm1 tn1
  go_enter Try.func6, Try.ntmps6
  go_upto_region 1 with fail
  refine wp_region_lit ?_
  refine l_val (o := ⟨some 11, _, _, _, _, _⟩) (v) rfl (exec_move (.tmp 0) (v) rfl (by kernel_rfl)) ?_
  simp only [Act.put, List.setIfInBounds_toArray, List.set_cons_succ, List.set_cons_zero]
  refine l_call (o := ⟨some 12, _, _, _, _, _⟩) 29 #[v] rfl (exec_call 29 _ [.tmp 11] _ _ Try.func29 (by kernel_rfl) (by kernel_rfl) rfl (by kernel_rfl) _) ?_
  refine (HFI.out w HA.out).mono ?_
  rintro r w1 ⟨p, F, rfl, hL1, hG1, k1⟩
  refine ⟨_, rfl, ?_⟩
  simp only [Act.put, List.setIfInBounds_toArray, List.set_cons_succ, List.set_cons_zero]
  refine l_val (o := ⟨some 13, _, _, _, _, _⟩) (v) rfl (exec_move (.tmp 0) (v) rfl (by kernel_rfl)) ?_
  simp only [Act.put, List.setIfInBounds_toArray, List.set_cons_succ, List.set_cons_zero]
  refine l_call (o := ⟨some 14, _, _, _, _, _⟩) 29 #[v] rfl (exec_call 29 _ [.tmp 13] _ _ Try.func29 (by kernel_rfl) (by kernel_rfl) rfl (by kernel_rfl) _) ?_
  refine (HFI.out w1 (HA.out.kept k1)).mono ?_
  rintro r w2 ⟨y, G, rfl, hL2, hG2, k2⟩
  refine ⟨_, rfl, ?_⟩
  simp only [Act.put, List.setIfInBounds_toArray, List.set_cons_succ, List.set_cons_zero]
  refine l_val (o := ⟨some 7, _, _, _, _, _⟩) (.pointer (some ⟨p, 0, none⟩)) rfl (exec_assign (.tmp 12) (.pointer (some ⟨p, 0, none⟩)) rfl (by kernel_rfl)) ?_
  simp only [Act.put, List.setIfInBounds_toArray, List.set_cons_succ, List.set_cons_zero]
  refine l_val (o := ⟨some 8, _, _, _, _, _⟩) (.pointer (some ⟨y, 0, none⟩)) rfl (exec_assign (.tmp 14) (.pointer (some ⟨y, 0, none⟩)) rfl (by kernel_rfl)) ?_
  simp only [Act.put, List.setIfInBounds_toArray, List.set_cons_succ, List.set_cons_zero]
  refine wpList_nil ?_
  have HF : Hid (∀ b, F b → w.heap.size ≤ b) := fun b hb => (hG1 b hb).elim (fun h => h.elim) id
  have HG : Hid (∀ b, G b → w1.heap.size ≤ b) := fun b hb => (hG2 b hb).elim (fun h => h.elim) id
  have HFL : Hid (∀ b, F b → b < w1.heap.size) := hL1.2.1
  have HL1 := Lib.hid (hL1.kept k2)
  have HL2 := Lib.hid hL2
  have z1 := k1.size
  have z2 := k2.size
  have kw2 := k1.trans k2
  clear hL1 hL2 hG1 hG2 k1 k2 HFI HA
  go_upto_region 4 with fail
  refine wp_text 4 [.eq (.int .i64 a0), .eq (.int .i64 m), .eq (.int .i64 b0), .eq (.int .i64 n)] rfl (by kernel_rfl) ?_ ?_
  · refine fsteps_cons 1 rfl (fun a u hE hD hk => f_val (o := ⟨some 21, _, _, _, _, _⟩) (.int .i64 a0) rfl (wanted_none rfl _) (exec_move (.tmp 1) (.int .i64 a0) rfl (hE 1 (.int .i64 a0) (by kernel_rfl) (by kernel_rfl))) rfl) ?_
    refine fsteps_cons 2 rfl (fun a u hE hD hk => f_call (o := ⟨some 22, _, _, _, _, _⟩) 30 #[.int .i64 a0, .int .i64 0, .int .i64 40] rfl (wanted_none rfl _) (exec_call 30 _ [.tmp 21, .const (.int .i64 0), .const (.int .i64 40)] _ [.int .i64 a0, .int .i64 0, .int .i64 40] Try.func30 (by kernel_rfl) (by kernel_rfl) rfl (show [a.eval (.tmp 21), a.eval (.const (.int .i64 0)), a.eval (.const (.int .i64 40))] = [.int .i64 a0, .int .i64 0, .int .i64 40] from (by rw [show a.eval (.tmp 21) = .int .i64 a0 from (hD 0 21 (by kernel_rfl))] <;> rfl)) u) ((by rw [← HM.out]; exact within_is a0 0 40 u (by omega) (by omega) (by omega)))) ?_
    refine fsteps_cons 3 rfl (fun a u hE hD hk => f_val (o := ⟨some 23, _, _, _, _, _⟩) (.int .i64 b0) rfl (wanted_none rfl _) (exec_move (.tmp 2) (.int .i64 b0) rfl (hE 2 (.int .i64 b0) (by kernel_rfl) (by kernel_rfl))) rfl) ?_
    refine fsteps_cons 4 rfl (fun a u hE hD hk => f_call (o := ⟨some 24, _, _, _, _, _⟩) 30 #[.int .i64 b0, .int .i64 0, .int .i64 40] rfl (wanted_none rfl _) (exec_call 30 _ [.tmp 23, .const (.int .i64 0), .const (.int .i64 40)] _ [.int .i64 b0, .int .i64 0, .int .i64 40] Try.func30 (by kernel_rfl) (by kernel_rfl) rfl (show [a.eval (.tmp 23), a.eval (.const (.int .i64 0)), a.eval (.const (.int .i64 40))] = [.int .i64 b0, .int .i64 0, .int .i64 40] from (by rw [show a.eval (.tmp 23) = .int .i64 b0 from (hD 2 23 (by kernel_rfl))] <;> rfl)) u) ((by rw [← HN.out]; exact within_is b0 0 40 u (by omega) (by omega) (by omega)))) ?_
    exact fsteps_nil
  intro gv w3 hV k3
  rw [show dstsOf _ 4 = [21, 22, 23, 24] by kernel_rfl]
  simp only [List.foldl_cons, List.foldl_nil, List.setIfInBounds_toArray, List.set_cons_succ, List.set_cons_zero, List.drop_succ_cons, List.drop_zero]
  rw [show gv 22 = .int .i64 m from hV 1 22 (by kernel_rfl)]
  rw [show gv 24 = .int .i64 n from hV 3 24 (by kernel_rfl)]
  clear hV
  refine l_val (o := ⟨some 9, _, _, _, _, _⟩) (.int .i64 m) rfl (exec_assign (.tmp 22) (.int .i64 m) rfl (by kernel_rfl)) ?_
  simp only [Act.put, List.setIfInBounds_toArray, List.set_cons_succ, List.set_cons_zero]
  refine l_val (o := ⟨some 10, _, _, _, _, _⟩) (.int .i64 n) rfl (exec_assign (.tmp 24) (.int .i64 n) rfl (by kernel_rfl)) ?_
  simp only [Act.put, List.setIfInBounds_toArray, List.set_cons_succ, List.set_cons_zero]
  refine wpList_nil ?_
  have HL3 := Lib.hid (HL1.out.kept k3)
  have HY3 := Lib.hid (HL2.out.kept k3)
  have kw3 := kw2.trans k3
  have z3 := k3.size
  clear HL1 HL2 k3 kw2 HM HN
  go_upto_region 5 with fail
  refine wp_region_lit ?_
  refine l_val (o := ⟨some 25, _, _, _, _, _⟩) (.pointer (some ⟨p, 0, none⟩)) rfl (exec_move (.tmp 7) (.pointer (some ⟨p, 0, none⟩)) rfl (by kernel_rfl)) ?_
  simp only [Act.put, List.setIfInBounds_toArray, List.set_cons_succ, List.set_cons_zero]
  refine l_val (o := ⟨some 26, _, _, _, _, _⟩) (.int .i64 m) rfl (exec_move (.tmp 9) (.int .i64 m) rfl (by kernel_rfl)) ?_
  simp only [Act.put, List.setIfInBounds_toArray, List.set_cons_succ, List.set_cons_zero]
  refine l_call (o := ⟨some 27, _, _, _, _, _⟩) 11 #[.pointer (some ⟨p, 0, none⟩), .int .i64 9, .int .i64 m] rfl (exec_call 11 _ [.tmp 25, .const (.int .i64 9), .tmp 26] _ _ Try.func11 (by kernel_rfl) (by kernel_rfl) rfl (by kernel_rfl) _) ?_
  refine (take_any w3 F p X 9 m HL3.out HX.out (by omega)).mono ?_
  rintro r w4 ⟨F4, v4, rfl, hL4, hS4, hO4, hG4, hk4⟩
  refine ⟨_, rfl, ?_⟩
  simp only [Act.put, List.setIfInBounds_toArray, List.set_cons_succ, List.set_cons_zero]
  refine wpList_nil ?_
  have kw4 : Kept w w4 := Keep.trans kw3 hk4 (fun b hb h => by have := HF.out b h; omega)
  have HL4 := Lib.hid hL4
  have HY4 := Lib.hid (HY3.out.keep hk4 (fun b hb h => by have h1 := HG.out b hb; have h2 := HFL.out b h; omega))
  have HF4 : Hid (∀ b, F4 b → w.heap.size ≤ b ∧ ¬ G b) := fun b hb => by
    rcases hG4 b hb with h | h
    · exact ⟨HF.out b h, fun h1 => by have h1 := HG.out b h1; have h2 := HFL.out b h; omega⟩
    · exact ⟨by omega, fun h1 => by have := HY3.out.2.1 b h1; omega⟩
  have z4 := hk4.size
  clear hL4 hS4 hO4 hG4 hk4 kw3 HL3 HY3
  go_upto_region 6 with fail
  refine wp_region_lit ?_
  refine l_val (o := ⟨some 28, _, _, _, _, _⟩) (.pointer (some ⟨p, 0, none⟩)) rfl (exec_move (.tmp 7) (.pointer (some ⟨p, 0, none⟩)) rfl (by kernel_rfl)) ?_
  simp only [Act.put, List.setIfInBounds_toArray, List.set_cons_succ, List.set_cons_zero]
  refine l_val (o := ⟨some 29, _, _, _, _, _⟩) (.int .i64 n) rfl (exec_move (.tmp 10) (.int .i64 n) rfl (by kernel_rfl)) ?_
  simp only [Act.put, List.setIfInBounds_toArray, List.set_cons_succ, List.set_cons_zero]
  refine l_call (o := ⟨some 30, _, _, _, _, _⟩) 11 #[.pointer (some ⟨p, 0, none⟩), .int .i64 9, .int .i64 n] rfl (exec_call 11 _ [.tmp 28, .const (.int .i64 9), .tmp 29] _ _ Try.func11 (by kernel_rfl) (by kernel_rfl) rfl (by kernel_rfl) _) ?_
  refine (take_any w4 F4 p (takeM 9 m X).2.2 9 n HL4.out HX1.out (by omega)).mono ?_
  rintro r w5 ⟨F5, v5, rfl, hL5, hS5, hO5, hG5, hk5⟩
  refine ⟨_, rfl, ?_⟩
  simp only [Act.put, List.setIfInBounds_toArray, List.set_cons_succ, List.set_cons_zero]
  refine wpList_nil ?_
  have kw5 : Kept w w5 := Keep.trans kw4 hk5 (fun b hb h => by have := (HF4.out b h).1; omega)
  have HL5 := Lib.hid hL5
  have HY5 := Lib.hid (HY4.out.keep hk5 (fun b hb h => (HF4.out b h).2 hb))
  have HF5 : Hid (∀ b, F5 b → ¬ G b) := fun b hb h1 => by
    rcases hG5 b hb with h | h
    · exact (HF4.out b h).2 h1
    · have := HY4.out.2.1 b h1; omega
  have z5 := hk5.size
  clear hL5 hS5 hO5 hG5 hk5 kw4 HL4 HY4
  go_upto_region 7 with fail
  refine wp_text 4 [.eq (.pointer (some ⟨y, 0, none⟩)), .eq (.int .i64 m), .eq (.int .i64 n), .eq (.int .i64 (m + n))] rfl (by kernel_rfl) ?_ ?_
  · refine fsteps_cons 1 rfl (fun a u hE hD hk => f_val (o := ⟨some 31, _, _, _, _, _⟩) (.pointer (some ⟨y, 0, none⟩)) rfl (wanted_none rfl _) (exec_move (.tmp 8) (.pointer (some ⟨y, 0, none⟩)) rfl (hE 8 (.pointer (some ⟨y, 0, none⟩)) (by kernel_rfl) (by kernel_rfl))) rfl) ?_
    refine fsteps_cons 2 rfl (fun a u hE hD hk => f_val (o := ⟨some 32, _, _, _, _, _⟩) (.int .i64 m) rfl (wanted_none rfl _) (exec_move (.tmp 9) (.int .i64 m) rfl (hE 9 (.int .i64 m) (by kernel_rfl) (by kernel_rfl))) rfl) ?_
    refine fsteps_cons 3 rfl (fun a u hE hD hk => f_val (o := ⟨some 33, _, _, _, _, _⟩) (.int .i64 n) rfl (wanted_none rfl _) (exec_move (.tmp 10) (.int .i64 n) rfl (hE 10 (.int .i64 n) (by kernel_rfl) (by kernel_rfl))) rfl) ?_
    refine fsteps_cons 4 rfl (fun a u hE hD hk => f_val (o := ⟨some 34, _, _, _, _, _⟩) (.int .i64 (m + n)) rfl (wanted_none rfl _) (exec_addn (m + n) rfl (hD 1 32 (by kernel_rfl)) (hD 2 33 (by kernel_rfl)) rfl (by omega) (by omega)) rfl) ?_
    exact fsteps_nil
  intro gv u5 hV ku5
  rw [show dstsOf _ 4 = [31, 32, 33, 34] by kernel_rfl]
  simp only [List.foldl_cons, List.foldl_nil, List.setIfInBounds_toArray, List.set_cons_succ, List.set_cons_zero, List.drop_succ_cons, List.drop_zero]
  rw [show gv 31 = .pointer (some ⟨y, 0, none⟩) from hV 0 31 (by kernel_rfl)]
  rw [show gv 34 = .int .i64 (m + n) from hV 3 34 (by kernel_rfl)]
  clear hV
  refine l_call (o := ⟨some 35, _, _, _, _, _⟩) 11 #[.pointer (some ⟨y, 0, none⟩), .int .i64 9, .int .i64 (m + n)] rfl (exec_call 11 _ [.tmp 31, .const (.int .i64 9), .tmp 34] _ _ Try.func11 (by kernel_rfl) (by kernel_rfl) rfl (by kernel_rfl) _) ?_
  refine (take_any u5 G y X 9 (m + n) (HY5.out.kept ku5) HX.out (by omega)).mono ?_
  rintro r w6 ⟨G6, v6, rfl, hL6, hS6, hO6, hG6, hk6⟩
  refine ⟨_, rfl, ?_⟩
  simp only [Act.put, List.setIfInBounds_toArray, List.set_cons_succ, List.set_cons_zero]
  refine wpList_nil ?_
  have kw6 : Kept w w6 := Keep.trans (kw5.trans ku5) hk6 (fun b hb h => by have := HG.out b h; omega)
  have HL6 := Lib.hid ((HL5.out.kept ku5).keep hk6 (fun b hb h => HF5.out b hb h))
  have HY6 : Hid (Lvl 58 61 w6 G6 y (takeM 9 n (takeM 9 m X).2.2).2.2) := by
    rw [HT2.out] at hL6
    exact hL6
  clear hL6 hS6 hO6 hG6 hk6 kw5 HL5 HY5 ku5 HF5 HF4 HG HFL HF HX HX1 HT2
  generalize (takeM 9 n (takeM 9 m X).2.2).2.2 = Z at HX2 HL6 HY6
  go_upto_region 8 with fail
  refine wp_text 22 [.eq (.pointer (some ⟨p, 0, none⟩)), .sl 0 25 9 Z.length (ords (Z.map (·.o))), .eq (.pointer (some ⟨y, 0, none⟩)), .sl 0 25 9 Z.length (ords (Z.map (·.o))), .eq (.bool true), .eq (.bool true), .eq (.pointer (some ⟨p, 0, none⟩)), .eq (.int .i64 (seenM Z)), .eq (.pointer (some ⟨y, 0, none⟩)), .eq (.int .i64 (seenM Z)), .eq (.bool true), .eq (.bool true), .eq (.bool true), .eq (.pointer (some ⟨p, 0, none⟩)), .eq (.int .i64 (wholeM Z)), .eq (.pointer (some ⟨y, 0, none⟩)), .eq (.int .i64 (wholeM Z)), .eq (.bool true), .eq (.bool true), .eq (.bool true), .eq (.bool true), .eq (.bool true)] rfl (by kernel_rfl) ?_ ?_
  · refine fsteps_cons 1 rfl (fun a u hE hD hk => f_val (o := ⟨some 36, _, _, _, _, _⟩) (.pointer (some ⟨p, 0, none⟩)) rfl (wanted_none rfl _) (exec_move (.tmp 7) (.pointer (some ⟨p, 0, none⟩)) rfl (hE 7 (.pointer (some ⟨p, 0, none⟩)) (by kernel_rfl) (by kernel_rfl))) rfl) ?_
    refine fsteps_cons 2 rfl (fun a u hE hD hk => f_call (o := ⟨some 37, _, _, _, _, _⟩) 13 #[.pointer (some ⟨p, 0, none⟩)] rfl (wanted_none rfl _) (exec_call 13 _ [.tmp 36] _ [.pointer (some ⟨p, 0, none⟩)] Try.func13 (by kernel_rfl) (by kernel_rfl) rfl (show [a.eval (.tmp 36)] = [.pointer (some ⟨p, 0, none⟩)] from (by rw [show a.eval (.tmp 36) = .pointer (some ⟨p, 0, none⟩) from (hD 0 36 (by kernel_rfl))] <;> rfl)) u) ((orders_any u F5 p Z (HL6.out.kept hk) HX2.out).mono (fun e w' ⟨v, h1, h2, h3⟩ => ⟨v, h1, ⟨h2.1, fun b hb => Nat.zero_le _⟩, h3⟩))) ?_
    refine fsteps_cons 3 rfl (fun a u hE hD hk => f_val (o := ⟨some 38, _, _, _, _, _⟩) (.pointer (some ⟨y, 0, none⟩)) rfl (wanted_none rfl _) (exec_move (.tmp 8) (.pointer (some ⟨y, 0, none⟩)) rfl (hE 8 (.pointer (some ⟨y, 0, none⟩)) (by kernel_rfl) (by kernel_rfl))) rfl) ?_
    refine fsteps_cons 4 rfl (fun a u hE hD hk => f_call (o := ⟨some 39, _, _, _, _, _⟩) 13 #[.pointer (some ⟨y, 0, none⟩)] rfl (wanted_none rfl _) (exec_call 13 _ [.tmp 38] _ [.pointer (some ⟨y, 0, none⟩)] Try.func13 (by kernel_rfl) (by kernel_rfl) rfl (show [a.eval (.tmp 38)] = [.pointer (some ⟨y, 0, none⟩)] from (by rw [show a.eval (.tmp 38) = .pointer (some ⟨y, 0, none⟩) from (hD 2 38 (by kernel_rfl))] <;> rfl)) u) ((orders_any u G6 y Z (HY6.out.kept hk) HX2.out).mono (fun e w' ⟨v, h1, h2, h3⟩ => ⟨v, h1, ⟨h2.1, fun b hb => Nat.zero_le _⟩, h3⟩))) ?_
    refine fsteps_cons 5 rfl (fun a u hE hD hk => f_call (o := ⟨some 40, _, _, _, _, _⟩) 15 #[a.eval (.tmp 37), a.eval (.tmp 39)] rfl (wanted_none rfl _) (exec_call 15 _ [.tmp 37, .tmp 39] _ [a.eval (.tmp 37), a.eval (.tmp 39)] Try.func15 (by kernel_rfl) (by kernel_rfl) rfl rfl u) (same_self _ _ Z u ((hD 1 37 (by kernel_rfl))).1 ((hD 3 39 (by kernel_rfl))).1 HX2.out.len)) ?_
    refine fsteps_cons 6 rfl (fun a u hE hD hk => f_val (o := ⟨some 41, _, _, _, _, _⟩) (.bool true) rfl (wanted_none rfl _) (exec_move (.tmp 40) (.bool true) rfl (hD 4 40 (by kernel_rfl))) rfl) ?_
    refine fsteps_cons 7 rfl (fun a u hE hD hk => f_val (o := ⟨some 42, _, _, _, _, _⟩) (.pointer (some ⟨p, 0, none⟩)) rfl (wanted_at (b := true) true rfl rfl (hD 5 41 (by kernel_rfl))) (exec_move (.tmp 7) (.pointer (some ⟨p, 0, none⟩)) rfl (hE 7 (.pointer (some ⟨p, 0, none⟩)) (by kernel_rfl) (by kernel_rfl))) rfl) ?_
    refine fsteps_cons 8 rfl (fun a u hE hD hk => f_call (o := ⟨some 43, _, _, _, _, _⟩) 12 #[.pointer (some ⟨p, 0, none⟩)] rfl (wanted_at (b := true) true rfl rfl (hD 5 41 (by kernel_rfl))) (exec_call 12 _ [.tmp 42] _ [.pointer (some ⟨p, 0, none⟩)] Try.func12 (by kernel_rfl) (by kernel_rfl) rfl (show [a.eval (.tmp 42)] = [.pointer (some ⟨p, 0, none⟩)] from (by rw [show a.eval (.tmp 42) = .pointer (some ⟨p, 0, none⟩) from (hD 6 42 (by kernel_rfl))] <;> rfl)) u) (seen_any u F5 p Z (HL6.out.kept hk) HX2.out)) ?_
    refine fsteps_cons 9 rfl (fun a u hE hD hk => f_val (o := ⟨some 44, _, _, _, _, _⟩) (.pointer (some ⟨y, 0, none⟩)) rfl (wanted_at (b := true) true rfl rfl (hD 5 41 (by kernel_rfl))) (exec_move (.tmp 8) (.pointer (some ⟨y, 0, none⟩)) rfl (hE 8 (.pointer (some ⟨y, 0, none⟩)) (by kernel_rfl) (by kernel_rfl))) rfl) ?_
    refine fsteps_cons 10 rfl (fun a u hE hD hk => f_call (o := ⟨some 45, _, _, _, _, _⟩) 12 #[.pointer (some ⟨y, 0, none⟩)] rfl (wanted_at (b := true) true rfl rfl (hD 5 41 (by kernel_rfl))) (exec_call 12 _ [.tmp 44] _ [.pointer (some ⟨y, 0, none⟩)] Try.func12 (by kernel_rfl) (by kernel_rfl) rfl (show [a.eval (.tmp 44)] = [.pointer (some ⟨y, 0, none⟩)] from (by rw [show a.eval (.tmp 44) = .pointer (some ⟨y, 0, none⟩) from (hD 8 44 (by kernel_rfl))] <;> rfl)) u) (seen_any u G6 y Z (HY6.out.kept hk) HX2.out)) ?_
    refine fsteps_cons 11 rfl (fun a u hE hD hk => f_as (show ((decide (((seenM Z) : Int) = ((seenM Z) : Int))) : Bool) = true from decide_eq_true rfl) (f_val (o := ⟨some 46, _, _, _, _, _⟩) (.bool (decide (((seenM Z) : Int) = ((seenM Z) : Int)))) rfl (wanted_at (b := true) true rfl rfl (hD 5 41 (by kernel_rfl))) (exec_eqn (p := (seenM Z)) (q := (seenM Z)) rfl (hD 7 43 (by kernel_rfl)) (hD 9 45 (by kernel_rfl))) rfl)) ?_
    refine fsteps_cons 12 rfl (fun a u hE hD hk => f_val (o := ⟨some 47, _, _, _, _, _⟩) (.bool true) rfl (wanted_none rfl _) (exec_pick (.tmp 41) (.tmp 46) (.const (.bool false)) (.bool true) rfl (hD 5 41 (by kernel_rfl)) (hD 10 46 (by kernel_rfl))) rfl) ?_
    refine fsteps_cons 13 rfl (fun a u hE hD hk => f_val (o := ⟨some 48, _, _, _, _, _⟩) (.bool true) rfl (wanted_none rfl _) (exec_move (.tmp 47) (.bool true) rfl (hD 11 47 (by kernel_rfl))) rfl) ?_
    refine fsteps_cons 14 rfl (fun a u hE hD hk => f_val (o := ⟨some 49, _, _, _, _, _⟩) (.pointer (some ⟨p, 0, none⟩)) rfl (wanted_at (b := true) true rfl rfl (hD 12 48 (by kernel_rfl))) (exec_move (.tmp 7) (.pointer (some ⟨p, 0, none⟩)) rfl (hE 7 (.pointer (some ⟨p, 0, none⟩)) (by kernel_rfl) (by kernel_rfl))) rfl) ?_
    refine fsteps_cons 15 rfl (fun a u hE hD hk => f_call (o := ⟨some 50, _, _, _, _, _⟩) 25 #[.pointer (some ⟨p, 0, none⟩)] rfl (wanted_at (b := true) true rfl rfl (hD 12 48 (by kernel_rfl))) (exec_call 25 _ [.tmp 49] _ [.pointer (some ⟨p, 0, none⟩)] Try.func25 (by kernel_rfl) (by kernel_rfl) rfl (show [a.eval (.tmp 49)] = [.pointer (some ⟨p, 0, none⟩)] from (by rw [show a.eval (.tmp 49) = .pointer (some ⟨p, 0, none⟩) from (hD 13 49 (by kernel_rfl))] <;> rfl)) u) (whole_any u F5 p Z (HL6.out.kept hk) HX2.out)) ?_
    refine fsteps_cons 16 rfl (fun a u hE hD hk => f_val (o := ⟨some 51, _, _, _, _, _⟩) (.pointer (some ⟨y, 0, none⟩)) rfl (wanted_at (b := true) true rfl rfl (hD 12 48 (by kernel_rfl))) (exec_move (.tmp 8) (.pointer (some ⟨y, 0, none⟩)) rfl (hE 8 (.pointer (some ⟨y, 0, none⟩)) (by kernel_rfl) (by kernel_rfl))) rfl) ?_
    refine fsteps_cons 17 rfl (fun a u hE hD hk => f_call (o := ⟨some 52, _, _, _, _, _⟩) 25 #[.pointer (some ⟨y, 0, none⟩)] rfl (wanted_at (b := true) true rfl rfl (hD 12 48 (by kernel_rfl))) (exec_call 25 _ [.tmp 51] _ [.pointer (some ⟨y, 0, none⟩)] Try.func25 (by kernel_rfl) (by kernel_rfl) rfl (show [a.eval (.tmp 51)] = [.pointer (some ⟨y, 0, none⟩)] from (by rw [show a.eval (.tmp 51) = .pointer (some ⟨y, 0, none⟩) from (hD 15 51 (by kernel_rfl))] <;> rfl)) u) (whole_any u G6 y Z (HY6.out.kept hk) HX2.out)) ?_
    refine fsteps_cons 18 rfl (fun a u hE hD hk => f_as (show ((decide (((wholeM Z) : Int) = ((wholeM Z) : Int))) : Bool) = true from decide_eq_true rfl) (f_val (o := ⟨some 53, _, _, _, _, _⟩) (.bool (decide (((wholeM Z) : Int) = ((wholeM Z) : Int)))) rfl (wanted_at (b := true) true rfl rfl (hD 12 48 (by kernel_rfl))) (exec_eqn (p := (wholeM Z)) (q := (wholeM Z)) rfl (hD 14 50 (by kernel_rfl)) (hD 16 52 (by kernel_rfl))) rfl)) ?_
    refine fsteps_cons 19 rfl (fun a u hE hD hk => f_val (o := ⟨some 54, _, _, _, _, _⟩) (.bool true) rfl (wanted_none rfl _) (exec_pick (.tmp 48) (.tmp 53) (.const (.bool false)) (.bool true) rfl (hD 12 48 (by kernel_rfl)) (hD 17 53 (by kernel_rfl))) rfl) ?_
    refine fsteps_cons 20 rfl (fun a u hE hD hk => f_val (o := ⟨some 55, _, _, _, _, _⟩) (.bool true) rfl (wanted_none rfl _) (exec_move (.tmp 54) (.bool true) rfl (hD 18 54 (by kernel_rfl))) rfl) ?_
    refine fsteps_cons 21 rfl (fun a u hE hD hk => f_call (o := ⟨some 56, _, _, _, _, _⟩) 3 #[] rfl (wanted_at (b := true) true rfl rfl (hD 19 55 (by kernel_rfl))) (exec_call 3 _ [] _ [] Try.func3 (by kernel_rfl) (by kernel_rfl) rfl rfl u) (runs_gives u)) ?_
    refine fsteps_cons 22 rfl (fun a u hE hD hk => f_val (o := ⟨some 57, _, _, _, _, _⟩) (.bool true) rfl (wanted_none rfl _) (exec_pick (.tmp 55) (.tmp 56) (.const (.bool false)) (.bool true) rfl (hD 19 55 (by kernel_rfl)) (hD 20 56 (by kernel_rfl))) rfl) ?_
    exact fsteps_nil
  intro gv w7 hV k7
  rw [show dstsOf _ 22 = [36, 37, 38, 39, 40, 41, 42, 43, 44, 45, 46, 47, 48, 49, 50, 51, 52, 53, 54, 55, 56, 57] by kernel_rfl]
  simp only [List.foldl_cons, List.foldl_nil, List.setIfInBounds_toArray, List.set_cons_succ, List.set_cons_zero, List.drop_succ_cons, List.drop_zero]
  rw [show gv 57 = .bool true from hV 21 57 (by kernel_rfl)]
  clear hV
  refine l_val (o := ⟨some 6, _, _, _, _, _⟩) (.bool true) rfl (exec_assign (.tmp 57) (.bool true) rfl (by kernel_rfl)) ?_
  simp only [Act.put, List.setIfInBounds_toArray, List.set_cons_succ, List.set_cons_zero]
  refine wpList_nil ?_
  go_wp2
  go_ret
  exact ⟨rfl, kw6.trans k7⟩
end Go.Proofs.Ytlbkehpdohihlaa
