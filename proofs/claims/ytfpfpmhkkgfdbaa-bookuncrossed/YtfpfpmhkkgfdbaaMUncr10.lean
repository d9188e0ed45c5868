/-
  BookUncrossed answers true: whatever came, no buyer crosses a seller, and levels stand the best first. No condition.
-/
import Derived.Test.YtfpfpmhkkgfdbaaQ05
import Derived.Test.YtfpfpmhkkgfdbaaMFill10
import Derived.Test.YtfpfpmhkkgfdbaaMRuns10
set_option linter.unusedVariables false
namespace Go.Proofs.Ytfpfpmhkkgfdbaa
open Go.RowKit
set_option maxRecDepth 100000
theorem row_next {s : Int} {X : List Ord} (h : X.Pairwise fun a b => bet s b.price a.price = false) {j : Nat} {a b : Ord} (ha : X[j]? = some a) (hb : X[j + 1]? = some b) : bet s b.price a.price = false := by
  rw [List.pairwise_iff_getElem] at h
  obtain ⟨h1, rfl⟩ := List.getElem?_eq_some_iff.1 ha
  obtain ⟨h2, rfl⟩ := List.getElem?_eq_some_iff.1 hb
  exact h j (j + 1) h1 h2 (by omega)
set_option maxRecDepth 100000 in
set_option maxHeartbeats 3200000 in
theorem bookUncrossed_any (v : Value) (l : List Kq) (w : World) (hl : Kqs w v l) : Calls Try.prog 5 #[v] w fun e w' => e = .returned (.bool true) ∧ Kept w w' := by
  go_enter Try.func5, Try.ntmps5
  go_upto_region 1 with fail
  refine wp_region_lit ?_
  refine l_val (o := ⟨some 8, _, _, _, _, _⟩) (v) rfl (exec_move (.tmp 0) (v) rfl (by kernel_rfl)) ?_
  simp only [Act.put, sA, sS, sZ]
  refine l_call (o := ⟨some 9, _, _, _, _, _⟩) 31 #[v, .int .i64 60] rfl (exec_call 31 _ [.tmp 8, .const (.int .i64 60)] _ _ Try.func31 (by kernel_rfl) (by kernel_rfl) rfl (by kernel_rfl) _) ?_
  refine (bfilled_any v l 60 w hl (by omega)).mono ?_
  rintro r w1 ⟨p, F, rfl, hB1, hG1, k1⟩
  refine ⟨_, rfl, ?_⟩
  simp only [Act.put, sA, sS, sZ]
  refine l_val (o := ⟨some 3, _, _, _, _, _⟩) (.pointer (some ⟨p, 0, none⟩)) rfl (exec_assign (.tmp 9) (.pointer (some ⟨p, 0, none⟩)) rfl (by kernel_rfl)) ?_
  simp only [Act.put, sA, sS, sZ]
  refine wpList_nil ?_
  have hI := (fillB_inv (l.take 60)).1
  generalize fillB (l.take 60) = B at hI hB1
  have HI := Lib.hid hI
  have HB1 := Lib.hid hB1
  obtain ⟨X, hX⟩ : ∃ X, ordsL B.buys = X := ⟨_, rfl⟩
  obtain ⟨Y, hY⟩ : ∃ Y, ordsL B.sells = Y := ⟨_, rfl⟩
  obtain ⟨n, hn⟩ : ∃ n, X.length = n := ⟨_, rfl⟩
  obtain ⟨m, hm⟩ : ∃ m, Y.length = m := ⟨_, rfl⟩
  have HR1 : Hid (X.Pairwise fun a b => bet 1 b.price a.price = false) := by rw [← hX]; exact ordsL_row hI.two.mine
  have HR2 : Hid (Y.Pairwise fun a b => bet 2 b.price a.price = false) := by rw [← hY]; exact ordsL_row hI.two.theirs
  have HAP : Hid (∀ a ∈ X, ∀ b ∈ Y, a.price < b.price) := fun a ha b hb => by rw [← hX] at ha; rw [← hY] at hb; exact ordsL_apart hI ha hb
  have HLen : Hid ((B.len : Int) = (n : Int) + (m : Int) ∧ n + m ≤ 64) := by
    have h1 := hI.two.few
    have h2 : B.len = X.length + Y.length := by rw [← hX, ← hY, ordsL_len, ordsL_len]; unfold Bok.len Bok.all; rw [List.length_append]
    have h3 : X.length + Y.length ≤ 64 := by rw [← hX, ← hY, ordsL_len, ordsL_len]; exact h1
    show _ ∧ _
    omega
  have hnm := HLen.out.2
  have HXe := Lib.hid hX
  have HYe := Lib.hid hY
  have HN := Lib.hid hn
  have HM := Lib.hid hm
  clear hI hB1 hX hY hn hm hG1 hl
  go_upto_region 4 with fail
  refine wp_text 4 [.eq (.pointer (some ⟨p, 0, none⟩)), .sl 0 25 9 n (ords X), .eq (.pointer (some ⟨p, 0, none⟩)), .sl 0 25 9 m (ords Y)] rfl (by kernel_rfl) ?_ ?_
  · refine sv 1 rfl rfl rfl (fun a u hE hD hk => exec_move (.tmp 3) _ rfl (hE 3 (.pointer (some ⟨p, 0, none⟩)) (by kernel_rfl) (by kernel_rfl))) ?_
    refine fsteps_cons 2 rfl (fun a u hE hD hk => f_call (o := ⟨some 13, _, _, _, _, _⟩) 32 #[.pointer (some ⟨p, 0, none⟩), .int .i64 1] rfl (wanted_none rfl _) (exec_call 32 _ [.tmp 12, .const (.int .i64 1)] _ [.pointer (some ⟨p, 0, none⟩), .int .i64 1] Try.func32 (by kernel_rfl) (by kernel_rfl) rfl (show [a.eval (.tmp 12), a.eval (.const (.int .i64 1))] = [.pointer (some ⟨p, 0, none⟩), .int .i64 1] from (by rw [show a.eval (.tmp 12) = .pointer (some ⟨p, 0, none⟩) from (hD 0 12 (by kernel_rfl))] <;> rfl)) u) ((by have h := (borders_any u F p B 1 (HB1.out.kept hk) HI.out).base (Nat.zero_le _); rw [show B.sd 1 = B.buys from rfl, HXe.out, HN.out] at h; exact h))) ?_
    refine sv 3 rfl rfl rfl (fun a u hE hD hk => exec_move (.tmp 3) _ rfl (hE 3 (.pointer (some ⟨p, 0, none⟩)) (by kernel_rfl) (by kernel_rfl))) ?_
    refine fsteps_cons 4 rfl (fun a u hE hD hk => f_call (o := ⟨some 15, _, _, _, _, _⟩) 32 #[.pointer (some ⟨p, 0, none⟩), .int .i64 2] rfl (wanted_none rfl _) (exec_call 32 _ [.tmp 14, .const (.int .i64 2)] _ [.pointer (some ⟨p, 0, none⟩), .int .i64 2] Try.func32 (by kernel_rfl) (by kernel_rfl) rfl (show [a.eval (.tmp 14), a.eval (.const (.int .i64 2))] = [.pointer (some ⟨p, 0, none⟩), .int .i64 2] from (by rw [show a.eval (.tmp 14) = .pointer (some ⟨p, 0, none⟩) from (hD 2 14 (by kernel_rfl))] <;> rfl)) u) ((by have h := (borders_any u F p B 2 (HB1.out.kept hk) HI.out).base (Nat.zero_le _); rw [show B.sd 2 = B.sells from rfl, HYe.out, HM.out] at h; exact h))) ?_
    exact fsteps_nil
  intro gv w2 hV k2
  rw [show dstsOf _ 4 = [12, 13, 14, 15] by kernel_rfl]
  simp only [fC, fN, sA, sS, sZ, dS, dZ]
  have hv13 : (.sl 0 25 9 n (ords X) : Kn).p (gv 13) w2 := hV 1 13 (by kernel_rfl)
  generalize gv 13 = v13 at hv13 ⊢
  have hv15 : (.sl 0 25 9 m (ords Y) : Kn).p (gv 15) w2 := hV 3 15 (by kernel_rfl)
  generalize gv 15 = v15 at hv15 ⊢
  clear hV
  obtain ⟨A1, c1, e1⟩ : ∃ A c, v13 = .slice A n c := by obtain ⟨_, A, c, h, _⟩ := hv13.1; exact ⟨A, c, h⟩
  obtain ⟨A2, c2, e2⟩ : ∃ A c, v15 = .slice A m c := by obtain ⟨_, A, c, h, _⟩ := hv15.1; exact ⟨A, c, h⟩
  subst e1 e2
  refine l_val (o := ⟨some 4, _, _, _, _, _⟩) (.slice A1 n c1) rfl (exec_assign (.tmp 13) (.slice A1 n c1) rfl (by kernel_rfl)) ?_
  simp only [Act.put, sA, sS, sZ]
  refine l_val (o := ⟨some 5, _, _, _, _, _⟩) (.slice A2 m c2) rfl (exec_assign (.tmp 15) (.slice A2 m c2) rfl (by kernel_rfl)) ?_
  simp only [Act.put, sA, sS, sZ]
  refine wpList_nil ?_
  have HX : Hid (Sl w2 25 9 (.slice A1 n c1) n (ords X)) := hv13.1
  have HY : Hid (Sl w2 25 9 (.slice A2 m c2) m (ords Y)) := hv15.1
  have HB2 := Lib.hid (HB1.out.kept k2)
  have kw2 := k1.trans k2
  clear hv13 hv15 HB1 k1 k2
  have HX0 : Hid (0 < n → ∃ a, X[0]? = some a) := fun h => ⟨_, List.getElem?_eq_getElem (by rw [HN.out]; exact h)⟩
  have HY0 : Hid (0 < m → ∃ a, Y[0]? = some a) := fun h => ⟨_, List.getElem?_eq_getElem (by rw [HM.out]; exact h)⟩
  go_upto_region 5 with fail
  go_cut [45] (fun a wx => a = .bool false ∧ Kept w2 wx)
  case first =>
    by_cases h1 : 0 < n
    · by_cases h2 : 0 < m
      · obtain ⟨x, ha⟩ := HX0.out h1
        obtain ⟨y, hb⟩ := HY0.out h2
        have HP : Hid (x.price < y.price) := HAP.out x (List.mem_of_getElem? ha) y (List.mem_of_getElem? hb)
        obtain ⟨g1, o1, c1', e1⟩ := HX.out.some_ h1
        injection e1 with e1 _ e1'
        subst e1 e1'
        obtain ⟨g2, o2, c2', e2⟩ := HY.out.some_ h2
        injection e2 with e2 _ e2'
        subst e2 e2'
        have HE1 : Hid (w2.rangeAt g1 o1 x.cells) := by have := HX.out.rngO 0 x ha; rwa [Nat.zero_mul, Nat.add_zero] at this
        have HE2 : Hid (w2.rangeAt g2 o2 y.cells) := by have := HY.out.rngO 0 y hb; rwa [Nat.zero_mul, Nat.add_zero] at this
        clear ha hb
        by_cases hf : x.firm = y.firm
        · skip
          refine wp_free 29 [.eq (.slice (some ⟨g1, o1, none⟩) n c1), .eq (.int .i64 (n : Int)), .eq (.bool true), .eq (.bool true), .eq (.slice (some ⟨g2, o2, none⟩) m c2), .eq (.int .i64 (m : Int)), .eq (.bool true), .eq (.bool true), .eq (.bool true), .eq (.slice (some ⟨g1, o1, none⟩) n c1), .eq (.pointer (some ⟨g1, o1, none⟩)), .eq (.pointer (some ⟨g1, o1 + 2, none⟩)), .eq (.int .i64 x.firm), .eq (.slice (some ⟨g2, o2, none⟩) m c2), .eq (.pointer (some ⟨g2, o2, none⟩)), .eq (.pointer (some ⟨g2, o2 + 2, none⟩)), .eq (.int .i64 y.firm), .eq (.bool false), .eq (.bool false), .eq (.bool false), .eq undef, .eq undef, .eq undef, .eq undef, .eq undef, .eq undef, .eq undef, .eq undef, .eq undef] (by kernel_rfl) rfl (by kernel_rfl) ?_ ?_
          · refine sv 1 rfl rfl rfl (fun a u hE hD hk => exec_move (.tmp 4) _ rfl (hE 4 (.slice (some ⟨g1, o1, none⟩) n c1) (by kernel_rfl) (by kernel_rfl))) ?_
            refine sv 2 rfl rfl rfl (fun a u hE hD hk => exec_len (.tmp 16) _ _ slO.und (some ⟨g1, o1, none⟩) n c1 rfl (hD 0 16 (by kernel_rfl))) ?_
            refine fsteps_cons 3 rfl (fun a u hE hD hk => f_as (show ((decide ((0 : Int) < ((n : Int) : Int))) : Bool) = true from decide_eq_true (by omega)) (f_val (o := ⟨some 18, _, _, _, _, _⟩) (.bool (decide ((0 : Int) < ((n : Int) : Int)))) rfl (wanted_none rfl _) (exec_gtn (p := (n : Int)) (q := 0) rfl (hD 1 17 (by kernel_rfl)) rfl) rfl)) ?_
            refine sv 4 rfl rfl rfl (fun a u hE hD hk => exec_move (.tmp 18) _ rfl (hD 2 18 (by kernel_rfl))) ?_
            refine fsteps_cons 5 rfl (fun a u hE hD hk => f_val (o := ⟨some 20, _, _, _, _, _⟩) (.slice (some ⟨g2, o2, none⟩) m c2) rfl (wanted_at (b := true) true rfl rfl (hD 3 19 (by kernel_rfl))) (exec_move (.tmp 5) _ rfl (hE 5 (.slice (some ⟨g2, o2, none⟩) m c2) (by kernel_rfl) (by kernel_rfl))) rfl) ?_
            refine fsteps_cons 6 rfl (fun a u hE hD hk => f_val (o := ⟨some 21, _, _, _, _, _⟩) (.int .i64 (m : Int)) rfl (wanted_at (b := true) true rfl rfl (hD 3 19 (by kernel_rfl))) (exec_len (.tmp 20) _ _ slO.und (some ⟨g2, o2, none⟩) m c2 rfl (hD 4 20 (by kernel_rfl))) rfl) ?_
            refine fsteps_cons 7 rfl (fun a u hE hD hk => f_as (show ((decide ((0 : Int) < ((m : Int) : Int))) : Bool) = true from decide_eq_true (by omega)) (f_val (o := ⟨some 22, _, _, _, _, _⟩) (.bool (decide ((0 : Int) < ((m : Int) : Int)))) rfl (wanted_at (b := true) true rfl rfl (hD 3 19 (by kernel_rfl))) (exec_gtn (p := (m : Int)) (q := 0) rfl (hD 5 21 (by kernel_rfl)) rfl) rfl)) ?_
            refine sv 8 rfl rfl rfl (fun a u hE hD hk => exec_pick (.tmp 19) (.tmp 22) (.const (.bool false)) (.bool true) rfl (hD 3 19 (by kernel_rfl)) (hD 6 22 (by kernel_rfl))) ?_
            refine sv 9 rfl rfl rfl (fun a u hE hD hk => exec_move (.tmp 23) _ rfl (hD 7 23 (by kernel_rfl))) ?_
            refine fsteps_cons 10 rfl (fun a u hE hD hk => f_val (o := ⟨some 25, _, _, _, _, _⟩) (.slice (some ⟨g1, o1, none⟩) n c1) rfl (wanted_at (b := true) true rfl rfl (hD 8 24 (by kernel_rfl))) (exec_move (.tmp 4) _ rfl (hE 4 (.slice (some ⟨g1, o1, none⟩) n c1) (by kernel_rfl) (by kernel_rfl))) rfl) ?_
            refine fsteps_cons 11 rfl (fun a u hE hD hk => f_val (o := ⟨some 26, _, _, _, _, _⟩) (.pointer (some ⟨g1, o1, none⟩)) rfl (wanted_at (b := true) true rfl rfl (hD 8 24 (by kernel_rfl))) (exec_ixo slO (.tmp 25) (.const (.int .i64 0)) (g1) (o1) n c1 0 (o1) (0) rfl (hD 9 25 (by kernel_rfl)) rfl (by first | rfl | omega) ((by omega)) (by first | rfl | omega)) rfl) ?_
            refine fsteps_cons 12 rfl (fun a u hE hD hk => f_val (o := ⟨some 27, _, _, _, _, _⟩) (.pointer (some ⟨g1, o1 + 2, none⟩)) rfl (wanted_at (b := true) true rfl rfl (hD 8 24 (by kernel_rfl))) (exec_fldo 25 2 2 (.tmp 26) (g1) (o1) (o1 + 2) rfl (hD 10 26 (by kernel_rfl)) (by kernel_rfl) rfl) rfl) ?_
            refine fsteps_cons 13 rfl (fun a u hE hD hk => f_val (o := ⟨some 28, _, _, _, _, _⟩) (.int .i64 x.firm) rfl (wanted_at (b := true) true rfl rfl (hD 8 24 (by kernel_rfl))) (exec_loadi 3 Try.underlying3 (.tmp 27) ⟨g1, o1 + 2, none⟩ (.int .i64 x.firm) rfl (hD 11 27 (by kernel_rfl)) (range_int (range_kept HE1.out hk) 2 _ rfl)) rfl) ?_
            refine fsteps_cons 14 rfl (fun a u hE hD hk => f_val (o := ⟨some 29, _, _, _, _, _⟩) (.slice (some ⟨g2, o2, none⟩) m c2) rfl (wanted_at (b := true) true rfl rfl (hD 8 24 (by kernel_rfl))) (exec_move (.tmp 5) _ rfl (hE 5 (.slice (some ⟨g2, o2, none⟩) m c2) (by kernel_rfl) (by kernel_rfl))) rfl) ?_
            refine fsteps_cons 15 rfl (fun a u hE hD hk => f_val (o := ⟨some 30, _, _, _, _, _⟩) (.pointer (some ⟨g2, o2, none⟩)) rfl (wanted_at (b := true) true rfl rfl (hD 8 24 (by kernel_rfl))) (exec_ixo slO (.tmp 29) (.const (.int .i64 0)) (g2) (o2) m c2 0 (o2) (0) rfl (hD 13 29 (by kernel_rfl)) rfl (by first | rfl | omega) ((by omega)) (by first | rfl | omega)) rfl) ?_
            refine fsteps_cons 16 rfl (fun a u hE hD hk => f_val (o := ⟨some 31, _, _, _, _, _⟩) (.pointer (some ⟨g2, o2 + 2, none⟩)) rfl (wanted_at (b := true) true rfl rfl (hD 8 24 (by kernel_rfl))) (exec_fldo 25 2 2 (.tmp 30) (g2) (o2) (o2 + 2) rfl (hD 14 30 (by kernel_rfl)) (by kernel_rfl) rfl) rfl) ?_
            refine fsteps_cons 17 rfl (fun a u hE hD hk => f_val (o := ⟨some 32, _, _, _, _, _⟩) (.int .i64 y.firm) rfl (wanted_at (b := true) true rfl rfl (hD 8 24 (by kernel_rfl))) (exec_loadi 3 Try.underlying3 (.tmp 31) ⟨g2, o2 + 2, none⟩ (.int .i64 y.firm) rfl (hD 15 31 (by kernel_rfl)) (range_int (range_kept HE2.out hk) 2 _ rfl)) rfl) ?_
            refine fsteps_cons 18 rfl (fun a u hE hD hk => f_as (show ((decide ((x.firm : Int) ≠ (y.firm : Int))) : Bool) = false from decide_eq_false (by simpa using hf)) (f_val (o := ⟨some 33, _, _, _, _, _⟩) (.bool (decide ((x.firm : Int) ≠ (y.firm : Int)))) rfl (wanted_at (b := true) true rfl rfl (hD 8 24 (by kernel_rfl))) (exec_nen (p := x.firm) (q := y.firm) rfl (hD 12 28 (by kernel_rfl)) (hD 16 32 (by kernel_rfl))) rfl)) ?_
            refine sv 19 rfl rfl rfl (fun a u hE hD hk => exec_pick (.tmp 24) (.tmp 33) (.const (.bool false)) (.bool false) rfl (hD 8 24 (by kernel_rfl)) (hD 17 33 (by kernel_rfl))) ?_
            refine sv 20 rfl rfl rfl (fun a u hE hD hk => exec_move (.tmp 34) _ rfl (hD 18 34 (by kernel_rfl))) ?_
            refine fsteps_cons 21 rfl (fun a u hE hD hk => f_skip (o := ⟨some 36, _, _, _, _, _⟩) rfl (wanted_at (b := true) false rfl rfl (hD 19 35 (by kernel_rfl))) rfl) ?_
            refine fsteps_cons 22 rfl (fun a u hE hD hk => f_skip (o := ⟨some 37, _, _, _, _, _⟩) rfl (wanted_at (b := true) false rfl rfl (hD 19 35 (by kernel_rfl))) rfl) ?_
            refine fsteps_cons 23 rfl (fun a u hE hD hk => f_skip (o := ⟨some 38, _, _, _, _, _⟩) rfl (wanted_at (b := true) false rfl rfl (hD 19 35 (by kernel_rfl))) rfl) ?_
            refine fsteps_cons 24 rfl (fun a u hE hD hk => f_skip (o := ⟨some 39, _, _, _, _, _⟩) rfl (wanted_at (b := true) false rfl rfl (hD 19 35 (by kernel_rfl))) rfl) ?_
            refine fsteps_cons 25 rfl (fun a u hE hD hk => f_skip (o := ⟨some 40, _, _, _, _, _⟩) rfl (wanted_at (b := true) false rfl rfl (hD 19 35 (by kernel_rfl))) rfl) ?_
            refine fsteps_cons 26 rfl (fun a u hE hD hk => f_skip (o := ⟨some 41, _, _, _, _, _⟩) rfl (wanted_at (b := true) false rfl rfl (hD 19 35 (by kernel_rfl))) rfl) ?_
            refine fsteps_cons 27 rfl (fun a u hE hD hk => f_skip (o := ⟨some 42, _, _, _, _, _⟩) rfl (wanted_at (b := true) false rfl rfl (hD 19 35 (by kernel_rfl))) rfl) ?_
            refine fsteps_cons 28 rfl (fun a u hE hD hk => f_skip (o := ⟨some 43, _, _, _, _, _⟩) rfl (wanted_at (b := true) false rfl rfl (hD 19 35 (by kernel_rfl))) rfl) ?_
            refine fsteps_cons 29 rfl (fun a u hE hD hk => f_skip (o := ⟨some 44, _, _, _, _, _⟩) rfl (wanted_at (b := true) false rfl rfl (hD 19 35 (by kernel_rfl))) rfl) ?_
            exact fsteps_nil
          intro gv w3 hV k3
          rw [show dstsOf _ 29 = [16, 17, 18, 19, 20, 21, 22, 23, 24, 25, 26, 27, 28, 29, 30, 31, 32, 33, 34, 35, 36, 37, 38, 39, 40, 41, 42, 43, 44] by kernel_rfl]
          simp only [fC, fN, sA, sS, sZ, dS, dZ]
          rw [show gv 35 = .bool false from hV 19 35 (by kernel_rfl)]
          rw [show gv 44 = undef from hV 28 44 (by kernel_rfl)]
          clear hV
          refine l_val (o := ⟨some 45, _, _, _, _, _⟩) (.bool false) rfl (exec_pickF (.tmp 35) (.tmp 44) (.const (.bool false)) (.bool false) rfl (by kernel_rfl) rfl) ?_
          simp only [Act.put, sA, sS, sZ]
          refine wpList_nil ?_
          go_wp2
          go_meet
          case rel => exact ⟨rfl, k3⟩
        · skip
          refine wp_free 29 [.eq (.slice (some ⟨g1, o1, none⟩) n c1), .eq (.int .i64 (n : Int)), .eq (.bool true), .eq (.bool true), .eq (.slice (some ⟨g2, o2, none⟩) m c2), .eq (.int .i64 (m : Int)), .eq (.bool true), .eq (.bool true), .eq (.bool true), .eq (.slice (some ⟨g1, o1, none⟩) n c1), .eq (.pointer (some ⟨g1, o1, none⟩)), .eq (.pointer (some ⟨g1, o1 + 2, none⟩)), .eq (.int .i64 x.firm), .eq (.slice (some ⟨g2, o2, none⟩) m c2), .eq (.pointer (some ⟨g2, o2, none⟩)), .eq (.pointer (some ⟨g2, o2 + 2, none⟩)), .eq (.int .i64 y.firm), .eq (.bool true), .eq (.bool true), .eq (.bool true), .eq (.slice (some ⟨g1, o1, none⟩) n c1), .eq (.pointer (some ⟨g1, o1, none⟩)), .eq (.pointer (some ⟨g1, o1 + 5, none⟩)), .eq (.int .i64 x.price), .eq (.slice (some ⟨g2, o2, none⟩) m c2), .eq (.pointer (some ⟨g2, o2, none⟩)), .eq (.pointer (some ⟨g2, o2 + 5, none⟩)), .eq (.int .i64 y.price), .eq (.bool false)] (by kernel_rfl) rfl (by kernel_rfl) ?_ ?_
          · refine sv 1 rfl rfl rfl (fun a u hE hD hk => exec_move (.tmp 4) _ rfl (hE 4 (.slice (some ⟨g1, o1, none⟩) n c1) (by kernel_rfl) (by kernel_rfl))) ?_
            refine sv 2 rfl rfl rfl (fun a u hE hD hk => exec_len (.tmp 16) _ _ slO.und (some ⟨g1, o1, none⟩) n c1 rfl (hD 0 16 (by kernel_rfl))) ?_
            refine fsteps_cons 3 rfl (fun a u hE hD hk => f_as (show ((decide ((0 : Int) < ((n : Int) : Int))) : Bool) = true from decide_eq_true (by omega)) (f_val (o := ⟨some 18, _, _, _, _, _⟩) (.bool (decide ((0 : Int) < ((n : Int) : Int)))) rfl (wanted_none rfl _) (exec_gtn (p := (n : Int)) (q := 0) rfl (hD 1 17 (by kernel_rfl)) rfl) rfl)) ?_
            refine sv 4 rfl rfl rfl (fun a u hE hD hk => exec_move (.tmp 18) _ rfl (hD 2 18 (by kernel_rfl))) ?_
            refine fsteps_cons 5 rfl (fun a u hE hD hk => f_val (o := ⟨some 20, _, _, _, _, _⟩) (.slice (some ⟨g2, o2, none⟩) m c2) rfl (wanted_at (b := true) true rfl rfl (hD 3 19 (by kernel_rfl))) (exec_move (.tmp 5) _ rfl (hE 5 (.slice (some ⟨g2, o2, none⟩) m c2) (by kernel_rfl) (by kernel_rfl))) rfl) ?_
            refine fsteps_cons 6 rfl (fun a u hE hD hk => f_val (o := ⟨some 21, _, _, _, _, _⟩) (.int .i64 (m : Int)) rfl (wanted_at (b := true) true rfl rfl (hD 3 19 (by kernel_rfl))) (exec_len (.tmp 20) _ _ slO.und (some ⟨g2, o2, none⟩) m c2 rfl (hD 4 20 (by kernel_rfl))) rfl) ?_
            refine fsteps_cons 7 rfl (fun a u hE hD hk => f_as (show ((decide ((0 : Int) < ((m : Int) : Int))) : Bool) = true from decide_eq_true (by omega)) (f_val (o := ⟨some 22, _, _, _, _, _⟩) (.bool (decide ((0 : Int) < ((m : Int) : Int)))) rfl (wanted_at (b := true) true rfl rfl (hD 3 19 (by kernel_rfl))) (exec_gtn (p := (m : Int)) (q := 0) rfl (hD 5 21 (by kernel_rfl)) rfl) rfl)) ?_
            refine sv 8 rfl rfl rfl (fun a u hE hD hk => exec_pick (.tmp 19) (.tmp 22) (.const (.bool false)) (.bool true) rfl (hD 3 19 (by kernel_rfl)) (hD 6 22 (by kernel_rfl))) ?_
            refine sv 9 rfl rfl rfl (fun a u hE hD hk => exec_move (.tmp 23) _ rfl (hD 7 23 (by kernel_rfl))) ?_
            refine fsteps_cons 10 rfl (fun a u hE hD hk => f_val (o := ⟨some 25, _, _, _, _, _⟩) (.slice (some ⟨g1, o1, none⟩) n c1) rfl (wanted_at (b := true) true rfl rfl (hD 8 24 (by kernel_rfl))) (exec_move (.tmp 4) _ rfl (hE 4 (.slice (some ⟨g1, o1, none⟩) n c1) (by kernel_rfl) (by kernel_rfl))) rfl) ?_
            refine fsteps_cons 11 rfl (fun a u hE hD hk => f_val (o := ⟨some 26, _, _, _, _, _⟩) (.pointer (some ⟨g1, o1, none⟩)) rfl (wanted_at (b := true) true rfl rfl (hD 8 24 (by kernel_rfl))) (exec_ixo slO (.tmp 25) (.const (.int .i64 0)) (g1) (o1) n c1 0 (o1) (0) rfl (hD 9 25 (by kernel_rfl)) rfl (by first | rfl | omega) ((by omega)) (by first | rfl | omega)) rfl) ?_
            refine fsteps_cons 12 rfl (fun a u hE hD hk => f_val (o := ⟨some 27, _, _, _, _, _⟩) (.pointer (some ⟨g1, o1 + 2, none⟩)) rfl (wanted_at (b := true) true rfl rfl (hD 8 24 (by kernel_rfl))) (exec_fldo 25 2 2 (.tmp 26) (g1) (o1) (o1 + 2) rfl (hD 10 26 (by kernel_rfl)) (by kernel_rfl) rfl) rfl) ?_
            refine fsteps_cons 13 rfl (fun a u hE hD hk => f_val (o := ⟨some 28, _, _, _, _, _⟩) (.int .i64 x.firm) rfl (wanted_at (b := true) true rfl rfl (hD 8 24 (by kernel_rfl))) (exec_loadi 3 Try.underlying3 (.tmp 27) ⟨g1, o1 + 2, none⟩ (.int .i64 x.firm) rfl (hD 11 27 (by kernel_rfl)) (range_int (range_kept HE1.out hk) 2 _ rfl)) rfl) ?_
            refine fsteps_cons 14 rfl (fun a u hE hD hk => f_val (o := ⟨some 29, _, _, _, _, _⟩) (.slice (some ⟨g2, o2, none⟩) m c2) rfl (wanted_at (b := true) true rfl rfl (hD 8 24 (by kernel_rfl))) (exec_move (.tmp 5) _ rfl (hE 5 (.slice (some ⟨g2, o2, none⟩) m c2) (by kernel_rfl) (by kernel_rfl))) rfl) ?_
            refine fsteps_cons 15 rfl (fun a u hE hD hk => f_val (o := ⟨some 30, _, _, _, _, _⟩) (.pointer (some ⟨g2, o2, none⟩)) rfl (wanted_at (b := true) true rfl rfl (hD 8 24 (by kernel_rfl))) (exec_ixo slO (.tmp 29) (.const (.int .i64 0)) (g2) (o2) m c2 0 (o2) (0) rfl (hD 13 29 (by kernel_rfl)) rfl (by first | rfl | omega) ((by omega)) (by first | rfl | omega)) rfl) ?_
            refine fsteps_cons 16 rfl (fun a u hE hD hk => f_val (o := ⟨some 31, _, _, _, _, _⟩) (.pointer (some ⟨g2, o2 + 2, none⟩)) rfl (wanted_at (b := true) true rfl rfl (hD 8 24 (by kernel_rfl))) (exec_fldo 25 2 2 (.tmp 30) (g2) (o2) (o2 + 2) rfl (hD 14 30 (by kernel_rfl)) (by kernel_rfl) rfl) rfl) ?_
            refine fsteps_cons 17 rfl (fun a u hE hD hk => f_val (o := ⟨some 32, _, _, _, _, _⟩) (.int .i64 y.firm) rfl (wanted_at (b := true) true rfl rfl (hD 8 24 (by kernel_rfl))) (exec_loadi 3 Try.underlying3 (.tmp 31) ⟨g2, o2 + 2, none⟩ (.int .i64 y.firm) rfl (hD 15 31 (by kernel_rfl)) (range_int (range_kept HE2.out hk) 2 _ rfl)) rfl) ?_
            refine fsteps_cons 18 rfl (fun a u hE hD hk => f_as (show ((decide ((x.firm : Int) ≠ (y.firm : Int))) : Bool) = true from decide_eq_true hf) (f_val (o := ⟨some 33, _, _, _, _, _⟩) (.bool (decide ((x.firm : Int) ≠ (y.firm : Int)))) rfl (wanted_at (b := true) true rfl rfl (hD 8 24 (by kernel_rfl))) (exec_nen (p := x.firm) (q := y.firm) rfl (hD 12 28 (by kernel_rfl)) (hD 16 32 (by kernel_rfl))) rfl)) ?_
            refine sv 19 rfl rfl rfl (fun a u hE hD hk => exec_pick (.tmp 24) (.tmp 33) (.const (.bool false)) (.bool true) rfl (hD 8 24 (by kernel_rfl)) (hD 17 33 (by kernel_rfl))) ?_
            refine sv 20 rfl rfl rfl (fun a u hE hD hk => exec_move (.tmp 34) _ rfl (hD 18 34 (by kernel_rfl))) ?_
            refine fsteps_cons 21 rfl (fun a u hE hD hk => f_val (o := ⟨some 36, _, _, _, _, _⟩) (.slice (some ⟨g1, o1, none⟩) n c1) rfl (wanted_at (b := true) true rfl rfl (hD 19 35 (by kernel_rfl))) (exec_move (.tmp 4) _ rfl (hE 4 (.slice (some ⟨g1, o1, none⟩) n c1) (by kernel_rfl) (by kernel_rfl))) rfl) ?_
            refine fsteps_cons 22 rfl (fun a u hE hD hk => f_val (o := ⟨some 37, _, _, _, _, _⟩) (.pointer (some ⟨g1, o1, none⟩)) rfl (wanted_at (b := true) true rfl rfl (hD 19 35 (by kernel_rfl))) (exec_ixo slO (.tmp 36) (.const (.int .i64 0)) (g1) (o1) n c1 0 (o1) (0) rfl (hD 20 36 (by kernel_rfl)) rfl (by first | rfl | omega) ((by omega)) (by first | rfl | omega)) rfl) ?_
            refine fsteps_cons 23 rfl (fun a u hE hD hk => f_val (o := ⟨some 38, _, _, _, _, _⟩) (.pointer (some ⟨g1, o1 + 5, none⟩)) rfl (wanted_at (b := true) true rfl rfl (hD 19 35 (by kernel_rfl))) (exec_fldo 25 5 5 (.tmp 37) (g1) (o1) (o1 + 5) rfl (hD 21 37 (by kernel_rfl)) (by kernel_rfl) rfl) rfl) ?_
            refine fsteps_cons 24 rfl (fun a u hE hD hk => f_val (o := ⟨some 39, _, _, _, _, _⟩) (.int .i64 x.price) rfl (wanted_at (b := true) true rfl rfl (hD 19 35 (by kernel_rfl))) (exec_loadi 3 Try.underlying3 (.tmp 38) ⟨g1, o1 + 5, none⟩ (.int .i64 x.price) rfl (hD 22 38 (by kernel_rfl)) (range_int (range_kept HE1.out hk) 5 _ rfl)) rfl) ?_
            refine fsteps_cons 25 rfl (fun a u hE hD hk => f_val (o := ⟨some 40, _, _, _, _, _⟩) (.slice (some ⟨g2, o2, none⟩) m c2) rfl (wanted_at (b := true) true rfl rfl (hD 19 35 (by kernel_rfl))) (exec_move (.tmp 5) _ rfl (hE 5 (.slice (some ⟨g2, o2, none⟩) m c2) (by kernel_rfl) (by kernel_rfl))) rfl) ?_
            refine fsteps_cons 26 rfl (fun a u hE hD hk => f_val (o := ⟨some 41, _, _, _, _, _⟩) (.pointer (some ⟨g2, o2, none⟩)) rfl (wanted_at (b := true) true rfl rfl (hD 19 35 (by kernel_rfl))) (exec_ixo slO (.tmp 40) (.const (.int .i64 0)) (g2) (o2) m c2 0 (o2) (0) rfl (hD 24 40 (by kernel_rfl)) rfl (by first | rfl | omega) ((by omega)) (by first | rfl | omega)) rfl) ?_
            refine fsteps_cons 27 rfl (fun a u hE hD hk => f_val (o := ⟨some 42, _, _, _, _, _⟩) (.pointer (some ⟨g2, o2 + 5, none⟩)) rfl (wanted_at (b := true) true rfl rfl (hD 19 35 (by kernel_rfl))) (exec_fldo 25 5 5 (.tmp 41) (g2) (o2) (o2 + 5) rfl (hD 25 41 (by kernel_rfl)) (by kernel_rfl) rfl) rfl) ?_
            refine fsteps_cons 28 rfl (fun a u hE hD hk => f_val (o := ⟨some 43, _, _, _, _, _⟩) (.int .i64 y.price) rfl (wanted_at (b := true) true rfl rfl (hD 19 35 (by kernel_rfl))) (exec_loadi 3 Try.underlying3 (.tmp 42) ⟨g2, o2 + 5, none⟩ (.int .i64 y.price) rfl (hD 26 42 (by kernel_rfl)) (range_int (range_kept HE2.out hk) 5 _ rfl)) rfl) ?_
            refine fsteps_cons 29 rfl (fun a u hE hD hk => f_as (show ((decide ((y.price : Int) ≤ (x.price : Int))) : Bool) = false from decide_eq_false (by have := HP.out; omega)) (f_val (o := ⟨some 44, _, _, _, _, _⟩) (.bool (decide ((y.price : Int) ≤ (x.price : Int)))) rfl (wanted_at (b := true) true rfl rfl (hD 19 35 (by kernel_rfl))) (exec_gen (p := x.price) (q := y.price) rfl (hD 23 39 (by kernel_rfl)) (hD 27 43 (by kernel_rfl))) rfl)) ?_
            exact fsteps_nil
          intro gv w3 hV k3
          rw [show dstsOf _ 29 = [16, 17, 18, 19, 20, 21, 22, 23, 24, 25, 26, 27, 28, 29, 30, 31, 32, 33, 34, 35, 36, 37, 38, 39, 40, 41, 42, 43, 44] by kernel_rfl]
          simp only [fC, fN, sA, sS, sZ, dS, dZ]
          rw [show gv 35 = .bool true from hV 19 35 (by kernel_rfl)]
          rw [show gv 44 = .bool false from hV 28 44 (by kernel_rfl)]
          clear hV
          refine l_val (o := ⟨some 45, _, _, _, _, _⟩) (.bool false) rfl (exec_pick (.tmp 35) (.tmp 44) (.const (.bool false)) (.bool false) rfl (by kernel_rfl) (by kernel_rfl)) ?_
          simp only [Act.put, sA, sS, sZ]
          refine wpList_nil ?_
          go_wp2
          go_meet
          case rel => exact ⟨rfl, k3⟩
      · skip
        refine wp_free 29 [.eq (.slice A1 n c1), .eq (.int .i64 (n : Int)), .eq (.bool true), .eq (.bool true), .eq (.slice A2 m c2), .eq (.int .i64 (m : Int)), .eq (.bool false), .eq (.bool false), .eq (.bool false), .eq undef, .eq undef, .eq undef, .eq undef, .eq undef, .eq undef, .eq undef, .eq undef, .eq undef, .eq (.bool false), .eq (.bool false), .eq undef, .eq undef, .eq undef, .eq undef, .eq undef, .eq undef, .eq undef, .eq undef, .eq undef] (by kernel_rfl) rfl (by kernel_rfl) ?_ ?_
        · refine sv 1 rfl rfl rfl (fun a u hE hD hk => exec_move (.tmp 4) _ rfl (hE 4 (.slice A1 n c1) (by kernel_rfl) (by kernel_rfl))) ?_
          refine sv 2 rfl rfl rfl (fun a u hE hD hk => exec_len (.tmp 16) _ _ slO.und A1 n c1 rfl (hD 0 16 (by kernel_rfl))) ?_
          refine fsteps_cons 3 rfl (fun a u hE hD hk => f_as (show ((decide ((0 : Int) < ((n : Int) : Int))) : Bool) = true from decide_eq_true (by omega)) (f_val (o := ⟨some 18, _, _, _, _, _⟩) (.bool (decide ((0 : Int) < ((n : Int) : Int)))) rfl (wanted_none rfl _) (exec_gtn (p := (n : Int)) (q := 0) rfl (hD 1 17 (by kernel_rfl)) rfl) rfl)) ?_
          refine sv 4 rfl rfl rfl (fun a u hE hD hk => exec_move (.tmp 18) _ rfl (hD 2 18 (by kernel_rfl))) ?_
          refine fsteps_cons 5 rfl (fun a u hE hD hk => f_val (o := ⟨some 20, _, _, _, _, _⟩) (.slice A2 m c2) rfl (wanted_at (b := true) true rfl rfl (hD 3 19 (by kernel_rfl))) (exec_move (.tmp 5) _ rfl (hE 5 (.slice A2 m c2) (by kernel_rfl) (by kernel_rfl))) rfl) ?_
          refine fsteps_cons 6 rfl (fun a u hE hD hk => f_val (o := ⟨some 21, _, _, _, _, _⟩) (.int .i64 (m : Int)) rfl (wanted_at (b := true) true rfl rfl (hD 3 19 (by kernel_rfl))) (exec_len (.tmp 20) _ _ slO.und A2 m c2 rfl (hD 4 20 (by kernel_rfl))) rfl) ?_
          refine fsteps_cons 7 rfl (fun a u hE hD hk => f_as (show ((decide ((0 : Int) < ((m : Int) : Int))) : Bool) = false from decide_eq_false (by omega)) (f_val (o := ⟨some 22, _, _, _, _, _⟩) (.bool (decide ((0 : Int) < ((m : Int) : Int)))) rfl (wanted_at (b := true) true rfl rfl (hD 3 19 (by kernel_rfl))) (exec_gtn (p := (m : Int)) (q := 0) rfl (hD 5 21 (by kernel_rfl)) rfl) rfl)) ?_
          refine sv 8 rfl rfl rfl (fun a u hE hD hk => exec_pick (.tmp 19) (.tmp 22) (.const (.bool false)) (.bool false) rfl (hD 3 19 (by kernel_rfl)) (hD 6 22 (by kernel_rfl))) ?_
          refine sv 9 rfl rfl rfl (fun a u hE hD hk => exec_move (.tmp 23) _ rfl (hD 7 23 (by kernel_rfl))) ?_
          refine fsteps_cons 10 rfl (fun a u hE hD hk => f_skip (o := ⟨some 25, _, _, _, _, _⟩) rfl (wanted_at (b := true) false rfl rfl (hD 8 24 (by kernel_rfl))) rfl) ?_
          refine fsteps_cons 11 rfl (fun a u hE hD hk => f_skip (o := ⟨some 26, _, _, _, _, _⟩) rfl (wanted_at (b := true) false rfl rfl (hD 8 24 (by kernel_rfl))) rfl) ?_
          refine fsteps_cons 12 rfl (fun a u hE hD hk => f_skip (o := ⟨some 27, _, _, _, _, _⟩) rfl (wanted_at (b := true) false rfl rfl (hD 8 24 (by kernel_rfl))) rfl) ?_
          refine fsteps_cons 13 rfl (fun a u hE hD hk => f_skip (o := ⟨some 28, _, _, _, _, _⟩) rfl (wanted_at (b := true) false rfl rfl (hD 8 24 (by kernel_rfl))) rfl) ?_
          refine fsteps_cons 14 rfl (fun a u hE hD hk => f_skip (o := ⟨some 29, _, _, _, _, _⟩) rfl (wanted_at (b := true) false rfl rfl (hD 8 24 (by kernel_rfl))) rfl) ?_
          refine fsteps_cons 15 rfl (fun a u hE hD hk => f_skip (o := ⟨some 30, _, _, _, _, _⟩) rfl (wanted_at (b := true) false rfl rfl (hD 8 24 (by kernel_rfl))) rfl) ?_
          refine fsteps_cons 16 rfl (fun a u hE hD hk => f_skip (o := ⟨some 31, _, _, _, _, _⟩) rfl (wanted_at (b := true) false rfl rfl (hD 8 24 (by kernel_rfl))) rfl) ?_
          refine fsteps_cons 17 rfl (fun a u hE hD hk => f_skip (o := ⟨some 32, _, _, _, _, _⟩) rfl (wanted_at (b := true) false rfl rfl (hD 8 24 (by kernel_rfl))) rfl) ?_
          refine fsteps_cons 18 rfl (fun a u hE hD hk => f_skip (o := ⟨some 33, _, _, _, _, _⟩) rfl (wanted_at (b := true) false rfl rfl (hD 8 24 (by kernel_rfl))) rfl) ?_
          refine sv 19 rfl rfl rfl (fun a u hE hD hk => exec_pickF (.tmp 24) (.tmp 33) (.const (.bool false)) (.bool false) rfl (hD 8 24 (by kernel_rfl)) rfl) ?_
          refine sv 20 rfl rfl rfl (fun a u hE hD hk => exec_move (.tmp 34) _ rfl (hD 18 34 (by kernel_rfl))) ?_
          refine fsteps_cons 21 rfl (fun a u hE hD hk => f_skip (o := ⟨some 36, _, _, _, _, _⟩) rfl (wanted_at (b := true) false rfl rfl (hD 19 35 (by kernel_rfl))) rfl) ?_
          refine fsteps_cons 22 rfl (fun a u hE hD hk => f_skip (o := ⟨some 37, _, _, _, _, _⟩) rfl (wanted_at (b := true) false rfl rfl (hD 19 35 (by kernel_rfl))) rfl) ?_
          refine fsteps_cons 23 rfl (fun a u hE hD hk => f_skip (o := ⟨some 38, _, _, _, _, _⟩) rfl (wanted_at (b := true) false rfl rfl (hD 19 35 (by kernel_rfl))) rfl) ?_
          refine fsteps_cons 24 rfl (fun a u hE hD hk => f_skip (o := ⟨some 39, _, _, _, _, _⟩) rfl (wanted_at (b := true) false rfl rfl (hD 19 35 (by kernel_rfl))) rfl) ?_
          refine fsteps_cons 25 rfl (fun a u hE hD hk => f_skip (o := ⟨some 40, _, _, _, _, _⟩) rfl (wanted_at (b := true) false rfl rfl (hD 19 35 (by kernel_rfl))) rfl) ?_
          refine fsteps_cons 26 rfl (fun a u hE hD hk => f_skip (o := ⟨some 41, _, _, _, _, _⟩) rfl (wanted_at (b := true) false rfl rfl (hD 19 35 (by kernel_rfl))) rfl) ?_
          refine fsteps_cons 27 rfl (fun a u hE hD hk => f_skip (o := ⟨some 42, _, _, _, _, _⟩) rfl (wanted_at (b := true) false rfl rfl (hD 19 35 (by kernel_rfl))) rfl) ?_
          refine fsteps_cons 28 rfl (fun a u hE hD hk => f_skip (o := ⟨some 43, _, _, _, _, _⟩) rfl (wanted_at (b := true) false rfl rfl (hD 19 35 (by kernel_rfl))) rfl) ?_
          refine fsteps_cons 29 rfl (fun a u hE hD hk => f_skip (o := ⟨some 44, _, _, _, _, _⟩) rfl (wanted_at (b := true) false rfl rfl (hD 19 35 (by kernel_rfl))) rfl) ?_
          exact fsteps_nil
        intro gv w3 hV k3
        rw [show dstsOf _ 29 = [16, 17, 18, 19, 20, 21, 22, 23, 24, 25, 26, 27, 28, 29, 30, 31, 32, 33, 34, 35, 36, 37, 38, 39, 40, 41, 42, 43, 44] by kernel_rfl]
        simp only [fC, fN, sA, sS, sZ, dS, dZ]
        rw [show gv 35 = .bool false from hV 19 35 (by kernel_rfl)]
        rw [show gv 44 = undef from hV 28 44 (by kernel_rfl)]
        clear hV
        refine l_val (o := ⟨some 45, _, _, _, _, _⟩) (.bool false) rfl (exec_pickF (.tmp 35) (.tmp 44) (.const (.bool false)) (.bool false) rfl (by kernel_rfl) rfl) ?_
        simp only [Act.put, sA, sS, sZ]
        refine wpList_nil ?_
        go_wp2
        go_meet
        case rel => exact ⟨rfl, k3⟩
    · skip
      refine wp_free 29 [.eq (.slice A1 n c1), .eq (.int .i64 (n : Int)), .eq (.bool false), .eq (.bool false), .eq undef, .eq undef, .eq undef, .eq (.bool false), .eq (.bool false), .eq undef, .eq undef, .eq undef, .eq undef, .eq undef, .eq undef, .eq undef, .eq undef, .eq undef, .eq (.bool false), .eq (.bool false), .eq undef, .eq undef, .eq undef, .eq undef, .eq undef, .eq undef, .eq undef, .eq undef, .eq undef] (by kernel_rfl) rfl (by kernel_rfl) ?_ ?_
      · refine sv 1 rfl rfl rfl (fun a u hE hD hk => exec_move (.tmp 4) _ rfl (hE 4 (.slice A1 n c1) (by kernel_rfl) (by kernel_rfl))) ?_
        refine sv 2 rfl rfl rfl (fun a u hE hD hk => exec_len (.tmp 16) _ _ slO.und A1 n c1 rfl (hD 0 16 (by kernel_rfl))) ?_
        refine fsteps_cons 3 rfl (fun a u hE hD hk => f_as (show ((decide ((0 : Int) < ((n : Int) : Int))) : Bool) = false from decide_eq_false (by omega)) (f_val (o := ⟨some 18, _, _, _, _, _⟩) (.bool (decide ((0 : Int) < ((n : Int) : Int)))) rfl (wanted_none rfl _) (exec_gtn (p := (n : Int)) (q := 0) rfl (hD 1 17 (by kernel_rfl)) rfl) rfl)) ?_
        refine sv 4 rfl rfl rfl (fun a u hE hD hk => exec_move (.tmp 18) _ rfl (hD 2 18 (by kernel_rfl))) ?_
        refine fsteps_cons 5 rfl (fun a u hE hD hk => f_skip (o := ⟨some 20, _, _, _, _, _⟩) rfl (wanted_at (b := true) false rfl rfl (hD 3 19 (by kernel_rfl))) rfl) ?_
        refine fsteps_cons 6 rfl (fun a u hE hD hk => f_skip (o := ⟨some 21, _, _, _, _, _⟩) rfl (wanted_at (b := true) false rfl rfl (hD 3 19 (by kernel_rfl))) rfl) ?_
        refine fsteps_cons 7 rfl (fun a u hE hD hk => f_skip (o := ⟨some 22, _, _, _, _, _⟩) rfl (wanted_at (b := true) false rfl rfl (hD 3 19 (by kernel_rfl))) rfl) ?_
        refine sv 8 rfl rfl rfl (fun a u hE hD hk => exec_pickF (.tmp 19) (.tmp 22) (.const (.bool false)) (.bool false) rfl (hD 3 19 (by kernel_rfl)) rfl) ?_
        refine sv 9 rfl rfl rfl (fun a u hE hD hk => exec_move (.tmp 23) _ rfl (hD 7 23 (by kernel_rfl))) ?_
        refine fsteps_cons 10 rfl (fun a u hE hD hk => f_skip (o := ⟨some 25, _, _, _, _, _⟩) rfl (wanted_at (b := true) false rfl rfl (hD 8 24 (by kernel_rfl))) rfl) ?_
        refine fsteps_cons 11 rfl (fun a u hE hD hk => f_skip (o := ⟨some 26, _, _, _, _, _⟩) rfl (wanted_at (b := true) false rfl rfl (hD 8 24 (by kernel_rfl))) rfl) ?_
        refine fsteps_cons 12 rfl (fun a u hE hD hk => f_skip (o := ⟨some 27, _, _, _, _, _⟩) rfl (wanted_at (b := true) false rfl rfl (hD 8 24 (by kernel_rfl))) rfl) ?_
        refine fsteps_cons 13 rfl (fun a u hE hD hk => f_skip (o := ⟨some 28, _, _, _, _, _⟩) rfl (wanted_at (b := true) false rfl rfl (hD 8 24 (by kernel_rfl))) rfl) ?_
        refine fsteps_cons 14 rfl (fun a u hE hD hk => f_skip (o := ⟨some 29, _, _, _, _, _⟩) rfl (wanted_at (b := true) false rfl rfl (hD 8 24 (by kernel_rfl))) rfl) ?_
        refine fsteps_cons 15 rfl (fun a u hE hD hk => f_skip (o := ⟨some 30, _, _, _, _, _⟩) rfl (wanted_at (b := true) false rfl rfl (hD 8 24 (by kernel_rfl))) rfl) ?_
        refine fsteps_cons 16 rfl (fun a u hE hD hk => f_skip (o := ⟨some 31, _, _, _, _, _⟩) rfl (wanted_at (b := true) false rfl rfl (hD 8 24 (by kernel_rfl))) rfl) ?_
        refine fsteps_cons 17 rfl (fun a u hE hD hk => f_skip (o := ⟨some 32, _, _, _, _, _⟩) rfl (wanted_at (b := true) false rfl rfl (hD 8 24 (by kernel_rfl))) rfl) ?_
        refine fsteps_cons 18 rfl (fun a u hE hD hk => f_skip (o := ⟨some 33, _, _, _, _, _⟩) rfl (wanted_at (b := true) false rfl rfl (hD 8 24 (by kernel_rfl))) rfl) ?_
        refine sv 19 rfl rfl rfl (fun a u hE hD hk => exec_pickF (.tmp 24) (.tmp 33) (.const (.bool false)) (.bool false) rfl (hD 8 24 (by kernel_rfl)) rfl) ?_
        refine sv 20 rfl rfl rfl (fun a u hE hD hk => exec_move (.tmp 34) _ rfl (hD 18 34 (by kernel_rfl))) ?_
        refine fsteps_cons 21 rfl (fun a u hE hD hk => f_skip (o := ⟨some 36, _, _, _, _, _⟩) rfl (wanted_at (b := true) false rfl rfl (hD 19 35 (by kernel_rfl))) rfl) ?_
        refine fsteps_cons 22 rfl (fun a u hE hD hk => f_skip (o := ⟨some 37, _, _, _, _, _⟩) rfl (wanted_at (b := true) false rfl rfl (hD 19 35 (by kernel_rfl))) rfl) ?_
        refine fsteps_cons 23 rfl (fun a u hE hD hk => f_skip (o := ⟨some 38, _, _, _, _, _⟩) rfl (wanted_at (b := true) false rfl rfl (hD 19 35 (by kernel_rfl))) rfl) ?_
        refine fsteps_cons 24 rfl (fun a u hE hD hk => f_skip (o := ⟨some 39, _, _, _, _, _⟩) rfl (wanted_at (b := true) false rfl rfl (hD 19 35 (by kernel_rfl))) rfl) ?_
        refine fsteps_cons 25 rfl (fun a u hE hD hk => f_skip (o := ⟨some 40, _, _, _, _, _⟩) rfl (wanted_at (b := true) false rfl rfl (hD 19 35 (by kernel_rfl))) rfl) ?_
        refine fsteps_cons 26 rfl (fun a u hE hD hk => f_skip (o := ⟨some 41, _, _, _, _, _⟩) rfl (wanted_at (b := true) false rfl rfl (hD 19 35 (by kernel_rfl))) rfl) ?_
        refine fsteps_cons 27 rfl (fun a u hE hD hk => f_skip (o := ⟨some 42, _, _, _, _, _⟩) rfl (wanted_at (b := true) false rfl rfl (hD 19 35 (by kernel_rfl))) rfl) ?_
        refine fsteps_cons 28 rfl (fun a u hE hD hk => f_skip (o := ⟨some 43, _, _, _, _, _⟩) rfl (wanted_at (b := true) false rfl rfl (hD 19 35 (by kernel_rfl))) rfl) ?_
        refine fsteps_cons 29 rfl (fun a u hE hD hk => f_skip (o := ⟨some 44, _, _, _, _, _⟩) rfl (wanted_at (b := true) false rfl rfl (hD 19 35 (by kernel_rfl))) rfl) ?_
        exact fsteps_nil
      intro gv w3 hV k3
      rw [show dstsOf _ 29 = [16, 17, 18, 19, 20, 21, 22, 23, 24, 25, 26, 27, 28, 29, 30, 31, 32, 33, 34, 35, 36, 37, 38, 39, 40, 41, 42, 43, 44] by kernel_rfl]
      simp only [fC, fN, sA, sS, sZ, dS, dZ]
      rw [show gv 35 = .bool false from hV 19 35 (by kernel_rfl)]
      rw [show gv 44 = undef from hV 28 44 (by kernel_rfl)]
      clear hV
      refine l_val (o := ⟨some 45, _, _, _, _, _⟩) (.bool false) rfl (exec_pickF (.tmp 35) (.tmp 44) (.const (.bool false)) (.bool false) rfl (by kernel_rfl) rfl) ?_
      simp only [Act.put, sA, sS, sZ]
      refine wpList_nil ?_
      go_wp2
      go_meet
      case rel => exact ⟨rfl, k3⟩
  case rest =>
    obtain ⟨rfl, hcut⟩ := hcut
    have HX3 := Lib.hid (HX.out.kept hcut)
    have HY3 := Lib.hid (HY.out.kept hcut)
    have HB3 := Lib.hid (HB2.out.kept hcut)
    have kw3 := kw2.trans hcut
    clear HX HY HB2 hcut kw2 HX0 HY0 HAP
    go_wp2_with fail
    go_loopw [6] (fun t wr => ∃ i : Nat, t = .int .i64 (i : Int) ∧ 1 ≤ i ∧ (i ≤ n ∨ i = 1) ∧ Kept wc wr) (fun t _ => n - (intOf t).toNat)
    case atStart => exact ⟨1, rfl, by omega, by omega, Kept.refl _⟩
    case round =>
      obtain ⟨i, rfl, hi1, hin, hkr⟩ := hrel
      by_cases hlt : i < n
      · obtain ⟨j, rfl⟩ : ∃ j, i = j + 1 := ⟨i - 1, by omega⟩
        obtain ⟨x, hx⟩ : ∃ x, X[j]? = some x := ⟨_, List.getElem?_eq_getElem (by rw [HN.out]; omega)⟩
        obtain ⟨y, hy⟩ : ∃ y, X[j + 1]? = some y := ⟨_, List.getElem?_eq_getElem (by rw [HN.out]; omega)⟩
        have HP := Lib.hid (row_next HR1.out hx hy)
        obtain ⟨g1, o1, c1', e1⟩ := HX3.out.some_ (by omega)
        injection e1 with e1 _ e1'
        subst e1 e1'
        have HE1 : Hid (wr.rangeAt g1 (o1 + j * 9) x.cells) := range_kept (HX3.out.rngO j x hx) hkr
        have HE2 : Hid (wr.rangeAt g1 (o1 + (j + 1) * 9) y.cells) := range_kept (HX3.out.rngO (j + 1) y hy) hkr
        clear hx hy
        go_upto_region 10 with fail
        refine wp_free 11 [.eq (.slice (some ⟨g1, o1, none⟩) n c1), .eq (.int .i64 ((j + 1 : Nat) : Int)), .eq (.pointer (some ⟨g1, o1 + (j + 1) * 9, none⟩)), .eq (.pointer (some ⟨g1, o1 + (j + 1) * 9 + 5, none⟩)), .eq (.int .i64 y.price), .eq (.slice (some ⟨g1, o1, none⟩) n c1), .eq (.int .i64 ((j + 1 : Nat) : Int)), .eq (.int .i64 ((((j + 1 : Nat) : Int) : Int) - (1 : Int))), .eq (.pointer (some ⟨g1, o1 + j * 9, none⟩)), .eq (.pointer (some ⟨g1, o1 + j * 9 + 5, none⟩)), .eq (.int .i64 x.price)] (by kernel_rfl) rfl (by kernel_rfl) ?_ ?_
        · refine sv 1 rfl rfl rfl (fun a u hE hD hk => exec_move (.tmp 4) _ rfl (hE 4 (.slice (some ⟨g1, o1, none⟩) n c1) (by kernel_rfl) (by kernel_rfl))) ?_
          refine sv 2 rfl rfl rfl (fun a u hE hD hk => exec_move (.tmp 6) _ rfl (hE 6 (.int .i64 ((j + 1 : Nat) : Int)) (by kernel_rfl) (by kernel_rfl))) ?_
          refine sv 3 rfl rfl rfl (fun a u hE hD hk => exec_ixo slO (.tmp 52) (.tmp 53) (g1) (o1) n c1 (j + 1) (o1 + (j + 1) * 9) (((j + 1 : Nat) : Int)) rfl (hD 0 52 (by kernel_rfl)) (hD 1 53 (by kernel_rfl)) (by first | rfl | omega) (hlt) (by first | rfl | omega)) ?_
          refine sv 4 rfl rfl rfl (fun a u hE hD hk => exec_fldo 25 5 5 (.tmp 54) (g1) (o1 + (j + 1) * 9) (o1 + (j + 1) * 9 + 5) rfl (hD 2 54 (by kernel_rfl)) (by kernel_rfl) rfl) ?_
          refine sv 5 rfl rfl rfl (fun a u hE hD hk => exec_loadi 3 Try.underlying3 (.tmp 55) ⟨g1, o1 + (j + 1) * 9 + 5, none⟩ (.int .i64 y.price) rfl (hD 3 55 (by kernel_rfl)) (range_int (range_kept HE2.out hk) 5 _ rfl)) ?_
          refine sv 6 rfl rfl rfl (fun a u hE hD hk => exec_move (.tmp 4) _ rfl (hE 4 (.slice (some ⟨g1, o1, none⟩) n c1) (by kernel_rfl) (by kernel_rfl))) ?_
          refine sv 7 rfl rfl rfl (fun a u hE hD hk => exec_move (.tmp 6) _ rfl (hE 6 (.int .i64 ((j + 1 : Nat) : Int)) (by kernel_rfl) (by kernel_rfl))) ?_
          refine sv 8 rfl rfl rfl (fun a u hE hD hk => exec_subn (p := (((j + 1 : Nat) : Int))) (q := (1)) ((((j + 1 : Nat) : Int) : Int) - (1 : Int)) rfl (hD 6 58 (by kernel_rfl)) rfl rfl (by omega) (by omega)) ?_
          refine sv 9 rfl rfl rfl (fun a u hE hD hk => exec_ixo slO (.tmp 57) (.tmp 59) (g1) (o1) n c1 j (o1 + j * 9) (((((j + 1 : Nat) : Int) : Int) - (1 : Int))) rfl (hD 5 57 (by kernel_rfl)) (hD 7 59 (by kernel_rfl)) (by first | rfl | omega) ((by omega)) (by first | rfl | omega)) ?_
          refine sv 10 rfl rfl rfl (fun a u hE hD hk => exec_fldo 25 5 5 (.tmp 60) (g1) (o1 + j * 9) (o1 + j * 9 + 5) rfl (hD 8 60 (by kernel_rfl)) (by kernel_rfl) rfl) ?_
          refine sv 11 rfl rfl rfl (fun a u hE hD hk => exec_loadi 3 Try.underlying3 (.tmp 61) ⟨g1, o1 + j * 9 + 5, none⟩ (.int .i64 x.price) rfl (hD 9 61 (by kernel_rfl)) (range_int (range_kept HE1.out hk) 5 _ rfl)) ?_
          exact fsteps_nil
        intro gv w4 hV k4
        rw [show dstsOf _ 11 = [52, 53, 54, 55, 56, 57, 58, 59, 60, 61, 62] by kernel_rfl]
        simp only [fC, fN, sA, sS, sZ, dS, dZ]
        rw [show gv 56 = .int .i64 y.price from hV 4 56 (by kernel_rfl)]
        rw [show gv 62 = .int .i64 x.price from hV 10 62 (by kernel_rfl)]
        clear hV
        refine l_val (o := ⟨some 63, _, _, _, _, _⟩) (.bool false) rfl (exec_as (show (decide ((x.price : Int) < (y.price : Int)) : Bool) = false from decide_eq_false (by have h := HP.out; simp only [bet, if_pos] at h; have h2 := of_decide_eq_false h; omega)) (exec_gtn (p := y.price) (q := x.price) rfl (by kernel_rfl) (by kernel_rfl))) ?_
        simp only [Act.put, sA, sS, sZ]
        refine wpList_nil ?_
        have kr4 := hkr.trans k4
        clear hkr k4 HE1 HE2 HP
        go_wp2
        exact ⟨⟨j + 2, by go_num, by omega, by omega, kr4⟩, by simp [intOf]; omega⟩
      · have HX3b := Lib.hid (HX3.out.kept hkr)
        have HY3b := Lib.hid (HY3.out.kept hkr)
        have HBb := Lib.hid (HB3.out.kept hkr)
        have kwb := kw3.trans hkr
        clear HX3 HY3 HB3 kw3 HR1
        obtain ⟨w5, hw5⟩ : ∃ u, u = wr := ⟨_, rfl⟩
        rw [← hw5] at HX3b HY3b HBb kwb ⊢
        clear hkr hw5
        go_wp2_with fail
        go_loopw [7] (fun t wr => ∃ i : Nat, t = .int .i64 (i : Int) ∧ 1 ≤ i ∧ (i ≤ m ∨ i = 1) ∧ Kept w5 wr) (fun t _ => m - (intOf t).toNat)
        case atStart => exact ⟨1, rfl, by omega, by omega, Kept.refl _⟩
        case round =>
          obtain ⟨i, rfl, hi1, hin, hkr⟩ := hrel
          by_cases hlt : i < m
          · obtain ⟨j, rfl⟩ : ∃ j, i = j + 1 := ⟨i - 1, by omega⟩
            obtain ⟨x, hx⟩ : ∃ x, Y[j]? = some x := ⟨_, List.getElem?_eq_getElem (by rw [HM.out]; omega)⟩
            obtain ⟨y, hy⟩ : ∃ y, Y[j + 1]? = some y := ⟨_, List.getElem?_eq_getElem (by rw [HM.out]; omega)⟩
            have HP := Lib.hid (row_next HR2.out hx hy)
            obtain ⟨g1, o1, c1', e1⟩ := HY3b.out.some_ (by omega)
            injection e1 with e1 _ e1'
            subst e1 e1'
            have HE1 : Hid (wr.rangeAt g1 (o1 + j * 9) x.cells) := range_kept (HY3b.out.rngO j x hx) hkr
            have HE2 : Hid (wr.rangeAt g1 (o1 + (j + 1) * 9) y.cells) := range_kept (HY3b.out.rngO (j + 1) y hy) hkr
            clear hx hy
            go_upto_region 15 with fail
            refine wp_free 11 [.eq (.slice (some ⟨g1, o1, none⟩) m c2), .eq (.int .i64 ((j + 1 : Nat) : Int)), .eq (.pointer (some ⟨g1, o1 + (j + 1) * 9, none⟩)), .eq (.pointer (some ⟨g1, o1 + (j + 1) * 9 + 5, none⟩)), .eq (.int .i64 y.price), .eq (.slice (some ⟨g1, o1, none⟩) m c2), .eq (.int .i64 ((j + 1 : Nat) : Int)), .eq (.int .i64 ((((j + 1 : Nat) : Int) : Int) - (1 : Int))), .eq (.pointer (some ⟨g1, o1 + j * 9, none⟩)), .eq (.pointer (some ⟨g1, o1 + j * 9 + 5, none⟩)), .eq (.int .i64 x.price)] (by kernel_rfl) rfl (by kernel_rfl) ?_ ?_
            · refine sv 1 rfl rfl rfl (fun a u hE hD hk => exec_move (.tmp 5) _ rfl (hE 5 (.slice (some ⟨g1, o1, none⟩) m c2) (by kernel_rfl) (by kernel_rfl))) ?_
              refine sv 2 rfl rfl rfl (fun a u hE hD hk => exec_move (.tmp 7) _ rfl (hE 7 (.int .i64 ((j + 1 : Nat) : Int)) (by kernel_rfl) (by kernel_rfl))) ?_
              refine sv 3 rfl rfl rfl (fun a u hE hD hk => exec_ixo slO (.tmp 70) (.tmp 71) (g1) (o1) m c2 (j + 1) (o1 + (j + 1) * 9) (((j + 1 : Nat) : Int)) rfl (hD 0 70 (by kernel_rfl)) (hD 1 71 (by kernel_rfl)) (by first | rfl | omega) (hlt) (by first | rfl | omega)) ?_
              refine sv 4 rfl rfl rfl (fun a u hE hD hk => exec_fldo 25 5 5 (.tmp 72) (g1) (o1 + (j + 1) * 9) (o1 + (j + 1) * 9 + 5) rfl (hD 2 72 (by kernel_rfl)) (by kernel_rfl) rfl) ?_
              refine sv 5 rfl rfl rfl (fun a u hE hD hk => exec_loadi 3 Try.underlying3 (.tmp 73) ⟨g1, o1 + (j + 1) * 9 + 5, none⟩ (.int .i64 y.price) rfl (hD 3 73 (by kernel_rfl)) (range_int (range_kept HE2.out hk) 5 _ rfl)) ?_
              refine sv 6 rfl rfl rfl (fun a u hE hD hk => exec_move (.tmp 5) _ rfl (hE 5 (.slice (some ⟨g1, o1, none⟩) m c2) (by kernel_rfl) (by kernel_rfl))) ?_
              refine sv 7 rfl rfl rfl (fun a u hE hD hk => exec_move (.tmp 7) _ rfl (hE 7 (.int .i64 ((j + 1 : Nat) : Int)) (by kernel_rfl) (by kernel_rfl))) ?_
              refine sv 8 rfl rfl rfl (fun a u hE hD hk => exec_subn (p := (((j + 1 : Nat) : Int))) (q := (1)) ((((j + 1 : Nat) : Int) : Int) - (1 : Int)) rfl (hD 6 76 (by kernel_rfl)) rfl rfl (by omega) (by omega)) ?_
              refine sv 9 rfl rfl rfl (fun a u hE hD hk => exec_ixo slO (.tmp 75) (.tmp 77) (g1) (o1) m c2 j (o1 + j * 9) (((((j + 1 : Nat) : Int) : Int) - (1 : Int))) rfl (hD 5 75 (by kernel_rfl)) (hD 7 77 (by kernel_rfl)) (by first | rfl | omega) ((by omega)) (by first | rfl | omega)) ?_
              refine sv 10 rfl rfl rfl (fun a u hE hD hk => exec_fldo 25 5 5 (.tmp 78) (g1) (o1 + j * 9) (o1 + j * 9 + 5) rfl (hD 8 78 (by kernel_rfl)) (by kernel_rfl) rfl) ?_
              refine sv 11 rfl rfl rfl (fun a u hE hD hk => exec_loadi 3 Try.underlying3 (.tmp 79) ⟨g1, o1 + j * 9 + 5, none⟩ (.int .i64 x.price) rfl (hD 9 79 (by kernel_rfl)) (range_int (range_kept HE1.out hk) 5 _ rfl)) ?_
              exact fsteps_nil
            intro gv w4 hV k4
            rw [show dstsOf _ 11 = [70, 71, 72, 73, 74, 75, 76, 77, 78, 79, 80] by kernel_rfl]
            simp only [fC, fN, sA, sS, sZ, dS, dZ]
            rw [show gv 74 = .int .i64 y.price from hV 4 74 (by kernel_rfl)]
            rw [show gv 80 = .int .i64 x.price from hV 10 80 (by kernel_rfl)]
            clear hV
            refine l_val (o := ⟨some 81, _, _, _, _, _⟩) (.bool false) rfl (exec_as (show (decide ((y.price : Int) < (x.price : Int)) : Bool) = false from decide_eq_false (by have h := HP.out; rw [show bet 2 y.price x.price = decide (y.price < x.price) from rfl] at h; have h2 := of_decide_eq_false h; omega)) (exec_ltn (p := y.price) (q := x.price) rfl (by kernel_rfl) (by kernel_rfl))) ?_
            simp only [Act.put, sA, sS, sZ]
            refine wpList_nil ?_
            have kr4 := hkr.trans k4
            clear hkr k4 HE1 HE2 HP
            go_wp2
            exact ⟨⟨j + 2, by go_num, by omega, by omega, kr4⟩, by simp [intOf]; omega⟩
          · have HXe5 := Lib.hid (HX3b.out.kept hkr)
            have HYe5 := Lib.hid (HY3b.out.kept hkr)
            have HB5 := Lib.hid (HBb.out.kept hkr)
            have kw5 := kwb.trans hkr
            clear HX3b HY3b HBb kwb hkr HR2
            have hL1 := HLen.out.1
            go_upto_region 17 with fail
            refine wp_text 16 [.eq (.pointer (some ⟨p, 0, none⟩)), .eq (.int .i64 (B.len : Int)), .eq (.slice A1 n c1), .eq (.int .i64 (n : Int)), .eq (.slice A2 m c2), .eq (.int .i64 (m : Int)), .eq (.int .i64 (((n : Int) : Int) + ((m : Int) : Int))), .eq (.bool true), .eq (.bool true), .eq (.pointer (some ⟨p, 0, none⟩)), .eq (.int .i64 (B.len : Int)), .eq (.bool true), .eq (.bool true), .eq (.bool true), .eq (.bool true), .eq (.bool true)] rfl (by kernel_rfl) ?_ ?_
            · refine sv 1 rfl rfl rfl (fun a u hE hD hk => exec_move (.tmp 3) _ rfl (hE 3 (.pointer (some ⟨p, 0, none⟩)) (by kernel_rfl) (by kernel_rfl))) ?_
              refine fsteps_cons 2 rfl (fun a u hE hD hk => f_call (o := ⟨some 83, _, _, _, _, _⟩) 33 #[.pointer (some ⟨p, 0, none⟩)] rfl (wanted_none rfl _) (exec_call 33 _ [.tmp 82] _ [.pointer (some ⟨p, 0, none⟩)] Try.func33 (by kernel_rfl) (by kernel_rfl) rfl (show [a.eval (.tmp 82)] = [.pointer (some ⟨p, 0, none⟩)] from (by rw [show a.eval (.tmp 82) = .pointer (some ⟨p, 0, none⟩) from (hD 0 82 (by kernel_rfl))] <;> rfl)) u) (blen_any u F p B (HB5.out.kept hk) HI.out)) ?_
              refine sv 3 rfl rfl rfl (fun a u hE hD hk => exec_move (.tmp 4) _ rfl (hE 4 (.slice A1 n c1) (by kernel_rfl) (by kernel_rfl))) ?_
              refine sv 4 rfl rfl rfl (fun a u hE hD hk => exec_len (.tmp 84) _ _ slO.und A1 n c1 rfl (hD 2 84 (by kernel_rfl))) ?_
              refine sv 5 rfl rfl rfl (fun a u hE hD hk => exec_move (.tmp 5) _ rfl (hE 5 (.slice A2 m c2) (by kernel_rfl) (by kernel_rfl))) ?_
              refine sv 6 rfl rfl rfl (fun a u hE hD hk => exec_len (.tmp 86) _ _ slO.und A2 m c2 rfl (hD 4 86 (by kernel_rfl))) ?_
              refine sv 7 rfl rfl rfl (fun a u hE hD hk => exec_addn (p := ((n : Int))) (q := ((m : Int))) (((n : Int) : Int) + ((m : Int) : Int)) rfl (hD 3 85 (by kernel_rfl)) (hD 5 87 (by kernel_rfl)) rfl (by omega) (by omega)) ?_
              refine fsteps_cons 8 rfl (fun a u hE hD hk => f_as (show ((decide (((B.len : Int) : Int) = ((((n : Int) : Int) + ((m : Int) : Int)) : Int))) : Bool) = true from decide_eq_true (by omega)) (f_val (o := ⟨some 89, _, _, _, _, _⟩) (.bool (decide (((B.len : Int) : Int) = ((((n : Int) : Int) + ((m : Int) : Int)) : Int)))) rfl (wanted_none rfl _) (exec_eqn (p := (B.len : Int)) (q := (((n : Int) : Int) + ((m : Int) : Int))) rfl (hD 1 83 (by kernel_rfl)) (hD 6 88 (by kernel_rfl))) rfl)) ?_
              refine sv 9 rfl rfl rfl (fun a u hE hD hk => exec_move (.tmp 89) _ rfl (hD 7 89 (by kernel_rfl))) ?_
              refine fsteps_cons 10 rfl (fun a u hE hD hk => f_val (o := ⟨some 91, _, _, _, _, _⟩) (.pointer (some ⟨p, 0, none⟩)) rfl (wanted_at (b := true) true rfl rfl (hD 8 90 (by kernel_rfl))) (exec_move (.tmp 3) _ rfl (hE 3 (.pointer (some ⟨p, 0, none⟩)) (by kernel_rfl) (by kernel_rfl))) rfl) ?_
              refine fsteps_cons 11 rfl (fun a u hE hD hk => f_call (o := ⟨some 92, _, _, _, _, _⟩) 33 #[.pointer (some ⟨p, 0, none⟩)] rfl (wanted_at (b := true) true rfl rfl (hD 8 90 (by kernel_rfl))) (exec_call 33 _ [.tmp 91] _ [.pointer (some ⟨p, 0, none⟩)] Try.func33 (by kernel_rfl) (by kernel_rfl) rfl (show [a.eval (.tmp 91)] = [.pointer (some ⟨p, 0, none⟩)] from (by rw [show a.eval (.tmp 91) = .pointer (some ⟨p, 0, none⟩) from (hD 9 91 (by kernel_rfl))] <;> rfl)) u) (blen_any u F p B (HB5.out.kept hk) HI.out)) ?_
              refine fsteps_cons 12 rfl (fun a u hE hD hk => f_as (show ((decide (((B.len : Int) : Int) ≤ (64 : Int))) : Bool) = true from decide_eq_true (by omega)) (f_val (o := ⟨some 93, _, _, _, _, _⟩) (.bool (decide (((B.len : Int) : Int) ≤ (64 : Int)))) rfl (wanted_at (b := true) true rfl rfl (hD 8 90 (by kernel_rfl))) (exec_len_ (p := (B.len : Int)) (q := 64) rfl (hD 10 92 (by kernel_rfl)) rfl) rfl)) ?_
              refine sv 13 rfl rfl rfl (fun a u hE hD hk => exec_pick (.tmp 90) (.tmp 93) (.const (.bool false)) (.bool true) rfl (hD 8 90 (by kernel_rfl)) (hD 11 93 (by kernel_rfl))) ?_
              refine sv 14 rfl rfl rfl (fun a u hE hD hk => exec_move (.tmp 94) _ rfl (hD 12 94 (by kernel_rfl))) ?_
              refine fsteps_cons 15 rfl (fun a u hE hD hk => f_call (o := ⟨some 96, _, _, _, _, _⟩) 3 #[] rfl (wanted_at (b := true) true rfl rfl (hD 13 95 (by kernel_rfl))) (exec_call 3 _ [] _ [] Try.func3 (by kernel_rfl) (by kernel_rfl) rfl rfl u) (bruns_gives u)) ?_
              refine sv 16 rfl rfl rfl (fun a u hE hD hk => exec_pick (.tmp 95) (.tmp 96) (.const (.bool false)) (.bool true) rfl (hD 13 95 (by kernel_rfl)) (hD 14 96 (by kernel_rfl))) ?_
              exact fsteps_nil
            intro gv w6 hV k6
            rw [show dstsOf _ 16 = [82, 83, 84, 85, 86, 87, 88, 89, 90, 91, 92, 93, 94, 95, 96, 97] by kernel_rfl]
            simp only [fC, fN, sA, sS, sZ, dS, dZ]
            rw [show gv 97 = .bool true from hV 15 97 (by kernel_rfl)]
            clear hV
            refine l_val (o := ⟨some 2, _, _, _, _, _⟩) (.bool true) rfl (exec_assign (.tmp 97) (.bool true) rfl (by kernel_rfl)) ?_
            simp only [Act.put, sA, sS, sZ]
            refine wpList_nil ?_
            go_wp2
            go_ret
            exact ⟨rfl, kw5.trans k6⟩
end Go.Proofs.Ytfpfpmhkkgfdbaa
