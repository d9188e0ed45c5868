/-
  The contract of package level's Take. Condition: a level as it may be; the quantity is an int's.
-/
import Derived.Test.YtlbkehpdohihlaaLvlG
import Derived.Test.YtlbkehpdohihlaaLvlH
namespace Go.Proofs.Ytlbkehpdohihlaa
open Go.RowKit
set_option linter.unusedVariables false

/-- what a take leaves -/
def TakeIn (T E : TypeId) (w : World) (F : Nat → Prop) (p : Nat) (X : List Ent) (t : List Ent × Bool × List Ent) (r : Ending) (w' : World) : Prop :=
  ∃ F' v, r = .returned (.tuple #[v, .bool t.2.1]) ∧ Lvl T E w' F' p t.2.2 ∧ Sl w' 35 10 v t.1.length (ents t.1) ∧ (∀ b, v.ownBlock = some b → w.heap.size ≤ b ∧ ¬ F' b) ∧ Grow w F F' ∧ Keep F w w'
theorem take_done {firm q q' : Int} {X X' H : List Ent} {t : List Ent × Bool × List Ent} (h : takeM firm q X = (H ++ (takeM firm q' X').1, (takeM firm q' X').2)) {b : Bool} (ht : takeM firm q' X' = ([], b, X')) : takeM firm q X = (H, b, X') := by
  rw [h, ht]
  simp
theorem take_next_ {firm q q' : Int} {X R H : List Ent} {e : Ent} (h : takeM firm q X = (H ++ (takeM firm q' (e :: R)).1, (takeM firm q' (e :: R)).2)) (h0 : 0 < q') (hn : 0 < e.n) (hf : e.o.firm ≠ firm) :
    takeM firm q X = ((H ++ [⟨e.o, mn q' e.n⟩]) ++ (takeM firm (q' - mn q' e.n) (nextM e (mn q' e.n) R)).1, (takeM firm (q' - mn q' e.n) (nextM e (mn q' e.n) R)).2) := by
  rw [h, takeM_go firm q' e R h0 hn hf]
  simp

set_option maxRecDepth 100000 in
set_option maxHeartbeats 1600000 in
theorem take_any (w : World) (F : Nat → Prop) (p : Nat) (X : List Ent) (firm q : Int) (h : Lvl 58 61 w F p X) (hX : Good X) (hq : q ≤ 9223372036854775807) :
    Calls Try.prog 11 #[.pointer (some ⟨p, 0, none⟩), .int .i64 firm, .int .i64 q] w (TakeIn 58 61 w F p X (takeM firm q X)) := by
  have HL0 := Lib.hid h
  have HX0 := Lib.hid hX
  clear h hX
  go_enter Try.func11, Try.ntmps11
  go_wp2_with fail
  go_loopw [2, 8] (fun t h wr => ∃ (q' : Int) (H X' : List Ent) (F' : Nat → Prop), t = .int .i64 q' ∧ q' ≤ 9223372036854775807 ∧ Hid (Sl wr 35 10 h H.length (ents H)) ∧ Hid (∀ b, h.ownBlock = some b → w.heap.size ≤ b ∧ ¬ F' b) ∧ Hid (Lvl 58 61 wr F' p X') ∧ Hid (Good X') ∧ Hid (Grow w F F') ∧ Keep F w wr ∧ Hid ((H.length : Int) + wholeM X' ≤ wholeM X) ∧ Hid (takeM firm q X = (H ++ (takeM firm q' X').1, (takeM firm q' X').2))) (fun t _ _ => (intOf t).toNat)
  case atStart => exact ⟨q, [], X, F, rfl, hq, Sl.nil _ _ _, fun b hb => (by simp [Value.ownBlock] at hb), HL0.out, HX0.out, Grow.refl _ _, Keep.refl _ _, by show _ ≤ _; simp, by show _ = _; simp⟩
  case round =>
    obtain ⟨q', H, X', F', rfl, hq', HV, HO, HL, HX, HG, hkF, HW, HT⟩ := hrel
    obtain ⟨v8, hv8⟩ : ∃ v8, v8 = u8 := ⟨_, rfl⟩
    subst hv8
    by_cases hq0 : 0 < q'
    · cases X' with
      | nil =>
        obtain ⟨h1, h2, v, hB, hS, h5⟩ := HL.out
        obtain ⟨m, hm⟩ : ∃ m, ([] : List Ent).length = m := ⟨_, rfl⟩
        rw [hm] at hS
        have HB := Lib.hid hB
        have HS := Lib.hid hS
        have hpl := h2 p h1
        clear hB hS h1 h2 h5
        have HD := Lib.hid (take_done (t := takeM firm q X) HT.out (takeM_nil firm q'))
        have hm0 : m = 0 := by simpa using hm.symm
        clear HT
        go_upto_region 2 with fail
        refine wp_text 10 [.eq (.int .i64 q'), .eq (.bool true), .eq (.bool true), .eq (.pointer (some ⟨p, 0, none⟩)), .eq (.pointer (some ⟨p, 0, none⟩)), .eq (.pointer (some ⟨p, 1, none⟩)), .eq (v), .eq (.int .i64 (m : Int)), .eq (.bool false), .eq (.bool false)] rfl (by kernel_rfl) ?_ ?_
        · refine fsteps_cons 1 rfl (fun a u hE hD hk => f_val (o := ⟨some 10, _, _, _, _, _⟩) (.int .i64 q') rfl (wanted_none rfl _) (exec_move (.tmp 2) (.int .i64 q') rfl (hE 2 (.int .i64 q') (by kernel_rfl) (by kernel_rfl))) rfl) ?_
          refine fsteps_cons 2 rfl (fun a u hE hD hk => f_as (show ((decide ((0 : Int) < (q' : Int))) : Bool) = true from decide_eq_true hq0) (f_val (o := ⟨some 11, _, _, _, _, _⟩) (.bool (decide ((0 : Int) < (q' : Int)))) rfl (wanted_none rfl _) (exec_gtn (p := (q')) (q := 0) rfl (hD 0 10 (by kernel_rfl)) rfl) rfl)) ?_
          refine fsteps_cons 3 rfl (fun a u hE hD hk => f_val (o := ⟨some 12, _, _, _, _, _⟩) (.bool true) rfl (wanted_none rfl _) (exec_move (.tmp 11) (.bool true) rfl (hD 1 11 (by kernel_rfl))) rfl) ?_
          refine fsteps_cons 4 rfl (fun a u hE hD hk => f_val (o := ⟨some 13, _, _, _, _, _⟩) (.pointer (some ⟨p, 0, none⟩)) rfl (wanted_at (b := true) true rfl rfl (hD 2 12 (by kernel_rfl))) (exec_move (.tmp 0) (.pointer (some ⟨p, 0, none⟩)) rfl (hE 0 (.pointer (some ⟨p, 0, none⟩)) (by kernel_rfl) (by kernel_rfl))) rfl) ?_
          refine fsteps_cons 5 rfl (fun a u hE hD hk => f_val (o := ⟨some 14, _, _, _, _, _⟩) (.pointer (some ⟨p, 0, none⟩)) rfl (wanted_at (b := true) true rfl rfl (hD 2 12 (by kernel_rfl))) (exec_nilp (.tmp 13) ⟨p, 0, none⟩ rfl (hD 3 13 (by kernel_rfl))) rfl) ?_
          refine fsteps_cons 6 rfl (fun a u hE hD hk => f_val (o := ⟨some 15, _, _, _, _, _⟩) (.pointer (some ⟨p, 1, none⟩)) rfl (wanted_at (b := true) true rfl rfl (hD 2 12 (by kernel_rfl))) (exec_fldo 58 1 1 (.tmp 14) (p) (0) (1) rfl (hD 4 14 (by kernel_rfl)) (by kernel_rfl) rfl) rfl) ?_
          refine fsteps_cons 7 rfl (fun a u hE hD hk => f_val (o := ⟨some 16, _, _, _, _, _⟩) (v) rfl (wanted_at (b := true) true rfl rfl (hD 2 12 (by kernel_rfl))) (exec_ldv 56 _ Try.underlying56 (.tmp 15) ⟨p, 1, none⟩ (v) rfl (hD 5 15 (by kernel_rfl)) (by rw [(HB.out.kept hk).cell]; rfl)) rfl) ?_
          refine fsteps_cons 8 rfl (fun a u hE hD hk => f_val (o := ⟨some 17, _, _, _, _, _⟩) (.int .i64 (m : Int)) rfl (wanted_at (b := true) true rfl rfl (hD 2 12 (by kernel_rfl))) (exec_lenS (.tmp 16) slE (v) (m) _ _ rfl (hD 6 16 (by kernel_rfl)) HS.out) rfl) ?_
          refine fsteps_cons 9 rfl (fun a u hE hD hk => f_as (show ((decide ((0 : Int) < ((m : Int) : Int))) : Bool) = false from decide_eq_false (by omega)) (f_val (o := ⟨some 18, _, _, _, _, _⟩) (.bool (decide ((0 : Int) < ((m : Int) : Int)))) rfl (wanted_at (b := true) true rfl rfl (hD 2 12 (by kernel_rfl))) (exec_gtn (p := (m : Int)) (q := 0) rfl (hD 7 17 (by kernel_rfl)) rfl) rfl)) ?_
          refine fsteps_cons 10 rfl (fun a u hE hD hk => f_val (o := ⟨some 19, _, _, _, _, _⟩) (.bool false) rfl (wanted_none rfl _) (exec_pick (.tmp 12) (.tmp 18) (.const (.bool false)) (.bool false) rfl (hD 2 12 (by kernel_rfl)) (hD 8 18 (by kernel_rfl))) rfl) ?_
          exact fsteps_nil
        intro gv w1 hV k1
        rw [show dstsOf _ 10 = [10, 11, 12, 13, 14, 15, 16, 17, 18, 19] by kernel_rfl]
        simp only [List.foldl_cons, List.foldl_nil, List.setIfInBounds_toArray, List.set_cons_succ, List.set_cons_zero, List.drop_succ_cons, List.drop_zero]
        rw [show gv 19 = .bool false from hV 9 19 (by kernel_rfl)]
        clear hV
        refine wpList_nil ?_
        have kF1 := hkF.kept k1
        have s1 := k1.size
        go_wp2
        go_ret2
        refine ⟨F', v8, ?_, ?_, ?_, HO.out, HG.out, kF1⟩
        · rw [HD.out]; rfl
        · rw [HD.out]; exact HL.out.kept k1
        · rw [HD.out]; exact HV.out.kept k1
      | cons e R =>
        obtain ⟨h1, h2, v, hB, hS, h5⟩ := HL.out
        obtain ⟨m, hm⟩ : ∃ m, (e :: R).length = m := ⟨_, rfl⟩
        rw [hm] at hS
        have HB := Lib.hid hB
        have HS := Lib.hid hS
        have hpl := h2 p h1
        clear hB hS h1 h2 h5
        have hm0 : 0 < m := by rw [← hm]; simp
        obtain ⟨g, off, c, rfl⟩ := HS.out.some_ hm0
        have HE : Hid (wr.rangeAt g off e.cells) := HS.out.rng 0 e rfl
        have hb := HX.out.bound (e := e) (by simp)

        go_upto_region 2 with fail
        refine wp_text 10 [.eq (.int .i64 q'), .eq (.bool true), .eq (.bool true), .eq (.pointer (some ⟨p, 0, none⟩)), .eq (.pointer (some ⟨p, 0, none⟩)), .eq (.pointer (some ⟨p, 1, none⟩)), .eq (.slice (some ⟨g, off, none⟩) m c), .eq (.int .i64 (m : Int)), .eq (.bool true), .eq (.bool true)] rfl (by kernel_rfl) ?_ ?_
        · refine fsteps_cons 1 rfl (fun a u hE hD hk => f_val (o := ⟨some 10, _, _, _, _, _⟩) (.int .i64 q') rfl (wanted_none rfl _) (exec_move (.tmp 2) (.int .i64 q') rfl (hE 2 (.int .i64 q') (by kernel_rfl) (by kernel_rfl))) rfl) ?_
          refine fsteps_cons 2 rfl (fun a u hE hD hk => f_as (show ((decide ((0 : Int) < (q' : Int))) : Bool) = true from decide_eq_true hq0) (f_val (o := ⟨some 11, _, _, _, _, _⟩) (.bool (decide ((0 : Int) < (q' : Int)))) rfl (wanted_none rfl _) (exec_gtn (p := (q')) (q := 0) rfl (hD 0 10 (by kernel_rfl)) rfl) rfl)) ?_
          refine fsteps_cons 3 rfl (fun a u hE hD hk => f_val (o := ⟨some 12, _, _, _, _, _⟩) (.bool true) rfl (wanted_none rfl _) (exec_move (.tmp 11) (.bool true) rfl (hD 1 11 (by kernel_rfl))) rfl) ?_
          refine fsteps_cons 4 rfl (fun a u hE hD hk => f_val (o := ⟨some 13, _, _, _, _, _⟩) (.pointer (some ⟨p, 0, none⟩)) rfl (wanted_at (b := true) true rfl rfl (hD 2 12 (by kernel_rfl))) (exec_move (.tmp 0) (.pointer (some ⟨p, 0, none⟩)) rfl (hE 0 (.pointer (some ⟨p, 0, none⟩)) (by kernel_rfl) (by kernel_rfl))) rfl) ?_
          refine fsteps_cons 5 rfl (fun a u hE hD hk => f_val (o := ⟨some 14, _, _, _, _, _⟩) (.pointer (some ⟨p, 0, none⟩)) rfl (wanted_at (b := true) true rfl rfl (hD 2 12 (by kernel_rfl))) (exec_nilp (.tmp 13) ⟨p, 0, none⟩ rfl (hD 3 13 (by kernel_rfl))) rfl) ?_
          refine fsteps_cons 6 rfl (fun a u hE hD hk => f_val (o := ⟨some 15, _, _, _, _, _⟩) (.pointer (some ⟨p, 1, none⟩)) rfl (wanted_at (b := true) true rfl rfl (hD 2 12 (by kernel_rfl))) (exec_fldo 58 1 1 (.tmp 14) (p) (0) (1) rfl (hD 4 14 (by kernel_rfl)) (by kernel_rfl) rfl) rfl) ?_
          refine fsteps_cons 7 rfl (fun a u hE hD hk => f_val (o := ⟨some 16, _, _, _, _, _⟩) (.slice (some ⟨g, off, none⟩) m c) rfl (wanted_at (b := true) true rfl rfl (hD 2 12 (by kernel_rfl))) (exec_ldv 56 _ Try.underlying56 (.tmp 15) ⟨p, 1, none⟩ (.slice (some ⟨g, off, none⟩) m c) rfl (hD 5 15 (by kernel_rfl)) (by rw [(HB.out.kept hk).cell]; rfl)) rfl) ?_
          refine fsteps_cons 8 rfl (fun a u hE hD hk => f_val (o := ⟨some 17, _, _, _, _, _⟩) (.int .i64 (m : Int)) rfl (wanted_at (b := true) true rfl rfl (hD 2 12 (by kernel_rfl))) (exec_len (.tmp 16) _ _ slE.und (some ⟨g, off, none⟩) m c rfl (hD 6 16 (by kernel_rfl))) rfl) ?_
          refine fsteps_cons 9 rfl (fun a u hE hD hk => f_as (show ((decide ((0 : Int) < ((m : Int) : Int))) : Bool) = true from decide_eq_true (by omega)) (f_val (o := ⟨some 18, _, _, _, _, _⟩) (.bool (decide ((0 : Int) < ((m : Int) : Int)))) rfl (wanted_at (b := true) true rfl rfl (hD 2 12 (by kernel_rfl))) (exec_gtn (p := (m : Int)) (q := 0) rfl (hD 7 17 (by kernel_rfl)) rfl) rfl)) ?_
          refine fsteps_cons 10 rfl (fun a u hE hD hk => f_val (o := ⟨some 19, _, _, _, _, _⟩) (.bool true) rfl (wanted_none rfl _) (exec_pick (.tmp 12) (.tmp 18) (.const (.bool false)) (.bool true) rfl (hD 2 12 (by kernel_rfl)) (hD 8 18 (by kernel_rfl))) rfl) ?_
          exact fsteps_nil
        intro gv w1 hV k1
        rw [show dstsOf _ 10 = [10, 11, 12, 13, 14, 15, 16, 17, 18, 19] by kernel_rfl]
        simp only [List.foldl_cons, List.foldl_nil, List.setIfInBounds_toArray, List.set_cons_succ, List.set_cons_zero, List.drop_succ_cons, List.drop_zero]
        rw [show gv 19 = .bool true from hV 9 19 (by kernel_rfl)]
        clear hV
        refine wpList_nil ?_
        have kF1 := hkF.kept k1
        have s1 := k1.size
        have HB1 := Lib.hid (HB.out.kept k1)
        have HE1 := Lib.hid (range_kept HE.out k1)
        clear HB HE HS
        by_cases hf : e.o.firm = firm
        · have HD := Lib.hid (take_done (t := takeM firm q X) HT.out (takeM_own firm q' e R hq0 (by omega) hf))
          clear HT
          go_upto_region 3 with fail
          refine wp_text 10 [.eq (.pointer (some ⟨p, 0, none⟩)), .eq (.pointer (some ⟨p, 0, none⟩)), .eq (.pointer (some ⟨p, 1, none⟩)), .eq (.slice (some ⟨g, off, none⟩) m c), .eq (.pointer (some ⟨g, off, none⟩)), .eq (.pointer (some ⟨g, off, none⟩)), .eq (.pointer (some ⟨g, off + 2, none⟩)), .eq (.int .i64 e.o.firm), .eq (.int .i64 firm), .eq (.bool true)] rfl (by kernel_rfl) ?_ ?_
          · refine fsteps_cons 1 rfl (fun a u hE hD hk => f_val (o := ⟨some 20, _, _, _, _, _⟩) (.pointer (some ⟨p, 0, none⟩)) rfl (wanted_none rfl _) (exec_move (.tmp 0) (.pointer (some ⟨p, 0, none⟩)) rfl (hE 0 (.pointer (some ⟨p, 0, none⟩)) (by kernel_rfl) (by kernel_rfl))) rfl) ?_
            refine fsteps_cons 2 rfl (fun a u hE hD hk => f_val (o := ⟨some 21, _, _, _, _, _⟩) (.pointer (some ⟨p, 0, none⟩)) rfl (wanted_none rfl _) (exec_nilp (.tmp 20) ⟨p, 0, none⟩ rfl (hD 0 20 (by kernel_rfl))) rfl) ?_
            refine fsteps_cons 3 rfl (fun a u hE hD hk => f_val (o := ⟨some 22, _, _, _, _, _⟩) (.pointer (some ⟨p, 1, none⟩)) rfl (wanted_none rfl _) (exec_fldo 58 1 1 (.tmp 21) (p) (0) (1) rfl (hD 1 21 (by kernel_rfl)) (by kernel_rfl) rfl) rfl) ?_
            refine fsteps_cons 4 rfl (fun a u hE hD hk => f_val (o := ⟨some 23, _, _, _, _, _⟩) (.slice (some ⟨g, off, none⟩) m c) rfl (wanted_none rfl _) (exec_ldv 56 _ Try.underlying56 (.tmp 22) ⟨p, 1, none⟩ (.slice (some ⟨g, off, none⟩) m c) rfl (hD 2 22 (by kernel_rfl)) (by rw [(HB1.out.kept hk).cell]; rfl)) rfl) ?_
            refine fsteps_cons 5 rfl (fun a u hE hD hk => f_val (o := ⟨some 24, _, _, _, _, _⟩) (.pointer (some ⟨g, off, none⟩)) rfl (wanted_none rfl _) (exec_ixo slE (.tmp 23) (.const (.int .i64 0)) (g) (off) m c 0 (off) (0) rfl (hD 3 23 (by kernel_rfl)) rfl (by first | rfl | omega) ((by omega)) (by first | rfl | omega)) rfl) ?_
            refine fsteps_cons 6 rfl (fun a u hE hD hk => f_val (o := ⟨some 25, _, _, _, _, _⟩) (.pointer (some ⟨g, off, none⟩)) rfl (wanted_none rfl _) (exec_fldo 61 0 0 (.tmp 24) (g) (off) (off) rfl (hD 4 24 (by kernel_rfl)) (by kernel_rfl) rfl) rfl) ?_
            refine fsteps_cons 7 rfl (fun a u hE hD hk => f_val (o := ⟨some 26, _, _, _, _, _⟩) (.pointer (some ⟨g, off + 2, none⟩)) rfl (wanted_none rfl _) (exec_fldo 25 2 2 (.tmp 25) (g) (off) (off + 2) rfl (hD 5 25 (by kernel_rfl)) (by kernel_rfl) rfl) rfl) ?_
            refine fsteps_cons 8 rfl (fun a u hE hD hk => f_val (o := ⟨some 27, _, _, _, _, _⟩) (.int .i64 e.o.firm) rfl (wanted_none rfl _) (exec_loadi 3 Try.underlying3 (.tmp 26) ⟨g, off + 2, none⟩ (.int .i64 e.o.firm) rfl (hD 6 26 (by kernel_rfl)) (range_int (range_kept HE1.out hk) 2 _ rfl)) rfl) ?_
            refine fsteps_cons 9 rfl (fun a u hE hD hk => f_val (o := ⟨some 28, _, _, _, _, _⟩) (.int .i64 firm) rfl (wanted_none rfl _) (exec_move (.tmp 1) (.int .i64 firm) rfl (hE 1 (.int .i64 firm) (by kernel_rfl) (by kernel_rfl))) rfl) ?_
            refine fsteps_cons 10 rfl (fun a u hE hD hk => f_as (show ((decide ((e.o.firm : Int) = (firm : Int))) : Bool) = true from decide_eq_true hf) (f_val (o := ⟨some 29, _, _, _, _, _⟩) (.bool (decide ((e.o.firm : Int) = (firm : Int)))) rfl (wanted_none rfl _) (exec_eqn (p := e.o.firm) (q := firm) rfl (hD 7 27 (by kernel_rfl)) (hD 8 28 (by kernel_rfl))) rfl)) ?_
            exact fsteps_nil
          intro gv w2 hV k2
          rw [show dstsOf _ 10 = [20, 21, 22, 23, 24, 25, 26, 27, 28, 29] by kernel_rfl]
          simp only [List.foldl_cons, List.foldl_nil, List.setIfInBounds_toArray, List.set_cons_succ, List.set_cons_zero, List.drop_succ_cons, List.drop_zero]
          rw [show gv 29 = .bool true from hV 9 29 (by kernel_rfl)]
          clear hV
          refine wpList_nil ?_
          have kF2 := kF1.kept k2
          go_wp2
          go_ret2
          refine ⟨F', v8, ?_, ?_, ?_, HO.out, HG.out, kF2⟩
          · rw [HD.out]; rfl
          · rw [HD.out]; exact HL.out.kept (k1.trans k2)
          · rw [HD.out]; exact HV.out.kept (k1.trans k2)
        · have HD := Lib.hid (take_next_ HT.out hq0 (by omega) hf)
          clear HT
          go_upto_region 3 with fail
          refine wp_text 10 [.eq (.pointer (some ⟨p, 0, none⟩)), .eq (.pointer (some ⟨p, 0, none⟩)), .eq (.pointer (some ⟨p, 1, none⟩)), .eq (.slice (some ⟨g, off, none⟩) m c), .eq (.pointer (some ⟨g, off, none⟩)), .eq (.pointer (some ⟨g, off, none⟩)), .eq (.pointer (some ⟨g, off + 2, none⟩)), .eq (.int .i64 e.o.firm), .eq (.int .i64 firm), .eq (.bool false)] rfl (by kernel_rfl) ?_ ?_
          · refine fsteps_cons 1 rfl (fun a u hE hD hk => f_val (o := ⟨some 20, _, _, _, _, _⟩) (.pointer (some ⟨p, 0, none⟩)) rfl (wanted_none rfl _) (exec_move (.tmp 0) (.pointer (some ⟨p, 0, none⟩)) rfl (hE 0 (.pointer (some ⟨p, 0, none⟩)) (by kernel_rfl) (by kernel_rfl))) rfl) ?_
            refine fsteps_cons 2 rfl (fun a u hE hD hk => f_val (o := ⟨some 21, _, _, _, _, _⟩) (.pointer (some ⟨p, 0, none⟩)) rfl (wanted_none rfl _) (exec_nilp (.tmp 20) ⟨p, 0, none⟩ rfl (hD 0 20 (by kernel_rfl))) rfl) ?_
            refine fsteps_cons 3 rfl (fun a u hE hD hk => f_val (o := ⟨some 22, _, _, _, _, _⟩) (.pointer (some ⟨p, 1, none⟩)) rfl (wanted_none rfl _) (exec_fldo 58 1 1 (.tmp 21) (p) (0) (1) rfl (hD 1 21 (by kernel_rfl)) (by kernel_rfl) rfl) rfl) ?_
            refine fsteps_cons 4 rfl (fun a u hE hD hk => f_val (o := ⟨some 23, _, _, _, _, _⟩) (.slice (some ⟨g, off, none⟩) m c) rfl (wanted_none rfl _) (exec_ldv 56 _ Try.underlying56 (.tmp 22) ⟨p, 1, none⟩ (.slice (some ⟨g, off, none⟩) m c) rfl (hD 2 22 (by kernel_rfl)) (by rw [(HB1.out.kept hk).cell]; rfl)) rfl) ?_
            refine fsteps_cons 5 rfl (fun a u hE hD hk => f_val (o := ⟨some 24, _, _, _, _, _⟩) (.pointer (some ⟨g, off, none⟩)) rfl (wanted_none rfl _) (exec_ixo slE (.tmp 23) (.const (.int .i64 0)) (g) (off) m c 0 (off) (0) rfl (hD 3 23 (by kernel_rfl)) rfl (by first | rfl | omega) ((by omega)) (by first | rfl | omega)) rfl) ?_
            refine fsteps_cons 6 rfl (fun a u hE hD hk => f_val (o := ⟨some 25, _, _, _, _, _⟩) (.pointer (some ⟨g, off, none⟩)) rfl (wanted_none rfl _) (exec_fldo 61 0 0 (.tmp 24) (g) (off) (off) rfl (hD 4 24 (by kernel_rfl)) (by kernel_rfl) rfl) rfl) ?_
            refine fsteps_cons 7 rfl (fun a u hE hD hk => f_val (o := ⟨some 26, _, _, _, _, _⟩) (.pointer (some ⟨g, off + 2, none⟩)) rfl (wanted_none rfl _) (exec_fldo 25 2 2 (.tmp 25) (g) (off) (off + 2) rfl (hD 5 25 (by kernel_rfl)) (by kernel_rfl) rfl) rfl) ?_
            refine fsteps_cons 8 rfl (fun a u hE hD hk => f_val (o := ⟨some 27, _, _, _, _, _⟩) (.int .i64 e.o.firm) rfl (wanted_none rfl _) (exec_loadi 3 Try.underlying3 (.tmp 26) ⟨g, off + 2, none⟩ (.int .i64 e.o.firm) rfl (hD 6 26 (by kernel_rfl)) (range_int (range_kept HE1.out hk) 2 _ rfl)) rfl) ?_
            refine fsteps_cons 9 rfl (fun a u hE hD hk => f_val (o := ⟨some 28, _, _, _, _, _⟩) (.int .i64 firm) rfl (wanted_none rfl _) (exec_move (.tmp 1) (.int .i64 firm) rfl (hE 1 (.int .i64 firm) (by kernel_rfl) (by kernel_rfl))) rfl) ?_
            refine fsteps_cons 10 rfl (fun a u hE hD hk => f_as (show ((decide ((e.o.firm : Int) = (firm : Int))) : Bool) = false from decide_eq_false hf) (f_val (o := ⟨some 29, _, _, _, _, _⟩) (.bool (decide ((e.o.firm : Int) = (firm : Int)))) rfl (wanted_none rfl _) (exec_eqn (p := e.o.firm) (q := firm) rfl (hD 7 27 (by kernel_rfl)) (hD 8 28 (by kernel_rfl))) rfl)) ?_
            exact fsteps_nil
          intro gv w2 hV k2
          rw [show dstsOf _ 10 = [20, 21, 22, 23, 24, 25, 26, 27, 28, 29] by kernel_rfl]
          simp only [List.foldl_cons, List.foldl_nil, List.setIfInBounds_toArray, List.set_cons_succ, List.set_cons_zero, List.drop_succ_cons, List.drop_zero]
          rw [show gv 29 = .bool false from hV 9 29 (by kernel_rfl)]
          clear hV
          refine wpList_nil ?_
          have k12 := k1.trans k2
          have kF2 := kF1.kept k2
          have s2 := k2.size
          have s0 := hkF.size
          have hmn1 := mn_le q' e.n
          have hmn2 := mn_pos q' e.n hq0 (by omega)
          have HLN : Hid (H.length ≤ 99999) := by
            show _ ≤ _
            have h1 := HW.out
            have h2 := HX0.out.few
            have h3 := whole_ge HX.out.ok
            simp only [List.length_cons] at h3
            omega
          have HL2 := Lib.hid (HL.out.kept k12)
          have HV2 := Lib.hid (HV.out.kept k12)
          have HVL : Hid (∀ b, v8.ownBlock = some b → b < w2.heap.size) := fun b hb => (HV.out.kept k12).lt hb
          clear HB1 HE1 k1 k2 k12 HL HV kF1
          go_upto_region 5 with fail
          refine wp_region_lit ?_
          refine l_val (o := ⟨some 31, _, _, _, _, _⟩) (.pointer (some ⟨p, 0, none⟩)) rfl (exec_move (.tmp 0) (.pointer (some ⟨p, 0, none⟩)) rfl (by kernel_rfl)) ?_
          simp only [Act.put, List.setIfInBounds_toArray, List.set_cons_succ, List.set_cons_zero]
          refine l_val (o := ⟨some 32, _, _, _, _, _⟩) (.int .i64 q') rfl (exec_move (.tmp 2) (.int .i64 q') rfl (by kernel_rfl)) ?_
          simp only [Act.put, List.setIfInBounds_toArray, List.set_cons_succ, List.set_cons_zero]
          refine l_call (o := ⟨some 33, _, _, _, _, _⟩) 32 #[.pointer (some ⟨p, 0, none⟩), .int .i64 q'] rfl (exec_call 32 _ [.tmp 31, .tmp 32] _ _ Try.func32 (by kernel_rfl) (by kernel_rfl) rfl (by kernel_rfl) _) ?_
          refine (hit_any w2 F' p e q' R HL2.out HX.out hq0).mono ?_
          rintro r w3 ⟨F2, rfl, hL3, hG3, hk3⟩
          refine ⟨_, rfl, ?_⟩
          simp only [Act.put, List.setIfInBounds_toArray, List.set_cons_succ, List.set_cons_zero]
          refine l_alloc (o := ⟨some 9, _, _, _, _, _⟩) 35 zeroE.cells rfl rfl zH ?_
          intro w4 hB4 z4 k4
          obtain ⟨b9, hb9⟩ : ∃ b, b = w3.heap.size := ⟨_, rfl⟩
          rw [← hb9] at hB4 ⊢
          simp only [Act.put, List.setIfInBounds_toArray, List.set_cons_succ, List.set_cons_zero]
          refine l_setS (o := ⟨none, _, _, _, _, _⟩) 35 b9 35 zeroE.cells (Ent.mk e.o (mn q' e.n)).cells (.tmp 9) (.tmp 33) rfl rfl (by kernel_rfl) (by kernel_rfl) hB4 (by rw [Ent.len10]; exact szH) (by rw [Ent.len10, Ent.len10]) (Ent.one _) ?_
          intro w5 hB5 hk5 hs5
          simp only [Act.put]
          refine wpList_nil ?_
          have k45 : Kept w3 w5 := k4.trans' hk5 (by omega)
          have s3 := hk3.size
          have s5 := k45.size
          have HG5 : Hid (Grow w F F2) := Grow.trans HG.out hG3 (by omega)
          have kF5 : Keep F w w5 := (Grow.keep HG.out kF2 hk3).kept k45
          have HL5 := Lib.hid (hL3.kept k45)
          have HV5 := Lib.hid ((HV2.out.keep hk3 (fun b hb hF => (HO.out b hb).2 hF)).kept k45)
          have HO5 : Hid (∀ b, v8.ownBlock = some b → w.heap.size ≤ b ∧ ¬ F2 b) := fun b hb => ⟨(HO.out b hb).1, fun h => by
            rcases hG3 b h with h | h
            · exact (HO.out b hb).2 h
            · have := HV2.out.lt hb; omega⟩
          have HF2 : Hid (∀ b, F2 b → b < w3.heap.size) := hL3.2.1
          have HBR := Lib.hid (blk_range hB5)
          have hb9l := hB5.lt
          clear hL3 hG3 hk3 hB4 hB5 k4 hk5 HL2 HV2 HO HG kF2
          go_upto_region 6 with fail
          refine wp_text 3 [.eq (v8), .eq ((Ent.mk e.o (mn q' e.n)).v), .sl w5.heap.size 35 10 1 (Ent.mk e.o (mn q' e.n)).cells] rfl (by kernel_rfl) ?_ ?_
          · refine fsteps_cons 1 rfl (fun a u hE hD hk => f_val (o := ⟨some 34, _, _, _, _, _⟩) (v8) rfl (wanted_none rfl _) (exec_move (.tmp 8) (v8) rfl (hE 8 (v8) (by kernel_rfl) (by kernel_rfl))) rfl) ?_
            refine fsteps_cons 2 rfl (fun a u hE hD hk => f_val (o := ⟨some 35, _, _, _, _, _⟩) ((Ent.mk e.o (mn q' e.n)).v) rfl (wanted_none rfl _) (exec_ldS 35 _ (.tmp 9) (b9) (0) ((Ent.mk e.o (mn q' e.n)).cells) rfl (hE 9 (.pointer (some ⟨b9, 0, none⟩)) (by kernel_rfl) (by kernel_rfl)) (range_kept HBR.out hk) Try.underlying35 (by rw [(Ent.mk e.o (mn q' e.n)).len10]; exact szH)) rfl) ?_
            refine fsteps_cons 3 rfl (fun a u hE hD hk => f_new (o := ⟨some 36, _, _, _, _, _⟩) (.slice (some ⟨u.heap.size, 0, none⟩) 1 1) _ rfl (wanted_none rfl _) (exec_oneS slH (.tmp 35) (Ent.mk e.o (mn q' e.n)).cells (by omega) rfl (hD 1 35 (by kernel_rfl)) ((Ent.mk e.o (mn q' e.n)).len10)) (sl_one u 35 10 _ w5.heap.size ((Ent.mk e.o (mn q' e.n)).len10) (by omega) hk.size) ((Keep.refl _ u).alloc _)) ?_
            exact fsteps_nil
          intro gv w6 hV k6
          rw [show dstsOf _ 3 = [34, 35, 36] by kernel_rfl]
          simp only [List.foldl_cons, List.foldl_nil, List.setIfInBounds_toArray, List.set_cons_succ, List.set_cons_zero, List.drop_succ_cons, List.drop_zero]
          rw [show gv 34 = v8 from hV 0 34 (by kernel_rfl)]
          have hv36 : (.sl w5.heap.size 35 10 1 (Ent.mk e.o (mn q' e.n)).cells : Kn).p (gv 36) w6 := hV 2 36 (by kernel_rfl)
          generalize gv 36 = v36 at hv36 ⊢
          clear hV
          have hln := HLN.out
          obtain ⟨v7, w7, hr7, hs7, hk7, ho7⟩ := run_append_sl slH _ w6 v8 v36 H.length 1 _ _ (HV5.out.kept k6) hv36.1 (Ent.one _) (by unfold maxLen; omega) (by omega)
          refine l_new (o := ⟨some 37, _, _, _, _, _⟩) v7 w7 rfl (exec_appS slH (.tmp 34) (.tmp 36) v8 v36 rfl (by kernel_rfl) (by kernel_rfl) v7 w7 hr7) ?_
          simp only [Act.put, List.setIfInBounds_toArray, List.set_cons_succ, List.set_cons_zero]
          refine l_val (o := ⟨some 8, _, _, _, _, _⟩) (v7) rfl (exec_assign (.tmp 37) (v7) rfl (by kernel_rfl)) ?_
          simp only [Act.put, List.setIfInBounds_toArray, List.set_cons_succ, List.set_cons_zero]
          refine wpList_nil ?_
          have s6 := k6.size
          have s7 := hk7.size
          have K7 : Keep (fun b => v8.ownBlock = some b) w5 w7 := (Keep.mono (T := fun b => v8.ownBlock = some b) k6 (fun _ _ h => h.elim)).trans hk7 (fun _ _ h => h)
          have HL7 := Lib.hid (HL5.out.keep K7 (fun b hb hv => (HO5.out b hv).2 hb))
          have kF7 : Keep F w w7 := kF5.trans K7 (fun b hb hv => by have := (HO5.out b hv).1; omega)
          have HO7 : Hid (∀ b, v7.ownBlock = some b → w.heap.size ≤ b ∧ ¬ F2 b) := fun b hb => by
            rcases ho7 b hb with h | h
            · exact HO5.out b h
            · exact ⟨by omega, fun hF => by have := HF2.out b hF; omega⟩
          have HV7 : Hid (Sl w7 35 10 v7 (H ++ [Ent.mk e.o (mn q' e.n)]).length (ents (H ++ [Ent.mk e.o (mn q' e.n)]))) := by
            show Sl _ _ _ _ _ _
            rw [List.length_append, ents_snoc]
            exact hs7
          have hb9n : ¬ v8.ownBlock = some b9 := fun h => by have := HVL.out b9 h; omega
          have HBR7 := Lib.hid (range_keep HBR.out K7 hb9n)
          clear hs7 hk7 ho7 hr7 hv36 HL5 HO5 HV5 HBR k6 K7 hb9n
          go_upto_region 7 with fail
          refine wp_text 4 [.eq (.int .i64 q'), .eq (.pointer (some ⟨b9, 9, none⟩)), .eq (.int .i64 (Ent.mk e.o (mn q' e.n)).n), .eq (.int .i64 (q' - mn q' e.n))] rfl (by kernel_rfl) ?_ ?_
          · refine fsteps_cons 1 rfl (fun a u hE hD hk => f_val (o := ⟨some 38, _, _, _, _, _⟩) (.int .i64 q') rfl (wanted_none rfl _) (exec_move (.tmp 2) (.int .i64 q') rfl (hE 2 (.int .i64 q') (by kernel_rfl) (by kernel_rfl))) rfl) ?_
            refine fsteps_cons 2 rfl (fun a u hE hD hk => f_val (o := ⟨some 39, _, _, _, _, _⟩) (.pointer (some ⟨b9, 9, none⟩)) rfl (wanted_none rfl _) (exec_fldo 35 1 9 (.tmp 9) (b9) (0) (9) rfl (hE 9 (.pointer (some ⟨b9, 0, none⟩)) (by kernel_rfl) (by kernel_rfl)) (by kernel_rfl) rfl) rfl) ?_
            refine fsteps_cons 3 rfl (fun a u hE hD hk => f_val (o := ⟨some 40, _, _, _, _, _⟩) (.int .i64 (Ent.mk e.o (mn q' e.n)).n) rfl (wanted_none rfl _) (exec_loadi 3 Try.underlying3 (.tmp 39) ⟨b9, 9, none⟩ (.int .i64 (Ent.mk e.o (mn q' e.n)).n) rfl (hD 1 39 (by kernel_rfl)) (range_int (range_kept HBR7.out hk) 9 _ rfl)) rfl) ?_
            refine fsteps_cons 4 rfl (fun a u hE hD hk => f_val (o := ⟨some 41, _, _, _, _, _⟩) (.int .i64 (q' - mn q' e.n)) rfl (wanted_none rfl _) (exec_subn (q' - mn q' e.n) rfl (hD 0 38 (by kernel_rfl)) (hD 2 40 (by kernel_rfl)) rfl (by omega) (by omega)) rfl) ?_
            exact fsteps_nil
          intro gv w8 hV k8
          rw [show dstsOf _ 4 = [38, 39, 40, 41] by kernel_rfl]
          simp only [List.foldl_cons, List.foldl_nil, List.setIfInBounds_toArray, List.set_cons_succ, List.set_cons_zero, List.drop_succ_cons, List.drop_zero]
          rw [show gv 41 = .int .i64 (q' - mn q' e.n) from hV 3 41 (by kernel_rfl)]
          clear hV
          refine l_val (o := ⟨some 2, _, _, _, _, _⟩) (.int .i64 (q' - mn q' e.n)) rfl (exec_assign (.tmp 41) (.int .i64 (q' - mn q' e.n)) rfl (by kernel_rfl)) ?_
          simp only [Act.put, List.setIfInBounds_toArray, List.set_cons_succ, List.set_cons_zero]
          refine wpList_nil ?_
          have HW8 : Hid (((H ++ [Ent.mk e.o (mn q' e.n)]).length : Int) + wholeM (nextM e (mn q' e.n) R) ≤ wholeM X) := by
            show _ ≤ _
            have h1 := HW.out
            rw [next_whole, List.length_append]
            rw [wholeM_cons] at h1
            simp only [List.length_cons, List.length_nil]
            omega
          have HX8 := Lib.hid (next_good HX.out (n := mn q' e.n) (by omega) hmn1.2)
          have HL8 := Lib.hid (HL7.out.kept k8)
          have HV8 := Lib.hid (HV7.out.kept k8)
          have kF8 := kF7.kept k8
          clear HW HX HL7 HV7 kF7 k8 hln
          go_wp2
          exact ⟨⟨q' - mn q' e.n, H ++ [Ent.mk e.o (mn q' e.n)], nextM e (mn q' e.n) R, F2, rfl, by omega, HV8, HO7, HL8, HX8, HG5, kF8, HW8, HD⟩, by simp [intOf]; omega⟩
    · skip
      obtain ⟨h1, h2, v, hB, hS, h5⟩ := HL.out
      obtain ⟨m, hm⟩ : ∃ m, X'.length = m := ⟨_, rfl⟩
      rw [hm] at hS
      have HB := Lib.hid hB
      have HS := Lib.hid hS
      have hpl := h2 p h1
      clear hB hS h1 h2 h5
      have HD := Lib.hid (take_done (t := takeM firm q X) HT.out (takeM_zero firm q' X' (by omega)))
      clear HT
      go_upto_region 2 with fail
      refine wp_text 10 [.eq (.int .i64 q'), .eq (.bool false), .eq (.bool false), .eq undef, .eq undef, .eq undef, .eq undef, .eq undef, .eq undef, .eq (.bool false)] rfl (by kernel_rfl) ?_ ?_
      · refine fsteps_cons 1 rfl (fun a u hE hD hk => f_val (o := ⟨some 10, _, _, _, _, _⟩) (.int .i64 q') rfl (wanted_none rfl _) (exec_move (.tmp 2) (.int .i64 q') rfl (hE 2 (.int .i64 q') (by kernel_rfl) (by kernel_rfl))) rfl) ?_
        refine fsteps_cons 2 rfl (fun a u hE hD hk => f_as (show ((decide ((0 : Int) < (q' : Int))) : Bool) = false from decide_eq_false hq0) (f_val (o := ⟨some 11, _, _, _, _, _⟩) (.bool (decide ((0 : Int) < (q' : Int)))) rfl (wanted_none rfl _) (exec_gtn (p := (q')) (q := 0) rfl (hD 0 10 (by kernel_rfl)) rfl) rfl)) ?_
        refine fsteps_cons 3 rfl (fun a u hE hD hk => f_val (o := ⟨some 12, _, _, _, _, _⟩) (.bool false) rfl (wanted_none rfl _) (exec_move (.tmp 11) (.bool false) rfl (hD 1 11 (by kernel_rfl))) rfl) ?_
        refine fsteps_cons 4 rfl (fun a u hE hD hk => f_skip (o := ⟨some 13, _, _, _, _, _⟩) rfl (wanted_at (b := true) false rfl rfl (hD 2 12 (by kernel_rfl))) rfl) ?_
        refine fsteps_cons 5 rfl (fun a u hE hD hk => f_skip (o := ⟨some 14, _, _, _, _, _⟩) rfl (wanted_at (b := true) false rfl rfl (hD 2 12 (by kernel_rfl))) rfl) ?_
        refine fsteps_cons 6 rfl (fun a u hE hD hk => f_skip (o := ⟨some 15, _, _, _, _, _⟩) rfl (wanted_at (b := true) false rfl rfl (hD 2 12 (by kernel_rfl))) rfl) ?_
        refine fsteps_cons 7 rfl (fun a u hE hD hk => f_skip (o := ⟨some 16, _, _, _, _, _⟩) rfl (wanted_at (b := true) false rfl rfl (hD 2 12 (by kernel_rfl))) rfl) ?_
        refine fsteps_cons 8 rfl (fun a u hE hD hk => f_skip (o := ⟨some 17, _, _, _, _, _⟩) rfl (wanted_at (b := true) false rfl rfl (hD 2 12 (by kernel_rfl))) rfl) ?_
        refine fsteps_cons 9 rfl (fun a u hE hD hk => f_skip (o := ⟨some 18, _, _, _, _, _⟩) rfl (wanted_at (b := true) false rfl rfl (hD 2 12 (by kernel_rfl))) rfl) ?_
        refine fsteps_cons 10 rfl (fun a u hE hD hk => f_val (o := ⟨some 19, _, _, _, _, _⟩) (.bool false) rfl (wanted_none rfl _) (exec_pickF (.tmp 12) (.tmp 18) (.const (.bool false)) (.bool false) rfl (hD 2 12 (by kernel_rfl)) rfl) rfl) ?_
        exact fsteps_nil
      intro gv w1 hV k1
      rw [show dstsOf _ 10 = [10, 11, 12, 13, 14, 15, 16, 17, 18, 19] by kernel_rfl]
      simp only [List.foldl_cons, List.foldl_nil, List.setIfInBounds_toArray, List.set_cons_succ, List.set_cons_zero, List.drop_succ_cons, List.drop_zero]
      rw [show gv 19 = .bool false from hV 9 19 (by kernel_rfl)]
      clear hV
      refine wpList_nil ?_
      have kF1 := hkF.kept k1
      have s1 := k1.size
      go_wp2
      go_ret2
      refine ⟨F', v8, ?_, ?_, ?_, HO.out, HG.out, kF1⟩
      · rw [HD.out]; rfl
      · rw [HD.out]; exact HL.out.kept k1
      · rw [HD.out]; exact HV.out.kept k1
end Go.Proofs.Ytlbkehpdohihlaa
