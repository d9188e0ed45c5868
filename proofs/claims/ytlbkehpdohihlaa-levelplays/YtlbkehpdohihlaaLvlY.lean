/-
  The contract of the document's own Take of a level. Condition: a level as it may be; the quantity is an int's.
-/
import Derived.Test.YtlbkehpdohihlaaLvlT
import Derived.Test.YtlbkehpdohihlaaLvlZ
namespace Go.Proofs.Ytlbkehpdohihlaa
open Go.RowKit
set_option linter.unusedVariables false

theorem Lvl.renew3 {T E : TypeId} {w1 w2 : World} {F : Nat → Prop} {p base : Nat} {X Y : List Ent} {v' : Value} (h : Lvl T E w1 F p X) (hb : p < base) (hs : Sl w1 E 10 v' Y.length (ents Y)) (ho : ∀ b, v'.ownBlock = some b → base ≤ b) (hB : Blk w2 p T [.int .i64 7, v']) (hk2 : Keep (· = p) w1 w2) :
    ∃ F', Lvl T E w2 F' p Y ∧ True ∧ Keep F w1 w2 ∧ ∀ b, F' b → F b ∨ base ≤ b := by
  refine ⟨fun b => F b ∨ v'.ownBlock = some b, ⟨.inl h.1, fun b hb' => ?_, v', hB, hs.keep hk2 (fun b hb' e => by have := ho b hb'; omega), fun b hb' => ⟨.inr hb', fun e => by have := ho b hb'; omega⟩⟩, trivial, hk2.mono (fun b _ e => by subst e; exact h.1), fun b hb' => hb'.imp id (ho b)⟩
  have := hk2.size
  rcases hb' with h1 | h1
  · have := h.2.1 b h1; omega
  · have := hs.lt h1; omega
set_option maxRecDepth 100000 in
set_option maxHeartbeats 3200000 in
theorem rtake_any (w : World) (F : Nat → Prop) (p : Nat) (X : List Ent) (firm q : Int) (h : Lvl 42 64 w F p X) (hX : Good X) (hq : q ≤ 9223372036854775807) :
    Calls Try.prog 18 #[.pointer (some ⟨p, 0, none⟩), .int .i64 firm, .int .i64 q] w (TakeIn 42 64 w F p X (takeM firm q X)) := by
  have HL0 := Lib.hid h
  have HX0 := Lib.hid hX
  clear h hX
  go_enter Try.func18, Try.ntmps18
  go_wp2_with fail
  go_loopw [2, 8] (fun t h wr => ∃ (q' : Int) (H X' : List Ent) (F' : Nat → Prop), t = .int .i64 q' ∧ q' ≤ 9223372036854775807 ∧ Hid (Sl wr 35 10 h H.length (ents H)) ∧ Hid (∀ b, h.ownBlock = some b → w.heap.size ≤ b ∧ ¬ F' b) ∧ Hid (Lvl 42 64 wr F' p X') ∧ Hid (Good X') ∧ Hid (Grow w F F') ∧ Keep F w wr ∧ Hid ((H.length : Int) + wholeM X' ≤ wholeM X) ∧ Hid (takeM firm q X = (H ++ (takeM firm q' X').1, (takeM firm q' X').2))) (fun t _ _ => (intOf t).toNat)
  case atStart => exact ⟨q, [], X, F, rfl, hq, Sl.nil _ _ _, fun b hb => (by simp [Value.ownBlock] at hb), HL0.out, HX0.out, Grow.refl _ _, Keep.refl _ _, by show _ ≤ _; simp, by show _ = _; simp⟩
  case round =>
    obtain ⟨q', H, X', F', rfl, hq', HV, HO, HL, HX, HG, hkF, HW, HT⟩ := hrel
    obtain ⟨v8, hv8⟩ : ∃ v8, v8 = u8 := ⟨_, rfl⟩
    subst hv8
    by_cases hq0 : 0 < q'
    · cases X' with
      | nil =>
        obtain ⟨h1, h2, v, hB, hS, h5⟩ := HL.out
        obtain ⟨m, hm⟩ : ∃ m, ([] : List Ent).length = m := ⟨_, rfl⟩
        rw [hm] at hS
        have HB := Lib.hid hB
        have HS := Lib.hid hS
        have hpl := h2 p h1
        clear hB hS h1 h2 h5
        have HD := Lib.hid (take_done (t := takeM firm q X) HT.out (takeM_nil firm q'))
        have hm0 : m = 0 := by simpa using hm.symm
        clear HT
        go_upto_region 2 with fail
        refine wp_text 10 [.eq (.int .i64 q'), .eq (.bool true), .eq (.bool true), .eq (.pointer (some ⟨p, 0, none⟩)), .eq (.pointer (some ⟨p, 0, none⟩)), .eq (.pointer (some ⟨p, 1, none⟩)), .eq (v), .eq (.int .i64 (m : Int)), .eq (.bool false), .eq (.bool false)] rfl (by kernel_rfl) ?_ ?_
        · refine fsteps_cons 1 rfl (fun a u hE hD hk => f_val (o := ⟨some 12, _, _, _, _, _⟩) (.int .i64 q') rfl (wanted_none rfl _) (exec_move (.tmp 2) (.int .i64 q') rfl (hE 2 (.int .i64 q') (by kernel_rfl) (by kernel_rfl))) rfl) ?_
          refine fsteps_cons 2 rfl (fun a u hE hD hk => f_as (show ((decide ((0 : Int) < (q' : Int))) : Bool) = true from decide_eq_true hq0) (f_val (o := ⟨some 13, _, _, _, _, _⟩) (.bool (decide ((0 : Int) < (q' : Int)))) rfl (wanted_none rfl _) (exec_gtn (p := (q')) (q := 0) rfl (hD 0 12 (by kernel_rfl)) rfl) rfl)) ?_
          refine fsteps_cons 3 rfl (fun a u hE hD hk => f_val (o := ⟨some 14, _, _, _, _, _⟩) (.bool true) rfl (wanted_none rfl _) (exec_move (.tmp 13) (.bool true) rfl (hD 1 13 (by kernel_rfl))) rfl) ?_
          refine fsteps_cons 4 rfl (fun a u hE hD hk => f_val (o := ⟨some 15, _, _, _, _, _⟩) (.pointer (some ⟨p, 0, none⟩)) rfl (wanted_at (b := true) true rfl rfl (hD 2 14 (by kernel_rfl))) (exec_move (.tmp 0) (.pointer (some ⟨p, 0, none⟩)) rfl (hE 0 (.pointer (some ⟨p, 0, none⟩)) (by kernel_rfl) (by kernel_rfl))) rfl) ?_
          refine fsteps_cons 5 rfl (fun a u hE hD hk => f_val (o := ⟨some 16, _, _, _, _, _⟩) (.pointer (some ⟨p, 0, none⟩)) rfl (wanted_at (b := true) true rfl rfl (hD 2 14 (by kernel_rfl))) (exec_nilp (.tmp 15) ⟨p, 0, none⟩ rfl (hD 3 15 (by kernel_rfl))) rfl) ?_
          refine fsteps_cons 6 rfl (fun a u hE hD hk => f_val (o := ⟨some 17, _, _, _, _, _⟩) (.pointer (some ⟨p, 1, none⟩)) rfl (wanted_at (b := true) true rfl rfl (hD 2 14 (by kernel_rfl))) (exec_fldo 42 1 1 (.tmp 16) (p) (0) (1) rfl (hD 4 16 (by kernel_rfl)) (by kernel_rfl) rfl) rfl) ?_
          refine fsteps_cons 7 rfl (fun a u hE hD hk => f_val (o := ⟨some 18, _, _, _, _, _⟩) (v) rfl (wanted_at (b := true) true rfl rfl (hD 2 14 (by kernel_rfl))) (exec_ldv 40 _ Try.underlying40 (.tmp 17) ⟨p, 1, none⟩ (v) rfl (hD 5 17 (by kernel_rfl)) (by rw [(HB.out.kept hk).cell]; rfl)) rfl) ?_
          refine fsteps_cons 8 rfl (fun a u hE hD hk => f_val (o := ⟨some 19, _, _, _, _, _⟩) (.int .i64 (m : Int)) rfl (wanted_at (b := true) true rfl rfl (hD 2 14 (by kernel_rfl))) (exec_lenS (.tmp 18) slR (v) (m) _ _ rfl (hD 6 18 (by kernel_rfl)) HS.out) rfl) ?_
          refine fsteps_cons 9 rfl (fun a u hE hD hk => f_as (show ((decide ((0 : Int) < ((m : Int) : Int))) : Bool) = false from decide_eq_false (by omega)) (f_val (o := ⟨some 20, _, _, _, _, _⟩) (.bool (decide ((0 : Int) < ((m : Int) : Int)))) rfl (wanted_at (b := true) true rfl rfl (hD 2 14 (by kernel_rfl))) (exec_gtn (p := (m : Int)) (q := 0) rfl (hD 7 19 (by kernel_rfl)) rfl) rfl)) ?_
          refine fsteps_cons 10 rfl (fun a u hE hD hk => f_val (o := ⟨some 21, _, _, _, _, _⟩) (.bool false) rfl (wanted_none rfl _) (exec_pick (.tmp 14) (.tmp 20) (.const (.bool false)) (.bool false) rfl (hD 2 14 (by kernel_rfl)) (hD 8 20 (by kernel_rfl))) rfl) ?_
          exact fsteps_nil
        intro gv w1 hV k1
        rw [show dstsOf _ 10 = [12, 13, 14, 15, 16, 17, 18, 19, 20, 21] by kernel_rfl]
        simp only [List.foldl_cons, List.foldl_nil, List.setIfInBounds_toArray, List.set_cons_succ, List.set_cons_zero, List.drop_succ_cons, List.drop_zero]
        rw [show gv 21 = .bool false from hV 9 21 (by kernel_rfl)]
        clear hV
        refine wpList_nil ?_
        have kF1 := hkF.kept k1
        have s1 := k1.size
        go_wp2
        go_ret2
        refine ⟨F', v8, ?_, ?_, ?_, HO.out, HG.out, kF1⟩
        · rw [HD.out]; rfl
        · rw [HD.out]; exact HL.out.kept k1
        · rw [HD.out]; exact HV.out.kept k1
      | cons e R =>
        obtain ⟨h1, h2, v, hB, hS, h5⟩ := HL.out
        obtain ⟨m, hm⟩ : ∃ m, (e :: R).length = m := ⟨_, rfl⟩
        rw [hm] at hS
        have HB := Lib.hid hB
        have HS := Lib.hid hS
        have hpl := h2 p h1
        clear hB hS h1 h2 h5
        have hm0 : 0 < m := by rw [← hm]; simp
        have hmR : m = R.length + 1 := by rw [← hm]; simp
        obtain ⟨g, off, c, rfl⟩ := HS.out.some_ hm0
        have HE : Hid (wr.rangeAt g off e.cells) := HS.out.rng 0 e rfl
        have hb := HX.out.bound (e := e) (by simp)

        go_upto_region 2 with fail
        refine wp_text 10 [.eq (.int .i64 q'), .eq (.bool true), .eq (.bool true), .eq (.pointer (some ⟨p, 0, none⟩)), .eq (.pointer (some ⟨p, 0, none⟩)), .eq (.pointer (some ⟨p, 1, none⟩)), .eq (.slice (some ⟨g, off, none⟩) m c), .eq (.int .i64 (m : Int)), .eq (.bool true), .eq (.bool true)] rfl (by kernel_rfl) ?_ ?_
        · refine fsteps_cons 1 rfl (fun a u hE hD hk => f_val (o := ⟨some 12, _, _, _, _, _⟩) (.int .i64 q') rfl (wanted_none rfl _) (exec_move (.tmp 2) (.int .i64 q') rfl (hE 2 (.int .i64 q') (by kernel_rfl) (by kernel_rfl))) rfl) ?_
          refine fsteps_cons 2 rfl (fun a u hE hD hk => f_as (show ((decide ((0 : Int) < (q' : Int))) : Bool) = true from decide_eq_true hq0) (f_val (o := ⟨some 13, _, _, _, _, _⟩) (.bool (decide ((0 : Int) < (q' : Int)))) rfl (wanted_none rfl _) (exec_gtn (p := (q')) (q := 0) rfl (hD 0 12 (by kernel_rfl)) rfl) rfl)) ?_
          refine fsteps_cons 3 rfl (fun a u hE hD hk => f_val (o := ⟨some 14, _, _, _, _, _⟩) (.bool true) rfl (wanted_none rfl _) (exec_move (.tmp 13) (.bool true) rfl (hD 1 13 (by kernel_rfl))) rfl) ?_
          refine fsteps_cons 4 rfl (fun a u hE hD hk => f_val (o := ⟨some 15, _, _, _, _, _⟩) (.pointer (some ⟨p, 0, none⟩)) rfl (wanted_at (b := true) true rfl rfl (hD 2 14 (by kernel_rfl))) (exec_move (.tmp 0) (.pointer (some ⟨p, 0, none⟩)) rfl (hE 0 (.pointer (some ⟨p, 0, none⟩)) (by kernel_rfl) (by kernel_rfl))) rfl) ?_
          refine fsteps_cons 5 rfl (fun a u hE hD hk => f_val (o := ⟨some 16, _, _, _, _, _⟩) (.pointer (some ⟨p, 0, none⟩)) rfl (wanted_at (b := true) true rfl rfl (hD 2 14 (by kernel_rfl))) (exec_nilp (.tmp 15) ⟨p, 0, none⟩ rfl (hD 3 15 (by kernel_rfl))) rfl) ?_
          refine fsteps_cons 6 rfl (fun a u hE hD hk => f_val (o := ⟨some 17, _, _, _, _, _⟩) (.pointer (some ⟨p, 1, none⟩)) rfl (wanted_at (b := true) true rfl rfl (hD 2 14 (by kernel_rfl))) (exec_fldo 42 1 1 (.tmp 16) (p) (0) (1) rfl (hD 4 16 (by kernel_rfl)) (by kernel_rfl) rfl) rfl) ?_
          refine fsteps_cons 7 rfl (fun a u hE hD hk => f_val (o := ⟨some 18, _, _, _, _, _⟩) (.slice (some ⟨g, off, none⟩) m c) rfl (wanted_at (b := true) true rfl rfl (hD 2 14 (by kernel_rfl))) (exec_ldv 40 _ Try.underlying40 (.tmp 17) ⟨p, 1, none⟩ (.slice (some ⟨g, off, none⟩) m c) rfl (hD 5 17 (by kernel_rfl)) (by rw [(HB.out.kept hk).cell]; rfl)) rfl) ?_
          refine fsteps_cons 8 rfl (fun a u hE hD hk => f_val (o := ⟨some 19, _, _, _, _, _⟩) (.int .i64 (m : Int)) rfl (wanted_at (b := true) true rfl rfl (hD 2 14 (by kernel_rfl))) (exec_len (.tmp 18) _ _ slR.und (some ⟨g, off, none⟩) m c rfl (hD 6 18 (by kernel_rfl))) rfl) ?_
          refine fsteps_cons 9 rfl (fun a u hE hD hk => f_as (show ((decide ((0 : Int) < ((m : Int) : Int))) : Bool) = true from decide_eq_true (by omega)) (f_val (o := ⟨some 20, _, _, _, _, _⟩) (.bool (decide ((0 : Int) < ((m : Int) : Int)))) rfl (wanted_at (b := true) true rfl rfl (hD 2 14 (by kernel_rfl))) (exec_gtn (p := (m : Int)) (q := 0) rfl (hD 7 19 (by kernel_rfl)) rfl) rfl)) ?_
          refine fsteps_cons 10 rfl (fun a u hE hD hk => f_val (o := ⟨some 21, _, _, _, _, _⟩) (.bool true) rfl (wanted_none rfl _) (exec_pick (.tmp 14) (.tmp 20) (.const (.bool false)) (.bool true) rfl (hD 2 14 (by kernel_rfl)) (hD 8 20 (by kernel_rfl))) rfl) ?_
          exact fsteps_nil
        intro gv w1 hV k1
        rw [show dstsOf _ 10 = [12, 13, 14, 15, 16, 17, 18, 19, 20, 21] by kernel_rfl]
        simp only [List.foldl_cons, List.foldl_nil, List.setIfInBounds_toArray, List.set_cons_succ, List.set_cons_zero, List.drop_succ_cons, List.drop_zero]
        rw [show gv 21 = .bool true from hV 9 21 (by kernel_rfl)]
        clear hV
        refine wpList_nil ?_
        have kF1 := hkF.kept k1
        have s1 := k1.size
        have HB1 := Lib.hid (HB.out.kept k1)
        have HE1 := Lib.hid (range_kept HE.out k1)
        by_cases hf : e.o.firm = firm
        · have HD := Lib.hid (take_done (t := takeM firm q X) HT.out (takeM_own firm q' e R hq0 (by omega) hf))
          clear HT
          go_upto_region 3 with fail
          refine wp_text 7 [.eq (.pointer (some ⟨p, 0, none⟩)), .eq (.pointer (some ⟨p, 0, none⟩)), .eq (.pointer (some ⟨p, 1, none⟩)), .eq (.slice (some ⟨g, off, none⟩) m c), .eq (.pointer (some ⟨g, off, none⟩)), .eq (e.v), .fresh w1.heap.size 64 zeroE.cells] rfl (by kernel_rfl) ?_ ?_
          · refine fsteps_cons 1 rfl (fun a u hE hD hk => f_val (o := ⟨some 22, _, _, _, _, _⟩) (.pointer (some ⟨p, 0, none⟩)) rfl (wanted_none rfl _) (exec_move (.tmp 0) (.pointer (some ⟨p, 0, none⟩)) rfl (hE 0 (.pointer (some ⟨p, 0, none⟩)) (by kernel_rfl) (by kernel_rfl))) rfl) ?_
            refine fsteps_cons 2 rfl (fun a u hE hD hk => f_val (o := ⟨some 23, _, _, _, _, _⟩) (.pointer (some ⟨p, 0, none⟩)) rfl (wanted_none rfl _) (exec_nilp (.tmp 22) ⟨p, 0, none⟩ rfl (hD 0 22 (by kernel_rfl))) rfl) ?_
            refine fsteps_cons 3 rfl (fun a u hE hD hk => f_val (o := ⟨some 24, _, _, _, _, _⟩) (.pointer (some ⟨p, 1, none⟩)) rfl (wanted_none rfl _) (exec_fldo 42 1 1 (.tmp 23) (p) (0) (1) rfl (hD 1 23 (by kernel_rfl)) (by kernel_rfl) rfl) rfl) ?_
            refine fsteps_cons 4 rfl (fun a u hE hD hk => f_val (o := ⟨some 25, _, _, _, _, _⟩) (.slice (some ⟨g, off, none⟩) m c) rfl (wanted_none rfl _) (exec_ldv 40 _ Try.underlying40 (.tmp 24) ⟨p, 1, none⟩ (.slice (some ⟨g, off, none⟩) m c) rfl (hD 2 24 (by kernel_rfl)) (by rw [(HB1.out.kept hk).cell]; rfl)) rfl) ?_
            refine fsteps_cons 5 rfl (fun a u hE hD hk => f_val (o := ⟨some 26, _, _, _, _, _⟩) (.pointer (some ⟨g, off, none⟩)) rfl (wanted_none rfl _) (exec_ixo slR (.tmp 25) (.const (.int .i64 0)) (g) (off) m c 0 (off) (0) rfl (hD 3 25 (by kernel_rfl)) rfl (by first | rfl | omega) ((by omega)) (by first | rfl | omega)) rfl) ?_
            refine fsteps_cons 6 rfl (fun a u hE hD hk => f_val (o := ⟨some 27, _, _, _, _, _⟩) (e.v) rfl (wanted_none rfl _) (exec_ldS 64 _ (.tmp 26) (g) (off) (e.cells) rfl (hD 4 26 (by kernel_rfl)) (range_kept HE1.out hk) Try.underlying64 (by rw [e.len10]; exact szR)) rfl) ?_
            refine fsteps_cons 7 rfl (fun a u hE hD hk => f_new (o := ⟨some 9, _, _, _, _, _⟩) (.pointer (some ⟨u.heap.size, 0, none⟩)) _ rfl (wanted_none rfl _) (exec_alc 64 zeroE.cells rfl zR) ⟨_, rfl, hk.size, Blk.new u _ _⟩ ((Keep.refl _ u).alloc _)) ?_
            exact fsteps_nil
          intro gv w2 hV k2
          rw [show dstsOf _ 7 = [22, 23, 24, 25, 26, 27, 9] by kernel_rfl]
          simp only [List.foldl_cons, List.foldl_nil, List.setIfInBounds_toArray, List.set_cons_succ, List.set_cons_zero, List.drop_succ_cons, List.drop_zero]
          have hv9 : (.fresh w1.heap.size 64 zeroE.cells : Kn).p (gv 9) w2 := hV 6 9 (by kernel_rfl)
          generalize gv 9 = v9 at hv9 ⊢
          rw [show gv 27 = e.v from hV 5 27 (by kernel_rfl)]
          clear hV
          obtain ⟨b9, rfl, hb9, hB9⟩ := hv9
          refine l_setS (o := ⟨none, _, _, _, _, _⟩) 64 b9 64 zeroE.cells e.cells (.tmp 9) (.tmp 27) rfl rfl (by kernel_rfl) (by kernel_rfl) hB9 (by rw [Ent.len10]; exact szR) (by rw [Ent.len10, Ent.len10]) (Ent.one _) ?_
          intro w3 hC3 hk3 hs3
          simp only [Act.put]
          refine wpList_nil ?_
          have k13 : Kept w1 w3 := k2.trans' hk3 (by omega)
          have kr3 := k1.trans k13
          have HC3 := Lib.hid hC3
          have HC3r := Lib.hid (blk_range hC3)
          have l9 := hC3.lt
          have s3 := k13.size
          clear hB9 hC3 hk3 k2 hs3
          go_upto_region 4 with fail
          refine wp_text 5 [.eq (.pointer (some ⟨b9, 0, none⟩)), .eq (.pointer (some ⟨b9, 2, none⟩)), .eq (.int .i64 e.o.firm), .eq (.int .i64 firm), .eq (.bool true)] rfl (by kernel_rfl) ?_ ?_
          · refine fsteps_cons 1 rfl (fun a u hE hD hk => f_val (o := ⟨some 28, _, _, _, _, _⟩) (.pointer (some ⟨b9, 0, none⟩)) rfl (wanted_none rfl _) (exec_fldo 64 0 0 (.tmp 9) (b9) (0) (0) rfl (hE 9 (.pointer (some ⟨b9, 0, none⟩)) (by kernel_rfl) (by kernel_rfl)) (by kernel_rfl) rfl) rfl) ?_
            refine fsteps_cons 2 rfl (fun a u hE hD hk => f_val (o := ⟨some 29, _, _, _, _, _⟩) (.pointer (some ⟨b9, 2, none⟩)) rfl (wanted_none rfl _) (exec_fldo 25 2 2 (.tmp 28) (b9) (0) (2) rfl (hD 0 28 (by kernel_rfl)) (by kernel_rfl) rfl) rfl) ?_
            refine fsteps_cons 3 rfl (fun a u hE hD hk => f_val (o := ⟨some 30, _, _, _, _, _⟩) (.int .i64 e.o.firm) rfl (wanted_none rfl _) (exec_loadi 3 Try.underlying3 (.tmp 29) ⟨b9, 2, none⟩ (.int .i64 e.o.firm) rfl (hD 1 29 (by kernel_rfl)) (range_int (range_kept HC3r.out hk) 2 _ rfl)) rfl) ?_
            refine fsteps_cons 4 rfl (fun a u hE hD hk => f_val (o := ⟨some 31, _, _, _, _, _⟩) (.int .i64 firm) rfl (wanted_none rfl _) (exec_move (.tmp 1) (.int .i64 firm) rfl (hE 1 (.int .i64 firm) (by kernel_rfl) (by kernel_rfl))) rfl) ?_
            refine fsteps_cons 5 rfl (fun a u hE hD hk => f_as (show ((decide ((e.o.firm : Int) = (firm : Int))) : Bool) = true from decide_eq_true hf) (f_val (o := ⟨some 32, _, _, _, _, _⟩) (.bool (decide ((e.o.firm : Int) = (firm : Int)))) rfl (wanted_none rfl _) (exec_eqn (p := e.o.firm) (q := firm) rfl (hD 2 30 (by kernel_rfl)) (hD 3 31 (by kernel_rfl))) rfl)) ?_
            exact fsteps_nil
          intro gv w4 hV k4
          rw [show dstsOf _ 5 = [28, 29, 30, 31, 32] by kernel_rfl]
          simp only [List.foldl_cons, List.foldl_nil, List.setIfInBounds_toArray, List.set_cons_succ, List.set_cons_zero, List.drop_succ_cons, List.drop_zero]
          rw [show gv 32 = .bool true from hV 4 32 (by kernel_rfl)]
          clear hV
          refine wpList_nil ?_
          have kr4 := kr3.trans k4
          have HC4 := Lib.hid (HC3.out.kept k4)
          have HC4r := Lib.hid (range_kept HC3r.out k4)
          have s4 := k4.size
          clear HC3 HC3r k4 k13 kr3
          go_wp2
          go_ret2
          refine ⟨F', v8, ?_, ?_, ?_, HO.out, HG.out, hkF.kept kr4⟩
          · rw [HD.out]; rfl
          · rw [HD.out]; exact HL.out.kept kr4
          · rw [HD.out]; exact HV.out.kept kr4
        · have hmn1 := mn_le q' e.n
          have hmn2 := mn_pos q' e.n hq0 (by omega)
          have hD0 := take_next_ HT.out hq0 (by omega) hf
          obtain ⟨n, hn⟩ : ∃ n, mn q' e.n = n := ⟨_, rfl⟩
          rw [hn] at hmn1 hmn2 hD0
          have HN : Hid ((if e.n < q' then e.n else q') = n) := hn
          have HD := Lib.hid hD0
          clear HT hn hD0
          go_upto_region 3 with fail
          refine wp_text 7 [.eq (.pointer (some ⟨p, 0, none⟩)), .eq (.pointer (some ⟨p, 0, none⟩)), .eq (.pointer (some ⟨p, 1, none⟩)), .eq (.slice (some ⟨g, off, none⟩) m c), .eq (.pointer (some ⟨g, off, none⟩)), .eq (e.v), .fresh w1.heap.size 64 zeroE.cells] rfl (by kernel_rfl) ?_ ?_
          · refine fsteps_cons 1 rfl (fun a u hE hD hk => f_val (o := ⟨some 22, _, _, _, _, _⟩) (.pointer (some ⟨p, 0, none⟩)) rfl (wanted_none rfl _) (exec_move (.tmp 0) (.pointer (some ⟨p, 0, none⟩)) rfl (hE 0 (.pointer (some ⟨p, 0, none⟩)) (by kernel_rfl) (by kernel_rfl))) rfl) ?_
            refine fsteps_cons 2 rfl (fun a u hE hD hk => f_val (o := ⟨some 23, _, _, _, _, _⟩) (.pointer (some ⟨p, 0, none⟩)) rfl (wanted_none rfl _) (exec_nilp (.tmp 22) ⟨p, 0, none⟩ rfl (hD 0 22 (by kernel_rfl))) rfl) ?_
            refine fsteps_cons 3 rfl (fun a u hE hD hk => f_val (o := ⟨some 24, _, _, _, _, _⟩) (.pointer (some ⟨p, 1, none⟩)) rfl (wanted_none rfl _) (exec_fldo 42 1 1 (.tmp 23) (p) (0) (1) rfl (hD 1 23 (by kernel_rfl)) (by kernel_rfl) rfl) rfl) ?_
            refine fsteps_cons 4 rfl (fun a u hE hD hk => f_val (o := ⟨some 25, _, _, _, _, _⟩) (.slice (some ⟨g, off, none⟩) m c) rfl (wanted_none rfl _) (exec_ldv 40 _ Try.underlying40 (.tmp 24) ⟨p, 1, none⟩ (.slice (some ⟨g, off, none⟩) m c) rfl (hD 2 24 (by kernel_rfl)) (by rw [(HB1.out.kept hk).cell]; rfl)) rfl) ?_
            refine fsteps_cons 5 rfl (fun a u hE hD hk => f_val (o := ⟨some 26, _, _, _, _, _⟩) (.pointer (some ⟨g, off, none⟩)) rfl (wanted_none rfl _) (exec_ixo slR (.tmp 25) (.const (.int .i64 0)) (g) (off) m c 0 (off) (0) rfl (hD 3 25 (by kernel_rfl)) rfl (by first | rfl | omega) ((by omega)) (by first | rfl | omega)) rfl) ?_
            refine fsteps_cons 6 rfl (fun a u hE hD hk => f_val (o := ⟨some 27, _, _, _, _, _⟩) (e.v) rfl (wanted_none rfl _) (exec_ldS 64 _ (.tmp 26) (g) (off) (e.cells) rfl (hD 4 26 (by kernel_rfl)) (range_kept HE1.out hk) Try.underlying64 (by rw [e.len10]; exact szR)) rfl) ?_
            refine fsteps_cons 7 rfl (fun a u hE hD hk => f_new (o := ⟨some 9, _, _, _, _, _⟩) (.pointer (some ⟨u.heap.size, 0, none⟩)) _ rfl (wanted_none rfl _) (exec_alc 64 zeroE.cells rfl zR) ⟨_, rfl, hk.size, Blk.new u _ _⟩ ((Keep.refl _ u).alloc _)) ?_
            exact fsteps_nil
          intro gv w2 hV k2
          rw [show dstsOf _ 7 = [22, 23, 24, 25, 26, 27, 9] by kernel_rfl]
          simp only [List.foldl_cons, List.foldl_nil, List.setIfInBounds_toArray, List.set_cons_succ, List.set_cons_zero, List.drop_succ_cons, List.drop_zero]
          have hv9 : (.fresh w1.heap.size 64 zeroE.cells : Kn).p (gv 9) w2 := hV 6 9 (by kernel_rfl)
          generalize gv 9 = v9 at hv9 ⊢
          rw [show gv 27 = e.v from hV 5 27 (by kernel_rfl)]
          clear hV
          obtain ⟨b9, rfl, hb9, hB9⟩ := hv9
          refine l_setS (o := ⟨none, _, _, _, _, _⟩) 64 b9 64 zeroE.cells e.cells (.tmp 9) (.tmp 27) rfl rfl (by kernel_rfl) (by kernel_rfl) hB9 (by rw [Ent.len10]; exact szR) (by rw [Ent.len10, Ent.len10]) (Ent.one _) ?_
          intro w3 hC3 hk3 hs3
          simp only [Act.put]
          refine wpList_nil ?_
          have k13 : Kept w1 w3 := k2.trans' hk3 (by omega)
          have kr3 := k1.trans k13
          have HC3 := Lib.hid hC3
          have HC3r := Lib.hid (blk_range hC3)
          have l9 := hC3.lt
          have s3 := k13.size
          clear hB9 hC3 hk3 k2 hs3
          go_upto_region 4 with fail
          refine wp_text 5 [.eq (.pointer (some ⟨b9, 0, none⟩)), .eq (.pointer (some ⟨b9, 2, none⟩)), .eq (.int .i64 e.o.firm), .eq (.int .i64 firm), .eq (.bool false)] rfl (by kernel_rfl) ?_ ?_
          · refine fsteps_cons 1 rfl (fun a u hE hD hk => f_val (o := ⟨some 28, _, _, _, _, _⟩) (.pointer (some ⟨b9, 0, none⟩)) rfl (wanted_none rfl _) (exec_fldo 64 0 0 (.tmp 9) (b9) (0) (0) rfl (hE 9 (.pointer (some ⟨b9, 0, none⟩)) (by kernel_rfl) (by kernel_rfl)) (by kernel_rfl) rfl) rfl) ?_
            refine fsteps_cons 2 rfl (fun a u hE hD hk => f_val (o := ⟨some 29, _, _, _, _, _⟩) (.pointer (some ⟨b9, 2, none⟩)) rfl (wanted_none rfl _) (exec_fldo 25 2 2 (.tmp 28) (b9) (0) (2) rfl (hD 0 28 (by kernel_rfl)) (by kernel_rfl) rfl) rfl) ?_
            refine fsteps_cons 3 rfl (fun a u hE hD hk => f_val (o := ⟨some 30, _, _, _, _, _⟩) (.int .i64 e.o.firm) rfl (wanted_none rfl _) (exec_loadi 3 Try.underlying3 (.tmp 29) ⟨b9, 2, none⟩ (.int .i64 e.o.firm) rfl (hD 1 29 (by kernel_rfl)) (range_int (range_kept HC3r.out hk) 2 _ rfl)) rfl) ?_
            refine fsteps_cons 4 rfl (fun a u hE hD hk => f_val (o := ⟨some 31, _, _, _, _, _⟩) (.int .i64 firm) rfl (wanted_none rfl _) (exec_move (.tmp 1) (.int .i64 firm) rfl (hE 1 (.int .i64 firm) (by kernel_rfl) (by kernel_rfl))) rfl) ?_
            refine fsteps_cons 5 rfl (fun a u hE hD hk => f_as (show ((decide ((e.o.firm : Int) = (firm : Int))) : Bool) = false from decide_eq_false hf) (f_val (o := ⟨some 32, _, _, _, _, _⟩) (.bool (decide ((e.o.firm : Int) = (firm : Int)))) rfl (wanted_none rfl _) (exec_eqn (p := e.o.firm) (q := firm) rfl (hD 2 30 (by kernel_rfl)) (hD 3 31 (by kernel_rfl))) rfl)) ?_
            exact fsteps_nil
          intro gv w4 hV k4
          rw [show dstsOf _ 5 = [28, 29, 30, 31, 32] by kernel_rfl]
          simp only [List.foldl_cons, List.foldl_nil, List.setIfInBounds_toArray, List.set_cons_succ, List.set_cons_zero, List.drop_succ_cons, List.drop_zero]
          rw [show gv 32 = .bool false from hV 4 32 (by kernel_rfl)]
          clear hV
          refine wpList_nil ?_
          have kr4 := kr3.trans k4
          have HC4 := Lib.hid (HC3.out.kept k4)
          have HC4r := Lib.hid (range_kept HC3r.out k4)
          have s4 := k4.size
          clear HC3 HC3r k4 k13 kr3
          have HLN : Hid (H.length ≤ 99999) := by
            show _ ≤ _
            have h1 := HW.out
            have h2 := HX0.out.few
            have h3 := whole_ge HX.out.ok
            simp only [List.length_cons] at h3
            omega
          have s0 := hkF.size
          have HVL : Hid (∀ b, v8.ownBlock = some b → b < wr.heap.size) := fun b hb => HV.out.lt hb
          have HFL : Hid (∀ b, F' b → b < wr.heap.size) := HL.out.2.1
          clear HB1 HE1 HB HE HS k1
          go_upto_region 6 with fail
          refine wp_text 4 [.eq (.int .i64 q'), .eq (.pointer (some ⟨b9, 9, none⟩)), .eq (.int .i64 e.n), .eq (.int .i64 n)] rfl (by kernel_rfl) ?_ ?_
          · refine fsteps_cons 1 rfl (fun a u hE hD hk => f_val (o := ⟨some 34, _, _, _, _, _⟩) (.int .i64 q') rfl (wanted_none rfl _) (exec_move (.tmp 2) (.int .i64 q') rfl (hE 2 (.int .i64 q') (by kernel_rfl) (by kernel_rfl))) rfl) ?_
            refine fsteps_cons 2 rfl (fun a u hE hD hk => f_val (o := ⟨some 35, _, _, _, _, _⟩) (.pointer (some ⟨b9, 9, none⟩)) rfl (wanted_none rfl _) (exec_fldo 64 1 9 (.tmp 9) (b9) (0) (9) rfl (hE 9 (.pointer (some ⟨b9, 0, none⟩)) (by kernel_rfl) (by kernel_rfl)) (by kernel_rfl) rfl) rfl) ?_
            refine fsteps_cons 3 rfl (fun a u hE hD hk => f_val (o := ⟨some 36, _, _, _, _, _⟩) (.int .i64 e.n) rfl (wanted_none rfl _) (exec_loadi 3 Try.underlying3 (.tmp 35) ⟨b9, 9, none⟩ (.int .i64 e.n) rfl (hD 1 35 (by kernel_rfl)) (range_int (range_kept HC4r.out hk) 9 _ rfl)) rfl) ?_
            refine fsteps_cons 4 rfl (fun a u hE hD hk => f_val (o := ⟨some 37, _, _, _, _, _⟩) (.int .i64 n) rfl (wanted_none rfl _) (exec_min (.tmp 34) (.tmp 36) _ q' e.n n rfl (hD 0 34 (by kernel_rfl)) (hD 2 36 (by kernel_rfl)) HN.out) rfl) ?_
            exact fsteps_nil
          intro gv w5 hV k5
          rw [show dstsOf _ 4 = [34, 35, 36, 37] by kernel_rfl]
          simp only [List.foldl_cons, List.foldl_nil, List.setIfInBounds_toArray, List.set_cons_succ, List.set_cons_zero, List.drop_succ_cons, List.drop_zero]
          rw [show gv 37 = .int .i64 n from hV 3 37 (by kernel_rfl)]
          clear hV
          refine l_val (o := ⟨some 10, _, _, _, _, _⟩) (.int .i64 n) rfl (exec_assign (.tmp 37) (.int .i64 n) rfl (by kernel_rfl)) ?_
          simp only [Act.put, List.setIfInBounds_toArray, List.set_cons_succ, List.set_cons_zero]
          refine wpList_nil ?_
          have kr5 := kr4.trans k5
          have HC5 := Lib.hid (HC4.out.kept k5)
          have HC5r := Lib.hid (range_kept HC4r.out k5)
          have s5 := k5.size
          clear HC4 HC4r k5 kr4 HN
          go_upto_region 7 with fail
          refine wp_text 6 [.eq (v8), .eq (.pointer (some ⟨b9, 0, none⟩)), .eq (e.o.v), .eq (.int .i64 n), .eq ((Ent.mk e.o (n)).v), .sl w5.heap.size 35 10 1 (Ent.mk e.o (n)).cells] rfl (by kernel_rfl) ?_ ?_
          · refine fsteps_cons 1 rfl (fun a u hE hD hk => f_val (o := ⟨some 38, _, _, _, _, _⟩) (v8) rfl (wanted_none rfl _) (exec_move (.tmp 8) (v8) rfl (hE 8 (v8) (by kernel_rfl) (by kernel_rfl))) rfl) ?_
            refine fsteps_cons 2 rfl (fun a u hE hD hk => f_val (o := ⟨some 39, _, _, _, _, _⟩) (.pointer (some ⟨b9, 0, none⟩)) rfl (wanted_none rfl _) (exec_fldo 64 0 0 (.tmp 9) (b9) (0) (0) rfl (hE 9 (.pointer (some ⟨b9, 0, none⟩)) (by kernel_rfl) (by kernel_rfl)) (by kernel_rfl) rfl) rfl) ?_
            refine fsteps_cons 3 rfl (fun a u hE hD hk => f_val (o := ⟨some 40, _, _, _, _, _⟩) (e.o.v) rfl (wanted_none rfl _) (exec_ldS 25 _ (.tmp 39) (b9) (0) (e.o.cells) rfl (hD 1 39 (by kernel_rfl)) (ent_ord (range_kept HC5r.out hk)) Try.underlying25 (by rw [e.o.len9]; exact ord_size)) rfl) ?_
            refine fsteps_cons 4 rfl (fun a u hE hD hk => f_val (o := ⟨some 41, _, _, _, _, _⟩) (.int .i64 n) rfl (wanted_none rfl _) (exec_move (.tmp 10) (.int .i64 n) rfl (hE 10 (.int .i64 n) (by kernel_rfl) (by kernel_rfl))) rfl) ?_
            refine fsteps_cons 5 rfl (fun a u hE hD hk => f_val (o := ⟨some 42, _, _, _, _, _⟩) ((Ent.mk e.o (n)).v) rfl (wanted_none rfl _) (exec_bent 35 builtH (.tmp 40) (.tmp 41) (e.o) (n) rfl (hD 2 40 (by kernel_rfl)) (hD 3 41 (by kernel_rfl))) rfl) ?_
            refine fsteps_cons 6 rfl (fun a u hE hD hk => f_new (o := ⟨some 43, _, _, _, _, _⟩) (.slice (some ⟨u.heap.size, 0, none⟩) 1 1) _ rfl (wanted_none rfl _) (exec_oneS slH (.tmp 42) (Ent.mk e.o (n)).cells (by omega) rfl (hD 4 42 (by kernel_rfl)) ((Ent.mk e.o (n)).len10)) (sl_one u 35 10 _ w5.heap.size ((Ent.mk e.o (n)).len10) (by omega) hk.size) ((Keep.refl _ u).alloc _)) ?_
            exact fsteps_nil
          intro gv w6 hV k6
          rw [show dstsOf _ 6 = [38, 39, 40, 41, 42, 43] by kernel_rfl]
          simp only [List.foldl_cons, List.foldl_nil, List.setIfInBounds_toArray, List.set_cons_succ, List.set_cons_zero, List.drop_succ_cons, List.drop_zero]
          rw [show gv 38 = v8 from hV 0 38 (by kernel_rfl)]
          have hv43 : (.sl w5.heap.size 35 10 1 (Ent.mk e.o (n)).cells : Kn).p (gv 43) w6 := hV 5 43 (by kernel_rfl)
          generalize gv 43 = v43 at hv43 ⊢
          clear hV
          have hln := HLN.out
          obtain ⟨v7, w7, hr7, hs7, hk7, ho7⟩ := run_append_sl slH 27 w6 v8 v43 H.length 1 _ _ (HV.out.kept (kr5.trans k6)) hv43.1 (Ent.one _) (by unfold maxLen; omega) (by omega)
          refine l_new (o := ⟨some 44, _, _, _, _, _⟩) v7 w7 rfl (exec_appS slH (.tmp 38) (.tmp 43) v8 v43 rfl (by kernel_rfl) (by kernel_rfl) v7 w7 hr7) ?_
          simp only [Act.put, List.setIfInBounds_toArray, List.set_cons_succ, List.set_cons_zero]
          refine l_val (o := ⟨some 8, _, _, _, _, _⟩) (v7) rfl (exec_assign (.tmp 44) (v7) rfl (by kernel_rfl)) ?_
          simp only [Act.put, List.setIfInBounds_toArray, List.set_cons_succ, List.set_cons_zero]
          refine wpList_nil ?_
          have s6 := k6.size
          have s7 := hk7.size
          have kr6 := kr5.trans k6
          have HL7 := Lib.hid ((HL.out.kept kr6).keep hk7 (fun b hb hv => (HO.out b hv).2 hb))
          have kF7 : Keep F w w7 := (hkF.kept kr6).trans hk7 (fun b hb hv => by have := (HO.out b hv).1; omega)
          have hb9n : ¬ v8.ownBlock = some b9 := fun h => by have := HVL.out b9 h; omega
          have HC7 := Lib.hid ((HC5.out.kept k6).keep hk7 hb9n)
          have HC7r := Lib.hid (blk_range HC7.out)
          have HO7 : Hid (∀ b, v7.ownBlock = some b → w.heap.size ≤ b ∧ ¬ F' b) := fun b hb => by
            rcases ho7 b hb with h | h
            · exact HO.out b h
            · exact ⟨by omega, fun hF => by have := HFL.out b hF; omega⟩
          have HO7b : Hid (∀ b, v7.ownBlock = some b → b ≠ b9) := fun b hb e => by
            rcases ho7 b hb with h | h
            · have := HVL.out b h; omega
            · omega
          have HV7 : Hid (Sl w7 35 10 v7 (H ++ [Ent.mk e.o n]).length (ents (H ++ [Ent.mk e.o n]))) := by
            show Sl _ _ _ _ _ _
            rw [List.length_append, ents_snoc]
            exact hs7
          have HV7L : Hid (∀ b, v7.ownBlock = some b → b < w7.heap.size) := fun b hb => hs7.lt hb
          clear hs7 hk7 ho7 hr7 hv43 HC5 HC5r kr5 kr6 k6 HV HO HL hln hb9n hkF
          go_upto_region 8 with fail
          refine wp_text 3 [.eq (.int .i64 q'), .eq (.int .i64 n), .eq (.int .i64 (q' - n))] rfl (by kernel_rfl) ?_ ?_
          · refine fsteps_cons 1 rfl (fun a u hE hD hk => f_val (o := ⟨some 45, _, _, _, _, _⟩) (.int .i64 q') rfl (wanted_none rfl _) (exec_move (.tmp 2) (.int .i64 q') rfl (hE 2 (.int .i64 q') (by kernel_rfl) (by kernel_rfl))) rfl) ?_
            refine fsteps_cons 2 rfl (fun a u hE hD hk => f_val (o := ⟨some 46, _, _, _, _, _⟩) (.int .i64 n) rfl (wanted_none rfl _) (exec_move (.tmp 10) (.int .i64 n) rfl (hE 10 (.int .i64 n) (by kernel_rfl) (by kernel_rfl))) rfl) ?_
            refine fsteps_cons 3 rfl (fun a u hE hD hk => f_val (o := ⟨some 47, _, _, _, _, _⟩) (.int .i64 (q' - n)) rfl (wanted_none rfl _) (exec_subn (q' - n) rfl (hD 0 45 (by kernel_rfl)) (hD 1 46 (by kernel_rfl)) rfl (by omega) (by omega)) rfl) ?_
            exact fsteps_nil
          intro gv w8 hV k8
          rw [show dstsOf _ 3 = [45, 46, 47] by kernel_rfl]
          simp only [List.foldl_cons, List.foldl_nil, List.setIfInBounds_toArray, List.set_cons_succ, List.set_cons_zero, List.drop_succ_cons, List.drop_zero]
          rw [show gv 47 = .int .i64 (q' - n) from hV 2 47 (by kernel_rfl)]
          clear hV
          refine l_val (o := ⟨some 2, _, _, _, _, _⟩) (.int .i64 (q' - n)) rfl (exec_assign (.tmp 47) (.int .i64 (q' - n)) rfl (by kernel_rfl)) ?_
          simp only [Act.put, List.setIfInBounds_toArray, List.set_cons_succ, List.set_cons_zero]
          refine wpList_nil ?_
          have HC8 := Lib.hid (HC7.out.kept k8)
          have HC8r := Lib.hid (range_kept HC7r.out k8)
          have s8 := k8.size
          clear HC7 HC7r
          go_upto_region 9 with fail
          refine wp_text 9 [.eq (.pointer (some ⟨b9, 0, none⟩)), .eq (.pointer (some ⟨b9, 6, none⟩)), .eq (.int .i64 e.o.qty), .eq (.int .i64 n), .eq (.int .i64 (e.o.qty - n)), .eq (.pointer (some ⟨b9, 9, none⟩)), .eq (.int .i64 e.n), .eq (.int .i64 n), .eq (.int .i64 (e.n - n))] rfl (by kernel_rfl) ?_ ?_
          · refine fsteps_cons 1 rfl (fun a u hE hD hk => f_val (o := ⟨some 48, _, _, _, _, _⟩) (.pointer (some ⟨b9, 0, none⟩)) rfl (wanted_none rfl _) (exec_fldo 64 0 0 (.tmp 9) (b9) (0) (0) rfl (hE 9 (.pointer (some ⟨b9, 0, none⟩)) (by kernel_rfl) (by kernel_rfl)) (by kernel_rfl) rfl) rfl) ?_
            refine fsteps_cons 2 rfl (fun a u hE hD hk => f_val (o := ⟨some 49, _, _, _, _, _⟩) (.pointer (some ⟨b9, 6, none⟩)) rfl (wanted_none rfl _) (exec_fldo 25 6 6 (.tmp 48) (b9) (0) (6) rfl (hD 0 48 (by kernel_rfl)) (by kernel_rfl) rfl) rfl) ?_
            refine fsteps_cons 3 rfl (fun a u hE hD hk => f_val (o := ⟨some 50, _, _, _, _, _⟩) (.int .i64 e.o.qty) rfl (wanted_none rfl _) (exec_loadi 3 Try.underlying3 (.tmp 49) ⟨b9, 6, none⟩ (.int .i64 e.o.qty) rfl (hD 1 49 (by kernel_rfl)) (range_int (range_kept HC8r.out hk) 6 _ rfl)) rfl) ?_
            refine fsteps_cons 4 rfl (fun a u hE hD hk => f_val (o := ⟨some 51, _, _, _, _, _⟩) (.int .i64 n) rfl (wanted_none rfl _) (exec_move (.tmp 10) (.int .i64 n) rfl (hE 10 (.int .i64 n) (by kernel_rfl) (by kernel_rfl))) rfl) ?_
            refine fsteps_cons 5 rfl (fun a u hE hD hk => f_val (o := ⟨some 52, _, _, _, _, _⟩) (.int .i64 (e.o.qty - n)) rfl (wanted_none rfl _) (exec_subn (e.o.qty - n) rfl (hD 2 50 (by kernel_rfl)) (hD 3 51 (by kernel_rfl)) rfl (by omega) (by omega)) rfl) ?_
            refine fsteps_cons 6 rfl (fun a u hE hD hk => f_val (o := ⟨some 53, _, _, _, _, _⟩) (.pointer (some ⟨b9, 9, none⟩)) rfl (wanted_none rfl _) (exec_fldo 64 1 9 (.tmp 9) (b9) (0) (9) rfl (hE 9 (.pointer (some ⟨b9, 0, none⟩)) (by kernel_rfl) (by kernel_rfl)) (by kernel_rfl) rfl) rfl) ?_
            refine fsteps_cons 7 rfl (fun a u hE hD hk => f_val (o := ⟨some 54, _, _, _, _, _⟩) (.int .i64 e.n) rfl (wanted_none rfl _) (exec_loadi 3 Try.underlying3 (.tmp 53) ⟨b9, 9, none⟩ (.int .i64 e.n) rfl (hD 5 53 (by kernel_rfl)) (range_int (range_kept HC8r.out hk) 9 _ rfl)) rfl) ?_
            refine fsteps_cons 8 rfl (fun a u hE hD hk => f_val (o := ⟨some 55, _, _, _, _, _⟩) (.int .i64 n) rfl (wanted_none rfl _) (exec_move (.tmp 10) (.int .i64 n) rfl (hE 10 (.int .i64 n) (by kernel_rfl) (by kernel_rfl))) rfl) ?_
            refine fsteps_cons 9 rfl (fun a u hE hD hk => f_val (o := ⟨some 56, _, _, _, _, _⟩) (.int .i64 (e.n - n)) rfl (wanted_none rfl _) (exec_subn (e.n - n) rfl (hD 6 54 (by kernel_rfl)) (hD 7 55 (by kernel_rfl)) rfl (by omega) (by omega)) rfl) ?_
            exact fsteps_nil
          intro gv w9 hV k9
          rw [show dstsOf _ 9 = [48, 49, 50, 51, 52, 53, 54, 55, 56] by kernel_rfl]
          simp only [List.foldl_cons, List.foldl_nil, List.setIfInBounds_toArray, List.set_cons_succ, List.set_cons_zero, List.drop_succ_cons, List.drop_zero]
          rw [show gv 52 = .int .i64 (e.o.qty - n) from hV 4 52 (by kernel_rfl)]
          rw [show gv 56 = .int .i64 (e.n - n) from hV 8 56 (by kernel_rfl)]
          clear hV
          refine l_val (o := ⟨some 57, _, _, _, _, _⟩) (.pointer (some ⟨b9, 0, none⟩)) rfl (exec_fldo 64 0 0 (.tmp 9) (b9) (0) (0) rfl (by kernel_rfl) (by kernel_rfl) rfl) ?_
          simp only [Act.put, List.setIfInBounds_toArray, List.set_cons_succ, List.set_cons_zero]
          refine l_val (o := ⟨some 58, _, _, _, _, _⟩) (.pointer (some ⟨b9, 6, none⟩)) rfl (exec_fldo 25 6 6 (.tmp 57) (b9) (0) (6) rfl (by kernel_rfl) (by kernel_rfl) rfl) ?_
          simp only [Act.put, List.setIfInBounds_toArray, List.set_cons_succ, List.set_cons_zero]
          refine l_st1 (o := ⟨none, _, _, _, _, _⟩) 3 b9 6 64 _ (.int .i64 (e.o.qty - n)) (.tmp 58) (.tmp 52) rfl rfl (by kernel_rfl) (by kernel_rfl) (by kernel_rfl) rfl rfl (HC8.out.kept k9) (by rw [Ent.len10]; omega) ?_
          intro w10 hC10 hk10 hs10
          simp only [Act.put]
          refine l_val (o := ⟨some 59, _, _, _, _, _⟩) (.pointer (some ⟨b9, 9, none⟩)) rfl (exec_fldo 64 1 9 (.tmp 9) (b9) (0) (9) rfl (by kernel_rfl) (by kernel_rfl) rfl) ?_
          simp only [Act.put, List.setIfInBounds_toArray, List.set_cons_succ, List.set_cons_zero]
          refine l_st1 (o := ⟨none, _, _, _, _, _⟩) 3 b9 9 64 _ (.int .i64 (e.n - n)) (.tmp 59) (.tmp 56) rfl rfl (by kernel_rfl) (by kernel_rfl) (by kernel_rfl) rfl rfl hC10 (by rw [List.length_set, Ent.len10]; omega) ?_
          intro w11 hC11 hk11 hs11
          simp only [Act.put]
          refine wpList_nil ?_
          have s9 := k9.size
          have HC11 : Hid (Blk w11 b9 64 (e.sub n).cells) := hC11
          have HC11r := Lib.hid (blk_range HC11.out)
          have K11 : Keep (· = b9) w7 w11 := ((Keep.mono (T := (· = b9)) (k8.trans k9) (fun _ _ h => h.elim)).trans hk10 (fun _ _ h => h)).trans hk11 (fun _ _ h => h)
          have hbF : ¬ F' b9 := fun h => by have := HFL.out b9 h; omega
          have HL11 := Lib.hid (HL7.out.keep K11 (fun b hb e => hbF (by rw [← e]; exact hb)))
          have HV11 := Lib.hid (HV7.out.keep K11 (fun b hb e => HO7b.out b hb e))
          have kF11 : Keep F w w11 := kF7.trans K11 (fun b hb e => by subst e; omega)
          have s11 := K11.size
          clear hC10 hC11 hk10 hk11 K11 HC8 HC8r k8 k9 HL7 HV7 kF7
          obtain ⟨h1, h2, v, hB, hS, h5⟩ := HL11.out
          rw [hm] at hS
          obtain ⟨vr, hvr, hor, hsr⟩ := slice_lS slR v m 1 (by omega) _ w11 hS
          have HVR := Lib.hid hvr
          have HSR : Hid (∀ u, Kept w11 u → Sl u 64 10 vr R.length (ents R)) := fun u hk => by
            have := hsr u _ (hS.kept hk)
            rw [show (ents (e :: R)).drop (1 * 10) = ents R from flat_drop Ent.cells 10 Ent.len10 (e :: R) 1, show m - 1 = R.length by omega] at this
            exact this
          have HB11 := Lib.hid hB
          have hRl : R.length ≤ 100000 := by have := HX.out.len; simp at this; omega
          clear h1 h2 hB hS h5 hvr hor hsr
          go_upto_region 10 with fail
          refine wp_text 7 [.emp w11.heap.size 64, .eq (.pointer (some ⟨p, 0, none⟩)), .eq (.pointer (some ⟨p, 0, none⟩)), .eq (.pointer (some ⟨p, 1, none⟩)), .eq (v), .eq (vr), .sl w11.heap.size 64 10 R.length (ents R)] rfl (by kernel_rfl) ?_ ?_
          · refine fsteps_cons 1 rfl (fun a u hE hD hk => f_new (o := ⟨some 60, _, _, _, _, _⟩) (.slice (some ⟨u.heap.size, 0, none⟩) 0 0) _ rfl (wanted_none rfl _) (exec_none 40 64 10 rfl slR.und szR) ⟨_, rfl, hk.size, Blk.new u _ _⟩ ((Keep.refl _ u).alloc _)) ?_
            refine fsteps_cons 2 rfl (fun a u hE hD hk => f_val (o := ⟨some 61, _, _, _, _, _⟩) (.pointer (some ⟨p, 0, none⟩)) rfl (wanted_none rfl _) (exec_move (.tmp 0) (.pointer (some ⟨p, 0, none⟩)) rfl (hE 0 (.pointer (some ⟨p, 0, none⟩)) (by kernel_rfl) (by kernel_rfl))) rfl) ?_
            refine fsteps_cons 3 rfl (fun a u hE hD hk => f_val (o := ⟨some 62, _, _, _, _, _⟩) (.pointer (some ⟨p, 0, none⟩)) rfl (wanted_none rfl _) (exec_nilp (.tmp 61) ⟨p, 0, none⟩ rfl (hD 1 61 (by kernel_rfl))) rfl) ?_
            refine fsteps_cons 4 rfl (fun a u hE hD hk => f_val (o := ⟨some 63, _, _, _, _, _⟩) (.pointer (some ⟨p, 1, none⟩)) rfl (wanted_none rfl _) (exec_fldo 42 1 1 (.tmp 62) (p) (0) (1) rfl (hD 2 62 (by kernel_rfl)) (by kernel_rfl) rfl) rfl) ?_
            refine fsteps_cons 5 rfl (fun a u hE hD hk => f_val (o := ⟨some 64, _, _, _, _, _⟩) (v) rfl (wanted_none rfl _) (exec_ldv 40 _ Try.underlying40 (.tmp 63) ⟨p, 1, none⟩ (v) rfl (hD 3 63 (by kernel_rfl)) (by rw [(HB11.out.kept hk).cell]; rfl)) rfl) ?_
            refine fsteps_cons 6 rfl (fun a u hE hD hk => f_val (o := ⟨some 65, _, _, _, _, _⟩) (vr) rfl (wanted_none rfl _) (exec_slcL slR (.tmp 64) (.const (.int .i64 1)) v vr 1 rfl (hD 4 64 (by kernel_rfl)) rfl (HVR.out u)) rfl) ?_
            refine fsteps_cons 7 rfl (fun a u hE hD hk => (by obtain ⟨v', u', hr, hp, hkk⟩ := run_append_emp slR _ u (a.eval (.tmp 60)) vr R.length w11.heap.size _ ((hD 0 60 (by kernel_rfl))) (HSR.out u hk) (ents_one _) (by omega) (by omega) hk.size; exact f_new (o := ⟨some 66, _, _, _, _, _⟩) v' u' rfl (wanted_none rfl _) (exec_appS slR (.tmp 60) (.tmp 65) _ vr rfl rfl (hD 5 65 (by kernel_rfl)) v' u' hr) hp hkk)) ?_
            exact fsteps_nil
          intro gv w12 hV k12
          rw [show dstsOf _ 7 = [60, 61, 62, 63, 64, 65, 66] by kernel_rfl]
          simp only [List.foldl_cons, List.foldl_nil, List.setIfInBounds_toArray, List.set_cons_succ, List.set_cons_zero, List.drop_succ_cons, List.drop_zero]
          have hv66 : (.sl w11.heap.size 64 10 R.length (ents R) : Kn).p (gv 66) w12 := hV 6 66 (by kernel_rfl)
          generalize gv 66 = v66 at hv66 ⊢
          clear hV
          refine l_val (o := ⟨some 11, _, _, _, _, _⟩) (v66) rfl (exec_assign (.tmp 66) (v66) rfl (by kernel_rfl)) ?_
          simp only [Act.put, List.setIfInBounds_toArray, List.set_cons_succ, List.set_cons_zero]
          refine wpList_nil ?_
          have HRS := Lib.hid hv66.1
          have HRO := Lib.hid hv66.2
          have HC12 := Lib.hid (HC11.out.kept k12)
          have HC12r := Lib.hid (range_kept HC11r.out k12)
          have s12 := k12.size
          clear hv66 HC11 HC11r HVR HSR
          by_cases hc : e.o.qty - n = 0
          · have hnext : nextM e n R = R := by unfold nextM; rw [if_pos hc]
            go_upto_region 12 with fail
            refine wp_text 4 [.eq (.pointer (some ⟨b9, 0, none⟩)), .eq (.pointer (some ⟨b9, 6, none⟩)), .eq (.int .i64 (e.sub n).o.qty), .eq (.bool true)] rfl (by kernel_rfl) ?_ ?_
            · refine fsteps_cons 1 rfl (fun a u hE hD hk => f_val (o := ⟨some 75, _, _, _, _, _⟩) (.pointer (some ⟨b9, 0, none⟩)) rfl (wanted_none rfl _) (exec_fldo 64 0 0 (.tmp 9) (b9) (0) (0) rfl (hE 9 (.pointer (some ⟨b9, 0, none⟩)) (by kernel_rfl) (by kernel_rfl)) (by kernel_rfl) rfl) rfl) ?_
              refine fsteps_cons 2 rfl (fun a u hE hD hk => f_val (o := ⟨some 76, _, _, _, _, _⟩) (.pointer (some ⟨b9, 6, none⟩)) rfl (wanted_none rfl _) (exec_fldo 25 6 6 (.tmp 75) (b9) (0) (6) rfl (hD 0 75 (by kernel_rfl)) (by kernel_rfl) rfl) rfl) ?_
              refine fsteps_cons 3 rfl (fun a u hE hD hk => f_val (o := ⟨some 77, _, _, _, _, _⟩) (.int .i64 (e.sub n).o.qty) rfl (wanted_none rfl _) (exec_loadi 3 Try.underlying3 (.tmp 76) ⟨b9, 6, none⟩ (.int .i64 (e.sub n).o.qty) rfl (hD 1 76 (by kernel_rfl)) (range_int (range_kept HC12r.out hk) 6 _ rfl)) rfl) ?_
              refine fsteps_cons 4 rfl (fun a u hE hD hk => f_as (show ((decide (((e.sub n).o.qty : Int) = (0 : Int))) : Bool) = true from decide_eq_true hc) (f_val (o := ⟨some 78, _, _, _, _, _⟩) (.bool (decide (((e.sub n).o.qty : Int) = (0 : Int)))) rfl (wanted_none rfl _) (exec_eqn (p := (e.sub n).o.qty) (q := 0) rfl (hD 2 77 (by kernel_rfl)) rfl) rfl)) ?_
              exact fsteps_nil
            intro gv w13 hV k13
            rw [show dstsOf _ 4 = [75, 76, 77, 78] by kernel_rfl]
            simp only [List.foldl_cons, List.foldl_nil, List.setIfInBounds_toArray, List.set_cons_succ, List.set_cons_zero, List.drop_succ_cons, List.drop_zero]
            rw [show gv 78 = .bool true from hV 3 78 (by kernel_rfl)]
            clear hV
            refine l_val (o := ⟨some 74, _, _, _, _, _⟩) (.bool true) rfl (exec_assign (.tmp 78) (.bool true) rfl (by kernel_rfl)) ?_
            simp only [Act.put, List.setIfInBounds_toArray, List.set_cons_succ, List.set_cons_zero]
            refine wpList_nil ?_
            clear hc
            go_upto_region 13 with fail
            refine wp_text 4 [.eq (.pointer (some ⟨p, 0, none⟩)), .eq (v66), .eq (.pointer (some ⟨p, 0, none⟩)), .eq (.pointer (some ⟨p, 1, none⟩))] rfl (by kernel_rfl) ?_ ?_
            · refine fsteps_cons 1 rfl (fun a u hE hD hk => f_val (o := ⟨some 79, _, _, _, _, _⟩) (.pointer (some ⟨p, 0, none⟩)) rfl (wanted_none rfl _) (exec_move (.tmp 0) (.pointer (some ⟨p, 0, none⟩)) rfl (hE 0 (.pointer (some ⟨p, 0, none⟩)) (by kernel_rfl) (by kernel_rfl))) rfl) ?_
              refine fsteps_cons 2 rfl (fun a u hE hD hk => f_val (o := ⟨some 80, _, _, _, _, _⟩) (v66) rfl (wanted_none rfl _) (exec_move (.tmp 11) (v66) rfl (hE 11 (v66) (by kernel_rfl) (by kernel_rfl))) rfl) ?_
              refine fsteps_cons 3 rfl (fun a u hE hD hk => f_val (o := ⟨some 81, _, _, _, _, _⟩) (.pointer (some ⟨p, 0, none⟩)) rfl (wanted_none rfl _) (exec_nilp (.tmp 79) ⟨p, 0, none⟩ rfl (hD 0 79 (by kernel_rfl))) rfl) ?_
              refine fsteps_cons 4 rfl (fun a u hE hD hk => f_val (o := ⟨some 82, _, _, _, _, _⟩) (.pointer (some ⟨p, 1, none⟩)) rfl (wanted_none rfl _) (exec_fldo 42 1 1 (.tmp 81) (p) (0) (1) rfl (hD 2 81 (by kernel_rfl)) (by kernel_rfl) rfl) rfl) ?_
              exact fsteps_nil
            intro gv w14 hV k14
            rw [show dstsOf _ 4 = [79, 80, 81, 82] by kernel_rfl]
            simp only [List.foldl_cons, List.foldl_nil, List.setIfInBounds_toArray, List.set_cons_succ, List.set_cons_zero, List.drop_succ_cons, List.drop_zero]
            rw [show gv 82 = .pointer (some ⟨p, 1, none⟩) from hV 3 82 (by kernel_rfl)]
            rw [show gv 80 = v66 from hV 1 80 (by kernel_rfl)]
            clear hV
            have k1114 := (k12.trans k13).trans k14
            refine l_st1 (o := ⟨none, _, _, _, _, _⟩) 40 p 1 42 _ v66 (.tmp 82) (.tmp 80) rfl rfl (by kernel_rfl) (by kernel_rfl) (by kernel_rfl) (sl_cells HRS.out) (sl_onec HRS.out) (HB11.out.kept k1114) (by simp) ?_
            intro w15 hB15 hk15 hs15
            simp only [Act.put]
            refine wpList_nil ?_
            have hpF : F' p := HL11.out.1
            have hpl2 := HFL.out p hpF
            have s14 := k1114.size
            obtain ⟨F2, q1, q2, q3, q4⟩ := HL11.out.renew2 k1114 (Nat.le_refl _) (Y := R) ((HRS.out.kept k13).kept k14) HRO.out (by simpa using hB15) hk15
            have q2' : Grow wr F' F2 := fun b hb => (q4 b hb).imp id (fun h => by omega)
            have hkF9 : Keep F w w15 := Grow.keep HG.out kF11 q3
            have hV9 := (HV11.out.kept k1114).keep hk15 (fun b hb e => (HO7.out b hb).2 (by rw [e]; exact hpF))
            clear hB15 hk15 k1114 k12 k13 k14 q3 HRS HRO
            have HX8 := Lib.hid (next_good HX.out (n := n) (by omega) hmn1.2)
            have HW8 : Hid (((H ++ [Ent.mk e.o n]).length : Int) + wholeM (nextM e n R) ≤ wholeM X) := by
              show _ ≤ _
              have h1 := HW.out
              rw [next_whole, List.length_append]
              rw [wholeM_cons] at h1
              simp only [List.length_cons, List.length_nil]
              omega
            rw [← hnext] at q1
            have HL9 := Lib.hid q1
            have HG9 : Hid (Grow w F F2) := Grow.trans HG.out q2' (by omega)
            have HO9 : Hid (∀ b, v7.ownBlock = some b → w.heap.size ≤ b ∧ ¬ F2 b) := fun b hb => ⟨(HO7.out b hb).1, fun h => by
              rcases q4 b h with h1 | h1
              · exact (HO7.out b hb).2 h1
              · have := HV7L.out b hb; omega⟩
            have HV9 := Lib.hid hV9
            have kF9 := hkF9
            clear q1 q2 q2' q4 hV9 hkF9 HW HX hnext
            go_wp2
            exact ⟨⟨q' - n, H ++ [Ent.mk e.o n], nextM e n R, F2, rfl, by omega, HV9, HO9, HL9, HX8, HG9, kF9, HW8, HD⟩, by simp [intOf]; omega⟩
          · by_cases hd : e.n - n = 0
            · have hnext : nextM e n R = R ++ [Ent.of (e.sub n).o] := by unfold nextM; rw [if_neg hc, if_pos hd]
              go_upto_region 12 with fail
              refine wp_text 4 [.eq (.pointer (some ⟨b9, 0, none⟩)), .eq (.pointer (some ⟨b9, 6, none⟩)), .eq (.int .i64 (e.sub n).o.qty), .eq (.bool false)] rfl (by kernel_rfl) ?_ ?_
              · refine fsteps_cons 1 rfl (fun a u hE hD hk => f_val (o := ⟨some 75, _, _, _, _, _⟩) (.pointer (some ⟨b9, 0, none⟩)) rfl (wanted_none rfl _) (exec_fldo 64 0 0 (.tmp 9) (b9) (0) (0) rfl (hE 9 (.pointer (some ⟨b9, 0, none⟩)) (by kernel_rfl) (by kernel_rfl)) (by kernel_rfl) rfl) rfl) ?_
                refine fsteps_cons 2 rfl (fun a u hE hD hk => f_val (o := ⟨some 76, _, _, _, _, _⟩) (.pointer (some ⟨b9, 6, none⟩)) rfl (wanted_none rfl _) (exec_fldo 25 6 6 (.tmp 75) (b9) (0) (6) rfl (hD 0 75 (by kernel_rfl)) (by kernel_rfl) rfl) rfl) ?_
                refine fsteps_cons 3 rfl (fun a u hE hD hk => f_val (o := ⟨some 77, _, _, _, _, _⟩) (.int .i64 (e.sub n).o.qty) rfl (wanted_none rfl _) (exec_loadi 3 Try.underlying3 (.tmp 76) ⟨b9, 6, none⟩ (.int .i64 (e.sub n).o.qty) rfl (hD 1 76 (by kernel_rfl)) (range_int (range_kept HC12r.out hk) 6 _ rfl)) rfl) ?_
                refine fsteps_cons 4 rfl (fun a u hE hD hk => f_as (show ((decide (((e.sub n).o.qty : Int) = (0 : Int))) : Bool) = false from decide_eq_false hc) (f_val (o := ⟨some 78, _, _, _, _, _⟩) (.bool (decide (((e.sub n).o.qty : Int) = (0 : Int)))) rfl (wanted_none rfl _) (exec_eqn (p := (e.sub n).o.qty) (q := 0) rfl (hD 2 77 (by kernel_rfl)) rfl) rfl)) ?_
                exact fsteps_nil
              intro gv w13 hV k13
              rw [show dstsOf _ 4 = [75, 76, 77, 78] by kernel_rfl]
              simp only [List.foldl_cons, List.foldl_nil, List.setIfInBounds_toArray, List.set_cons_succ, List.set_cons_zero, List.drop_succ_cons, List.drop_zero]
              rw [show gv 78 = .bool false from hV 3 78 (by kernel_rfl)]
              clear hV
              refine l_val (o := ⟨some 74, _, _, _, _, _⟩) (.bool false) rfl (exec_assign (.tmp 78) (.bool false) rfl (by kernel_rfl)) ?_
              simp only [Act.put, List.setIfInBounds_toArray, List.set_cons_succ, List.set_cons_zero]
              refine wpList_nil ?_
              have HC13 := Lib.hid (HC12.out.kept k13)
              have HC13r := Lib.hid (range_kept HC12r.out k13)
              clear hc HC12 HC12r
              go_upto_region 14 with fail
              refine wp_text 3 [.eq (.pointer (some ⟨b9, 9, none⟩)), .eq (.int .i64 (e.sub n).n), .eq (.bool true)] rfl (by kernel_rfl) ?_ ?_
              · refine fsteps_cons 1 rfl (fun a u hE hD hk => f_val (o := ⟨some 84, _, _, _, _, _⟩) (.pointer (some ⟨b9, 9, none⟩)) rfl (wanted_none rfl _) (exec_fldo 64 1 9 (.tmp 9) (b9) (0) (9) rfl (hE 9 (.pointer (some ⟨b9, 0, none⟩)) (by kernel_rfl) (by kernel_rfl)) (by kernel_rfl) rfl) rfl) ?_
                refine fsteps_cons 2 rfl (fun a u hE hD hk => f_val (o := ⟨some 85, _, _, _, _, _⟩) (.int .i64 (e.sub n).n) rfl (wanted_none rfl _) (exec_loadi 3 Try.underlying3 (.tmp 84) ⟨b9, 9, none⟩ (.int .i64 (e.sub n).n) rfl (hD 0 84 (by kernel_rfl)) (range_int (range_kept HC13r.out hk) 9 _ rfl)) rfl) ?_
                refine fsteps_cons 3 rfl (fun a u hE hD hk => f_as (show ((decide (((e.sub n).n : Int) = (0 : Int))) : Bool) = true from decide_eq_true hd) (f_val (o := ⟨some 86, _, _, _, _, _⟩) (.bool (decide (((e.sub n).n : Int) = (0 : Int)))) rfl (wanted_none rfl _) (exec_eqn (p := (e.sub n).n) (q := 0) rfl (hD 1 85 (by kernel_rfl)) rfl) rfl)) ?_
                exact fsteps_nil
              intro gv w14 hV k14
              rw [show dstsOf _ 3 = [84, 85, 86] by kernel_rfl]
              simp only [List.foldl_cons, List.foldl_nil, List.setIfInBounds_toArray, List.set_cons_succ, List.set_cons_zero, List.drop_succ_cons, List.drop_zero]
              rw [show gv 86 = .bool true from hV 2 86 (by kernel_rfl)]
              clear hV
              refine l_val (o := ⟨some 83, _, _, _, _, _⟩) (.bool true) rfl (exec_assign (.tmp 86) (.bool true) rfl (by kernel_rfl)) ?_
              simp only [Act.put, List.setIfInBounds_toArray, List.set_cons_succ, List.set_cons_zero]
              refine wpList_nil ?_
              have k1114 := (k12.trans k13).trans k14
              have HC14 := Lib.hid (HC13.out.kept k14)
              have HC14r := Lib.hid (range_kept HC13r.out k14)
              have HRS14 := Lib.hid (HRS.out.kept (k13.trans k14))
              have s14 := k1114.size
              clear hd HC13 HC13r k12 k13 k14 HRS
              go_upto_region 15 with fail
              refine wp_text 4 [.eq (.pointer (some ⟨b9, 0, none⟩)), .eq ((e.sub n).o.v), .eq (.int .i64 (e.sub n).o.tip), .eq (.pointer (some ⟨b9, 9, none⟩))] rfl (by kernel_rfl) ?_ ?_
              · refine fsteps_cons 1 rfl (fun a u hE hD hk => f_val (o := ⟨some 87, _, _, _, _, _⟩) (.pointer (some ⟨b9, 0, none⟩)) rfl (wanted_none rfl _) (exec_fldo 64 0 0 (.tmp 9) (b9) (0) (0) rfl (hE 9 (.pointer (some ⟨b9, 0, none⟩)) (by kernel_rfl) (by kernel_rfl)) (by kernel_rfl) rfl) rfl) ?_
                refine fsteps_cons 2 rfl (fun a u hE hD hk => f_val (o := ⟨some 88, _, _, _, _, _⟩) ((e.sub n).o.v) rfl (wanted_none rfl _) (exec_ldS 25 _ (.tmp 87) (b9) (0) ((e.sub n).o.cells) rfl (hD 0 87 (by kernel_rfl)) (ent_ord (range_kept HC14r.out hk)) Try.underlying25 (by rw [(e.sub n).o.len9]; exact ord_size)) rfl) ?_
                refine fsteps_cons 3 rfl (fun a u hE hD hk => f_call (o := ⟨some 89, _, _, _, _, _⟩) 33 #[(e.sub n).o.v] rfl (wanted_none rfl _) (exec_call 33 _ [.tmp 88] _ [(e.sub n).o.v] Try.func33 (by kernel_rfl) (by kernel_rfl) rfl (show [a.eval (.tmp 88)] = [(e.sub n).o.v] from (by rw [show a.eval (.tmp 88) = (e.sub n).o.v from (hD 1 88 (by kernel_rfl))] <;> rfl)) u) (tip_any (e.sub n).o u)) ?_
                refine fsteps_cons 4 rfl (fun a u hE hD hk => f_val (o := ⟨some 90, _, _, _, _, _⟩) (.pointer (some ⟨b9, 9, none⟩)) rfl (wanted_none rfl _) (exec_fldo 64 1 9 (.tmp 9) (b9) (0) (9) rfl (hE 9 (.pointer (some ⟨b9, 0, none⟩)) (by kernel_rfl) (by kernel_rfl)) (by kernel_rfl) rfl) rfl) ?_
                exact fsteps_nil
              intro gv w15 hV k15
              rw [show dstsOf _ 4 = [87, 88, 89, 90] by kernel_rfl]
              simp only [List.foldl_cons, List.foldl_nil, List.setIfInBounds_toArray, List.set_cons_succ, List.set_cons_zero, List.drop_succ_cons, List.drop_zero]
              rw [show gv 90 = .pointer (some ⟨b9, 9, none⟩) from hV 3 90 (by kernel_rfl)]
              rw [show gv 89 = .int .i64 (e.sub n).o.tip from hV 2 89 (by kernel_rfl)]
              clear hV
              refine l_st1 (o := ⟨none, _, _, _, _, _⟩) 3 b9 9 64 _ (.int .i64 (e.sub n).o.tip) (.tmp 90) (.tmp 89) rfl rfl (by kernel_rfl) (by kernel_rfl) (by kernel_rfl) rfl rfl (HC14.out.kept k15) (by rw [Ent.len10]; omega) ?_
              intro w16 hC16 hk16 hs16
              simp only [Act.put]
              refine wpList_nil ?_
              have HC16r : Hid (w16.rangeAt b9 0 (Ent.of (e.sub n).o).cells) := blk_range (show Blk w16 b9 _ (Ent.of (e.sub n).o).cells from hC16)
              have K16 : Keep (· = b9) w11 w16 := ((Keep.mono (T := (· = b9)) (k1114.trans k15) (fun _ _ h => h.elim))).trans hk16 (fun _ _ h => h)
              have hpF : F' p := HL11.out.1
              have hpl2 := HFL.out p hpF
              have HL16 := Lib.hid (HL11.out.keep K16 (fun b hb e => hbF (by rw [← e]; exact hb)))
              have HB16 := Lib.hid (HB11.out.keep K16 (by omega))
              have HV16 := Lib.hid (HV11.out.keep K16 (fun b hb e => HO7b.out b hb e))
              have kF16 : Keep F w w16 := kF11.trans K16 (fun b hb e => by subst e; omega)
              have HRS16 := Lib.hid ((HRS14.out.kept k15).keep hk16 (fun b hb e => by have := HRO.out b hb; omega))
              have s16 := K16.size
              obtain ⟨e2, he2⟩ : ∃ e2, Ent.of (e.sub n).o = e2 := ⟨_, rfl⟩
              rw [he2] at HC16r hnext
              clear hC16 hk16 K16 k1114 k15 HC14 HC14r HRS14 HL11 HV11 kF11 HB11 he2
              go_upto_region 16 with fail
              refine wp_text 4 [.eq (.pointer (some ⟨p, 0, none⟩)), .eq (v66), .eq (e2.v), .sl w16.heap.size 64 10 1 e2.cells] rfl (by kernel_rfl) ?_ ?_
              · refine fsteps_cons 1 rfl (fun a u hE hD hk => f_val (o := ⟨some 91, _, _, _, _, _⟩) (.pointer (some ⟨p, 0, none⟩)) rfl (wanted_none rfl _) (exec_move (.tmp 0) (.pointer (some ⟨p, 0, none⟩)) rfl (hE 0 (.pointer (some ⟨p, 0, none⟩)) (by kernel_rfl) (by kernel_rfl))) rfl) ?_
                refine fsteps_cons 2 rfl (fun a u hE hD hk => f_val (o := ⟨some 92, _, _, _, _, _⟩) (v66) rfl (wanted_none rfl _) (exec_move (.tmp 11) (v66) rfl (hE 11 (v66) (by kernel_rfl) (by kernel_rfl))) rfl) ?_
                refine fsteps_cons 3 rfl (fun a u hE hD hk => f_val (o := ⟨some 93, _, _, _, _, _⟩) (e2.v) rfl (wanted_none rfl _) (exec_ldS 64 _ (.tmp 9) (b9) (0) (e2.cells) rfl (hE 9 (.pointer (some ⟨b9, 0, none⟩)) (by kernel_rfl) (by kernel_rfl)) (range_kept HC16r.out hk) Try.underlying64 (by rw [e2.len10]; exact szR)) rfl) ?_
                refine fsteps_cons 4 rfl (fun a u hE hD hk => f_new (o := ⟨some 94, _, _, _, _, _⟩) (.slice (some ⟨u.heap.size, 0, none⟩) 1 1) _ rfl (wanted_none rfl _) (exec_oneS slR (.tmp 93) e2.cells (by omega) rfl (hD 2 93 (by kernel_rfl)) (e2.len10)) (sl_one u 64 10 _ w16.heap.size (e2.len10) (by omega) hk.size) ((Keep.refl _ u).alloc _)) ?_
                exact fsteps_nil
              intro gv w17 hV k17
              rw [show dstsOf _ 4 = [91, 92, 93, 94] by kernel_rfl]
              simp only [List.foldl_cons, List.foldl_nil, List.setIfInBounds_toArray, List.set_cons_succ, List.set_cons_zero, List.drop_succ_cons, List.drop_zero]
              rw [show gv 92 = v66 from hV 1 92 (by kernel_rfl)]
              have hv94 : (.sl w16.heap.size 64 10 1 e2.cells : Kn).p (gv 94) w17 := hV 3 94 (by kernel_rfl)
              generalize gv 94 = v94 at hv94 ⊢
              rw [show gv 91 = .pointer (some ⟨p, 0, none⟩) from hV 0 91 (by kernel_rfl)]
              clear hV
              obtain ⟨v95, w18, hr18, hs18, hk18, ho18⟩ := run_append_sl slR 40 w17 v66 v94 R.length 1 _ _ (HRS16.out.kept k17) hv94.1 (Ent.one _) (by unfold maxLen; omega) (by omega)
              have s17 := k17.size
              have hpn : ¬ v66.ownBlock = some p := fun h => by have := HRO.out p h; omega
              refine l_new (o := ⟨some 95, _, _, _, _, _⟩) v95 w18 rfl (exec_appS slR (.tmp 92) (.tmp 94) v66 v94 rfl (by kernel_rfl) (by kernel_rfl) v95 w18 hr18) ?_
              simp only [Act.put, List.setIfInBounds_toArray, List.set_cons_succ, List.set_cons_zero]
              refine l_val (o := ⟨some 96, _, _, _, _, _⟩) (.pointer (some ⟨p, 0, none⟩)) rfl (exec_nilp (.tmp 91) ⟨p, 0, none⟩ rfl (by kernel_rfl)) ?_
              simp only [Act.put, List.setIfInBounds_toArray, List.set_cons_succ, List.set_cons_zero]
              refine l_val (o := ⟨some 97, _, _, _, _, _⟩) (.pointer (some ⟨p, 1, none⟩)) rfl (exec_fldo 42 1 1 (.tmp 96) (p) (0) (1) rfl (by kernel_rfl) (by kernel_rfl) rfl) ?_
              simp only [Act.put, List.setIfInBounds_toArray, List.set_cons_succ, List.set_cons_zero]
              refine l_st1 (o := ⟨none, _, _, _, _, _⟩) 40 p 1 42 _ v95 (.tmp 97) (.tmp 95) rfl rfl (by kernel_rfl) (by kernel_rfl) (by kernel_rfl) (sl_cells hs18) (sl_onec hs18) ((HB16.out.kept k17).keep hk18 hpn) (by simp) ?_
              intro w19 hB19 hk19 hs19
              simp only [Act.put]
              refine wpList_nil ?_
              have HRL : Hid (∀ b, v66.ownBlock = some b → w11.heap.size ≤ b) := HRO.out
              have K18 : Keep (fun b => w11.heap.size ≤ b) w16 w18 := (Keep.mono (T := fun b => w11.heap.size ≤ b) k17 (fun _ _ h => h.elim)).trans hk18 (fun b _ hb => HRL.out b hb)
              have HL18 := Lib.hid (HL16.out.keep K18 (fun b hb h => by have := HFL.out b hb; omega))
              have HV18 := Lib.hid (HV16.out.keep K18 (fun b hb h => by have := HV7L.out b hb; omega))
              have kF18 : Keep F w w18 := kF16.trans K18 (fun b hb h => by omega)
              obtain ⟨F2, q1, q2, q3, q4⟩ := HL18.out.renew3 (base := w11.heap.size) (Y := R ++ [e2]) (v' := v95) (by omega) (by rw [List.length_append, ents_snoc]; exact hs18) (fun b hb => (ho18 b hb).elim (HRL.out b) (fun h => by omega)) (by simpa using hB19) hk19
              have q2' : Grow wr F' F2 := fun b hb => (q4 b hb).imp id (fun h => by omega)
              have hkF9 : Keep F w w19 := Grow.keep HG.out kF18 q3
              have hV9 := HV18.out.keep hk19 (fun b hb e => (HO7.out b hb).2 (by rw [e]; exact hpF))
              clear hB19 hk19 hs18 hk18 hr18 ho18 k17 K18 q3 HRS16 HRO hv94
              have HX8 := Lib.hid (next_good HX.out (n := n) (by omega) hmn1.2)
              have HW8 : Hid (((H ++ [Ent.mk e.o n]).length : Int) + wholeM (nextM e n R) ≤ wholeM X) := by
                show _ ≤ _
                have h1 := HW.out
                rw [next_whole, List.length_append]
                rw [wholeM_cons] at h1
                simp only [List.length_cons, List.length_nil]
                omega
              rw [← hnext] at q1
              have HL9 := Lib.hid q1
              have HG9 : Hid (Grow w F F2) := Grow.trans HG.out q2' (by omega)
              have HO9 : Hid (∀ b, v7.ownBlock = some b → w.heap.size ≤ b ∧ ¬ F2 b) := fun b hb => ⟨(HO7.out b hb).1, fun h => by
                rcases q4 b h with h1 | h1
                · exact (HO7.out b hb).2 h1
                · have := HV7L.out b hb; omega⟩
              have HV9 := Lib.hid hV9
              have kF9 := hkF9
              clear q1 q2 q2' q4 hV9 hkF9 HW HX hnext
              go_wp2
              exact ⟨⟨q' - n, H ++ [Ent.mk e.o n], nextM e n R, F2, rfl, by omega, HV9, HO9, HL9, HX8, HG9, kF9, HW8, HD⟩, by simp [intOf]; omega⟩
            · have hnext : nextM e n R = e.sub n :: R := by unfold nextM; rw [if_neg hc, if_neg hd]
              go_upto_region 12 with fail
              refine wp_text 4 [.eq (.pointer (some ⟨b9, 0, none⟩)), .eq (.pointer (some ⟨b9, 6, none⟩)), .eq (.int .i64 (e.sub n).o.qty), .eq (.bool false)] rfl (by kernel_rfl) ?_ ?_
              · refine fsteps_cons 1 rfl (fun a u hE hD hk => f_val (o := ⟨some 75, _, _, _, _, _⟩) (.pointer (some ⟨b9, 0, none⟩)) rfl (wanted_none rfl _) (exec_fldo 64 0 0 (.tmp 9) (b9) (0) (0) rfl (hE 9 (.pointer (some ⟨b9, 0, none⟩)) (by kernel_rfl) (by kernel_rfl)) (by kernel_rfl) rfl) rfl) ?_
                refine fsteps_cons 2 rfl (fun a u hE hD hk => f_val (o := ⟨some 76, _, _, _, _, _⟩) (.pointer (some ⟨b9, 6, none⟩)) rfl (wanted_none rfl _) (exec_fldo 25 6 6 (.tmp 75) (b9) (0) (6) rfl (hD 0 75 (by kernel_rfl)) (by kernel_rfl) rfl) rfl) ?_
                refine fsteps_cons 3 rfl (fun a u hE hD hk => f_val (o := ⟨some 77, _, _, _, _, _⟩) (.int .i64 (e.sub n).o.qty) rfl (wanted_none rfl _) (exec_loadi 3 Try.underlying3 (.tmp 76) ⟨b9, 6, none⟩ (.int .i64 (e.sub n).o.qty) rfl (hD 1 76 (by kernel_rfl)) (range_int (range_kept HC12r.out hk) 6 _ rfl)) rfl) ?_
                refine fsteps_cons 4 rfl (fun a u hE hD hk => f_as (show ((decide (((e.sub n).o.qty : Int) = (0 : Int))) : Bool) = false from decide_eq_false hc) (f_val (o := ⟨some 78, _, _, _, _, _⟩) (.bool (decide (((e.sub n).o.qty : Int) = (0 : Int)))) rfl (wanted_none rfl _) (exec_eqn (p := (e.sub n).o.qty) (q := 0) rfl (hD 2 77 (by kernel_rfl)) rfl) rfl)) ?_
                exact fsteps_nil
              intro gv w13 hV k13
              rw [show dstsOf _ 4 = [75, 76, 77, 78] by kernel_rfl]
              simp only [List.foldl_cons, List.foldl_nil, List.setIfInBounds_toArray, List.set_cons_succ, List.set_cons_zero, List.drop_succ_cons, List.drop_zero]
              rw [show gv 78 = .bool false from hV 3 78 (by kernel_rfl)]
              clear hV
              refine l_val (o := ⟨some 74, _, _, _, _, _⟩) (.bool false) rfl (exec_assign (.tmp 78) (.bool false) rfl (by kernel_rfl)) ?_
              simp only [Act.put, List.setIfInBounds_toArray, List.set_cons_succ, List.set_cons_zero]
              refine wpList_nil ?_
              have HC13r := Lib.hid (range_kept HC12r.out k13)
              clear hc HC12 HC12r
              go_upto_region 14 with fail
              refine wp_text 3 [.eq (.pointer (some ⟨b9, 9, none⟩)), .eq (.int .i64 (e.sub n).n), .eq (.bool false)] rfl (by kernel_rfl) ?_ ?_
              · refine fsteps_cons 1 rfl (fun a u hE hD hk => f_val (o := ⟨some 84, _, _, _, _, _⟩) (.pointer (some ⟨b9, 9, none⟩)) rfl (wanted_none rfl _) (exec_fldo 64 1 9 (.tmp 9) (b9) (0) (9) rfl (hE 9 (.pointer (some ⟨b9, 0, none⟩)) (by kernel_rfl) (by kernel_rfl)) (by kernel_rfl) rfl) rfl) ?_
                refine fsteps_cons 2 rfl (fun a u hE hD hk => f_val (o := ⟨some 85, _, _, _, _, _⟩) (.int .i64 (e.sub n).n) rfl (wanted_none rfl _) (exec_loadi 3 Try.underlying3 (.tmp 84) ⟨b9, 9, none⟩ (.int .i64 (e.sub n).n) rfl (hD 0 84 (by kernel_rfl)) (range_int (range_kept HC13r.out hk) 9 _ rfl)) rfl) ?_
                refine fsteps_cons 3 rfl (fun a u hE hD hk => f_as (show ((decide (((e.sub n).n : Int) = (0 : Int))) : Bool) = false from decide_eq_false hd) (f_val (o := ⟨some 86, _, _, _, _, _⟩) (.bool (decide (((e.sub n).n : Int) = (0 : Int)))) rfl (wanted_none rfl _) (exec_eqn (p := (e.sub n).n) (q := 0) rfl (hD 1 85 (by kernel_rfl)) rfl) rfl)) ?_
                exact fsteps_nil
              intro gv w14 hV k14
              rw [show dstsOf _ 3 = [84, 85, 86] by kernel_rfl]
              simp only [List.foldl_cons, List.foldl_nil, List.setIfInBounds_toArray, List.set_cons_succ, List.set_cons_zero, List.drop_succ_cons, List.drop_zero]
              rw [show gv 86 = .bool false from hV 2 86 (by kernel_rfl)]
              clear hV
              refine l_val (o := ⟨some 83, _, _, _, _, _⟩) (.bool false) rfl (exec_assign (.tmp 86) (.bool false) rfl (by kernel_rfl)) ?_
              simp only [Act.put, List.setIfInBounds_toArray, List.set_cons_succ, List.set_cons_zero]
              refine wpList_nil ?_
              have k1114 := (k12.trans k13).trans k14
              have HC14r := Lib.hid (range_kept HC13r.out k14)
              have HRS14 := Lib.hid (HRS.out.kept (k13.trans k14))
              have s14 := k1114.size
              have HB14 := Lib.hid (HB11.out.kept k1114)
              have HL14 := Lib.hid (HL11.out.kept k1114)
              have HV14 := Lib.hid (HV11.out.kept k1114)
              have kF14 := kF11.kept k1114
              have hpF : F' p := HL11.out.1
              have hpl2 := HFL.out p hpF
              obtain ⟨e2, he2⟩ : ∃ e2, e.sub n = e2 := ⟨_, rfl⟩
              rw [he2] at HC14r hnext
              clear hd HC13r k12 k13 k14 HRS k1114 HB11 HL11 HV11 kF11 he2
              go_upto_region 11 with fail
              refine wp_text 4 [.eq (.pointer (some ⟨p, 0, none⟩)), .eq (e2.v), .sl w14.heap.size 64 10 1 e2.cells, .eq (v66)] rfl (by kernel_rfl) ?_ ?_
              · refine fsteps_cons 1 rfl (fun a u hE hD hk => f_val (o := ⟨some 67, _, _, _, _, _⟩) (.pointer (some ⟨p, 0, none⟩)) rfl (wanted_none rfl _) (exec_move (.tmp 0) (.pointer (some ⟨p, 0, none⟩)) rfl (hE 0 (.pointer (some ⟨p, 0, none⟩)) (by kernel_rfl) (by kernel_rfl))) rfl) ?_
                refine fsteps_cons 2 rfl (fun a u hE hD hk => f_val (o := ⟨some 68, _, _, _, _, _⟩) (e2.v) rfl (wanted_none rfl _) (exec_ldS 64 _ (.tmp 9) (b9) (0) (e2.cells) rfl (hE 9 (.pointer (some ⟨b9, 0, none⟩)) (by kernel_rfl) (by kernel_rfl)) (range_kept HC14r.out hk) Try.underlying64 (by rw [e2.len10]; exact szR)) rfl) ?_
                refine fsteps_cons 3 rfl (fun a u hE hD hk => f_new (o := ⟨some 69, _, _, _, _, _⟩) (.slice (some ⟨u.heap.size, 0, none⟩) 1 1) _ rfl (wanted_none rfl _) (exec_oneS slR (.tmp 68) e2.cells (by omega) rfl (hD 1 68 (by kernel_rfl)) (e2.len10)) (sl_one u 64 10 _ w14.heap.size (e2.len10) (by omega) hk.size) ((Keep.refl _ u).alloc _)) ?_
                refine fsteps_cons 4 rfl (fun a u hE hD hk => f_val (o := ⟨some 70, _, _, _, _, _⟩) (v66) rfl (wanted_none rfl _) (exec_move (.tmp 11) (v66) rfl (hE 11 (v66) (by kernel_rfl) (by kernel_rfl))) rfl) ?_
                exact fsteps_nil
              intro gv w17 hV k17
              rw [show dstsOf _ 4 = [67, 68, 69, 70] by kernel_rfl]
              simp only [List.foldl_cons, List.foldl_nil, List.setIfInBounds_toArray, List.set_cons_succ, List.set_cons_zero, List.drop_succ_cons, List.drop_zero]
              have hv69 : (.sl w14.heap.size 64 10 1 e2.cells : Kn).p (gv 69) w17 := hV 2 69 (by kernel_rfl)
              generalize gv 69 = v69 at hv69 ⊢
              rw [show gv 70 = v66 from hV 3 70 (by kernel_rfl)]
              rw [show gv 67 = .pointer (some ⟨p, 0, none⟩) from hV 0 67 (by kernel_rfl)]
              clear hV
              obtain ⟨v71, w18, hr18, hs18, hk18, ho18⟩ := run_append_sl slR 40 w17 v69 v66 1 R.length _ _ hv69.1 (HRS14.out.kept k17) (ents_one _) (by unfold maxLen; omega) (by omega)
              have s17 := k17.size
              have hpn : ¬ v69.ownBlock = some p := fun h => by have := hv69.2 p h; omega
              refine l_new (o := ⟨some 71, _, _, _, _, _⟩) v71 w18 rfl (exec_appS slR (.tmp 69) (.tmp 70) v69 v66 rfl (by kernel_rfl) (by kernel_rfl) v71 w18 hr18) ?_
              simp only [Act.put, List.setIfInBounds_toArray, List.set_cons_succ, List.set_cons_zero]
              refine l_val (o := ⟨some 72, _, _, _, _, _⟩) (.pointer (some ⟨p, 0, none⟩)) rfl (exec_nilp (.tmp 67) ⟨p, 0, none⟩ rfl (by kernel_rfl)) ?_
              simp only [Act.put, List.setIfInBounds_toArray, List.set_cons_succ, List.set_cons_zero]
              refine l_val (o := ⟨some 73, _, _, _, _, _⟩) (.pointer (some ⟨p, 1, none⟩)) rfl (exec_fldo 42 1 1 (.tmp 72) (p) (0) (1) rfl (by kernel_rfl) (by kernel_rfl) rfl) ?_
              simp only [Act.put, List.setIfInBounds_toArray, List.set_cons_succ, List.set_cons_zero]
              refine l_st1 (o := ⟨none, _, _, _, _, _⟩) 40 p 1 42 _ v71 (.tmp 73) (.tmp 71) rfl rfl (by kernel_rfl) (by kernel_rfl) (by kernel_rfl) (sl_cells hs18) (sl_onec hs18) ((HB14.out.kept k17).keep hk18 hpn) (by simp) ?_
              intro w19 hB19 hk19 hs19
              simp only [Act.put]
              refine wpList_nil ?_
              have HRL : Hid (∀ b, v69.ownBlock = some b → w14.heap.size ≤ b) := hv69.2
              have K18 : Keep (fun b => w11.heap.size ≤ b) w14 w18 := (Keep.mono (T := fun b => w11.heap.size ≤ b) k17 (fun _ _ h => h.elim)).trans hk18 (fun b _ hb => by have := HRL.out b hb; omega)
              have HL18 := Lib.hid (HL14.out.keep K18 (fun b hb h => by have := HFL.out b hb; omega))
              have HV18 := Lib.hid (HV14.out.keep K18 (fun b hb h => by have := HV7L.out b hb; omega))
              have kF18 : Keep F w w18 := kF14.trans K18 (fun b hb h => by omega)
              obtain ⟨F2, q1, q2, q3, q4⟩ := HL18.out.renew3 (base := w11.heap.size) (Y := e2 :: R) (v' := v71) (by omega) (by rw [List.length_cons, Nat.add_comm, show ents (e2 :: R) = e2.cells ++ ents R from List.flatMap_cons]; exact hs18) (fun b hb => (ho18 b hb).elim (fun h => by have := HRL.out b h; omega) (fun h => by omega)) (by simpa using hB19) hk19
              have q2' : Grow wr F' F2 := fun b hb => (q4 b hb).imp id (fun h => by omega)
              have hkF9 : Keep F w w19 := Grow.keep HG.out kF18 q3
              have hV9 := HV18.out.keep hk19 (fun b hb e => (HO7.out b hb).2 (by rw [e]; exact hpF))
              clear hB19 hk19 hs18 hk18 hr18 ho18 k17 K18 q3 HRS14 HRO hv69
              have HX8 := Lib.hid (next_good HX.out (n := n) (by omega) hmn1.2)
              have HW8 : Hid (((H ++ [Ent.mk e.o n]).length : Int) + wholeM (nextM e n R) ≤ wholeM X) := by
                show _ ≤ _
                have h1 := HW.out
                rw [next_whole, List.length_append]
                rw [wholeM_cons] at h1
                simp only [List.length_cons, List.length_nil]
                omega
              rw [← hnext] at q1
              have HL9 := Lib.hid q1
              have HG9 : Hid (Grow w F F2) := Grow.trans HG.out q2' (by omega)
              have HO9 : Hid (∀ b, v7.ownBlock = some b → w.heap.size ≤ b ∧ ¬ F2 b) := fun b hb => ⟨(HO7.out b hb).1, fun h => by
                rcases q4 b h with h1 | h1
                · exact (HO7.out b hb).2 h1
                · have := HV7L.out b hb; omega⟩
              have HV9 := Lib.hid hV9
              have kF9 := hkF9
              clear q1 q2 q2' q4 hV9 hkF9 HW HX hnext
              go_wp2
              exact ⟨⟨q' - n, H ++ [Ent.mk e.o n], nextM e n R, F2, rfl, by omega, HV9, HO9, HL9, HX8, HG9, kF9, HW8, HD⟩, by simp [intOf]; omega⟩
    · skip
      obtain ⟨h1, h2, v, hB, hS, h5⟩ := HL.out
      obtain ⟨m, hm⟩ : ∃ m, X'.length = m := ⟨_, rfl⟩
      rw [hm] at hS
      have HB := Lib.hid hB
      have HS := Lib.hid hS
      have hpl := h2 p h1
      clear hB hS h1 h2 h5
      have HD := Lib.hid (take_done (t := takeM firm q X) HT.out (takeM_zero firm q' X' (by omega)))
      clear HT
      go_upto_region 2 with fail
      refine wp_text 10 [.eq (.int .i64 q'), .eq (.bool false), .eq (.bool false), .eq undef, .eq undef, .eq undef, .eq undef, .eq undef, .eq undef, .eq (.bool false)] rfl (by kernel_rfl) ?_ ?_
      · refine fsteps_cons 1 rfl (fun a u hE hD hk => f_val (o := ⟨some 12, _, _, _, _, _⟩) (.int .i64 q') rfl (wanted_none rfl _) (exec_move (.tmp 2) (.int .i64 q') rfl (hE 2 (.int .i64 q') (by kernel_rfl) (by kernel_rfl))) rfl) ?_
        refine fsteps_cons 2 rfl (fun a u hE hD hk => f_as (show ((decide ((0 : Int) < (q' : Int))) : Bool) = false from decide_eq_false hq0) (f_val (o := ⟨some 13, _, _, _, _, _⟩) (.bool (decide ((0 : Int) < (q' : Int)))) rfl (wanted_none rfl _) (exec_gtn (p := (q')) (q := 0) rfl (hD 0 12 (by kernel_rfl)) rfl) rfl)) ?_
        refine fsteps_cons 3 rfl (fun a u hE hD hk => f_val (o := ⟨some 14, _, _, _, _, _⟩) (.bool false) rfl (wanted_none rfl _) (exec_move (.tmp 13) (.bool false) rfl (hD 1 13 (by kernel_rfl))) rfl) ?_
        refine fsteps_cons 4 rfl (fun a u hE hD hk => f_skip (o := ⟨some 15, _, _, _, _, _⟩) rfl (wanted_at (b := true) false rfl rfl (hD 2 14 (by kernel_rfl))) rfl) ?_
        refine fsteps_cons 5 rfl (fun a u hE hD hk => f_skip (o := ⟨some 16, _, _, _, _, _⟩) rfl (wanted_at (b := true) false rfl rfl (hD 2 14 (by kernel_rfl))) rfl) ?_
        refine fsteps_cons 6 rfl (fun a u hE hD hk => f_skip (o := ⟨some 17, _, _, _, _, _⟩) rfl (wanted_at (b := true) false rfl rfl (hD 2 14 (by kernel_rfl))) rfl) ?_
        refine fsteps_cons 7 rfl (fun a u hE hD hk => f_skip (o := ⟨some 18, _, _, _, _, _⟩) rfl (wanted_at (b := true) false rfl rfl (hD 2 14 (by kernel_rfl))) rfl) ?_
        refine fsteps_cons 8 rfl (fun a u hE hD hk => f_skip (o := ⟨some 19, _, _, _, _, _⟩) rfl (wanted_at (b := true) false rfl rfl (hD 2 14 (by kernel_rfl))) rfl) ?_
        refine fsteps_cons 9 rfl (fun a u hE hD hk => f_skip (o := ⟨some 20, _, _, _, _, _⟩) rfl (wanted_at (b := true) false rfl rfl (hD 2 14 (by kernel_rfl))) rfl) ?_
        refine fsteps_cons 10 rfl (fun a u hE hD hk => f_val (o := ⟨some 21, _, _, _, _, _⟩) (.bool false) rfl (wanted_none rfl _) (exec_pickF (.tmp 14) (.tmp 20) (.const (.bool false)) (.bool false) rfl (hD 2 14 (by kernel_rfl)) rfl) rfl) ?_
        exact fsteps_nil
      intro gv w1 hV k1
      rw [show dstsOf _ 10 = [12, 13, 14, 15, 16, 17, 18, 19, 20, 21] by kernel_rfl]
      simp only [List.foldl_cons, List.foldl_nil, List.setIfInBounds_toArray, List.set_cons_succ, List.set_cons_zero, List.drop_succ_cons, List.drop_zero]
      rw [show gv 21 = .bool false from hV 9 21 (by kernel_rfl)]
      clear hV
      refine wpList_nil ?_
      have kF1 := hkF.kept k1
      have s1 := k1.size
      go_wp2
      go_ret2
      refine ⟨F', v8, ?_, ?_, ?_, HO.out, HG.out, kF1⟩
      · rw [HD.out]; rfl
      · rw [HD.out]; exact HL.out.kept k1
      · rw [HD.out]; exact HV.out.kept k1
end Go.Proofs.Ytlbkehpdohihlaa
