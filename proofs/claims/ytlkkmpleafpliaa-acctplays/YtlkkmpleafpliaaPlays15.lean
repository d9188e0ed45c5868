/-
  AcctPlays: any calls: each answer, what is open, the positions are the document's own; it answers true. Condition: the asks as the arguments hold them.
-/
import Derived.Test.YtlkkmpleafpliaaRuns15
import Derived.Test.YtlkkmpleafpliaaAcD
import Derived.Test.YtlkkmpleafpliaaFreeV
import Derived.Test.YtlkkmpleafpliaaSame6
namespace Go.Proofs.Ytlkkmpleafpliaa
open Go.RowKit
set_option linter.unusedVariables false
set_option maxRecDepth 100000

theorem ropens_at {g : Nat} {B B' : Bal} {L : Nat → Int} {n i q : Int} {b : Bool} {w : World} (hB : Blk w g 39 (B.rc L)) (hO : B.Ok) (h1 : opB B n i q = b) (h2 : opM B n i q = B') : Calls Try.prog 13 #[.pointer (some ⟨g, 0, none⟩), .int .i64 n, .int .i64 i, .int .i64 q] w fun e w' => e = .returned (.bool b) ∧ Blk w' g 39 (B'.rc L) ∧ Keep (· = g) w w' := by
  rw [← h1, ← h2]
  exact ropens_any g B L hO n i q w hB
theorem rtrades_at {g : Nat} {B B' : Bal} {L : Nat → Int} {n i s q : Int} {b : Bool} {w : World} (hB : Blk w g 39 (B.rc L)) (hO : B.Ok) (h1 : trB B n i s q = b) (h2 : trM B n i s q = B') : Calls Try.prog 14 #[.pointer (some ⟨g, 0, none⟩), .int .i64 n, .int .i64 i, .int .i64 s, .int .i64 q] w fun e w' => e = .returned (.bool b) ∧ Blk w' g 39 (B'.rc L) ∧ Keep (· = g) w w' := by
  rw [← h1, ← h2]
  exact rtrades_any g B L hO n i s q w hB
theorem rall_at {g : Nat} {B : Bal} {L : Nat → Int} {n V : Int} {w : World} (hB : Blk w g 39 (B.rc L)) (hO : B.Ok) (h : B.all n = V) : Gives 15 #[.pointer (some ⟨g, 0, none⟩), .int .i64 n] w (.eq (.int .i64 V)) := by
  rw [← h]
  exact ropen_any g B L hO n w hB
theorem rpos_at {g : Nat} {B : Bal} {L : Nat → Int} {n i V : Int} {w : World} (hB : Blk w g 39 (B.rc L)) (h : B.pAt n i = V) : Gives 16 #[.pointer (some ⟨g, 0, none⟩), .int .i64 n, .int .i64 i] w (.eq (.int .i64 V)) := by
  rw [← h]
  exact rpos_any g B L n i w hB
set_option maxRecDepth 100000 in
set_option maxHeartbeats 3200000 in
theorem acctPlays_any (v : Value) (l : List Bq) (w : World) (hl : Bqs w v l) : Calls Try.prog 4 #[v] w fun e w' => e = .returned (.bool true) ∧ Kept w w' := by
  have HA := Lib.hid hl
  obtain ⟨A, n, c, rfl, hn, hm⟩ : ∃ A n c, v = .slice A n c ∧ l.length = n ∧ n ≤ maxLen := by
    obtain ⟨A, n, c, h1, h2, _, h3, _⟩ := hl
    exact ⟨A, n, c, h1, h2, h3⟩
  clear hl
  unfold maxLen at hm
  have HN := Lib.hid hn
  clear hn
  obtain ⟨cs, hcs⟩ : ∃ cs, (zeroB.rc fun _ => 0) = cs := ⟨_, rfl⟩
  have HZ := Lib.hid hcs
  clear hcs
  go_enter Try.func4, Try.ntmps4
  go_upto_region 1 with fail
  refine wp_region_lit ?_
  refine l_call (o := ⟨some 9, _, _, _, _, _⟩) 8 #[] rfl (exec_call 8 _ [] _ _ Try.func8 (by kernel_rfl) (by kernel_rfl) rfl (by kernel_rfl) _) ?_
  refine (new_any w.heap.size w (Nat.le_refl _)).mono ?_
  rintro e w1 ⟨v1, rfl, ⟨g, rfl, hg, hB⟩, k1⟩
  refine ⟨_, rfl, ?_⟩
  simp only [Act.put, List.setIfInBounds_toArray, List.set_cons_succ, List.set_cons_zero]
  refine l_val (o := ⟨some 10, _, _, _, _, _⟩) (.agg cs.toArray) rfl (by rw [← HZ.out]; exact exec_build 39 [] (zeroB.rc fun _ => 0) rfl (by kernel_rfl)) ?_
  simp only [Act.put, List.setIfInBounds_toArray, List.set_cons_succ, List.set_cons_zero]
  refine l_new (o := ⟨some 11, _, _, _, _, _⟩) (.pointer (some ⟨w1.heap.size, 0, none⟩)) (w1.alloc (.cells cs.toArray 39)) rfl (exec_box 39 (.tmp 10) cs rfl (by kernel_rfl)) ?_
  have hN := Blk.new w1 39 cs
  have kn : Kept w1 (w1.alloc (.cells cs.toArray 39)) := (Keep.refl _ w1).alloc _
  generalize w1.alloc (.cells cs.toArray 39) = w2 at hN kn ⊢
  simp only [Act.put, List.setIfInBounds_toArray, List.set_cons_succ, List.set_cons_zero]
  refine l_val (o := ⟨some 3, _, _, _, _, _⟩) (.pointer (some ⟨g, 0, none⟩)) rfl (exec_assign (.tmp 9) (.pointer (some ⟨g, 0, none⟩)) rfl (by kernel_rfl)) ?_
  simp only [Act.put, List.setIfInBounds_toArray, List.set_cons_succ, List.set_cons_zero]
  refine l_val (o := ⟨some 4, _, _, _, _, _⟩) (.pointer (some ⟨w1.heap.size, 0, none⟩)) rfl (exec_assign (.tmp 11) (.pointer (some ⟨w1.heap.size, 0, none⟩)) rfl (by kernel_rfl)) ?_
  simp only [Act.put, List.setIfInBounds_toArray, List.set_cons_succ, List.set_cons_zero]
  refine wpList_nil ?_
  obtain ⟨r, hr⟩ : ∃ b, w1.heap.size = b := ⟨_, rfl⟩
  have zg := hB.lt
  have z1 := k1.size
  rw [hr] at hN zg z1 ⊢
  have HB2 := Lib.hid (hB.kept kn)
  rw [← HZ.out] at hN
  obtain ⟨L, hL⟩ : ∃ L : Nat → Int, (fun _ => 0) = L := ⟨_, rfl⟩
  rw [hL] at hN
  have HR2 := Lib.hid hN
  have kw2 := k1.trans kn
  clear hB hN k1 kn HZ hL hr
  go_upto_region 2 with fail
  refine wp_text 2 [.eq (.pointer (some ⟨g, 0, none⟩)), .eq (.bool false)] rfl (by kernel_rfl) ?_ ?_
  · refine sv 1 rfl rfl rfl (fun a u hE hD hk => exec_move (.tmp 3) _ rfl (hE 3 (.pointer (some ⟨g, 0, none⟩)) (by kernel_rfl) (by kernel_rfl))) ?_
    refine sv 2 rfl rfl rfl (fun a u hE hD hk => exec_eqP (.tmp 12) _ _ ⟨g, 0, none⟩ (by kernel_rfl) rfl (hD 0 12 (by kernel_rfl))) ?_
    exact fsteps_nil
  intro gv w3 hV k3
  rw [show dstsOf _ 2 = [12, 13] by kernel_rfl]
  simp only [List.foldl_cons, List.foldl_nil, List.setIfInBounds_toArray, List.set_cons_succ, List.set_cons_zero, List.drop_succ_cons, List.drop_zero]
  rw [show gv 13 = .bool false from hV 1 13 (by kernel_rfl)]
  clear hV
  refine wpList_nil ?_
  have HB3 := Lib.hid (HB2.out.kept k3)
  have HR3 := Lib.hid (HR2.out.kept k3)
  have kw3 := kw2.trans k3
  have HO3 := Lib.hid ok_zero
  clear HB2 HR2 kw2 k3
  generalize zeroB = B0 at HB3 HR3 HO3
  go_wp2_with fail
  go_loopw [5] (fun t wr => ∃ (k : Nat) (B : Bal), t = .int .i64 (k : Int) ∧ k ≤ 60 ∧ k ≤ n ∧ Hid (Blk wr g 49 B.lc) ∧ Hid (Blk wr r 39 (B.rc L)) ∧ Hid B.Ok ∧ Kept w wr) (fun t _ => 60 - (intOf t).toNat)
  case atStart => exact ⟨0, B0, rfl, by omega, by omega, HB3, HR3, HO3, kw3⟩
  case round =>
    obtain ⟨k, B, rfl, hk60, hkn, HBr, HRr, HI, kwr⟩ := hrel
    clear HB3 HR3 HO3 kw3
    by_cases hlt : k < n ∧ k < 60
    · obtain ⟨hin', hk6⟩ := hlt
      have hil : k < l.length := by rw [HN.out]; exact hin'
      obtain ⟨q, hq⟩ : ∃ q, l[k]? = some q := ⟨_, List.getElem?_eq_getElem hil⟩
      obtain ⟨A', n', c', e1, _, _, _, h4⟩ := HA.out
      injection e1 with e1 e2 e3
      subst e1 e2 e3
      obtain ⟨ga, off, rfl, hr⟩ := h4 k q hq
      have HE := Lib.hid (range_kept hr kwr)
      clear h4 hr hq hil
      go_upto_region 5 with fail
      refine wp_text 8 [.eq (.int .i64 (k : Int)), .eq (.slice (some ⟨ga, off, none⟩) n c), .eq (.int .i64 (n : Int)), .eq (.bool true), .eq (.bool true), .eq (.int .i64 (k : Int)), .eq (.bool true), .eq (.bool true)] rfl (by kernel_rfl) ?_ ?_
      · refine sv 1 rfl rfl rfl (fun a u hE hD hk => exec_move (.tmp 5) _ rfl (hE 5 (.int .i64 (k : Int)) (by kernel_rfl) (by kernel_rfl))) ?_
        refine sv 2 rfl rfl rfl (fun a u hE hD hk => exec_move (.tmp 0) _ rfl (hE 0 (.slice (some ⟨ga, off, none⟩) n c) (by kernel_rfl) (by kernel_rfl))) ?_
        refine sv 3 rfl rfl rfl (fun a u hE hD hk => exec_len (.tmp 15) _ _ slBq.und (some ⟨ga, off, none⟩) n c rfl (hD 1 15 (by kernel_rfl))) ?_
        refine fsteps_cons 4 rfl (fun a u hE hD hk => f_as (show ((decide (((k : Int) : Int) < ((n : Int) : Int))) : Bool) = true from decide_eq_true (by omega)) (f_val (o := ⟨some 17, _, _, _, _, _⟩) (.bool (decide (((k : Int) : Int) < ((n : Int) : Int)))) rfl (wanted_none rfl _) (exec_ltn (p := (k : Int)) (q := (n : Int)) rfl (hD 0 14 (by kernel_rfl)) (hD 2 16 (by kernel_rfl))) rfl)) ?_
        refine sv 5 rfl rfl rfl (fun a u hE hD hk => exec_move (.tmp 17) _ rfl (hD 3 17 (by kernel_rfl))) ?_
        refine fsteps_cons 6 rfl (fun a u hE hD hk => f_val (o := ⟨some 19, _, _, _, _, _⟩) (.int .i64 (k : Int)) rfl (wanted_at (b := true) true rfl rfl (hD 4 18 (by kernel_rfl))) (exec_move (.tmp 5) _ rfl (hE 5 (.int .i64 (k : Int)) (by kernel_rfl) (by kernel_rfl))) rfl) ?_
        refine fsteps_cons 7 rfl (fun a u hE hD hk => f_as (show ((decide (((k : Int) : Int) < (60 : Int))) : Bool) = true from decide_eq_true (by omega)) (f_val (o := ⟨some 20, _, _, _, _, _⟩) (.bool (decide (((k : Int) : Int) < (60 : Int)))) rfl (wanted_at (b := true) true rfl rfl (hD 4 18 (by kernel_rfl))) (exec_ltn (p := (k : Int)) (q := 60) rfl (hD 5 19 (by kernel_rfl)) rfl) rfl)) ?_
        refine sv 8 rfl rfl rfl (fun a u hE hD hk => exec_pick (.tmp 18) (.tmp 20) (.const (.bool false)) (.bool true) rfl (hD 4 18 (by kernel_rfl)) (hD 6 20 (by kernel_rfl))) ?_
        exact fsteps_nil
      intro gv w4 hV k4
      rw [show dstsOf _ 8 = [14, 15, 16, 17, 18, 19, 20, 21] by kernel_rfl]
      simp only [List.foldl_cons, List.foldl_nil, List.setIfInBounds_toArray, List.set_cons_succ, List.set_cons_zero, List.drop_succ_cons, List.drop_zero]
      rw [show gv 21 = .bool true from hV 7 21 (by kernel_rfl)]
      clear hV
      refine wpList_nil ?_
      have HE4 := Lib.hid (range_kept HE.out k4)
      clear HE
      go_upto_region 7 with fail
      refine wp_text 5 [.eq (.slice (some ⟨ga, off, none⟩) n c), .eq (.int .i64 (k : Int)), .eq (.pointer (some ⟨ga, off + k * 5, none⟩)), .eq (q.v), .fresh w4.heap.size 41 zeroBq.cells] rfl (by kernel_rfl) ?_ ?_
      · refine sv 1 rfl rfl rfl (fun a u hE hD hk => exec_move (.tmp 0) _ rfl (hE 0 (.slice (some ⟨ga, off, none⟩) n c) (by kernel_rfl) (by kernel_rfl))) ?_
        refine sv 2 rfl rfl rfl (fun a u hE hD hk => exec_move (.tmp 5) _ rfl (hE 5 (.int .i64 (k : Int)) (by kernel_rfl) (by kernel_rfl))) ?_
        refine sv 3 rfl rfl rfl (fun a u hE hD hk => exec_ixo slBq (.tmp 24) (.tmp 25) (ga) (off) n c k (off + k * 5) ((k : Int)) rfl (hD 0 24 (by kernel_rfl)) (hD 1 25 (by kernel_rfl)) (by first | rfl | omega) (hin') (by first | rfl | omega)) ?_
        refine sv 4 rfl rfl rfl (fun a u hE hD hk => exec_ldS 41 _ (.tmp 26) (ga) (off + k * 5) (q.cells) rfl (hD 2 26 (by kernel_rfl)) (range_kept HE4.out hk) Try.underlying41 (by rw [q.len5b]; exact szBq)) ?_
        refine fsteps_cons 5 rfl (fun a u hE hD hk => f_new (o := ⟨some 6, _, _, _, _, _⟩) (.pointer (some ⟨u.heap.size, 0, none⟩)) _ rfl (wanted_none rfl _) (exec_alc 41 zeroBq.cells rfl zBq) ⟨_, rfl, hk.size, Blk.new u _ _⟩ ((Keep.refl _ u).alloc _)) ?_
        exact fsteps_nil
      intro gv w5 hV k5
      rw [show dstsOf _ 5 = [24, 25, 26, 27, 6] by kernel_rfl]
      simp only [List.foldl_cons, List.foldl_nil, List.setIfInBounds_toArray, List.set_cons_succ, List.set_cons_zero, List.drop_succ_cons, List.drop_zero]
      have hv6 : (.fresh w4.heap.size 41 zeroBq.cells : Kn).p (gv 6) w5 := hV 4 6 (by kernel_rfl)
      generalize gv 6 = v6 at hv6 ⊢
      rw [show gv 27 = q.v from hV 3 27 (by kernel_rfl)]
      clear hV
      obtain ⟨b6, rfl, hb6, hB6⟩ := hv6
      refine l_setS (o := ⟨none, _, _, _, _, _⟩) 41 b6 41 zeroBq.cells q.cells (.tmp 6) (.tmp 27) rfl rfl (by kernel_rfl) (by kernel_rfl) hB6 (by rw [Bq.len5b]; exact szBq) (by rw [Bq.len5b, Bq.len5b]) (Bq.one _) ?_
      intro w6 hC6 hk6' hs6
      simp only [Act.put]
      refine wpList_nil ?_
      have zr := HRr.out.lt
      have z4 := k4.size
      have k6 : Kept w4 w6 := k5.trans' hk6' (by omega)
      have k46 := k4.trans k6
      have HB6 := Lib.hid (HBr.out.kept k46)
      have HR6 := Lib.hid (HRr.out.kept k46)
      have HC6 := Lib.hid (blk_range hC6)
      have kw6 := kwr.trans k46
      have hn6 : ¬ b6 = g := by omega
      have hm6 : ¬ b6 = r := by omega
      clear HBr HRr hB6 hC6 hk6' hs6 k4 k5 k6 k46 HE4 kwr
      go_upto_region 9 with fail
      refine wp_text 2 [.eq (.pointer (some ⟨b6, 0, none⟩)), .eq (.int .i64 q.k)] rfl (by kernel_rfl) ?_ ?_
      · refine sv 1 rfl rfl rfl (fun a u hE hD hk => exec_fldo 41 0 0 (.tmp 6) (b6) (0) (0) rfl (hE 6 (.pointer (some ⟨b6, 0, none⟩)) (by kernel_rfl) (by kernel_rfl)) (by kernel_rfl) rfl) ?_
        refine sv 2 rfl rfl rfl (fun a u hE hD hk => exec_loadi 3 Try.underlying3 (.tmp 28) ⟨b6, 0, none⟩ (.int .i64 q.k) rfl (hD 0 28 (by kernel_rfl)) (range_int (range_kept HC6.out hk) 0 _ rfl)) ?_
        exact fsteps_nil
      intro gv w7 hV k7
      rw [show dstsOf _ 2 = [28, 29] by kernel_rfl]
      simp only [List.foldl_cons, List.foldl_nil, List.setIfInBounds_toArray, List.set_cons_succ, List.set_cons_zero, List.drop_succ_cons, List.drop_zero]
      rw [show gv 29 = .int .i64 q.k from hV 1 29 (by kernel_rfl)]
      clear hV
      refine wpList_nil ?_
      have HB7 := Lib.hid (HB6.out.kept k7)
      have HR7 := Lib.hid (HR6.out.kept k7)
      have HC7 := Lib.hid (range_kept HC6.out k7)
      have kw7 := kw6.trans k7
      clear HB6 HR6 HC6 kw6 k7
      by_cases h1 : q.k = 1
      · skip
        go_upto_region 10 with fail
        refine wp_text 2 [.eq (.bool true), .eq (.bool true)] rfl (by kernel_rfl) ?_ ?_
        · refine fsteps_cons 1 rfl (fun a u hE hD hk => f_as (show ((decide ((q.k : Int) = (1 : Int))) : Bool) = true from decide_eq_true h1) (f_val (o := ⟨some 31, _, _, _, _, _⟩) (.bool (decide ((q.k : Int) = (1 : Int)))) rfl (wanted_none rfl _) (exec_eqn (p := q.k) (q := 1) rfl (hE 29 (.int .i64 q.k) (by kernel_rfl) (by kernel_rfl)) rfl) rfl)) ?_
          refine sv 2 rfl rfl rfl (fun a u hE hD hk => exec_assign (.tmp 31) _ rfl (hD 0 31 (by kernel_rfl))) ?_
          exact fsteps_nil
        intro gv w8 hV kk
        rw [show dstsOf _ 2 = [31, 30] by kernel_rfl]
        simp only [List.foldl_cons, List.foldl_nil, List.setIfInBounds_toArray, List.set_cons_succ, List.set_cons_zero, List.drop_succ_cons, List.drop_zero]
        rw [show gv 30 = .bool true from hV 1 30 (by kernel_rfl)]
        clear hV
        refine wpList_nil ?_
        have HB8 := Lib.hid (HB7.out.kept kk)
        have HR8 := Lib.hid (HR7.out.kept kk)
        have HC8 := Lib.hid (range_kept HC7.out kk)
        have kw8 := kw7.trans kk
        clear HB7 HR7 HC7 kw7 kk
        clear h1
        obtain ⟨x, hx⟩ : ∃ x, opB B q.n q.i q.q = x := ⟨_, rfl⟩
        obtain ⟨B2, hB2⟩ : ∃ B2, opM B q.n q.i q.q = B2 := ⟨_, rfl⟩
        have HI2 : Hid B2.Ok := by show Bal.Ok _; rw [← hB2]; exact HI.out.op _ _ _
        have HX := Lib.hid hx
        have HM := Lib.hid hB2
        clear hx hB2
        go_upto_region 11 with fail
        refine wp_freeV 15 7 [0, 1, 2, 3, 4, 5, 6, 8, 9, 10, 11, 12, 13, 14] [.eq (.pointer (some ⟨g, 0, none⟩)), .eq (.pointer (some ⟨b6, 1, none⟩)), .eq (.int .i64 q.n), .eq (.pointer (some ⟨b6, 2, none⟩)), .eq (.int .i64 q.i), .eq (.pointer (some ⟨b6, 4, none⟩)), .eq (.int .i64 q.q), .both (.bool x) (fun u => Blk u g 49 B2.lc) (fun w w' h hk => h.kept hk), .eq (.pointer (some ⟨r, 0, none⟩)), .eq (.pointer (some ⟨b6, 1, none⟩)), .eq (.int .i64 q.n), .eq (.pointer (some ⟨b6, 2, none⟩)), .eq (.int .i64 q.i), .eq (.pointer (some ⟨b6, 4, none⟩)), .eq (.int .i64 q.q)] ((· = g)) (by kernel_rfl) rfl (by omega) (by kernel_rfl) (by kernel_rfl) ?_ ?_ (fun a u hE hD hk => v_call (o := ⟨some 39, _, _, _, _, _⟩) 9 #[.pointer (some ⟨g, 0, none⟩), .int .i64 q.n, .int .i64 q.i, .int .i64 q.q] rfl (wanted_none rfl _) (exec_call 9 _ [.tmp 32, .tmp 34, .tmp 36, .tmp 38] _ [.pointer (some ⟨g, 0, none⟩), .int .i64 q.n, .int .i64 q.i, .int .i64 q.q] Try.func9 (by kernel_rfl) (by kernel_rfl) rfl (show [a.eval (.tmp 32), a.eval (.tmp 34), a.eval (.tmp 36), a.eval (.tmp 38)] = [.pointer (some ⟨g, 0, none⟩), .int .i64 q.n, .int .i64 q.i, .int .i64 q.q] from (by rw [show a.eval (.tmp 32) = .pointer (some ⟨g, 0, none⟩) from (hD 0 32 (by kernel_rfl)), show a.eval (.tmp 34) = .int .i64 q.n from (hD 2 34 (by kernel_rfl)), show a.eval (.tmp 36) = .int .i64 q.i from (hD 4 36 (by kernel_rfl)), show a.eval (.tmp 38) = .int .i64 q.q from (hD 6 38 (by kernel_rfl))] <;> rfl)) u) ((opens_at (HB8.out.kept hk) HI.out HX.out HM.out).mono (fun e w' ⟨h1, h2, h3⟩ => ⟨_, h1, ⟨rfl, h2⟩, h3⟩))) ?_
        · intro i hi
          have hi2 : i = 0 ∨ i = 1 ∨ i = 2 ∨ i = 3 ∨ i = 4 ∨ i = 5 ∨ i = 6 ∨ i = 8 ∨ i = 9 ∨ i = 10 ∨ i = 11 ∨ i = 12 ∨ i = 13 ∨ i = 14 := by simpa using hi
          rcases hi2 with rfl | rfl | rfl | rfl | rfl | rfl | rfl | rfl | rfl | rfl | rfl | rfl | rfl | rfl
          · exact Kn.safe_eq _ _
          · exact Kn.safe_eq _ _
          · exact Kn.safe_eq _ _
          · exact Kn.safe_eq _ _
          · exact Kn.safe_eq _ _
          · exact Kn.safe_eq _ _
          · exact Kn.safe_eq _ _
          · exact Kn.safe_eq _ _
          · exact Kn.safe_eq _ _
          · exact Kn.safe_eq _ _
          · exact Kn.safe_eq _ _
          · exact Kn.safe_eq _ _
          · exact Kn.safe_eq _ _
          · exact Kn.safe_eq _ _
        · refine vsteps_cons 1 rfl (fun a u hE hD hk => f_val (o := ⟨some 32, _, _, _, _, _⟩) (.pointer (some ⟨g, 0, none⟩)) rfl (wanted_none rfl _) (exec_move (.tmp 3) _ rfl (hE 3 (.pointer (some ⟨g, 0, none⟩)) (by kernel_rfl) (by kernel_rfl))) rfl) ?_
          refine vsteps_cons 2 rfl (fun a u hE hD hk => f_val (o := ⟨some 33, _, _, _, _, _⟩) (.pointer (some ⟨b6, 1, none⟩)) rfl (wanted_none rfl _) (exec_fldo 41 1 1 (.tmp 6) (b6) (0) (1) rfl (hE 6 (.pointer (some ⟨b6, 0, none⟩)) (by kernel_rfl) (by kernel_rfl)) (by kernel_rfl) rfl) rfl) ?_
          refine vsteps_cons 3 rfl (fun a u hE hD hk => f_val (o := ⟨some 34, _, _, _, _, _⟩) (.int .i64 q.n) rfl (wanted_none rfl _) (exec_loadi 3 Try.underlying3 (.tmp 33) ⟨b6, 1, none⟩ (.int .i64 q.n) rfl (hD 1 33 (by kernel_rfl)) (range_int (range_keep HC8.out hk (hn6)) 1 _ rfl)) rfl) ?_
          refine vsteps_cons 4 rfl (fun a u hE hD hk => f_val (o := ⟨some 35, _, _, _, _, _⟩) (.pointer (some ⟨b6, 2, none⟩)) rfl (wanted_none rfl _) (exec_fldo 41 2 2 (.tmp 6) (b6) (0) (2) rfl (hE 6 (.pointer (some ⟨b6, 0, none⟩)) (by kernel_rfl) (by kernel_rfl)) (by kernel_rfl) rfl) rfl) ?_
          refine vsteps_cons 5 rfl (fun a u hE hD hk => f_val (o := ⟨some 36, _, _, _, _, _⟩) (.int .i64 q.i) rfl (wanted_none rfl _) (exec_loadi 3 Try.underlying3 (.tmp 35) ⟨b6, 2, none⟩ (.int .i64 q.i) rfl (hD 3 35 (by kernel_rfl)) (range_int (range_keep HC8.out hk (hn6)) 2 _ rfl)) rfl) ?_
          refine vsteps_cons 6 rfl (fun a u hE hD hk => f_val (o := ⟨some 37, _, _, _, _, _⟩) (.pointer (some ⟨b6, 4, none⟩)) rfl (wanted_none rfl _) (exec_fldo 41 4 4 (.tmp 6) (b6) (0) (4) rfl (hE 6 (.pointer (some ⟨b6, 0, none⟩)) (by kernel_rfl) (by kernel_rfl)) (by kernel_rfl) rfl) rfl) ?_
          refine vsteps_cons 7 rfl (fun a u hE hD hk => f_val (o := ⟨some 38, _, _, _, _, _⟩) (.int .i64 q.q) rfl (wanted_none rfl _) (exec_loadi 3 Try.underlying3 (.tmp 37) ⟨b6, 4, none⟩ (.int .i64 q.q) rfl (hD 5 37 (by kernel_rfl)) (range_int (range_keep HC8.out hk (hn6)) 4 _ rfl)) rfl) ?_
          refine vsteps_turn 8 rfl rfl ?_
          refine vsteps_cons 9 rfl (fun a u hE hD hk => f_val (o := ⟨some 40, _, _, _, _, _⟩) (.pointer (some ⟨r, 0, none⟩)) rfl (wanted_none rfl _) (exec_move (.tmp 4) _ rfl (hE 4 (.pointer (some ⟨r, 0, none⟩)) (by kernel_rfl) (by kernel_rfl))) rfl) ?_
          refine vsteps_cons 10 rfl (fun a u hE hD hk => f_val (o := ⟨some 41, _, _, _, _, _⟩) (.pointer (some ⟨b6, 1, none⟩)) rfl (wanted_none rfl _) (exec_fldo 41 1 1 (.tmp 6) (b6) (0) (1) rfl (hE 6 (.pointer (some ⟨b6, 0, none⟩)) (by kernel_rfl) (by kernel_rfl)) (by kernel_rfl) rfl) rfl) ?_
          refine vsteps_cons 11 rfl (fun a u hE hD hk => f_val (o := ⟨some 42, _, _, _, _, _⟩) (.int .i64 q.n) rfl (wanted_none rfl _) (exec_loadi 3 Try.underlying3 (.tmp 41) ⟨b6, 1, none⟩ (.int .i64 q.n) rfl (hD 9 41 (by kernel_rfl)) (range_int (range_keep HC8.out hk (hn6)) 1 _ rfl)) rfl) ?_
          refine vsteps_cons 12 rfl (fun a u hE hD hk => f_val (o := ⟨some 43, _, _, _, _, _⟩) (.pointer (some ⟨b6, 2, none⟩)) rfl (wanted_none rfl _) (exec_fldo 41 2 2 (.tmp 6) (b6) (0) (2) rfl (hE 6 (.pointer (some ⟨b6, 0, none⟩)) (by kernel_rfl) (by kernel_rfl)) (by kernel_rfl) rfl) rfl) ?_
          refine vsteps_cons 13 rfl (fun a u hE hD hk => f_val (o := ⟨some 44, _, _, _, _, _⟩) (.int .i64 q.i) rfl (wanted_none rfl _) (exec_loadi 3 Try.underlying3 (.tmp 43) ⟨b6, 2, none⟩ (.int .i64 q.i) rfl (hD 11 43 (by kernel_rfl)) (range_int (range_keep HC8.out hk (hn6)) 2 _ rfl)) rfl) ?_
          refine vsteps_cons 14 rfl (fun a u hE hD hk => f_val (o := ⟨some 45, _, _, _, _, _⟩) (.pointer (some ⟨b6, 4, none⟩)) rfl (wanted_none rfl _) (exec_fldo 41 4 4 (.tmp 6) (b6) (0) (4) rfl (hE 6 (.pointer (some ⟨b6, 0, none⟩)) (by kernel_rfl) (by kernel_rfl)) (by kernel_rfl) rfl) rfl) ?_
          refine vsteps_cons 15 rfl (fun a u hE hD hk => f_val (o := ⟨some 46, _, _, _, _, _⟩) (.int .i64 q.q) rfl (wanted_none rfl _) (exec_loadi 3 Try.underlying3 (.tmp 45) ⟨b6, 4, none⟩ (.int .i64 q.q) rfl (hD 13 45 (by kernel_rfl)) (range_int (range_keep HC8.out hk (hn6)) 4 _ rfl)) rfl) ?_
          exact vsteps_nil
        intro gv wg hV kg
        rw [show dstsOf _ 15 = [32, 33, 34, 35, 36, 37, 38, 39, 40, 41, 42, 43, 44, 45, 46] by kernel_rfl]
        simp only [List.foldl_cons, List.foldl_nil, List.setIfInBounds_toArray, List.set_cons_succ, List.set_cons_zero, List.drop_succ_cons, List.drop_zero]
        rw [show gv 40 = .pointer (some ⟨r, 0, none⟩) from hV 8 40 (by kernel_rfl)]
        rw [show gv 42 = .int .i64 q.n from hV 10 42 (by kernel_rfl)]
        rw [show gv 44 = .int .i64 q.i from hV 12 44 (by kernel_rfl)]
        rw [show gv 46 = .int .i64 q.q from hV 14 46 (by kernel_rfl)]
        have hi39 : (fun u => Blk u g 49 B2.lc) wg := (hV 7 39 (by kernel_rfl)).2
        rw [show gv 39 = .bool x from (hV 7 39 (by kernel_rfl)).1]
        clear hV
        have HRg := Lib.hid (HR8.out.keep kg (by omega))
        have HCg := Lib.hid (range_keep HC8.out kg hn6)
        refine l_call (o := ⟨some 47, _, _, _, _, _⟩) 13 #[.pointer (some ⟨r, 0, none⟩), .int .i64 q.n, .int .i64 q.i, .int .i64 q.q] rfl (exec_call 13 _ [.tmp 40, .tmp 42, .tmp 44, .tmp 46] _ _ Try.func13 (by kernel_rfl) (by kernel_rfl) rfl (by kernel_rfl) _) ?_
        refine (ropens_at HRg.out HI.out HX.out HM.out).mono ?_
        rintro e w9 ⟨rfl, hR9, k9⟩
        refine ⟨_, rfl, ?_⟩
        simp only [Act.put, List.setIfInBounds_toArray, List.set_cons_succ, List.set_cons_zero]
        refine l_val (o := ⟨some 48, _, _, _, _, _⟩) (.bool true) rfl (exec_eqb (.tmp 39) (.tmp 47) _ x x true rfl (by kernel_rfl) (by kernel_rfl) (by simp)) ?_
        simp only [Act.put, List.setIfInBounds_toArray, List.set_cons_succ, List.set_cons_zero]
        refine l_val (o := ⟨some 7, _, _, _, _, _⟩) (.bool true) rfl (exec_assign (.tmp 48) (.bool true) rfl (by kernel_rfl)) ?_
        simp only [Act.put, List.setIfInBounds_toArray, List.set_cons_succ, List.set_cons_zero]
        refine wpList_nil ?_
        have HR9 := Lib.hid hR9
        have HB9 := Lib.hid (hi39.keep k9 (by omega))
        have HC9 := Lib.hid (range_keep HCg.out k9 hm6)
        have kw9 := kept_own (g := r) (kept_own kw8 hg kg) (by omega) k9
        clear HR8 HC8 HB8 hR9 hi39 HCg HRg kw8 kg k9 HX HM HI
        obtain ⟨V1, hV1⟩ : ∃ V, B2.all q.n = V := ⟨_, rfl⟩
        obtain ⟨V2, hV2⟩ : ∃ V, B2.pAt q.n q.i = V := ⟨_, rfl⟩
        obtain ⟨V3, hV3⟩ : ∃ V, B2.oAt q.n q.i = V := ⟨_, rfl⟩
        have HV1 := Lib.hid hV1
        have HV2 := Lib.hid hV2
        have HV3 := Lib.hid hV3
        clear hV1 hV2 hV3
        cases hT : thB q.n q.i with
        | false =>
          have HT := Lib.hid hT
          have h3 : V3 = 0 := by rw [← HV3.out]; exact pick2_out _ hT
          clear hT
          go_upto_region 15 with fail
          refine wp_text 18 [.eq (.pointer (some ⟨b6, 1, none⟩)), .eq (.int .i64 q.n), .eq (.bool (decide ((0 : Int) ≤ (q.n : Int)))), .eq (.bool (decide ((0 : Int) ≤ (q.n : Int)))), .cond (decide ((0 : Int) ≤ (q.n : Int))) (.eq (.pointer (some ⟨b6, 1, none⟩))), .cond (decide ((0 : Int) ≤ (q.n : Int))) (.eq (.int .i64 q.n)), .cond (decide ((0 : Int) ≤ (q.n : Int))) (.eq (.bool (decide ((q.n : Int) < (32 : Int))))), .eq (.bool ((decide ((0 : Int) ≤ (q.n : Int))) && (decide ((q.n : Int) < (32 : Int))))), .eq (.bool ((decide ((0 : Int) ≤ (q.n : Int))) && (decide ((q.n : Int) < (32 : Int))))), .cond ((decide ((0 : Int) ≤ (q.n : Int))) && (decide ((q.n : Int) < (32 : Int)))) (.eq (.pointer (some ⟨b6, 2, none⟩))), .cond ((decide ((0 : Int) ≤ (q.n : Int))) && (decide ((q.n : Int) < (32 : Int)))) (.eq (.int .i64 q.i)), .cond ((decide ((0 : Int) ≤ (q.n : Int))) && (decide ((q.n : Int) < (32 : Int)))) (.eq (.bool (decide ((0 : Int) ≤ (q.i : Int))))), .eq (.bool (((decide ((0 : Int) ≤ (q.n : Int))) && (decide ((q.n : Int) < (32 : Int)))) && (decide ((0 : Int) ≤ (q.i : Int))))), .eq (.bool (((decide ((0 : Int) ≤ (q.n : Int))) && (decide ((q.n : Int) < (32 : Int)))) && (decide ((0 : Int) ≤ (q.i : Int))))), .cond (((decide ((0 : Int) ≤ (q.n : Int))) && (decide ((q.n : Int) < (32 : Int)))) && (decide ((0 : Int) ≤ (q.i : Int)))) (.eq (.pointer (some ⟨b6, 2, none⟩))), .cond (((decide ((0 : Int) ≤ (q.n : Int))) && (decide ((q.n : Int) < (32 : Int)))) && (decide ((0 : Int) ≤ (q.i : Int)))) (.eq (.int .i64 q.i)), .cond (((decide ((0 : Int) ≤ (q.n : Int))) && (decide ((q.n : Int) < (32 : Int)))) && (decide ((0 : Int) ≤ (q.i : Int)))) (.eq (.bool (decide ((q.i : Int) < (8 : Int))))), .eq (.bool false)] rfl (by kernel_rfl) ?_ ?_
          · refine sv 1 rfl rfl rfl (fun a u hE hD hk => exec_fldo 41 1 1 (.tmp 6) (b6) (0) (1) rfl (hE 6 (.pointer (some ⟨b6, 0, none⟩)) (by kernel_rfl) (by kernel_rfl)) (by kernel_rfl) rfl) ?_
            refine sv 2 rfl rfl rfl (fun a u hE hD hk => exec_loadi 3 Try.underlying3 (.tmp 72) ⟨b6, 1, none⟩ (.int .i64 q.n) rfl (hD 0 72 (by kernel_rfl)) (range_int (range_kept HC9.out hk) 1 _ rfl)) ?_
            refine sv 3 rfl rfl rfl (fun a u hE hD hk => exec_gen (p := q.n) (q := 0) rfl (hD 1 73 (by kernel_rfl)) rfl) ?_
            refine sv 4 rfl rfl rfl (fun a u hE hD hk => exec_move (.tmp 74) _ rfl (hD 2 74 (by kernel_rfl))) ?_
            refine fsteps_cons 5 rfl (fun a u hE hD hk => f_if ((decide ((0 : Int) ≤ (q.n : Int)))) rfl rfl rfl (hD 3 75 (by kernel_rfl)) (fun hb => f_val (o := ⟨some 76, _, _, _, _, _⟩) (.pointer (some ⟨b6, 1, none⟩)) rfl (wanted_b rfl rfl (hD 3 75 (by kernel_rfl)) (eq_true_of hb)) (exec_fldo 41 1 1 (.tmp 6) (b6) (0) (1) rfl (hE 6 (.pointer (some ⟨b6, 0, none⟩)) (by kernel_rfl) (by kernel_rfl)) (by kernel_rfl) rfl) rfl)) ?_
            refine fsteps_cons 6 rfl (fun a u hE hD hk => f_if ((decide ((0 : Int) ≤ (q.n : Int)))) rfl rfl rfl (hD 3 75 (by kernel_rfl)) (fun hb => f_val (o := ⟨some 77, _, _, _, _, _⟩) (.int .i64 q.n) rfl (wanted_b rfl rfl (hD 3 75 (by kernel_rfl)) (eq_true_of hb)) (exec_loadi 3 Try.underlying3 (.tmp 76) ⟨b6, 1, none⟩ (.int .i64 q.n) rfl ((hD 4 76 (by kernel_rfl)).1 hb) (range_int (range_kept HC9.out hk) 1 _ rfl)) rfl)) ?_
            refine fsteps_cons 7 rfl (fun a u hE hD hk => f_if ((decide ((0 : Int) ≤ (q.n : Int)))) rfl rfl rfl (hD 3 75 (by kernel_rfl)) (fun hb => f_val (o := ⟨some 78, _, _, _, _, _⟩) (.bool (decide ((q.n : Int) < (32 : Int)))) rfl (wanted_b rfl rfl (hD 3 75 (by kernel_rfl)) (eq_true_of hb)) (exec_ltn (p := q.n) (q := 32) rfl ((hD 5 77 (by kernel_rfl)).1 hb) rfl) rfl)) ?_
            refine sv 8 rfl rfl rfl (fun a u hE hD hk => exec_pickand (.tmp 75) (.tmp 78) (.const (.bool false)) ((decide ((0 : Int) ≤ (q.n : Int)))) ((decide ((q.n : Int) < (32 : Int)))) rfl (hD 3 75 (by kernel_rfl)) (fun hb2 => ((hD 6 78 (by kernel_rfl)).1 hb2)) rfl) ?_
            refine sv 9 rfl rfl rfl (fun a u hE hD hk => exec_move (.tmp 79) _ rfl (hD 7 79 (by kernel_rfl))) ?_
            refine fsteps_cons 10 rfl (fun a u hE hD hk => f_if (((decide ((0 : Int) ≤ (q.n : Int))) && (decide ((q.n : Int) < (32 : Int))))) rfl rfl rfl (hD 8 80 (by kernel_rfl)) (fun hb => f_val (o := ⟨some 81, _, _, _, _, _⟩) (.pointer (some ⟨b6, 2, none⟩)) rfl (wanted_b rfl rfl (hD 8 80 (by kernel_rfl)) (eq_true_of hb)) (exec_fldo 41 2 2 (.tmp 6) (b6) (0) (2) rfl (hE 6 (.pointer (some ⟨b6, 0, none⟩)) (by kernel_rfl) (by kernel_rfl)) (by kernel_rfl) rfl) rfl)) ?_
            refine fsteps_cons 11 rfl (fun a u hE hD hk => f_if (((decide ((0 : Int) ≤ (q.n : Int))) && (decide ((q.n : Int) < (32 : Int))))) rfl rfl rfl (hD 8 80 (by kernel_rfl)) (fun hb => f_val (o := ⟨some 82, _, _, _, _, _⟩) (.int .i64 q.i) rfl (wanted_b rfl rfl (hD 8 80 (by kernel_rfl)) (eq_true_of hb)) (exec_loadi 3 Try.underlying3 (.tmp 81) ⟨b6, 2, none⟩ (.int .i64 q.i) rfl ((hD 9 81 (by kernel_rfl)).1 hb) (range_int (range_kept HC9.out hk) 2 _ rfl)) rfl)) ?_
            refine fsteps_cons 12 rfl (fun a u hE hD hk => f_if (((decide ((0 : Int) ≤ (q.n : Int))) && (decide ((q.n : Int) < (32 : Int))))) rfl rfl rfl (hD 8 80 (by kernel_rfl)) (fun hb => f_val (o := ⟨some 83, _, _, _, _, _⟩) (.bool (decide ((0 : Int) ≤ (q.i : Int)))) rfl (wanted_b rfl rfl (hD 8 80 (by kernel_rfl)) (eq_true_of hb)) (exec_gen (p := q.i) (q := 0) rfl ((hD 10 82 (by kernel_rfl)).1 hb) rfl) rfl)) ?_
            refine sv 13 rfl rfl rfl (fun a u hE hD hk => exec_pickand (.tmp 80) (.tmp 83) (.const (.bool false)) (((decide ((0 : Int) ≤ (q.n : Int))) && (decide ((q.n : Int) < (32 : Int))))) ((decide ((0 : Int) ≤ (q.i : Int)))) rfl (hD 8 80 (by kernel_rfl)) (fun hb2 => ((hD 11 83 (by kernel_rfl)).1 hb2)) rfl) ?_
            refine sv 14 rfl rfl rfl (fun a u hE hD hk => exec_move (.tmp 84) _ rfl (hD 12 84 (by kernel_rfl))) ?_
            refine fsteps_cons 15 rfl (fun a u hE hD hk => f_if ((((decide ((0 : Int) ≤ (q.n : Int))) && (decide ((q.n : Int) < (32 : Int)))) && (decide ((0 : Int) ≤ (q.i : Int))))) rfl rfl rfl (hD 13 85 (by kernel_rfl)) (fun hb => f_val (o := ⟨some 86, _, _, _, _, _⟩) (.pointer (some ⟨b6, 2, none⟩)) rfl (wanted_b rfl rfl (hD 13 85 (by kernel_rfl)) (eq_true_of hb)) (exec_fldo 41 2 2 (.tmp 6) (b6) (0) (2) rfl (hE 6 (.pointer (some ⟨b6, 0, none⟩)) (by kernel_rfl) (by kernel_rfl)) (by kernel_rfl) rfl) rfl)) ?_
            refine fsteps_cons 16 rfl (fun a u hE hD hk => f_if ((((decide ((0 : Int) ≤ (q.n : Int))) && (decide ((q.n : Int) < (32 : Int)))) && (decide ((0 : Int) ≤ (q.i : Int))))) rfl rfl rfl (hD 13 85 (by kernel_rfl)) (fun hb => f_val (o := ⟨some 87, _, _, _, _, _⟩) (.int .i64 q.i) rfl (wanted_b rfl rfl (hD 13 85 (by kernel_rfl)) (eq_true_of hb)) (exec_loadi 3 Try.underlying3 (.tmp 86) ⟨b6, 2, none⟩ (.int .i64 q.i) rfl ((hD 14 86 (by kernel_rfl)).1 hb) (range_int (range_kept HC9.out hk) 2 _ rfl)) rfl)) ?_
            refine fsteps_cons 17 rfl (fun a u hE hD hk => f_if ((((decide ((0 : Int) ≤ (q.n : Int))) && (decide ((q.n : Int) < (32 : Int)))) && (decide ((0 : Int) ≤ (q.i : Int))))) rfl rfl rfl (hD 13 85 (by kernel_rfl)) (fun hb => f_val (o := ⟨some 88, _, _, _, _, _⟩) (.bool (decide ((q.i : Int) < (8 : Int)))) rfl (wanted_b rfl rfl (hD 13 85 (by kernel_rfl)) (eq_true_of hb)) (exec_ltn (p := q.i) (q := 8) rfl ((hD 15 87 (by kernel_rfl)).1 hb) rfl) rfl)) ?_
            refine fsteps_cons 18 rfl (fun a u hE hD hk => f_as (show (((((decide ((0 : Int) ≤ (q.n : Int))) && (decide ((q.n : Int) < (32 : Int)))) && (decide ((0 : Int) ≤ (q.i : Int)))) && (decide ((q.i : Int) < (8 : Int)))) : Bool) = false from (th_eq _ _).symm.trans HT.out) (f_val (o := ⟨some 89, _, _, _, _, _⟩) (.bool ((((decide ((0 : Int) ≤ (q.n : Int))) && (decide ((q.n : Int) < (32 : Int)))) && (decide ((0 : Int) ≤ (q.i : Int)))) && (decide ((q.i : Int) < (8 : Int))))) rfl (wanted_none rfl _) (exec_pickand (.tmp 85) (.tmp 88) (.const (.bool false)) ((((decide ((0 : Int) ≤ (q.n : Int))) && (decide ((q.n : Int) < (32 : Int)))) && (decide ((0 : Int) ≤ (q.i : Int))))) ((decide ((q.i : Int) < (8 : Int)))) rfl (hD 13 85 (by kernel_rfl)) (fun hb2 => ((hD 16 88 (by kernel_rfl)).1 hb2)) rfl) rfl)) ?_
            exact fsteps_nil
          intro gv wa hV ka
          rw [show dstsOf _ 18 = [72, 73, 74, 75, 76, 77, 78, 79, 80, 81, 82, 83, 84, 85, 86, 87, 88, 89] by kernel_rfl]
          simp only [List.foldl_cons, List.foldl_nil, List.setIfInBounds_toArray, List.set_cons_succ, List.set_cons_zero, List.drop_succ_cons, List.drop_zero]
          rw [show gv 89 = .bool false from hV 17 89 (by kernel_rfl)]
          clear hV
          refine wpList_nil ?_
          have HBa := Lib.hid (HB9.out.kept ka)
          have HRa := Lib.hid (HR9.out.kept ka)
          have HCa := Lib.hid (range_kept HC9.out ka)
          have kwa := kw9.trans ka
          clear HB9 HR9 HC9 kw9 ka HT
          subst h3
          go_upto_region 17 with fail
          refine wp_free 38 [.eq (.bool true), .eq (.bool false), .eq (.bool false), .eq (.pointer (some ⟨g, 0, none⟩)), .eq (.pointer (some ⟨b6, 1, none⟩)), .eq (.int .i64 q.n), .eq (.int .i64 V1), .eq (.pointer (some ⟨r, 0, none⟩)), .eq (.pointer (some ⟨b6, 1, none⟩)), .eq (.int .i64 q.n), .eq (.int .i64 V1), .eq (.bool false), .eq (.bool false), .eq (.bool false), .eq (.pointer (some ⟨g, 0, none⟩)), .eq (.pointer (some ⟨b6, 1, none⟩)), .eq (.int .i64 q.n), .eq (.pointer (some ⟨b6, 2, none⟩)), .eq (.int .i64 q.i), .eq (.int .i64 V2), .eq (.pointer (some ⟨r, 0, none⟩)), .eq (.pointer (some ⟨b6, 1, none⟩)), .eq (.int .i64 q.n), .eq (.pointer (some ⟨b6, 2, none⟩)), .eq (.int .i64 q.i), .eq (.int .i64 V2), .eq (.bool false), .eq (.bool false), .eq (.bool false), .eq (.pointer (some ⟨g, 0, none⟩)), .eq (.pointer (some ⟨b6, 1, none⟩)), .eq (.int .i64 q.n), .eq (.pointer (some ⟨b6, 2, none⟩)), .eq (.int .i64 q.i), .eq (.int .i64 0), .eq (.int .i64 0), .eq (.bool false), .eq (.bool false)] (by kernel_rfl) rfl (by kernel_rfl) ?_ ?_
          · refine sv 1 rfl rfl rfl (fun a u hE hD hk => exec_move (.tmp 7) _ rfl (hE 7 (.bool true) (by kernel_rfl) (by kernel_rfl))) ?_
            refine sv 2 rfl rfl rfl (fun a u hE hD hk => exec_not _ (.tmp 101) true rfl (hD 0 101 (by kernel_rfl))) ?_
            refine sv 3 rfl rfl rfl (fun a u hE hD hk => exec_move (.tmp 102) _ rfl (hD 1 102 (by kernel_rfl))) ?_
            refine fsteps_cons 4 rfl (fun a u hE hD hk => f_val (o := ⟨some 104, _, _, _, _, _⟩) (.pointer (some ⟨g, 0, none⟩)) rfl (wanted_at (b := false) false rfl rfl (hD 2 103 (by kernel_rfl))) (exec_move (.tmp 3) _ rfl (hE 3 (.pointer (some ⟨g, 0, none⟩)) (by kernel_rfl) (by kernel_rfl))) rfl) ?_
            refine fsteps_cons 5 rfl (fun a u hE hD hk => f_val (o := ⟨some 105, _, _, _, _, _⟩) (.pointer (some ⟨b6, 1, none⟩)) rfl (wanted_at (b := false) false rfl rfl (hD 2 103 (by kernel_rfl))) (exec_fldo 41 1 1 (.tmp 6) (b6) (0) (1) rfl (hE 6 (.pointer (some ⟨b6, 0, none⟩)) (by kernel_rfl) (by kernel_rfl)) (by kernel_rfl) rfl) rfl) ?_
            refine fsteps_cons 6 rfl (fun a u hE hD hk => f_val (o := ⟨some 106, _, _, _, _, _⟩) (.int .i64 q.n) rfl (wanted_at (b := false) false rfl rfl (hD 2 103 (by kernel_rfl))) (exec_loadi 3 Try.underlying3 (.tmp 105) ⟨b6, 1, none⟩ (.int .i64 q.n) rfl (hD 4 105 (by kernel_rfl)) (range_int (range_kept HCa.out hk) 1 _ rfl)) rfl) ?_
            refine fsteps_cons 7 rfl (fun a u hE hD hk => f_call (o := ⟨some 107, _, _, _, _, _⟩) 10 #[.pointer (some ⟨g, 0, none⟩), .int .i64 q.n] rfl (wanted_at (b := false) false rfl rfl (hD 2 103 (by kernel_rfl))) (exec_call 10 _ [.tmp 104, .tmp 106] _ [.pointer (some ⟨g, 0, none⟩), .int .i64 q.n] Try.func10 (by kernel_rfl) (by kernel_rfl) rfl (show [a.eval (.tmp 104), a.eval (.tmp 106)] = [.pointer (some ⟨g, 0, none⟩), .int .i64 q.n] from (by rw [show a.eval (.tmp 104) = .pointer (some ⟨g, 0, none⟩) from (hD 3 104 (by kernel_rfl)), show a.eval (.tmp 106) = .int .i64 q.n from (hD 5 106 (by kernel_rfl))] <;> rfl)) u) (all_at (HBa.out.kept hk) HI2.out HV1.out)) ?_
            refine fsteps_cons 8 rfl (fun a u hE hD hk => f_val (o := ⟨some 108, _, _, _, _, _⟩) (.pointer (some ⟨r, 0, none⟩)) rfl (wanted_at (b := false) false rfl rfl (hD 2 103 (by kernel_rfl))) (exec_move (.tmp 4) _ rfl (hE 4 (.pointer (some ⟨r, 0, none⟩)) (by kernel_rfl) (by kernel_rfl))) rfl) ?_
            refine fsteps_cons 9 rfl (fun a u hE hD hk => f_val (o := ⟨some 109, _, _, _, _, _⟩) (.pointer (some ⟨b6, 1, none⟩)) rfl (wanted_at (b := false) false rfl rfl (hD 2 103 (by kernel_rfl))) (exec_fldo 41 1 1 (.tmp 6) (b6) (0) (1) rfl (hE 6 (.pointer (some ⟨b6, 0, none⟩)) (by kernel_rfl) (by kernel_rfl)) (by kernel_rfl) rfl) rfl) ?_
            refine fsteps_cons 10 rfl (fun a u hE hD hk => f_val (o := ⟨some 110, _, _, _, _, _⟩) (.int .i64 q.n) rfl (wanted_at (b := false) false rfl rfl (hD 2 103 (by kernel_rfl))) (exec_loadi 3 Try.underlying3 (.tmp 109) ⟨b6, 1, none⟩ (.int .i64 q.n) rfl (hD 8 109 (by kernel_rfl)) (range_int (range_kept HCa.out hk) 1 _ rfl)) rfl) ?_
            refine fsteps_cons 11 rfl (fun a u hE hD hk => f_call (o := ⟨some 111, _, _, _, _, _⟩) 15 #[.pointer (some ⟨r, 0, none⟩), .int .i64 q.n] rfl (wanted_at (b := false) false rfl rfl (hD 2 103 (by kernel_rfl))) (exec_call 15 _ [.tmp 108, .tmp 110] _ [.pointer (some ⟨r, 0, none⟩), .int .i64 q.n] Try.func15 (by kernel_rfl) (by kernel_rfl) rfl (show [a.eval (.tmp 108), a.eval (.tmp 110)] = [.pointer (some ⟨r, 0, none⟩), .int .i64 q.n] from (by rw [show a.eval (.tmp 108) = .pointer (some ⟨r, 0, none⟩) from (hD 7 108 (by kernel_rfl)), show a.eval (.tmp 110) = .int .i64 q.n from (hD 9 110 (by kernel_rfl))] <;> rfl)) u) (rall_at (HRa.out.kept hk) HI2.out HV1.out)) ?_
            refine fsteps_cons 12 rfl (fun a u hE hD hk => f_as (show ((decide ((V1 : Int) ≠ (V1 : Int))) : Bool) = false from decide_eq_false (by omega)) (f_val (o := ⟨some 112, _, _, _, _, _⟩) (.bool (decide ((V1 : Int) ≠ (V1 : Int)))) rfl (wanted_at (b := false) false rfl rfl (hD 2 103 (by kernel_rfl))) (exec_nen (p := V1) (q := V1) rfl (hD 6 107 (by kernel_rfl)) (hD 10 111 (by kernel_rfl))) rfl)) ?_
            refine sv 13 rfl rfl rfl (fun a u hE hD hk => exec_pickF (.tmp 103) (.const (.bool true)) (.tmp 112) (.bool false) rfl (hD 2 103 (by kernel_rfl)) (hD 11 112 (by kernel_rfl))) ?_
            refine sv 14 rfl rfl rfl (fun a u hE hD hk => exec_move (.tmp 113) _ rfl (hD 12 113 (by kernel_rfl))) ?_
            refine fsteps_cons 15 rfl (fun a u hE hD hk => f_val (o := ⟨some 115, _, _, _, _, _⟩) (.pointer (some ⟨g, 0, none⟩)) rfl (wanted_at (b := false) false rfl rfl (hD 13 114 (by kernel_rfl))) (exec_move (.tmp 3) _ rfl (hE 3 (.pointer (some ⟨g, 0, none⟩)) (by kernel_rfl) (by kernel_rfl))) rfl) ?_
            refine fsteps_cons 16 rfl (fun a u hE hD hk => f_val (o := ⟨some 116, _, _, _, _, _⟩) (.pointer (some ⟨b6, 1, none⟩)) rfl (wanted_at (b := false) false rfl rfl (hD 13 114 (by kernel_rfl))) (exec_fldo 41 1 1 (.tmp 6) (b6) (0) (1) rfl (hE 6 (.pointer (some ⟨b6, 0, none⟩)) (by kernel_rfl) (by kernel_rfl)) (by kernel_rfl) rfl) rfl) ?_
            refine fsteps_cons 17 rfl (fun a u hE hD hk => f_val (o := ⟨some 117, _, _, _, _, _⟩) (.int .i64 q.n) rfl (wanted_at (b := false) false rfl rfl (hD 13 114 (by kernel_rfl))) (exec_loadi 3 Try.underlying3 (.tmp 116) ⟨b6, 1, none⟩ (.int .i64 q.n) rfl (hD 15 116 (by kernel_rfl)) (range_int (range_kept HCa.out hk) 1 _ rfl)) rfl) ?_
            refine fsteps_cons 18 rfl (fun a u hE hD hk => f_val (o := ⟨some 118, _, _, _, _, _⟩) (.pointer (some ⟨b6, 2, none⟩)) rfl (wanted_at (b := false) false rfl rfl (hD 13 114 (by kernel_rfl))) (exec_fldo 41 2 2 (.tmp 6) (b6) (0) (2) rfl (hE 6 (.pointer (some ⟨b6, 0, none⟩)) (by kernel_rfl) (by kernel_rfl)) (by kernel_rfl) rfl) rfl) ?_
            refine fsteps_cons 19 rfl (fun a u hE hD hk => f_val (o := ⟨some 119, _, _, _, _, _⟩) (.int .i64 q.i) rfl (wanted_at (b := false) false rfl rfl (hD 13 114 (by kernel_rfl))) (exec_loadi 3 Try.underlying3 (.tmp 118) ⟨b6, 2, none⟩ (.int .i64 q.i) rfl (hD 17 118 (by kernel_rfl)) (range_int (range_kept HCa.out hk) 2 _ rfl)) rfl) ?_
            refine fsteps_cons 20 rfl (fun a u hE hD hk => f_call (o := ⟨some 120, _, _, _, _, _⟩) 12 #[.pointer (some ⟨g, 0, none⟩), .int .i64 q.n, .int .i64 q.i] rfl (wanted_at (b := false) false rfl rfl (hD 13 114 (by kernel_rfl))) (exec_call 12 _ [.tmp 115, .tmp 117, .tmp 119] _ [.pointer (some ⟨g, 0, none⟩), .int .i64 q.n, .int .i64 q.i] Try.func12 (by kernel_rfl) (by kernel_rfl) rfl (show [a.eval (.tmp 115), a.eval (.tmp 117), a.eval (.tmp 119)] = [.pointer (some ⟨g, 0, none⟩), .int .i64 q.n, .int .i64 q.i] from (by rw [show a.eval (.tmp 115) = .pointer (some ⟨g, 0, none⟩) from (hD 14 115 (by kernel_rfl)), show a.eval (.tmp 117) = .int .i64 q.n from (hD 16 117 (by kernel_rfl)), show a.eval (.tmp 119) = .int .i64 q.i from (hD 18 119 (by kernel_rfl))] <;> rfl)) u) (pos_at (HBa.out.kept hk) HV2.out)) ?_
            refine fsteps_cons 21 rfl (fun a u hE hD hk => f_val (o := ⟨some 121, _, _, _, _, _⟩) (.pointer (some ⟨r, 0, none⟩)) rfl (wanted_at (b := false) false rfl rfl (hD 13 114 (by kernel_rfl))) (exec_move (.tmp 4) _ rfl (hE 4 (.pointer (some ⟨r, 0, none⟩)) (by kernel_rfl) (by kernel_rfl))) rfl) ?_
            refine fsteps_cons 22 rfl (fun a u hE hD hk => f_val (o := ⟨some 122, _, _, _, _, _⟩) (.pointer (some ⟨b6, 1, none⟩)) rfl (wanted_at (b := false) false rfl rfl (hD 13 114 (by kernel_rfl))) (exec_fldo 41 1 1 (.tmp 6) (b6) (0) (1) rfl (hE 6 (.pointer (some ⟨b6, 0, none⟩)) (by kernel_rfl) (by kernel_rfl)) (by kernel_rfl) rfl) rfl) ?_
            refine fsteps_cons 23 rfl (fun a u hE hD hk => f_val (o := ⟨some 123, _, _, _, _, _⟩) (.int .i64 q.n) rfl (wanted_at (b := false) false rfl rfl (hD 13 114 (by kernel_rfl))) (exec_loadi 3 Try.underlying3 (.tmp 122) ⟨b6, 1, none⟩ (.int .i64 q.n) rfl (hD 21 122 (by kernel_rfl)) (range_int (range_kept HCa.out hk) 1 _ rfl)) rfl) ?_
            refine fsteps_cons 24 rfl (fun a u hE hD hk => f_val (o := ⟨some 124, _, _, _, _, _⟩) (.pointer (some ⟨b6, 2, none⟩)) rfl (wanted_at (b := false) false rfl rfl (hD 13 114 (by kernel_rfl))) (exec_fldo 41 2 2 (.tmp 6) (b6) (0) (2) rfl (hE 6 (.pointer (some ⟨b6, 0, none⟩)) (by kernel_rfl) (by kernel_rfl)) (by kernel_rfl) rfl) rfl) ?_
            refine fsteps_cons 25 rfl (fun a u hE hD hk => f_val (o := ⟨some 125, _, _, _, _, _⟩) (.int .i64 q.i) rfl (wanted_at (b := false) false rfl rfl (hD 13 114 (by kernel_rfl))) (exec_loadi 3 Try.underlying3 (.tmp 124) ⟨b6, 2, none⟩ (.int .i64 q.i) rfl (hD 23 124 (by kernel_rfl)) (range_int (range_kept HCa.out hk) 2 _ rfl)) rfl) ?_
            refine fsteps_cons 26 rfl (fun a u hE hD hk => f_call (o := ⟨some 126, _, _, _, _, _⟩) 16 #[.pointer (some ⟨r, 0, none⟩), .int .i64 q.n, .int .i64 q.i] rfl (wanted_at (b := false) false rfl rfl (hD 13 114 (by kernel_rfl))) (exec_call 16 _ [.tmp 121, .tmp 123, .tmp 125] _ [.pointer (some ⟨r, 0, none⟩), .int .i64 q.n, .int .i64 q.i] Try.func16 (by kernel_rfl) (by kernel_rfl) rfl (show [a.eval (.tmp 121), a.eval (.tmp 123), a.eval (.tmp 125)] = [.pointer (some ⟨r, 0, none⟩), .int .i64 q.n, .int .i64 q.i] from (by rw [show a.eval (.tmp 121) = .pointer (some ⟨r, 0, none⟩) from (hD 20 121 (by kernel_rfl)), show a.eval (.tmp 123) = .int .i64 q.n from (hD 22 123 (by kernel_rfl)), show a.eval (.tmp 125) = .int .i64 q.i from (hD 24 125 (by kernel_rfl))] <;> rfl)) u) (rpos_at (HRa.out.kept hk) HV2.out)) ?_
            refine fsteps_cons 27 rfl (fun a u hE hD hk => f_as (show ((decide ((V2 : Int) ≠ (V2 : Int))) : Bool) = false from decide_eq_false (by omega)) (f_val (o := ⟨some 127, _, _, _, _, _⟩) (.bool (decide ((V2 : Int) ≠ (V2 : Int)))) rfl (wanted_at (b := false) false rfl rfl (hD 13 114 (by kernel_rfl))) (exec_nen (p := V2) (q := V2) rfl (hD 19 120 (by kernel_rfl)) (hD 25 126 (by kernel_rfl))) rfl)) ?_
            refine sv 28 rfl rfl rfl (fun a u hE hD hk => exec_pickF (.tmp 114) (.const (.bool true)) (.tmp 127) (.bool false) rfl (hD 13 114 (by kernel_rfl)) (hD 26 127 (by kernel_rfl))) ?_
            refine sv 29 rfl rfl rfl (fun a u hE hD hk => exec_move (.tmp 128) _ rfl (hD 27 128 (by kernel_rfl))) ?_
            refine fsteps_cons 30 rfl (fun a u hE hD hk => f_val (o := ⟨some 130, _, _, _, _, _⟩) (.pointer (some ⟨g, 0, none⟩)) rfl (wanted_at (b := false) false rfl rfl (hD 28 129 (by kernel_rfl))) (exec_move (.tmp 3) _ rfl (hE 3 (.pointer (some ⟨g, 0, none⟩)) (by kernel_rfl) (by kernel_rfl))) rfl) ?_
            refine fsteps_cons 31 rfl (fun a u hE hD hk => f_val (o := ⟨some 131, _, _, _, _, _⟩) (.pointer (some ⟨b6, 1, none⟩)) rfl (wanted_at (b := false) false rfl rfl (hD 28 129 (by kernel_rfl))) (exec_fldo 41 1 1 (.tmp 6) (b6) (0) (1) rfl (hE 6 (.pointer (some ⟨b6, 0, none⟩)) (by kernel_rfl) (by kernel_rfl)) (by kernel_rfl) rfl) rfl) ?_
            refine fsteps_cons 32 rfl (fun a u hE hD hk => f_val (o := ⟨some 132, _, _, _, _, _⟩) (.int .i64 q.n) rfl (wanted_at (b := false) false rfl rfl (hD 28 129 (by kernel_rfl))) (exec_loadi 3 Try.underlying3 (.tmp 131) ⟨b6, 1, none⟩ (.int .i64 q.n) rfl (hD 30 131 (by kernel_rfl)) (range_int (range_kept HCa.out hk) 1 _ rfl)) rfl) ?_
            refine fsteps_cons 33 rfl (fun a u hE hD hk => f_val (o := ⟨some 133, _, _, _, _, _⟩) (.pointer (some ⟨b6, 2, none⟩)) rfl (wanted_at (b := false) false rfl rfl (hD 28 129 (by kernel_rfl))) (exec_fldo 41 2 2 (.tmp 6) (b6) (0) (2) rfl (hE 6 (.pointer (some ⟨b6, 0, none⟩)) (by kernel_rfl) (by kernel_rfl)) (by kernel_rfl) rfl) rfl) ?_
            refine fsteps_cons 34 rfl (fun a u hE hD hk => f_val (o := ⟨some 134, _, _, _, _, _⟩) (.int .i64 q.i) rfl (wanted_at (b := false) false rfl rfl (hD 28 129 (by kernel_rfl))) (exec_loadi 3 Try.underlying3 (.tmp 133) ⟨b6, 2, none⟩ (.int .i64 q.i) rfl (hD 32 133 (by kernel_rfl)) (range_int (range_kept HCa.out hk) 2 _ rfl)) rfl) ?_
            refine fsteps_cons 35 rfl (fun a u hE hD hk => f_call (o := ⟨some 135, _, _, _, _, _⟩) 17 #[.pointer (some ⟨g, 0, none⟩), .int .i64 q.n, .int .i64 q.i] rfl (wanted_at (b := false) false rfl rfl (hD 28 129 (by kernel_rfl))) (exec_call 17 _ [.tmp 130, .tmp 132, .tmp 134] _ [.pointer (some ⟨g, 0, none⟩), .int .i64 q.n, .int .i64 q.i] Try.func17 (by kernel_rfl) (by kernel_rfl) rfl (show [a.eval (.tmp 130), a.eval (.tmp 132), a.eval (.tmp 134)] = [.pointer (some ⟨g, 0, none⟩), .int .i64 q.n, .int .i64 q.i] from (by rw [show a.eval (.tmp 130) = .pointer (some ⟨g, 0, none⟩) from (hD 29 130 (by kernel_rfl)), show a.eval (.tmp 132) = .int .i64 q.n from (hD 31 132 (by kernel_rfl)), show a.eval (.tmp 134) = .int .i64 q.i from (hD 33 134 (by kernel_rfl))] <;> rfl)) u) (openAt_at (HBa.out.kept hk) HV3.out)) ?_
            refine fsteps_cons 36 rfl (fun a u hE hD hk => f_val (o := ⟨some 136, _, _, _, _, _⟩) (.int .i64 0) rfl (wanted_at (b := false) false rfl rfl (hD 28 129 (by kernel_rfl))) (exec_move (.tmp 8) _ rfl (hE 8 (.int .i64 0) (by kernel_rfl) (by kernel_rfl))) rfl) ?_
            refine fsteps_cons 37 rfl (fun a u hE hD hk => f_as (show ((decide ((0 : Int) ≠ (0 : Int))) : Bool) = false from decide_eq_false (by omega)) (f_val (o := ⟨some 137, _, _, _, _, _⟩) (.bool (decide ((0 : Int) ≠ (0 : Int)))) rfl (wanted_at (b := false) false rfl rfl (hD 28 129 (by kernel_rfl))) (exec_nen (p := 0) (q := 0) rfl (hD 34 135 (by kernel_rfl)) (hD 35 136 (by kernel_rfl))) rfl)) ?_
            refine sv 38 rfl rfl rfl (fun a u hE hD hk => exec_pickF (.tmp 129) (.const (.bool true)) (.tmp 137) (.bool false) rfl (hD 28 129 (by kernel_rfl)) (hD 36 137 (by kernel_rfl))) ?_
            exact fsteps_nil
          intro gv wz hV kz
          rw [show dstsOf _ 38 = [101, 102, 103, 104, 105, 106, 107, 108, 109, 110, 111, 112, 113, 114, 115, 116, 117, 118, 119, 120, 121, 122, 123, 124, 125, 126, 127, 128, 129, 130, 131, 132, 133, 134, 135, 136, 137, 138] by kernel_rfl]
          simp only [List.foldl_cons, List.foldl_nil, List.setIfInBounds_toArray, List.set_cons_succ, List.set_cons_zero, List.drop_succ_cons, List.drop_zero]
          rw [show gv 138 = .bool false from hV 37 138 (by kernel_rfl)]
          clear hV
          refine wpList_nil ?_
          have HBz := Lib.hid (HBa.out.kept kz)
          have HRz := Lib.hid (HRa.out.kept kz)
          have kwz := kwa.trans kz
          go_wp2
          exact ⟨⟨k + 1, B2, by simp, by omega, by omega, HBz, HRz, HI2, kwz⟩, by simp [intOf]; omega⟩
        | true =>
          have HT := Lib.hid hT
          obtain ⟨m, j, hm, hj, hqn, hqi⟩ := thB_yes hT
          have HX : Hid ((B2.rc L)[128 + m * 16 + j]? = some (.int .i64 V3)) := by show _ = _; unfold Bal.rc; rw [lay_at _ (by omega), rf_o B2 L hj, ← HV3.out, hqn, hqi]; unfold Bal.oAt; rw [pick2_in _ hm hj]
          have HQN := Lib.hid hqn
          have HQI := Lib.hid hqi
          clear hT hqn hqi
          go_upto_region 15 with fail
          refine wp_text 18 [.eq (.pointer (some ⟨b6, 1, none⟩)), .eq (.int .i64 q.n), .eq (.bool (decide ((0 : Int) ≤ (q.n : Int)))), .eq (.bool (decide ((0 : Int) ≤ (q.n : Int)))), .cond (decide ((0 : Int) ≤ (q.n : Int))) (.eq (.pointer (some ⟨b6, 1, none⟩))), .cond (decide ((0 : Int) ≤ (q.n : Int))) (.eq (.int .i64 q.n)), .cond (decide ((0 : Int) ≤ (q.n : Int))) (.eq (.bool (decide ((q.n : Int) < (32 : Int))))), .eq (.bool ((decide ((0 : Int) ≤ (q.n : Int))) && (decide ((q.n : Int) < (32 : Int))))), .eq (.bool ((decide ((0 : Int) ≤ (q.n : Int))) && (decide ((q.n : Int) < (32 : Int))))), .cond ((decide ((0 : Int) ≤ (q.n : Int))) && (decide ((q.n : Int) < (32 : Int)))) (.eq (.pointer (some ⟨b6, 2, none⟩))), .cond ((decide ((0 : Int) ≤ (q.n : Int))) && (decide ((q.n : Int) < (32 : Int)))) (.eq (.int .i64 q.i)), .cond ((decide ((0 : Int) ≤ (q.n : Int))) && (decide ((q.n : Int) < (32 : Int)))) (.eq (.bool (decide ((0 : Int) ≤ (q.i : Int))))), .eq (.bool (((decide ((0 : Int) ≤ (q.n : Int))) && (decide ((q.n : Int) < (32 : Int)))) && (decide ((0 : Int) ≤ (q.i : Int))))), .eq (.bool (((decide ((0 : Int) ≤ (q.n : Int))) && (decide ((q.n : Int) < (32 : Int)))) && (decide ((0 : Int) ≤ (q.i : Int))))), .cond (((decide ((0 : Int) ≤ (q.n : Int))) && (decide ((q.n : Int) < (32 : Int)))) && (decide ((0 : Int) ≤ (q.i : Int)))) (.eq (.pointer (some ⟨b6, 2, none⟩))), .cond (((decide ((0 : Int) ≤ (q.n : Int))) && (decide ((q.n : Int) < (32 : Int)))) && (decide ((0 : Int) ≤ (q.i : Int)))) (.eq (.int .i64 q.i)), .cond (((decide ((0 : Int) ≤ (q.n : Int))) && (decide ((q.n : Int) < (32 : Int)))) && (decide ((0 : Int) ≤ (q.i : Int)))) (.eq (.bool (decide ((q.i : Int) < (8 : Int))))), .eq (.bool true)] rfl (by kernel_rfl) ?_ ?_
          · refine sv 1 rfl rfl rfl (fun a u hE hD hk => exec_fldo 41 1 1 (.tmp 6) (b6) (0) (1) rfl (hE 6 (.pointer (some ⟨b6, 0, none⟩)) (by kernel_rfl) (by kernel_rfl)) (by kernel_rfl) rfl) ?_
            refine sv 2 rfl rfl rfl (fun a u hE hD hk => exec_loadi 3 Try.underlying3 (.tmp 72) ⟨b6, 1, none⟩ (.int .i64 q.n) rfl (hD 0 72 (by kernel_rfl)) (range_int (range_kept HC9.out hk) 1 _ rfl)) ?_
            refine sv 3 rfl rfl rfl (fun a u hE hD hk => exec_gen (p := q.n) (q := 0) rfl (hD 1 73 (by kernel_rfl)) rfl) ?_
            refine sv 4 rfl rfl rfl (fun a u hE hD hk => exec_move (.tmp 74) _ rfl (hD 2 74 (by kernel_rfl))) ?_
            refine fsteps_cons 5 rfl (fun a u hE hD hk => f_if ((decide ((0 : Int) ≤ (q.n : Int)))) rfl rfl rfl (hD 3 75 (by kernel_rfl)) (fun hb => f_val (o := ⟨some 76, _, _, _, _, _⟩) (.pointer (some ⟨b6, 1, none⟩)) rfl (wanted_b rfl rfl (hD 3 75 (by kernel_rfl)) (eq_true_of hb)) (exec_fldo 41 1 1 (.tmp 6) (b6) (0) (1) rfl (hE 6 (.pointer (some ⟨b6, 0, none⟩)) (by kernel_rfl) (by kernel_rfl)) (by kernel_rfl) rfl) rfl)) ?_
            refine fsteps_cons 6 rfl (fun a u hE hD hk => f_if ((decide ((0 : Int) ≤ (q.n : Int)))) rfl rfl rfl (hD 3 75 (by kernel_rfl)) (fun hb => f_val (o := ⟨some 77, _, _, _, _, _⟩) (.int .i64 q.n) rfl (wanted_b rfl rfl (hD 3 75 (by kernel_rfl)) (eq_true_of hb)) (exec_loadi 3 Try.underlying3 (.tmp 76) ⟨b6, 1, none⟩ (.int .i64 q.n) rfl ((hD 4 76 (by kernel_rfl)).1 hb) (range_int (range_kept HC9.out hk) 1 _ rfl)) rfl)) ?_
            refine fsteps_cons 7 rfl (fun a u hE hD hk => f_if ((decide ((0 : Int) ≤ (q.n : Int)))) rfl rfl rfl (hD 3 75 (by kernel_rfl)) (fun hb => f_val (o := ⟨some 78, _, _, _, _, _⟩) (.bool (decide ((q.n : Int) < (32 : Int)))) rfl (wanted_b rfl rfl (hD 3 75 (by kernel_rfl)) (eq_true_of hb)) (exec_ltn (p := q.n) (q := 32) rfl ((hD 5 77 (by kernel_rfl)).1 hb) rfl) rfl)) ?_
            refine sv 8 rfl rfl rfl (fun a u hE hD hk => exec_pickand (.tmp 75) (.tmp 78) (.const (.bool false)) ((decide ((0 : Int) ≤ (q.n : Int)))) ((decide ((q.n : Int) < (32 : Int)))) rfl (hD 3 75 (by kernel_rfl)) (fun hb2 => ((hD 6 78 (by kernel_rfl)).1 hb2)) rfl) ?_
            refine sv 9 rfl rfl rfl (fun a u hE hD hk => exec_move (.tmp 79) _ rfl (hD 7 79 (by kernel_rfl))) ?_
            refine fsteps_cons 10 rfl (fun a u hE hD hk => f_if (((decide ((0 : Int) ≤ (q.n : Int))) && (decide ((q.n : Int) < (32 : Int))))) rfl rfl rfl (hD 8 80 (by kernel_rfl)) (fun hb => f_val (o := ⟨some 81, _, _, _, _, _⟩) (.pointer (some ⟨b6, 2, none⟩)) rfl (wanted_b rfl rfl (hD 8 80 (by kernel_rfl)) (eq_true_of hb)) (exec_fldo 41 2 2 (.tmp 6) (b6) (0) (2) rfl (hE 6 (.pointer (some ⟨b6, 0, none⟩)) (by kernel_rfl) (by kernel_rfl)) (by kernel_rfl) rfl) rfl)) ?_
            refine fsteps_cons 11 rfl (fun a u hE hD hk => f_if (((decide ((0 : Int) ≤ (q.n : Int))) && (decide ((q.n : Int) < (32 : Int))))) rfl rfl rfl (hD 8 80 (by kernel_rfl)) (fun hb => f_val (o := ⟨some 82, _, _, _, _, _⟩) (.int .i64 q.i) rfl (wanted_b rfl rfl (hD 8 80 (by kernel_rfl)) (eq_true_of hb)) (exec_loadi 3 Try.underlying3 (.tmp 81) ⟨b6, 2, none⟩ (.int .i64 q.i) rfl ((hD 9 81 (by kernel_rfl)).1 hb) (range_int (range_kept HC9.out hk) 2 _ rfl)) rfl)) ?_
            refine fsteps_cons 12 rfl (fun a u hE hD hk => f_if (((decide ((0 : Int) ≤ (q.n : Int))) && (decide ((q.n : Int) < (32 : Int))))) rfl rfl rfl (hD 8 80 (by kernel_rfl)) (fun hb => f_val (o := ⟨some 83, _, _, _, _, _⟩) (.bool (decide ((0 : Int) ≤ (q.i : Int)))) rfl (wanted_b rfl rfl (hD 8 80 (by kernel_rfl)) (eq_true_of hb)) (exec_gen (p := q.i) (q := 0) rfl ((hD 10 82 (by kernel_rfl)).1 hb) rfl) rfl)) ?_
            refine sv 13 rfl rfl rfl (fun a u hE hD hk => exec_pickand (.tmp 80) (.tmp 83) (.const (.bool false)) (((decide ((0 : Int) ≤ (q.n : Int))) && (decide ((q.n : Int) < (32 : Int))))) ((decide ((0 : Int) ≤ (q.i : Int)))) rfl (hD 8 80 (by kernel_rfl)) (fun hb2 => ((hD 11 83 (by kernel_rfl)).1 hb2)) rfl) ?_
            refine sv 14 rfl rfl rfl (fun a u hE hD hk => exec_move (.tmp 84) _ rfl (hD 12 84 (by kernel_rfl))) ?_
            refine fsteps_cons 15 rfl (fun a u hE hD hk => f_if ((((decide ((0 : Int) ≤ (q.n : Int))) && (decide ((q.n : Int) < (32 : Int)))) && (decide ((0 : Int) ≤ (q.i : Int))))) rfl rfl rfl (hD 13 85 (by kernel_rfl)) (fun hb => f_val (o := ⟨some 86, _, _, _, _, _⟩) (.pointer (some ⟨b6, 2, none⟩)) rfl (wanted_b rfl rfl (hD 13 85 (by kernel_rfl)) (eq_true_of hb)) (exec_fldo 41 2 2 (.tmp 6) (b6) (0) (2) rfl (hE 6 (.pointer (some ⟨b6, 0, none⟩)) (by kernel_rfl) (by kernel_rfl)) (by kernel_rfl) rfl) rfl)) ?_
            refine fsteps_cons 16 rfl (fun a u hE hD hk => f_if ((((decide ((0 : Int) ≤ (q.n : Int))) && (decide ((q.n : Int) < (32 : Int)))) && (decide ((0 : Int) ≤ (q.i : Int))))) rfl rfl rfl (hD 13 85 (by kernel_rfl)) (fun hb => f_val (o := ⟨some 87, _, _, _, _, _⟩) (.int .i64 q.i) rfl (wanted_b rfl rfl (hD 13 85 (by kernel_rfl)) (eq_true_of hb)) (exec_loadi 3 Try.underlying3 (.tmp 86) ⟨b6, 2, none⟩ (.int .i64 q.i) rfl ((hD 14 86 (by kernel_rfl)).1 hb) (range_int (range_kept HC9.out hk) 2 _ rfl)) rfl)) ?_
            refine fsteps_cons 17 rfl (fun a u hE hD hk => f_if ((((decide ((0 : Int) ≤ (q.n : Int))) && (decide ((q.n : Int) < (32 : Int)))) && (decide ((0 : Int) ≤ (q.i : Int))))) rfl rfl rfl (hD 13 85 (by kernel_rfl)) (fun hb => f_val (o := ⟨some 88, _, _, _, _, _⟩) (.bool (decide ((q.i : Int) < (8 : Int)))) rfl (wanted_b rfl rfl (hD 13 85 (by kernel_rfl)) (eq_true_of hb)) (exec_ltn (p := q.i) (q := 8) rfl ((hD 15 87 (by kernel_rfl)).1 hb) rfl) rfl)) ?_
            refine fsteps_cons 18 rfl (fun a u hE hD hk => f_as (show (((((decide ((0 : Int) ≤ (q.n : Int))) && (decide ((q.n : Int) < (32 : Int)))) && (decide ((0 : Int) ≤ (q.i : Int)))) && (decide ((q.i : Int) < (8 : Int)))) : Bool) = true from (th_eq _ _).symm.trans HT.out) (f_val (o := ⟨some 89, _, _, _, _, _⟩) (.bool ((((decide ((0 : Int) ≤ (q.n : Int))) && (decide ((q.n : Int) < (32 : Int)))) && (decide ((0 : Int) ≤ (q.i : Int)))) && (decide ((q.i : Int) < (8 : Int))))) rfl (wanted_none rfl _) (exec_pickand (.tmp 85) (.tmp 88) (.const (.bool false)) ((((decide ((0 : Int) ≤ (q.n : Int))) && (decide ((q.n : Int) < (32 : Int)))) && (decide ((0 : Int) ≤ (q.i : Int))))) ((decide ((q.i : Int) < (8 : Int)))) rfl (hD 13 85 (by kernel_rfl)) (fun hb2 => ((hD 16 88 (by kernel_rfl)).1 hb2)) rfl) rfl)) ?_
            exact fsteps_nil
          intro gv wy hV ky
          rw [show dstsOf _ 18 = [72, 73, 74, 75, 76, 77, 78, 79, 80, 81, 82, 83, 84, 85, 86, 87, 88, 89] by kernel_rfl]
          simp only [List.foldl_cons, List.foldl_nil, List.setIfInBounds_toArray, List.set_cons_succ, List.set_cons_zero, List.drop_succ_cons, List.drop_zero]
          rw [show gv 89 = .bool true from hV 17 89 (by kernel_rfl)]
          clear hV
          refine wpList_nil ?_
          have HRy := Lib.hid (HR9.out.kept ky)
          have HCy := Lib.hid (range_kept HC9.out ky)
          go_upto_region 16 with fail
          refine wp_free 12 [.eq (.pointer (some ⟨r, 0, none⟩)), .eq (.pointer (some ⟨b6, 1, none⟩)), .eq (.int .i64 (m : Int)), .eq (.pointer (some ⟨b6, 2, none⟩)), .eq (.int .i64 (j : Int)), .eq (.pointer (some ⟨r, 0, none⟩)), .eq (.pointer (some ⟨r, 128, none⟩)), .eq (.pointer (some ⟨r, 128 + m * 16, none⟩)), .eq (.pointer (some ⟨r, 128 + m * 16, none⟩)), .eq (.pointer (some ⟨r, 128 + m * 16 + j, none⟩)), .eq (.int .i64 V3), .eq (.int .i64 V3)] (by kernel_rfl) rfl (by kernel_rfl) ?_ ?_
          · refine sv 1 rfl rfl rfl (fun a u hE hD hk => exec_move (.tmp 4) _ rfl (hE 4 (.pointer (some ⟨r, 0, none⟩)) (by kernel_rfl) (by kernel_rfl))) ?_
            refine sv 2 rfl rfl rfl (fun a u hE hD hk => exec_fldo 41 1 1 (.tmp 6) (b6) (0) (1) rfl (hE 6 (.pointer (some ⟨b6, 0, none⟩)) (by kernel_rfl) (by kernel_rfl)) (by kernel_rfl) rfl) ?_
            refine sv 3 rfl rfl rfl (fun a u hE hD hk => by rw [← HQN.out]; exact exec_loadi 3 Try.underlying3 (.tmp 91) ⟨b6, 1, none⟩ (.int .i64 q.n) rfl (hD 1 91 (by kernel_rfl)) (range_int (off := 0) (range_kept HCy.out hk) 1 _ rfl)) ?_
            refine sv 4 rfl rfl rfl (fun a u hE hD hk => exec_fldo 41 2 2 (.tmp 6) (b6) (0) (2) rfl (hE 6 (.pointer (some ⟨b6, 0, none⟩)) (by kernel_rfl) (by kernel_rfl)) (by kernel_rfl) rfl) ?_
            refine sv 5 rfl rfl rfl (fun a u hE hD hk => by rw [← HQI.out]; exact exec_loadi 3 Try.underlying3 (.tmp 93) ⟨b6, 2, none⟩ (.int .i64 q.i) rfl (hD 3 93 (by kernel_rfl)) (range_int (off := 0) (range_kept HCy.out hk) 2 _ rfl)) ?_
            refine sv 6 rfl rfl rfl (fun a u hE hD hk => exec_nilp (.tmp 90) ⟨r, 0, none⟩ rfl (hD 0 90 (by kernel_rfl))) ?_
            refine sv 7 rfl rfl rfl (fun a u hE hD hk => exec_fldo 39 1 128 (.tmp 95) (r) (0) (128) rfl (hD 5 95 (by kernel_rfl)) (by kernel_rfl) rfl) ?_
            refine sv 8 rfl rfl rfl (fun a u hE hD hk => exec_ixK 16 37 36 32 (.tmp 96) (.tmp 92) (r) (128) (128 + m * 16) m ((m : Int)) rfl Try.underlying37 (by kernel_rfl) (hD 6 96 (by kernel_rfl)) (hD 2 92 (by kernel_rfl)) (by first | rfl | omega) (hm) (by first | rfl | omega)) ?_
            refine sv 9 rfl rfl rfl (fun a u hE hD hk => exec_fldo 36 0 0 (.tmp 97) (r) (128 + m * 16) (128 + m * 16) rfl (hD 7 97 (by kernel_rfl)) (by kernel_rfl) rfl) ?_
            refine sv 10 rfl rfl rfl (fun a u hE hD hk => exec_ixK 1 34 3 8 (.tmp 98) (.tmp 94) (r) (128 + m * 16) (128 + m * 16 + j) j ((j : Int)) rfl Try.underlying34 (by kernel_rfl) (hD 8 98 (by kernel_rfl)) (hD 4 94 (by kernel_rfl)) (by first | rfl | omega) (hj) (by first | rfl | omega)) ?_
            refine sv 11 rfl rfl rfl (fun a u hE hD hk => exec_loadi 3 Try.underlying3 (.tmp 99) ⟨r, 128 + m * 16 + j, none⟩ (.int .i64 V3) rfl (hD 9 99 (by kernel_rfl)) (Kept.cell hk (((HRy.out.cell _).trans HX.out)))) ?_
            refine sv 12 rfl rfl rfl (fun a u hE hD hk => exec_assign (.tmp 100) _ rfl (hD 10 100 (by kernel_rfl))) ?_
            exact fsteps_nil
          intro gv wx hV kx
          rw [show dstsOf _ 12 = [90, 91, 92, 93, 94, 95, 96, 97, 98, 99, 100, 8] by kernel_rfl]
          simp only [List.foldl_cons, List.foldl_nil, List.setIfInBounds_toArray, List.set_cons_succ, List.set_cons_zero, List.drop_succ_cons, List.drop_zero]
          rw [show gv 8 = .int .i64 V3 from hV 11 8 (by kernel_rfl)]
          clear hV
          refine wpList_nil ?_
          have ka := ky.trans kx
          have HBa := Lib.hid (HB9.out.kept ka)
          have HRa := Lib.hid (HR9.out.kept ka)
          have HCa := Lib.hid (range_kept HC9.out ka)
          have kwa := kw9.trans ka
          clear HB9 HR9 HC9 kw9 ka kx ky HT HRy HCy HX
          go_upto_region 17 with fail
          refine wp_free 38 [.eq (.bool true), .eq (.bool false), .eq (.bool false), .eq (.pointer (some ⟨g, 0, none⟩)), .eq (.pointer (some ⟨b6, 1, none⟩)), .eq (.int .i64 q.n), .eq (.int .i64 V1), .eq (.pointer (some ⟨r, 0, none⟩)), .eq (.pointer (some ⟨b6, 1, none⟩)), .eq (.int .i64 q.n), .eq (.int .i64 V1), .eq (.bool false), .eq (.bool false), .eq (.bool false), .eq (.pointer (some ⟨g, 0, none⟩)), .eq (.pointer (some ⟨b6, 1, none⟩)), .eq (.int .i64 q.n), .eq (.pointer (some ⟨b6, 2, none⟩)), .eq (.int .i64 q.i), .eq (.int .i64 V2), .eq (.pointer (some ⟨r, 0, none⟩)), .eq (.pointer (some ⟨b6, 1, none⟩)), .eq (.int .i64 q.n), .eq (.pointer (some ⟨b6, 2, none⟩)), .eq (.int .i64 q.i), .eq (.int .i64 V2), .eq (.bool false), .eq (.bool false), .eq (.bool false), .eq (.pointer (some ⟨g, 0, none⟩)), .eq (.pointer (some ⟨b6, 1, none⟩)), .eq (.int .i64 q.n), .eq (.pointer (some ⟨b6, 2, none⟩)), .eq (.int .i64 q.i), .eq (.int .i64 V3), .eq (.int .i64 V3), .eq (.bool false), .eq (.bool false)] (by kernel_rfl) rfl (by kernel_rfl) ?_ ?_
          · refine sv 1 rfl rfl rfl (fun a u hE hD hk => exec_move (.tmp 7) _ rfl (hE 7 (.bool true) (by kernel_rfl) (by kernel_rfl))) ?_
            refine sv 2 rfl rfl rfl (fun a u hE hD hk => exec_not _ (.tmp 101) true rfl (hD 0 101 (by kernel_rfl))) ?_
            refine sv 3 rfl rfl rfl (fun a u hE hD hk => exec_move (.tmp 102) _ rfl (hD 1 102 (by kernel_rfl))) ?_
            refine fsteps_cons 4 rfl (fun a u hE hD hk => f_val (o := ⟨some 104, _, _, _, _, _⟩) (.pointer (some ⟨g, 0, none⟩)) rfl (wanted_at (b := false) false rfl rfl (hD 2 103 (by kernel_rfl))) (exec_move (.tmp 3) _ rfl (hE 3 (.pointer (some ⟨g, 0, none⟩)) (by kernel_rfl) (by kernel_rfl))) rfl) ?_
            refine fsteps_cons 5 rfl (fun a u hE hD hk => f_val (o := ⟨some 105, _, _, _, _, _⟩) (.pointer (some ⟨b6, 1, none⟩)) rfl (wanted_at (b := false) false rfl rfl (hD 2 103 (by kernel_rfl))) (exec_fldo 41 1 1 (.tmp 6) (b6) (0) (1) rfl (hE 6 (.pointer (some ⟨b6, 0, none⟩)) (by kernel_rfl) (by kernel_rfl)) (by kernel_rfl) rfl) rfl) ?_
            refine fsteps_cons 6 rfl (fun a u hE hD hk => f_val (o := ⟨some 106, _, _, _, _, _⟩) (.int .i64 q.n) rfl (wanted_at (b := false) false rfl rfl (hD 2 103 (by kernel_rfl))) (exec_loadi 3 Try.underlying3 (.tmp 105) ⟨b6, 1, none⟩ (.int .i64 q.n) rfl (hD 4 105 (by kernel_rfl)) (range_int (range_kept HCa.out hk) 1 _ rfl)) rfl) ?_
            refine fsteps_cons 7 rfl (fun a u hE hD hk => f_call (o := ⟨some 107, _, _, _, _, _⟩) 10 #[.pointer (some ⟨g, 0, none⟩), .int .i64 q.n] rfl (wanted_at (b := false) false rfl rfl (hD 2 103 (by kernel_rfl))) (exec_call 10 _ [.tmp 104, .tmp 106] _ [.pointer (some ⟨g, 0, none⟩), .int .i64 q.n] Try.func10 (by kernel_rfl) (by kernel_rfl) rfl (show [a.eval (.tmp 104), a.eval (.tmp 106)] = [.pointer (some ⟨g, 0, none⟩), .int .i64 q.n] from (by rw [show a.eval (.tmp 104) = .pointer (some ⟨g, 0, none⟩) from (hD 3 104 (by kernel_rfl)), show a.eval (.tmp 106) = .int .i64 q.n from (hD 5 106 (by kernel_rfl))] <;> rfl)) u) (all_at (HBa.out.kept hk) HI2.out HV1.out)) ?_
            refine fsteps_cons 8 rfl (fun a u hE hD hk => f_val (o := ⟨some 108, _, _, _, _, _⟩) (.pointer (some ⟨r, 0, none⟩)) rfl (wanted_at (b := false) false rfl rfl (hD 2 103 (by kernel_rfl))) (exec_move (.tmp 4) _ rfl (hE 4 (.pointer (some ⟨r, 0, none⟩)) (by kernel_rfl) (by kernel_rfl))) rfl) ?_
            refine fsteps_cons 9 rfl (fun a u hE hD hk => f_val (o := ⟨some 109, _, _, _, _, _⟩) (.pointer (some ⟨b6, 1, none⟩)) rfl (wanted_at (b := false) false rfl rfl (hD 2 103 (by kernel_rfl))) (exec_fldo 41 1 1 (.tmp 6) (b6) (0) (1) rfl (hE 6 (.pointer (some ⟨b6, 0, none⟩)) (by kernel_rfl) (by kernel_rfl)) (by kernel_rfl) rfl) rfl) ?_
            refine fsteps_cons 10 rfl (fun a u hE hD hk => f_val (o := ⟨some 110, _, _, _, _, _⟩) (.int .i64 q.n) rfl (wanted_at (b := false) false rfl rfl (hD 2 103 (by kernel_rfl))) (exec_loadi 3 Try.underlying3 (.tmp 109) ⟨b6, 1, none⟩ (.int .i64 q.n) rfl (hD 8 109 (by kernel_rfl)) (range_int (range_kept HCa.out hk) 1 _ rfl)) rfl) ?_
            refine fsteps_cons 11 rfl (fun a u hE hD hk => f_call (o := ⟨some 111, _, _, _, _, _⟩) 15 #[.pointer (some ⟨r, 0, none⟩), .int .i64 q.n] rfl (wanted_at (b := false) false rfl rfl (hD 2 103 (by kernel_rfl))) (exec_call 15 _ [.tmp 108, .tmp 110] _ [.pointer (some ⟨r, 0, none⟩), .int .i64 q.n] Try.func15 (by kernel_rfl) (by kernel_rfl) rfl (show [a.eval (.tmp 108), a.eval (.tmp 110)] = [.pointer (some ⟨r, 0, none⟩), .int .i64 q.n] from (by rw [show a.eval (.tmp 108) = .pointer (some ⟨r, 0, none⟩) from (hD 7 108 (by kernel_rfl)), show a.eval (.tmp 110) = .int .i64 q.n from (hD 9 110 (by kernel_rfl))] <;> rfl)) u) (rall_at (HRa.out.kept hk) HI2.out HV1.out)) ?_
            refine fsteps_cons 12 rfl (fun a u hE hD hk => f_as (show ((decide ((V1 : Int) ≠ (V1 : Int))) : Bool) = false from decide_eq_false (by omega)) (f_val (o := ⟨some 112, _, _, _, _, _⟩) (.bool (decide ((V1 : Int) ≠ (V1 : Int)))) rfl (wanted_at (b := false) false rfl rfl (hD 2 103 (by kernel_rfl))) (exec_nen (p := V1) (q := V1) rfl (hD 6 107 (by kernel_rfl)) (hD 10 111 (by kernel_rfl))) rfl)) ?_
            refine sv 13 rfl rfl rfl (fun a u hE hD hk => exec_pickF (.tmp 103) (.const (.bool true)) (.tmp 112) (.bool false) rfl (hD 2 103 (by kernel_rfl)) (hD 11 112 (by kernel_rfl))) ?_
            refine sv 14 rfl rfl rfl (fun a u hE hD hk => exec_move (.tmp 113) _ rfl (hD 12 113 (by kernel_rfl))) ?_
            refine fsteps_cons 15 rfl (fun a u hE hD hk => f_val (o := ⟨some 115, _, _, _, _, _⟩) (.pointer (some ⟨g, 0, none⟩)) rfl (wanted_at (b := false) false rfl rfl (hD 13 114 (by kernel_rfl))) (exec_move (.tmp 3) _ rfl (hE 3 (.pointer (some ⟨g, 0, none⟩)) (by kernel_rfl) (by kernel_rfl))) rfl) ?_
            refine fsteps_cons 16 rfl (fun a u hE hD hk => f_val (o := ⟨some 116, _, _, _, _, _⟩) (.pointer (some ⟨b6, 1, none⟩)) rfl (wanted_at (b := false) false rfl rfl (hD 13 114 (by kernel_rfl))) (exec_fldo 41 1 1 (.tmp 6) (b6) (0) (1) rfl (hE 6 (.pointer (some ⟨b6, 0, none⟩)) (by kernel_rfl) (by kernel_rfl)) (by kernel_rfl) rfl) rfl) ?_
            refine fsteps_cons 17 rfl (fun a u hE hD hk => f_val (o := ⟨some 117, _, _, _, _, _⟩) (.int .i64 q.n) rfl (wanted_at (b := false) false rfl rfl (hD 13 114 (by kernel_rfl))) (exec_loadi 3 Try.underlying3 (.tmp 116) ⟨b6, 1, none⟩ (.int .i64 q.n) rfl (hD 15 116 (by kernel_rfl)) (range_int (range_kept HCa.out hk) 1 _ rfl)) rfl) ?_
            refine fsteps_cons 18 rfl (fun a u hE hD hk => f_val (o := ⟨some 118, _, _, _, _, _⟩) (.pointer (some ⟨b6, 2, none⟩)) rfl (wanted_at (b := false) false rfl rfl (hD 13 114 (by kernel_rfl))) (exec_fldo 41 2 2 (.tmp 6) (b6) (0) (2) rfl (hE 6 (.pointer (some ⟨b6, 0, none⟩)) (by kernel_rfl) (by kernel_rfl)) (by kernel_rfl) rfl) rfl) ?_
            refine fsteps_cons 19 rfl (fun a u hE hD hk => f_val (o := ⟨some 119, _, _, _, _, _⟩) (.int .i64 q.i) rfl (wanted_at (b := false) false rfl rfl (hD 13 114 (by kernel_rfl))) (exec_loadi 3 Try.underlying3 (.tmp 118) ⟨b6, 2, none⟩ (.int .i64 q.i) rfl (hD 17 118 (by kernel_rfl)) (range_int (range_kept HCa.out hk) 2 _ rfl)) rfl) ?_
            refine fsteps_cons 20 rfl (fun a u hE hD hk => f_call (o := ⟨some 120, _, _, _, _, _⟩) 12 #[.pointer (some ⟨g, 0, none⟩), .int .i64 q.n, .int .i64 q.i] rfl (wanted_at (b := false) false rfl rfl (hD 13 114 (by kernel_rfl))) (exec_call 12 _ [.tmp 115, .tmp 117, .tmp 119] _ [.pointer (some ⟨g, 0, none⟩), .int .i64 q.n, .int .i64 q.i] Try.func12 (by kernel_rfl) (by kernel_rfl) rfl (show [a.eval (.tmp 115), a.eval (.tmp 117), a.eval (.tmp 119)] = [.pointer (some ⟨g, 0, none⟩), .int .i64 q.n, .int .i64 q.i] from (by rw [show a.eval (.tmp 115) = .pointer (some ⟨g, 0, none⟩) from (hD 14 115 (by kernel_rfl)), show a.eval (.tmp 117) = .int .i64 q.n from (hD 16 117 (by kernel_rfl)), show a.eval (.tmp 119) = .int .i64 q.i from (hD 18 119 (by kernel_rfl))] <;> rfl)) u) (pos_at (HBa.out.kept hk) HV2.out)) ?_
            refine fsteps_cons 21 rfl (fun a u hE hD hk => f_val (o := ⟨some 121, _, _, _, _, _⟩) (.pointer (some ⟨r, 0, none⟩)) rfl (wanted_at (b := false) false rfl rfl (hD 13 114 (by kernel_rfl))) (exec_move (.tmp 4) _ rfl (hE 4 (.pointer (some ⟨r, 0, none⟩)) (by kernel_rfl) (by kernel_rfl))) rfl) ?_
            refine fsteps_cons 22 rfl (fun a u hE hD hk => f_val (o := ⟨some 122, _, _, _, _, _⟩) (.pointer (some ⟨b6, 1, none⟩)) rfl (wanted_at (b := false) false rfl rfl (hD 13 114 (by kernel_rfl))) (exec_fldo 41 1 1 (.tmp 6) (b6) (0) (1) rfl (hE 6 (.pointer (some ⟨b6, 0, none⟩)) (by kernel_rfl) (by kernel_rfl)) (by kernel_rfl) rfl) rfl) ?_
            refine fsteps_cons 23 rfl (fun a u hE hD hk => f_val (o := ⟨some 123, _, _, _, _, _⟩) (.int .i64 q.n) rfl (wanted_at (b := false) false rfl rfl (hD 13 114 (by kernel_rfl))) (exec_loadi 3 Try.underlying3 (.tmp 122) ⟨b6, 1, none⟩ (.int .i64 q.n) rfl (hD 21 122 (by kernel_rfl)) (range_int (range_kept HCa.out hk) 1 _ rfl)) rfl) ?_
            refine fsteps_cons 24 rfl (fun a u hE hD hk => f_val (o := ⟨some 124, _, _, _, _, _⟩) (.pointer (some ⟨b6, 2, none⟩)) rfl (wanted_at (b := false) false rfl rfl (hD 13 114 (by kernel_rfl))) (exec_fldo 41 2 2 (.tmp 6) (b6) (0) (2) rfl (hE 6 (.pointer (some ⟨b6, 0, none⟩)) (by kernel_rfl) (by kernel_rfl)) (by kernel_rfl) rfl) rfl) ?_
            refine fsteps_cons 25 rfl (fun a u hE hD hk => f_val (o := ⟨some 125, _, _, _, _, _⟩) (.int .i64 q.i) rfl (wanted_at (b := false) false rfl rfl (hD 13 114 (by kernel_rfl))) (exec_loadi 3 Try.underlying3 (.tmp 124) ⟨b6, 2, none⟩ (.int .i64 q.i) rfl (hD 23 124 (by kernel_rfl)) (range_int (range_kept HCa.out hk) 2 _ rfl)) rfl) ?_
            refine fsteps_cons 26 rfl (fun a u hE hD hk => f_call (o := ⟨some 126, _, _, _, _, _⟩) 16 #[.pointer (some ⟨r, 0, none⟩), .int .i64 q.n, .int .i64 q.i] rfl (wanted_at (b := false) false rfl rfl (hD 13 114 (by kernel_rfl))) (exec_call 16 _ [.tmp 121, .tmp 123, .tmp 125] _ [.pointer (some ⟨r, 0, none⟩), .int .i64 q.n, .int .i64 q.i] Try.func16 (by kernel_rfl) (by kernel_rfl) rfl (show [a.eval (.tmp 121), a.eval (.tmp 123), a.eval (.tmp 125)] = [.pointer (some ⟨r, 0, none⟩), .int .i64 q.n, .int .i64 q.i] from (by rw [show a.eval (.tmp 121) = .pointer (some ⟨r, 0, none⟩) from (hD 20 121 (by kernel_rfl)), show a.eval (.tmp 123) = .int .i64 q.n from (hD 22 123 (by kernel_rfl)), show a.eval (.tmp 125) = .int .i64 q.i from (hD 24 125 (by kernel_rfl))] <;> rfl)) u) (rpos_at (HRa.out.kept hk) HV2.out)) ?_
            refine fsteps_cons 27 rfl (fun a u hE hD hk => f_as (show ((decide ((V2 : Int) ≠ (V2 : Int))) : Bool) = false from decide_eq_false (by omega)) (f_val (o := ⟨some 127, _, _, _, _, _⟩) (.bool (decide ((V2 : Int) ≠ (V2 : Int)))) rfl (wanted_at (b := false) false rfl rfl (hD 13 114 (by kernel_rfl))) (exec_nen (p := V2) (q := V2) rfl (hD 19 120 (by kernel_rfl)) (hD 25 126 (by kernel_rfl))) rfl)) ?_
            refine sv 28 rfl rfl rfl (fun a u hE hD hk => exec_pickF (.tmp 114) (.const (.bool true)) (.tmp 127) (.bool false) rfl (hD 13 114 (by kernel_rfl)) (hD 26 127 (by kernel_rfl))) ?_
            refine sv 29 rfl rfl rfl (fun a u hE hD hk => exec_move (.tmp 128) _ rfl (hD 27 128 (by kernel_rfl))) ?_
            refine fsteps_cons 30 rfl (fun a u hE hD hk => f_val (o := ⟨some 130, _, _, _, _, _⟩) (.pointer (some ⟨g, 0, none⟩)) rfl (wanted_at (b := false) false rfl rfl (hD 28 129 (by kernel_rfl))) (exec_move (.tmp 3) _ rfl (hE 3 (.pointer (some ⟨g, 0, none⟩)) (by kernel_rfl) (by kernel_rfl))) rfl) ?_
            refine fsteps_cons 31 rfl (fun a u hE hD hk => f_val (o := ⟨some 131, _, _, _, _, _⟩) (.pointer (some ⟨b6, 1, none⟩)) rfl (wanted_at (b := false) false rfl rfl (hD 28 129 (by kernel_rfl))) (exec_fldo 41 1 1 (.tmp 6) (b6) (0) (1) rfl (hE 6 (.pointer (some ⟨b6, 0, none⟩)) (by kernel_rfl) (by kernel_rfl)) (by kernel_rfl) rfl) rfl) ?_
            refine fsteps_cons 32 rfl (fun a u hE hD hk => f_val (o := ⟨some 132, _, _, _, _, _⟩) (.int .i64 q.n) rfl (wanted_at (b := false) false rfl rfl (hD 28 129 (by kernel_rfl))) (exec_loadi 3 Try.underlying3 (.tmp 131) ⟨b6, 1, none⟩ (.int .i64 q.n) rfl (hD 30 131 (by kernel_rfl)) (range_int (range_kept HCa.out hk) 1 _ rfl)) rfl) ?_
            refine fsteps_cons 33 rfl (fun a u hE hD hk => f_val (o := ⟨some 133, _, _, _, _, _⟩) (.pointer (some ⟨b6, 2, none⟩)) rfl (wanted_at (b := false) false rfl rfl (hD 28 129 (by kernel_rfl))) (exec_fldo 41 2 2 (.tmp 6) (b6) (0) (2) rfl (hE 6 (.pointer (some ⟨b6, 0, none⟩)) (by kernel_rfl) (by kernel_rfl)) (by kernel_rfl) rfl) rfl) ?_
            refine fsteps_cons 34 rfl (fun a u hE hD hk => f_val (o := ⟨some 134, _, _, _, _, _⟩) (.int .i64 q.i) rfl (wanted_at (b := false) false rfl rfl (hD 28 129 (by kernel_rfl))) (exec_loadi 3 Try.underlying3 (.tmp 133) ⟨b6, 2, none⟩ (.int .i64 q.i) rfl (hD 32 133 (by kernel_rfl)) (range_int (range_kept HCa.out hk) 2 _ rfl)) rfl) ?_
            refine fsteps_cons 35 rfl (fun a u hE hD hk => f_call (o := ⟨some 135, _, _, _, _, _⟩) 17 #[.pointer (some ⟨g, 0, none⟩), .int .i64 q.n, .int .i64 q.i] rfl (wanted_at (b := false) false rfl rfl (hD 28 129 (by kernel_rfl))) (exec_call 17 _ [.tmp 130, .tmp 132, .tmp 134] _ [.pointer (some ⟨g, 0, none⟩), .int .i64 q.n, .int .i64 q.i] Try.func17 (by kernel_rfl) (by kernel_rfl) rfl (show [a.eval (.tmp 130), a.eval (.tmp 132), a.eval (.tmp 134)] = [.pointer (some ⟨g, 0, none⟩), .int .i64 q.n, .int .i64 q.i] from (by rw [show a.eval (.tmp 130) = .pointer (some ⟨g, 0, none⟩) from (hD 29 130 (by kernel_rfl)), show a.eval (.tmp 132) = .int .i64 q.n from (hD 31 132 (by kernel_rfl)), show a.eval (.tmp 134) = .int .i64 q.i from (hD 33 134 (by kernel_rfl))] <;> rfl)) u) (openAt_at (HBa.out.kept hk) HV3.out)) ?_
            refine fsteps_cons 36 rfl (fun a u hE hD hk => f_val (o := ⟨some 136, _, _, _, _, _⟩) (.int .i64 V3) rfl (wanted_at (b := false) false rfl rfl (hD 28 129 (by kernel_rfl))) (exec_move (.tmp 8) _ rfl (hE 8 (.int .i64 V3) (by kernel_rfl) (by kernel_rfl))) rfl) ?_
            refine fsteps_cons 37 rfl (fun a u hE hD hk => f_as (show ((decide ((V3 : Int) ≠ (V3 : Int))) : Bool) = false from decide_eq_false (by omega)) (f_val (o := ⟨some 137, _, _, _, _, _⟩) (.bool (decide ((V3 : Int) ≠ (V3 : Int)))) rfl (wanted_at (b := false) false rfl rfl (hD 28 129 (by kernel_rfl))) (exec_nen (p := V3) (q := V3) rfl (hD 34 135 (by kernel_rfl)) (hD 35 136 (by kernel_rfl))) rfl)) ?_
            refine sv 38 rfl rfl rfl (fun a u hE hD hk => exec_pickF (.tmp 129) (.const (.bool true)) (.tmp 137) (.bool false) rfl (hD 28 129 (by kernel_rfl)) (hD 36 137 (by kernel_rfl))) ?_
            exact fsteps_nil
          intro gv wz hV kz
          rw [show dstsOf _ 38 = [101, 102, 103, 104, 105, 106, 107, 108, 109, 110, 111, 112, 113, 114, 115, 116, 117, 118, 119, 120, 121, 122, 123, 124, 125, 126, 127, 128, 129, 130, 131, 132, 133, 134, 135, 136, 137, 138] by kernel_rfl]
          simp only [List.foldl_cons, List.foldl_nil, List.setIfInBounds_toArray, List.set_cons_succ, List.set_cons_zero, List.drop_succ_cons, List.drop_zero]
          rw [show gv 138 = .bool false from hV 37 138 (by kernel_rfl)]
          clear hV
          refine wpList_nil ?_
          have HBz := Lib.hid (HBa.out.kept kz)
          have HRz := Lib.hid (HRa.out.kept kz)
          have kwz := kwa.trans kz
          go_wp2
          exact ⟨⟨k + 1, B2, by simp, by omega, by omega, HBz, HRz, HI2, kwz⟩, by simp [intOf]; omega⟩
      · by_cases h2 : q.k = 2
        · skip
          go_upto_region 10 with fail
          refine wp_text 2 [.eq (.bool false), .eq (.bool false)] rfl (by kernel_rfl) ?_ ?_
          · refine fsteps_cons 1 rfl (fun a u hE hD hk => f_as (show ((decide ((q.k : Int) = (1 : Int))) : Bool) = false from decide_eq_false h1) (f_val (o := ⟨some 31, _, _, _, _, _⟩) (.bool (decide ((q.k : Int) = (1 : Int)))) rfl (wanted_none rfl _) (exec_eqn (p := q.k) (q := 1) rfl (hE 29 (.int .i64 q.k) (by kernel_rfl) (by kernel_rfl)) rfl) rfl)) ?_
            refine sv 2 rfl rfl rfl (fun a u hE hD hk => exec_assign (.tmp 31) _ rfl (hD 0 31 (by kernel_rfl))) ?_
            exact fsteps_nil
          intro gv wq hV kk
          rw [show dstsOf _ 2 = [31, 30] by kernel_rfl]
          simp only [List.foldl_cons, List.foldl_nil, List.setIfInBounds_toArray, List.set_cons_succ, List.set_cons_zero, List.drop_succ_cons, List.drop_zero]
          rw [show gv 30 = .bool false from hV 1 30 (by kernel_rfl)]
          clear hV
          refine wpList_nil ?_
          have HBq := Lib.hid (HB7.out.kept kk)
          have HRq := Lib.hid (HR7.out.kept kk)
          have HCq := Lib.hid (range_kept HC7.out kk)
          have kwq := kw7.trans kk
          clear HB7 HR7 HC7 kw7 kk
          go_upto_region 12 with fail
          refine wp_text 2 [.eq (.bool true), .eq (.bool true)] rfl (by kernel_rfl) ?_ ?_
          · refine fsteps_cons 1 rfl (fun a u hE hD hk => f_as (show ((decide ((q.k : Int) = (2 : Int))) : Bool) = true from decide_eq_true h2) (f_val (o := ⟨some 50, _, _, _, _, _⟩) (.bool (decide ((q.k : Int) = (2 : Int)))) rfl (wanted_none rfl _) (exec_eqn (p := q.k) (q := 2) rfl (hE 29 (.int .i64 q.k) (by kernel_rfl) (by kernel_rfl)) rfl) rfl)) ?_
            refine sv 2 rfl rfl rfl (fun a u hE hD hk => exec_assign (.tmp 50) _ rfl (hD 0 50 (by kernel_rfl))) ?_
            exact fsteps_nil
          intro gv w8 hV kk
          rw [show dstsOf _ 2 = [50, 49] by kernel_rfl]
          simp only [List.foldl_cons, List.foldl_nil, List.setIfInBounds_toArray, List.set_cons_succ, List.set_cons_zero, List.drop_succ_cons, List.drop_zero]
          rw [show gv 49 = .bool true from hV 1 49 (by kernel_rfl)]
          clear hV
          refine wpList_nil ?_
          have HB8 := Lib.hid (HBq.out.kept kk)
          have HR8 := Lib.hid (HRq.out.kept kk)
          have HC8 := Lib.hid (range_kept HCq.out kk)
          have kw8 := kwq.trans kk
          clear HBq HRq HCq kwq kk
          clear h1 h2
          obtain ⟨x, hx⟩ : ∃ x, trB B q.n q.i q.s q.q = x := ⟨_, rfl⟩
          obtain ⟨B2, hB2⟩ : ∃ B2, trM B q.n q.i q.s q.q = B2 := ⟨_, rfl⟩
          have HI2 : Hid B2.Ok := by show Bal.Ok _; rw [← hB2]; exact HI.out.tr _ _ _ _
          have HX := Lib.hid hx
          have HM := Lib.hid hB2
          clear hx hB2
          go_upto_region 13 with fail
          refine wp_freeV 19 9 [0, 1, 2, 3, 4, 5, 6, 7, 8, 10, 11, 12, 13, 14, 15, 16, 17, 18] [.eq (.pointer (some ⟨g, 0, none⟩)), .eq (.pointer (some ⟨b6, 1, none⟩)), .eq (.int .i64 q.n), .eq (.pointer (some ⟨b6, 2, none⟩)), .eq (.int .i64 q.i), .eq (.pointer (some ⟨b6, 3, none⟩)), .eq (.int .i64 q.s), .eq (.pointer (some ⟨b6, 4, none⟩)), .eq (.int .i64 q.q), .both (.bool x) (fun u => Blk u g 49 B2.lc) (fun w w' h hk => h.kept hk), .eq (.pointer (some ⟨r, 0, none⟩)), .eq (.pointer (some ⟨b6, 1, none⟩)), .eq (.int .i64 q.n), .eq (.pointer (some ⟨b6, 2, none⟩)), .eq (.int .i64 q.i), .eq (.pointer (some ⟨b6, 3, none⟩)), .eq (.int .i64 q.s), .eq (.pointer (some ⟨b6, 4, none⟩)), .eq (.int .i64 q.q)] ((· = g)) (by kernel_rfl) rfl (by omega) (by kernel_rfl) (by kernel_rfl) ?_ ?_ (fun a u hE hD hk => v_call (o := ⟨some 60, _, _, _, _, _⟩) 11 #[.pointer (some ⟨g, 0, none⟩), .int .i64 q.n, .int .i64 q.i, .int .i64 q.s, .int .i64 q.q] rfl (wanted_none rfl _) (exec_call 11 _ [.tmp 51, .tmp 53, .tmp 55, .tmp 57, .tmp 59] _ [.pointer (some ⟨g, 0, none⟩), .int .i64 q.n, .int .i64 q.i, .int .i64 q.s, .int .i64 q.q] Try.func11 (by kernel_rfl) (by kernel_rfl) rfl (show [a.eval (.tmp 51), a.eval (.tmp 53), a.eval (.tmp 55), a.eval (.tmp 57), a.eval (.tmp 59)] = [.pointer (some ⟨g, 0, none⟩), .int .i64 q.n, .int .i64 q.i, .int .i64 q.s, .int .i64 q.q] from (by rw [show a.eval (.tmp 51) = .pointer (some ⟨g, 0, none⟩) from (hD 0 51 (by kernel_rfl)), show a.eval (.tmp 53) = .int .i64 q.n from (hD 2 53 (by kernel_rfl)), show a.eval (.tmp 55) = .int .i64 q.i from (hD 4 55 (by kernel_rfl)), show a.eval (.tmp 57) = .int .i64 q.s from (hD 6 57 (by kernel_rfl)), show a.eval (.tmp 59) = .int .i64 q.q from (hD 8 59 (by kernel_rfl))] <;> rfl)) u) ((trades_at (HB8.out.kept hk) HI.out HX.out HM.out).mono (fun e w' ⟨h1, h2, h3⟩ => ⟨_, h1, ⟨rfl, h2⟩, h3⟩))) ?_
          · intro i hi
            have hi2 : i = 0 ∨ i = 1 ∨ i = 2 ∨ i = 3 ∨ i = 4 ∨ i = 5 ∨ i = 6 ∨ i = 7 ∨ i = 8 ∨ i = 10 ∨ i = 11 ∨ i = 12 ∨ i = 13 ∨ i = 14 ∨ i = 15 ∨ i = 16 ∨ i = 17 ∨ i = 18 := by simpa using hi
            rcases hi2 with rfl | rfl | rfl | rfl | rfl | rfl | rfl | rfl | rfl | rfl | rfl | rfl | rfl | rfl | rfl | rfl | rfl | rfl
            · exact Kn.safe_eq _ _
            · exact Kn.safe_eq _ _
            · exact Kn.safe_eq _ _
            · exact Kn.safe_eq _ _
            · exact Kn.safe_eq _ _
            · exact Kn.safe_eq _ _
            · exact Kn.safe_eq _ _
            · exact Kn.safe_eq _ _
            · exact Kn.safe_eq _ _
            · exact Kn.safe_eq _ _
            · exact Kn.safe_eq _ _
            · exact Kn.safe_eq _ _
            · exact Kn.safe_eq _ _
            · exact Kn.safe_eq _ _
            · exact Kn.safe_eq _ _
            · exact Kn.safe_eq _ _
            · exact Kn.safe_eq _ _
            · exact Kn.safe_eq _ _
          · refine vsteps_cons 1 rfl (fun a u hE hD hk => f_val (o := ⟨some 51, _, _, _, _, _⟩) (.pointer (some ⟨g, 0, none⟩)) rfl (wanted_none rfl _) (exec_move (.tmp 3) _ rfl (hE 3 (.pointer (some ⟨g, 0, none⟩)) (by kernel_rfl) (by kernel_rfl))) rfl) ?_
            refine vsteps_cons 2 rfl (fun a u hE hD hk => f_val (o := ⟨some 52, _, _, _, _, _⟩) (.pointer (some ⟨b6, 1, none⟩)) rfl (wanted_none rfl _) (exec_fldo 41 1 1 (.tmp 6) (b6) (0) (1) rfl (hE 6 (.pointer (some ⟨b6, 0, none⟩)) (by kernel_rfl) (by kernel_rfl)) (by kernel_rfl) rfl) rfl) ?_
            refine vsteps_cons 3 rfl (fun a u hE hD hk => f_val (o := ⟨some 53, _, _, _, _, _⟩) (.int .i64 q.n) rfl (wanted_none rfl _) (exec_loadi 3 Try.underlying3 (.tmp 52) ⟨b6, 1, none⟩ (.int .i64 q.n) rfl (hD 1 52 (by kernel_rfl)) (range_int (range_keep HC8.out hk (hn6)) 1 _ rfl)) rfl) ?_
            refine vsteps_cons 4 rfl (fun a u hE hD hk => f_val (o := ⟨some 54, _, _, _, _, _⟩) (.pointer (some ⟨b6, 2, none⟩)) rfl (wanted_none rfl _) (exec_fldo 41 2 2 (.tmp 6) (b6) (0) (2) rfl (hE 6 (.pointer (some ⟨b6, 0, none⟩)) (by kernel_rfl) (by kernel_rfl)) (by kernel_rfl) rfl) rfl) ?_
            refine vsteps_cons 5 rfl (fun a u hE hD hk => f_val (o := ⟨some 55, _, _, _, _, _⟩) (.int .i64 q.i) rfl (wanted_none rfl _) (exec_loadi 3 Try.underlying3 (.tmp 54) ⟨b6, 2, none⟩ (.int .i64 q.i) rfl (hD 3 54 (by kernel_rfl)) (range_int (range_keep HC8.out hk (hn6)) 2 _ rfl)) rfl) ?_
            refine vsteps_cons 6 rfl (fun a u hE hD hk => f_val (o := ⟨some 56, _, _, _, _, _⟩) (.pointer (some ⟨b6, 3, none⟩)) rfl (wanted_none rfl _) (exec_fldo 41 3 3 (.tmp 6) (b6) (0) (3) rfl (hE 6 (.pointer (some ⟨b6, 0, none⟩)) (by kernel_rfl) (by kernel_rfl)) (by kernel_rfl) rfl) rfl) ?_
            refine vsteps_cons 7 rfl (fun a u hE hD hk => f_val (o := ⟨some 57, _, _, _, _, _⟩) (.int .i64 q.s) rfl (wanted_none rfl _) (exec_loadi 3 Try.underlying3 (.tmp 56) ⟨b6, 3, none⟩ (.int .i64 q.s) rfl (hD 5 56 (by kernel_rfl)) (range_int (range_keep HC8.out hk (hn6)) 3 _ rfl)) rfl) ?_
            refine vsteps_cons 8 rfl (fun a u hE hD hk => f_val (o := ⟨some 58, _, _, _, _, _⟩) (.pointer (some ⟨b6, 4, none⟩)) rfl (wanted_none rfl _) (exec_fldo 41 4 4 (.tmp 6) (b6) (0) (4) rfl (hE 6 (.pointer (some ⟨b6, 0, none⟩)) (by kernel_rfl) (by kernel_rfl)) (by kernel_rfl) rfl) rfl) ?_
            refine vsteps_cons 9 rfl (fun a u hE hD hk => f_val (o := ⟨some 59, _, _, _, _, _⟩) (.int .i64 q.q) rfl (wanted_none rfl _) (exec_loadi 3 Try.underlying3 (.tmp 58) ⟨b6, 4, none⟩ (.int .i64 q.q) rfl (hD 7 58 (by kernel_rfl)) (range_int (range_keep HC8.out hk (hn6)) 4 _ rfl)) rfl) ?_
            refine vsteps_turn 10 rfl rfl ?_
            refine vsteps_cons 11 rfl (fun a u hE hD hk => f_val (o := ⟨some 61, _, _, _, _, _⟩) (.pointer (some ⟨r, 0, none⟩)) rfl (wanted_none rfl _) (exec_move (.tmp 4) _ rfl (hE 4 (.pointer (some ⟨r, 0, none⟩)) (by kernel_rfl) (by kernel_rfl))) rfl) ?_
            refine vsteps_cons 12 rfl (fun a u hE hD hk => f_val (o := ⟨some 62, _, _, _, _, _⟩) (.pointer (some ⟨b6, 1, none⟩)) rfl (wanted_none rfl _) (exec_fldo 41 1 1 (.tmp 6) (b6) (0) (1) rfl (hE 6 (.pointer (some ⟨b6, 0, none⟩)) (by kernel_rfl) (by kernel_rfl)) (by kernel_rfl) rfl) rfl) ?_
            refine vsteps_cons 13 rfl (fun a u hE hD hk => f_val (o := ⟨some 63, _, _, _, _, _⟩) (.int .i64 q.n) rfl (wanted_none rfl _) (exec_loadi 3 Try.underlying3 (.tmp 62) ⟨b6, 1, none⟩ (.int .i64 q.n) rfl (hD 11 62 (by kernel_rfl)) (range_int (range_keep HC8.out hk (hn6)) 1 _ rfl)) rfl) ?_
            refine vsteps_cons 14 rfl (fun a u hE hD hk => f_val (o := ⟨some 64, _, _, _, _, _⟩) (.pointer (some ⟨b6, 2, none⟩)) rfl (wanted_none rfl _) (exec_fldo 41 2 2 (.tmp 6) (b6) (0) (2) rfl (hE 6 (.pointer (some ⟨b6, 0, none⟩)) (by kernel_rfl) (by kernel_rfl)) (by kernel_rfl) rfl) rfl) ?_
            refine vsteps_cons 15 rfl (fun a u hE hD hk => f_val (o := ⟨some 65, _, _, _, _, _⟩) (.int .i64 q.i) rfl (wanted_none rfl _) (exec_loadi 3 Try.underlying3 (.tmp 64) ⟨b6, 2, none⟩ (.int .i64 q.i) rfl (hD 13 64 (by kernel_rfl)) (range_int (range_keep HC8.out hk (hn6)) 2 _ rfl)) rfl) ?_
            refine vsteps_cons 16 rfl (fun a u hE hD hk => f_val (o := ⟨some 66, _, _, _, _, _⟩) (.pointer (some ⟨b6, 3, none⟩)) rfl (wanted_none rfl _) (exec_fldo 41 3 3 (.tmp 6) (b6) (0) (3) rfl (hE 6 (.pointer (some ⟨b6, 0, none⟩)) (by kernel_rfl) (by kernel_rfl)) (by kernel_rfl) rfl) rfl) ?_
            refine vsteps_cons 17 rfl (fun a u hE hD hk => f_val (o := ⟨some 67, _, _, _, _, _⟩) (.int .i64 q.s) rfl (wanted_none rfl _) (exec_loadi 3 Try.underlying3 (.tmp 66) ⟨b6, 3, none⟩ (.int .i64 q.s) rfl (hD 15 66 (by kernel_rfl)) (range_int (range_keep HC8.out hk (hn6)) 3 _ rfl)) rfl) ?_
            refine vsteps_cons 18 rfl (fun a u hE hD hk => f_val (o := ⟨some 68, _, _, _, _, _⟩) (.pointer (some ⟨b6, 4, none⟩)) rfl (wanted_none rfl _) (exec_fldo 41 4 4 (.tmp 6) (b6) (0) (4) rfl (hE 6 (.pointer (some ⟨b6, 0, none⟩)) (by kernel_rfl) (by kernel_rfl)) (by kernel_rfl) rfl) rfl) ?_
            refine vsteps_cons 19 rfl (fun a u hE hD hk => f_val (o := ⟨some 69, _, _, _, _, _⟩) (.int .i64 q.q) rfl (wanted_none rfl _) (exec_loadi 3 Try.underlying3 (.tmp 68) ⟨b6, 4, none⟩ (.int .i64 q.q) rfl (hD 17 68 (by kernel_rfl)) (range_int (range_keep HC8.out hk (hn6)) 4 _ rfl)) rfl) ?_
            exact vsteps_nil
          intro gv wg hV kg
          rw [show dstsOf _ 19 = [51, 52, 53, 54, 55, 56, 57, 58, 59, 60, 61, 62, 63, 64, 65, 66, 67, 68, 69] by kernel_rfl]
          simp only [List.foldl_cons, List.foldl_nil, List.setIfInBounds_toArray, List.set_cons_succ, List.set_cons_zero, List.drop_succ_cons, List.drop_zero]
          rw [show gv 61 = .pointer (some ⟨r, 0, none⟩) from hV 10 61 (by kernel_rfl)]
          rw [show gv 63 = .int .i64 q.n from hV 12 63 (by kernel_rfl)]
          rw [show gv 65 = .int .i64 q.i from hV 14 65 (by kernel_rfl)]
          rw [show gv 67 = .int .i64 q.s from hV 16 67 (by kernel_rfl)]
          rw [show gv 69 = .int .i64 q.q from hV 18 69 (by kernel_rfl)]
          have hi60 : (fun u => Blk u g 49 B2.lc) wg := (hV 9 60 (by kernel_rfl)).2
          rw [show gv 60 = .bool x from (hV 9 60 (by kernel_rfl)).1]
          clear hV
          have HRg := Lib.hid (HR8.out.keep kg (by omega))
          have HCg := Lib.hid (range_keep HC8.out kg hn6)
          refine l_call (o := ⟨some 70, _, _, _, _, _⟩) 14 #[.pointer (some ⟨r, 0, none⟩), .int .i64 q.n, .int .i64 q.i, .int .i64 q.s, .int .i64 q.q] rfl (exec_call 14 _ [.tmp 61, .tmp 63, .tmp 65, .tmp 67, .tmp 69] _ _ Try.func14 (by kernel_rfl) (by kernel_rfl) rfl (by kernel_rfl) _) ?_
          refine (rtrades_at HRg.out HI.out HX.out HM.out).mono ?_
          rintro e w9 ⟨rfl, hR9, k9⟩
          refine ⟨_, rfl, ?_⟩
          simp only [Act.put, List.setIfInBounds_toArray, List.set_cons_succ, List.set_cons_zero]
          refine l_val (o := ⟨some 71, _, _, _, _, _⟩) (.bool true) rfl (exec_eqb (.tmp 60) (.tmp 70) _ x x true rfl (by kernel_rfl) (by kernel_rfl) (by simp)) ?_
          simp only [Act.put, List.setIfInBounds_toArray, List.set_cons_succ, List.set_cons_zero]
          refine l_val (o := ⟨some 7, _, _, _, _, _⟩) (.bool true) rfl (exec_assign (.tmp 71) (.bool true) rfl (by kernel_rfl)) ?_
          simp only [Act.put, List.setIfInBounds_toArray, List.set_cons_succ, List.set_cons_zero]
          refine wpList_nil ?_
          have HR9 := Lib.hid hR9
          have HB9 := Lib.hid (hi60.keep k9 (by omega))
          have HC9 := Lib.hid (range_keep HCg.out k9 hm6)
          have kw9 := kept_own (g := r) (kept_own kw8 hg kg) (by omega) k9
          clear HR8 HC8 HB8 hR9 hi60 HCg HRg kw8 kg k9 HX HM HI
          obtain ⟨V1, hV1⟩ : ∃ V, B2.all q.n = V := ⟨_, rfl⟩
          obtain ⟨V2, hV2⟩ : ∃ V, B2.pAt q.n q.i = V := ⟨_, rfl⟩
          obtain ⟨V3, hV3⟩ : ∃ V, B2.oAt q.n q.i = V := ⟨_, rfl⟩
          have HV1 := Lib.hid hV1
          have HV2 := Lib.hid hV2
          have HV3 := Lib.hid hV3
          clear hV1 hV2 hV3
          cases hT : thB q.n q.i with
          | false =>
            have HT := Lib.hid hT
            have h3 : V3 = 0 := by rw [← HV3.out]; exact pick2_out _ hT
            clear hT
            go_upto_region 15 with fail
            refine wp_text 18 [.eq (.pointer (some ⟨b6, 1, none⟩)), .eq (.int .i64 q.n), .eq (.bool (decide ((0 : Int) ≤ (q.n : Int)))), .eq (.bool (decide ((0 : Int) ≤ (q.n : Int)))), .cond (decide ((0 : Int) ≤ (q.n : Int))) (.eq (.pointer (some ⟨b6, 1, none⟩))), .cond (decide ((0 : Int) ≤ (q.n : Int))) (.eq (.int .i64 q.n)), .cond (decide ((0 : Int) ≤ (q.n : Int))) (.eq (.bool (decide ((q.n : Int) < (32 : Int))))), .eq (.bool ((decide ((0 : Int) ≤ (q.n : Int))) && (decide ((q.n : Int) < (32 : Int))))), .eq (.bool ((decide ((0 : Int) ≤ (q.n : Int))) && (decide ((q.n : Int) < (32 : Int))))), .cond ((decide ((0 : Int) ≤ (q.n : Int))) && (decide ((q.n : Int) < (32 : Int)))) (.eq (.pointer (some ⟨b6, 2, none⟩))), .cond ((decide ((0 : Int) ≤ (q.n : Int))) && (decide ((q.n : Int) < (32 : Int)))) (.eq (.int .i64 q.i)), .cond ((decide ((0 : Int) ≤ (q.n : Int))) && (decide ((q.n : Int) < (32 : Int)))) (.eq (.bool (decide ((0 : Int) ≤ (q.i : Int))))), .eq (.bool (((decide ((0 : Int) ≤ (q.n : Int))) && (decide ((q.n : Int) < (32 : Int)))) && (decide ((0 : Int) ≤ (q.i : Int))))), .eq (.bool (((decide ((0 : Int) ≤ (q.n : Int))) && (decide ((q.n : Int) < (32 : Int)))) && (decide ((0 : Int) ≤ (q.i : Int))))), .cond (((decide ((0 : Int) ≤ (q.n : Int))) && (decide ((q.n : Int) < (32 : Int)))) && (decide ((0 : Int) ≤ (q.i : Int)))) (.eq (.pointer (some ⟨b6, 2, none⟩))), .cond (((decide ((0 : Int) ≤ (q.n : Int))) && (decide ((q.n : Int) < (32 : Int)))) && (decide ((0 : Int) ≤ (q.i : Int)))) (.eq (.int .i64 q.i)), .cond (((decide ((0 : Int) ≤ (q.n : Int))) && (decide ((q.n : Int) < (32 : Int)))) && (decide ((0 : Int) ≤ (q.i : Int)))) (.eq (.bool (decide ((q.i : Int) < (8 : Int))))), .eq (.bool false)] rfl (by kernel_rfl) ?_ ?_
            · refine sv 1 rfl rfl rfl (fun a u hE hD hk => exec_fldo 41 1 1 (.tmp 6) (b6) (0) (1) rfl (hE 6 (.pointer (some ⟨b6, 0, none⟩)) (by kernel_rfl) (by kernel_rfl)) (by kernel_rfl) rfl) ?_
              refine sv 2 rfl rfl rfl (fun a u hE hD hk => exec_loadi 3 Try.underlying3 (.tmp 72) ⟨b6, 1, none⟩ (.int .i64 q.n) rfl (hD 0 72 (by kernel_rfl)) (range_int (range_kept HC9.out hk) 1 _ rfl)) ?_
              refine sv 3 rfl rfl rfl (fun a u hE hD hk => exec_gen (p := q.n) (q := 0) rfl (hD 1 73 (by kernel_rfl)) rfl) ?_
              refine sv 4 rfl rfl rfl (fun a u hE hD hk => exec_move (.tmp 74) _ rfl (hD 2 74 (by kernel_rfl))) ?_
              refine fsteps_cons 5 rfl (fun a u hE hD hk => f_if ((decide ((0 : Int) ≤ (q.n : Int)))) rfl rfl rfl (hD 3 75 (by kernel_rfl)) (fun hb => f_val (o := ⟨some 76, _, _, _, _, _⟩) (.pointer (some ⟨b6, 1, none⟩)) rfl (wanted_b rfl rfl (hD 3 75 (by kernel_rfl)) (eq_true_of hb)) (exec_fldo 41 1 1 (.tmp 6) (b6) (0) (1) rfl (hE 6 (.pointer (some ⟨b6, 0, none⟩)) (by kernel_rfl) (by kernel_rfl)) (by kernel_rfl) rfl) rfl)) ?_
              refine fsteps_cons 6 rfl (fun a u hE hD hk => f_if ((decide ((0 : Int) ≤ (q.n : Int)))) rfl rfl rfl (hD 3 75 (by kernel_rfl)) (fun hb => f_val (o := ⟨some 77, _, _, _, _, _⟩) (.int .i64 q.n) rfl (wanted_b rfl rfl (hD 3 75 (by kernel_rfl)) (eq_true_of hb)) (exec_loadi 3 Try.underlying3 (.tmp 76) ⟨b6, 1, none⟩ (.int .i64 q.n) rfl ((hD 4 76 (by kernel_rfl)).1 hb) (range_int (range_kept HC9.out hk) 1 _ rfl)) rfl)) ?_
              refine fsteps_cons 7 rfl (fun a u hE hD hk => f_if ((decide ((0 : Int) ≤ (q.n : Int)))) rfl rfl rfl (hD 3 75 (by kernel_rfl)) (fun hb => f_val (o := ⟨some 78, _, _, _, _, _⟩) (.bool (decide ((q.n : Int) < (32 : Int)))) rfl (wanted_b rfl rfl (hD 3 75 (by kernel_rfl)) (eq_true_of hb)) (exec_ltn (p := q.n) (q := 32) rfl ((hD 5 77 (by kernel_rfl)).1 hb) rfl) rfl)) ?_
              refine sv 8 rfl rfl rfl (fun a u hE hD hk => exec_pickand (.tmp 75) (.tmp 78) (.const (.bool false)) ((decide ((0 : Int) ≤ (q.n : Int)))) ((decide ((q.n : Int) < (32 : Int)))) rfl (hD 3 75 (by kernel_rfl)) (fun hb2 => ((hD 6 78 (by kernel_rfl)).1 hb2)) rfl) ?_
              refine sv 9 rfl rfl rfl (fun a u hE hD hk => exec_move (.tmp 79) _ rfl (hD 7 79 (by kernel_rfl))) ?_
              refine fsteps_cons 10 rfl (fun a u hE hD hk => f_if (((decide ((0 : Int) ≤ (q.n : Int))) && (decide ((q.n : Int) < (32 : Int))))) rfl rfl rfl (hD 8 80 (by kernel_rfl)) (fun hb => f_val (o := ⟨some 81, _, _, _, _, _⟩) (.pointer (some ⟨b6, 2, none⟩)) rfl (wanted_b rfl rfl (hD 8 80 (by kernel_rfl)) (eq_true_of hb)) (exec_fldo 41 2 2 (.tmp 6) (b6) (0) (2) rfl (hE 6 (.pointer (some ⟨b6, 0, none⟩)) (by kernel_rfl) (by kernel_rfl)) (by kernel_rfl) rfl) rfl)) ?_
              refine fsteps_cons 11 rfl (fun a u hE hD hk => f_if (((decide ((0 : Int) ≤ (q.n : Int))) && (decide ((q.n : Int) < (32 : Int))))) rfl rfl rfl (hD 8 80 (by kernel_rfl)) (fun hb => f_val (o := ⟨some 82, _, _, _, _, _⟩) (.int .i64 q.i) rfl (wanted_b rfl rfl (hD 8 80 (by kernel_rfl)) (eq_true_of hb)) (exec_loadi 3 Try.underlying3 (.tmp 81) ⟨b6, 2, none⟩ (.int .i64 q.i) rfl ((hD 9 81 (by kernel_rfl)).1 hb) (range_int (range_kept HC9.out hk) 2 _ rfl)) rfl)) ?_
              refine fsteps_cons 12 rfl (fun a u hE hD hk => f_if (((decide ((0 : Int) ≤ (q.n : Int))) && (decide ((q.n : Int) < (32 : Int))))) rfl rfl rfl (hD 8 80 (by kernel_rfl)) (fun hb => f_val (o := ⟨some 83, _, _, _, _, _⟩) (.bool (decide ((0 : Int) ≤ (q.i : Int)))) rfl (wanted_b rfl rfl (hD 8 80 (by kernel_rfl)) (eq_true_of hb)) (exec_gen (p := q.i) (q := 0) rfl ((hD 10 82 (by kernel_rfl)).1 hb) rfl) rfl)) ?_
              refine sv 13 rfl rfl rfl (fun a u hE hD hk => exec_pickand (.tmp 80) (.tmp 83) (.const (.bool false)) (((decide ((0 : Int) ≤ (q.n : Int))) && (decide ((q.n : Int) < (32 : Int))))) ((decide ((0 : Int) ≤ (q.i : Int)))) rfl (hD 8 80 (by kernel_rfl)) (fun hb2 => ((hD 11 83 (by kernel_rfl)).1 hb2)) rfl) ?_
              refine sv 14 rfl rfl rfl (fun a u hE hD hk => exec_move (.tmp 84) _ rfl (hD 12 84 (by kernel_rfl))) ?_
              refine fsteps_cons 15 rfl (fun a u hE hD hk => f_if ((((decide ((0 : Int) ≤ (q.n : Int))) && (decide ((q.n : Int) < (32 : Int)))) && (decide ((0 : Int) ≤ (q.i : Int))))) rfl rfl rfl (hD 13 85 (by kernel_rfl)) (fun hb => f_val (o := ⟨some 86, _, _, _, _, _⟩) (.pointer (some ⟨b6, 2, none⟩)) rfl (wanted_b rfl rfl (hD 13 85 (by kernel_rfl)) (eq_true_of hb)) (exec_fldo 41 2 2 (.tmp 6) (b6) (0) (2) rfl (hE 6 (.pointer (some ⟨b6, 0, none⟩)) (by kernel_rfl) (by kernel_rfl)) (by kernel_rfl) rfl) rfl)) ?_
              refine fsteps_cons 16 rfl (fun a u hE hD hk => f_if ((((decide ((0 : Int) ≤ (q.n : Int))) && (decide ((q.n : Int) < (32 : Int)))) && (decide ((0 : Int) ≤ (q.i : Int))))) rfl rfl rfl (hD 13 85 (by kernel_rfl)) (fun hb => f_val (o := ⟨some 87, _, _, _, _, _⟩) (.int .i64 q.i) rfl (wanted_b rfl rfl (hD 13 85 (by kernel_rfl)) (eq_true_of hb)) (exec_loadi 3 Try.underlying3 (.tmp 86) ⟨b6, 2, none⟩ (.int .i64 q.i) rfl ((hD 14 86 (by kernel_rfl)).1 hb) (range_int (range_kept HC9.out hk) 2 _ rfl)) rfl)) ?_
              refine fsteps_cons 17 rfl (fun a u hE hD hk => f_if ((((decide ((0 : Int) ≤ (q.n : Int))) && (decide ((q.n : Int) < (32 : Int)))) && (decide ((0 : Int) ≤ (q.i : Int))))) rfl rfl rfl (hD 13 85 (by kernel_rfl)) (fun hb => f_val (o := ⟨some 88, _, _, _, _, _⟩) (.bool (decide ((q.i : Int) < (8 : Int)))) rfl (wanted_b rfl rfl (hD 13 85 (by kernel_rfl)) (eq_true_of hb)) (exec_ltn (p := q.i) (q := 8) rfl ((hD 15 87 (by kernel_rfl)).1 hb) rfl) rfl)) ?_
              refine fsteps_cons 18 rfl (fun a u hE hD hk => f_as (show (((((decide ((0 : Int) ≤ (q.n : Int))) && (decide ((q.n : Int) < (32 : Int)))) && (decide ((0 : Int) ≤ (q.i : Int)))) && (decide ((q.i : Int) < (8 : Int)))) : Bool) = false from (th_eq _ _).symm.trans HT.out) (f_val (o := ⟨some 89, _, _, _, _, _⟩) (.bool ((((decide ((0 : Int) ≤ (q.n : Int))) && (decide ((q.n : Int) < (32 : Int)))) && (decide ((0 : Int) ≤ (q.i : Int)))) && (decide ((q.i : Int) < (8 : Int))))) rfl (wanted_none rfl _) (exec_pickand (.tmp 85) (.tmp 88) (.const (.bool false)) ((((decide ((0 : Int) ≤ (q.n : Int))) && (decide ((q.n : Int) < (32 : Int)))) && (decide ((0 : Int) ≤ (q.i : Int))))) ((decide ((q.i : Int) < (8 : Int)))) rfl (hD 13 85 (by kernel_rfl)) (fun hb2 => ((hD 16 88 (by kernel_rfl)).1 hb2)) rfl) rfl)) ?_
              exact fsteps_nil
            intro gv wa hV ka
            rw [show dstsOf _ 18 = [72, 73, 74, 75, 76, 77, 78, 79, 80, 81, 82, 83, 84, 85, 86, 87, 88, 89] by kernel_rfl]
            simp only [List.foldl_cons, List.foldl_nil, List.setIfInBounds_toArray, List.set_cons_succ, List.set_cons_zero, List.drop_succ_cons, List.drop_zero]
            rw [show gv 89 = .bool false from hV 17 89 (by kernel_rfl)]
            clear hV
            refine wpList_nil ?_
            have HBa := Lib.hid (HB9.out.kept ka)
            have HRa := Lib.hid (HR9.out.kept ka)
            have HCa := Lib.hid (range_kept HC9.out ka)
            have kwa := kw9.trans ka
            clear HB9 HR9 HC9 kw9 ka HT
            subst h3
            go_upto_region 17 with fail
            refine wp_free 38 [.eq (.bool true), .eq (.bool false), .eq (.bool false), .eq (.pointer (some ⟨g, 0, none⟩)), .eq (.pointer (some ⟨b6, 1, none⟩)), .eq (.int .i64 q.n), .eq (.int .i64 V1), .eq (.pointer (some ⟨r, 0, none⟩)), .eq (.pointer (some ⟨b6, 1, none⟩)), .eq (.int .i64 q.n), .eq (.int .i64 V1), .eq (.bool false), .eq (.bool false), .eq (.bool false), .eq (.pointer (some ⟨g, 0, none⟩)), .eq (.pointer (some ⟨b6, 1, none⟩)), .eq (.int .i64 q.n), .eq (.pointer (some ⟨b6, 2, none⟩)), .eq (.int .i64 q.i), .eq (.int .i64 V2), .eq (.pointer (some ⟨r, 0, none⟩)), .eq (.pointer (some ⟨b6, 1, none⟩)), .eq (.int .i64 q.n), .eq (.pointer (some ⟨b6, 2, none⟩)), .eq (.int .i64 q.i), .eq (.int .i64 V2), .eq (.bool false), .eq (.bool false), .eq (.bool false), .eq (.pointer (some ⟨g, 0, none⟩)), .eq (.pointer (some ⟨b6, 1, none⟩)), .eq (.int .i64 q.n), .eq (.pointer (some ⟨b6, 2, none⟩)), .eq (.int .i64 q.i), .eq (.int .i64 0), .eq (.int .i64 0), .eq (.bool false), .eq (.bool false)] (by kernel_rfl) rfl (by kernel_rfl) ?_ ?_
            · refine sv 1 rfl rfl rfl (fun a u hE hD hk => exec_move (.tmp 7) _ rfl (hE 7 (.bool true) (by kernel_rfl) (by kernel_rfl))) ?_
              refine sv 2 rfl rfl rfl (fun a u hE hD hk => exec_not _ (.tmp 101) true rfl (hD 0 101 (by kernel_rfl))) ?_
              refine sv 3 rfl rfl rfl (fun a u hE hD hk => exec_move (.tmp 102) _ rfl (hD 1 102 (by kernel_rfl))) ?_
              refine fsteps_cons 4 rfl (fun a u hE hD hk => f_val (o := ⟨some 104, _, _, _, _, _⟩) (.pointer (some ⟨g, 0, none⟩)) rfl (wanted_at (b := false) false rfl rfl (hD 2 103 (by kernel_rfl))) (exec_move (.tmp 3) _ rfl (hE 3 (.pointer (some ⟨g, 0, none⟩)) (by kernel_rfl) (by kernel_rfl))) rfl) ?_
              refine fsteps_cons 5 rfl (fun a u hE hD hk => f_val (o := ⟨some 105, _, _, _, _, _⟩) (.pointer (some ⟨b6, 1, none⟩)) rfl (wanted_at (b := false) false rfl rfl (hD 2 103 (by kernel_rfl))) (exec_fldo 41 1 1 (.tmp 6) (b6) (0) (1) rfl (hE 6 (.pointer (some ⟨b6, 0, none⟩)) (by kernel_rfl) (by kernel_rfl)) (by kernel_rfl) rfl) rfl) ?_
              refine fsteps_cons 6 rfl (fun a u hE hD hk => f_val (o := ⟨some 106, _, _, _, _, _⟩) (.int .i64 q.n) rfl (wanted_at (b := false) false rfl rfl (hD 2 103 (by kernel_rfl))) (exec_loadi 3 Try.underlying3 (.tmp 105) ⟨b6, 1, none⟩ (.int .i64 q.n) rfl (hD 4 105 (by kernel_rfl)) (range_int (range_kept HCa.out hk) 1 _ rfl)) rfl) ?_
              refine fsteps_cons 7 rfl (fun a u hE hD hk => f_call (o := ⟨some 107, _, _, _, _, _⟩) 10 #[.pointer (some ⟨g, 0, none⟩), .int .i64 q.n] rfl (wanted_at (b := false) false rfl rfl (hD 2 103 (by kernel_rfl))) (exec_call 10 _ [.tmp 104, .tmp 106] _ [.pointer (some ⟨g, 0, none⟩), .int .i64 q.n] Try.func10 (by kernel_rfl) (by kernel_rfl) rfl (show [a.eval (.tmp 104), a.eval (.tmp 106)] = [.pointer (some ⟨g, 0, none⟩), .int .i64 q.n] from (by rw [show a.eval (.tmp 104) = .pointer (some ⟨g, 0, none⟩) from (hD 3 104 (by kernel_rfl)), show a.eval (.tmp 106) = .int .i64 q.n from (hD 5 106 (by kernel_rfl))] <;> rfl)) u) (all_at (HBa.out.kept hk) HI2.out HV1.out)) ?_
              refine fsteps_cons 8 rfl (fun a u hE hD hk => f_val (o := ⟨some 108, _, _, _, _, _⟩) (.pointer (some ⟨r, 0, none⟩)) rfl (wanted_at (b := false) false rfl rfl (hD 2 103 (by kernel_rfl))) (exec_move (.tmp 4) _ rfl (hE 4 (.pointer (some ⟨r, 0, none⟩)) (by kernel_rfl) (by kernel_rfl))) rfl) ?_
              refine fsteps_cons 9 rfl (fun a u hE hD hk => f_val (o := ⟨some 109, _, _, _, _, _⟩) (.pointer (some ⟨b6, 1, none⟩)) rfl (wanted_at (b := false) false rfl rfl (hD 2 103 (by kernel_rfl))) (exec_fldo 41 1 1 (.tmp 6) (b6) (0) (1) rfl (hE 6 (.pointer (some ⟨b6, 0, none⟩)) (by kernel_rfl) (by kernel_rfl)) (by kernel_rfl) rfl) rfl) ?_
              refine fsteps_cons 10 rfl (fun a u hE hD hk => f_val (o := ⟨some 110, _, _, _, _, _⟩) (.int .i64 q.n) rfl (wanted_at (b := false) false rfl rfl (hD 2 103 (by kernel_rfl))) (exec_loadi 3 Try.underlying3 (.tmp 109) ⟨b6, 1, none⟩ (.int .i64 q.n) rfl (hD 8 109 (by kernel_rfl)) (range_int (range_kept HCa.out hk) 1 _ rfl)) rfl) ?_
              refine fsteps_cons 11 rfl (fun a u hE hD hk => f_call (o := ⟨some 111, _, _, _, _, _⟩) 15 #[.pointer (some ⟨r, 0, none⟩), .int .i64 q.n] rfl (wanted_at (b := false) false rfl rfl (hD 2 103 (by kernel_rfl))) (exec_call 15 _ [.tmp 108, .tmp 110] _ [.pointer (some ⟨r, 0, none⟩), .int .i64 q.n] Try.func15 (by kernel_rfl) (by kernel_rfl) rfl (show [a.eval (.tmp 108), a.eval (.tmp 110)] = [.pointer (some ⟨r, 0, none⟩), .int .i64 q.n] from (by rw [show a.eval (.tmp 108) = .pointer (some ⟨r, 0, none⟩) from (hD 7 108 (by kernel_rfl)), show a.eval (.tmp 110) = .int .i64 q.n from (hD 9 110 (by kernel_rfl))] <;> rfl)) u) (rall_at (HRa.out.kept hk) HI2.out HV1.out)) ?_
              refine fsteps_cons 12 rfl (fun a u hE hD hk => f_as (show ((decide ((V1 : Int) ≠ (V1 : Int))) : Bool) = false from decide_eq_false (by omega)) (f_val (o := ⟨some 112, _, _, _, _, _⟩) (.bool (decide ((V1 : Int) ≠ (V1 : Int)))) rfl (wanted_at (b := false) false rfl rfl (hD 2 103 (by kernel_rfl))) (exec_nen (p := V1) (q := V1) rfl (hD 6 107 (by kernel_rfl)) (hD 10 111 (by kernel_rfl))) rfl)) ?_
              refine sv 13 rfl rfl rfl (fun a u hE hD hk => exec_pickF (.tmp 103) (.const (.bool true)) (.tmp 112) (.bool false) rfl (hD 2 103 (by kernel_rfl)) (hD 11 112 (by kernel_rfl))) ?_
              refine sv 14 rfl rfl rfl (fun a u hE hD hk => exec_move (.tmp 113) _ rfl (hD 12 113 (by kernel_rfl))) ?_
              refine fsteps_cons 15 rfl (fun a u hE hD hk => f_val (o := ⟨some 115, _, _, _, _, _⟩) (.pointer (some ⟨g, 0, none⟩)) rfl (wanted_at (b := false) false rfl rfl (hD 13 114 (by kernel_rfl))) (exec_move (.tmp 3) _ rfl (hE 3 (.pointer (some ⟨g, 0, none⟩)) (by kernel_rfl) (by kernel_rfl))) rfl) ?_
              refine fsteps_cons 16 rfl (fun a u hE hD hk => f_val (o := ⟨some 116, _, _, _, _, _⟩) (.pointer (some ⟨b6, 1, none⟩)) rfl (wanted_at (b := false) false rfl rfl (hD 13 114 (by kernel_rfl))) (exec_fldo 41 1 1 (.tmp 6) (b6) (0) (1) rfl (hE 6 (.pointer (some ⟨b6, 0, none⟩)) (by kernel_rfl) (by kernel_rfl)) (by kernel_rfl) rfl) rfl) ?_
              refine fsteps_cons 17 rfl (fun a u hE hD hk => f_val (o := ⟨some 117, _, _, _, _, _⟩) (.int .i64 q.n) rfl (wanted_at (b := false) false rfl rfl (hD 13 114 (by kernel_rfl))) (exec_loadi 3 Try.underlying3 (.tmp 116) ⟨b6, 1, none⟩ (.int .i64 q.n) rfl (hD 15 116 (by kernel_rfl)) (range_int (range_kept HCa.out hk) 1 _ rfl)) rfl) ?_
              refine fsteps_cons 18 rfl (fun a u hE hD hk => f_val (o := ⟨some 118, _, _, _, _, _⟩) (.pointer (some ⟨b6, 2, none⟩)) rfl (wanted_at (b := false) false rfl rfl (hD 13 114 (by kernel_rfl))) (exec_fldo 41 2 2 (.tmp 6) (b6) (0) (2) rfl (hE 6 (.pointer (some ⟨b6, 0, none⟩)) (by kernel_rfl) (by kernel_rfl)) (by kernel_rfl) rfl) rfl) ?_
              refine fsteps_cons 19 rfl (fun a u hE hD hk => f_val (o := ⟨some 119, _, _, _, _, _⟩) (.int .i64 q.i) rfl (wanted_at (b := false) false rfl rfl (hD 13 114 (by kernel_rfl))) (exec_loadi 3 Try.underlying3 (.tmp 118) ⟨b6, 2, none⟩ (.int .i64 q.i) rfl (hD 17 118 (by kernel_rfl)) (range_int (range_kept HCa.out hk) 2 _ rfl)) rfl) ?_
              refine fsteps_cons 20 rfl (fun a u hE hD hk => f_call (o := ⟨some 120, _, _, _, _, _⟩) 12 #[.pointer (some ⟨g, 0, none⟩), .int .i64 q.n, .int .i64 q.i] rfl (wanted_at (b := false) false rfl rfl (hD 13 114 (by kernel_rfl))) (exec_call 12 _ [.tmp 115, .tmp 117, .tmp 119] _ [.pointer (some ⟨g, 0, none⟩), .int .i64 q.n, .int .i64 q.i] Try.func12 (by kernel_rfl) (by kernel_rfl) rfl (show [a.eval (.tmp 115), a.eval (.tmp 117), a.eval (.tmp 119)] = [.pointer (some ⟨g, 0, none⟩), .int .i64 q.n, .int .i64 q.i] from (by rw [show a.eval (.tmp 115) = .pointer (some ⟨g, 0, none⟩) from (hD 14 115 (by kernel_rfl)), show a.eval (.tmp 117) = .int .i64 q.n from (hD 16 117 (by kernel_rfl)), show a.eval (.tmp 119) = .int .i64 q.i from (hD 18 119 (by kernel_rfl))] <;> rfl)) u) (pos_at (HBa.out.kept hk) HV2.out)) ?_
              refine fsteps_cons 21 rfl (fun a u hE hD hk => f_val (o := ⟨some 121, _, _, _, _, _⟩) (.pointer (some ⟨r, 0, none⟩)) rfl (wanted_at (b := false) false rfl rfl (hD 13 114 (by kernel_rfl))) (exec_move (.tmp 4) _ rfl (hE 4 (.pointer (some ⟨r, 0, none⟩)) (by kernel_rfl) (by kernel_rfl))) rfl) ?_
              refine fsteps_cons 22 rfl (fun a u hE hD hk => f_val (o := ⟨some 122, _, _, _, _, _⟩) (.pointer (some ⟨b6, 1, none⟩)) rfl (wanted_at (b := false) false rfl rfl (hD 13 114 (by kernel_rfl))) (exec_fldo 41 1 1 (.tmp 6) (b6) (0) (1) rfl (hE 6 (.pointer (some ⟨b6, 0, none⟩)) (by kernel_rfl) (by kernel_rfl)) (by kernel_rfl) rfl) rfl) ?_
              refine fsteps_cons 23 rfl (fun a u hE hD hk => f_val (o := ⟨some 123, _, _, _, _, _⟩) (.int .i64 q.n) rfl (wanted_at (b := false) false rfl rfl (hD 13 114 (by kernel_rfl))) (exec_loadi 3 Try.underlying3 (.tmp 122) ⟨b6, 1, none⟩ (.int .i64 q.n) rfl (hD 21 122 (by kernel_rfl)) (range_int (range_kept HCa.out hk) 1 _ rfl)) rfl) ?_
              refine fsteps_cons 24 rfl (fun a u hE hD hk => f_val (o := ⟨some 124, _, _, _, _, _⟩) (.pointer (some ⟨b6, 2, none⟩)) rfl (wanted_at (b := false) false rfl rfl (hD 13 114 (by kernel_rfl))) (exec_fldo 41 2 2 (.tmp 6) (b6) (0) (2) rfl (hE 6 (.pointer (some ⟨b6, 0, none⟩)) (by kernel_rfl) (by kernel_rfl)) (by kernel_rfl) rfl) rfl) ?_
              refine fsteps_cons 25 rfl (fun a u hE hD hk => f_val (o := ⟨some 125, _, _, _, _, _⟩) (.int .i64 q.i) rfl (wanted_at (b := false) false rfl rfl (hD 13 114 (by kernel_rfl))) (exec_loadi 3 Try.underlying3 (.tmp 124) ⟨b6, 2, none⟩ (.int .i64 q.i) rfl (hD 23 124 (by kernel_rfl)) (range_int (range_kept HCa.out hk) 2 _ rfl)) rfl) ?_
              refine fsteps_cons 26 rfl (fun a u hE hD hk => f_call (o := ⟨some 126, _, _, _, _, _⟩) 16 #[.pointer (some ⟨r, 0, none⟩), .int .i64 q.n, .int .i64 q.i] rfl (wanted_at (b := false) false rfl rfl (hD 13 114 (by kernel_rfl))) (exec_call 16 _ [.tmp 121, .tmp 123, .tmp 125] _ [.pointer (some ⟨r, 0, none⟩), .int .i64 q.n, .int .i64 q.i] Try.func16 (by kernel_rfl) (by kernel_rfl) rfl (show [a.eval (.tmp 121), a.eval (.tmp 123), a.eval (.tmp 125)] = [.pointer (some ⟨r, 0, none⟩), .int .i64 q.n, .int .i64 q.i] from (by rw [show a.eval (.tmp 121) = .pointer (some ⟨r, 0, none⟩) from (hD 20 121 (by kernel_rfl)), show a.eval (.tmp 123) = .int .i64 q.n from (hD 22 123 (by kernel_rfl)), show a.eval (.tmp 125) = .int .i64 q.i from (hD 24 125 (by kernel_rfl))] <;> rfl)) u) (rpos_at (HRa.out.kept hk) HV2.out)) ?_
              refine fsteps_cons 27 rfl (fun a u hE hD hk => f_as (show ((decide ((V2 : Int) ≠ (V2 : Int))) : Bool) = false from decide_eq_false (by omega)) (f_val (o := ⟨some 127, _, _, _, _, _⟩) (.bool (decide ((V2 : Int) ≠ (V2 : Int)))) rfl (wanted_at (b := false) false rfl rfl (hD 13 114 (by kernel_rfl))) (exec_nen (p := V2) (q := V2) rfl (hD 19 120 (by kernel_rfl)) (hD 25 126 (by kernel_rfl))) rfl)) ?_
              refine sv 28 rfl rfl rfl (fun a u hE hD hk => exec_pickF (.tmp 114) (.const (.bool true)) (.tmp 127) (.bool false) rfl (hD 13 114 (by kernel_rfl)) (hD 26 127 (by kernel_rfl))) ?_
              refine sv 29 rfl rfl rfl (fun a u hE hD hk => exec_move (.tmp 128) _ rfl (hD 27 128 (by kernel_rfl))) ?_
              refine fsteps_cons 30 rfl (fun a u hE hD hk => f_val (o := ⟨some 130, _, _, _, _, _⟩) (.pointer (some ⟨g, 0, none⟩)) rfl (wanted_at (b := false) false rfl rfl (hD 28 129 (by kernel_rfl))) (exec_move (.tmp 3) _ rfl (hE 3 (.pointer (some ⟨g, 0, none⟩)) (by kernel_rfl) (by kernel_rfl))) rfl) ?_
              refine fsteps_cons 31 rfl (fun a u hE hD hk => f_val (o := ⟨some 131, _, _, _, _, _⟩) (.pointer (some ⟨b6, 1, none⟩)) rfl (wanted_at (b := false) false rfl rfl (hD 28 129 (by kernel_rfl))) (exec_fldo 41 1 1 (.tmp 6) (b6) (0) (1) rfl (hE 6 (.pointer (some ⟨b6, 0, none⟩)) (by kernel_rfl) (by kernel_rfl)) (by kernel_rfl) rfl) rfl) ?_
              refine fsteps_cons 32 rfl (fun a u hE hD hk => f_val (o := ⟨some 132, _, _, _, _, _⟩) (.int .i64 q.n) rfl (wanted_at (b := false) false rfl rfl (hD 28 129 (by kernel_rfl))) (exec_loadi 3 Try.underlying3 (.tmp 131) ⟨b6, 1, none⟩ (.int .i64 q.n) rfl (hD 30 131 (by kernel_rfl)) (range_int (range_kept HCa.out hk) 1 _ rfl)) rfl) ?_
              refine fsteps_cons 33 rfl (fun a u hE hD hk => f_val (o := ⟨some 133, _, _, _, _, _⟩) (.pointer (some ⟨b6, 2, none⟩)) rfl (wanted_at (b := false) false rfl rfl (hD 28 129 (by kernel_rfl))) (exec_fldo 41 2 2 (.tmp 6) (b6) (0) (2) rfl (hE 6 (.pointer (some ⟨b6, 0, none⟩)) (by kernel_rfl) (by kernel_rfl)) (by kernel_rfl) rfl) rfl) ?_
              refine fsteps_cons 34 rfl (fun a u hE hD hk => f_val (o := ⟨some 134, _, _, _, _, _⟩) (.int .i64 q.i) rfl (wanted_at (b := false) false rfl rfl (hD 28 129 (by kernel_rfl))) (exec_loadi 3 Try.underlying3 (.tmp 133) ⟨b6, 2, none⟩ (.int .i64 q.i) rfl (hD 32 133 (by kernel_rfl)) (range_int (range_kept HCa.out hk) 2 _ rfl)) rfl) ?_
              refine fsteps_cons 35 rfl (fun a u hE hD hk => f_call (o := ⟨some 135, _, _, _, _, _⟩) 17 #[.pointer (some ⟨g, 0, none⟩), .int .i64 q.n, .int .i64 q.i] rfl (wanted_at (b := false) false rfl rfl (hD 28 129 (by kernel_rfl))) (exec_call 17 _ [.tmp 130, .tmp 132, .tmp 134] _ [.pointer (some ⟨g, 0, none⟩), .int .i64 q.n, .int .i64 q.i] Try.func17 (by kernel_rfl) (by kernel_rfl) rfl (show [a.eval (.tmp 130), a.eval (.tmp 132), a.eval (.tmp 134)] = [.pointer (some ⟨g, 0, none⟩), .int .i64 q.n, .int .i64 q.i] from (by rw [show a.eval (.tmp 130) = .pointer (some ⟨g, 0, none⟩) from (hD 29 130 (by kernel_rfl)), show a.eval (.tmp 132) = .int .i64 q.n from (hD 31 132 (by kernel_rfl)), show a.eval (.tmp 134) = .int .i64 q.i from (hD 33 134 (by kernel_rfl))] <;> rfl)) u) (openAt_at (HBa.out.kept hk) HV3.out)) ?_
              refine fsteps_cons 36 rfl (fun a u hE hD hk => f_val (o := ⟨some 136, _, _, _, _, _⟩) (.int .i64 0) rfl (wanted_at (b := false) false rfl rfl (hD 28 129 (by kernel_rfl))) (exec_move (.tmp 8) _ rfl (hE 8 (.int .i64 0) (by kernel_rfl) (by kernel_rfl))) rfl) ?_
              refine fsteps_cons 37 rfl (fun a u hE hD hk => f_as (show ((decide ((0 : Int) ≠ (0 : Int))) : Bool) = false from decide_eq_false (by omega)) (f_val (o := ⟨some 137, _, _, _, _, _⟩) (.bool (decide ((0 : Int) ≠ (0 : Int)))) rfl (wanted_at (b := false) false rfl rfl (hD 28 129 (by kernel_rfl))) (exec_nen (p := 0) (q := 0) rfl (hD 34 135 (by kernel_rfl)) (hD 35 136 (by kernel_rfl))) rfl)) ?_
              refine sv 38 rfl rfl rfl (fun a u hE hD hk => exec_pickF (.tmp 129) (.const (.bool true)) (.tmp 137) (.bool false) rfl (hD 28 129 (by kernel_rfl)) (hD 36 137 (by kernel_rfl))) ?_
              exact fsteps_nil
            intro gv wz hV kz
            rw [show dstsOf _ 38 = [101, 102, 103, 104, 105, 106, 107, 108, 109, 110, 111, 112, 113, 114, 115, 116, 117, 118, 119, 120, 121, 122, 123, 124, 125, 126, 127, 128, 129, 130, 131, 132, 133, 134, 135, 136, 137, 138] by kernel_rfl]
            simp only [List.foldl_cons, List.foldl_nil, List.setIfInBounds_toArray, List.set_cons_succ, List.set_cons_zero, List.drop_succ_cons, List.drop_zero]
            rw [show gv 138 = .bool false from hV 37 138 (by kernel_rfl)]
            clear hV
            refine wpList_nil ?_
            have HBz := Lib.hid (HBa.out.kept kz)
            have HRz := Lib.hid (HRa.out.kept kz)
            have kwz := kwa.trans kz
            go_wp2
            exact ⟨⟨k + 1, B2, by simp, by omega, by omega, HBz, HRz, HI2, kwz⟩, by simp [intOf]; omega⟩
          | true =>
            have HT := Lib.hid hT
            obtain ⟨m, j, hm, hj, hqn, hqi⟩ := thB_yes hT
            have HX : Hid ((B2.rc L)[128 + m * 16 + j]? = some (.int .i64 V3)) := by show _ = _; unfold Bal.rc; rw [lay_at _ (by omega), rf_o B2 L hj, ← HV3.out, hqn, hqi]; unfold Bal.oAt; rw [pick2_in _ hm hj]
            have HQN := Lib.hid hqn
            have HQI := Lib.hid hqi
            clear hT hqn hqi
            go_upto_region 15 with fail
            refine wp_text 18 [.eq (.pointer (some ⟨b6, 1, none⟩)), .eq (.int .i64 q.n), .eq (.bool (decide ((0 : Int) ≤ (q.n : Int)))), .eq (.bool (decide ((0 : Int) ≤ (q.n : Int)))), .cond (decide ((0 : Int) ≤ (q.n : Int))) (.eq (.pointer (some ⟨b6, 1, none⟩))), .cond (decide ((0 : Int) ≤ (q.n : Int))) (.eq (.int .i64 q.n)), .cond (decide ((0 : Int) ≤ (q.n : Int))) (.eq (.bool (decide ((q.n : Int) < (32 : Int))))), .eq (.bool ((decide ((0 : Int) ≤ (q.n : Int))) && (decide ((q.n : Int) < (32 : Int))))), .eq (.bool ((decide ((0 : Int) ≤ (q.n : Int))) && (decide ((q.n : Int) < (32 : Int))))), .cond ((decide ((0 : Int) ≤ (q.n : Int))) && (decide ((q.n : Int) < (32 : Int)))) (.eq (.pointer (some ⟨b6, 2, none⟩))), .cond ((decide ((0 : Int) ≤ (q.n : Int))) && (decide ((q.n : Int) < (32 : Int)))) (.eq (.int .i64 q.i)), .cond ((decide ((0 : Int) ≤ (q.n : Int))) && (decide ((q.n : Int) < (32 : Int)))) (.eq (.bool (decide ((0 : Int) ≤ (q.i : Int))))), .eq (.bool (((decide ((0 : Int) ≤ (q.n : Int))) && (decide ((q.n : Int) < (32 : Int)))) && (decide ((0 : Int) ≤ (q.i : Int))))), .eq (.bool (((decide ((0 : Int) ≤ (q.n : Int))) && (decide ((q.n : Int) < (32 : Int)))) && (decide ((0 : Int) ≤ (q.i : Int))))), .cond (((decide ((0 : Int) ≤ (q.n : Int))) && (decide ((q.n : Int) < (32 : Int)))) && (decide ((0 : Int) ≤ (q.i : Int)))) (.eq (.pointer (some ⟨b6, 2, none⟩))), .cond (((decide ((0 : Int) ≤ (q.n : Int))) && (decide ((q.n : Int) < (32 : Int)))) && (decide ((0 : Int) ≤ (q.i : Int)))) (.eq (.int .i64 q.i)), .cond (((decide ((0 : Int) ≤ (q.n : Int))) && (decide ((q.n : Int) < (32 : Int)))) && (decide ((0 : Int) ≤ (q.i : Int)))) (.eq (.bool (decide ((q.i : Int) < (8 : Int))))), .eq (.bool true)] rfl (by kernel_rfl) ?_ ?_
            · refine sv 1 rfl rfl rfl (fun a u hE hD hk => exec_fldo 41 1 1 (.tmp 6) (b6) (0) (1) rfl (hE 6 (.pointer (some ⟨b6, 0, none⟩)) (by kernel_rfl) (by kernel_rfl)) (by kernel_rfl) rfl) ?_
              refine sv 2 rfl rfl rfl (fun a u hE hD hk => exec_loadi 3 Try.underlying3 (.tmp 72) ⟨b6, 1, none⟩ (.int .i64 q.n) rfl (hD 0 72 (by kernel_rfl)) (range_int (range_kept HC9.out hk) 1 _ rfl)) ?_
              refine sv 3 rfl rfl rfl (fun a u hE hD hk => exec_gen (p := q.n) (q := 0) rfl (hD 1 73 (by kernel_rfl)) rfl) ?_
              refine sv 4 rfl rfl rfl (fun a u hE hD hk => exec_move (.tmp 74) _ rfl (hD 2 74 (by kernel_rfl))) ?_
              refine fsteps_cons 5 rfl (fun a u hE hD hk => f_if ((decide ((0 : Int) ≤ (q.n : Int)))) rfl rfl rfl (hD 3 75 (by kernel_rfl)) (fun hb => f_val (o := ⟨some 76, _, _, _, _, _⟩) (.pointer (some ⟨b6, 1, none⟩)) rfl (wanted_b rfl rfl (hD 3 75 (by kernel_rfl)) (eq_true_of hb)) (exec_fldo 41 1 1 (.tmp 6) (b6) (0) (1) rfl (hE 6 (.pointer (some ⟨b6, 0, none⟩)) (by kernel_rfl) (by kernel_rfl)) (by kernel_rfl) rfl) rfl)) ?_
              refine fsteps_cons 6 rfl (fun a u hE hD hk => f_if ((decide ((0 : Int) ≤ (q.n : Int)))) rfl rfl rfl (hD 3 75 (by kernel_rfl)) (fun hb => f_val (o := ⟨some 77, _, _, _, _, _⟩) (.int .i64 q.n) rfl (wanted_b rfl rfl (hD 3 75 (by kernel_rfl)) (eq_true_of hb)) (exec_loadi 3 Try.underlying3 (.tmp 76) ⟨b6, 1, none⟩ (.int .i64 q.n) rfl ((hD 4 76 (by kernel_rfl)).1 hb) (range_int (range_kept HC9.out hk) 1 _ rfl)) rfl)) ?_
              refine fsteps_cons 7 rfl (fun a u hE hD hk => f_if ((decide ((0 : Int) ≤ (q.n : Int)))) rfl rfl rfl (hD 3 75 (by kernel_rfl)) (fun hb => f_val (o := ⟨some 78, _, _, _, _, _⟩) (.bool (decide ((q.n : Int) < (32 : Int)))) rfl (wanted_b rfl rfl (hD 3 75 (by kernel_rfl)) (eq_true_of hb)) (exec_ltn (p := q.n) (q := 32) rfl ((hD 5 77 (by kernel_rfl)).1 hb) rfl) rfl)) ?_
              refine sv 8 rfl rfl rfl (fun a u hE hD hk => exec_pickand (.tmp 75) (.tmp 78) (.const (.bool false)) ((decide ((0 : Int) ≤ (q.n : Int)))) ((decide ((q.n : Int) < (32 : Int)))) rfl (hD 3 75 (by kernel_rfl)) (fun hb2 => ((hD 6 78 (by kernel_rfl)).1 hb2)) rfl) ?_
              refine sv 9 rfl rfl rfl (fun a u hE hD hk => exec_move (.tmp 79) _ rfl (hD 7 79 (by kernel_rfl))) ?_
              refine fsteps_cons 10 rfl (fun a u hE hD hk => f_if (((decide ((0 : Int) ≤ (q.n : Int))) && (decide ((q.n : Int) < (32 : Int))))) rfl rfl rfl (hD 8 80 (by kernel_rfl)) (fun hb => f_val (o := ⟨some 81, _, _, _, _, _⟩) (.pointer (some ⟨b6, 2, none⟩)) rfl (wanted_b rfl rfl (hD 8 80 (by kernel_rfl)) (eq_true_of hb)) (exec_fldo 41 2 2 (.tmp 6) (b6) (0) (2) rfl (hE 6 (.pointer (some ⟨b6, 0, none⟩)) (by kernel_rfl) (by kernel_rfl)) (by kernel_rfl) rfl) rfl)) ?_
              refine fsteps_cons 11 rfl (fun a u hE hD hk => f_if (((decide ((0 : Int) ≤ (q.n : Int))) && (decide ((q.n : Int) < (32 : Int))))) rfl rfl rfl (hD 8 80 (by kernel_rfl)) (fun hb => f_val (o := ⟨some 82, _, _, _, _, _⟩) (.int .i64 q.i) rfl (wanted_b rfl rfl (hD 8 80 (by kernel_rfl)) (eq_true_of hb)) (exec_loadi 3 Try.underlying3 (.tmp 81) ⟨b6, 2, none⟩ (.int .i64 q.i) rfl ((hD 9 81 (by kernel_rfl)).1 hb) (range_int (range_kept HC9.out hk) 2 _ rfl)) rfl)) ?_
              refine fsteps_cons 12 rfl (fun a u hE hD hk => f_if (((decide ((0 : Int) ≤ (q.n : Int))) && (decide ((q.n : Int) < (32 : Int))))) rfl rfl rfl (hD 8 80 (by kernel_rfl)) (fun hb => f_val (o := ⟨some 83, _, _, _, _, _⟩) (.bool (decide ((0 : Int) ≤ (q.i : Int)))) rfl (wanted_b rfl rfl (hD 8 80 (by kernel_rfl)) (eq_true_of hb)) (exec_gen (p := q.i) (q := 0) rfl ((hD 10 82 (by kernel_rfl)).1 hb) rfl) rfl)) ?_
              refine sv 13 rfl rfl rfl (fun a u hE hD hk => exec_pickand (.tmp 80) (.tmp 83) (.const (.bool false)) (((decide ((0 : Int) ≤ (q.n : Int))) && (decide ((q.n : Int) < (32 : Int))))) ((decide ((0 : Int) ≤ (q.i : Int)))) rfl (hD 8 80 (by kernel_rfl)) (fun hb2 => ((hD 11 83 (by kernel_rfl)).1 hb2)) rfl) ?_
              refine sv 14 rfl rfl rfl (fun a u hE hD hk => exec_move (.tmp 84) _ rfl (hD 12 84 (by kernel_rfl))) ?_
              refine fsteps_cons 15 rfl (fun a u hE hD hk => f_if ((((decide ((0 : Int) ≤ (q.n : Int))) && (decide ((q.n : Int) < (32 : Int)))) && (decide ((0 : Int) ≤ (q.i : Int))))) rfl rfl rfl (hD 13 85 (by kernel_rfl)) (fun hb => f_val (o := ⟨some 86, _, _, _, _, _⟩) (.pointer (some ⟨b6, 2, none⟩)) rfl (wanted_b rfl rfl (hD 13 85 (by kernel_rfl)) (eq_true_of hb)) (exec_fldo 41 2 2 (.tmp 6) (b6) (0) (2) rfl (hE 6 (.pointer (some ⟨b6, 0, none⟩)) (by kernel_rfl) (by kernel_rfl)) (by kernel_rfl) rfl) rfl)) ?_
              refine fsteps_cons 16 rfl (fun a u hE hD hk => f_if ((((decide ((0 : Int) ≤ (q.n : Int))) && (decide ((q.n : Int) < (32 : Int)))) && (decide ((0 : Int) ≤ (q.i : Int))))) rfl rfl rfl (hD 13 85 (by kernel_rfl)) (fun hb => f_val (o := ⟨some 87, _, _, _, _, _⟩) (.int .i64 q.i) rfl (wanted_b rfl rfl (hD 13 85 (by kernel_rfl)) (eq_true_of hb)) (exec_loadi 3 Try.underlying3 (.tmp 86) ⟨b6, 2, none⟩ (.int .i64 q.i) rfl ((hD 14 86 (by kernel_rfl)).1 hb) (range_int (range_kept HC9.out hk) 2 _ rfl)) rfl)) ?_
              refine fsteps_cons 17 rfl (fun a u hE hD hk => f_if ((((decide ((0 : Int) ≤ (q.n : Int))) && (decide ((q.n : Int) < (32 : Int)))) && (decide ((0 : Int) ≤ (q.i : Int))))) rfl rfl rfl (hD 13 85 (by kernel_rfl)) (fun hb => f_val (o := ⟨some 88, _, _, _, _, _⟩) (.bool (decide ((q.i : Int) < (8 : Int)))) rfl (wanted_b rfl rfl (hD 13 85 (by kernel_rfl)) (eq_true_of hb)) (exec_ltn (p := q.i) (q := 8) rfl ((hD 15 87 (by kernel_rfl)).1 hb) rfl) rfl)) ?_
              refine fsteps_cons 18 rfl (fun a u hE hD hk => f_as (show (((((decide ((0 : Int) ≤ (q.n : Int))) && (decide ((q.n : Int) < (32 : Int)))) && (decide ((0 : Int) ≤ (q.i : Int)))) && (decide ((q.i : Int) < (8 : Int)))) : Bool) = true from (th_eq _ _).symm.trans HT.out) (f_val (o := ⟨some 89, _, _, _, _, _⟩) (.bool ((((decide ((0 : Int) ≤ (q.n : Int))) && (decide ((q.n : Int) < (32 : Int)))) && (decide ((0 : Int) ≤ (q.i : Int)))) && (decide ((q.i : Int) < (8 : Int))))) rfl (wanted_none rfl _) (exec_pickand (.tmp 85) (.tmp 88) (.const (.bool false)) ((((decide ((0 : Int) ≤ (q.n : Int))) && (decide ((q.n : Int) < (32 : Int)))) && (decide ((0 : Int) ≤ (q.i : Int))))) ((decide ((q.i : Int) < (8 : Int)))) rfl (hD 13 85 (by kernel_rfl)) (fun hb2 => ((hD 16 88 (by kernel_rfl)).1 hb2)) rfl) rfl)) ?_
              exact fsteps_nil
            intro gv wy hV ky
            rw [show dstsOf _ 18 = [72, 73, 74, 75, 76, 77, 78, 79, 80, 81, 82, 83, 84, 85, 86, 87, 88, 89] by kernel_rfl]
            simp only [List.foldl_cons, List.foldl_nil, List.setIfInBounds_toArray, List.set_cons_succ, List.set_cons_zero, List.drop_succ_cons, List.drop_zero]
            rw [show gv 89 = .bool true from hV 17 89 (by kernel_rfl)]
            clear hV
            refine wpList_nil ?_
            have HRy := Lib.hid (HR9.out.kept ky)
            have HCy := Lib.hid (range_kept HC9.out ky)
            go_upto_region 16 with fail
            refine wp_free 12 [.eq (.pointer (some ⟨r, 0, none⟩)), .eq (.pointer (some ⟨b6, 1, none⟩)), .eq (.int .i64 (m : Int)), .eq (.pointer (some ⟨b6, 2, none⟩)), .eq (.int .i64 (j : Int)), .eq (.pointer (some ⟨r, 0, none⟩)), .eq (.pointer (some ⟨r, 128, none⟩)), .eq (.pointer (some ⟨r, 128 + m * 16, none⟩)), .eq (.pointer (some ⟨r, 128 + m * 16, none⟩)), .eq (.pointer (some ⟨r, 128 + m * 16 + j, none⟩)), .eq (.int .i64 V3), .eq (.int .i64 V3)] (by kernel_rfl) rfl (by kernel_rfl) ?_ ?_
            · refine sv 1 rfl rfl rfl (fun a u hE hD hk => exec_move (.tmp 4) _ rfl (hE 4 (.pointer (some ⟨r, 0, none⟩)) (by kernel_rfl) (by kernel_rfl))) ?_
              refine sv 2 rfl rfl rfl (fun a u hE hD hk => exec_fldo 41 1 1 (.tmp 6) (b6) (0) (1) rfl (hE 6 (.pointer (some ⟨b6, 0, none⟩)) (by kernel_rfl) (by kernel_rfl)) (by kernel_rfl) rfl) ?_
              refine sv 3 rfl rfl rfl (fun a u hE hD hk => by rw [← HQN.out]; exact exec_loadi 3 Try.underlying3 (.tmp 91) ⟨b6, 1, none⟩ (.int .i64 q.n) rfl (hD 1 91 (by kernel_rfl)) (range_int (off := 0) (range_kept HCy.out hk) 1 _ rfl)) ?_
              refine sv 4 rfl rfl rfl (fun a u hE hD hk => exec_fldo 41 2 2 (.tmp 6) (b6) (0) (2) rfl (hE 6 (.pointer (some ⟨b6, 0, none⟩)) (by kernel_rfl) (by kernel_rfl)) (by kernel_rfl) rfl) ?_
              refine sv 5 rfl rfl rfl (fun a u hE hD hk => by rw [← HQI.out]; exact exec_loadi 3 Try.underlying3 (.tmp 93) ⟨b6, 2, none⟩ (.int .i64 q.i) rfl (hD 3 93 (by kernel_rfl)) (range_int (off := 0) (range_kept HCy.out hk) 2 _ rfl)) ?_
              refine sv 6 rfl rfl rfl (fun a u hE hD hk => exec_nilp (.tmp 90) ⟨r, 0, none⟩ rfl (hD 0 90 (by kernel_rfl))) ?_
              refine sv 7 rfl rfl rfl (fun a u hE hD hk => exec_fldo 39 1 128 (.tmp 95) (r) (0) (128) rfl (hD 5 95 (by kernel_rfl)) (by kernel_rfl) rfl) ?_
              refine sv 8 rfl rfl rfl (fun a u hE hD hk => exec_ixK 16 37 36 32 (.tmp 96) (.tmp 92) (r) (128) (128 + m * 16) m ((m : Int)) rfl Try.underlying37 (by kernel_rfl) (hD 6 96 (by kernel_rfl)) (hD 2 92 (by kernel_rfl)) (by first | rfl | omega) (hm) (by first | rfl | omega)) ?_
              refine sv 9 rfl rfl rfl (fun a u hE hD hk => exec_fldo 36 0 0 (.tmp 97) (r) (128 + m * 16) (128 + m * 16) rfl (hD 7 97 (by kernel_rfl)) (by kernel_rfl) rfl) ?_
              refine sv 10 rfl rfl rfl (fun a u hE hD hk => exec_ixK 1 34 3 8 (.tmp 98) (.tmp 94) (r) (128 + m * 16) (128 + m * 16 + j) j ((j : Int)) rfl Try.underlying34 (by kernel_rfl) (hD 8 98 (by kernel_rfl)) (hD 4 94 (by kernel_rfl)) (by first | rfl | omega) (hj) (by first | rfl | omega)) ?_
              refine sv 11 rfl rfl rfl (fun a u hE hD hk => exec_loadi 3 Try.underlying3 (.tmp 99) ⟨r, 128 + m * 16 + j, none⟩ (.int .i64 V3) rfl (hD 9 99 (by kernel_rfl)) (Kept.cell hk (((HRy.out.cell _).trans HX.out)))) ?_
              refine sv 12 rfl rfl rfl (fun a u hE hD hk => exec_assign (.tmp 100) _ rfl (hD 10 100 (by kernel_rfl))) ?_
              exact fsteps_nil
            intro gv wx hV kx
            rw [show dstsOf _ 12 = [90, 91, 92, 93, 94, 95, 96, 97, 98, 99, 100, 8] by kernel_rfl]
            simp only [List.foldl_cons, List.foldl_nil, List.setIfInBounds_toArray, List.set_cons_succ, List.set_cons_zero, List.drop_succ_cons, List.drop_zero]
            rw [show gv 8 = .int .i64 V3 from hV 11 8 (by kernel_rfl)]
            clear hV
            refine wpList_nil ?_
            have ka := ky.trans kx
            have HBa := Lib.hid (HB9.out.kept ka)
            have HRa := Lib.hid (HR9.out.kept ka)
            have HCa := Lib.hid (range_kept HC9.out ka)
            have kwa := kw9.trans ka
            clear HB9 HR9 HC9 kw9 ka kx ky HT HRy HCy HX
            go_upto_region 17 with fail
            refine wp_free 38 [.eq (.bool true), .eq (.bool false), .eq (.bool false), .eq (.pointer (some ⟨g, 0, none⟩)), .eq (.pointer (some ⟨b6, 1, none⟩)), .eq (.int .i64 q.n), .eq (.int .i64 V1), .eq (.pointer (some ⟨r, 0, none⟩)), .eq (.pointer (some ⟨b6, 1, none⟩)), .eq (.int .i64 q.n), .eq (.int .i64 V1), .eq (.bool false), .eq (.bool false), .eq (.bool false), .eq (.pointer (some ⟨g, 0, none⟩)), .eq (.pointer (some ⟨b6, 1, none⟩)), .eq (.int .i64 q.n), .eq (.pointer (some ⟨b6, 2, none⟩)), .eq (.int .i64 q.i), .eq (.int .i64 V2), .eq (.pointer (some ⟨r, 0, none⟩)), .eq (.pointer (some ⟨b6, 1, none⟩)), .eq (.int .i64 q.n), .eq (.pointer (some ⟨b6, 2, none⟩)), .eq (.int .i64 q.i), .eq (.int .i64 V2), .eq (.bool false), .eq (.bool false), .eq (.bool false), .eq (.pointer (some ⟨g, 0, none⟩)), .eq (.pointer (some ⟨b6, 1, none⟩)), .eq (.int .i64 q.n), .eq (.pointer (some ⟨b6, 2, none⟩)), .eq (.int .i64 q.i), .eq (.int .i64 V3), .eq (.int .i64 V3), .eq (.bool false), .eq (.bool false)] (by kernel_rfl) rfl (by kernel_rfl) ?_ ?_
            · refine sv 1 rfl rfl rfl (fun a u hE hD hk => exec_move (.tmp 7) _ rfl (hE 7 (.bool true) (by kernel_rfl) (by kernel_rfl))) ?_
              refine sv 2 rfl rfl rfl (fun a u hE hD hk => exec_not _ (.tmp 101) true rfl (hD 0 101 (by kernel_rfl))) ?_
              refine sv 3 rfl rfl rfl (fun a u hE hD hk => exec_move (.tmp 102) _ rfl (hD 1 102 (by kernel_rfl))) ?_
              refine fsteps_cons 4 rfl (fun a u hE hD hk => f_val (o := ⟨some 104, _, _, _, _, _⟩) (.pointer (some ⟨g, 0, none⟩)) rfl (wanted_at (b := false) false rfl rfl (hD 2 103 (by kernel_rfl))) (exec_move (.tmp 3) _ rfl (hE 3 (.pointer (some ⟨g, 0, none⟩)) (by kernel_rfl) (by kernel_rfl))) rfl) ?_
              refine fsteps_cons 5 rfl (fun a u hE hD hk => f_val (o := ⟨some 105, _, _, _, _, _⟩) (.pointer (some ⟨b6, 1, none⟩)) rfl (wanted_at (b := false) false rfl rfl (hD 2 103 (by kernel_rfl))) (exec_fldo 41 1 1 (.tmp 6) (b6) (0) (1) rfl (hE 6 (.pointer (some ⟨b6, 0, none⟩)) (by kernel_rfl) (by kernel_rfl)) (by kernel_rfl) rfl) rfl) ?_
              refine fsteps_cons 6 rfl (fun a u hE hD hk => f_val (o := ⟨some 106, _, _, _, _, _⟩) (.int .i64 q.n) rfl (wanted_at (b := false) false rfl rfl (hD 2 103 (by kernel_rfl))) (exec_loadi 3 Try.underlying3 (.tmp 105) ⟨b6, 1, none⟩ (.int .i64 q.n) rfl (hD 4 105 (by kernel_rfl)) (range_int (range_kept HCa.out hk) 1 _ rfl)) rfl) ?_
              refine fsteps_cons 7 rfl (fun a u hE hD hk => f_call (o := ⟨some 107, _, _, _, _, _⟩) 10 #[.pointer (some ⟨g, 0, none⟩), .int .i64 q.n] rfl (wanted_at (b := false) false rfl rfl (hD 2 103 (by kernel_rfl))) (exec_call 10 _ [.tmp 104, .tmp 106] _ [.pointer (some ⟨g, 0, none⟩), .int .i64 q.n] Try.func10 (by kernel_rfl) (by kernel_rfl) rfl (show [a.eval (.tmp 104), a.eval (.tmp 106)] = [.pointer (some ⟨g, 0, none⟩), .int .i64 q.n] from (by rw [show a.eval (.tmp 104) = .pointer (some ⟨g, 0, none⟩) from (hD 3 104 (by kernel_rfl)), show a.eval (.tmp 106) = .int .i64 q.n from (hD 5 106 (by kernel_rfl))] <;> rfl)) u) (all_at (HBa.out.kept hk) HI2.out HV1.out)) ?_
              refine fsteps_cons 8 rfl (fun a u hE hD hk => f_val (o := ⟨some 108, _, _, _, _, _⟩) (.pointer (some ⟨r, 0, none⟩)) rfl (wanted_at (b := false) false rfl rfl (hD 2 103 (by kernel_rfl))) (exec_move (.tmp 4) _ rfl (hE 4 (.pointer (some ⟨r, 0, none⟩)) (by kernel_rfl) (by kernel_rfl))) rfl) ?_
              refine fsteps_cons 9 rfl (fun a u hE hD hk => f_val (o := ⟨some 109, _, _, _, _, _⟩) (.pointer (some ⟨b6, 1, none⟩)) rfl (wanted_at (b := false) false rfl rfl (hD 2 103 (by kernel_rfl))) (exec_fldo 41 1 1 (.tmp 6) (b6) (0) (1) rfl (hE 6 (.pointer (some ⟨b6, 0, none⟩)) (by kernel_rfl) (by kernel_rfl)) (by kernel_rfl) rfl) rfl) ?_
              refine fsteps_cons 10 rfl (fun a u hE hD hk => f_val (o := ⟨some 110, _, _, _, _, _⟩) (.int .i64 q.n) rfl (wanted_at (b := false) false rfl rfl (hD 2 103 (by kernel_rfl))) (exec_loadi 3 Try.underlying3 (.tmp 109) ⟨b6, 1, none⟩ (.int .i64 q.n) rfl (hD 8 109 (by kernel_rfl)) (range_int (range_kept HCa.out hk) 1 _ rfl)) rfl) ?_
              refine fsteps_cons 11 rfl (fun a u hE hD hk => f_call (o := ⟨some 111, _, _, _, _, _⟩) 15 #[.pointer (some ⟨r, 0, none⟩), .int .i64 q.n] rfl (wanted_at (b := false) false rfl rfl (hD 2 103 (by kernel_rfl))) (exec_call 15 _ [.tmp 108, .tmp 110] _ [.pointer (some ⟨r, 0, none⟩), .int .i64 q.n] Try.func15 (by kernel_rfl) (by kernel_rfl) rfl (show [a.eval (.tmp 108), a.eval (.tmp 110)] = [.pointer (some ⟨r, 0, none⟩), .int .i64 q.n] from (by rw [show a.eval (.tmp 108) = .pointer (some ⟨r, 0, none⟩) from (hD 7 108 (by kernel_rfl)), show a.eval (.tmp 110) = .int .i64 q.n from (hD 9 110 (by kernel_rfl))] <;> rfl)) u) (rall_at (HRa.out.kept hk) HI2.out HV1.out)) ?_
              refine fsteps_cons 12 rfl (fun a u hE hD hk => f_as (show ((decide ((V1 : Int) ≠ (V1 : Int))) : Bool) = false from decide_eq_false (by omega)) (f_val (o := ⟨some 112, _, _, _, _, _⟩) (.bool (decide ((V1 : Int) ≠ (V1 : Int)))) rfl (wanted_at (b := false) false rfl rfl (hD 2 103 (by kernel_rfl))) (exec_nen (p := V1) (q := V1) rfl (hD 6 107 (by kernel_rfl)) (hD 10 111 (by kernel_rfl))) rfl)) ?_
              refine sv 13 rfl rfl rfl (fun a u hE hD hk => exec_pickF (.tmp 103) (.const (.bool true)) (.tmp 112) (.bool false) rfl (hD 2 103 (by kernel_rfl)) (hD 11 112 (by kernel_rfl))) ?_
              refine sv 14 rfl rfl rfl (fun a u hE hD hk => exec_move (.tmp 113) _ rfl (hD 12 113 (by kernel_rfl))) ?_
              refine fsteps_cons 15 rfl (fun a u hE hD hk => f_val (o := ⟨some 115, _, _, _, _, _⟩) (.pointer (some ⟨g, 0, none⟩)) rfl (wanted_at (b := false) false rfl rfl (hD 13 114 (by kernel_rfl))) (exec_move (.tmp 3) _ rfl (hE 3 (.pointer (some ⟨g, 0, none⟩)) (by kernel_rfl) (by kernel_rfl))) rfl) ?_
              refine fsteps_cons 16 rfl (fun a u hE hD hk => f_val (o := ⟨some 116, _, _, _, _, _⟩) (.pointer (some ⟨b6, 1, none⟩)) rfl (wanted_at (b := false) false rfl rfl (hD 13 114 (by kernel_rfl))) (exec_fldo 41 1 1 (.tmp 6) (b6) (0) (1) rfl (hE 6 (.pointer (some ⟨b6, 0, none⟩)) (by kernel_rfl) (by kernel_rfl)) (by kernel_rfl) rfl) rfl) ?_
              refine fsteps_cons 17 rfl (fun a u hE hD hk => f_val (o := ⟨some 117, _, _, _, _, _⟩) (.int .i64 q.n) rfl (wanted_at (b := false) false rfl rfl (hD 13 114 (by kernel_rfl))) (exec_loadi 3 Try.underlying3 (.tmp 116) ⟨b6, 1, none⟩ (.int .i64 q.n) rfl (hD 15 116 (by kernel_rfl)) (range_int (range_kept HCa.out hk) 1 _ rfl)) rfl) ?_
              refine fsteps_cons 18 rfl (fun a u hE hD hk => f_val (o := ⟨some 118, _, _, _, _, _⟩) (.pointer (some ⟨b6, 2, none⟩)) rfl (wanted_at (b := false) false rfl rfl (hD 13 114 (by kernel_rfl))) (exec_fldo 41 2 2 (.tmp 6) (b6) (0) (2) rfl (hE 6 (.pointer (some ⟨b6, 0, none⟩)) (by kernel_rfl) (by kernel_rfl)) (by kernel_rfl) rfl) rfl) ?_
              refine fsteps_cons 19 rfl (fun a u hE hD hk => f_val (o := ⟨some 119, _, _, _, _, _⟩) (.int .i64 q.i) rfl (wanted_at (b := false) false rfl rfl (hD 13 114 (by kernel_rfl))) (exec_loadi 3 Try.underlying3 (.tmp 118) ⟨b6, 2, none⟩ (.int .i64 q.i) rfl (hD 17 118 (by kernel_rfl)) (range_int (range_kept HCa.out hk) 2 _ rfl)) rfl) ?_
              refine fsteps_cons 20 rfl (fun a u hE hD hk => f_call (o := ⟨some 120, _, _, _, _, _⟩) 12 #[.pointer (some ⟨g, 0, none⟩), .int .i64 q.n, .int .i64 q.i] rfl (wanted_at (b := false) false rfl rfl (hD 13 114 (by kernel_rfl))) (exec_call 12 _ [.tmp 115, .tmp 117, .tmp 119] _ [.pointer (some ⟨g, 0, none⟩), .int .i64 q.n, .int .i64 q.i] Try.func12 (by kernel_rfl) (by kernel_rfl) rfl (show [a.eval (.tmp 115), a.eval (.tmp 117), a.eval (.tmp 119)] = [.pointer (some ⟨g, 0, none⟩), .int .i64 q.n, .int .i64 q.i] from (by rw [show a.eval (.tmp 115) = .pointer (some ⟨g, 0, none⟩) from (hD 14 115 (by kernel_rfl)), show a.eval (.tmp 117) = .int .i64 q.n from (hD 16 117 (by kernel_rfl)), show a.eval (.tmp 119) = .int .i64 q.i from (hD 18 119 (by kernel_rfl))] <;> rfl)) u) (pos_at (HBa.out.kept hk) HV2.out)) ?_
              refine fsteps_cons 21 rfl (fun a u hE hD hk => f_val (o := ⟨some 121, _, _, _, _, _⟩) (.pointer (some ⟨r, 0, none⟩)) rfl (wanted_at (b := false) false rfl rfl (hD 13 114 (by kernel_rfl))) (exec_move (.tmp 4) _ rfl (hE 4 (.pointer (some ⟨r, 0, none⟩)) (by kernel_rfl) (by kernel_rfl))) rfl) ?_
              refine fsteps_cons 22 rfl (fun a u hE hD hk => f_val (o := ⟨some 122, _, _, _, _, _⟩) (.pointer (some ⟨b6, 1, none⟩)) rfl (wanted_at (b := false) false rfl rfl (hD 13 114 (by kernel_rfl))) (exec_fldo 41 1 1 (.tmp 6) (b6) (0) (1) rfl (hE 6 (.pointer (some ⟨b6, 0, none⟩)) (by kernel_rfl) (by kernel_rfl)) (by kernel_rfl) rfl) rfl) ?_
              refine fsteps_cons 23 rfl (fun a u hE hD hk => f_val (o := ⟨some 123, _, _, _, _, _⟩) (.int .i64 q.n) rfl (wanted_at (b := false) false rfl rfl (hD 13 114 (by kernel_rfl))) (exec_loadi 3 Try.underlying3 (.tmp 122) ⟨b6, 1, none⟩ (.int .i64 q.n) rfl (hD 21 122 (by kernel_rfl)) (range_int (range_kept HCa.out hk) 1 _ rfl)) rfl) ?_
              refine fsteps_cons 24 rfl (fun a u hE hD hk => f_val (o := ⟨some 124, _, _, _, _, _⟩) (.pointer (some ⟨b6, 2, none⟩)) rfl (wanted_at (b := false) false rfl rfl (hD 13 114 (by kernel_rfl))) (exec_fldo 41 2 2 (.tmp 6) (b6) (0) (2) rfl (hE 6 (.pointer (some ⟨b6, 0, none⟩)) (by kernel_rfl) (by kernel_rfl)) (by kernel_rfl) rfl) rfl) ?_
              refine fsteps_cons 25 rfl (fun a u hE hD hk => f_val (o := ⟨some 125, _, _, _, _, _⟩) (.int .i64 q.i) rfl (wanted_at (b := false) false rfl rfl (hD 13 114 (by kernel_rfl))) (exec_loadi 3 Try.underlying3 (.tmp 124) ⟨b6, 2, none⟩ (.int .i64 q.i) rfl (hD 23 124 (by kernel_rfl)) (range_int (range_kept HCa.out hk) 2 _ rfl)) rfl) ?_
              refine fsteps_cons 26 rfl (fun a u hE hD hk => f_call (o := ⟨some 126, _, _, _, _, _⟩) 16 #[.pointer (some ⟨r, 0, none⟩), .int .i64 q.n, .int .i64 q.i] rfl (wanted_at (b := false) false rfl rfl (hD 13 114 (by kernel_rfl))) (exec_call 16 _ [.tmp 121, .tmp 123, .tmp 125] _ [.pointer (some ⟨r, 0, none⟩), .int .i64 q.n, .int .i64 q.i] Try.func16 (by kernel_rfl) (by kernel_rfl) rfl (show [a.eval (.tmp 121), a.eval (.tmp 123), a.eval (.tmp 125)] = [.pointer (some ⟨r, 0, none⟩), .int .i64 q.n, .int .i64 q.i] from (by rw [show a.eval (.tmp 121) = .pointer (some ⟨r, 0, none⟩) from (hD 20 121 (by kernel_rfl)), show a.eval (.tmp 123) = .int .i64 q.n from (hD 22 123 (by kernel_rfl)), show a.eval (.tmp 125) = .int .i64 q.i from (hD 24 125 (by kernel_rfl))] <;> rfl)) u) (rpos_at (HRa.out.kept hk) HV2.out)) ?_
              refine fsteps_cons 27 rfl (fun a u hE hD hk => f_as (show ((decide ((V2 : Int) ≠ (V2 : Int))) : Bool) = false from decide_eq_false (by omega)) (f_val (o := ⟨some 127, _, _, _, _, _⟩) (.bool (decide ((V2 : Int) ≠ (V2 : Int)))) rfl (wanted_at (b := false) false rfl rfl (hD 13 114 (by kernel_rfl))) (exec_nen (p := V2) (q := V2) rfl (hD 19 120 (by kernel_rfl)) (hD 25 126 (by kernel_rfl))) rfl)) ?_
              refine sv 28 rfl rfl rfl (fun a u hE hD hk => exec_pickF (.tmp 114) (.const (.bool true)) (.tmp 127) (.bool false) rfl (hD 13 114 (by kernel_rfl)) (hD 26 127 (by kernel_rfl))) ?_
              refine sv 29 rfl rfl rfl (fun a u hE hD hk => exec_move (.tmp 128) _ rfl (hD 27 128 (by kernel_rfl))) ?_
              refine fsteps_cons 30 rfl (fun a u hE hD hk => f_val (o := ⟨some 130, _, _, _, _, _⟩) (.pointer (some ⟨g, 0, none⟩)) rfl (wanted_at (b := false) false rfl rfl (hD 28 129 (by kernel_rfl))) (exec_move (.tmp 3) _ rfl (hE 3 (.pointer (some ⟨g, 0, none⟩)) (by kernel_rfl) (by kernel_rfl))) rfl) ?_
              refine fsteps_cons 31 rfl (fun a u hE hD hk => f_val (o := ⟨some 131, _, _, _, _, _⟩) (.pointer (some ⟨b6, 1, none⟩)) rfl (wanted_at (b := false) false rfl rfl (hD 28 129 (by kernel_rfl))) (exec_fldo 41 1 1 (.tmp 6) (b6) (0) (1) rfl (hE 6 (.pointer (some ⟨b6, 0, none⟩)) (by kernel_rfl) (by kernel_rfl)) (by kernel_rfl) rfl) rfl) ?_
              refine fsteps_cons 32 rfl (fun a u hE hD hk => f_val (o := ⟨some 132, _, _, _, _, _⟩) (.int .i64 q.n) rfl (wanted_at (b := false) false rfl rfl (hD 28 129 (by kernel_rfl))) (exec_loadi 3 Try.underlying3 (.tmp 131) ⟨b6, 1, none⟩ (.int .i64 q.n) rfl (hD 30 131 (by kernel_rfl)) (range_int (range_kept HCa.out hk) 1 _ rfl)) rfl) ?_
              refine fsteps_cons 33 rfl (fun a u hE hD hk => f_val (o := ⟨some 133, _, _, _, _, _⟩) (.pointer (some ⟨b6, 2, none⟩)) rfl (wanted_at (b := false) false rfl rfl (hD 28 129 (by kernel_rfl))) (exec_fldo 41 2 2 (.tmp 6) (b6) (0) (2) rfl (hE 6 (.pointer (some ⟨b6, 0, none⟩)) (by kernel_rfl) (by kernel_rfl)) (by kernel_rfl) rfl) rfl) ?_
              refine fsteps_cons 34 rfl (fun a u hE hD hk => f_val (o := ⟨some 134, _, _, _, _, _⟩) (.int .i64 q.i) rfl (wanted_at (b := false) false rfl rfl (hD 28 129 (by kernel_rfl))) (exec_loadi 3 Try.underlying3 (.tmp 133) ⟨b6, 2, none⟩ (.int .i64 q.i) rfl (hD 32 133 (by kernel_rfl)) (range_int (range_kept HCa.out hk) 2 _ rfl)) rfl) ?_
              refine fsteps_cons 35 rfl (fun a u hE hD hk => f_call (o := ⟨some 135, _, _, _, _, _⟩) 17 #[.pointer (some ⟨g, 0, none⟩), .int .i64 q.n, .int .i64 q.i] rfl (wanted_at (b := false) false rfl rfl (hD 28 129 (by kernel_rfl))) (exec_call 17 _ [.tmp 130, .tmp 132, .tmp 134] _ [.pointer (some ⟨g, 0, none⟩), .int .i64 q.n, .int .i64 q.i] Try.func17 (by kernel_rfl) (by kernel_rfl) rfl (show [a.eval (.tmp 130), a.eval (.tmp 132), a.eval (.tmp 134)] = [.pointer (some ⟨g, 0, none⟩), .int .i64 q.n, .int .i64 q.i] from (by rw [show a.eval (.tmp 130) = .pointer (some ⟨g, 0, none⟩) from (hD 29 130 (by kernel_rfl)), show a.eval (.tmp 132) = .int .i64 q.n from (hD 31 132 (by kernel_rfl)), show a.eval (.tmp 134) = .int .i64 q.i from (hD 33 134 (by kernel_rfl))] <;> rfl)) u) (openAt_at (HBa.out.kept hk) HV3.out)) ?_
              refine fsteps_cons 36 rfl (fun a u hE hD hk => f_val (o := ⟨some 136, _, _, _, _, _⟩) (.int .i64 V3) rfl (wanted_at (b := false) false rfl rfl (hD 28 129 (by kernel_rfl))) (exec_move (.tmp 8) _ rfl (hE 8 (.int .i64 V3) (by kernel_rfl) (by kernel_rfl))) rfl) ?_
              refine fsteps_cons 37 rfl (fun a u hE hD hk => f_as (show ((decide ((V3 : Int) ≠ (V3 : Int))) : Bool) = false from decide_eq_false (by omega)) (f_val (o := ⟨some 137, _, _, _, _, _⟩) (.bool (decide ((V3 : Int) ≠ (V3 : Int)))) rfl (wanted_at (b := false) false rfl rfl (hD 28 129 (by kernel_rfl))) (exec_nen (p := V3) (q := V3) rfl (hD 34 135 (by kernel_rfl)) (hD 35 136 (by kernel_rfl))) rfl)) ?_
              refine sv 38 rfl rfl rfl (fun a u hE hD hk => exec_pickF (.tmp 129) (.const (.bool true)) (.tmp 137) (.bool false) rfl (hD 28 129 (by kernel_rfl)) (hD 36 137 (by kernel_rfl))) ?_
              exact fsteps_nil
            intro gv wz hV kz
            rw [show dstsOf _ 38 = [101, 102, 103, 104, 105, 106, 107, 108, 109, 110, 111, 112, 113, 114, 115, 116, 117, 118, 119, 120, 121, 122, 123, 124, 125, 126, 127, 128, 129, 130, 131, 132, 133, 134, 135, 136, 137, 138] by kernel_rfl]
            simp only [List.foldl_cons, List.foldl_nil, List.setIfInBounds_toArray, List.set_cons_succ, List.set_cons_zero, List.drop_succ_cons, List.drop_zero]
            rw [show gv 138 = .bool false from hV 37 138 (by kernel_rfl)]
            clear hV
            refine wpList_nil ?_
            have HBz := Lib.hid (HBa.out.kept kz)
            have HRz := Lib.hid (HRa.out.kept kz)
            have kwz := kwa.trans kz
            go_wp2
            exact ⟨⟨k + 1, B2, by simp, by omega, by omega, HBz, HRz, HI2, kwz⟩, by simp [intOf]; omega⟩
        · skip
          go_upto_region 10 with fail
          refine wp_text 2 [.eq (.bool false), .eq (.bool false)] rfl (by kernel_rfl) ?_ ?_
          · refine fsteps_cons 1 rfl (fun a u hE hD hk => f_as (show ((decide ((q.k : Int) = (1 : Int))) : Bool) = false from decide_eq_false h1) (f_val (o := ⟨some 31, _, _, _, _, _⟩) (.bool (decide ((q.k : Int) = (1 : Int)))) rfl (wanted_none rfl _) (exec_eqn (p := q.k) (q := 1) rfl (hE 29 (.int .i64 q.k) (by kernel_rfl) (by kernel_rfl)) rfl) rfl)) ?_
            refine sv 2 rfl rfl rfl (fun a u hE hD hk => exec_assign (.tmp 31) _ rfl (hD 0 31 (by kernel_rfl))) ?_
            exact fsteps_nil
          intro gv wq hV kk
          rw [show dstsOf _ 2 = [31, 30] by kernel_rfl]
          simp only [List.foldl_cons, List.foldl_nil, List.setIfInBounds_toArray, List.set_cons_succ, List.set_cons_zero, List.drop_succ_cons, List.drop_zero]
          rw [show gv 30 = .bool false from hV 1 30 (by kernel_rfl)]
          clear hV
          refine wpList_nil ?_
          have HBq := Lib.hid (HB7.out.kept kk)
          have HRq := Lib.hid (HR7.out.kept kk)
          have HCq := Lib.hid (range_kept HC7.out kk)
          have kwq := kw7.trans kk
          clear HB7 HR7 HC7 kw7 kk
          go_upto_region 12 with fail
          refine wp_text 2 [.eq (.bool false), .eq (.bool false)] rfl (by kernel_rfl) ?_ ?_
          · refine fsteps_cons 1 rfl (fun a u hE hD hk => f_as (show ((decide ((q.k : Int) = (2 : Int))) : Bool) = false from decide_eq_false h2) (f_val (o := ⟨some 50, _, _, _, _, _⟩) (.bool (decide ((q.k : Int) = (2 : Int)))) rfl (wanted_none rfl _) (exec_eqn (p := q.k) (q := 2) rfl (hE 29 (.int .i64 q.k) (by kernel_rfl) (by kernel_rfl)) rfl) rfl)) ?_
            refine sv 2 rfl rfl rfl (fun a u hE hD hk => exec_assign (.tmp 50) _ rfl (hD 0 50 (by kernel_rfl))) ?_
            exact fsteps_nil
          intro gv w9 hV kk
          rw [show dstsOf _ 2 = [50, 49] by kernel_rfl]
          simp only [List.foldl_cons, List.foldl_nil, List.setIfInBounds_toArray, List.set_cons_succ, List.set_cons_zero, List.drop_succ_cons, List.drop_zero]
          rw [show gv 49 = .bool false from hV 1 49 (by kernel_rfl)]
          clear hV
          refine wpList_nil ?_
          have HB9 := Lib.hid (HBq.out.kept kk)
          have HR9 := Lib.hid (HRq.out.kept kk)
          have HC9 := Lib.hid (range_kept HCq.out kk)
          have kw9 := kwq.trans kk
          clear HBq HRq HCq kwq kk
          clear h1 h2
          obtain ⟨B2, hB2⟩ : ∃ B2, B = B2 := ⟨_, rfl⟩
          subst hB2
          have HI2 := HI
          obtain ⟨V1, hV1⟩ : ∃ V, B.all q.n = V := ⟨_, rfl⟩
          obtain ⟨V2, hV2⟩ : ∃ V, B.pAt q.n q.i = V := ⟨_, rfl⟩
          obtain ⟨V3, hV3⟩ : ∃ V, B.oAt q.n q.i = V := ⟨_, rfl⟩
          have HV1 := Lib.hid hV1
          have HV2 := Lib.hid hV2
          have HV3 := Lib.hid hV3
          clear hV1 hV2 hV3
          cases hT : thB q.n q.i with
          | false =>
            have HT := Lib.hid hT
            have h3 : V3 = 0 := by rw [← HV3.out]; exact pick2_out _ hT
            clear hT
            go_upto_region 15 with fail
            refine wp_text 18 [.eq (.pointer (some ⟨b6, 1, none⟩)), .eq (.int .i64 q.n), .eq (.bool (decide ((0 : Int) ≤ (q.n : Int)))), .eq (.bool (decide ((0 : Int) ≤ (q.n : Int)))), .cond (decide ((0 : Int) ≤ (q.n : Int))) (.eq (.pointer (some ⟨b6, 1, none⟩))), .cond (decide ((0 : Int) ≤ (q.n : Int))) (.eq (.int .i64 q.n)), .cond (decide ((0 : Int) ≤ (q.n : Int))) (.eq (.bool (decide ((q.n : Int) < (32 : Int))))), .eq (.bool ((decide ((0 : Int) ≤ (q.n : Int))) && (decide ((q.n : Int) < (32 : Int))))), .eq (.bool ((decide ((0 : Int) ≤ (q.n : Int))) && (decide ((q.n : Int) < (32 : Int))))), .cond ((decide ((0 : Int) ≤ (q.n : Int))) && (decide ((q.n : Int) < (32 : Int)))) (.eq (.pointer (some ⟨b6, 2, none⟩))), .cond ((decide ((0 : Int) ≤ (q.n : Int))) && (decide ((q.n : Int) < (32 : Int)))) (.eq (.int .i64 q.i)), .cond ((decide ((0 : Int) ≤ (q.n : Int))) && (decide ((q.n : Int) < (32 : Int)))) (.eq (.bool (decide ((0 : Int) ≤ (q.i : Int))))), .eq (.bool (((decide ((0 : Int) ≤ (q.n : Int))) && (decide ((q.n : Int) < (32 : Int)))) && (decide ((0 : Int) ≤ (q.i : Int))))), .eq (.bool (((decide ((0 : Int) ≤ (q.n : Int))) && (decide ((q.n : Int) < (32 : Int)))) && (decide ((0 : Int) ≤ (q.i : Int))))), .cond (((decide ((0 : Int) ≤ (q.n : Int))) && (decide ((q.n : Int) < (32 : Int)))) && (decide ((0 : Int) ≤ (q.i : Int)))) (.eq (.pointer (some ⟨b6, 2, none⟩))), .cond (((decide ((0 : Int) ≤ (q.n : Int))) && (decide ((q.n : Int) < (32 : Int)))) && (decide ((0 : Int) ≤ (q.i : Int)))) (.eq (.int .i64 q.i)), .cond (((decide ((0 : Int) ≤ (q.n : Int))) && (decide ((q.n : Int) < (32 : Int)))) && (decide ((0 : Int) ≤ (q.i : Int)))) (.eq (.bool (decide ((q.i : Int) < (8 : Int))))), .eq (.bool false)] rfl (by kernel_rfl) ?_ ?_
            · refine sv 1 rfl rfl rfl (fun a u hE hD hk => exec_fldo 41 1 1 (.tmp 6) (b6) (0) (1) rfl (hE 6 (.pointer (some ⟨b6, 0, none⟩)) (by kernel_rfl) (by kernel_rfl)) (by kernel_rfl) rfl) ?_
              refine sv 2 rfl rfl rfl (fun a u hE hD hk => exec_loadi 3 Try.underlying3 (.tmp 72) ⟨b6, 1, none⟩ (.int .i64 q.n) rfl (hD 0 72 (by kernel_rfl)) (range_int (range_kept HC9.out hk) 1 _ rfl)) ?_
              refine sv 3 rfl rfl rfl (fun a u hE hD hk => exec_gen (p := q.n) (q := 0) rfl (hD 1 73 (by kernel_rfl)) rfl) ?_
              refine sv 4 rfl rfl rfl (fun a u hE hD hk => exec_move (.tmp 74) _ rfl (hD 2 74 (by kernel_rfl))) ?_
              refine fsteps_cons 5 rfl (fun a u hE hD hk => f_if ((decide ((0 : Int) ≤ (q.n : Int)))) rfl rfl rfl (hD 3 75 (by kernel_rfl)) (fun hb => f_val (o := ⟨some 76, _, _, _, _, _⟩) (.pointer (some ⟨b6, 1, none⟩)) rfl (wanted_b rfl rfl (hD 3 75 (by kernel_rfl)) (eq_true_of hb)) (exec_fldo 41 1 1 (.tmp 6) (b6) (0) (1) rfl (hE 6 (.pointer (some ⟨b6, 0, none⟩)) (by kernel_rfl) (by kernel_rfl)) (by kernel_rfl) rfl) rfl)) ?_
              refine fsteps_cons 6 rfl (fun a u hE hD hk => f_if ((decide ((0 : Int) ≤ (q.n : Int)))) rfl rfl rfl (hD 3 75 (by kernel_rfl)) (fun hb => f_val (o := ⟨some 77, _, _, _, _, _⟩) (.int .i64 q.n) rfl (wanted_b rfl rfl (hD 3 75 (by kernel_rfl)) (eq_true_of hb)) (exec_loadi 3 Try.underlying3 (.tmp 76) ⟨b6, 1, none⟩ (.int .i64 q.n) rfl ((hD 4 76 (by kernel_rfl)).1 hb) (range_int (range_kept HC9.out hk) 1 _ rfl)) rfl)) ?_
              refine fsteps_cons 7 rfl (fun a u hE hD hk => f_if ((decide ((0 : Int) ≤ (q.n : Int)))) rfl rfl rfl (hD 3 75 (by kernel_rfl)) (fun hb => f_val (o := ⟨some 78, _, _, _, _, _⟩) (.bool (decide ((q.n : Int) < (32 : Int)))) rfl (wanted_b rfl rfl (hD 3 75 (by kernel_rfl)) (eq_true_of hb)) (exec_ltn (p := q.n) (q := 32) rfl ((hD 5 77 (by kernel_rfl)).1 hb) rfl) rfl)) ?_
              refine sv 8 rfl rfl rfl (fun a u hE hD hk => exec_pickand (.tmp 75) (.tmp 78) (.const (.bool false)) ((decide ((0 : Int) ≤ (q.n : Int)))) ((decide ((q.n : Int) < (32 : Int)))) rfl (hD 3 75 (by kernel_rfl)) (fun hb2 => ((hD 6 78 (by kernel_rfl)).1 hb2)) rfl) ?_
              refine sv 9 rfl rfl rfl (fun a u hE hD hk => exec_move (.tmp 79) _ rfl (hD 7 79 (by kernel_rfl))) ?_
              refine fsteps_cons 10 rfl (fun a u hE hD hk => f_if (((decide ((0 : Int) ≤ (q.n : Int))) && (decide ((q.n : Int) < (32 : Int))))) rfl rfl rfl (hD 8 80 (by kernel_rfl)) (fun hb => f_val (o := ⟨some 81, _, _, _, _, _⟩) (.pointer (some ⟨b6, 2, none⟩)) rfl (wanted_b rfl rfl (hD 8 80 (by kernel_rfl)) (eq_true_of hb)) (exec_fldo 41 2 2 (.tmp 6) (b6) (0) (2) rfl (hE 6 (.pointer (some ⟨b6, 0, none⟩)) (by kernel_rfl) (by kernel_rfl)) (by kernel_rfl) rfl) rfl)) ?_
              refine fsteps_cons 11 rfl (fun a u hE hD hk => f_if (((decide ((0 : Int) ≤ (q.n : Int))) && (decide ((q.n : Int) < (32 : Int))))) rfl rfl rfl (hD 8 80 (by kernel_rfl)) (fun hb => f_val (o := ⟨some 82, _, _, _, _, _⟩) (.int .i64 q.i) rfl (wanted_b rfl rfl (hD 8 80 (by kernel_rfl)) (eq_true_of hb)) (exec_loadi 3 Try.underlying3 (.tmp 81) ⟨b6, 2, none⟩ (.int .i64 q.i) rfl ((hD 9 81 (by kernel_rfl)).1 hb) (range_int (range_kept HC9.out hk) 2 _ rfl)) rfl)) ?_
              refine fsteps_cons 12 rfl (fun a u hE hD hk => f_if (((decide ((0 : Int) ≤ (q.n : Int))) && (decide ((q.n : Int) < (32 : Int))))) rfl rfl rfl (hD 8 80 (by kernel_rfl)) (fun hb => f_val (o := ⟨some 83, _, _, _, _, _⟩) (.bool (decide ((0 : Int) ≤ (q.i : Int)))) rfl (wanted_b rfl rfl (hD 8 80 (by kernel_rfl)) (eq_true_of hb)) (exec_gen (p := q.i) (q := 0) rfl ((hD 10 82 (by kernel_rfl)).1 hb) rfl) rfl)) ?_
              refine sv 13 rfl rfl rfl (fun a u hE hD hk => exec_pickand (.tmp 80) (.tmp 83) (.const (.bool false)) (((decide ((0 : Int) ≤ (q.n : Int))) && (decide ((q.n : Int) < (32 : Int))))) ((decide ((0 : Int) ≤ (q.i : Int)))) rfl (hD 8 80 (by kernel_rfl)) (fun hb2 => ((hD 11 83 (by kernel_rfl)).1 hb2)) rfl) ?_
              refine sv 14 rfl rfl rfl (fun a u hE hD hk => exec_move (.tmp 84) _ rfl (hD 12 84 (by kernel_rfl))) ?_
              refine fsteps_cons 15 rfl (fun a u hE hD hk => f_if ((((decide ((0 : Int) ≤ (q.n : Int))) && (decide ((q.n : Int) < (32 : Int)))) && (decide ((0 : Int) ≤ (q.i : Int))))) rfl rfl rfl (hD 13 85 (by kernel_rfl)) (fun hb => f_val (o := ⟨some 86, _, _, _, _, _⟩) (.pointer (some ⟨b6, 2, none⟩)) rfl (wanted_b rfl rfl (hD 13 85 (by kernel_rfl)) (eq_true_of hb)) (exec_fldo 41 2 2 (.tmp 6) (b6) (0) (2) rfl (hE 6 (.pointer (some ⟨b6, 0, none⟩)) (by kernel_rfl) (by kernel_rfl)) (by kernel_rfl) rfl) rfl)) ?_
              refine fsteps_cons 16 rfl (fun a u hE hD hk => f_if ((((decide ((0 : Int) ≤ (q.n : Int))) && (decide ((q.n : Int) < (32 : Int)))) && (decide ((0 : Int) ≤ (q.i : Int))))) rfl rfl rfl (hD 13 85 (by kernel_rfl)) (fun hb => f_val (o := ⟨some 87, _, _, _, _, _⟩) (.int .i64 q.i) rfl (wanted_b rfl rfl (hD 13 85 (by kernel_rfl)) (eq_true_of hb)) (exec_loadi 3 Try.underlying3 (.tmp 86) ⟨b6, 2, none⟩ (.int .i64 q.i) rfl ((hD 14 86 (by kernel_rfl)).1 hb) (range_int (range_kept HC9.out hk) 2 _ rfl)) rfl)) ?_
              refine fsteps_cons 17 rfl (fun a u hE hD hk => f_if ((((decide ((0 : Int) ≤ (q.n : Int))) && (decide ((q.n : Int) < (32 : Int)))) && (decide ((0 : Int) ≤ (q.i : Int))))) rfl rfl rfl (hD 13 85 (by kernel_rfl)) (fun hb => f_val (o := ⟨some 88, _, _, _, _, _⟩) (.bool (decide ((q.i : Int) < (8 : Int)))) rfl (wanted_b rfl rfl (hD 13 85 (by kernel_rfl)) (eq_true_of hb)) (exec_ltn (p := q.i) (q := 8) rfl ((hD 15 87 (by kernel_rfl)).1 hb) rfl) rfl)) ?_
              refine fsteps_cons 18 rfl (fun a u hE hD hk => f_as (show (((((decide ((0 : Int) ≤ (q.n : Int))) && (decide ((q.n : Int) < (32 : Int)))) && (decide ((0 : Int) ≤ (q.i : Int)))) && (decide ((q.i : Int) < (8 : Int)))) : Bool) = false from (th_eq _ _).symm.trans HT.out) (f_val (o := ⟨some 89, _, _, _, _, _⟩) (.bool ((((decide ((0 : Int) ≤ (q.n : Int))) && (decide ((q.n : Int) < (32 : Int)))) && (decide ((0 : Int) ≤ (q.i : Int)))) && (decide ((q.i : Int) < (8 : Int))))) rfl (wanted_none rfl _) (exec_pickand (.tmp 85) (.tmp 88) (.const (.bool false)) ((((decide ((0 : Int) ≤ (q.n : Int))) && (decide ((q.n : Int) < (32 : Int)))) && (decide ((0 : Int) ≤ (q.i : Int))))) ((decide ((q.i : Int) < (8 : Int)))) rfl (hD 13 85 (by kernel_rfl)) (fun hb2 => ((hD 16 88 (by kernel_rfl)).1 hb2)) rfl) rfl)) ?_
              exact fsteps_nil
            intro gv wa hV ka
            rw [show dstsOf _ 18 = [72, 73, 74, 75, 76, 77, 78, 79, 80, 81, 82, 83, 84, 85, 86, 87, 88, 89] by kernel_rfl]
            simp only [List.foldl_cons, List.foldl_nil, List.setIfInBounds_toArray, List.set_cons_succ, List.set_cons_zero, List.drop_succ_cons, List.drop_zero]
            rw [show gv 89 = .bool false from hV 17 89 (by kernel_rfl)]
            clear hV
            refine wpList_nil ?_
            have HBa := Lib.hid (HB9.out.kept ka)
            have HRa := Lib.hid (HR9.out.kept ka)
            have HCa := Lib.hid (range_kept HC9.out ka)
            have kwa := kw9.trans ka
            clear HB9 HR9 HC9 kw9 ka HT
            subst h3
            go_upto_region 17 with fail
            refine wp_free 38 [.eq (.bool true), .eq (.bool false), .eq (.bool false), .eq (.pointer (some ⟨g, 0, none⟩)), .eq (.pointer (some ⟨b6, 1, none⟩)), .eq (.int .i64 q.n), .eq (.int .i64 V1), .eq (.pointer (some ⟨r, 0, none⟩)), .eq (.pointer (some ⟨b6, 1, none⟩)), .eq (.int .i64 q.n), .eq (.int .i64 V1), .eq (.bool false), .eq (.bool false), .eq (.bool false), .eq (.pointer (some ⟨g, 0, none⟩)), .eq (.pointer (some ⟨b6, 1, none⟩)), .eq (.int .i64 q.n), .eq (.pointer (some ⟨b6, 2, none⟩)), .eq (.int .i64 q.i), .eq (.int .i64 V2), .eq (.pointer (some ⟨r, 0, none⟩)), .eq (.pointer (some ⟨b6, 1, none⟩)), .eq (.int .i64 q.n), .eq (.pointer (some ⟨b6, 2, none⟩)), .eq (.int .i64 q.i), .eq (.int .i64 V2), .eq (.bool false), .eq (.bool false), .eq (.bool false), .eq (.pointer (some ⟨g, 0, none⟩)), .eq (.pointer (some ⟨b6, 1, none⟩)), .eq (.int .i64 q.n), .eq (.pointer (some ⟨b6, 2, none⟩)), .eq (.int .i64 q.i), .eq (.int .i64 0), .eq (.int .i64 0), .eq (.bool false), .eq (.bool false)] (by kernel_rfl) rfl (by kernel_rfl) ?_ ?_
            · refine sv 1 rfl rfl rfl (fun a u hE hD hk => exec_move (.tmp 7) _ rfl (hE 7 (.bool true) (by kernel_rfl) (by kernel_rfl))) ?_
              refine sv 2 rfl rfl rfl (fun a u hE hD hk => exec_not _ (.tmp 101) true rfl (hD 0 101 (by kernel_rfl))) ?_
              refine sv 3 rfl rfl rfl (fun a u hE hD hk => exec_move (.tmp 102) _ rfl (hD 1 102 (by kernel_rfl))) ?_
              refine fsteps_cons 4 rfl (fun a u hE hD hk => f_val (o := ⟨some 104, _, _, _, _, _⟩) (.pointer (some ⟨g, 0, none⟩)) rfl (wanted_at (b := false) false rfl rfl (hD 2 103 (by kernel_rfl))) (exec_move (.tmp 3) _ rfl (hE 3 (.pointer (some ⟨g, 0, none⟩)) (by kernel_rfl) (by kernel_rfl))) rfl) ?_
              refine fsteps_cons 5 rfl (fun a u hE hD hk => f_val (o := ⟨some 105, _, _, _, _, _⟩) (.pointer (some ⟨b6, 1, none⟩)) rfl (wanted_at (b := false) false rfl rfl (hD 2 103 (by kernel_rfl))) (exec_fldo 41 1 1 (.tmp 6) (b6) (0) (1) rfl (hE 6 (.pointer (some ⟨b6, 0, none⟩)) (by kernel_rfl) (by kernel_rfl)) (by kernel_rfl) rfl) rfl) ?_
              refine fsteps_cons 6 rfl (fun a u hE hD hk => f_val (o := ⟨some 106, _, _, _, _, _⟩) (.int .i64 q.n) rfl (wanted_at (b := false) false rfl rfl (hD 2 103 (by kernel_rfl))) (exec_loadi 3 Try.underlying3 (.tmp 105) ⟨b6, 1, none⟩ (.int .i64 q.n) rfl (hD 4 105 (by kernel_rfl)) (range_int (range_kept HCa.out hk) 1 _ rfl)) rfl) ?_
              refine fsteps_cons 7 rfl (fun a u hE hD hk => f_call (o := ⟨some 107, _, _, _, _, _⟩) 10 #[.pointer (some ⟨g, 0, none⟩), .int .i64 q.n] rfl (wanted_at (b := false) false rfl rfl (hD 2 103 (by kernel_rfl))) (exec_call 10 _ [.tmp 104, .tmp 106] _ [.pointer (some ⟨g, 0, none⟩), .int .i64 q.n] Try.func10 (by kernel_rfl) (by kernel_rfl) rfl (show [a.eval (.tmp 104), a.eval (.tmp 106)] = [.pointer (some ⟨g, 0, none⟩), .int .i64 q.n] from (by rw [show a.eval (.tmp 104) = .pointer (some ⟨g, 0, none⟩) from (hD 3 104 (by kernel_rfl)), show a.eval (.tmp 106) = .int .i64 q.n from (hD 5 106 (by kernel_rfl))] <;> rfl)) u) (all_at (HBa.out.kept hk) HI2.out HV1.out)) ?_
              refine fsteps_cons 8 rfl (fun a u hE hD hk => f_val (o := ⟨some 108, _, _, _, _, _⟩) (.pointer (some ⟨r, 0, none⟩)) rfl (wanted_at (b := false) false rfl rfl (hD 2 103 (by kernel_rfl))) (exec_move (.tmp 4) _ rfl (hE 4 (.pointer (some ⟨r, 0, none⟩)) (by kernel_rfl) (by kernel_rfl))) rfl) ?_
              refine fsteps_cons 9 rfl (fun a u hE hD hk => f_val (o := ⟨some 109, _, _, _, _, _⟩) (.pointer (some ⟨b6, 1, none⟩)) rfl (wanted_at (b := false) false rfl rfl (hD 2 103 (by kernel_rfl))) (exec_fldo 41 1 1 (.tmp 6) (b6) (0) (1) rfl (hE 6 (.pointer (some ⟨b6, 0, none⟩)) (by kernel_rfl) (by kernel_rfl)) (by kernel_rfl) rfl) rfl) ?_
              refine fsteps_cons 10 rfl (fun a u hE hD hk => f_val (o := ⟨some 110, _, _, _, _, _⟩) (.int .i64 q.n) rfl (wanted_at (b := false) false rfl rfl (hD 2 103 (by kernel_rfl))) (exec_loadi 3 Try.underlying3 (.tmp 109) ⟨b6, 1, none⟩ (.int .i64 q.n) rfl (hD 8 109 (by kernel_rfl)) (range_int (range_kept HCa.out hk) 1 _ rfl)) rfl) ?_
              refine fsteps_cons 11 rfl (fun a u hE hD hk => f_call (o := ⟨some 111, _, _, _, _, _⟩) 15 #[.pointer (some ⟨r, 0, none⟩), .int .i64 q.n] rfl (wanted_at (b := false) false rfl rfl (hD 2 103 (by kernel_rfl))) (exec_call 15 _ [.tmp 108, .tmp 110] _ [.pointer (some ⟨r, 0, none⟩), .int .i64 q.n] Try.func15 (by kernel_rfl) (by kernel_rfl) rfl (show [a.eval (.tmp 108), a.eval (.tmp 110)] = [.pointer (some ⟨r, 0, none⟩), .int .i64 q.n] from (by rw [show a.eval (.tmp 108) = .pointer (some ⟨r, 0, none⟩) from (hD 7 108 (by kernel_rfl)), show a.eval (.tmp 110) = .int .i64 q.n from (hD 9 110 (by kernel_rfl))] <;> rfl)) u) (rall_at (HRa.out.kept hk) HI2.out HV1.out)) ?_
              refine fsteps_cons 12 rfl (fun a u hE hD hk => f_as (show ((decide ((V1 : Int) ≠ (V1 : Int))) : Bool) = false from decide_eq_false (by omega)) (f_val (o := ⟨some 112, _, _, _, _, _⟩) (.bool (decide ((V1 : Int) ≠ (V1 : Int)))) rfl (wanted_at (b := false) false rfl rfl (hD 2 103 (by kernel_rfl))) (exec_nen (p := V1) (q := V1) rfl (hD 6 107 (by kernel_rfl)) (hD 10 111 (by kernel_rfl))) rfl)) ?_
              refine sv 13 rfl rfl rfl (fun a u hE hD hk => exec_pickF (.tmp 103) (.const (.bool true)) (.tmp 112) (.bool false) rfl (hD 2 103 (by kernel_rfl)) (hD 11 112 (by kernel_rfl))) ?_
              refine sv 14 rfl rfl rfl (fun a u hE hD hk => exec_move (.tmp 113) _ rfl (hD 12 113 (by kernel_rfl))) ?_
              refine fsteps_cons 15 rfl (fun a u hE hD hk => f_val (o := ⟨some 115, _, _, _, _, _⟩) (.pointer (some ⟨g, 0, none⟩)) rfl (wanted_at (b := false) false rfl rfl (hD 13 114 (by kernel_rfl))) (exec_move (.tmp 3) _ rfl (hE 3 (.pointer (some ⟨g, 0, none⟩)) (by kernel_rfl) (by kernel_rfl))) rfl) ?_
              refine fsteps_cons 16 rfl (fun a u hE hD hk => f_val (o := ⟨some 116, _, _, _, _, _⟩) (.pointer (some ⟨b6, 1, none⟩)) rfl (wanted_at (b := false) false rfl rfl (hD 13 114 (by kernel_rfl))) (exec_fldo 41 1 1 (.tmp 6) (b6) (0) (1) rfl (hE 6 (.pointer (some ⟨b6, 0, none⟩)) (by kernel_rfl) (by kernel_rfl)) (by kernel_rfl) rfl) rfl) ?_
              refine fsteps_cons 17 rfl (fun a u hE hD hk => f_val (o := ⟨some 117, _, _, _, _, _⟩) (.int .i64 q.n) rfl (wanted_at (b := false) false rfl rfl (hD 13 114 (by kernel_rfl))) (exec_loadi 3 Try.underlying3 (.tmp 116) ⟨b6, 1, none⟩ (.int .i64 q.n) rfl (hD 15 116 (by kernel_rfl)) (range_int (range_kept HCa.out hk) 1 _ rfl)) rfl) ?_
              refine fsteps_cons 18 rfl (fun a u hE hD hk => f_val (o := ⟨some 118, _, _, _, _, _⟩) (.pointer (some ⟨b6, 2, none⟩)) rfl (wanted_at (b := false) false rfl rfl (hD 13 114 (by kernel_rfl))) (exec_fldo 41 2 2 (.tmp 6) (b6) (0) (2) rfl (hE 6 (.pointer (some ⟨b6, 0, none⟩)) (by kernel_rfl) (by kernel_rfl)) (by kernel_rfl) rfl) rfl) ?_
              refine fsteps_cons 19 rfl (fun a u hE hD hk => f_val (o := ⟨some 119, _, _, _, _, _⟩) (.int .i64 q.i) rfl (wanted_at (b := false) false rfl rfl (hD 13 114 (by kernel_rfl))) (exec_loadi 3 Try.underlying3 (.tmp 118) ⟨b6, 2, none⟩ (.int .i64 q.i) rfl (hD 17 118 (by kernel_rfl)) (range_int (range_kept HCa.out hk) 2 _ rfl)) rfl) ?_
              refine fsteps_cons 20 rfl (fun a u hE hD hk => f_call (o := ⟨some 120, _, _, _, _, _⟩) 12 #[.pointer (some ⟨g, 0, none⟩), .int .i64 q.n, .int .i64 q.i] rfl (wanted_at (b := false) false rfl rfl (hD 13 114 (by kernel_rfl))) (exec_call 12 _ [.tmp 115, .tmp 117, .tmp 119] _ [.pointer (some ⟨g, 0, none⟩), .int .i64 q.n, .int .i64 q.i] Try.func12 (by kernel_rfl) (by kernel_rfl) rfl (show [a.eval (.tmp 115), a.eval (.tmp 117), a.eval (.tmp 119)] = [.pointer (some ⟨g, 0, none⟩), .int .i64 q.n, .int .i64 q.i] from (by rw [show a.eval (.tmp 115) = .pointer (some ⟨g, 0, none⟩) from (hD 14 115 (by kernel_rfl)), show a.eval (.tmp 117) = .int .i64 q.n from (hD 16 117 (by kernel_rfl)), show a.eval (.tmp 119) = .int .i64 q.i from (hD 18 119 (by kernel_rfl))] <;> rfl)) u) (pos_at (HBa.out.kept hk) HV2.out)) ?_
              refine fsteps_cons 21 rfl (fun a u hE hD hk => f_val (o := ⟨some 121, _, _, _, _, _⟩) (.pointer (some ⟨r, 0, none⟩)) rfl (wanted_at (b := false) false rfl rfl (hD 13 114 (by kernel_rfl))) (exec_move (.tmp 4) _ rfl (hE 4 (.pointer (some ⟨r, 0, none⟩)) (by kernel_rfl) (by kernel_rfl))) rfl) ?_
              refine fsteps_cons 22 rfl (fun a u hE hD hk => f_val (o := ⟨some 122, _, _, _, _, _⟩) (.pointer (some ⟨b6, 1, none⟩)) rfl (wanted_at (b := false) false rfl rfl (hD 13 114 (by kernel_rfl))) (exec_fldo 41 1 1 (.tmp 6) (b6) (0) (1) rfl (hE 6 (.pointer (some ⟨b6, 0, none⟩)) (by kernel_rfl) (by kernel_rfl)) (by kernel_rfl) rfl) rfl) ?_
              refine fsteps_cons 23 rfl (fun a u hE hD hk => f_val (o := ⟨some 123, _, _, _, _, _⟩) (.int .i64 q.n) rfl (wanted_at (b := false) false rfl rfl (hD 13 114 (by kernel_rfl))) (exec_loadi 3 Try.underlying3 (.tmp 122) ⟨b6, 1, none⟩ (.int .i64 q.n) rfl (hD 21 122 (by kernel_rfl)) (range_int (range_kept HCa.out hk) 1 _ rfl)) rfl) ?_
              refine fsteps_cons 24 rfl (fun a u hE hD hk => f_val (o := ⟨some 124, _, _, _, _, _⟩) (.pointer (some ⟨b6, 2, none⟩)) rfl (wanted_at (b := false) false rfl rfl (hD 13 114 (by kernel_rfl))) (exec_fldo 41 2 2 (.tmp 6) (b6) (0) (2) rfl (hE 6 (.pointer (some ⟨b6, 0, none⟩)) (by kernel_rfl) (by kernel_rfl)) (by kernel_rfl) rfl) rfl) ?_
              refine fsteps_cons 25 rfl (fun a u hE hD hk => f_val (o := ⟨some 125, _, _, _, _, _⟩) (.int .i64 q.i) rfl (wanted_at (b := false) false rfl rfl (hD 13 114 (by kernel_rfl))) (exec_loadi 3 Try.underlying3 (.tmp 124) ⟨b6, 2, none⟩ (.int .i64 q.i) rfl (hD 23 124 (by kernel_rfl)) (range_int (range_kept HCa.out hk) 2 _ rfl)) rfl) ?_
              refine fsteps_cons 26 rfl (fun a u hE hD hk => f_call (o := ⟨some 126, _, _, _, _, _⟩) 16 #[.pointer (some ⟨r, 0, none⟩), .int .i64 q.n, .int .i64 q.i] rfl (wanted_at (b := false) false rfl rfl (hD 13 114 (by kernel_rfl))) (exec_call 16 _ [.tmp 121, .tmp 123, .tmp 125] _ [.pointer (some ⟨r, 0, none⟩), .int .i64 q.n, .int .i64 q.i] Try.func16 (by kernel_rfl) (by kernel_rfl) rfl (show [a.eval (.tmp 121), a.eval (.tmp 123), a.eval (.tmp 125)] = [.pointer (some ⟨r, 0, none⟩), .int .i64 q.n, .int .i64 q.i] from (by rw [show a.eval (.tmp 121) = .pointer (some ⟨r, 0, none⟩) from (hD 20 121 (by kernel_rfl)), show a.eval (.tmp 123) = .int .i64 q.n from (hD 22 123 (by kernel_rfl)), show a.eval (.tmp 125) = .int .i64 q.i from (hD 24 125 (by kernel_rfl))] <;> rfl)) u) (rpos_at (HRa.out.kept hk) HV2.out)) ?_
              refine fsteps_cons 27 rfl (fun a u hE hD hk => f_as (show ((decide ((V2 : Int) ≠ (V2 : Int))) : Bool) = false from decide_eq_false (by omega)) (f_val (o := ⟨some 127, _, _, _, _, _⟩) (.bool (decide ((V2 : Int) ≠ (V2 : Int)))) rfl (wanted_at (b := false) false rfl rfl (hD 13 114 (by kernel_rfl))) (exec_nen (p := V2) (q := V2) rfl (hD 19 120 (by kernel_rfl)) (hD 25 126 (by kernel_rfl))) rfl)) ?_
              refine sv 28 rfl rfl rfl (fun a u hE hD hk => exec_pickF (.tmp 114) (.const (.bool true)) (.tmp 127) (.bool false) rfl (hD 13 114 (by kernel_rfl)) (hD 26 127 (by kernel_rfl))) ?_
              refine sv 29 rfl rfl rfl (fun a u hE hD hk => exec_move (.tmp 128) _ rfl (hD 27 128 (by kernel_rfl))) ?_
              refine fsteps_cons 30 rfl (fun a u hE hD hk => f_val (o := ⟨some 130, _, _, _, _, _⟩) (.pointer (some ⟨g, 0, none⟩)) rfl (wanted_at (b := false) false rfl rfl (hD 28 129 (by kernel_rfl))) (exec_move (.tmp 3) _ rfl (hE 3 (.pointer (some ⟨g, 0, none⟩)) (by kernel_rfl) (by kernel_rfl))) rfl) ?_
              refine fsteps_cons 31 rfl (fun a u hE hD hk => f_val (o := ⟨some 131, _, _, _, _, _⟩) (.pointer (some ⟨b6, 1, none⟩)) rfl (wanted_at (b := false) false rfl rfl (hD 28 129 (by kernel_rfl))) (exec_fldo 41 1 1 (.tmp 6) (b6) (0) (1) rfl (hE 6 (.pointer (some ⟨b6, 0, none⟩)) (by kernel_rfl) (by kernel_rfl)) (by kernel_rfl) rfl) rfl) ?_
              refine fsteps_cons 32 rfl (fun a u hE hD hk => f_val (o := ⟨some 132, _, _, _, _, _⟩) (.int .i64 q.n) rfl (wanted_at (b := false) false rfl rfl (hD 28 129 (by kernel_rfl))) (exec_loadi 3 Try.underlying3 (.tmp 131) ⟨b6, 1, none⟩ (.int .i64 q.n) rfl (hD 30 131 (by kernel_rfl)) (range_int (range_kept HCa.out hk) 1 _ rfl)) rfl) ?_
              refine fsteps_cons 33 rfl (fun a u hE hD hk => f_val (o := ⟨some 133, _, _, _, _, _⟩) (.pointer (some ⟨b6, 2, none⟩)) rfl (wanted_at (b := false) false rfl rfl (hD 28 129 (by kernel_rfl))) (exec_fldo 41 2 2 (.tmp 6) (b6) (0) (2) rfl (hE 6 (.pointer (some ⟨b6, 0, none⟩)) (by kernel_rfl) (by kernel_rfl)) (by kernel_rfl) rfl) rfl) ?_
              refine fsteps_cons 34 rfl (fun a u hE hD hk => f_val (o := ⟨some 134, _, _, _, _, _⟩) (.int .i64 q.i) rfl (wanted_at (b := false) false rfl rfl (hD 28 129 (by kernel_rfl))) (exec_loadi 3 Try.underlying3 (.tmp 133) ⟨b6, 2, none⟩ (.int .i64 q.i) rfl (hD 32 133 (by kernel_rfl)) (range_int (range_kept HCa.out hk) 2 _ rfl)) rfl) ?_
              refine fsteps_cons 35 rfl (fun a u hE hD hk => f_call (o := ⟨some 135, _, _, _, _, _⟩) 17 #[.pointer (some ⟨g, 0, none⟩), .int .i64 q.n, .int .i64 q.i] rfl (wanted_at (b := false) false rfl rfl (hD 28 129 (by kernel_rfl))) (exec_call 17 _ [.tmp 130, .tmp 132, .tmp 134] _ [.pointer (some ⟨g, 0, none⟩), .int .i64 q.n, .int .i64 q.i] Try.func17 (by kernel_rfl) (by kernel_rfl) rfl (show [a.eval (.tmp 130), a.eval (.tmp 132), a.eval (.tmp 134)] = [.pointer (some ⟨g, 0, none⟩), .int .i64 q.n, .int .i64 q.i] from (by rw [show a.eval (.tmp 130) = .pointer (some ⟨g, 0, none⟩) from (hD 29 130 (by kernel_rfl)), show a.eval (.tmp 132) = .int .i64 q.n from (hD 31 132 (by kernel_rfl)), show a.eval (.tmp 134) = .int .i64 q.i from (hD 33 134 (by kernel_rfl))] <;> rfl)) u) (openAt_at (HBa.out.kept hk) HV3.out)) ?_
              refine fsteps_cons 36 rfl (fun a u hE hD hk => f_val (o := ⟨some 136, _, _, _, _, _⟩) (.int .i64 0) rfl (wanted_at (b := false) false rfl rfl (hD 28 129 (by kernel_rfl))) (exec_move (.tmp 8) _ rfl (hE 8 (.int .i64 0) (by kernel_rfl) (by kernel_rfl))) rfl) ?_
              refine fsteps_cons 37 rfl (fun a u hE hD hk => f_as (show ((decide ((0 : Int) ≠ (0 : Int))) : Bool) = false from decide_eq_false (by omega)) (f_val (o := ⟨some 137, _, _, _, _, _⟩) (.bool (decide ((0 : Int) ≠ (0 : Int)))) rfl (wanted_at (b := false) false rfl rfl (hD 28 129 (by kernel_rfl))) (exec_nen (p := 0) (q := 0) rfl (hD 34 135 (by kernel_rfl)) (hD 35 136 (by kernel_rfl))) rfl)) ?_
              refine sv 38 rfl rfl rfl (fun a u hE hD hk => exec_pickF (.tmp 129) (.const (.bool true)) (.tmp 137) (.bool false) rfl (hD 28 129 (by kernel_rfl)) (hD 36 137 (by kernel_rfl))) ?_
              exact fsteps_nil
            intro gv wz hV kz
            rw [show dstsOf _ 38 = [101, 102, 103, 104, 105, 106, 107, 108, 109, 110, 111, 112, 113, 114, 115, 116, 117, 118, 119, 120, 121, 122, 123, 124, 125, 126, 127, 128, 129, 130, 131, 132, 133, 134, 135, 136, 137, 138] by kernel_rfl]
            simp only [List.foldl_cons, List.foldl_nil, List.setIfInBounds_toArray, List.set_cons_succ, List.set_cons_zero, List.drop_succ_cons, List.drop_zero]
            rw [show gv 138 = .bool false from hV 37 138 (by kernel_rfl)]
            clear hV
            refine wpList_nil ?_
            have HBz := Lib.hid (HBa.out.kept kz)
            have HRz := Lib.hid (HRa.out.kept kz)
            have kwz := kwa.trans kz
            go_wp2
            exact ⟨⟨k + 1, B, by simp, by omega, by omega, HBz, HRz, HI2, kwz⟩, by simp [intOf]; omega⟩
          | true =>
            have HT := Lib.hid hT
            obtain ⟨m, j, hm, hj, hqn, hqi⟩ := thB_yes hT
            have HX : Hid ((B.rc L)[128 + m * 16 + j]? = some (.int .i64 V3)) := by show _ = _; unfold Bal.rc; rw [lay_at _ (by omega), rf_o B L hj, ← HV3.out, hqn, hqi]; unfold Bal.oAt; rw [pick2_in _ hm hj]
            have HQN := Lib.hid hqn
            have HQI := Lib.hid hqi
            clear hT hqn hqi
            go_upto_region 15 with fail
            refine wp_text 18 [.eq (.pointer (some ⟨b6, 1, none⟩)), .eq (.int .i64 q.n), .eq (.bool (decide ((0 : Int) ≤ (q.n : Int)))), .eq (.bool (decide ((0 : Int) ≤ (q.n : Int)))), .cond (decide ((0 : Int) ≤ (q.n : Int))) (.eq (.pointer (some ⟨b6, 1, none⟩))), .cond (decide ((0 : Int) ≤ (q.n : Int))) (.eq (.int .i64 q.n)), .cond (decide ((0 : Int) ≤ (q.n : Int))) (.eq (.bool (decide ((q.n : Int) < (32 : Int))))), .eq (.bool ((decide ((0 : Int) ≤ (q.n : Int))) && (decide ((q.n : Int) < (32 : Int))))), .eq (.bool ((decide ((0 : Int) ≤ (q.n : Int))) && (decide ((q.n : Int) < (32 : Int))))), .cond ((decide ((0 : Int) ≤ (q.n : Int))) && (decide ((q.n : Int) < (32 : Int)))) (.eq (.pointer (some ⟨b6, 2, none⟩))), .cond ((decide ((0 : Int) ≤ (q.n : Int))) && (decide ((q.n : Int) < (32 : Int)))) (.eq (.int .i64 q.i)), .cond ((decide ((0 : Int) ≤ (q.n : Int))) && (decide ((q.n : Int) < (32 : Int)))) (.eq (.bool (decide ((0 : Int) ≤ (q.i : Int))))), .eq (.bool (((decide ((0 : Int) ≤ (q.n : Int))) && (decide ((q.n : Int) < (32 : Int)))) && (decide ((0 : Int) ≤ (q.i : Int))))), .eq (.bool (((decide ((0 : Int) ≤ (q.n : Int))) && (decide ((q.n : Int) < (32 : Int)))) && (decide ((0 : Int) ≤ (q.i : Int))))), .cond (((decide ((0 : Int) ≤ (q.n : Int))) && (decide ((q.n : Int) < (32 : Int)))) && (decide ((0 : Int) ≤ (q.i : Int)))) (.eq (.pointer (some ⟨b6, 2, none⟩))), .cond (((decide ((0 : Int) ≤ (q.n : Int))) && (decide ((q.n : Int) < (32 : Int)))) && (decide ((0 : Int) ≤ (q.i : Int)))) (.eq (.int .i64 q.i)), .cond (((decide ((0 : Int) ≤ (q.n : Int))) && (decide ((q.n : Int) < (32 : Int)))) && (decide ((0 : Int) ≤ (q.i : Int)))) (.eq (.bool (decide ((q.i : Int) < (8 : Int))))), .eq (.bool true)] rfl (by kernel_rfl) ?_ ?_
            · refine sv 1 rfl rfl rfl (fun a u hE hD hk => exec_fldo 41 1 1 (.tmp 6) (b6) (0) (1) rfl (hE 6 (.pointer (some ⟨b6, 0, none⟩)) (by kernel_rfl) (by kernel_rfl)) (by kernel_rfl) rfl) ?_
              refine sv 2 rfl rfl rfl (fun a u hE hD hk => exec_loadi 3 Try.underlying3 (.tmp 72) ⟨b6, 1, none⟩ (.int .i64 q.n) rfl (hD 0 72 (by kernel_rfl)) (range_int (range_kept HC9.out hk) 1 _ rfl)) ?_
              refine sv 3 rfl rfl rfl (fun a u hE hD hk => exec_gen (p := q.n) (q := 0) rfl (hD 1 73 (by kernel_rfl)) rfl) ?_
              refine sv 4 rfl rfl rfl (fun a u hE hD hk => exec_move (.tmp 74) _ rfl (hD 2 74 (by kernel_rfl))) ?_
              refine fsteps_cons 5 rfl (fun a u hE hD hk => f_if ((decide ((0 : Int) ≤ (q.n : Int)))) rfl rfl rfl (hD 3 75 (by kernel_rfl)) (fun hb => f_val (o := ⟨some 76, _, _, _, _, _⟩) (.pointer (some ⟨b6, 1, none⟩)) rfl (wanted_b rfl rfl (hD 3 75 (by kernel_rfl)) (eq_true_of hb)) (exec_fldo 41 1 1 (.tmp 6) (b6) (0) (1) rfl (hE 6 (.pointer (some ⟨b6, 0, none⟩)) (by kernel_rfl) (by kernel_rfl)) (by kernel_rfl) rfl) rfl)) ?_
              refine fsteps_cons 6 rfl (fun a u hE hD hk => f_if ((decide ((0 : Int) ≤ (q.n : Int)))) rfl rfl rfl (hD 3 75 (by kernel_rfl)) (fun hb => f_val (o := ⟨some 77, _, _, _, _, _⟩) (.int .i64 q.n) rfl (wanted_b rfl rfl (hD 3 75 (by kernel_rfl)) (eq_true_of hb)) (exec_loadi 3 Try.underlying3 (.tmp 76) ⟨b6, 1, none⟩ (.int .i64 q.n) rfl ((hD 4 76 (by kernel_rfl)).1 hb) (range_int (range_kept HC9.out hk) 1 _ rfl)) rfl)) ?_
              refine fsteps_cons 7 rfl (fun a u hE hD hk => f_if ((decide ((0 : Int) ≤ (q.n : Int)))) rfl rfl rfl (hD 3 75 (by kernel_rfl)) (fun hb => f_val (o := ⟨some 78, _, _, _, _, _⟩) (.bool (decide ((q.n : Int) < (32 : Int)))) rfl (wanted_b rfl rfl (hD 3 75 (by kernel_rfl)) (eq_true_of hb)) (exec_ltn (p := q.n) (q := 32) rfl ((hD 5 77 (by kernel_rfl)).1 hb) rfl) rfl)) ?_
              refine sv 8 rfl rfl rfl (fun a u hE hD hk => exec_pickand (.tmp 75) (.tmp 78) (.const (.bool false)) ((decide ((0 : Int) ≤ (q.n : Int)))) ((decide ((q.n : Int) < (32 : Int)))) rfl (hD 3 75 (by kernel_rfl)) (fun hb2 => ((hD 6 78 (by kernel_rfl)).1 hb2)) rfl) ?_
              refine sv 9 rfl rfl rfl (fun a u hE hD hk => exec_move (.tmp 79) _ rfl (hD 7 79 (by kernel_rfl))) ?_
              refine fsteps_cons 10 rfl (fun a u hE hD hk => f_if (((decide ((0 : Int) ≤ (q.n : Int))) && (decide ((q.n : Int) < (32 : Int))))) rfl rfl rfl (hD 8 80 (by kernel_rfl)) (fun hb => f_val (o := ⟨some 81, _, _, _, _, _⟩) (.pointer (some ⟨b6, 2, none⟩)) rfl (wanted_b rfl rfl (hD 8 80 (by kernel_rfl)) (eq_true_of hb)) (exec_fldo 41 2 2 (.tmp 6) (b6) (0) (2) rfl (hE 6 (.pointer (some ⟨b6, 0, none⟩)) (by kernel_rfl) (by kernel_rfl)) (by kernel_rfl) rfl) rfl)) ?_
              refine fsteps_cons 11 rfl (fun a u hE hD hk => f_if (((decide ((0 : Int) ≤ (q.n : Int))) && (decide ((q.n : Int) < (32 : Int))))) rfl rfl rfl (hD 8 80 (by kernel_rfl)) (fun hb => f_val (o := ⟨some 82, _, _, _, _, _⟩) (.int .i64 q.i) rfl (wanted_b rfl rfl (hD 8 80 (by kernel_rfl)) (eq_true_of hb)) (exec_loadi 3 Try.underlying3 (.tmp 81) ⟨b6, 2, none⟩ (.int .i64 q.i) rfl ((hD 9 81 (by kernel_rfl)).1 hb) (range_int (range_kept HC9.out hk) 2 _ rfl)) rfl)) ?_
              refine fsteps_cons 12 rfl (fun a u hE hD hk => f_if (((decide ((0 : Int) ≤ (q.n : Int))) && (decide ((q.n : Int) < (32 : Int))))) rfl rfl rfl (hD 8 80 (by kernel_rfl)) (fun hb => f_val (o := ⟨some 83, _, _, _, _, _⟩) (.bool (decide ((0 : Int) ≤ (q.i : Int)))) rfl (wanted_b rfl rfl (hD 8 80 (by kernel_rfl)) (eq_true_of hb)) (exec_gen (p := q.i) (q := 0) rfl ((hD 10 82 (by kernel_rfl)).1 hb) rfl) rfl)) ?_
              refine sv 13 rfl rfl rfl (fun a u hE hD hk => exec_pickand (.tmp 80) (.tmp 83) (.const (.bool false)) (((decide ((0 : Int) ≤ (q.n : Int))) && (decide ((q.n : Int) < (32 : Int))))) ((decide ((0 : Int) ≤ (q.i : Int)))) rfl (hD 8 80 (by kernel_rfl)) (fun hb2 => ((hD 11 83 (by kernel_rfl)).1 hb2)) rfl) ?_
              refine sv 14 rfl rfl rfl (fun a u hE hD hk => exec_move (.tmp 84) _ rfl (hD 12 84 (by kernel_rfl))) ?_
              refine fsteps_cons 15 rfl (fun a u hE hD hk => f_if ((((decide ((0 : Int) ≤ (q.n : Int))) && (decide ((q.n : Int) < (32 : Int)))) && (decide ((0 : Int) ≤ (q.i : Int))))) rfl rfl rfl (hD 13 85 (by kernel_rfl)) (fun hb => f_val (o := ⟨some 86, _, _, _, _, _⟩) (.pointer (some ⟨b6, 2, none⟩)) rfl (wanted_b rfl rfl (hD 13 85 (by kernel_rfl)) (eq_true_of hb)) (exec_fldo 41 2 2 (.tmp 6) (b6) (0) (2) rfl (hE 6 (.pointer (some ⟨b6, 0, none⟩)) (by kernel_rfl) (by kernel_rfl)) (by kernel_rfl) rfl) rfl)) ?_
              refine fsteps_cons 16 rfl (fun a u hE hD hk => f_if ((((decide ((0 : Int) ≤ (q.n : Int))) && (decide ((q.n : Int) < (32 : Int)))) && (decide ((0 : Int) ≤ (q.i : Int))))) rfl rfl rfl (hD 13 85 (by kernel_rfl)) (fun hb => f_val (o := ⟨some 87, _, _, _, _, _⟩) (.int .i64 q.i) rfl (wanted_b rfl rfl (hD 13 85 (by kernel_rfl)) (eq_true_of hb)) (exec_loadi 3 Try.underlying3 (.tmp 86) ⟨b6, 2, none⟩ (.int .i64 q.i) rfl ((hD 14 86 (by kernel_rfl)).1 hb) (range_int (range_kept HC9.out hk) 2 _ rfl)) rfl)) ?_
              refine fsteps_cons 17 rfl (fun a u hE hD hk => f_if ((((decide ((0 : Int) ≤ (q.n : Int))) && (decide ((q.n : Int) < (32 : Int)))) && (decide ((0 : Int) ≤ (q.i : Int))))) rfl rfl rfl (hD 13 85 (by kernel_rfl)) (fun hb => f_val (o := ⟨some 88, _, _, _, _, _⟩) (.bool (decide ((q.i : Int) < (8 : Int)))) rfl (wanted_b rfl rfl (hD 13 85 (by kernel_rfl)) (eq_true_of hb)) (exec_ltn (p := q.i) (q := 8) rfl ((hD 15 87 (by kernel_rfl)).1 hb) rfl) rfl)) ?_
              refine fsteps_cons 18 rfl (fun a u hE hD hk => f_as (show (((((decide ((0 : Int) ≤ (q.n : Int))) && (decide ((q.n : Int) < (32 : Int)))) && (decide ((0 : Int) ≤ (q.i : Int)))) && (decide ((q.i : Int) < (8 : Int)))) : Bool) = true from (th_eq _ _).symm.trans HT.out) (f_val (o := ⟨some 89, _, _, _, _, _⟩) (.bool ((((decide ((0 : Int) ≤ (q.n : Int))) && (decide ((q.n : Int) < (32 : Int)))) && (decide ((0 : Int) ≤ (q.i : Int)))) && (decide ((q.i : Int) < (8 : Int))))) rfl (wanted_none rfl _) (exec_pickand (.tmp 85) (.tmp 88) (.const (.bool false)) ((((decide ((0 : Int) ≤ (q.n : Int))) && (decide ((q.n : Int) < (32 : Int)))) && (decide ((0 : Int) ≤ (q.i : Int))))) ((decide ((q.i : Int) < (8 : Int)))) rfl (hD 13 85 (by kernel_rfl)) (fun hb2 => ((hD 16 88 (by kernel_rfl)).1 hb2)) rfl) rfl)) ?_
              exact fsteps_nil
            intro gv wy hV ky
            rw [show dstsOf _ 18 = [72, 73, 74, 75, 76, 77, 78, 79, 80, 81, 82, 83, 84, 85, 86, 87, 88, 89] by kernel_rfl]
            simp only [List.foldl_cons, List.foldl_nil, List.setIfInBounds_toArray, List.set_cons_succ, List.set_cons_zero, List.drop_succ_cons, List.drop_zero]
            rw [show gv 89 = .bool true from hV 17 89 (by kernel_rfl)]
            clear hV
            refine wpList_nil ?_
            have HRy := Lib.hid (HR9.out.kept ky)
            have HCy := Lib.hid (range_kept HC9.out ky)
            go_upto_region 16 with fail
            refine wp_free 12 [.eq (.pointer (some ⟨r, 0, none⟩)), .eq (.pointer (some ⟨b6, 1, none⟩)), .eq (.int .i64 (m : Int)), .eq (.pointer (some ⟨b6, 2, none⟩)), .eq (.int .i64 (j : Int)), .eq (.pointer (some ⟨r, 0, none⟩)), .eq (.pointer (some ⟨r, 128, none⟩)), .eq (.pointer (some ⟨r, 128 + m * 16, none⟩)), .eq (.pointer (some ⟨r, 128 + m * 16, none⟩)), .eq (.pointer (some ⟨r, 128 + m * 16 + j, none⟩)), .eq (.int .i64 V3), .eq (.int .i64 V3)] (by kernel_rfl) rfl (by kernel_rfl) ?_ ?_
            · refine sv 1 rfl rfl rfl (fun a u hE hD hk => exec_move (.tmp 4) _ rfl (hE 4 (.pointer (some ⟨r, 0, none⟩)) (by kernel_rfl) (by kernel_rfl))) ?_
              refine sv 2 rfl rfl rfl (fun a u hE hD hk => exec_fldo 41 1 1 (.tmp 6) (b6) (0) (1) rfl (hE 6 (.pointer (some ⟨b6, 0, none⟩)) (by kernel_rfl) (by kernel_rfl)) (by kernel_rfl) rfl) ?_
              refine sv 3 rfl rfl rfl (fun a u hE hD hk => by rw [← HQN.out]; exact exec_loadi 3 Try.underlying3 (.tmp 91) ⟨b6, 1, none⟩ (.int .i64 q.n) rfl (hD 1 91 (by kernel_rfl)) (range_int (off := 0) (range_kept HCy.out hk) 1 _ rfl)) ?_
              refine sv 4 rfl rfl rfl (fun a u hE hD hk => exec_fldo 41 2 2 (.tmp 6) (b6) (0) (2) rfl (hE 6 (.pointer (some ⟨b6, 0, none⟩)) (by kernel_rfl) (by kernel_rfl)) (by kernel_rfl) rfl) ?_
              refine sv 5 rfl rfl rfl (fun a u hE hD hk => by rw [← HQI.out]; exact exec_loadi 3 Try.underlying3 (.tmp 93) ⟨b6, 2, none⟩ (.int .i64 q.i) rfl (hD 3 93 (by kernel_rfl)) (range_int (off := 0) (range_kept HCy.out hk) 2 _ rfl)) ?_
              refine sv 6 rfl rfl rfl (fun a u hE hD hk => exec_nilp (.tmp 90) ⟨r, 0, none⟩ rfl (hD 0 90 (by kernel_rfl))) ?_
              refine sv 7 rfl rfl rfl (fun a u hE hD hk => exec_fldo 39 1 128 (.tmp 95) (r) (0) (128) rfl (hD 5 95 (by kernel_rfl)) (by kernel_rfl) rfl) ?_
              refine sv 8 rfl rfl rfl (fun a u hE hD hk => exec_ixK 16 37 36 32 (.tmp 96) (.tmp 92) (r) (128) (128 + m * 16) m ((m : Int)) rfl Try.underlying37 (by kernel_rfl) (hD 6 96 (by kernel_rfl)) (hD 2 92 (by kernel_rfl)) (by first | rfl | omega) (hm) (by first | rfl | omega)) ?_
              refine sv 9 rfl rfl rfl (fun a u hE hD hk => exec_fldo 36 0 0 (.tmp 97) (r) (128 + m * 16) (128 + m * 16) rfl (hD 7 97 (by kernel_rfl)) (by kernel_rfl) rfl) ?_
              refine sv 10 rfl rfl rfl (fun a u hE hD hk => exec_ixK 1 34 3 8 (.tmp 98) (.tmp 94) (r) (128 + m * 16) (128 + m * 16 + j) j ((j : Int)) rfl Try.underlying34 (by kernel_rfl) (hD 8 98 (by kernel_rfl)) (hD 4 94 (by kernel_rfl)) (by first | rfl | omega) (hj) (by first | rfl | omega)) ?_
              refine sv 11 rfl rfl rfl (fun a u hE hD hk => exec_loadi 3 Try.underlying3 (.tmp 99) ⟨r, 128 + m * 16 + j, none⟩ (.int .i64 V3) rfl (hD 9 99 (by kernel_rfl)) (Kept.cell hk (((HRy.out.cell _).trans HX.out)))) ?_
              refine sv 12 rfl rfl rfl (fun a u hE hD hk => exec_assign (.tmp 100) _ rfl (hD 10 100 (by kernel_rfl))) ?_
              exact fsteps_nil
            intro gv wx hV kx
            rw [show dstsOf _ 12 = [90, 91, 92, 93, 94, 95, 96, 97, 98, 99, 100, 8] by kernel_rfl]
            simp only [List.foldl_cons, List.foldl_nil, List.setIfInBounds_toArray, List.set_cons_succ, List.set_cons_zero, List.drop_succ_cons, List.drop_zero]
            rw [show gv 8 = .int .i64 V3 from hV 11 8 (by kernel_rfl)]
            clear hV
            refine wpList_nil ?_
            have ka := ky.trans kx
            have HBa := Lib.hid (HB9.out.kept ka)
            have HRa := Lib.hid (HR9.out.kept ka)
            have HCa := Lib.hid (range_kept HC9.out ka)
            have kwa := kw9.trans ka
            clear HB9 HR9 HC9 kw9 ka kx ky HT HRy HCy HX
            go_upto_region 17 with fail
            refine wp_free 38 [.eq (.bool true), .eq (.bool false), .eq (.bool false), .eq (.pointer (some ⟨g, 0, none⟩)), .eq (.pointer (some ⟨b6, 1, none⟩)), .eq (.int .i64 q.n), .eq (.int .i64 V1), .eq (.pointer (some ⟨r, 0, none⟩)), .eq (.pointer (some ⟨b6, 1, none⟩)), .eq (.int .i64 q.n), .eq (.int .i64 V1), .eq (.bool false), .eq (.bool false), .eq (.bool false), .eq (.pointer (some ⟨g, 0, none⟩)), .eq (.pointer (some ⟨b6, 1, none⟩)), .eq (.int .i64 q.n), .eq (.pointer (some ⟨b6, 2, none⟩)), .eq (.int .i64 q.i), .eq (.int .i64 V2), .eq (.pointer (some ⟨r, 0, none⟩)), .eq (.pointer (some ⟨b6, 1, none⟩)), .eq (.int .i64 q.n), .eq (.pointer (some ⟨b6, 2, none⟩)), .eq (.int .i64 q.i), .eq (.int .i64 V2), .eq (.bool false), .eq (.bool false), .eq (.bool false), .eq (.pointer (some ⟨g, 0, none⟩)), .eq (.pointer (some ⟨b6, 1, none⟩)), .eq (.int .i64 q.n), .eq (.pointer (some ⟨b6, 2, none⟩)), .eq (.int .i64 q.i), .eq (.int .i64 V3), .eq (.int .i64 V3), .eq (.bool false), .eq (.bool false)] (by kernel_rfl) rfl (by kernel_rfl) ?_ ?_
            · refine sv 1 rfl rfl rfl (fun a u hE hD hk => exec_move (.tmp 7) _ rfl (hE 7 (.bool true) (by kernel_rfl) (by kernel_rfl))) ?_
              refine sv 2 rfl rfl rfl (fun a u hE hD hk => exec_not _ (.tmp 101) true rfl (hD 0 101 (by kernel_rfl))) ?_
              refine sv 3 rfl rfl rfl (fun a u hE hD hk => exec_move (.tmp 102) _ rfl (hD 1 102 (by kernel_rfl))) ?_
              refine fsteps_cons 4 rfl (fun a u hE hD hk => f_val (o := ⟨some 104, _, _, _, _, _⟩) (.pointer (some ⟨g, 0, none⟩)) rfl (wanted_at (b := false) false rfl rfl (hD 2 103 (by kernel_rfl))) (exec_move (.tmp 3) _ rfl (hE 3 (.pointer (some ⟨g, 0, none⟩)) (by kernel_rfl) (by kernel_rfl))) rfl) ?_
              refine fsteps_cons 5 rfl (fun a u hE hD hk => f_val (o := ⟨some 105, _, _, _, _, _⟩) (.pointer (some ⟨b6, 1, none⟩)) rfl (wanted_at (b := false) false rfl rfl (hD 2 103 (by kernel_rfl))) (exec_fldo 41 1 1 (.tmp 6) (b6) (0) (1) rfl (hE 6 (.pointer (some ⟨b6, 0, none⟩)) (by kernel_rfl) (by kernel_rfl)) (by kernel_rfl) rfl) rfl) ?_
              refine fsteps_cons 6 rfl (fun a u hE hD hk => f_val (o := ⟨some 106, _, _, _, _, _⟩) (.int .i64 q.n) rfl (wanted_at (b := false) false rfl rfl (hD 2 103 (by kernel_rfl))) (exec_loadi 3 Try.underlying3 (.tmp 105) ⟨b6, 1, none⟩ (.int .i64 q.n) rfl (hD 4 105 (by kernel_rfl)) (range_int (range_kept HCa.out hk) 1 _ rfl)) rfl) ?_
              refine fsteps_cons 7 rfl (fun a u hE hD hk => f_call (o := ⟨some 107, _, _, _, _, _⟩) 10 #[.pointer (some ⟨g, 0, none⟩), .int .i64 q.n] rfl (wanted_at (b := false) false rfl rfl (hD 2 103 (by kernel_rfl))) (exec_call 10 _ [.tmp 104, .tmp 106] _ [.pointer (some ⟨g, 0, none⟩), .int .i64 q.n] Try.func10 (by kernel_rfl) (by kernel_rfl) rfl (show [a.eval (.tmp 104), a.eval (.tmp 106)] = [.pointer (some ⟨g, 0, none⟩), .int .i64 q.n] from (by rw [show a.eval (.tmp 104) = .pointer (some ⟨g, 0, none⟩) from (hD 3 104 (by kernel_rfl)), show a.eval (.tmp 106) = .int .i64 q.n from (hD 5 106 (by kernel_rfl))] <;> rfl)) u) (all_at (HBa.out.kept hk) HI2.out HV1.out)) ?_
              refine fsteps_cons 8 rfl (fun a u hE hD hk => f_val (o := ⟨some 108, _, _, _, _, _⟩) (.pointer (some ⟨r, 0, none⟩)) rfl (wanted_at (b := false) false rfl rfl (hD 2 103 (by kernel_rfl))) (exec_move (.tmp 4) _ rfl (hE 4 (.pointer (some ⟨r, 0, none⟩)) (by kernel_rfl) (by kernel_rfl))) rfl) ?_
              refine fsteps_cons 9 rfl (fun a u hE hD hk => f_val (o := ⟨some 109, _, _, _, _, _⟩) (.pointer (some ⟨b6, 1, none⟩)) rfl (wanted_at (b := false) false rfl rfl (hD 2 103 (by kernel_rfl))) (exec_fldo 41 1 1 (.tmp 6) (b6) (0) (1) rfl (hE 6 (.pointer (some ⟨b6, 0, none⟩)) (by kernel_rfl) (by kernel_rfl)) (by kernel_rfl) rfl) rfl) ?_
              refine fsteps_cons 10 rfl (fun a u hE hD hk => f_val (o := ⟨some 110, _, _, _, _, _⟩) (.int .i64 q.n) rfl (wanted_at (b := false) false rfl rfl (hD 2 103 (by kernel_rfl))) (exec_loadi 3 Try.underlying3 (.tmp 109) ⟨b6, 1, none⟩ (.int .i64 q.n) rfl (hD 8 109 (by kernel_rfl)) (range_int (range_kept HCa.out hk) 1 _ rfl)) rfl) ?_
              refine fsteps_cons 11 rfl (fun a u hE hD hk => f_call (o := ⟨some 111, _, _, _, _, _⟩) 15 #[.pointer (some ⟨r, 0, none⟩), .int .i64 q.n] rfl (wanted_at (b := false) false rfl rfl (hD 2 103 (by kernel_rfl))) (exec_call 15 _ [.tmp 108, .tmp 110] _ [.pointer (some ⟨r, 0, none⟩), .int .i64 q.n] Try.func15 (by kernel_rfl) (by kernel_rfl) rfl (show [a.eval (.tmp 108), a.eval (.tmp 110)] = [.pointer (some ⟨r, 0, none⟩), .int .i64 q.n] from (by rw [show a.eval (.tmp 108) = .pointer (some ⟨r, 0, none⟩) from (hD 7 108 (by kernel_rfl)), show a.eval (.tmp 110) = .int .i64 q.n from (hD 9 110 (by kernel_rfl))] <;> rfl)) u) (rall_at (HRa.out.kept hk) HI2.out HV1.out)) ?_
              refine fsteps_cons 12 rfl (fun a u hE hD hk => f_as (show ((decide ((V1 : Int) ≠ (V1 : Int))) : Bool) = false from decide_eq_false (by omega)) (f_val (o := ⟨some 112, _, _, _, _, _⟩) (.bool (decide ((V1 : Int) ≠ (V1 : Int)))) rfl (wanted_at (b := false) false rfl rfl (hD 2 103 (by kernel_rfl))) (exec_nen (p := V1) (q := V1) rfl (hD 6 107 (by kernel_rfl)) (hD 10 111 (by kernel_rfl))) rfl)) ?_
              refine sv 13 rfl rfl rfl (fun a u hE hD hk => exec_pickF (.tmp 103) (.const (.bool true)) (.tmp 112) (.bool false) rfl (hD 2 103 (by kernel_rfl)) (hD 11 112 (by kernel_rfl))) ?_
              refine sv 14 rfl rfl rfl (fun a u hE hD hk => exec_move (.tmp 113) _ rfl (hD 12 113 (by kernel_rfl))) ?_
              refine fsteps_cons 15 rfl (fun a u hE hD hk => f_val (o := ⟨some 115, _, _, _, _, _⟩) (.pointer (some ⟨g, 0, none⟩)) rfl (wanted_at (b := false) false rfl rfl (hD 13 114 (by kernel_rfl))) (exec_move (.tmp 3) _ rfl (hE 3 (.pointer (some ⟨g, 0, none⟩)) (by kernel_rfl) (by kernel_rfl))) rfl) ?_
              refine fsteps_cons 16 rfl (fun a u hE hD hk => f_val (o := ⟨some 116, _, _, _, _, _⟩) (.pointer (some ⟨b6, 1, none⟩)) rfl (wanted_at (b := false) false rfl rfl (hD 13 114 (by kernel_rfl))) (exec_fldo 41 1 1 (.tmp 6) (b6) (0) (1) rfl (hE 6 (.pointer (some ⟨b6, 0, none⟩)) (by kernel_rfl) (by kernel_rfl)) (by kernel_rfl) rfl) rfl) ?_
              refine fsteps_cons 17 rfl (fun a u hE hD hk => f_val (o := ⟨some 117, _, _, _, _, _⟩) (.int .i64 q.n) rfl (wanted_at (b := false) false rfl rfl (hD 13 114 (by kernel_rfl))) (exec_loadi 3 Try.underlying3 (.tmp 116) ⟨b6, 1, none⟩ (.int .i64 q.n) rfl (hD 15 116 (by kernel_rfl)) (range_int (range_kept HCa.out hk) 1 _ rfl)) rfl) ?_
              refine fsteps_cons 18 rfl (fun a u hE hD hk => f_val (o := ⟨some 118, _, _, _, _, _⟩) (.pointer (some ⟨b6, 2, none⟩)) rfl (wanted_at (b := false) false rfl rfl (hD 13 114 (by kernel_rfl))) (exec_fldo 41 2 2 (.tmp 6) (b6) (0) (2) rfl (hE 6 (.pointer (some ⟨b6, 0, none⟩)) (by kernel_rfl) (by kernel_rfl)) (by kernel_rfl) rfl) rfl) ?_
              refine fsteps_cons 19 rfl (fun a u hE hD hk => f_val (o := ⟨some 119, _, _, _, _, _⟩) (.int .i64 q.i) rfl (wanted_at (b := false) false rfl rfl (hD 13 114 (by kernel_rfl))) (exec_loadi 3 Try.underlying3 (.tmp 118) ⟨b6, 2, none⟩ (.int .i64 q.i) rfl (hD 17 118 (by kernel_rfl)) (range_int (range_kept HCa.out hk) 2 _ rfl)) rfl) ?_
              refine fsteps_cons 20 rfl (fun a u hE hD hk => f_call (o := ⟨some 120, _, _, _, _, _⟩) 12 #[.pointer (some ⟨g, 0, none⟩), .int .i64 q.n, .int .i64 q.i] rfl (wanted_at (b := false) false rfl rfl (hD 13 114 (by kernel_rfl))) (exec_call 12 _ [.tmp 115, .tmp 117, .tmp 119] _ [.pointer (some ⟨g, 0, none⟩), .int .i64 q.n, .int .i64 q.i] Try.func12 (by kernel_rfl) (by kernel_rfl) rfl (show [a.eval (.tmp 115), a.eval (.tmp 117), a.eval (.tmp 119)] = [.pointer (some ⟨g, 0, none⟩), .int .i64 q.n, .int .i64 q.i] from (by rw [show a.eval (.tmp 115) = .pointer (some ⟨g, 0, none⟩) from (hD 14 115 (by kernel_rfl)), show a.eval (.tmp 117) = .int .i64 q.n from (hD 16 117 (by kernel_rfl)), show a.eval (.tmp 119) = .int .i64 q.i from (hD 18 119 (by kernel_rfl))] <;> rfl)) u) (pos_at (HBa.out.kept hk) HV2.out)) ?_
              refine fsteps_cons 21 rfl (fun a u hE hD hk => f_val (o := ⟨some 121, _, _, _, _, _⟩) (.pointer (some ⟨r, 0, none⟩)) rfl (wanted_at (b := false) false rfl rfl (hD 13 114 (by kernel_rfl))) (exec_move (.tmp 4) _ rfl (hE 4 (.pointer (some ⟨r, 0, none⟩)) (by kernel_rfl) (by kernel_rfl))) rfl) ?_
              refine fsteps_cons 22 rfl (fun a u hE hD hk => f_val (o := ⟨some 122, _, _, _, _, _⟩) (.pointer (some ⟨b6, 1, none⟩)) rfl (wanted_at (b := false) false rfl rfl (hD 13 114 (by kernel_rfl))) (exec_fldo 41 1 1 (.tmp 6) (b6) (0) (1) rfl (hE 6 (.pointer (some ⟨b6, 0, none⟩)) (by kernel_rfl) (by kernel_rfl)) (by kernel_rfl) rfl) rfl) ?_
              refine fsteps_cons 23 rfl (fun a u hE hD hk => f_val (o := ⟨some 123, _, _, _, _, _⟩) (.int .i64 q.n) rfl (wanted_at (b := false) false rfl rfl (hD 13 114 (by kernel_rfl))) (exec_loadi 3 Try.underlying3 (.tmp 122) ⟨b6, 1, none⟩ (.int .i64 q.n) rfl (hD 21 122 (by kernel_rfl)) (range_int (range_kept HCa.out hk) 1 _ rfl)) rfl) ?_
              refine fsteps_cons 24 rfl (fun a u hE hD hk => f_val (o := ⟨some 124, _, _, _, _, _⟩) (.pointer (some ⟨b6, 2, none⟩)) rfl (wanted_at (b := false) false rfl rfl (hD 13 114 (by kernel_rfl))) (exec_fldo 41 2 2 (.tmp 6) (b6) (0) (2) rfl (hE 6 (.pointer (some ⟨b6, 0, none⟩)) (by kernel_rfl) (by kernel_rfl)) (by kernel_rfl) rfl) rfl) ?_
              refine fsteps_cons 25 rfl (fun a u hE hD hk => f_val (o := ⟨some 125, _, _, _, _, _⟩) (.int .i64 q.i) rfl (wanted_at (b := false) false rfl rfl (hD 13 114 (by kernel_rfl))) (exec_loadi 3 Try.underlying3 (.tmp 124) ⟨b6, 2, none⟩ (.int .i64 q.i) rfl (hD 23 124 (by kernel_rfl)) (range_int (range_kept HCa.out hk) 2 _ rfl)) rfl) ?_
              refine fsteps_cons 26 rfl (fun a u hE hD hk => f_call (o := ⟨some 126, _, _, _, _, _⟩) 16 #[.pointer (some ⟨r, 0, none⟩), .int .i64 q.n, .int .i64 q.i] rfl (wanted_at (b := false) false rfl rfl (hD 13 114 (by kernel_rfl))) (exec_call 16 _ [.tmp 121, .tmp 123, .tmp 125] _ [.pointer (some ⟨r, 0, none⟩), .int .i64 q.n, .int .i64 q.i] Try.func16 (by kernel_rfl) (by kernel_rfl) rfl (show [a.eval (.tmp 121), a.eval (.tmp 123), a.eval (.tmp 125)] = [.pointer (some ⟨r, 0, none⟩), .int .i64 q.n, .int .i64 q.i] from (by rw [show a.eval (.tmp 121) = .pointer (some ⟨r, 0, none⟩) from (hD 20 121 (by kernel_rfl)), show a.eval (.tmp 123) = .int .i64 q.n from (hD 22 123 (by kernel_rfl)), show a.eval (.tmp 125) = .int .i64 q.i from (hD 24 125 (by kernel_rfl))] <;> rfl)) u) (rpos_at (HRa.out.kept hk) HV2.out)) ?_
              refine fsteps_cons 27 rfl (fun a u hE hD hk => f_as (show ((decide ((V2 : Int) ≠ (V2 : Int))) : Bool) = false from decide_eq_false (by omega)) (f_val (o := ⟨some 127, _, _, _, _, _⟩) (.bool (decide ((V2 : Int) ≠ (V2 : Int)))) rfl (wanted_at (b := false) false rfl rfl (hD 13 114 (by kernel_rfl))) (exec_nen (p := V2) (q := V2) rfl (hD 19 120 (by kernel_rfl)) (hD 25 126 (by kernel_rfl))) rfl)) ?_
              refine sv 28 rfl rfl rfl (fun a u hE hD hk => exec_pickF (.tmp 114) (.const (.bool true)) (.tmp 127) (.bool false) rfl (hD 13 114 (by kernel_rfl)) (hD 26 127 (by kernel_rfl))) ?_
              refine sv 29 rfl rfl rfl (fun a u hE hD hk => exec_move (.tmp 128) _ rfl (hD 27 128 (by kernel_rfl))) ?_
              refine fsteps_cons 30 rfl (fun a u hE hD hk => f_val (o := ⟨some 130, _, _, _, _, _⟩) (.pointer (some ⟨g, 0, none⟩)) rfl (wanted_at (b := false) false rfl rfl (hD 28 129 (by kernel_rfl))) (exec_move (.tmp 3) _ rfl (hE 3 (.pointer (some ⟨g, 0, none⟩)) (by kernel_rfl) (by kernel_rfl))) rfl) ?_
              refine fsteps_cons 31 rfl (fun a u hE hD hk => f_val (o := ⟨some 131, _, _, _, _, _⟩) (.pointer (some ⟨b6, 1, none⟩)) rfl (wanted_at (b := false) false rfl rfl (hD 28 129 (by kernel_rfl))) (exec_fldo 41 1 1 (.tmp 6) (b6) (0) (1) rfl (hE 6 (.pointer (some ⟨b6, 0, none⟩)) (by kernel_rfl) (by kernel_rfl)) (by kernel_rfl) rfl) rfl) ?_
              refine fsteps_cons 32 rfl (fun a u hE hD hk => f_val (o := ⟨some 132, _, _, _, _, _⟩) (.int .i64 q.n) rfl (wanted_at (b := false) false rfl rfl (hD 28 129 (by kernel_rfl))) (exec_loadi 3 Try.underlying3 (.tmp 131) ⟨b6, 1, none⟩ (.int .i64 q.n) rfl (hD 30 131 (by kernel_rfl)) (range_int (range_kept HCa.out hk) 1 _ rfl)) rfl) ?_
              refine fsteps_cons 33 rfl (fun a u hE hD hk => f_val (o := ⟨some 133, _, _, _, _, _⟩) (.pointer (some ⟨b6, 2, none⟩)) rfl (wanted_at (b := false) false rfl rfl (hD 28 129 (by kernel_rfl))) (exec_fldo 41 2 2 (.tmp 6) (b6) (0) (2) rfl (hE 6 (.pointer (some ⟨b6, 0, none⟩)) (by kernel_rfl) (by kernel_rfl)) (by kernel_rfl) rfl) rfl) ?_
              refine fsteps_cons 34 rfl (fun a u hE hD hk => f_val (o := ⟨some 134, _, _, _, _, _⟩) (.int .i64 q.i) rfl (wanted_at (b := false) false rfl rfl (hD 28 129 (by kernel_rfl))) (exec_loadi 3 Try.underlying3 (.tmp 133) ⟨b6, 2, none⟩ (.int .i64 q.i) rfl (hD 32 133 (by kernel_rfl)) (range_int (range_kept HCa.out hk) 2 _ rfl)) rfl) ?_
              refine fsteps_cons 35 rfl (fun a u hE hD hk => f_call (o := ⟨some 135, _, _, _, _, _⟩) 17 #[.pointer (some ⟨g, 0, none⟩), .int .i64 q.n, .int .i64 q.i] rfl (wanted_at (b := false) false rfl rfl (hD 28 129 (by kernel_rfl))) (exec_call 17 _ [.tmp 130, .tmp 132, .tmp 134] _ [.pointer (some ⟨g, 0, none⟩), .int .i64 q.n, .int .i64 q.i] Try.func17 (by kernel_rfl) (by kernel_rfl) rfl (show [a.eval (.tmp 130), a.eval (.tmp 132), a.eval (.tmp 134)] = [.pointer (some ⟨g, 0, none⟩), .int .i64 q.n, .int .i64 q.i] from (by rw [show a.eval (.tmp 130) = .pointer (some ⟨g, 0, none⟩) from (hD 29 130 (by kernel_rfl)), show a.eval (.tmp 132) = .int .i64 q.n from (hD 31 132 (by kernel_rfl)), show a.eval (.tmp 134) = .int .i64 q.i from (hD 33 134 (by kernel_rfl))] <;> rfl)) u) (openAt_at (HBa.out.kept hk) HV3.out)) ?_
              refine fsteps_cons 36 rfl (fun a u hE hD hk => f_val (o := ⟨some 136, _, _, _, _, _⟩) (.int .i64 V3) rfl (wanted_at (b := false) false rfl rfl (hD 28 129 (by kernel_rfl))) (exec_move (.tmp 8) _ rfl (hE 8 (.int .i64 V3) (by kernel_rfl) (by kernel_rfl))) rfl) ?_
              refine fsteps_cons 37 rfl (fun a u hE hD hk => f_as (show ((decide ((V3 : Int) ≠ (V3 : Int))) : Bool) = false from decide_eq_false (by omega)) (f_val (o := ⟨some 137, _, _, _, _, _⟩) (.bool (decide ((V3 : Int) ≠ (V3 : Int)))) rfl (wanted_at (b := false) false rfl rfl (hD 28 129 (by kernel_rfl))) (exec_nen (p := V3) (q := V3) rfl (hD 34 135 (by kernel_rfl)) (hD 35 136 (by kernel_rfl))) rfl)) ?_
              refine sv 38 rfl rfl rfl (fun a u hE hD hk => exec_pickF (.tmp 129) (.const (.bool true)) (.tmp 137) (.bool false) rfl (hD 28 129 (by kernel_rfl)) (hD 36 137 (by kernel_rfl))) ?_
              exact fsteps_nil
            intro gv wz hV kz
            rw [show dstsOf _ 38 = [101, 102, 103, 104, 105, 106, 107, 108, 109, 110, 111, 112, 113, 114, 115, 116, 117, 118, 119, 120, 121, 122, 123, 124, 125, 126, 127, 128, 129, 130, 131, 132, 133, 134, 135, 136, 137, 138] by kernel_rfl]
            simp only [List.foldl_cons, List.foldl_nil, List.setIfInBounds_toArray, List.set_cons_succ, List.set_cons_zero, List.drop_succ_cons, List.drop_zero]
            rw [show gv 138 = .bool false from hV 37 138 (by kernel_rfl)]
            clear hV
            refine wpList_nil ?_
            have HBz := Lib.hid (HBa.out.kept kz)
            have HRz := Lib.hid (HRa.out.kept kz)
            have kwz := kwa.trans kz
            go_wp2
            exact ⟨⟨k + 1, B, by simp, by omega, by omega, HBz, HRz, HI2, kwz⟩, by simp [intOf]; omega⟩
    · have hcond : (decide ((k : Int) < (n : Int)) && decide ((k : Int) < 60)) = false := by
        by_cases h1 : (k : Int) < (n : Int)
        · rw [decide_eq_false (show ¬ (k : Int) < 60 by omega), Bool.and_false]
        · rw [decide_eq_false h1, Bool.false_and]
      go_upto_region 5 with fail
      refine wp_text 8 [.eq (.int .i64 (k : Int)), .eq (.slice A n c), .eq (.int .i64 (n : Int)), .eq (.bool (decide (((k : Int) : Int) < ((n : Int) : Int)))), .eq (.bool (decide (((k : Int) : Int) < ((n : Int) : Int)))), .cond (decide (((k : Int) : Int) < ((n : Int) : Int))) (.eq (.int .i64 (k : Int))), .cond (decide (((k : Int) : Int) < ((n : Int) : Int))) (.eq (.bool (decide (((k : Int) : Int) < (60 : Int))))), .eq (.bool false)] rfl (by kernel_rfl) ?_ ?_
      · refine sv 1 rfl rfl rfl (fun a u hE hD hk => exec_move (.tmp 5) _ rfl (hE 5 (.int .i64 (k : Int)) (by kernel_rfl) (by kernel_rfl))) ?_
        refine sv 2 rfl rfl rfl (fun a u hE hD hk => exec_move (.tmp 0) _ rfl (hE 0 (.slice A n c) (by kernel_rfl) (by kernel_rfl))) ?_
        refine sv 3 rfl rfl rfl (fun a u hE hD hk => exec_len (.tmp 15) _ _ slBq.und A n c rfl (hD 1 15 (by kernel_rfl))) ?_
        refine sv 4 rfl rfl rfl (fun a u hE hD hk => exec_ltn (p := (k : Int)) (q := (n : Int)) rfl (hD 0 14 (by kernel_rfl)) (hD 2 16 (by kernel_rfl))) ?_
        refine sv 5 rfl rfl rfl (fun a u hE hD hk => exec_move (.tmp 17) _ rfl (hD 3 17 (by kernel_rfl))) ?_
        refine fsteps_cons 6 rfl (fun a u hE hD hk => f_if ((decide (((k : Int) : Int) < ((n : Int) : Int)))) rfl rfl rfl (hD 4 18 (by kernel_rfl)) (fun hb => f_val (o := ⟨some 19, _, _, _, _, _⟩) (.int .i64 (k : Int)) rfl (wanted_b rfl rfl (hD 4 18 (by kernel_rfl)) (eq_true_of hb)) (exec_move (.tmp 5) _ rfl (hE 5 (.int .i64 (k : Int)) (by kernel_rfl) (by kernel_rfl))) rfl)) ?_
        refine fsteps_cons 7 rfl (fun a u hE hD hk => f_if ((decide (((k : Int) : Int) < ((n : Int) : Int)))) rfl rfl rfl (hD 4 18 (by kernel_rfl)) (fun hb => f_val (o := ⟨some 20, _, _, _, _, _⟩) (.bool (decide (((k : Int) : Int) < (60 : Int)))) rfl (wanted_b rfl rfl (hD 4 18 (by kernel_rfl)) (eq_true_of hb)) (exec_ltn (p := (k : Int)) (q := 60) rfl ((hD 5 19 (by kernel_rfl)).1 hb) rfl) rfl)) ?_
        refine fsteps_cons 8 rfl (fun a u hE hD hk => f_as (show (((decide (((k : Int) : Int) < ((n : Int) : Int))) && (decide (((k : Int) : Int) < (60 : Int)))) : Bool) = false from hcond) (f_val (o := ⟨some 21, _, _, _, _, _⟩) (.bool ((decide (((k : Int) : Int) < ((n : Int) : Int))) && (decide (((k : Int) : Int) < (60 : Int))))) rfl (wanted_none rfl _) (exec_pickand (.tmp 18) (.tmp 20) (.const (.bool false)) ((decide (((k : Int) : Int) < ((n : Int) : Int)))) ((decide (((k : Int) : Int) < (60 : Int)))) rfl (hD 4 18 (by kernel_rfl)) (fun hb2 => ((hD 6 20 (by kernel_rfl)).1 hb2)) rfl) rfl)) ?_
        exact fsteps_nil
      intro gv w4 hV k4
      rw [show dstsOf _ 8 = [14, 15, 16, 17, 18, 19, 20, 21] by kernel_rfl]
      simp only [List.foldl_cons, List.foldl_nil, List.setIfInBounds_toArray, List.set_cons_succ, List.set_cons_zero, List.drop_succ_cons, List.drop_zero]
      rw [show gv 21 = .bool false from hV 7 21 (by kernel_rfl)]
      clear hV
      refine wpList_nil ?_
      have kw4 := kwr.trans k4
      clear hcond hlt k4
      go_upto_region 19 with fail
      refine wp_text 2 [.eq (.bool true), .eq (.bool true)] rfl (by kernel_rfl) ?_ ?_
      · refine fsteps_cons 1 rfl (fun a u hE hD hk => f_call (o := ⟨some 139, _, _, _, _, _⟩) 3 #[] rfl (wanted_none rfl _) (exec_call 3 _ [] _ [] Try.func3 (by kernel_rfl) (by kernel_rfl) rfl rfl u) (acctRuns_is u)) ?_
        refine sv 2 rfl rfl rfl (fun a u hE hD hk => exec_assign (.tmp 139) _ rfl (hD 0 139 (by kernel_rfl))) ?_
        exact fsteps_nil
      intro gv w5 hV k5
      rw [show dstsOf _ 2 = [139, 2] by kernel_rfl]
      simp only [List.foldl_cons, List.foldl_nil, List.setIfInBounds_toArray, List.set_cons_succ, List.set_cons_zero, List.drop_succ_cons, List.drop_zero]
      rw [show gv 2 = .bool true from hV 1 2 (by kernel_rfl)]
      clear hV
      refine wpList_nil ?_
      have kw5 := kw4.trans k5
      go_wp2
      go_ret
      exact ⟨rfl, kw5⟩
end Go.Proofs.Ytlkkmpleafpliaa
