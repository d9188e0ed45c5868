/-
  The contract of jobberlaw7.SumsTells: any numbers: it answers true. Condition: the numbers are an int's.
-/
import Derived.Test.YtjkmfopifonbeaaInts
import Derived.Test.YtjkmfopifonbeaaStep
import Derived.Deep.DeepCutAuto
namespace Go.Proofs.Ytjkmfopifonbeaa
open Go.RowKit
set_option linter.unusedVariables false

set_option maxRecDepth 100000 in
set_option maxHeartbeats 1600000 in
theorem sumsTells_any (a b : Int) (v : Value) (l : List Int) (w : World) (ha : In64 a) (hb : In64 b) (hv : IntsA w v l) :
    Calls Try.prog 4 #[.int .i64 a, .int .i64 b, v] w fun e w' => e = .returned (.bool true) ∧ Kept w w' := by
  obtain ⟨A, n, c, rfl, hl, hR, hI, hn, hc, hA⟩ := hv
  unfold maxLen at hc
  obtain ⟨m, hm⟩ : ∃ m, m = min n 12 := ⟨_, rfl⟩
  have hm1 : m ≤ 12 := by omega
  have hm2 : m ≤ n := by omega
  have hmin : (if (12 : Int) < (n : Int) then (12 : Int) else (n : Int)) = (m : Int) := by split <;> omega
  obtain ⟨L, hL⟩ : ∃ L, L = l.take m := ⟨_, rfl⟩
  have hLl : Hid (L.length = m) := by show _ = _; rw [hL, List.length_take, hl.out]; omega
  have hLR : Hid (RI w A L) := by rw [hL]; exact hR.take m
  have hLI : Hid (∀ x ∈ L, In64 x) := by rw [hL]; exact fun x h => hI x (List.mem_of_mem_take h)
  have hA' := Lib.hid hA
  clear hL hR hI hl hm hA
  have P1 : Hid (∀ u, Calls Try.prog 7 #[.int .i64 a, .int .i64 b] u fun e w' => e = .returned (two (plusM a b)) ∧ u = w') := fun u => sums_plus a b u ha hb
  have P2 : Hid (∀ u, Calls Try.prog 11 #[.int .i64 a, .int .i64 b] u fun e w' => e = .returned (two (plusM a b)) ∧ u = w') := fun u => ref_plus a b u ha hb
  have T1 : Hid (∀ u, Calls Try.prog 8 #[.int .i64 a, .int .i64 b] u fun e w' => e = .returned (two (timesM a b)) ∧ u = w') := fun u => sums_times a b u ha hb
  have T2 : Hid (∀ u, Calls Try.prog 12 #[.int .i64 a, .int .i64 b] u fun e w' => e = .returned (two (timesM a b)) ∧ u = w') := fun u => ref_times a b u ha hb
  have C1 : Hid (∀ u, Calls Try.prog 9 #[.int .i64 a, .int .i64 b] u fun e w' => e = .returned (two (ceilM a b)) ∧ u = w') := fun u => sums_ceil a b u ha hb
  have C2 : Hid (∀ u, Calls Try.prog 13 #[.int .i64 a, .int .i64 b] u fun e w' => e = .returned (two (ceilM a b)) ∧ u = w') := fun u => ref_ceil a b u ha hb
  have S1 : Hid (∀ u B k, RI u B L → Calls Try.prog 10 #[.slice B m k] u fun e w' => e = .returned (two (sumM 0 L)) ∧ u = w') := fun u B k h => sums_sum B m k L u hLl h hLI.out (by unfold maxLen; omega)
  have S2 : Hid (∀ u B k, RI u B L → Calls Try.prog 14 #[.slice B m k] u fun e w' => e = .returned (two (sumM 0 L)) ∧ u = w') := fun u B k h => ref_sum B m k L u hLl h hLI.out (by unfold maxLen; omega)
  generalize plusM a b = p at P1 P2
  generalize timesM a b = t at T1 T2
  generalize ceilM a b = q at C1 C2
  generalize sumM 0 L = s at S1 S2
  obtain ⟨p1, p2⟩ := p
  obtain ⟨t1, t2⟩ := t
  obtain ⟨q1, q2⟩ := q
  obtain ⟨s1, s2⟩ := s
  unfold two at P1 P2 T1 T2 C1 C2 S1 S2
  go_enter Try.func4, Try.ntmps4
  go_wp2_with fail
  refine (P1.out w).mono ?_
  rintro e w' ⟨rfl, rfl⟩
  go_wp2_with fail
  refine (T1.out w).mono ?_
  rintro e w' ⟨rfl, rfl⟩
  go_wp2_with fail
  refine (C1.out w).mono ?_
  rintro e w' ⟨rfl, rfl⟩
  go_upto_region 5 with fail
  refine wp_region_lit ?_
  refine l_new (o := ⟨some 47, _, _, _, _, _⟩) _ _ rfl (exec_none 27 3 1 rfl Try.underlying27 infoI1) ?_
  have O1 := OwnI.none_ w w.heap.size (Nat.le_refl _)
  have k1 : Kept w (w.alloc (.cells #[] 3)) := Keep.alloc (Keep.refl _ w) _
  have z1 := k1.size
  generalize w.alloc (.cells #[] 3) = w1 at O1 k1 z1 ⊢
  obtain ⟨g1, hg1⟩ : ∃ g, g = w.heap.size := ⟨_, rfl⟩
  have hgl : w.heap.size ≤ g1 := by omega
  rw [← hg1] at O1 ⊢
  clear hg1
  simp only [Act.put, List.setIfInBounds_toArray, List.set_cons_succ, List.set_cons_zero]
  refine l_val (o := ⟨some 48, _, _, _, _, _⟩) (.slice A m c) rfl (exec_move (.tmp 2) (.slice A m c) rfl (by kernel_rfl)) ?_
  simp only [Act.put, List.setIfInBounds_toArray, List.set_cons_succ, List.set_cons_zero]
  refine wpl_append_i (o := ⟨some 49, _, _, _, _, _⟩) w1 rfl (.tmp 47) (.tmp 48) rfl g1 0 0 (some ⟨g1, 0, none⟩) [] (by kernel_rfl) O1 (by obtain ⟨g, e, _, h⟩ := OwnG.at_ O1 _ rfl; injection e with e; omega) A m c L (by kernel_rfl) hLl.out (hLR.out.kept k1) hA'.out (by omega) ?_
  intro w2 A2 c2 O2 k2
  have kw2 : Kept w w2 := Keep.trans k1 k2 (fun j hj ⟨ad, e, h⟩ => by injection e with e; subst e; simp at h; omega)
  rw [List.nil_append, Nat.zero_add] at O2
  rw [Nat.zero_add]
  simp only [Act.put, List.setIfInBounds_toArray, List.set_cons_succ, List.set_cons_zero]
  refine l_call (o := ⟨some 50, _, _, _, _, _⟩) 10 #[.slice A2 m c2] rfl (exec_call 10 _ [.tmp 49] _ _ Try.func10 (by kernel_rfl) (by kernel_rfl) rfl (by kernel_rfl) _) ?_
  refine (S1.out w2 A2 c2 O2.ri).mono ?_
  rintro e w' ⟨rfl, rfl⟩
  refine ⟨_, rfl, ?_⟩
  simp only [Act.put, List.setIfInBounds_toArray, List.set_cons_succ, List.set_cons_zero]
  refine l_val (o := ⟨some 46, _, _, _, _, _⟩) (.tuple #[.int .i64 s1, .int .i64 s2]) rfl (exec_move (.tmp 50) (.tuple #[.int .i64 s1, .int .i64 s2]) rfl (by kernel_rfl)) ?_
  simp only [Act.put, List.setIfInBounds_toArray, List.set_cons_succ, List.set_cons_zero]
  refine l_val (o := ⟨some 51, _, _, _, _, _⟩) (.int .i64 s1) rfl (exec_extract (.tmp 46) [.int .i64 s1, .int .i64 s2] 0 (.int .i64 s1) rfl (by kernel_rfl) rfl) ?_
  simp only [Act.put, List.setIfInBounds_toArray, List.set_cons_succ, List.set_cons_zero]
  refine l_val (o := ⟨some 52, _, _, _, _, _⟩) (.int .i64 s2) rfl (exec_extract (.tmp 46) [.int .i64 s1, .int .i64 s2] 1 (.int .i64 s2) rfl (by kernel_rfl) rfl) ?_
  simp only [Act.put, List.setIfInBounds_toArray, List.set_cons_succ, List.set_cons_zero]
  refine l_val (o := ⟨some 13, _, _, _, _, _⟩) (.int .i64 s1) rfl (exec_assign (.tmp 51) (.int .i64 s1) rfl (by kernel_rfl)) ?_
  simp only [Act.put, List.setIfInBounds_toArray, List.set_cons_succ, List.set_cons_zero]
  refine l_val (o := ⟨some 14, _, _, _, _, _⟩) (.int .i64 s2) rfl (exec_assign (.tmp 52) (.int .i64 s2) rfl (by kernel_rfl)) ?_
  simp only [Act.put, List.setIfInBounds_toArray, List.set_cons_succ, List.set_cons_zero]
  refine wpList_nil ?_
  clear O1 O2 k1 k2
  go_wp2_with fail
  refine (P2.out w2).mono ?_
  rintro e w' ⟨rfl, rfl⟩
  go_wp2_with fail
  refine (T2.out w2).mono ?_
  rintro e w' ⟨rfl, rfl⟩
  go_wp2_with fail
  refine (C2.out w2).mono ?_
  rintro e w' ⟨rfl, rfl⟩
  go_wp2_with fail
  refine (S2.out w2 A c (hLR.out.kept kw2)).mono ?_
  rintro e w' ⟨rfl, rfl⟩
  go_wp2_with fail
  refine (sumsRuns_any w2).mono ?_
  rintro e w3 ⟨rfl, k3⟩
  go_wp2
  go_ret
  exact ⟨rfl, kw2.trans k3⟩
end Go.Proofs.Ytjkmfopifonbeaa
