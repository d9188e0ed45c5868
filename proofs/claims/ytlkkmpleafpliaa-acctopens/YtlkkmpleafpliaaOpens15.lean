/-
  AcctOpens: what is open is what was opened, less what was closed, over all instruments; never below nought; it answers true. Condition: the asks as the arguments hold them.
-/
import Derived.Test.YtlkkmpleafpliaaRuns15
import Derived.Test.YtlkkmpleafpliaaSame6
namespace Go.Proofs.Ytlkkmpleafpliaa
open Go.RowKit
set_option linter.unusedVariables false
set_option maxRecDepth 100000

structure OpInv (B : Bal) (k : Nat) : Prop where
  ok : B.Ok
  sm : ∀ j, B.o 5 j ≤ 100 * k
  six : ∀ j, B.o 6 j = 0
  po : ∀ j, B.p 5 j = 0
theorem opInv_zero : OpInv zeroB 0 := ⟨ok_zero, fun _ => by show (0 : Int) ≤ _; omega, fun _ => rfl, fun _ => rfl⟩
theorem opInv_step {B : Bal} {k m : Nat} {d : Int} (h : OpInv B k) (hk : k < 60) (hm : m < 8) (h0 : -100 ≤ d) (h1 : d ≤ 100) : opB B 5 (m : Int) d = decide (0 ≤ B.o 5 m + d) ∧ OpInv (opM B 5 (m : Int) d) (k + 1) ∧ (opM B 5 (m : Int) d).o 5 = (fun j => if j = m ∧ 0 ≤ B.o 5 m + d then B.o 5 m + d else B.o 5 j) := by
  have hs := h.sm m
  by_cases e : 0 ≤ B.o 5 m + d
  · obtain ⟨e1, e2⟩ := op_in (B := B) (a := 5) (b := m) (q := d) (by omega) hm (by omega) (by omega) e (by omega)
    refine ⟨e1.trans (decide_eq_true e).symm, ⟨h.ok.op _ _ _, ?_, ?_, ?_⟩, ?_⟩
    · intro j
      show (opM B ((5 : Nat) : Int) (m : Int) d).o 5 j ≤ _
      rw [e2]
      show upd B.o 5 m (B.o 5 m + d) 5 j ≤ _
      have := h.sm j
      unfold upd
      split <;> omega
    · intro j
      show (opM B ((5 : Nat) : Int) (m : Int) d).o 6 j = _
      rw [e2]
      show upd B.o 5 m (B.o 5 m + d) 6 j = _
      rw [upd_ne _ _ (.inl (by omega))]
      exact h.six j
    · intro j
      show (opM B ((5 : Nat) : Int) (m : Int) d).p 5 j = _
      rw [e2]
      exact h.po j
    · show (opM B ((5 : Nat) : Int) (m : Int) d).o 5 = _
      rw [e2]
      funext j
      show upd B.o 5 m (B.o 5 m + d) 5 j = _
      unfold upd
      by_cases ej : j = m
      · rw [if_pos ⟨rfl, ej⟩, if_pos ⟨ej, e⟩]
      · rw [if_neg (fun c => ej c.2), if_neg (fun c => ej c.1)]
  · have hw : wiB (B.o 5 m + d) 0 1099511627776 = false := wiB_not.2 (.inl (by omega))
    have e1 : opB B 5 (m : Int) d = false := by
      unfold opB Bal.oAt
      rw [show pick2 B.o 5 (m : Int) = B.o 5 m from pick2_in B.o (a := 5) (by omega) hm, hw, Bool.and_false]
    rw [op_no e1]
    refine ⟨e1.trans (decide_eq_false e).symm, ⟨h.ok, fun j => ?_, h.six, h.po⟩, ?_⟩
    · have := h.sm j
      omega
    · funext j
      rw [if_neg (fun c => e c.2)]
theorem OpInv.all5 {B : Bal} {k : Nat} (h : OpInv B k) : B.all 5 = sumTo (B.o 5) 8 := all_in B (a := 5) (by omega)
theorem OpInv.all6 {B : Bal} {k : Nat} (h : OpInv B k) : B.all 6 = 0 := ((all_in B (a := 6) (by omega)).trans (sumTo_ext (g := fun _ => 0) fun j _ => h.six j)).trans (sumTo_zero _)
theorem OpInv.at5 {B : Bal} {k m : Nat} (h : OpInv B k) (hm : m < 8) : B.oAt 5 (m : Int) = B.o 5 m := pick2_in B.o (a := 5) (by omega) hm
theorem OpInv.p5 {B : Bal} {k m : Nat} (h : OpInv B k) (hm : m < 8) : B.pAt 5 (m : Int) = 0 := (pick2_in B.p (a := 5) (by omega) hm).trans (h.po m)
theorem OpInv.sum {B : Bal} {k : Nat} (h : OpInv B k) (hk : k ≤ 60) (i : Nat) (hi : i ≤ 8) : 0 ≤ sumTo (B.o 5) i ∧ sumTo (B.o 5) i ≤ 48000 := by
  have := sumTo_in (f := B.o 5) (lo := 0) (hi := 6000) (fun j => by have := h.sm j; have := (h.ok.o 5 j).1; omega) i
  omega
set_option maxRecDepth 100000 in
set_option maxHeartbeats 3200000 in
theorem acctOpens_any (v : Value) (l : List Bq) (w : World) (hl : Bqs w v l) : Calls Try.prog 6 #[v] w fun e w' => e = .returned (.bool true) ∧ Kept w w' := by
  have HA := Lib.hid hl
  obtain ⟨A, n, c, rfl, hn, hm⟩ : ∃ A n c, v = .slice A n c ∧ l.length = n ∧ n ≤ maxLen := by
    obtain ⟨A, n, c, h1, h2, _, h3, _⟩ := hl
    exact ⟨A, n, c, h1, h2, h3⟩
  clear hl
  unfold maxLen at hm
  have HN := Lib.hid hn
  clear hn
  go_enter Try.func6, Try.ntmps6
  go_upto_region 1 with fail
  refine wp_region_lit ?_
  refine l_call (o := ⟨some 12, _, _, _, _, _⟩) 8 #[] rfl (exec_call 8 _ [] _ _ Try.func8 (by kernel_rfl) (by kernel_rfl) rfl (by kernel_rfl) _) ?_
  refine (new_any w.heap.size w (Nat.le_refl _)).mono ?_
  rintro e w1 ⟨v1, rfl, ⟨g, rfl, hg, hB⟩, k1⟩
  refine ⟨_, rfl, ?_⟩
  simp only [Act.put, List.setIfInBounds_toArray, List.set_cons_succ, List.set_cons_zero]
  refine l_val (o := ⟨some 3, _, _, _, _, _⟩) (.pointer (some ⟨g, 0, none⟩)) rfl (exec_assign (.tmp 12) (.pointer (some ⟨g, 0, none⟩)) rfl (by kernel_rfl)) ?_
  simp only [Act.put, List.setIfInBounds_toArray, List.set_cons_succ, List.set_cons_zero]
  refine wpList_nil ?_
  have HB := Lib.hid hB
  clear hB
  go_upto_region 2 with fail
  refine wp_text 2 [.eq (.pointer (some ⟨g, 0, none⟩)), .eq (.bool false)] rfl (by kernel_rfl) ?_ ?_
  · refine sv 1 rfl rfl rfl (fun a u hE hD hk => exec_move (.tmp 3) _ rfl (hE 3 (.pointer (some ⟨g, 0, none⟩)) (by kernel_rfl) (by kernel_rfl))) ?_
    refine sv 2 rfl rfl rfl (fun a u hE hD hk => exec_eqP (.tmp 13) _ _ ⟨g, 0, none⟩ (by kernel_rfl) rfl (hD 0 13 (by kernel_rfl))) ?_
    exact fsteps_nil
  intro gv w2 hV k2
  rw [show dstsOf _ 2 = [13, 14] by kernel_rfl]
  simp only [List.foldl_cons, List.foldl_nil, List.setIfInBounds_toArray, List.set_cons_succ, List.set_cons_zero, List.drop_succ_cons, List.drop_zero]
  rw [show gv 14 = .bool false from hV 1 14 (by kernel_rfl)]
  clear hV
  refine wpList_nil ?_
  have HB2 := Lib.hid (HB.out.kept k2)
  have kw2 := k1.trans k2
  clear HB k1 k2
  go_upto_region 4 with fail
  refine wp_region_lit ?_
  refine l_new (o := ⟨some 4, _, _, _, _, _⟩) (.pointer (some ⟨w2.heap.size, 0, none⟩)) (w2.alloc (.cells (lay 8 fun _ => 0).toArray 34)) rfl (exec_alc 34 (lay 8 fun _ => 0) rfl z8) ?_
  have hN := Blk.new w2 34 (lay 8 fun _ => 0)
  have kn : Kept w2 (w2.alloc (.cells (lay 8 fun _ => 0).toArray 34)) := (Keep.refl _ w2).alloc _
  generalize w2.alloc (.cells (lay 8 fun _ => 0).toArray 34) = w3 at hN kn ⊢
  simp only [Act.put, List.setIfInBounds_toArray, List.set_cons_succ, List.set_cons_zero]
  refine wpList_nil ?_
  obtain ⟨b4, hb4⟩ : ∃ b, w2.heap.size = b := ⟨_, rfl⟩
  have zg := HB2.out.lt
  rw [hb4] at hN zg ⊢
  have zw := kw2.size
  rw [hb4] at zw
  have HB3 : Hid (Blk w3 g 49 zeroB.lc) := HB2.out.kept kn
  have HC3 : Hid (Blk w3 b4 34 (lay 8 (zeroB.o 5))) := hN
  have kw3 := kw2.trans kn
  clear hN kn HB2 kw2 hb4
  have hI3 := Lib.hid opInv_zero
  generalize zeroB = B0 at HB3 HC3 hI3
  go_wp2_with fail
  go_loopw [5] (fun t wr => ∃ (k : Nat) (B : Bal), t = .int .i64 (k : Int) ∧ k ≤ 60 ∧ k ≤ n ∧ Hid (Blk wr g 49 B.lc) ∧ Hid (Blk wr b4 34 (lay 8 (B.o 5))) ∧ Hid (OpInv B k) ∧ Kept w wr) (fun t _ => 60 - (intOf t).toNat)
  case atStart => exact ⟨0, B0, rfl, by omega, by omega, HB3, HC3, hI3, kw3⟩
  case round =>
    obtain ⟨k, B, rfl, hk60, hkn, HBr, HCr, HI, kwr⟩ := hrel
    clear HB3 HC3 hI3 kw3
    by_cases hlt : k < n ∧ k < 60
    · obtain ⟨hin', hk6⟩ := hlt
      have hil : k < l.length := by rw [HN.out]; exact hin'
      obtain ⟨q, hq⟩ : ∃ q, l[k]? = some q := ⟨_, List.getElem?_eq_getElem hil⟩
      obtain ⟨A', n', c', e1, _, _, _, h4⟩ := HA.out
      injection e1 with e1 e2 e3
      subst e1 e2 e3
      obtain ⟨ga, off, rfl, hr⟩ := h4 k q hq
      have HE := Lib.hid (range_kept hr kwr)
      clear h4 hr hq hil
      have hwi := wi_in q.i 0 7 (by omega)
      have hwq := wi_in q.q 0 200 (by omega)
      obtain ⟨m, hm⟩ : ∃ m : Nat, wi q.i 0 7 = (m : Int) := ⟨(wi q.i 0 7).toNat, by omega⟩
      have HM := Lib.hid hm
      obtain ⟨Z, hZ⟩ : ∃ Z, wi q.q 0 200 = Z := ⟨_, rfl⟩
      have HZ := Lib.hid hZ
      rw [hm] at hwi
      rw [hZ] at hwq
      have hm8 : m < 8 := by omega
      clear hm hZ
      go_upto_region 6 with fail
      refine wp_text 8 [.eq (.int .i64 (k : Int)), .eq (.slice (some ⟨ga, off, none⟩) n c), .eq (.int .i64 (n : Int)), .eq (.bool true), .eq (.bool true), .eq (.int .i64 (k : Int)), .eq (.bool true), .eq (.bool true)] rfl (by kernel_rfl) ?_ ?_
      · refine sv 1 rfl rfl rfl (fun a u hE hD hk => exec_move (.tmp 5) _ rfl (hE 5 (.int .i64 (k : Int)) (by kernel_rfl) (by kernel_rfl))) ?_
        refine sv 2 rfl rfl rfl (fun a u hE hD hk => exec_move (.tmp 0) _ rfl (hE 0 (.slice (some ⟨ga, off, none⟩) n c) (by kernel_rfl) (by kernel_rfl))) ?_
        refine sv 3 rfl rfl rfl (fun a u hE hD hk => exec_len (.tmp 16) _ _ slBq.und (some ⟨ga, off, none⟩) n c rfl (hD 1 16 (by kernel_rfl))) ?_
        refine fsteps_cons 4 rfl (fun a u hE hD hk => f_as (show ((decide (((k : Int) : Int) < ((n : Int) : Int))) : Bool) = true from decide_eq_true (by omega)) (f_val (o := ⟨some 18, _, _, _, _, _⟩) (.bool (decide (((k : Int) : Int) < ((n : Int) : Int)))) rfl (wanted_none rfl _) (exec_ltn (p := (k : Int)) (q := (n : Int)) rfl (hD 0 15 (by kernel_rfl)) (hD 2 17 (by kernel_rfl))) rfl)) ?_
        refine sv 5 rfl rfl rfl (fun a u hE hD hk => exec_move (.tmp 18) _ rfl (hD 3 18 (by kernel_rfl))) ?_
        refine fsteps_cons 6 rfl (fun a u hE hD hk => f_val (o := ⟨some 20, _, _, _, _, _⟩) (.int .i64 (k : Int)) rfl (wanted_at (b := true) true rfl rfl (hD 4 19 (by kernel_rfl))) (exec_move (.tmp 5) _ rfl (hE 5 (.int .i64 (k : Int)) (by kernel_rfl) (by kernel_rfl))) rfl) ?_
        refine fsteps_cons 7 rfl (fun a u hE hD hk => f_as (show ((decide (((k : Int) : Int) < (60 : Int))) : Bool) = true from decide_eq_true (by omega)) (f_val (o := ⟨some 21, _, _, _, _, _⟩) (.bool (decide (((k : Int) : Int) < (60 : Int)))) rfl (wanted_at (b := true) true rfl rfl (hD 4 19 (by kernel_rfl))) (exec_ltn (p := (k : Int)) (q := 60) rfl (hD 5 20 (by kernel_rfl)) rfl) rfl)) ?_
        refine sv 8 rfl rfl rfl (fun a u hE hD hk => exec_pick (.tmp 19) (.tmp 21) (.const (.bool false)) (.bool true) rfl (hD 4 19 (by kernel_rfl)) (hD 6 21 (by kernel_rfl))) ?_
        exact fsteps_nil
      intro gv w4 hV k4
      rw [show dstsOf _ 8 = [15, 16, 17, 18, 19, 20, 21, 22] by kernel_rfl]
      simp only [List.foldl_cons, List.foldl_nil, List.setIfInBounds_toArray, List.set_cons_succ, List.set_cons_zero, List.drop_succ_cons, List.drop_zero]
      rw [show gv 22 = .bool true from hV 7 22 (by kernel_rfl)]
      clear hV
      refine wpList_nil ?_
      have HE4 := Lib.hid (range_kept HE.out k4)
      clear HE
      go_upto_region 8 with fail
      refine wp_sched (fun u => Kept w4 u) [(0, 0), (1, 0), (2, 0), (3, 0), (4, 0), (6, 0), (7, 0), (8, 0), (9, 0), (10, 0), (5, 1), (11, 1), (12, 0), (13, 0), (14, 0)] (by kernel_rfl) (by kernel_rfl) (Keep.drew (Keep.refl _ w4)) ?_
      refine s_val (o := ⟨some 25, _, _, _, _, _⟩) (.slice (some ⟨ga, off, none⟩) n c) rfl (by kernel_rfl) (fun u hu => exec_move (.tmp 0) (.slice (some ⟨ga, off, none⟩) n c) rfl (by kernel_rfl)) ?_
      simp only [Act.put, List.setIfInBounds_toArray, List.set_cons_succ, List.set_cons_zero]
      refine s_val (o := ⟨some 26, _, _, _, _, _⟩) (.int .i64 (k : Int)) rfl (by kernel_rfl) (fun u hu => exec_move (.tmp 5) (.int .i64 (k : Int)) rfl (by kernel_rfl)) ?_
      simp only [Act.put, List.setIfInBounds_toArray, List.set_cons_succ, List.set_cons_zero]
      refine s_val (o := ⟨some 27, _, _, _, _, _⟩) (.pointer (some ⟨ga, off + k * 5, none⟩)) rfl (by kernel_rfl) (fun u hu => exec_index 29 41 5 (.tmp 25) (.tmp 26) (ga) (off) (n) (c) (k) rfl Try.underlying29 szBq (by kernel_rfl) (by kernel_rfl) (hin')) ?_
      simp only [Act.put, List.setIfInBounds_toArray, List.set_cons_succ, List.set_cons_zero]
      refine s_val (o := ⟨some 28, _, _, _, _, _⟩) (.pointer (some ⟨ga, off + k * 5 + 2, none⟩)) rfl (by kernel_rfl) (fun u hu => exec_fldo 41 2 2 (.tmp 27) (ga) (off + k * 5) (off + k * 5 + 2) rfl (by kernel_rfl) (by kernel_rfl) rfl) ?_
      simp only [Act.put, List.setIfInBounds_toArray, List.set_cons_succ, List.set_cons_zero]
      refine s_val (o := ⟨some 29, _, _, _, _, _⟩) (.int .i64 q.i) rfl (by kernel_rfl) (fun u hu => exec_loadi 3 Try.underlying3 (.tmp 28) ⟨ga, off + k * 5 + 2, none⟩ (.int .i64 q.i) rfl (by kernel_rfl) (range_int (range_kept HE4.out hu) 2 _ rfl)) ?_
      simp only [Act.put, List.setIfInBounds_toArray, List.set_cons_succ, List.set_cons_zero]
      refine s_val (o := ⟨some 31, _, _, _, _, _⟩) (.slice (some ⟨ga, off, none⟩) n c) rfl (by kernel_rfl) (fun u hu => exec_move (.tmp 0) (.slice (some ⟨ga, off, none⟩) n c) rfl (by kernel_rfl)) ?_
      simp only [Act.put, List.setIfInBounds_toArray, List.set_cons_succ, List.set_cons_zero]
      refine s_val (o := ⟨some 32, _, _, _, _, _⟩) (.int .i64 (k : Int)) rfl (by kernel_rfl) (fun u hu => exec_move (.tmp 5) (.int .i64 (k : Int)) rfl (by kernel_rfl)) ?_
      simp only [Act.put, List.setIfInBounds_toArray, List.set_cons_succ, List.set_cons_zero]
      refine s_val (o := ⟨some 33, _, _, _, _, _⟩) (.pointer (some ⟨ga, off + k * 5, none⟩)) rfl (by kernel_rfl) (fun u hu => exec_index 29 41 5 (.tmp 31) (.tmp 32) (ga) (off) (n) (c) (k) rfl Try.underlying29 szBq (by kernel_rfl) (by kernel_rfl) (hin')) ?_
      simp only [Act.put, List.setIfInBounds_toArray, List.set_cons_succ, List.set_cons_zero]
      refine s_val (o := ⟨some 34, _, _, _, _, _⟩) (.pointer (some ⟨ga, off + k * 5 + 4, none⟩)) rfl (by kernel_rfl) (fun u hu => exec_fldo 41 4 4 (.tmp 33) (ga) (off + k * 5) (off + k * 5 + 4) rfl (by kernel_rfl) (by kernel_rfl) rfl) ?_
      simp only [Act.put, List.setIfInBounds_toArray, List.set_cons_succ, List.set_cons_zero]
      refine s_val (o := ⟨some 35, _, _, _, _, _⟩) (.int .i64 q.q) rfl (by kernel_rfl) (fun u hu => exec_loadi 3 Try.underlying3 (.tmp 34) ⟨ga, off + k * 5 + 4, none⟩ (.int .i64 q.q) rfl (by kernel_rfl) (range_int (range_kept HE4.out hu) 4 _ rfl)) ?_
      simp only [Act.put, List.setIfInBounds_toArray, List.set_cons_succ, List.set_cons_zero]
      refine s_call (o := ⟨some 30, _, _, _, _, _⟩) 18 #[.int .i64 q.i, .int .i64 0, .int .i64 7] rfl (by kernel_rfl) (exec_call 18 _ [.tmp 29, .const (.int .i64 0), .const (.int .i64 7)] _ _ Try.func18 (by kernel_rfl) (by kernel_rfl) rfl (by kernel_rfl)) ?_
      refine (within_is q.i 0 7 w4.drew (by omega) (by omega) (by omega)).mono ?_
      rintro e w4a ⟨v4, rfl, hv4, k4a⟩
      obtain rfl : v4 = .int .i64 (m : Int) := by rw [← HM.out]; exact hv4
      have k4b : Kept w4 w4a := Kept.trans (show Kept w4 w4.drew from Keep.drew (Keep.refl _ w4)) k4a
      refine ⟨_, rfl, k4b, ?_⟩
      simp only [Act.put, List.setIfInBounds_toArray, List.set_cons_succ, List.set_cons_zero]
      refine s_call (o := ⟨some 36, _, _, _, _, _⟩) 18 #[.int .i64 q.q, .int .i64 0, .int .i64 200] rfl (by kernel_rfl) (exec_call 18 _ [.tmp 35, .const (.int .i64 0), .const (.int .i64 200)] _ _ Try.func18 (by kernel_rfl) (by kernel_rfl) rfl (by kernel_rfl)) ?_
      refine (within_is q.q 0 200 w4a (by omega) (by omega) (by omega)).mono ?_
      rintro e w5 ⟨v5, rfl, hv5, k5a⟩
      obtain rfl : v5 = .int .i64 Z := by rw [← HZ.out]; exact hv5
      have k5 : Kept w4 w5 := k4b.trans k5a
      refine ⟨_, rfl, k5, ?_⟩
      simp only [Act.put, List.setIfInBounds_toArray, List.set_cons_succ, List.set_cons_zero]
      refine s_val (o := ⟨some 37, _, _, _, _, _⟩) (.int .i64 (Z - 100)) rfl (by kernel_rfl) (fun u hu => exec_subn (Z - 100) rfl (by kernel_rfl) (by kernel_rfl) rfl (by omega) (by omega)) ?_
      simp only [Act.put, List.setIfInBounds_toArray, List.set_cons_succ, List.set_cons_zero]
      refine s_val (o := ⟨some 6, _, _, _, _, _⟩) (.int .i64 (m : Int)) rfl (by kernel_rfl) (fun u hu => exec_assign (.tmp 30) (.int .i64 (m : Int)) rfl (by kernel_rfl)) ?_
      simp only [Act.put, List.setIfInBounds_toArray, List.set_cons_succ, List.set_cons_zero]
      refine s_val (o := ⟨some 7, _, _, _, _, _⟩) (.int .i64 (Z - 100)) rfl (by kernel_rfl) (fun u hu => exec_assign (.tmp 37) (.int .i64 (Z - 100)) rfl (by kernel_rfl)) ?_
      simp only [Act.put, List.setIfInBounds_toArray, List.set_cons_succ, List.set_cons_zero]
      refine s_done ?_
      obtain ⟨d, hd⟩ : ∃ d, Z - 100 = d := ⟨_, rfl⟩
      have hd0 : -100 ≤ d := by omega
      have hd1 : d ≤ 100 := by omega
      rw [hd]
      clear HE4 HM HZ hwq hd
      obtain ⟨hb1, hI2, hfo⟩ := opInv_step HI.out hk6 hm8 hd0 hd1
      have hlo := (HI.out.ok.o 5 m).1
      have hhi := HI.out.sm m
      obtain ⟨X, hX⟩ : ∃ X, B.o 5 m = X := ⟨_, rfl⟩
      have HX := Lib.hid hX
      rw [hX] at hb1 hfo hlo hhi
      obtain ⟨F, hF⟩ : ∃ F, decide (0 ≤ X + d) = F := ⟨_, rfl⟩
      have HF := Lib.hid hF
      rw [hF] at hb1
      have HOB := Lib.hid hb1
      obtain ⟨B2, hB2⟩ : ∃ B2, opM B 5 (m : Int) d = B2 := ⟨_, rfl⟩
      have HB2 := Lib.hid hB2
      rw [hB2] at hI2 hfo
      have HI2 := Lib.hid hI2
      have HFO := Lib.hid hfo
      have HBO := Lib.hid HI.out.ok
      clear hX hF hb1 hB2 hI2 hfo
      have HB5 := Lib.hid ((HBr.out.kept k4).kept k5)
      have HC5 := Lib.hid ((HCr.out.kept k4).kept k5)
      have kw5 := (kwr.trans k4).trans k5
      clear HBr HCr kwr k4 k5
      go_upto_region 9 with fail
      refine wp_text 7 [.eq (.int .i64 (m : Int)), .eq (.pointer (some ⟨b4, m, none⟩)), .eq (.int .i64 X), .eq (.int .i64 d), .eq (.int .i64 ((X : Int) + (d : Int))), .eq (.bool F), .eq (.bool F)] rfl (by kernel_rfl) ?_ ?_
      · refine sv 1 rfl rfl rfl (fun a u hE hD hk => exec_move (.tmp 6) _ rfl (hE 6 (.int .i64 (m : Int)) (by kernel_rfl) (by kernel_rfl))) ?_
        refine sv 2 rfl rfl rfl (fun a u hE hD hk => exec_ixK 1 34 3 8 (.tmp 4) (.tmp 38) (b4) (0) (m) m ((m : Int)) rfl Try.underlying34 (by kernel_rfl) (hE 4 (.pointer (some ⟨b4, 0, none⟩)) (by kernel_rfl) (by kernel_rfl)) (hD 0 38 (by kernel_rfl)) (by first | rfl | omega) (hm8) (by first | rfl | omega)) ?_
        refine sv 3 rfl rfl rfl (fun a u hE hD hk => exec_loadi 3 Try.underlying3 (.tmp 39) ⟨b4, m, none⟩ (.int .i64 X) rfl (hD 1 39 (by kernel_rfl)) (Kept.cell hk ((lay_cell HC5.out hm8 HX.out)))) ?_
        refine sv 4 rfl rfl rfl (fun a u hE hD hk => exec_move (.tmp 7) _ rfl (hE 7 (.int .i64 d) (by kernel_rfl) (by kernel_rfl))) ?_
        refine sv 5 rfl rfl rfl (fun a u hE hD hk => exec_addn (p := (X)) (q := (d)) ((X : Int) + (d : Int)) rfl (hD 2 40 (by kernel_rfl)) (hD 3 41 (by kernel_rfl)) rfl (by omega) (by omega)) ?_
        refine fsteps_cons 6 rfl (fun a u hE hD hk => f_as (show ((decide ((0 : Int) ≤ (((X : Int) + (d : Int)) : Int))) : Bool) = F from HF.out) (f_val (o := ⟨some 43, _, _, _, _, _⟩) (.bool (decide ((0 : Int) ≤ (((X : Int) + (d : Int)) : Int)))) rfl (wanted_none rfl _) (exec_gen (p := ((X : Int) + (d : Int))) (q := 0) rfl (hD 4 42 (by kernel_rfl)) rfl) rfl)) ?_
        refine sv 7 rfl rfl rfl (fun a u hE hD hk => exec_assign (.tmp 43) _ rfl (hD 5 43 (by kernel_rfl))) ?_
        exact fsteps_nil
      intro gv w6 hV k6
      rw [show dstsOf _ 7 = [38, 39, 40, 41, 42, 43, 8] by kernel_rfl]
      simp only [List.foldl_cons, List.foldl_nil, List.setIfInBounds_toArray, List.set_cons_succ, List.set_cons_zero, List.drop_succ_cons, List.drop_zero]
      rw [show gv 8 = .bool F from hV 6 8 (by kernel_rfl)]
      clear hV
      refine wpList_nil ?_
      go_upto_region 10 with fail
      refine wp_text 3 [.eq (.pointer (some ⟨g, 0, none⟩)), .eq (.int .i64 (m : Int)), .eq (.int .i64 d)] rfl (by kernel_rfl) ?_ ?_
      · refine sv 1 rfl rfl rfl (fun a u hE hD hk => exec_move (.tmp 3) _ rfl (hE 3 (.pointer (some ⟨g, 0, none⟩)) (by kernel_rfl) (by kernel_rfl))) ?_
        refine sv 2 rfl rfl rfl (fun a u hE hD hk => exec_move (.tmp 6) _ rfl (hE 6 (.int .i64 (m : Int)) (by kernel_rfl) (by kernel_rfl))) ?_
        refine sv 3 rfl rfl rfl (fun a u hE hD hk => exec_move (.tmp 7) _ rfl (hE 7 (.int .i64 d) (by kernel_rfl) (by kernel_rfl))) ?_
        exact fsteps_nil
      intro gv w7 hV k7
      rw [show dstsOf _ 3 = [44, 45, 46] by kernel_rfl]
      simp only [List.foldl_cons, List.foldl_nil, List.setIfInBounds_toArray, List.set_cons_succ, List.set_cons_zero, List.drop_succ_cons, List.drop_zero]
      rw [show gv 44 = .pointer (some ⟨g, 0, none⟩) from hV 0 44 (by kernel_rfl)]
      rw [show gv 45 = .int .i64 (m : Int) from hV 1 45 (by kernel_rfl)]
      rw [show gv 46 = .int .i64 d from hV 2 46 (by kernel_rfl)]
      clear hV
      refine l_call (o := ⟨some 47, _, _, _, _, _⟩) 9 #[.pointer (some ⟨g, 0, none⟩), .int .i64 5, .int .i64 (m : Int), .int .i64 d] rfl (exec_call 9 _ [.tmp 44, .const (.int .i64 5), .tmp 45, .tmp 46] _ _ Try.func9 (by kernel_rfl) (by kernel_rfl) rfl (by kernel_rfl) _) ?_
      refine (opens_at ((HB5.out.kept k6).kept k7) HBO.out HOB.out HB2.out).mono ?_
      rintro e w8 ⟨rfl, hB8, k8⟩
      refine ⟨_, rfl, ?_⟩
      simp only [Act.put, List.setIfInBounds_toArray, List.set_cons_succ, List.set_cons_zero]
      refine l_val (o := ⟨some 48, _, _, _, _, _⟩) (.bool F) rfl (exec_move (.tmp 8) (.bool F) rfl (by kernel_rfl)) ?_
      simp only [Act.put, List.setIfInBounds_toArray, List.set_cons_succ, List.set_cons_zero]
      refine l_val (o := ⟨some 49, _, _, _, _, _⟩) (.bool false) rfl (exec_neb (.tmp 47) (.tmp 48) _ F F false rfl (by kernel_rfl) (by kernel_rfl) (by simp)) ?_
      simp only [Act.put, List.setIfInBounds_toArray, List.set_cons_succ, List.set_cons_zero]
      refine wpList_nil ?_
      have HB8 := Lib.hid hB8
      have HC8 := Lib.hid ((HC5.out.kept (k6.trans k7)).keep k8 (by omega))
      have kw8 := kept_own ((kw5.trans k6).trans k7) hg k8
      clear hB8 k6 k7 k8 kw5 HB5 HC5
      cases F with
      | true =>
        go_upto_region 12 with fail
        refine wp_text 1 [.eq (.bool true)] rfl (by kernel_rfl) ?_ ?_
        · refine sv 1 rfl rfl rfl (fun a u hE hD hk => exec_move (.tmp 8) _ rfl (hE 8 (.bool true) (by kernel_rfl) (by kernel_rfl))) ?_
          exact fsteps_nil
        intro gv w9 hV k9
        rw [show dstsOf _ 1 = [50] by kernel_rfl]
        simp only [List.foldl_cons, List.foldl_nil, List.setIfInBounds_toArray, List.set_cons_succ, List.set_cons_zero, List.drop_succ_cons, List.drop_zero]
        rw [show gv 50 = .bool true from hV 0 50 (by kernel_rfl)]
        clear hV
        refine wpList_nil ?_
        have hfp : 0 ≤ X + d := of_decide_eq_true HF.out
        obtain ⟨fo, hfo⟩ : ∃ fo, B2.o 5 = fo := ⟨_, rfl⟩
        have HST : Hid ((lay 8 (B.o 5)).set m (.int .i64 (X + d)) = lay 8 fo) := by
          show _ = _
          rw [lay_set _ hm8, ← hfo, HFO.out]
          refine lay_ext fun j hj => ?_
          by_cases e : j = m
          · rw [if_pos e, if_pos ⟨e, hfp⟩]
          · rw [if_neg e, if_neg (fun c => e c.1)]
        have HC9' := Lib.hid (HC8.out.kept k9)
        have HB9' := Lib.hid (HB8.out.kept k9)
        have kw9' := kw8.trans k9
        clear HFO HF HC8 HB8 kw8 k9
        have HFO := Lib.hid hfo
        clear hfo
        have hl8 : m < (lay 8 (B.o 5)).length := by rw [lay_len]; exact hm8
        go_upto_region 13 with fail
        refine wp_text 7 [.eq (.int .i64 (m : Int)), .eq (.int .i64 (m : Int)), .eq (.pointer (some ⟨b4, m, none⟩)), .eq (.int .i64 X), .eq (.int .i64 d), .eq (.int .i64 ((X : Int) + (d : Int))), .eq (.pointer (some ⟨b4, m, none⟩))] rfl (by kernel_rfl) ?_ ?_
        · refine sv 1 rfl rfl rfl (fun a u hE hD hk => exec_move (.tmp 6) _ rfl (hE 6 (.int .i64 (m : Int)) (by kernel_rfl) (by kernel_rfl))) ?_
          refine sv 2 rfl rfl rfl (fun a u hE hD hk => exec_move (.tmp 6) _ rfl (hE 6 (.int .i64 (m : Int)) (by kernel_rfl) (by kernel_rfl))) ?_
          refine sv 3 rfl rfl rfl (fun a u hE hD hk => exec_ixK 1 34 3 8 (.tmp 4) (.tmp 52) (b4) (0) (m) m ((m : Int)) rfl Try.underlying34 (by kernel_rfl) (hE 4 (.pointer (some ⟨b4, 0, none⟩)) (by kernel_rfl) (by kernel_rfl)) (hD 1 52 (by kernel_rfl)) (by first | rfl | omega) (hm8) (by first | rfl | omega)) ?_
          refine sv 4 rfl rfl rfl (fun a u hE hD hk => exec_loadi 3 Try.underlying3 (.tmp 53) ⟨b4, m, none⟩ (.int .i64 X) rfl (hD 2 53 (by kernel_rfl)) (Kept.cell hk ((lay_cell HC9'.out hm8 HX.out)))) ?_
          refine sv 5 rfl rfl rfl (fun a u hE hD hk => exec_move (.tmp 7) _ rfl (hE 7 (.int .i64 d) (by kernel_rfl) (by kernel_rfl))) ?_
          refine sv 6 rfl rfl rfl (fun a u hE hD hk => exec_addn (p := (X)) (q := (d)) ((X : Int) + (d : Int)) rfl (hD 3 54 (by kernel_rfl)) (hD 4 55 (by kernel_rfl)) rfl (by omega) (by omega)) ?_
          refine sv 7 rfl rfl rfl (fun a u hE hD hk => exec_ixK 1 34 3 8 (.tmp 4) (.tmp 51) (b4) (0) (m) m ((m : Int)) rfl Try.underlying34 (by kernel_rfl) (hE 4 (.pointer (some ⟨b4, 0, none⟩)) (by kernel_rfl) (by kernel_rfl)) (hD 0 51 (by kernel_rfl)) (by first | rfl | omega) (hm8) (by first | rfl | omega)) ?_
          exact fsteps_nil
        intro gv wp hV kp
        rw [show dstsOf _ 7 = [51, 52, 53, 54, 55, 56, 57] by kernel_rfl]
        simp only [List.foldl_cons, List.foldl_nil, List.setIfInBounds_toArray, List.set_cons_succ, List.set_cons_zero, List.drop_succ_cons, List.drop_zero]
        rw [show gv 57 = .pointer (some ⟨b4, m, none⟩) from hV 6 57 (by kernel_rfl)]
        rw [show gv 56 = .int .i64 ((X : Int) + (d : Int)) from hV 5 56 (by kernel_rfl)]
        clear hV
        refine l_putN (o := ⟨none, _, _, _, _, _⟩) b4 m 34 (lay 8 (B.o 5)) (lay 8 fo) (X + d) (.tmp 57) (.tmp 56) rfl rfl (by kernel_rfl) (by kernel_rfl) (HC9'.out.kept kp) hl8 HST.out ?_
        intro wS hCS hkS hsS
        simp only [Act.put]
        refine wpList_nil ?_
        have HC9 := Lib.hid hCS
        have HB9 := Lib.hid ((HB9'.out.kept kp).keep hkS (by omega))
        have kw9 := kept_own (g := b4) (kw9'.trans kp) (by omega) hkS
        clear HC9' HB9' kw9' hCS hkS hsS kp HST HX
        have HSum : Hid (∀ i, i ≤ 8 → 0 ≤ sumTo fo i ∧ sumTo fo i ≤ 48000) := by
          show ∀ _, _
          rw [← HFO.out]
          exact fun i hi => HI2.out.sum (by omega) i hi
        have hfb : ∀ j, 0 ≤ fo j ∧ fo j ≤ 1099511627776 := fun j => by rw [← HFO.out]; exact HI2.out.ok.o 5 j
        have HS5 : Hid (B2.all 5 = sumTo fo 8) := by show _ = _; rw [← HFO.out]; exact HI2.out.all5
        have HS6 := Lib.hid HI2.out.all6
        have HA5 : Hid (B2.oAt 5 (m : Int) = fo m) := by show _ = _; rw [← HFO.out]; exact HI2.out.at5 hm8
        have HP5 := Lib.hid (HI2.out.p5 (m := m) hm8)
        obtain ⟨Y, hY⟩ : ∃ Y, fo m = Y := ⟨_, rfl⟩
        rw [hY] at HA5
        have HY := Lib.hid hY
        clear hY
        go_upto_region 15 with fail
        refine wp_text 2 [.eq (.agg (lay 8 fo).toArray), .eq (.int .i64 0)] rfl (by kernel_rfl) ?_ ?_
        · refine sv 1 rfl rfl rfl (fun a u hE hD hk => exec_ld8 (.tmp 4) b4 0 fo rfl (hE 4 (.pointer (some ⟨b4, 0, none⟩)) (by kernel_rfl) (by kernel_rfl)) (blk_range (HC9.out.kept hk))) ?_
          refine sv 2 rfl rfl rfl (fun a u hE hD hk => exec_move (.const (.int .i64 0)) _ rfl rfl) ?_
          exact fsteps_nil
        intro gv wa hV ka
        rw [show dstsOf _ 2 = [58, 59] by kernel_rfl]
        simp only [List.foldl_cons, List.foldl_nil, List.setIfInBounds_toArray, List.set_cons_succ, List.set_cons_zero, List.drop_succ_cons, List.drop_zero]
        rw [show gv 58 = .agg (lay 8 fo).toArray from hV 0 58 (by kernel_rfl)]
        rw [show gv 59 = .int .i64 0 from hV 1 59 (by kernel_rfl)]
        clear hV
        refine wpList_nil ?_
        have kwa := kw9.trans ka
        have HBa := Lib.hid (HB9.out.kept ka)
        have HCa := Lib.hid (HC9.out.kept ka)
        obtain ⟨cs, hcs⟩ : ∃ cs, (lay 8 fo).toArray = cs := ⟨_, rfl⟩
        have HCS := Lib.hid hcs
        rw [hcs]
        clear hcs ka kw9 HB9 HC9
        go_wp2_with fail
        go_loopw [9, 59] (fun t q wx => ∃ i : Nat, q = .int .i64 (i : Int) ∧ t = .int .i64 (sumTo fo i) ∧ i ≤ 8 ∧ Kept wa wx) (fun _ q _ => 8 - (intOf q).toNat)
        case atStart => exact ⟨0, rfl, rfl, by omega, Kept.refl _⟩
        case round =>
          obtain ⟨i, rfl, rfl, hi8, hkr⟩ := hrel
          obtain ⟨S, hS⟩ : ∃ S, sumTo fo i = S := ⟨_, rfl⟩
          have hSb := HSum.out i hi8
          rw [hS] at hSb ⊢
          by_cases hi : i < 8
          · have hSn := HSum.out (i + 1) (by omega)
            obtain ⟨V, hV⟩ : ∃ V, fo i = V := ⟨_, rfl⟩
            have HV := Lib.hid hV
            have HSN : Hid (S + V = sumTo fo (i + 1)) := by show _ = _; rw [← hS, ← hV]; rfl
            have hVb := hfb i
            rw [hV] at hVb
            clear hS hV
            go_upto_region 16 with fail
            refine wp_text 1 [.eq (.bool true)] rfl (by kernel_rfl) ?_ ?_
            · refine fsteps_cons 1 rfl (fun a u hE hD hk => f_as (show ((decide (((i : Int) : Int) < (8 : Int))) : Bool) = true from decide_eq_true (by omega)) (f_val (o := ⟨some 60, _, _, _, _, _⟩) (.bool (decide (((i : Int) : Int) < (8 : Int)))) rfl (wanted_none rfl _) (exec_ltn (p := (i : Int)) (q := 8) rfl (hE 59 (.int .i64 (i : Int)) (by kernel_rfl) (by kernel_rfl)) rfl) rfl)) ?_
              exact fsteps_nil
            intro gv wb hV kb
            rw [show dstsOf _ 1 = [60] by kernel_rfl]
            simp only [List.foldl_cons, List.foldl_nil, List.setIfInBounds_toArray, List.set_cons_succ, List.set_cons_zero, List.drop_succ_cons, List.drop_zero]
            rw [show gv 60 = .bool true from hV 0 60 (by kernel_rfl)]
            clear hV
            refine wpList_nil ?_
            go_upto_region 17 with fail
            refine wp_text 2 [.eq (.int .i64 V), .eq (.int .i64 V)] rfl (by kernel_rfl) ?_ ?_
            · refine sv 1 rfl rfl rfl (fun a u hE hD hk => by rw [← HV.out]; exact exec_ix8 fo i (i : Int) (.tmp 58) (.tmp 59) rfl (by rw [HCS.out]; exact (hE 58 (.agg cs) (by kernel_rfl) (by kernel_rfl))) (hE 59 (.int .i64 (i : Int)) (by kernel_rfl) (by kernel_rfl)) rfl hi) ?_
              refine sv 2 rfl rfl rfl (fun a u hE hD hk => exec_assign (.tmp 61) _ rfl (hD 0 61 (by kernel_rfl))) ?_
              exact fsteps_nil
            intro gv wc hV kc
            rw [show dstsOf _ 2 = [61, 11] by kernel_rfl]
            simp only [List.foldl_cons, List.foldl_nil, List.setIfInBounds_toArray, List.set_cons_succ, List.set_cons_zero, List.drop_succ_cons, List.drop_zero]
            rw [show gv 11 = .int .i64 V from hV 1 11 (by kernel_rfl)]
            clear hV
            refine wpList_nil ?_
            go_upto_region 18 with fail
            refine wp_text 3 [.eq (.int .i64 S), .eq (.int .i64 V), .eq (.int .i64 ((S : Int) + (V : Int)))] rfl (by kernel_rfl) ?_ ?_
            · refine sv 1 rfl rfl rfl (fun a u hE hD hk => exec_move (.tmp 9) _ rfl (hE 9 (.int .i64 S) (by kernel_rfl) (by kernel_rfl))) ?_
              refine sv 2 rfl rfl rfl (fun a u hE hD hk => exec_move (.tmp 11) _ rfl (hE 11 (.int .i64 V) (by kernel_rfl) (by kernel_rfl))) ?_
              refine sv 3 rfl rfl rfl (fun a u hE hD hk => exec_addn (p := (S)) (q := (V)) ((S : Int) + (V : Int)) rfl (hD 0 62 (by kernel_rfl)) (hD 1 63 (by kernel_rfl)) rfl (by omega) (by omega)) ?_
              exact fsteps_nil
            intro gv wd hV kd
            rw [show dstsOf _ 3 = [62, 63, 64] by kernel_rfl]
            simp only [List.foldl_cons, List.foldl_nil, List.setIfInBounds_toArray, List.set_cons_succ, List.set_cons_zero, List.drop_succ_cons, List.drop_zero]
            rw [show gv 64 = .int .i64 ((S : Int) + (V : Int)) from hV 2 64 (by kernel_rfl)]
            clear hV
            refine l_val (o := ⟨some 9, _, _, _, _, _⟩) (.int .i64 ((S : Int) + (V : Int))) rfl (exec_assign (.tmp 64) (.int .i64 ((S : Int) + (V : Int))) rfl (by kernel_rfl)) ?_
            simp only [Act.put, List.setIfInBounds_toArray, List.set_cons_succ, List.set_cons_zero]
            refine wpList_nil ?_
            have kr := ((hkr.trans kb).trans kc).trans kd
            go_wp2
            exact ⟨⟨i + 1, by simp, by rw [← HSN.out], by omega, kr⟩, by simp [intOf]; omega⟩
          · obtain rfl : i = 8 := by omega
            have HS8 : Hid (B2.all 5 = S) := by show _ = _; rw [← hS]; exact HS5.out
            clear hS
            go_upto_region 16 with fail
            refine wp_text 1 [.eq (.bool false)] rfl (by kernel_rfl) ?_ ?_
            · refine fsteps_cons 1 rfl (fun a u hE hD hk => f_as (show ((decide (((8 : Nat) : Int) < (8 : Int))) : Bool) = false from decide_eq_false (by omega)) (f_val (o := ⟨some 60, _, _, _, _, _⟩) (.bool (decide (((8 : Nat) : Int) < (8 : Int)))) rfl (wanted_none rfl _) (exec_ltn (p := (8 : Nat)) (q := 8) rfl (hE 59 (.int .i64 (8 : Nat)) (by kernel_rfl) (by kernel_rfl)) rfl) rfl)) ?_
              exact fsteps_nil
            intro gv wb hV kb
            rw [show dstsOf _ 1 = [60] by kernel_rfl]
            simp only [List.foldl_cons, List.foldl_nil, List.setIfInBounds_toArray, List.set_cons_succ, List.set_cons_zero, List.drop_succ_cons, List.drop_zero]
            rw [show gv 60 = .bool false from hV 0 60 (by kernel_rfl)]
            clear hV
            refine wpList_nil ?_
            have HBb := Lib.hid ((HBa.out.kept hkr).kept kb)
            have HCb := Lib.hid ((HCa.out.kept hkr).kept kb)
            have kwb := (kwa.trans hkr).trans kb
            clear HBa HCa hkr kb kwa
            go_upto_region 20 with fail
            refine wp_free 24 [.eq (.pointer (some ⟨g, 0, none⟩)), .eq (.int .i64 S), .eq (.int .i64 S), .eq (.bool false), .eq (.bool false), .eq (.pointer (some ⟨g, 0, none⟩)), .eq (.int .i64 (m : Int)), .eq (.int .i64 Y), .eq (.int .i64 (m : Int)), .eq (.pointer (some ⟨b4, m, none⟩)), .eq (.int .i64 Y), .eq (.bool false), .eq (.bool false), .eq (.bool false), .eq (.pointer (some ⟨g, 0, none⟩)), .eq (.int .i64 0), .eq (.bool false), .eq (.bool false), .eq (.bool false), .eq (.pointer (some ⟨g, 0, none⟩)), .eq (.int .i64 (m : Int)), .eq (.int .i64 0), .eq (.bool false), .eq (.bool false)] (by kernel_rfl) rfl (by kernel_rfl) ?_ ?_
            · refine sv 1 rfl rfl rfl (fun a u hE hD hk => exec_move (.tmp 3) _ rfl (hE 3 (.pointer (some ⟨g, 0, none⟩)) (by kernel_rfl) (by kernel_rfl))) ?_
              refine fsteps_cons 2 rfl (fun a u hE hD hk => f_call (o := ⟨some 67, _, _, _, _, _⟩) 10 #[.pointer (some ⟨g, 0, none⟩), .int .i64 5] rfl (wanted_none rfl _) (exec_call 10 _ [.tmp 66, .const (.int .i64 5)] _ [.pointer (some ⟨g, 0, none⟩), .int .i64 5] Try.func10 (by kernel_rfl) (by kernel_rfl) rfl (show [a.eval (.tmp 66), a.eval (.const (.int .i64 5))] = [.pointer (some ⟨g, 0, none⟩), .int .i64 5] from (by rw [show a.eval (.tmp 66) = .pointer (some ⟨g, 0, none⟩) from (hD 0 66 (by kernel_rfl))] <;> rfl)) u) (all_at (HBb.out.kept hk) HI2.out.ok HS8.out)) ?_
              refine sv 3 rfl rfl rfl (fun a u hE hD hk => exec_move (.tmp 9) _ rfl (hE 9 (.int .i64 S) (by kernel_rfl) (by kernel_rfl))) ?_
              refine fsteps_cons 4 rfl (fun a u hE hD hk => f_as (show ((decide ((S : Int) ≠ (S : Int))) : Bool) = false from decide_eq_false (by omega)) (f_val (o := ⟨some 69, _, _, _, _, _⟩) (.bool (decide ((S : Int) ≠ (S : Int)))) rfl (wanted_none rfl _) (exec_nen (p := S) (q := S) rfl (hD 1 67 (by kernel_rfl)) (hD 2 68 (by kernel_rfl))) rfl)) ?_
              refine sv 5 rfl rfl rfl (fun a u hE hD hk => exec_move (.tmp 69) _ rfl (hD 3 69 (by kernel_rfl))) ?_
              refine fsteps_cons 6 rfl (fun a u hE hD hk => f_val (o := ⟨some 71, _, _, _, _, _⟩) (.pointer (some ⟨g, 0, none⟩)) rfl (wanted_at (b := false) false rfl rfl (hD 4 70 (by kernel_rfl))) (exec_move (.tmp 3) _ rfl (hE 3 (.pointer (some ⟨g, 0, none⟩)) (by kernel_rfl) (by kernel_rfl))) rfl) ?_
              refine fsteps_cons 7 rfl (fun a u hE hD hk => f_val (o := ⟨some 72, _, _, _, _, _⟩) (.int .i64 (m : Int)) rfl (wanted_at (b := false) false rfl rfl (hD 4 70 (by kernel_rfl))) (exec_move (.tmp 6) _ rfl (hE 6 (.int .i64 (m : Int)) (by kernel_rfl) (by kernel_rfl))) rfl) ?_
              refine fsteps_cons 8 rfl (fun a u hE hD hk => f_call (o := ⟨some 73, _, _, _, _, _⟩) 17 #[.pointer (some ⟨g, 0, none⟩), .int .i64 5, .int .i64 (m : Int)] rfl (wanted_at (b := false) false rfl rfl (hD 4 70 (by kernel_rfl))) (exec_call 17 _ [.tmp 71, .const (.int .i64 5), .tmp 72] _ [.pointer (some ⟨g, 0, none⟩), .int .i64 5, .int .i64 (m : Int)] Try.func17 (by kernel_rfl) (by kernel_rfl) rfl (show [a.eval (.tmp 71), a.eval (.const (.int .i64 5)), a.eval (.tmp 72)] = [.pointer (some ⟨g, 0, none⟩), .int .i64 5, .int .i64 (m : Int)] from (by rw [show a.eval (.tmp 71) = .pointer (some ⟨g, 0, none⟩) from (hD 5 71 (by kernel_rfl)), show a.eval (.tmp 72) = .int .i64 (m : Int) from (hD 6 72 (by kernel_rfl))] <;> rfl)) u) (openAt_at (HBb.out.kept hk) HA5.out)) ?_
              refine fsteps_cons 9 rfl (fun a u hE hD hk => f_val (o := ⟨some 74, _, _, _, _, _⟩) (.int .i64 (m : Int)) rfl (wanted_at (b := false) false rfl rfl (hD 4 70 (by kernel_rfl))) (exec_move (.tmp 6) _ rfl (hE 6 (.int .i64 (m : Int)) (by kernel_rfl) (by kernel_rfl))) rfl) ?_
              refine fsteps_cons 10 rfl (fun a u hE hD hk => f_val (o := ⟨some 75, _, _, _, _, _⟩) (.pointer (some ⟨b4, m, none⟩)) rfl (wanted_at (b := false) false rfl rfl (hD 4 70 (by kernel_rfl))) (exec_ixK 1 34 3 8 (.tmp 4) (.tmp 74) (b4) (0) (m) m ((m : Int)) rfl Try.underlying34 (by kernel_rfl) (hE 4 (.pointer (some ⟨b4, 0, none⟩)) (by kernel_rfl) (by kernel_rfl)) (hD 8 74 (by kernel_rfl)) (by first | rfl | omega) (hm8) (by first | rfl | omega)) rfl) ?_
              refine fsteps_cons 11 rfl (fun a u hE hD hk => f_val (o := ⟨some 76, _, _, _, _, _⟩) (.int .i64 Y) rfl (wanted_at (b := false) false rfl rfl (hD 4 70 (by kernel_rfl))) (exec_loadi 3 Try.underlying3 (.tmp 75) ⟨b4, m, none⟩ (.int .i64 Y) rfl (hD 9 75 (by kernel_rfl)) (Kept.cell hk ((lay_cell HCb.out hm8 HY.out)))) rfl) ?_
              refine fsteps_cons 12 rfl (fun a u hE hD hk => f_as (show ((decide ((Y : Int) ≠ (Y : Int))) : Bool) = false from decide_eq_false (by omega)) (f_val (o := ⟨some 77, _, _, _, _, _⟩) (.bool (decide ((Y : Int) ≠ (Y : Int)))) rfl (wanted_at (b := false) false rfl rfl (hD 4 70 (by kernel_rfl))) (exec_nen (p := Y) (q := Y) rfl (hD 7 73 (by kernel_rfl)) (hD 10 76 (by kernel_rfl))) rfl)) ?_
              refine sv 13 rfl rfl rfl (fun a u hE hD hk => exec_pickF (.tmp 70) (.const (.bool true)) (.tmp 77) (.bool false) rfl (hD 4 70 (by kernel_rfl)) (hD 11 77 (by kernel_rfl))) ?_
              refine sv 14 rfl rfl rfl (fun a u hE hD hk => exec_move (.tmp 78) _ rfl (hD 12 78 (by kernel_rfl))) ?_
              refine fsteps_cons 15 rfl (fun a u hE hD hk => f_val (o := ⟨some 80, _, _, _, _, _⟩) (.pointer (some ⟨g, 0, none⟩)) rfl (wanted_at (b := false) false rfl rfl (hD 13 79 (by kernel_rfl))) (exec_move (.tmp 3) _ rfl (hE 3 (.pointer (some ⟨g, 0, none⟩)) (by kernel_rfl) (by kernel_rfl))) rfl) ?_
              refine fsteps_cons 16 rfl (fun a u hE hD hk => f_call (o := ⟨some 81, _, _, _, _, _⟩) 10 #[.pointer (some ⟨g, 0, none⟩), .int .i64 6] rfl (wanted_at (b := false) false rfl rfl (hD 13 79 (by kernel_rfl))) (exec_call 10 _ [.tmp 80, .const (.int .i64 6)] _ [.pointer (some ⟨g, 0, none⟩), .int .i64 6] Try.func10 (by kernel_rfl) (by kernel_rfl) rfl (show [a.eval (.tmp 80), a.eval (.const (.int .i64 6))] = [.pointer (some ⟨g, 0, none⟩), .int .i64 6] from (by rw [show a.eval (.tmp 80) = .pointer (some ⟨g, 0, none⟩) from (hD 14 80 (by kernel_rfl))] <;> rfl)) u) (all_at (HBb.out.kept hk) HI2.out.ok HS6.out)) ?_
              refine fsteps_cons 17 rfl (fun a u hE hD hk => f_as (show ((decide ((0 : Int) ≠ (0 : Int))) : Bool) = false from decide_eq_false (by omega)) (f_val (o := ⟨some 82, _, _, _, _, _⟩) (.bool (decide ((0 : Int) ≠ (0 : Int)))) rfl (wanted_at (b := false) false rfl rfl (hD 13 79 (by kernel_rfl))) (exec_nen (p := 0) (q := 0) rfl (hD 15 81 (by kernel_rfl)) rfl) rfl)) ?_
              refine sv 18 rfl rfl rfl (fun a u hE hD hk => exec_pickF (.tmp 79) (.const (.bool true)) (.tmp 82) (.bool false) rfl (hD 13 79 (by kernel_rfl)) (hD 16 82 (by kernel_rfl))) ?_
              refine sv 19 rfl rfl rfl (fun a u hE hD hk => exec_move (.tmp 83) _ rfl (hD 17 83 (by kernel_rfl))) ?_
              refine fsteps_cons 20 rfl (fun a u hE hD hk => f_val (o := ⟨some 85, _, _, _, _, _⟩) (.pointer (some ⟨g, 0, none⟩)) rfl (wanted_at (b := false) false rfl rfl (hD 18 84 (by kernel_rfl))) (exec_move (.tmp 3) _ rfl (hE 3 (.pointer (some ⟨g, 0, none⟩)) (by kernel_rfl) (by kernel_rfl))) rfl) ?_
              refine fsteps_cons 21 rfl (fun a u hE hD hk => f_val (o := ⟨some 86, _, _, _, _, _⟩) (.int .i64 (m : Int)) rfl (wanted_at (b := false) false rfl rfl (hD 18 84 (by kernel_rfl))) (exec_move (.tmp 6) _ rfl (hE 6 (.int .i64 (m : Int)) (by kernel_rfl) (by kernel_rfl))) rfl) ?_
              refine fsteps_cons 22 rfl (fun a u hE hD hk => f_call (o := ⟨some 87, _, _, _, _, _⟩) 12 #[.pointer (some ⟨g, 0, none⟩), .int .i64 5, .int .i64 (m : Int)] rfl (wanted_at (b := false) false rfl rfl (hD 18 84 (by kernel_rfl))) (exec_call 12 _ [.tmp 85, .const (.int .i64 5), .tmp 86] _ [.pointer (some ⟨g, 0, none⟩), .int .i64 5, .int .i64 (m : Int)] Try.func12 (by kernel_rfl) (by kernel_rfl) rfl (show [a.eval (.tmp 85), a.eval (.const (.int .i64 5)), a.eval (.tmp 86)] = [.pointer (some ⟨g, 0, none⟩), .int .i64 5, .int .i64 (m : Int)] from (by rw [show a.eval (.tmp 85) = .pointer (some ⟨g, 0, none⟩) from (hD 19 85 (by kernel_rfl)), show a.eval (.tmp 86) = .int .i64 (m : Int) from (hD 20 86 (by kernel_rfl))] <;> rfl)) u) (pos_at (HBb.out.kept hk) HP5.out)) ?_
              refine fsteps_cons 23 rfl (fun a u hE hD hk => f_as (show ((decide ((0 : Int) ≠ (0 : Int))) : Bool) = false from decide_eq_false (by omega)) (f_val (o := ⟨some 88, _, _, _, _, _⟩) (.bool (decide ((0 : Int) ≠ (0 : Int)))) rfl (wanted_at (b := false) false rfl rfl (hD 18 84 (by kernel_rfl))) (exec_nen (p := 0) (q := 0) rfl (hD 21 87 (by kernel_rfl)) rfl) rfl)) ?_
              refine sv 24 rfl rfl rfl (fun a u hE hD hk => exec_pickF (.tmp 84) (.const (.bool true)) (.tmp 88) (.bool false) rfl (hD 18 84 (by kernel_rfl)) (hD 22 88 (by kernel_rfl))) ?_
              exact fsteps_nil
            intro gv wz hV kz
            rw [show dstsOf _ 24 = [66, 67, 68, 69, 70, 71, 72, 73, 74, 75, 76, 77, 78, 79, 80, 81, 82, 83, 84, 85, 86, 87, 88, 89] by kernel_rfl]
            simp only [List.foldl_cons, List.foldl_nil, List.setIfInBounds_toArray, List.set_cons_succ, List.set_cons_zero, List.drop_succ_cons, List.drop_zero]
            rw [show gv 89 = .bool false from hV 23 89 (by kernel_rfl)]
            clear hV
            refine wpList_nil ?_
            have HBz := Lib.hid (HBb.out.kept kz)
            have HCz : Hid (Blk wz b4 34 (lay 8 (B2.o 5))) := by show Blk _ _ _ _; rw [HFO.out]; exact HCb.out.kept kz
            have kwz := kwb.trans kz
            go_wp2
            exact ⟨⟨k + 1, B2, by simp, by omega, by omega, HBz, HCz, HI2, kwz⟩, by simp [intOf]; omega⟩
      | false =>
        go_upto_region 12 with fail
        refine wp_text 1 [.eq (.bool false)] rfl (by kernel_rfl) ?_ ?_
        · refine sv 1 rfl rfl rfl (fun a u hE hD hk => exec_move (.tmp 8) _ rfl (hE 8 (.bool false) (by kernel_rfl) (by kernel_rfl))) ?_
          exact fsteps_nil
        intro gv w9 hV k9
        rw [show dstsOf _ 1 = [50] by kernel_rfl]
        simp only [List.foldl_cons, List.foldl_nil, List.setIfInBounds_toArray, List.set_cons_succ, List.set_cons_zero, List.drop_succ_cons, List.drop_zero]
        rw [show gv 50 = .bool false from hV 0 50 (by kernel_rfl)]
        clear hV
        refine wpList_nil ?_
        have hfp : ¬ 0 ≤ X + d := of_decide_eq_false HF.out
        obtain ⟨fo, hfo⟩ : ∃ fo, B2.o 5 = fo := ⟨_, rfl⟩
        have hsame : B.o 5 = fo := by
          rw [← hfo, HFO.out]
          funext j
          rw [if_neg (fun c => hfp c.2)]
        have HC9 := Lib.hid (HC8.out.kept k9)
        rw [hsame] at HC9
        have HB9 := Lib.hid (HB8.out.kept k9)
        have kw9 := kw8.trans k9
        clear HFO HF HC8 HB8 kw8 k9 hsame HX
        have HFO := Lib.hid hfo
        clear hfo
        have HSum : Hid (∀ i, i ≤ 8 → 0 ≤ sumTo fo i ∧ sumTo fo i ≤ 48000) := by
          show ∀ _, _
          rw [← HFO.out]
          exact fun i hi => HI2.out.sum (by omega) i hi
        have hfb : ∀ j, 0 ≤ fo j ∧ fo j ≤ 1099511627776 := fun j => by rw [← HFO.out]; exact HI2.out.ok.o 5 j
        have HS5 : Hid (B2.all 5 = sumTo fo 8) := by show _ = _; rw [← HFO.out]; exact HI2.out.all5
        have HS6 := Lib.hid HI2.out.all6
        have HA5 : Hid (B2.oAt 5 (m : Int) = fo m) := by show _ = _; rw [← HFO.out]; exact HI2.out.at5 hm8
        have HP5 := Lib.hid (HI2.out.p5 (m := m) hm8)
        obtain ⟨Y, hY⟩ : ∃ Y, fo m = Y := ⟨_, rfl⟩
        rw [hY] at HA5
        have HY := Lib.hid hY
        clear hY
        go_upto_region 15 with fail
        refine wp_text 2 [.eq (.agg (lay 8 fo).toArray), .eq (.int .i64 0)] rfl (by kernel_rfl) ?_ ?_
        · refine sv 1 rfl rfl rfl (fun a u hE hD hk => exec_ld8 (.tmp 4) b4 0 fo rfl (hE 4 (.pointer (some ⟨b4, 0, none⟩)) (by kernel_rfl) (by kernel_rfl)) (blk_range (HC9.out.kept hk))) ?_
          refine sv 2 rfl rfl rfl (fun a u hE hD hk => exec_move (.const (.int .i64 0)) _ rfl rfl) ?_
          exact fsteps_nil
        intro gv wa hV ka
        rw [show dstsOf _ 2 = [58, 59] by kernel_rfl]
        simp only [List.foldl_cons, List.foldl_nil, List.setIfInBounds_toArray, List.set_cons_succ, List.set_cons_zero, List.drop_succ_cons, List.drop_zero]
        rw [show gv 58 = .agg (lay 8 fo).toArray from hV 0 58 (by kernel_rfl)]
        rw [show gv 59 = .int .i64 0 from hV 1 59 (by kernel_rfl)]
        clear hV
        refine wpList_nil ?_
        have kwa := kw9.trans ka
        have HBa := Lib.hid (HB9.out.kept ka)
        have HCa := Lib.hid (HC9.out.kept ka)
        obtain ⟨cs, hcs⟩ : ∃ cs, (lay 8 fo).toArray = cs := ⟨_, rfl⟩
        have HCS := Lib.hid hcs
        rw [hcs]
        clear hcs ka kw9 HB9 HC9
        go_wp2_with fail
        go_loopw [9, 59] (fun t q wx => ∃ i : Nat, q = .int .i64 (i : Int) ∧ t = .int .i64 (sumTo fo i) ∧ i ≤ 8 ∧ Kept wa wx) (fun _ q _ => 8 - (intOf q).toNat)
        case atStart => exact ⟨0, rfl, rfl, by omega, Kept.refl _⟩
        case round =>
          obtain ⟨i, rfl, rfl, hi8, hkr⟩ := hrel
          obtain ⟨S, hS⟩ : ∃ S, sumTo fo i = S := ⟨_, rfl⟩
          have hSb := HSum.out i hi8
          rw [hS] at hSb ⊢
          by_cases hi : i < 8
          · have hSn := HSum.out (i + 1) (by omega)
            obtain ⟨V, hV⟩ : ∃ V, fo i = V := ⟨_, rfl⟩
            have HV := Lib.hid hV
            have HSN : Hid (S + V = sumTo fo (i + 1)) := by show _ = _; rw [← hS, ← hV]; rfl
            have hVb := hfb i
            rw [hV] at hVb
            clear hS hV
            go_upto_region 16 with fail
            refine wp_text 1 [.eq (.bool true)] rfl (by kernel_rfl) ?_ ?_
            · refine fsteps_cons 1 rfl (fun a u hE hD hk => f_as (show ((decide (((i : Int) : Int) < (8 : Int))) : Bool) = true from decide_eq_true (by omega)) (f_val (o := ⟨some 60, _, _, _, _, _⟩) (.bool (decide (((i : Int) : Int) < (8 : Int)))) rfl (wanted_none rfl _) (exec_ltn (p := (i : Int)) (q := 8) rfl (hE 59 (.int .i64 (i : Int)) (by kernel_rfl) (by kernel_rfl)) rfl) rfl)) ?_
              exact fsteps_nil
            intro gv wb hV kb
            rw [show dstsOf _ 1 = [60] by kernel_rfl]
            simp only [List.foldl_cons, List.foldl_nil, List.setIfInBounds_toArray, List.set_cons_succ, List.set_cons_zero, List.drop_succ_cons, List.drop_zero]
            rw [show gv 60 = .bool true from hV 0 60 (by kernel_rfl)]
            clear hV
            refine wpList_nil ?_
            go_upto_region 17 with fail
            refine wp_text 2 [.eq (.int .i64 V), .eq (.int .i64 V)] rfl (by kernel_rfl) ?_ ?_
            · refine sv 1 rfl rfl rfl (fun a u hE hD hk => by rw [← HV.out]; exact exec_ix8 fo i (i : Int) (.tmp 58) (.tmp 59) rfl (by rw [HCS.out]; exact (hE 58 (.agg cs) (by kernel_rfl) (by kernel_rfl))) (hE 59 (.int .i64 (i : Int)) (by kernel_rfl) (by kernel_rfl)) rfl hi) ?_
              refine sv 2 rfl rfl rfl (fun a u hE hD hk => exec_assign (.tmp 61) _ rfl (hD 0 61 (by kernel_rfl))) ?_
              exact fsteps_nil
            intro gv wc hV kc
            rw [show dstsOf _ 2 = [61, 11] by kernel_rfl]
            simp only [List.foldl_cons, List.foldl_nil, List.setIfInBounds_toArray, List.set_cons_succ, List.set_cons_zero, List.drop_succ_cons, List.drop_zero]
            rw [show gv 11 = .int .i64 V from hV 1 11 (by kernel_rfl)]
            clear hV
            refine wpList_nil ?_
            go_upto_region 18 with fail
            refine wp_text 3 [.eq (.int .i64 S), .eq (.int .i64 V), .eq (.int .i64 ((S : Int) + (V : Int)))] rfl (by kernel_rfl) ?_ ?_
            · refine sv 1 rfl rfl rfl (fun a u hE hD hk => exec_move (.tmp 9) _ rfl (hE 9 (.int .i64 S) (by kernel_rfl) (by kernel_rfl))) ?_
              refine sv 2 rfl rfl rfl (fun a u hE hD hk => exec_move (.tmp 11) _ rfl (hE 11 (.int .i64 V) (by kernel_rfl) (by kernel_rfl))) ?_
              refine sv 3 rfl rfl rfl (fun a u hE hD hk => exec_addn (p := (S)) (q := (V)) ((S : Int) + (V : Int)) rfl (hD 0 62 (by kernel_rfl)) (hD 1 63 (by kernel_rfl)) rfl (by omega) (by omega)) ?_
              exact fsteps_nil
            intro gv wd hV kd
            rw [show dstsOf _ 3 = [62, 63, 64] by kernel_rfl]
            simp only [List.foldl_cons, List.foldl_nil, List.setIfInBounds_toArray, List.set_cons_succ, List.set_cons_zero, List.drop_succ_cons, List.drop_zero]
            rw [show gv 64 = .int .i64 ((S : Int) + (V : Int)) from hV 2 64 (by kernel_rfl)]
            clear hV
            refine l_val (o := ⟨some 9, _, _, _, _, _⟩) (.int .i64 ((S : Int) + (V : Int))) rfl (exec_assign (.tmp 64) (.int .i64 ((S : Int) + (V : Int))) rfl (by kernel_rfl)) ?_
            simp only [Act.put, List.setIfInBounds_toArray, List.set_cons_succ, List.set_cons_zero]
            refine wpList_nil ?_
            have kr := ((hkr.trans kb).trans kc).trans kd
            go_wp2
            exact ⟨⟨i + 1, by simp, by rw [← HSN.out], by omega, kr⟩, by simp [intOf]; omega⟩
          · obtain rfl : i = 8 := by omega
            have HS8 : Hid (B2.all 5 = S) := by show _ = _; rw [← hS]; exact HS5.out
            clear hS
            go_upto_region 16 with fail
            refine wp_text 1 [.eq (.bool false)] rfl (by kernel_rfl) ?_ ?_
            · refine fsteps_cons 1 rfl (fun a u hE hD hk => f_as (show ((decide (((8 : Nat) : Int) < (8 : Int))) : Bool) = false from decide_eq_false (by omega)) (f_val (o := ⟨some 60, _, _, _, _, _⟩) (.bool (decide (((8 : Nat) : Int) < (8 : Int)))) rfl (wanted_none rfl _) (exec_ltn (p := (8 : Nat)) (q := 8) rfl (hE 59 (.int .i64 (8 : Nat)) (by kernel_rfl) (by kernel_rfl)) rfl) rfl)) ?_
              exact fsteps_nil
            intro gv wb hV kb
            rw [show dstsOf _ 1 = [60] by kernel_rfl]
            simp only [List.foldl_cons, List.foldl_nil, List.setIfInBounds_toArray, List.set_cons_succ, List.set_cons_zero, List.drop_succ_cons, List.drop_zero]
            rw [show gv 60 = .bool false from hV 0 60 (by kernel_rfl)]
            clear hV
            refine wpList_nil ?_
            have HBb := Lib.hid ((HBa.out.kept hkr).kept kb)
            have HCb := Lib.hid ((HCa.out.kept hkr).kept kb)
            have kwb := (kwa.trans hkr).trans kb
            clear HBa HCa hkr kb kwa
            go_upto_region 20 with fail
            refine wp_free 24 [.eq (.pointer (some ⟨g, 0, none⟩)), .eq (.int .i64 S), .eq (.int .i64 S), .eq (.bool false), .eq (.bool false), .eq (.pointer (some ⟨g, 0, none⟩)), .eq (.int .i64 (m : Int)), .eq (.int .i64 Y), .eq (.int .i64 (m : Int)), .eq (.pointer (some ⟨b4, m, none⟩)), .eq (.int .i64 Y), .eq (.bool false), .eq (.bool false), .eq (.bool false), .eq (.pointer (some ⟨g, 0, none⟩)), .eq (.int .i64 0), .eq (.bool false), .eq (.bool false), .eq (.bool false), .eq (.pointer (some ⟨g, 0, none⟩)), .eq (.int .i64 (m : Int)), .eq (.int .i64 0), .eq (.bool false), .eq (.bool false)] (by kernel_rfl) rfl (by kernel_rfl) ?_ ?_
            · refine sv 1 rfl rfl rfl (fun a u hE hD hk => exec_move (.tmp 3) _ rfl (hE 3 (.pointer (some ⟨g, 0, none⟩)) (by kernel_rfl) (by kernel_rfl))) ?_
              refine fsteps_cons 2 rfl (fun a u hE hD hk => f_call (o := ⟨some 67, _, _, _, _, _⟩) 10 #[.pointer (some ⟨g, 0, none⟩), .int .i64 5] rfl (wanted_none rfl _) (exec_call 10 _ [.tmp 66, .const (.int .i64 5)] _ [.pointer (some ⟨g, 0, none⟩), .int .i64 5] Try.func10 (by kernel_rfl) (by kernel_rfl) rfl (show [a.eval (.tmp 66), a.eval (.const (.int .i64 5))] = [.pointer (some ⟨g, 0, none⟩), .int .i64 5] from (by rw [show a.eval (.tmp 66) = .pointer (some ⟨g, 0, none⟩) from (hD 0 66 (by kernel_rfl))] <;> rfl)) u) (all_at (HBb.out.kept hk) HI2.out.ok HS8.out)) ?_
              refine sv 3 rfl rfl rfl (fun a u hE hD hk => exec_move (.tmp 9) _ rfl (hE 9 (.int .i64 S) (by kernel_rfl) (by kernel_rfl))) ?_
              refine fsteps_cons 4 rfl (fun a u hE hD hk => f_as (show ((decide ((S : Int) ≠ (S : Int))) : Bool) = false from decide_eq_false (by omega)) (f_val (o := ⟨some 69, _, _, _, _, _⟩) (.bool (decide ((S : Int) ≠ (S : Int)))) rfl (wanted_none rfl _) (exec_nen (p := S) (q := S) rfl (hD 1 67 (by kernel_rfl)) (hD 2 68 (by kernel_rfl))) rfl)) ?_
              refine sv 5 rfl rfl rfl (fun a u hE hD hk => exec_move (.tmp 69) _ rfl (hD 3 69 (by kernel_rfl))) ?_
              refine fsteps_cons 6 rfl (fun a u hE hD hk => f_val (o := ⟨some 71, _, _, _, _, _⟩) (.pointer (some ⟨g, 0, none⟩)) rfl (wanted_at (b := false) false rfl rfl (hD 4 70 (by kernel_rfl))) (exec_move (.tmp 3) _ rfl (hE 3 (.pointer (some ⟨g, 0, none⟩)) (by kernel_rfl) (by kernel_rfl))) rfl) ?_
              refine fsteps_cons 7 rfl (fun a u hE hD hk => f_val (o := ⟨some 72, _, _, _, _, _⟩) (.int .i64 (m : Int)) rfl (wanted_at (b := false) false rfl rfl (hD 4 70 (by kernel_rfl))) (exec_move (.tmp 6) _ rfl (hE 6 (.int .i64 (m : Int)) (by kernel_rfl) (by kernel_rfl))) rfl) ?_
              refine fsteps_cons 8 rfl (fun a u hE hD hk => f_call (o := ⟨some 73, _, _, _, _, _⟩) 17 #[.pointer (some ⟨g, 0, none⟩), .int .i64 5, .int .i64 (m : Int)] rfl (wanted_at (b := false) false rfl rfl (hD 4 70 (by kernel_rfl))) (exec_call 17 _ [.tmp 71, .const (.int .i64 5), .tmp 72] _ [.pointer (some ⟨g, 0, none⟩), .int .i64 5, .int .i64 (m : Int)] Try.func17 (by kernel_rfl) (by kernel_rfl) rfl (show [a.eval (.tmp 71), a.eval (.const (.int .i64 5)), a.eval (.tmp 72)] = [.pointer (some ⟨g, 0, none⟩), .int .i64 5, .int .i64 (m : Int)] from (by rw [show a.eval (.tmp 71) = .pointer (some ⟨g, 0, none⟩) from (hD 5 71 (by kernel_rfl)), show a.eval (.tmp 72) = .int .i64 (m : Int) from (hD 6 72 (by kernel_rfl))] <;> rfl)) u) (openAt_at (HBb.out.kept hk) HA5.out)) ?_
              refine fsteps_cons 9 rfl (fun a u hE hD hk => f_val (o := ⟨some 74, _, _, _, _, _⟩) (.int .i64 (m : Int)) rfl (wanted_at (b := false) false rfl rfl (hD 4 70 (by kernel_rfl))) (exec_move (.tmp 6) _ rfl (hE 6 (.int .i64 (m : Int)) (by kernel_rfl) (by kernel_rfl))) rfl) ?_
              refine fsteps_cons 10 rfl (fun a u hE hD hk => f_val (o := ⟨some 75, _, _, _, _, _⟩) (.pointer (some ⟨b4, m, none⟩)) rfl (wanted_at (b := false) false rfl rfl (hD 4 70 (by kernel_rfl))) (exec_ixK 1 34 3 8 (.tmp 4) (.tmp 74) (b4) (0) (m) m ((m : Int)) rfl Try.underlying34 (by kernel_rfl) (hE 4 (.pointer (some ⟨b4, 0, none⟩)) (by kernel_rfl) (by kernel_rfl)) (hD 8 74 (by kernel_rfl)) (by first | rfl | omega) (hm8) (by first | rfl | omega)) rfl) ?_
              refine fsteps_cons 11 rfl (fun a u hE hD hk => f_val (o := ⟨some 76, _, _, _, _, _⟩) (.int .i64 Y) rfl (wanted_at (b := false) false rfl rfl (hD 4 70 (by kernel_rfl))) (exec_loadi 3 Try.underlying3 (.tmp 75) ⟨b4, m, none⟩ (.int .i64 Y) rfl (hD 9 75 (by kernel_rfl)) (Kept.cell hk ((lay_cell HCb.out hm8 HY.out)))) rfl) ?_
              refine fsteps_cons 12 rfl (fun a u hE hD hk => f_as (show ((decide ((Y : Int) ≠ (Y : Int))) : Bool) = false from decide_eq_false (by omega)) (f_val (o := ⟨some 77, _, _, _, _, _⟩) (.bool (decide ((Y : Int) ≠ (Y : Int)))) rfl (wanted_at (b := false) false rfl rfl (hD 4 70 (by kernel_rfl))) (exec_nen (p := Y) (q := Y) rfl (hD 7 73 (by kernel_rfl)) (hD 10 76 (by kernel_rfl))) rfl)) ?_
              refine sv 13 rfl rfl rfl (fun a u hE hD hk => exec_pickF (.tmp 70) (.const (.bool true)) (.tmp 77) (.bool false) rfl (hD 4 70 (by kernel_rfl)) (hD 11 77 (by kernel_rfl))) ?_
              refine sv 14 rfl rfl rfl (fun a u hE hD hk => exec_move (.tmp 78) _ rfl (hD 12 78 (by kernel_rfl))) ?_
              refine fsteps_cons 15 rfl (fun a u hE hD hk => f_val (o := ⟨some 80, _, _, _, _, _⟩) (.pointer (some ⟨g, 0, none⟩)) rfl (wanted_at (b := false) false rfl rfl (hD 13 79 (by kernel_rfl))) (exec_move (.tmp 3) _ rfl (hE 3 (.pointer (some ⟨g, 0, none⟩)) (by kernel_rfl) (by kernel_rfl))) rfl) ?_
              refine fsteps_cons 16 rfl (fun a u hE hD hk => f_call (o := ⟨some 81, _, _, _, _, _⟩) 10 #[.pointer (some ⟨g, 0, none⟩), .int .i64 6] rfl (wanted_at (b := false) false rfl rfl (hD 13 79 (by kernel_rfl))) (exec_call 10 _ [.tmp 80, .const (.int .i64 6)] _ [.pointer (some ⟨g, 0, none⟩), .int .i64 6] Try.func10 (by kernel_rfl) (by kernel_rfl) rfl (show [a.eval (.tmp 80), a.eval (.const (.int .i64 6))] = [.pointer (some ⟨g, 0, none⟩), .int .i64 6] from (by rw [show a.eval (.tmp 80) = .pointer (some ⟨g, 0, none⟩) from (hD 14 80 (by kernel_rfl))] <;> rfl)) u) (all_at (HBb.out.kept hk) HI2.out.ok HS6.out)) ?_
              refine fsteps_cons 17 rfl (fun a u hE hD hk => f_as (show ((decide ((0 : Int) ≠ (0 : Int))) : Bool) = false from decide_eq_false (by omega)) (f_val (o := ⟨some 82, _, _, _, _, _⟩) (.bool (decide ((0 : Int) ≠ (0 : Int)))) rfl (wanted_at (b := false) false rfl rfl (hD 13 79 (by kernel_rfl))) (exec_nen (p := 0) (q := 0) rfl (hD 15 81 (by kernel_rfl)) rfl) rfl)) ?_
              refine sv 18 rfl rfl rfl (fun a u hE hD hk => exec_pickF (.tmp 79) (.const (.bool true)) (.tmp 82) (.bool false) rfl (hD 13 79 (by kernel_rfl)) (hD 16 82 (by kernel_rfl))) ?_
              refine sv 19 rfl rfl rfl (fun a u hE hD hk => exec_move (.tmp 83) _ rfl (hD 17 83 (by kernel_rfl))) ?_
              refine fsteps_cons 20 rfl (fun a u hE hD hk => f_val (o := ⟨some 85, _, _, _, _, _⟩) (.pointer (some ⟨g, 0, none⟩)) rfl (wanted_at (b := false) false rfl rfl (hD 18 84 (by kernel_rfl))) (exec_move (.tmp 3) _ rfl (hE 3 (.pointer (some ⟨g, 0, none⟩)) (by kernel_rfl) (by kernel_rfl))) rfl) ?_
              refine fsteps_cons 21 rfl (fun a u hE hD hk => f_val (o := ⟨some 86, _, _, _, _, _⟩) (.int .i64 (m : Int)) rfl (wanted_at (b := false) false rfl rfl (hD 18 84 (by kernel_rfl))) (exec_move (.tmp 6) _ rfl (hE 6 (.int .i64 (m : Int)) (by kernel_rfl) (by kernel_rfl))) rfl) ?_
              refine fsteps_cons 22 rfl (fun a u hE hD hk => f_call (o := ⟨some 87, _, _, _, _, _⟩) 12 #[.pointer (some ⟨g, 0, none⟩), .int .i64 5, .int .i64 (m : Int)] rfl (wanted_at (b := false) false rfl rfl (hD 18 84 (by kernel_rfl))) (exec_call 12 _ [.tmp 85, .const (.int .i64 5), .tmp 86] _ [.pointer (some ⟨g, 0, none⟩), .int .i64 5, .int .i64 (m : Int)] Try.func12 (by kernel_rfl) (by kernel_rfl) rfl (show [a.eval (.tmp 85), a.eval (.const (.int .i64 5)), a.eval (.tmp 86)] = [.pointer (some ⟨g, 0, none⟩), .int .i64 5, .int .i64 (m : Int)] from (by rw [show a.eval (.tmp 85) = .pointer (some ⟨g, 0, none⟩) from (hD 19 85 (by kernel_rfl)), show a.eval (.tmp 86) = .int .i64 (m : Int) from (hD 20 86 (by kernel_rfl))] <;> rfl)) u) (pos_at (HBb.out.kept hk) HP5.out)) ?_
              refine fsteps_cons 23 rfl (fun a u hE hD hk => f_as (show ((decide ((0 : Int) ≠ (0 : Int))) : Bool) = false from decide_eq_false (by omega)) (f_val (o := ⟨some 88, _, _, _, _, _⟩) (.bool (decide ((0 : Int) ≠ (0 : Int)))) rfl (wanted_at (b := false) false rfl rfl (hD 18 84 (by kernel_rfl))) (exec_nen (p := 0) (q := 0) rfl (hD 21 87 (by kernel_rfl)) rfl) rfl)) ?_
              refine sv 24 rfl rfl rfl (fun a u hE hD hk => exec_pickF (.tmp 84) (.const (.bool true)) (.tmp 88) (.bool false) rfl (hD 18 84 (by kernel_rfl)) (hD 22 88 (by kernel_rfl))) ?_
              exact fsteps_nil
            intro gv wz hV kz
            rw [show dstsOf _ 24 = [66, 67, 68, 69, 70, 71, 72, 73, 74, 75, 76, 77, 78, 79, 80, 81, 82, 83, 84, 85, 86, 87, 88, 89] by kernel_rfl]
            simp only [List.foldl_cons, List.foldl_nil, List.setIfInBounds_toArray, List.set_cons_succ, List.set_cons_zero, List.drop_succ_cons, List.drop_zero]
            rw [show gv 89 = .bool false from hV 23 89 (by kernel_rfl)]
            clear hV
            refine wpList_nil ?_
            have HBz := Lib.hid (HBb.out.kept kz)
            have HCz : Hid (Blk wz b4 34 (lay 8 (B2.o 5))) := by show Blk _ _ _ _; rw [HFO.out]; exact HCb.out.kept kz
            have kwz := kwb.trans kz
            go_wp2
            exact ⟨⟨k + 1, B2, by simp, by omega, by omega, HBz, HCz, HI2, kwz⟩, by simp [intOf]; omega⟩
    · have hcond : (decide ((k : Int) < (n : Int)) && decide ((k : Int) < 60)) = false := by
        by_cases h1 : (k : Int) < (n : Int)
        · rw [decide_eq_false (show ¬ (k : Int) < 60 by omega), Bool.and_false]
        · rw [decide_eq_false h1, Bool.false_and]
      go_upto_region 6 with fail
      refine wp_text 8 [.eq (.int .i64 (k : Int)), .eq (.slice A n c), .eq (.int .i64 (n : Int)), .eq (.bool (decide (((k : Int) : Int) < ((n : Int) : Int)))), .eq (.bool (decide (((k : Int) : Int) < ((n : Int) : Int)))), .cond (decide (((k : Int) : Int) < ((n : Int) : Int))) (.eq (.int .i64 (k : Int))), .cond (decide (((k : Int) : Int) < ((n : Int) : Int))) (.eq (.bool (decide (((k : Int) : Int) < (60 : Int))))), .eq (.bool false)] rfl (by kernel_rfl) ?_ ?_
      · refine sv 1 rfl rfl rfl (fun a u hE hD hk => exec_move (.tmp 5) _ rfl (hE 5 (.int .i64 (k : Int)) (by kernel_rfl) (by kernel_rfl))) ?_
        refine sv 2 rfl rfl rfl (fun a u hE hD hk => exec_move (.tmp 0) _ rfl (hE 0 (.slice A n c) (by kernel_rfl) (by kernel_rfl))) ?_
        refine sv 3 rfl rfl rfl (fun a u hE hD hk => exec_len (.tmp 16) _ _ slBq.und A n c rfl (hD 1 16 (by kernel_rfl))) ?_
        refine sv 4 rfl rfl rfl (fun a u hE hD hk => exec_ltn (p := (k : Int)) (q := (n : Int)) rfl (hD 0 15 (by kernel_rfl)) (hD 2 17 (by kernel_rfl))) ?_
        refine sv 5 rfl rfl rfl (fun a u hE hD hk => exec_move (.tmp 18) _ rfl (hD 3 18 (by kernel_rfl))) ?_
        refine fsteps_cons 6 rfl (fun a u hE hD hk => f_if ((decide (((k : Int) : Int) < ((n : Int) : Int)))) rfl rfl rfl (hD 4 19 (by kernel_rfl)) (fun hb => f_val (o := ⟨some 20, _, _, _, _, _⟩) (.int .i64 (k : Int)) rfl (wanted_b rfl rfl (hD 4 19 (by kernel_rfl)) (eq_true_of hb)) (exec_move (.tmp 5) _ rfl (hE 5 (.int .i64 (k : Int)) (by kernel_rfl) (by kernel_rfl))) rfl)) ?_
        refine fsteps_cons 7 rfl (fun a u hE hD hk => f_if ((decide (((k : Int) : Int) < ((n : Int) : Int)))) rfl rfl rfl (hD 4 19 (by kernel_rfl)) (fun hb => f_val (o := ⟨some 21, _, _, _, _, _⟩) (.bool (decide (((k : Int) : Int) < (60 : Int)))) rfl (wanted_b rfl rfl (hD 4 19 (by kernel_rfl)) (eq_true_of hb)) (exec_ltn (p := (k : Int)) (q := 60) rfl ((hD 5 20 (by kernel_rfl)).1 hb) rfl) rfl)) ?_
        refine fsteps_cons 8 rfl (fun a u hE hD hk => f_as (show (((decide (((k : Int) : Int) < ((n : Int) : Int))) && (decide (((k : Int) : Int) < (60 : Int)))) : Bool) = false from hcond) (f_val (o := ⟨some 22, _, _, _, _, _⟩) (.bool ((decide (((k : Int) : Int) < ((n : Int) : Int))) && (decide (((k : Int) : Int) < (60 : Int))))) rfl (wanted_none rfl _) (exec_pickand (.tmp 19) (.tmp 21) (.const (.bool false)) ((decide (((k : Int) : Int) < ((n : Int) : Int)))) ((decide (((k : Int) : Int) < (60 : Int)))) rfl (hD 4 19 (by kernel_rfl)) (fun hb2 => ((hD 6 21 (by kernel_rfl)).1 hb2)) rfl) rfl)) ?_
        exact fsteps_nil
      intro gv w4 hV k4
      rw [show dstsOf _ 8 = [15, 16, 17, 18, 19, 20, 21, 22] by kernel_rfl]
      simp only [List.foldl_cons, List.foldl_nil, List.setIfInBounds_toArray, List.set_cons_succ, List.set_cons_zero, List.drop_succ_cons, List.drop_zero]
      rw [show gv 22 = .bool false from hV 7 22 (by kernel_rfl)]
      clear hV
      refine wpList_nil ?_
      have kw4 := kwr.trans k4
      clear hcond hlt k4
      go_upto_region 22 with fail
      refine wp_text 2 [.eq (.bool true), .eq (.bool true)] rfl (by kernel_rfl) ?_ ?_
      · refine fsteps_cons 1 rfl (fun a u hE hD hk => f_call (o := ⟨some 90, _, _, _, _, _⟩) 3 #[] rfl (wanted_none rfl _) (exec_call 3 _ [] _ [] Try.func3 (by kernel_rfl) (by kernel_rfl) rfl rfl u) (acctRuns_is u)) ?_
        refine sv 2 rfl rfl rfl (fun a u hE hD hk => exec_assign (.tmp 90) _ rfl (hD 0 90 (by kernel_rfl))) ?_
        exact fsteps_nil
      intro gv w5 hV k5
      rw [show dstsOf _ 2 = [90, 2] by kernel_rfl]
      simp only [List.foldl_cons, List.foldl_nil, List.setIfInBounds_toArray, List.set_cons_succ, List.set_cons_zero, List.drop_succ_cons, List.drop_zero]
      rw [show gv 2 = .bool true from hV 1 2 (by kernel_rfl)]
      clear hV
      refine wpList_nil ?_
      have kw5 := kw4.trans k5
      go_wp2
      go_ret
      exact ⟨rfl, kw5⟩
end Go.Proofs.Ytlkkmpleafpliaa
