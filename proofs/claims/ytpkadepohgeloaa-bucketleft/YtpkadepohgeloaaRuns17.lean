/-
  BucketRuns: chapter 17's runs; it answers true. No condition.
-/
import Derived.Test.YtpkadepohgeloaaBukC
import Derived.Test.YtpkadepohgeloaaBolS
import Derived.Test.YtpkadepohgeloaaSlI
namespace Go.Proofs.Ytpkadepohgeloaa
open Go.RowKit
set_option linter.unusedVariables false
set_option maxRecDepth 100000

theorem btake_at {g : Nat} {B B' : Bkt} {now : Int} {b : Bool} {w : World} (hB : Blk w g 41 B.cells) (hO : B.Ok) (h1 : now ≤ 1099511627776) (e1 : B.can now = b) (e2 : B.took now = B') : Calls Try.prog 9 #[.pointer (some ⟨g, 0, none⟩), .int .i64 now] w fun e w' => e = .returned (.bool b) ∧ Blk w' g 41 B'.cells ∧ Keep (· = g) w w' := by
  rw [← e1, ← e2]
  exact btake_any g B hO now h1 w hB
theorem full_yes {b r : Int} (h0 : 1 ≤ b) (h1 : b ≤ 1048576) (h2 : 1 ≤ r) (h3 : r ≤ 1099511627776) : newB b r = true := newB_iff.2 ⟨⟨h0, h1⟩, h2, h3⟩
/-- what a call of Take keeps, beside a block of the call's own -/
theorem kept_own {w w1 w2 : World} {g : Nat} (k : Kept w w1) (hg : w.heap.size ≤ g) (h : Keep (· = g) w1 w2) : Kept w w2 := k.trans' h (by omega)
def moms : List Int := [0, 0, 0, 9, 10, 10, 35, 35, 35]
def momAt (k : Nat) : Int := moms.getD k 0
def seqB : Nat → Bkt
  | 0 => Bkt.full 2 10
  | k + 1 => (seqB k).took (momAt k)
def seqC (k : Nat) : Bool := (seqB k).can (momAt k)
def seqL (k : Nat) : List Bool := (List.range k).map seqC
def gotL : List Bool := [true, true, false, false, true, false, true, true, false]
theorem mom_le (k : Nat) : momAt k ≤ 1099511627776 := by
  unfold momAt
  rw [List.getD_eq_getElem?_getD]
  cases h : moms[k]? with
  | none => simp
  | some x =>
    have := List.mem_of_getElem? h
    simp only [moms, List.mem_cons, List.not_mem_nil, or_false] at this
    show x ≤ _
    omega
theorem mom_at (k : Nat) (h : k < 9) : (i64s moms)[0 + k * 1]? = some (.int .i64 (momAt k)) := by
  rw [Nat.zero_add, Nat.mul_one]
  have : moms[k]? = some (momAt k) := by
    unfold momAt
    rw [List.getD_eq_getElem?_getD, List.getElem?_eq_getElem (show k < moms.length from h)]
    rfl
  simp [i64s, this]
theorem seq_ok : ∀ k, (seqB k).Ok
  | 0 => full_ok (full_yes (by omega) (by omega) (by omega) (by omega))
  | k + 1 => (seq_ok k).take (mom_le k)
theorem seq_all : seqL 9 = gotL := by decide +kernel
theorem seq_succ (k : Nat) : seqL (k + 1) = seqL k ++ [seqC k] := by unfold seqL; rw [List.range_succ, List.map_append]; rfl
set_option maxRecDepth 100000 in
set_option maxHeartbeats 1600000 in
theorem bucketRuns_is (w : World) : Gives 3 #[] w (.eq (.bool true)) := by
  refine gives_eq ?_
  go_enter Try.func3, Try.ntmps3
  go_upto_region 1 with fail
  refine wp_region_lit ?_
  refine l_call (o := ⟨some 7, _, _, _, _, _⟩) 8 #[.int .i64 2, .int .i64 10] rfl (exec_call 8 _ [.const (.int .i64 2), .const (.int .i64 10)] _ _ Try.func8 (by kernel_rfl) (by kernel_rfl) rfl (by kernel_rfl) _) ?_
  refine (bnew_yes 2 10 (full_yes (by omega) (by omega) (by omega) (by omega)) w).mono ?_
  rintro e w1 ⟨g, rfl, hg, hB, kw1⟩
  refine ⟨_, rfl, ?_⟩
  simp only [Act.put, List.setIfInBounds_toArray, List.set_cons_succ, List.set_cons_zero]
  refine l_val (o := ⟨some 6, _, _, _, _, _⟩) (.tuple #[.pointer (some ⟨g, 0, none⟩), .int .i64 0]) rfl (exec_move (.tmp 7) (.tuple #[.pointer (some ⟨g, 0, none⟩), .int .i64 0]) rfl (by kernel_rfl)) ?_
  simp only [Act.put, List.setIfInBounds_toArray, List.set_cons_succ, List.set_cons_zero]
  refine l_val (o := ⟨some 8, _, _, _, _, _⟩) (.pointer (some ⟨g, 0, none⟩)) rfl (exec_extract (.tmp 6) [.pointer (some ⟨g, 0, none⟩), .int .i64 0] 0 (.pointer (some ⟨g, 0, none⟩)) rfl (by kernel_rfl) rfl) ?_
  simp only [Act.put, List.setIfInBounds_toArray, List.set_cons_succ, List.set_cons_zero]
  refine l_val (o := ⟨some 9, _, _, _, _, _⟩) (.int .i64 0) rfl (exec_extract (.tmp 6) [.pointer (some ⟨g, 0, none⟩), .int .i64 0] 1 (.int .i64 0) rfl (by kernel_rfl) rfl) ?_
  simp only [Act.put, List.setIfInBounds_toArray, List.set_cons_succ, List.set_cons_zero]
  refine l_val (o := ⟨some 1, _, _, _, _, _⟩) (.pointer (some ⟨g, 0, none⟩)) rfl (exec_assign (.tmp 8) (.pointer (some ⟨g, 0, none⟩)) rfl (by kernel_rfl)) ?_
  simp only [Act.put, List.setIfInBounds_toArray, List.set_cons_succ, List.set_cons_zero]
  refine l_val (o := ⟨some 2, _, _, _, _, _⟩) (.int .i64 0) rfl (exec_assign (.tmp 9) (.int .i64 0) rfl (by kernel_rfl)) ?_
  simp only [Act.put, List.setIfInBounds_toArray, List.set_cons_succ, List.set_cons_zero]
  refine wpList_nil ?_
  have HB := Lib.hid hB
  clear hB
  go_upto_region 2 with fail
  refine wp_text 6 [.eq (.pointer (some ⟨g, 0, none⟩)), .eq (.bool false), .eq (.bool false), .eq (.int .i64 0), .eq (.bool false), .eq (.bool false)] rfl (by kernel_rfl) ?_ ?_
  · refine sv 1 rfl rfl rfl (fun a u hE hD hk => exec_move (.tmp 1) _ rfl (hE 1 (.pointer (some ⟨g, 0, none⟩)) (by kernel_rfl) (by kernel_rfl))) ?_
    refine sv 2 rfl rfl rfl (fun a u hE hD hk => exec_eqP (.tmp 10) _ _ ⟨g, 0, none⟩ (by kernel_rfl) rfl (hD 0 10 (by kernel_rfl))) ?_
    refine sv 3 rfl rfl rfl (fun a u hE hD hk => exec_move (.tmp 11) _ rfl (hD 1 11 (by kernel_rfl))) ?_
    refine fsteps_cons 4 rfl (fun a u hE hD hk => f_val (o := ⟨some 13, _, _, _, _, _⟩) (.int .i64 0) rfl (wanted_at (b := false) false rfl rfl (hD 2 12 (by kernel_rfl))) (exec_move (.tmp 2) _ rfl (hE 2 (.int .i64 0) (by kernel_rfl) (by kernel_rfl))) rfl) ?_
    refine fsteps_cons 5 rfl (fun a u hE hD hk => f_as (show ((decide ((0 : Int) ≠ (0 : Int))) : Bool) = false from decide_eq_false (by omega)) (f_val (o := ⟨some 14, _, _, _, _, _⟩) (.bool (decide ((0 : Int) ≠ (0 : Int)))) rfl (wanted_at (b := false) false rfl rfl (hD 2 12 (by kernel_rfl))) (exec_nen (p := 0) (q := 0) rfl (hD 3 13 (by kernel_rfl)) rfl) rfl)) ?_
    refine sv 6 rfl rfl rfl (fun a u hE hD hk => exec_pickF (.tmp 12) (.const (.bool true)) (.tmp 14) (.bool false) rfl (hD 2 12 (by kernel_rfl)) (hD 4 14 (by kernel_rfl))) ?_
    exact fsteps_nil
  intro gv w2 hV kw2
  rw [show dstsOf _ 6 = [10, 11, 12, 13, 14, 15] by kernel_rfl]
  simp only [List.foldl_cons, List.foldl_nil, List.setIfInBounds_toArray, List.set_cons_succ, List.set_cons_zero, List.drop_succ_cons, List.drop_zero]
  rw [show gv 15 = .bool false from hV 5 15 (by kernel_rfl)]
  clear hV
  refine wpList_nil ?_
  have HB2 : Hid (Blk w2 g 41 (seqB 0).cells) := HB.out.kept kw2
  have kz2 := kw1.trans kw2
  clear HB kw1 kw2
  go_upto_region 5 with fail
  refine wp_region_lit ?_
  refine l_new (o := ⟨some 16, _, _, _, _, _⟩) (.slice (some ⟨w2.heap.size, 0, none⟩) 9 9) (w2.alloc (.cells (i64s moms).toArray 3)) rfl (exec_ints 9 _ moms rfl rfl (by omega) (by omega) rfl) ?_
  have hN := Blk.new w2 3 (i64s moms)
  have kn : Kept w2 (w2.alloc (.cells (i64s moms).toArray 3)) := (Keep.refl _ w2).alloc _
  generalize w2.alloc (.cells (i64s moms).toArray 3) = w3 at hN kn ⊢
  simp only [Act.put, List.setIfInBounds_toArray, List.set_cons_succ, List.set_cons_zero]
  refine l_val (o := ⟨some 17, _, _, _, _, _⟩) (.int .i64 (9 : Int)) rfl (exec_len (.tmp 16) _ _ slI.und (some ⟨w2.heap.size, 0, none⟩) 9 9 rfl (by kernel_rfl)) ?_
  simp only [Act.put, List.setIfInBounds_toArray, List.set_cons_succ, List.set_cons_zero]
  refine l_val (o := ⟨some 18, _, _, _, _, _⟩) (.int .i64 0) rfl (exec_move (.const (.int .i64 0)) (.int .i64 0) rfl (by kernel_rfl)) ?_
  simp only [Act.put, List.setIfInBounds_toArray, List.set_cons_succ, List.set_cons_zero]
  refine wpList_nil ?_
  obtain ⟨q, hq⟩ : ∃ x, w2.heap.size = x := ⟨_, rfl⟩
  have zg := HB2.out.lt
  have zw := kz2.size
  rw [hq] at hN zg zw ⊢
  have HB3 := Lib.hid (HB2.out.kept kn)
  have HM3 := Lib.hid hN
  have kw3 := kz2.trans kn
  have zq := hN.lt
  obtain ⟨bs, hbs⟩ : ∃ x, w3.heap.size = x := ⟨_, rfl⟩
  have zb := kw3.size
  rw [hbs] at zq zb
  have HO3 : Hid (OwnB w3 bs none 0 0 (seqL 0)) := OwnB.nil _ _
  have hz3 : bs ≤ w3.heap.size := by omega
  clear HB2 hN kz2 kn hq hbs
  go_wp2_with fail
  go_loopw [18, 3] (fun t s wr => ∃ (k : Nat) (A : Option Addr) (c : Nat), t = .int .i64 (k : Int) ∧ s = .slice A k c ∧ k ≤ 9 ∧ bs ≤ wr.heap.size ∧ Hid (Blk wr g 41 (seqB k).cells) ∧ Hid (OwnB wr bs A k c (seqL k)) ∧ Hid (Blk wr q 3 (i64s moms)) ∧ Kept w wr) (fun t _ _ => 9 - (intOf t).toNat)
  case atStart => exact ⟨0, none, 0, rfl, rfl, by omega, hz3, HB3, HO3, HM3, kw3⟩
  case round =>
    obtain ⟨k, A, c, rfl, rfl, hk9, hzr, HBr, HOr, HMr, kwr⟩ := hrel
    clear HB3 HO3 HM3 kw3 hz3
    by_cases hlt : k < 9
    · obtain ⟨m, hm⟩ : ∃ m, momAt k = m := ⟨_, rfl⟩
      obtain ⟨b, hb_⟩ : ∃ b, seqC k = b := ⟨_, rfl⟩
      obtain ⟨S, hS⟩ : ∃ S, seqB k = S := ⟨_, rfl⟩
      obtain ⟨S1, hS1⟩ : ∃ S, seqB (k + 1) = S := ⟨_, rfl⟩
      obtain ⟨L, hL⟩ : ∃ L, seqL k = L := ⟨_, rfl⟩
      have hso := seq_ok k
      have hml := mom_le k
      have hma := mom_at k hlt
      have hc : (seqB k).can (momAt k) = seqC k := rfl
      have ht : (seqB k).took (momAt k) = seqB (k + 1) := rfl
      have hl := seq_succ k
      rw [hm, hS, hb_] at hc
      rw [hm, hS, hS1] at ht
      rw [hL, hb_] at hl
      rw [hS] at HBr hso
      rw [hL] at HOr
      rw [hm] at hml hma
      have HX := Lib.hid hma
      have HC := Lib.hid hc
      have HT := Lib.hid ht
      have HL := Lib.hid hl
      have HS1 := Lib.hid hS1
      have HS := Lib.hid hso
      clear hm hb_ hS hS1 hL hma hc ht hl hso
      go_upto_region 6 with fail
      refine wp_text 1 [.eq (.bool true)] rfl (by kernel_rfl) ?_ ?_
      · refine fsteps_cons 1 rfl (fun a u hE hD hk => f_as (show ((decide (((k : Int) : Int) < (9 : Int))) : Bool) = true from decide_eq_true (by omega)) (f_val (o := ⟨some 19, _, _, _, _, _⟩) (.bool (decide (((k : Int) : Int) < (9 : Int)))) rfl (wanted_none rfl _) (exec_ltn (p := (k : Int)) (q := 9) rfl (hE 18 (.int .i64 (k : Int)) (by kernel_rfl) (by kernel_rfl)) (hE 17 (.int .i64 9) (by kernel_rfl) (by kernel_rfl))) rfl)) ?_
        exact fsteps_nil
      intro gv w4 hV k4
      rw [show dstsOf _ 1 = [19] by kernel_rfl]
      simp only [List.foldl_cons, List.foldl_nil, List.setIfInBounds_toArray, List.set_cons_succ, List.set_cons_zero, List.drop_succ_cons, List.drop_zero]
      rw [show gv 19 = .bool true from hV 0 19 (by kernel_rfl)]
      clear hV
      refine wpList_nil ?_
      have HM4 := Lib.hid (HMr.out.kept k4)
      go_upto_region 7 with fail
      refine wp_text 3 [.eq (.pointer (some ⟨q, 0 + k * 1, none⟩)), .eq (.int .i64 m), .eq (.int .i64 m)] rfl (by kernel_rfl) ?_ ?_
      · refine sv 1 rfl rfl rfl (fun a u hE hD hk => exec_ixo slI (.tmp 16) (.tmp 18) (q) (0) 9 9 k (0 + k * 1) ((k : Int)) rfl (hE 16 (.slice (some ⟨q, 0, none⟩) 9 9) (by kernel_rfl) (by kernel_rfl)) (hE 18 (.int .i64 (k : Int)) (by kernel_rfl) (by kernel_rfl)) (by first | rfl | omega) (hlt) (by first | rfl | omega)) ?_
        refine sv 2 rfl rfl rfl (fun a u hE hD hk => exec_loadi 3 Try.underlying3 (.tmp 20) ⟨q, 0 + k * 1, none⟩ (.int .i64 m) rfl (hD 0 20 (by kernel_rfl)) (Kept.cell hk (((HM4.out.cell _).trans HX.out)))) ?_
        refine sv 3 rfl rfl rfl (fun a u hE hD hk => exec_assign (.tmp 21) _ rfl (hD 1 21 (by kernel_rfl))) ?_
        exact fsteps_nil
      intro gv w5 hV k5
      rw [show dstsOf _ 3 = [20, 21, 5] by kernel_rfl]
      simp only [List.foldl_cons, List.foldl_nil, List.setIfInBounds_toArray, List.set_cons_succ, List.set_cons_zero, List.drop_succ_cons, List.drop_zero]
      rw [show gv 5 = .int .i64 m from hV 2 5 (by kernel_rfl)]
      clear hV
      refine wpList_nil ?_
      have k45 := k4.trans k5
      have HB5 := Lib.hid (HBr.out.kept k45)
      have HO5 := Lib.hid (HOr.out.kept k45)
      have HM5 := Lib.hid (HMr.out.kept k45)
      have kw5 := kwr.trans k45
      have z5 : bs ≤ w5.heap.size := by have := k45.size; omega
      clear HBr HOr HMr kwr k4 k5 k45 HM4
      go_upto_region 8 with fail
      refine wp_text 3 [.eq (.slice A k c), .eq (.pointer (some ⟨g, 0, none⟩)), .eq (.int .i64 m)] rfl (by kernel_rfl) ?_ ?_
      · refine sv 1 rfl rfl rfl (fun a u hE hD hk => exec_move (.tmp 3) _ rfl (hE 3 (.slice A k c) (by kernel_rfl) (by kernel_rfl))) ?_
        refine sv 2 rfl rfl rfl (fun a u hE hD hk => exec_move (.tmp 1) _ rfl (hE 1 (.pointer (some ⟨g, 0, none⟩)) (by kernel_rfl) (by kernel_rfl))) ?_
        refine sv 3 rfl rfl rfl (fun a u hE hD hk => exec_move (.tmp 5) _ rfl (hE 5 (.int .i64 m) (by kernel_rfl) (by kernel_rfl))) ?_
        exact fsteps_nil
      intro gv w6 hV k6
      rw [show dstsOf _ 3 = [22, 23, 24] by kernel_rfl]
      simp only [List.foldl_cons, List.foldl_nil, List.setIfInBounds_toArray, List.set_cons_succ, List.set_cons_zero, List.drop_succ_cons, List.drop_zero]
      rw [show gv 23 = .pointer (some ⟨g, 0, none⟩) from hV 1 23 (by kernel_rfl)]
      rw [show gv 24 = .int .i64 m from hV 2 24 (by kernel_rfl)]
      rw [show gv 22 = .slice A k c from hV 0 22 (by kernel_rfl)]
      clear hV
      refine l_call (o := ⟨some 25, _, _, _, _, _⟩) 9 #[.pointer (some ⟨g, 0, none⟩), .int .i64 m] rfl (exec_call 9 _ [.tmp 23, .tmp 24] _ _ Try.func9 (by kernel_rfl) (by kernel_rfl) rfl (by kernel_rfl) _) ?_
      refine (btake_at (HB5.out.kept k6) HS.out hml HC.out HT.out).mono ?_
      rintro e w7 ⟨rfl, hB7, k7⟩
      refine ⟨_, rfl, ?_⟩
      simp only [Act.put, List.setIfInBounds_toArray, List.set_cons_succ, List.set_cons_zero]
      refine l_new (o := ⟨some 26, _, _, _, _, _⟩) (.slice (some ⟨w7.heap.size, 0, none⟩) 1 1) (w7.alloc (.cells (bls [b]).toArray 4)) rfl (exec_bools 1 [(0, .tmp 25)] [b] rfl rfl (by omega) (by omega) (by kernel_rfl)) ?_
      have hN := Blk.new w7 4 (bls [b])
      have kn : Kept w7 (w7.alloc (.cells (bls [b]).toArray 4)) := (Keep.refl _ w7).alloc _
      generalize w7.alloc (.cells (bls [b]).toArray 4) = w8 at hN kn ⊢
      have z6 := k6.size
      have z7 := k7.size
      have z8 := kn.size
      have HO8 : OwnB w8 bs A k c L := ((HO5.out.kept k6).keep k7 (fun ad h => by obtain ⟨j, rfl, h1, h2⟩ := (HO5.out.kept k6).at_ ad h; simp; omega)).kept kn
      simp only [Act.put, List.setIfInBounds_toArray, List.set_cons_succ, List.set_cons_zero]
      refine wpl_append_b w8 rfl (.tmp 22) (.tmp 26) rfl bs k c A L (by kernel_rfl) HO8 (by omega) w7.heap.size b (by kernel_rfl) hN (by omega) ?_
      intro w9 A9 c9 hO9 k9
      simp only [Act.put, List.setIfInBounds_toArray, List.set_cons_succ, List.set_cons_zero]
      refine l_val (o := ⟨some 3, _, _, _, _, _⟩) (.slice A9 (k + 1) c9) rfl (exec_assign (.tmp 27) (.slice A9 (k + 1) c9) rfl (by kernel_rfl)) ?_
      simp only [Act.put, List.setIfInBounds_toArray, List.set_cons_succ, List.set_cons_zero]
      refine wpList_nil ?_
      have hbk : ∀ i, i < bs → ¬ (∃ ad, A = some ad ∧ ad.block = i) := by
        rintro i hi ⟨ad, h1, h2⟩
        obtain ⟨j, rfl, h3, h4⟩ := HO8.at_ ad h1
        simp at h2
        omega
      have k5a : Kept w w8 := ((kw5.trans k6).trans' k7 (by omega)).trans kn
      have kw9 : Kept w w9 := Keep.trans k5a k9 (fun i hi h => hbk i (by omega) h)
      have HB9 := Lib.hid ((hB7.kept kn).keep k9 (hbk g (by omega)))
      have HM9 := Lib.hid ((((HM5.out.kept k6).keep k7 (by omega)).kept kn).keep k9 (hbk q (by omega)))
      have HO9 := Lib.hid hO9
      have z9 : bs ≤ w9.heap.size := by have := k9.size; omega
      rw [← HS1.out] at HB9
      rw [← HL.out] at HO9
      clear hbk k5a k9 hO9 HO8 hN kn hB7 k7 k6 HB5 HO5 HM5 HX HC HT HL HS1 HS kw5
      go_wp2
      exact ⟨⟨k + 1, A9, c9, by simp, rfl, by omega, z9, HB9, HO9, HM9, kw9⟩, by simp [intOf]; omega⟩
    · obtain rfl : k = 9 := by omega
      go_upto_region 6 with fail
      refine wp_text 1 [.eq (.bool false)] rfl (by kernel_rfl) ?_ ?_
      · refine fsteps_cons 1 rfl (fun a u hE hD hk => f_as (show ((decide ((9 : Int) < (9 : Int))) : Bool) = false from decide_eq_false (by omega)) (f_val (o := ⟨some 19, _, _, _, _, _⟩) (.bool (decide ((9 : Int) < (9 : Int)))) rfl (wanted_none rfl _) (exec_ltn (p := 9) (q := 9) rfl (hE 18 (.int .i64 9) (by kernel_rfl) (by kernel_rfl)) (hE 17 (.int .i64 9) (by kernel_rfl) (by kernel_rfl))) rfl)) ?_
        exact fsteps_nil
      intro gv w4 hV k4
      rw [show dstsOf _ 1 = [19] by kernel_rfl]
      simp only [List.foldl_cons, List.foldl_nil, List.setIfInBounds_toArray, List.set_cons_succ, List.set_cons_zero, List.drop_succ_cons, List.drop_zero]
      rw [show gv 19 = .bool false from hV 0 19 (by kernel_rfl)]
      clear hV
      refine wpList_nil ?_
      rw [seq_all] at HOr
      have HO4 := Lib.hid (HOr.out.kept k4)
      have kw4 := kwr.trans k4
      clear HBr HMr HOr kwr k4
      obtain ⟨G, hG⟩ : ∃ G, gotL = G := ⟨_, rfl⟩
      have hG9 : Hid (G.length = 9) := by show _ = _; rw [← hG]; rfl
      go_upto_region 10 with fail
      refine wp_region_lit ?_
      refine l_val (o := ⟨some 29, _, _, _, _, _⟩) (.slice A 9 c) rfl (exec_move (.tmp 3) (.slice A 9 c) rfl (by kernel_rfl)) ?_
      simp only [Act.put, List.setIfInBounds_toArray, List.set_cons_succ, List.set_cons_zero]
      refine l_new (o := ⟨some 30, _, _, _, _, _⟩) (.slice (some ⟨w4.heap.size, 0, none⟩) 9 9) (w4.alloc (.cells (bls gotL).toArray 4)) rfl (exec_bools 9 _ gotL rfl rfl (by omega) (by omega) rfl) ?_
      have hN := Blk.new w4 4 (bls gotL)
      have kn : Kept w4 (w4.alloc (.cells (bls gotL).toArray 4)) := (Keep.refl _ w4).alloc _
      generalize w4.alloc (.cells (bls gotL).toArray 4) = w5 at hN kn ⊢
      have HO5 := HO4.out.kept kn
      rw [hG] at hN HO5
      simp only [Act.put, List.setIfInBounds_toArray, List.set_cons_succ, List.set_cons_zero]
      refine l_call (o := ⟨some 31, _, _, _, _, _⟩) 10 #[.slice A 9 c, .slice (some ⟨w4.heap.size, 0, none⟩) 9 9] rfl (exec_call 10 _ [.tmp 29, .tmp 30] _ _ Try.func10 (by kernel_rfl) (by kernel_rfl) rfl (by kernel_rfl) _) ?_
      refine (sameb_eq A (some ⟨w4.heap.size, 0, none⟩) 9 c 9 G w5 HO5.rbl (rbl_blk hN) (by unfold maxLen; omega) hG9).mono ?_
      rintro e w6 ⟨rfl, k6⟩
      refine ⟨_, rfl, ?_⟩
      simp only [Act.put, List.setIfInBounds_toArray, List.set_cons_succ, List.set_cons_zero]
      refine l_val (o := ⟨some 0, _, _, _, _, _⟩) (.bool true) rfl (exec_assign (.tmp 31) (.bool true) rfl (by kernel_rfl)) ?_
      simp only [Act.put, List.setIfInBounds_toArray, List.set_cons_zero]
      refine wpList_nil ?_
      have kw6 := (kw4.trans kn).trans k6
      go_wp2
      go_ret
      exact ⟨rfl, kw6⟩
theorem bucketRuns_any (w : World) : Calls Try.prog 3 #[] w fun e w' => e = .returned (.bool true) ∧ Kept w w' := by
  refine (bucketRuns_is w).mono ?_
  rintro e w' ⟨v, rfl, hv, hk⟩
  obtain rfl : v = .bool true := hv
  exact ⟨rfl, hk⟩
end Go.Proofs.Ytpkadepohgeloaa
