/-
  AcctBoth: of trades between two, both positions together stay; others don't move; bought and sold again is nothing; it answers true. Condition: the numbers as the arguments hold them.
-/
import Derived.Test.YtlkkmpleafpliaaRuns15
import Derived.Test.YtlkkmpleafpliaaInts
import Derived.Test.YtlkkmpleafpliaaSlI
namespace Go.Proofs.Ytlkkmpleafpliaa
open Go.RowKit
set_option linter.unusedVariables false
set_option maxRecDepth 100000

def bothB (a b j : Nat) (s t : Int) : Bal := ⟨fun _ _ => 0, fun n i => if i = j then (if n = a then s else if n = b then t else 0) else 0⟩
theorem both_pa (a b j : Nat) (s t : Int) : (bothB a b j s t).p a j = s := by
  show (if j = j then (if a = a then s else if a = b then t else 0) else 0) = s
  rw [if_pos rfl, if_pos rfl]
theorem both_pb {a b : Nat} (h : a ≠ b) (j : Nat) (s t : Int) : (bothB a b j s t).p b j = t := by
  show (if j = j then (if b = a then s else if b = b then t else 0) else 0) = t
  rw [if_pos rfl, if_neg (Ne.symm h), if_pos rfl]
theorem both_pn (a b j : Nat) {i : Nat} (h : i ≠ j) (n : Nat) (s t : Int) : (bothB a b j s t).p n i = 0 := if_neg h
theorem both_ok (a b j : Nat) {s t : Int} (h1 : -1099511627776 ≤ s) (h2 : s ≤ 1099511627776) (h3 : -1099511627776 ≤ t) (h4 : t ≤ 1099511627776) : (bothB a b j s t).Ok := by
  refine ⟨fun _ _ => by show (0 : Int) ≤ 0 ∧ (0 : Int) ≤ 1099511627776; omega, fun n i => ?_⟩
  show _ ≤ (if i = j then (if n = a then s else if n = b then t else 0) else 0) ∧ (if i = j then (if n = a then s else if n = b then t else 0) else 0) ≤ _
  split
  · split
    · exact ⟨h1, h2⟩
    · split
      · exact ⟨h3, h4⟩
      · omega
  · omega
theorem both_zero (a b j : Nat) : bothB a b j 0 0 = zeroB := by
  refine congrArg (Bal.mk _) (funext fun n => funext fun i => ?_)
  show (if i = j then (if n = a then (0 : Int) else if n = b then 0 else 0) else 0) = 0
  split
  · split
    · rfl
    · split <;> rfl
  · rfl
theorem both_a {a b j : Nat} {s t sd q : Int} (ha : a < 32) (hj : j < 8) (hd : sd = 1 ∨ sd = 2) (h0 : 1 ≤ q) (h1 : q ≤ 1048576) (h2 : -1000000000 ≤ s) (h3 : s ≤ 1000000000) : trB (bothB a b j s t) (a : Int) (j : Int) sd q = true ∧ trM (bothB a b j s t) (a : Int) (j : Int) sd q = bothB a b j (s + sgn sd q) t := by
  have hs : sdB sd = true := by
    unfold sdB
    rw [Bool.or_eq_true, decide_eq_true_eq, decide_eq_true_eq]
    exact hd
  have hg : -1048576 ≤ sgn sd q ∧ sgn sd q ≤ 1048576 := by unfold sgn; split <;> omega
  obtain ⟨e1, e2⟩ := tr_in (B := bothB a b j s t) ha hj (q := q) h0 h1 hs (by rw [both_pa]; omega) (by rw [both_pa]; omega)
  refine ⟨e1, ?_⟩
  rw [e2, both_pa]
  refine congrArg (Bal.mk _) (funext fun n => funext fun i => ?_)
  show (if n = a ∧ i = j then s + sgn sd q else if i = j then (if n = a then s else if n = b then t else 0) else 0) = (if i = j then (if n = a then s + sgn sd q else if n = b then t else 0) else 0)
  by_cases h5 : i = j
  · rw [if_pos h5, if_pos h5]
    by_cases h6 : n = a
    · rw [if_pos ⟨h6, h5⟩, if_pos h6]
    · rw [if_neg (fun c => h6 c.1), if_neg h6, if_neg h6]
  · rw [if_neg (fun c => h5 c.2), if_neg h5, if_neg h5]
theorem both_b {a b j : Nat} {s t q : Int} (hab : a ≠ b) (hb : b < 32) (hj : j < 8) (h0 : 1 ≤ q) (h1 : q ≤ 1048576) (h2 : -1000000000 ≤ t) (h3 : t ≤ 1000000000) : trB (bothB a b j s t) (b : Int) (j : Int) 2 q = true ∧ trM (bothB a b j s t) (b : Int) (j : Int) 2 q = bothB a b j s (t - q) := by
  have hg : sgn 2 q = -q := rfl
  obtain ⟨e1, e2⟩ := tr_in (B := bothB a b j s t) hb hj (s := 2) (q := q) h0 h1 rfl (by rw [both_pb hab, hg]; omega) (by rw [both_pb hab, hg]; omega)
  refine ⟨e1, ?_⟩
  rw [e2, both_pb hab, hg, ← Int.sub_eq_add_neg]
  refine congrArg (Bal.mk _) (funext fun n => funext fun i => ?_)
  show (if n = b ∧ i = j then t - q else if i = j then (if n = a then s else if n = b then t else 0) else 0) = (if i = j then (if n = a then s else if n = b then t - q else 0) else 0)
  by_cases h5 : i = j
  · rw [if_pos h5, if_pos h5]
    by_cases h6 : n = b
    · rw [if_pos ⟨h6, h5⟩, if_neg (fun c => hab (c.symm.trans h6)), if_pos h6]
    · rw [if_neg (fun c => h6 c.1), if_neg h6, if_neg h6]
  · rw [if_neg (fun c => h5 c.2), if_neg h5, if_neg h5]
def qOf (l : List Int) (k : Nat) : Int := wi (l.getD k 0) 1 1048576
theorem qOf_in (l : List Int) (k : Nat) : 1 ≤ qOf l k ∧ qOf l k ≤ 1048576 := wi_in _ 1 1048576 (by omega)
theorem qSum_in (l : List Int) (k : Nat) (hk : k ≤ 40) : 0 ≤ sumTo (qOf l) k ∧ sumTo (qOf l) k ≤ 41943040 := by
  have := sumTo_in (f := qOf l) (lo := 0) (hi := 1048576) (fun j => by have := qOf_in l j; omega) k
  omega
set_option maxRecDepth 100000 in
set_option maxHeartbeats 3200000 in
theorem acctBoth_any (n0 m0 i0 : Int) (v : Value) (l : List Int) (w : World) (hl : IntsA w v l) : Calls Try.prog 5 #[.int .i64 n0, .int .i64 m0, .int .i64 i0, v] w fun e w' => e = .returned (.bool true) ∧ Kept w w' := by
  obtain ⟨A, n, c, rfl, HN, hRI, hIn, hnc, hcm, hA⟩ := hl
  have HRI := Lib.hid hRI
  have hn63 : n ≤ 9223372036854775807 := by unfold maxLen at hcm; omega
  clear hRI hIn hcm hA
  have hwa := wi_in n0 0 31 (by omega)
  have hwj := wi_in i0 0 7 (by omega)
  have hwm := wi_in m0 1 31 (by omega)
  obtain ⟨a_, ha_⟩ : ∃ a : Nat, wi n0 0 31 = (a : Int) := ⟨(wi n0 0 31).toNat, by omega⟩
  obtain ⟨j, hj_⟩ : ∃ j : Nat, wi i0 0 7 = (j : Int) := ⟨(wi i0 0 7).toNat, by omega⟩
  obtain ⟨z, hz_⟩ : ∃ z : Int, wi m0 1 31 = z := ⟨_, rfl⟩
  have HWA := Lib.hid ha_
  have HWJ := Lib.hid hj_
  have HWZ := Lib.hid hz_
  rw [ha_] at hwa
  rw [hj_] at hwj
  rw [hz_] at hwm
  have ha32 : a_ < 32 := by omega
  have hj8 : j < 8 := by omega
  clear ha_ hj_ hz_ hwa hwj
  obtain ⟨b_, hb_⟩ : ∃ b : Nat, ((a_ : Int) + z).tmod 32 = (b : Int) := ⟨(((a_ : Int) + z).tmod 32).toNat, by rw [Int.tmod_eq_emod_of_nonneg (by omega)]; omega⟩
  have hbe : (b_ : Int) = ((a_ : Int) + z) % 32 := by rw [← hb_, Int.tmod_eq_emod_of_nonneg (by omega)]
  have hb32 : b_ < 32 := by omega
  have hab : a_ ≠ b_ := by omega
  have HBM := Lib.hid hb_
  clear hb_ hbe
  obtain ⟨jn, hjn⟩ : ∃ jn : Nat, ((j : Int) + 1).tmod 8 = (jn : Int) := ⟨(((j : Int) + 1).tmod 8).toNat, by rw [Int.tmod_eq_emod_of_nonneg (by omega)]; omega⟩
  have hje : (jn : Int) = ((j : Int) + 1) % 8 := by rw [← hjn, Int.tmod_eq_emod_of_nonneg (by omega)]
  have hjn8 : jn < 8 := by omega
  have hjj : jn ≠ j := by omega
  have HJN := Lib.hid hjn
  clear hjn hje
  go_enter Try.func5, Try.ntmps5
  go_upto_region 1 with fail
  refine wp_region_lit ?_
  refine l_call (o := ⟨some 17, _, _, _, _, _⟩) 8 #[] rfl (exec_call 8 _ [] _ _ Try.func8 (by kernel_rfl) (by kernel_rfl) rfl (by kernel_rfl) _) ?_
  refine (new_any w.heap.size w (Nat.le_refl _)).mono ?_
  rintro e w1 ⟨v1, rfl, ⟨g, rfl, hg, hB⟩, k1⟩
  refine ⟨_, rfl, ?_⟩
  simp only [Act.put, List.setIfInBounds_toArray, List.set_cons_succ, List.set_cons_zero]
  refine l_val (o := ⟨some 9, _, _, _, _, _⟩) (.pointer (some ⟨g, 0, none⟩)) rfl (exec_assign (.tmp 17) (.pointer (some ⟨g, 0, none⟩)) rfl (by kernel_rfl)) ?_
  simp only [Act.put, List.setIfInBounds_toArray, List.set_cons_succ, List.set_cons_zero]
  refine wpList_nil ?_
  have HB := Lib.hid hB
  clear hB
  go_upto_region 2 with fail
  refine wp_text 2 [.eq (.pointer (some ⟨g, 0, none⟩)), .eq (.bool false)] rfl (by kernel_rfl) ?_ ?_
  · refine sv 1 rfl rfl rfl (fun a u hE hD hk => exec_move (.tmp 9) _ rfl (hE 9 (.pointer (some ⟨g, 0, none⟩)) (by kernel_rfl) (by kernel_rfl))) ?_
    refine sv 2 rfl rfl rfl (fun a u hE hD hk => exec_eqP (.tmp 18) _ _ ⟨g, 0, none⟩ (by kernel_rfl) rfl (hD 0 18 (by kernel_rfl))) ?_
    exact fsteps_nil
  intro gv w2 hV k2
  rw [show dstsOf _ 2 = [18, 19] by kernel_rfl]
  simp only [List.foldl_cons, List.foldl_nil, List.setIfInBounds_toArray, List.set_cons_succ, List.set_cons_zero, List.drop_succ_cons, List.drop_zero]
  rw [show gv 19 = .bool false from hV 1 19 (by kernel_rfl)]
  clear hV
  refine wpList_nil ?_
  have HB2 := Lib.hid (HB.out.kept k2)
  have kw2 := k1.trans k2
  clear HB k1 k2
  go_upto_region 4 with fail
  refine wp_text 4 [.eq (.int .i64 n0), .eq (.int .i64 (a_ : Int)), .eq (.int .i64 i0), .eq (.int .i64 (j : Int))] rfl (by kernel_rfl) ?_ ?_
  · refine sv 1 rfl rfl rfl (fun a u hE hD hk => exec_move (.tmp 0) _ rfl (hE 0 (.int .i64 n0) (by kernel_rfl) (by kernel_rfl))) ?_
    refine fsteps_cons 2 rfl (fun a u hE hD hk => f_call (o := ⟨some 21, _, _, _, _, _⟩) 18 #[.int .i64 n0, .int .i64 0, .int .i64 31] rfl (wanted_none rfl _) (exec_call 18 _ [.tmp 20, .const (.int .i64 0), .const (.int .i64 31)] _ [.int .i64 n0, .int .i64 0, .int .i64 31] Try.func18 (by kernel_rfl) (by kernel_rfl) rfl (show [a.eval (.tmp 20), a.eval (.const (.int .i64 0)), a.eval (.const (.int .i64 31))] = [.int .i64 n0, .int .i64 0, .int .i64 31] from (by rw [show a.eval (.tmp 20) = .int .i64 n0 from (hD 0 20 (by kernel_rfl))] <;> rfl)) u) (by rw [← HWA.out]; exact within_is n0 0 31 u (by omega) (by omega) (by omega))) ?_
    refine sv 3 rfl rfl rfl (fun a u hE hD hk => exec_move (.tmp 2) _ rfl (hE 2 (.int .i64 i0) (by kernel_rfl) (by kernel_rfl))) ?_
    refine fsteps_cons 4 rfl (fun a u hE hD hk => f_call (o := ⟨some 23, _, _, _, _, _⟩) 18 #[.int .i64 i0, .int .i64 0, .int .i64 7] rfl (wanted_none rfl _) (exec_call 18 _ [.tmp 22, .const (.int .i64 0), .const (.int .i64 7)] _ [.int .i64 i0, .int .i64 0, .int .i64 7] Try.func18 (by kernel_rfl) (by kernel_rfl) rfl (show [a.eval (.tmp 22), a.eval (.const (.int .i64 0)), a.eval (.const (.int .i64 7))] = [.int .i64 i0, .int .i64 0, .int .i64 7] from (by rw [show a.eval (.tmp 22) = .int .i64 i0 from (hD 2 22 (by kernel_rfl))] <;> rfl)) u) (by rw [← HWJ.out]; exact within_is i0 0 7 u (by omega) (by omega) (by omega))) ?_
    exact fsteps_nil
  intro gv w3 hV k3
  rw [show dstsOf _ 4 = [20, 21, 22, 23] by kernel_rfl]
  simp only [List.foldl_cons, List.foldl_nil, List.setIfInBounds_toArray, List.set_cons_succ, List.set_cons_zero, List.drop_succ_cons, List.drop_zero]
  rw [show gv 21 = .int .i64 (a_ : Int) from hV 1 21 (by kernel_rfl)]
  rw [show gv 23 = .int .i64 (j : Int) from hV 3 23 (by kernel_rfl)]
  clear hV
  refine l_val (o := ⟨some 10, _, _, _, _, _⟩) (.int .i64 (a_ : Int)) rfl (exec_assign (.tmp 21) (.int .i64 (a_ : Int)) rfl (by kernel_rfl)) ?_
  simp only [Act.put, List.setIfInBounds_toArray, List.set_cons_succ, List.set_cons_zero]
  refine l_val (o := ⟨some 11, _, _, _, _, _⟩) (.int .i64 (j : Int)) rfl (exec_assign (.tmp 23) (.int .i64 (j : Int)) rfl (by kernel_rfl)) ?_
  simp only [Act.put, List.setIfInBounds_toArray, List.set_cons_succ, List.set_cons_zero]
  refine wpList_nil ?_
  go_upto_region 5 with fail
  refine wp_text 6 [.eq (.int .i64 (a_ : Int)), .eq (.int .i64 m0), .eq (.int .i64 z), .eq (.int .i64 (((a_ : Int) : Int) + (z : Int))), .eq (.int .i64 (b_ : Int)), .eq (.int .i64 (b_ : Int))] rfl (by kernel_rfl) ?_ ?_
  · refine sv 1 rfl rfl rfl (fun a u hE hD hk => exec_move (.tmp 10) _ rfl (hE 10 (.int .i64 (a_ : Int)) (by kernel_rfl) (by kernel_rfl))) ?_
    refine sv 2 rfl rfl rfl (fun a u hE hD hk => exec_move (.tmp 1) _ rfl (hE 1 (.int .i64 m0) (by kernel_rfl) (by kernel_rfl))) ?_
    refine fsteps_cons 3 rfl (fun a u hE hD hk => f_call (o := ⟨some 26, _, _, _, _, _⟩) 18 #[.int .i64 m0, .int .i64 1, .int .i64 31] rfl (wanted_none rfl _) (exec_call 18 _ [.tmp 25, .const (.int .i64 1), .const (.int .i64 31)] _ [.int .i64 m0, .int .i64 1, .int .i64 31] Try.func18 (by kernel_rfl) (by kernel_rfl) rfl (show [a.eval (.tmp 25), a.eval (.const (.int .i64 1)), a.eval (.const (.int .i64 31))] = [.int .i64 m0, .int .i64 1, .int .i64 31] from (by rw [show a.eval (.tmp 25) = .int .i64 m0 from (hD 1 25 (by kernel_rfl))] <;> rfl)) u) (by rw [← HWZ.out]; exact within_is m0 1 31 u (by omega) (by omega) (by omega))) ?_
    refine sv 4 rfl rfl rfl (fun a u hE hD hk => exec_addn (p := ((a_ : Int))) (q := (z)) (((a_ : Int) : Int) + (z : Int)) rfl (hD 0 24 (by kernel_rfl)) (hD 2 26 (by kernel_rfl)) rfl (by omega) (by omega)) ?_
    refine sv 5 rfl rfl rfl (fun a u hE hD hk => exec_remn (b_ : Int) rfl (hD 3 27 (by kernel_rfl)) rfl (by omega) HBM.out) ?_
    refine sv 6 rfl rfl rfl (fun a u hE hD hk => exec_assign (.tmp 28) _ rfl (hD 4 28 (by kernel_rfl))) ?_
    exact fsteps_nil
  intro gv w4 hV k4
  rw [show dstsOf _ 6 = [24, 25, 26, 27, 28, 12] by kernel_rfl]
  simp only [List.foldl_cons, List.foldl_nil, List.setIfInBounds_toArray, List.set_cons_succ, List.set_cons_zero, List.drop_succ_cons, List.drop_zero]
  rw [show gv 12 = .int .i64 (b_ : Int) from hV 5 12 (by kernel_rfl)]
  clear hV
  refine wpList_nil ?_
  have HB4 : Hid (Blk w4 g 49 (bothB a_ b_ j 0 0).lc) := by show Blk _ _ _ _; rw [both_zero]; exact (HB2.out.kept k3).kept k4
  have kw4 := (kw2.trans k3).trans k4
  clear HB2 kw2 k3 k4 HWA HWJ HWZ HBM hwm
  go_wp2_with fail
  go_loopw [13, 14] (fun t q wr => ∃ k : Nat, q = .int .i64 (k : Int) ∧ t = .int .i64 (sumTo (qOf l) k) ∧ k ≤ 40 ∧ k ≤ n ∧ Hid (Blk wr g 49 (bothB a_ b_ j (sumTo (qOf l) k) (-sumTo (qOf l) k)).lc) ∧ Kept w wr) (fun _ q _ => 40 - (intOf q).toNat)
  case atStart => exact ⟨0, rfl, rfl, by omega, by omega, HB4, kw4⟩
  case round =>
    obtain ⟨k, rfl, rfl, hk40, hkn, HBr, kwr⟩ := hrel
    clear HB4 kw4
    have hSb := qSum_in l k hk40
    by_cases hlt : k < n ∧ k < 40
    · obtain ⟨hin', hk4⟩ := hlt
      have hil : k < l.length := by rw [HN.out]; exact hin'
      obtain ⟨xv, hxv⟩ : ∃ x, l[k]? = some x := ⟨l[k], List.getElem?_eq_getElem hil⟩
      obtain ⟨ad, hA0, hcell⟩ : ∃ ad, A = some ad ∧ wr.cell? (ad.add (k * 1)) = some (.int .i64 xv) := by
        obtain ⟨ad, e, hc⟩ := HRI.out k xv hxv
        exact ⟨ad, e, by rw [Nat.mul_one]; exact kwr.cell hc⟩
      subst hA0
      have HC := Lib.hid hcell
      have hqv : wi xv 1 1048576 = qOf l k := by unfold qOf; rw [List.getD_eq_getElem?_getD, hxv]; rfl
      have hqi := qOf_in l k
      have hnx : sumTo (qOf l) (k + 1) = sumTo (qOf l) k + qOf l k := rfl
      obtain ⟨S, hS⟩ : ∃ S, sumTo (qOf l) k = S := ⟨_, rfl⟩
      obtain ⟨qv, hq⟩ : ∃ q, qOf l k = q := ⟨_, rfl⟩
      rw [hS] at hSb hnx HBr ⊢
      rw [hq] at hqv hqi hnx
      have HQV := Lib.hid hqv
      have HNX := Lib.hid hnx
      obtain ⟨t1, ht1⟩ : ∃ t, -S = t := ⟨_, rfl⟩
      rw [ht1] at HBr
      have ht1b : -41943040 ≤ t1 ∧ t1 ≤ 0 := by omega
      have hT1 : -(S + qv) = t1 - qv := by omega
      obtain ⟨S2, hS2⟩ : ∃ S2, S + qv = S2 := ⟨_, rfl⟩
      obtain ⟨t2, ht2⟩ : ∃ t2, t1 - qv = t2 := ⟨_, rfl⟩
      rw [hS2, ht2] at hT1
      have hS2b : 0 ≤ S2 ∧ S2 ≤ 42991616 := by omega
      have ht2b : -42991616 ≤ t2 ∧ t2 ≤ 0 := by omega
      have HT2 := Lib.hid hT1
      obtain ⟨ea1, ea2⟩ := both_a (b := b_) (t := t1) (sd := 1) ha32 hj8 (.inl rfl) hqi.1 hqi.2 (show -1000000000 ≤ S by omega) (by omega)
      rw [show sgn 1 qv = qv from rfl, hS2] at ea2
      obtain ⟨eb1, eb2⟩ := both_b (s := S2) (t := t1) hab hb32 hj8 hqi.1 hqi.2 (by omega) (by omega)
      rw [ht2] at eb2
      have HS2 := Lib.hid hS2
      have HEA1 := Lib.hid ea1
      have HEA2 := Lib.hid ea2
      have HEB1 := Lib.hid eb1
      have HEB2 := Lib.hid eb2
      have HOK1 := Lib.hid (both_ok a_ b_ j (s := S) (t := t1) (by omega) (by omega) (by omega) (by omega))
      have HOK2 := Lib.hid (both_ok a_ b_ j (s := S2) (t := t1) (by omega) (by omega) (by omega) (by omega))
      have HP1 : Hid ((bothB a_ b_ j S2 t2).pAt (a_ : Int) (j : Int) = S2) := (pick2_in _ ha32 hj8).trans (both_pa _ _ _ _ _)
      have HP2 : Hid ((bothB a_ b_ j S2 t2).pAt (b_ : Int) (j : Int) = t2) := (pick2_in _ hb32 hj8).trans (both_pb hab _ _ _)
      have HP3 : Hid ((bothB a_ b_ j S2 t2).pAt (a_ : Int) (jn : Int) = 0) := (pick2_in _ ha32 hjn8).trans (both_pn _ _ _ hjj _ _ _)
      clear hxv hcell hil hqv hnx hS hq ht1 hT1 ht2 ea1 ea2 eb1 eb2
      go_upto_region 8 with fail
      refine wp_text 8 [.eq (.int .i64 (k : Int)), .eq (.slice (some ad) n c), .eq (.int .i64 (n : Int)), .eq (.bool true), .eq (.bool true), .eq (.int .i64 (k : Int)), .eq (.bool true), .eq (.bool true)] rfl (by kernel_rfl) ?_ ?_
      · refine sv 1 rfl rfl rfl (fun a u hE hD hk => exec_move (.tmp 14) _ rfl (hE 14 (.int .i64 (k : Int)) (by kernel_rfl) (by kernel_rfl))) ?_
        refine sv 2 rfl rfl rfl (fun a u hE hD hk => exec_move (.tmp 3) _ rfl (hE 3 (.slice (some ad) n c) (by kernel_rfl) (by kernel_rfl))) ?_
        refine sv 3 rfl rfl rfl (fun a u hE hD hk => exec_len (.tmp 30) _ _ slI.und (some ad) n c rfl (hD 1 30 (by kernel_rfl))) ?_
        refine fsteps_cons 4 rfl (fun a u hE hD hk => f_as (show ((decide (((k : Int) : Int) < ((n : Int) : Int))) : Bool) = true from decide_eq_true (by omega)) (f_val (o := ⟨some 32, _, _, _, _, _⟩) (.bool (decide (((k : Int) : Int) < ((n : Int) : Int)))) rfl (wanted_none rfl _) (exec_ltn (p := (k : Int)) (q := (n : Int)) rfl (hD 0 29 (by kernel_rfl)) (hD 2 31 (by kernel_rfl))) rfl)) ?_
        refine sv 5 rfl rfl rfl (fun a u hE hD hk => exec_move (.tmp 32) _ rfl (hD 3 32 (by kernel_rfl))) ?_
        refine fsteps_cons 6 rfl (fun a u hE hD hk => f_val (o := ⟨some 34, _, _, _, _, _⟩) (.int .i64 (k : Int)) rfl (wanted_at (b := true) true rfl rfl (hD 4 33 (by kernel_rfl))) (exec_move (.tmp 14) _ rfl (hE 14 (.int .i64 (k : Int)) (by kernel_rfl) (by kernel_rfl))) rfl) ?_
        refine fsteps_cons 7 rfl (fun a u hE hD hk => f_as (show ((decide (((k : Int) : Int) < (40 : Int))) : Bool) = true from decide_eq_true (by omega)) (f_val (o := ⟨some 35, _, _, _, _, _⟩) (.bool (decide (((k : Int) : Int) < (40 : Int)))) rfl (wanted_at (b := true) true rfl rfl (hD 4 33 (by kernel_rfl))) (exec_ltn (p := (k : Int)) (q := 40) rfl (hD 5 34 (by kernel_rfl)) rfl) rfl)) ?_
        refine sv 8 rfl rfl rfl (fun a u hE hD hk => exec_pick (.tmp 33) (.tmp 35) (.const (.bool false)) (.bool true) rfl (hD 4 33 (by kernel_rfl)) (hD 6 35 (by kernel_rfl))) ?_
        exact fsteps_nil
      intro gv w5 hV k5
      rw [show dstsOf _ 8 = [29, 30, 31, 32, 33, 34, 35, 36] by kernel_rfl]
      simp only [List.foldl_cons, List.foldl_nil, List.setIfInBounds_toArray, List.set_cons_succ, List.set_cons_zero, List.drop_succ_cons, List.drop_zero]
      rw [show gv 36 = .bool true from hV 7 36 (by kernel_rfl)]
      clear hV
      refine wpList_nil ?_
      have HC5 := Lib.hid (k5.cell HC.out)
      clear HC
      go_upto_region 10 with fail
      refine wp_text 6 [.eq (.slice (some ad) n c), .eq (.int .i64 (k : Int)), .eq (.pointer (some (ad.add (k * 1)))), .eq (.int .i64 xv), .eq (.int .i64 qv), .eq (.int .i64 qv)] rfl (by kernel_rfl) ?_ ?_
      · refine sv 1 rfl rfl rfl (fun a u hE hD hk => exec_move (.tmp 3) _ rfl (hE 3 (.slice (some ad) n c) (by kernel_rfl) (by kernel_rfl))) ?_
        refine sv 2 rfl rfl rfl (fun a u hE hD hk => exec_move (.tmp 14) _ rfl (hE 14 (.int .i64 (k : Int)) (by kernel_rfl) (by kernel_rfl))) ?_
        refine sv 3 rfl rfl rfl (fun a u hE hD hk => exec_indexA 43 3 1 (.tmp 39) (.tmp 40) ad n c k rfl Try.underlying43 infoI1 (hD 0 39 (by kernel_rfl)) (hD 1 40 (by kernel_rfl)) hin') ?_
        refine sv 4 rfl rfl rfl (fun a u hE hD hk => exec_loadi 3 Try.underlying3 (.tmp 41) (ad.add (k * 1)) (.int .i64 xv) rfl (hD 2 41 (by kernel_rfl)) (hk.cell HC5.out)) ?_
        refine fsteps_cons 5 rfl (fun a u hE hD hk => f_call (o := ⟨some 43, _, _, _, _, _⟩) 18 #[.int .i64 xv, .int .i64 1, .int .i64 1048576] rfl (wanted_none rfl _) (exec_call 18 _ [.tmp 42, .const (.int .i64 1), .const (.int .i64 1048576)] _ [.int .i64 xv, .int .i64 1, .int .i64 1048576] Try.func18 (by kernel_rfl) (by kernel_rfl) rfl (show [a.eval (.tmp 42), a.eval (.const (.int .i64 1)), a.eval (.const (.int .i64 1048576))] = [.int .i64 xv, .int .i64 1, .int .i64 1048576] from (by rw [show a.eval (.tmp 42) = .int .i64 xv from (hD 3 42 (by kernel_rfl))] <;> rfl)) u) (by rw [← HQV.out]; exact within_is xv 1 1048576 u (by omega) (by omega) (by omega))) ?_
        refine sv 6 rfl rfl rfl (fun a u hE hD hk => exec_assign (.tmp 43) _ rfl (hD 4 43 (by kernel_rfl))) ?_
        exact fsteps_nil
      intro gv w6 hV k6
      rw [show dstsOf _ 6 = [39, 40, 41, 42, 43, 15] by kernel_rfl]
      simp only [List.foldl_cons, List.foldl_nil, List.setIfInBounds_toArray, List.set_cons_succ, List.set_cons_zero, List.drop_succ_cons, List.drop_zero]
      rw [show gv 15 = .int .i64 qv from hV 5 15 (by kernel_rfl)]
      clear hV
      refine wpList_nil ?_
      have HB6 := Lib.hid ((HBr.out.kept k5).kept k6)
      have kw6 := (kwr.trans k5).trans k6
      clear HBr kwr k5 k6 HC5 HQV
      go_upto_region 11 with fail
      refine wp_text 4 [.eq (.pointer (some ⟨g, 0, none⟩)), .eq (.int .i64 (a_ : Int)), .eq (.int .i64 (j : Int)), .eq (.int .i64 qv)] rfl (by kernel_rfl) ?_ ?_
      · refine sv 1 rfl rfl rfl (fun a u hE hD hk => exec_move (.tmp 9) _ rfl (hE 9 (.pointer (some ⟨g, 0, none⟩)) (by kernel_rfl) (by kernel_rfl))) ?_
        refine sv 2 rfl rfl rfl (fun a u hE hD hk => exec_move (.tmp 10) _ rfl (hE 10 (.int .i64 (a_ : Int)) (by kernel_rfl) (by kernel_rfl))) ?_
        refine sv 3 rfl rfl rfl (fun a u hE hD hk => exec_move (.tmp 11) _ rfl (hE 11 (.int .i64 (j : Int)) (by kernel_rfl) (by kernel_rfl))) ?_
        refine sv 4 rfl rfl rfl (fun a u hE hD hk => exec_move (.tmp 15) _ rfl (hE 15 (.int .i64 qv) (by kernel_rfl) (by kernel_rfl))) ?_
        exact fsteps_nil
      intro gv w7 hV k7
      rw [show dstsOf _ 4 = [44, 45, 46, 47] by kernel_rfl]
      simp only [List.foldl_cons, List.foldl_nil, List.setIfInBounds_toArray, List.set_cons_succ, List.set_cons_zero, List.drop_succ_cons, List.drop_zero]
      rw [show gv 44 = .pointer (some ⟨g, 0, none⟩) from hV 0 44 (by kernel_rfl)]
      rw [show gv 45 = .int .i64 (a_ : Int) from hV 1 45 (by kernel_rfl)]
      rw [show gv 46 = .int .i64 (j : Int) from hV 2 46 (by kernel_rfl)]
      rw [show gv 47 = .int .i64 qv from hV 3 47 (by kernel_rfl)]
      clear hV
      refine l_call (o := ⟨some 48, _, _, _, _, _⟩) 11 #[.pointer (some ⟨g, 0, none⟩), .int .i64 (a_ : Int), .int .i64 (j : Int), .int .i64 1, .int .i64 qv] rfl (exec_call 11 _ [.tmp 44, .tmp 45, .tmp 46, .const (.int .i64 1), .tmp 47] _ _ Try.func11 (by kernel_rfl) (by kernel_rfl) rfl (by kernel_rfl) _) ?_
      refine (trades_at (HB6.out.kept k7) HOK1.out HEA1.out HEA2.out).mono ?_
      rintro e w8 ⟨rfl, hB8, k8⟩
      refine ⟨_, rfl, ?_⟩
      simp only [Act.put, List.setIfInBounds_toArray, List.set_cons_succ, List.set_cons_zero]
      refine l_val (o := ⟨some 49, _, _, _, _, _⟩) (.bool false) rfl (exec_not _ (.tmp 48) true rfl (by kernel_rfl)) ?_
      simp only [Act.put, List.setIfInBounds_toArray, List.set_cons_succ, List.set_cons_zero]
      refine l_val (o := ⟨some 50, _, _, _, _, _⟩) (.bool false) rfl (exec_move (.tmp 49) (.bool false) rfl (by kernel_rfl)) ?_
      simp only [Act.put, List.setIfInBounds_toArray, List.set_cons_succ, List.set_cons_zero]
      refine l_val (o := ⟨some 51, _, _, _, _, _⟩) (.pointer (some ⟨g, 0, none⟩)) rfl (exec_move (.tmp 9) (.pointer (some ⟨g, 0, none⟩)) rfl (by kernel_rfl)) ?_
      simp only [Act.put, List.setIfInBounds_toArray, List.set_cons_succ, List.set_cons_zero]
      refine l_val (o := ⟨some 52, _, _, _, _, _⟩) (.int .i64 (b_ : Int)) rfl (exec_move (.tmp 12) (.int .i64 (b_ : Int)) rfl (by kernel_rfl)) ?_
      simp only [Act.put, List.setIfInBounds_toArray, List.set_cons_succ, List.set_cons_zero]
      refine l_val (o := ⟨some 53, _, _, _, _, _⟩) (.int .i64 (j : Int)) rfl (exec_move (.tmp 11) (.int .i64 (j : Int)) rfl (by kernel_rfl)) ?_
      simp only [Act.put, List.setIfInBounds_toArray, List.set_cons_succ, List.set_cons_zero]
      refine l_val (o := ⟨some 54, _, _, _, _, _⟩) (.int .i64 qv) rfl (exec_move (.tmp 15) (.int .i64 qv) rfl (by kernel_rfl)) ?_
      simp only [Act.put, List.setIfInBounds_toArray, List.set_cons_succ, List.set_cons_zero]
      refine l_call (o := ⟨some 55, _, _, _, _, _⟩) 11 #[.pointer (some ⟨g, 0, none⟩), .int .i64 (b_ : Int), .int .i64 (j : Int), .int .i64 2, .int .i64 qv] rfl (exec_call 11 _ [.tmp 51, .tmp 52, .tmp 53, .const (.int .i64 2), .tmp 54] _ _ Try.func11 (by kernel_rfl) (by kernel_rfl) rfl (by kernel_rfl) _) ?_
      refine (trades_at hB8 HOK2.out HEB1.out HEB2.out).mono ?_
      rintro e w9 ⟨rfl, hB9, k9⟩
      refine ⟨_, rfl, ?_⟩
      simp only [Act.put, List.setIfInBounds_toArray, List.set_cons_succ, List.set_cons_zero]
      refine l_val (o := ⟨some 56, _, _, _, _, _⟩) (.bool false) rfl (exec_not _ (.tmp 55) true rfl (by kernel_rfl)) ?_
      simp only [Act.put, List.setIfInBounds_toArray, List.set_cons_succ, List.set_cons_zero]
      refine l_val (o := ⟨some 57, _, _, _, _, _⟩) (.bool false) rfl (exec_pickF (.tmp 50) (.const (.bool true)) (.tmp 56) (.bool false) rfl (by kernel_rfl) (by kernel_rfl)) ?_
      simp only [Act.put, List.setIfInBounds_toArray, List.set_cons_succ, List.set_cons_zero]
      refine wpList_nil ?_
      have HB9 := Lib.hid hB9
      have kw9 := kept_own (kept_own (kw6.trans k7) hg k8) hg k9
      clear hB8 hB9 k7 k8 k9 kw6 HB6 HEA1 HEA2 HEB1 HEB2 HOK1 HOK2
      go_upto_region 13 with fail
      refine wp_text 3 [.eq (.int .i64 S), .eq (.int .i64 qv), .eq (.int .i64 ((S : Int) + (qv : Int)))] rfl (by kernel_rfl) ?_ ?_
      · refine sv 1 rfl rfl rfl (fun a u hE hD hk => exec_move (.tmp 13) _ rfl (hE 13 (.int .i64 S) (by kernel_rfl) (by kernel_rfl))) ?_
        refine sv 2 rfl rfl rfl (fun a u hE hD hk => exec_move (.tmp 15) _ rfl (hE 15 (.int .i64 qv) (by kernel_rfl) (by kernel_rfl))) ?_
        refine sv 3 rfl rfl rfl (fun a u hE hD hk => exec_addn (p := (S)) (q := (qv)) ((S : Int) + (qv : Int)) rfl (hD 0 58 (by kernel_rfl)) (hD 1 59 (by kernel_rfl)) rfl (by omega) (by omega)) ?_
        exact fsteps_nil
      intro gv wa hV ka
      rw [show dstsOf _ 3 = [58, 59, 60] by kernel_rfl]
      simp only [List.foldl_cons, List.foldl_nil, List.setIfInBounds_toArray, List.set_cons_succ, List.set_cons_zero, List.drop_succ_cons, List.drop_zero]
      rw [show gv 60 = .int .i64 ((S : Int) + (qv : Int)) from hV 2 60 (by kernel_rfl)]
      clear hV
      refine l_val (o := ⟨some 13, _, _, _, _, _⟩) (.int .i64 ((S : Int) + (qv : Int))) rfl (exec_assign (.tmp 60) (.int .i64 ((S : Int) + (qv : Int))) rfl (by kernel_rfl)) ?_
      simp only [Act.put, List.setIfInBounds_toArray, List.set_cons_succ, List.set_cons_zero]
      refine wpList_nil ?_
      rw [HS2.out]
      go_upto_region 14 with fail
      refine wp_text 24 [.eq (.pointer (some ⟨g, 0, none⟩)), .eq (.int .i64 (a_ : Int)), .eq (.int .i64 (j : Int)), .eq (.int .i64 S2), .eq (.int .i64 S2), .eq (.bool false), .eq (.bool false), .eq (.pointer (some ⟨g, 0, none⟩)), .eq (.int .i64 (b_ : Int)), .eq (.int .i64 (j : Int)), .eq (.int .i64 t2), .eq (.int .i64 S2), .eq (.int .i64 t2), .eq (.bool false), .eq (.bool false), .eq (.bool false), .eq (.pointer (some ⟨g, 0, none⟩)), .eq (.int .i64 (a_ : Int)), .eq (.int .i64 (j : Int)), .eq (.int .i64 (((j : Int) : Int) + (1 : Int))), .eq (.int .i64 (jn : Int)), .eq (.int .i64 0), .eq (.bool false), .eq (.bool false)] rfl (by kernel_rfl) ?_ ?_
      · refine sv 1 rfl rfl rfl (fun a u hE hD hk => exec_move (.tmp 9) _ rfl (hE 9 (.pointer (some ⟨g, 0, none⟩)) (by kernel_rfl) (by kernel_rfl))) ?_
        refine sv 2 rfl rfl rfl (fun a u hE hD hk => exec_move (.tmp 10) _ rfl (hE 10 (.int .i64 (a_ : Int)) (by kernel_rfl) (by kernel_rfl))) ?_
        refine sv 3 rfl rfl rfl (fun a u hE hD hk => exec_move (.tmp 11) _ rfl (hE 11 (.int .i64 (j : Int)) (by kernel_rfl) (by kernel_rfl))) ?_
        refine fsteps_cons 4 rfl (fun a u hE hD hk => f_call (o := ⟨some 64, _, _, _, _, _⟩) 12 #[.pointer (some ⟨g, 0, none⟩), .int .i64 (a_ : Int), .int .i64 (j : Int)] rfl (wanted_none rfl _) (exec_call 12 _ [.tmp 61, .tmp 62, .tmp 63] _ [.pointer (some ⟨g, 0, none⟩), .int .i64 (a_ : Int), .int .i64 (j : Int)] Try.func12 (by kernel_rfl) (by kernel_rfl) rfl (show [a.eval (.tmp 61), a.eval (.tmp 62), a.eval (.tmp 63)] = [.pointer (some ⟨g, 0, none⟩), .int .i64 (a_ : Int), .int .i64 (j : Int)] from (by rw [show a.eval (.tmp 61) = .pointer (some ⟨g, 0, none⟩) from (hD 0 61 (by kernel_rfl)), show a.eval (.tmp 62) = .int .i64 (a_ : Int) from (hD 1 62 (by kernel_rfl)), show a.eval (.tmp 63) = .int .i64 (j : Int) from (hD 2 63 (by kernel_rfl))] <;> rfl)) u) (pos_at ((HB9.out.kept ka).kept hk) HP1.out)) ?_
        refine sv 5 rfl rfl rfl (fun a u hE hD hk => exec_move (.tmp 13) _ rfl (hE 13 (.int .i64 S2) (by kernel_rfl) (by kernel_rfl))) ?_
        refine fsteps_cons 6 rfl (fun a u hE hD hk => f_as (show ((decide ((S2 : Int) ≠ (S2 : Int))) : Bool) = false from decide_eq_false (by omega)) (f_val (o := ⟨some 66, _, _, _, _, _⟩) (.bool (decide ((S2 : Int) ≠ (S2 : Int)))) rfl (wanted_none rfl _) (exec_nen (p := S2) (q := S2) rfl (hD 3 64 (by kernel_rfl)) (hD 4 65 (by kernel_rfl))) rfl)) ?_
        refine sv 7 rfl rfl rfl (fun a u hE hD hk => exec_move (.tmp 66) _ rfl (hD 5 66 (by kernel_rfl))) ?_
        refine fsteps_cons 8 rfl (fun a u hE hD hk => f_val (o := ⟨some 68, _, _, _, _, _⟩) (.pointer (some ⟨g, 0, none⟩)) rfl (wanted_at (b := false) false rfl rfl (hD 6 67 (by kernel_rfl))) (exec_move (.tmp 9) _ rfl (hE 9 (.pointer (some ⟨g, 0, none⟩)) (by kernel_rfl) (by kernel_rfl))) rfl) ?_
        refine fsteps_cons 9 rfl (fun a u hE hD hk => f_val (o := ⟨some 69, _, _, _, _, _⟩) (.int .i64 (b_ : Int)) rfl (wanted_at (b := false) false rfl rfl (hD 6 67 (by kernel_rfl))) (exec_move (.tmp 12) _ rfl (hE 12 (.int .i64 (b_ : Int)) (by kernel_rfl) (by kernel_rfl))) rfl) ?_
        refine fsteps_cons 10 rfl (fun a u hE hD hk => f_val (o := ⟨some 70, _, _, _, _, _⟩) (.int .i64 (j : Int)) rfl (wanted_at (b := false) false rfl rfl (hD 6 67 (by kernel_rfl))) (exec_move (.tmp 11) _ rfl (hE 11 (.int .i64 (j : Int)) (by kernel_rfl) (by kernel_rfl))) rfl) ?_
        refine fsteps_cons 11 rfl (fun a u hE hD hk => f_call (o := ⟨some 71, _, _, _, _, _⟩) 12 #[.pointer (some ⟨g, 0, none⟩), .int .i64 (b_ : Int), .int .i64 (j : Int)] rfl (wanted_at (b := false) false rfl rfl (hD 6 67 (by kernel_rfl))) (exec_call 12 _ [.tmp 68, .tmp 69, .tmp 70] _ [.pointer (some ⟨g, 0, none⟩), .int .i64 (b_ : Int), .int .i64 (j : Int)] Try.func12 (by kernel_rfl) (by kernel_rfl) rfl (show [a.eval (.tmp 68), a.eval (.tmp 69), a.eval (.tmp 70)] = [.pointer (some ⟨g, 0, none⟩), .int .i64 (b_ : Int), .int .i64 (j : Int)] from (by rw [show a.eval (.tmp 68) = .pointer (some ⟨g, 0, none⟩) from (hD 7 68 (by kernel_rfl)), show a.eval (.tmp 69) = .int .i64 (b_ : Int) from (hD 8 69 (by kernel_rfl)), show a.eval (.tmp 70) = .int .i64 (j : Int) from (hD 9 70 (by kernel_rfl))] <;> rfl)) u) (pos_at ((HB9.out.kept ka).kept hk) HP2.out)) ?_
        refine fsteps_cons 12 rfl (fun a u hE hD hk => f_val (o := ⟨some 72, _, _, _, _, _⟩) (.int .i64 S2) rfl (wanted_at (b := false) false rfl rfl (hD 6 67 (by kernel_rfl))) (exec_move (.tmp 13) _ rfl (hE 13 (.int .i64 S2) (by kernel_rfl) (by kernel_rfl))) rfl) ?_
        refine fsteps_cons 13 rfl (fun a u hE hD hk => f_val (o := ⟨some 73, _, _, _, _, _⟩) (.int .i64 t2) rfl (wanted_at (b := false) false rfl rfl (hD 6 67 (by kernel_rfl))) (by rw [← HT2.out]; exact exec_neg1 S2 rfl (hD 11 72 (by kernel_rfl)) (by omega) (by omega)) rfl) ?_
        refine fsteps_cons 14 rfl (fun a u hE hD hk => f_as (show ((decide ((t2 : Int) ≠ (t2 : Int))) : Bool) = false from decide_eq_false (by omega)) (f_val (o := ⟨some 74, _, _, _, _, _⟩) (.bool (decide ((t2 : Int) ≠ (t2 : Int)))) rfl (wanted_at (b := false) false rfl rfl (hD 6 67 (by kernel_rfl))) (exec_nen (p := t2) (q := t2) rfl (hD 10 71 (by kernel_rfl)) (hD 12 73 (by kernel_rfl))) rfl)) ?_
        refine sv 15 rfl rfl rfl (fun a u hE hD hk => exec_pickF (.tmp 67) (.const (.bool true)) (.tmp 74) (.bool false) rfl (hD 6 67 (by kernel_rfl)) (hD 13 74 (by kernel_rfl))) ?_
        refine sv 16 rfl rfl rfl (fun a u hE hD hk => exec_move (.tmp 75) _ rfl (hD 14 75 (by kernel_rfl))) ?_
        refine fsteps_cons 17 rfl (fun a u hE hD hk => f_val (o := ⟨some 77, _, _, _, _, _⟩) (.pointer (some ⟨g, 0, none⟩)) rfl (wanted_at (b := false) false rfl rfl (hD 15 76 (by kernel_rfl))) (exec_move (.tmp 9) _ rfl (hE 9 (.pointer (some ⟨g, 0, none⟩)) (by kernel_rfl) (by kernel_rfl))) rfl) ?_
        refine fsteps_cons 18 rfl (fun a u hE hD hk => f_val (o := ⟨some 78, _, _, _, _, _⟩) (.int .i64 (a_ : Int)) rfl (wanted_at (b := false) false rfl rfl (hD 15 76 (by kernel_rfl))) (exec_move (.tmp 10) _ rfl (hE 10 (.int .i64 (a_ : Int)) (by kernel_rfl) (by kernel_rfl))) rfl) ?_
        refine fsteps_cons 19 rfl (fun a u hE hD hk => f_val (o := ⟨some 79, _, _, _, _, _⟩) (.int .i64 (j : Int)) rfl (wanted_at (b := false) false rfl rfl (hD 15 76 (by kernel_rfl))) (exec_move (.tmp 11) _ rfl (hE 11 (.int .i64 (j : Int)) (by kernel_rfl) (by kernel_rfl))) rfl) ?_
        refine fsteps_cons 20 rfl (fun a u hE hD hk => f_val (o := ⟨some 80, _, _, _, _, _⟩) (.int .i64 (((j : Int) : Int) + (1 : Int))) rfl (wanted_at (b := false) false rfl rfl (hD 15 76 (by kernel_rfl))) (exec_addn (p := ((j : Int))) (q := (1)) (((j : Int) : Int) + (1 : Int)) rfl (hD 18 79 (by kernel_rfl)) rfl rfl (by omega) (by omega)) rfl) ?_
        refine fsteps_cons 21 rfl (fun a u hE hD hk => f_val (o := ⟨some 81, _, _, _, _, _⟩) (.int .i64 (jn : Int)) rfl (wanted_at (b := false) false rfl rfl (hD 15 76 (by kernel_rfl))) (exec_remn (jn : Int) rfl (hD 19 80 (by kernel_rfl)) rfl (by omega) HJN.out) rfl) ?_
        refine fsteps_cons 22 rfl (fun a u hE hD hk => f_call (o := ⟨some 82, _, _, _, _, _⟩) 12 #[.pointer (some ⟨g, 0, none⟩), .int .i64 (a_ : Int), .int .i64 (jn : Int)] rfl (wanted_at (b := false) false rfl rfl (hD 15 76 (by kernel_rfl))) (exec_call 12 _ [.tmp 77, .tmp 78, .tmp 81] _ [.pointer (some ⟨g, 0, none⟩), .int .i64 (a_ : Int), .int .i64 (jn : Int)] Try.func12 (by kernel_rfl) (by kernel_rfl) rfl (show [a.eval (.tmp 77), a.eval (.tmp 78), a.eval (.tmp 81)] = [.pointer (some ⟨g, 0, none⟩), .int .i64 (a_ : Int), .int .i64 (jn : Int)] from (by rw [show a.eval (.tmp 77) = .pointer (some ⟨g, 0, none⟩) from (hD 16 77 (by kernel_rfl)), show a.eval (.tmp 78) = .int .i64 (a_ : Int) from (hD 17 78 (by kernel_rfl)), show a.eval (.tmp 81) = .int .i64 (jn : Int) from (hD 20 81 (by kernel_rfl))] <;> rfl)) u) (pos_at ((HB9.out.kept ka).kept hk) HP3.out)) ?_
        refine fsteps_cons 23 rfl (fun a u hE hD hk => f_as (show ((decide ((0 : Int) ≠ (0 : Int))) : Bool) = false from decide_eq_false (by omega)) (f_val (o := ⟨some 83, _, _, _, _, _⟩) (.bool (decide ((0 : Int) ≠ (0 : Int)))) rfl (wanted_at (b := false) false rfl rfl (hD 15 76 (by kernel_rfl))) (exec_nen (p := 0) (q := 0) rfl (hD 21 82 (by kernel_rfl)) rfl) rfl)) ?_
        refine sv 24 rfl rfl rfl (fun a u hE hD hk => exec_pickF (.tmp 76) (.const (.bool true)) (.tmp 83) (.bool false) rfl (hD 15 76 (by kernel_rfl)) (hD 22 83 (by kernel_rfl))) ?_
        exact fsteps_nil
      intro gv wb hV kb
      rw [show dstsOf _ 24 = [61, 62, 63, 64, 65, 66, 67, 68, 69, 70, 71, 72, 73, 74, 75, 76, 77, 78, 79, 80, 81, 82, 83, 84] by kernel_rfl]
      simp only [List.foldl_cons, List.foldl_nil, List.setIfInBounds_toArray, List.set_cons_succ, List.set_cons_zero, List.drop_succ_cons, List.drop_zero]
      rw [show gv 84 = .bool false from hV 23 84 (by kernel_rfl)]
      clear hV
      refine wpList_nil ?_
      have HBb : Hid (Blk wb g 49 (bothB a_ b_ j (sumTo (qOf l) (k + 1)) (-sumTo (qOf l) (k + 1))).lc) := by
        show Blk _ _ _ _
        rw [HNX.out, HS2.out, HT2.out]
        exact (HB9.out.kept ka).kept kb
      have hnx2 : sumTo (qOf l) (k + 1) = S2 := HNX.out.trans HS2.out
      have kwb := (kw9.trans ka).trans kb
      go_wp2
      exact ⟨⟨k + 1, by simp, by rw [hnx2], by omega, by omega, HBb, kwb⟩, by simp [intOf]; omega⟩
    · have hcond : (decide ((k : Int) < (n : Int)) && decide ((k : Int) < 40)) = false := by
        by_cases h1 : (k : Int) < (n : Int)
        · rw [decide_eq_false (show ¬ (k : Int) < 40 by omega), Bool.and_false]
        · rw [decide_eq_false h1, Bool.false_and]
      obtain ⟨S, hS⟩ : ∃ S, sumTo (qOf l) k = S := ⟨_, rfl⟩
      rw [hS] at hSb HBr ⊢
      have HS := Lib.hid hS
      obtain ⟨t1, ht1⟩ : ∃ t, -S = t := ⟨_, rfl⟩
      rw [ht1] at HBr
      have ht1b : -41943040 ≤ t1 ∧ t1 ≤ 0 := by omega
      clear hS ht1
      go_upto_region 8 with fail
      refine wp_text 8 [.eq (.int .i64 (k : Int)), .eq (.slice A n c), .eq (.int .i64 (n : Int)), .eq (.bool (decide (((k : Int) : Int) < ((n : Int) : Int)))), .eq (.bool (decide (((k : Int) : Int) < ((n : Int) : Int)))), .cond (decide (((k : Int) : Int) < ((n : Int) : Int))) (.eq (.int .i64 (k : Int))), .cond (decide (((k : Int) : Int) < ((n : Int) : Int))) (.eq (.bool (decide (((k : Int) : Int) < (40 : Int))))), .eq (.bool false)] rfl (by kernel_rfl) ?_ ?_
      · refine sv 1 rfl rfl rfl (fun a u hE hD hk => exec_move (.tmp 14) _ rfl (hE 14 (.int .i64 (k : Int)) (by kernel_rfl) (by kernel_rfl))) ?_
        refine sv 2 rfl rfl rfl (fun a u hE hD hk => exec_move (.tmp 3) _ rfl (hE 3 (.slice A n c) (by kernel_rfl) (by kernel_rfl))) ?_
        refine sv 3 rfl rfl rfl (fun a u hE hD hk => exec_len (.tmp 30) _ _ slI.und A n c rfl (hD 1 30 (by kernel_rfl))) ?_
        refine sv 4 rfl rfl rfl (fun a u hE hD hk => exec_ltn (p := (k : Int)) (q := (n : Int)) rfl (hD 0 29 (by kernel_rfl)) (hD 2 31 (by kernel_rfl))) ?_
        refine sv 5 rfl rfl rfl (fun a u hE hD hk => exec_move (.tmp 32) _ rfl (hD 3 32 (by kernel_rfl))) ?_
        refine fsteps_cons 6 rfl (fun a u hE hD hk => f_if ((decide (((k : Int) : Int) < ((n : Int) : Int)))) rfl rfl rfl (hD 4 33 (by kernel_rfl)) (fun hb => f_val (o := ⟨some 34, _, _, _, _, _⟩) (.int .i64 (k : Int)) rfl (wanted_b rfl rfl (hD 4 33 (by kernel_rfl)) (eq_true_of hb)) (exec_move (.tmp 14) _ rfl (hE 14 (.int .i64 (k : Int)) (by kernel_rfl) (by kernel_rfl))) rfl)) ?_
        refine fsteps_cons 7 rfl (fun a u hE hD hk => f_if ((decide (((k : Int) : Int) < ((n : Int) : Int)))) rfl rfl rfl (hD 4 33 (by kernel_rfl)) (fun hb => f_val (o := ⟨some 35, _, _, _, _, _⟩) (.bool (decide (((k : Int) : Int) < (40 : Int)))) rfl (wanted_b rfl rfl (hD 4 33 (by kernel_rfl)) (eq_true_of hb)) (exec_ltn (p := (k : Int)) (q := 40) rfl ((hD 5 34 (by kernel_rfl)).1 hb) rfl) rfl)) ?_
        refine fsteps_cons 8 rfl (fun a u hE hD hk => f_as (show (((decide (((k : Int) : Int) < ((n : Int) : Int))) && (decide (((k : Int) : Int) < (40 : Int)))) : Bool) = false from hcond) (f_val (o := ⟨some 36, _, _, _, _, _⟩) (.bool ((decide (((k : Int) : Int) < ((n : Int) : Int))) && (decide (((k : Int) : Int) < (40 : Int))))) rfl (wanted_none rfl _) (exec_pickand (.tmp 33) (.tmp 35) (.const (.bool false)) ((decide (((k : Int) : Int) < ((n : Int) : Int)))) ((decide (((k : Int) : Int) < (40 : Int)))) rfl (hD 4 33 (by kernel_rfl)) (fun hb2 => ((hD 6 35 (by kernel_rfl)).1 hb2)) rfl) rfl)) ?_
        exact fsteps_nil
      intro gv w5 hV k5
      rw [show dstsOf _ 8 = [29, 30, 31, 32, 33, 34, 35, 36] by kernel_rfl]
      simp only [List.foldl_cons, List.foldl_nil, List.setIfInBounds_toArray, List.set_cons_succ, List.set_cons_zero, List.drop_succ_cons, List.drop_zero]
      rw [show gv 36 = .bool false from hV 7 36 (by kernel_rfl)]
      clear hV
      refine wpList_nil ?_
      have HB5 : Hid (Blk w5 g 49 (bothB a_ b_ j (S - sumTo (qOf l) 0) t1).lc) := by
        show Blk _ _ _ _
        rw [show sumTo (qOf l) 0 = 0 from rfl, Int.sub_zero]
        exact HBr.out.kept k5
      have kw5 := kwr.trans k5
      clear hcond HBr kwr k5
      go_wp2_with fail
      go_loopw [16] (fun t wx => ∃ k2 : Nat, t = .int .i64 (k2 : Int) ∧ k2 ≤ 40 ∧ k2 ≤ n ∧ Hid (Blk wx g 49 (bothB a_ b_ j (S - sumTo (qOf l) k2) t1).lc) ∧ Kept w wx) (fun t _ => 40 - (intOf t).toNat)
      case atStart => exact ⟨0, rfl, by omega, by omega, HB5, kw5⟩
      case round =>
        obtain ⟨k2, rfl, hk240, hk2n, HBx, kwr⟩ := hrel
        clear HB5 kw5
        have hSb2 := qSum_in l k2 hk240
        by_cases hlt2 : k2 < n ∧ k2 < 40
        · obtain ⟨hin', hk24⟩ := hlt2
          have hil : k2 < l.length := by rw [HN.out]; exact hin'
          obtain ⟨xv, hxv⟩ : ∃ x, l[k2]? = some x := ⟨l[k2], List.getElem?_eq_getElem hil⟩
          obtain ⟨ad, hA0, hcell⟩ : ∃ ad, A = some ad ∧ wr.cell? (ad.add (k2 * 1)) = some (.int .i64 xv) := by
            obtain ⟨ad, e, hc⟩ := HRI.out k2 xv hxv
            exact ⟨ad, e, by rw [Nat.mul_one]; exact kwr.cell hc⟩
          subst hA0
          have HC := Lib.hid hcell
          have hqv : wi xv 1 1048576 = qOf l k2 := by unfold qOf; rw [List.getD_eq_getElem?_getD, hxv]; rfl
          have hqi := qOf_in l k2
          have hnx : sumTo (qOf l) (k2 + 1) = sumTo (qOf l) k2 + qOf l k2 := rfl
          obtain ⟨R, hR⟩ : ∃ R, sumTo (qOf l) k2 = R := ⟨_, rfl⟩
          obtain ⟨qv, hq⟩ : ∃ q, qOf l k2 = q := ⟨_, rfl⟩
          rw [hR] at hSb2 hnx HBx
          rw [hq] at hqv hqi hnx
          have HQV := Lib.hid hqv
          have HNX : Hid (S - sumTo (qOf l) (k2 + 1) = S - R + sgn 2 qv) := by
            show _ = _
            rw [hnx, show sgn 2 qv = -qv from rfl]
            omega
          obtain ⟨D, hD⟩ : ∃ D, S - R = D := ⟨_, rfl⟩
          rw [hD] at HBx HNX
          have hDb : -41943040 ≤ D ∧ D ≤ 41943040 := by omega
          obtain ⟨ea1, ea2⟩ := both_a (b := b_) (t := t1) (sd := 2) ha32 hj8 (.inr rfl) hqi.1 hqi.2 (show -1000000000 ≤ D by omega) (by omega)
          have HEA1 := Lib.hid ea1
          have HEA2 := Lib.hid ea2
          have HOK1 := Lib.hid (both_ok a_ b_ j (s := D) (t := t1) (by omega) (by omega) (by omega) (by omega))
          clear hxv hcell hil hqv hnx hR hq hD ea1 ea2
          go_upto_region 17 with fail
          refine wp_text 8 [.eq (.int .i64 (k2 : Int)), .eq (.slice (some ad) n c), .eq (.int .i64 (n : Int)), .eq (.bool true), .eq (.bool true), .eq (.int .i64 (k2 : Int)), .eq (.bool true), .eq (.bool true)] rfl (by kernel_rfl) ?_ ?_
          · refine sv 1 rfl rfl rfl (fun a u hE hD hk => exec_move (.tmp 16) _ rfl (hE 16 (.int .i64 (k2 : Int)) (by kernel_rfl) (by kernel_rfl))) ?_
            refine sv 2 rfl rfl rfl (fun a u hE hD hk => exec_move (.tmp 3) _ rfl (hE 3 (.slice (some ad) n c) (by kernel_rfl) (by kernel_rfl))) ?_
            refine sv 3 rfl rfl rfl (fun a u hE hD hk => exec_len (.tmp 86) _ _ slI.und (some ad) n c rfl (hD 1 86 (by kernel_rfl))) ?_
            refine fsteps_cons 4 rfl (fun a u hE hD hk => f_as (show ((decide (((k2 : Int) : Int) < ((n : Int) : Int))) : Bool) = true from decide_eq_true (by omega)) (f_val (o := ⟨some 88, _, _, _, _, _⟩) (.bool (decide (((k2 : Int) : Int) < ((n : Int) : Int)))) rfl (wanted_none rfl _) (exec_ltn (p := (k2 : Int)) (q := (n : Int)) rfl (hD 0 85 (by kernel_rfl)) (hD 2 87 (by kernel_rfl))) rfl)) ?_
            refine sv 5 rfl rfl rfl (fun a u hE hD hk => exec_move (.tmp 88) _ rfl (hD 3 88 (by kernel_rfl))) ?_
            refine fsteps_cons 6 rfl (fun a u hE hD hk => f_val (o := ⟨some 90, _, _, _, _, _⟩) (.int .i64 (k2 : Int)) rfl (wanted_at (b := true) true rfl rfl (hD 4 89 (by kernel_rfl))) (exec_move (.tmp 16) _ rfl (hE 16 (.int .i64 (k2 : Int)) (by kernel_rfl) (by kernel_rfl))) rfl) ?_
            refine fsteps_cons 7 rfl (fun a u hE hD hk => f_as (show ((decide (((k2 : Int) : Int) < (40 : Int))) : Bool) = true from decide_eq_true (by omega)) (f_val (o := ⟨some 91, _, _, _, _, _⟩) (.bool (decide (((k2 : Int) : Int) < (40 : Int)))) rfl (wanted_at (b := true) true rfl rfl (hD 4 89 (by kernel_rfl))) (exec_ltn (p := (k2 : Int)) (q := 40) rfl (hD 5 90 (by kernel_rfl)) rfl) rfl)) ?_
            refine sv 8 rfl rfl rfl (fun a u hE hD hk => exec_pick (.tmp 89) (.tmp 91) (.const (.bool false)) (.bool true) rfl (hD 4 89 (by kernel_rfl)) (hD 6 91 (by kernel_rfl))) ?_
            exact fsteps_nil
          intro gv w6 hV k6
          rw [show dstsOf _ 8 = [85, 86, 87, 88, 89, 90, 91, 92] by kernel_rfl]
          simp only [List.foldl_cons, List.foldl_nil, List.setIfInBounds_toArray, List.set_cons_succ, List.set_cons_zero, List.drop_succ_cons, List.drop_zero]
          rw [show gv 92 = .bool true from hV 7 92 (by kernel_rfl)]
          clear hV
          refine wpList_nil ?_
          have HC6 := Lib.hid (k6.cell HC.out)
          clear HC
          go_upto_region 19 with fail
          refine wp_text 8 [.eq (.pointer (some ⟨g, 0, none⟩)), .eq (.int .i64 (a_ : Int)), .eq (.int .i64 (j : Int)), .eq (.slice (some ad) n c), .eq (.int .i64 (k2 : Int)), .eq (.pointer (some (ad.add (k2 * 1)))), .eq (.int .i64 xv), .eq (.int .i64 qv)] rfl (by kernel_rfl) ?_ ?_
          · refine sv 1 rfl rfl rfl (fun a u hE hD hk => exec_move (.tmp 9) _ rfl (hE 9 (.pointer (some ⟨g, 0, none⟩)) (by kernel_rfl) (by kernel_rfl))) ?_
            refine sv 2 rfl rfl rfl (fun a u hE hD hk => exec_move (.tmp 10) _ rfl (hE 10 (.int .i64 (a_ : Int)) (by kernel_rfl) (by kernel_rfl))) ?_
            refine sv 3 rfl rfl rfl (fun a u hE hD hk => exec_move (.tmp 11) _ rfl (hE 11 (.int .i64 (j : Int)) (by kernel_rfl) (by kernel_rfl))) ?_
            refine sv 4 rfl rfl rfl (fun a u hE hD hk => exec_move (.tmp 3) _ rfl (hE 3 (.slice (some ad) n c) (by kernel_rfl) (by kernel_rfl))) ?_
            refine sv 5 rfl rfl rfl (fun a u hE hD hk => exec_move (.tmp 16) _ rfl (hE 16 (.int .i64 (k2 : Int)) (by kernel_rfl) (by kernel_rfl))) ?_
            refine sv 6 rfl rfl rfl (fun a u hE hD hk => exec_indexA 43 3 1 (.tmp 98) (.tmp 99) ad n c k2 rfl Try.underlying43 infoI1 (hD 3 98 (by kernel_rfl)) (hD 4 99 (by kernel_rfl)) hin') ?_
            refine sv 7 rfl rfl rfl (fun a u hE hD hk => exec_loadi 3 Try.underlying3 (.tmp 100) (ad.add (k2 * 1)) (.int .i64 xv) rfl (hD 5 100 (by kernel_rfl)) (hk.cell HC6.out)) ?_
            refine fsteps_cons 8 rfl (fun a u hE hD hk => f_call (o := ⟨some 102, _, _, _, _, _⟩) 18 #[.int .i64 xv, .int .i64 1, .int .i64 1048576] rfl (wanted_none rfl _) (exec_call 18 _ [.tmp 101, .const (.int .i64 1), .const (.int .i64 1048576)] _ [.int .i64 xv, .int .i64 1, .int .i64 1048576] Try.func18 (by kernel_rfl) (by kernel_rfl) rfl (show [a.eval (.tmp 101), a.eval (.const (.int .i64 1)), a.eval (.const (.int .i64 1048576))] = [.int .i64 xv, .int .i64 1, .int .i64 1048576] from (by rw [show a.eval (.tmp 101) = .int .i64 xv from (hD 6 101 (by kernel_rfl))] <;> rfl)) u) (by rw [← HQV.out]; exact within_is xv 1 1048576 u (by omega) (by omega) (by omega))) ?_
            exact fsteps_nil
          intro gv w7 hV k7
          rw [show dstsOf _ 8 = [95, 96, 97, 98, 99, 100, 101, 102] by kernel_rfl]
          simp only [List.foldl_cons, List.foldl_nil, List.setIfInBounds_toArray, List.set_cons_succ, List.set_cons_zero, List.drop_succ_cons, List.drop_zero]
          rw [show gv 95 = .pointer (some ⟨g, 0, none⟩) from hV 0 95 (by kernel_rfl)]
          rw [show gv 96 = .int .i64 (a_ : Int) from hV 1 96 (by kernel_rfl)]
          rw [show gv 97 = .int .i64 (j : Int) from hV 2 97 (by kernel_rfl)]
          rw [show gv 102 = .int .i64 qv from hV 7 102 (by kernel_rfl)]
          clear hV
          refine l_call (o := ⟨some 103, _, _, _, _, _⟩) 11 #[.pointer (some ⟨g, 0, none⟩), .int .i64 (a_ : Int), .int .i64 (j : Int), .int .i64 2, .int .i64 qv] rfl (exec_call 11 _ [.tmp 95, .tmp 96, .tmp 97, .const (.int .i64 2), .tmp 102] _ _ Try.func11 (by kernel_rfl) (by kernel_rfl) rfl (by kernel_rfl) _) ?_
          refine (trades_at ((HBx.out.kept k6).kept k7) HOK1.out HEA1.out HEA2.out).mono ?_
          rintro e w8 ⟨rfl, hB8, k8⟩
          refine ⟨_, rfl, ?_⟩
          simp only [Act.put, List.setIfInBounds_toArray, List.set_cons_succ, List.set_cons_zero]
          refine l_val (o := ⟨some 104, _, _, _, _, _⟩) (.bool false) rfl (exec_not _ (.tmp 103) true rfl (by kernel_rfl)) ?_
          simp only [Act.put, List.setIfInBounds_toArray, List.set_cons_succ, List.set_cons_zero]
          refine wpList_nil ?_
          have HB8 : Hid (Blk w8 g 49 (bothB a_ b_ j (S - sumTo (qOf l) (k2 + 1)) t1).lc) := by show Blk _ _ _ _; rw [HNX.out]; exact hB8
          have kw8 := kept_own ((kwr.trans k6).trans k7) hg k8
          clear hB8 k6 k7 k8 kwr HBx HEA1 HEA2 HOK1
          go_wp2
          exact ⟨⟨k2 + 1, by simp, by omega, by omega, HB8, kw8⟩, by simp [intOf]; omega⟩
        · obtain rfl : k2 = k := by omega
          have hcond : (decide ((k2 : Int) < (n : Int)) && decide ((k2 : Int) < 40)) = false := by
            by_cases h1 : (k2 : Int) < (n : Int)
            · rw [decide_eq_false (show ¬ (k2 : Int) < 40 by omega), Bool.and_false]
            · rw [decide_eq_false h1, Bool.false_and]
          rw [HS.out, Int.sub_self] at HBx
          have HP1 : Hid ((bothB a_ b_ j 0 t1).pAt (a_ : Int) (j : Int) = 0) := (pick2_in _ ha32 hj8).trans (both_pa _ _ _ _ _)
          have HP2 : Hid ((bothB a_ b_ j 0 t1).all (a_ : Int) = 0) := ((all_in _ ha32).trans (sumTo_ext (g := fun _ => 0) fun _ _ => rfl)).trans (sumTo_zero _)
          have HOK := Lib.hid (both_ok a_ b_ j (s := 0) (t := t1) (by omega) (by omega) (by omega) (by omega))
          go_upto_region 17 with fail
          refine wp_text 8 [.eq (.int .i64 (k2 : Int)), .eq (.slice A n c), .eq (.int .i64 (n : Int)), .eq (.bool (decide (((k2 : Int) : Int) < ((n : Int) : Int)))), .eq (.bool (decide (((k2 : Int) : Int) < ((n : Int) : Int)))), .cond (decide (((k2 : Int) : Int) < ((n : Int) : Int))) (.eq (.int .i64 (k2 : Int))), .cond (decide (((k2 : Int) : Int) < ((n : Int) : Int))) (.eq (.bool (decide (((k2 : Int) : Int) < (40 : Int))))), .eq (.bool false)] rfl (by kernel_rfl) ?_ ?_
          · refine sv 1 rfl rfl rfl (fun a u hE hD hk => exec_move (.tmp 16) _ rfl (hE 16 (.int .i64 (k2 : Int)) (by kernel_rfl) (by kernel_rfl))) ?_
            refine sv 2 rfl rfl rfl (fun a u hE hD hk => exec_move (.tmp 3) _ rfl (hE 3 (.slice A n c) (by kernel_rfl) (by kernel_rfl))) ?_
            refine sv 3 rfl rfl rfl (fun a u hE hD hk => exec_len (.tmp 86) _ _ slI.und A n c rfl (hD 1 86 (by kernel_rfl))) ?_
            refine sv 4 rfl rfl rfl (fun a u hE hD hk => exec_ltn (p := (k2 : Int)) (q := (n : Int)) rfl (hD 0 85 (by kernel_rfl)) (hD 2 87 (by kernel_rfl))) ?_
            refine sv 5 rfl rfl rfl (fun a u hE hD hk => exec_move (.tmp 88) _ rfl (hD 3 88 (by kernel_rfl))) ?_
            refine fsteps_cons 6 rfl (fun a u hE hD hk => f_if ((decide (((k2 : Int) : Int) < ((n : Int) : Int)))) rfl rfl rfl (hD 4 89 (by kernel_rfl)) (fun hb => f_val (o := ⟨some 90, _, _, _, _, _⟩) (.int .i64 (k2 : Int)) rfl (wanted_b rfl rfl (hD 4 89 (by kernel_rfl)) (eq_true_of hb)) (exec_move (.tmp 16) _ rfl (hE 16 (.int .i64 (k2 : Int)) (by kernel_rfl) (by kernel_rfl))) rfl)) ?_
            refine fsteps_cons 7 rfl (fun a u hE hD hk => f_if ((decide (((k2 : Int) : Int) < ((n : Int) : Int)))) rfl rfl rfl (hD 4 89 (by kernel_rfl)) (fun hb => f_val (o := ⟨some 91, _, _, _, _, _⟩) (.bool (decide (((k2 : Int) : Int) < (40 : Int)))) rfl (wanted_b rfl rfl (hD 4 89 (by kernel_rfl)) (eq_true_of hb)) (exec_ltn (p := (k2 : Int)) (q := 40) rfl ((hD 5 90 (by kernel_rfl)).1 hb) rfl) rfl)) ?_
            refine fsteps_cons 8 rfl (fun a u hE hD hk => f_as (show (((decide (((k2 : Int) : Int) < ((n : Int) : Int))) && (decide (((k2 : Int) : Int) < (40 : Int)))) : Bool) = false from hcond) (f_val (o := ⟨some 92, _, _, _, _, _⟩) (.bool ((decide (((k2 : Int) : Int) < ((n : Int) : Int))) && (decide (((k2 : Int) : Int) < (40 : Int))))) rfl (wanted_none rfl _) (exec_pickand (.tmp 89) (.tmp 91) (.const (.bool false)) ((decide (((k2 : Int) : Int) < ((n : Int) : Int)))) ((decide (((k2 : Int) : Int) < (40 : Int)))) rfl (hD 4 89 (by kernel_rfl)) (fun hb2 => ((hD 6 91 (by kernel_rfl)).1 hb2)) rfl) rfl)) ?_
            exact fsteps_nil
          intro gv w6 hV k6
          rw [show dstsOf _ 8 = [85, 86, 87, 88, 89, 90, 91, 92] by kernel_rfl]
          simp only [List.foldl_cons, List.foldl_nil, List.setIfInBounds_toArray, List.set_cons_succ, List.set_cons_zero, List.drop_succ_cons, List.drop_zero]
          rw [show gv 92 = .bool false from hV 7 92 (by kernel_rfl)]
          clear hV
          refine wpList_nil ?_
          have HB6 := Lib.hid (HBx.out.kept k6)
          have kw6 := kwr.trans k6
          clear hcond hlt hlt2 k6 HBx kwr
          go_upto_region 21 with fail
          refine wp_text 15 [.eq (.pointer (some ⟨g, 0, none⟩)), .eq (.int .i64 (a_ : Int)), .eq (.int .i64 (j : Int)), .eq (.int .i64 0), .eq (.bool true), .eq (.bool true), .eq (.pointer (some ⟨g, 0, none⟩)), .eq (.int .i64 (a_ : Int)), .eq (.int .i64 0), .eq (.bool true), .eq (.bool true), .eq (.bool true), .eq (.bool true), .eq (.bool true), .eq (.bool true)] rfl (by kernel_rfl) ?_ ?_
          · refine sv 1 rfl rfl rfl (fun a u hE hD hk => exec_move (.tmp 9) _ rfl (hE 9 (.pointer (some ⟨g, 0, none⟩)) (by kernel_rfl) (by kernel_rfl))) ?_
            refine sv 2 rfl rfl rfl (fun a u hE hD hk => exec_move (.tmp 10) _ rfl (hE 10 (.int .i64 (a_ : Int)) (by kernel_rfl) (by kernel_rfl))) ?_
            refine sv 3 rfl rfl rfl (fun a u hE hD hk => exec_move (.tmp 11) _ rfl (hE 11 (.int .i64 (j : Int)) (by kernel_rfl) (by kernel_rfl))) ?_
            refine fsteps_cons 4 rfl (fun a u hE hD hk => f_call (o := ⟨some 108, _, _, _, _, _⟩) 12 #[.pointer (some ⟨g, 0, none⟩), .int .i64 (a_ : Int), .int .i64 (j : Int)] rfl (wanted_none rfl _) (exec_call 12 _ [.tmp 105, .tmp 106, .tmp 107] _ [.pointer (some ⟨g, 0, none⟩), .int .i64 (a_ : Int), .int .i64 (j : Int)] Try.func12 (by kernel_rfl) (by kernel_rfl) rfl (show [a.eval (.tmp 105), a.eval (.tmp 106), a.eval (.tmp 107)] = [.pointer (some ⟨g, 0, none⟩), .int .i64 (a_ : Int), .int .i64 (j : Int)] from (by rw [show a.eval (.tmp 105) = .pointer (some ⟨g, 0, none⟩) from (hD 0 105 (by kernel_rfl)), show a.eval (.tmp 106) = .int .i64 (a_ : Int) from (hD 1 106 (by kernel_rfl)), show a.eval (.tmp 107) = .int .i64 (j : Int) from (hD 2 107 (by kernel_rfl))] <;> rfl)) u) (pos_at (HB6.out.kept hk) HP1.out)) ?_
            refine fsteps_cons 5 rfl (fun a u hE hD hk => f_as (show ((decide ((0 : Int) = (0 : Int))) : Bool) = true from decide_eq_true rfl) (f_val (o := ⟨some 109, _, _, _, _, _⟩) (.bool (decide ((0 : Int) = (0 : Int)))) rfl (wanted_none rfl _) (exec_eqn (p := 0) (q := 0) rfl (hD 3 108 (by kernel_rfl)) rfl) rfl)) ?_
            refine sv 6 rfl rfl rfl (fun a u hE hD hk => exec_move (.tmp 109) _ rfl (hD 4 109 (by kernel_rfl))) ?_
            refine fsteps_cons 7 rfl (fun a u hE hD hk => f_val (o := ⟨some 111, _, _, _, _, _⟩) (.pointer (some ⟨g, 0, none⟩)) rfl (wanted_at (b := true) true rfl rfl (hD 5 110 (by kernel_rfl))) (exec_move (.tmp 9) _ rfl (hE 9 (.pointer (some ⟨g, 0, none⟩)) (by kernel_rfl) (by kernel_rfl))) rfl) ?_
            refine fsteps_cons 8 rfl (fun a u hE hD hk => f_val (o := ⟨some 112, _, _, _, _, _⟩) (.int .i64 (a_ : Int)) rfl (wanted_at (b := true) true rfl rfl (hD 5 110 (by kernel_rfl))) (exec_move (.tmp 10) _ rfl (hE 10 (.int .i64 (a_ : Int)) (by kernel_rfl) (by kernel_rfl))) rfl) ?_
            refine fsteps_cons 9 rfl (fun a u hE hD hk => f_call (o := ⟨some 113, _, _, _, _, _⟩) 10 #[.pointer (some ⟨g, 0, none⟩), .int .i64 (a_ : Int)] rfl (wanted_at (b := true) true rfl rfl (hD 5 110 (by kernel_rfl))) (exec_call 10 _ [.tmp 111, .tmp 112] _ [.pointer (some ⟨g, 0, none⟩), .int .i64 (a_ : Int)] Try.func10 (by kernel_rfl) (by kernel_rfl) rfl (show [a.eval (.tmp 111), a.eval (.tmp 112)] = [.pointer (some ⟨g, 0, none⟩), .int .i64 (a_ : Int)] from (by rw [show a.eval (.tmp 111) = .pointer (some ⟨g, 0, none⟩) from (hD 6 111 (by kernel_rfl)), show a.eval (.tmp 112) = .int .i64 (a_ : Int) from (hD 7 112 (by kernel_rfl))] <;> rfl)) u) (all_at (HB6.out.kept hk) HOK.out HP2.out)) ?_
            refine fsteps_cons 10 rfl (fun a u hE hD hk => f_as (show ((decide ((0 : Int) = (0 : Int))) : Bool) = true from decide_eq_true rfl) (f_val (o := ⟨some 114, _, _, _, _, _⟩) (.bool (decide ((0 : Int) = (0 : Int)))) rfl (wanted_at (b := true) true rfl rfl (hD 5 110 (by kernel_rfl))) (exec_eqn (p := 0) (q := 0) rfl (hD 8 113 (by kernel_rfl)) rfl) rfl)) ?_
            refine sv 11 rfl rfl rfl (fun a u hE hD hk => exec_pick (.tmp 110) (.tmp 114) (.const (.bool false)) (.bool true) rfl (hD 5 110 (by kernel_rfl)) (hD 9 114 (by kernel_rfl))) ?_
            refine sv 12 rfl rfl rfl (fun a u hE hD hk => exec_move (.tmp 115) _ rfl (hD 10 115 (by kernel_rfl))) ?_
            refine fsteps_cons 13 rfl (fun a u hE hD hk => f_call (o := ⟨some 117, _, _, _, _, _⟩) 3 #[] rfl (wanted_at (b := true) true rfl rfl (hD 11 116 (by kernel_rfl))) (exec_call 3 _ [] _ [] Try.func3 (by kernel_rfl) (by kernel_rfl) rfl rfl u) (acctRuns_is u)) ?_
            refine sv 14 rfl rfl rfl (fun a u hE hD hk => exec_pick (.tmp 116) (.tmp 117) (.const (.bool false)) (.bool true) rfl (hD 11 116 (by kernel_rfl)) (hD 12 117 (by kernel_rfl))) ?_
            refine sv 15 rfl rfl rfl (fun a u hE hD hk => exec_assign (.tmp 118) _ rfl (hD 13 118 (by kernel_rfl))) ?_
            exact fsteps_nil
          intro gv w7 hV k7
          rw [show dstsOf _ 15 = [105, 106, 107, 108, 109, 110, 111, 112, 113, 114, 115, 116, 117, 118, 8] by kernel_rfl]
          simp only [List.foldl_cons, List.foldl_nil, List.setIfInBounds_toArray, List.set_cons_succ, List.set_cons_zero, List.drop_succ_cons, List.drop_zero]
          rw [show gv 8 = .bool true from hV 14 8 (by kernel_rfl)]
          clear hV
          refine wpList_nil ?_
          have kw7 := kw6.trans k7
          go_wp2
          go_ret
          exact ⟨rfl, kw7⟩
end Go.Proofs.Ytlkkmpleafpliaa
