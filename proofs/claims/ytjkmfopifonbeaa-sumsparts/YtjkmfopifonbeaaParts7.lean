/-
  The contract of jobberlaw7.SumsParts: any numbers, any cut: it answers true. No condition.
-/
import Derived.Test.YtjkmfopifonbeaaInts
import Derived.Test.YtjkmfopifonbeaaStep
import Derived.Test.YtjkmfopifonbeaaNum
import Derived.Test.YtjkmfopifonbeaaWithin
import Derived.Deep.DeepCutAuto
namespace Go.Proofs.Ytjkmfopifonbeaa
open Go.RowKit
set_option linter.unusedVariables false

/-! numbers -/
def msk (x : Int) : Int := x % 9223372036854775808
theorem msk_in (x : Int) : 0 ≤ msk x ∧ msk x ≤ 9223372036854775807 := by unfold msk; omega
theorem i64_and63 (n : Int) : bits .and .i64 n 9223372036854775807 = msk n := by
  have h63 : (BitVec.ofInt 64 9223372036854775807).toNat = 2 ^ 63 - 1 := by decide
  have key : (BitVec.ofInt 64 n &&& BitVec.ofInt 64 9223372036854775807).toNat = (n % ((2 ^ 64 : Nat) : Int)).toNat % 2 ^ 63 := by
    rw [BitVec.toNat_and, BitVec.toNat_ofInt, h63, Nat.and_two_pow_sub_one_eq_mod]
  show IntKind.i64.wrap ((BitVec.ofInt 64 n &&& BitVec.ofInt 64 9223372036854775807).toNat : Nat) = msk n
  rw [key, IntKind.wrap_i64]
  unfold msk
  omega
def Nn (l : List Int) : Prop := ∀ x ∈ l, 0 ≤ x ∧ x ≤ 9223372036854775807
theorem Nn.sum {l : List Int} (h : Nn l) : 0 ≤ l.sum := by
  induction l with
  | nil => simp
  | cons x l ih =>
    rw [List.sum_cons]
    have := ih (fun y hy => h y (by simp [hy]))
    have := h x (by simp)
    omega
theorem sumM_nn (l : List Int) (s : Int) (h : Nn l) (h0 : 0 ≤ s) (h1 : s ≤ 9223372036854775807) : sumM s l = if 9223372036854775807 < s + l.sum then (0, 3) else (s + l.sum, 0) := by
  induction l generalizing s with
  | nil =>
    rw [if_neg (by simp; omega)]
    simp [sumM]
  | cons x l ih =>
    have hx := h x (by simp)
    have hl : Nn l := fun y hy => h y (by simp [hy])
    have hs := hl.sum
    have e : plusM s x = if 9223372036854775807 < s + x then (0, 3) else (s + x, 0) := by unfold plusM; rw [if_neg (by omega)]
    rw [sumM_cons, List.sum_cons, e]
    by_cases h2 : 9223372036854775807 < s + x
    · rw [if_pos h2, if_pos (show 9223372036854775807 < s + (x + l.sum) by omega)]
      rfl
    · rw [if_neg h2]
      simp only [if_true]
      rw [ih (s + x) hl (by omega) (by omega), Int.add_assoc]
theorem Nn.in64 {l : List Int} (h : Nn l) : ∀ x ∈ l, In64 x := fun x hx => ⟨by have := h x hx; omega, (h x hx).2⟩
theorem Nn.take {l : List Int} (h : Nn l) (k : Nat) : Nn (l.take k) := fun x hx => h x (List.mem_of_mem_take hx)
theorem Nn.drop {l : List Int} (h : Nn l) (k : Nat) : Nn (l.drop k) := fun x hx => h x (List.mem_of_mem_drop hx)
theorem Nn.rev {l : List Int} (h : Nn l) : Nn l.reverse := fun x hx => h x (List.mem_reverse.1 hx)
theorem sum_rev (l : List Int) : l.reverse.sum = l.sum := by
  induction l with
  | nil => rfl
  | cons x l ih => rw [List.reverse_cons, List.sum_append, ih, List.sum_cons]; simp; omega
theorem sum_cut (l : List Int) (k : Nat) : l.sum = (l.take k).sum + (l.drop k).sum := by
  rw [← List.sum_append, List.take_append_drop]
theorem sums_rev (l : List Int) (h : Nn l) : sumM 0 l.reverse = sumM 0 l := by
  rw [sumM_nn _ 0 h.rev (by omega) (by omega), sumM_nn _ 0 h (by omega) (by omega), sum_rev]
/-- a sum of two parts -/
theorem sums_cut (l : List Int) (h : Nn l) (k : Nat) : (((sumM 0 (l.take k)).2 ≠ 0 ∨ (sumM 0 (l.drop k)).2 ≠ 0) → (sumM 0 l).2 = 3) ∧
    ((sumM 0 (l.take k)).2 = 0 → (sumM 0 (l.drop k)).2 = 0 → plusM (sumM 0 (l.take k)).1 (sumM 0 (l.drop k)).1 = sumM 0 l ∧ In64 (sumM 0 (l.take k)).1 ∧ In64 (sumM 0 (l.drop k)).1) := by
  have e := sum_cut l k
  have h1 := (h.take k).sum
  have h2 := (h.drop k).sum
  rw [sumM_nn _ 0 (h.take k) (by omega) (by omega), sumM_nn _ 0 (h.drop k) (by omega) (by omega), sumM_nn _ 0 h (by omega) (by omega), e]
  generalize (l.take k).sum = p at h1
  generalize (l.drop k).sum = q at h2
  simp only [Int.zero_add]
  refine ⟨fun hh => ?_, fun f g => ?_⟩
  · by_cases a1 : 9223372036854775807 < p + q
    · rw [if_pos a1]
    · rw [if_neg (show ¬ 9223372036854775807 < p by omega), if_neg (show ¬ 9223372036854775807 < q by omega)] at hh
      simp at hh
  · have f1 : ¬ 9223372036854775807 < p := fun h => by rw [if_pos h] at f; cases f
    have g1 : ¬ 9223372036854775807 < q := fun h => by rw [if_pos h] at g; cases g
    rw [if_neg f1, if_neg g1]
    simp only
    refine ⟨?_, ?_, ?_⟩
    · unfold plusM
      rw [if_neg (by omega)]
    · unfold In64; omega
    · unfold In64; omega
/-- what the law gathers -/
def ownOf (l : List Int) : List Int := (l.take 10).map msk
theorem own_next (l : List Int) (i : Nat) (x : Int) (h10 : i < 10) (h : l[i]? = some x) : ownOf (l.take (i + 1)) = ownOf (l.take i) ++ [msk x] := by
  unfold ownOf
  rw [List.take_take, List.take_take, Nat.min_eq_right (by omega), Nat.min_eq_right (by omega), List.take_add_one, h]
  simp
theorem own_all (l : List Int) (i : Nat) (h : l.length ≤ i ∨ 10 ≤ i) : ownOf (l.take i) = ownOf l := by
  unfold ownOf
  rw [List.take_take]
  by_cases h10 : 10 ≤ i
  · rw [Nat.min_eq_left h10]
  · rw [Nat.min_eq_right (by omega), List.take_of_length_le (by omega), List.take_of_length_le (show l.length ≤ 10 by omega)]
theorem own_nn (l : List Int) : Nn (ownOf l) := by
  intro x hx
  simp only [ownOf, List.mem_map] at hx
  obtain ⟨y, _, rfl⟩ := hx
  exact msk_in y

section
variable {a : Act} {o : Oper} {u : World}
theorem exec_and63 (x : Operand) (t' : TypeId) (p : Int) (hop : o.op = .binOp .and 3 x (.const (.int .i64 9223372036854775807)) t') (hx : a.eval x = .int .i64 p) : (execOp a.eval o).run Try.prog u = .ok (.value (.int .i64 (msk p))) u := by
  have he : a.eval (.const (.int .i64 9223372036854775807)) = .int .i64 9223372036854775807 := rfl
  unfold execOp
  simp only [hop, hx, he]
  simp [go_sem, i64_and63]
theorem exec_indexA (t e : TypeId) (k : Nat) (x y : Operand) (ad : Addr) (n c i : Nat) (hop : o.op = .indexAddr t x y) (ht : Try.prog.underlying t = some (.slice e)) (hk : (Try.prog.info? e).map (·.size) = some k)
    (hx : a.eval x = .slice (some ad) n c) (hy : a.eval y = .int .i64 (i : Int)) (hi : i < n) : (execOp a.eval o).run Try.prog u = .ok (.value (.pointer (some (ad.add (i * k))))) u := by
  have hin : (0 : Int) ≤ (i : Int) ∧ (i : Int) < (n : Int) := by omega
  cases hq : Try.prog.info? e with
  | none => simp [hq] at hk
  | some t0 =>
    have hs : t0.size = k := by simpa [hq] using hk
    unfold execOp
    simp only [hop, hx, hy]
    simp [Instr.indexAt, asIntOf, run_underlying ht, Sem.run_bind, hin, sizeOf, typeInfo, hq, hs, hi]
theorem elemI : Try.prog.elem 27 = 3 := by kernel_rfl
theorem exec_fromI (x y : Operand) (v : Value) (L : Int) (vr : Value) (hop : o.op = .slice 27 x (some y) none none) (hx : a.eval x = v) (hy : a.eval y = .int .i64 L) (h : ∀ u, (Instr.slice 27 v (some (.int .i64 L)) none none).run Try.prog u = .ok vr u) : (execOp a.eval o).run Try.prog u = .ok (.value vr) u := by
  unfold execOp
  simp only [hop, hx, Option.map_some, Option.map_none, hy]
  have he : Try.prog.underlying 27 = some (.slice (Try.prog.elem 27)) := by rw [elemI]; exact Try.underlying27
  rw [Sem.run_bind, run_sliceAt_slice (h := he), h]
  rfl
end
/-- x[l:] of ints -/
theorem slice_lI (A : Option Addr) (n c l : Nat) (xs : List Int) (hl : xs.length = n) (hln : l ≤ n) (hnc : n ≤ c) (hA : A = none → c = 0) :
    ∃ A', (∀ u, (Instr.slice 27 (.slice A n c) (some (.int .i64 (l : Int))) none none).run Try.prog u = .ok (.slice A' (n - l) (c - l)) u) ∧ ∀ w, RI w A xs → RI w A' (xs.drop l) := by
  obtain ⟨i0, hi0, hz0, hz1, hz2⟩ := info_parts infoI
  have hr := fun u => run_slice_l (P := Try.prog) (w := u) 27 A n c Try.underlying27 .i64 (l : Int) (by omega) (by omega)
  cases A with
  | none =>
    have := hA rfl
    obtain rfl : l = 0 := by omega
    refine ⟨none, fun u => ?_, fun w hx => by simpa using hx⟩
    rw [hr, elemI]
    simp [sizeOf, typeInfo, hi0, sliced]
  | some ad =>
    by_cases e : c = l
    · refine ⟨some ad, fun u => ?_, fun w hx => ?_⟩
      · rw [hr, elemI]
        simp [sizeOf, typeInfo, hi0, hz1, sliced, e]
      · rw [List.drop_of_length_le (by omega)]
        exact RI.nil _ _
    · refine ⟨some (ad.add l), fun u => ?_, fun w hx => hx.drop l⟩
      rw [hr, elemI]
      simp [sizeOf, typeInfo, hi0, hz1, sliced, e]

set_option maxRecDepth 100000 in
set_option maxHeartbeats 1600000 in
theorem sumsParts_any (v : Value) (l : List Int) (cut : Int) (w : World) (hv : IntsA w v l) :
    Calls Try.prog 6 #[v, .int .i64 cut] w fun e w' => e = .returned (.bool true) ∧ Kept w w' := by
  obtain ⟨E, nl, cl, rfl, hll, hR, -, hnl, hcl, -⟩ := hv
  unfold maxLen at hcl
  have HR := Lib.hid hR
  clear hR
  obtain ⟨base, hbase⟩ : ∃ base, base = w.heap.size := ⟨_, rfl⟩
  have hb0 : base ≤ w.heap.size := by omega
  have HBS := Lib.hid hbase
  clear hbase
  go_enter Try.func6, Try.ntmps6
  go_wp2_with fail
  go_loopw [5, 7] (fun v q wr => ∃ (i : Nat) (A : Option Addr) (c : Nat), i ≤ 10 ∧ i ≤ nl ∧ v = .slice A i c ∧ q = .int .i64 i ∧ Hid (OwnI wr base A i c (ownOf (l.take i))) ∧ Kept w wr) (fun _ q _ => 10 - (intOf q).toNat)
  case atStart => exact ⟨0, none, 0, Nat.zero_le _, Nat.zero_le _, rfl, rfl, OwnI.nil _ _, Kept.refl _⟩
  case round =>
    obtain ⟨i, A, c, hi10, hil, rfl, rfl, HO, hkr⟩ := hrel
    by_cases h12 : i < nl ∧ i < 10
    · obtain ⟨h1, h2⟩ := h12
      have hil2 : i < l.length := by rw [hll.out]; exact h1
      obtain ⟨ad, rfl, hc⟩ := HR.out i l[i] (List.getElem?_eq_getElem hil2)
      have HF := Lib.hid (own_next l i _ h2 (List.getElem?_eq_getElem hil2))
      have HC : Hid (wr.cell? (ad.add (i * 1)) = some (.int .i64 l[i])) := by show _ = _; rw [Nat.mul_one]; exact hkr.cell hc
      generalize l[i] = x at hc HF HC
      clear hc hil2
      go_upto_region 5 with fail
      refine wp_region_lit ?_
      refine l_val (o := ⟨some 30, _, _, _, _, _⟩) (.slice A i c) rfl (exec_move (.tmp 5) (.slice A i c) rfl (by kernel_rfl)) ?_
      simp only [Act.put, List.setIfInBounds_toArray, List.set_cons_succ, List.set_cons_zero]
      refine l_val (o := ⟨some 31, _, _, _, _, _⟩) (.slice (some ad) nl cl) rfl (exec_move (.tmp 0) (.slice (some ad) nl cl) rfl (by kernel_rfl)) ?_
      simp only [Act.put, List.setIfInBounds_toArray, List.set_cons_succ, List.set_cons_zero]
      refine l_val (o := ⟨some 32, _, _, _, _, _⟩) (.int .i64 (i : Int)) rfl (exec_move (.tmp 7) (.int .i64 (i : Int)) rfl (by kernel_rfl)) ?_
      simp only [Act.put, List.setIfInBounds_toArray, List.set_cons_succ, List.set_cons_zero]
      refine l_val (o := ⟨some 33, _, _, _, _, _⟩) (.pointer (some (ad.add (i * 1)))) rfl (exec_indexA 27 3 1 (.tmp 31) (.tmp 32) ad nl cl i rfl Try.underlying27 infoI1 (by kernel_rfl) (by kernel_rfl) h1) ?_
      simp only [Act.put, List.setIfInBounds_toArray, List.set_cons_succ, List.set_cons_zero]
      refine l_val (o := ⟨some 34, _, _, _, _, _⟩) (.int .i64 x) rfl (exec_loadi 3 Try.underlying3 (.tmp 33) (ad.add (i * 1)) _ rfl (by kernel_rfl) HC.out) ?_
      simp only [Act.put, List.setIfInBounds_toArray, List.set_cons_succ, List.set_cons_zero]
      refine l_val (o := ⟨some 35, _, _, _, _, _⟩) (.int .i64 (msk x)) rfl (exec_and63 (.tmp 34) _ x rfl (by kernel_rfl)) ?_
      simp only [Act.put, List.setIfInBounds_toArray, List.set_cons_succ, List.set_cons_zero]
      refine l_new (o := ⟨some 36, _, _, _, _, _⟩) _ _ rfl (exec_one 27 3 (.tmp 35) (.int .i64 (msk x)) (.int .i64 0) rfl Try.underlying27 infoI2 rfl (by kernel_rfl)) ?_
      have O1 := OwnI.one wr (msk x) base (by have := hkr.size; omega)
      have k1 : Kept wr (wr.alloc (.cells #[.int .i64 (msk x)] 3)) := Keep.alloc (Keep.refl _ wr) _
      generalize wr.alloc (.cells #[.int .i64 (msk x)] 3) = w1 at O1 k1 ⊢
      generalize wr.heap.size = g1 at O1 ⊢
      simp only [Act.put, List.setIfInBounds_toArray, List.set_cons_succ, List.set_cons_zero]
      refine wpl_append_i (o := ⟨some 37, _, _, _, _, _⟩) w1 rfl (.tmp 30) (.tmp 36) rfl base i c A (ownOf (l.take i)) (by kernel_rfl) (HO.out.kept k1) (by have := (hkr.trans k1).size; omega) (some ⟨g1, 0, none⟩) 1 1 [msk x] (by kernel_rfl) rfl O1.ri (fun h => by cases h) (by omega) ?_
      intro w2 A2 c2 O2 k2
      have kw2 : Kept w w2 := Keep.trans (hkr.trans k1) k2 (fun j hj ⟨ad, e, h⟩ => by obtain ⟨g, rfl, hb, _⟩ := OwnG.at_ HO.out ad e; have := HBS.out; simp at h; omega)
      rw [← HF.out] at O2
      simp only [Act.put, List.setIfInBounds_toArray, List.set_cons_succ, List.set_cons_zero]
      refine l_val (o := ⟨some 5, _, _, _, _, _⟩) (.slice A2 (i + 1) c2) rfl (exec_assign (.tmp 37) (.slice A2 (i + 1) c2) rfl (by kernel_rfl)) ?_
      simp only [Act.put, List.setIfInBounds_toArray, List.set_cons_succ, List.set_cons_zero]
      refine wpList_nil ?_
      have HO2 := Lib.hid O2
      clear O1 O2 k1 k2 HO HC HF hkr
      go_wp2
      exact ⟨⟨i + 1, A2, c2, by omega, by omega, rfl, by go_num, HO2, kw2⟩, by simp [intOf]; omega⟩
    · go_upto_region 3 with fail
      refine wp_text 8 [.eq (.int .i64 (i : Int)), .eq (.slice E nl cl), .eq (.int .i64 (nl : Int)), .eq (.bool (decide (((i : Int) : Int) < ((nl : Int) : Int)))), .eq (.bool (decide (((i : Int) : Int) < ((nl : Int) : Int)))), .cond (decide (((i : Int) : Int) < ((nl : Int) : Int))) (.eq (.int .i64 (i : Int))), .cond (decide (((i : Int) : Int) < ((nl : Int) : Int))) (.eq (.bool (decide (((i : Int) : Int) < (10 : Int))))), .eq (.bool false)] rfl (by kernel_rfl) ?_ ?_
      · refine fsteps_cons 1 rfl (fun a u hE hD hk => f_val (o := ⟨some 20, _, _, _, _, _⟩) (.int .i64 (i : Int)) rfl (wanted_none rfl _) (exec_move (.tmp 7) (.int .i64 (i : Int)) rfl (hE 7 (.int .i64 (i : Int)) (by kernel_rfl) (by kernel_rfl))) rfl) ?_
        refine fsteps_cons 2 rfl (fun a u hE hD hk => f_val (o := ⟨some 21, _, _, _, _, _⟩) (.slice E nl cl) rfl (wanted_none rfl _) (exec_move (.tmp 0) (.slice E nl cl) rfl (hE 0 (.slice E nl cl) (by kernel_rfl) (by kernel_rfl))) rfl) ?_
        refine fsteps_cons 3 rfl (fun a u hE hD hk => f_val (o := ⟨some 22, _, _, _, _, _⟩) (.int .i64 (nl : Int)) rfl (wanted_none rfl _) (exec_len (.tmp 21) 27 3 Try.underlying27 E nl cl rfl (hD 1 21 (by kernel_rfl))) rfl) ?_
        refine fsteps_cons 4 rfl (fun a u hE hD hk => f_val (o := ⟨some 23, _, _, _, _, _⟩) (.bool (decide (((i : Int) : Int) < ((nl : Int) : Int)))) rfl (wanted_none rfl _) (exec_ltn (p := (i : Int)) (q := (nl : Int)) rfl (hD 0 20 (by kernel_rfl)) (hD 2 22 (by kernel_rfl))) rfl) ?_
        refine fsteps_cons 5 rfl (fun a u hE hD hk => f_val (o := ⟨some 24, _, _, _, _, _⟩) (.bool (decide (((i : Int) : Int) < ((nl : Int) : Int)))) rfl (wanted_none rfl _) (exec_move (.tmp 23) (.bool (decide (((i : Int) : Int) < ((nl : Int) : Int)))) rfl (hD 3 23 (by kernel_rfl))) rfl) ?_
        refine fsteps_cons 6 rfl (fun a u hE hD hk => f_if ((decide (((i : Int) : Int) < ((nl : Int) : Int)))) rfl rfl rfl (hD 4 24 (by kernel_rfl)) (fun hb => f_val (o := ⟨some 25, _, _, _, _, _⟩) (.int .i64 (i : Int)) rfl (wanted_b rfl rfl (hD 4 24 (by kernel_rfl)) (eq_true_of hb)) (exec_move (.tmp 7) (.int .i64 (i : Int)) rfl (hE 7 (.int .i64 (i : Int)) (by kernel_rfl) (by kernel_rfl))) rfl)) ?_
        refine fsteps_cons 7 rfl (fun a u hE hD hk => f_if ((decide (((i : Int) : Int) < ((nl : Int) : Int)))) rfl rfl rfl (hD 4 24 (by kernel_rfl)) (fun hb => f_val (o := ⟨some 26, _, _, _, _, _⟩) (.bool (decide (((i : Int) : Int) < (10 : Int)))) rfl (wanted_b rfl rfl (hD 4 24 (by kernel_rfl)) (eq_true_of hb)) (exec_ltn (p := (i : Int)) (q := 10) rfl ((hD 5 25 (by kernel_rfl)).1 hb) rfl) rfl)) ?_
        refine fsteps_cons 8 rfl (fun a u hE hD hk => f_as (show (((decide (((i : Int) : Int) < ((nl : Int) : Int))) && (decide (((i : Int) : Int) < (10 : Int)))) : Bool) = false from (by simp; omega)) (f_val (o := ⟨some 27, _, _, _, _, _⟩) (.bool ((decide (((i : Int) : Int) < ((nl : Int) : Int))) && (decide (((i : Int) : Int) < (10 : Int))))) rfl (wanted_none rfl _) (exec_pickand (.tmp 24) (.tmp 26) (.const (.bool false)) ((decide (((i : Int) : Int) < ((nl : Int) : Int)))) ((decide (((i : Int) : Int) < (10 : Int)))) rfl (hD 4 24 (by kernel_rfl)) (fun hb2 => ((hD 6 26 (by kernel_rfl)).1 hb2)) rfl) rfl)) ?_
        exact fsteps_nil
      intro gv w1 hV k1
      rw [show dstsOf _ 8 = [20, 21, 22, 23, 24, 25, 26, 27] by kernel_rfl]
      simp only [List.foldl_cons, List.foldl_nil, List.setIfInBounds_toArray, List.set_cons_succ, List.set_cons_zero, List.drop_succ_cons, List.drop_zero]
      rw [show gv 27 = .bool false from hV 7 27 (by kernel_rfl)]
      clear hV
      refine wpList_nil ?_
      have HE : Hid (ownOf (l.take i) = ownOf l) := own_all l i (by rw [hll.out]; omega)
      have HN := Lib.hid (own_nn l)
      have HO1 : Hid (OwnI w1 base A i c (ownOf l)) := by rw [← HE.out]; exact HO.out.kept k1
      have hlen := Lib.hid HO1.out.len
      have kw1 := hkr.trans k1
      generalize ownOf l = own at HN HO1 hlen HE
      have hcap := OwnG.cap HO1.out
      have hc1 : c ≤ 9223372036854775807 := by have := hcap.2.1; unfold maxLen at this; omega
      have hic := hcap.1
      have HCN := Lib.hid hcap.2.2
      clear HE HO hkr k1 h12 hcap
      obtain ⟨b2, hb2⟩ : ∃ b, b = w1.heap.size := ⟨_, rfl⟩
      have hb21 : b2 ≤ w1.heap.size := by omega
      have hb22 : w1.heap.size ≤ b2 := by omega
      clear hb2
      go_wp2_with fail
      go_loopw [6, 8] (fun v q wr => ∃ (j : Nat) (B : Option Addr) (d : Nat), j ≤ i ∧ v = .slice B j d ∧ q = .int .i64 ((i : Int) - 1 - (j : Int)) ∧ Hid (OwnI wr b2 B j d (own.reverse.take j)) ∧ Kept w1 wr) (fun _ q _ => (intOf q + 1).toNat)
      case atStart => exact ⟨0, none, 0, Nat.zero_le _, rfl, by simp, OwnI.nil _ _, Kept.refl _⟩
      case round =>
        obtain ⟨j, B, d, hj, rfl, rfl, HB, hkr⟩ := hrel
        by_cases h3 : j < i
        · obtain ⟨m, hm⟩ : ∃ m : Nat, (i : Int) - 1 - (j : Int) = (m : Int) := ⟨i - 1 - j, by omega⟩
          have hmi : m < i := by omega
          have hml : m < own.length := by rw [hlen.out]; exact hmi
          obtain ⟨ad, rfl, hc⟩ := HO1.out.ri m own[m] (List.getElem?_eq_getElem hml)
          have HF : Hid (own.reverse.take (j + 1) = own.reverse.take j ++ [own[m]]) := by
            show _ = _
            rw [List.take_add_one, List.getElem?_reverse (by rw [hlen.out]; exact h3), show own.length - 1 - j = m by rw [hlen.out]; omega, List.getElem?_eq_getElem hml]
            rfl
          have HC : Hid (wr.cell? (ad.add (m * 1)) = some (.int .i64 own[m])) := by show _ = _; rw [Nat.mul_one]; exact hkr.cell hc
          generalize own[m] = x at hc HF HC
          clear hc hml
          rw [hm]
          go_upto_region 9 with fail
          refine wp_region_lit ?_
          refine l_val (o := ⟨some 45, _, _, _, _, _⟩) (.slice B j d) rfl (exec_move (.tmp 6) (.slice B j d) rfl (by kernel_rfl)) ?_
          simp only [Act.put, List.setIfInBounds_toArray, List.set_cons_succ, List.set_cons_zero]
          refine l_val (o := ⟨some 46, _, _, _, _, _⟩) (.slice (some ad) i c) rfl (exec_move (.tmp 5) (.slice (some ad) i c) rfl (by kernel_rfl)) ?_
          simp only [Act.put, List.setIfInBounds_toArray, List.set_cons_succ, List.set_cons_zero]
          refine l_val (o := ⟨some 47, _, _, _, _, _⟩) (.int .i64 (m : Int)) rfl (exec_move (.tmp 8) (.int .i64 (m : Int)) rfl (by kernel_rfl)) ?_
          simp only [Act.put, List.setIfInBounds_toArray, List.set_cons_succ, List.set_cons_zero]
          refine l_val (o := ⟨some 48, _, _, _, _, _⟩) (.pointer (some (ad.add (m * 1)))) rfl (exec_indexA 27 3 1 (.tmp 46) (.tmp 47) ad i c m rfl Try.underlying27 infoI1 (by kernel_rfl) (by kernel_rfl) hmi) ?_
          simp only [Act.put, List.setIfInBounds_toArray, List.set_cons_succ, List.set_cons_zero]
          refine l_val (o := ⟨some 49, _, _, _, _, _⟩) (.int .i64 x) rfl (exec_loadi 3 Try.underlying3 (.tmp 48) (ad.add (m * 1)) _ rfl (by kernel_rfl) HC.out) ?_
          simp only [Act.put, List.setIfInBounds_toArray, List.set_cons_succ, List.set_cons_zero]
          refine l_new (o := ⟨some 50, _, _, _, _, _⟩) _ _ rfl (exec_one 27 3 (.tmp 49) (.int .i64 x) (.int .i64 0) rfl Try.underlying27 infoI2 rfl (by kernel_rfl)) ?_
          have O1 := OwnI.one wr x b2 (by have := hkr.size; omega)
          have k1 : Kept wr (wr.alloc (.cells #[.int .i64 x] 3)) := Keep.alloc (Keep.refl _ wr) _
          generalize wr.alloc (.cells #[.int .i64 x] 3) = w2 at O1 k1 ⊢
          generalize wr.heap.size = g1 at O1 ⊢
          simp only [Act.put, List.setIfInBounds_toArray, List.set_cons_succ, List.set_cons_zero]
          refine wpl_append_i (o := ⟨some 51, _, _, _, _, _⟩) w2 rfl (.tmp 45) (.tmp 50) rfl b2 j d B (own.reverse.take j) (by kernel_rfl) (HB.out.kept k1) (by have := (hkr.trans k1).size; omega) (some ⟨g1, 0, none⟩) 1 1 [x] (by kernel_rfl) rfl O1.ri (fun h => by cases h) (by omega) ?_
          intro w3 B2 d2 O2 k2
          have kw3 : Kept w1 w3 := Keep.trans (hkr.trans k1) k2 (fun y hy ⟨ad, e, h⟩ => by obtain ⟨g, rfl, hb, _⟩ := OwnG.at_ HB.out ad e; simp at h; omega)
          rw [← HF.out] at O2
          simp only [Act.put, List.setIfInBounds_toArray, List.set_cons_succ, List.set_cons_zero]
          refine l_val (o := ⟨some 6, _, _, _, _, _⟩) (.slice B2 (j + 1) d2) rfl (exec_assign (.tmp 51) (.slice B2 (j + 1) d2) rfl (by kernel_rfl)) ?_
          simp only [Act.put, List.setIfInBounds_toArray, List.set_cons_succ, List.set_cons_zero]
          refine wpList_nil ?_
          have HB2 := Lib.hid O2
          clear O1 O2 k1 k2 HB HC HF hkr
          go_wp2
          exact ⟨⟨j + 1, B2, d2, by omega, rfl, by go_num, HB2, kw3⟩, by simp [intOf]⟩
        · obtain rfl : j = i := by omega
          have HB2 : Hid (OwnI wr b2 B j d own.reverse) := by
            have := HB.out
            rw [List.take_of_length_le (by rw [List.length_reverse, hlen.out]; exact Nat.le_refl _)] at this
            exact this
          have HO2 := Lib.hid (HO1.out.kept hkr)
          have kw2 := kw1.trans hkr
          rw [show (j : Int) - 1 - (j : Int) = -1 by omega]
          clear HB HO1 kw1 hkr hb21 hb22
          go_wp2_with fail
          refine (within_nat cut (j : Int) wr (by omega) (by omega)).mono ?_
          rintro e w' ⟨k, rfl, hk, rfl⟩
          have hkj : k ≤ j := by omega
          clear hk
          obtain ⟨A', hA', hRA⟩ := slice_lI A j c k own hlen.out hkj hic HCN.out
          have S1 : Hid (∀ u, Kept wr u → Calls Try.prog 10 #[.slice A j c] u fun e w' => e = .returned (two (sumM 0 own)) ∧ u = w') := fun u hu => sums_sum A j c own u hlen (HO2.out.ri.kept hu) HN.out.in64 (by unfold maxLen; omega)
          have S2 : Hid (∀ u, Kept wr u → Calls Try.prog 10 #[.slice A k c] u fun e w' => e = .returned (two (sumM 0 (own.take k))) ∧ u = w') := fun u hu => sums_sum A k c _ u (by show _ = _; rw [List.length_take, hlen.out]; omega) ((HO2.out.ri.kept hu).take k) (HN.out.take k).in64 (by unfold maxLen; omega)
          have S3 : Hid (∀ u, Kept wr u → Calls Try.prog 10 #[.slice A' (j - k) (c - k)] u fun e w' => e = .returned (two (sumM 0 (own.drop k))) ∧ u = w') := fun u hu => sums_sum A' (j - k) (c - k) _ u (by show _ = _; rw [List.length_drop, hlen.out]) (hRA u (HO2.out.ri.kept hu)) (HN.out.drop k).in64 (by unfold maxLen; omega)
          have S4 : Hid (∀ u, Kept wr u → Calls Try.prog 10 #[.slice B j d] u fun e w' => e = .returned (two (sumM 0 own)) ∧ u = w') := fun u hu => by
            have := sums_sum B j d _ u (by show _ = _; rw [List.length_reverse, hlen.out]) (HB2.out.ri.kept hu) HN.out.rev.in64 (by unfold maxLen; omega)
            rw [sums_rev own HN.out] at this
            exact this
          have HC := Lib.hid (sums_cut own HN.out k)
          generalize sumM 0 own = p0 at S1 S4 HC
          generalize sumM 0 (own.take k) = p1 at S2 HC
          generalize sumM 0 (own.drop k) = p2 at S3 HC
          obtain ⟨s0, e0⟩ := p0
          obtain ⟨s1, e1⟩ := p1
          obtain ⟨s2, e2⟩ := p2
          unfold two at S1 S2 S3 S4
          simp only at HC S1 S2 S3 S4
          have HA' := Lib.hid hA'
          clear hA' hRA HB2 HN
          go_upto_region 11 with fail
          refine wp_region_lit ?_
          refine l_val (o := ⟨some 57, _, _, _, _, _⟩) (.slice A j c) rfl (exec_move (.tmp 5) (.slice A j c) rfl (by kernel_rfl)) ?_
          simp only [Act.put, List.setIfInBounds_toArray, List.set_cons_succ, List.set_cons_zero]
          refine l_call (o := ⟨some 58, _, _, _, _, _⟩) 10 #[.slice A j c] rfl (exec_call 10 _ [.tmp 57] _ _ Try.func10 (by kernel_rfl) (by kernel_rfl) rfl (by kernel_rfl) _) ?_
          refine (S1.out wr (Kept.refl _)).mono ?_
          rintro e w' ⟨rfl, rfl⟩
          refine ⟨_, rfl, ?_⟩
          simp only [Act.put, List.setIfInBounds_toArray, List.set_cons_succ, List.set_cons_zero]
          refine l_val (o := ⟨some 56, _, _, _, _, _⟩) (.tuple #[.int .i64 s0, .int .i64 e0]) rfl (exec_move (.tmp 58) (.tuple #[.int .i64 s0, .int .i64 e0]) rfl (by kernel_rfl)) ?_
          simp only [Act.put, List.setIfInBounds_toArray, List.set_cons_succ, List.set_cons_zero]
          refine l_val (o := ⟨some 59, _, _, _, _, _⟩) (.int .i64 s0) rfl (exec_extract (.tmp 56) [.int .i64 s0, .int .i64 e0] 0 (.int .i64 s0) rfl (by kernel_rfl) rfl) ?_
          simp only [Act.put, List.setIfInBounds_toArray, List.set_cons_succ, List.set_cons_zero]
          refine l_val (o := ⟨some 60, _, _, _, _, _⟩) (.int .i64 e0) rfl (exec_extract (.tmp 56) [.int .i64 s0, .int .i64 e0] 1 (.int .i64 e0) rfl (by kernel_rfl) rfl) ?_
          simp only [Act.put, List.setIfInBounds_toArray, List.set_cons_succ, List.set_cons_zero]
          refine l_val (o := ⟨some 10, _, _, _, _, _⟩) (.int .i64 s0) rfl (exec_assign (.tmp 59) (.int .i64 s0) rfl (by kernel_rfl)) ?_
          simp only [Act.put, List.setIfInBounds_toArray, List.set_cons_succ, List.set_cons_zero]
          refine l_val (o := ⟨some 11, _, _, _, _, _⟩) (.int .i64 e0) rfl (exec_assign (.tmp 60) (.int .i64 e0) rfl (by kernel_rfl)) ?_
          simp only [Act.put, List.setIfInBounds_toArray, List.set_cons_succ, List.set_cons_zero]
          refine wpList_nil ?_
          go_upto_region 12 with fail
          refine wp_region_lit ?_
          refine l_val (o := ⟨some 62, _, _, _, _, _⟩) (.slice A j c) rfl (exec_move (.tmp 5) (.slice A j c) rfl (by kernel_rfl)) ?_
          simp only [Act.put, List.setIfInBounds_toArray, List.set_cons_succ, List.set_cons_zero]
          refine l_val (o := ⟨some 63, _, _, _, _, _⟩) (.int .i64 (k : Int)) rfl (exec_move (.tmp 9) (.int .i64 (k : Int)) rfl (by kernel_rfl)) ?_
          simp only [Act.put, List.setIfInBounds_toArray, List.set_cons_succ, List.set_cons_zero]
          refine l_val (o := ⟨some 64, _, _, _, _, _⟩) (.slice A k c) rfl (exec_upto 27 3 1 (.tmp 62) (.tmp 63) A j c k rfl Try.underlying27 infoI1 (by kernel_rfl) (by kernel_rfl) (by omega)) ?_
          simp only [Act.put, List.setIfInBounds_toArray, List.set_cons_succ, List.set_cons_zero]
          refine l_call (o := ⟨some 65, _, _, _, _, _⟩) 10 #[.slice A k c] rfl (exec_call 10 _ [.tmp 64] _ _ Try.func10 (by kernel_rfl) (by kernel_rfl) rfl (by kernel_rfl) _) ?_
          refine (S2.out wr (Kept.refl _)).mono ?_
          rintro e w' ⟨rfl, rfl⟩
          refine ⟨_, rfl, ?_⟩
          simp only [Act.put, List.setIfInBounds_toArray, List.set_cons_succ, List.set_cons_zero]
          refine l_val (o := ⟨some 61, _, _, _, _, _⟩) (.tuple #[.int .i64 s1, .int .i64 e1]) rfl (exec_move (.tmp 65) (.tuple #[.int .i64 s1, .int .i64 e1]) rfl (by kernel_rfl)) ?_
          simp only [Act.put, List.setIfInBounds_toArray, List.set_cons_succ, List.set_cons_zero]
          refine l_val (o := ⟨some 66, _, _, _, _, _⟩) (.int .i64 s1) rfl (exec_extract (.tmp 61) [.int .i64 s1, .int .i64 e1] 0 (.int .i64 s1) rfl (by kernel_rfl) rfl) ?_
          simp only [Act.put, List.setIfInBounds_toArray, List.set_cons_succ, List.set_cons_zero]
          refine l_val (o := ⟨some 67, _, _, _, _, _⟩) (.int .i64 e1) rfl (exec_extract (.tmp 61) [.int .i64 s1, .int .i64 e1] 1 (.int .i64 e1) rfl (by kernel_rfl) rfl) ?_
          simp only [Act.put, List.setIfInBounds_toArray, List.set_cons_succ, List.set_cons_zero]
          refine l_val (o := ⟨some 12, _, _, _, _, _⟩) (.int .i64 s1) rfl (exec_assign (.tmp 66) (.int .i64 s1) rfl (by kernel_rfl)) ?_
          simp only [Act.put, List.setIfInBounds_toArray, List.set_cons_succ, List.set_cons_zero]
          refine l_val (o := ⟨some 13, _, _, _, _, _⟩) (.int .i64 e1) rfl (exec_assign (.tmp 67) (.int .i64 e1) rfl (by kernel_rfl)) ?_
          simp only [Act.put, List.setIfInBounds_toArray, List.set_cons_succ, List.set_cons_zero]
          refine wpList_nil ?_
          go_upto_region 13 with fail
          refine wp_region_lit ?_
          refine l_val (o := ⟨some 69, _, _, _, _, _⟩) (.slice A j c) rfl (exec_move (.tmp 5) (.slice A j c) rfl (by kernel_rfl)) ?_
          simp only [Act.put, List.setIfInBounds_toArray, List.set_cons_succ, List.set_cons_zero]
          refine l_val (o := ⟨some 70, _, _, _, _, _⟩) (.int .i64 (k : Int)) rfl (exec_move (.tmp 9) (.int .i64 (k : Int)) rfl (by kernel_rfl)) ?_
          simp only [Act.put, List.setIfInBounds_toArray, List.set_cons_succ, List.set_cons_zero]
          refine l_val (o := ⟨some 71, _, _, _, _, _⟩) (.slice A' (j - k) (c - k)) rfl (exec_fromI (.tmp 69) (.tmp 70) (.slice A j c) (k : Int) _ rfl (by kernel_rfl) (by kernel_rfl) HA'.out) ?_
          simp only [Act.put, List.setIfInBounds_toArray, List.set_cons_succ, List.set_cons_zero]
          refine l_call (o := ⟨some 72, _, _, _, _, _⟩) 10 #[.slice A' (j - k) (c - k)] rfl (exec_call 10 _ [.tmp 71] _ _ Try.func10 (by kernel_rfl) (by kernel_rfl) rfl (by kernel_rfl) _) ?_
          refine (S3.out wr (Kept.refl _)).mono ?_
          rintro e w' ⟨rfl, rfl⟩
          refine ⟨_, rfl, ?_⟩
          simp only [Act.put, List.setIfInBounds_toArray, List.set_cons_succ, List.set_cons_zero]
          refine l_val (o := ⟨some 68, _, _, _, _, _⟩) (.tuple #[.int .i64 s2, .int .i64 e2]) rfl (exec_move (.tmp 72) (.tuple #[.int .i64 s2, .int .i64 e2]) rfl (by kernel_rfl)) ?_
          simp only [Act.put, List.setIfInBounds_toArray, List.set_cons_succ, List.set_cons_zero]
          refine l_val (o := ⟨some 73, _, _, _, _, _⟩) (.int .i64 s2) rfl (exec_extract (.tmp 68) [.int .i64 s2, .int .i64 e2] 0 (.int .i64 s2) rfl (by kernel_rfl) rfl) ?_
          simp only [Act.put, List.setIfInBounds_toArray, List.set_cons_succ, List.set_cons_zero]
          refine l_val (o := ⟨some 74, _, _, _, _, _⟩) (.int .i64 e2) rfl (exec_extract (.tmp 68) [.int .i64 s2, .int .i64 e2] 1 (.int .i64 e2) rfl (by kernel_rfl) rfl) ?_
          simp only [Act.put, List.setIfInBounds_toArray, List.set_cons_succ, List.set_cons_zero]
          refine l_val (o := ⟨some 14, _, _, _, _, _⟩) (.int .i64 s2) rfl (exec_assign (.tmp 73) (.int .i64 s2) rfl (by kernel_rfl)) ?_
          simp only [Act.put, List.setIfInBounds_toArray, List.set_cons_succ, List.set_cons_zero]
          refine l_val (o := ⟨some 15, _, _, _, _, _⟩) (.int .i64 e2) rfl (exec_assign (.tmp 74) (.int .i64 e2) rfl (by kernel_rfl)) ?_
          simp only [Act.put, List.setIfInBounds_toArray, List.set_cons_succ, List.set_cons_zero]
          refine wpList_nil ?_
          go_upto_region 14 with fail
          refine wp_region_lit ?_
          refine l_val (o := ⟨some 76, _, _, _, _, _⟩) (.slice B j d) rfl (exec_move (.tmp 6) (.slice B j d) rfl (by kernel_rfl)) ?_
          simp only [Act.put, List.setIfInBounds_toArray, List.set_cons_succ, List.set_cons_zero]
          refine l_call (o := ⟨some 77, _, _, _, _, _⟩) 10 #[.slice B j d] rfl (exec_call 10 _ [.tmp 76] _ _ Try.func10 (by kernel_rfl) (by kernel_rfl) rfl (by kernel_rfl) _) ?_
          refine (S4.out wr (Kept.refl _)).mono ?_
          rintro e w' ⟨rfl, rfl⟩
          refine ⟨_, rfl, ?_⟩
          simp only [Act.put, List.setIfInBounds_toArray, List.set_cons_succ, List.set_cons_zero]
          refine l_val (o := ⟨some 75, _, _, _, _, _⟩) (.tuple #[.int .i64 s0, .int .i64 e0]) rfl (exec_move (.tmp 77) (.tuple #[.int .i64 s0, .int .i64 e0]) rfl (by kernel_rfl)) ?_
          simp only [Act.put, List.setIfInBounds_toArray, List.set_cons_succ, List.set_cons_zero]
          refine l_val (o := ⟨some 78, _, _, _, _, _⟩) (.int .i64 s0) rfl (exec_extract (.tmp 75) [.int .i64 s0, .int .i64 e0] 0 (.int .i64 s0) rfl (by kernel_rfl) rfl) ?_
          simp only [Act.put, List.setIfInBounds_toArray, List.set_cons_succ, List.set_cons_zero]
          refine l_val (o := ⟨some 79, _, _, _, _, _⟩) (.int .i64 e0) rfl (exec_extract (.tmp 75) [.int .i64 s0, .int .i64 e0] 1 (.int .i64 e0) rfl (by kernel_rfl) rfl) ?_
          simp only [Act.put, List.setIfInBounds_toArray, List.set_cons_succ, List.set_cons_zero]
          refine l_val (o := ⟨some 16, _, _, _, _, _⟩) (.int .i64 s0) rfl (exec_assign (.tmp 78) (.int .i64 s0) rfl (by kernel_rfl)) ?_
          simp only [Act.put, List.setIfInBounds_toArray, List.set_cons_succ, List.set_cons_zero]
          refine l_val (o := ⟨some 17, _, _, _, _, _⟩) (.int .i64 e0) rfl (exec_assign (.tmp 79) (.int .i64 e0) rfl (by kernel_rfl)) ?_
          simp only [Act.put, List.setIfInBounds_toArray, List.set_cons_succ, List.set_cons_zero]
          refine wpList_nil ?_
          clear S1 S2 S3 S4 HA'
          by_cases hf : e1 = 0
          · have df : (e1 != 0) = false := by simpa using hf
            by_cases hg : e2 = 0
            · have dg : (e2 != 0) = false := by simpa using hg
              obtain ⟨HP, i1, i2⟩ := HC.out.2 hf hg
              have HP1 := Lib.hid HP
              have I1 := Lib.hid i1
              have I2 := Lib.hid i2
              clear HP i1 i2 HC hf hg
              go_wp2_with fail
              refine (sums_plus s1 s2 wr I1.out I2.out).mono ?_
              rintro e w' ⟨rfl, rfl⟩
              rw [HP1.out]
              unfold two
              go_wp2_with fail
              refine (sumsRuns_any wr).mono ?_
              rintro e w3 ⟨rfl, k3⟩
              go_wp2
              go_ret
              exact ⟨rfl, kw2.trans k3⟩
            · have dg : (e2 != 0) = true := by simpa using hg
              obtain rfl : e0 = 3 := HC.out.1 (.inr hg)
              clear HC hf hg
              go_wp2_with fail
              refine (sumsRuns_any wr).mono ?_
              rintro e w3 ⟨rfl, k3⟩
              go_wp2
              go_ret
              exact ⟨rfl, kw2.trans k3⟩
          · have df : (e1 != 0) = true := by simpa using hf
            obtain rfl : e0 = 3 := HC.out.1 (.inl hf)
            clear HC hf
            go_wp2_with fail
            refine (sumsRuns_any wr).mono ?_
            rintro e w3 ⟨rfl, k3⟩
            go_wp2
            go_ret
            exact ⟨rfl, kw2.trans k3⟩
end Go.Proofs.Ytjkmfopifonbeaa
