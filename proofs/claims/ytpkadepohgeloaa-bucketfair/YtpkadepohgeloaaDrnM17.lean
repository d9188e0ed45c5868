/-
  A bucket that is emptied, and what comes into an empty one, as mathematics. No condition.
-/
import Derived.Test.YtpkadepohgeloaaBukM
namespace Go.Proofs.Ytpkadepohgeloaa
open Go.RowKit
set_option linter.unusedVariables false
set_option maxRecDepth 100000

theorem can_of {B S : Bkt} {now : Int} (h : B.seenM now = S) : B.can now = !decide (S.k = 0) := by unfold Bkt.can; rw [h]
theorem took_of {B S : Bkt} {now : Int} (h : B.seenM now = S) : B.took now = if S.k = 0 then S else S.less := by unfold Bkt.took; rw [h]
theorem full_seen {n r now : Int} (h : 0 ≤ now) (hr : 1 ≤ r) : (Bkt.full n r).seenM now = ⟨n, r, n, now⟩ := by
  unfold Bkt.seenM
  by_cases h0 : (Bkt.full n r).t < now
  · rw [if_pos h0]
    unfold Bkt.fillM
    rw [if_pos]
    · rfl
    · unfold Bkt.came
      have : 0 < now := h0
      show n - n ≤ (now - 0).tdiv r
      rw [Int.tdiv_eq_ediv_of_nonneg (by omega)]
      have := Int.ediv_nonneg (show 0 ≤ now - 0 by omega) (show 0 ≤ r by omega)
      omega
  · rw [if_neg h0]
    have h1 : ¬ (0 : Int) < now := h0
    obtain rfl : now = 0 := by omega
    rfl
/-- the bucket behind i takings at now -/
def drain (n r now : Int) (B : Bkt) (i : Nat) : Bkt := if i = 0 then B else ⟨n, r, n - (i : Int), now⟩
theorem drain_0 (n r now : Int) (B : Bkt) : drain n r now B 0 = B := rfl
theorem at_seen (n r k now : Int) : (Bkt.mk n r k now).seenM now = ⟨n, r, k, now⟩ := by
  unfold Bkt.seenM
  rw [if_neg (show ¬ (now < now) by omega)]
theorem drain_seen {n r now : Int} {B : Bkt} (h : B.seenM now = ⟨n, r, n, now⟩) (i : Nat) : (drain n r now B i).seenM now = ⟨n, r, n - (i : Int), now⟩ := by
  unfold drain
  by_cases hi : i = 0
  · subst hi
    rw [if_pos rfl, h, show n - ((0 : Nat) : Int) = n by omega]
  · rw [if_neg hi]
    exact at_seen _ _ _ _
theorem drain_step {n r now : Int} {B : Bkt} (h : B.seenM now = ⟨n, r, n, now⟩) {i : Nat} (hi : (i : Int) < n) : (drain n r now B i).can now = true ∧ (drain n r now B i).took now = drain n r now B (i + 1) := by
  have e := drain_seen h i
  have hz : ¬ n - (i : Int) = 0 := by omega
  constructor
  · rw [can_of e]
    show (!decide (n - (i : Int) = 0)) = true
    rw [decide_eq_false hz]
    rfl
  · rw [took_of e]
    refine (if_neg hz).trans ?_
    unfold drain
    rw [if_neg (by omega)]
    show Bkt.mk n r (n - (i : Int) - 1) now = _
    rw [show n - (i : Int) - 1 = n - ((i + 1 : Nat) : Int) by omega]
theorem drain_end {n r now : Int} {B : Bkt} {i : Nat} (hi : (i : Int) = n) (h1 : 1 ≤ n) : drain n r now B i = ⟨n, r, 0, now⟩ := by
  unfold drain
  rw [if_neg (by omega), show n - (i : Int) = 0 by omega]
theorem empty_at {n r t : Int} : (Bkt.mk n r 0 t).can t = false ∧ (Bkt.mk n r 0 t).took t = ⟨n, r, 0, t⟩ := by
  have e := at_seen n r 0 t
  exact ⟨by rw [can_of e]; rfl, by rw [took_of e]; rfl⟩
theorem empty_seen {n r t now : Int} (h : t < now) (hn : ¬ n ≤ (now - t).tdiv r) : (Bkt.mk n r 0 t).seenM now = ⟨n, r, (now - t).tdiv r, t + (now - t).tdiv r * r⟩ := by
  unfold Bkt.seenM
  rw [if_pos h]
  unfold Bkt.fillM Bkt.came
  refine (if_neg (show ¬ n - 0 ≤ (now - t).tdiv r by omega)).trans ?_
  show Bkt.mk n r (0 + (now - t).tdiv r) (t + (now - t).tdiv r * r) = _
  rw [Int.zero_add]
theorem empty_fill {n r t now : Int} (h : t < now) (hn : n ≤ (now - t).tdiv r) : (Bkt.mk n r 0 t).seenM now = ⟨n, r, n, now⟩ := by
  unfold Bkt.seenM
  rw [if_pos h]
  unfold Bkt.fillM Bkt.came
  exact if_pos (show n - 0 ≤ (now - t).tdiv r by omega)
theorem empty_less {n r t : Int} (h1 : 1 ≤ n) (hr : 1 ≤ r) : (Bkt.mk n r 0 t).can (t + r - 1) = false ∧ (Bkt.mk n r 0 t).took (t + r - 1) = ⟨n, r, 0, t⟩ := by
  by_cases h : r = 1
  · subst h
    rw [show t + 1 - 1 = t by omega]
    exact empty_at
  · have hd : (t + r - 1 - t).tdiv r = 0 := by
      rw [Int.tdiv_eq_ediv_of_nonneg (by omega)]
      exact Int.ediv_eq_zero_of_lt (by omega) (by omega)
    have e := empty_seen (n := n) (r := r) (t := t) (now := t + r - 1) (by omega) (by rw [hd]; omega)
    rw [hd, Int.zero_mul, Int.add_zero] at e
    exact ⟨by rw [can_of e]; rfl, by rw [took_of e]; rfl⟩
theorem empty_one {n r t : Int} (h1 : 1 ≤ n) (hr : 1 ≤ r) : (Bkt.mk n r 0 t).can (t + r) = true ∧ (Bkt.mk n r 0 t).took (t + r) = ⟨n, r, 0, t + r⟩ := by
  have hd : (t + r - t).tdiv r = 1 := by
    rw [show t + r - t = r by omega, Int.tdiv_eq_ediv_of_nonneg (by omega)]
    exact Int.ediv_self (by omega)
  have e : (Bkt.mk n r 0 t).seenM (t + r) = ⟨n, r, 1, t + r⟩ := by
    by_cases h : n = 1
    · rw [empty_fill (by omega) (by rw [hd]; omega), h]
    · rw [empty_seen (by omega) (by rw [hd]; omega), hd, Int.one_mul]
  exact ⟨by rw [can_of e]; rfl, by rw [took_of e]; rfl⟩
theorem empty_all {n r t : Int} (h1 : 1 ≤ n) (hr : 1 ≤ r) : (Bkt.mk n r 0 t).seenM (t + n * r) = ⟨n, r, n, t + n * r⟩ := by
  have h0 : 1 * 1 ≤ n * r := Int.mul_le_mul h1 hr (by omega) (by omega)
  have hd : (t + n * r - t).tdiv r = n := by
    rw [show t + n * r - t = n * r by omega, Int.tdiv_eq_ediv_of_nonneg (by omega)]
    exact Int.mul_ediv_cancel _ (by omega)
  exact empty_fill (by omega) (by rw [hd]; omega)
end Go.Proofs.Ytpkadepohgeloaa
