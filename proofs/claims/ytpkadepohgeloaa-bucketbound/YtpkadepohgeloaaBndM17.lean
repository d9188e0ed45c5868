/-
  A bucket over moments that rise, as mathematics: between any two takings no more than burst and one for each rate ticks. No condition.
-/
import Derived.Test.YtpkadepohgeloaaBukM
namespace Go.Proofs.Ytpkadepohgeloaa
open Go.RowKit
set_option linter.unusedVariables false
set_option maxRecDepth 100000

structure Bnd (n r : Int) (B : Bkt) (now : Int) (X : List Int) : Prop where
  ok : B.Ok
  eb : B.b = n
  er : B.r = r
  t : B.t ≤ now
  low : ∀ (i : Nat) (x : Int), X[i]? = some x → 0 ≤ x ∧ x ≤ now
  j : ∀ (i : Nat) (x : Int), X[i]? = some x → r * ((X.length : Int) - (i : Int) + B.k - n) ≤ B.t - x
  p : ∀ (i k : Nat) (x y : Int), i ≤ k → X[i]? = some x → X[k]? = some y → x ≤ y ∧ r * ((k : Int) + 1 - (i : Int) - n) ≤ y - x
theorem Bnd.zero {n r : Int} (h : newB n r = true) : Bnd n r (Bkt.full n r) 0 [] :=
  ⟨full_ok h, rfl, rfl, Int.le_refl _, fun i x h => by simp at h, fun i x h => by simp at h, fun i k x y _ h => by simp at h⟩
theorem Bnd.seen {n r : Int} {B : Bkt} {now now' : Int} {X : List Int} (h : Bnd n r B now X) (h0 : now ≤ now') (h1 : now' ≤ 1099511627776) :
    Bnd n r (B.seenM now') now' X ∧ ((B.seenM now').k = n → (B.seenM now').t = now') ∧ now' - (B.seenM now').t < r := by
  obtain ⟨eb, er⟩ := seen_b B now'
  have hok := h.ok.seen h1
  have hr0 := h.ok.r0
  have ht := h.t
  have e1 := h.er
  have e2 := h.eb
  have hlow : ∀ (i : Nat) (x : Int), X[i]? = some x → 0 ≤ x ∧ x ≤ now' := fun i x hx => by
    have := h.low i x hx
    omega
  by_cases hlt : B.t < now'
  · obtain ⟨c0, c1, c2, c3, c4⟩ := Bkt.came_in h.ok hlt
    have es : B.seenM now' = B.fillM now' := by unfold Bkt.seenM; rw [if_pos hlt]
    rw [es] at eb er hok ⊢
    by_cases hq : B.b - B.k ≤ B.came now'
    · have ef : B.fillM now' = ⟨B.b, B.r, B.b, now'⟩ := by unfold Bkt.fillM; rw [if_pos hq]
      rw [ef] at hok ⊢
      refine ⟨⟨hok, e2, e1, Int.le_refl _, hlow, ?_, h.p⟩, fun _ => rfl, ?_⟩
      · intro i x hx
        have hj := h.j i x hx
        show r * ((X.length : Int) - (i : Int) + B.b - n) ≤ now' - x
        have m1 : r * (B.b - B.k) ≤ r * B.came now' := Int.mul_le_mul_of_nonneg_left hq (by omega)
        rw [← e1] at m1 hj ⊢
        rw [Int.mul_comm B.r (B.came now')] at m1
        have m2 : B.r * ((X.length : Int) - (i : Int) + B.b - n) = B.r * ((X.length : Int) - (i : Int) + B.k - n) + B.r * (B.b - B.k) := by
          rw [← Int.mul_add]
          congr 1
          omega
        omega
      · show now' - now' < r
        omega
    · have ef : B.fillM now' = ⟨B.b, B.r, B.k + B.came now', B.t + B.came now' * B.r⟩ := by unfold Bkt.fillM; rw [if_neg hq]
      rw [ef] at hok ⊢
      refine ⟨⟨hok, e2, e1, by show B.t + _ ≤ now'; omega, hlow, ?_, h.p⟩, fun hf => absurd (show B.k + B.came now' = n from hf) (by omega), ?_⟩
      · intro i x hx
        have hj := h.j i x hx
        show r * ((X.length : Int) - (i : Int) + (B.k + B.came now') - n) ≤ B.t + B.came now' * B.r - x
        rw [← e1] at hj ⊢
        have m2 : B.r * ((X.length : Int) - (i : Int) + (B.k + B.came now') - n) = B.r * ((X.length : Int) - (i : Int) + B.k - n) + B.came now' * B.r := by
          rw [Int.mul_comm (B.came now') B.r, ← Int.mul_add]
          congr 1
          omega
        omega
      · show now' - (B.t + B.came now' * B.r) < r
        omega
  · have es : B.seenM now' = B := by unfold Bkt.seenM; rw [if_neg hlt]
    rw [es]
    exact ⟨⟨h.ok, e2, e1, by omega, hlow, h.j, h.p⟩, fun _ => by omega, by omega⟩
theorem Bnd.step {n r : Int} {B : Bkt} {now now' : Int} {X : List Int} (h : Bnd n r B now X) (h0 : now ≤ now') (hn : 0 ≤ now') (h1 : now' ≤ 1099511627776) :
    Bnd n r (B.took now') now' (if B.can now' = true then X ++ [now'] else X) := by
  obtain ⟨hS, hfull, hgap⟩ := h.seen h0 h1
  have ht := h.ok.take h1
  obtain ⟨eb, er⟩ := took_b B now'
  unfold Bkt.can
  unfold Bkt.took at ht eb er ⊢
  obtain ⟨S, e⟩ : ∃ S, B.seenM now' = S := ⟨_, rfl⟩
  rw [e] at hS hfull hgap ht eb er ⊢
  by_cases hz : S.k = 0
  · rw [if_pos hz, decide_eq_true hz]
    exact hS
  · rw [if_neg hz] at ht eb er ⊢
    rw [decide_eq_false hz, if_pos (show (!false) = true from rfl)]
    have hk0 := hS.ok.k0
    have hk1 := hS.ok.k1
    have e2 := hS.eb
    have hr0 : 1 ≤ r := by have := hS.ok.r0; rw [hS.er] at this; exact this
    have hSt := hS.t
    -- the new one
    have hnew : r * (1 + (S.k - 1) - n) ≤ S.t - now' := by
      by_cases hf : S.k = n
      · rw [hfull hf, hf, show (1 : Int) + (n - 1) - n = 0 by omega, Int.mul_zero]
        omega
      · have m1 : r * (1 + (S.k - 1) - n) ≤ r * (-1) := Int.mul_le_mul_of_nonneg_left (by omega) (by omega)
        omega
    have old : ∀ (i : Nat) (x : Int), X[i]? = some x → i < X.length := fun i x hx => (List.getElem?_eq_some_iff.1 hx).1
    have ap : ∀ (i : Nat) (x : Int), (X ++ [now'])[i]? = some x → X[i]? = some x ∨ (i = X.length ∧ x = now') := by
      intro i x hx
      by_cases hi : i < X.length
      · rw [List.getElem?_append_left hi] at hx
        exact .inl hx
      · rw [List.getElem?_append_right (by omega)] at hx
        have hi2 : i - X.length = 0 := by
          have := (List.getElem?_eq_some_iff.1 hx).1
          simp at this
          omega
        rw [hi2] at hx
        simp at hx
        exact .inr ⟨by omega, hx.symm⟩
    refine ⟨ht, e2, hS.er, hSt, ?_, ?_, ?_⟩
    · intro i x hx
      rcases ap i x hx with hx | ⟨rfl, rfl⟩
      · exact hS.low i x hx
      · omega
    · intro i x hx
      rw [List.length_append, List.length_singleton]
      show r * (((X.length + 1 : Nat) : Int) - (i : Int) + (S.k - 1) - n) ≤ S.t - x
      rcases ap i x hx with hx | ⟨rfl, rfl⟩
      · have := hS.j i x hx
        rwa [show ((X.length + 1 : Nat) : Int) - (i : Int) + (S.k - 1) - n = (X.length : Int) - (i : Int) + S.k - n by omega]
      · rwa [show ((X.length + 1 : Nat) : Int) - (X.length : Int) + (S.k - 1) - n = 1 + (S.k - 1) - n by omega]
    · intro i k x y hik hx hy
      rcases ap k y hy with hy2 | ⟨hk, hy2⟩
      · rcases ap i x hx with hx2 | ⟨hi, hx2⟩
        · exact hS.p i k x y hik hx2 hy2
        · have := old k y hy2
          omega
      · subst hk hy2
        rcases ap i x hx with hx2 | ⟨hi, hx2⟩
        · refine ⟨(hS.low i x hx2).2, ?_⟩
          have hj := hS.j i x hx2
          have m1 : r * ((X.length : Int) + 1 - (i : Int) - n) ≤ r * ((X.length : Int) - (i : Int) + S.k - n) := Int.mul_le_mul_of_nonneg_left (by omega) (by omega)
          omega
        · subst hi hx2
          refine ⟨Int.le_refl _, ?_⟩
          have m1 : r * ((X.length : Int) + 1 - (X.length : Int) - n) ≤ r * 0 := Int.mul_le_mul_of_nonneg_left (by omega) (by omega)
          omega
/-- what the law holds of two takings -/
theorem Bnd.two {n r : Int} {B : Bkt} {now : Int} {X : List Int} (h : Bnd n r B now X) (i k : Nat) (x y : Int) (hik : i ≤ k) (hx : X[i]? = some x) (hy : X[k]? = some y) :
    0 ≤ (y - x).tdiv r ∧ (y - x).tdiv r ≤ y - x ∧ ¬ n + (y - x).tdiv r < (k : Int) - (i : Int) + 1 := by
  obtain ⟨h1, h2⟩ := h.p i k x y hik hx hy
  have hr0 : 1 ≤ r := by have := h.ok.r0; rw [h.er] at this; exact this
  rw [Int.tdiv_eq_ediv_of_nonneg (by omega)]
  refine ⟨Int.ediv_nonneg (by omega) (by omega), Int.ediv_le_self _ (by omega), ?_⟩
  have h3 : (k : Int) + 1 - (i : Int) - n ≤ (y - x) / r := by
    rw [Int.le_ediv_iff_mul_le (by omega), Int.mul_comm]
    exact h2
  omega
/-- what is left behind a Take -/
theorem Bnd.left {n r : Int} {B : Bkt} {now : Int} {X : List Int} (h : Bnd n r B now X) : 0 ≤ B.k ∧ B.k ≤ n := by
  have := h.eb
  exact ⟨h.ok.k0, by rw [← this]; exact h.ok.k1⟩
end Go.Proofs.Ytpkadepohgeloaa
