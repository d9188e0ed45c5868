/-
  A lock over moments that rise, as mathematics: between any two counted answers no more than tries for each lock that fits between them, and one. No condition.
-/
import Derived.Test.YtliepgmnlhfaiaaLokM
namespace Go.Proofs.Ytliepgmnlhfaiaa
open Go.RowKit
set_option linter.unusedVariables false
set_option maxRecDepth 100000

structure Bdl (n t : Int) (L : Lok) (now : Int) (X : List Int) : Prop where
  ok : L.Ok
  en : L.n = n
  et : L.t = t
  low : ∀ (i : Nat) (x : Int), X[i]? = some x → 0 ≤ x ∧ x ≤ now
  j : ∀ (i : Nat) (x : Int), X[i]? = some x → ∃ c : Int, 0 ≤ c ∧ (X.length : Int) - (i : Int) ≤ c * n + L.k ∧ x + c * t ≤ now ∧ (L.k = n → x + (c + 1) * t ≤ L.u)
  p : ∀ (i k : Nat) (x y : Int), i ≤ k → X[i]? = some x → X[k]? = some y → x ≤ y ∧ ∃ c : Int, 0 ≤ c ∧ (k : Int) - (i : Int) + 1 ≤ (c + 1) * n ∧ x + c * t ≤ y
theorem Bdl.zero {n t : Int} (h : newB n t = true) : Bdl n t (Lok.none_ n t) 0 [] :=
  ⟨lok_ok h, rfl, rfl, fun i x h => by simp at h, fun i x h => by simp at h, fun i k x y _ h => by simp at h⟩
theorem Bdl.shut {n t : Int} {L : Lok} {now now' : Int} {X : List Int} (h : Bdl n t L now X) (h0 : now ≤ now') (hs : L.shut now' = true) :
    Bdl n t (L.failM now') now' X ∧ 1 ≤ (L.failM now').k := by
  rw [lfail_shut hs]
  have hk := (Lok.shut_iff.1 hs).1
  have hn := h.ok.n0
  refine ⟨⟨h.ok, h.en, h.et, fun i x hx => ?_, fun i x hx => ?_, h.p⟩, by omega⟩
  · have := h.low i x hx
    omega
  · obtain ⟨c, c0, c1, c2, c3⟩ := h.j i x hx
    exact ⟨c, c0, c1, by omega, c3⟩
theorem Bdl.opened {n t : Int} {L : Lok} {now now' : Int} {X : List Int} (h : Bdl n t L now X) (h0 : now ≤ now') (hn : 0 ≤ now') (h1 : now' ≤ 1099511627776) (hs : L.shut now' = false) :
    Bdl n t (L.failM now') now' (X ++ [now']) ∧ 1 ≤ (L.failM now').k := by
  have hok := h.ok.fail hn h1
  obtain ⟨e1, e2⟩ := lfail_n L now'
  have en := h.en
  have et := h.et
  have hn0 := h.ok.n0
  obtain ⟨b0, b1⟩ := h.ok.base_in
  rw [lfail_open hs] at hok e1 e2 ⊢
  obtain ⟨S, hS⟩ : ∃ S, L.one now' = S := ⟨_, rfl⟩
  have hk : S.k = L.base + 1 := by rw [← hS]; rfl
  have hu : S.k = n → S.u = now' + t := by
    intro hq
    rw [← hS, ← et]
    exact if_pos (show L.base + 1 = L.n by omega)
  rw [hS] at hok e1 e2 ⊢
  have old : ∀ (i : Nat) (x : Int), X[i]? = some x → i < X.length := fun i x hx => (List.getElem?_eq_some_iff.1 hx).1
  have ap : ∀ (i : Nat) (x : Int), (X ++ [now'])[i]? = some x → X[i]? = some x ∨ (i = X.length ∧ x = now') := by
    intro i x hx
    by_cases hi : i < X.length
    · rw [List.getElem?_append_left hi] at hx
      exact .inl hx
    · rw [List.getElem?_append_right (by omega)] at hx
      have hi2 : i - X.length = 0 := by
        have := (List.getElem?_eq_some_iff.1 hx).1
        simp at this
        omega
      rw [hi2] at hx
      simp at hx
      exact .inr ⟨by omega, hx.symm⟩
  have hj : ∀ (i : Nat) (x : Int), (X ++ [now'])[i]? = some x → ∃ c : Int, 0 ≤ c ∧ (X.length : Int) + 1 - (i : Int) ≤ c * n + S.k ∧ x + c * t ≤ now' ∧ (S.k = n → x + (c + 1) * t ≤ S.u) := by
    intro i x hx
    rcases ap i x hx with hx | ⟨rfl, rfl⟩
    · obtain ⟨c, c0, c1, c2, c3⟩ := h.j i x hx
      by_cases hq : L.k = L.n
      · have hb : L.base = 0 := if_pos hq
        have hop := Lok.open_iff.1 hs hq
        have c4 := c3 (by omega)
        refine ⟨c + 1, by omega, ?_, by omega, fun hw => ?_⟩
        · rw [Int.add_mul, Int.one_mul]
          omega
        · rw [hu hw, Int.add_mul, Int.one_mul]
          omega
      · have hb : L.base = L.k := if_neg hq
        refine ⟨c, c0, by omega, by omega, fun hw => ?_⟩
        rw [hu hw, Int.add_mul, Int.one_mul]
        omega
    · refine ⟨0, Int.le_refl _, by omega, by omega, fun hw => ?_⟩
      rw [hu hw]
      omega
  refine ⟨⟨hok, by omega, by omega, ?_, ?_, ?_⟩, by omega⟩
  · intro i x hx
    rcases ap i x hx with hx | ⟨rfl, rfl⟩
    · have := h.low i x hx
      omega
    · omega
  · intro i x hx
    obtain ⟨c, c0, c1, c2⟩ := hj i x hx
    refine ⟨c, c0, ?_, c2⟩
    rw [List.length_append, List.length_singleton]
    omega
  · intro i k x y hik hx hy
    rcases ap k y hy with hy2 | ⟨hk2, hy2⟩
    · rcases ap i x hx with hx2 | ⟨hi, hx2⟩
      · exact h.p i k x y hik hx2 hy2
      · have := old k y hy2
        omega
    · subst hk2 hy2
      obtain ⟨c, c0, c1, c2, c3⟩ := hj i x hx
      have ht0 := h.ok.t0
      have m1 : 0 ≤ c * t := Int.mul_nonneg c0 (by omega)
      refine ⟨by omega, c, c0, ?_, c2⟩
      have hk1 := hok.k1
      rw [Int.add_mul, Int.one_mul]
      omega
/-- what the law holds of two counted answers -/
theorem Bdl.two {n t : Int} {L : Lok} {now : Int} {X : List Int} (h : Bdl n t L now X) (hn4 : n ≤ 4) (i k : Nat) (x y : Int) (hik : i ≤ k) (hx : X[i]? = some x) (hy : X[k]? = some y) :
    ∃ D M : Int, (y - x).tdiv t = D ∧ n * (D + 2) = M ∧ 0 ≤ D ∧ D ≤ y - x ∧ 0 ≤ M ∧ M ≤ 4 * (D + 2) ∧ ¬ M < (k : Int) - (i : Int) + 1 := by
  obtain ⟨h1, c, c0, c1, c2⟩ := h.p i k x y hik hx hy
  have ht0 := h.ok.t0
  have hn0 := h.ok.n0
  rw [h.et] at ht0
  rw [h.en] at hn0
  refine ⟨_, _, rfl, rfl, ?_⟩
  rw [Int.tdiv_eq_ediv_of_nonneg (by omega)]
  have d0 : 0 ≤ (y - x) / t := Int.ediv_nonneg (by omega) (by omega)
  have d1 : c ≤ (y - x) / t := by
    rw [Int.le_ediv_iff_mul_le (by omega)]
    omega
  have d2 : (y - x) / t ≤ y - x := Int.ediv_le_self _ (by omega)
  generalize (y - x) / t = D at d0 d1 d2 ⊢
  have m1 : (c + 1) * n ≤ (D + 2) * n := Int.mul_le_mul_of_nonneg_right (by omega) (by omega)
  have m2 : n * (D + 2) ≤ 4 * (D + 2) := Int.mul_le_mul_of_nonneg_right hn4 (by omega)
  have m3 : 0 ≤ n * (D + 2) := Int.mul_nonneg (by omega) (by omega)
  rw [Int.mul_comm (D + 2) n] at m1
  exact ⟨d0, d2, m3, m2, by omega⟩
theorem Bdl.left {n t : Int} {L : Lok} {now : Int} {X : List Int} (h : Bdl n t L now X) : L.k ≤ n := by
  rw [← h.en]
  exact h.ok.k1
end Go.Proofs.Ytliepgmnlhfaiaa
