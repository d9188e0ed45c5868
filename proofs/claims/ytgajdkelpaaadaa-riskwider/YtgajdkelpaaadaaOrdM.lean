/-
  Orders as mathematics: which are right, what crosses, what is hit, what goes ahead. No condition.
-/
import Derived.Test.YtgajdkelpaaadaaOrd
import Derived.Test.YtgajdkelpaaadaaRng
namespace Go.Proofs.Ytgajdkelpaaadaa
open Go.RowKit
set_option linter.unusedVariables false
set_option maxRecDepth 100000

theorem gives_same {f : Nat} {args : Array Value} {w : World} {c : Value} (h : Calls Try.prog f args w fun e w' => e = .returned c ∧ w = w') : Gives f args w (.eq c) := h.mono fun e w' ⟨he, hk⟩ => ⟨c, he, rfl, by subst hk; exact Kept.refl _⟩
/-- does price x go ahead of price y -/
def bet (side x y : Int) : Bool := if side = 1 then decide (y < x) else decide (x < y)
def Ord.crosses (c : Ord) (x : Int) : Bool := decide (c.k = 2) || !bet c.side x c.price
def Ord.hit (c : Ord) (x : Int) : Bool := (decide (0 < c.stop) && decide (0 < x)) && !bet c.side c.stop x
def Ord.owned (c : Ord) : Bool := (rng c.tr 0 31 && rng c.firm 0 7) && rng c.id 0 1073741824
def Ord.ofApi (c : Ord) : Bool := rng c.side 1 2 && rng c.k 1 5
def Ord.prices (c : Ord) : Bool := rng c.stop 0 1048576 && if c.k = 2 then decide (c.price = 0) else rng c.price 1 1048576
def Ord.shown (c : Ord) : Int := if c.k = 1 ∨ c.k = 5 then c.qty else 0
def Ord.amounts (c : Ord) : Bool := rng c.qty 1 1048576 && rng c.shw 0 c.shown
def Ord.right (c : Ord) : Bool := ((c.owned && c.ofApi) && c.prices) && c.amounts
theorem right_iff (c : Ord) : c.right = true ↔ (0 ≤ c.tr ∧ c.tr ≤ 31) ∧ (0 ≤ c.firm ∧ c.firm ≤ 7) ∧ (0 ≤ c.id ∧ c.id ≤ 1073741824) ∧ (1 ≤ c.side ∧ c.side ≤ 2) ∧ (1 ≤ c.k ∧ c.k ≤ 5) ∧ (0 ≤ c.stop ∧ c.stop ≤ 1048576) ∧ (c.k = 2 → c.price = 0) ∧ (c.k ≠ 2 → 1 ≤ c.price ∧ c.price ≤ 1048576) ∧ (1 ≤ c.qty ∧ c.qty ≤ 1048576) ∧ 0 ≤ c.shw ∧ c.shw ≤ c.qty ∧ (c.k = 1 ∨ c.k = 5 ∨ c.shw = 0) := by
  unfold Ord.right Ord.owned Ord.ofApi Ord.prices Ord.amounts Ord.shown rng
  by_cases h2 : c.k = 2
  · rw [if_pos h2, if_neg (by omega)]
    simp only [Bool.and_eq_true, decide_eq_true_eq]
    omega
  · rw [if_neg h2]
    by_cases h1 : c.k = 1 ∨ c.k = 5
    · rw [if_pos h1]
      simp only [Bool.and_eq_true, decide_eq_true_eq]
      omega
    · rw [if_neg h1]
      simp only [Bool.and_eq_true, decide_eq_true_eq]
      omega
/-- what Right answers -/
def Ord.err (c : Ord) : Int := if c.right = true then 0 else 1
end Go.Proofs.Ytgajdkelpaaadaa
