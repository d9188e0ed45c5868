/-
  What Check tells of an order to buy or to sell, of accounts that few calls made. No condition.
-/
import Derived.Test.YtgajdkelpaaadaaRskM
namespace Go.Proofs.Ytgajdkelpaaadaa
open Go.RowKit
set_option linter.unusedVariables false
set_option maxRecDepth 100000

/-- trader 1's order of side s -/
def oS (s p q : Int) : Ord := ⟨1, 0, 0, s, 1, p, q, 0, 0⟩
theorem oS_right {s p q : Int} (hs : s = 1 ∨ s = 2) (hp0 : 1 ≤ p) (hp1 : p ≤ 1048576) (hq0 : 1 ≤ q) (hq1 : q ≤ 1048576) : (oS s p q).right = true := by
  unfold Ord.right Ord.owned Ord.ofApi Ord.prices Ord.amounts Ord.shown rng oS
  dsimp only
  simp only [Bool.and_eq_true, decide_eq_true_eq]
  refine ⟨⟨⟨⟨⟨⟨by omega, by omega⟩, by omega, by omega⟩, by omega, by omega⟩, ⟨by omega, by omega⟩, by omega, by omega⟩, ⟨by omega, by omega⟩, ?_⟩, ⟨by omega, by omega⟩, by omega, ?_⟩
  · rw [if_neg (by omega)]
    simp only [Bool.and_eq_true, decide_eq_true_eq]
    omega
  · rw [if_pos (Or.inl trivial)]
    omega
theorem worth_o {s p q m : Int} (hp0 : 1 ≤ p) (hp1 : p ≤ 1048576) (hq0 : 1 ≤ q) (hq1 : q ≤ 1048576) : (oS s p q).worth m = decide (m < p * q) := by
  have h1 : p * q ≤ 1048576 * 1048576 := Int.mul_le_mul hp1 hq1 (by omega) (by omega)
  unfold Ord.worth oS timesM
  dsimp only
  rw [if_neg (by omega), if_neg (by omega)]
  simp
def sided (s x : Int) : Int := if s = 2 then -x else x
theorem chk_o {B : Bal} {L : Lim} {s p q i : Int} (hs : s = 1 ∨ s = 2) (hp0 : 1 ≤ p) (hp1 : p ≤ 1048576) (hq0 : 1 ≤ q) (hq1 : q ≤ 1048576) (hi : wiB i 0 7 = true) : chk B L (oS s p q) i = if L.q < q ∨ L.m < p * q ∨ L.o < B.all 1 + q ∨ L.p < sided s (B.pAt 1 i) + B.oAt 1 i + q then 8 else 0 := by
  rw [chk_in (by rw [oS_right hs hp0 hp1 hq0 hq1, hi]; rfl)]
  have e : over B L (oS s p q) i = (((decide (L.q < q) || decide (L.m < p * q)) || decide (L.o < B.all 1 + q)) || decide (L.p < sided s (B.pAt 1 i) + B.oAt 1 i + q)) := by
    unfold over
    rw [worth_o hp0 hp1 hq0 hq1]
    rfl
  rw [e]
  simp only [Bool.or_eq_true, decide_eq_true_eq, or_assoc]
theorem if8 {p q : Prop} [Decidable p] [Decidable q] (h : p ↔ q) : (if p then (8 : Int) else 0) = if q then 8 else 0 := by simp only [h]
/-! accounts that few calls made -/
theorem all_1 (B : Bal) : B.all 1 = B.o 1 0 + B.o 1 1 + B.o 1 2 + B.o 1 3 + B.o 1 4 + B.o 1 5 + B.o 1 6 + B.o 1 7 := by
  refine (all_in B (a := 1) (by omega)).trans ?_
  simp only [sumTo]
  omega
theorem oAt_1 (B : Bal) {i : Nat} (hi : i < 8) : B.oAt 1 (i : Int) = B.o 1 i := pick2_in B.o (a := 1) (by omega) hi
theorem pAt_1 (B : Bal) {i : Nat} (hi : i < 8) : B.pAt 1 (i : Int) = B.p 1 i := pick2_in B.p (a := 1) (by omega) hi
end Go.Proofs.Ytgajdkelpaaadaa
