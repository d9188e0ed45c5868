/-
  The contract of jobberlaw13.TreeRuns: chapter 13's runs. No condition.
-/
import Derived.Test.YtfoamgljfdnloaaDoorSom13
namespace Go.Proofs.YtfoamgljfdnloaaDoor
open Go.RowKit
set_option linter.unusedVariables false
set_option maxRecDepth 100000

theorem there_is {w : World} {p : Nat} {X : Trds} {n : Int} {b : Bool} (hB : Blk w p 58 X.cells) (h : X.there n = b) : Gives 16 #[.pointer (some ⟨p, 0, none⟩), .int .i64 n] w (.eq (.bool b)) := by
  subst h
  exact there_any w p X n hB
theorem get_is {w : World} {p : Nat} {X : Trds} {n : Int} {t : Trd} (hB : Blk w p 58 X.cells) (h : X.get n = t) : Gives 17 #[.pointer (some ⟨p, 0, none⟩), .int .i64 n] w (.eq t.v) := by
  subst h
  exact trader_any w p X n hB
theorem new_ok {w : World} {X : Trds} (h : X.bad = none) : Calls Tryd.prog 12 #[X.v] w fun e w' => ∃ p, e = .returned (.tuple #[.pointer (some ⟨p, 0, none⟩), .int .i64 (-1)]) ∧ w.heap.size ≤ p ∧ Blk w' p 58 X.cells ∧ Kept w w' := by
  refine (new_any w X).mono ?_
  rintro e w' ⟨hk, h1 | h1⟩
  · obtain ⟨i, h2, _⟩ := h1
    rw [h] at h2
    cases h2
  · obtain ⟨_, p, rfl, h2, h3⟩ := h1
    exact ⟨p, rfl, h2, h3, hk⟩
theorem new_bad {w : World} {X : Trds} {i : Nat} (h : X.bad = some i) : Gives 12 #[X.v] w (.eq (.tuple #[.pointer none, .int .i64 (i : Int)])) := by
  refine (new_any w X).mono ?_
  rintro e w' ⟨hk, h1 | h1⟩
  · obtain ⟨j, h2, rfl⟩ := h1
    rw [h] at h2
    injection h2 with h2
    subst h2
    exact ⟨_, rfl, rfl, hk⟩
  · rw [h] at h1
    cases h1.1
def runA : Trd := mkT 1 0 1 0
def runB : Trd := mkT 1 1 1 0
def runX : Trds := ((zeroX.put 0 runA).put 1 runA).put 2 runB
theorem runX_bad : runX.bad = none := by decide +kernel
theorem runX_2 : runX.setB 0 2 = 3 := by decide +kernel
theorem runX_3 : runX.setB 0 3 = 7 := by decide +kernel
theorem runX_1 : runX.setB 3 1 = 0 := by decide +kernel
end Go.Proofs.YtfoamgljfdnloaaDoor
