/-
  A sum of many numbers as mathematics; slices that read as ints; the contracts of Sum, the program's and the document's own. Condition: the numbers are an int's; lengths fit an int.
-/
import Derived.Test.YtliepgmnlhfaiaaSumC
namespace Go.Proofs.Ytliepgmnlhfaiaa
open Go.RowKit
set_option linter.unusedVariables false
set_option maxRecDepth 100000

/-- the numbers of l added one after another to s -/
def sumM (s : Int) : List Int → Int × Int
  | [] => (s, 0)
  | x :: l => if (plusM s x).2 = 0 then sumM (plusM s x).1 l else (0, (plusM s x).2)
theorem sumM_cons (s x : Int) (l : List Int) : sumM s (x :: l) = if (plusM s x).2 = 0 then sumM (plusM s x).1 l else (0, (plusM s x).2) := rfl
theorem plusM_in (a b : Int) (h : (plusM a b).2 = 0) : In64 (plusM a b).1 ∧ 0 ≤ (plusM a b).1 := by
  unfold plusM In64 at *
  by_cases h1 : a < 0 ∨ b < 0
  · rw [if_pos h1] at h; cases h
  · rw [if_neg h1] at h ⊢
    by_cases h2 : 9223372036854775807 < a + b
    · rw [if_pos h2] at h; cases h
    · rw [if_neg h2]
      simp only
      omega
/-- a slice value that reads as these ints -/
def RI (w : World) (A : Option Addr) (l : List Int) : Prop := ∀ k x, l[k]? = some x → ∃ ad, A = some ad ∧ w.cell? (ad.add k) = some (.int .i64 x)
theorem RI.nil (w : World) (A : Option Addr) : RI w A [] := fun k x h => by simp at h
theorem RI.kept {w w' : World} {A : Option Addr} {l : List Int} (h : RI w A l) (hk : Kept w w') : RI w' A l := by
  intro k x hx
  obtain ⟨ad, rfl, hc⟩ := h k x hx
  exact ⟨ad, rfl, hk.cell hc⟩
theorem RI.take {w : World} {A : Option Addr} {l : List Int} (h : RI w A l) (n : Nat) : RI w A (l.take n) := by
  intro k x hx
  rw [List.getElem?_take] at hx
  split at hx
  · exact h k x hx
  · cases hx
theorem RI.drop {w : World} {ad : Addr} {l : List Int} (h : RI w (some ad) l) (n : Nat) : RI w (some (ad.add n)) (l.drop n) := by
  intro k x hx
  rw [List.getElem?_drop] at hx
  obtain ⟨a', e, hc⟩ := h (n + k) x hx
  injection e with e
  subst e
  exact ⟨_, rfl, by rw [add_add]; exact hc⟩


theorem sums_two {f : Nat} {args : Array Value} {w : World} {v : Value} (h : Calls Try.prog f args w fun e w' => e = .returned v ∧ w = w') : Gives f args w (.eq v) := h.mono fun e w' ⟨he, hk⟩ => ⟨v, he, rfl, by rw [hk]; exact Kept.refl _⟩

end Go.Proofs.Ytliepgmnlhfaiaa
