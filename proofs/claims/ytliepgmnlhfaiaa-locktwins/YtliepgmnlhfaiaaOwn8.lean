/-
  A slice of bytes of the call's own, nil or not, appended to. Conditions: lengths far below 2^47.
-/
import Derived.Test.YtliepgmnlhfaiaaBeM
namespace Go.Proofs.Ytliepgmnlhfaiaa
open Go.RowKit
set_option linter.unusedVariables false
set_option maxRecDepth 100000

/-- a slice that is nil, or a row of the call's own, of these bytes -/
def Own8 (w : World) (base : Nat) (A : Option Addr) (n c : Nat) (xs : List UInt8) : Prop := (A = none ∧ n = 0 ∧ c = 0 ∧ xs = []) ∨ (∃ g, A = some ⟨g, 0, none⟩ ∧ base ≤ g ∧ xs.length = n ∧ Row8 w g c xs)
theorem Own8.nil (w : World) (base : Nat) : Own8 w base none 0 0 [] := .inl ⟨rfl, rfl, rfl, rfl⟩
theorem Own8.len {w : World} {base n c : Nat} {A : Option Addr} {xs : List UInt8} (h : Own8 w base A n c xs) : xs.length = n := by
  rcases h with ⟨_, rfl, _, rfl⟩ | ⟨g, _, _, h, _⟩
  · rfl
  · exact h
theorem Own8.r8 {w : World} {base n c : Nat} {A : Option Addr} {xs : List UInt8} (h : Own8 w base A n c xs) : R8 w A xs := by
  rcases h with ⟨_, rfl, _, rfl⟩ | ⟨g, rfl, _, _, h⟩
  · exact R8.nil _ _
  · exact h.r8
theorem Own8.cap {w : World} {base n c : Nat} {A : Option Addr} {xs : List UInt8} (h : Own8 w base A n c xs) : n ≤ c ∧ c ≤ maxLen ∧ (A = none → c = 0) := by
  rcases h with ⟨_, rfl, rfl, rfl⟩ | ⟨g, rfl, _, hl, h⟩
  · exact ⟨Nat.le_refl _, by unfold maxLen; omega, fun _ => rfl⟩
  · have h1 := h.le
    obtain ⟨_, _, _, h2⟩ := h
    exact ⟨by omega, h2, fun h => by cases h⟩
theorem Own8.at_ {w : World} {base n c : Nat} {A : Option Addr} {xs : List UInt8} (h : Own8 w base A n c xs) (ad : Addr) (e : A = some ad) : base ≤ ad.block ∧ ad.block < w.heap.size := by
  rcases h with ⟨rfl, _⟩ | ⟨g, rfl, hb, _, h⟩
  · cases e
  · injection e with e
    subst e
    exact ⟨hb, h.lt⟩
theorem Own8.keep {S : Nat → Prop} {w w' : World} {base n c : Nat} {A : Option Addr} {xs : List UInt8} (h : Own8 w base A n c xs) (hk : Keep S w w') (hn : ∀ ad, A = some ad → ¬ S ad.block) : Own8 w' base A n c xs := by
  rcases h with h | ⟨g, rfl, hb, hl, h⟩
  · exact .inl h
  · exact .inr ⟨g, rfl, hb, hl, h.keep hk (hn ⟨g, 0, none⟩ rfl)⟩
theorem Own8.kept {w w' : World} {base n c : Nat} {A : Option Addr} {xs : List UInt8} (h : Own8 w base A n c xs) (hk : Kept w w') : Own8 w' base A n c xs := h.keep hk (fun _ _ h => h)
theorem Own8.own {w : World} {base n c : Nat} {A : Option Addr} {xs : List UInt8} (h : Own8 w base A n c xs) : w.ownsRow base 5 1 (.slice A n c) n (cells8 xs) := by
  rcases h with ⟨rfl, rfl, rfl, rfl⟩ | ⟨g, rfl, hb, hl, h⟩
  · exact World.ownsRow_nil _ _ _ _
  · have := h.own hb
    rw [hl] at this
    exact this
theorem Own8.of_own {w : World} {base n : Nat} {v : Value} {xs : List UInt8} (h : w.ownsRow base 5 1 v n (cells8 xs)) : ∃ A c, v = .slice A n c ∧ Own8 w base A n c xs := by
  have hl := h.1
  rw [len8] at hl
  rcases h.2 with ⟨rfl, h0⟩ | ⟨g, cap, cur, rfl, hb, _⟩
  · subst h0
    have hx : xs = [] := List.eq_nil_of_length_eq_zero (by simpa using hl)
    subst hx
    exact ⟨none, 0, rfl, Own8.nil _ _⟩
  · exact ⟨_, cap, rfl, .inr ⟨g, rfl, hb, by omega, Row8.of_own h⟩⟩

end Go.Proofs.Ytliepgmnlhfaiaa
