/-
  Parts of a slice of bytes: x[l:h], x[l:], where they lie and what they read as. No condition.
-/
import Derived.Test.YtkomionfnpgjgaaRowsE
namespace Go.Proofs.Ytkomionfnpgjgaa
open Go.RowKit
set_option linter.unusedVariables false

/-- how many there are -/
def lenS : Value → Nat
  | .slice _ n _ => n
  | _ => 0
theorem elem8 : Try.prog.elem 26 = 5 := by kernel_rfl
theorem R8.mid {w : World} {b o : Nat} {xs : List UInt8} (h : R8 w (some ⟨b, o, none⟩) xs) (l k : Nat) : R8 w (some ⟨b, o + l, none⟩) ((xs.drop l).take k) := by
  intro i x hx
  rw [List.getElem?_take] at hx
  split at hx
  · rw [List.getElem?_drop] at hx
    obtain ⟨ad, e, hc⟩ := h _ x hx
    injection e with e
    subst e
    refine ⟨_, rfl, ?_⟩
    rw [Addr.add_mid] at hc ⊢
    rw [Nat.add_assoc]
    exact hc
  · cases hx
/-- x[l:h] -/
theorem slice_lh8 (b o n c l h : Nat) (L H : Int) (xs : List UInt8) (eL : L = (l : Int)) (eH : H = (h : Int)) (hlh : l ≤ h) (hhc : h ≤ c) :
    ∃ o', (∀ u, (Instr.slice 26 (.slice (some ⟨b, o, none⟩) n c) (some (.int .i64 L)) (some (.int .i64 H)) none).run Try.prog u = .ok (.slice (some ⟨b, o', none⟩) (h - l) (c - l)) u) ∧
      ∀ w, R8 w (some ⟨b, o, none⟩) xs → R8 w (some ⟨b, o', none⟩) ((xs.drop l).take (h - l)) := by
  obtain ⟨i0, hi0, hz0, hz1, hz2⟩ := info_parts info8
  subst eL eH
  have hr := fun u => run_slice_lh (P := Try.prog) (w := u) 26 (some ⟨b, o, none⟩) n c Try.underlying26 .i64 .i64 (l : Int) (h : Int) (by omega) (by omega) (by omega)
  by_cases e : c = l
  · refine ⟨o, fun u => ?_, fun w hx => ?_⟩
    · rw [hr, elem8]
      simp [sizeOf, typeInfo, hi0, hz1, sliced, e]
    · have : h - l = 0 := by omega
      rw [this, List.take_zero]
      exact R8.nil _ _
  · refine ⟨o + l, fun u => ?_, fun w hx => hx.mid l _⟩
    rw [hr, elem8]
    simp [sizeOf, typeInfo, hi0, hz1, sliced, e, Addr.add_mid]
/-- x[l:] -/
theorem slice_l8 (b o n c l : Nat) (L : Int) (xs : List UInt8) (hl : xs.length = n) (eL : L = (l : Int)) (hln : l ≤ n) (hnc : n ≤ c) :
    ∃ o', (∀ u, (Instr.slice 26 (.slice (some ⟨b, o, none⟩) n c) (some (.int .i64 L)) none none).run Try.prog u = .ok (.slice (some ⟨b, o', none⟩) (n - l) (c - l)) u) ∧
      ∀ w, R8 w (some ⟨b, o, none⟩) xs → R8 w (some ⟨b, o', none⟩) (xs.drop l) := by
  obtain ⟨i0, hi0, hz0, hz1, hz2⟩ := info_parts info8
  subst eL
  have hr := fun u => run_slice_l (P := Try.prog) (w := u) 26 (some ⟨b, o, none⟩) n c Try.underlying26 .i64 (l : Int) (by omega) (by omega)
  by_cases e : c = l
  · refine ⟨o, fun u => ?_, fun w hx => ?_⟩
    · rw [hr, elem8]
      simp [sizeOf, typeInfo, hi0, hz1, sliced, e]
    · rw [List.drop_of_length_le (by omega)]
      exact R8.nil _ _
  · refine ⟨o + l, fun u => ?_, fun w hx => ?_⟩
    · rw [hr, elem8]
      simp [sizeOf, typeInfo, hi0, hz1, sliced, e, Addr.add_mid]
    · have := hx.mid l (xs.length - l)
      rwa [List.take_of_length_le (by rw [List.length_drop]; omega)] at this
end Go.Proofs.Ytkomionfnpgjgaa
