/-
  Rows of slices of bytes of the call's own, each in a block of its own. No condition.
-/
import Derived.Test.YtkomionfnpgjgaaExec
namespace Go.Proofs.Ytkomionfnpgjgaa
open Go.RowKit
set_option linter.unusedVariables false

/-- slice values, each in a block of bytes of its own, that read as these -/
def RowsE (w : World) (base : Nat) (vs : List Value) (L : List (List UInt8)) : Prop := vs.length = L.length ∧ ∀ (i : Nat) (v : Value) (xs : List UInt8), vs[i]? = some v → L[i]? = some xs → ∃ g c, v = .slice (some ⟨g, 0, none⟩) xs.length c ∧ base ≤ g ∧ Row8 w g c xs
theorem RowsE.nil (w : World) (base : Nat) : RowsE w base [] [] := ⟨rfl, fun i v xs h => by simp at h⟩
theorem RowsE.keep {S : Nat → Prop} {w w' : World} {base : Nat} {vs : List Value} {L : List (List UInt8)} (h : RowsE w base vs L) (hk : Keep S w w') (hn : ∀ g c xs, Row8 w g c xs → ¬ S g) : RowsE w' base vs L :=
  ⟨h.1, fun i v xs h1 h2 => by
    obtain ⟨g, c, e, hb, hr⟩ := h.2 i v xs h1 h2
    exact ⟨g, c, e, hb, hr.keep hk (hn g c xs hr)⟩⟩
theorem RowsE.kept {w w' : World} {base : Nat} {vs : List Value} {L : List (List UInt8)} (h : RowsE w base vs L) (hk : Kept w w') : RowsE w' base vs L := h.keep hk (fun _ _ _ _ h => h)
theorem RowsE.low {w : World} {base base' : Nat} {vs : List Value} {L : List (List UInt8)} (h : RowsE w base vs L) (hb : base' ≤ base) : RowsE w base' vs L :=
  ⟨h.1, fun i v xs h1 h2 => by
    obtain ⟨g, c, e, hb', hr⟩ := h.2 i v xs h1 h2
    exact ⟨g, c, e, Nat.le_trans hb hb', hr⟩⟩
theorem RowsE.set_ {w : World} {base g c : Nat} {vs : List Value} {L : List (List UInt8)} {xs : List UInt8} (h : RowsE w base vs L) (i : Nat) (hb : base ≤ g) (hv : Row8 w g c xs) : RowsE w base (vs.set i (.slice (some ⟨g, 0, none⟩) xs.length c)) (L.set i xs) := by
  refine ⟨by simp [h.1], fun j u ys h1 h2 => ?_⟩
  by_cases e : i = j
  · subst e
    by_cases hi : i < vs.length
    · rw [List.getElem?_set_self hi] at h1
      rw [List.getElem?_set_self (by rw [← h.1]; exact hi)] at h2
      injection h1 with h1
      injection h2 with h2
      subst h1 h2
      exact ⟨g, c, rfl, hb, hv⟩
    · rw [List.getElem?_eq_none (by simp; omega)] at h1
      cases h1
  · rw [List.getElem?_set_ne e] at h1 h2
    exact h.2 j u ys h1 h2
theorem RowsE.snoc {w : World} {base g c : Nat} {vs : List Value} {L : List (List UInt8)} {xs : List UInt8} (h : RowsE w base vs L) (hb : base ≤ g) (hv : Row8 w g c xs) : RowsE w base (vs ++ [.slice (some ⟨g, 0, none⟩) xs.length c]) (L ++ [xs]) := by
  refine ⟨by simp [h.1], fun i u ys h1 h2 => ?_⟩
  by_cases hi : i < vs.length
  · rw [List.getElem?_append_left hi] at h1
    rw [List.getElem?_append_left (by rw [← h.1]; exact hi)] at h2
    exact h.2 i u ys h1 h2
  · rw [List.getElem?_append_right (by omega)] at h1
    rw [List.getElem?_append_right (by rw [← h.1]; omega), ← h.1] at h2
    cases hq : i - vs.length with
    | zero =>
      rw [hq] at h1 h2
      simp at h1 h2
      subst h1 h2
      exact ⟨g, c, rfl, hb, hv⟩
    | succ j => rw [hq] at h1; simp at h1
theorem Row8.bytes {w : World} {g c : Nat} {xs : List UInt8} (h : Row8 w g c xs) : Bytes w (.slice (some ⟨g, 0, none⟩) xs.length c) xs :=
  ⟨_, _, c, rfl, rfl, h.r8, h.le, by obtain ⟨_, _, _, h⟩ := h; exact h, fun h => by cases h⟩
/-- a row of slices and a block of bytes are two -/
theorem own_ne {w : World} {base n c g g' c' : Nat} {cs : List Value} {xs : List UInt8} (h : OwnG w base 26 1 (some ⟨g, 0, none⟩) n c cs) (h' : Row8 w g' c' xs) : g' ≠ g := by
  rintro rfl
  rcases h.2 with ⟨e, _⟩ | ⟨g0, cap, cur, e, _, hh, _⟩
  · cases e
  · injection e with e
    injection e with e
    injection e with e
    subst e
    obtain ⟨_, hb, _⟩ := h'
    unfold Blk at hb
    rw [hb] at hh
    injection hh with hh
    injection hh with _ ht _
    exact absurd ht (by decide)
/-- such a row reads as the records -/
theorem recs_of_own {w : World} {base n c : Nat} {A : Option Addr} {vs : List Value} {L : List (List UInt8)} (h : OwnG w base 26 1 A n c vs) (hr : RowsE w base vs L) : Recs w A L := by
  intro i xs hx
  have hi := (List.getElem?_eq_some_iff.1 hx).1
  have hn := h.len
  rw [hr.1, Nat.mul_one] at hn
  obtain ⟨g, rfl, _, _⟩ := h.some_ (by omega)
  have hiv : i < vs.length := by rw [hr.1]; exact hi
  have hv : vs[i]? = some vs[i] := List.getElem?_eq_getElem hiv
  obtain ⟨g', c', e, _, hrow⟩ := hr.2 i _ xs hv hx
  refine ⟨g, 0, vs[i], rfl, ?_, ?_⟩
  · rw [Nat.zero_add, h.cell i (by omega), hv]
  · rw [e]
    exact hrow.bytes

theorem infoSl : (Try.prog.info? 26).map (fun i => (i.zero, i.size, i.bytes)) = some (some (.slice none 0 0), 1, 24) := by kernel_rfl
theorem infoSl2 : (Try.prog.info? 26).map (fun i => (i.zero, i.size)) = some (some (.slice none 0 0), 1) := by kernel_rfl
end Go.Proofs.Ytkomionfnpgjgaa
