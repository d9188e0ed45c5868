/-
  Slices of bytes that come in, or are constants. No condition.
-/
import Derived.Test.YtliepgmnlhfaiaaClose
namespace Go.Proofs.Ytliepgmnlhfaiaa
open Go.RowKit
set_option linter.unusedVariables false
set_option maxRecDepth 100000

theorem r8_marked (w : World) (xs : List UInt8) (t : TypeId) (fr : Nat × Nat) : R8 (w.alloc (.cells (cells8 xs).toArray t fr)) (some ⟨w.heap.size, 0, none⟩) xs := by
  intro k x hx
  refine ⟨_, rfl, ?_⟩
  rw [add_lit, World.cell?_alloc_mark]
  simp [cells8, hx]

theorem Blk.r8 {w : World} {g : Nat} {t : TypeId} {xs : List UInt8} (h : Blk w g t (cells8 xs)) : R8 w (some ⟨g, 0, none⟩) xs := by
  intro k x hx
  refine ⟨_, rfl, ?_⟩
  rw [add_lit, h.cell]
  simp [cells8, hx]
theorem Bytes.keep {S : Nat → Prop} {w w' : World} {v : Value} {xs : List UInt8} (h : Bytes w v xs) (hk : Keep S w w') (hn : ∀ ad n c, v = .slice (some ad) n c → xs ≠ [] → ¬ S ad.block) : Bytes w' v xs := by
  obtain ⟨A, n, c, rfl, hl, hx, h1, h2, h3⟩ := h
  exact ⟨A, n, c, rfl, hl, hx.keep hk (fun ad e hne => hn ad n c (by rw [e]) hne), h1, h2, h3⟩
theorem Bytes.kept {w w' : World} {v : Value} {xs : List UInt8} (h : Bytes w v xs) (hk : Kept w w') : Bytes w' v xs := h.keep hk (fun _ _ _ _ _ h => h)
/-- a constant's bytes, laid anew -/
theorem bytes_marked (w : World) (xs : List UInt8) (fr : Nat × Nat) (c : Nat) (hc : xs.length ≤ c) (hm : c ≤ 1000000) : Bytes (w.alloc (.cells (cells8 xs).toArray 5 fr)) (.slice (some ⟨w.heap.size, 0, none⟩) xs.length c) xs :=
  ⟨_, _, c, rfl, rfl, r8_marked w xs _ fr, hc, by unfold maxLen; omega, fun h => by cases h⟩
end Go.Proofs.Ytliepgmnlhfaiaa
