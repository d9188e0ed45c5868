/-
  A reader's cells, its places. No condition.
-/
import Derived.Test.YtdmeiffofmagjaaWireRd
namespace Go.Proofs.Ytdmeiffofmagjaa
open Go.RowKit
set_option linter.unusedVariables false

theorem RS.take_xs (s : RS) (n : Nat) : (s.take n).1.xs = s.xs := by unfold RS.take; split <;> rfl
theorem RS.bad_ok {s : RS} (h : s.ok) : RS.ok { s with bad := true } := h
theorem Rd.cells {w : World} {g b : Nat} {s : RS} (h : Rd w g b s) : w.cell? ⟨g, 1, none⟩ = some (.int .i64 (s.pos : Int)) ∧ w.cell? ⟨g, 2, none⟩ = some (.bool s.bad) ∧ w.frozen? ⟨g, 1, none⟩ = false ∧ w.frozen? ⟨g, 2, none⟩ = false := by
  obtain ⟨L, h0, hb, h2, h3⟩ := h
  exact ⟨hb.cell 1, hb.cell 2, hb.frozen 1, hb.frozen 2⟩
theorem Rd.setBad {w : World} {g b : Nat} {s : RS} (h : Rd w g b s) (v : Bool) : Rd (w.setCell ⟨g, 2, none⟩ (.bool v)) g b { s with bad := v } := by
  obtain ⟨L, h⟩ := h
  exact ⟨L, h.setBad v⟩
theorem Rd.setPos {w : World} {g b : Nat} {s : RS} (h : Rd w g b s) (p : Nat) : Rd (w.setCell ⟨g, 1, none⟩ (.int .i64 (p : Int))) g b { s with pos := p } := by
  obtain ⟨L, h⟩ := h
  exact ⟨L, h.setPos p _ rfl⟩
theorem keep_set0 {w : World} {g i : Nat} (v : Value) : Keep (· = g) w (w.setCell ⟨g, i, none⟩ v) := Keep.setCell (Keep.refl (· = g) w) (fun _ => rfl) _
theorem keep_tr {g : Nat} {a b c : World} (h : Keep (· = g) a b) (k : Keep (· = g) b c) : Keep (· = g) a c := h.trans k (fun _ _ h => h)
end Go.Proofs.Ytdmeiffofmagjaa
