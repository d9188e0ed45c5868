/-
  A law whose row lists sha's two tables: what the listing gives; that the door's own heap meets it. No condition.
-/
import Derived.Test.YtholpkaicmckfaaDoorClose
import Derived.Test.YtholpkaicmckfaaDoorShaMix
import Derived.LaidMore
import Derived.Stop.Joined
import Derived.Lib.LaidTab
namespace Go.Proofs.YtholpkaicmckfaaDoor
open Go.RowKit Go.ChangeShapes Go.WideShapes Go.ChangeAt
set_option linter.unusedVariables false

def laidSha : List (String × DataW Unit) := Rows.chainRunsRow.laid
/-- the tables' names, as the row lists them -/
def nameAt (i : Nat) : String := ((laidSha[i]?).map (·.1)).getD Rows.chainRunsRow.func

theorem gRound : Tryd.prog.globalNamed (nameAt 0) = some 1 := by kernel_rfl
theorem gFirst : Tryd.prog.globalNamed (nameAt 1) = some 0 := by kernel_rfl
theorem tRound : (Tryd.prog.globals[1]?).map (·.type) = some 57 := by kernel_rfl
theorem tFirst : (Tryd.prog.globals[0]?).map (·.type) = some 51 := by kernel_rfl

set_option maxRecDepth 100000 in
theorem door_met (os : Os) (args : Array Value) : laidMetH Tryd.prog laidSha ((World.doorLaid Tryd.prog 400 os).forCall (fun _ _ => 0) ⟨#[], args, []⟩).memory :=
  laidMetH_of_parts3 (fuel := 8) (laidMet_of_run' 8 (by kernel_rfl) (by kernel_rfl)) (by kernel_rfl) (by kernel_rfl)

theorem row_of_var {w : World} {n : String} {g : Nat} {cs : Array Value} (hg : Tryd.prog.globalNamed n = some g) (h : w.var? Tryd.prog n = some cs) : ∃ t fr, w.heap[g]? = some (.cells cs t fr) := by
  simp only [World.var?, hg, Option.bind_some] at h
  split at h
  · rename_i cs' t fr hh
    injection h with h
    subst h
    exact ⟨t, fr, hh⟩
  · cases h

theorem glob_of_laid {W : World} (h : laidMetH Tryd.prog laidSha W) : Glob W := by
  rw [MakeChecks.laidMetH_plain _ _ _ (by kernel_rfl)] at h
  obtain ⟨ps, ⟨g0, t0, cs0, f0, p0, q0, hg0, ht0, hv0, hd0, ⟨g1, t1, cs1, f1, p1, q1, hg1, ht1, hv1, hd1, _, _⟩, _⟩, _, _⟩ := h
  obtain rfl := Option.some.inj (gRound.symm.trans hg0)
  obtain rfl := Option.some.inj (gFirst.symm.trans hg1)
  obtain rfl := Option.some.inj (tRound.symm.trans ht0)
  obtain rfl := Option.some.inj (tFirst.symm.trans ht1)
  have e0 := Lib.cells_of_tab (k := .u32) (zs := K64) Tryd.underlying57 Tryd.underlying41 (by kernel_rfl) (by kernel_rfl) hd0
  have e1 := Lib.cells_of_tab (k := .u32) (zs := H0.list) Tryd.underlying51 Tryd.underlying41 (by kernel_rfl) (by kernel_rfl) hd1
  obtain ⟨u0, fr0, r0⟩ := row_of_var gRound hv0
  obtain ⟨u1, fr1, r1⟩ := row_of_var gFirst hv1
  refine ⟨⟨u1, fr1, ?_⟩, ⟨u0, fr0, ?_⟩⟩
  · rw [r1, cells32, ← e1]
  · rw [r0, cells32, ← e0]
end Go.Proofs.YtholpkaicmckfaaDoor
