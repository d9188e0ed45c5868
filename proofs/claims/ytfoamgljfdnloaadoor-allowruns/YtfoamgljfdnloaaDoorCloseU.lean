/-
  A law whose row lists the table of rules: what the listing gives; that the door's own heap meets it. No condition.
-/
import Derived.Test.YtfoamgljfdnloaaDoorClose
import Derived.Test.YtfoamgljfdnloaaDoorAlM
import Derived.LaidMore
import Derived.Stop.Joined
import Derived.Lib.LaidTab
namespace Go.Proofs.YtfoamgljfdnloaaDoor
open Go.RowKit Go.ChangeShapes Go.WideShapes Go.ChangeAt
set_option linter.unusedVariables false
set_option maxRecDepth 100000

def laidRul : List (String × DataW Unit) := Rows.allowRunsRow.laid
/-- the table's name, as the row lists it -/
def nameAt (i : Nat) : String := ((laidRul[i]?).map (·.1)).getD Rows.allowRunsRow.func

theorem gRul : Tryd.prog.globalNamed (nameAt 0) = some 0 := by kernel_rfl
theorem tRul : (Tryd.prog.globals[0]?).map (·.type) = some 66 := by kernel_rfl

set_option maxRecDepth 100000 in
theorem door_met (os : Os) (args : Array Value) : laidMetH Tryd.prog laidRul ((World.doorLaid Tryd.prog 400 os).forCall (fun _ _ => 0) ⟨#[], args, []⟩).memory :=
  laidMetH_of_parts3 (fuel := 8) (laidMet_of_run' 8 (by kernel_rfl) (by kernel_rfl)) (by kernel_rfl) (by kernel_rfl)

theorem row_of_var {w : World} {n : String} {g : Nat} {cs : Array Value} (hg : Tryd.prog.globalNamed n = some g) (h : w.var? Tryd.prog n = some cs) : ∃ t fr, w.heap[g]? = some (.cells cs t fr) := by
  simp only [World.var?, hg, Option.bind_some] at h
  split at h
  · rename_i cs' t fr hh
    injection h with h
    subst h
    exact ⟨t, fr, hh⟩
  · cases h

def rulD (r : Rul) : DataW Unit := .agg (r.l.map fun z => .lit (.int .i64 z))
theorem rul_fields : (Tryd.prog.fieldsOf 65).toList.map (fun f => (f.type, f.offset)) = [(3, 0), (3, 1), (3, 2)] := by kernel_rfl
theorem rul_of_trod {enc : TypeId × Value → Unit} {w : World} {base : Nat} {sp : Nat → Bool} {held : Bool} {fuel : Nat} {cs : List Value} {r : Rul} {p : List MemPlace} (h : DataW.trod enc Tryd.prog w base sp held fuel 65 cs = some (rulD r, p)) : cs = r.cells := by
  have hu : Tryd.prog.underlying 65 = some (.struct (Tryd.prog.fieldsOf 65)) := by kernel_rfl
  have hcells : Tryd.prog.cellsOf 65 = 3 := by kernel_rfl
  obtain ⟨ys, m, _, hx, hlen, hyl, hf⟩ := DataW.trod_struct hu h
  rw [hcells] at hlen
  have hys : ys.map (·.1) = r.l.map fun z => (DataW.lit (.int .i64 z) : DataW Unit) := by
    have := congrArg Prod.fst hx
    simp only [rulD] at this
    injection this with this
    exact this.symm
  have hq := rul_fields
  have hsz : (Tryd.prog.fieldsOf 65).size = 3 := by kernel_rfl
  rw [hsz] at hyl
  clear hsz
  generalize hfs : Tryd.prog.fieldsOf 65 = fa at hf hq
  obtain ⟨fs⟩ := fa
  simp only at hq
  have hl : fs.length = 3 := by simpa using congrArg List.length hq
  match fs, hl with
  | [f0, f1, f2], _ =>
    simp only [List.map_cons, List.map_nil, List.cons.injEq, Prod.mk.injEq, and_true] at hq
    obtain ⟨⟨t0, o0⟩, ⟨t1, o1⟩, ⟨t2, o2⟩⟩ := hq
    have c1 : Tryd.prog.cellsOf 3 = 1 := by kernel_rfl
    have int_ : ∀ (i : Nat) (f : Field) (z : Int), ([f0, f1, f2] : List Field).toArray[i]? = some f → f.type = 3 → f.offset = i → r.l[i]? = some z → cs[i]? = some (.int .i64 z) := by
      intro i f z hfi ht ho hz
      have hi3 : i < ys.length := by
        have := (List.getElem?_eq_some_iff.1 hz).1
        rw [hyl]
        simpa [Rul.l] using this
      have g := hf i f hfi
      rw [ho, ht, c1, List.getElem?_eq_getElem hi3] at g
      obtain ⟨a, e, e2, wa⟩ := DataW.trod_int Tryd.underlying3 g
      have h1 : (ys.map (·.1))[i]? = some ys[i].1 := by rw [List.getElem?_map, List.getElem?_eq_getElem hi3]; rfl
      rw [hys, List.getElem?_map, hz, e2] at h1
      simp only [Option.map_some, Option.some.injEq] at h1
      injection h1 with h1
      injection h1 with _ h1
      have := congrArg (·[0]?) e
      rw [h1]
      simpa [List.getElem?_take, List.getElem?_drop] using this
    have e0 := int_ 0 f0 r.do_ rfl t0 o0 rfl
    have e1 := int_ 1 f1 r.roles rfl t1 o1 rfl
    have e2 := int_ 2 f2 r.ties rfl t2 o2 rfl
    clear hf h int_
    revert e0 e1 e2
    match cs, hlen with
    | [c0, c1, c2], _ =>
      intro e0 e1 e2
      simp only [List.getElem?_cons_zero, List.getElem?_cons_succ, Option.some.injEq] at e0 e1 e2
      subst e0 e1 e2
      rfl
theorem cells_of_rul {enc : TypeId × Value → Unit} {w : World} {base : Nat} {sp : Nat → Bool} {held : Bool} {fuel : Nat} {cs : List Value} {p : List MemPlace} (h : DataW.trod enc Tryd.prog w base sp held fuel 66 cs = some (.agg (rulL.map rulD), p)) : cs = rulC := by
  have hc9 : Tryd.prog.cellsOf 66 = 27 := by kernel_rfl
  have hc3 : Tryd.prog.cellsOf 65 = 3 := by kernel_rfl
  obtain ⟨ys, m, _, hx, hlen, hyl, hall⟩ := DataW.trod_array Tryd.underlying66 h
  rw [hc9] at hlen
  rw [hc3] at hall
  have hys : ys.map (·.1) = rulL.map rulD := by
    have := congrArg Prod.fst hx
    simp only at this
    injection this with this
    exact this.symm
  have hpart : ∀ i, i < 9 → (cs.drop (i * 3)).take 3 = (rulC.drop (i * 3)).take 3 := by
    intro i hi
    rw [rul_part hi]
    have g := hall i hi
    have hi3 : i < ys.length := by omega
    rw [List.getElem?_eq_getElem hi3] at g
    have h1 : (ys.map (·.1))[i]? = some ys[i].1 := by rw [List.getElem?_map, List.getElem?_eq_getElem hi3]; rfl
    rw [hys, List.getElem?_map, rul_some hi] at h1
    simp only [Option.map_some, Option.some.injEq] at h1
    have e : ys[i] = (rulD (rulAt i), ys[i].2) := by rw [h1]
    rw [e] at g
    exact rul_of_trod g
  have hrl : rulC.length = 27 := by kernel_rfl
  apply List.ext_getElem?
  intro j
  by_cases hj : j < 27
  · have := congrArg (·[j % 3]?) (hpart (j / 3) (by omega))
    simp only [List.getElem?_take, List.getElem?_drop] at this
    rw [if_pos (by omega), if_pos (by omega), show j / 3 * 3 + j % 3 = j by omega] at this
    exact this
  · rw [List.getElem?_eq_none (by omega), List.getElem?_eq_none (by omega)]
theorem glob_of_laid {W : World} (h : laidMetH Tryd.prog laidRul W) : RulIn W := by
  rw [MakeChecks.laidMetH_plain _ _ _ (by kernel_rfl)] at h
  obtain ⟨ps, ⟨g0, t0, cs0, f0, p0, q0, hg0, ht0, hv0, hd0, _⟩, _⟩ := h
  obtain rfl := Option.some.inj (gRul.symm.trans hg0)
  obtain rfl := Option.some.inj (tRul.symm.trans ht0)
  have e0 := cells_of_rul hd0
  obtain ⟨u0, fr0, r0⟩ := row_of_var gRul hv0
  refine ⟨u0, fr0, ?_⟩
  rw [r0, ← e0]
end Go.Proofs.YtfoamgljfdnloaaDoor
