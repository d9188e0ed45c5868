/-
  An array of 32 bytes among the arguments, opened. No condition.
-/
import Derived.Test.YtfoamgljfdnloaaDoorClose
import Derived.OpenShut
namespace Go.Proofs.YtfoamgljfdnloaaDoor
open Go.RowKit Go.ChangeShapes Go.WideShapes Go.ChangeAt
set_option linter.unusedVariables false
set_option maxRecDepth 100000

theorem open_sum {H : Type} {enc : TypeId × Value → H} {W : World} {b0 : Nat} {v : Value} {d : DataW H} {p : List MemPlace} (hv : Value.okWide Tryd.prog W .any b0 33 v)
    (h : DataW.Trod enc Tryd.prog W 0 (fun _ => true) true 33 v d p) : ∃ xs : List UInt8, v = .agg (cells8 xs).toArray ∧ xs.length = 32 := by
  simp only [Value.okWide, Tryd.underlying33] at hv
  obtain ⟨cs, rfl, hsz, _⟩ := hv
  obtain ⟨fuel, hf⟩ := h
  obtain ⟨ys, m, rfl, hx, hl, hn, hall⟩ := DataW.trod_array Tryd.underlying33 hf
  have hc32 : Tryd.prog.cellsOf 33 = 32 := by kernel_rfl
  rw [hc32] at hl
  rw [cellsOf8] at hall
  simp only [Value.cells] at hl hall
  have hcell : ∀ i, i < 32 → ∃ a : Int, cs.toList[i]? = some (.int .u8 a) ∧ (Lit.int .u8 a).wf = true := by
    intro i hi
    have h1 := hall i hi
    rw [List.getElem?_eq_getElem (by omega)] at h1
    obtain ⟨a, e, _, wa⟩ := DataW.trod_int Tryd.underlying5 h1
    refine ⟨a, ?_, wa⟩
    have := congrArg (·[0]?) e
    simpa [List.getElem?_take, List.getElem?_drop] using this
  refine ⟨cs.toList.map fun u => UInt8.ofNat (intOf u).toNat, ?_, by simpa using hl⟩
  congr 1
  apply Array.toList_inj.1
  apply List.ext_getElem?
  intro i
  by_cases hi : i < 32
  · obtain ⟨a, h1, wa⟩ := hcell i hi
    have e := u8_of_wf wa
    simp only [cells8, List.map_map, List.getElem?_map, h1, Option.map_some, Function.comp_apply]
    rw [show intOf (Value.int .u8 a) = a from rfl, e]
  · rw [List.getElem?_eq_none (by omega), List.getElem?_eq_none (by simp [cells8]; simpa using (by omega : cs.toList.length ≤ i))]
end Go.Proofs.YtfoamgljfdnloaaDoor
