/-
  A command, a note among the arguments, opened. No condition.
-/
import Derived.Test.YtfoamgljfdnloaaDoorCloseA
import Derived.Test.YtfoamgljfdnloaaDoorCmd
namespace Go.Proofs.YtfoamgljfdnloaaDoor
open Go.RowKit Go.ChangeShapes Go.WideShapes Go.ChangeAt
set_option linter.unusedVariables false
set_option maxRecDepth 100000

/-- 32 cells that read as a sum -/
theorem sh_sum {H : Type} {enc : TypeId × Value → H} {W : World} (fuel : Nat) (cs : List Value) (x : DataW H × List MemPlace) (hf : DataW.trod enc Tryd.prog W 0 (fun _ => true) true fuel 33 cs = some x) : ∃ xs : List UInt8, cs = cells8 xs ∧ xs.length = 32 := by
  obtain ⟨ys, m, rfl, hx, hl, hn, hall⟩ := DataW.trod_array Tryd.underlying33 hf
  have hc32 : Tryd.prog.cellsOf 33 = 32 := by kernel_rfl
  rw [hc32] at hl
  rw [cellsOf8] at hall
  have hcell : ∀ i, i < 32 → ∃ a : Int, cs[i]? = some (.int .u8 a) ∧ (Lit.int .u8 a).wf = true := by
    intro i hi
    have h1 := hall i hi
    rw [List.getElem?_eq_getElem (by omega)] at h1
    obtain ⟨a, e, _, wa⟩ := DataW.trod_int Tryd.underlying5 h1
    refine ⟨a, ?_, wa⟩
    have := congrArg (·[0]?) e
    simpa [List.getElem?_take, List.getElem?_drop] using this
  refine ⟨cs.map fun u => UInt8.ofNat (intOf u).toNat, ?_, by simpa using hl⟩
  apply List.ext_getElem?
  intro i
  by_cases hi : i < 32
  · obtain ⟨a, h1, wa⟩ := hcell i hi
    have e := u8_of_wf wa
    simp only [cells8, List.map_map, List.getElem?_map, h1, Option.map_some, Function.comp_apply]
    rw [show intOf (Value.int .u8 a) = a from rfl, e]
  · rw [List.getElem?_eq_none (by omega), List.getElem?_eq_none (by simp [cells8]; omega)]

/-- is it a struct of n ints and a sum -/
def stcB (P : Program) (t : TypeId) (n : Nat) : Bool := match P.underlying t with
  | some (.struct fs) => fs.size == n + 1 && P.cellsOf t == n + 32 && ((List.range n).all fun i => match fs[i]? with
      | some f => f.offset == i && P.cellsOf f.type == 1 && (match P.underlying f.type with | some (.int .i64) => true | _ => false)
      | none => false)
    && (match fs[n]? with | some f => f.offset == n && P.cellsOf f.type == 32 && f.type == 33 | none => false)
  | _ => false
theorem sh_stc {H : Type} {enc : TypeId × Value → H} {W : World} {t : TypeId} (n : Nat) (hB : stcB Tryd.prog t n = true) (fuel : Nat) (cs : List Value) (x : DataW H × List MemPlace) (h : DataW.trod enc Tryd.prog W 0 (fun _ => true) true fuel t cs = some x) :
    ∃ (l : List Int) (s : List UInt8), cs = stc l s ∧ l.length = n ∧ s.length = 32 ∧ ∀ y ∈ l, (Lit.int .i64 y).wf = true := by
  unfold stcB at hB
  cases hu : Tryd.prog.underlying t with
  | none => rw [hu] at hB; cases hB
  | some d =>
    rw [hu] at hB
    cases d <;> try (cases hB; done)
    rename_i fs
    simp only [Bool.and_eq_true, beq_iff_eq, List.all_eq_true, List.mem_range] at hB
    obtain ⟨⟨⟨hsz, hcells⟩, hints⟩, hlast⟩ := hB
    obtain ⟨ys, m, _, _, hlen, hyl, hf⟩ := DataW.trod_struct hu h
    rw [hcells] at hlen
    have hi : ∀ i, i < n → ∃ a : Int, cs[i]? = some (.int .i64 a) ∧ (Lit.int .i64 a).wf = true := by
      intro i hin
      have h1 := hints i hin
      cases hfi : fs[i]? with
      | none => rw [hfi] at h1; cases h1
      | some f =>
        rw [hfi] at h1
        simp only [Bool.and_eq_true, beq_iff_eq] at h1
        obtain ⟨⟨ho, hc⟩, hk⟩ := h1
        have hk' : Tryd.prog.underlying f.type = some (.int .i64) := by
          cases hq : Tryd.prog.underlying f.type with
          | none => rw [hq] at hk; cases hk
          | some d =>
            rw [hq] at hk
            cases d <;> try (cases hk; done)
            rename_i k
            cases k <;> first | rfl | (cases hk; done)
        have g := hf i f hfi
        rw [ho, hc, List.getElem?_eq_getElem (by omega)] at g
        obtain ⟨a, e, _, wa⟩ := DataW.trod_int hk' g
        refine ⟨a, ?_, wa⟩
        have := congrArg (·[0]?) e
        simpa [List.getElem?_take, List.getElem?_drop] using this
    have ht : ∃ s : List UInt8, cs.drop n = cells8 s ∧ s.length = 32 := by
      cases hfn : fs[n]? with
      | none => rw [hfn] at hlast; cases hlast
      | some f =>
        rw [hfn] at hlast
        simp only [Bool.and_eq_true, beq_iff_eq] at hlast
        obtain ⟨⟨ho, hc⟩, hty⟩ := hlast
        have g := hf n f hfn
        rw [ho, hc, hty, List.getElem?_eq_getElem (by omega), List.take_of_length_le (by simp; omega)] at g
        exact sh_sum _ _ _ g
    obtain ⟨s, hs, hsl⟩ := ht
    refine ⟨(cs.take n).map intOf, s, ?_, by simp; omega, hsl, ?_⟩
    · unfold stc
      rw [← hs]
      conv => lhs; rw [← List.take_append_drop n cs]
      congr 1
      apply List.ext_getElem?
      intro i
      by_cases hin : i < n
      · obtain ⟨a, e, _⟩ := hi i hin
        simp [i64s, hin, e, intOf]
      · simp [i64s, List.getElem?_take, hin]
    · intro y hy
      simp only [List.mem_map] at hy
      obtain ⟨u, hu', rfl⟩ := hy
      obtain ⟨i, hi1, hi2⟩ := List.getElem_of_mem hu'
      have hin : i < n := by simp at hi1; omega
      obtain ⟨a, e, wa⟩ := hi i hin
      have : u = .int .i64 a := by
        have h2 : (cs.take n)[i]? = some u := by rw [List.getElem?_eq_getElem hi1, hi2]
        rw [List.getElem?_take, if_pos hin, e] at h2
        injection h2 with h2
        exact h2.symm
      rw [this]
      exact wa

def Cmd.wf (c : Cmd) : Prop := ∀ y ∈ c.l, (Lit.int .i64 y).wf = true
def Nte.wf (c : Nte) : Prop := ∀ y ∈ c.l, (Lit.int .i64 y).wf = true
end Go.Proofs.YtfoamgljfdnloaaDoor
