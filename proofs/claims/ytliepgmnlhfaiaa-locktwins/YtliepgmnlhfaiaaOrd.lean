/-
  Orders: their cells; one among the arguments, opened. No condition.
-/
import Derived.Test.YtliepgmnlhfaiaaStep
import Derived.Test.YtliepgmnlhfaiaaClose
namespace Go.Proofs.Ytliepgmnlhfaiaa
open Go.RowKit Go.ChangeShapes Go.WideShapes Go.ChangeAt
set_option linter.unusedVariables false
set_option maxRecDepth 100000

structure Ord where
  tr : Int
  id : Int
  firm : Int
  side : Int
  k : Int
  price : Int
  qty : Int
  shw : Int
  stop : Int
def Ord.l (o : Ord) : List Int := [o.tr, o.id, o.firm, o.side, o.k, o.price, o.qty, o.shw, o.stop]
theorem Ord.ext_l {c d : Ord} (h : c.l = d.l) : c = d := by
  cases c
  cases d
  simp only [Ord.l, List.cons.injEq] at h
  simp_all
instance : DecidableEq Ord := fun c d => decidable_of_iff (c.l = d.l) ⟨fun h => Ord.ext_l h, fun h => by subst h; rfl⟩
def Ord.cells (o : Ord) : List Value := stc o.l []
def Ord.v (o : Ord) : Value := .agg o.cells.toArray
theorem Ord.cells_len (o : Ord) (h : True) : o.cells.length = 9 := by unfold Ord.cells; rw [stc_len]; rfl
/-- is it a struct of n ints -/
def intsB (P : Program) (t : TypeId) (n : Nat) : Bool := match P.underlying t with
  | some (.struct fs) => fs.size == n && P.cellsOf t == n && ((List.range n).all fun i => match fs[i]? with
      | some f => f.offset == i && P.cellsOf f.type == 1 && (match P.underlying f.type with | some (.int .i64) => true | _ => false)
      | none => false)
  | _ => false
theorem sh_ints {H : Type} {enc : TypeId × Value → H} {W : World} {t : TypeId} (n : Nat) (hB : intsB Try.prog t n = true) (fuel : Nat) (cs : List Value) (x : DataW H × List MemPlace) (h : DataW.trod enc Try.prog W 0 (fun _ => true) true fuel t cs = some x) :
    ∃ l : List Int, cs = stc l [] ∧ l.length = n ∧ ∀ y ∈ l, (Lit.int .i64 y).wf = true := by
  unfold intsB at hB
  cases hu : Try.prog.underlying t with
  | none => rw [hu] at hB; cases hB
  | some d =>
    rw [hu] at hB
    cases d <;> try (cases hB; done)
    rename_i fs
    simp only [Bool.and_eq_true, beq_iff_eq, List.all_eq_true, List.mem_range] at hB
    obtain ⟨⟨hsz, hcells⟩, hints⟩ := hB
    obtain ⟨ys, m, _, _, hlen, hyl, hf⟩ := DataW.trod_struct hu h
    rw [hcells] at hlen
    have hi : ∀ i, i < n → ∃ a : Int, cs[i]? = some (.int .i64 a) ∧ (Lit.int .i64 a).wf = true := by
      intro i hin
      have h1 := hints i hin
      cases hfi : fs[i]? with
      | none => rw [hfi] at h1; cases h1
      | some f =>
        rw [hfi] at h1
        simp only [Bool.and_eq_true, beq_iff_eq] at h1
        obtain ⟨⟨ho, hc⟩, hk⟩ := h1
        have hk' : Try.prog.underlying f.type = some (.int .i64) := by
          cases hq : Try.prog.underlying f.type with
          | none => rw [hq] at hk; cases hk
          | some d =>
            rw [hq] at hk
            cases d <;> try (cases hk; done)
            rename_i k
            cases k <;> first | rfl | (cases hk; done)
        have g := hf i f hfi
        rw [ho, hc, List.getElem?_eq_getElem (by omega)] at g
        obtain ⟨a, e, _, wa⟩ := DataW.trod_int hk' g
        refine ⟨a, ?_, wa⟩
        have := congrArg (·[0]?) e
        simpa [List.getElem?_take, List.getElem?_drop] using this
    refine ⟨cs.map intOf, ?_, by simp; omega, ?_⟩
    · unfold stc
      rw [show cells8 [] = [] from rfl, List.append_nil]
      apply List.ext_getElem?
      intro i
      by_cases hin : i < n
      · obtain ⟨a, e, _⟩ := hi i hin
        simp [i64s, e, intOf]
      · rw [List.getElem?_eq_none (by omega), List.getElem?_eq_none (by rw [i64s_len]; simp; omega)]
    · intro y hy
      simp only [List.mem_map] at hy
      obtain ⟨u, hu', rfl⟩ := hy
      obtain ⟨i, hi1, hi2⟩ := List.getElem_of_mem hu'
      obtain ⟨a, e, wa⟩ := hi i (by omega)
      have : u = .int .i64 a := by
        rw [List.getElem?_eq_getElem hi1, hi2] at e
        injection e
      rw [this]
      exact wa

/-- its numbers are ints -/
def Ord.wf (c : Ord) : Prop := ∀ y ∈ c.l, (Lit.int .i64 y).wf = true
end Go.Proofs.Ytliepgmnlhfaiaa
