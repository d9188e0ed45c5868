/-
  Package risk as mathematics: limits, what an order would take, and what Check tells. No condition.
-/
import Derived.Test.YtgajdkelpaaadaaAcM
import Derived.Test.YtgajdkelpaaadaaOrdM
import Derived.Test.YtgajdkelpaaadaaSumC
namespace Go.Proofs.Ytgajdkelpaaadaa
open Go.RowKit Go.ChangeShapes Go.WideShapes Go.ChangeAt
set_option linter.unusedVariables false
set_option maxRecDepth 100000

structure Lim where
  q : Int
  m : Int
  o : Int
  p : Int
def Lim.l (L : Lim) : List Int := [L.q, L.m, L.o, L.p]
def Lim.cells (L : Lim) : List Value := stc L.l []
def Lim.v (L : Lim) : Value := .agg L.cells.toArray
theorem Lim.len4l (L : Lim) : L.cells.length = 4 := by unfold Lim.cells; rw [stc_len]; rfl
theorem Lim.one (L : Lim) : ∀ u ∈ L.cells, u.oneCell' = true := stc_one _ _
def zeroL : Lim := ⟨0, 0, 0, 0⟩
theorem zLim : (Try.prog.info? 25).map (·.zero) = some (some (.agg zeroL.cells.toArray)) := by kernel_rfl
theorem szLim : (Try.prog.info? 25).map (·.size) = some 4 := by kernel_rfl
def Lim.wf (L : Lim) : Prop := ∀ y ∈ L.l, (Lit.int .i64 y).wf = true
theorem open_lim {H : Type} {enc : TypeId × Value → H} {W : World} {b0 : Nat} {v : Value} {d : DataW H} {p : List MemPlace} (hv : Value.okWide Try.prog W .any b0 25 v)
    (h : DataW.Trod enc Try.prog W 0 (fun _ => true) true 25 v d p) : ∃ L : Lim, v = L.v ∧ L.wf := by
  simp only [Value.okWide, Try.underlying25] at hv
  obtain ⟨cs, rfl, hsz, _⟩ := hv
  obtain ⟨fuel, hf⟩ := h
  obtain ⟨l, e, hl, hw⟩ := sh_ints 4 (by kernel_rfl) _ _ _ hf
  simp only [Value.cells] at e
  match l, hl with
  | [x0, x1, x2, x3], _ =>
    refine ⟨⟨x0, x1, x2, x3⟩, ?_, hw⟩
    unfold Lim.v
    congr 1
    apply Array.toList_inj.1
    rw [e]
    rfl

/-! P16.1, P16.2 -/
def Lim.right (L : Lim) : Bool := ((wiB L.q 0 1048576 && decide (0 ≤ L.m)) && wiB L.o 0 1099511627776) && wiB L.p 0 1099511627776
def Ord.worth (c : Ord) (v : Int) : Bool := decide ((timesM c.price c.qty).2 ≠ 0) || decide (v < (timesM c.price c.qty).1)
def Bal.side (B : Bal) (c : Ord) (i : Int) : Int := if c.side = 2 then -(B.pAt c.tr i) else B.pAt c.tr i
def Bal.reach (B : Bal) (c : Ord) (i : Int) : Int := B.side c i + B.oAt c.tr i + c.qty
def over (B : Bal) (L : Lim) (c : Ord) (i : Int) : Bool := ((decide (L.q < c.qty) || c.worth L.m) || decide (L.o < B.all c.tr + c.qty)) || decide (L.p < B.reach c i)
def chk (B : Bal) (L : Lim) (c : Ord) (i : Int) : Int := if (c.right && wiB i 0 7) = true then (if over B L c i = true then 8 else 0) else 1
theorem chk_out {B : Bal} {L : Lim} {c : Ord} {i : Int} (h : (c.right && wiB i 0 7) = false) : chk B L c i = 1 := by unfold chk; rw [if_neg (by rw [h]; simp)]
theorem chk_in {B : Bal} {L : Lim} {c : Ord} {i : Int} (h : (c.right && wiB i 0 7) = true) : chk B L c i = if over B L c i = true then 8 else 0 := by unfold chk; rw [if_pos h]
theorem err_right {c : Ord} (h : c.right = true) : c.err = 0 := by unfold Ord.err; rw [if_pos h]
theorem err_wrong {c : Ord} (h : c.right = false) : c.err = 1 := by unfold Ord.err; rw [if_neg (by rw [h]; simp)]
theorem Bal.Ok.oAt_ {B : Bal} (h : B.Ok) (n i : Int) : 0 ≤ B.oAt n i ∧ B.oAt n i ≤ 1099511627776 := pick2_bound h.o (by omega) (by omega) n i
theorem Bal.Ok.pAt_ {B : Bal} (h : B.Ok) (n i : Int) : -1099511627776 ≤ B.pAt n i ∧ B.pAt n i ≤ 1099511627776 := pick2_bound h.p (by omega) (by omega) n i
theorem Bal.Ok.all8 {B : Bal} (h : B.Ok) (n : Int) : 0 ≤ B.all n ∧ B.all n ≤ 8796093022208 := h.all_ n 8 (by omega)
end Go.Proofs.Ytgajdkelpaaadaa
