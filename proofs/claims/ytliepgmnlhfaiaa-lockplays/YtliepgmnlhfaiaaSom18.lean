/-
  Asks of chapter 18's statements. No condition.
-/
import Derived.Test.YtliepgmnlhfaiaaArgsM
import Derived.Test.YtliepgmnlhfaiaaPrim
import Derived.Test.YtliepgmnlhfaiaaOrd
import Derived.Test.YtliepgmnlhfaiaaSegEx
namespace Go.Proofs.Ytliepgmnlhfaiaa
open Go.RowKit Go.ChangeShapes Go.WideShapes Go.ChangeAt
set_option linter.unusedVariables false
set_option maxRecDepth 100000

structure Kq2 where
  k : Int
  m : Int
deriving Inhabited
def Kq2.l (q : Kq2) : List Int := [q.k, q.m]
def Kq2.cells (q : Kq2) : List Value := stc q.l []
def Kq2.v (q : Kq2) : Value := .agg q.cells.toArray
theorem Kq2.len2k (q : Kq2) : q.cells.length = 2 := by unfold Kq2.cells; rw [stc_len]; rfl
theorem Kq2.one2 (q : Kq2) : ∀ u ∈ q.cells, u.oneCell' = true := stc_one _ _
def zeroKq2 : Kq2 := ⟨0, 0⟩
theorem slKq2 : SlT 30 36 2 16 := ⟨Try.underlying30, by kernel_rfl, ⟨zeroKq2.v, by kernel_rfl, rfl, by intro u hu; exact zeroKq2.one2 u (by simpa [Kq2.v, Value.cells] using hu)⟩, by omega⟩
def Kq2.wf (q : Kq2) : Prop := ∀ y ∈ q.l, (Lit.int .i64 y).wf = true
abbrev Kqs2 (W : World) (v : Value) (l : List Kq2) : Prop := Args 2 Kq2.cells Kq2.wf W v l
theorem sh_kq2 {H : Type} {enc : TypeId × Value → H} {W : World} (fuel : Nat) (cs : List Value) (x : DataW H × List MemPlace) (h : DataW.trod enc Try.prog W 0 (fun _ => true) true fuel 36 cs = some x) : ∃ q : Kq2, cs = q.cells ∧ q.wf := by
  obtain ⟨l, rfl, hl, hw⟩ := sh_ints 2 (by kernel_rfl) _ _ _ h
  match l, hl with
  | [x0, x1], _ => exact ⟨⟨x0, x1⟩, rfl, hw⟩
theorem open_kqs2 {H : Type} {enc : TypeId × Value → H} {W : World} {b0 : Nat} {v : Value} {d : DataW H} {p : List MemPlace} (hv : Value.okWide Try.prog W .any b0 30 v)
    (h : DataW.Trod enc Try.prog W 0 (fun _ => true) true 30 v d p) : ∃ l, Kqs2 W v l := open_args 2 Kq2.cells Kq2.wf Try.underlying30 (by kernel_rfl) (by omega) sh_kq2 hv h
end Go.Proofs.Ytliepgmnlhfaiaa
