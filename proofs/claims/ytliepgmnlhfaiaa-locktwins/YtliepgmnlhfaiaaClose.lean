/-
  From a walk of a law ('it answers true, no block that was there has turned') to the law's row; arguments opened to what a walk wants. No condition.
-/
import Derived.Test.YtliepgmnlhfaiaaLib
import Derived.ProofKit
import Derived.OpenShut
import Derived.Lib.SmallJoins
import Derived.Deep.Slices
import Derived.Deep.Fields
namespace Go.Proofs.Ytliepgmnlhfaiaa
open Go.RowKit Go.ChangeShapes Go.WideShapes Go.ChangeAt
set_option maxRecDepth 100000
set_option linter.unusedVariables false

theorem Try.own : ownKnob Try.prog.godebug = none := by kernel_rfl
theorem Try.laidOut : laidOutB Try.prog = true := by kernel_rfl

/-- every type of the list can be read, and is one of the program's -/
def plainTypes (P : Program) (ts : List TypeId) : Bool := ts.all fun t => P.readableRec t && decide (t < P.types.size)

theorem trodAll_kept {H : Type} {enc : TypeId × Value → H} {P : Program} (hl : laidOutB P = true) {W W' : World} (hk : Kept W W') : ∀ (ts : List TypeId) {vs : List Value} {ds : List (DataW H)} {ps : List MemPlace},
    plainTypes P ts = true → DataW.TrodAll enc P W 0 (fun _ => true) true ts vs ds ps → (∀ x ∈ ps, x.block < W.heap.size) →
    DataW.TrodAll enc P W' 0 (fun b => decide (b < W.heap.size)) true ts vs ds ps
  | [], _, _, _, _, h, _ => by
    obtain ⟨rfl, rfl, rfl⟩ := trodAll_nil h
    exact trodAll_mk0
  | t :: ts, _, _, _, hp, h, hlt => by
    obtain ⟨v, vs, d, ds, p, q, rfl, rfl, rfl, h1, h2⟩ := trodAll_cons h
    simp only [plainTypes, List.all_cons, Bool.and_eq_true, decide_eq_true_eq] at hp
    exact trodAll_cons_mk (Below.trod hl hp.1.1 hp.1.2 h1 hk.toBelow (fun x hx => hlt x (List.mem_append_left _ hx)))
      (trodAll_kept hl hk ts hp.2 h2 (fun x hx => hlt x (List.mem_append_right _ hx)))

/-- the row's closing condition of a law -/
theorem law_post {H : Type} {enc : TypeId × Value → H} {f : Func} {s : ChangeSpec} {W W' : World} {args : Array Value} {ds : List (DataW H)} {before : List MemPlace}
    (hW : DataW.Whole enc Try.prog f.params.toList s.vars false W args.toList ds [] before) (hv : s.vars = []) (hr : f.resultTypes = #[4])
    (hp : plainTypes Try.prog f.params.toList = true) (hfn : s.fn H (ds ++ []) = { results := [.lit (.bool true)], args := ds, vars := [] }) (hk : Kept W W') :
    s.post enc Try.prog f false true false false W args (.bool true) W' := by
  have hlt : ∀ x ∈ before, x.block < W.heap.size := fun x hx => hW.lt x hx
  obtain ⟨p, q, hA, hV, rfl, _, _⟩ := id hW
  rw [hv] at hV
  obtain ⟨_, rfl⟩ := trodVars_none hV
  simp only [List.append_nil] at *
  refine ⟨ds, [], p, [], p, [], hW, ?_, ?_, ?_, hk.toBelow.frame _, fun h => by cases h⟩
  · rw [List.append_nil, hfn, hr]
    exact trodAll_mk1 (shut_bool Try.underlying4 true)
  · rw [List.append_nil, hfn]
    exact trodAll_kept Try.laidOut hk _ hp hA hlt
  · rw [List.append_nil, hfn, hv]
    exact rfl

/-- a slice of bytes among the arguments -/
def Bytes (W : World) (v : Value) (xs : List UInt8) : Prop := ∃ A n c, v = .slice A n c ∧ Hid (xs.length = n) ∧ R8 W A xs ∧ n ≤ c ∧ c ≤ maxLen ∧ (A = none → c = 0)

theorem u8_of_wf {n : Int} (h : (Lit.int .u8 n).wf = true) : ((UInt8.ofNat n.toNat).toNat : Int) = n := by
  have hb : 0 ≤ n ∧ n ≤ 255 := by simpa [Lit.wf, IntKind.min, IntKind.max, IntKind.signed, IntKind.bits] using h
  simp only [UInt8.toNat_ofNat']
  omega

theorem cellsOf8 : Try.prog.cellsOf 5 = 1 := by kernel_rfl

/-- cells that are a slice of bytes -/
def Piece (W : World) (cs : List Value) (xs : List UInt8) : Prop := ∃ v, cs = [v] ∧ Bytes W v xs
/-- a slice whose elements, of k cells each, are the list's -/
def LAt {α : Type} (W : World) (A : Option Addr) (k : Nat) (Sh : List Value → α → Prop) (l : List α) : Prop :=
  ∀ i a, l[i]? = some a → ∃ b o cs, A = some ⟨b, o, none⟩ ∧ Sh cs a ∧ cs.length = k ∧ ∀ j v, cs[j]? = some v → W.cell? ⟨b, o + (i * k + j), none⟩ = some v

theorem LAt.keep {α : Type} {S : Nat → Prop} {W W' : World} {A : Option Addr} {k : Nat} {Sh : List Value → α → Prop} {l : List α} (h : LAt W A k Sh l) (hk : Keep S W W') (hn : ∀ ad, A = some ad → ¬ S ad.block) : LAt W' A k Sh l := by
  intro i a ha
  obtain ⟨b, o, cs, rfl, h1, h2, h3⟩ := h i a ha
  refine ⟨b, o, cs, rfl, h1, h2, fun j v hv => ?_⟩
  have hc := h3 j v hv
  have hlt := World.block_lt_of_cell? W _ hc
  exact (World.cell?_of_block (w := W) (hk.block _ hlt (hn ⟨b, o, none⟩ rfl))).trans hc
theorem LAt.kept {α : Type} {W W' : World} {A : Option Addr} {k : Nat} {Sh : List Value → α → Prop} {l : List α} (h : LAt W A k Sh l) (hk : Kept W W') : LAt W' A k Sh l := h.keep hk (fun _ _ h => h)

/-- such a slice among the arguments -/
def Elems {α : Type} (W : World) (v : Value) (k : Nat) (Sh : List Value → α → Prop) (l : List α) : Prop := ∃ A n c, v = .slice A n c ∧ Hid (l.length = n) ∧ LAt W A k Sh l ∧ n ≤ c ∧ c ≤ maxLen

theorem open_elems {α : Type} [Inhabited α] {H : Type} {enc : TypeId × Value → H} {W : World} {b0 : Nat} {t e : TypeId} {k : Nat} {v : Value} {d : DataW H} {p : List MemPlace} (Sh : List Value → α → Prop)
    (ht : Try.prog.underlying t = some (.slice e)) (hc : Try.prog.cellsOf e = k) (hk0 : 0 < k)
    (hsh : ∀ (fuel : Nat) (cs : List Value) (x : DataW H × List MemPlace), DataW.trod enc Try.prog W 0 (fun _ => true) true fuel e cs = some x → ∃ a, Sh cs a)
    (hv : Value.okWide Try.prog W .any b0 t v) (h : DataW.Trod enc Try.prog W 0 (fun _ => true) true t v d p) : ∃ l, Elems W v k Sh l := by
  subst hc
  obtain ⟨a0, len, cap, rfl⟩ := okWide_slice ht hv
  obtain ⟨fuel, hf⟩ := h
  rcases Go.Deep.open_slice ht hf with ⟨hcs, _⟩ | ⟨a, len', cap', m, n, D, Pl, hcs, _, hl, hm, hmm, _, hi⟩
  · simp [Value.cells] at hcs
    obtain ⟨rfl, rfl, rfl⟩ := hcs
    exact ⟨[], none, 0, 0, rfl, rfl, fun i a h => by simp at h, Nat.le_refl _, by unfold maxLen; omega⟩
  · simp [Value.cells] at hcs
    obtain ⟨rfl, rfl, rfl⟩ := hcs
    simp at hmm
    subst hmm
    have each : ∀ i, ∃ x : α, i < len → ∃ cs, Sh cs x ∧ cs.length = Try.prog.cellsOf e ∧ ∀ j v, cs[j]? = some v → W.cell? (a.add (i * Try.prog.cellsOf e + j)) = some v := by
      intro i
      by_cases hil : i < len
      · obtain ⟨cs, h1, h2⟩ := hi i (by omega)
        obtain ⟨x, hx⟩ := hsh _ _ _ h2
        obtain ⟨_, hlen, hcell⟩ := World.cells?_some h1
        refine ⟨x, fun _ => ⟨cs, hx, hlen, fun j v hv => ?_⟩⟩
        have hj : j < Try.prog.cellsOf e := by have := (List.getElem?_eq_some_iff.1 hv).1; omega
        rw [← add_add, hcell j hj, hv]
      · exact ⟨default, fun h => (hil h).elim⟩
    refine ⟨(List.range len).map fun i => Classical.choose (each i), some a, len, _, rfl, by show _ = _; simp, ?_, hl, hm⟩
    intro i x hx
    rw [List.getElem?_map] at hx
    by_cases hil : i < len
    · rw [List.getElem?_range hil] at hx
      simp at hx
      subst hx
      obtain ⟨cs, h1, h2, h3⟩ := Classical.choose_spec (each i) hil
      obtain ⟨cs0, g1, g2, g3⟩ := Classical.choose_spec (each 0) (by omega)
      have hsp : a.spot = none := by
        have := g3 0 _ (List.getElem?_eq_getElem (by omega))
        simpa [Addr.add] using World.cell?_spot this
      obtain ⟨b, o, sp⟩ := a
      simp only at hsp
      subst hsp
      exact ⟨b, o, cs, rfl, h1, h2, fun j v hv => by rw [← Go.WideShapes.add_plain]; exact h3 j v hv⟩
    · rw [List.getElem?_eq_none (by simp; omega)] at hx
      simp at hx

/-- two ints -/
def Ints2 (cs : List Value) (a : Int × Int) : Prop := cs = [.int .i64 a.1, .int .i64 a.2] ∧ (Lit.int .i64 a.1).wf = true ∧ (Lit.int .i64 a.2).wf = true

theorem sh_ints2 {H : Type} {enc : TypeId × Value → H} {W : World} {e : TypeId} {f0 f1 : Field} (he : Try.prog.underlying e = some (.struct #[f0, f1])) (hone : Go.Deep.oneCellFields Try.prog #[f0, f1] = true)
    (h0 : Try.prog.underlying f0.type = some (.int .i64)) (h1 : Try.prog.underlying f1.type = some (.int .i64)) (hC : Try.prog.cellsOf e = 2)
    (fuel : Nat) (cs : List Value) (x : DataW H × List MemPlace) (h : DataW.trod enc Try.prog W 0 (fun _ => true) true fuel e cs = some x) : ∃ a, Ints2 cs a := by
  obtain ⟨ys, n, _, _, hlen, hyl, hf⟩ := DataW.trod_struct he h
  rw [hC] at hlen
  obtain ⟨o0, k0⟩ := Go.Deep.hone_of hone 0 f0 rfl
  obtain ⟨o1, k1⟩ := Go.Deep.hone_of hone 1 f1 rfl
  match cs, hlen with
  | [c0, c1], _ =>
    have g0 := hf 0 f0 rfl
    have g1 := hf 1 f1 rfl
    rw [o0, k0] at g0
    rw [o1, k1] at g1
    obtain ⟨a, ha, _, wa⟩ := DataW.trod_int h0 (g0.trans (List.getElem?_eq_getElem (by rw [hyl]; simp)))
    obtain ⟨b, hb, _, wb⟩ := DataW.trod_int h1 (g1.trans (List.getElem?_eq_getElem (by rw [hyl]; simp)))
    simp at ha hb
    exact ⟨(a, b), by rw [ha, hb], wa, wb⟩

/-- one int -/
def Int1 (cs : List Value) (a : Int) : Prop := cs = [.int .i64 a] ∧ (Lit.int .i64 a).wf = true
theorem sh_int1 {H : Type} {enc : TypeId × Value → H} {W : World} {e : TypeId} (he : Try.prog.underlying e = some (.int .i64)) (fuel : Nat) (cs : List Value) (x : DataW H × List MemPlace)
    (h : DataW.trod enc Try.prog W 0 (fun _ => true) true fuel e cs = some x) : ∃ a, Int1 cs a := by
  obtain ⟨a, ha, _, wa⟩ := DataW.trod_int he h
  exact ⟨a, ha, wa⟩

end Go.Proofs.Ytliepgmnlhfaiaa
