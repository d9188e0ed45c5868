/-
 Asks of BookPlays: numbers, an order's numbers, an order as it is; a slice of them among the arguments. No condition.
-/
import Derived.Test.YtfpfpmhkkgfdbaaQR05
import Derived.Test.YtfpfpmhkkgfdbaaMRKeep10
set_option linter.unusedVariables false
namespace Go.Proofs.Ytfpfpmhkkgfdbaa
open Go.RowKit Go.ChangeShapes Go.WideShapes Go.ChangeAt
set_option maxRecDepth 100000
structure Pq where
 k : Int
 a : Int
 b : Int
 c : Int
 n : Kq
 raw : Ord
instance : Inhabited Pq := ⟨⟨0, 0, 0, 0, default, zeroO⟩⟩
def Pq.l (q : Pq) : List Int := [q.k, q.a, q.b, q.c] ++ (q.n.l ++ q.raw.l)
def Pq.cells (q : Pq) : List Value := stc q.l []
def Pq.v (q : Pq) : Value := .agg q.cells.toArray
theorem Pq.len20 (q : Pq) : q.cells.length = 20 := by unfold Pq.cells; rw [stc_len]; rfl
theorem Pq.one (q : Pq) : ∀ u ∈ q.cells, u.oneCell' = true := stc_one _ _
def zeroP : Pq := ⟨0, 0, 0, 0, zeroK, zeroO⟩
theorem slP : SlT 41 50 20 160 := ⟨Try.underlying41, by kernel_rfl, ⟨zeroP.v, by kernel_rfl, rfl, by intro u hu; exact zeroP.one u (by simpa [Pq.v, Value.cells] using hu)⟩, by omega⟩
theorem zP : (Try.prog.info? 50).map (·.zero) = some (some (.agg zeroP.cells.toArray)) := by kernel_rfl
theorem szP : (Try.prog.info? 50).map (·.size) = some 20 := by kernel_rfl
theorem pq_n {w : World} {g off : Nat} {q : Pq} (h : w.rangeAt g off q.cells) : w.rangeAt g (off + 4) q.n.cells := range_take (range_drop h 4) 7
theorem pq_raw {w : World} {g off : Nat} {q : Pq} (h : w.rangeAt g off q.cells) : w.rangeAt g (off + 11) q.raw.cells := range_take (range_drop h 11) 9
def Pq.wf (q : Pq) : Prop := ∀ y ∈ q.l, (Lit.int .i64 y).wf = true
abbrev Pqs (W : World) (v : Value) (l : List Pq) : Prop := Args 20 Pq.cells Pq.wf W v l
theorem ints_cells {n : Nat} {cs : List Value} (hl : cs.length = n) (hi : ∀ i, i < n → ∃ a : Int, cs[i]? = some (.int .i64 a) ∧ (Lit.int .i64 a).wf = true) : ∃ l : List Int, cs = stc l [] ∧ l.length = n ∧ ∀ y ∈ l, (Lit.int .i64 y).wf = true := by
 refine ⟨cs.map intOf, ?_, by simp; omega, ?_⟩
 ·unfold stc
  rw [show cells8 [] = [] from rfl, List.append_nil]
  apply List.ext_getElem?
  intro i
  by_cases hin : i < n
  ·obtain ⟨a, e, _⟩ := hi i hin
   simp [i64s, e, intOf]
  ·rw [List.getElem?_eq_none (by omega), List.getElem?_eq_none (by rw [i64s_len]; simp; omega)]
 ·intro y hy
  simp only [List.mem_map] at hy
  obtain ⟨u, hu', rfl⟩ := hy
  obtain ⟨i, hi1, hi2⟩ := List.getElem_of_mem hu'
  obtain ⟨a, e, wa⟩ := hi i (by omega)
  have : u = .int .i64 a := by
   rw [List.getElem?_eq_getElem hi1, hi2] at e
   injection e
  rw [this]
  exact wa
theorem stc_at {l : List Int} {i : Nat} (hi : i < l.length) : ∃ a : Int, (stc l [])[i]? = some (.int .i64 a) ∧ a ∈ l := by
 refine ⟨l[i], ?_, List.getElem_mem hi⟩
 unfold stc
 rw [show cells8 [] = [] from rfl, List.append_nil]
 simp [i64s, hi]
def pqB (P : Program) (t : TypeId) : Bool := match P.underlying t with
 | some (.struct fs) => P.cellsOf t == 20 && ((List.range 4).all fun i => match fs[i]? with
   | some f => f.offset == i && P.cellsOf f.type == 1 && (match P.underlying f.type with | some (.int .i64) => true | _ => false)
   | none => false)
  && (match fs[4]? with | some f => f.offset == 4 && P.cellsOf f.type == 7 && intsB P f.type 7 | none => false)
  && (match fs[5]? with | some f => f.offset == 11 && P.cellsOf f.type == 9 && intsB P f.type 9 | none => false)
 | _ => false
theorem sh_pq {H : Type} {enc : TypeId × Value → H} {W : World} (fuel : Nat) (cs : List Value) (x : DataW H × List MemPlace) (h : DataW.trod enc Try.prog W 0 (fun _ => true) true fuel 50 cs = some x) : ∃ q : Pq, cs = q.cells ∧ q.wf := by
 have hB : pqB Try.prog 50 = true := by kernel_rfl
 unfold pqB at hB
 cases hu : Try.prog.underlying 50 with
 | none => rw [hu] at hB; cases hB
 | some d =>
  rw [hu] at hB
  cases d <;> try (cases hB; done)
  rename_i fs
  simp only [Bool.and_eq_true, beq_iff_eq, List.all_eq_true, List.mem_range] at hB
  obtain ⟨⟨⟨hcells, hints⟩, hk4⟩, ho5⟩ := hB
  obtain ⟨ys, m, _, _, hlen, hyl, hf⟩ := DataW.trod_struct hu h
  rw [hcells] at hlen
  have part : ∀ (j off c : Nat), (match fs[j]? with | some f => f.offset == off && Try.prog.cellsOf f.type == c && intsB Try.prog f.type c | none => false) = true → off + c ≤ 20 → ∀ i, i < c → ∃ a : Int, cs[off + i]? = some (.int .i64 a) ∧ (Lit.int .i64 a).wf = true := by
   intro j off c hj hoc i hic
   cases hfj : fs[j]? with
   | none => rw [hfj] at hj; cases hj
   | some f =>
    rw [hfj] at hj
    simp only [Bool.and_eq_true, beq_iff_eq] at hj
    obtain ⟨⟨ho, hc⟩, hb⟩ := hj
    have g := hf j f hfj
    have hjl : j < ys.length := by
     have := (Array.getElem?_eq_some_iff.1 hfj).1
     omega
    rw [ho, hc, List.getElem?_eq_getElem hjl] at g
    obtain ⟨l, e, hl, hw⟩ := sh_ints c hb _ _ _ g
    obtain ⟨a, ha, hm⟩ := stc_at (l := l) (i := i) (by omega)
    refine ⟨a, ?_, hw a hm⟩
    rw [← e, List.getElem?_take, if_pos hic, List.getElem?_drop] at ha
    exact ha
  have hi : ∀ i, i < 20 → ∃ a : Int, cs[i]? = some (.int .i64 a) ∧ (Lit.int .i64 a).wf = true := by
   intro i hin
   by_cases h4 : i < 4
   ·have h1 := hints i h4
    cases hfi : fs[i]? with
    | none => rw [hfi] at h1; cases h1
    | some f =>
     rw [hfi] at h1
     simp only [Bool.and_eq_true, beq_iff_eq] at h1
     obtain ⟨⟨ho, hc⟩, hk⟩ := h1
     have hk' : Try.prog.underlying f.type = some (.int .i64) := by
      cases hq : Try.prog.underlying f.type with
      | none => rw [hq] at hk; cases hk
      | some d =>
       rw [hq] at hk
       cases d <;> try (cases hk; done)
       rename_i k
       cases k <;> first | rfl | (cases hk; done)
     have g := hf i f hfi
     have hil : i < ys.length := by
      have := (Array.getElem?_eq_some_iff.1 hfi).1
      omega
     rw [ho, hc, List.getElem?_eq_getElem hil] at g
     obtain ⟨a, e, _, wa⟩ := DataW.trod_int hk' g
     refine ⟨a, ?_, wa⟩
     have := congrArg (·[0]?) e
     simpa [List.getElem?_take, List.getElem?_drop] using this
   ·by_cases h11 : i < 11
    ·have := part 4 4 7 hk4 (by omega) (i - 4) (by omega)
     rwa [show 4 + (i - 4) = i by omega] at this
    ·have := part 5 11 9 ho5 (by omega) (i - 11) (by omega)
     rwa [show 11 + (i - 11) = i by omega] at this
  obtain ⟨l, rfl, hl, hw⟩ := ints_cells hlen hi
  match l, hl with
  | [x0, x1, x2, x3, x4, x5, x6, x7, x8, x9, x10, x11, x12, x13, x14, x15, x16, x17, x18, x19], _ => exact ⟨⟨x0, x1, x2, x3, ⟨x4, x5, x6, x7, x8, x9, x10⟩, ⟨x11, x12, x13, x14, x15, x16, x17, x18, x19⟩⟩, rfl, hw⟩
theorem open_pqs {H : Type} {enc : TypeId × Value → H} {W : World} {b0 : Nat} {v : Value} {d : DataW H} {p : List MemPlace} (hv : Value.okWide Try.prog W .any b0 41 v)
  (h : DataW.Trod enc Try.prog W 0 (fun _ => true) true 41 v d p) : ∃ l, Pqs W v l := open_args 20 Pq.cells Pq.wf Try.underlying41 (by kernel_rfl) (by omega) sh_pq hv h
end Go.Proofs.Ytfpfpmhkkgfdbaa
