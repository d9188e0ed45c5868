/-
  Commands and notes: their cells, and whether two are the same. No condition.
-/
import Derived.Test.YtliepgmnlhfaiaaStc
namespace Go.Proofs.Ytliepgmnlhfaiaa
open Go.RowKit
set_option linter.unusedVariables false
set_option maxRecDepth 100000

structure Cmd where
  k : Int
  seq : Int
  tr : Int
  inst : Int
  id : Int
  side : Int
  ord : Int
  price : Int
  qty : Int
  shw : Int
  stop : Int
  what : Int
  fa : Int
  fb : Int
  tag : List UInt8
def Cmd.l (c : Cmd) : List Int := [c.k, c.seq, c.tr, c.inst, c.id, c.side, c.ord, c.price, c.qty, c.shw, c.stop, c.what, c.fa, c.fb]
theorem Cmd.ext_l {c d : Cmd} (h : c.l = d.l) (ht : c.tag = d.tag) : c = d := by
  cases c
  cases d
  simp only [Cmd.l, List.cons.injEq] at h ht
  simp_all
instance : DecidableEq Cmd := fun c d => decidable_of_iff (c.l = d.l ∧ c.tag = d.tag) ⟨fun h => Cmd.ext_l h.1 h.2, fun h => by subst h; exact ⟨rfl, rfl⟩⟩
def Cmd.cells (c : Cmd) : List Value := stc c.l c.tag
def Cmd.v (c : Cmd) : Value := .agg c.cells.toArray
theorem Cmd.cells_len (c : Cmd) (h : c.tag.length = 32) : c.cells.length = 46 := by unfold Cmd.cells; rw [stc_len, h]; rfl
structure Nte where
  k : Int
  err : Int
  seq : Int
  inst : Int
  id : Int
  no : Int
  side : Int
  price : Int
  qty : Int
  left : Int
  sum : List UInt8
def Nte.l (c : Nte) : List Int := [c.k, c.err, c.seq, c.inst, c.id, c.no, c.side, c.price, c.qty, c.left]
def Nte.cells (c : Nte) : List Value := stc c.l c.sum
def Nte.v (c : Nte) : Value := .agg c.cells.toArray
theorem Nte.cells_len (c : Nte) (h : c.sum.length = 32) : c.cells.length = 42 := by unfold Nte.cells; rw [stc_len, h]; rfl
theorem plainI : Try.prog.plainKey 3 = true := by kernel_rfl
theorem run_eqInt (d : Nat) (xs ys : Array Value) (w : World) (f : Field) (fs : List Field) (x y : Int) (hn : (f.name == "_") = false) (ht : f.type = 3) (hx : xs[f.offset]? = some (.int .i64 x)) (hy : ys[f.offset]? = some (.int .i64 y)) (r : Bool) (hr : (Op.eqFields (d + 1) xs ys fs).run Try.prog w = .ok r w) :
    (Op.eqFields (d + 1) xs ys (f :: fs)).run Try.prog w = .ok (x == y && r) w := by
  have hn' : f.name ≠ "_" := by simpa using hn
  have e1 := run_part_plain w plainI hx
  have e2 := run_part_plain w plainI hy
  rw [← ht] at e1 e2
  simp only [Op.eqFields, if_pos hn', Sem.run_bind, e1, e2, Result.andThen_ok]
  rw [ht, run_equalIn_int w d 3 .i64 .i64 _ _ Try.underlying3]
  cases hxy : (x == y) with
  | false => simp
  | true => simp [hr]
theorem extract_tag (l : List Int) (t : List UInt8) (n : Nat) (hn : l.length = n) (ht : t.length = 32) : (stc l t).toArray.extract n (n + 32) = (cells8 t).toArray := by
  subst hn
  apply Array.toList_inj.1
  simp only [List.extract_toArray, List.extract_eq_take_drop]
  unfold stc
  rw [List.drop_append_of_le_length (by rw [i64s_len]; omega), List.drop_of_length_le (by rw [i64s_len]; omega), List.nil_append, List.take_of_length_le (by rw [len8]; omega)]
section
variable {a : Act} {o : Oper} {u : World}
end
end Go.Proofs.Ytliepgmnlhfaiaa
