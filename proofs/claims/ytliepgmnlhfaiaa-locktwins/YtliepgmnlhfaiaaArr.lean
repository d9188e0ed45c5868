/-
  Arrays of 32 bytes by value, held against each other. No condition.
-/
import Derived.Test.YtliepgmnlhfaiaaLib
import Derived.ChangeKeysEq
namespace Go.Proofs.Ytliepgmnlhfaiaa
open Go.RowKit
set_option linter.unusedVariables false
set_option maxRecDepth 100000

/-- the zero array's cells -/
def z32 : List Value := List.replicate 32 (.int .u8 0)
theorem plain8 : Try.prog.plainKey 5 = true := by kernel_rfl
theorem cells8of : Try.prog.cellsOf 5 = 1 := by kernel_rfl

theorem getElem?_cells8 (xs : List UInt8) (j : Nat) : (cells8 xs).toArray[j]? = (xs[j]?).map fun x => Value.int .u8 (x.toNat : Int) := by
  simp [cells8]

theorem run_eqItems8 (d : Nat) (xs ys : List UInt8) (w : World) : ∀ is : List Nat, (∀ i ∈ is, i < xs.length ∧ i < ys.length) →
    (Op.eqItems (d + 1) 5 1 (cells8 xs).toArray (cells8 ys).toArray is).run Try.prog w = .ok (is.all fun i => decide (xs[i]? = ys[i]?)) w
  | [], _ => by simp [Op.eqItems]
  | i :: is, h => by
    obtain ⟨h1, h2⟩ := h i (by simp)
    have e1 : (cells8 xs).toArray[i * 1]? = some (.int .u8 (xs[i].toNat : Int)) := by rw [Nat.mul_one, getElem?_cells8, List.getElem?_eq_getElem h1]; rfl
    have e2 : (cells8 ys).toArray[i * 1]? = some (.int .u8 (ys[i].toNat : Int)) := by rw [Nat.mul_one, getElem?_cells8, List.getElem?_eq_getElem h2]; rfl
    have ih := run_eqItems8 d xs ys w is (fun j hj => h j (by simp [hj]))
    simp only [Op.eqItems, Sem.run_bind, run_part_plain w plain8 e1, run_part_plain w plain8 e2, Result.andThen_ok, run_equalIn_int w d 5 .u8 .u8 _ _ Try.underlying5]
    by_cases he : xs[i] = ys[i]
    · have : ((xs[i].toNat : Int) == (ys[i].toNat : Int)) = true := by rw [he]; simp
      rw [this]
      simp [ih, List.getElem?_eq_getElem h1, List.getElem?_eq_getElem h2, he]
    · have : ((xs[i].toNat : Int) == (ys[i].toNat : Int)) = false := by
        rw [beq_eq_false_iff_ne]
        intro h
        exact he (UInt8.toNat.inj (by omega))
      rw [this]
      simp [List.getElem?_eq_getElem h1, List.getElem?_eq_getElem h2, he]

theorem all_eq (xs ys : List UInt8) (n : Nat) (hx : xs.length = n) (hy : ys.length = n) : ((List.range n).all fun i => decide (xs[i]? = ys[i]?)) = decide (xs = ys) := by
  rw [Bool.eq_iff_iff]
  simp only [List.all_eq_true, List.mem_range, decide_eq_true_eq]
  constructor
  · intro h
    apply List.ext_getElem?
    intro i
    by_cases hi : i < n
    · exact h i hi
    · rw [List.getElem?_eq_none (by omega), List.getElem?_eq_none (by omega)]
  · rintro rfl i _
    rfl

/-- '==' on arrays of n bytes, as the walk comes to it -/
theorem run_arr8 (t : TypeId) (n : Nat) (ht : Try.prog.underlying t = some (.array n 5)) (xs ys : List UInt8) (hx : xs.length = n) (hy : ys.length = n) (w : World) :
    (Op.equalIn 10000 t (.agg (cells8 xs).toArray) (.agg (cells8 ys).toArray)).run Try.prog w = .ok (decide (xs = ys)) w := by
  obtain ⟨i0, hi, hz0, hz1, hz2⟩ := info_parts info8
  have h := run_equalIn_array w 9999 (t := t) (cells8 xs).toArray (cells8 ys).toArray ht hi
  rw [h, cells8of, run_eqItems8 9998 xs ys w _ (fun i hi => by simp at hi; omega), all_eq xs ys n hx hy]

end Go.Proofs.Ytliepgmnlhfaiaa
