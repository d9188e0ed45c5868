/-
  Bits of bytes and of an int, as a walk comes to them. No condition.
-/
import Derived.Test.YtliepgmnlhfaiaaLib
import Derived.Laws.BitsLemmas
import Derived.Laws.BitsAllLaws
namespace Go.Proofs.Ytliepgmnlhfaiaa
open Go.RowKit
set_option linter.unusedVariables false
set_option maxRecDepth 100000

theorem xor8 (x y : UInt8) : bits .xor .u8 (x.toNat : Int) (y.toNat : Int) = ((x ^^^ y).toNat : Int) := by
  rw [u8_xor_nat _ _ x.toNat_lt y.toNat_lt, UInt8.toNat_xor]
theorem or8 (x y : UInt8) : bits .or .u8 (x.toNat : Int) (y.toNat : Int) = ((x ||| y).toNat : Int) := by
  rw [u8_or_nat _ _ x.toNat_lt y.toNat_lt, UInt8.toNat_or]
theorem xor_same (x t : UInt8) : x = x ^^^ t ↔ t = 0 := by
  constructor
  · intro h
    have h2 : x ^^^ x = x ^^^ (x ^^^ t) := by rw [← h]
    rw [← UInt8.xor_assoc, UInt8.xor_self, UInt8.zero_xor] at h2
    exact h2.symm
  · rintro rfl
    rw [UInt8.xor_zero]
theorem set_same (xs : List UInt8) (k : Nat) (t : UInt8) (hk : k < xs.length) : xs = xs.set k (xs.getD k 0 ^^^ t) ↔ t = 0 := by
  rw [← xor_same (xs.getD k 0) t]
  constructor
  · intro h
    have h2 := congrArg (fun l => l.getD k 0) h
    have h3 : (xs.set k (xs.getD k 0 ^^^ t)).getD k 0 = xs.getD k 0 ^^^ t := by rw [List.getD_eq_getElem?_getD, List.getElem?_set_self hk]; rfl
    exact h2.trans h3
  · intro h
    rw [← h, List.getD_eq_getElem?_getD, List.getElem?_eq_getElem hk]
    simp
theorem beq_zero (t : UInt8) : ((t.toNat : Int) == 0) = decide (t = 0) := by
  rw [Bool.eq_iff_iff, beq_iff_eq, decide_eq_true_eq]
  constructor
  · intro h
    exact UInt8.toNat.inj (by have : t.toNat = 0 := by omega
                              rw [this]; rfl)
  · rintro rfl
    rfl
theorem i64_and31 (n : Int) : bits .and .i64 n 31 = n % 32 := by
  have h31 : (BitVec.ofInt 64 31).toNat = 2 ^ 5 - 1 := by decide
  have key : (BitVec.ofInt 64 n &&& BitVec.ofInt 64 31).toNat = (n % ((2 ^ 64 : Nat) : Int)).toNat % 2 ^ 5 := by
    rw [BitVec.toNat_and, BitVec.toNat_ofInt, h31, Nat.and_two_pow_sub_one_eq_mod]
  show IntKind.i64.wrap ((BitVec.ofInt 64 n &&& BitVec.ofInt 64 31).toNat : Nat) = n % 32
  rw [key, IntKind.wrap_i64]
  omega
end Go.Proofs.Ytliepgmnlhfaiaa
