/-
  Plain facts on numbers as bytes. No condition.
-/
import Derived.Test.YtojdhhlcildodaaWireR
namespace Go.Proofs.Ytojdhhlcildodaa
open Go.RowKit
set_option linter.unusedVariables false

theorem ofNat_eq_iff (a b : Nat) : UInt8.ofNat a = UInt8.ofNat b ↔ a % 256 = b % 256 := by
  constructor
  · intro h
    have := congrArg UInt8.toNat h
    simpa using this
  · intro h
    apply UInt8.toNat.inj
    simpa using h
theorem ofNat_lt_iff (a b : Nat) : UInt8.ofNat a < UInt8.ofNat b ↔ a % 256 < b % 256 := by
  rw [UInt8.lt_iff_toNat_lt]
  simp

theorem be_mod (n k : Nat) : ∀ m, k ≤ m → be (n % 256 ^ m) k = be n k := by
  induction k with
  | zero => intro m _; rfl
  | succ k ih =>
    intro m hm
    simp only [be]
    rw [ih m (by omega)]
    congr 1
    rw [ofNat_eq_iff]
    have hp : 256 ^ m = 256 ^ k * 256 ^ (m - k) := by rw [← Nat.pow_add]; congr 1; omega
    rw [hp, Nat.mod_mul_right_div_self]
    have h2 : 256 ^ (m - k) = 256 * 256 ^ (m - k - 1) := by rw [← Nat.pow_succ']; congr 1; omega
    rw [h2, Nat.mod_mul_right_mod]
theorem be_add (n a b : Nat) : be n (a + b) = be (n / 256 ^ b) a ++ be n b := by
  induction a with
  | zero => simp [be]
  | succ a ih =>
    rw [show a + 1 + b = (a + b) + 1 by omega]
    simp only [be, List.cons_append]
    rw [ih, Nat.div_div_eq_div_mul, ← Nat.pow_add, Nat.add_comm b a]

theorem mod_lt_mod (a b p : Nat) (hp : 0 < p) : (a % (p * 256) < b % (p * 256)) ↔ (a / p % 256 < b / p % 256 ∨ (a / p % 256 = b / p % 256 ∧ a % p < b % p)) := by
  rw [Nat.mod_mul, Nat.mod_mul]
  have h1 := Nat.mod_lt a hp
  have h2 := Nat.mod_lt b hp
  generalize a % p = x at *
  generalize b % p = y at *
  generalize a / p % 256 = u at *
  generalize b / p % 256 = v at *
  constructor
  · intro h
    rcases Nat.lt_trichotomy u v with h3 | h3 | h3
    · exact .inl h3
    · subst h3; exact .inr ⟨rfl, by omega⟩
    · have : p * (v + 1) ≤ p * u := Nat.mul_le_mul_left p h3
      rw [Nat.mul_succ] at this
      omega
  · rintro (h | ⟨rfl, h⟩)
    · have : p * (u + 1) ≤ p * v := Nat.mul_le_mul_left p h
      rw [Nat.mul_succ] at this
      omega
    · omega

theorem less_be (a b n : Nat) : Op.bytesLess (be a n) (be b n) = decide (a % 256 ^ n < b % 256 ^ n) := by
  induction n with
  | zero => simp [be, Op.bytesLess, Nat.mod_one]
  | succ n ih =>
    have h := mod_lt_mod a b (256 ^ n) (Nat.pow_pos (by omega))
    simp only [be, Op.bytesLess]
    rw [ih, Nat.pow_succ]
    rw [Bool.eq_iff_iff]
    simp only [Bool.or_eq_true, Bool.and_eq_true, decide_eq_true_eq, beq_iff_eq, ofNat_lt_iff, ofNat_eq_iff]
    rw [h]

theorem val_be (n k : Nat) : val (be n k) = n % 256 ^ k := by
  induction k with
  | zero => simp [be, val, Nat.mod_one]
  | succ k ih =>
    unfold val
    rw [be, List.foldl_cons, val_cons, be_length, ih, Nat.pow_succ, Nat.mod_mul]
    simp
    rw [Nat.mul_comm, Nat.add_comm]

end Go.Proofs.Ytojdhhlcildodaa
