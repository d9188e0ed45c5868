/-
  Numbers as bytes, the most significant first; new rows of bytes. No condition.
-/
import Derived.Test.YtliepgmnlhfaiaaLib
namespace Go.Proofs.Ytliepgmnlhfaiaa
open Go.RowKit
set_option linter.unusedVariables false
set_option maxRecDepth 100000

/-- the lowest size bytes of n, the most significant first -/
def be (n : Nat) : Nat → List UInt8
  | 0 => []
  | k + 1 => UInt8.ofNat (n / 256 ^ k) :: be n k

theorem be_length (n k : Nat) : (be n k).length = k := by induction k with
  | zero => rfl
  | succ k ih => simp [be, ih]
theorem be_take_succ (n size k : Nat) (hk : k < size) : (be n size).take (k + 1) = (be n size).take k ++ [UInt8.ofNat (n / 256 ^ (size - 1 - k))] := by
  have h : ∀ size k, k < size → (be n size)[k]? = some (UInt8.ofNat (n / 256 ^ (size - 1 - k))) := by
    intro size
    induction size with
    | zero => intro k hk; omega
    | succ s ih =>
      intro k hk
      cases k with
      | zero => simp [be]
      | succ k =>
        simp only [be, List.getElem?_cons_succ]
        rw [ih k (by omega)]
        congr 4
        omega
  rw [List.take_add_one, h size k hk]
  rfl

theorem byte_of (x : Int) (hx : 0 ≤ x) (k : Nat) : x / 2 ^ (8 * k) % 256 = ((UInt8.ofNat (x.toNat / 256 ^ k)).toNat : Int) := by
  obtain ⟨y, rfl⟩ := Int.eq_ofNat_of_zero_le hx
  have h : (2 : Int) ^ (8 * k) = ((256 ^ k : Nat) : Int) := by
    rw [Int.pow_mul, Int.natCast_pow]
    rfl
  rw [h]
  simp

theorem ofNat_eq_iff (a b : Nat) : UInt8.ofNat a = UInt8.ofNat b ↔ a % 256 = b % 256 := by
  constructor
  · intro h
    have := congrArg UInt8.toNat h
    simpa using this
  · intro h
    apply UInt8.toNat.inj
    simpa using h
theorem ofNat_lt_iff (a b : Nat) : UInt8.ofNat a < UInt8.ofNat b ↔ a % 256 < b % 256 := by
  rw [UInt8.lt_iff_toNat_lt]
  simp

theorem be_mod (n k : Nat) : ∀ m, k ≤ m → be (n % 256 ^ m) k = be n k := by
  induction k with
  | zero => intro m _; rfl
  | succ k ih =>
    intro m hm
    simp only [be]
    rw [ih m (by omega)]
    congr 1
    rw [ofNat_eq_iff]
    have hp : 256 ^ m = 256 ^ k * 256 ^ (m - k) := by rw [← Nat.pow_add]; congr 1; omega
    rw [hp, Nat.mod_mul_right_div_self]
    have h2 : 256 ^ (m - k) = 256 * 256 ^ (m - k - 1) := by rw [← Nat.pow_succ']; congr 1; omega
    rw [h2, Nat.mod_mul_right_mod]
theorem be_add (n a b : Nat) : be n (a + b) = be (n / 256 ^ b) a ++ be n b := by
  induction a with
  | zero => simp [be]
  | succ a ih =>
    rw [show a + 1 + b = (a + b) + 1 by omega]
    simp only [be, List.cons_append]
    rw [ih, Nat.div_div_eq_div_mul, ← Nat.pow_add, Nat.add_comm b a]

/-- what a writer leaves: a new row -/
def Wrote (w : World) (n : Nat) (xs : List UInt8) (e : Ending) (w' : World) : Prop := ∃ g d, e = .returned (.slice (some ⟨g, 0, none⟩) n d) ∧ w.heap.size ≤ g ∧ Row8 w' g d xs ∧ Kept w w'

theorem r8_new (w : World) (xs : List UInt8) (t : TypeId) : R8 (w.alloc (.cells (cells8 xs).toArray t)) (some ⟨w.heap.size, 0, none⟩) xs := by
  intro k x hx
  refine ⟨_, rfl, ?_⟩
  rw [add_lit, (Blk.new w t (cells8 xs)).cell]
  simp [cells8, hx]

theorem byte0 (x : Int) : x % 256 = ((UInt8.ofNat (x % 256).toNat).toNat : Int) := by
  simp only [UInt8.toNat_ofNat']; omega

theorem r8_newc (w : World) (cs : Array Value) (xs : List UInt8) (t : TypeId) (h : cs = (cells8 xs).toArray) : R8 (w.alloc (.cells cs t)) (some ⟨w.heap.size, 0, none⟩) xs := by
  subst h
  exact r8_new w xs t

theorem R8.take2 {w : World} {A : Option Addr} {xs : List UInt8} (h : R8 w A xs) (m : Nat) : R8 w A (xs.take m) := by
  intro k x hx
  rw [List.getElem?_take] at hx
  split at hx
  · exact h k x hx
  · cases hx
end Go.Proofs.Ytliepgmnlhfaiaa
