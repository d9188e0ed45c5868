/-
  Package bucket as mathematics: a bucket of tokens, what comes in as time goes, what Take tells. No condition.
-/
import Derived.Test.YtliepgmnlhfaiaaCel
import Derived.Test.YtliepgmnlhfaiaaNum
namespace Go.Proofs.Ytliepgmnlhfaiaa
open Go.RowKit
set_option linter.unusedVariables false
set_option maxRecDepth 100000

structure Bkt where
  b : Int
  r : Int
  k : Int
  t : Int
def Bkt.l (B : Bkt) : List Int := [B.b, B.r, B.k, B.t]
def Bkt.cells (B : Bkt) : List Value := stc B.l []
theorem Bkt.len4b (B : Bkt) : B.cells.length = 4 := by unfold Bkt.cells; rw [stc_len]; rfl
structure Bkt.Ok (B : Bkt) : Prop where
  b0 : 1 ≤ B.b
  b1 : B.b ≤ 1048576
  r0 : 1 ≤ B.r
  r1 : B.r ≤ 1099511627776
  k0 : 0 ≤ B.k
  k1 : B.k ≤ B.b
  t0 : 0 ≤ B.t
  t1 : B.t ≤ 1099511627776
def inB (n lo hi : Int) : Bool := decide (lo ≤ n) && decide (n ≤ hi)
theorem inB_iff {n lo hi : Int} : inB n lo hi = true ↔ lo ≤ n ∧ n ≤ hi := by unfold inB; rw [Bool.and_eq_true, decide_eq_true_eq, decide_eq_true_eq]
def newB (b r : Int) : Bool := inB b 1 1048576 && inB r 1 1099511627776
theorem newB_iff {b r : Int} : newB b r = true ↔ (1 ≤ b ∧ b ≤ 1048576) ∧ 1 ≤ r ∧ r ≤ 1099511627776 := by unfold newB; rw [Bool.and_eq_true, inB_iff, inB_iff]
def Bkt.full (b r : Int) : Bkt := ⟨b, r, b, 0⟩
theorem full_ok {b r : Int} (h : newB b r = true) : (Bkt.full b r).Ok := by
  obtain ⟨⟨h0, h1⟩, h2, h3⟩ := newB_iff.1 h
  exact ⟨h0, h1, h2, h3, by show 0 ≤ b; omega, Int.le_refl _, Int.le_refl _, by show (0 : Int) ≤ _; omega⟩
/-- the tokens that came -/
def Bkt.came (B : Bkt) (now : Int) : Int := (now - B.t).tdiv B.r
theorem Bkt.came_in {B : Bkt} (h : B.Ok) {now : Int} (h0 : B.t < now) : 0 ≤ B.came now ∧ B.came now ≤ now - B.t ∧ 0 ≤ B.came now * B.r ∧ B.came now * B.r ≤ now - B.t ∧ now - B.t < B.came now * B.r + B.r := by
  have hr := h.r0
  unfold Bkt.came
  rw [Int.tdiv_eq_ediv_of_nonneg (by omega)]
  obtain ⟨d, hd⟩ : ∃ d, now - B.t = d := ⟨_, rfl⟩
  rw [hd]
  have hd0 : 0 < d := by omega
  have e1 := Int.ediv_mul_le d (show B.r ≠ 0 by omega)
  have e2 := Int.lt_ediv_add_one_mul_self d (show 0 < B.r by omega)
  have e3 : 0 ≤ d / B.r := Int.ediv_nonneg (by omega) (by omega)
  have e4 : d / B.r ≤ d / B.r * B.r := by
    have := Int.mul_le_mul_of_nonneg_left hr e3
    rwa [Int.mul_one] at this
  rw [Int.add_mul, Int.one_mul] at e2
  refine ⟨e3, by omega, by omega, e1, e2⟩
def Bkt.fillM (B : Bkt) (now : Int) : Bkt := if B.b - B.k ≤ B.came now then ⟨B.b, B.r, B.b, now⟩ else ⟨B.b, B.r, B.k + B.came now, B.t + B.came now * B.r⟩
def Bkt.seenM (B : Bkt) (now : Int) : Bkt := if B.t < now then B.fillM now else B
def Bkt.less (B : Bkt) : Bkt := ⟨B.b, B.r, B.k - 1, B.t⟩
def Bkt.can (B : Bkt) (now : Int) : Bool := !decide ((B.seenM now).k = 0)
def Bkt.took (B : Bkt) (now : Int) : Bkt := if (B.seenM now).k = 0 then B.seenM now else (B.seenM now).less
theorem Bkt.Ok.fill {B : Bkt} (h : B.Ok) {now : Int} (h0 : B.t < now) (h1 : now ≤ 1099511627776) : (B.fillM now).Ok := by
  obtain ⟨c0, c1, c2, c3, c4⟩ := Bkt.came_in h h0
  obtain ⟨b0, b1, r0, r1, k0, k1, t0, t1⟩ := h
  unfold Bkt.fillM
  split
  · exact ⟨b0, b1, r0, r1, by show 0 ≤ B.b; omega, Int.le_refl _, by show 0 ≤ now; omega, h1⟩
  · exact ⟨b0, b1, r0, r1, by show 0 ≤ B.k + _; omega, by show B.k + _ ≤ B.b; omega, by show 0 ≤ B.t + _; omega, by show B.t + _ ≤ _; omega⟩
theorem Bkt.Ok.seen {B : Bkt} (h : B.Ok) {now : Int} (h1 : now ≤ 1099511627776) : (B.seenM now).Ok := by
  unfold Bkt.seenM
  split
  case isTrue h0 => exact h.fill h0 h1
  case isFalse => exact h
theorem Bkt.Ok.lessen {B : Bkt} (h : B.Ok) (hk : ¬ B.k = 0) : B.less.Ok := by
  obtain ⟨b0, b1, r0, r1, k0, k1, t0, t1⟩ := h
  exact ⟨b0, b1, r0, r1, by show 0 ≤ B.k - 1; omega, by show B.k - 1 ≤ B.b; omega, t0, t1⟩
theorem Bkt.Ok.take {B : Bkt} (h : B.Ok) {now : Int} (h1 : now ≤ 1099511627776) : (B.took now).Ok := by
  unfold Bkt.took
  split
  · exact h.seen h1
  case isFalse hk => exact (h.seen h1).lessen hk
theorem seen_b (B : Bkt) (now : Int) : (B.seenM now).b = B.b ∧ (B.seenM now).r = B.r := by
  unfold Bkt.seenM Bkt.fillM
  repeat' split
  all_goals exact ⟨rfl, rfl⟩
theorem took_b (B : Bkt) (now : Int) : (B.took now).b = B.b ∧ (B.took now).r = B.r := by
  unfold Bkt.took Bkt.less
  split
  · exact seen_b B now
  · exact seen_b B now
/-- what is seen is full only where no time came, or it is filled up to now -/
theorem seen_full {B : Bkt} (h : B.Ok) (now : Int) (hf : (B.seenM now).k = (B.seenM now).b) : (B.seenM now).t = B.t ∧ now ≤ B.t ∨ (B.seenM now).t = now ∧ B.t < now := by
  unfold Bkt.seenM at hf ⊢
  split at hf
  case isTrue h0 =>
    obtain ⟨c0, c1, c2, c3, c4⟩ := Bkt.came_in h h0
    rw [if_pos h0]
    unfold Bkt.fillM at hf ⊢
    split at hf
    case isTrue h2 => rw [if_pos h2]; exact .inr ⟨rfl, h0⟩
    case isFalse h2 => exact absurd (show B.k + B.came now = B.b from hf) (by omega)
  case isFalse h0 => rw [if_neg h0]; exact .inl ⟨rfl, by omega⟩
end Go.Proofs.Ytliepgmnlhfaiaa
