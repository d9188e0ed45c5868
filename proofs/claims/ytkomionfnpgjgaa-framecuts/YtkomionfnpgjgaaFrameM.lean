/-
  Frames as mathematics: what comes out of bytes (bodies, what is left, whether a length was bad), however they are cut; a body's frame. No condition.
-/
import Derived.Test.YtkomionfnpgjgaaLib
namespace Go.Proofs.Ytkomionfnpgjgaa
open Go.RowKit
set_option linter.unusedVariables false

/-- the length that the first two bytes tell -/
def hdOf (s : List UInt8) : Nat := (s.getD 0 0).toNat * 256 + (s.getD 1 0).toNat
theorem hdOf_append (a b : List UInt8) (h : 2 ≤ a.length) : hdOf (a ++ b) = hdOf a := by
  unfold hdOf
  rw [List.getD_eq_getElem?_getD, List.getD_eq_getElem?_getD, List.getElem?_append_left (by omega), List.getElem?_append_left (by omega), ← List.getD_eq_getElem?_getD, ← List.getD_eq_getElem?_getD]
theorem hdOf_lt (s : List UInt8) : hdOf s < 65536 := by
  unfold hdOf
  have h1 := (s.getD 0 0).toNat_lt
  have h2 := (s.getD 1 0).toNat_lt
  omega

/-- what comes out of bytes: the bodies, what is left, whether a length was bad -/
def cut (s : List UInt8) : List (List UInt8) × List UInt8 × Bool :=
  if s.length < 2 then ([], s, false)
  else if hdOf s < 1 ∨ 256 < hdOf s then ([], [], true)
  else if s.length < 2 + hdOf s then ([], s, false)
  else ((s.drop 2).take (hdOf s) :: (cut (s.drop (2 + hdOf s))).1, (cut (s.drop (2 + hdOf s))).2.1, (cut (s.drop (2 + hdOf s))).2.2)
termination_by s.length
decreasing_by all_goals (rw [List.length_drop]; omega)

theorem cut_short {s : List UInt8} (h : s.length < 2) : cut s = ([], s, false) := by rw [cut, if_pos h]
theorem cut_bad {s : List UInt8} (h : 2 ≤ s.length) (hb : hdOf s < 1 ∨ 256 < hdOf s) : cut s = ([], [], true) := by rw [cut, if_neg (by omega), if_pos hb]
theorem cut_wait {s : List UInt8} (h : 2 ≤ s.length) (hb : ¬ (hdOf s < 1 ∨ 256 < hdOf s)) (hl : s.length < 2 + hdOf s) : cut s = ([], s, false) := by rw [cut, if_neg (by omega), if_neg hb, if_pos hl]
theorem cut_go {s : List UInt8} (hb : ¬ (hdOf s < 1 ∨ 256 < hdOf s)) (hl : 2 + hdOf s ≤ s.length) : cut s = ((s.drop 2).take (hdOf s) :: (cut (s.drop (2 + hdOf s))).1, (cut (s.drop (2 + hdOf s))).2.1, (cut (s.drop (2 + hdOf s))).2.2) := by
  rw [cut, if_neg (by omega), if_neg hb, if_neg (by omega)]

/-- however the bytes are cut -/
theorem cut_append (b : List UInt8) : ∀ (n : Nat) (a : List UInt8), a.length ≤ n → cut (a ++ b) = if (cut a).2.2 = true then ((cut a).1, [], true) else ((cut a).1 ++ (cut ((cut a).2.1 ++ b)).1, (cut ((cut a).2.1 ++ b)).2.1, (cut ((cut a).2.1 ++ b)).2.2) := by
  intro n
  induction n with
  | zero =>
    intro a ha
    rw [cut_short (s := a) (by omega)]
    simp
  | succ n ih =>
    intro a ha
    by_cases h2 : a.length < 2
    · rw [cut_short h2]
      simp
    · by_cases hb : hdOf a < 1 ∨ 256 < hdOf a
      · rw [cut_bad (by omega) hb, cut_bad (by rw [List.length_append]; omega) (by rw [hdOf_append _ _ (by omega)]; exact hb)]
        simp
      · by_cases hw : a.length < 2 + hdOf a
        · rw [cut_wait (by omega) hb hw]
          simp
        · have hb' : ¬ (hdOf (a ++ b) < 1 ∨ 256 < hdOf (a ++ b)) := by rw [hdOf_append _ _ (by omega)]; exact hb
          rw [cut_go hb' (by rw [hdOf_append _ _ (by omega), List.length_append]; omega), cut_go (s := a) hb (by omega), hdOf_append _ _ (by omega)]
          rw [List.drop_append_of_le_length (by omega), List.drop_append_of_le_length (by omega), List.take_append_of_le_length (by rw [List.length_drop]; omega)]
          rw [ih (a.drop (2 + hdOf a)) (by rw [List.length_drop]; omega)]
          cases hc : (cut (a.drop (2 + hdOf a))).2.2 <;> simp
theorem cut_app (a b : List UInt8) : cut (a ++ b) = if (cut a).2.2 = true then ((cut a).1, [], true) else ((cut a).1 ++ (cut ((cut a).2.1 ++ b)).1, (cut ((cut a).2.1 ++ b)).2.1, (cut ((cut a).2.1 ++ b)).2.2) := cut_append b a.length a (Nat.le_refl _)

theorem cut_rest_le : ∀ (n : Nat) (s : List UInt8), s.length ≤ n → (cut s).2.1.length ≤ s.length := by
  intro n
  induction n with
  | zero =>
    intro s hs
    rw [cut_short (by omega)]
    exact Nat.le_refl _
  | succ n ih =>
    intro s hs
    by_cases h2 : s.length < 2
    · rw [cut_short h2]
      exact Nat.le_refl _
    · by_cases hb : hdOf s < 1 ∨ 256 < hdOf s
      · rw [cut_bad (by omega) hb]
        simp
      · by_cases hw : s.length < 2 + hdOf s
        · rw [cut_wait (by omega) hb hw]
          exact Nat.le_refl _
        · rw [cut_go hb (by omega)]
          have := ih (s.drop (2 + hdOf s)) (by rw [List.length_drop]; omega)
          rw [List.length_drop] at this
          simp only
          omega
theorem cut_le (s : List UInt8) : (cut s).2.1.length ≤ s.length := cut_rest_le s.length s (Nat.le_refl _)
theorem cut_nil : cut [] = ([], [], false) := cut_short (by decide)

/-- a deframer: whether it is bad, and what is left; fed -/
def feedB (bad : Bool) (left b : List UInt8) : List (List UInt8) := if bad = true then [] else (cut (left ++ b)).1
def feedL (bad : Bool) (left b : List UInt8) : List UInt8 := if bad = true then left else (cut (left ++ b)).2.1
def feedX (bad : Bool) (left b : List UInt8) : Bool := if bad = true then true else (cut (left ++ b)).2.2
theorem feedL_le (bad : Bool) (left b : List UInt8) : (feedL bad left b).length ≤ left.length + b.length := by
  unfold feedL
  split
  · omega
  · have := cut_le (left ++ b)
    rw [List.length_append] at this
    exact this

theorem cut_count : ∀ (n : Nat) (s : List UInt8), s.length ≤ n → (cut s).1.length ≤ s.length := by
  intro n
  induction n with
  | zero =>
    intro s hs
    rw [cut_short (by omega)]
    simp
  | succ n ih =>
    intro s hs
    by_cases h2 : s.length < 2
    · rw [cut_short h2]
      simp
    · by_cases hb : hdOf s < 1 ∨ 256 < hdOf s
      · rw [cut_bad (by omega) hb]
        simp
      · by_cases hw : s.length < 2 + hdOf s
        · rw [cut_wait (by omega) hb hw]
          simp
        · rw [cut_go hb (by omega)]
          have := ih (s.drop (2 + hdOf s)) (by rw [List.length_drop]; omega)
          rw [List.length_drop] at this
          simp only [List.length_cons]
          omega
theorem feedB_le (bad : Bool) (left b : List UInt8) : (feedB bad left b).length ≤ left.length + b.length := by
  unfold feedB
  split
  · simp
  · have := cut_count _ (left ++ b) (Nat.le_refl _)
    rw [List.length_append] at this
    exact this

/-- the frame of a body -/
def putOf (b : List UInt8) : List UInt8 := if b.length < 1 ∨ 256 < b.length then [] else UInt8.ofNat (b.length / 256) :: UInt8.ofNat (b.length % 256) :: b
theorem putOf_ok {b : List UInt8} (h1 : 1 ≤ b.length) (h2 : b.length ≤ 256) : putOf b = UInt8.ofNat (b.length / 256) :: UInt8.ofNat (b.length % 256) :: b := by unfold putOf; rw [if_neg (by omega)]
theorem putOf_no {b : List UInt8} (h : b.length < 1 ∨ 256 < b.length) : putOf b = [] := by unfold putOf; rw [if_pos h]
theorem hdOf_head (k : Nat) (r : List UInt8) (h : k < 65536) : hdOf (UInt8.ofNat (k / 256) :: UInt8.ofNat (k % 256) :: r) = k := by
  unfold hdOf
  simp
  omega
theorem putOf_len {b : List UInt8} (h1 : 1 ≤ b.length) (h2 : b.length ≤ 256) : (putOf b).length = b.length + 2 := by rw [putOf_ok h1 h2]; rfl
/-- a frame, and what comes behind it -/
theorem cut_put {b : List UInt8} (h1 : 1 ≤ b.length) (h2 : b.length ≤ 256) (r : List UInt8) : cut (putOf b ++ r) = (b :: (cut r).1, (cut r).2.1, (cut r).2.2) := by
  rw [putOf_ok h1 h2, List.cons_append, List.cons_append]
  have e := hdOf_head b.length (b ++ r) (by omega)
  rw [cut_go (by rw [e]; omega) (by rw [e]; simp; omega), e]
  have e1 : (UInt8.ofNat (b.length / 256) :: UInt8.ofNat (b.length % 256) :: (b ++ r)).drop 2 = b ++ r := rfl
  have e2 : (UInt8.ofNat (b.length / 256) :: UInt8.ofNat (b.length % 256) :: (b ++ r)).drop (2 + b.length) = r := by
    rw [← List.drop_drop, e1]
    simp
  rw [e1, e2]
  simp
theorem cut_one {b : List UInt8} (h1 : 1 ≤ b.length) (h2 : b.length ≤ 256) : cut (putOf b) = ([b], [], false) := by
  have := cut_put h1 h2 []
  rw [List.append_nil, cut_nil] at this
  exact this
/-- a part of a frame -/
theorem cut_part {b : List UInt8} (h1 : 1 ≤ b.length) (h2 : b.length ≤ 256) (k : Nat) (hk : k < b.length + 2) : cut ((putOf b).take k) = ([], (putOf b).take k, false) := by
  have hl : ((putOf b).take k).length = k := by rw [List.length_take, putOf_len h1 h2]; omega
  by_cases h : k < 2
  · exact cut_short (by omega)
  · have e : hdOf ((putOf b).take k) = b.length := by
      have := hdOf_append ((putOf b).take k) ((putOf b).drop k) (by omega)
      rw [List.take_append_drop] at this
      rw [← this, putOf_ok h1 h2, hdOf_head _ _ (by omega)]
    exact cut_wait (by omega) (by rw [e]; omega) (by rw [e]; omega)
/-- bodies behind each other -/
theorem cut_all : ∀ (L : List (List UInt8)), (∀ b ∈ L, 1 ≤ b.length ∧ b.length ≤ 256) → cut (L.flatMap putOf) = (L, [], false)
  | [], _ => cut_nil
  | b :: L, h => by
    rw [List.flatMap_cons, cut_put (h b (by simp)).1 (h b (by simp)).2, cut_all L (fun x hx => h x (by simp [hx]))]
/-- what is left holds no body -/
theorem cut_left {a r : List UInt8} {B : List (List UInt8)} (h : cut a = (B, r, false)) : cut r = ([], r, false) := by
  have h1 := cut_app a []
  rw [List.append_nil, h] at h1
  simp only [if_neg (show ¬ (false = true) by decide), List.append_nil] at h1
  injection h1 with h2 h3
  injection h3 with h4 h5
  have h6 : (cut r).1 = [] := by
    have : (B ++ (cut r).1).length = B.length := by rw [← h2]
    rw [List.length_append] at this
    exact List.eq_nil_of_length_eq_zero (by omega)
  calc cut r = ((cut r).1, (cut r).2.1, (cut r).2.2) := rfl
    _ = _ := by rw [h6, ← h4, ← h5]
end Go.Proofs.Ytkomionfnpgjgaa
