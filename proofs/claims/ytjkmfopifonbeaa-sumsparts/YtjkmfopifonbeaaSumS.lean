/-
  A sum of many numbers as mathematics; slices that read as ints; the contracts of Sum, the program's and the document's own. Condition: the numbers are an int's; lengths fit an int.
-/
import Derived.Test.YtjkmfopifonbeaaSumC
namespace Go.Proofs.Ytjkmfopifonbeaa
open Go.RowKit
set_option linter.unusedVariables false

/-- the numbers of l added one after another to s -/
def sumM (s : Int) : List Int → Int × Int
  | [] => (s, 0)
  | x :: l => if (plusM s x).2 = 0 then sumM (plusM s x).1 l else (0, (plusM s x).2)
theorem sumM_cons (s x : Int) (l : List Int) : sumM s (x :: l) = if (plusM s x).2 = 0 then sumM (plusM s x).1 l else (0, (plusM s x).2) := rfl
theorem plusM_in (a b : Int) (h : (plusM a b).2 = 0) : In64 (plusM a b).1 ∧ 0 ≤ (plusM a b).1 := by
  unfold plusM In64 at *
  by_cases h1 : a < 0 ∨ b < 0
  · rw [if_pos h1] at h; cases h
  · rw [if_neg h1] at h ⊢
    by_cases h2 : 9223372036854775807 < a + b
    · rw [if_pos h2] at h; cases h
    · rw [if_neg h2]
      simp only
      omega
/-- a slice value that reads as these ints -/
def RI (w : World) (A : Option Addr) (l : List Int) : Prop := ∀ k x, l[k]? = some x → ∃ ad, A = some ad ∧ w.cell? (ad.add k) = some (.int .i64 x)
theorem RI.nil (w : World) (A : Option Addr) : RI w A [] := fun k x h => by simp at h
theorem RI.kept {w w' : World} {A : Option Addr} {l : List Int} (h : RI w A l) (hk : Kept w w') : RI w' A l := by
  intro k x hx
  obtain ⟨ad, rfl, hc⟩ := h k x hx
  exact ⟨ad, rfl, hk.cell hc⟩
theorem RI.take {w : World} {A : Option Addr} {l : List Int} (h : RI w A l) (n : Nat) : RI w A (l.take n) := by
  intro k x hx
  rw [List.getElem?_take] at hx
  split at hx
  · exact h k x hx
  · cases hx
theorem RI.drop {w : World} {ad : Addr} {l : List Int} (h : RI w (some ad) l) (n : Nat) : RI w (some (ad.add n)) (l.drop n) := by
  intro k x hx
  rw [List.getElem?_drop] at hx
  obtain ⟨a', e, hc⟩ := h (n + k) x hx
  injection e with e
  subst e
  exact ⟨_, rfl, by rw [add_add]; exact hc⟩


set_option maxHeartbeats 800000 in
theorem sums_sum (A : Option Addr) (n c : Nat) (l : List Int) (w : World) (hl : Hid (l.length = n)) (hR : RI w A l) (hI : ∀ x ∈ l, In64 x) (hn : n ≤ maxLen) :
    Calls Try.prog 10 #[.slice A n c] w fun e w' => e = .returned (two (sumM 0 l)) ∧ w = w' := by
  unfold maxLen at hn
  have HR := Lib.hid hR
  have HI := Lib.hid hI
  clear hR hI
  go_enter Try.func10, Try.ntmps10
  go_wp2_with fail
  go_loop [4, 11] (fun t q => ∃ (i : Nat) (s : Int), i ≤ n ∧ q = .int .i64 i ∧ t = .int .i64 s ∧ Hid (In64 s) ∧ Hid (sumM s (l.drop i) = sumM 0 l)) (fun _ q => n - (intOf q).toNat)
  case atStart => exact ⟨0, 0, Nat.zero_le _, rfl, rfl, by show _ ∧ _; omega, rfl⟩
  case round =>
    obtain ⟨i, s, hi, rfl, rfl, hs, HS⟩ := hrel
    by_cases hlt : i < n
    · have hil : i < l.length := by rw [hl.out]; exact hlt
      obtain ⟨ad, rfl, hc⟩ := HR.out i l[i] (List.getElem?_eq_getElem hil)
      have hx := Lib.hid (HI.out l[i] (List.getElem_mem hil))
      have HD := Lib.hid (List.drop_eq_getElem_cons hil)
      generalize l[i] = x at hc hx HD
      clear hil
      go_wp2_with fail
      refine (sums_plus s x w hs.out hx.out).mono ?_
      rintro e w' ⟨rfl, rfl⟩
      have hin := Lib.hid (plusM_in s x)
      have HS2 := HS.out
      rw [HD.out, sumM_cons] at HS2
      have HS3 := Lib.hid HS2
      unfold two
      clear HS HS2 HD
      generalize plusM s x = p at hin HS3 ⊢
      obtain ⟨p, q⟩ := p
      simp only at hin HS3 ⊢
      by_cases h0 : q = 0
      · have d0 : (q != 0) = false := by simpa using h0
        have HS4 := HS3.out
        rw [if_pos h0] at HS4
        have HS5 := Lib.hid HS4
        have HIN := Lib.hid (hin.out h0).1
        clear HS3 HS4 hin h0
        go_wp2
        exact ⟨⟨i + 1, p, by omega, by go_num, rfl, HIN, HS5⟩, by simp [intOf]; omega⟩
      · have d0 : (q != 0) = true := by simpa using h0
        have HS4 := HS3.out
        rw [if_neg h0] at HS4
        have HS5 := Lib.hid HS4
        clear HS3 HS4 hin h0
        go_wp2
        go_ret2
        exact ⟨by rw [← HS5.out]; rfl, rfl⟩
    · have HS2 := HS.out
      rw [List.drop_of_length_le (by rw [hl.out]; omega)] at HS2
      have HS3 := Lib.hid HS2
      clear HS HS2
      go_wp2
      go_ret2
      exact ⟨by rw [← HS3.out]; rfl, rfl⟩


set_option maxHeartbeats 800000 in
theorem ref_sum (A : Option Addr) (n c : Nat) (l : List Int) (w : World) (hl : Hid (l.length = n)) (hR : RI w A l) (hI : ∀ x ∈ l, In64 x) (hn : n ≤ maxLen) :
    Calls Try.prog 14 #[.slice A n c] w fun e w' => e = .returned (two (sumM 0 l)) ∧ w = w' := by
  unfold maxLen at hn
  have HR := Lib.hid hR
  have HI := Lib.hid hI
  clear hR hI
  go_enter Try.func14, Try.ntmps14
  go_wp2_with fail
  go_loop [4, 11] (fun t q => ∃ (i : Nat) (s : Int), i ≤ n ∧ q = .int .i64 i ∧ t = .int .i64 s ∧ Hid (In64 s) ∧ Hid (sumM s (l.drop i) = sumM 0 l)) (fun _ q => n - (intOf q).toNat)
  case atStart => exact ⟨0, 0, Nat.zero_le _, rfl, rfl, by show _ ∧ _; omega, rfl⟩
  case round =>
    obtain ⟨i, s, hi, rfl, rfl, hs, HS⟩ := hrel
    by_cases hlt : i < n
    · have hil : i < l.length := by rw [hl.out]; exact hlt
      obtain ⟨ad, rfl, hc⟩ := HR.out i l[i] (List.getElem?_eq_getElem hil)
      have hx := Lib.hid (HI.out l[i] (List.getElem_mem hil))
      have HD := Lib.hid (List.drop_eq_getElem_cons hil)
      generalize l[i] = x at hc hx HD
      clear hil
      go_wp2_with fail
      refine (ref_plus s x w hs.out hx.out).mono ?_
      rintro e w' ⟨rfl, rfl⟩
      have hin := Lib.hid (plusM_in s x)
      have HS2 := HS.out
      rw [HD.out, sumM_cons] at HS2
      have HS3 := Lib.hid HS2
      unfold two
      clear HS HS2 HD
      generalize plusM s x = p at hin HS3 ⊢
      obtain ⟨p, q⟩ := p
      simp only at hin HS3 ⊢
      by_cases h0 : q = 0
      · have d0 : (q != 0) = false := by simpa using h0
        have HS4 := HS3.out
        rw [if_pos h0] at HS4
        have HS5 := Lib.hid HS4
        have HIN := Lib.hid (hin.out h0).1
        clear HS3 HS4 hin h0
        go_wp2
        exact ⟨⟨i + 1, p, by omega, by go_num, rfl, HIN, HS5⟩, by simp [intOf]; omega⟩
      · have d0 : (q != 0) = true := by simpa using h0
        have HS4 := HS3.out
        rw [if_neg h0] at HS4
        have HS5 := Lib.hid HS4
        clear HS3 HS4 hin h0
        go_wp2
        go_ret2
        exact ⟨by rw [← HS5.out]; rfl, rfl⟩
    · have HS2 := HS.out
      rw [List.drop_of_length_le (by rw [hl.out]; omega)] at HS2
      have HS3 := Lib.hid HS2
      clear HS HS2
      go_wp2
      go_ret2
      exact ⟨by rw [← HS3.out]; rfl, rfl⟩


theorem sums_two {f : Nat} {args : Array Value} {w : World} {v : Value} (h : Calls Try.prog f args w fun e w' => e = .returned v ∧ w = w') : Gives f args w (.eq v) := h.mono fun e w' ⟨he, hk⟩ => ⟨v, he, rfl, by rw [hk]; exact Kept.refl _⟩

set_option maxHeartbeats 800000 in
theorem sumsRuns_any (w : World) : Calls Try.prog 3 #[] w fun e w' => e = .returned (.bool true) ∧ Kept w w' := by
  go_enter Try.func3, Try.ntmps3
  go_wp2_with fail
  refine (sums_plus 9223372036854775807 1 w ⟨by omega, by omega⟩ ⟨by omega, by omega⟩).mono ?_
  rintro e w' ⟨rfl, rfl⟩
  rw [show two (plusM 9223372036854775807 1) = .tuple #[.int .i64 0, .int .i64 3] from rfl]
  go_wp2_with fail
  refine (sums_times 4294967296 2147483648 w ⟨by omega, by omega⟩ ⟨by omega, by omega⟩).mono ?_
  rintro e w' ⟨rfl, rfl⟩
  rw [show two (timesM 4294967296 2147483648) = .tuple #[.int .i64 0, .int .i64 3] from rfl]
  go_wp2_with fail
  refine (sums_ceil 7 2 w ⟨by omega, by omega⟩ ⟨by omega, by omega⟩).mono ?_
  rintro e w' ⟨rfl, rfl⟩
  rw [show two (ceilM 7 2) = .tuple #[.int .i64 4, .int .i64 0] from rfl]
  go_wp2_with fail
  refine (sums_sum none 0 0 [] w rfl (RI.nil _ _) (fun x h => by cases h) (by unfold maxLen; omega)).mono ?_
  rintro e w' ⟨rfl, rfl⟩
  rw [show two (sumM 0 []) = .tuple #[.int .i64 0, .int .i64 0] from rfl]
  go_wp2
  go_ret
  exact ⟨rfl, Kept.refl _⟩
theorem runs_gives (w : World) : Gives 3 #[] w (.eq (.bool true)) := gives_eq (sumsRuns_any w)

end Go.Proofs.Ytjkmfopifonbeaa
