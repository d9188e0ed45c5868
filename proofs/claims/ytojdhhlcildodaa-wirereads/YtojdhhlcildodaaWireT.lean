/-
  Contracts of package wire's reader, more: Text, Sum. Conditions: lengths far below 2^47.
-/
import Derived.Test.YtojdhhlcildodaaWireR
namespace Go.Proofs.Ytojdhhlcildodaa
open Go.RowKit
set_option linter.unusedVariables false

theorem run_str8 (w : World) (A : Option Addr) (m c : Nat) (ys : List UInt8) (h : R8 w A ys) (hm : ys.length = m) : (convert 24 9 (.slice A m c)).run Try.prog w = .ok (.string ⟨ys.toArray⟩) w := by
  subst hm
  cases A with
  | none =>
    have : ys = [] := by
      cases ys with
      | nil => rfl
      | cons y ys =>
        obtain ⟨ad, h1, _⟩ := h 0 y rfl
        cases h1
    subst this
    show (convert 24 9 (.slice none 0 c)).run Try.prog w = _
    rw [run_convert_bytes_string w 24 9 5 none 0 c Try.underlying24 Try.underlying5 Try.underlying9]
    simp [Conv.bytesToString]
    rfl
  | some ad =>
    exact run_convert_bytes_back w _ _ 5 ad c ys Try.underlying24 Try.underlying5 Try.underlying9 (fun j hj => by
      obtain ⟨ad', h1, h2⟩ := h.at_ hj
      injection h1 with h1
      subst h1
      exact h2)

/-- a text's reader: the state behind the length, then behind the bytes -/
def RS.text (s : RS) (most : Int) : RS × List UInt8 :=
  let s1 := (s.take 1).1
  let n := val (s.take 1).2
  let s2 := if most < (n : Int) then { s1 with bad := true } else s1
  let s3 := (s2.take n).1
  (if s3.bad then { s3 with pos := s.pos } else s3, (s2.take n).2)

theorem RS.take_xs (s : RS) (n : Nat) : (s.take n).1.xs = s.xs := by unfold RS.take; split <;> rfl
theorem RS.bad_ok {s : RS} (h : s.ok) : RS.ok { s with bad := true } := h
theorem RS.text_ok {s : RS} (h : s.ok) (most : Int) : (s.text most).1.ok := by
  have h1 := RS.take_ok h 1
  have hp : ∀ n, (s.take n).1.xs = s.xs := RS.take_xs s
  unfold RS.text
  simp only
  have h2 : RS.ok (if most < (val (s.take 1).2 : Int) then { (s.take 1).1 with bad := true } else (s.take 1).1) := by
    split
    · exact RS.bad_ok h1
    · exact h1
  have hx : (if most < (val (s.take 1).2 : Int) then { (s.take 1).1 with bad := true } else (s.take 1).1).xs = s.xs := by split <;> simp [hp]
  generalize (if most < (val (s.take 1).2 : Int) then { (s.take 1).1 with bad := true } else (s.take 1).1) = s2 at *
  have h3 := RS.take_ok h2 (val (s.take 1).2)
  have hx3 : (s2.take (val (s.take 1).2)).1.xs = s.xs := by rw [← hx]; exact RS.take_xs s2 _
  split
  · exact ⟨by simp only [hx3]; exact h.1, h3.2⟩
  · exact h3

/-- what Text leaves -/
def Txt (w : World) (g b : Nat) (s : RS) (most : Int) (e : Ending) (w' : World) : Prop := e = .returned (.string ⟨(s.text most).2.toArray⟩) ∧ Rd w' g b (s.text most).1 ∧ Keep (· = g) w w'

theorem Rd.cells {w : World} {g b : Nat} {s : RS} (h : Rd w g b s) : w.cell? ⟨g, 1, none⟩ = some (.int .i64 (s.pos : Int)) ∧ w.cell? ⟨g, 2, none⟩ = some (.bool s.bad) ∧ w.frozen? ⟨g, 1, none⟩ = false ∧ w.frozen? ⟨g, 2, none⟩ = false := by
  obtain ⟨L, h0, hb, h2, h3⟩ := h
  exact ⟨hb.cell 1, hb.cell 2, hb.frozen 1, hb.frozen 2⟩
theorem Rd.setBad {w : World} {g b : Nat} {s : RS} (h : Rd w g b s) (v : Bool) : Rd (w.setCell ⟨g, 2, none⟩ (.bool v)) g b { s with bad := v } := by
  obtain ⟨L, h⟩ := h
  exact ⟨L, h.setBad v⟩
theorem Rd.setPos {w : World} {g b : Nat} {s : RS} (h : Rd w g b s) (p : Nat) : Rd (w.setCell ⟨g, 1, none⟩ (.int .i64 (p : Int))) g b { s with pos := p } := by
  obtain ⟨L, h⟩ := h
  exact ⟨L, h.setPos p _ rfl⟩
theorem keep_set0 {w : World} {g i : Nat} (v : Value) : Keep (· = g) w (w.setCell ⟨g, i, none⟩ v) := Keep.setCell (Keep.refl (· = g) w) (fun _ => rfl) _
theorem keep_tr {g : Nat} {a b c : World} (h : Keep (· = g) a b) (k : Keep (· = g) b c) : Keep (· = g) a c := h.trans k (fun _ _ h => h)

set_option maxHeartbeats 800000 in
theorem rtext_any (g b : Nat) (s : RS) (most : Int) (w : World) (hr : Rd w g b s) (hok : s.ok) :
    Calls Try.prog 11 #[.pointer (some ⟨g, 0, none⟩), .int .i64 most] w (Txt w g b s most) := by
  have hv := val_take s 1
  have hok1 := RS.take_ok hok 1
  obtain ⟨c1, _, f1, _⟩ := hr.cells
  obtain ⟨n, hn⟩ : ∃ n, n = val (s.take 1).2 := ⟨_, rfl⟩
  obtain ⟨s1, hs1⟩ : ∃ s1, s1 = (s.take 1).1 := ⟨_, rfl⟩
  rw [← hn] at hv
  rw [← hs1] at hok1
  have HN := Lib.hid hn
  have HS1 := Lib.hid hs1
  clear hn hs1
  have fin : ∀ s2, (s2 = if most < (n : Int) then { s1 with bad := true } else s1) → (s.text most).2 = (s2.take n).2 ∧ (s.text most).1 = (if (s2.take n).1.bad then { (s2.take n).1 with pos := s.pos } else (s2.take n).1) := by
    intro s2 h2
    unfold RS.text
    simp only
    rw [← HN.out, ← HS1.out, ← h2]
    exact ⟨rfl, rfl⟩
  have HF := Lib.hid fin
  clear fin
  go_enter Try.func11, Try.ntmps11
  go_wp2_with fail
  refine (ru8_any g b s w hr hok).mono ?_
  rintro e w1 ⟨rfl, hr1, hk1⟩
  rw [← HN.out]
  rw [← HS1.out] at hr1
  obtain ⟨_, c2, _, f2⟩ := hr1.cells
  by_cases hm : most < (n : Int)
  · have H2 := Lib.hid (HF.out _ (if_pos hm).symm)
    have hr2 := hr1.setBad true
    have hk2 := keep_tr hk1 (keep_set0 (w := w1) (i := 2) (.bool true))
    go_wp2_with fail
    refine (take_any g b _ n _ hr2 (RS.bad_ok hok1) (by omega)).mono ?_
    rintro e w2 ⟨A, m, c, rfl, hl, hr3, hR, hk3⟩
    have hcv := run_str8 w2 A m c _ hR hl.out
    have hk4 := keep_tr hk2 hk3
    obtain ⟨s3, hs3⟩ : ∃ s3, s3 = (RS.take { s1 with bad := true } n).1 := ⟨_, rfl⟩
    obtain ⟨ys, hys⟩ : ∃ ys, ys = (RS.take { s1 with bad := true } n).2 := ⟨_, rfl⟩
    rw [← hs3] at hr3
    rw [← hys] at hcv
    have HY := Lib.hid hys
    have HS3 := Lib.hid hs3
    obtain ⟨c3, c4, f3, f4⟩ := hr3.cells
    clear hs3 hys hR hl
    obtain ⟨hbad⟩ : Nonempty (s3.bad = true ∨ s3.bad = false) := ⟨by cases s3.bad <;> simp⟩
    rcases hbad with hbad | hbad
    · have HB := Lib.hid hbad
      rw [hbad] at c4
      have hr4 := hr3.setPos s.pos
      have hk5 := keep_tr hk4 (keep_set0 (w := w2) (i := 1) (.int .i64 (s.pos : Int)))
      clear hbad
      go_wp2
      go_ret
      obtain ⟨e1, e2⟩ := H2.out
      rw [← HY.out] at e1
      rw [← HS3.out, if_pos HB.out] at e2
      refine ⟨?_, ?_, hk5⟩
      · rw [e1]; rfl
      · rw [e2]; exact hr4
    · have HB := Lib.hid hbad
      rw [hbad] at c4
      clear hbad
      go_wp2
      go_ret
      obtain ⟨e1, e2⟩ := H2.out
      rw [← HY.out] at e1
      rw [← HS3.out, if_neg (by rw [HB.out]; simp)] at e2
      refine ⟨?_, ?_, hk4⟩
      · rw [e1]; rfl
      · rw [e2]; exact hr3
  · have H2 := Lib.hid (HF.out _ (if_neg hm).symm)
    have hr2 := hr1
    have hk2 := hk1
    go_wp2_with fail
    refine (take_any g b _ n _ hr2 hok1 (by omega)).mono ?_
    rintro e w2 ⟨A, m, c, rfl, hl, hr3, hR, hk3⟩
    have hcv := run_str8 w2 A m c _ hR hl.out
    have hk4 := keep_tr hk2 hk3
    obtain ⟨s3, hs3⟩ : ∃ s3, s3 = (s1.take n).1 := ⟨_, rfl⟩
    obtain ⟨ys, hys⟩ : ∃ ys, ys = (s1.take n).2 := ⟨_, rfl⟩
    rw [← hs3] at hr3
    rw [← hys] at hcv
    have HY := Lib.hid hys
    have HS3 := Lib.hid hs3
    obtain ⟨c3, c4, f3, f4⟩ := hr3.cells
    clear hs3 hys hR hl
    obtain ⟨hbad⟩ : Nonempty (s3.bad = true ∨ s3.bad = false) := ⟨by cases s3.bad <;> simp⟩
    rcases hbad with hbad | hbad
    · have HB := Lib.hid hbad
      rw [hbad] at c4
      have hr4 := hr3.setPos s.pos
      have hk5 := keep_tr hk4 (keep_set0 (w := w2) (i := 1) (.int .i64 (s.pos : Int)))
      clear hbad
      go_wp2
      go_ret
      obtain ⟨e1, e2⟩ := H2.out
      rw [← HY.out] at e1
      rw [← HS3.out, if_pos HB.out] at e2
      refine ⟨?_, ?_, hk5⟩
      · rw [e1]; rfl
      · rw [e2]; exact hr4
    · have HB := Lib.hid hbad
      rw [hbad] at c4
      clear hbad
      go_wp2
      go_ret
      obtain ⟨e1, e2⟩ := H2.out
      rw [← HY.out] at e1
      rw [← HS3.out, if_neg (by rw [HB.out]; simp)] at e2
      refine ⟨?_, ?_, hk4⟩
      · rw [e1]; rfl
      · rw [e2]; exact hr3
end Go.Proofs.Ytojdhhlcildodaa
