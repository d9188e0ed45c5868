/-
  What an order's kind says of its outcome; what an order that rests and is removed leaves: as mathematics. No condition.
-/
import Derived.Test.YtfpfpmhkkgfdbaaQ05
set_option linter.unusedVariables false
namespace Go.Proofs.Ytfpfpmhkkgfdbaa
open Go.RowKit
set_option maxRecDepth 100000
theorem kinds_take {B : Bok} {o : Ord} (h : Inv B) (hr : o.right = true) (h0 : o.stop = 0) (hk : o.k = 2 ∨ o.k = 3) : (B.add o).1.rests = false ∧ ((B.add o).1.err = 0 ∨ (B.add o).1.err = 5) := by
  have he : B.err o = 0 ∨ B.err o = 5 := by
    unfold Bok.err
    rw [if_neg (fun h => h ⟨hr, h0⟩)]
    split
    · exact .inr rfl
    · rw [if_neg (by omega), if_neg (by omega), if_neg (by omega)]
      exact .inl rfl
  by_cases hz : B.err o = 0
  · have ha := add_is h hz
    rw [ha.oc]
    refine ⟨?_, .inl rfl⟩
    cases hst : B.stays o with
    | false => rfl
    | true => have := (stays_iff.1 hst).2.2; omega
  · rw [add_err hz]
    exact ⟨rfl, he⟩
theorem kinds_fok {B : Bok} {o : Ord} (h : Inv B) (hk : o.k = 4) : (B.add o).1.rests = false ∧ ((B.add o).1.err = 0 ∧ (B.add o).1.left = 0 ∨ (B.add o).1.err ≠ 0 ∧ (B.add o).1.f = []) := by
  by_cases hz : B.err o = 0
  · have ha := add_is h hz
    have h1 := (err_zero hz).2.2.2.2.2 hk
    have h2 := ha.m.left0
    rw [ha.oc]
    refine ⟨?_, .inl ⟨rfl, by simp only; omega⟩⟩
    cases hst : B.stays o with
    | false => rfl
    | true => have := (stays_iff.1 hst).2.2; omega
  · rw [add_err hz]
    exact ⟨rfl, .inr ⟨hz, rfl⟩⟩
theorem kinds_post {B : Bok} {o : Ord} (h : Inv B) (hk : o.k = 5) : (B.add o).1.f = [] ∧ ((B.add o).1.err = 0 ∧ (B.add o).1.rests = true ∨ (B.add o).1.err ≠ 0 ∧ (B.add o).1.rests = false) := by
  by_cases hz : B.err o = 0
  · have ha := add_is h hz
    have h1 := (err_zero hz).2.2.2.2.1 hk
    have hm : B.matched o = ⟨[], o.qty, false, B.sd (3 - o.side)⟩ := match_none h1
    have hq := right_qty ha.rt
    have hst : B.stays o = true := stays_iff.2 (by rw [hm]; exact ⟨by simp only; omega, rfl, .inr hk⟩)
    rw [ha.oc, hst, hm]
    exact ⟨rfl, .inl ⟨rfl, rfl⟩⟩
  · rw [add_err hz]
    exact ⟨rfl, .inr ⟨hz, rfl⟩⟩
theorem kinds_limit {B : Bok} {o : Ord} (h : Inv B) (hk : o.k = 1) : ((B.add o).1.rests = true → ((B.add o).2.find o.tr o.id).2 = true) ∧ ((B.add o).1.rests = true ∨ (B.add o).1.err ≠ 0 ∨ (B.add o).1.left = 0 ∨ (B.add o).1.self = true) := by
  by_cases hz : B.err o = 0
  · have ha := add_is h hz
    have h2 := ha.m.left0
    refine ⟨fun hr => ?_, ?_⟩
    · rw [ha.oc] at hr
      rw [find_rest h hz hr]
    · rw [ha.oc]
      simp only
      cases hst : B.stays o with
      | true => exact .inl rfl
      | false =>
        cases hs : (B.matched o).self with
        | true => exact .inr (.inr (.inr rfl))
        | false =>
          by_cases hl : (B.matched o).left = 0
          · exact .inr (.inr (.inl hl))
          · exfalso
            have : B.stays o = true := stays_iff.2 ⟨by omega, hs, .inl hk⟩
            rw [hst] at this
            cases this
  · rw [add_err hz]
    exact ⟨fun hr => (by cases hr), .inr (.inl hz)⟩
theorem back_is {B : Bok} {o : Ord} (h : Inv B) (hr : (B.add o).1.rests = true) (hf : (B.add o).1.f = []) : (B.add o).2.find o.tr o.id = (o, true) ∧ (B.add o).2.remove o.tr o.id = (o, true, B) := by
  have hz : B.err o = 0 := by
    by_cases hz : B.err o = 0
    · exact hz
    · rw [add_err hz] at hr
      cases hr
  have ha := add_is h hz
  rw [ha.oc] at hr hf
  simp only at hr hf
  obtain ⟨s1, s2, s3⟩ := stays_iff.1 hr
  have hs := ha.m.sum
  rw [hf, sumF_nil] at hs
  have hl : (B.matched o).left = o.qty := by omega
  have hL : (B.matched o).L = B.sd (3 - o.side) := match_quiet (by have := right_qty ha.rt; omega) (h.side ha.sd).theirs hf s2
  have hc : o.cut (B.matched o).left = o := by rw [hl]; exact cut_self ha.rt s3
  refine ⟨by rw [find_rest h hz hr, hc], ?_⟩
  rw [remove_back h hz hr, hc]
  have : B.traded o = B := by
    unfold Bok.traded
    rw [hL, hf]
    rcases ha.sd with hs | hs <;> simp [Bok.put, Bok.sd, hs, lastOf]
  rw [this]
end Go.Proofs.Ytfpfpmhkkgfdbaa
