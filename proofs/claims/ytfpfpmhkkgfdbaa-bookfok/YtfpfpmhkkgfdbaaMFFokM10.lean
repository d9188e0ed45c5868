/-
 Chapter 10's orders that take and never rest, beside each other: what a fill-or-kill and an immediate order do, what an immediate and a limit order do. No condition.
-/
import Derived.Test.YtfpfpmhkkgfdbaaQF05
import Derived.Test.YtfpfpmhkkgfdbaaMFKindsM10
set_option linter.unusedVariables false
namespace Go.Proofs.Ytfpfpmhkkgfdbaa
open Go.RowKit
set_option maxRecDepth 100000
theorem like_kinds {o : Ord} {k k' : Int} (h : k ≠ 2) (h' : k' ≠ 2) : Like { o with k := k } { o with k := k' } := by
 refine ⟨rfl, fun x => ?_⟩
 unfold Ord.crosses
 simp [h, h']
theorem traded_like {B : Bok} {o p : Ord} (h : Like o p) (hs : o.side = p.side) (hq : o.qty = p.qty) : B.traded o = B.traded p ∧ (B.matched o).f.map Fl.core = (B.matched p).f.map Fl.core ∧ (B.matched o).left = (B.matched p).left ∧ (B.matched o).self = (B.matched p).self := by
 have hm := match_like h (B.sd (3 - p.side)) B.no p.qty
 have e1 : B.matched o = matchM o B.no p.qty (B.sd (3 - p.side)) := by unfold Bok.matched; rw [hs, hq]
 have e2 : B.matched p = matchM p B.no p.qty (B.sd (3 - p.side)) := rfl
 rw [← e1, ← e2] at hm
 refine ⟨?_, hm.1, hm.2.1, hm.2.2.1⟩
 unfold Bok.traded
 have hl : (B.matched o).f.length = (B.matched p).f.length := by have := congrArg List.length hm.1; simpa using this
 rw [hs, hm.2.2.2, last_core _ _ _ hm.1, hl]
theorem err_ioc {B : Bok} {o : Ord} (hr : o.right = true) (h0 : o.stop = 0) (hk : o.k = 3) : B.err o = if B.has o.tr o.id = true then 5 else 0 := by
 unfold Bok.err
 rw [if_neg (fun h => h ⟨hr, h0⟩)]
 split
 ·rfl
 ·rw [if_neg (by omega), if_neg (by omega), if_neg (by omega)]
theorem err_fok {B : Bok} {o : Ord} (hr : o.right = true) (h0 : o.stop = 0) (hk : o.k = 4) : B.err o = if B.has o.tr o.id = true then 5 else if 0 < (B.matched o).left then 12 else 0 := by
 unfold Bok.err
 rw [if_neg (fun h => h ⟨hr, h0⟩)]
 split
 ·rfl
 ·rw [if_neg (by omega), if_neg (by omega)]
  by_cases h : 0 < (B.matched o).left
  ·rw [if_pos ⟨hk, h⟩, if_pos h]
  ·rw [if_neg (fun h' => h h'.2), if_neg h]
theorem add_take {B : Bok} {o : Ord} (he : B.err o = 0) (hk : o.k = 3 ∨ o.k = 4) : B.add o = (⟨o, (B.matched o).f, (B.matched o).left, false, (B.matched o).self, 0⟩, B.traded o) := by
 have hst : B.stays o = false := by
  cases hst : B.stays o with
  | false => rfl
  | true => have := (stays_iff.1 hst).2.2; omega
 unfold Bok.add
 rw [if_neg (by simp [he]), hst]
 rfl
structure FokIs (x y : Oc × Bok) : Prop where
 no : y.1.err ≠ 0 → x.1.err = y.1.err
 less : y.1.err = 0 → 0 < y.1.left → x.1.err = 12 ∧ x.1.f = []
 all : y.1.err = 0 → ¬ 0 < y.1.left → x.1.err = 0 ∧ x.1.left = 0 ∧ x.1.f.map Fl.core = y.1.f.map Fl.core ∧ x.2 = y.2
theorem fok_is {B : Bok} {o : Ord} (h : Inv B) (hr : ({ o with k := 4 } : Ord).right = true) (hr' : ({ o with k := 3 } : Ord).right = true) (h0 : o.stop = 0) : FokIs (B.add { o with k := 4 }) (B.add { o with k := 3 }) := by
 obtain ⟨t1, t2, t3, t4⟩ := traded_like (B := B) (like_kinds (o := o) (k := 4) (k' := 3) (by decide) (by decide)) rfl rfl
 have e4 := err_fok (B := B) hr h0 rfl
 have e3 := err_ioc (B := B) hr' h0 rfl
 by_cases hh : B.has o.tr o.id = true
 ·have e4' : B.err { o with k := 4 } = 5 := by rw [e4, if_pos hh]
  have e3' : B.err { o with k := 3 } = 5 := by rw [e3, if_pos hh]
  rw [add_err (by rw [e4']; decide), add_err (by rw [e3']; decide), e4', e3']
  exact ⟨fun _ => rfl, fun h => (by cases h), fun h => (by cases h)⟩
 ·have e3' : B.err { o with k := 3 } = 0 := by rw [e3, if_neg hh]
  have a3 := add_take e3' (.inl rfl)
  by_cases hl : 0 < (B.matched { o with k := 4 }).left
  ·have e4' : B.err { o with k := 4 } = 12 := by rw [e4, if_neg hh, if_pos hl]
   rw [add_err (by rw [e4']; decide), e4', a3]
   exact ⟨fun h => absurd rfl h, fun _ _ => ⟨rfl, rfl⟩, fun _ h => absurd (by simp only; rw [← t3]; exact hl) h⟩
  ·have e4' : B.err { o with k := 4 } = 0 := by rw [e4, if_neg hh, if_neg hl]
   have hz := (add_is h e4').m.left0
   rw [add_take e4' (.inr rfl), a3]
   exact ⟨fun h => absurd rfl h, fun _ h => absurd (by simp only at h; rw [← t3] at h; exact h) hl, fun _ _ => ⟨rfl, by simp only; omega, t2, t1⟩⟩
theorem right_fok (o : Ord) (h : o.right = true) (h0 : o.stop = 0) : (o.k ≠ 2 → ({ o with shw := 0, k := 4 } : Ord).right = true ∧ ({ o with shw := 0, k := 3 } : Ord).right = true) ∧ (({ o with shw := 0, k := 4, price := 100 } : Ord).right = true ∧ ({ o with shw := 0, k := 3, price := 100 } : Ord).right = true) := by
 rw [right_iff] at h
 refine ⟨fun hp => ⟨(right_iff _).2 ?_, (right_iff _).2 ?_⟩, (right_iff _).2 ?_, (right_iff _).2 ?_⟩ <;> (simp; omega)
end Go.Proofs.Ytfpfpmhkkgfdbaa
