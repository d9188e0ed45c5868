/-
 Chapter 10's orders that take and never rest, beside each other: what a fill-or-kill and an immediate order do, what an immediate and a limit order do. No condition.
-/
import Derived.Test.YtfpfpmhkkgfdbaaQI05
import Derived.Test.YtfpfpmhkkgfdbaaMIKindsM10
set_option linter.unusedVariables false
namespace Go.Proofs.Ytfpfpmhkkgfdbaa
open Go.RowKit
set_option maxRecDepth 100000
theorem like_kinds {o : Ord} {k k' : Int} (h : k ≠ 2) (h' : k' ≠ 2) : Like { o with k := k } { o with k := k' } := by
 refine ⟨rfl, fun x => ?_⟩
 unfold Ord.crosses
 simp [h, h']
theorem traded_like {B : Bok} {o p : Ord} (h : Like o p) (hs : o.side = p.side) (hq : o.qty = p.qty) : B.traded o = B.traded p ∧ (B.matched o).f.map Fl.core = (B.matched p).f.map Fl.core ∧ (B.matched o).left = (B.matched p).left ∧ (B.matched o).self = (B.matched p).self := by
 have hm := match_like h (B.sd (3 - p.side)) B.no p.qty
 have e1 : B.matched o = matchM o B.no p.qty (B.sd (3 - p.side)) := by unfold Bok.matched; rw [hs, hq]
 have e2 : B.matched p = matchM p B.no p.qty (B.sd (3 - p.side)) := rfl
 rw [← e1, ← e2] at hm
 refine ⟨?_, hm.1, hm.2.1, hm.2.2.1⟩
 unfold Bok.traded
 have hl : (B.matched o).f.length = (B.matched p).f.length := by have := congrArg List.length hm.1; simpa using this
 rw [hs, hm.2.2.2, last_core _ _ _ hm.1, hl]
theorem err_ioc {B : Bok} {o : Ord} (hr : o.right = true) (h0 : o.stop = 0) (hk : o.k = 3) : B.err o = if B.has o.tr o.id = true then 5 else 0 := by
 unfold Bok.err
 rw [if_neg (fun h => h ⟨hr, h0⟩)]
 split
 ·rfl
 ·rw [if_neg (by omega), if_neg (by omega), if_neg (by omega)]
theorem err_limit {B : Bok} {o : Ord} (hr : o.right = true) (h0 : o.stop = 0) (hk : o.k = 1) : B.err o = if B.has o.tr o.id = true then 5 else if 64 ≤ B.len then 4 else 0 := by
 unfold Bok.err
 rw [if_neg (fun h => h ⟨hr, h0⟩)]
 split
 ·rfl
 ·by_cases h : 64 ≤ B.len
  ·rw [if_pos ⟨.inl hk, h⟩, if_pos h]
  ·rw [if_neg (fun h' => h h'.2), if_neg (by omega), if_neg (by omega), if_neg h]
theorem add_take {B : Bok} {o : Ord} (he : B.err o = 0) (hk : o.k = 3 ∨ o.k = 4) : B.add o = (⟨o, (B.matched o).f, (B.matched o).left, false, (B.matched o).self, 0⟩, B.traded o) := by
 have hst : B.stays o = false := by
  cases hst : B.stays o with
  | false => rfl
  | true => have := (stays_iff.1 hst).2.2; omega
 unfold Bok.add
 rw [if_neg (by simp [he]), hst]
 rfl
structure IocIs (B : Bok) (o : Ord) (x y : Oc × Bok) : Prop where
 no : x.1.err ≠ 0 → (x.1.err = 5 ∨ x.1.err = 4) ∧ (x.1.err = 5 → y.1.err = 5)
 yes : x.1.err = 0 → y.1.err = 0 ∧ x.1.left = y.1.left ∧ x.1.self = y.1.self ∧ x.1.f.length = y.1.f.length ∧ (x.1.rests = false → x.2 = y.2) ∧ (x.1.rests = true → ∃ z, x.2.remove o.tr o.id = (z, true, y.2))
theorem ioc_is {B : Bok} {o : Ord} (h : Inv B) (hr : ({ o with k := 1 } : Ord).right = true) (hr' : ({ o with k := 3 } : Ord).right = true) (h0 : o.stop = 0) : IocIs B o (B.add { o with k := 1 }) (B.add { o with k := 3 }) := by
 obtain ⟨t1, t2, t3, t4⟩ := traded_like (B := B) (like_kinds (o := o) (k := 1) (k' := 3) (by decide) (by decide)) rfl rfl
 have e1 := err_limit (B := B) hr h0 rfl
 have e3 := err_ioc (B := B) hr' h0 rfl
 by_cases hh : B.has o.tr o.id = true
 ·have e1' : B.err { o with k := 1 } = 5 := by rw [e1, if_pos hh]
  have e3' : B.err { o with k := 3 } = 5 := by rw [e3, if_pos hh]
  rw [add_err (by rw [e1']; decide), add_err (by rw [e3']; decide), e1', e3']
  exact ⟨fun _ => ⟨.inl rfl, fun _ => rfl⟩, fun h => (by cases h)⟩
 ·have e3' : B.err { o with k := 3 } = 0 := by rw [e3, if_neg hh]
  have a3 := add_take e3' (.inl rfl)
  by_cases hl : 64 ≤ B.len
  ·have e1' : B.err { o with k := 1 } = 4 := by rw [e1, if_neg hh, if_pos hl]
   rw [add_err (by rw [e1']; decide), e1', a3]
   exact ⟨fun _ => ⟨.inr rfl, fun h => (by cases h)⟩, fun h => (by cases h)⟩
  ·have e1' : B.err { o with k := 1 } = 0 := by rw [e1, if_neg hh, if_neg hl]
   have hle : (B.matched { o with k := 1 }).f.length = (B.matched { o with k := 3 }).f.length := by have := congrArg List.length t2; simpa using this
   have ha := add_is h e1'
   refine ⟨fun h => absurd (by rw [ha.oc]) h, fun _ => ?_⟩
   rw [a3]
   refine ⟨rfl, by rw [ha.oc]; exact t3, by rw [ha.oc]; exact t4, by rw [ha.oc]; exact hle, fun hrs => ?_, fun hrs => ?_⟩
   ·rw [ha.oc] at hrs
    simp only at hrs
    unfold Bok.add
    rw [if_neg (by simp [e1']), hrs]
    exact t1
   ·rw [ha.oc] at hrs
    simp only at hrs
    exact ⟨_, by rw [show B.traded { o with k := 3 } = B.traded { o with k := 1 } from t1.symm]; exact remove_back h e1' hrs⟩
theorem right_ioc (o : Ord) (h : o.right = true) (h0 : o.stop = 0) : (o.price ≠ 0 → ({ o with shw := 0, k := 1 } : Ord).right = true ∧ ({ o with shw := 0, k := 3 } : Ord).right = true) ∧ (({ o with shw := 0, k := 1, price := 99 } : Ord).right = true ∧ ({ o with shw := 0, k := 3, price := 99 } : Ord).right = true) := by
 rw [right_iff] at h
 refine ⟨fun hp => ⟨(right_iff _).2 ?_, (right_iff _).2 ?_⟩, (right_iff _).2 ?_, (right_iff _).2 ?_⟩ <;> (simp; omega)
end Go.Proofs.Ytfpfpmhkkgfdbaa
