/-
  The document's reader's numbers, as a walk of its GetCmd wants them. Conditions: lengths.
-/
import Derived.Test.YtdmeiffofmagjaaMsgM
import Derived.Test.YtdmeiffofmagjaaRefEnd
namespace Go.Proofs.Ytdmeiffofmagjaa
open Go.RowKit
set_option linter.unusedVariables false

def FRdN (w : World) (g : Nat) (A : Option Addr) (L c : Nat) (s : RS) (n : Nat) (e : Ending) (w' : World) : Prop :=
  ∃ (x : Int) (s' : RS), Hid (x = (val (s.take n).2 : Int)) ∧ Hid (s' = (s.take n).1) ∧ Hid (s'.xs = s.xs) ∧ e = .returned (.int .i64 x) ∧ Hid (FRd w' g A L c s') ∧ Hid s'.ok ∧ Keep (· = g) w w'
theorem fdU8 (g L c : Nat) (A : Option Addr) (s : RS) (w : World) (hr : Hid (FRd w g A L c s)) (hok : Hid s.ok) (hc : Hid (c ≤ maxLen)) : Calls Try.prog 34 #[.pointer (some ⟨g, 0, none⟩)] w (FRdN w g A L c s 1) :=
  (gu8_any g L c A s w hr.out hok.out hc.out).mono fun e w' ⟨he, h1, h2⟩ => ⟨_, _, rfl, rfl, RS.take_xs s 1, he, h1, RS.take_ok hok.out 1, h2⟩
set_option maxHeartbeats 400000 in
theorem fdNum (g L c : Nat) (A : Option Addr) (s : RS) (w : World) (hr : Hid (FRd w g A L c s)) (hok : Hid s.ok) (hc : Hid (c ≤ maxLen)) : Calls Try.prog 36 #[.pointer (some ⟨g, 0, none⟩)] w (FRdN w g A L c s 4) := by
  have hv := val_take s 4
  obtain ⟨x, hx⟩ : ∃ x, x = val (s.take 4).2 := ⟨_, rfl⟩
  have HX := Lib.hid hx
  rw [← hx] at hv
  clear hx
  go_enter Try.func36, Try.ntmps36
  go_wp2_with fail
  refine (gu32_any g L c A s w hr.out hok.out hc.out).mono ?_
  rintro e w1 ⟨rfl, hr1, hk1⟩
  rw [← HX.out]
  go_wp2
  go_ret
  refine ⟨(x : Int), _, by show _ = _; rw [← HX.out], rfl, RS.take_xs s 4, ret_int ?_, hr1, RS.take_ok hok.out 4, hk1⟩
  first | rfl | (rw [IntKind.wrap_i64]; omega)
def FRdT (w : World) (g : Nat) (A : Option Addr) (L c : Nat) (s : RS) (e : Ending) (w' : World) : Prop :=
  ∃ (t : List UInt8) (s' : RS), Hid (t = s.sum.2) ∧ Hid (s' = (s.take 32).1) ∧ Hid (s'.xs = s.xs) ∧ t.length = 32 ∧ e = .returned (.agg (cells8 t).toArray) ∧ Hid (FRd w' g A L c s') ∧ Hid s'.ok ∧ Keep (· = g) w w'
theorem fdSum (g L c : Nat) (A : Option Addr) (s : RS) (w : World) (hr : Hid (FRd w g A L c s)) (hok : Hid s.ok) (hc : Hid (c ≤ maxLen)) : Calls Try.prog 35 #[.pointer (some ⟨g, 0, none⟩)] w (FRdT w g A L c s) :=
  (gsum_any g L c A s w hr.out hok.out hc.out).mono fun e w' ⟨he, h1, h2⟩ => ⟨_, _, rfl, rfl, RS.take_xs s 32, sum_len s, he, h1, RS.take_ok hok.out 32, h2⟩
/-- another block turns, behind what the reader reads -/
theorem FRd.off {w w' : World} {g : Nat} {A : Option Addr} {L c q : Nat} {s : RS} {xs : List UInt8} (h : FRd w g A L c s) (hk : Keep (· = q) w w') (hg : g ≠ q) (hx : s.xs = xs) (hA : ∀ ad, A = some ad → xs ≠ [] → ad.block < q) : FRd w' g A L c s :=
  h.keep hk hg (fun ad e hn h => by rw [hx] at hn; have := hA ad e hn; omega)
end Go.Proofs.Ytdmeiffofmagjaa
