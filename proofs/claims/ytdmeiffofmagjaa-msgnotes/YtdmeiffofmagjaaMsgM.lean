/-
  A command out of a reader's bytes, as a function; its contracts' shapes. No condition.
-/
import Derived.Test.YtdmeiffofmagjaaStep
import Derived.Test.YtdmeiffofmagjaaWireS
namespace Go.Proofs.Ytdmeiffofmagjaa
open Go.RowKit
set_option linter.unusedVariables false

/-- a command of this kind, all else nought -/
def Cmd.z (k : Int) : Cmd := ⟨k, 0, 0, 0, 0, 0, 0, 0, 0, 0, 0, 0, 0, 0, zeros32⟩
theorem zeros32_len : zeros32.length = 32 := rfl
theorem cmd_zero : (Try.prog.info? 28).map (·.zero) = some (some (.agg (Cmd.z 0).cells.toArray)) := by kernel_rfl

/-- how many bytes each field of a kind takes -/
def plan (k : Int) : List Nat :=
  if k = 1 then [1] else if k = 2 then [32] else if k = 3 then [4, 1, 4, 1, 1, 4, 4, 4, 4] else if k = 4 then [4, 1, 4, 1] else if k = 5 then [4, 1, 4, 4, 4]
  else if k = 6 then [4, 1, 1] else if k = 9 then [4, 1, 1, 1] else []
def RS.takes : RS → List Nat → RS × List (List UInt8)
  | s, [] => (s, [])
  | s, n :: ns => (((s.take n).1.takes ns).1, (s.take n).2 :: ((s.take n).1.takes ns).2)
/-- what the pieces tell -/
def Cmd.of (k : Int) (p : List (List UInt8)) : Cmd :=
  let v := fun i => (val (p.getD i []) : Int)
  if k = 1 then { Cmd.z k with tr := v 0 }
  else if k = 2 then { Cmd.z k with tag := if (p.getD 0 []).length = 32 then p.getD 0 [] else zeros32 }
  else if k = 3 then { Cmd.z k with seq := v 0, inst := v 1, id := v 2, side := v 3, ord := v 4, price := v 5, qty := v 6, shw := v 7, stop := v 8 }
  else if k = 4 then { Cmd.z k with seq := v 0, inst := v 1, id := v 2, tr := v 3 }
  else if k = 5 then { Cmd.z k with seq := v 0, inst := v 1, id := v 2, price := v 3, qty := v 4 }
  else if k = 6 then { Cmd.z k with seq := v 0, inst := v 1, what := v 2 }
  else if k = 9 then { Cmd.z k with seq := v 0, what := v 1, fa := v 2, fb := v 3 }
  else Cmd.z k
def RS.kind (s : RS) : Int := (val (s.take 1).2 : Int)
def RS.cmd (s : RS) : Cmd := Cmd.of s.kind ((s.take 1).1.takes (plan s.kind)).2
def RS.rest (s : RS) : RS := ((s.take 1).1.takes (plan s.kind)).1
theorem Cmd.of_tag (k : Int) (p : List (List UInt8)) : (Cmd.of k p).tag.length = 32 := by
  unfold Cmd.of
  simp only
  split
  · rfl
  split
  · dsimp only
    split
    · assumption
    · rfl
  repeat' split
  all_goals rfl
theorem RS.cmd_tag (s : RS) : s.cmd.tag.length = 32 := Cmd.of_tag _ _
theorem RS.takes_ok : ∀ (ns : List Nat) {s : RS}, s.ok → (s.takes ns).1.ok
  | [], _, h => h
  | n :: ns, _, h => RS.takes_ok ns (RS.take_ok h n)
theorem RS.takes_xs : ∀ (ns : List Nat) (s : RS), (s.takes ns).1.xs = s.xs
  | [], _ => rfl
  | n :: ns, s => (RS.takes_xs ns (s.take n).1).trans (RS.take_xs s n)
theorem RS.rest_ok {s : RS} (h : s.ok) : s.rest.ok := RS.takes_ok _ (RS.take_ok h 1)

/-- what a reader's number leaves -/
def RdN (w : World) (g b : Nat) (s : RS) (n : Nat) (e : Ending) (w' : World) : Prop :=
  ∃ (x : Int) (s' : RS), Hid (x = (val (s.take n).2 : Int)) ∧ Hid (s' = (s.take n).1) ∧ e = .returned (.int .i64 x) ∧ Hid (Rd w' g b s') ∧ Hid s'.ok ∧ Keep (· = g) w w'
theorem rdU8 (g b : Nat) (s : RS) (w : World) (hr : Hid (Rd w g b s)) (hok : Hid s.ok) : Calls Try.prog 43 #[.pointer (some ⟨g, 0, none⟩)] w (RdN w g b s 1) :=
  (ru8_any g b s w hr.out hok.out).mono fun e w' ⟨he, h1, h2⟩ => ⟨_, _, rfl, rfl, he, h1, RS.take_ok hok.out 1, h2⟩
set_option maxHeartbeats 400000 in
theorem rdWord (g b : Nat) (s : RS) (w : World) (hr : Hid (Rd w g b s)) (hok : Hid s.ok) : Calls Try.prog 45 #[.pointer (some ⟨g, 0, none⟩)] w (RdN w g b s 4) := by
  have hv := val_take s 4
  obtain ⟨x, hx⟩ : ∃ x, x = val (s.take 4).2 := ⟨_, rfl⟩
  have HX := Lib.hid hx
  rw [← hx] at hv
  clear hx
  go_enter Try.func45, Try.ntmps45
  go_wp2_with fail
  refine (ru32_any g b s w hr.out hok.out).mono ?_
  rintro e w1 ⟨rfl, hr1, hk1⟩
  rw [← HX.out]
  go_wp2
  go_ret
  refine ⟨(x : Int), _, by show _ = _; rw [← HX.out], rfl, ret_int ?_, hr1, RS.take_ok hok.out 4, hk1⟩
  first | rfl | (rw [IntKind.wrap_i64]; omega)
def RdT (w : World) (g b : Nat) (s : RS) (e : Ending) (w' : World) : Prop :=
  ∃ (t : List UInt8) (s' : RS), Hid (t = s.sum.2) ∧ Hid (s' = (s.take 32).1) ∧ t.length = 32 ∧ e = .returned (.agg (cells8 t).toArray) ∧ Hid (Rd w' g b s') ∧ Hid s'.ok ∧ Keep (· = g) w w'
theorem rdSum (g b : Nat) (s : RS) (w : World) (hr : Hid (Rd w g b s)) (hok : Hid s.ok) : Calls Try.prog 44 #[.pointer (some ⟨g, 0, none⟩)] w (RdT w g b s) :=
  (rsum_any g b s w hr.out hok.out).mono fun e w' ⟨he, h1, h2⟩ => ⟨_, _, rfl, rfl, sum_len s, he, h1, RS.take_ok hok.out 32, h2⟩
end Go.Proofs.Ytdmeiffofmagjaa
