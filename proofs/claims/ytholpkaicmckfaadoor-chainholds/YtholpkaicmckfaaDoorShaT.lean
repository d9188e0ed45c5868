/-
  Contracts of the two turns: a word turned to the right. Conditions: a word, a count from 1 to 31.
-/
import Derived.Test.YtholpkaicmckfaaDoorShaM
namespace Go.Proofs.YtholpkaicmckfaaDoor
open Go.RowKit
set_option linter.unusedVariables false

theorem fturn_any (x i : Int) (s : Nat) (w : World) (hi : i = s) (h0 : 0 ≤ x) (h1 : x < 4294967296) (hs : s < 32) (hs0 : 0 < s) :
    Calls Tryd.prog 35 #[.int .u32 x, .int .i64 i] w fun e w' => e = .returned (.int .u32 (rotr x s)) ∧ ∃ n, w' = w.drewN n := by
  subst hi
  go_enter Tryd.func35, Tryd.ntmps35
  go_wp2
  go_quiet (fail)
  go_wp2
  go_ret
  exact ⟨rfl, _, rfl⟩

theorem rot_eq (x : Int) (s t : Nat) (hs : s < 32) (ht : t = 32 - s) : bits .or .u32 (x * 2 ^ t % 4294967296) (x / 2 ^ (32 - t)) = rotr x s := by
  subst ht
  have e : 32 - (32 - s) = s := by omega
  unfold rotr
  rw [e, or32_comm]

theorem rotl_any (x : Int) (s t : Nat) (w : World) (h0 : 0 ≤ x) (h1 : x < 4294967296) (hs : s < 32) (hs0 : 0 < s) (ht : t = 32 - s) (hand : bits .and .u64 (18446744073709551616 - (s : Int)) 31 = (t : Int)) :
    Calls Tryd.prog 38 #[.int .u32 x, .int .i64 (-(s : Int))] w fun e w' => e = .returned (.int .u32 (rotr x s)) ∧ w = w' := by
  have hw : IntKind.u64.wrap (-(s : Int)) = 18446744073709551616 - (s : Int) := by rw [IntKind.wrap_u64]; omega
  have HR := Lib.hid (rot_eq x s t hs ht)
  have ht1 : t < 32 := by omega
  clear ht
  go_enter Tryd.func38, Tryd.ntmps38
  go_wp2
  go_ret
  exact ⟨ret_int HR.out, rfl⟩

theorem turn_any (x i : Int) (s : Nat) (w : World) (hi : i = s) (h0 : 0 ≤ x) (h1 : x < 4294967296) (hs : s < 32) (hs0 : 0 < s) :
    Calls Tryd.prog 37 #[.int .u32 x, .int .i64 i] w fun e w' => e = .returned (.int .u32 (rotr x s)) ∧ w = w' := by
  subst hi
  go_enter Tryd.func37, Tryd.ntmps37
  go_wp2_with fail
  refine (rotl_any x s (32 - s) w h0 h1 hs hs0 rfl (and31 ⟨s, hs⟩ hs0)).mono ?_
  rintro e w' ⟨rfl, rfl⟩
  go_wp2
  go_ret
  exact ⟨rfl, rfl⟩
theorem turn_of (x i : Int) (w : World) (h0 : 0 ≤ x) (h1 : x < 4294967296) (hi0 : 0 < i) (hi1 : i < 32) :
    Calls Tryd.prog 37 #[.int .u32 x, .int .i64 i] w fun e w' => e = .returned (.int .u32 (rotr x i.toNat)) ∧ w = w' :=
  turn_any x i i.toNat w (by omega) h0 h1 (by omega) (by omega)
theorem fturn_of (x i : Int) (w : World) (h0 : 0 ≤ x) (h1 : x < 4294967296) (hi0 : 0 < i) (hi1 : i < 32) :
    Calls Tryd.prog 35 #[.int .u32 x, .int .i64 i] w fun e w' => e = .returned (.int .u32 (rotr x i.toNat)) ∧ ∃ n, w' = w.drewN n :=
  fturn_any x i i.toNat w (by omega) h0 h1 (by omega) (by omega)
/-- the two as a quiet walk wants them -/
theorem turn_q {C : World → Prop} (x i : Int) (w : World) (h0 : 0 ≤ x) (h1 : x < 4294967296) (hi0 : 0 < i) (hi1 : i < 32) (hC : C w) :
    Calls Tryd.prog 37 #[.int .u32 x, .int .i64 i] w fun e w' => e = .returned (.int .u32 (rotr x i.toNat)) ∧ C w' :=
  (turn_of x i _ h0 h1 hi0 hi1).mono fun _ _ ⟨h, k⟩ => ⟨h, k ▸ hC⟩
theorem fturn_q {C : World → Prop} (x i : Int) (w : World) (h0 : 0 ≤ x) (h1 : x < 4294967296) (hi0 : 0 < i) (hi1 : i < 32) (hC : ∀ k, C (w.drewN k)) :
    Calls Tryd.prog 35 #[.int .u32 x, .int .i64 i] w fun e w' => e = .returned (.int .u32 (rotr x i.toNat)) ∧ C w' :=
  (fturn_of x i _ h0 h1 hi0 hi1).mono fun _ _ ⟨h, k, e⟩ => ⟨h, e ▸ hC k⟩
end Go.Proofs.YtholpkaicmckfaaDoor
