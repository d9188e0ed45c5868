/-
  The contract of jobberbook.Same at bools, at lists that are the same. No condition but that lengths fit an int.
-/
import Derived.Test.YtpkadepohgeloaaLib
namespace Go.Proofs.Ytpkadepohgeloaa
open Go.RowKit
set_option linter.unusedVariables false
set_option maxRecDepth 100000

/-- a slice that reads as bools -/
def RBl (w : World) (A : Option Addr) (xs : List Bool) : Prop := ∀ (k : Nat) (x : Bool), xs[k]? = some x → ∃ ad, A = some ad ∧ w.cell? (ad.add k) = some (.bool x)
theorem RBl.kept {w w' : World} {A : Option Addr} {xs : List Bool} (h : RBl w A xs) (hk : Kept w w') : RBl w' A xs := fun k x hx => by
  obtain ⟨ad, h1, h2⟩ := h k x hx
  exact ⟨ad, h1, hk.cell h2⟩
theorem RBl.at_ {w : World} {A : Option Addr} {xs : List Bool} (h : RBl w A xs) {k : Nat} (hk : k < xs.length) : ∃ ad, A = some ad ∧ w.cell? (ad.add k) = some (.bool xs[k]) := h k _ (List.getElem?_eq_getElem hk)
set_option maxHeartbeats 400000 in
theorem sameb_eq (A B : Option Addr) (n c d : Nat) (xs : List Bool) (w : World) (hx : RBl w A xs) (hy : RBl w B xs) (hn : n ≤ maxLen) (hl : Hid (xs.length = n)) :
    Calls Try.prog 10 #[.slice A n c, .slice B n d] w fun e w' => e = .returned (.bool true) ∧ Kept w w' := by
  unfold maxLen at hn
  go_enter Try.func10, Try.ntmps10
  go_wp2
  go_loopw [5] (fun i wr => ∃ k m : Nat, k ≤ n ∧ i = .int .i64 k ∧ wr = w.drewN m) (fun i _ => n - (intOf i).toNat)
  case atStart => exact ⟨0, 0, Nat.zero_le _, rfl, rfl⟩
  case round =>
    obtain ⟨k, m, hk, rfl, rfl⟩ := hrel
    by_cases hlt : k < n
    · obtain ⟨ad, rfl, hc⟩ := hx.at_ (k := k) (by rw [hl.out]; exact hlt)
      obtain ⟨bd, rfl, hd⟩ := hy.at_ (k := k) (by rw [hl.out]; exact hlt)
      have hkx : k < xs.length := by rw [hl.out]; exact hlt
      obtain ⟨x, hx_⟩ : ∃ x, xs[k] = x := ⟨_, rfl⟩
      rw [hx_] at hc hd
      clear hx_
      have ht : (x != x) = false := by simp
      go_wp2
      go_quiet (fail)
      go_wp2
      exact ⟨⟨k + 1, m + nq, by omega, by go_num, rfl⟩, by simp [intOf]; omega⟩
    · go_wp2
      go_ret
      exact ⟨rfl, kept_drewN _ _⟩
end Go.Proofs.Ytpkadepohgeloaa
