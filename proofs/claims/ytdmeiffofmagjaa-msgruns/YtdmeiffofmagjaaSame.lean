/-
  The contract of jobberbook.Same at bytes: the answer is whether the two lists are the same. No condition but that lengths fit an int.
-/
import Derived.Test.YtdmeiffofmagjaaLib
namespace Go.Proofs.Ytdmeiffofmagjaa
open Go.RowKit

theorem take_eq_succ {xs ys : List UInt8} {k : Nat} (hk : k < xs.length) (hk' : k < ys.length) (h : xs.take k = ys.take k) (he : xs[k] = ys[k]) : xs.take (k + 1) = ys.take (k + 1) := by
  rw [List.take_succ_eq_append_getElem hk, List.take_succ_eq_append_getElem hk', h, he]

set_option maxHeartbeats 400000 in
theorem same_eq (A B : Option Addr) (n c d : Nat) (xs ys : List UInt8) (w : World) (hx : R8 w A xs) (hy : R8 w B ys) (hn : n ≤ maxLen) (hl : Hid (xs.length = n)) (hl' : Hid (ys.length = n)) :
    Calls Try.prog 10 #[.slice A n c, .slice B n d] w fun e w' => e = .returned (.bool (decide (xs = ys))) ∧ ∃ k, w' = w.drewN k := by
  unfold maxLen at hn
  go_enter Try.func10, Try.ntmps10
  go_wp2
  go_loopw [5] (fun i wr => ∃ k m : Nat, k ≤ n ∧ i = .int .i64 k ∧ wr = w.drewN m ∧ Hid (xs.take k = ys.take k)) (fun i _ => n - (intOf i).toNat)
  case atStart => exact ⟨0, 0, Nat.zero_le _, rfl, rfl, rfl⟩
  case round =>
    obtain ⟨k, m, hk, rfl, rfl, hq⟩ := hrel
    by_cases hlt : k < n
    · obtain ⟨ad, rfl, hc⟩ := hx.at_ (k := k) (by rw [hl.out]; exact hlt)
      obtain ⟨bd, rfl, hd⟩ := hy.at_ (k := k) (by rw [hl'.out]; exact hlt)
      have hkx : k < xs.length := by rw [hl.out]; exact hlt
      have hky : k < ys.length := by rw [hl'.out]; exact hlt
      by_cases he : xs[k] = ys[k]
      · have ht : ((xs[k].toNat : Int) != (ys[k].toNat : Int)) = false := by rw [he]; simp
        have HT := Lib.hid (take_eq_succ hkx hky hq.out he)
        clear he
        go_wp2
        go_quiet (fail)
        go_wp2
        exact ⟨⟨k + 1, m + nq, by omega, by go_num, rfl, HT⟩, by simp [intOf]; omega⟩
      · have ht : ((xs[k].toNat : Int) != (ys[k].toNat : Int)) = true := by
          rw [bne_iff_ne]; intro h; exact he (UInt8.toNat.inj (by omega))
        have HN := Lib.hid (show xs ≠ ys from fun h => he (by subst h; rfl))
        clear he
        go_wp2
        go_quiet (fail)
        go_wp2
        go_ret
        exact ⟨ret_bool (decide_eq_false HN.out).symm, _, World.drewN_drewN _ _ _⟩
    · go_wp2
      go_ret
      refine ⟨?_, _, rfl⟩
      have h1 := hl.out
      have h2 := hl'.out
      have h3 := hq.out
      rw [List.take_of_length_le (by omega), List.take_of_length_le (by omega)] at h3
      exact ret_bool (decide_eq_true h3).symm

set_option maxHeartbeats 400000 in
theorem same_ne (A B : Option Addr) (n m c d : Nat) (w : World) (hne : ((n : Int) != (m : Int)) = true) :
    Calls Try.prog 10 #[.slice A n c, .slice B m d] w fun e w' => e = .returned (.bool false) ∧ ∃ k, w' = w.drewN k := by
  go_enter Try.func10, Try.ntmps10
  go_wp2
  go_ret
  exact ⟨rfl, 0, rfl⟩

theorem same_any (A B : Option Addr) (n m c d : Nat) (xs ys : List UInt8) (w : World) (hx : R8 w A xs) (hy : R8 w B ys) (hn : n ≤ maxLen) (hl : Hid (xs.length = n)) (hl' : Hid (ys.length = m)) :
    Calls Try.prog 10 #[.slice A n c, .slice B m d] w fun e w' => e = .returned (.bool (decide (xs = ys))) ∧ ∃ k, w' = w.drewN k := by
  by_cases h : n = m
  · subst h
    exact same_eq A B n c d xs ys w hx hy hn hl hl'
  · have : xs ≠ ys := by
      rintro rfl
      exact h (hl.out.symm.trans hl'.out)
    rw [decide_eq_false this]
    exact same_ne A B n m c d w (by rw [bne_iff_ne]; omega)

theorem same_is (A B : Option Addr) (n m c d : Nat) (xs ys : List UInt8) (v : Bool) (w : World) (hv : decide (xs = ys) = v) (hx : R8 w A xs) (hy : R8 w B ys) (hn : n ≤ maxLen) (hl : Hid (xs.length = n)) (hl' : Hid (ys.length = m)) :
    Calls Try.prog 10 #[.slice A n c, .slice B m d] w fun e w' => e = .returned (.bool v) ∧ ∃ k, w' = w.drewN k := by
  subst hv
  exact same_any A B n m c d xs ys w hx hy hn hl hl'
end Go.Proofs.Ytdmeiffofmagjaa
