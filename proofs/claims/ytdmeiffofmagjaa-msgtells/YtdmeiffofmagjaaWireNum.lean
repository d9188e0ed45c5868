/-
  The contract of package wire's number. Conditions: lengths far below 2^47.
-/
import Derived.Test.YtdmeiffofmagjaaBeM
namespace Go.Proofs.Ytdmeiffofmagjaa
open Go.RowKit
set_option linter.unusedVariables false

set_option maxHeartbeats 400000 in
theorem number_any (A : Option Addr) (n c : Nat) (xs : List UInt8) (x : Int) (size : Nat) (w : World) (hx : R8 w A xs) (hn : n ≤ 1000000) (hl : Hid (xs.length = n)) (hs : size ≤ 8) (hx0 : 0 ≤ x) (hx1 : x < 18446744073709551616) :
    Calls Try.prog 49 #[.slice A n c, .int .u64 x, .int .i64 size] w fun e w' => ∃ g d, e = .returned (.slice (some ⟨g, 0, none⟩) (n + size) d) ∧ w.heap.size ≤ g ∧ Row8 w' g d (xs ++ be x.toNat size) ∧ Kept w w' := by
  have hmk : ∀ u : World, (Instr.makeSlice 23 (.int .i64 (n : Int)) (.int .i64 ((n : Int) + (size : Int)))).run Try.prog u =
      .ok (.slice (some ⟨u.heap.size, 0, none⟩) n (n + size)) (u.alloc (.cells (madeCells #[.int .u8 0] (n + size)) 5)) := fun u => by
    have h := run_make8 n (n + size) (by omega) (by omega) u
    rw [Int.natCast_add] at h
    exact h
  have HB := Lib.hid (blk_made w 5 (.int .u8 0) (n + size))
  have hk0 : Kept w (w.alloc (.cells (madeCells #[.int .u8 0] (n + size)) 5)) := (Keep.refl _ w).alloc _
  go_enter Try.func49, Try.ntmps49
  go_wp2_with (refine wpList_copy_splice (o := ⟨some 18, _, _, _, _, _⟩) rfl (.tmp 16) (.tmp 17) 23 23 rfl 5 Try.underlying23 info8s _ _ _ _ _ _ rfl rfl w.heap.size 0 _ _ HB.out (cells8 xs) ?c1 ?c2 ?c3 (cells8_one xs) w.heap.size w hk0.toBelow (Nat.le_refl _) ?_)
  case c1 => rw [len8, hl.out]; simp
  case c2 =>
    intro hpos
    rw [len8] at hpos
    obtain ⟨ad, rfl, _⟩ := hx.at_ hpos
    exact ⟨ad, rfl, (hx.kept hk0).cells⟩
  case c3 => rw [len8, hl.out]; simp
  intro w1 HG hb1
  have hk1 : Kept w w1 := Below.toKept hb1
  have hr1 : Row8 w1 w.heap.size (n + size) xs := by
    have h := HG.out
    have e : splice (List.replicate (n + size) (Value.int .u8 0)) 0 (cells8 xs) = cells8 xs ++ List.replicate size (.int .u8 0) := by
      simp [splice, len8, hl.out]
    rw [e] at h
    exact ⟨_, h, by simp [hl.out], by unfold maxLen; omega⟩
  clear HG hb1 HB hk0
  go_wp2
  go_loopw [7, 8] (fun out left wr => ∃ k : Nat, k ≤ size ∧ left = .int .i64 ((size : Int) - 1 - k) ∧ out = .slice (some ⟨w.heap.size, 0, none⟩) (n + k) (n + size) ∧ Kept w wr ∧ Row8 wr w.heap.size (n + size) (xs ++ (be x.toNat size).take k)) (fun _ left _ => ((intOf left) + 1).toNat)
  case atStart => exact ⟨0, Nat.zero_le _, by simp, rfl, hk1, by simpa using hr1⟩
  case round =>
    obtain ⟨k, hk, rfl, rfl, hkr, hrow⟩ := hrel
    by_cases hlt : k < size
    · have hz := byte_of x hx0 (size - 1 - k)
      have HZ := Lib.hid hz
      have HT := Lib.hid (be_take_succ x.toNat size k hlt)
      have hlen : Hid ((xs ++ (be x.toNat size).take k).length = n + k) := by
        show _ = _
        rw [List.length_append, hl.out, List.length_take, be_length, Nat.min_eq_left hk]
      clear hz
      have hkr' := hkr.alloc (.cells #[.int .u8 (x / 2 ^ (8 * (size - 1 - k)) % 256)] 5)
      have hrow' := hrow.kept ((Keep.refl _ wr).alloc (.cells #[.int .u8 (x / 2 ^ (8 * (size - 1 - k)) % 256)] 5))
      have hsz := hkr.size
      go_wp2_with (at_builtin; refine wpl_append1 _ rfl (.tmp 25) (.tmp 31) rfl w.heap.size (n + size) (n + k) _ rfl hlen.out hrow' wr.heap.size _ _ rfl (by simp) HZ.out (by omega) ?_)
      intro w2 hrow2 hk2
      have hkept2 := hkr'.trans hk2 (fun i hi h => by omega)
      clear hkr' hrow' hrow hkr hk2
      go_wp2
      exact ⟨⟨k + 1, by omega, by go_num, rfl, hkept2, by rw [HT.out]; exact hrow2⟩, by simp [intOf]; omega⟩
    · go_wp2
      go_ret
      have e : k = size := by omega
      subst e
      exact ⟨_, _, rfl, Nat.le_refl _, by rw [List.take_of_length_le (by rw [be_length]; exact Nat.le_refl _)] at hrow; exact hrow, hkr⟩

theorem number_lit (A : Option Addr) (n c : Nat) (xs : List UInt8) (x s : Int) (size : Nat) (w : World) (hs : s = size) (hx : R8 w A xs) (hn : n ≤ 1000000) (hl : Hid (xs.length = n)) (hsz : size ≤ 8) (hx0 : 0 ≤ x) (hx1 : x < 18446744073709551616) :
    Calls Try.prog 49 #[.slice A n c, .int .u64 x, .int .i64 s] w (Wrote w (n + size) (xs ++ be x.toNat size)) := by
  subst hs
  exact number_any A n c xs x size w hx hn hl hsz hx0 hx1

end Go.Proofs.Ytdmeiffofmagjaa
