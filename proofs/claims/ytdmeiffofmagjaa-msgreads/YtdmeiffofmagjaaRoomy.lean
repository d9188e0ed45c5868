/-
  Contracts of jobberbook.Roomy and jobberbook.Intact at bytes. Conditions: lengths far below 2^47.
-/
import Derived.Test.YtdmeiffofmagjaaSame
import Derived.Deep.DeepCutAuto
namespace Go.Proofs.Ytdmeiffofmagjaa
open Go.RowKit
set_option linter.unusedVariables false

theorem set_append_replicate (L : List Value) (k : Nat) (z v : Value) (hk : 0 < k) : (L ++ List.replicate k z).set L.length v = (L ++ [v]) ++ List.replicate (k - 1) z := by
  obtain ⟨j, rfl⟩ : ∃ j, k = j + 1 := ⟨k - 1, by omega⟩
  rw [List.set_append_right _ _ (Nat.le_refl _)]
  simp [List.replicate_succ]

/-- the list and 80 marks behind it -/
def pad (xs : List UInt8) (mk : UInt8) : List UInt8 := xs ++ List.replicate 80 mk
/-- on the way there -/
def padTo (xs : List UInt8) (mk : UInt8) (k : Nat) : List Value := cells8 (xs ++ List.replicate k mk) ++ List.replicate (80 - k) (.int .u8 0)

theorem padTo_set (xs : List UInt8) (mk : UInt8) (k n : Nat) (hl : xs.length = n) (hk : k < 80) : (padTo xs mk k).set (n + k) (.int .u8 (mk.toNat : Int)) = padTo xs mk (k + 1) := by
  have hlen : (cells8 (xs ++ List.replicate k mk)).length = n + k := by rw [len8, List.length_append, hl, List.length_replicate]
  have h := set_append_replicate (cells8 (xs ++ List.replicate k mk)) (80 - k) (.int .u8 0) (.int .u8 (mk.toNat : Int)) (by omega)
  rw [hlen] at h
  unfold padTo
  rw [h]
  have e2 : List.replicate (k + 1) mk = List.replicate k mk ++ [mk] := by rw [List.replicate_succ']
  rw [e2, ← List.append_assoc, cells8_append (xs ++ List.replicate k mk) [mk]]
  rfl
theorem padTo_cell (xs : List UInt8) (mk : UInt8) (k n : Nat) (hl : xs.length = n) (hk : k < 80) : (padTo xs mk k)[n + k]? = some (.int .u8 0) := by
  unfold padTo
  rw [List.getElem?_append_right (by rw [len8, List.length_append, hl, List.length_replicate]; omega), len8, List.length_append, hl, List.length_replicate, Nat.sub_self, List.getElem?_replicate, if_pos (by omega)]
theorem padTo_zero (xs : List UInt8) (mk : UInt8) : padTo xs mk 0 = cells8 xs ++ List.replicate 80 (.int .u8 0) := by simp [padTo]
theorem padTo_full (xs : List UInt8) (mk : UInt8) : padTo xs mk 80 = cells8 (pad xs mk) := by simp [padTo, pad]
theorem pad_length (xs : List UInt8) (mk : UInt8) : (pad xs mk).length = xs.length + 80 := by simp [pad]

set_option maxHeartbeats 400000 in
theorem roomy_N (A : Option Addr) (n N c : Nat) (xs : List UInt8) (mk : UInt8) (mark : Int) (w : World) (hmk : mark = (mk.toNat : Int)) (hx : R8 w A xs) (hn : n ≤ 1000000) (hl : Hid (xs.length = n)) (hN : N = n + 80) :
    Calls Try.prog 17 #[.slice A n c, .int .u8 mark] w fun e w' => ∃ g, e = .returned (.slice (some ⟨g, 0, none⟩) N N) ∧ w.heap.size ≤ g ∧ Row8 w' g N (pad xs mk) ∧ Kept w w' := by
  have hmk' : ∀ u : World, (Instr.makeSlice 23 (.int .i64 ((n : Int) + 80)) (.int .i64 ((n : Int) + 80))).run Try.prog u =
      .ok (.slice (some ⟨u.heap.size, 0, none⟩) N N) (u.alloc (.cells (madeCells #[.int .u8 0] N) 5)) := fun u => by
    have h := run_make8 N N (by omega) (by omega) u
    have e : (N : Int) = (n : Int) + 80 := by omega
    rw [e] at h
    exact h
  have HM := Lib.hid hmk
  have HN := Lib.hid hN
  have hN1 : n + 80 ≤ N := by omega
  have hN2 : N ≤ n + 80 := by omega
  clear hmk hN
  obtain ⟨Z, hZ⟩ : ∃ Z, Z = List.replicate N (Value.int .u8 0) := ⟨_, rfl⟩
  have hB0 := blk_made w 5 (.int .u8 0) N
  rw [← hZ] at hB0
  have HB := Lib.hid hB0
  have HZ := Lib.hid hZ
  have hZl : Hid (Z.length = N) := by show _ = _; rw [hZ, List.length_replicate]
  clear hB0 hZ
  have hk0 : Kept w (w.alloc (.cells (madeCells #[.int .u8 0] N) 5)) := (Keep.refl _ w).alloc _
  go_enter Try.func17, Try.ntmps17
  go_upto_region 2 with fail
  go_wp2_with (refine wpList_copy_splice (o := ⟨some 13, _, _, _, _, _⟩) rfl (.tmp 11) (.tmp 12) 23 23 rfl 5 Try.underlying23 info8s _ _ _ _ _ _ rfl rfl w.heap.size 0 Z _ HB.out (cells8 xs) ?c1 ?c2 ?c3 (cells8_one xs) w.heap.size w hk0.toBelow (Nat.le_refl _) ?_)
  case c1 => rw [len8, hl.out]; exact (Nat.min_eq_left (by omega)).symm
  case c2 =>
    intro hpos
    rw [len8] at hpos
    obtain ⟨ad, rfl, _⟩ := hx.at_ hpos
    exact ⟨ad, rfl, (hx.kept hk0).cells⟩
  case c3 => rw [len8, hl.out, hZl.out]; omega
  intro w1 HG hb1
  have hk1 : Kept w w1 := Below.toKept hb1
  have hr1 : Blk w1 w.heap.size 5 (padTo xs mk 0) := by
    rw [padTo_zero]
    have h := HG.out
    have e : splice Z 0 (cells8 xs) = cells8 xs ++ List.replicate 80 (.int .u8 0) := by
      unfold splice
      rw [List.take_zero, List.nil_append, Nat.zero_add, len8, hl.out, HZ.out, List.drop_replicate, HN.out, Nat.add_sub_cancel_left]
    rw [e] at h
    exact h
  clear HG hb1 HB hk0 hmk'
  go_wp2
  go_loopw [6] (fun i wr => ∃ k : Nat, k ≤ 80 ∧ i = .int .i64 ((n + k : Nat) : Int) ∧ Kept w wr ∧ Blk wr w.heap.size 5 (padTo xs mk k)) (fun i _ => N - (intOf i).toNat)
  case atStart => exact ⟨0, Nat.zero_le _, rfl, hk1, hr1⟩
  case round =>
    obtain ⟨k, hk, rfl, hkr, hblk⟩ := hrel
    by_cases hlt : k < 80
    · have hc : wr.cell? ⟨w.heap.size, n + k, none⟩ = some (.int .u8 0) := by
        rw [hblk.cell, padTo_cell xs mk k n hl.out hlt]
      have hf := hblk.frozen (n + k)
      have hset := hblk.set_ (n + k) (.int .u8 (mk.toNat : Int))
      rw [padTo_set xs mk k n hl.out hlt, ← HM.out] at hset
      have HS := Lib.hid hset
      have hks : Kept w (wr.setCell ⟨w.heap.size, n + k, none⟩ (.int .u8 mark)) := Keep.setCell hkr (fun h => by simp at h) _
      clear hset hblk
      go_wp2
      exact ⟨⟨k + 1, by omega, by go_num, hks, HS.out⟩, by simp [intOf]; omega⟩
    · have e : k = 80 := by omega
      subst e
      rw [padTo_full] at hblk
      go_wp2
      go_ret
      refine ⟨w.heap.size, rfl, Nat.le_refl _, ⟨[], by rw [List.append_nil]; exact hblk, ?_, by unfold maxLen; omega⟩, hkr⟩
      rw [pad_length, hl.out, HN.out]
      rfl

theorem roomy_any (A : Option Addr) (n c : Nat) (xs : List UInt8) (mk : UInt8) (mark : Int) (w : World) (hmk : mark = (mk.toNat : Int)) (hx : R8 w A xs) (hn : n ≤ 1000000) (hl : Hid (xs.length = n)) :
    Calls Try.prog 17 #[.slice A n c, .int .u8 mark] w fun e w' => ∃ g, e = .returned (.slice (some ⟨g, 0, none⟩) (n + 80) (n + 80)) ∧ w.heap.size ≤ g ∧ Row8 w' g (n + 80) (pad xs mk) ∧ Kept w w' :=
  roomy_N A n (n + 80) c xs mk mark w hmk hx hn hl rfl

set_option maxHeartbeats 400000 in
theorem intact_any (B : Option Addr) (g n d : Nat) (xs : List UInt8) (mk : UInt8) (mark : Int) (w : World) (hmk : mark = (mk.toNat : Int)) (hr : Row8 w g (n + 80) (pad xs mk)) (hx : R8 w B xs) (hn : n ≤ 1000000) (hl : Hid (xs.length = n)) :
    Calls Try.prog 20 #[.slice (some ⟨g, 0, none⟩) (n + 80) (n + 80), .slice B n d, .int .u8 mark] w fun e w' => e = .returned (.bool true) ∧ ∃ k, w' = w.drewN k := by
  have HM := Lib.hid hmk
  clear hmk
  have hx1 : R8 w (some ⟨g, 0, none⟩) xs := by
    have h := hr.r8
    intro k x hk
    exact h k x (by unfold pad; rw [List.getElem?_append_left (by exact (List.getElem?_eq_some_iff.1 hk).1)]; exact hk)
  go_enter Try.func20, Try.ntmps20
  go_wp2_with fail
  refine (same_is _ _ n n _ _ xs xs true _ (decide_eq_true rfl) hx1 hx (by unfold maxLen; omega) hl hl).mono ?_
  rintro e w1 ⟨rfl, k1, rfl⟩
  go_wp2
  go_loopw [7] (fun i wr => ∃ k m : Nat, k ≤ 80 ∧ i = .int .i64 ((n + k : Nat) : Int) ∧ wr = w.drewN m) (fun i _ => (n + 80) - (intOf i).toNat)
  case atStart => exact ⟨0, k1, Nat.zero_le _, rfl, rfl⟩
  case round =>
    obtain ⟨k, m, hk, rfl, rfl⟩ := hrel
    by_cases hlt : k < 80
    · have hc : w.cell? ⟨g, n + k, none⟩ = some (.int .u8 mark) := by
        obtain ⟨ad, e, hc⟩ := hr.r8 (n + k) mk (by unfold pad; rw [List.getElem?_append_right (by rw [hl.out]; omega), hl.out, List.getElem?_replicate, if_pos (by omega)])
        injection e with e
        subst e
        rw [add_lit] at hc
        rw [hc, HM.out]
      go_wp2
      exact ⟨⟨k + 1, m, by omega, by go_num, rfl⟩, by simp [intOf]; omega⟩
    · have e : k = 80 := by omega
      subst e
      go_wp2
      go_ret
      exact ⟨rfl, m, rfl⟩

theorem R8.pad2 {w : World} {g c : Nat} {xs : List UInt8} {mk : UInt8} (h : Row8 w g c (pad xs mk)) : R8 w (some ⟨g, 0, none⟩) xs := by
  intro k x hk
  exact h.r8 k x (by unfold pad; rw [List.getElem?_append_left (by exact (List.getElem?_eq_some_iff.1 hk).1)]; exact hk)

end Go.Proofs.Ytdmeiffofmagjaa
