/-
  The contract of mac.Equal: it answers whether the two arrays of 32 bytes are equal. No condition.
-/
import Derived.Test.YthadjcgebnlpiaaDoorMacM
namespace Go.Proofs.YthadjcgebnlpiaaDoor
open Go.RowKit
set_option linter.unusedVariables false

/-- what the loop has gathered behind k bytes -/
def diff (xs ys : List UInt8) : Nat → UInt8
  | 0 => 0
  | k + 1 => diff xs ys k ||| (xs.getD k 0 ^^^ ys.getD k 0)
theorem or_zero (a b : UInt8) : a ||| b = 0 ↔ a = 0 ∧ b = 0 := by
  constructor
  · intro h
    have h1 : a.toNat ||| b.toNat = 0 := by rw [← UInt8.toNat_or, h]; rfl
    obtain ⟨ha, hb⟩ := Nat.or_eq_zero_iff.1 h1
    exact ⟨UInt8.toNat.inj (by simpa using ha), UInt8.toNat.inj (by simpa using hb)⟩
  · rintro ⟨rfl, rfl⟩
    rfl
theorem diff_zero (xs ys : List UInt8) (k : Nat) : diff xs ys k = 0 ↔ ∀ i, i < k → xs.getD i 0 = ys.getD i 0 := by
  induction k with
  | zero => simp [diff]
  | succ k ih =>
    rw [diff, or_zero, ih, UInt8.xor_eq_zero_iff]
    constructor
    · rintro ⟨h1, h2⟩ i hi
      by_cases e : i = k
      · subst e; exact h2
      · exact h1 i (by omega)
    · intro h
      exact ⟨fun i hi => h i (by omega), h k (by omega)⟩
theorem diff_eq (xs ys : List UInt8) (n : Nat) (hx : xs.length = n) (hy : ys.length = n) : diff xs ys n = 0 ↔ xs = ys := by
  rw [diff_zero]
  constructor
  · intro h
    apply List.ext_getElem (by omega)
    intro i h1 h2
    have := h i (by omega)
    rw [List.getD_eq_getElem?_getD, List.getD_eq_getElem?_getD, List.getElem?_eq_getElem h1, List.getElem?_eq_getElem h2] at this
    simpa using this
  · rintro rfl i _
    rfl

set_option maxRecDepth 100000 in
set_option maxHeartbeats 800000 in
theorem equal_any (xs ys : List UInt8) (w : World) (hx : xs.length = 32) (hy : ys.length = 32) :
    Calls Tryd.prog 15 #[.agg (cells8 xs).toArray, .agg (cells8 ys).toArray] w fun e w' => e = .returned (.bool (decide (xs = ys))) ∧ Kept w w' := by
  go_enter Tryd.func15, Tryd.ntmps15
  go_wp2_with ((with_reducible show wpList _ _ _ _ _ _); (first
    | ((with_reducible refine wpl_value (o := ⟨some 2, _, _, _, _, _⟩) _ (w.alloc (.cells (cells8 xs).toArray 24)) (.pointer (some ⟨w.heap.size, 0, none⟩)) rfl ?hc ?_); (case hc => exact exec_box _ _ _ _ (.tmp 0) _ rfl rfl))
    | ((with_reducible refine wpl_value (o := ⟨some 3, _, _, _, _, _⟩) _ ((w.alloc (.cells (cells8 xs).toArray 24)).alloc (.cells (cells8 ys).toArray 24)) (.pointer (some ⟨(w.alloc (.cells (cells8 xs).toArray 24)).heap.size, 0, none⟩)) rfl ?hc2 ?_); (case hc2 => exact exec_box _ _ _ _ (.tmp 1) _ rfl rfl))))
  have hk1 : Kept w (w.alloc (.cells (cells8 xs).toArray 24)) := (Keep.refl _ w).alloc _
  have hk2 := Keep.alloc hk1 (.cells (cells8 ys).toArray 24)
  have hba := (Blk.new w 24 (cells8 xs)).alloc (.cells (cells8 ys).toArray 24)
  have hbb := Blk.new (w.alloc (.cells (cells8 xs).toArray 24)) 24 (cells8 ys)
  have hsz : (w.alloc (.cells (cells8 xs).toArray 24)).heap.size = w.heap.size + 1 := by simp
  rw [hsz] at hbb
  clear hsz hk1
  generalize (w.alloc (.cells (cells8 xs).toArray 24)).alloc (.cells (cells8 ys).toArray 24) = w2 at hk2 hba hbb ⊢
  have HX := Lib.hid hx
  have HY := Lib.hid hy
  clear hx hy
  go_loopw [5, 7] (fun v i wr => ∃ k m : Nat, k ≤ 32 ∧ i = .int .i64 k ∧ v = .int .u8 ((diff xs ys k).toNat : Int) ∧ wr = w2.drewN m) (fun _ i _ => 32 - (intOf i).toNat)
  case atStart => exact ⟨0, 0, Nat.zero_le _, rfl, rfl, rfl⟩
  case round =>
    obtain ⟨k, m, hk, rfl, rfl, rfl⟩ := hrel
    by_cases hlt : k < 32
    · have ca : w2.cell? ⟨w.heap.size, k, none⟩ = some (.int .u8 ((xs.getD k 0).toNat : Int)) := by
        have := HX.out
        rw [hba.cell, cells8, List.getElem?_map, List.getElem?_eq_getElem (by omega), List.getD_eq_getElem?_getD, List.getElem?_eq_getElem (by omega)]
        rfl
      have cb : w2.cell? ⟨w.heap.size + 1, k, none⟩ = some (.int .u8 ((ys.getD k 0).toNat : Int)) := by
        have := HY.out
        rw [hbb.cell, cells8, List.getElem?_map, List.getElem?_eq_getElem (by omega), List.getD_eq_getElem?_getD, List.getElem?_eq_getElem (by omega)]
        rfl
      have hd : Hid (bits .or .u8 ((diff xs ys k).toNat : Int) (bits .xor .u8 ((xs.getD k 0).toNat : Int) ((ys.getD k 0).toNat : Int)) = ((diff xs ys (k + 1)).toNat : Int)) := by
        show _ = _
        rw [xor8, or8]
        rfl
      generalize xs.getD k 0 = x at ca hd
      generalize ys.getD k 0 = y at cb hd
      go_wp2_with fail
      go_quiet (fail)
      go_wp2
      refine ⟨⟨k + 1, m + nq, by omega, by go_num, ?_, rfl⟩, by simp [intOf]; omega⟩
      exact congrArg _ hd.out
    · obtain rfl : k = 32 := by omega
      go_wp2
      go_ret
      refine ⟨ret_bool ?_, hk2.drewN _⟩
      have h := diff_eq xs ys 32 HX.out HY.out
      generalize diff xs ys 32 = d at h ⊢
      rw [Bool.eq_iff_iff, decide_eq_true_eq, ← h]
      simp only [beq_iff_eq]
      constructor
      · intro e
        exact UInt8.toNat.inj (by have : d.toNat = 0 := by omega
                                  rw [this]; rfl)
      · rintro rfl
        rfl
end Go.Proofs.YthadjcgebnlpiaaDoor
