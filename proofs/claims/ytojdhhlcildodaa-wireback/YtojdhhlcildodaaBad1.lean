/-
  The walk of jobberlaw1.WireBad. No condition.
-/
import Derived.Test.YtojdhhlcildodaaRuns1
import Derived.Test.YtojdhhlcildodaaWireS
import Derived.Test.YtojdhhlcildodaaArr
import Derived.Test.YtojdhhlcildodaaClose
namespace Go.Proofs.Ytojdhhlcildodaa
open Go.RowKit
set_option linter.unusedVariables false

theorem R8.take {w : World} {A : Option Addr} {xs : List UInt8} (h : R8 w A xs) (m : Nat) : R8 w A (xs.take m) := by
  intro k x hx
  rw [List.getElem?_take] at hx
  split at hx
  · exact h k x hx
  · cases hx

theorem RS.take_bad (s : RS) (h : s.bad = true) (n : Nat) : s.take n = (s, []) := by
  obtain ⟨xs, pos, bad⟩ := s
  simp only at h
  subst h
  simp [RS.take]
theorem RS.text_bad (xs : List UInt8) (n : Int) : RS.text ⟨xs, 0, true⟩ n = (⟨xs, 0, true⟩, []) := by
  unfold RS.text
  rw [RS.take_bad _ rfl]
  simp only
  split <;> simp [RS.take]
theorem RS.sum_bad (xs : List UInt8) : RS.sum ⟨xs, 0, true⟩ = (⟨xs, 0, true⟩, zeros32) := by
  unfold RS.sum
  rw [RS.take_bad _ rfl]
  simp
theorem RS.sum_short (xs : List UInt8) (h : xs.length ≤ 31) : RS.sum ⟨xs, 0, false⟩ = (⟨xs, 0, true⟩, zeros32) := by
  have e : RS.take ⟨xs, 0, false⟩ 32 = (⟨xs, 0, true⟩, []) := by
    unfold RS.take
    rw [if_pos (by right; simp only; omega)]
  unfold RS.sum
  rw [e]
  simp

/-- what a bad reader answers -/
def Zero (w : World) (g b : Nat) (ys : List UInt8) (v : Value) (e : Ending) (w' : World) : Prop := e = .returned v ∧ Rd w' g b ⟨ys, 0, true⟩ ∧ Keep (· = g) w w'
theorem bad_ok (ys : List UInt8) (h : ys.length ≤ 1000000) : RS.ok ⟨ys, 0, true⟩ := ⟨Nat.zero_le _, h⟩
theorem zu8 (g b : Nat) (ys : List UInt8) (w : World) (hr : Rd w g b ⟨ys, 0, true⟩) (h : ys.length ≤ 1000000) : Calls Try.prog 25 #[.pointer (some ⟨g, 0, none⟩)] w (Zero w g b ys (.int .i64 0)) := by
  refine (ru8_any g b _ w hr (bad_ok ys h)).mono ?_
  rintro e w' ⟨rfl, h1, h2⟩
  rw [RS.take_bad _ rfl] at h1 ⊢
  exact ⟨rfl, h1, h2⟩
theorem zu32 (g b : Nat) (ys : List UInt8) (w : World) (hr : Rd w g b ⟨ys, 0, true⟩) (h : ys.length ≤ 1000000) : Calls Try.prog 27 #[.pointer (some ⟨g, 0, none⟩)] w (Zero w g b ys (.int .u32 0)) := by
  refine (ru32_any g b _ w hr (bad_ok ys h)).mono ?_
  rintro e w' ⟨rfl, h1, h2⟩
  rw [RS.take_bad _ rfl] at h1 ⊢
  exact ⟨rfl, h1, h2⟩
theorem zu64 (g b : Nat) (ys : List UInt8) (w : World) (hr : Rd w g b ⟨ys, 0, true⟩) (h : ys.length ≤ 1000000) : Calls Try.prog 29 #[.pointer (some ⟨g, 0, none⟩)] w (Zero w g b ys (.int .u64 0)) := by
  refine (ru64_any g b _ w hr (bad_ok ys h)).mono ?_
  rintro e w' ⟨rfl, h1, h2⟩
  rw [RS.take_bad _ rfl] at h1 ⊢
  exact ⟨rfl, h1, h2⟩
theorem zsum (g b : Nat) (ys : List UInt8) (w : World) (hr : Rd w g b ⟨ys, 0, true⟩) (h : ys.length ≤ 1000000) : Calls Try.prog 31 #[.pointer (some ⟨g, 0, none⟩)] w (Zero w g b ys (.agg (cells8 zeros32).toArray)) := by
  refine (rsum_any g b _ w hr (bad_ok ys h)).mono ?_
  rintro e w' ⟨rfl, h1, h2⟩
  rw [RS.sum_bad] at h1 ⊢
  exact ⟨rfl, h1, h2⟩
theorem ztext (g b : Nat) (ys : List UInt8) (most : Int) (w : World) (hr : Rd w g b ⟨ys, 0, true⟩) (h : ys.length ≤ 1000000) : Calls Try.prog 11 #[.pointer (some ⟨g, 0, none⟩), .int .i64 most] w (Zero w g b ys (.string ⟨#[]⟩)) := by
  refine (rtext_any g b _ most w hr (bad_ok ys h)).mono ?_
  rintro e w' ⟨rfl, h1, h2⟩
  rw [RS.text_bad] at h1 ⊢
  exact ⟨rfl, h1, h2⟩

theorem eq_zeros (xs : List UInt8) (h : xs.length = 32) : ∀ w : World, (Op.equalIn 10000 47 (.agg (cells8 xs).toArray) (.agg #[.int .u8 0, .int .u8 0, .int .u8 0, .int .u8 0, .int .u8 0, .int .u8 0, .int .u8 0, .int .u8 0, .int .u8 0, .int .u8 0, .int .u8 0, .int .u8 0, .int .u8 0, .int .u8 0, .int .u8 0, .int .u8 0, .int .u8 0, .int .u8 0, .int .u8 0, .int .u8 0, .int .u8 0, .int .u8 0, .int .u8 0, .int .u8 0, .int .u8 0, .int .u8 0, .int .u8 0, .int .u8 0, .int .u8 0, .int .u8 0, .int .u8 0, .int .u8 0])).run Try.prog w = .ok (decide (xs = zeros32)) w :=
  fun w => run_arr8 47 32 Try.underlying47 xs zeros32 h rfl w

set_option maxHeartbeats 1000000 in
theorem wireBad_any (v1 v2 : Value) (xs : List UInt8) (l : List (Int × Int)) (w : World) (h1 : Bytes w v1 xs) (h2 : Elems w v2 2 Ints2 l) :
    Calls Try.prog 7 #[v1, v2] w fun e w' => e = .returned (.bool true) ∧ Kept w w' := by
  obtain ⟨A, n, c, rfl, hl, hx, hnc, hc⟩ := h1
  obtain ⟨B, n2, c2, rfl, hl2, hx2, hnc2, hc2⟩ := h2
  unfold maxLen at hc hc2
  obtain ⟨m, hm⟩ : ∃ m, m = min n 31 := ⟨_, rfl⟩
  have hm1 : m ≤ 31 := by omega
  have hm2 : m ≤ n := by omega
  have hmin : (if (31 : Int) < (n : Int) then (31 : Int) else (n : Int)) = (m : Int) := by split <;> omega
  have hlm : Hid ((xs.take m).length = m) := by show _ = _; rw [List.length_take, hl.out]; omega
  clear hm
  go_enter Try.func7, Try.ntmps7
  go_wp2_with fail
  refine (read_any A m _ (xs.take m) _ (hx.take m) (by omega) hlm).mono ?_
  rintro e w1 ⟨g, b, rfl, hg, hb, hrd, hk1⟩
  obtain ⟨ys, hys⟩ : ∃ ys, ys = xs.take m := ⟨_, rfl⟩
  rw [← hys] at hrd hlm
  have hxw := hx2
  clear hys hx hx2
  go_wp2_with fail
  refine (rsum_any g b _ _ hrd ⟨by simp, by show _ ≤ _; rw [hlm.out]; omega⟩).mono ?_
  rintro e w2 ⟨rfl, hrd2, hk2⟩
  have e2 := RS.sum_short ys (by rw [hlm.out]; omega)
  rw [e2] at hrd2
  rw [e2]
  replace hk2 := hk1.trans' hk2 (by omega)
  have hz := eq_zeros zeros32 rfl
  have hzz : decide (zeros32 = zeros32) = true := decide_eq_true rfl
  rw [hzz] at hz
  clear hzz e2 hrd
  go_wp2_with fail
  refine (bad_any g b _ _ hrd2).mono ?_
  rintro e w3 ⟨rfl, rfl⟩
  go_wp2_with fail
  refine (at_any g b _ _ hrd2).mono ?_
  rintro e w3 ⟨rfl, rfl⟩
  go_wp2_with fail
  go_loopw [6] (fun i wr => ∃ k : Nat, k ≤ n2 ∧ i = .int .i64 k ∧ Kept w wr ∧ Rd wr g b ⟨ys, 0, true⟩) (fun i _ => n2 - (intOf i).toNat)
  case atStart => exact ⟨0, Nat.zero_le _, rfl, hk2, hrd2⟩
  case round =>
    obtain ⟨k, hkn, rfl, hkr, hrd⟩ := hrel
    by_cases hlt : k < n2
    · by_cases hlt2 : k < 20
      · obtain ⟨ab, ao, cs, rfl, hsh, -, hcell⟩ := hxw k _ (List.getElem?_eq_getElem (by rw [hl2.out]; exact hlt))
        obtain ⟨rfl, -, -⟩ := hsh
        have hca := hcell 1 _ rfl
        obtain ⟨av, hav⟩ : ∃ av, av = (l[k]'(by rw [hl2.out]; exact hlt)).2 := ⟨_, rfl⟩
        rw [← hav] at hca
        have HCA := Lib.hid hca
        clear hcell hca hav
        have hyl : ys.length ≤ 1000000 := by rw [hlm.out]; omega
        go_wp2_with fail
        refine (zu8 g b ys _ hrd hyl).mono ?_
        rintro e w3 ⟨rfl, hr3, hk⟩
        replace hkr := Kept.trans' hkr hk (by omega)
        clear hk hrd
        have hrd := hr3
        clear hr3
        go_wp2_with fail
        refine (zu32 g b ys _ hrd hyl).mono ?_
        rintro e w4 ⟨rfl, hr4, hk⟩
        replace hkr := Kept.trans' hkr hk (by omega)
        clear hk hrd
        have hrd := hr4
        clear hr4
        go_wp2_with fail
        refine (zu64 g b ys _ hrd hyl).mono ?_
        rintro e w5 ⟨rfl, hr5, hk⟩
        replace hkr := Kept.trans' hkr hk (by omega)
        clear hk hrd
        have hrd := hr5
        clear hr5
        go_wp2_with fail
        refine (zsum g b ys _ hrd hyl).mono ?_
        rintro e w6 ⟨rfl, hr6, hk⟩
        replace hkr := Kept.trans' hkr hk (by omega)
        clear hk hrd
        have hrd := hr6
        clear hr6
        have hca : w6.cell? ⟨ab, ao + k * 2 + 1, none⟩ = some (.int .i64 av) := Kept.cell hkr (by rw [Nat.add_assoc]; exact HCA.out)
        go_wp2_with fail
        refine (ztext g b ys _ _ hrd hyl).mono ?_
        rintro e w7 ⟨rfl, hr7, hk⟩
        replace hkr := Kept.trans' hkr hk (by omega)
        clear hk hrd hca
        go_wp2_with fail
        refine (at_any g b _ _ hr7).mono ?_
        rintro e w8 ⟨rfl, rfl⟩
        go_wp2_with fail
        refine (bad_any g b _ _ hr7).mono ?_
        rintro e w8 ⟨rfl, rfl⟩
        go_wp2_with fail
        refine (end_any g b _ _ hr7 (bad_ok ys hyl)).mono ?_
        rintro e w8 ⟨rfl, k8, rfl⟩
        have hkr8 := Keep.drewN hkr k8
        have hf : RS.fin ⟨ys, 0, true⟩ = false := rfl
        rw [hf]
        go_wp2
        exact ⟨⟨k + 1, by omega, by go_num, hkr8, hr7⟩, by simp [intOf]; omega⟩
      · go_wp2_with fail
        refine (wireRuns_any _).mono ?_
        rintro e w8 ⟨rfl, hk⟩
        have hk8 := hkr.trans hk
        go_wp2
        go_ret
        exact ⟨rfl, hk8⟩
    · go_wp2_with fail
      refine (wireRuns_any _).mono ?_
      rintro e w8 ⟨rfl, hk⟩
      have hk8 := hkr.trans hk
      go_wp2
      go_ret
      exact ⟨rfl, hk8⟩
end Go.Proofs.Ytojdhhlcildodaa
