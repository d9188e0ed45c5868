/-
  The walk of jobberlaw1.WireWrites. No condition.
-/
import Derived.Test.YtojdhhlcildodaaRef1
import Derived.Test.YtojdhhlcildodaaRoomy
import Derived.Test.YtojdhhlcildodaaClose
namespace Go.Proofs.Ytojdhhlcildodaa
open Go.RowKit
set_option linter.unusedVariables false

theorem R8.take' {w : World} {A : Option Addr} {xs : List UInt8} (h : R8 w A xs) (m : Nat) : R8 w A (xs.take m) := by
  intro k x hx
  rw [List.getElem?_take] at hx
  split at hx
  · exact h k x hx
  · cases hx

theorem R8.pad {w : World} {g c : Nat} {xs : List UInt8} {mk : UInt8} (h : Row8 w g c (pad xs mk)) : R8 w (some ⟨g, 0, none⟩) xs := by
  intro k x hk
  exact h.r8 k x (by unfold Go.Proofs.Ytojdhhlcildodaa.pad; rw [List.getElem?_append_left (by exact (List.getElem?_eq_some_iff.1 hk).1)]; exact hk)

set_option maxHeartbeats 2000000 in
theorem wireWrites_any (v1 : Value) (xs0 : List UInt8) (n u v : Int) (s0 : ByteArray) (w : World) (h1 : Bytes w v1 xs0) (wu : (Lit.int .u32 u).wf = true) (wv : (Lit.int .u64 v).wf = true) (hs : s0.size ≤ maxLen) :
    Calls Try.prog 4 #[v1, .int .i64 n, .int .u32 u, .int .u64 v, .string s0] w fun e w' => e = .returned (.bool true) ∧ Kept w w' := by
  obtain ⟨A, n0, c, rfl, hl0, hx0, hnc, hc, hA⟩ := h1
  unfold maxLen at hc hs
  have bu : 0 ≤ u ∧ u ≤ 4294967295 := by simpa [Lit.wf, IntKind.min, IntKind.max, IntKind.signed, IntKind.bits] using wu
  have bv : 0 ≤ v ∧ v ≤ 18446744073709551615 := by simpa [Lit.wf, IntKind.min, IntKind.max, IntKind.signed, IntKind.bits] using wv
  clear wu wv
  obtain ⟨u0, u1⟩ := bu
  obtain ⟨v0, v1⟩ := bv
  obtain ⟨m, hm⟩ : ∃ m, m = min n0 40 := ⟨_, rfl⟩
  have hm1 : m ≤ 40 := by omega
  have hm2 : m ≤ n0 := by omega
  have hmin : (if (40 : Int) < (n0 : Int) then (40 : Int) else (n0 : Int)) = (m : Int) := by split <;> omega
  have hl : Hid ((xs0.take m).length = m) := by show _ = _; rw [List.length_take, hl0.out]; omega
  have hx := hx0.take' m
  obtain ⟨xs, hxs⟩ : ∃ xs, xs = xs0.take m := ⟨_, rfl⟩
  rw [← hxs] at hl hx
  clear hm hl0 hx0 hxs
  obtain ⟨m2, hm⟩ : ∃ m2, m2 = min s0.size 300 := ⟨_, rfl⟩
  have hm3 : m2 ≤ 300 := by omega
  have hm4 : m2 ≤ s0.size := by omega
  have hmin2 : (if (300 : Int) < (s0.size : Int) then (300 : Int) else (s0.size : Int)) = (m2 : Int) := by split <;> omega
  have hsz : (s0.extract 0 m2).size = m2 := by rw [ByteArray.size_extract]; omega
  obtain ⟨s, hs'⟩ : ∃ s, s = s0.extract 0 m2 := ⟨_, rfl⟩
  rw [← hs'] at hsz
  have HS := Lib.hid hs'
  have hss : s.size ≤ 300 := by omega
  clear hm hs' hsz
  go_enter Try.func4, Try.ntmps4
  go_upto_region 1 with fail
  go_cut [0, 4] (fun a b wx => a = .slice A m c ∧ b = .string s ∧ ∃ k, wx = w.drewN k)
  case first =>
    go_quiet (fail)
    go_wp2
    go_meet
    exact ⟨rfl, by rw [HS.out], _, rfl⟩
  case rest =>
    obtain ⟨rfl, rfl, k0, rfl⟩ := hcut
    have hk0 : Kept w (w.drewN k0) := kept_drewN w k0
    replace hx : R8 (w.drewN k0) A xs := hx
    go_wp2_with fail
    refine (roomy_any A m c xs 7 7 _ rfl hx (by omega) hl).mono ?_
    rintro e w1 ⟨g, rfl, hg, hrow, hk⟩
    replace hx := hx.kept hk
    have hkk : Kept w w1 := Kept.trans hk0 hk
    clear hk hk0
    go_wp2_with fail
    refine (u8_any _ m _ xs _ _ (R8.pad hrow) (by omega) hl).mono ?_
    rintro e wa1 ⟨ga1, da1, rfl, hga1, ra, hk⟩
    replace hx := hx.kept hk
    replace hrow := hrow.kept hk
    replace hkk := Kept.trans hkk hk
    clear hk
    go_wp2_with fail
    refine (fu8_any _ m _ xs _ _ hx hA (by omega) hl).mono ?_
    rintro e wb1 ⟨gb1, db1, rfl, hgb1, rb, hk⟩
    replace hx := hx.kept hk
    replace hrow := hrow.kept hk
    replace ra := ra.kept hk
    replace hkk := Kept.trans hkk hk
    clear hk
    go_wp2_with fail
    refine (same_is _ _ (m + 1) (m + 1) _ _ _ _ true _ (decide_eq_true rfl) ra.r8 rb.r8 (by unfold maxLen; omega) (by show _ = _; rw [List.length_append, hl.out]; rfl) (by show _ = _; rw [List.length_append, hl.out]; rfl)).mono ?_
    rintro e wc1 ⟨rfl, kc1, rfl⟩
    replace hkk := Keep.drewN hkk kc1
    replace hx : R8 (wb1.drewN kc1) A xs := hx
    replace hrow : Row8 (wb1.drewN kc1) g (m + 80) (pad xs 7) := hrow
    clear ra rb
    go_wp2_with fail
    refine (u32_any _ m _ xs _ _ (R8.pad hrow) (by omega) hl (by omega) (by omega)).mono ?_
    rintro e wa2 ⟨ga2, da2, rfl, hga2, ra, hk⟩
    replace hx := hx.kept hk
    replace hrow := hrow.kept hk
    replace hkk := Kept.trans hkk hk
    clear hk
    go_wp2_with fail
    refine (fu32_any _ m _ xs _ _ hx hA (by omega) hl (by omega) (by omega)).mono ?_
    rintro e wb2 ⟨gb2, db2, rfl, hgb2, rb, hk⟩
    replace hx := hx.kept hk
    replace hrow := hrow.kept hk
    replace ra := ra.kept hk
    replace hkk := Kept.trans hkk hk
    clear hk
    go_wp2_with fail
    refine (same_is _ _ (m + 4) (m + 4) _ _ _ _ true _ (decide_eq_true rfl) ra.r8 rb.r8 (by unfold maxLen; omega) (by show _ = _; rw [List.length_append, hl.out, be_length]) (by show _ = _; rw [List.length_append, hl.out, be_length])).mono ?_
    rintro e wc2 ⟨rfl, kc2, rfl⟩
    replace hkk := Keep.drewN hkk kc2
    replace hx : R8 (wb2.drewN kc2) A xs := hx
    replace hrow : Row8 (wb2.drewN kc2) g (m + 80) (pad xs 7) := hrow
    clear ra rb
    go_wp2_with fail
    refine (u64_any _ m _ xs _ _ (R8.pad hrow) (by omega) hl (by omega) (by omega)).mono ?_
    rintro e wa3 ⟨ga3, da3, rfl, hga3, ra, hk⟩
    replace hx := hx.kept hk
    replace hrow := hrow.kept hk
    replace hkk := Kept.trans hkk hk
    clear hk
    go_wp2_with fail
    refine (fu64_any _ m _ xs _ _ hx hA (by omega) hl (by omega) (by omega)).mono ?_
    rintro e wb3 ⟨gb3, db3, rfl, hgb3, rb, hk⟩
    replace hx := hx.kept hk
    replace hrow := hrow.kept hk
    replace ra := ra.kept hk
    replace hkk := Kept.trans hkk hk
    clear hk
    go_wp2_with fail
    refine (same_is _ _ (m + 8) (m + 8) _ _ _ _ true _ (decide_eq_true rfl) ra.r8 rb.r8 (by unfold maxLen; omega) (by show _ = _; rw [List.length_append, hl.out, be_length]) (by show _ = _; rw [List.length_append, hl.out, be_length])).mono ?_
    rintro e wc3 ⟨rfl, kc3, rfl⟩
    replace hkk := Keep.drewN hkk kc3
    replace hx : R8 (wb3.drewN kc3) A xs := hx
    replace hrow : Row8 (wb3.drewN kc3) g (m + 80) (pad xs 7) := hrow
    clear ra rb
    go_wp2_with fail
    refine (text_any _ m _ xs _ _ (R8.pad hrow) (by omega) hl (by unfold maxLen; omega)).mono ?_
    rintro e w4 ⟨g4, d4, rfl, hg4, ra, hk⟩
    replace hx := hx.kept hk
    replace hrow := hrow.kept hk
    replace hkk := Kept.trans hkk hk
    clear hk
    have R0 := Lib.hid (row8_new w4 [] (by simp))
    have k0' : Kept w4 (w4.alloc (.cells (cells8 []).toArray 5)) := (Keep.refl _ w4).alloc _
    go_wp2_with (at_builtin; refine wpl_append8 _ rfl (.tmp 58) (.tmp 59) rfl w4.heap.size w4.heap.size 0 0 [] rfl rfl R0.out (Nat.le_refl _) A m c xs rfl hl.out (hx.kept k0') hA (by omega) ?_)
    intro w5 g5 c5 r5 hb5 hk5
    have hk45 : Kept w4 w5 := Kept.trans' k0' hk5 (by omega)
    replace hx := hx.kept hk45
    replace hrow := hrow.kept hk45
    replace ra := ra.kept hk45
    replace hkk := Kept.trans hkk hk45
    clear hk5 k0' R0 hk45
    go_wp2_with fail
    refine (ftext_any _ m _ xs _ _ r5.r8 (by simp) (by omega) hl (by unfold maxLen; omega)).mono ?_
    rintro e w6 ⟨g6, d6, rfl, hg6, rb, hk⟩
    replace hx := hx.kept hk
    replace hrow := hrow.kept hk
    replace ra := ra.kept hk
    replace hkk := Kept.trans hkk hk
    clear hk
    have hlt : Hid ((xs ++ txt s).length = m + 1 + min s.size 255) := by show _ = _; rw [List.length_append, hl.out, txt_length]; omega
    go_wp2_with fail
    refine (same_is _ _ (m + 1 + min s.size 255) (m + 1 + min s.size 255) _ _ _ _ true _ (decide_eq_true rfl) ra.r8 rb.r8 (by unfold maxLen; omega) hlt hlt).mono ?_
    rintro e w7 ⟨rfl, k7, rfl⟩
    replace hkk := Keep.drewN hkk k7
    replace hx : R8 (w6.drewN k7) A xs := hx
    replace hrow : Row8 (w6.drewN k7) g (m + 80) (pad xs 7) := hrow
    clear ra rb
    go_wp2_with fail
    refine (intact_any A g m _ xs 7 7 _ rfl hrow hx (by omega) hl).mono ?_
    rintro e w8 ⟨rfl, k8, rfl⟩
    replace hkk := Keep.drewN hkk k8
    rw [World.drewN_drewN] at hkk
    clear hx hrow
    go_wp2_with fail
    refine (wireRuns_any _).mono ?_
    rintro e w9 ⟨rfl, hk⟩
    have hk9 := Kept.trans hkk hk
    go_wp2
    go_ret
    exact ⟨rfl, hk9⟩

end Go.Proofs.Ytojdhhlcildodaa
