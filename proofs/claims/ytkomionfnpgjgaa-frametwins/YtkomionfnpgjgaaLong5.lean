/-
  The contract of jobberlaw5.FrameLong: a body of MaxFrame bytes goes, one more, or none, doesn't; it answers true and turns no block. No condition.
-/
import Derived.Test.YtkomionfnpgjgaaRuns5
import Derived.Test.YtkomionfnpgjgaaWithin
namespace Go.Proofs.Ytkomionfnpgjgaa
open Go.RowKit
set_option linter.unusedVariables false

theorem Row8.bytesN {w : World} {g c n : Nat} {xs : List UInt8} (h : Row8 w g c xs) (hn : xs.length = n) : Bytes w (.slice (some ⟨g, 0, none⟩) n c) xs := by
  subst hn
  exact h.bytes
theorem row_zeros (w : World) (k : Nat) (hk : k ≤ 1000000) : Row8 (w.alloc (.cells (madeCells #[.int .u8 0] k) 5)) w.heap.size k (List.replicate k 0) := by
  have h := blk_made w 5 (.int .u8 0) k
  have e : List.replicate k (Value.int .u8 0) = cells8 (List.replicate k 0) ++ [] := by simp [cells8]
  rw [e] at h
  exact ⟨[], h, by simp, by unfold maxLen; omega⟩
theorem row_ne_df {t : TypeId} {w : World} {g g' c : Nat} {bad : Bool} {left xs : List UInt8} (h : DF t w g bad left) (hr : Row8 w g' c xs) (ht : t ≠ 5) : g' ≠ g := by
  obtain ⟨_, _, _, hb, _⟩ := h
  exact row_ne hb hr ht
theorem within_one (n hi : Int) (w : World) (h1 : 1 ≤ hi) (h2 : hi ≤ 1099511627776) :
    Calls Try.prog 20 #[.int .i64 n, .int .i64 1, .int .i64 hi] w fun e w' => ∃ k : Nat, e = .returned (.int .i64 (k : Int)) ∧ 1 ≤ k ∧ (k : Int) ≤ hi ∧ w = w' := by
  refine (within_any n 1 hi w (by omega) h1 h2).mono ?_
  rintro e w' ⟨rfl, rfl⟩
  have a := Int.emod_nonneg n (show hi - 1 + 1 ≠ 0 by omega)
  have b := Int.emod_lt_of_pos n (show 0 < hi - 1 + 1 by omega)
  refine ⟨(1 + n % (hi - 1 + 1)).toNat, ret_int ?_, ?_, ?_, rfl⟩ <;> omega
/-- a slice of no or some bytes that Put handed back -/
theorem PutIn.bytes {w w' : World} {v : Value} {xs : List UInt8} (h : PutIn w w' v xs) : Bytes w' v xs := by
  obtain ⟨A, c, rfl, ho⟩ := h
  exact ⟨A, _, c, rfl, rfl, ho.r8, ho.cap.1, ho.cap.2.1, ho.cap.2.2⟩

set_option maxRecDepth 100000 in
set_option maxHeartbeats 1600000 in
theorem frameLong_any (v : Value) (n : Int) (b : List UInt8) (w : World) (hv : Bytes w v b) : Calls Try.prog 6 #[.int .i64 n, v] w fun e w' => e = .returned (.bool true) ∧ Kept w w' := by
  obtain ⟨V, nb, cb, rfl, hlb, hV, hnb, hcb, hVn⟩ := hv
  have HV0 := Lib.hid hV
  have HVn := Lib.hid hVn
  clear hV hVn
  go_enter Try.func6, Try.ntmps6
  go_wp2_with fail
  refine (within_one n 300 w (by omega) (by omega)).mono ?_
  rintro e w0 ⟨k, rfl, hk1, hk3, rfl⟩
  have hk3 : k ≤ 300 := by omega
  by_cases hfit : k ≤ 256
  · have hd : decide ((k : Int) ≤ 256) = true := by simp; omega
    have hmk := fun u => run_make8 k k (Nat.le_refl _) (by omega) u
    have HB0 := Lib.hid (row_zeros w k (by omega))
    have k0 : Kept w (w.alloc (.cells (madeCells #[.int .u8 0] k) 5)) := (Keep.refl _ w).alloc _
    obtain ⟨Z, hZ⟩ : ∃ Z, Z = List.replicate k (0 : UInt8) := ⟨_, rfl⟩
    rw [← hZ] at HB0
    have hzl : Hid (Z.length = k) := by show _ = _; rw [hZ, List.length_replicate]
    clear hZ
    go_wp2_with fail
    refine (new_any _).mono ?_
    obtain ⟨gb, hgb⟩ : ∃ gb, gb = w.heap.size := ⟨_, rfl⟩
    rw [← hgb] at HB0
    have hgb2 : gb ≤ w.heap.size := by omega
    generalize w.alloc (.cells (madeCells #[.int .u8 0] k) 5) = w1 at HB0 k0 ⊢
    try rw [← hgb]
    rintro e w2 ⟨rfl, hD, k2⟩
    have hgw : Hid (¬ w1.heap.size < w.heap.size) := by show ¬ _; have := k0.size; omega
    generalize w1.heap.size = g at hD hgw ⊢
    have HD := Lib.hid hD
    have HB2 := Lib.hid (HB0.out.kept k2)
    have kw2 := k0.trans k2
    clear hD HB0 k0 k2 hmk hgb
    have hE1 : Hid ((k : Int) / 256 = ((UInt8.ofNat (k / 256)).toNat : Int)) := by show _ = _; simp only [UInt8.toNat_ofNat']; omega
    have hE2 : Hid ((k : Int) % 256 = ((UInt8.ofNat (k % 256)).toNat : Int)) := by show _ = _; simp only [UInt8.toNat_ofNat']; omega
    have RH := row8_new w2 [UInt8.ofNat (k / 256), UInt8.ofNat (k % 256)] (by unfold maxLen; simp)
    rw [show (cells8 [UInt8.ofNat (k / 256), UInt8.ofNat (k % 256)]).toArray = #[.int .u8 ((k : Int) / 256), .int .u8 ((k : Int) % 256)] by rw [hE1.out, hE2.out]; rfl] at RH
    have ka : Kept w2 (w2.alloc (.cells #[.int .u8 ((k : Int) / 256), .int .u8 ((k : Int) % 256)] 5)) := (Keep.refl _ w2).alloc _
    have HRH := Lib.hid RH
    have HBa := Lib.hid (HB2.out.kept ka).r8
    have hs2 := kw2.size
    clear RH hE1 hE2
    go_wp2_with (at_builtin; refine wpl_append8 _ rfl (.tmp 23) (.tmp 24) rfl w2.heap.size w2.heap.size 2 2 _ rfl rfl HRH.out (Nat.le_refl _) (some ⟨gb, 0, none⟩) k k Z rfl hzl.out HBa.out (fun h => by cases h) (by omega) ?_)
    intro w3 g3 c3 R3 hg3 k3
    have k23 : Kept w2 w3 := Kept.trans' ka k3 (by omega)
    have HV : Hid (Bytes w3 (.slice (some ⟨g3, 0, none⟩) (2 + k) c3) (UInt8.ofNat (k / 256) :: UInt8.ofNat (k % 256) :: Z)) := R3.bytesN (by simp [hzl.out]; omega)
    have HD3 := Lib.hid (HD.out.kept k23)
    have HB3 := Lib.hid (HB2.out.kept k23)
    have kw3 := kw2.trans k23
    have hgk : g ≠ gb := (row_ne_df HD3.out HB3.out (by decide)).symm
    clear R3 k3 ka HRH HBa HD HB2 kw2 k23
    go_wp2_with fail
    have HC : Hid (cut ([] ++ (UInt8.ofNat (k / 256) :: UInt8.ofNat (k % 256) :: Z)) = ([Z], [], false)) := by
      have := cut_one (b := Z) (by rw [hzl.out]; exact hk1) (by rw [hzl.out]; exact hfit)
      rw [putOf_ok (by rw [hzl.out]; exact hk1) (by rw [hzl.out]; exact hfit), hzl.out] at this
      exact this
    have HP : Hid ((putOf Z).length = k + 2) := by show _ = _; rw [putOf_len (by rw [hzl.out]; exact hk1) (by rw [hzl.out]; exact hfit), hzl.out]
    refine (feed_is g [] _ _ _ _ _ _ HD3.out HV.out (by decide) (by simp [hzl.out]; omega) HC.out).mono ?_
    rintro e w4 ⟨vl, rfl, hF⟩
    have kw4 : Kept w w4 := Kept.trans' kw3 hF.keep hgw.out
    have HL := Lib.hid hF.bod
    have HD4 := Lib.hid hF.df
    have HB4 := Lib.hid (HB3.out.keep hF.keep (fun h => hgk h.symm))
    obtain ⟨Al, cl, hl⟩ := hF.slice
    have hl : vl = .slice Al 1 cl := hl
    subst hl
    clear hF kw3 HD3 HB3 HC HV
    go_wp2_with fail
    refine (put_any (some ⟨gb, 0, none⟩) k k Z w4 HB4.out.r8 hzl (fun h => by cases h) (by omega)).mono ?_
    rintro e w5 ⟨vp, rfl, ⟨Ap, cp, rfl, -⟩, k5⟩
    rw [HP.out]
    have kw5 := kw4.trans k5
    have HD5 := Lib.hid (HD4.out.kept k5)
    have HB5 := Lib.hid (HB4.out.kept k5)
    have HL5 := Lib.hid (HL.out.kept k5)
    clear k5 kw4 HD4 HB4 HL
    go_wp2_with fail
    refine (put_any none 0 0 [] w5 (R8.nil _ _) rfl (fun _ => rfl) (by omega)).mono ?_
    rintro e w6 ⟨vp, rfl, ⟨Aq, cq, rfl, -⟩, k6⟩
    rw [show (putOf []).length = 0 by decide]
    have kw6 := kw5.trans k6
    have HD6 := Lib.hid (HD5.out.kept k6)
    have HB6 := Lib.hid (HB5.out.kept k6)
    have HL6 := Lib.hid (HL5.out.kept k6)
    clear k6 kw5 HD5 HB5 HL5
    go_wp2_with fail
    refine (bad_any g false [] w6 HD6.out).mono ?_
    rintro e w7 ⟨rfl, rfl⟩
    go_wp2_with fail
    have hb6 := HB6.out.bytes
    rw [hzl.out] at hb6
    have hr := recv_one hb6
    have ka : Kept w6 (w6.alloc (.cells #[.slice (some ⟨gb, 0, none⟩) k k] 26)) := Keep.alloc (Keep.refl _ w6) _
    refine (rows_any _ _ [Z] [Z] _ (HL6.out.kept ka).rec hr (by simp) (by simp)).mono ?_
    rintro e w8 ⟨rfl, k8⟩
    rw [decide_eq_true rfl]
    have k68 := ka.trans k8
    have HD8 := Lib.hid (HD6.out.kept k68)
    have kw8 := kw6.trans k68
    clear hb6 hr ka k8 k68 HD6 HB6 HL6 kw6
    go_wp2_with fail
    refine (left_any g 0 false [] w8 HD8.out rfl).mono ?_
    rintro e w9 ⟨rfl, rfl⟩
    go_wp2_with fail
    refine (frameRuns_any w8).mono ?_
    rintro e w10 ⟨rfl, k10⟩
    have kw10 := kw8.trans k10
    clear k10 kw8 HD8
    go_wp2
    go_ret
    exact ⟨rfl, kw10⟩
  · have hd : decide ((k : Int) ≤ 256) = false := by simp; omega
    have hmk := fun u => run_make8 k k (Nat.le_refl _) (by omega) u
    have HB0 := Lib.hid (row_zeros w k (by omega))
    have k0 : Kept w (w.alloc (.cells (madeCells #[.int .u8 0] k) 5)) := (Keep.refl _ w).alloc _
    obtain ⟨Z, hZ⟩ : ∃ Z, Z = List.replicate k (0 : UInt8) := ⟨_, rfl⟩
    rw [← hZ] at HB0
    have hzl : Hid (Z.length = k) := by show _ = _; rw [hZ, List.length_replicate]
    clear hZ
    go_wp2_with fail
    refine (new_any _).mono ?_
    obtain ⟨gb, hgb⟩ : ∃ gb, gb = w.heap.size := ⟨_, rfl⟩
    rw [← hgb] at HB0
    have hgb2 : gb ≤ w.heap.size := by omega
    generalize w.alloc (.cells (madeCells #[.int .u8 0] k) 5) = w1 at HB0 k0 ⊢
    try rw [← hgb]
    rintro e w2 ⟨rfl, hD, k2⟩
    have hgw : Hid (¬ w1.heap.size < w.heap.size) := by show ¬ _; have := k0.size; omega
    generalize w1.heap.size = g at hD hgw ⊢
    have HD := Lib.hid hD
    have HB2 := Lib.hid (HB0.out.kept k2)
    have kw2 := k0.trans k2
    clear hD HB0 k0 k2 hmk hgb
    have hE1 : Hid ((k : Int) / 256 = ((UInt8.ofNat (k / 256)).toNat : Int)) := by show _ = _; simp only [UInt8.toNat_ofNat']; omega
    have hE2 : Hid ((k : Int) % 256 = ((UInt8.ofNat (k % 256)).toNat : Int)) := by show _ = _; simp only [UInt8.toNat_ofNat']; omega
    have RH := row8_new w2 [UInt8.ofNat (k / 256), UInt8.ofNat (k % 256)] (by unfold maxLen; simp)
    rw [show (cells8 [UInt8.ofNat (k / 256), UInt8.ofNat (k % 256)]).toArray = #[.int .u8 ((k : Int) / 256), .int .u8 ((k : Int) % 256)] by rw [hE1.out, hE2.out]; rfl] at RH
    have ka : Kept w2 (w2.alloc (.cells #[.int .u8 ((k : Int) / 256), .int .u8 ((k : Int) % 256)] 5)) := (Keep.refl _ w2).alloc _
    have HRH := Lib.hid RH
    have HBa := Lib.hid (HB2.out.kept ka).r8
    have hs2 := kw2.size
    clear RH hE1 hE2
    go_wp2_with (at_builtin; refine wpl_append8 _ rfl (.tmp 23) (.tmp 24) rfl w2.heap.size w2.heap.size 2 2 _ rfl rfl HRH.out (Nat.le_refl _) (some ⟨gb, 0, none⟩) k k Z rfl hzl.out HBa.out (fun h => by cases h) (by omega) ?_)
    intro w3 g3 c3 R3 hg3 k3
    have k23 : Kept w2 w3 := Kept.trans' ka k3 (by omega)
    have HV : Hid (Bytes w3 (.slice (some ⟨g3, 0, none⟩) (2 + k) c3) (UInt8.ofNat (k / 256) :: UInt8.ofNat (k % 256) :: Z)) := R3.bytesN (by simp [hzl.out]; omega)
    have HD3 := Lib.hid (HD.out.kept k23)
    have HB3 := Lib.hid (HB2.out.kept k23)
    have kw3 := kw2.trans k23
    have hgk : g ≠ gb := (row_ne_df HD3.out HB3.out (by decide)).symm
    clear R3 k3 ka HRH HBa HD HB2 kw2 k23
    go_wp2_with fail
    have HC : Hid (cut ([] ++ (UInt8.ofNat (k / 256) :: UInt8.ofNat (k % 256) :: Z)) = ([], [], true)) := by
      have e := hdOf_head k Z (by omega)
      exact cut_bad (by simp) (by rw [List.nil_append, e]; omega)
    have HP : Hid ((putOf Z).length = 0) := by show _ = _; rw [putOf_no (by rw [hzl.out]; omega)]; rfl
    have hd2 : ((0 : Int) == (k : Int) + 2) = false := by simp; omega
    refine (feed_is g [] _ _ _ _ _ _ HD3.out HV.out (by decide) (by simp [hzl.out]; omega) HC.out).mono ?_
    rintro e w4 ⟨vl, rfl, hF⟩
    have kw4 : Kept w w4 := Kept.trans' kw3 hF.keep hgw.out
    have HD4 := Lib.hid hF.df
    have HB4 := Lib.hid (HB3.out.keep hF.keep (fun h => hgk h.symm))
    obtain ⟨Al, cl, hl⟩ := hF.slice
    have hl : vl = .slice Al 0 cl := hl
    subst hl
    clear hF kw3 HD3 HB3 HC HV
    go_wp2_with fail
    refine (put_any (some ⟨gb, 0, none⟩) k k Z w4 HB4.out.r8 hzl (fun h => by cases h) (by omega)).mono ?_
    rintro e w5 ⟨vp, rfl, ⟨Ap, cp, rfl, -⟩, k5⟩
    rw [HP.out]
    have kw5 := kw4.trans k5
    have HD5 := Lib.hid (HD4.out.kept k5)
    have HB5 := Lib.hid (HB4.out.kept k5)
    clear k5 kw4 HD4 HB4
    go_wp2_with fail
    refine (put_any none 0 0 [] w5 (R8.nil _ _) rfl (fun _ => rfl) (by omega)).mono ?_
    rintro e w6 ⟨vp, rfl, ⟨Aq, cq, rfl, -⟩, k6⟩
    rw [show (putOf []).length = 0 by decide]
    have kw6 := kw5.trans k6
    have HD6 := Lib.hid (HD5.out.kept k6)
    have HB6 := Lib.hid (HB5.out.kept k6)
    clear k6 kw5 HD5 HB5
    go_wp2_with fail
    refine (bad_any g true [] w6 HD6.out).mono ?_
    rintro e w7 ⟨rfl, rfl⟩
    go_wp2_with fail
    refine (put_any (some ⟨gb, 0, none⟩) k k Z w6 HB6.out.r8 hzl (fun h => by cases h) (by omega)).mono ?_
    rintro e w7 ⟨vp, rfl, ⟨Ar, cr, rfl, -⟩, k7⟩
    rw [HP.out]
    have kw7 := kw6.trans k7
    have HD7 := Lib.hid (HD6.out.kept k7)
    have HV7 := Lib.hid (HV0.out.kept kw7)
    clear k7 kw6 HD6 HB6
    obtain ⟨m, hmin, hml, hm40⟩ : ∃ m : Nat, (if (40 : Int) < (nb : Int) then (40 : Int) else (nb : Int)) = (m : Int) ∧ m ≤ nb ∧ m ≤ 40 := by
      by_cases h : 40 < nb
      · exact ⟨40, by rw [if_pos (by omega)]; rfl, by omega, by omega⟩
      · exact ⟨nb, by rw [if_neg (by omega)], by omega, by omega⟩
    have RH : Row8 (w7.alloc (.cells #[.int .u8 0, .int .u8 1, .int .u8 97] 5)) w7.heap.size 3 [0, 1, 97] := row8_new w7 [0, 1, 97] (by unfold maxLen; simp)
    have ka : Kept w7 (w7.alloc (.cells #[.int .u8 0, .int .u8 1, .int .u8 97] 5)) := (Keep.refl _ w7).alloc _
    have HRH := Lib.hid RH
    have HVa := Lib.hid ((HV7.out.kept ka).take2 m)
    have hlm : Hid ((b.take m).length = m) := by show _ = _; rw [List.length_take, hlb.out]; omega
    clear RH HV7
    go_wp2_with (at_builtin; refine wpl_append8 _ rfl (.tmp 74) (.tmp 79) rfl w7.heap.size w7.heap.size 3 3 _ rfl rfl HRH.out (Nat.le_refl _) V m cb (b.take m) rfl hlm.out HVa.out HVn.out (by omega) ?_)
    intro w8 g8 c8 R8' hg8 k8
    have k78 : Kept w7 w8 := Kept.trans' ka k8 (by omega)
    have hl8 : Hid ((([0, 1, 97] : List UInt8) ++ b.take m).length = 3 + m) := by show _ = _; rw [List.length_append, hlm.out]; rfl
    have HV8 : Hid (Bytes w8 (.slice (some ⟨g8, 0, none⟩) (3 + m) c8) (([0, 1, 97] : List UInt8) ++ b.take m)) := R8'.bytesN hl8.out
    have HD8 := Lib.hid (HD7.out.kept k78)
    have kw8 := kw7.trans k78
    clear R8' k8 k78 ka HRH HVa HD7 kw7
    go_wp2_with fail
    refine (feed_any g true [] _ _ w8 HD8.out HV8.out (by decide) (by rw [hl8.out]; omega)).mono ?_
    rintro e w9 ⟨vl, rfl, hF⟩
    have hF : FedIn 45 w8 w9 g vl [] true [] := hF
    have kw9 : Kept w w9 := Kept.trans' kw8 hF.keep hgw.out
    have HD9 := Lib.hid hF.df
    obtain ⟨Al, cl, hl⟩ := hF.slice
    have hl : vl = .slice Al 0 cl := hl
    subst hl
    clear hF kw8 HD8 HV8
    go_wp2_with fail
    refine (bad_any g true [] w9 HD9.out).mono ?_
    rintro e w10 ⟨rfl, rfl⟩
    go_wp2_with fail
    refine (left_any g 0 true [] w9 HD9.out rfl).mono ?_
    rintro e w10 ⟨rfl, rfl⟩
    go_wp2_with fail
    refine (frameRuns_any w9).mono ?_
    rintro e w10 ⟨rfl, k10⟩
    have kw10 := kw9.trans k10
    clear k10 kw9 HD9
    go_wp2
    go_ret
    exact ⟨rfl, kw10⟩
end Go.Proofs.Ytkomionfnpgjgaa
