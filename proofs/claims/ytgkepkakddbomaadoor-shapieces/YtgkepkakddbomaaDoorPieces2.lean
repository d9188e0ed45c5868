/-
  The walk of jobberlaw2.ShaPieces. No condition but the tables' contents.
-/
import Derived.Test.YtgkepkakddbomaaDoorTells2
import Derived.Test.YtgkepkakddbomaaDoorOwn8
namespace Go.Proofs.YtgkepkakddbomaaDoor
open Go.RowKit
set_option linter.unusedVariables false

theorem Own8.is {w : World} {base n c g : Nat} {A : Option Addr} {xs : List UInt8} (h : Own8 w base A n c xs) (hg : g < base ∨ w.heap.size ≤ g) : SliceIs w g (.slice A n c) xs := by
  obtain ⟨h1, h2, h3⟩ := h.cap
  refine ⟨A, n, c, rfl, h.len, h.r8, h1, h2, fun ad e _ => ?_⟩
  have := h.at_ ad e
  omega

set_option maxRecDepth 100000 in
set_option maxHeartbeats 3200000 in
theorem shaPieces_any (v1 : Value) (l : List (List UInt8)) (w : World) (hG : Glob w) (h1 : Elems w v1 1 (Piece w) l) :
    Calls Tryd.prog 5 #[v1] w fun e w' => e = .returned (.bool true) ∧ Kept w w' := by
  obtain ⟨E, nl, cl, rfl, hll, hE, hnl, hcl⟩ := h1
  unfold maxLen at hcl
  have HE := Lib.hid hE
  clear hE
  go_enter Tryd.func5, Tryd.ntmps5
  go_wp2_with fail
  refine (new_any w hG).mono ?_
  rintro e w1 ⟨g, rfl, hg, hs1, hk1⟩
  have hG1 := hG.kept hk1
  have hlt := hs1.lt
  go_wp2_with fail
  refine (len_any g [] w1 hs1 (by simp)).mono ?_
  rintro e w0 ⟨rfl, rfl⟩
  obtain ⟨base, hbase⟩ : ∃ base, base = w1.heap.size := ⟨_, rfl⟩
  have hb1 : base ≤ w1.heap.size := by omega
  have hgb : g < base := by omega
  have hwb : w.heap.size ≤ base := by have := hk1.size; omega
  have hgw : ¬ g < w.heap.size := by omega
  clear hbase
  go_wp2_with fail
  go_loopw [4, 5] (fun v q wr => ∃ (i : Nat) (acc : List UInt8) (A : Option Addr) (n c : Nat), i ≤ 8 ∧ i ≤ nl ∧ v = .slice A n c ∧ q = .int .i64 i ∧ n ≤ 70 * i ∧ HS wr g acc ∧ Own8 wr base A n c acc ∧ Kept w wr ∧ Glob wr ∧ base ≤ wr.heap.size) (fun _ q _ => 8 - (intOf q).toNat)
  case atStart => exact ⟨0, [], none, 0, 0, Nat.zero_le _, Nat.zero_le _, rfl, rfl, Nat.zero_le _, hs1, Own8.nil _ _, hk1, hG1, hb1⟩
  case round =>
    obtain ⟨i, acc, A, n, c, hi8, hil, rfl, rfl, hn, hsr, hor, hkr, hGr, hbr⟩ := hrel
    by_cases h1 : i < nl
    · by_cases h2 : i < 8
      · obtain ⟨b, o, cs, rfl, hsh, -, hcell⟩ := HE.out i _ (List.getElem?_eq_getElem (by rw [hll.out]; exact h1))
        obtain ⟨v, rfl, P, np, cp, rfl, hlp, hRp, hncp, hcp, hPn⟩ := hsh
        have hc0 := hkr.cell (hcell 0 _ rfl)
        rw [Nat.mul_one, Nat.add_zero] at hc0
        have hcpm := hcp
        unfold maxLen at hcp
        obtain ⟨m, hm⟩ : ∃ m, m = min np 70 := ⟨_, rfl⟩
        have hm1 : m ≤ 70 := by omega
        have hm2 : m ≤ np := by omega
        have hmin : (if (70 : Int) < (np : Int) then (70 : Int) else (np : Int)) = (m : Int) := by split <;> omega
        obtain ⟨ps, hps⟩ : ∃ ps, ps = (l[i]'(by rw [hll.out]; exact h1)).take m := ⟨_, rfl⟩
        have hlm : Hid (ps.length = m) := by show _ = _; rw [hps, List.length_take, hlp.out]; omega
        have hRm : R8 w P ps := by rw [hps]; exact hRp.take2 m
        have HRm := Lib.hid hRm
        have HPn := Lib.hid hPn
        clear hcell hps hm hlp hRp hRm hPn
        have hpl : ps.length ≤ 1000000 := by rw [hlm.out]; omega
        have hal : acc.length ≤ 1000000 := by rw [hor.len]; omega
        have hapl : (acc ++ ps).length ≤ 900000 := by rw [List.length_append, hlm.out, hor.len]; omega
        have hln : Hid (((acc ++ ps).length : Int) = (n : Int) + (m : Int)) := by show _ = _; rw [List.length_append, hlm.out, hor.len]; omega
        have hqq := eq_same (shaOf (acc ++ ps)) (shaOf_length _)
        go_wp2_with fail
        go_quiet (fail)
        have hsx := hsr.drewN nq
        have hox : Own8 (wr.drewN nq) base A n c acc := hor.kept (kept_drewN wr nq)
        have hkx : Kept w (wr.drewN nq) := hkr.drewN nq
        have hGx := hGr.kept (kept_drewN wr nq)
        have hbx : base ≤ (wr.drewN nq).heap.size := hbr
        generalize wr.drewN nq = wx at hsx hox hkx hGx hbx ⊢
        clear hsr hor hkr hGr hbr hc0 hmin
        go_wp2_with fail
        refine (roomy_any P m cp ps 7 7 wx rfl (HRm.out.kept hkx) (by omega) hlm).mono ?_
        rintro e wf ⟨gf, rfl, hgf, hrow, hkf⟩
        have hsf := hsx.kept hkf
        have hof := hox.kept hkf
        have hkwf := hkx.trans hkf
        have hGf := hGx.kept hkf
        have hbf : base ≤ wf.heap.size := by have := hkf.size; omega
        have hAb : ∀ ad, A = some ad → base ≤ ad.block ∧ ad.block < wx.heap.size := fun ad e => hox.at_ ad e
        have HAb := Lib.hid hAb
        have hv : SliceIs wf g (.slice (some ⟨gf, 0, none⟩) m (m + 80)) ps := ⟨_, m, m + 80, rfl, hlm, R8.pad2 hrow, by omega, by unfold maxLen; omega, fun ad h _ => by
          injection h with h
          subst h
          show gf ≠ g
          omega⟩
        clear hsx hox hkx hGx hkf hAb
        go_wp2_with fail
        refine (write_any g acc _ ps wf hGf hsf hv hal hpl).mono ?_
        rintro e wv ⟨rfl, hsv, hkv⟩
        have hov := hof.keep hkv (fun ad e => by have := HAb.out ad e; omega)
        have hkwv : Kept w wv := Kept.trans' hkwf hkv hgw
        have hGv := hGf.same hsf hkv
        have hrowv := hrow.keep hkv (by omega)
        have hbv : base ≤ wv.heap.size := by have := hkv.size; omega
        have HOV := Lib.hid hov
        have HRV := Lib.hid (HRm.out.kept hkwv)
        clear hsf hof hkwf hGf hrow hv hkv hbf hov
        go_wp2_with (at_builtin; refine wpl_append_own8 _ rfl (.tmp 45) (.tmp 46) rfl base n c A acc rfl HOV.out hbv P m cp ps rfl hlm.out HRV.out HPn.out (by omega) ?_)
        intro w4 A4 c4 ho4 hk4
        have hk4w : Kept w w4 := Keep.trans hkwv hk4 (fun i hi ⟨ad, e, h⟩ => by have := HAb.out ad e; omega)
        have hs4 := hsv.keep hk4 (fun ⟨ad, e, h⟩ => by have := HAb.out ad e; omega)
        have hG4 := hGv.keep hk4 (fun ⟨ad, e, h⟩ => by have := HAb.out ad e; omega) (fun ⟨ad, e, h⟩ => by have := HAb.out ad e; have := (hGv.ne hsv).1; have := (hGv.ne hsv).2; omega)
        have hrow4 := hrowv.keep hk4 (fun ⟨ad, e, h⟩ => by have := HAb.out ad e; omega)
        have hb4 : base ≤ w4.heap.size := by have := hk4.size; omega
        clear hk4 hkwv hsv hGv hrowv HOV HRV HAb
        go_wp2_with fail
        refine (intact_any P gf m cp ps 7 7 _ rfl hrow4 (HRm.out.kept hk4w) (by omega) hlm).mono ?_
        rintro e w5 ⟨rfl, k5, rfl⟩
        have hk5w : Kept w (w4.drewN k5) := hk4w.drewN k5
        have hs5 := hs4.drewN k5
        have hG5 := hG4.kept (kept_drewN w4 k5)
        have ho5 := ho4.kept (kept_drewN w4 k5)
        have hb5 : base ≤ (w4.drewN k5).heap.size := hb4
        generalize w4.drewN k5 = w5 at hk5w hs5 hG5 ho5 hb5 ⊢
        clear hk4w hs4 hG4 ho4 hb4 hrow4
        go_wp2_with fail
        refine (len_any g (acc ++ ps) w5 hs5 (by omega)).mono ?_
        rintro e w6 ⟨rfl, rfl⟩
        rw [hln.out]
        by_cases h3 : i % 2 = 0
        · have hq2 : ((i : Int) % 2 == 0) = true := by rw [beq_iff_eq]; omega
          clear h3
          go_wp2_with fail
          refine (hsum_any g (acc ++ ps) w5 hG5 hs5 hapl).mono ?_
          rintro e w7 ⟨rfl, hk7⟩
          have hs7 := hs5.kept hk7
          have hG7 := hG5.kept hk7
          have ho7 := ho5.kept hk7
          have hk7w := hk5w.trans hk7
          have hb7 : base ≤ w7.heap.size := by have := hk7.size; omega
          clear hk7 hs5 hG5 ho5 hk5w hb5
          go_wp2_with fail
          refine (sum_any _ (acc ++ ps) w7 hG7 (fun gg hgg => ho7.is (.inr hgg)) hapl).mono ?_
          rintro e w8 ⟨rfl, hk8⟩
          have hs8 := hs7.kept hk8
          have hG8 := hG7.kept hk8
          have ho8 := ho7.kept hk8
          have hk8w := hk7w.trans hk8
          have hb8 : base ≤ w8.heap.size := by have := hk8.size; omega
          clear hk8 hs7 hG7 ho7 hk7w hb7
          go_wp2
          exact ⟨⟨i + 1, acc ++ ps, A4, n + m, c4, by omega, by omega, rfl, by go_num, by omega, hs8, ho8, hk8w, hG8, hb8⟩, by simp [intOf]; omega⟩
        · have hq2 : ((i : Int) % 2 == 0) = false := by rw [beq_eq_false_iff_ne]; omega
          clear h3
          go_wp2
          exact ⟨⟨i + 1, acc ++ ps, A4, n + m, c4, by omega, by omega, rfl, by go_num, by omega, hs5, ho5, hk5w, hG5, hb5⟩, by simp [intOf]; omega⟩
      · have hd8 : decide ((i : Int) < 8) = false := by simp; omega
        have hq := eq_same (shaOf acc) (shaOf_length _)
        have hal : acc.length ≤ 900000 := by rw [hor.len]; omega
        have hlh : Hid (acc.length = n) := hor.len
        have hn2 : n ≤ 100000 := by omega
        go_wp2_with fail
        refine (hsum_any g acc wr hGr hsr hal).mono ?_
        rintro e wa ⟨rfl, hka⟩
        replace hkr := hkr.trans hka
        replace hsr := hsr.kept hka
        replace hGr := hGr.kept hka
        replace hor := hor.kept hka
        clear hka hbr
        go_wp2_with fail
        refine (refSha_any A n c acc wa hor.r8 hor.cap.2.2 hlh hn2).mono ?_
        rintro e wb ⟨rfl, hkb⟩
        replace hkr := hkr.trans hkb
        replace hsr := hsr.kept hkb
        replace hGr := hGr.kept hkb
        replace hor := hor.kept hkb
        clear hkb
        go_wp2_with fail
        refine (hsum_any g acc wb hGr hsr hal).mono ?_
        rintro e wc ⟨rfl, hkc⟩
        replace hkr := hkr.trans hkc
        replace hGr := hGr.kept hkc
        replace hor := hor.kept hkc
        clear hkc hsr
        go_wp2_with fail
        refine (sum_any _ acc wc hGr (fun gg hgg => hor.is (.inr hgg)) hal).mono ?_
        rintro e wd ⟨rfl, hkd⟩
        replace hkr := hkr.trans hkd
        replace hGr := hGr.kept hkd
        clear hkd hor
        go_wp2_with fail
        refine (shaRuns_any wd hGr).mono ?_
        rintro e we ⟨rfl, hke⟩
        have hkz := hkr.trans hke
        go_wp2
        go_ret
        exact ⟨rfl, hkz⟩
    · have hdl : decide ((i : Int) < (nl : Int)) = false := by simp; omega
      have hq := eq_same (shaOf acc) (shaOf_length _)
      have hal : acc.length ≤ 900000 := by rw [hor.len]; omega
      have hlh : Hid (acc.length = n) := hor.len
      have hn2 : n ≤ 100000 := by omega
      go_wp2_with fail
      refine (hsum_any g acc wr hGr hsr hal).mono ?_
      rintro e wa ⟨rfl, hka⟩
      replace hkr := hkr.trans hka
      replace hsr := hsr.kept hka
      replace hGr := hGr.kept hka
      replace hor := hor.kept hka
      clear hka hbr
      go_wp2_with fail
      refine (refSha_any A n c acc wa hor.r8 hor.cap.2.2 hlh hn2).mono ?_
      rintro e wb ⟨rfl, hkb⟩
      replace hkr := hkr.trans hkb
      replace hsr := hsr.kept hkb
      replace hGr := hGr.kept hkb
      replace hor := hor.kept hkb
      clear hkb
      go_wp2_with fail
      refine (hsum_any g acc wb hGr hsr hal).mono ?_
      rintro e wc ⟨rfl, hkc⟩
      replace hkr := hkr.trans hkc
      replace hGr := hGr.kept hkc
      replace hor := hor.kept hkc
      clear hkc hsr
      go_wp2_with fail
      refine (sum_any _ acc wc hGr (fun gg hgg => hor.is (.inr hgg)) hal).mono ?_
      rintro e wd ⟨rfl, hkd⟩
      replace hkr := hkr.trans hkd
      replace hGr := hGr.kept hkd
      clear hkd hor
      go_wp2_with fail
      refine (shaRuns_any wd hGr).mono ?_
      rintro e we ⟨rfl, hke⟩
      have hkz := hkr.trans hke
      go_wp2
      go_ret
      exact ⟨rfl, hkz⟩
end Go.Proofs.YtgkepkakddbomaaDoor
