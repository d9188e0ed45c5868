/-
  The document's own SHA-256, package jobberref1: its words, its message. Conditions: lengths far below 2^47.
-/
import Derived.Test.YtholpkaicmckfaaDoorRefM
import Derived.Test.YtholpkaicmckfaaDoorTail
namespace Go.Proofs.YtholpkaicmckfaaDoor
open Go.RowKit
set_option linter.unusedVariables false

theorem k64_size : Hid ((Tryd.prog.info? 57).map (·.size) = some (cells32 K64).length) := by show _ = _; kernel_rfl
theorem k64_z : Hid (z64.length = (cells32 K64).length) := by show _ = _; kernel_rfl

set_option maxRecDepth 100000 in
theorem words_any (w : World) : Calls Tryd.prog 34 #[] w fun e w' => e = .returned (.agg (cells32 K64).toArray) ∧ Kept w w' := by
  go_enter Tryd.func34, Tryd.ntmps34
  go_wp2_with ((with_reducible show wpList _ _ _ _ _ _); (first
    | ((with_reducible refine wpl_alloc (o := ⟨some 0, _, _, _, _, _⟩) _ rfl 57 rfl z64 a64_zero ?_); intro w1 hb1 hs1 hk1; clear hs1)
    | ((with_reducible refine wpl_value (o := ⟨some 1, _, _, _, _, _⟩) _ w1 (.agg (cells32 K64).toArray) rfl ?hb ?_); (case hb => kernel_rfl))
    | ((with_reducible refine wpl_store_row (o := ⟨none, _, _, _, _, _⟩) _ rfl 57 (.tmp 0) (.tmp 1) rfl w.heap.size (cells32 K64) ?hp ?hv 57 z64 hb1 k64_size.out k64_z.out (cells32_one _) ?_); (case hp => rfl); (case hv => rfl); intro w2 hb2 hk2 hs2; clear hs2)))
  refine bodyPost_ret (results_cell_row (p := 0) (ty := 57) rfl _ _ w.heap.size 57 (cells32 K64).toArray (0, 0) _ rfl hb2 Tryd.underlying57 rfl (by kernel_rfl)) rfl ?_
  exact ⟨rfl, Kept.trans' hk1 hk2 (by omega)⟩

def z8 : List Value := List.replicate 8 (.int .u32 0)
theorem a8_zero : (Tryd.prog.info? 51).map (·.zero) = some (some (.agg z8.toArray)) := by kernel_rfl
theorem l8_size (t : St) : Hid ((Tryd.prog.info? 51).map (·.size) = some (cells32 t.list).length) := by show _ = _; kernel_rfl
theorem l8_z (t : St) : Hid (z8.length = (cells32 t.list).length) := by show _ = _; rfl
/-- the message on its way -/
def padz (xs : List UInt8) (L : Nat) : List UInt8 := xs ++ 128 :: List.replicate (L - xs.length - 1) 0
theorem padz_length (xs : List UInt8) (L : Nat) (h : xs.length + 1 ≤ L) : (padz xs L).length = L := by simp [padz]; omega
theorem padz_next (xs : List UInt8) (L : Nat) (h : xs.length + 1 ≤ L) : padz xs L ++ [0] = padz xs (L + 1) := by
  unfold padz
  rw [show L + 1 - xs.length - 1 = (L - xs.length - 1) + 1 by omega, List.replicate_succ']
  simp
theorem padz_full (xs : List UInt8) (n : Nat) (hn : xs.length = n) : padz xs (n + 1 + (119 - n % 64) % 64) ++ be (8 * n) 8 = xs ++ tailOf n := by
  unfold padz tailOf
  rw [show n + 1 + (119 - n % 64) % 64 - xs.length - 1 = (119 - n % 64) % 64 by omega]
  simp

set_option maxRecDepth 100000 in
set_option maxHeartbeats 16000000 in
theorem refSha_any (A : Option Addr) (n c : Nat) (xs : List UInt8) (w : World) (hx : R8 w A xs) (hA : A = none → c = 0) (hl : Hid (xs.length = n)) (hn : n ≤ 100000) :
    Calls Tryd.prog 26 #[.slice A n c] w fun e w' => e = .returned (.agg (cells8 (shaOf xs)).toArray) ∧ Kept w w' := by
  obtain ⟨z, hz⟩ : ∃ z, z = (119 - n % 64) % 64 := ⟨_, rfl⟩
  have hz1 : z < 64 := by omega
  have HZ := Lib.hid hz
  have HPF := Lib.hid (padz_full xs n hl.out)
  clear hz
  go_enter Tryd.func26, Tryd.ntmps26
  go_upto_region 1 with ((with_reducible show wpList _ _ _ _ _ _); ((with_reducible refine wpl_alloc (o := ⟨some 2, _, _, _, _, _⟩) _ rfl 30 rfl z32 sum_zero ?_); intro w1 hb1 hs1 hk1; clear hs1))
  have hx1 := hx.kept hk1
  have hlt1 := hb1.lt
  have R0 := Lib.hid (row8_new w1 [] (by simp))
  have k0 : Kept w1 (w1.alloc (.cells (cells8 []).toArray 5)) := (Keep.refl _ w1).alloc _
  go_wp2_with (at_builtin; refine wpl_append8 _ rfl (.tmp 19) (.tmp 20) rfl w1.heap.size w1.heap.size 0 0 [] rfl rfl R0.out (Nat.le_refl _) A n c xs rfl hl.out (hx1.kept k0) hA (by omega) ?_)
  intro w2 g2 c2 hrow2 hg2 hk2
  have hkw2 : Kept w1 w2 := Kept.trans' k0 hk2 (by omega)
  have R1 := Lib.hid (hrow2.kept ((Keep.refl _ w2).alloc (.cells #[.int .u8 128] 5)))
  have S1 := Lib.hid (r8_newc w2 #[.int .u8 128] [128] 5 rfl)
  have k2 : Kept w1 (w2.alloc (.cells #[.int .u8 128] 5)) := Keep.alloc hkw2 _
  clear hrow2 hk2 k0 R0 hkw2
  go_wp2_with (at_builtin; refine wpl_append8 _ rfl (.tmp 21) (.tmp 22) rfl w1.heap.size g2 c2 n xs rfl hl.out R1.out hg2 (some ⟨w2.heap.size, 0, none⟩) 1 1 [128] rfl rfl S1.out (by simp) (by omega) ?_)
  intro w3 g3 c3 hrow3 hg3 hk3
  have hkw3 : Kept w1 w3 := Kept.trans' k2 hk3 (by omega)
  clear hk3 k2 R1 S1
  have hrow3' : Row8 w3 g3 c3 (padz xs (n + 1)) := by
    have e : padz xs (n + 1) = xs ++ [128] := by unfold padz; rw [hl.out]; simp
    rw [e]
    exact hrow3
  clear hrow3
  go_wp2_with fail
  go_loopw [3] (fun v wr => ∃ L g c, n + 1 ≤ L ∧ L ≤ n + 1 + z ∧ v = .slice (some ⟨g, 0, none⟩) L c ∧ w1.heap.size ≤ g ∧ Kept w1 wr ∧ Row8 wr g c (padz xs L)) (fun v _ => (n + 1 + z) - lenOf v)
  case atStart => exact ⟨n + 1, g3, c3, Nat.le_refl _, by omega, rfl, hg3, hkw3, hrow3'⟩
  case round =>
    obtain ⟨L, gL, cL, hL1, hL2, rfl, hgL, hkL, hrow⟩ := hrel
    by_cases hlt : L < n + 1 + z
    · have hq : ((L : Int) % 64 != 56) = true := by have := HZ.out; rw [bne_iff_ne]; omega
      have R1 := Lib.hid (hrow.kept ((Keep.refl _ wr).alloc (.cells #[.int .u8 0] 5)))
      have S1 := Lib.hid (r8_newc wr #[.int .u8 0] [0] 5 rfl)
      have k2 : Kept w1 (wr.alloc (.cells #[.int .u8 0] 5)) := Keep.alloc hkL _
      have HPl : Hid ((padz xs L).length = L) := padz_length xs L (by rw [hl.out]; exact hL1)
      have HPn := Lib.hid (padz_next xs L (by rw [hl.out]; exact hL1))
      clear hrow hkL
      go_wp2_with (at_builtin; refine wpl_append8 _ rfl (.tmp 28) (.tmp 29) rfl w1.heap.size gL cL L (padz xs L) rfl HPl.out R1.out hgL (some ⟨wr.heap.size, 0, none⟩) 1 1 [0] rfl rfl S1.out (by simp) (by omega) ?_)
      intro w4 g4 c4 hrow4 hg4 hk4
      rw [HPn.out] at hrow4
      have hkw4 : Kept w1 w4 := Kept.trans' k2 hk4 (by omega)
      clear hk4 k2 R1 S1
      go_wp2
      exact ⟨⟨L + 1, g4, c4, by omega, by omega, rfl, hg4, hkw4, hrow4⟩, by simp [lenOf]; omega⟩
    · obtain rfl : L = n + 1 + z := by omega
      obtain ⟨L, hL⟩ : ∃ L, L = n + 1 + z := ⟨_, rfl⟩
      rw [← hL] at hrow ⊢
      have hq : ((L : Int) % 64 != 56) = false := by have := HZ.out; rw [bne_eq_false_iff_eq]; omega
      have HPl : Hid ((padz xs L).length = L) := padz_length xs L (by rw [hl.out]; omega)
      have HLL := Lib.hid hL
      have hLb : L ≤ 200000 := by omega
      clear hL hlt
      have e8 : (8 * (n : Int)).toNat = 8 * n := by omega
      have HE8 := Lib.hid e8
      clear e8
      go_wp2_with fail
      refine (fu64_any _ L cL (padz xs L) _ wr hrow.r8 (by simp) (by omega) HPl (by omega) (by omega)).mono ?_
      rintro e w5 ⟨gm, cm, rfl, hgm, hrow5, hk5⟩
      obtain ⟨M, hM⟩ : ∃ M, M = xs ++ tailOf n := ⟨_, rfl⟩
      have hpf := HPF.out
      rw [← HZ.out, ← HLL.out, ← hM] at hpf
      rw [HE8.out, hpf] at hrow5
      have hMl : M.length = L + 8 := by rw [← hpf, List.length_append, HPl.out, be_length]
      have hkw5 : Kept w w5 := (hk1.trans hkL).trans hk5
      have hbr5 := (hb1.kept hkL).kept hk5
      have hlm := hrow5.lt
      have hzL := hkL.size
      have hgm1 : w.heap.size < gm := by omega
      obtain ⟨LM, hLM⟩ : ∃ LM, LM = L + 8 := ⟨_, rfl⟩
      rw [← hLM] at hMl ⊢
      have hLM1 : LM ≤ 300000 := by omega
      have HMl := Lib.hid hMl
      have HM := Lib.hid hM
      have hq64 : Hid (LM = 64 * (LM / 64)) := by
        show _ = _
        have h1 := HZ.out
        have h2 := HLL.out
        omega
      have HSha : Hid (∀ t, t = blocks M (LM / 64) → shaOf xs = t.bytes) := by
        intro t ht
        unfold shaOf
        rw [hl.out, ← hM, hMl, ht]
      clear hpf hM hMl hLM hkL hk5 hrow HE8 HPF HPl HLL HZ hb1 hk1 hx1 hkw3 hrow3' hq hLb
      go_wp2_with ((with_reducible show wpList _ _ _ _ _ _); (first
        | ((with_reducible refine wpl_value (o := ⟨some 37, _, _, _, _, _⟩) _ w5 (.agg (cells32 H0.list).toArray) rfl ?hb ?_); (case hb => kernel_rfl))
        | ((with_reducible refine wpl_alloc (o := ⟨some 4, _, _, _, _, _⟩) _ rfl 51 rfl z8 a8_zero ?_); intro w6 hb6 hs6 hk6; clear hs6)
        | ((with_reducible refine wpl_store_row (o := ⟨none, _, _, _, _, _⟩) _ rfl 51 (.tmp 4) (.tmp 37) rfl w5.heap.size (cells32 H0.list) ?hp ?hv 51 z8 hb6 (l8_size H0).out (l8_z H0).out (cells32_one _) ?_); (case hp => rfl); (case hv => rfl); intro w7 hb7 hk7 hs7; clear hs7)))
      have hkw7 : Kept w5 w7 := Kept.trans' hk6 hk7 (by omega)
      have hlt7 := hb7.lt
      refine (words_any w7).mono ?_
      rintro e w8 ⟨rfl, hk8⟩
      go_wp2_with ((with_reducible show wpList _ _ _ _ _ _); (first
        | ((with_reducible refine wpl_alloc (o := ⟨some 5, _, _, _, _, _⟩) _ rfl 57 rfl z64 a64_zero ?_); intro w9 hb9 hs9 hk9; clear hs9)
        | ((with_reducible refine wpl_store_row (o := ⟨none, _, _, _, _, _⟩) _ rfl 57 (.tmp 5) (.tmp 38) rfl w8.heap.size (cells32 K64) ?hp2 ?hv2 57 z64 hb9 k64_size.out k64_z.out (cells32_one _) ?_); (case hp2 => rfl); (case hv2 => rfl); intro w10 hb10 hk10 hs10; clear hs10)))
      have hkw8 := hkw7.trans hk8
      have hkw10 : Kept w5 w10 := Kept.trans' (hkw8.trans hk9) hk10 (by have := hkw8.size; omega)
      have hk78 : Kept w7 w10 := Kept.trans' (hk8.trans hk9) hk10 (by have := hk8.size; omega)
      have hz8 := hk8.size
      obtain ⟨gh, hgh⟩ : ∃ gh, gh = w5.heap.size := ⟨_, rfl⟩
      obtain ⟨gk, hgk⟩ : ∃ gk, gk = w8.heap.size := ⟨_, rfl⟩
      have hlie : Lie w gm gh gk := ⟨hgm1, by omega, by omega⟩
      have hlc := hlie.c
      have hB0 : Base w w10 gm cm gh gk M (blocks M 0).list := ⟨hkw5.trans hkw10, hbr5.kept hkw10, hrow5.kept hkw10, by rw [hgh]; exact hb7.kept hk78, by rw [hgk]; exact hb10⟩
      rw [← hgh, ← hgk]
      clear hgh hgk hkw8 hkw10 hk78 hz8 hb6 hb7 hb9 hb10 hk6 hk7 hk8 hk9 hk10 hkw7 hlt7 hrow5 hkw5 hbr5 hlm
      go_loopw [6] (fun v wr => ∃ k P : Nat, v = .int .i64 P ∧ Hid (P = 64 * k) ∧ P ≤ LM ∧ Base w wr gm cm gh gk M (blocks M k).list) (fun v _ => LM - (intOf v).toNat)
      case atStart => exact ⟨0, 0, rfl, rfl, Nat.zero_le _, hB0⟩
      case round =>
        obtain ⟨k, P, rfl, HP, hPl, hB⟩ := hrel
        by_cases hlt : P < LM
        · have hk1 : 64 * (k + 1) ≤ M.length := by have h1 := HP.out; have h2 := HMl.out; have h3 := hq64.out; omega
          have hP64 : P + 64 ≤ LM := by have h1 := HP.out; have h3 := hq64.out; omega
          obtain ⟨s, hs⟩ : ∃ s, s = blocks M k := ⟨_, rfl⟩
          rw [← hs] at hB
          obtain ⟨m, hm⟩ : ∃ m, m = wrds ((M.drop (64 * k)).take 64) := ⟨_, rfl⟩
          have hml : Hid (m.length = 16) := by show _ = _; rw [hm, wrds_length, blk_len M k hk1]
          have hmb : Hid (∀ x ∈ m, 0 ≤ x ∧ x < 4294967296) := by rw [hm]; exact wrds_bd _
          have hmw : Hid (∀ i, i < 16 → m[i]? = some (wrd (M.getD (P + 4 * i) 0) (M.getD (P + 4 * i + 1) 0) (M.getD (P + 4 * i + 2) 0) (M.getD (P + 4 * i + 3) 0))) := by
            intro i hi
            rw [hm]
            exact blk_word M k i P HP.out hk1 hi
          have HS := Lib.hid hs
          have HM2 := Lib.hid hm
          have HK1 := Lib.hid hk1
          have hltB := hB.lt
          clear hs hm hk1
          go_wp2_with ((with_reducible show wpList _ _ _ _ _ _); ((with_reducible refine wpl_alloc (o := ⟨some 7, _, _, _, _, _⟩) _ rfl 57 rfl z64 a64_zero ?_); intro wa hba hsa hka; clear hsa))
          have hBa := hB.more hka hlie
          obtain ⟨W, hW⟩ : ∃ W, W = wr.heap.size := ⟨_, rfl⟩
          rw [← hW] at hba hltB ⊢
          have hltW : W < wa.heap.size := hba.lt
          have hba0 : Blk wa W 57 (cells32 (wTo m 0)) := by rw [wTo_zero]; exact hba
          clear hW hba hka hB
          go_loopw [8] (fun v wr => ∃ i : Nat, i ≤ 64 ∧ v = .int .i64 i ∧ Base w wr gm cm gh gk M s.list ∧ Blk wr W 57 (cells32 (wTo m i))) (fun v _ => 64 - (intOf v).toNat)
          case atStart => exact ⟨0, Nat.zero_le _, rfl, hBa, hba0⟩
          case round =>
            obtain ⟨i, hi, rfl, hBq, hbq⟩ := hrel
            by_cases hlt3 : i < 16
            · have hrr := hBq.row.r8
              have hlM := HMl.out
              have cell := fun (j : Nat) (hj : P + 4 * i + j < M.length) => hrr (P + 4 * i + j) (M.getD (P + 4 * i + j) 0) (by rw [List.getD_eq_getElem?_getD, List.getElem?_eq_getElem hj]; rfl)
              obtain ⟨_, e, c0⟩ := cell 0 (by omega)
              injection e with e
              subst e
              obtain ⟨_, e, c1⟩ := cell 1 (by omega)
              injection e with e
              subst e
              obtain ⟨_, e, c2⟩ := cell 2 (by omega)
              injection e with e
              subst e
              obtain ⟨_, e, c3⟩ := cell 3 (by omega)
              injection e with e
              subst e
              rw [add_lit] at c0 c1 c2 c3
              rw [Nat.add_zero] at c0
              have hw := hmw.out i hlt3
              obtain ⟨b0, hb0⟩ : ∃ b, b = M.getD (P + 4 * i) 0 := ⟨_, rfl⟩
              obtain ⟨b1, hb1⟩ : ∃ b, b = M.getD (P + 4 * i + 1) 0 := ⟨_, rfl⟩
              obtain ⟨b2, hb2⟩ : ∃ b, b = M.getD (P + 4 * i + 2) 0 := ⟨_, rfl⟩
              obtain ⟨b3, hb3⟩ : ∃ b, b = M.getD (P + 4 * i + 3) 0 := ⟨_, rfl⟩
              rw [← hb0] at c0 hw
              rw [← hb1] at c1 hw
              rw [← hb2] at c2 hw
              rw [← hb3] at c3 hw
              have q0 := b0.toNat_lt
              have q1 := b1.toNat_lt
              have q2 := b2.toNat_lt
              have q3 := b3.toNat_lt
              have hE := wTo_low m i hml.out hlt3 _ hw
              have h4 := or4 b0.toNat b1.toNat b2.toNat b3.toNat q0 q1 q2 q3
              unfold wrd at hE
              rw [← h4] at hE
              have HE := Lib.hid hE
              clear hE h4
              have cw : wr.cell? ⟨W, i, none⟩ = some (.int .u32 ((wTo m i).getD i 0)) := by rw [hbq.cell, cells32_at _ _ (by rw [wTo_length m i hml.out hi]; omega)]
              have fw : wr.frozen? ⟨W, i, none⟩ = false := hbq.frozen _
              clear hrr cell hb0 hb1 hb2 hb3 hw hlM
              go_wp2_with fail
              refine wp_quiet_tail 43 (by kernel_rfl) (by kernel_rfl) ?_
              simp only [List.take_succ_cons, List.take_zero, List.drop_succ_cons, List.drop_zero]
              repeat (go_big_quiet_step (fail))
              refine wpQuiet_nil ?_
              intro _ hw'
              obtain ⟨nr, hw''⟩ := hw'
              subst hw''
              have R := Base.put (hBq.drewN nr) hlie hltB (hbq.drewN nr) HE.out
              have HR := Lib.hid R
              clear R
              go_wp2
              exact ⟨⟨i + 1, by omega, by go_num, HR.out⟩, by simp [intOf]; omega⟩
            · by_cases hlt4 : i < 64
              · have hll : (schedTo m i).length = 64 := schedTo_length m i hml.out (by omega) hi
                rw [wTo_high m i hml.out (by omega)] at hbq
                obtain ⟨a, ha⟩ : ∃ a, a = (schedTo m i).getD (i - 16) 0 := ⟨_, rfl⟩
                obtain ⟨b, hb⟩ : ∃ a, a = (schedTo m i).getD (i - 7) 0 := ⟨_, rfl⟩
                obtain ⟨c, hc⟩ : ∃ a, a = (schedTo m i).getD (i - 15) 0 := ⟨_, rfl⟩
                obtain ⟨d, hd⟩ : ∃ a, a = (schedTo m i).getD (i - 2) 0 := ⟨_, rfl⟩
                have hE := schedTo_set m i hml.out (by omega) hlt4 a b c d ha hb hc hd
                rw [← wTo_high m (i + 1) hml.out (by omega)] at hE
                have HE := Lib.hid hE
                have ba := schedTo_bd m hmb.out i (i - 16)
                have bb := schedTo_bd m hmb.out i (i - 7)
                have bc := schedTo_bd m hmb.out i (i - 15)
                have bd := schedTo_bd m hmb.out i (i - 2)
                rw [← ha] at ba
                rw [← hb] at bb
                rw [← hc] at bc
                rw [← hd] at bd
                have ca : wr.cell? ⟨W, i - 16, none⟩ = some (.int .u32 a) := by rw [hbq.cell, ha, cells32_at _ _ (by omega)]
                have cb : wr.cell? ⟨W, i - 7, none⟩ = some (.int .u32 b) := by rw [hbq.cell, hb, cells32_at _ _ (by omega)]
                have cc : wr.cell? ⟨W, i - 15, none⟩ = some (.int .u32 c) := by rw [hbq.cell, hc, cells32_at _ _ (by omega)]
                have cd : wr.cell? ⟨W, i - 2, none⟩ = some (.int .u32 d) := by rw [hbq.cell, hd, cells32_at _ _ (by omega)]
                have cn : wr.cell? ⟨W, i, none⟩ = some (.int .u32 ((schedTo m i).getD i 0)) := by rw [hbq.cell, cells32_at _ _ (by omega)]
                have fn : wr.frozen? ⟨W, i, none⟩ = false := hbq.frozen _
                have hi16 : 16 ≤ i := by omega
                clear ha hb hc hd hll hE hlt3
                go_wp2_with fail
                go_quiet (fail)
                have hBx := hBq.drewN nq
                have hbx := hbq.drewN nq
                have ca' : (wr.drewN nq).cell? ⟨W, i - 16, none⟩ = some (.int .u32 a) := ca
                have cb' : (wr.drewN nq).cell? ⟨W, i - 7, none⟩ = some (.int .u32 b) := cb
                have cn' : (wr.drewN nq).cell? ⟨W, i, none⟩ = some (.int .u32 ((schedTo m i).getD i 0)) := cn
                have fn' : (wr.drewN nq).frozen? ⟨W, i, none⟩ = false := fn
                generalize wr.drewN nq = wx at hBx hbx ca' cb' cn' fn' ⊢
                clear hBq hbq ca cb cc cd cn fn
                go_wp2_with fail
                refine wp_quiet_tail 29 (by kernel_rfl) (by kernel_rfl) ?_
                simp only [List.take_succ_cons, List.take_zero, List.drop_succ_cons, List.drop_zero]
                repeat (go_big_quiet_step (exact fturn_q _ _ _ (by omega) (by omega) (by omega) (by omega) (fun k => ⟨_, World.drewN_drewN _ _ _⟩)))
                refine wpQuiet_nil ?_
                intro _ hw'
                obtain ⟨nr, hw''⟩ := hw'
                subst hw''
                have R := Base.put (hBx.drewN nr) hlie hltB (hbx.drewN nr) HE.out
                have HR := Lib.hid R
                clear R
                go_wp2
                exact ⟨⟨i + 1, by omega, by go_num, HR.out⟩, by simp [intOf]; omega⟩
              · obtain rfl : i = 64 := by omega
                rw [wTo_full m hml.out] at hbq
                obtain ⟨S, hS⟩ : ∃ S, S = sched m 48 := ⟨_, rfl⟩
                have HSl : Hid (S.length = 64) := by show _ = _; rw [hS, sched_length, hml.out]
                have hSb := sched_bd m hmb.out 48
                rw [← hS] at hbq hSb
                have HSb := Lib.hid hSb
                have HC : Hid (∀ t, t = rounds S s 64 → s.add t = blocks M (k + 1)) := by
                  intro t ht
                  rw [ht, hS, HM2.out, HS.out]
                  rfl
                have hok : Hid s.ok := by rw [HS.out]; exact blocks_ok _ _
                have Hh := Lib.hid hBq.h
                have hltq := hBq.lt
                have hltW2 := hbq.lt
                clear hS hSb hmw hmb hml HM2 hlt3 hlt4 hBa hba0
                go_upto_region 18 with fail
                go_wp2_with ((with_reducible show wpList _ _ _ _ _ _); (first
                  | ((with_reducible refine wpl_load_row (o := ⟨some 131, _, _, _, _, _⟩) _ rfl 51 (.tmp 4) rfl gh ?hx 51 (cells32 s.list) 8 41 Hh.out Tryd.underlying51 (l8_size s).out ?_); (case hx => rfl))
                  | ((with_reducible refine wpl_alloc (o := ⟨some 11, _, _, _, _, _⟩) _ rfl 51 rfl z8 a8_zero ?_); intro wv hbv hsv hkv; clear hsv)
                  | ((with_reducible refine wpl_store_row (o := ⟨none, _, _, _, _, _⟩) _ rfl 51 (.tmp 11) (.tmp 131) rfl wr.heap.size (cells32 s.list) ?hp ?hv 51 z8 hbv (l8_size s).out (l8_z s).out (cells32_one _) ?_); (case hp => rfl); (case hv => rfl); intro wu hbu hku hsu; clear hsu)))
                obtain ⟨V, hV⟩ : ∃ V, V = wr.heap.size := ⟨_, rfl⟩
                rw [← hV] at hbu hku ⊢
                have hWV : W < V := by omega
                have hBu := (hBq.more hkv hlie).keep hku hlie (fun i e => by subst e; omega)
                have hbWu := (hbq.kept hkv).keep hku (by omega)
                clear hV hBq hbq hbv hkv hku Hh hltq hltW2
                go_loopw [12] (fun v wr => ∃ (i : Nat) (t : St), i ≤ 64 ∧ v = .int .i64 i ∧ Hid (t = rounds S s i) ∧ Hid t.ok ∧ Base w wr gm cm gh gk M s.list ∧ Blk wr W 57 (cells32 S) ∧ Blk wr V 51 (cells32 t.list)) (fun v _ => 64 - (intOf v).toNat)
                case atStart => exact ⟨0, s, Nat.zero_le _, rfl, rfl, hok, hBu, hbWu, hbu⟩
                case round =>
                  obtain ⟨i, t, hi, rfl, HT, Hok, hBq, hbW, hbV⟩ := hrel
                  by_cases hlt5 : i < 64
                  · have c0 : wr.cell? ⟨V, 0, none⟩ = some (.int .u32 t.a) := hbV.cell 0
                    have c1 : wr.cell? ⟨V, 1, none⟩ = some (.int .u32 t.b) := hbV.cell 1
                    have c2 : wr.cell? ⟨V, 2, none⟩ = some (.int .u32 t.c) := hbV.cell 2
                    have c3 : wr.cell? ⟨V, 3, none⟩ = some (.int .u32 t.d) := hbV.cell 3
                    have c4 : wr.cell? ⟨V, 4, none⟩ = some (.int .u32 t.e) := hbV.cell 4
                    have c5 : wr.cell? ⟨V, 5, none⟩ = some (.int .u32 t.f) := hbV.cell 5
                    have c6 : wr.cell? ⟨V, 6, none⟩ = some (.int .u32 t.g) := hbV.cell 6
                    have c7 : wr.cell? ⟨V, 7, none⟩ = some (.int .u32 t.h) := hbV.cell 7
                    obtain ⟨kk, hkk⟩ : ∃ kk, kk = K64.getD i 0 := ⟨_, rfl⟩
                    obtain ⟨x, hx⟩ : ∃ x, x = S.getD i 0 := ⟨_, rfl⟩
                    have ck : wr.cell? ⟨gk, i, none⟩ = some (.int .u32 kk) := by rw [hBq.k.cell, cells32_at _ _ (by exact hlt5), hkk]
                    have cx : wr.cell? ⟨W, i, none⟩ = some (.int .u32 x) := by rw [hbW.cell, cells32_at _ _ (by rw [HSl.out]; exact hlt5), hx]
                    have ba := Hok.out t.a (by simp [St.list])
                    have be := Hok.out t.e (by simp [St.list])
                    have HR := Lib.hid (rounds_step S s t i kk x HT.out hkk hx)
                    have HRok := Lib.hid (rnd_ok t kk x Hok.out)
                    clear hkk hx
                    go_wp2_with fail
                    go_quiet (exact fturn_q _ _ _ (by omega) (by omega) (by omega) (by omega) (fun k => ⟨_, World.drewN_drewN _ _ _⟩))
                    have e1 : ((t.h + bits .xor .u32 (bits .xor .u32 (rotr t.e 6) (rotr t.e 11)) (rotr t.e 25) + bits .xor .u32 (bits .and .u32 t.e t.f) (bits .and .u32 (bits .xor .u32 (if IntKind.u32.signed = true then -1 else IntKind.u32.max) t.e) t.g) + kk) % 4294967296 + x) % 4294967296 = t1of t kk x := by
                      rw [Int.emod_add_emod]
                      rfl
                    rw [e1]
                    have hBx := hBq.drewN nq
                    have hbWx := hbW.drewN nq
                    have hbVx := hbV.drewN nq
                    generalize wr.drewN nq = wx at hBx hbWx hbVx ⊢
                    have d0 : wx.cell? ⟨V, 0, none⟩ = some (.int .u32 t.a) := hbVx.cell 0
                    have d1 : wx.cell? ⟨V, 1, none⟩ = some (.int .u32 t.b) := hbVx.cell 1
                    have d2 : wx.cell? ⟨V, 2, none⟩ = some (.int .u32 t.c) := hbVx.cell 2
                    have d3 : wx.cell? ⟨V, 3, none⟩ = some (.int .u32 t.d) := hbVx.cell 3
                    have d4 : wx.cell? ⟨V, 4, none⟩ = some (.int .u32 t.e) := hbVx.cell 4
                    have d5 : wx.cell? ⟨V, 5, none⟩ = some (.int .u32 t.f) := hbVx.cell 5
                    have d6 : wx.cell? ⟨V, 6, none⟩ = some (.int .u32 t.g) := hbVx.cell 6
                    clear e1 hBq hbW hbV c0 c1 c2 c3 c4 c5 c6 c7 ck cx
                    go_wp2_with fail
                    go_quiet (exact fturn_q _ _ _ (by omega) (by omega) (by omega) (by omega) (fun k => ⟨_, World.drewN_drewN _ _ _⟩))
                    have e2 : (bits .xor .u32 (bits .xor .u32 (rotr t.a 2) (rotr t.a 13)) (rotr t.a 22) + bits .xor .u32 (bits .xor .u32 (bits .and .u32 t.a t.b) (bits .and .u32 t.a t.c)) (bits .and .u32 t.b t.c)) % 4294967296 = t2of t := rfl
                    rw [e2]
                    clear e2
                    have hBy := hBx.drewN nq
                    have hbWy := hbWx.drewN nq
                    have hbVy := hbVx.drewN nq
                    generalize wx.drewN nq = wy at hBy hbWy hbVy ⊢
                    have f0 : wy.cell? ⟨V, 0, none⟩ = some (.int .u32 t.a) := hbVy.cell 0
                    have f1 : wy.cell? ⟨V, 1, none⟩ = some (.int .u32 t.b) := hbVy.cell 1
                    have f2 : wy.cell? ⟨V, 2, none⟩ = some (.int .u32 t.c) := hbVy.cell 2
                    have f3 : wy.cell? ⟨V, 3, none⟩ = some (.int .u32 t.d) := hbVy.cell 3
                    have f4 : wy.cell? ⟨V, 4, none⟩ = some (.int .u32 t.e) := hbVy.cell 4
                    have f5 : wy.cell? ⟨V, 5, none⟩ = some (.int .u32 t.f) := hbVy.cell 5
                    have f6 : wy.cell? ⟨V, 6, none⟩ = some (.int .u32 t.g) := hbVy.cell 6
                    clear hBx hbWx hbVx d0 d1 d2 d3 d4 d5 d6
                    go_wp2_with ((with_reducible show wpList _ _ _ _ _ _); (with_reducible refine wpl_store_row (o := ⟨none, _, _, _, _, _⟩) _ rfl 51 (.tmp 11) (.tmp 219) rfl V (cells32 (t.rnd kk x).list) ?hp4 ?hv4 51 (cells32 t.list) hbVy (l8_size (t.rnd kk x)).out ?hzz (cells32_one _) ?_))
                    case hp4 => rfl
                    case hv4 =>
                      conv => lhs; whnf
                      rfl
                    case hzz => rfl
                    intro wz hbz hkz hsz
                    have hBz := hBy.keep hkz hlie (fun i e => by subst e; omega)
                    have hbWz := hbWy.keep hkz (by omega)
                    clear hsz hkz hBy hbWy hbVy f0 f1 f2 f3 f4 f5 f6
                    go_wp2
                    exact ⟨⟨i + 1, t.rnd kk x, by omega, by go_num, HR, HRok, hBz, hbWz, hbz⟩, by simp [intOf]; omega⟩
                  · obtain rfl : i = 64 := by omega
                    have HCt := Lib.hid (HC.out t HT.out)
                    clear HT HC HSl HSb hBu hbWu hbu hbW
                    go_wp2_with fail
                    go_loopw [220] (fun v wr => ∃ j : Nat, j ≤ 8 ∧ v = .int .i64 j ∧ Base w wr gm cm gh gk M (addTo s t j) ∧ Blk wr V 51 (cells32 t.list)) (fun v _ => 8 - (intOf v).toNat)
                    case atStart => exact ⟨0, Nat.zero_le _, rfl, hBq, hbV⟩
                    case round =>
                      obtain ⟨j, hj, rfl, hBr, hbr⟩ := hrel
                      by_cases hlt6 : j < 8
                      · obtain ⟨z, hz⟩ : ∃ z, z = t.list.getD j 0 := ⟨_, rfl⟩
                        obtain ⟨y, hy⟩ : ∃ y, y = s.list.getD j 0 := ⟨_, rfl⟩
                        have hcy : wr.cell? ⟨gh, j, none⟩ = some (.int .u32 y) := by rw [hBr.h.cell, cells32_at _ _ (by rw [addTo_length s t j hlt6]; exact hlt6), addTo_getD s t j hlt6, hy]
                        have hfy : wr.frozen? ⟨gh, j, none⟩ = false := hBr.h.frozen _
                        have hcz : wr.cell? ⟨V, j, none⟩ = some (.int .u32 z) := by rw [hbr.cell, cells32_at _ _ (by exact hlt6), hz]
                        have hE := addTo_set s t j hlt6
                        rw [← hy, ← hz] at hE
                        have HE := Lib.hid hE
                        clear hz hy hE
                        go_wp2_with fail
                        refine wp_quiet_tail 9 (by kernel_rfl) (by kernel_rfl) ?_
                        simp only [List.take_succ_cons, List.take_zero, List.drop_succ_cons, List.drop_zero]
                        repeat (go_big_quiet_step (fail))
                        refine wpQuiet_nil ?_
                        intro _ hw'
                        obtain ⟨nr, hw''⟩ := hw'
                        subst hw''
                        have R := Base.putH (hBr.drewN nr) hlie HE.out
                        have R2 := (hbr.drewN nr).far (p := ⟨gh, j, none⟩) (by simp; omega) (.int .u32 ((y + z) % 4294967296))
                        have HR := Lib.hid (And.intro R R2)
                        clear R R2
                        go_wp2
                        exact ⟨⟨j + 1, by omega, by go_num, HR.out⟩, by simp [intOf]; omega⟩
                      · obtain rfl : j = 8 := by omega
                        have hBn : Base w wr gm cm gh gk M (blocks M (k + 1)).list := by rw [← HCt.out]; exact hBr
                        have HPn : Hid (P + 64 = 64 * (k + 1)) := by show _ = _; rw [HP.out]; omega
                        clear hBr HCt
                        go_wp2
                        exact ⟨⟨k + 1, P + 64, by go_num, HPn, hP64, hBn⟩, by simp [intOf]; omega⟩
        · obtain rfl : P = LM := by omega
          have hkq : k = P / 64 := by have h1 := HP.out; omega
          have hSh := HSha.out (blocks M k) (by rw [hkq])
          obtain ⟨t, ht⟩ : ∃ t, t = blocks M k := ⟨_, rfl⟩
          rw [← ht] at hB hSh
          have hot : Hid t.ok := by rw [ht]; exact blocks_ok _ _
          have HSh := Lib.hid hSh
          have Hh := Lib.hid hB.h
          have hltB := hB.lt
          have hla := hlie.a
          have hlb := hlie.b
          clear hkq hSh ht hlt HP hq64 HSha HMl HM hB0
          go_upto_region 30 with fail
          go_wp2_with ((with_reducible show wpList _ _ _ _ _ _); (first
            | ((with_reducible refine wpl_alloc (o := ⟨some 16, _, _, _, _, _⟩) _ rfl 30 rfl z32 sum_zero ?_); intro wo hbo hso hko; clear hso; have Hho := Lib.hid (Hh.out.kept hko))
            | ((with_reducible refine wpl_load_row (o := ⟨some 233, _, _, _, _, _⟩) _ rfl 51 (.tmp 4) rfl gh ?hx6 51 (cells32 t.list) 8 41 Hho.out Tryd.underlying51 (l8_size t).out ?_); (case hx6 => rfl))))
          obtain ⟨O, hO⟩ : ∃ O, O = wr.heap.size := ⟨_, rfl⟩
          have hko' : Kept w wo := hB.kept.trans hko
          have hbr := hB.res.kept hko
          rw [← hO] at hbo ⊢
          have hne : w.heap.size < O := by omega
          have hnw : ¬ O < w.heap.size := by omega
          have hbo0 : Blk wo O 30 (cells8 (bytesTo t 0)) := hbo
          clear hO hB hko hbo Hh Hho
          go_loopw [234] (fun v wr => ∃ i : Nat, i ≤ 8 ∧ v = .int .i64 i ∧ Kept w wr ∧ Blk wr w.heap.size 30 z32 ∧ Blk wr O 30 (cells8 (bytesTo t (4 * i)))) (fun v _ => 8 - (intOf v).toNat)
          case atStart => exact ⟨0, Nat.zero_le _, rfl, hko', hbr, hbo0⟩
          case round =>
            obtain ⟨i, hi, rfl, hkr, hbr, hbs⟩ := hrel
            by_cases hlt7 : i < 8
            · have hix := fun u => index_row u 51 41 8 t.list i Tryd.underlying51 (by kernel_rfl) (by kernel_rfl) hlt7 rfl
              obtain ⟨x, hx⟩ : ∃ x, x = t.list.getD i 0 := ⟨_, rfl⟩
              have hxb := getD_bd t.list hot.out i
              rw [← hx] at hix hxb
              have R := out4 t hot.out i hlt7 x hx hkr hbr hbs hnw hne
              have k0 : wr.cell? ⟨O, 4 * i, none⟩ = some (.int .u8 0) := by rw [hbs.cell, bytesTo_cell t _ (by omega)]
              obtain ⟨y1, k1⟩ := out_cell hbs (4 * i + 1) (by omega) (by omega)
              obtain ⟨y2, k2⟩ := out_cell hbs (4 * i + 2) (by omega) (by omega)
              obtain ⟨y3, k3⟩ := out_cell hbs (4 * i + 3) (by omega) (by omega)
              have f0 : wr.frozen? ⟨O, 4 * i, none⟩ = false := hbs.frozen _
              have f1 : wr.frozen? ⟨O, 4 * i + 1, none⟩ = false := hbs.frozen _
              have f2 : wr.frozen? ⟨O, 4 * i + 2, none⟩ = false := hbs.frozen _
              have f3 : wr.frozen? ⟨O, 4 * i + 3, none⟩ = false := hbs.frozen _
              have HR := Lib.hid R
              clear R hx hbs hbr
              go_wp2
              exact ⟨⟨i + 1, by omega, by go_num, HR.out⟩, by simp [intOf]; omega⟩
            · obtain rfl : i = 8 := by omega
              obtain ⟨S, hS⟩ : ∃ S, S = shaOf xs := ⟨_, rfl⟩
              have hfull : bytesTo t (4 * 8) = S := by rw [hS, HSh.out]; simp [bytesTo, List.take_of_length_le, bytes_length]
              rw [hfull] at hbs
              have HL : Hid ((cells8 S).length = 32) := by show _ = _; rw [len8, hS, shaOf_length]
              have hi32 : Hid ((Tryd.prog.info? 30).map (·.size) = some (cells8 S).length) := by show _ = _; rw [HL.out]; exact sum_size
              have hz32 : Hid (z32.length = (cells8 S).length) := by show _ = _; rw [HL.out]; rfl
              have HS' := Lib.hid hS
              clear hfull hS
              go_upto_region 36 with fail
              go_wp2_with ((with_reducible show wpList _ _ _ _ _ _); (first | ((with_reducible refine wpl_load_row (o := ⟨some 265, _, _, _, _, _⟩) _ rfl 30 (.tmp 16) rfl O ?hx7 30 (cells8 S) 32 5 hbs Tryd.underlying30 hi32.out ?_); case hx7 => rfl) | ((with_reducible refine wpl_store_row (o := ⟨none, _, _, _, _, _⟩) _ rfl 30 (.tmp 2) (.tmp 265) rfl w.heap.size (cells8 S) ?hp7 ?hv7 30 z32 hbr hi32.out hz32.out (cells8_one _) ?_); (case hp7 => rfl); (case hv7 => rfl); intro wd hbd hkd hsd)))
              refine bodyPost_ret (results_cell_row (p := 2) (ty := 30) rfl _ _ w.heap.size 30 (cells8 S).toArray (0, 0) _ rfl hbd Tryd.underlying30 rfl (by have := HL.out; simpa [this] using sum_size)) rfl ?_
              rw [HS'.out]
              exact ⟨rfl, Kept.trans' hkr hkd (by omega)⟩
end Go.Proofs.YtholpkaicmckfaaDoor
