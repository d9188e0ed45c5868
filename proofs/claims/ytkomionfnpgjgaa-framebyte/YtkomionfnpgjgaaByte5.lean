/-
  The contract of jobberlaw5.FrameByte: byte by byte is all at once; it answers true and turns no block. No condition.
-/
import Derived.Test.YtkomionfnpgjgaaTells5
namespace Go.Proofs.Ytkomionfnpgjgaa
open Go.RowKit
set_option linter.unusedVariables false

theorem infoU2 : (Try.prog.info? 5).map (fun i => (i.zero, i.size)) = some (some (.int .u8 0), 1) := by kernel_rfl
section
variable {a : Act} {o : Oper} {u : World}
theorem exec_tou8 (x : Operand) (i : Nat) (hop : o.op = .convert 3 5 x) (hx : a.eval x = .int .i64 (i : Int)) (hi : i < 256) : (execOp a.eval o).run Try.prog u = .ok (.value (.int .u8 (i : Int))) u := by
  have hw : IntKind.u8.wrap (i : Int) = (i : Int) := by
    simp only [IntKind.wrap, IntKind.signed, IntKind.bits]
    simp
    omega
  unfold execOp
  simp only [hop, hx]
  simp [convert, run_underlying Try.underlying5, run_underlying Try.underlying3, go_sem, hw]
end
/-- a row that is not nil -/
theorem Own8.row {w : World} {base n c : Nat} {A : Option Addr} {xs : List UInt8} (h : Own8 w base A n c xs) (hn : 1 ≤ xs.length) : ∃ g, A = some ⟨g, 0, none⟩ ∧ base ≤ g ∧ Row8 w g c xs := by
  rcases h with ⟨_, _, _, rfl⟩ | ⟨g, rfl, h1, _, h2⟩
  · simp at hn
  · exact ⟨g, rfl, h1, h2⟩

set_option maxRecDepth 100000 in
set_option maxHeartbeats 3200000 in
theorem frameByte_any (v : Value) (l : List (List UInt8)) (w : World) (hv : RecV w v l) : Calls Try.prog 8 #[v] w fun e w' => e = .returned (.bool true) ∧ Kept w w' := by
  obtain ⟨A, nl, cl, rfl, hll, hA, -, -⟩ := hv
  have HA := Lib.hid hA
  clear hA
  go_enter Try.func8, Try.ntmps8
  go_wp2_with fail
  refine (new_any w).mono ?_
  rintro e w1 ⟨rfl, hD, k1⟩
  obtain ⟨g, hg⟩ : ∃ g, g = w.heap.size := ⟨_, rfl⟩
  rw [← hg] at hD ⊢
  have hgl : Hid (¬ g < w.heap.size) := by show ¬ _; omega
  have HD := Lib.hid hD
  clear hD hg
  go_wp2_with fail
  go_loopw [4] (fun v wr => ∃ i : Nat, v = .int .i64 i ∧ i ≤ 4 ∧ Hid (DF 45 wr g false []) ∧ Kept w wr) (fun v _ => 4 - (intOf v).toNat)
  case atStart => exact ⟨0, rfl, by omega, HD, k1⟩
  case round =>
    obtain ⟨i, rfl, hi, HD, kr⟩ := hrel
    by_cases hlt : i < nl
    · have hdl : decide ((i : Int) < (nl : Int)) = true := by simp; omega
      by_cases h4 : i < 4
      · have hd4 : decide ((i : Int) < 4) = true := by simp; omega
        have hil : i < l.length := by rw [hll.out]; omega
        obtain ⟨b1, o1, u1, rfl, hc1, hu1⟩ := HA.out i l[i] (List.getElem?_eq_getElem hil)
        generalize l[i] = x at hu1
        obtain ⟨P, np, cp, rfl, hlp, hP, hnp, hcp, hPn⟩ := hu1
        have HC : Hid (w.cell? ⟨b1, o1 + i * 1, none⟩ = some (.slice P np cp)) := by show _ = _; rw [Nat.mul_one]; exact hc1
        obtain ⟨m, hmin, hml, hmK⟩ := min_is np 40
        have hmin : Hid ((if (40 : Int) < (np : Int) then (40 : Int) else (np : Int)) = (m : Int)) := hmin
        obtain ⟨ps, hps⟩ : ∃ ps, ps = x.take m := ⟨_, rfl⟩
        have hpl : Hid (ps.length = m) := by show _ = _; rw [hps, List.length_take, hlp.out]; omega
        have hPs : R8 w P ps := by rw [hps]; exact hP.take2 m
        have HPs := Lib.hid hPs
        have HPn := Lib.hid hPn
        clear hps hPs hP hc1 hil hPn
        go_wp2_with fail
        refine wp_sched (fun u => Kept w u) [(0, 0), (1, 0), (3, 0), (4, 0), (5, 0), (6, 0), (7, 0), (8, 0), (9, 0), (10, 0), (11, 0), (12, 0), (13, 0), (2, 1), (14, 1), (15, 0)] (by kernel_rfl) (by kernel_rfl) (Keep.drew kr) ?_
        refine s_val (o := ⟨some 22, _, _, _, _, _⟩) (.int .i64 (i : Int)) rfl (by kernel_rfl) (fun u hu => exec_move (.tmp 4) (.int .i64 (i : Int)) rfl (by kernel_rfl)) ?_
        simp only [Act.put, List.setIfInBounds_toArray, List.set_cons_succ, List.set_cons_zero]
        refine s_val (o := ⟨some 23, _, _, _, _, _⟩) (.int .u8 (i : Int)) rfl (by kernel_rfl) (fun u hu => exec_tou8 (.tmp 22) i rfl (by kernel_rfl) (by omega)) ?_
        simp only [Act.put, List.setIfInBounds_toArray, List.set_cons_succ, List.set_cons_zero]
        refine s_val (o := ⟨some 25, _, _, _, _, _⟩) (.slice (some ⟨b1, o1, none⟩) nl cl) rfl (by kernel_rfl) (fun u hu => exec_move (.tmp 0) (.slice (some ⟨b1, o1, none⟩) nl cl) rfl (by kernel_rfl)) ?_
        simp only [Act.put, List.setIfInBounds_toArray, List.set_cons_succ, List.set_cons_zero]
        refine s_val (o := ⟨some 26, _, _, _, _, _⟩) (.int .i64 (i : Int)) rfl (by kernel_rfl) (fun u hu => exec_move (.tmp 4) (.int .i64 (i : Int)) rfl (by kernel_rfl)) ?_
        simp only [Act.put, List.setIfInBounds_toArray, List.set_cons_succ, List.set_cons_zero]
        refine s_val (o := ⟨some 27, _, _, _, _, _⟩) (.pointer (some ⟨b1, o1 + i * 1, none⟩)) rfl (by kernel_rfl) (fun u hu => exec_index 24 26 1 (.tmp 25) (.tmp 26) (b1) (o1) (nl) (cl) (i) rfl Try.underlying24 sl_size (by kernel_rfl) (by kernel_rfl) (by omega)) ?_
        simp only [Act.put, List.setIfInBounds_toArray, List.set_cons_succ, List.set_cons_zero]
        refine s_val (o := ⟨some 28, _, _, _, _, _⟩) (.slice P np cp) rfl (by kernel_rfl) (fun u hu => exec_load_sl (.tmp 27) ⟨b1, o1 + i * 1, none⟩ (.slice P np cp) rfl (by kernel_rfl) (Kept.cell hu HC.out)) ?_
        simp only [Act.put, List.setIfInBounds_toArray, List.set_cons_succ, List.set_cons_zero]
        refine s_val (o := ⟨some 29, _, _, _, _, _⟩) (.slice (some ⟨b1, o1, none⟩) nl cl) rfl (by kernel_rfl) (fun u hu => exec_move (.tmp 0) (.slice (some ⟨b1, o1, none⟩) nl cl) rfl (by kernel_rfl)) ?_
        simp only [Act.put, List.setIfInBounds_toArray, List.set_cons_succ, List.set_cons_zero]
        refine s_val (o := ⟨some 30, _, _, _, _, _⟩) (.int .i64 (i : Int)) rfl (by kernel_rfl) (fun u hu => exec_move (.tmp 4) (.int .i64 (i : Int)) rfl (by kernel_rfl)) ?_
        simp only [Act.put, List.setIfInBounds_toArray, List.set_cons_succ, List.set_cons_zero]
        refine s_val (o := ⟨some 31, _, _, _, _, _⟩) (.pointer (some ⟨b1, o1 + i * 1, none⟩)) rfl (by kernel_rfl) (fun u hu => exec_index 24 26 1 (.tmp 29) (.tmp 30) (b1) (o1) (nl) (cl) (i) rfl Try.underlying24 sl_size (by kernel_rfl) (by kernel_rfl) (by omega)) ?_
        simp only [Act.put, List.setIfInBounds_toArray, List.set_cons_succ, List.set_cons_zero]
        refine s_val (o := ⟨some 32, _, _, _, _, _⟩) (.slice P np cp) rfl (by kernel_rfl) (fun u hu => exec_load_sl (.tmp 31) ⟨b1, o1 + i * 1, none⟩ (.slice P np cp) rfl (by kernel_rfl) (Kept.cell hu HC.out)) ?_
        simp only [Act.put, List.setIfInBounds_toArray, List.set_cons_succ, List.set_cons_zero]
        refine s_val (o := ⟨some 33, _, _, _, _, _⟩) (.int .i64 ((np : Nat) : Int)) rfl (by kernel_rfl) (fun u hu => exec_len (.tmp 32) _ _ Try.underlying26 (P) (np) (cp) rfl (by kernel_rfl)) ?_
        simp only [Act.put, List.setIfInBounds_toArray, List.set_cons_succ, List.set_cons_zero]
        refine s_val (o := ⟨some 34, _, _, _, _, _⟩) (.int .i64 (m : Int)) rfl (by kernel_rfl) (fun u hu => exec_min (.tmp 33) (.const (.int .i64 40)) _ (np : Int) 40 (m : Int) rfl (by kernel_rfl) (by kernel_rfl) hmin.out) ?_
        simp only [Act.put, List.setIfInBounds_toArray, List.set_cons_succ, List.set_cons_zero]
        refine s_val (o := ⟨some 35, _, _, _, _, _⟩) (.slice P m cp) rfl (by kernel_rfl) (fun u hu => exec_upto 26 5 1 (.tmp 28) (.tmp 34) P np cp m rfl Try.underlying26 info8s (by kernel_rfl) (by kernel_rfl) (by omega)) ?_
        simp only [Act.put, List.setIfInBounds_toArray, List.set_cons_succ, List.set_cons_zero]
        refine s_turn (o := ⟨some 24, _, _, _, _, _⟩) _ _ rfl (by kernel_rfl) (exec_one 26 5 (.tmp 23) (.int .u8 (i : Int)) (.int .u8 0) rfl Try.underlying26 infoU2 rfl (by kernel_rfl)) (Keep.alloc (Keep.drew kr) _) ?_
        have kx : Kept w (wr.drew.alloc (.cells #[.int .u8 (i : Int)] 5)) := Keep.alloc (Keep.drew kr) _
        have kr1 : Kept wr (wr.drew.alloc (.cells #[.int .u8 (i : Int)] 5)) := Keep.alloc (Keep.drew (Keep.refl _ wr)) _
        have R1 : Row8 (wr.drew.alloc (.cells #[.int .u8 (i : Int)] 5)) wr.drew.heap.size 1 [UInt8.ofNat i] := by
          have := row8_new wr.drew [UInt8.ofNat i] (by unfold maxLen; simp)
          rwa [show (cells8 [UInt8.ofNat i]).toArray = #[.int .u8 (i : Int)] by simp [cells8]; omega] at this
        have hsz : w.heap.size ≤ wr.drew.heap.size := kr.size
        have hs1 : wr.heap.size ≤ wr.drew.heap.size := Nat.le_refl _
        generalize wr.drew.alloc (.cells #[.int .u8 (i : Int)] 5) = wy at kx R1 kr1 ⊢
        generalize wr.drew.heap.size = g1 at R1 hsz hs1 ⊢
        simp only [Act.put, List.setIfInBounds_toArray, List.set_cons_succ, List.set_cons_zero]
        refine s_oper (o := ⟨some 36, _, _, _, _, _⟩) rfl (by kernel_rfl) fun K hK => ?_
        refine op_append8 wy (.tmp 24) (.tmp 35) rfl w.heap.size g1 1 1 [UInt8.ofNat i] (by kernel_rfl) rfl R1 hsz P m cp ps (by kernel_rfl) hpl.out (HPs.out.kept kx) HPn.out (by omega) ?_
        intro w2 g2 c2 R2 hg2 k2
        have kw2 : Kept w w2 := Kept.trans' kx k2 (by omega)
        have kr2 : Kept wr w2 := Kept.trans' kr1 k2 (by omega)
        refine hK _ _ kw2 ?_
        simp only [Act.put, List.setIfInBounds_toArray, List.set_cons_succ, List.set_cons_zero]
        refine s_val (o := ⟨some 5, _, _, _, _, _⟩) (.slice (some ⟨g2, 0, none⟩) (1 + m) c2) rfl (by kernel_rfl) (fun u hu => exec_assign (.tmp 36) (.slice (some ⟨g2, 0, none⟩) (1 + m) c2) rfl (by kernel_rfl)) ?_
        simp only [Act.put, List.setIfInBounds_toArray, List.set_cons_succ, List.set_cons_zero]
        refine s_done ?_
        obtain ⟨M, hM⟩ : ∃ M, M = 1 + m := ⟨_, rfl⟩
        obtain ⟨bd, hbd⟩ : ∃ bd, bd = [UInt8.ofNat i] ++ ps := ⟨_, rfl⟩
        have hbl : Hid (bd.length = M) := by show _ = _; rw [hbd, List.length_append, hpl.out, hM]; rfl
        rw [← hbd] at R2
        rw [← hM]
        have hM1 : 1 ≤ M ∧ M ≤ 41 := by omega
        obtain ⟨hM1, hM2⟩ := hM1
        have HR2 := Lib.hid R2
        have HD2 := Lib.hid (HD.out.kept kr2)
        clear hM hbd R2 k2 kx kr1 kr2 R1 HD kr hmin HC HPs HPn
        go_wp2_with fail
        refine (put_any (some ⟨g2, 0, none⟩) M c2 bd w2 HR2.out.r8 hbl (fun h => by cases h) (by omega)).mono ?_
        rintro e w3 ⟨vp, rfl, ⟨Ap, c3, rfl, hp⟩, k3⟩
        have hb1 : 1 ≤ bd.length ∧ bd.length ≤ 256 := by rw [hbl.out]; omega
        obtain ⟨N, hN⟩ : ∃ N, N = (putOf bd).length := ⟨_, rfl⟩
        have hNM : N = M + 2 := by rw [hN, putOf_len hb1.1 hb1.2, hbl.out]
        obtain ⟨g3, rfl, hg3, R3⟩ := hp.row (by rw [← hN, hNM]; omega)
        rw [← hN]
        obtain ⟨Q, hQ⟩ : ∃ Q, Q = putOf bd := ⟨_, rfl⟩
        rw [← hQ] at R3 hN
        have hQl : Hid (Q.length = N) := hN.symm
        have HQ1 : Hid (cut Q = ([bd], [], false)) := by show _ = _; rw [hQ]; exact cut_one hb1.1 hb1.2
        have HQ2 : Hid (∀ k, k < N → cut (Q.take k) = ([], Q.take k, false)) := fun k hk => by rw [hQ]; exact cut_part hb1.1 hb1.2 k (by rw [hbl.out]; omega)
        have HR3 := Lib.hid R3
        have HB3 := Lib.hid (HR2.out.kept k3)
        have HD3 := Lib.hid (HD2.out.kept k3)
        have kw3 := kw2.trans k3
        have hN2 : 3 ≤ N := by omega
        have hN3 : N ≤ 43 := by omega
        have hc3 : N ≤ c3 := by have := R3.le; rw [hQl.out] at this; exact this
        clear hN hNM hQ hb1 R3 hp k3 HR2 HD2 kw2
        go_wp2_with fail
        go_loopw [41] (fun v wr => ∃ k : Nat, v = .int .i64 k ∧ k ≤ N ∧ Hid (DF 45 wr g false (if k < N then Q.take k else [])) ∧ Hid (Row8 wr g2 c2 bd) ∧ Hid (Row8 wr g3 c3 Q) ∧ Kept w wr) (fun v _ => N - (intOf v).toNat)
        case atStart => exact ⟨0, rfl, by omega, by rw [if_pos (by omega)]; exact HD3, HB3, HR3, kw3⟩
        case round =>
          obtain ⟨k, rfl, hk, HD, HB, HR, kr⟩ := hrel
          clear HD3 HB3 HR3 kw3
          by_cases hkN : k < N
          · rw [if_pos hkN] at HD
            obtain ⟨o', hs1, hX1⟩ := slice_lh8 g3 0 N c3 k (k + 1) (k : Int) ((k : Int) + 1) Q rfl (by omega) (by omega) (by omega)
            have e1 : k + 1 - k = 1 := by omega
            rw [e1] at hs1 hX1
            obtain ⟨cc, hcc⟩ : ∃ cc, cc = c3 - k := ⟨_, rfl⟩
            rw [← hcc] at hs1
            have HV : Hid (Bytes wr (.slice (some ⟨g3, o', none⟩) 1 cc) ((Q.drop k).take 1)) := ⟨_, 1, cc, rfl, by show _ = _; rw [List.length_take, List.length_drop, hQl.out]; omega, hX1 wr HR.out.r8, by omega, by obtain ⟨_, _, _, h⟩ := HR.out; omega, fun h => by cases h⟩
            have HT : Hid (Q.take k ++ (Q.drop k).take 1 = Q.take (k + 1)) := (List.take_add (i := k) (j := 1)).symm
            have hl1 : Hid ((Q.take k).length ≤ 400000) := by show _ ≤ _; rw [List.length_take, hQl.out]; omega
            have hl2 : Hid (((Q.drop k).take 1).length ≤ 400000) := by show _ ≤ _; rw [List.length_take]; omega
            clear hcc hX1
            by_cases hlast : k + 1 < N
            · have HC := HQ2.out (k + 1) hlast
              rw [← HT.out] at HC
              have HC := Lib.hid HC
              have hd1 : decide ((k : Int) < (N : Int) - 1) = true := by simp; omega
              have hd2 : ((k : Int) == (N : Int) - 1) = false := by simp; omega
              have hd3 : (((k + 1 : Nat) : Int) != (k : Int) + 1) = false := by simp
              go_wp2_with fail
              refine (feed_is g _ _ _ _ _ _ wr HD.out HV.out hl1.out hl2.out HC.out).mono ?_
              rintro e w5 ⟨vl, rfl, hF⟩
              obtain ⟨Al, ca, hl⟩ := hF.slice
              have hl : vl = .slice Al 0 ca := hl
              subst hl
              have kw5 : Kept w w5 := Kept.trans' kr hF.keep hgl.out
              have HD5 := Lib.hid hF.df
              rw [HT.out] at HD5
              have HB5 := Lib.hid (HB.out.keep hF.keep (row_ne_df HD.out HB.out (by decide)))
              have HR5 := Lib.hid (HR.out.keep hF.keep (row_ne_df HD.out HR.out (by decide)))
              clear hF HD HB HR HV HC kr
              go_wp2_with fail
              refine (left_any g (k + 1) false _ w5 HD5.out (by rw [List.length_take, hQl.out]; omega)).mono ?_
              rintro e w6 ⟨rfl, rfl⟩
              go_wp2
              exact ⟨⟨k + 1, by go_num, by omega, by rw [if_pos hlast]; exact HD5, HB5, HR5, kw5⟩, by simp [intOf]; omega⟩
            · have HC := HQ1.out
              rw [show Q = Q.take k ++ (Q.drop k).take 1 by rw [HT.out, List.take_of_length_le (by rw [hQl.out]; omega)]] at HC
              have HC := Lib.hid HC
              have hd1 : decide ((k : Int) < (N : Int) - 1) = false := by simp; omega
              have hd2 : ((k : Int) == (N : Int) - 1) = true := by simp; omega
              go_wp2_with fail
              refine (feed_is g _ _ _ _ _ _ wr HD.out HV.out hl1.out hl2.out HC.out).mono ?_
              rintro e w5 ⟨vl, rfl, hF⟩
              have kw5 : Kept w w5 := Kept.trans' kr hF.keep hgl.out
              have HL5 := Lib.hid hF.bod
              obtain ⟨Al, ca, hl⟩ := hF.slice
              have hl : vl = .slice Al 1 ca := hl
              subst hl
              have HD5 := Lib.hid hF.df
              have HB5 := Lib.hid (HB.out.keep hF.keep (row_ne_df HD.out HB.out (by decide)))
              have HR5 := Lib.hid (HR.out.keep hF.keep (row_ne_df HD.out HR.out (by decide)))
              clear hF HD HB HR HV HC kr
              go_wp2_with fail
              have hr := recv_one (HB5.out.bytesN hbl.out)
              have ka : Kept w5 (w5.alloc (.cells #[.slice (some ⟨g2, 0, none⟩) M c2] 26)) := Keep.alloc (Keep.refl _ w5) _
              refine (rows_any _ _ [bd] [bd] _ (HL5.out.kept ka).rec hr (by simp) (by simp)).mono ?_
              rintro e w8 ⟨rfl, k8⟩
              rw [decide_eq_true rfl]
              have k58 := ka.trans k8
              have HD8 := Lib.hid (HD5.out.kept k58)
              have HB8 := Lib.hid (HB5.out.kept k58)
              have HR8 := Lib.hid (HR5.out.kept k58)
              have kw8 := kw5.trans k58
              clear hr ka k8 k58 HD5 HB5 HR5 HL5 kw5
              go_wp2_with fail
              refine (left_any g 0 false [] w8 HD8.out rfl).mono ?_
              rintro e w9 ⟨rfl, rfl⟩
              go_wp2
              exact ⟨⟨k + 1, by go_num, by omega, by rw [if_neg hlast]; exact HD8, HB8, HR8, kw8⟩, by simp [intOf]; omega⟩
          · rw [if_neg hkN] at HD
            have hd1 : decide ((k : Int) < (N : Int)) = false := by simp; omega
            go_wp2
            exact ⟨⟨i + 1, by go_num, by omega, HD, kr⟩, by simp [intOf]; omega⟩
      · have hd4 : decide ((i : Int) < 4) = false := by simp; omega
        clear HA
        go_wp2_with fail
        refine (bad_any g false [] wr HD.out).mono ?_
        rintro e w3 ⟨rfl, rfl⟩
        go_wp2_with fail
        refine (frameRuns_any wr).mono ?_
        rintro e w6 ⟨rfl, k6⟩
        have kw6 := kr.trans k6
        clear k6 kr HD
        go_wp2
        go_ret
        exact ⟨rfl, kw6⟩
    · have hdl : decide ((i : Int) < (nl : Int)) = false := by simp; omega
      clear HA
      go_wp2_with fail
      refine (bad_any g false [] wr HD.out).mono ?_
      rintro e w3 ⟨rfl, rfl⟩
      go_wp2_with fail
      refine (frameRuns_any wr).mono ?_
      rintro e w6 ⟨rfl, k6⟩
      have kw6 := kr.trans k6
      clear k6 kr HD
      go_wp2
      go_ret
      exact ⟨rfl, kw6⟩
end Go.Proofs.Ytkomionfnpgjgaa
