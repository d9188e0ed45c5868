/-
  The contract of jobberlaw5.FrameTwins: two deframers don't touch each other; it answers true and turns no block. No condition.
-/
import Derived.Test.YtkomionfnpgjgaaByte5
namespace Go.Proofs.Ytkomionfnpgjgaa
open Go.RowKit
set_option linter.unusedVariables false

section
variable {a : Act} {o : Oper} {u : World}
theorem exec_addi (x y : Operand) (t' : TypeId) (p q r : Int) (hop : o.op = .binOp .add 3 x y t') (hx : a.eval x = .int .i64 p) (hy : a.eval y = .int .i64 q) (hr : p + q = r) (h0 : -9223372036854775808 ≤ r) (h1 : r ≤ 9223372036854775807) : (execOp a.eval o).run Try.prog u = .ok (.value (.int .i64 r)) u := by
  subst hr
  unfold execOp
  simp only [hop, hx, hy]
  have hw : IntKind.i64.wrap (p + q) = p + q := by rw [IntKind.wrap_i64]; omega
  simp [go_sem, hw]
theorem exec_slice_l (x y : Operand) (v : Value) (L : Int) (vr : Value) (hop : o.op = .slice 26 x (some y) none none) (hx : a.eval x = v) (hy : a.eval y = .int .i64 L) (h : ∀ u, (Instr.slice 26 v (some (.int .i64 L)) none none).run Try.prog u = .ok vr u) : (execOp a.eval o).run Try.prog u = .ok (.value vr) u := by
  unfold execOp
  simp only [hop, hx, Option.map_some, Option.map_none, hy]
  have he : Try.prog.underlying 26 = some (.slice (Try.prog.elem 26)) := by rw [elem8]; exact Try.underlying26
  rw [Sem.run_bind, run_sliceAt_slice (h := he), h]
  rfl
end

set_option maxRecDepth 100000 in
set_option maxHeartbeats 3200000 in
theorem frameTwins_any (va vb : Value) (la lb : List (List UInt8)) (w : World) (ha : RecV w va la) (hb : RecV w vb lb) : Calls Try.prog 7 #[va, vb] w fun e w' => e = .returned (.bool true) ∧ Kept w w' := by
  obtain ⟨A, na, ca, rfl, hla, hA, -, -⟩ := ha
  obtain ⟨B, nb, cb, rfl, hlb, hB, -, -⟩ := hb
  have HA := Lib.hid hA
  have HB := Lib.hid hB
  clear hA hB
  go_enter Try.func7, Try.ntmps7
  go_wp2_with fail
  refine (new_any w).mono ?_
  rintro e w1 ⟨rfl, hD, k1⟩
  obtain ⟨gx, hg⟩ : ∃ g, g = w.heap.size := ⟨_, rfl⟩
  rw [← hg] at hD ⊢
  have hgx : Hid (¬ gx < w.heap.size) := by show ¬ _; omega
  have HD := Lib.hid hD
  clear hD hg
  go_wp2_with fail
  refine (new_any w1).mono ?_
  rintro e w2 ⟨rfl, hD2, k2⟩
  have hgy : Hid (¬ w1.heap.size < w.heap.size) := by show ¬ _; have := k1.size; omega
  have hxy : Hid (gx ≠ w1.heap.size) := by show _ ≠ _; have := HD.out.lt; omega
  generalize w1.heap.size = gy at hgy hxy hD2 ⊢
  have HDX := Lib.hid (HD.out.kept k2)
  have HDY := Lib.hid hD2
  have kw2 := k1.trans k2
  clear hD2 HD k1 k2
  go_wp2_with fail
  go_loopw [7, 8, 9] (fun v7 v8 v9 wr => ∃ (i cnt : Nat) (bad : Bool) (left : List UInt8), v9 = .int .i64 i ∧ v7 = .int .i64 cnt ∧ v8 = .int .i64 cnt ∧ i ≤ 8 ∧ cnt ≤ i ∧ Hid (left.length ≤ 50 * i) ∧ Hid (DF 45 wr gx false []) ∧ Hid (DF 45 wr gy bad left) ∧ Kept w wr) (fun _ _ v _ => 8 - (intOf v).toNat)
  case atStart => exact ⟨0, 0, false, [], rfl, rfl, rfl, by omega, by omega, by show _ ≤ _; simp, HDX, HDY, kw2⟩
  case round =>
    obtain ⟨i, cnt, bad, left, rfl, rfl, rfl, hi, hcnt, hlen, HDX, HDY, kr⟩ := hrel
    by_cases h8 : i < 8
    · have hd8 : decide ((i : Int) < 8) = true := by simp; omega
      by_cases hlta : i < na
      · have hda : decide ((i : Int) < (na : Int)) = true := by simp; omega
        have hila : i < la.length := by rw [hla.out]; omega
        obtain ⟨b1a, o1a, u1a, rfl, hc1a, hu1a⟩ := HA.out i la[i] (List.getElem?_eq_getElem hila)
        generalize la[i] = xa at hu1a
        obtain ⟨Pa, npa, cpa, rfl, hlpa, hPa, hnpa, hcpa, hPna⟩ := hu1a
        have HCa : Hid (w.cell? ⟨b1a, o1a + i * 1, none⟩ = some (.slice Pa npa cpa)) := by show _ = _; rw [Nat.mul_one]; exact hc1a
        obtain ⟨ma, hmina, hmla, hmKa⟩ := min_is npa 50
        have hmina : Hid ((if (50 : Int) < (npa : Int) then (50 : Int) else (npa : Int)) = (ma : Int)) := hmina
        obtain ⟨psa, hpsa⟩ : ∃ ps, ps = xa.take ma := ⟨_, rfl⟩
        have hpla : Hid (psa.length = ma) := by show _ = _; rw [hpsa, List.length_take, hlpa.out]; omega
        have hPsa : R8 w Pa psa := by rw [hpsa]; exact hPa.take2 ma
        have HPsa := Lib.hid hPsa
        have HPna := Lib.hid hPna
        clear hpsa hPsa hPa hc1a hila hPna
        have hca : wr.cell? ⟨b1a, o1a + i, none⟩ = some (.slice Pa npa cpa) := by
          have := Kept.cell kr HCa.out
          rwa [Nat.mul_one] at this
        by_cases hz : 0 < npa
        · have hdz : decide ((0 : Int) < (npa : Int)) = true := by simp; omega
          have hma : Hid (1 ≤ ma) := by
            show _ ≤ _
            have := hmina.out
            by_cases h50 : 50 < npa
            · rw [if_pos (by omega)] at this; omega
            · rw [if_neg (by omega)] at this; omega
          have hma := hma.out
          go_wp2_with fail
          refine wp_sched (fun u => Kept w u) [(0, 0), (1, 0), (2, 0), (3, 0), (4, 0), (5, 0), (6, 0), (7, 0), (8, 0), (9, 0), (10, 0), (11, 1), (12, 0)] (by kernel_rfl) (by kernel_rfl) (Keep.drew kr) ?_
          refine s_val (o := ⟨some 36, _, _, _, _, _⟩) (.slice (some ⟨b1a, o1a, none⟩) na ca) rfl (by kernel_rfl) (fun u hu => exec_move (.tmp 0) (.slice (some ⟨b1a, o1a, none⟩) na ca) rfl (by kernel_rfl)) ?_
          simp only [Act.put, List.setIfInBounds_toArray, List.set_cons_succ, List.set_cons_zero]
          refine s_val (o := ⟨some 37, _, _, _, _, _⟩) (.int .i64 (i : Int)) rfl (by kernel_rfl) (fun u hu => exec_move (.tmp 9) (.int .i64 (i : Int)) rfl (by kernel_rfl)) ?_
          simp only [Act.put, List.setIfInBounds_toArray, List.set_cons_succ, List.set_cons_zero]
          refine s_val (o := ⟨some 38, _, _, _, _, _⟩) (.pointer (some ⟨b1a, o1a + i * 1, none⟩)) rfl (by kernel_rfl) (fun u hu => exec_index 24 26 1 (.tmp 36) (.tmp 37) (b1a) (o1a) (na) (ca) (i) rfl Try.underlying24 sl_size (by kernel_rfl) (by kernel_rfl) (by omega)) ?_
          simp only [Act.put, List.setIfInBounds_toArray, List.set_cons_succ, List.set_cons_zero]
          refine s_val (o := ⟨some 39, _, _, _, _, _⟩) (.slice Pa npa cpa) rfl (by kernel_rfl) (fun u hu => exec_load_sl (.tmp 38) ⟨b1a, o1a + i * 1, none⟩ (.slice Pa npa cpa) rfl (by kernel_rfl) (Kept.cell hu HCa.out)) ?_
          simp only [Act.put, List.setIfInBounds_toArray, List.set_cons_succ, List.set_cons_zero]
          refine s_val (o := ⟨some 40, _, _, _, _, _⟩) (.slice (some ⟨b1a, o1a, none⟩) na ca) rfl (by kernel_rfl) (fun u hu => exec_move (.tmp 0) (.slice (some ⟨b1a, o1a, none⟩) na ca) rfl (by kernel_rfl)) ?_
          simp only [Act.put, List.setIfInBounds_toArray, List.set_cons_succ, List.set_cons_zero]
          refine s_val (o := ⟨some 41, _, _, _, _, _⟩) (.int .i64 (i : Int)) rfl (by kernel_rfl) (fun u hu => exec_move (.tmp 9) (.int .i64 (i : Int)) rfl (by kernel_rfl)) ?_
          simp only [Act.put, List.setIfInBounds_toArray, List.set_cons_succ, List.set_cons_zero]
          refine s_val (o := ⟨some 42, _, _, _, _, _⟩) (.pointer (some ⟨b1a, o1a + i * 1, none⟩)) rfl (by kernel_rfl) (fun u hu => exec_index 24 26 1 (.tmp 40) (.tmp 41) (b1a) (o1a) (na) (ca) (i) rfl Try.underlying24 sl_size (by kernel_rfl) (by kernel_rfl) (by omega)) ?_
          simp only [Act.put, List.setIfInBounds_toArray, List.set_cons_succ, List.set_cons_zero]
          refine s_val (o := ⟨some 43, _, _, _, _, _⟩) (.slice Pa npa cpa) rfl (by kernel_rfl) (fun u hu => exec_load_sl (.tmp 42) ⟨b1a, o1a + i * 1, none⟩ (.slice Pa npa cpa) rfl (by kernel_rfl) (Kept.cell hu HCa.out)) ?_
          simp only [Act.put, List.setIfInBounds_toArray, List.set_cons_succ, List.set_cons_zero]
          refine s_val (o := ⟨some 44, _, _, _, _, _⟩) (.int .i64 ((npa : Nat) : Int)) rfl (by kernel_rfl) (fun u hu => exec_len (.tmp 43) _ _ Try.underlying26 (Pa) (npa) (cpa) rfl (by kernel_rfl)) ?_
          simp only [Act.put, List.setIfInBounds_toArray, List.set_cons_succ, List.set_cons_zero]
          refine s_val (o := ⟨some 45, _, _, _, _, _⟩) (.int .i64 (ma : Int)) rfl (by kernel_rfl) (fun u hu => exec_min (.tmp 44) (.const (.int .i64 50)) _ (npa : Int) 50 (ma : Int) rfl (by kernel_rfl) (by kernel_rfl) hmina.out) ?_
          simp only [Act.put, List.setIfInBounds_toArray, List.set_cons_succ, List.set_cons_zero]
          refine s_val (o := ⟨some 46, _, _, _, _, _⟩) (.slice Pa ma cpa) rfl (by kernel_rfl) (fun u hu => exec_upto 26 5 1 (.tmp 39) (.tmp 45) Pa npa cpa ma rfl Try.underlying26 info8s (by kernel_rfl) (by kernel_rfl) (by omega)) ?_
          simp only [Act.put, List.setIfInBounds_toArray, List.set_cons_succ, List.set_cons_zero]
          refine s_call (o := ⟨some 47, _, _, _, _, _⟩) 18 #[.slice Pa ma cpa] rfl (by kernel_rfl) (exec_call 18 _ [.tmp 46] _ _ Try.func18 (by kernel_rfl) (by kernel_rfl) rfl (by kernel_rfl)) ?_
          have kd : Kept wr wr.drew := Keep.drew (Keep.refl _ wr)
          refine (put_any Pa ma cpa psa wr.drew (HPsa.out.kept (kr.trans kd)) hpla HPna.out (by omega)).mono ?_
          rintro e w3 ⟨vp, rfl, ⟨Ap, c3, rfl, hp⟩, k3⟩
          have hb1 : 1 ≤ psa.length ∧ psa.length ≤ 256 := by rw [hpla.out]; omega
          obtain ⟨N, hN⟩ : ∃ N, N = (putOf psa).length := ⟨_, rfl⟩
          have hNM : N = ma + 2 := by rw [hN, putOf_len hb1.1 hb1.2, hpla.out]
          obtain ⟨g3, rfl, hg3, R3⟩ := hp.row (by rw [← hN, hNM]; omega)
          rw [← hN]
          have hc3 : N ≤ c3 := by have := R3.le; omega
          have kr3 := kd.trans k3
          have kw3 := kr.trans kr3
          refine ⟨_, rfl, kw3, ?_⟩
          simp only [Act.put, List.setIfInBounds_toArray, List.set_cons_succ, List.set_cons_zero]
          refine s_val (o := ⟨some 10, _, _, _, _, _⟩) (.slice (some ⟨g3, 0, none⟩) N c3) rfl (by kernel_rfl) (fun u hu => exec_assign (.tmp 47) (.slice (some ⟨g3, 0, none⟩) N c3) rfl (by kernel_rfl)) ?_
          simp only [Act.put, List.setIfInBounds_toArray, List.set_cons_succ, List.set_cons_zero]
          refine s_done ?_
          obtain ⟨Q, hQ⟩ : ∃ Q, Q = putOf psa := ⟨_, rfl⟩
          rw [← hQ] at R3 hN
          obtain ⟨kk, hkk⟩ : ∃ kk, kk = N / 2 := ⟨_, rfl⟩
          have hkN : kk < N := by omega
          have HQ1 : Hid (cut (Q.take kk ++ Q.drop kk) = ([psa], [], false)) := by show _ = _; rw [List.take_append_drop, hQ]; exact cut_one hb1.1 hb1.2
          have HQ2 : Hid (cut (Q.take kk) = ([], Q.take kk, false)) := by show _ = _; rw [hQ]; exact cut_part hb1.1 hb1.2 kk (by rw [hpla.out]; omega)
          have HQ3 : Hid (cut (Q.take kk ++ []) = ([], Q.take kk, false)) := by show _ = _; rw [List.append_nil]; exact HQ2.out
          have hQl : Hid (Q.length = N) := hN.symm
          have hkt : Hid ((Q.take kk).length = kk) := by show _ = _; rw [List.length_take, hQl.out]; omega
          have hkd : Hid ((Q.drop kk).length = N - kk) := by show _ = _; rw [List.length_drop, hQl.out]
          have hN52 : N ≤ 52 := by omega
          obtain ⟨o', hs1, hX1⟩ := slice_l8 g3 0 N c3 kk (kk : Int) Q hQl.out rfl (by omega) hc3
          have hk2 : ((N : Int)).tdiv 2 = (kk : Int) := by rw [Int.tdiv_eq_ediv_of_nonneg (by omega)]; omega
          have hk3 : ((N : Int)) / 2 = (kk : Int) := by omega
          have HX3 := Lib.hid HDX
          have HDX3 := Lib.hid (HDX.out.kept kr3)
          have HDY3 := Lib.hid (HDY.out.kept kr3)
          have HR3 := Lib.hid R3
          have hmx : c3 ≤ maxLen := by obtain ⟨_, _, _, h⟩ := R3; exact h
          have HS1 := Lib.hid hs1
          have hcut : cnt < 8 := by omega
          clear hQ hN hNM hkk hb1 R3 hp k3 kd kr3 HDX HDY HX3 kr hmina HCa HPsa HPna hs1
          go_wp2_with fail
          refine wp_sched (fun u => True) [(0, 0), (1, 0), (2, 0), (3, 0), (4, 0), (8, 0), (12, 0), (13, 0), (14, 0), (15, 0), (5, 1), (6, 0), (7, 0), (9, 1), (10, 0), (11, 0), (16, 1), (17, 0), (18, 0), (19, 0)] (by kernel_rfl) (by kernel_rfl) (trivial) ?_
          refine s_val (o := ⟨some 51, _, _, _, _, _⟩) (.int .i64 (cnt : Int)) rfl (by kernel_rfl) (fun u hu => exec_move (.tmp 7) (.int .i64 (cnt : Int)) rfl (by kernel_rfl)) ?_
          simp only [Act.put, List.setIfInBounds_toArray, List.set_cons_succ, List.set_cons_zero]
          refine s_val (o := ⟨some 52, _, _, _, _, _⟩) (.pointer (some ⟨gx, 0, none⟩)) rfl (by kernel_rfl) (fun u hu => exec_move (.tmp 5) (.pointer (some ⟨gx, 0, none⟩)) rfl (by kernel_rfl)) ?_
          simp only [Act.put, List.setIfInBounds_toArray, List.set_cons_succ, List.set_cons_zero]
          refine s_val (o := ⟨some 53, _, _, _, _, _⟩) (.slice (some ⟨g3, 0, none⟩) N c3) rfl (by kernel_rfl) (fun u hu => exec_move (.tmp 10) (.slice (some ⟨g3, 0, none⟩) N c3) rfl (by kernel_rfl)) ?_
          simp only [Act.put, List.setIfInBounds_toArray, List.set_cons_succ, List.set_cons_zero]
          refine s_val (o := ⟨some 54, _, _, _, _, _⟩) (.int .i64 (kk : Int)) rfl (by kernel_rfl) (fun u hu => exec_move (.tmp 11) (.int .i64 (kk : Int)) rfl (by kernel_rfl)) ?_
          simp only [Act.put, List.setIfInBounds_toArray, List.set_cons_succ, List.set_cons_zero]
          refine s_val (o := ⟨some 55, _, _, _, _, _⟩) (.slice (some ⟨g3, 0, none⟩) kk c3) rfl (by kernel_rfl) (fun u hu => exec_upto 26 5 1 (.tmp 53) (.tmp 54) (some ⟨g3, 0, none⟩) N c3 kk rfl Try.underlying26 info8s (by kernel_rfl) (by kernel_rfl) (by omega)) ?_
          simp only [Act.put, List.setIfInBounds_toArray, List.set_cons_succ, List.set_cons_zero]
          refine s_val (o := ⟨some 59, _, _, _, _, _⟩) (.pointer (some ⟨gx, 0, none⟩)) rfl (by kernel_rfl) (fun u hu => exec_move (.tmp 5) (.pointer (some ⟨gx, 0, none⟩)) rfl (by kernel_rfl)) ?_
          simp only [Act.put, List.setIfInBounds_toArray, List.set_cons_succ, List.set_cons_zero]
          refine s_val (o := ⟨some 63, _, _, _, _, _⟩) (.pointer (some ⟨gx, 0, none⟩)) rfl (by kernel_rfl) (fun u hu => exec_move (.tmp 5) (.pointer (some ⟨gx, 0, none⟩)) rfl (by kernel_rfl)) ?_
          simp only [Act.put, List.setIfInBounds_toArray, List.set_cons_succ, List.set_cons_zero]
          refine s_val (o := ⟨some 64, _, _, _, _, _⟩) (.slice (some ⟨g3, 0, none⟩) N c3) rfl (by kernel_rfl) (fun u hu => exec_move (.tmp 10) (.slice (some ⟨g3, 0, none⟩) N c3) rfl (by kernel_rfl)) ?_
          simp only [Act.put, List.setIfInBounds_toArray, List.set_cons_succ, List.set_cons_zero]
          refine s_val (o := ⟨some 65, _, _, _, _, _⟩) (.int .i64 (kk : Int)) rfl (by kernel_rfl) (fun u hu => exec_move (.tmp 11) (.int .i64 (kk : Int)) rfl (by kernel_rfl)) ?_
          simp only [Act.put, List.setIfInBounds_toArray, List.set_cons_succ, List.set_cons_zero]
          refine s_val (o := ⟨some 66, _, _, _, _, _⟩) (.slice (some ⟨g3, o', none⟩) (N - kk) (c3 - kk)) rfl (by kernel_rfl) (fun u hu => exec_slice_l (.tmp 64) (.tmp 65) _ (kk : Int) _ rfl (by kernel_rfl) (by kernel_rfl) HS1.out) ?_
          simp only [Act.put, List.setIfInBounds_toArray, List.set_cons_succ, List.set_cons_zero]
          refine s_call (o := ⟨some 56, _, _, _, _, _⟩) 10 #[.pointer (some ⟨gx, 0, none⟩), .slice (some ⟨g3, 0, none⟩) kk c3] rfl (by kernel_rfl) (exec_call 10 _ [.tmp 52, .tmp 55] _ _ Try.func10 (by kernel_rfl) (by kernel_rfl) rfl (by kernel_rfl)) ?_
          have kd : Kept w3 w3.drew := Keep.drew (Keep.refl _ w3)
          have hR := HR3.out.kept kd
          have HVx : Hid (Bytes w3.drew (.slice (some ⟨g3, 0, none⟩) kk c3) (Q.take kk)) := ⟨_, kk, c3, rfl, hkt, hR.r8.take2 kk, by omega, hmx, fun h => by cases h⟩
          refine (feed_is gx [] (Q.take kk) _ _ _ _ w3.drew (HDX3.out.kept kd) HVx.out (by decide) (by rw [hkt.out]; omega) HQ2.out).mono ?_
          rintro e w4 ⟨v4, rfl, hF⟩
          obtain ⟨A4, c4, hl⟩ := hF.slice
          have hl : v4 = .slice A4 0 c4 := hl
          subst hl
          have kw4 : Kept w w4 := Kept.trans' (kw3.trans kd) hF.keep hgx.out
          have HDX4 := Lib.hid hF.df
          have HDY4 := Lib.hid ((HDY3.out.kept kd).besides (HDX3.out.kept kd) hF.keep hxy.out.symm (by decide))
          have HR4 := Lib.hid (hR.keep hF.keep (row_ne_df (HDX3.out.kept kd) hR (by decide)))
          refine ⟨_, rfl, trivial, ?_⟩
          clear hF hR kd HVx HDX3 HDY3 HR3 kw3
          simp only [Act.put, List.setIfInBounds_toArray, List.set_cons_succ, List.set_cons_zero]
          refine s_val (o := ⟨some 57, _, _, _, _, _⟩) (.int .i64 ((0 : Nat) : Int)) rfl (by kernel_rfl) (fun u hu => exec_len (.tmp 56) _ _ Try.underlying24 (A4) (0) (c4) rfl (by kernel_rfl)) ?_
          simp only [Act.put, List.setIfInBounds_toArray, List.set_cons_succ, List.set_cons_zero]
          refine s_val (o := ⟨some 58, _, _, _, _, _⟩) (.int .i64 (cnt : Int)) rfl (by kernel_rfl) (fun u hu => exec_addi (.tmp 51) (.tmp 57) _ (cnt : Int) ((0 : Nat) : Int) (cnt : Int) rfl (by kernel_rfl) (by kernel_rfl) (by simp) (by omega) (by omega)) ?_
          simp only [Act.put, List.setIfInBounds_toArray, List.set_cons_succ, List.set_cons_zero]
          refine s_call (o := ⟨some 60, _, _, _, _, _⟩) 10 #[.pointer (some ⟨gx, 0, none⟩), .slice none 0 0] rfl (by kernel_rfl) (exec_call 10 _ [.tmp 59, .const (.slice none 0 0)] _ _ Try.func10 (by kernel_rfl) (by kernel_rfl) rfl (by kernel_rfl)) ?_
          have HVx : Hid (Bytes w4 (.slice none 0 0) []) := ⟨none, 0, 0, rfl, rfl, R8.nil _ _, Nat.le_refl _, Nat.zero_le _, fun _ => rfl⟩
          refine (feed_is gx (Q.take kk) [] _ _ _ _ w4 HDX4.out HVx.out (by rw [hkt.out]; omega) (by decide) HQ3.out).mono ?_
          rintro e w5 ⟨v5, rfl, hF⟩
          obtain ⟨A5, c5, hl⟩ := hF.slice
          have hl : v5 = .slice A5 0 c5 := hl
          subst hl
          have kw5 : Kept w w5 := Kept.trans' kw4 hF.keep hgx.out
          have HDX5 := Lib.hid hF.df
          have HDY5 := Lib.hid (HDY4.out.besides HDX4.out hF.keep hxy.out.symm (by decide))
          have HR5 := Lib.hid (HR4.out.keep hF.keep (row_ne_df HDX4.out HR4.out (by decide)))
          refine ⟨_, rfl, trivial, ?_⟩
          clear hF HVx HDX4 HDY4 HR4 kw4
          simp only [Act.put, List.setIfInBounds_toArray, List.set_cons_succ, List.set_cons_zero]
          refine s_val (o := ⟨some 61, _, _, _, _, _⟩) (.int .i64 ((0 : Nat) : Int)) rfl (by kernel_rfl) (fun u hu => exec_len (.tmp 60) _ _ Try.underlying24 (A5) (0) (c5) rfl (by kernel_rfl)) ?_
          simp only [Act.put, List.setIfInBounds_toArray, List.set_cons_succ, List.set_cons_zero]
          refine s_val (o := ⟨some 62, _, _, _, _, _⟩) (.int .i64 (cnt : Int)) rfl (by kernel_rfl) (fun u hu => exec_addi (.tmp 58) (.tmp 61) _ (cnt : Int) ((0 : Nat) : Int) (cnt : Int) rfl (by kernel_rfl) (by kernel_rfl) (by simp) (by omega) (by omega)) ?_
          simp only [Act.put, List.setIfInBounds_toArray, List.set_cons_succ, List.set_cons_zero]
          refine s_call (o := ⟨some 67, _, _, _, _, _⟩) 10 #[.pointer (some ⟨gx, 0, none⟩), .slice (some ⟨g3, o', none⟩) (N - kk) (c3 - kk)] rfl (by kernel_rfl) (exec_call 10 _ [.tmp 63, .tmp 66] _ _ Try.func10 (by kernel_rfl) (by kernel_rfl) rfl (by kernel_rfl)) ?_
          have HVx : Hid (Bytes w5 (.slice (some ⟨g3, o', none⟩) (N - kk) (c3 - kk)) (Q.drop kk)) := ⟨_, _, _, rfl, hkd, hX1 w5 HR5.out.r8, by omega, by omega, fun h => by cases h⟩
          refine (feed_is gx (Q.take kk) (Q.drop kk) _ _ _ _ w5 HDX5.out HVx.out (by rw [hkt.out]; omega) (by rw [hkd.out]; omega) HQ1.out).mono ?_
          rintro e w6 ⟨v6, rfl, hF⟩
          obtain ⟨A6, c6, hl⟩ := hF.slice
          have hl : v6 = .slice A6 1 c6 := hl
          subst hl
          have kw6 : Kept w w6 := Kept.trans' kw5 hF.keep hgx.out
          have HDX6 := Lib.hid hF.df
          have HDY6 := Lib.hid (HDY5.out.besides HDX5.out hF.keep hxy.out.symm (by decide))
          refine ⟨_, rfl, trivial, ?_⟩
          clear hF HVx HDX5 HDY5 HR5 kw5
          simp only [Act.put, List.setIfInBounds_toArray, List.set_cons_succ, List.set_cons_zero]
          refine s_val (o := ⟨some 68, _, _, _, _, _⟩) (.int .i64 ((1 : Nat) : Int)) rfl (by kernel_rfl) (fun u hu => exec_len (.tmp 67) _ _ Try.underlying24 (A6) (1) (c6) rfl (by kernel_rfl)) ?_
          simp only [Act.put, List.setIfInBounds_toArray, List.set_cons_succ, List.set_cons_zero]
          refine s_val (o := ⟨some 69, _, _, _, _, _⟩) (.int .i64 ((cnt + 1 : Nat) : Int)) rfl (by kernel_rfl) (fun u hu => exec_addi (.tmp 62) (.tmp 68) _ (cnt : Int) ((1 : Nat) : Int) ((cnt + 1 : Nat) : Int) rfl (by kernel_rfl) (by kernel_rfl) (by omega) (by omega) (by omega)) ?_
          simp only [Act.put, List.setIfInBounds_toArray, List.set_cons_succ, List.set_cons_zero]
          refine s_val (o := ⟨some 7, _, _, _, _, _⟩) (.int .i64 ((cnt + 1 : Nat) : Int)) rfl (by kernel_rfl) (fun u hu => exec_assign (.tmp 69) (.int .i64 ((cnt + 1 : Nat) : Int)) rfl (by kernel_rfl)) ?_
          simp only [Act.put, List.setIfInBounds_toArray, List.set_cons_succ, List.set_cons_zero]
          refine s_done ?_
          clear HQ1 HQ2 HQ3 HS1 hX1 hk2 hk3
          by_cases hltb : i < nb
          · have hdb : decide ((i : Int) < (nb : Int)) = true := by simp; omega
            have hilb : i < lb.length := by rw [hlb.out]; omega
            obtain ⟨b1b, o1b, u1b, rfl, hc1b, hu1b⟩ := HB.out i lb[i] (List.getElem?_eq_getElem hilb)
            generalize lb[i] = xb at hu1b
            obtain ⟨Pb, npb, cpb, rfl, hlpb, hPb, hnpb, hcpb, hPnb⟩ := hu1b
            have HCb : Hid (w.cell? ⟨b1b, o1b + i * 1, none⟩ = some (.slice Pb npb cpb)) := by show _ = _; rw [Nat.mul_one]; exact hc1b
            obtain ⟨mb, hminb, hmlb, hmKb⟩ := min_is npb 50
            have hminb : Hid ((if (50 : Int) < (npb : Int) then (50 : Int) else (npb : Int)) = (mb : Int)) := hminb
            obtain ⟨psb, hpsb⟩ : ∃ ps, ps = xb.take mb := ⟨_, rfl⟩
            have hplb : Hid (psb.length = mb) := by show _ = _; rw [hpsb, List.length_take, hlpb.out]; omega
            have hPsb : R8 w Pb psb := by rw [hpsb]; exact hPb.take2 mb
            have HPsb := Lib.hid hPsb
            have HPnb := Lib.hid hPnb
            clear hpsb hPsb hPb hc1b hilb hPnb
            go_wp2_with fail
            refine wp_sched (fun u => Kept w u) [(0, 0), (1, 0), (2, 0), (3, 0), (4, 0), (5, 0), (6, 0), (7, 0), (8, 0), (9, 0), (10, 0), (11, 0), (12, 1)] (by kernel_rfl) (by kernel_rfl) (Keep.drew kw6) ?_
            refine s_val (o := ⟨some 76, _, _, _, _, _⟩) (.pointer (some ⟨gy, 0, none⟩)) rfl (by kernel_rfl) (fun u hu => exec_move (.tmp 6) (.pointer (some ⟨gy, 0, none⟩)) rfl (by kernel_rfl)) ?_
            simp only [Act.put, List.setIfInBounds_toArray, List.set_cons_succ, List.set_cons_zero]
            refine s_val (o := ⟨some 77, _, _, _, _, _⟩) (.slice (some ⟨b1b, o1b, none⟩) nb cb) rfl (by kernel_rfl) (fun u hu => exec_move (.tmp 1) (.slice (some ⟨b1b, o1b, none⟩) nb cb) rfl (by kernel_rfl)) ?_
            simp only [Act.put, List.setIfInBounds_toArray, List.set_cons_succ, List.set_cons_zero]
            refine s_val (o := ⟨some 78, _, _, _, _, _⟩) (.int .i64 (i : Int)) rfl (by kernel_rfl) (fun u hu => exec_move (.tmp 9) (.int .i64 (i : Int)) rfl (by kernel_rfl)) ?_
            simp only [Act.put, List.setIfInBounds_toArray, List.set_cons_succ, List.set_cons_zero]
            refine s_val (o := ⟨some 79, _, _, _, _, _⟩) (.pointer (some ⟨b1b, o1b + i * 1, none⟩)) rfl (by kernel_rfl) (fun u hu => exec_index 24 26 1 (.tmp 77) (.tmp 78) (b1b) (o1b) (nb) (cb) (i) rfl Try.underlying24 sl_size (by kernel_rfl) (by kernel_rfl) (by omega)) ?_
            simp only [Act.put, List.setIfInBounds_toArray, List.set_cons_succ, List.set_cons_zero]
            refine s_val (o := ⟨some 80, _, _, _, _, _⟩) (.slice Pb npb cpb) rfl (by kernel_rfl) (fun u hu => exec_load_sl (.tmp 79) ⟨b1b, o1b + i * 1, none⟩ (.slice Pb npb cpb) rfl (by kernel_rfl) (Kept.cell hu HCb.out)) ?_
            simp only [Act.put, List.setIfInBounds_toArray, List.set_cons_succ, List.set_cons_zero]
            refine s_val (o := ⟨some 81, _, _, _, _, _⟩) (.slice (some ⟨b1b, o1b, none⟩) nb cb) rfl (by kernel_rfl) (fun u hu => exec_move (.tmp 1) (.slice (some ⟨b1b, o1b, none⟩) nb cb) rfl (by kernel_rfl)) ?_
            simp only [Act.put, List.setIfInBounds_toArray, List.set_cons_succ, List.set_cons_zero]
            refine s_val (o := ⟨some 82, _, _, _, _, _⟩) (.int .i64 (i : Int)) rfl (by kernel_rfl) (fun u hu => exec_move (.tmp 9) (.int .i64 (i : Int)) rfl (by kernel_rfl)) ?_
            simp only [Act.put, List.setIfInBounds_toArray, List.set_cons_succ, List.set_cons_zero]
            refine s_val (o := ⟨some 83, _, _, _, _, _⟩) (.pointer (some ⟨b1b, o1b + i * 1, none⟩)) rfl (by kernel_rfl) (fun u hu => exec_index 24 26 1 (.tmp 81) (.tmp 82) (b1b) (o1b) (nb) (cb) (i) rfl Try.underlying24 sl_size (by kernel_rfl) (by kernel_rfl) (by omega)) ?_
            simp only [Act.put, List.setIfInBounds_toArray, List.set_cons_succ, List.set_cons_zero]
            refine s_val (o := ⟨some 84, _, _, _, _, _⟩) (.slice Pb npb cpb) rfl (by kernel_rfl) (fun u hu => exec_load_sl (.tmp 83) ⟨b1b, o1b + i * 1, none⟩ (.slice Pb npb cpb) rfl (by kernel_rfl) (Kept.cell hu HCb.out)) ?_
            simp only [Act.put, List.setIfInBounds_toArray, List.set_cons_succ, List.set_cons_zero]
            refine s_val (o := ⟨some 85, _, _, _, _, _⟩) (.int .i64 ((npb : Nat) : Int)) rfl (by kernel_rfl) (fun u hu => exec_len (.tmp 84) _ _ Try.underlying26 (Pb) (npb) (cpb) rfl (by kernel_rfl)) ?_
            simp only [Act.put, List.setIfInBounds_toArray, List.set_cons_succ, List.set_cons_zero]
            refine s_val (o := ⟨some 86, _, _, _, _, _⟩) (.int .i64 (mb : Int)) rfl (by kernel_rfl) (fun u hu => exec_min (.tmp 85) (.const (.int .i64 50)) _ (npb : Int) 50 (mb : Int) rfl (by kernel_rfl) (by kernel_rfl) hminb.out) ?_
            simp only [Act.put, List.setIfInBounds_toArray, List.set_cons_succ, List.set_cons_zero]
            refine s_val (o := ⟨some 87, _, _, _, _, _⟩) (.slice Pb mb cpb) rfl (by kernel_rfl) (fun u hu => exec_upto 26 5 1 (.tmp 80) (.tmp 86) Pb npb cpb mb rfl Try.underlying26 info8s (by kernel_rfl) (by kernel_rfl) (by omega)) ?_
            simp only [Act.put, List.setIfInBounds_toArray, List.set_cons_succ, List.set_cons_zero]
            refine s_call (o := ⟨some 88, _, _, _, _, _⟩) 10 #[.pointer (some ⟨gy, 0, none⟩), .slice Pb mb cpb] rfl (by kernel_rfl) (exec_call 10 _ [.tmp 76, .tmp 87] _ _ Try.func10 (by kernel_rfl) (by kernel_rfl) rfl (by kernel_rfl)) ?_
            have kd : Kept w6 w6.drew := Keep.drew (Keep.refl _ w6)
            have HVy : Hid (Bytes w6.drew (.slice Pb mb cpb) psb) := ⟨Pb, mb, cpb, rfl, hplb, HPsb.out.kept (kw6.trans kd), by omega, hcpb, HPnb.out⟩
            refine (feed_any gy bad left psb _ w6.drew (HDY6.out.kept kd) HVy.out (by have := hlen.out; omega) (by have := hplb.out; omega)).mono ?_
            rintro e wz ⟨vy, rfl, hF⟩
            have kwz : Kept w wz := Kept.trans' (kw6.trans kd) hF.keep hgy.out
            have HDYz := Lib.hid hF.df
            have HDXz := Lib.hid ((HDX6.out.kept kd).besides (HDY6.out.kept kd) hF.keep hxy.out (by decide))
            have hlz : Hid ((feedL bad left psb).length ≤ 50 * (i + 1)) := by
              show _ ≤ _
              have h1 := feedL_le bad left psb
              have h2 := hlen.out
              have h3 := hplb.out
              omega
            refine ⟨_, rfl, kwz, ?_⟩
            simp only [Act.put, List.setIfInBounds_toArray, List.set_cons_succ, List.set_cons_zero]
            refine s_done ?_
            clear hF kd HDX6 HDY6 kw6 HVy hminb HCb
            go_wp2
            exact ⟨⟨i + 1, cnt + 1, _, _, by go_num, by go_num, by go_num, by omega, by omega, hlz, HDXz, HDYz, kwz⟩, by simp [intOf]; omega⟩
          · have hdb : decide ((i : Int) < (nb : Int)) = false := by simp; omega
            have hlz : Hid (left.length ≤ 50 * (i + 1)) := by show _ ≤ _; have := hlen.out; omega
            go_wp2
            exact ⟨⟨i + 1, cnt + 1, bad, left, by go_num, by go_num, by go_num, by omega, by omega, hlz, HDX6, HDY6, kw6⟩, by simp [intOf]; omega⟩
        · have hdz : decide ((0 : Int) < (npa : Int)) = false := by simp; omega
          by_cases hltb : i < nb
          · have hdb : decide ((i : Int) < (nb : Int)) = true := by simp; omega
            have hilb : i < lb.length := by rw [hlb.out]; omega
            obtain ⟨b1b, o1b, u1b, rfl, hc1b, hu1b⟩ := HB.out i lb[i] (List.getElem?_eq_getElem hilb)
            generalize lb[i] = xb at hu1b
            obtain ⟨Pb, npb, cpb, rfl, hlpb, hPb, hnpb, hcpb, hPnb⟩ := hu1b
            have HCb : Hid (w.cell? ⟨b1b, o1b + i * 1, none⟩ = some (.slice Pb npb cpb)) := by show _ = _; rw [Nat.mul_one]; exact hc1b
            obtain ⟨mb, hminb, hmlb, hmKb⟩ := min_is npb 50
            have hminb : Hid ((if (50 : Int) < (npb : Int) then (50 : Int) else (npb : Int)) = (mb : Int)) := hminb
            obtain ⟨psb, hpsb⟩ : ∃ ps, ps = xb.take mb := ⟨_, rfl⟩
            have hplb : Hid (psb.length = mb) := by show _ = _; rw [hpsb, List.length_take, hlpb.out]; omega
            have hPsb : R8 w Pb psb := by rw [hpsb]; exact hPb.take2 mb
            have HPsb := Lib.hid hPsb
            have HPnb := Lib.hid hPnb
            clear hpsb hPsb hPb hc1b hilb hPnb
            go_wp2_with fail
            refine wp_sched (fun u => Kept w u) [(0, 0), (1, 0), (2, 0), (3, 0), (4, 0), (5, 0), (6, 0), (7, 0), (8, 0), (9, 0), (10, 0), (11, 0), (12, 1)] (by kernel_rfl) (by kernel_rfl) (Keep.drew kr) ?_
            refine s_val (o := ⟨some 76, _, _, _, _, _⟩) (.pointer (some ⟨gy, 0, none⟩)) rfl (by kernel_rfl) (fun u hu => exec_move (.tmp 6) (.pointer (some ⟨gy, 0, none⟩)) rfl (by kernel_rfl)) ?_
            simp only [Act.put, List.setIfInBounds_toArray, List.set_cons_succ, List.set_cons_zero]
            refine s_val (o := ⟨some 77, _, _, _, _, _⟩) (.slice (some ⟨b1b, o1b, none⟩) nb cb) rfl (by kernel_rfl) (fun u hu => exec_move (.tmp 1) (.slice (some ⟨b1b, o1b, none⟩) nb cb) rfl (by kernel_rfl)) ?_
            simp only [Act.put, List.setIfInBounds_toArray, List.set_cons_succ, List.set_cons_zero]
            refine s_val (o := ⟨some 78, _, _, _, _, _⟩) (.int .i64 (i : Int)) rfl (by kernel_rfl) (fun u hu => exec_move (.tmp 9) (.int .i64 (i : Int)) rfl (by kernel_rfl)) ?_
            simp only [Act.put, List.setIfInBounds_toArray, List.set_cons_succ, List.set_cons_zero]
            refine s_val (o := ⟨some 79, _, _, _, _, _⟩) (.pointer (some ⟨b1b, o1b + i * 1, none⟩)) rfl (by kernel_rfl) (fun u hu => exec_index 24 26 1 (.tmp 77) (.tmp 78) (b1b) (o1b) (nb) (cb) (i) rfl Try.underlying24 sl_size (by kernel_rfl) (by kernel_rfl) (by omega)) ?_
            simp only [Act.put, List.setIfInBounds_toArray, List.set_cons_succ, List.set_cons_zero]
            refine s_val (o := ⟨some 80, _, _, _, _, _⟩) (.slice Pb npb cpb) rfl (by kernel_rfl) (fun u hu => exec_load_sl (.tmp 79) ⟨b1b, o1b + i * 1, none⟩ (.slice Pb npb cpb) rfl (by kernel_rfl) (Kept.cell hu HCb.out)) ?_
            simp only [Act.put, List.setIfInBounds_toArray, List.set_cons_succ, List.set_cons_zero]
            refine s_val (o := ⟨some 81, _, _, _, _, _⟩) (.slice (some ⟨b1b, o1b, none⟩) nb cb) rfl (by kernel_rfl) (fun u hu => exec_move (.tmp 1) (.slice (some ⟨b1b, o1b, none⟩) nb cb) rfl (by kernel_rfl)) ?_
            simp only [Act.put, List.setIfInBounds_toArray, List.set_cons_succ, List.set_cons_zero]
            refine s_val (o := ⟨some 82, _, _, _, _, _⟩) (.int .i64 (i : Int)) rfl (by kernel_rfl) (fun u hu => exec_move (.tmp 9) (.int .i64 (i : Int)) rfl (by kernel_rfl)) ?_
            simp only [Act.put, List.setIfInBounds_toArray, List.set_cons_succ, List.set_cons_zero]
            refine s_val (o := ⟨some 83, _, _, _, _, _⟩) (.pointer (some ⟨b1b, o1b + i * 1, none⟩)) rfl (by kernel_rfl) (fun u hu => exec_index 24 26 1 (.tmp 81) (.tmp 82) (b1b) (o1b) (nb) (cb) (i) rfl Try.underlying24 sl_size (by kernel_rfl) (by kernel_rfl) (by omega)) ?_
            simp only [Act.put, List.setIfInBounds_toArray, List.set_cons_succ, List.set_cons_zero]
            refine s_val (o := ⟨some 84, _, _, _, _, _⟩) (.slice Pb npb cpb) rfl (by kernel_rfl) (fun u hu => exec_load_sl (.tmp 83) ⟨b1b, o1b + i * 1, none⟩ (.slice Pb npb cpb) rfl (by kernel_rfl) (Kept.cell hu HCb.out)) ?_
            simp only [Act.put, List.setIfInBounds_toArray, List.set_cons_succ, List.set_cons_zero]
            refine s_val (o := ⟨some 85, _, _, _, _, _⟩) (.int .i64 ((npb : Nat) : Int)) rfl (by kernel_rfl) (fun u hu => exec_len (.tmp 84) _ _ Try.underlying26 (Pb) (npb) (cpb) rfl (by kernel_rfl)) ?_
            simp only [Act.put, List.setIfInBounds_toArray, List.set_cons_succ, List.set_cons_zero]
            refine s_val (o := ⟨some 86, _, _, _, _, _⟩) (.int .i64 (mb : Int)) rfl (by kernel_rfl) (fun u hu => exec_min (.tmp 85) (.const (.int .i64 50)) _ (npb : Int) 50 (mb : Int) rfl (by kernel_rfl) (by kernel_rfl) hminb.out) ?_
            simp only [Act.put, List.setIfInBounds_toArray, List.set_cons_succ, List.set_cons_zero]
            refine s_val (o := ⟨some 87, _, _, _, _, _⟩) (.slice Pb mb cpb) rfl (by kernel_rfl) (fun u hu => exec_upto 26 5 1 (.tmp 80) (.tmp 86) Pb npb cpb mb rfl Try.underlying26 info8s (by kernel_rfl) (by kernel_rfl) (by omega)) ?_
            simp only [Act.put, List.setIfInBounds_toArray, List.set_cons_succ, List.set_cons_zero]
            refine s_call (o := ⟨some 88, _, _, _, _, _⟩) 10 #[.pointer (some ⟨gy, 0, none⟩), .slice Pb mb cpb] rfl (by kernel_rfl) (exec_call 10 _ [.tmp 76, .tmp 87] _ _ Try.func10 (by kernel_rfl) (by kernel_rfl) rfl (by kernel_rfl)) ?_
            have kd : Kept wr wr.drew := Keep.drew (Keep.refl _ wr)
            have HVy : Hid (Bytes wr.drew (.slice Pb mb cpb) psb) := ⟨Pb, mb, cpb, rfl, hplb, HPsb.out.kept (kr.trans kd), by omega, hcpb, HPnb.out⟩
            refine (feed_any gy bad left psb _ wr.drew (HDY.out.kept kd) HVy.out (by have := hlen.out; omega) (by have := hplb.out; omega)).mono ?_
            rintro e wz ⟨vy, rfl, hF⟩
            have kwz : Kept w wz := Kept.trans' (kr.trans kd) hF.keep hgy.out
            have HDYz := Lib.hid hF.df
            have HDXz := Lib.hid ((HDX.out.kept kd).besides (HDY.out.kept kd) hF.keep hxy.out (by decide))
            have hlz : Hid ((feedL bad left psb).length ≤ 50 * (i + 1)) := by
              show _ ≤ _
              have h1 := feedL_le bad left psb
              have h2 := hlen.out
              have h3 := hplb.out
              omega
            refine ⟨_, rfl, kwz, ?_⟩
            simp only [Act.put, List.setIfInBounds_toArray, List.set_cons_succ, List.set_cons_zero]
            refine s_done ?_
            clear hF kd HDX HDY kr HVy hminb HCb
            go_wp2
            exact ⟨⟨i + 1, cnt, _, _, by go_num, by go_num, by go_num, by omega, by omega, hlz, HDXz, HDYz, kwz⟩, by simp [intOf]; omega⟩
          · have hdb : decide ((i : Int) < (nb : Int)) = false := by simp; omega
            have hlz : Hid (left.length ≤ 50 * (i + 1)) := by show _ ≤ _; have := hlen.out; omega
            go_wp2
            exact ⟨⟨i + 1, cnt, bad, left, by go_num, by go_num, by go_num, by omega, by omega, hlz, HDX, HDY, kr⟩, by simp [intOf]; omega⟩
      · have hda : decide ((i : Int) < (na : Int)) = false := by simp; omega
        by_cases hltb : i < nb
        · have hdb : decide ((i : Int) < (nb : Int)) = true := by simp; omega
          have hilb : i < lb.length := by rw [hlb.out]; omega
          obtain ⟨b1b, o1b, u1b, rfl, hc1b, hu1b⟩ := HB.out i lb[i] (List.getElem?_eq_getElem hilb)
          generalize lb[i] = xb at hu1b
          obtain ⟨Pb, npb, cpb, rfl, hlpb, hPb, hnpb, hcpb, hPnb⟩ := hu1b
          have HCb : Hid (w.cell? ⟨b1b, o1b + i * 1, none⟩ = some (.slice Pb npb cpb)) := by show _ = _; rw [Nat.mul_one]; exact hc1b
          obtain ⟨mb, hminb, hmlb, hmKb⟩ := min_is npb 50
          have hminb : Hid ((if (50 : Int) < (npb : Int) then (50 : Int) else (npb : Int)) = (mb : Int)) := hminb
          obtain ⟨psb, hpsb⟩ : ∃ ps, ps = xb.take mb := ⟨_, rfl⟩
          have hplb : Hid (psb.length = mb) := by show _ = _; rw [hpsb, List.length_take, hlpb.out]; omega
          have hPsb : R8 w Pb psb := by rw [hpsb]; exact hPb.take2 mb
          have HPsb := Lib.hid hPsb
          have HPnb := Lib.hid hPnb
          clear hpsb hPsb hPb hc1b hilb hPnb
          go_wp2_with fail
          refine wp_sched (fun u => Kept w u) [(0, 0), (1, 0), (2, 0), (3, 0), (4, 0), (5, 0), (6, 0), (7, 0), (8, 0), (9, 0), (10, 0), (11, 0), (12, 1)] (by kernel_rfl) (by kernel_rfl) (Keep.drew kr) ?_
          refine s_val (o := ⟨some 76, _, _, _, _, _⟩) (.pointer (some ⟨gy, 0, none⟩)) rfl (by kernel_rfl) (fun u hu => exec_move (.tmp 6) (.pointer (some ⟨gy, 0, none⟩)) rfl (by kernel_rfl)) ?_
          simp only [Act.put, List.setIfInBounds_toArray, List.set_cons_succ, List.set_cons_zero]
          refine s_val (o := ⟨some 77, _, _, _, _, _⟩) (.slice (some ⟨b1b, o1b, none⟩) nb cb) rfl (by kernel_rfl) (fun u hu => exec_move (.tmp 1) (.slice (some ⟨b1b, o1b, none⟩) nb cb) rfl (by kernel_rfl)) ?_
          simp only [Act.put, List.setIfInBounds_toArray, List.set_cons_succ, List.set_cons_zero]
          refine s_val (o := ⟨some 78, _, _, _, _, _⟩) (.int .i64 (i : Int)) rfl (by kernel_rfl) (fun u hu => exec_move (.tmp 9) (.int .i64 (i : Int)) rfl (by kernel_rfl)) ?_
          simp only [Act.put, List.setIfInBounds_toArray, List.set_cons_succ, List.set_cons_zero]
          refine s_val (o := ⟨some 79, _, _, _, _, _⟩) (.pointer (some ⟨b1b, o1b + i * 1, none⟩)) rfl (by kernel_rfl) (fun u hu => exec_index 24 26 1 (.tmp 77) (.tmp 78) (b1b) (o1b) (nb) (cb) (i) rfl Try.underlying24 sl_size (by kernel_rfl) (by kernel_rfl) (by omega)) ?_
          simp only [Act.put, List.setIfInBounds_toArray, List.set_cons_succ, List.set_cons_zero]
          refine s_val (o := ⟨some 80, _, _, _, _, _⟩) (.slice Pb npb cpb) rfl (by kernel_rfl) (fun u hu => exec_load_sl (.tmp 79) ⟨b1b, o1b + i * 1, none⟩ (.slice Pb npb cpb) rfl (by kernel_rfl) (Kept.cell hu HCb.out)) ?_
          simp only [Act.put, List.setIfInBounds_toArray, List.set_cons_succ, List.set_cons_zero]
          refine s_val (o := ⟨some 81, _, _, _, _, _⟩) (.slice (some ⟨b1b, o1b, none⟩) nb cb) rfl (by kernel_rfl) (fun u hu => exec_move (.tmp 1) (.slice (some ⟨b1b, o1b, none⟩) nb cb) rfl (by kernel_rfl)) ?_
          simp only [Act.put, List.setIfInBounds_toArray, List.set_cons_succ, List.set_cons_zero]
          refine s_val (o := ⟨some 82, _, _, _, _, _⟩) (.int .i64 (i : Int)) rfl (by kernel_rfl) (fun u hu => exec_move (.tmp 9) (.int .i64 (i : Int)) rfl (by kernel_rfl)) ?_
          simp only [Act.put, List.setIfInBounds_toArray, List.set_cons_succ, List.set_cons_zero]
          refine s_val (o := ⟨some 83, _, _, _, _, _⟩) (.pointer (some ⟨b1b, o1b + i * 1, none⟩)) rfl (by kernel_rfl) (fun u hu => exec_index 24 26 1 (.tmp 81) (.tmp 82) (b1b) (o1b) (nb) (cb) (i) rfl Try.underlying24 sl_size (by kernel_rfl) (by kernel_rfl) (by omega)) ?_
          simp only [Act.put, List.setIfInBounds_toArray, List.set_cons_succ, List.set_cons_zero]
          refine s_val (o := ⟨some 84, _, _, _, _, _⟩) (.slice Pb npb cpb) rfl (by kernel_rfl) (fun u hu => exec_load_sl (.tmp 83) ⟨b1b, o1b + i * 1, none⟩ (.slice Pb npb cpb) rfl (by kernel_rfl) (Kept.cell hu HCb.out)) ?_
          simp only [Act.put, List.setIfInBounds_toArray, List.set_cons_succ, List.set_cons_zero]
          refine s_val (o := ⟨some 85, _, _, _, _, _⟩) (.int .i64 ((npb : Nat) : Int)) rfl (by kernel_rfl) (fun u hu => exec_len (.tmp 84) _ _ Try.underlying26 (Pb) (npb) (cpb) rfl (by kernel_rfl)) ?_
          simp only [Act.put, List.setIfInBounds_toArray, List.set_cons_succ, List.set_cons_zero]
          refine s_val (o := ⟨some 86, _, _, _, _, _⟩) (.int .i64 (mb : Int)) rfl (by kernel_rfl) (fun u hu => exec_min (.tmp 85) (.const (.int .i64 50)) _ (npb : Int) 50 (mb : Int) rfl (by kernel_rfl) (by kernel_rfl) hminb.out) ?_
          simp only [Act.put, List.setIfInBounds_toArray, List.set_cons_succ, List.set_cons_zero]
          refine s_val (o := ⟨some 87, _, _, _, _, _⟩) (.slice Pb mb cpb) rfl (by kernel_rfl) (fun u hu => exec_upto 26 5 1 (.tmp 80) (.tmp 86) Pb npb cpb mb rfl Try.underlying26 info8s (by kernel_rfl) (by kernel_rfl) (by omega)) ?_
          simp only [Act.put, List.setIfInBounds_toArray, List.set_cons_succ, List.set_cons_zero]
          refine s_call (o := ⟨some 88, _, _, _, _, _⟩) 10 #[.pointer (some ⟨gy, 0, none⟩), .slice Pb mb cpb] rfl (by kernel_rfl) (exec_call 10 _ [.tmp 76, .tmp 87] _ _ Try.func10 (by kernel_rfl) (by kernel_rfl) rfl (by kernel_rfl)) ?_
          have kd : Kept wr wr.drew := Keep.drew (Keep.refl _ wr)
          have HVy : Hid (Bytes wr.drew (.slice Pb mb cpb) psb) := ⟨Pb, mb, cpb, rfl, hplb, HPsb.out.kept (kr.trans kd), by omega, hcpb, HPnb.out⟩
          refine (feed_any gy bad left psb _ wr.drew (HDY.out.kept kd) HVy.out (by have := hlen.out; omega) (by have := hplb.out; omega)).mono ?_
          rintro e wz ⟨vy, rfl, hF⟩
          have kwz : Kept w wz := Kept.trans' (kr.trans kd) hF.keep hgy.out
          have HDYz := Lib.hid hF.df
          have HDXz := Lib.hid ((HDX.out.kept kd).besides (HDY.out.kept kd) hF.keep hxy.out (by decide))
          have hlz : Hid ((feedL bad left psb).length ≤ 50 * (i + 1)) := by
            show _ ≤ _
            have h1 := feedL_le bad left psb
            have h2 := hlen.out
            have h3 := hplb.out
            omega
          refine ⟨_, rfl, kwz, ?_⟩
          simp only [Act.put, List.setIfInBounds_toArray, List.set_cons_succ, List.set_cons_zero]
          refine s_done ?_
          clear hF kd HDX HDY kr HVy hminb HCb
          go_wp2
          exact ⟨⟨i + 1, cnt, _, _, by go_num, by go_num, by go_num, by omega, by omega, hlz, HDXz, HDYz, kwz⟩, by simp [intOf]; omega⟩
        · have hdb : decide ((i : Int) < (nb : Int)) = false := by simp; omega
          have hlz : Hid (left.length ≤ 50 * (i + 1)) := by show _ ≤ _; have := hlen.out; omega
          go_wp2
          exact ⟨⟨i + 1, cnt, bad, left, by go_num, by go_num, by go_num, by omega, by omega, hlz, HDX, HDY, kr⟩, by simp [intOf]; omega⟩
    · have hd8 : decide ((i : Int) < 8) = false := by simp; omega
      clear HA HB
      go_wp2_with fail
      refine (left_any gx 0 false [] wr HDX.out rfl).mono ?_
      rintro e w3 ⟨rfl, rfl⟩
      go_wp2_with fail
      refine (bad_any gx false [] wr HDX.out).mono ?_
      rintro e w3 ⟨rfl, rfl⟩
      go_wp2_with fail
      refine (frameRuns_any wr).mono ?_
      rintro e w6 ⟨rfl, k6⟩
      have kw6 := kr.trans k6
      clear k6 kr HDX HDY
      go_wp2
      go_ret
      exact ⟨rfl, kw6⟩
end Go.Proofs.Ytkomionfnpgjgaa
