/-
  The contract of jobberlaw5.FrameTells: any bytes in any pieces; it answers true and turns no block. No condition.
-/
import Derived.Test.YtkomionfnpgjgaaLong5
import Derived.Test.YtkomionfnpgjgaaRefFeed
import Derived.Test.YtkomionfnpgjgaaRefFrame
import Derived.Test.YtkomionfnpgjgaaSched2
import Derived.Test.YtkomionfnpgjgaaRoomy
namespace Go.Proofs.Ytkomionfnpgjgaa
open Go.RowKit
set_option linter.unusedVariables false

section
variable {a : Act} {o : Oper} {u : World}
theorem exec_rbad (x : Operand) (g : Nat) (hop : o.op = .fieldAddr 32 x 1) (hx : a.eval x = .pointer (some ⟨g, 0, none⟩)) : (execOp a.eval o).run Try.prog u = .ok (.value (.pointer (some ⟨g, 1, none⟩))) u := by
  unfold execOp
  simp only [hop, hx]
  simp [go_sem]
theorem exec_loadb (x : Operand) (ad : Addr) (v : Value) (hop : o.op = .load 4 x) (hx : a.eval x = .pointer (some ad)) (hc : u.cell? ad = some v) :
    (execOp a.eval o).run Try.prog u = .ok (.value v) u := by
  unfold execOp
  simp only [hop, hx, Instr.loadAt, Instr.sureAddr, Sem.run_bind, Sem.run_pure, Result.andThen_ok]
  have hu : Try.prog.underlying 4 = some .bool := Try.underlying4
  simp [loadVar, isAgg, run_underlying hu, Sem.run_bind, hc, go_sem]
theorem exec_neqb (x y : Operand) (t' : TypeId) (p : Bool) (hop : o.op = .binOp .neq 4 x y t') (hx : a.eval x = .bool p) (hy : a.eval y = .bool p) : (execOp a.eval o).run Try.prog u = .ok (.value (.bool false)) u := by
  unfold execOp
  simp only [hop, hx, hy]
  simp [go_sem]
end
/-- min(n, K) -/
theorem min_is (n K : Nat) : ∃ m : Nat, (if (K : Int) < (n : Int) then (K : Int) else (n : Int)) = (m : Int) ∧ m ≤ n ∧ m ≤ K := by
  by_cases h : K < n
  · exact ⟨K, by rw [if_pos (by omega)], by omega, by omega⟩
  · exact ⟨n, by rw [if_neg (by omega)], by omega, by omega⟩

set_option maxRecDepth 100000 in
set_option maxHeartbeats 3200000 in
theorem frameTells_any (v vb : Value) (l : List (List UInt8)) (b : List UInt8) (w : World) (hv : RecV w v l) (hvb : Bytes w vb b) : Calls Try.prog 4 #[v, vb] w fun e w' => e = .returned (.bool true) ∧ Kept w w' := by
  obtain ⟨A, nl, cl, rfl, hll, hA, -, -⟩ := hv
  obtain ⟨V, nb, cb, rfl, hlb, hV, hnb, hcb, hVn⟩ := hvb
  have HA := Lib.hid hA
  have HV := Lib.hid hV
  have HVn := Lib.hid hVn
  clear hA hV hVn
  go_enter Try.func4, Try.ntmps4
  go_wp2_with fail
  refine (new_any w).mono ?_
  rintro e w1 ⟨rfl, hD, k1⟩
  obtain ⟨g, hg⟩ : ∃ g, g = w.heap.size := ⟨_, rfl⟩
  rw [← hg] at hD ⊢
  have hgl : Hid (¬ g < w.heap.size) := by show ¬ _; omega
  have hB2 := Blk.new w1 32 [.slice none 0 0, .bool false]
  have ka : Kept w1 (w1.alloc (.cells #[.slice none 0 0, .bool false] 32)) := (Keep.refl _ w1).alloc _
  have HD : Hid (DF 45 (w1.alloc (.cells #[.slice none 0 0, .bool false] 32)) g false []) := hD.kept ka
  have HE : Hid (DF 32 (w1.alloc (.cells #[.slice none 0 0, .bool false] 32)) w1.heap.size false []) := ⟨none, 0, 0, hB2, Own8.nil _ _⟩
  have hne : Hid (g ≠ w1.heap.size) := by show _ ≠ _; have := hD.lt; omega
  have hgl2 : Hid (¬ w1.heap.size < w.heap.size) := by show ¬ _; have := k1.size; omega
  have kw2 := k1.trans ka
  clear hD hg ka k1 hB2
  go_wp2_with fail
  generalize w1.alloc (.cells #[.slice none 0 0, .bool false] 32) = w2 at HD HE kw2 ⊢
  generalize w1.heap.size = h at HE hne hgl2 ⊢
  go_loopw [7] (fun v wr => ∃ (i : Nat) (bad : Bool) (left : List UInt8), v = .int .i64 i ∧ i ≤ 12 ∧ Hid (left.length ≤ 400 * i) ∧ Hid (DF 45 wr g bad left) ∧ Hid (DF 32 wr h bad left) ∧ Kept w wr) (fun v _ => 12 - (intOf v).toNat)
  case atStart => exact ⟨0, false, [], rfl, by omega, by show _ ≤ _; simp, HD, HE, kw2⟩
  case round =>
    obtain ⟨i, bad, left, rfl, hi, hlen, HD, HE, kr⟩ := hrel
    by_cases hlt : i < nl
    · have hdl : decide ((i : Int) < (nl : Int)) = true := by simp; omega
      by_cases h12 : i < 12
      · have hd12 : decide ((i : Int) < 12) = true := by simp; omega
        have hil : i < l.length := by rw [hll.out]; omega
        obtain ⟨b1, o1, u1, rfl, hc1, hu1⟩ := HA.out i l[i] (List.getElem?_eq_getElem hil)
        generalize l[i] = x at hu1
        obtain ⟨P, np, cp, rfl, hlp, hP, hnp, hcp, hPn⟩ := hu1
        have HC : Hid (w.cell? ⟨b1, o1 + i * 1, none⟩ = some (.slice P np cp)) := by show _ = _; rw [Nat.mul_one]; exact hc1
        obtain ⟨m, hmin, hml, hmK⟩ := min_is np 400
        have hmin : Hid ((if (400 : Int) < (np : Int) then (400 : Int) else (np : Int)) = (m : Int)) := hmin
        obtain ⟨ps, hps⟩ : ∃ ps, ps = x.take m := ⟨_, rfl⟩
        have hpl : Hid (ps.length = m) := by show _ = _; rw [hps, List.length_take, hlp.out]; omega
        have hPs : R8 w P ps := by rw [hps]; exact hP.take2 m
        have HPs := Lib.hid hPs
        have HPn := Lib.hid hPn
        clear hps hPs hP hc1 hil hPn
        go_wp2_with fail
        refine wp_sched (fun u => Kept w u) [(0, 0), (1, 0), (2, 0), (3, 0), (4, 0), (5, 0), (6, 0), (7, 0), (8, 0), (9, 0), (10, 0), (11, 0)] (by kernel_rfl) (by kernel_rfl) (Keep.drew kr) ?_
        refine s_val (o := ⟨some 25, _, _, _, _, _⟩) (.slice (some ⟨b1, o1, none⟩) nl cl) rfl (by kernel_rfl) (fun u hu => exec_move (.tmp 0) (.slice (some ⟨b1, o1, none⟩) nl cl) rfl (by kernel_rfl)) ?_
        simp only [Act.put, List.setIfInBounds_toArray, List.set_cons_succ, List.set_cons_zero]
        refine s_val (o := ⟨some 26, _, _, _, _, _⟩) (.int .i64 (i : Int)) rfl (by kernel_rfl) (fun u hu => exec_move (.tmp 7) (.int .i64 (i : Int)) rfl (by kernel_rfl)) ?_
        simp only [Act.put, List.setIfInBounds_toArray, List.set_cons_succ, List.set_cons_zero]
        refine s_val (o := ⟨some 27, _, _, _, _, _⟩) (.pointer (some ⟨b1, o1 + i * 1, none⟩)) rfl (by kernel_rfl) (fun u hu => exec_index 24 26 1 (.tmp 25) (.tmp 26) (b1) (o1) (nl) (cl) (i) rfl Try.underlying24 sl_size (by kernel_rfl) (by kernel_rfl) (by omega)) ?_
        simp only [Act.put, List.setIfInBounds_toArray, List.set_cons_succ, List.set_cons_zero]
        refine s_val (o := ⟨some 28, _, _, _, _, _⟩) (.slice P np cp) rfl (by kernel_rfl) (fun u hu => exec_load_sl (.tmp 27) ⟨b1, o1 + i * 1, none⟩ (.slice P np cp) rfl (by kernel_rfl) (Kept.cell hu HC.out)) ?_
        simp only [Act.put, List.setIfInBounds_toArray, List.set_cons_succ, List.set_cons_zero]
        refine s_val (o := ⟨some 29, _, _, _, _, _⟩) (.slice (some ⟨b1, o1, none⟩) nl cl) rfl (by kernel_rfl) (fun u hu => exec_move (.tmp 0) (.slice (some ⟨b1, o1, none⟩) nl cl) rfl (by kernel_rfl)) ?_
        simp only [Act.put, List.setIfInBounds_toArray, List.set_cons_succ, List.set_cons_zero]
        refine s_val (o := ⟨some 30, _, _, _, _, _⟩) (.int .i64 (i : Int)) rfl (by kernel_rfl) (fun u hu => exec_move (.tmp 7) (.int .i64 (i : Int)) rfl (by kernel_rfl)) ?_
        simp only [Act.put, List.setIfInBounds_toArray, List.set_cons_succ, List.set_cons_zero]
        refine s_val (o := ⟨some 31, _, _, _, _, _⟩) (.pointer (some ⟨b1, o1 + i * 1, none⟩)) rfl (by kernel_rfl) (fun u hu => exec_index 24 26 1 (.tmp 29) (.tmp 30) (b1) (o1) (nl) (cl) (i) rfl Try.underlying24 sl_size (by kernel_rfl) (by kernel_rfl) (by omega)) ?_
        simp only [Act.put, List.setIfInBounds_toArray, List.set_cons_succ, List.set_cons_zero]
        refine s_val (o := ⟨some 32, _, _, _, _, _⟩) (.slice P np cp) rfl (by kernel_rfl) (fun u hu => exec_load_sl (.tmp 31) ⟨b1, o1 + i * 1, none⟩ (.slice P np cp) rfl (by kernel_rfl) (Kept.cell hu HC.out)) ?_
        simp only [Act.put, List.setIfInBounds_toArray, List.set_cons_succ, List.set_cons_zero]
        refine s_val (o := ⟨some 33, _, _, _, _, _⟩) (.int .i64 ((np : Nat) : Int)) rfl (by kernel_rfl) (fun u hu => exec_len (.tmp 32) _ _ Try.underlying26 (P) (np) (cp) rfl (by kernel_rfl)) ?_
        simp only [Act.put, List.setIfInBounds_toArray, List.set_cons_succ, List.set_cons_zero]
        refine s_val (o := ⟨some 34, _, _, _, _, _⟩) (.int .i64 (m : Int)) rfl (by kernel_rfl) (fun u hu => exec_min (.tmp 33) (.const (.int .i64 400)) _ (np : Int) 400 (m : Int) rfl (by kernel_rfl) (by kernel_rfl) hmin.out) ?_
        simp only [Act.put, List.setIfInBounds_toArray, List.set_cons_succ, List.set_cons_zero]
        refine s_val (o := ⟨some 35, _, _, _, _, _⟩) (.slice P m cp) rfl (by kernel_rfl) (fun u hu => exec_upto 26 5 1 (.tmp 28) (.tmp 34) P np cp m rfl Try.underlying26 info8s (by kernel_rfl) (by kernel_rfl) (by omega)) ?_
        simp only [Act.put, List.setIfInBounds_toArray, List.set_cons_succ, List.set_cons_zero]
        refine s_val (o := ⟨some 8, _, _, _, _, _⟩) (.slice P m cp) rfl (by kernel_rfl) (fun u hu => exec_assign (.tmp 35) (.slice P m cp) rfl (by kernel_rfl)) ?_
        simp only [Act.put, List.setIfInBounds_toArray, List.set_cons_succ, List.set_cons_zero]
        refine s_done ?_
        have kd : Kept wr wr.drew := Keep.drew (Keep.refl _ wr)
        generalize wr.drew = wx at kd ⊢
        have kx := kr.trans kd
        have HDx := Lib.hid (HD.out.kept kd)
        have HEx := Lib.hid (HE.out.kept kd)
        clear kd kr HD HE hmin HC
        go_wp2_with fail
        refine (roomy_any P m cp ps 7 7 wx rfl (HPs.out.kept kx) (by omega) hpl).mono ?_
        rintro e w3 ⟨g3, rfl, hg3, R3, k3⟩
        have kw3 := kx.trans k3
        have HD3 := Lib.hid (HDx.out.kept k3)
        have HE3 := Lib.hid (HEx.out.kept k3)
        have HR3 := Lib.hid R3
        have HP3 : Hid (Bytes w3 (.slice P m cp) ps) := ⟨P, m, cp, rfl, hpl, HPs.out.kept kw3, by omega, hcp, HPn.out⟩
        have HF3 : Hid (Bytes w3 (.slice (some ⟨g3, 0, none⟩) m (m + 80)) ps) := ⟨_, m, _, rfl, hpl, R8.pad2 R3, by omega, by unfold maxLen; omega, fun h => by cases h⟩
        obtain ⟨N, hN⟩ : ∃ N, N = m + 80 := ⟨_, rfl⟩
        rw [← hN] at HR3 HF3 ⊢
        have hN1 : m ≤ N := by omega
        have HN := Lib.hid hN
        have hlb400 : Hid (left.length ≤ 400000) := by show _ ≤ _; have := hlen.out; omega
        have hps400 : Hid (ps.length ≤ 400000) := by show _ ≤ _; have := hpl.out; omega
        obtain ⟨Lo, hLo⟩ : ∃ Lo, Lo = feedB bad left ps := ⟨_, rfl⟩
        obtain ⟨bad', hb'⟩ : ∃ bad', bad' = feedX bad left ps := ⟨_, rfl⟩
        obtain ⟨left', hl'⟩ : ∃ left', left' = feedL bad left ps := ⟨_, rfl⟩
        have HLo := Lib.hid hLo
        have HB' := Lib.hid hb'
        have HL' := Lib.hid hl'
        have hll' : Hid (left'.length ≤ 400 * (i + 1)) := by
          show _ ≤ _
          have h1 := feedL_le bad left ps
          rw [← hl'] at h1
          have h2 := hlen.out
          have h3 := hpl.out
          omega
        have hLol : Hid (Lo.length ≤ 1000000) := by
          show _ ≤ _
          rw [hLo]
          have h1 := feedB_le bad left ps
          have h2 := hlen.out
          have h3 := hpl.out
          omega
        clear hLo hb' hl' hN R3 k3 kx HDx HEx
        go_wp2_with fail
        refine wp_sched2 (fun u => Kept w u) [(0, 0), (1, 0), (2, 0), (3, 0), (4, 0), (6, 0), (7, 0), (5, 1), (8, 1), (9, 1), (10, 0), (11, 0), (9999, 2), (12, 0), (14, 0), (15, 3), (16, 3), (17, 3), (13, 4), (18, 3), (19, 0), (20, 0), (21, 0), (23, 0), (24, 3), (25, 3), (26, 3), (27, 0), (22, 4), (28, 3), (29, 0), (30, 0), (31, 0), (32, 0), (33, 4), (34, 0), (35, 0)] (by kernel_rfl) (by kernel_rfl) (Keep.drew kw3) ?_
        refine t_val (o := ⟨some 38, _, _, _, _, _⟩) (.pointer (some ⟨g, 0, none⟩)) rfl (by kernel_rfl) (fun u hu => exec_move (.tmp 5) (.pointer (some ⟨g, 0, none⟩)) rfl (by kernel_rfl)) ?_
        simp only [Act.put, List.setIfInBounds_toArray, List.set_cons_succ, List.set_cons_zero]
        refine t_val (o := ⟨some 39, _, _, _, _, _⟩) (.slice (some ⟨g3, 0, none⟩) N N) rfl (by kernel_rfl) (fun u hu => exec_move (.tmp 9) (.slice (some ⟨g3, 0, none⟩) N N) rfl (by kernel_rfl)) ?_
        simp only [Act.put, List.setIfInBounds_toArray, List.set_cons_succ, List.set_cons_zero]
        refine t_val (o := ⟨some 40, _, _, _, _, _⟩) (.slice P m cp) rfl (by kernel_rfl) (fun u hu => exec_move (.tmp 8) (.slice P m cp) rfl (by kernel_rfl)) ?_
        simp only [Act.put, List.setIfInBounds_toArray, List.set_cons_succ, List.set_cons_zero]
        refine t_val (o := ⟨some 41, _, _, _, _, _⟩) (.int .i64 ((m : Nat) : Int)) rfl (by kernel_rfl) (fun u hu => exec_len (.tmp 40) _ _ Try.underlying26 (P) (m) (cp) rfl (by kernel_rfl)) ?_
        simp only [Act.put, List.setIfInBounds_toArray, List.set_cons_succ, List.set_cons_zero]
        refine t_val (o := ⟨some 42, _, _, _, _, _⟩) (.slice (some ⟨g3, 0, none⟩) m N) rfl (by kernel_rfl) (fun u hu => exec_upto 26 5 1 (.tmp 39) (.tmp 41) (some ⟨g3, 0, none⟩) N N m rfl Try.underlying26 info8s (by kernel_rfl) (by kernel_rfl) (by omega)) ?_
        simp only [Act.put, List.setIfInBounds_toArray, List.set_cons_succ, List.set_cons_zero]
        refine t_val (o := ⟨some 44, _, _, _, _, _⟩) (.pointer (some ⟨h, 0, none⟩)) rfl (by kernel_rfl) (fun u hu => exec_move (.tmp 6) (.pointer (some ⟨h, 0, none⟩)) rfl (by kernel_rfl)) ?_
        simp only [Act.put, List.setIfInBounds_toArray, List.set_cons_succ, List.set_cons_zero]
        refine t_val (o := ⟨some 45, _, _, _, _, _⟩) (.slice P m cp) rfl (by kernel_rfl) (fun u hu => exec_move (.tmp 8) (.slice P m cp) rfl (by kernel_rfl)) ?_
        simp only [Act.put, List.setIfInBounds_toArray, List.set_cons_succ, List.set_cons_zero]
        refine t_call (o := ⟨some 43, _, _, _, _, _⟩) 10 #[.pointer (some ⟨g, 0, none⟩), .slice (some ⟨g3, 0, none⟩) m N] rfl (by kernel_rfl) (exec_call 10 _ [.tmp 38, .tmp 42] _ _ Try.func10 (by kernel_rfl) (by kernel_rfl) rfl (by kernel_rfl)) ?_
        refine (feed_any g bad left ps _ w3.drew (HD3.out.kept (Keep.drew (Keep.refl _ w3))) (HF3.out.kept (Keep.drew (Keep.refl _ w3))) hlb400.out hps400.out).mono ?_
        rintro e w4 ⟨va, rfl, hF⟩
        rw [← HLo.out, ← HB'.out, ← HL'.out] at hF
        have kd : Kept w3 w3.drew := Keep.drew (Keep.refl _ w3)
        have kw4 : Kept w w4 := Kept.trans' (kw3.trans kd) hF.keep hgl.out
        have HVa := Lib.hid hF.bod
        have HD4 := Lib.hid hF.df
        have HE4 := Lib.hid ((HE3.out.kept kd).besides (HD3.out.kept kd) hF.keep hne.out.symm (by decide))
        have HR4 := Lib.hid ((HR3.out.kept kd).keep hF.keep (row_ne_df (HD3.out.kept kd) (HR3.out.kept kd) (by decide)))
        have HP4 : Hid (Bytes w4 (.slice P m cp) ps) := ⟨P, m, cp, rfl, hpl, HPs.out.kept kw4, by omega, hcp, HPn.out⟩
        refine ⟨_, rfl, kw4, ?_⟩
        clear hF kd HD3 HE3 HR3 HP3 HF3 kw3
        simp only [Act.put, List.setIfInBounds_toArray, List.set_cons_succ, List.set_cons_zero]
        refine t_call (o := ⟨some 46, _, _, _, _, _⟩) 15 #[.pointer (some ⟨h, 0, none⟩), .slice P m cp] rfl (by kernel_rfl) (exec_call 15 _ [.tmp 44, .tmp 45] _ _ Try.func15 (by kernel_rfl) (by kernel_rfl) rfl (by kernel_rfl)) ?_
        refine (refFeed_any h bad left ps _ w4 HE4.out HP4.out hlb400.out hps400.out).mono ?_
        rintro e w5 ⟨vb, rfl, hF⟩
        rw [← HLo.out, ← HB'.out, ← HL'.out] at hF
        have kw5 : Kept w w5 := Kept.trans' kw4 hF.keep hgl2.out
        have HVb := Lib.hid hF.bod
        have HE5 := Lib.hid hF.df
        have HD5 := Lib.hid (HD4.out.besides HE4.out hF.keep hne.out (by decide))
        have HR5 := Lib.hid (HR4.out.keep hF.keep (row_ne_df HE4.out HR4.out (by decide)))
        have HVa5 := Lib.hid (HVa.out.besides HE4.out hF.keep (by decide))
        refine ⟨_, rfl, kw5, ?_⟩
        clear hF HD4 HE4 HR4 HP4 HVa kw4
        simp only [Act.put, List.setIfInBounds_toArray, List.set_cons_succ, List.set_cons_zero]
        refine t_call (o := ⟨some 47, _, _, _, _, _⟩) 11 #[va, vb] rfl (by kernel_rfl) (exec_call 11 _ [.tmp 43, .tmp 46] _ _ Try.func11 (by kernel_rfl) (by kernel_rfl) rfl (by kernel_rfl)) ?_
        refine (rows_any va vb Lo Lo w5 HVa5.out.rec HVb.out.rec hLol.out hLol.out).mono ?_
        rintro e w6 ⟨rfl, k6⟩
        rw [decide_eq_true rfl]
        have kw6 := kw5.trans k6
        have HD6 := Lib.hid (HD5.out.kept k6)
        have HE6 := Lib.hid (HE5.out.kept k6)
        have HR6 := Lib.hid (HR5.out.kept k6)
        refine ⟨_, rfl, kw6, ?_⟩
        clear HVa5 HVb HD5 HE5 HR5 k6 kw5
        obtain ⟨R, n6, c6, hBl, hOw⟩ := HE6.out
        have hn6 : Hid (left'.length = n6) := hOw.len
        have HBl := Lib.hid hBl
        clear hBl hOw
        simp only [Act.put, List.setIfInBounds_toArray, List.set_cons_succ, List.set_cons_zero]
        refine t_val (o := ⟨some 48, _, _, _, _, _⟩) (.bool false) rfl (by kernel_rfl) (fun u hu => exec_not _ (.tmp 47) true rfl (by kernel_rfl)) ?_
        simp only [Act.put, List.setIfInBounds_toArray, List.set_cons_succ, List.set_cons_zero]
        refine t_val (o := ⟨some 49, _, _, _, _, _⟩) (.bool false) rfl (by kernel_rfl) (fun u hu => exec_move (.tmp 48) (.bool false) rfl (by kernel_rfl)) ?_
        simp only [Act.put, List.setIfInBounds_toArray, List.set_cons_succ, List.set_cons_zero]
        refine t_switch ?_
        refine t_val (o := ⟨some 50, _, _, _, _, _⟩) (.pointer (some ⟨g, 0, none⟩)) rfl (by kernel_rfl) (fun u hu => exec_move (.tmp 5) (.pointer (some ⟨g, 0, none⟩)) rfl (by kernel_rfl)) ?_
        simp only [Act.put, List.setIfInBounds_toArray, List.set_cons_succ, List.set_cons_zero]
        refine t_val (o := ⟨some 52, _, _, _, _, _⟩) (.pointer (some ⟨h, 0, none⟩)) rfl (by kernel_rfl) (fun u hu => exec_move (.tmp 6) (.pointer (some ⟨h, 0, none⟩)) rfl (by kernel_rfl)) ?_
        simp only [Act.put, List.setIfInBounds_toArray, List.set_cons_succ, List.set_cons_zero]
        refine t_val2 (o := ⟨some 53, _, _, _, _, _⟩) (.pointer (some ⟨h, 0, none⟩)) rfl (by kernel_rfl) (fun u hu => exec_nilc (.tmp 52) _ rfl (by kernel_rfl)) ?_
        simp only [Act.put, List.setIfInBounds_toArray, List.set_cons_succ, List.set_cons_zero]
        refine t_val2 (o := ⟨some 54, _, _, _, _, _⟩) (.pointer (some ⟨h, 1, none⟩)) rfl (by kernel_rfl) (fun u hu => exec_rbad (.tmp 53) h rfl (by kernel_rfl)) ?_
        simp only [Act.put, List.setIfInBounds_toArray, List.set_cons_succ, List.set_cons_zero]
        refine t_val2 (o := ⟨some 55, _, _, _, _, _⟩) (.bool bad') rfl (by kernel_rfl) (fun u hu => exec_loadb (.tmp 54) ⟨h, 1, none⟩ _ rfl (by kernel_rfl) ((HBl.out.kept hu).cell 1)) ?_
        simp only [Act.put, List.setIfInBounds_toArray, List.set_cons_succ, List.set_cons_zero]
        refine t_call2 (o := ⟨some 51, _, _, _, _, _⟩) 12 #[.pointer (some ⟨g, 0, none⟩)] rfl (by kernel_rfl) (exec_call 12 _ [.tmp 50] _ _ Try.func12 (by kernel_rfl) (by kernel_rfl) rfl (by kernel_rfl)) ?_
        refine (bad_any g bad' left' w6 HD6.out).mono ?_
        rintro e w7 ⟨rfl, rfl⟩
        refine ⟨_, rfl, kw6, Kept.refl _, ?_⟩
        simp only [Act.put, List.setIfInBounds_toArray, List.set_cons_succ, List.set_cons_zero]
        refine t_val2 (o := ⟨some 56, _, _, _, _, _⟩) (.bool false) rfl (by kernel_rfl) (fun u hu => exec_neqb (.tmp 51) (.tmp 55) _ bad' rfl (by kernel_rfl) (by kernel_rfl)) ?_
        simp only [Act.put, List.setIfInBounds_toArray, List.set_cons_succ, List.set_cons_zero]
        refine t_val (o := ⟨some 57, _, _, _, _, _⟩) (.bool false) rfl (by kernel_rfl) (fun u hu => exec_pickF (.tmp 49) (.const (.bool true)) (.tmp 56) (.bool false) rfl (by kernel_rfl) (by kernel_rfl)) ?_
        simp only [Act.put, List.setIfInBounds_toArray, List.set_cons_succ, List.set_cons_zero]
        refine t_val (o := ⟨some 58, _, _, _, _, _⟩) (.bool false) rfl (by kernel_rfl) (fun u hu => exec_move (.tmp 57) (.bool false) rfl (by kernel_rfl)) ?_
        simp only [Act.put, List.setIfInBounds_toArray, List.set_cons_succ, List.set_cons_zero]
        refine t_val (o := ⟨some 59, _, _, _, _, _⟩) (.pointer (some ⟨g, 0, none⟩)) rfl (by kernel_rfl) (fun u hu => exec_move (.tmp 5) (.pointer (some ⟨g, 0, none⟩)) rfl (by kernel_rfl)) ?_
        simp only [Act.put, List.setIfInBounds_toArray, List.set_cons_succ, List.set_cons_zero]
        refine t_val (o := ⟨some 61, _, _, _, _, _⟩) (.pointer (some ⟨h, 0, none⟩)) rfl (by kernel_rfl) (fun u hu => exec_move (.tmp 6) (.pointer (some ⟨h, 0, none⟩)) rfl (by kernel_rfl)) ?_
        simp only [Act.put, List.setIfInBounds_toArray, List.set_cons_succ, List.set_cons_zero]
        refine t_val2 (o := ⟨some 62, _, _, _, _, _⟩) (.pointer (some ⟨h, 0, none⟩)) rfl (by kernel_rfl) (fun u hu => exec_nilc (.tmp 61) _ rfl (by kernel_rfl)) ?_
        simp only [Act.put, List.setIfInBounds_toArray, List.set_cons_succ, List.set_cons_zero]
        refine t_val2 (o := ⟨some 63, _, _, _, _, _⟩) (.pointer (some ⟨h, 0, none⟩)) rfl (by kernel_rfl) (fun u hu => exec_rest (.tmp 62) h rfl (by kernel_rfl)) ?_
        simp only [Act.put, List.setIfInBounds_toArray, List.set_cons_succ, List.set_cons_zero]
        refine t_val2 (o := ⟨some 64, _, _, _, _, _⟩) (.slice R n6 c6) rfl (by kernel_rfl) (fun u hu => exec_load_sl (.tmp 63) ⟨h, 0, none⟩ _ rfl (by kernel_rfl) ((HBl.out.kept hu).cell 0)) ?_
        simp only [Act.put, List.setIfInBounds_toArray, List.set_cons_succ, List.set_cons_zero]
        refine t_val (o := ⟨some 65, _, _, _, _, _⟩) (.int .i64 ((n6 : Nat) : Int)) rfl (by kernel_rfl) (fun u hu => exec_len (.tmp 64) _ _ Try.underlying26 (R) (n6) (c6) rfl (by kernel_rfl)) ?_
        simp only [Act.put, List.setIfInBounds_toArray, List.set_cons_succ, List.set_cons_zero]
        refine t_call2 (o := ⟨some 60, _, _, _, _, _⟩) 13 #[.pointer (some ⟨g, 0, none⟩)] rfl (by kernel_rfl) (exec_call 13 _ [.tmp 59] _ _ Try.func13 (by kernel_rfl) (by kernel_rfl) rfl (by kernel_rfl)) ?_
        refine (left_any g n6 bad' left' w6 HD6.out hn6.out).mono ?_
        rintro e w7 ⟨rfl, rfl⟩
        refine ⟨_, rfl, kw6, Kept.refl _, ?_⟩
        simp only [Act.put, List.setIfInBounds_toArray, List.set_cons_succ, List.set_cons_zero]
        refine t_val2 (o := ⟨some 66, _, _, _, _, _⟩) (.bool false) rfl (by kernel_rfl) (fun u hu => exec_neqi (.tmp 60) (.tmp 65) _ (n6 : Int) (n6 : Int) false rfl (by kernel_rfl) (by kernel_rfl) (by simp)) ?_
        simp only [Act.put, List.setIfInBounds_toArray, List.set_cons_succ, List.set_cons_zero]
        refine t_val (o := ⟨some 67, _, _, _, _, _⟩) (.bool false) rfl (by kernel_rfl) (fun u hu => exec_pickF (.tmp 58) (.const (.bool true)) (.tmp 66) (.bool false) rfl (by kernel_rfl) (by kernel_rfl)) ?_
        simp only [Act.put, List.setIfInBounds_toArray, List.set_cons_succ, List.set_cons_zero]
        refine t_val (o := ⟨some 68, _, _, _, _, _⟩) (.bool false) rfl (by kernel_rfl) (fun u hu => exec_move (.tmp 67) (.bool false) rfl (by kernel_rfl)) ?_
        simp only [Act.put, List.setIfInBounds_toArray, List.set_cons_succ, List.set_cons_zero]
        refine t_val (o := ⟨some 69, _, _, _, _, _⟩) (.slice (some ⟨g3, 0, none⟩) N N) rfl (by kernel_rfl) (fun u hu => exec_move (.tmp 9) (.slice (some ⟨g3, 0, none⟩) N N) rfl (by kernel_rfl)) ?_
        simp only [Act.put, List.setIfInBounds_toArray, List.set_cons_succ, List.set_cons_zero]
        refine t_val (o := ⟨some 70, _, _, _, _, _⟩) (.slice P m cp) rfl (by kernel_rfl) (fun u hu => exec_move (.tmp 8) (.slice P m cp) rfl (by kernel_rfl)) ?_
        simp only [Act.put, List.setIfInBounds_toArray, List.set_cons_succ, List.set_cons_zero]
        refine t_call2 (o := ⟨some 71, _, _, _, _, _⟩) 16 #[.slice (some ⟨g3, 0, none⟩) N N, .slice P m cp, .int .u8 7] rfl (by kernel_rfl) (exec_call 16 _ [.tmp 69, .tmp 70, .const (.int .u8 7)] _ _ Try.func16 (by kernel_rfl) (by kernel_rfl) rfl (by kernel_rfl)) ?_
        have hI := intact_any P g3 m cp ps 7 7 w6 rfl (HN.out ▸ HR6.out) (HPs.out.kept kw6) (by omega) hpl
        rw [← HN.out] at hI
        refine hI.mono ?_
        rintro e w7 ⟨rfl, k7, rfl⟩
        have kw7 : Kept w (w6.drewN k7) := Keep.drewN kw6 k7
        refine ⟨_, rfl, kw7, kept_drewN w6 k7, ?_⟩
        simp only [Act.put, List.setIfInBounds_toArray, List.set_cons_succ, List.set_cons_zero]
        refine t_val (o := ⟨some 72, _, _, _, _, _⟩) (.bool false) rfl (by kernel_rfl) (fun u hu => exec_not _ (.tmp 71) true rfl (by kernel_rfl)) ?_
        simp only [Act.put, List.setIfInBounds_toArray, List.set_cons_succ, List.set_cons_zero]
        refine t_val (o := ⟨some 73, _, _, _, _, _⟩) (.bool false) rfl (by kernel_rfl) (fun u hu => exec_pickF (.tmp 68) (.const (.bool true)) (.tmp 72) (.bool false) rfl (by kernel_rfl) (by kernel_rfl)) ?_
        simp only [Act.put, List.setIfInBounds_toArray, List.set_cons_succ, List.set_cons_zero]
        refine t_done ?_
        have kd7 := kept_drewN w6 k7
        generalize w6.drewN k7 = w7 at kw7 kd7 ⊢
        have HD7 := Lib.hid (HD6.out.kept kd7)
        have HE7 := Lib.hid (HE6.out.kept kd7)
        clear HD6 HE6 HR6 kd7 kw6 HBl
        go_wp2
        exact ⟨⟨i + 1, bad', left', by go_num, by omega, hll', HD7, HE7, kw7⟩, by simp [intOf]; omega⟩
      · have hd12 : decide ((i : Int) < 12) = false := by simp; omega
        obtain ⟨m, hmin, hml, hmK⟩ := min_is nb 300
        have hmin : (if (300 : Int) < (nb : Int) then (300 : Int) else (nb : Int)) = (m : Int) := hmin
        have HVr := Lib.hid ((HV.out.kept kr).take2 m)
        have hlm : Hid ((b.take m).length = m) := by show _ = _; rw [List.length_take, hlb.out]; omega
        have HAn := HVn
        clear HD HE hlen HA
        go_wp2_with fail
        refine (put_any V m cb (b.take m) wr HVr.out hlm HAn.out (by omega)).mono ?_
        rintro e w3 ⟨vp, rfl, ⟨Ap, cp, rfl, hp⟩, k3⟩
        have HP := Lib.hid hp
        have HV3 := Lib.hid (HVr.out.kept k3)
        have kw3 := kr.trans k3
        clear hp k3 kr HVr
        go_wp2_with fail
        refine (refFrame_any V m cb (b.take m) w3 HV3.out hlm HAn.out (by omega)).mono ?_
        rintro e w4 ⟨vq, rfl, ⟨Aq, cq, rfl, hq⟩, k4⟩
        have HQ := Lib.hid hq
        have HP4 := Lib.hid (HP.out.kept k4)
        have kw4 := kw3.trans k4
        have hlp : (putOf (b.take m)).length ≤ maxLen := Nat.le_trans HQ.out.cap.1 HQ.out.cap.2.1
        have HLP := Lib.hid hlp
        clear hq k4 kw3 HV3 HP hlp
        go_wp2_with fail
        refine (same_is _ _ _ _ _ _ (putOf (b.take m)) (putOf (b.take m)) true w4 (decide_eq_true rfl) HP4.out.r8 HQ.out.r8 HLP.out rfl rfl).mono ?_
        rintro e w5 ⟨rfl, k5, rfl⟩
        have kw5 : Kept w (w4.drewN k5) := Keep.drewN kw4 k5
        clear HP4 HQ kw4
        go_wp2_with fail
        refine (frameRuns_any (w4.drewN k5)).mono ?_
        rintro e w6 ⟨rfl, k6⟩
        have kw6 := kw5.trans k6
        clear k6 kw5
        go_wp2
        go_ret
        exact ⟨rfl, kw6⟩
    · have hdl : decide ((i : Int) < (nl : Int)) = false := by simp; omega
      obtain ⟨m, hmin, hml, hmK⟩ := min_is nb 300
      have hmin : (if (300 : Int) < (nb : Int) then (300 : Int) else (nb : Int)) = (m : Int) := hmin
      have HVr := Lib.hid ((HV.out.kept kr).take2 m)
      have hlm : Hid ((b.take m).length = m) := by show _ = _; rw [List.length_take, hlb.out]; omega
      have HAn := HVn
      clear HD HE hlen HA
      go_wp2_with fail
      refine (put_any V m cb (b.take m) wr HVr.out hlm HAn.out (by omega)).mono ?_
      rintro e w3 ⟨vp, rfl, ⟨Ap, cp, rfl, hp⟩, k3⟩
      have HP := Lib.hid hp
      have HV3 := Lib.hid (HVr.out.kept k3)
      have kw3 := kr.trans k3
      clear hp k3 kr HVr
      go_wp2_with fail
      refine (refFrame_any V m cb (b.take m) w3 HV3.out hlm HAn.out (by omega)).mono ?_
      rintro e w4 ⟨vq, rfl, ⟨Aq, cq, rfl, hq⟩, k4⟩
      have HQ := Lib.hid hq
      have HP4 := Lib.hid (HP.out.kept k4)
      have kw4 := kw3.trans k4
      have hlp : (putOf (b.take m)).length ≤ maxLen := Nat.le_trans HQ.out.cap.1 HQ.out.cap.2.1
      have HLP := Lib.hid hlp
      clear hq k4 kw3 HV3 HP hlp
      go_wp2_with fail
      refine (same_is _ _ _ _ _ _ (putOf (b.take m)) (putOf (b.take m)) true w4 (decide_eq_true rfl) HP4.out.r8 HQ.out.r8 HLP.out rfl rfl).mono ?_
      rintro e w5 ⟨rfl, k5, rfl⟩
      have kw5 : Kept w (w4.drewN k5) := Keep.drewN kw4 k5
      clear HP4 HQ kw4
      go_wp2_with fail
      refine (frameRuns_any (w4.drewN k5)).mono ?_
      rintro e w6 ⟨rfl, k6⟩
      have kw6 := kw5.trans k6
      clear k6 kw5
      go_wp2
      go_ret
      exact ⟨rfl, kw6⟩
end Go.Proofs.Ytkomionfnpgjgaa
