/-
  The contract of jobberlaw5.FrameCuts: bodies that are put behind each other come out, however the stream is cut; it answers true and turns no block. No condition.
-/
import Derived.Test.YtkomionfnpgjgaaByte5
import Derived.Test.YtkomionfnpgjgaaLies
namespace Go.Proofs.Ytkomionfnpgjgaa
open Go.RowKit
set_option linter.unusedVariables false

theorem own_df {t : TypeId} {w : World} {base g k c : Nat} {A : Option Addr} {vs : List Value} {bad : Bool} {left : List UInt8} (h : DF t w g bad left) (hg : OwnG w base 26 1 A k c vs) (ht : t ≠ 26) : ∀ ad, A = some ad → ¬ ad.block = g := by
  obtain ⟨_, _, _, hb, _⟩ := h
  exact own_type hg hb ht
set_option maxHeartbeats 400000 in
theorem new_blk (w : World) : Calls Try.prog 9 #[] w fun e w' => e = .returned (.pointer (some ⟨w.heap.size, 0, none⟩)) ∧ Blk w' w.heap.size 45 [.slice none 0 0, .bool false] ∧ Kept w w' := by
  go_enter Try.func9, Try.ntmps9
  go_wp2
  go_ret
  exact ⟨rfl, Blk.new _ _ _, (Keep.refl _ w).alloc _⟩
/-- x[:h] -/
theorem slice_h8 (b o n c h : Nat) (hh : h ≤ c) (u : World) : (Instr.slice 26 (.slice (some ⟨b, o, none⟩) n c) none (some (.int .i64 (h : Int))) none).run Try.prog u = .ok (.slice (some ⟨b, o, none⟩) h c) u := by
  obtain ⟨i0, hi0, hz0, hz1, hz2⟩ := info_parts info8
  have hr := run_slice_h (P := Try.prog) (w := u) 26 (some ⟨b, o, none⟩) n c Try.underlying26 .i64 (h : Int) (by omega) (by omega)
  rw [hr, elem8]
  simp [sizeOf, typeInfo, hi0, hz1, sliced, Addr.add]
/-- a part is fed -/
theorem cut_move {left r : List UInt8} {L G B : List (List UInt8)} (h : cut (left ++ r) = (B, [], false)) (hG : G ++ B = L) (hL : L.length ≤ 8) (n : Nat) :
    ∃ B1 l1 B2, cut (left ++ r.take n) = (B1, l1, false) ∧ cut (l1 ++ r.drop n) = (B2, [], false) ∧ (G ++ B1) ++ B2 = L ∧ cut l1 = ([], l1, false) ∧ l1.length ≤ left.length + (r.take n).length ∧ (G ++ B1).length ≤ 8 := by
  obtain ⟨B1, l1, x1, hc⟩ : ∃ B1 l1 x1, cut (left ++ r.take n) = (B1, l1, x1) := ⟨_, _, _, rfl⟩
  have ha := cut_app (left ++ r.take n) (r.drop n)
  rw [List.append_assoc, List.take_append_drop, h, hc] at ha
  have hle := cut_le (left ++ r.take n)
  rw [hc, List.length_append] at hle
  cases x1 with
  | true =>
    simp only [if_true] at ha
    injection ha with _ ha
    injection ha with _ ha
    cases ha
  | false =>
    simp only [if_neg (show ¬ (false = true) by decide)] at ha
    injection ha with a1 ha
    injection ha with a2 a3
    have e : (G ++ B1) ++ (cut (l1 ++ r.drop n)).1 = L := by rw [List.append_assoc, ← a1, hG]
    refine ⟨B1, l1, (cut (l1 ++ r.drop n)).1, hc, ?_, e, cut_left hc, hle, ?_⟩
    · calc cut (l1 ++ r.drop n) = ((cut (l1 ++ r.drop n)).1, (cut (l1 ++ r.drop n)).2.1, (cut (l1 ++ r.drop n)).2.2) := rfl
        _ = _ := by rw [← a2, ← a3]
    · rw [← e, List.length_append] at hL
      omega
theorem cuts_at {w : World} {A : Option Addr} {zs : List Int} (h : LAt w A 1 Int1 zs) {i : Nat} (hi : i < zs.length) : ∃ z b o, A = some ⟨b, o, none⟩ ∧ w.cell? ⟨b, o + i, none⟩ = some (.int .i64 z) := by
  obtain ⟨b, o, cs, rfl, ⟨rfl, _⟩, _, hc⟩ := h i zs[i] (List.getElem?_eq_getElem hi)
  refine ⟨zs[i], b, o, rfl, ?_⟩
  have := hc 0 _ rfl
  simpa using this
theorem all_block {t : TypeId} {w : World} {g base n c : Nat} {A : Option Addr} {bad : Bool} {left xs : List UInt8} (h : DF t w g bad left) (hA : Own8 w base A n c xs) : ∃ ga, (∀ ad, A = some ad → ad = ⟨ga, 0, none⟩) ∧ (t ≠ 5 → ga ≠ g) := by
  rcases hA with ⟨rfl, _⟩ | ⟨g', rfl, _, _, hr⟩
  · exact ⟨g + 1, (fun ad e => by cases e), fun _ => by omega⟩
  · exact ⟨g', (fun ad e => by injection e with e; exact e.symm), fun ht => row_ne_df h hr ht⟩

set_option maxRecDepth 100000 in
set_option maxHeartbeats 3200000 in
theorem frameCuts_any (v vc : Value) (l : List (List UInt8)) (zs : List Int) (w : World) (hv : RecV w v l) (hvc : Elems w vc 1 Int1 zs) : Calls Try.prog 5 #[v, vc] w fun e w' => e = .returned (.bool true) ∧ Kept w w' := by
  obtain ⟨A, nl, cl, rfl, hll, hA, -, -⟩ := hv
  obtain ⟨C, nc, cc0, rfl, hlc, hI, -, -⟩ := hvc
  have HA := Lib.hid hA
  have HI := Lib.hid hI
  clear hA hI
  go_enter Try.func5, Try.ntmps5
  go_wp2_with fail
  refine (new_blk w).mono ?_
  rintro e w1 ⟨rfl, hD, k1⟩
  obtain ⟨g, hg⟩ : ∃ g, g = w.heap.size := ⟨_, rfl⟩
  rw [← hg] at hD ⊢
  have hgl : Hid (¬ g < w.heap.size) := by show ¬ _; omega
  have HD := Lib.hid hD
  clear hD hg
  go_wp2_with fail
  go_loopw [6, 7, 9] (fun v6 v7 v9 wr => ∃ (i na ca cw : Nat) (Aa Aw : Option Addr) (vs : List Value) (L : List (List UInt8)), v9 = .int .i64 i ∧ v6 = .slice Aa na ca ∧ v7 = .slice Aw i cw ∧ i ≤ 8 ∧ na ≤ 64 * i ∧ Hid (L.length = i) ∧ Hid (∀ b ∈ L, 1 ≤ b.length ∧ b.length ≤ 61) ∧ Hid (Own8 wr w.heap.size Aa na ca (L.flatMap putOf)) ∧ Hid (OwnG wr w.heap.size 26 1 Aw i cw vs) ∧ Hid (RowsE wr w.heap.size vs L) ∧ Hid (∀ ad, Aa = some ad → ∀ g n c, .slice (some ⟨g, 0, none⟩) n c ∈ vs → g ≠ ad.block) ∧ Hid (Blk wr g 45 [.slice none 0 0, .bool false]) ∧ Kept w wr) (fun _ _ v _ => 8 - (intOf v).toNat)
  case atStart => exact ⟨0, 0, 0, 0, none, none, [], [], rfl, rfl, rfl, by omega, by omega, rfl, (fun b hb => by simp at hb), Own8.nil _ _, OwnG.nil _ _ _ _, RowsE.nil _ _, (fun ad e => by cases e), HD, k1⟩
  case round =>
    obtain ⟨i, na, ca, cw, Aa, Aw, vs, L, rfl, rfl, rfl, hi, hna, HLi, HLb, HAll, HW, HE, HAp, HD, kr⟩ := hrel
    by_cases hlt : i < nl
    · have hdl : decide ((i : Int) < (nl : Int)) = true := by simp; omega
      by_cases h8 : i < 8
      · have hd8 : decide ((i : Int) < 8) = true := by simp; omega
        have hil : i < l.length := by rw [hll.out]; omega
        obtain ⟨b1, o1, u1, rfl, hc1, hu1⟩ := HA.out i l[i] (List.getElem?_eq_getElem hil)
        generalize l[i] = x at hu1
        obtain ⟨P, np, cp, rfl, hlp, hP, hnp, hcp, hPn⟩ := hu1
        have HC : Hid (w.cell? ⟨b1, o1 + i * 1, none⟩ = some (.slice P np cp)) := by show _ = _; rw [Nat.mul_one]; exact hc1
        obtain ⟨m, hmin, hml, hmK⟩ := min_is np 60
        have hmin : Hid ((if (60 : Int) < (np : Int) then (60 : Int) else (np : Int)) = (m : Int)) := hmin
        obtain ⟨ps, hps⟩ : ∃ ps, ps = x.take m := ⟨_, rfl⟩
        have hpl : Hid (ps.length = m) := by show _ = _; rw [hps, List.length_take, hlp.out]; omega
        have hPs : R8 w P ps := by rw [hps]; exact hP.take2 m
        have HPs := Lib.hid hPs
        have HPn := Lib.hid hPn
        clear hps hPs hP hc1 hil hPn
        go_wp2_with fail
        refine wp_sched (fun u => Kept w u) [(0, 0), (1, 0), (3, 0), (4, 0), (5, 0), (6, 0), (7, 0), (8, 0), (9, 0), (10, 0), (11, 0), (12, 0), (13, 0), (2, 1), (14, 1), (15, 0)] (by kernel_rfl) (by kernel_rfl) (Keep.drew kr) ?_
        refine s_val (o := ⟨some 26, _, _, _, _, _⟩) (.int .i64 (i : Int)) rfl (by kernel_rfl) (fun u hu => exec_move (.tmp 9) (.int .i64 (i : Int)) rfl (by kernel_rfl)) ?_
        simp only [Act.put, List.setIfInBounds_toArray, List.set_cons_succ, List.set_cons_zero]
        refine s_val (o := ⟨some 27, _, _, _, _, _⟩) (.int .u8 (i : Int)) rfl (by kernel_rfl) (fun u hu => exec_tou8 (.tmp 26) i rfl (by kernel_rfl) (by omega)) ?_
        simp only [Act.put, List.setIfInBounds_toArray, List.set_cons_succ, List.set_cons_zero]
        refine s_val (o := ⟨some 29, _, _, _, _, _⟩) (.slice (some ⟨b1, o1, none⟩) nl cl) rfl (by kernel_rfl) (fun u hu => exec_move (.tmp 0) (.slice (some ⟨b1, o1, none⟩) nl cl) rfl (by kernel_rfl)) ?_
        simp only [Act.put, List.setIfInBounds_toArray, List.set_cons_succ, List.set_cons_zero]
        refine s_val (o := ⟨some 30, _, _, _, _, _⟩) (.int .i64 (i : Int)) rfl (by kernel_rfl) (fun u hu => exec_move (.tmp 9) (.int .i64 (i : Int)) rfl (by kernel_rfl)) ?_
        simp only [Act.put, List.setIfInBounds_toArray, List.set_cons_succ, List.set_cons_zero]
        refine s_val (o := ⟨some 31, _, _, _, _, _⟩) (.pointer (some ⟨b1, o1 + i * 1, none⟩)) rfl (by kernel_rfl) (fun u hu => exec_index 24 26 1 (.tmp 29) (.tmp 30) (b1) (o1) (nl) (cl) (i) rfl Try.underlying24 sl_size (by kernel_rfl) (by kernel_rfl) (by omega)) ?_
        simp only [Act.put, List.setIfInBounds_toArray, List.set_cons_succ, List.set_cons_zero]
        refine s_val (o := ⟨some 32, _, _, _, _, _⟩) (.slice P np cp) rfl (by kernel_rfl) (fun u hu => exec_load_sl (.tmp 31) ⟨b1, o1 + i * 1, none⟩ (.slice P np cp) rfl (by kernel_rfl) (Kept.cell hu HC.out)) ?_
        simp only [Act.put, List.setIfInBounds_toArray, List.set_cons_succ, List.set_cons_zero]
        refine s_val (o := ⟨some 33, _, _, _, _, _⟩) (.slice (some ⟨b1, o1, none⟩) nl cl) rfl (by kernel_rfl) (fun u hu => exec_move (.tmp 0) (.slice (some ⟨b1, o1, none⟩) nl cl) rfl (by kernel_rfl)) ?_
        simp only [Act.put, List.setIfInBounds_toArray, List.set_cons_succ, List.set_cons_zero]
        refine s_val (o := ⟨some 34, _, _, _, _, _⟩) (.int .i64 (i : Int)) rfl (by kernel_rfl) (fun u hu => exec_move (.tmp 9) (.int .i64 (i : Int)) rfl (by kernel_rfl)) ?_
        simp only [Act.put, List.setIfInBounds_toArray, List.set_cons_succ, List.set_cons_zero]
        refine s_val (o := ⟨some 35, _, _, _, _, _⟩) (.pointer (some ⟨b1, o1 + i * 1, none⟩)) rfl (by kernel_rfl) (fun u hu => exec_index 24 26 1 (.tmp 33) (.tmp 34) (b1) (o1) (nl) (cl) (i) rfl Try.underlying24 sl_size (by kernel_rfl) (by kernel_rfl) (by omega)) ?_
        simp only [Act.put, List.setIfInBounds_toArray, List.set_cons_succ, List.set_cons_zero]
        refine s_val (o := ⟨some 36, _, _, _, _, _⟩) (.slice P np cp) rfl (by kernel_rfl) (fun u hu => exec_load_sl (.tmp 35) ⟨b1, o1 + i * 1, none⟩ (.slice P np cp) rfl (by kernel_rfl) (Kept.cell hu HC.out)) ?_
        simp only [Act.put, List.setIfInBounds_toArray, List.set_cons_succ, List.set_cons_zero]
        refine s_val (o := ⟨some 37, _, _, _, _, _⟩) (.int .i64 ((np : Nat) : Int)) rfl (by kernel_rfl) (fun u hu => exec_len (.tmp 36) _ _ Try.underlying26 (P) (np) (cp) rfl (by kernel_rfl)) ?_
        simp only [Act.put, List.setIfInBounds_toArray, List.set_cons_succ, List.set_cons_zero]
        refine s_val (o := ⟨some 38, _, _, _, _, _⟩) (.int .i64 (m : Int)) rfl (by kernel_rfl) (fun u hu => exec_min (.tmp 37) (.const (.int .i64 60)) _ (np : Int) 60 (m : Int) rfl (by kernel_rfl) (by kernel_rfl) hmin.out) ?_
        simp only [Act.put, List.setIfInBounds_toArray, List.set_cons_succ, List.set_cons_zero]
        refine s_val (o := ⟨some 39, _, _, _, _, _⟩) (.slice P m cp) rfl (by kernel_rfl) (fun u hu => exec_upto 26 5 1 (.tmp 32) (.tmp 38) P np cp m rfl Try.underlying26 info8s (by kernel_rfl) (by kernel_rfl) (by omega)) ?_
        simp only [Act.put, List.setIfInBounds_toArray, List.set_cons_succ, List.set_cons_zero]
        refine s_turn (o := ⟨some 28, _, _, _, _, _⟩) _ _ rfl (by kernel_rfl) (exec_one 26 5 (.tmp 27) (.int .u8 (i : Int)) (.int .u8 0) rfl Try.underlying26 infoU2 rfl (by kernel_rfl)) (Keep.alloc (Keep.drew kr) _) ?_
        have kx : Kept w (wr.drew.alloc (.cells #[.int .u8 (i : Int)] 5)) := Keep.alloc (Keep.drew kr) _
        have kr1 : Kept wr (wr.drew.alloc (.cells #[.int .u8 (i : Int)] 5)) := Keep.alloc (Keep.drew (Keep.refl _ wr)) _
        have R1 : Row8 (wr.drew.alloc (.cells #[.int .u8 (i : Int)] 5)) wr.drew.heap.size 1 [UInt8.ofNat i] := by
          have := row8_new wr.drew [UInt8.ofNat i] (by unfold maxLen; simp)
          rwa [show (cells8 [UInt8.ofNat i]).toArray = #[.int .u8 (i : Int)] by simp [cells8]; omega] at this
        have hs1 : wr.heap.size ≤ wr.drew.heap.size := Nat.le_refl _
        generalize wr.drew.alloc (.cells #[.int .u8 (i : Int)] 5) = wy at kx R1 kr1 ⊢
        generalize wr.drew.heap.size = g1 at R1 hs1 ⊢
        simp only [Act.put, List.setIfInBounds_toArray, List.set_cons_succ, List.set_cons_zero]
        refine s_oper (o := ⟨some 40, _, _, _, _, _⟩) rfl (by kernel_rfl) fun K hK => ?_
        refine op_append8 wy (.tmp 28) (.tmp 39) rfl wr.heap.size g1 1 1 [UInt8.ofNat i] (by kernel_rfl) rfl R1 hs1 P m cp ps (by kernel_rfl) hpl.out (HPs.out.kept kx) HPn.out (by omega) ?_
        intro w2 g2 c2 R2 hg2 k2
        have kw2 : Kept w w2 := Kept.trans' kx k2 (by have := kr.size; omega)
        have kr2 : Kept wr w2 := Kept.trans' kr1 k2 (by omega)
        refine hK _ _ kw2 ?_
        simp only [Act.put, List.setIfInBounds_toArray, List.set_cons_succ, List.set_cons_zero]
        refine s_val (o := ⟨some 10, _, _, _, _, _⟩) (.slice (some ⟨g2, 0, none⟩) (1 + m) c2) rfl (by kernel_rfl) (fun u hu => exec_assign (.tmp 40) (.slice (some ⟨g2, 0, none⟩) (1 + m) c2) rfl (by kernel_rfl)) ?_
        simp only [Act.put, List.setIfInBounds_toArray, List.set_cons_succ, List.set_cons_zero]
        refine s_done ?_
        obtain ⟨M, hM, hM1, hM2⟩ : ∃ M, M = 1 + m ∧ 1 ≤ M ∧ M ≤ 61 := ⟨_, rfl, by omega, by omega⟩
        obtain ⟨bd, hbd⟩ : ∃ bd, bd = [UInt8.ofNat i] ++ ps := ⟨_, rfl⟩
        have hbl : Hid (bd.length = M) := by show _ = _; rw [hbd, List.length_append, hpl.out, hM]; rfl
        rw [← hbd] at R2
        rw [← hM]
        have hwr := kr.size
        have B3 := heap_alloc_new w2 (.cells #[.slice (some ⟨g2, 0, none⟩) M c2] 26)
        have k3 : Kept w2 (w2.alloc (.cells #[.slice (some ⟨g2, 0, none⟩) M c2] 26)) := Keep.alloc (Keep.refl _ w2) _
        have N3 := World.news_of_block B3
        have kr3 := kr2.trans k3
        have kw3 := kw2.trans k3
        have HW3 := Lib.hid (HW.out.kept kr3)
        have HE3 := Lib.hid (HE.out.kept kr3)
        have HA3 := Lib.hid (HAll.out.kept kr3)
        have HD3 := Lib.hid (HD.out.kept kr3)
        have HR3 := Lib.hid (R2.kept k3)
        have hb3 : Hid (w.heap.size ≤ (w2.alloc (.cells #[.slice (some ⟨g2, 0, none⟩) M c2] 26)).heap.size) := kw3.size
        have hg2w : Hid (w.heap.size ≤ g2) := by show _ ≤ _; omega
        have hg2a : Hid (∀ ad, Aa = some ad → g2 ≠ ad.block) := fun ad e => by have := (HAll.out.at_ ad e).2; omega
        clear hM hbd R2 k2 k3 kx kr1 kr2 R1 hmin HC HPs HPn HW HE HAll HD B3 kw2 hs1 hg2
        go_wp2_with (at_builtin; refine wpl_append_g _ rfl (.tmp 41) (.tmp 43) 24 26 rfl (.slice none 0 0) 1 24 Try.underlying24 infoSl rfl (by omega) w.heap.size i cw Aw vs rfl HW3.out hb3.out ⟨w2.heap.size, 0, none⟩ 1 1 [.slice (some ⟨g2, 0, none⟩) M c2] rfl rfl N3 (by simp [Value.oneCell']) (by unfold maxLen; omega) (by omega) ?_)
        intro w4 A4 c4 O4 k4
        have hne : ∀ g' c' xs, Row8 (w2.alloc (.cells #[.slice (some ⟨g2, 0, none⟩) M c2] 26)) g' c' xs → ¬ ∃ ad, Aw = some ad ∧ ad.block = g' := fun g' c' xs hr ⟨ad, e, h⟩ => by
          obtain ⟨g0, rfl, _, _⟩ := HW3.out.at_ ad e
          subst e
          exact own_ne HW3.out hr h.symm
        have R4 := HR3.out.keep k4 (hne _ _ _ HR3.out)
        have W4 := (HE3.out.keep k4 hne).snoc hg2w.out R4
        rw [hbl.out] at W4
        have HE4 := Lib.hid W4
        have HR4 := Lib.hid R4
        have HW4 := Lib.hid O4
        have HA4 : Hid (Own8 w4 w.heap.size Aa na ca (L.flatMap putOf)) := by
          rcases HA3.out with h | ⟨g', rfl, h1, h2, h3⟩
          · exact .inl h
          · exact .inr ⟨g', rfl, h1, h2, h3.keep k4 (hne _ _ _ h3)⟩
        have HD4 := Lib.hid (HD3.out.keep k4 (fun ⟨ad, e, h⟩ => own_type HW3.out HD3.out (by decide) ad e h))
        have kw4 : Kept w w4 := Keep.trans kw3 k4 (fun j hj ⟨ad, e, h⟩ => by obtain ⟨g', rfl, hb, _⟩ := HW3.out.at_ ad e; simp at h; omega)
        have HAp4 : Hid (∀ ad, Aa = some ad → ∀ g n c, .slice (some ⟨g, 0, none⟩) n c ∈ vs ++ [.slice (some ⟨g2, 0, none⟩) M c2] → g ≠ ad.block) := fun ad e g' n' c' hm => by
          rw [List.mem_append] at hm
          rcases hm with hm | hm
          · exact HAp.out ad e g' n' c' hm
          · simp at hm
            rw [hm.1]
            exact hg2a.out ad e
        clear R4 W4 O4 k4 hne HW3 HE3 HA3 HD3 HR3 kw3 kr3 N3 hb3 HAp hg2a kr
        go_wp2_with fail
        refine (put_any (some ⟨g2, 0, none⟩) M c2 bd w4 HR4.out.r8 hbl (fun h => by cases h) (by omega)).mono ?_
        rintro e w5 ⟨vp, rfl, ⟨Ap, c5, rfl, hp⟩, k5⟩
        have hb1 : 1 ≤ bd.length ∧ bd.length ≤ 256 := by rw [hbl.out]; omega
        obtain ⟨N, hN⟩ : ∃ N, N = (putOf bd).length := ⟨_, rfl⟩
        have hNM : N = M + 2 := by rw [hN, putOf_len hb1.1 hb1.2, hbl.out]
        obtain ⟨g5, rfl, hg5, R5⟩ := hp.row (by rw [← hN, hNM]; omega)
        rw [← hN]
        have hNl : Hid ((putOf bd).length = N) := hN.symm
        have hN1 : 3 ≤ N ∧ N ≤ 63 := by omega
        obtain ⟨hN1, hN2⟩ := hN1
        have HR5 := Lib.hid R5
        have HA5 := Lib.hid (HA4.out.kept k5)
        have HE5 := Lib.hid (HE4.out.kept k5)
        have HW5 := Lib.hid (HW4.out.kept k5)
        have HD5 := Lib.hid (HD4.out.kept k5)
        have kw5 := kw4.trans k5
        have hb5 : Hid (w.heap.size ≤ w5.heap.size) := kw5.size
        clear hN hNM hb1 hp R5 hg5 k5 HA4 HE4 HW4 HD4 HR4 kw4
        go_wp2_with (at_builtin; refine wpl_append_lies8 _ rfl (.tmp 45) (.tmp 47) rfl w.heap.size na ca Aa (L.flatMap putOf) rfl HA5.out hb5.out ⟨g5, 0, none⟩ N c5 (putOf bd) rfl hNl.out HR5.out.r8 (by omega) (by omega) ?_)
        intro w6 g6 c6 R6 hg6 hat k6
        have hfar : ∀ g' n c, .slice (some ⟨g', 0, none⟩) n c ∈ vs ++ [.slice (some ⟨g2, 0, none⟩) M c2] → ¬ ∃ ad, Aa = some ad ∧ ad.block = g' := fun g' n c hm ⟨ad, e, h⟩ => HAp4.out ad e g' n c hm h.symm
        have hAr : ∀ ad, Aa = some ad → ∃ g' c' xs, ad = ⟨g', 0, none⟩ ∧ Row8 w5 g' c' xs := fun ad e => by
          rcases HA5.out with ⟨h, _⟩ | ⟨g', h, _, _, hr⟩
          · rw [h] at e; cases e
          · rw [h] at e; injection e with e; exact ⟨g', _, _, e.symm, hr⟩
        have HE6 := Lib.hid (HE5.out.keepM k6 hfar)
        have HW6 := Lib.hid (HW5.out.keep k6 (fun ad e ⟨ad', e', h⟩ => by
          obtain ⟨g', c', xs, rfl, hr⟩ := hAr ad' e'
          obtain ⟨g0, rfl, _, _⟩ := HW5.out.at_ ad e
          subst e
          exact own_ne HW5.out hr h))
        have HD6 : Hid (Blk w6 g 45 [.slice none 0 0, .bool false]) := HD5.out.keep k6 (fun ⟨ad', e', h⟩ => by
          obtain ⟨g', c', xs, rfl, hr⟩ := hAr ad' e'
          exact row_ne HD5.out hr (by decide) h)
        have kw6 : Kept w w6 := Keep.trans kw5 k6 (fun j hj ⟨ad, e, h⟩ => by have := (HA5.out.at_ ad e).1; omega)
        have HAp6 : Hid (∀ ad, (some ⟨g6, 0, none⟩ : Option Addr) = some ad → ∀ g n c, .slice (some ⟨g, 0, none⟩) n c ∈ vs ++ [.slice (some ⟨g2, 0, none⟩) M c2] → g ≠ ad.block) := fun ad e g' n c hm => by
          injection e with e
          subst e
          rcases hat with h | h
          · exact HAp4.out _ h g' n c hm
          · have := HE5.out.lt hm
            simp only
            omega
        have HL6 : Hid ((L ++ [bd]).length = i + 1) := by show _ = _; rw [List.length_append, HLi.out]; rfl
        have HB6 : Hid (∀ b ∈ L ++ [bd], 1 ≤ b.length ∧ b.length ≤ 61) := fun b hb => by
          rw [List.mem_append] at hb
          rcases hb with hb | hb
          · exact HLb.out b hb
          · simp at hb
            rw [hb, hbl.out]
            omega
        have HA6 : Hid (Own8 w6 w.heap.size (some ⟨g6, 0, none⟩) (na + N) c6 ((L ++ [bd]).flatMap putOf)) := by
          have e : (L ++ [bd]).flatMap putOf = L.flatMap putOf ++ putOf bd := by simp
          refine .inr ⟨g6, rfl, hg6, ?_, by rw [e]; exact R6⟩
          rw [e, List.length_append, hNl.out, HA5.out.len]
        have hna6 : na + N ≤ 64 * (i + 1) := by omega
        clear R6 hat k6 hfar hAr HE5 HW5 HD5 HA5 HAp4 HR5 HLi HLb kw5 hb5
        go_wp2
        exact ⟨⟨i + 1, na + N, c6, c4, some ⟨g6, 0, none⟩, A4, _, _, by go_num, rfl, rfl, by omega, hna6, HL6, HB6, HA6, HW6, HE6, HAp6, HD6, kw6⟩, by simp [intOf]; omega⟩
      · have hd8 : decide ((i : Int) < 8) = false := by simp; omega
        have HD2 : Hid (DF 45 wr g false []) := ⟨none, 0, 0, HD.out, Own8.nil _ _⟩
        clear HD
        have HD := HD2
        obtain ⟨ga, hga⟩ : ∃ ga, (∀ ad, Aa = some ad → ad = ⟨ga, 0, none⟩) ∧ ga ≠ g := by obtain ⟨ga, h1, h2⟩ := all_block HD.out HAll.out; exact ⟨ga, h1, h2 (by decide)⟩
        obtain ⟨T, hT, hT8⟩ : ∃ T, na ≤ T ∧ T ≤ 512 := ⟨na, Nat.le_refl _, by omega⟩
        have hag := Lib.hid hga.2
        have hAo0 : Hid (0 < na → ∃ o, Aa = some ⟨ga, o, none⟩) := fun h => by
          obtain ⟨g0, e, _, _⟩ := HAll.out.row (by rw [HAll.out.len]; exact h)
          have := hga.1 _ e
          exact ⟨0, by rw [e, this]⟩
        have HC0 : Hid (cut ([] ++ L.flatMap putOf) = (L, [], false) ∧ ([] : List (List UInt8)) ++ L = L) := ⟨by rw [List.nil_append]; exact cut_all L (fun b hb => ⟨(HLb.out b hb).1, by have := (HLb.out b hb).2; omega⟩), rfl⟩
        have hLl : Hid (L.length ≤ 8) := by show _ ≤ _; rw [HLi.out]; omega
        have hw2 : Hid (w.heap.size ≤ wr.heap.size) := kr.size
        have hca : na ≤ ca ∧ ca ≤ maxLen := ⟨HAll.out.cap.1, HAll.out.cap.2.1⟩
        obtain ⟨hca, hca2⟩ := hca
        have HX0 := Lib.hid HAll.out.r8
        have hl0 : Hid ((L.flatMap putOf).length = na) := HAll.out.len
        have HW2 := HW
        have HE2 := HE
        clear hga
        go_wp2_with fail
        obtain ⟨w2, hw⟩ : ∃ w2, w2 = wr := ⟨_, rfl⟩
        rw [← hw] at HD HD2 HX0 hw2 HW2 HE2 kr ⊢
        clear hw HW HE HAll
        go_loopw [6, 8, 11] (fun v6 v8 v11 wr => ∃ (j m c' k c : Nat) (Aa A : Option Addr) (vs : List Value) (G B : List (List UInt8)) (r left : List UInt8), v6 = .slice Aa m c' ∧ v11 = .int .i64 j ∧ v8 = .slice A k c ∧ m ≤ c' ∧ c' ≤ maxLen ∧ j + m ≤ T ∧ Hid (r.length = m) ∧ Hid (R8 w2 Aa r) ∧ Hid (0 < m → ∃ o, Aa = some ⟨ga, o, none⟩) ∧ Hid (OwnG wr w2.heap.size 26 1 A k c vs) ∧ Hid (RowsE wr w2.heap.size vs G) ∧ Hid (cut (left ++ r) = (B, [], false) ∧ G ++ B = L) ∧ Hid (cut left = ([], left, false)) ∧ Hid (left.length + m ≤ T) ∧ Hid (DF 45 wr g false left) ∧ Kept w wr ∧ Keep (· = g) w2 wr) (fun v6 _ _ _ => lenS v6)
        case atStart => exact ⟨0, na, ca, 0, 0, Aa, none, [], [], L, L.flatMap putOf, [], rfl, rfl, rfl, hca, hca2, by omega, hl0, HX0, hAo0, OwnG.nil _ _ _ _, RowsE.nil _ _, HC0, cut_nil, by show _ ≤ _; simp; omega, HD, kr, Keep.refl _ _⟩
        case round =>
          obtain ⟨j, m, c', k, c, Aa, A, vs, G, B, r, left, rfl, rfl, rfl, hmc, hcm, him, hlr, HX, hAo, HG, HE, HC, HCl, hlen, HD, kr, kg2⟩ := hrel
          clear HX0 hAo0 HC0
          by_cases hm0 : 0 < m
          · have hd0 : decide ((0 : Int) < (m : Int)) = true := by simp; omega
            by_cases hic : j < nc
            · have hdc : decide ((j : Int) < (nc : Int)) = true := by simp; omega
              obtain ⟨z, b2, o2, rfl, hcell⟩ := cuts_at HI.out (by rw [hlc.out]; exact hic)
              have hcz : wr.cell? ⟨b2, o2 + j, none⟩ = some (.int .i64 z) := kr.cell hcell
              obtain ⟨mm, hmin, hml, hmK⟩ := min_is m 20
              have hmin : (if (20 : Int) < (m : Int) then (20 : Int) else (m : Int)) = (mm : Int) := hmin
              have hmm : 1 ≤ mm := by
                by_cases h20 : 20 < m
                · rw [if_pos (by omega)] at hmin; omega
                · rw [if_neg (by omega)] at hmin; omega
              clear hcell
              go_wp2_with fail
              refine (within_one z (mm : Int) wr (by omega) (by omega)).mono ?_
              rintro e wy ⟨n, rfl, hn1, hn2, rfl⟩
              have hn2 : n ≤ mm := by omega
              clear hcz hmin
              have hnm : n ≤ m := by omega
              obtain ⟨B1, l1, B2, hc1, hc2, hGB, hcl, hll1, hB1⟩ := cut_move HC.out.1 HC.out.2 hLl.out n
              have HC1 := Lib.hid hc1
              have HC2 : Hid (cut (l1 ++ r.drop n) = (B2, [], false) ∧ (G ++ B1) ++ B2 = L) := ⟨hc2, hGB⟩
              have HCL := Lib.hid hcl
              have HLL1 := Lib.hid hll1
              have HG8 := Lib.hid hB1
              obtain ⟨o, rfl⟩ := hAo.out hm0
              obtain ⟨o', hs1, hX1⟩ := slice_l8 ga o m c' n (n : Int) r hlr.out rfl hnm hmc
              have hs0 : ∀ u, (Instr.slice 26 (.slice (some ⟨ga, o, none⟩) m c') none (some (.int .i64 (n : Int))) none).run Try.prog u = .ok (.slice (some ⟨ga, o, none⟩) n c') u := fun u => slice_h8 ga o m c' n (by omega) u
              obtain ⟨m', hm'⟩ : ∃ m', m' = m - n := ⟨_, rfl⟩
              obtain ⟨cc, hcc⟩ : ∃ cc, cc = c' - n := ⟨_, rfl⟩
              have hrl : Hid ((r.drop n).length = m') := by show _ = _; rw [List.length_drop, hlr.out, hm']
              rw [← hm', ← hcc] at hs1
              have a1 : m' ≤ cc ∧ cc ≤ c' ∧ j + 1 + m' ≤ T ∧ m' < m := by omega
              obtain ⟨a1, a2, a3, a4⟩ := a1
              have hnl : Hid ((r.take n).length = n) := by show _ = _; rw [List.length_take, hlr.out]; omega
              have HXr := HX.out.keep kg2 (fun ad e _ => by injection e with e; subst e; exact hag.out)
              have HV : Hid (Bytes wr (.slice (some ⟨ga, o, none⟩) n c') (r.take n)) := ⟨_, n, c', rfl, hnl, HXr.take2 n, by omega, hcm, fun h => by cases h⟩
              have HX1 := Lib.hid (hX1 w2 HX.out)
              have hleft : Hid (left.length ≤ 400000) := by show _ ≤ _; have := hlen.out; omega
              have hnl4 : Hid ((r.take n).length ≤ 400000) := by show _ ≤ _; rw [hnl.out]; omega
              have hlen1 : Hid (l1.length + m' ≤ T) := by show _ ≤ _; have := hlen.out; have := hll1; rw [hnl.out] at this; omega
              clear hc1 hc2 hGB hcl hll1 hB1 hm' hcc HXr hX1
              go_wp2_with fail
              refine (feed_is g left (r.take n) B1 l1 false _ wr HD.out HV.out hleft.out hnl4.out HC1.out).mono ?_
              rintro e w5 ⟨vl, rfl, hF⟩
              obtain ⟨Af, cf, us, rfl, hgf, hef, hdf, kf⟩ := hF
              have kw5 : Kept w w5 := Kept.trans' kr kf hgl.out
              have kg5 : Keep (· = g) w2 w5 := Keep.trans kg2 kf (fun _ _ h => h)
              have HG5 := Lib.hid (HG.out.keep kf (own_df HD.out HG.out (by decide)))
              have HE5 := Lib.hid (HE.out.besides HD.out kf (by decide))
              have HGF := Lib.hid hgf
              have HEF := Lib.hid (hef.low (base' := w2.heap.size) kg2.size)
              have HDF := Lib.hid hdf
              have hb5 : Hid (w2.heap.size ≤ w5.heap.size) := kg5.size
              have hkB : Hid (G.length = k) := rows_len HG5.out HE5.out
              have hk8 : k + B1.length ≤ 8 := by have := HG8.out; have := hkB.out; rw [List.length_append] at *; omega
              clear hgf hef hdf kf HG HE HD kr kg2 HV
              obtain ⟨nf, hnf⟩ : ∃ nf, nf = B1.length := ⟨_, rfl⟩
              rw [← hnf] at HGF hk8 ⊢
              clear hnf
              go_wp2_with (at_builtin; refine wpl_append_rows _ rfl (.tmp 68) (.tmp 73) rfl w2.heap.size k c A vs rfl HG5.out hb5.out wr.heap.size nf cf Af us rfl HGF.out HEF.out.one (by omega) ?_)
              intro w6 A6 c6 O6 k6
              have HO6 := Lib.hid O6
              have hne : ∀ g' c' xs, Row8 w5 g' c' xs → ¬ ∃ ad, A = some ad ∧ ad.block = g' := fun g' c' xs hr ⟨ad, e, h⟩ => by
                obtain ⟨g0, rfl, _, _⟩ := HG5.out.at_ ad e
                subst e
                exact own_ne HG5.out hr h.symm
              have HW6 := Lib.hid ((HE5.out.append HEF.out).keep k6 hne)
              have HD6 := Lib.hid (HDF.out.keep k6 (fun ⟨ad, e, h⟩ => own_df HDF.out HG5.out (by decide) ad e h) hne)
              have kw6 : Kept w w6 := Keep.trans kw5 k6 (fun j hj ⟨ad, e, h⟩ => by obtain ⟨g', rfl, hb, _⟩ := HG5.out.at_ ad e; have := hw2.out; simp at h; omega)
              have kg6 : Keep (· = g) w2 w6 := Keep.trans kg5 k6 (fun j hj ⟨ad, e, h⟩ => by obtain ⟨g', rfl, hb, _⟩ := HG5.out.at_ ad e; simp at h; omega)
              clear O6 hne k6 HG5 HE5 HGF HEF HDF kw5 kg5
              go_wp2
              exact ⟨⟨j + 1, m', cc, k + nf, c6, some ⟨ga, o', none⟩, A6, _, _, B2, r.drop n, l1, rfl, by go_num, rfl, a1, by omega, a3, hrl, HX1, fun _ => ⟨o', rfl⟩, HO6, HW6, HC2, HCL, hlen1, HD6, kw6, kg6⟩, by simp [lenS]; omega⟩
            · have hdc : decide ((j : Int) < (nc : Int)) = false := by simp; omega
              have hnm : m ≤ m := by omega
              obtain ⟨B1, l1, B2, hc1, hc2, hGB, hcl, hll1, hB1⟩ := cut_move HC.out.1 HC.out.2 hLl.out m
              have HC1 := Lib.hid hc1
              have HC2 : Hid (cut (l1 ++ r.drop m) = (B2, [], false) ∧ (G ++ B1) ++ B2 = L) := ⟨hc2, hGB⟩
              have HCL := Lib.hid hcl
              have HLL1 := Lib.hid hll1
              have HG8 := Lib.hid hB1
              obtain ⟨o, rfl⟩ := hAo.out hm0
              obtain ⟨o', hs1, hX1⟩ := slice_l8 ga o m c' m (m : Int) r hlr.out rfl hnm hmc
              have hs0 : ∀ u, (Instr.slice 26 (.slice (some ⟨ga, o, none⟩) m c') none (some (.int .i64 (m : Int))) none).run Try.prog u = .ok (.slice (some ⟨ga, o, none⟩) m c') u := fun u => slice_h8 ga o m c' m (by omega) u
              obtain ⟨m', hm'⟩ : ∃ m', m' = m - m := ⟨_, rfl⟩
              obtain ⟨cc, hcc⟩ : ∃ cc, cc = c' - m := ⟨_, rfl⟩
              have hrl : Hid ((r.drop m).length = m') := by show _ = _; rw [List.length_drop, hlr.out, hm']
              rw [← hm', ← hcc] at hs1
              have a1 : m' ≤ cc ∧ cc ≤ c' ∧ j + 1 + m' ≤ T ∧ m' < m := by omega
              obtain ⟨a1, a2, a3, a4⟩ := a1
              have hnl : Hid ((r.take m).length = m) := by show _ = _; rw [List.length_take, hlr.out]; omega
              have HXr := HX.out.keep kg2 (fun ad e _ => by injection e with e; subst e; exact hag.out)
              have HV : Hid (Bytes wr (.slice (some ⟨ga, o, none⟩) m c') (r.take m)) := ⟨_, m, c', rfl, hnl, HXr.take2 m, by omega, hcm, fun h => by cases h⟩
              have HX1 := Lib.hid (hX1 w2 HX.out)
              have hleft : Hid (left.length ≤ 400000) := by show _ ≤ _; have := hlen.out; omega
              have hnl4 : Hid ((r.take m).length ≤ 400000) := by show _ ≤ _; rw [hnl.out]; omega
              have hlen1 : Hid (l1.length + m' ≤ T) := by show _ ≤ _; have := hlen.out; have := hll1; rw [hnl.out] at this; omega
              clear hc1 hc2 hGB hcl hll1 hB1 hm' hcc HXr hX1
              go_wp2_with fail
              refine (feed_is g left (r.take m) B1 l1 false _ wr HD.out HV.out hleft.out hnl4.out HC1.out).mono ?_
              rintro e w5 ⟨vl, rfl, hF⟩
              obtain ⟨Af, cf, us, rfl, hgf, hef, hdf, kf⟩ := hF
              have kw5 : Kept w w5 := Kept.trans' kr kf hgl.out
              have kg5 : Keep (· = g) w2 w5 := Keep.trans kg2 kf (fun _ _ h => h)
              have HG5 := Lib.hid (HG.out.keep kf (own_df HD.out HG.out (by decide)))
              have HE5 := Lib.hid (HE.out.besides HD.out kf (by decide))
              have HGF := Lib.hid hgf
              have HEF := Lib.hid (hef.low (base' := w2.heap.size) kg2.size)
              have HDF := Lib.hid hdf
              have hb5 : Hid (w2.heap.size ≤ w5.heap.size) := kg5.size
              have hkB : Hid (G.length = k) := rows_len HG5.out HE5.out
              have hk8 : k + B1.length ≤ 8 := by have := HG8.out; have := hkB.out; rw [List.length_append] at *; omega
              clear hgf hef hdf kf HG HE HD kr kg2 HV
              obtain ⟨nf, hnf⟩ : ∃ nf, nf = B1.length := ⟨_, rfl⟩
              rw [← hnf] at HGF hk8 ⊢
              clear hnf
              go_wp2_with (at_builtin; refine wpl_append_rows _ rfl (.tmp 68) (.tmp 73) rfl w2.heap.size k c A vs rfl HG5.out hb5.out wr.heap.size nf cf Af us rfl HGF.out HEF.out.one (by omega) ?_)
              intro w6 A6 c6 O6 k6
              have HO6 := Lib.hid O6
              have hne : ∀ g' c' xs, Row8 w5 g' c' xs → ¬ ∃ ad, A = some ad ∧ ad.block = g' := fun g' c' xs hr ⟨ad, e, h⟩ => by
                obtain ⟨g0, rfl, _, _⟩ := HG5.out.at_ ad e
                subst e
                exact own_ne HG5.out hr h.symm
              have HW6 := Lib.hid ((HE5.out.append HEF.out).keep k6 hne)
              have HD6 := Lib.hid (HDF.out.keep k6 (fun ⟨ad, e, h⟩ => own_df HDF.out HG5.out (by decide) ad e h) hne)
              have kw6 : Kept w w6 := Keep.trans kw5 k6 (fun j hj ⟨ad, e, h⟩ => by obtain ⟨g', rfl, hb, _⟩ := HG5.out.at_ ad e; have := hw2.out; simp at h; omega)
              have kg6 : Keep (· = g) w2 w6 := Keep.trans kg5 k6 (fun j hj ⟨ad, e, h⟩ => by obtain ⟨g', rfl, hb, _⟩ := HG5.out.at_ ad e; simp at h; omega)
              clear O6 hne k6 HG5 HE5 HGF HEF HDF kw5 kg5
              go_wp2
              exact ⟨⟨j + 1, m', cc, k + nf, c6, some ⟨ga, o', none⟩, A6, _, _, B2, r.drop m, l1, rfl, by go_num, rfl, a1, by omega, a3, hrl, HX1, fun _ => ⟨o', rfl⟩, HO6, HW6, HC2, HCL, hlen1, HD6, kw6, kg6⟩, by simp [lenS]; omega⟩
          · have hd0 : decide ((0 : Int) < (m : Int)) = false := by simp; omega
            have hr0 : r = [] := List.eq_nil_of_length_eq_zero (by rw [hlr.out]; omega)
            have hfin : left = [] ∧ G = L := by
              have h1 := HC.out.1
              rw [hr0, List.append_nil, HCl.out] at h1
              injection h1 with h2 h3
              injection h3 with h3 _
              refine ⟨h3, ?_⟩
              rw [← HC.out.2, ← h2, List.append_nil]
            obtain ⟨hl, hG⟩ := hfin
            rw [hl] at HD
            rw [hG] at HE
            have hkl : Hid (L.length = k) := rows_len HG.out HE.out
            have HGot : Hid (RecV wr (.slice A k c) L) := ⟨A, k, c, rfl, hkl, recs_of_own HG.out HE.out, HG.out.cap.1, HG.out.cap.2.1⟩
            have HWant : Hid (RecV wr (.slice Aw i cw) L) := by
              obtain ⟨_, _, _, hbd, _⟩ := HD2.out
              exact ⟨Aw, i, cw, rfl, HLi, recs_of_own (HW2.out.keep kg2 (own_type HW2.out hbd (by decide))) (HE2.out.besides HD2.out kg2 (by decide)), HW2.out.cap.1, HW2.out.cap.2.1⟩
            have hl8 : Hid (L.length ≤ 1000000) := by show _ ≤ _; have := hLl.out; omega
            clear hl hG hr0 HC HCl HX HG HE HW2 HE2 HD2 hlen
            go_wp2_with fail
            refine (rows_any _ _ L L wr HGot.out HWant.out hl8.out hl8.out).mono ?_
            rintro e w8 ⟨rfl, k8⟩
            rw [decide_eq_true rfl]
            have HD8 := Lib.hid (HD.out.kept k8)
            have kw8 := kr.trans k8
            clear k8 HD kr kg2 HGot HWant
            go_wp2_with fail
            refine (left_any g 0 false [] w8 HD8.out rfl).mono ?_
            rintro e w9 ⟨rfl, rfl⟩
            go_wp2_with fail
            refine (bad_any g false [] w8 HD8.out).mono ?_
            rintro e w9 ⟨rfl, rfl⟩
            go_wp2_with fail
            refine (frameRuns_any w8).mono ?_
            rintro e w10 ⟨rfl, k10⟩
            have kw10 := kw8.trans k10
            clear k10 kw8 HD8
            go_wp2
            go_ret
            exact ⟨rfl, kw10⟩
    · have hdl : decide ((i : Int) < (nl : Int)) = false := by simp; omega
      have HD2 : Hid (DF 45 wr g false []) := ⟨none, 0, 0, HD.out, Own8.nil _ _⟩
      clear HD
      have HD := HD2
      obtain ⟨ga, hga⟩ : ∃ ga, (∀ ad, Aa = some ad → ad = ⟨ga, 0, none⟩) ∧ ga ≠ g := by obtain ⟨ga, h1, h2⟩ := all_block HD.out HAll.out; exact ⟨ga, h1, h2 (by decide)⟩
      obtain ⟨T, hT, hT8⟩ : ∃ T, na ≤ T ∧ T ≤ 512 := ⟨na, Nat.le_refl _, by omega⟩
      have hag := Lib.hid hga.2
      have hAo0 : Hid (0 < na → ∃ o, Aa = some ⟨ga, o, none⟩) := fun h => by
        obtain ⟨g0, e, _, _⟩ := HAll.out.row (by rw [HAll.out.len]; exact h)
        have := hga.1 _ e
        exact ⟨0, by rw [e, this]⟩
      have HC0 : Hid (cut ([] ++ L.flatMap putOf) = (L, [], false) ∧ ([] : List (List UInt8)) ++ L = L) := ⟨by rw [List.nil_append]; exact cut_all L (fun b hb => ⟨(HLb.out b hb).1, by have := (HLb.out b hb).2; omega⟩), rfl⟩
      have hLl : Hid (L.length ≤ 8) := by show _ ≤ _; rw [HLi.out]; omega
      have hw2 : Hid (w.heap.size ≤ wr.heap.size) := kr.size
      have hca : na ≤ ca ∧ ca ≤ maxLen := ⟨HAll.out.cap.1, HAll.out.cap.2.1⟩
      obtain ⟨hca, hca2⟩ := hca
      have HX0 := Lib.hid HAll.out.r8
      have hl0 : Hid ((L.flatMap putOf).length = na) := HAll.out.len
      have HW2 := HW
      have HE2 := HE
      clear hga
      go_wp2_with fail
      obtain ⟨w2, hw⟩ : ∃ w2, w2 = wr := ⟨_, rfl⟩
      rw [← hw] at HD HD2 HX0 hw2 HW2 HE2 kr ⊢
      clear hw HW HE HAll
      go_loopw [6, 8, 11] (fun v6 v8 v11 wr => ∃ (j m c' k c : Nat) (Aa A : Option Addr) (vs : List Value) (G B : List (List UInt8)) (r left : List UInt8), v6 = .slice Aa m c' ∧ v11 = .int .i64 j ∧ v8 = .slice A k c ∧ m ≤ c' ∧ c' ≤ maxLen ∧ j + m ≤ T ∧ Hid (r.length = m) ∧ Hid (R8 w2 Aa r) ∧ Hid (0 < m → ∃ o, Aa = some ⟨ga, o, none⟩) ∧ Hid (OwnG wr w2.heap.size 26 1 A k c vs) ∧ Hid (RowsE wr w2.heap.size vs G) ∧ Hid (cut (left ++ r) = (B, [], false) ∧ G ++ B = L) ∧ Hid (cut left = ([], left, false)) ∧ Hid (left.length + m ≤ T) ∧ Hid (DF 45 wr g false left) ∧ Kept w wr ∧ Keep (· = g) w2 wr) (fun v6 _ _ _ => lenS v6)
      case atStart => exact ⟨0, na, ca, 0, 0, Aa, none, [], [], L, L.flatMap putOf, [], rfl, rfl, rfl, hca, hca2, by omega, hl0, HX0, hAo0, OwnG.nil _ _ _ _, RowsE.nil _ _, HC0, cut_nil, by show _ ≤ _; simp; omega, HD, kr, Keep.refl _ _⟩
      case round =>
        obtain ⟨j, m, c', k, c, Aa, A, vs, G, B, r, left, rfl, rfl, rfl, hmc, hcm, him, hlr, HX, hAo, HG, HE, HC, HCl, hlen, HD, kr, kg2⟩ := hrel
        clear HX0 hAo0 HC0
        by_cases hm0 : 0 < m
        · have hd0 : decide ((0 : Int) < (m : Int)) = true := by simp; omega
          by_cases hic : j < nc
          · have hdc : decide ((j : Int) < (nc : Int)) = true := by simp; omega
            obtain ⟨z, b2, o2, rfl, hcell⟩ := cuts_at HI.out (by rw [hlc.out]; exact hic)
            have hcz : wr.cell? ⟨b2, o2 + j, none⟩ = some (.int .i64 z) := kr.cell hcell
            obtain ⟨mm, hmin, hml, hmK⟩ := min_is m 20
            have hmin : (if (20 : Int) < (m : Int) then (20 : Int) else (m : Int)) = (mm : Int) := hmin
            have hmm : 1 ≤ mm := by
              by_cases h20 : 20 < m
              · rw [if_pos (by omega)] at hmin; omega
              · rw [if_neg (by omega)] at hmin; omega
            clear hcell
            go_wp2_with fail
            refine (within_one z (mm : Int) wr (by omega) (by omega)).mono ?_
            rintro e wy ⟨n, rfl, hn1, hn2, rfl⟩
            have hn2 : n ≤ mm := by omega
            clear hcz hmin
            have hnm : n ≤ m := by omega
            obtain ⟨B1, l1, B2, hc1, hc2, hGB, hcl, hll1, hB1⟩ := cut_move HC.out.1 HC.out.2 hLl.out n
            have HC1 := Lib.hid hc1
            have HC2 : Hid (cut (l1 ++ r.drop n) = (B2, [], false) ∧ (G ++ B1) ++ B2 = L) := ⟨hc2, hGB⟩
            have HCL := Lib.hid hcl
            have HLL1 := Lib.hid hll1
            have HG8 := Lib.hid hB1
            obtain ⟨o, rfl⟩ := hAo.out hm0
            obtain ⟨o', hs1, hX1⟩ := slice_l8 ga o m c' n (n : Int) r hlr.out rfl hnm hmc
            have hs0 : ∀ u, (Instr.slice 26 (.slice (some ⟨ga, o, none⟩) m c') none (some (.int .i64 (n : Int))) none).run Try.prog u = .ok (.slice (some ⟨ga, o, none⟩) n c') u := fun u => slice_h8 ga o m c' n (by omega) u
            obtain ⟨m', hm'⟩ : ∃ m', m' = m - n := ⟨_, rfl⟩
            obtain ⟨cc, hcc⟩ : ∃ cc, cc = c' - n := ⟨_, rfl⟩
            have hrl : Hid ((r.drop n).length = m') := by show _ = _; rw [List.length_drop, hlr.out, hm']
            rw [← hm', ← hcc] at hs1
            have a1 : m' ≤ cc ∧ cc ≤ c' ∧ j + 1 + m' ≤ T ∧ m' < m := by omega
            obtain ⟨a1, a2, a3, a4⟩ := a1
            have hnl : Hid ((r.take n).length = n) := by show _ = _; rw [List.length_take, hlr.out]; omega
            have HXr := HX.out.keep kg2 (fun ad e _ => by injection e with e; subst e; exact hag.out)
            have HV : Hid (Bytes wr (.slice (some ⟨ga, o, none⟩) n c') (r.take n)) := ⟨_, n, c', rfl, hnl, HXr.take2 n, by omega, hcm, fun h => by cases h⟩
            have HX1 := Lib.hid (hX1 w2 HX.out)
            have hleft : Hid (left.length ≤ 400000) := by show _ ≤ _; have := hlen.out; omega
            have hnl4 : Hid ((r.take n).length ≤ 400000) := by show _ ≤ _; rw [hnl.out]; omega
            have hlen1 : Hid (l1.length + m' ≤ T) := by show _ ≤ _; have := hlen.out; have := hll1; rw [hnl.out] at this; omega
            clear hc1 hc2 hGB hcl hll1 hB1 hm' hcc HXr hX1
            go_wp2_with fail
            refine (feed_is g left (r.take n) B1 l1 false _ wr HD.out HV.out hleft.out hnl4.out HC1.out).mono ?_
            rintro e w5 ⟨vl, rfl, hF⟩
            obtain ⟨Af, cf, us, rfl, hgf, hef, hdf, kf⟩ := hF
            have kw5 : Kept w w5 := Kept.trans' kr kf hgl.out
            have kg5 : Keep (· = g) w2 w5 := Keep.trans kg2 kf (fun _ _ h => h)
            have HG5 := Lib.hid (HG.out.keep kf (own_df HD.out HG.out (by decide)))
            have HE5 := Lib.hid (HE.out.besides HD.out kf (by decide))
            have HGF := Lib.hid hgf
            have HEF := Lib.hid (hef.low (base' := w2.heap.size) kg2.size)
            have HDF := Lib.hid hdf
            have hb5 : Hid (w2.heap.size ≤ w5.heap.size) := kg5.size
            have hkB : Hid (G.length = k) := rows_len HG5.out HE5.out
            have hk8 : k + B1.length ≤ 8 := by have := HG8.out; have := hkB.out; rw [List.length_append] at *; omega
            clear hgf hef hdf kf HG HE HD kr kg2 HV
            obtain ⟨nf, hnf⟩ : ∃ nf, nf = B1.length := ⟨_, rfl⟩
            rw [← hnf] at HGF hk8 ⊢
            clear hnf
            go_wp2_with (at_builtin; refine wpl_append_rows _ rfl (.tmp 68) (.tmp 73) rfl w2.heap.size k c A vs rfl HG5.out hb5.out wr.heap.size nf cf Af us rfl HGF.out HEF.out.one (by omega) ?_)
            intro w6 A6 c6 O6 k6
            have HO6 := Lib.hid O6
            have hne : ∀ g' c' xs, Row8 w5 g' c' xs → ¬ ∃ ad, A = some ad ∧ ad.block = g' := fun g' c' xs hr ⟨ad, e, h⟩ => by
              obtain ⟨g0, rfl, _, _⟩ := HG5.out.at_ ad e
              subst e
              exact own_ne HG5.out hr h.symm
            have HW6 := Lib.hid ((HE5.out.append HEF.out).keep k6 hne)
            have HD6 := Lib.hid (HDF.out.keep k6 (fun ⟨ad, e, h⟩ => own_df HDF.out HG5.out (by decide) ad e h) hne)
            have kw6 : Kept w w6 := Keep.trans kw5 k6 (fun j hj ⟨ad, e, h⟩ => by obtain ⟨g', rfl, hb, _⟩ := HG5.out.at_ ad e; have := hw2.out; simp at h; omega)
            have kg6 : Keep (· = g) w2 w6 := Keep.trans kg5 k6 (fun j hj ⟨ad, e, h⟩ => by obtain ⟨g', rfl, hb, _⟩ := HG5.out.at_ ad e; simp at h; omega)
            clear O6 hne k6 HG5 HE5 HGF HEF HDF kw5 kg5
            go_wp2
            exact ⟨⟨j + 1, m', cc, k + nf, c6, some ⟨ga, o', none⟩, A6, _, _, B2, r.drop n, l1, rfl, by go_num, rfl, a1, by omega, a3, hrl, HX1, fun _ => ⟨o', rfl⟩, HO6, HW6, HC2, HCL, hlen1, HD6, kw6, kg6⟩, by simp [lenS]; omega⟩
          · have hdc : decide ((j : Int) < (nc : Int)) = false := by simp; omega
            have hnm : m ≤ m := by omega
            obtain ⟨B1, l1, B2, hc1, hc2, hGB, hcl, hll1, hB1⟩ := cut_move HC.out.1 HC.out.2 hLl.out m
            have HC1 := Lib.hid hc1
            have HC2 : Hid (cut (l1 ++ r.drop m) = (B2, [], false) ∧ (G ++ B1) ++ B2 = L) := ⟨hc2, hGB⟩
            have HCL := Lib.hid hcl
            have HLL1 := Lib.hid hll1
            have HG8 := Lib.hid hB1
            obtain ⟨o, rfl⟩ := hAo.out hm0
            obtain ⟨o', hs1, hX1⟩ := slice_l8 ga o m c' m (m : Int) r hlr.out rfl hnm hmc
            have hs0 : ∀ u, (Instr.slice 26 (.slice (some ⟨ga, o, none⟩) m c') none (some (.int .i64 (m : Int))) none).run Try.prog u = .ok (.slice (some ⟨ga, o, none⟩) m c') u := fun u => slice_h8 ga o m c' m (by omega) u
            obtain ⟨m', hm'⟩ : ∃ m', m' = m - m := ⟨_, rfl⟩
            obtain ⟨cc, hcc⟩ : ∃ cc, cc = c' - m := ⟨_, rfl⟩
            have hrl : Hid ((r.drop m).length = m') := by show _ = _; rw [List.length_drop, hlr.out, hm']
            rw [← hm', ← hcc] at hs1
            have a1 : m' ≤ cc ∧ cc ≤ c' ∧ j + 1 + m' ≤ T ∧ m' < m := by omega
            obtain ⟨a1, a2, a3, a4⟩ := a1
            have hnl : Hid ((r.take m).length = m) := by show _ = _; rw [List.length_take, hlr.out]; omega
            have HXr := HX.out.keep kg2 (fun ad e _ => by injection e with e; subst e; exact hag.out)
            have HV : Hid (Bytes wr (.slice (some ⟨ga, o, none⟩) m c') (r.take m)) := ⟨_, m, c', rfl, hnl, HXr.take2 m, by omega, hcm, fun h => by cases h⟩
            have HX1 := Lib.hid (hX1 w2 HX.out)
            have hleft : Hid (left.length ≤ 400000) := by show _ ≤ _; have := hlen.out; omega
            have hnl4 : Hid ((r.take m).length ≤ 400000) := by show _ ≤ _; rw [hnl.out]; omega
            have hlen1 : Hid (l1.length + m' ≤ T) := by show _ ≤ _; have := hlen.out; have := hll1; rw [hnl.out] at this; omega
            clear hc1 hc2 hGB hcl hll1 hB1 hm' hcc HXr hX1
            go_wp2_with fail
            refine (feed_is g left (r.take m) B1 l1 false _ wr HD.out HV.out hleft.out hnl4.out HC1.out).mono ?_
            rintro e w5 ⟨vl, rfl, hF⟩
            obtain ⟨Af, cf, us, rfl, hgf, hef, hdf, kf⟩ := hF
            have kw5 : Kept w w5 := Kept.trans' kr kf hgl.out
            have kg5 : Keep (· = g) w2 w5 := Keep.trans kg2 kf (fun _ _ h => h)
            have HG5 := Lib.hid (HG.out.keep kf (own_df HD.out HG.out (by decide)))
            have HE5 := Lib.hid (HE.out.besides HD.out kf (by decide))
            have HGF := Lib.hid hgf
            have HEF := Lib.hid (hef.low (base' := w2.heap.size) kg2.size)
            have HDF := Lib.hid hdf
            have hb5 : Hid (w2.heap.size ≤ w5.heap.size) := kg5.size
            have hkB : Hid (G.length = k) := rows_len HG5.out HE5.out
            have hk8 : k + B1.length ≤ 8 := by have := HG8.out; have := hkB.out; rw [List.length_append] at *; omega
            clear hgf hef hdf kf HG HE HD kr kg2 HV
            obtain ⟨nf, hnf⟩ : ∃ nf, nf = B1.length := ⟨_, rfl⟩
            rw [← hnf] at HGF hk8 ⊢
            clear hnf
            go_wp2_with (at_builtin; refine wpl_append_rows _ rfl (.tmp 68) (.tmp 73) rfl w2.heap.size k c A vs rfl HG5.out hb5.out wr.heap.size nf cf Af us rfl HGF.out HEF.out.one (by omega) ?_)
            intro w6 A6 c6 O6 k6
            have HO6 := Lib.hid O6
            have hne : ∀ g' c' xs, Row8 w5 g' c' xs → ¬ ∃ ad, A = some ad ∧ ad.block = g' := fun g' c' xs hr ⟨ad, e, h⟩ => by
              obtain ⟨g0, rfl, _, _⟩ := HG5.out.at_ ad e
              subst e
              exact own_ne HG5.out hr h.symm
            have HW6 := Lib.hid ((HE5.out.append HEF.out).keep k6 hne)
            have HD6 := Lib.hid (HDF.out.keep k6 (fun ⟨ad, e, h⟩ => own_df HDF.out HG5.out (by decide) ad e h) hne)
            have kw6 : Kept w w6 := Keep.trans kw5 k6 (fun j hj ⟨ad, e, h⟩ => by obtain ⟨g', rfl, hb, _⟩ := HG5.out.at_ ad e; have := hw2.out; simp at h; omega)
            have kg6 : Keep (· = g) w2 w6 := Keep.trans kg5 k6 (fun j hj ⟨ad, e, h⟩ => by obtain ⟨g', rfl, hb, _⟩ := HG5.out.at_ ad e; simp at h; omega)
            clear O6 hne k6 HG5 HE5 HGF HEF HDF kw5 kg5
            go_wp2
            exact ⟨⟨j + 1, m', cc, k + nf, c6, some ⟨ga, o', none⟩, A6, _, _, B2, r.drop m, l1, rfl, by go_num, rfl, a1, by omega, a3, hrl, HX1, fun _ => ⟨o', rfl⟩, HO6, HW6, HC2, HCL, hlen1, HD6, kw6, kg6⟩, by simp [lenS]; omega⟩
        · have hd0 : decide ((0 : Int) < (m : Int)) = false := by simp; omega
          have hr0 : r = [] := List.eq_nil_of_length_eq_zero (by rw [hlr.out]; omega)
          have hfin : left = [] ∧ G = L := by
            have h1 := HC.out.1
            rw [hr0, List.append_nil, HCl.out] at h1
            injection h1 with h2 h3
            injection h3 with h3 _
            refine ⟨h3, ?_⟩
            rw [← HC.out.2, ← h2, List.append_nil]
          obtain ⟨hl, hG⟩ := hfin
          rw [hl] at HD
          rw [hG] at HE
          have hkl : Hid (L.length = k) := rows_len HG.out HE.out
          have HGot : Hid (RecV wr (.slice A k c) L) := ⟨A, k, c, rfl, hkl, recs_of_own HG.out HE.out, HG.out.cap.1, HG.out.cap.2.1⟩
          have HWant : Hid (RecV wr (.slice Aw i cw) L) := by
            obtain ⟨_, _, _, hbd, _⟩ := HD2.out
            exact ⟨Aw, i, cw, rfl, HLi, recs_of_own (HW2.out.keep kg2 (own_type HW2.out hbd (by decide))) (HE2.out.besides HD2.out kg2 (by decide)), HW2.out.cap.1, HW2.out.cap.2.1⟩
          have hl8 : Hid (L.length ≤ 1000000) := by show _ ≤ _; have := hLl.out; omega
          clear hl hG hr0 HC HCl HX HG HE HW2 HE2 HD2 hlen
          go_wp2_with fail
          refine (rows_any _ _ L L wr HGot.out HWant.out hl8.out hl8.out).mono ?_
          rintro e w8 ⟨rfl, k8⟩
          rw [decide_eq_true rfl]
          have HD8 := Lib.hid (HD.out.kept k8)
          have kw8 := kr.trans k8
          clear k8 HD kr kg2 HGot HWant
          go_wp2_with fail
          refine (left_any g 0 false [] w8 HD8.out rfl).mono ?_
          rintro e w9 ⟨rfl, rfl⟩
          go_wp2_with fail
          refine (bad_any g false [] w8 HD8.out).mono ?_
          rintro e w9 ⟨rfl, rfl⟩
          go_wp2_with fail
          refine (frameRuns_any w8).mono ?_
          rintro e w10 ⟨rfl, k10⟩
          have kw10 := kw8.trans k10
          clear k10 kw8 HD8
          go_wp2
          go_ret
          exact ⟨rfl, kw10⟩
end Go.Proofs.Ytkomionfnpgjgaa
