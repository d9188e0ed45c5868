/-
  RiskWider: what goes goes with wider limits, and with a smaller quantity; it answers true. Condition: the asks, the limits, the order as the arguments hold them.
-/
import Derived.Test.YtgajdkelpaaadaaRuns16
import Derived.Test.YtgajdkelpaaadaaSom16
import Derived.Test.YtgajdkelpaaadaaSame6
import Derived.Test.YtgajdkelpaaadaaLvlM
import Derived.Test.YtgajdkelpaaadaaSched4
namespace Go.Proofs.Ytgajdkelpaaadaa
open Go.RowKit
set_option linter.unusedVariables false
set_option maxRecDepth 100000

theorem chk_zero {B : Bal} {L : Lim} {c : Ord} {i : Int} : chk B L c i = 0 ↔ c.right = true ∧ wiB i 0 7 = true ∧ over B L c i = false := by
  unfold chk
  cases c.right <;> cases wiB i 0 7 <;> cases over B L c i <;> simp
theorem worth_right {c : Ord} (h : c.right = true) (v : Int) : c.worth v = decide (v < c.price * c.qty) := by
  obtain ⟨_, _, _, _, _, _, h7, h8, h9, _⟩ := (right_iff c).1 h
  have hp : 0 ≤ c.price ∧ c.price ≤ 1048576 := by
    by_cases hk : c.k = 2
    · have := h7 hk
      omega
    · have := h8 hk
      omega
  have h1 : c.price * c.qty ≤ 1048576 * 1048576 := Int.mul_le_mul hp.2 h9.2 (by omega) (by omega)
  unfold Ord.worth timesM
  rw [if_neg (by omega), if_neg (by omega)]
  simp
theorem over_no {B : Bal} {L : Lim} {c : Ord} {i : Int} (h : c.right = true) : over B L c i = false ↔ c.qty ≤ L.q ∧ c.price * c.qty ≤ L.m ∧ B.all c.tr + c.qty ≤ L.o ∧ B.reach c i ≤ L.p := by
  unfold over
  rw [worth_right h]
  simp only [Bool.or_eq_false_iff, decide_eq_false_iff_not, Int.not_lt, and_assoc]
theorem wider_is {B : Bal} {L M : Lim} {c : Ord} {i : Int} (h : chk B L c i = 0) (h1 : L.q ≤ M.q) (h2 : L.m ≤ M.m) (h3 : L.o ≤ M.o) (h4 : L.p ≤ M.p) : chk B M c i = 0 := by
  obtain ⟨hr, hw, ho⟩ := chk_zero.1 h
  obtain ⟨o1, o2, o3, o4⟩ := (over_no hr).1 ho
  exact chk_zero.2 ⟨hr, hw, (over_no hr).2 ⟨by omega, by omega, by omega, by omega⟩⟩
theorem less_is {B : Bal} {L : Lim} {c d : Ord} {i n : Int} (h : chk B L c i = 0) (n0 : 1 ≤ n) (n1 : n ≤ c.qty) (hd : d = ⟨c.tr, c.id, c.firm, c.side, c.k, c.price, n, mn c.shw n, c.stop⟩) : chk B L d i = 0 := by
  obtain ⟨hr, hw, ho⟩ := chk_zero.1 h
  obtain ⟨o1, o2, o3, o4⟩ := (over_no hr).1 ho
  obtain ⟨r1, r2, r3, r4, r5, r6, r7, r8, r9, r10⟩ := (right_iff c).1 hr
  have m1 := mn_le c.shw n
  have m2 : 0 ≤ mn c.shw n := by rcases mn_eq c.shw n with e | e <;> rw [e] <;> omega
  have hdr : d.right = true := by
    subst hd
    refine (right_iff _).2 ⟨r1, r2, r3, r4, r5, r6, r7, r8, ⟨n0, by show n ≤ _; omega⟩, m2, m1.2, ?_⟩
    dsimp only
    omega
  have hp : 0 ≤ c.price := by
    by_cases hk : c.k = 2
    · have := r7 hk
      omega
    · have := r8 hk
      omega
  have e1 : d.qty = n := by subst hd; rfl
  have e2 : d.price = c.price := by subst hd; rfl
  have e3 : d.tr = c.tr := by subst hd; rfl
  have e4 : B.side d i = B.side c i := by subst hd; rfl
  have hm := Int.mul_le_mul_of_nonneg_left n1 hp
  refine chk_zero.2 ⟨hdr, hw, (over_no hdr).2 ?_⟩
  unfold Bal.reach at o4 ⊢
  rw [e1, e2, e3, e4]
  exact ⟨by omega, by omega, by omega, by omega⟩
theorem lim_lt' {w : World} {g : Nat} {L : Lim} (h : w.rangeAt g 0 L.cells) : g < w.heap.size := World.block_lt_of_cell? w _ (h 0 (.int .i64 L.q) rfl)
theorem ord_lt' {w : World} {g : Nat} {c : Ord} (h : w.rangeAt g 0 c.cells) : g < w.heap.size := World.block_lt_of_cell? w _ (h 0 (.int .i64 c.tr) rfl)
theorem mn_up {x d m : Int} (h0 : 0 ≤ x) (h1 : x ≤ m) (h2 : 0 ≤ d) : x ≤ mn m (x + d) ∧ mn m (x + d) ≤ m := by
  have := mn_le m (x + d)
  rcases mn_eq m (x + d) with e | e <;> rw [e] at this ⊢ <;> omega
set_option maxRecDepth 100000 in
set_option maxHeartbeats 3200000 in
theorem riskWider_any (v : Value) (l : List Bq) (L : Lim) (c : Ord) (i more less : Int) (w : World) (hl : Bqs w v l) : Calls Try.prog 5 #[v, L.v, c.v, .int .i64 i, .int .i64 more, .int .i64 less] w fun e w' => e = .returned (.bool true) ∧ Kept w w' := by
  have HA := Lib.hid hl
  clear hl
  obtain ⟨b0, hb0⟩ : ∃ z, w.alloc (.cells L.cells.toArray 25) = z := ⟨_, rfl⟩
  have q0 : Kept w b0 := by rw [← hb0]; exact (Keep.refl _ _).alloc _
  have r0 : b0.rangeAt w.heap.size 0 L.cells := by rw [← hb0]; exact blk_range (Blk.new w 25 L.cells)
  obtain ⟨b1, hb1⟩ : ∃ z, b0.alloc (.cells c.cells.toArray 29) = z := ⟨_, rfl⟩
  have q1 : Kept b0 b1 := by rw [← hb1]; exact (Keep.refl _ _).alloc _
  have r1 : b1.rangeAt b0.heap.size 0 c.cells := by rw [← hb1]; exact blk_range (Blk.new b0 29 c.cells)
  have HB7 := Lib.hid (range_kept (r0) q1)
  have HB8 := Lib.hid (r1)
  have k0 := (q0).trans q1
  clear r0 r1
  go_enter Try.func5, Try.ntmps5
  go_upto_region 0 with fail
  refine wp_region_lit ?_
  refine l_new (o := ⟨some 7, _, _, _, _, _⟩) (.pointer (some ⟨w.heap.size, 0, none⟩)) b0 rfl (by rw [← hb0]; exact exec_box 25 (.tmp 1) L.cells rfl (by kernel_rfl)) ?_
  simp only [Act.put, List.setIfInBounds_toArray, List.set_cons_succ, List.set_cons_zero]
  refine l_new (o := ⟨some 8, _, _, _, _, _⟩) (.pointer (some ⟨b0.heap.size, 0, none⟩)) b1 rfl (by rw [← hb1]; exact exec_box 29 (.tmp 2) c.cells rfl (by kernel_rfl)) ?_
  simp only [Act.put, List.setIfInBounds_toArray, List.set_cons_succ, List.set_cons_zero]
  refine l_val (o := ⟨some 12, _, _, _, _, _⟩) (.bool false) rfl (exec_assign (.const (.bool false)) (.bool false) rfl (by kernel_rfl)) ?_
  simp only [Act.put, List.setIfInBounds_toArray, List.set_cons_succ, List.set_cons_zero]
  refine wpList_nil ?_
  obtain ⟨g7, hg7⟩ : ∃ g, w.heap.size = g := ⟨_, rfl⟩
  rw [hg7] at HB7 ⊢
  obtain ⟨g8, hg8⟩ : ∃ g, b0.heap.size = g := ⟨_, rfl⟩
  rw [hg8] at HB8 ⊢
  clear hg7 hb0 q0 hg8 hb1 q1
  go_upto_region 1 with fail
  refine wp_region_lit ?_
  refine l_val (o := ⟨some 18, _, _, _, _, _⟩) (v) rfl (exec_move (.tmp 0) (v) rfl (by kernel_rfl)) ?_
  simp only [Act.put, List.setIfInBounds_toArray, List.set_cons_succ, List.set_cons_zero]
  refine l_call (o := ⟨some 19, _, _, _, _, _⟩) 13 #[v] rfl (exec_call 13 _ [.tmp 18] _ _ Try.func13 (by kernel_rfl) (by kernel_rfl) rfl (by kernel_rfl) _) ?_
  refine (both_any v l b1 (HA.out.kept k0)).mono ?_
  rintro e w1 ⟨g, r, B, rfl, hO, hB, hR, hg, hr, hgr, k1⟩
  refine ⟨_, rfl, ?_⟩
  simp only [Act.put, List.setIfInBounds_toArray, List.set_cons_succ, List.set_cons_zero]
  refine l_val (o := ⟨some 17, _, _, _, _, _⟩) (.tuple #[.pointer (some ⟨g, 0, none⟩), .pointer (some ⟨r, 0, none⟩)]) rfl (exec_move (.tmp 19) (.tuple #[.pointer (some ⟨g, 0, none⟩), .pointer (some ⟨r, 0, none⟩)]) rfl (by kernel_rfl)) ?_
  simp only [Act.put, List.setIfInBounds_toArray, List.set_cons_succ, List.set_cons_zero]
  refine l_val (o := ⟨some 20, _, _, _, _, _⟩) (.pointer (some ⟨g, 0, none⟩)) rfl (exec_extract (.tmp 17) [.pointer (some ⟨g, 0, none⟩), .pointer (some ⟨r, 0, none⟩)] 0 _ rfl (by kernel_rfl) rfl) ?_
  simp only [Act.put, List.setIfInBounds_toArray, List.set_cons_succ, List.set_cons_zero]
  refine l_val (o := ⟨some 21, _, _, _, _, _⟩) (.pointer (some ⟨r, 0, none⟩)) rfl (exec_extract (.tmp 17) [.pointer (some ⟨g, 0, none⟩), .pointer (some ⟨r, 0, none⟩)] 1 _ rfl (by kernel_rfl) rfl) ?_
  simp only [Act.put, List.setIfInBounds_toArray, List.set_cons_succ, List.set_cons_zero]
  refine l_val (o := ⟨some 13, _, _, _, _, _⟩) (.pointer (some ⟨g, 0, none⟩)) rfl (exec_assign (.tmp 20) (.pointer (some ⟨g, 0, none⟩)) rfl (by kernel_rfl)) ?_
  simp only [Act.put, List.setIfInBounds_toArray, List.set_cons_succ, List.set_cons_zero]
  refine l_val (o := ⟨some 14, _, _, _, _, _⟩) (.pointer (some ⟨r, 0, none⟩)) rfl (exec_assign (.tmp 21) (.pointer (some ⟨r, 0, none⟩)) rfl (by kernel_rfl)) ?_
  simp only [Act.put, List.setIfInBounds_toArray, List.set_cons_succ, List.set_cons_zero]
  refine wpList_nil ?_
  have HI := Lib.hid hO
  have HB1 := Lib.hid hB
  have HL1 := Lib.hid (range_kept HB7.out k1)
  have HC1 := Lib.hid (range_kept HB8.out k1)
  have kw1 := k0.trans k1
  clear hO hB hR HB7 HB8 k0 k1 HA hr hgr
  go_upto_region 2 with fail
  refine wp_text 2 [.eq (.pointer (some ⟨g, 0, none⟩)), .eq (.bool false)] rfl (by kernel_rfl) ?_ ?_
  · refine sv 1 rfl rfl rfl (fun a u hE hD hk => exec_move (.tmp 13) _ rfl (hE 13 (.pointer (some ⟨g, 0, none⟩)) (by kernel_rfl) (by kernel_rfl))) ?_
    refine sv 2 rfl rfl rfl (fun a u hE hD hk => exec_eqP (.tmp 22) _ _ ⟨g, 0, none⟩ (by kernel_rfl) rfl (hD 0 22 (by kernel_rfl))) ?_
    exact fsteps_nil
  intro gv w2 hV k2
  rw [show dstsOf _ 2 = [22, 23] by kernel_rfl]
  simp only [List.foldl_cons, List.foldl_nil, List.setIfInBounds_toArray, List.set_cons_succ, List.set_cons_zero, List.drop_succ_cons, List.drop_zero]
  rw [show gv 23 = .bool false from hV 1 23 (by kernel_rfl)]
  clear hV
  refine wpList_nil ?_
  have HL2 := Lib.hid (range_kept HL1.out k2)
  have HC2 := Lib.hid (range_kept HC1.out k2)
  have HB2 := Lib.hid (HB1.out.kept k2)
  have kw2 := kw1.trans k2
  clear HL1 HC1 HB1 kw1 k2
  cases hRb : L.right with
  | false =>
    have HRb := Lib.hid hRb
    clear hRb
    go_upto_region 4 with fail
    refine wp_text 11 [.eq (L.v), .eq (.bool false), .eq (.bool true), .eq (.bool true), .eq undef, .eq undef, .eq undef, .eq undef, .eq undef, .eq undef, .eq (.bool true)] rfl (by kernel_rfl) ?_ ?_
    · refine sv 1 rfl rfl rfl (fun a u hE hD hk => exec_ldS 25 _ (.tmp 7) (g7) (0) (L.cells) rfl (hE 7 (.pointer (some ⟨g7, 0, none⟩)) (by kernel_rfl) (by kernel_rfl)) (range_kept HL2.out hk) Try.underlying25 (by rw [L.len4l]; exact szLim)) ?_
      refine fsteps_cons 2 rfl (fun a u hE hD hk => f_call (o := ⟨some 25, _, _, _, _, _⟩) 12 #[L.v] rfl (wanted_none rfl _) (exec_call 12 _ [.tmp 24] _ [L.v] Try.func12 (by kernel_rfl) (by kernel_rfl) rfl (show [a.eval (.tmp 24)] = [L.v] from (by rw [show a.eval (.tmp 24) = L.v from (hD 0 24 (by kernel_rfl))] <;> rfl)) u) (by rw [← HRb.out]; exact lright_any L u)) ?_
      refine sv 3 rfl rfl rfl (fun a u hE hD hk => exec_not _ (.tmp 25) false rfl (hD 1 25 (by kernel_rfl))) ?_
      refine sv 4 rfl rfl rfl (fun a u hE hD hk => exec_move (.tmp 26) _ rfl (hD 2 26 (by kernel_rfl))) ?_
      refine fsteps_cons 5 rfl (fun a u hE hD hk => f_skip (o := ⟨some 28, _, _, _, _, _⟩) rfl (wanted_at (b := false) true rfl rfl (hD 3 27 (by kernel_rfl))) rfl) ?_
      refine fsteps_cons 6 rfl (fun a u hE hD hk => f_skip (o := ⟨some 29, _, _, _, _, _⟩) rfl (wanted_at (b := false) true rfl rfl (hD 3 27 (by kernel_rfl))) rfl) ?_
      refine fsteps_cons 7 rfl (fun a u hE hD hk => f_skip (o := ⟨some 30, _, _, _, _, _⟩) rfl (wanted_at (b := false) true rfl rfl (hD 3 27 (by kernel_rfl))) rfl) ?_
      refine fsteps_cons 8 rfl (fun a u hE hD hk => f_skip (o := ⟨some 31, _, _, _, _, _⟩) rfl (wanted_at (b := false) true rfl rfl (hD 3 27 (by kernel_rfl))) rfl) ?_
      refine fsteps_cons 9 rfl (fun a u hE hD hk => f_skip (o := ⟨some 32, _, _, _, _, _⟩) rfl (wanted_at (b := false) true rfl rfl (hD 3 27 (by kernel_rfl))) rfl) ?_
      refine fsteps_cons 10 rfl (fun a u hE hD hk => f_skip (o := ⟨some 33, _, _, _, _, _⟩) rfl (wanted_at (b := false) true rfl rfl (hD 3 27 (by kernel_rfl))) rfl) ?_
      refine sv 11 rfl rfl rfl (fun a u hE hD hk => exec_pick (.tmp 27) (.const (.bool true)) (.tmp 33) (.bool true) rfl (hD 3 27 (by kernel_rfl)) rfl) ?_
      exact fsteps_nil
    intro gv w3 hV k3
    rw [show dstsOf _ 11 = [24, 25, 26, 27, 28, 29, 30, 31, 32, 33, 34] by kernel_rfl]
    simp only [List.foldl_cons, List.foldl_nil, List.setIfInBounds_toArray, List.set_cons_succ, List.set_cons_zero, List.drop_succ_cons, List.drop_zero]
    rw [show gv 34 = .bool true from hV 10 34 (by kernel_rfl)]
    clear hV
    refine wpList_nil ?_
    go_upto_region 5 with fail
    refine wp_text 2 [.eq (.bool true), .eq (.bool true)] rfl (by kernel_rfl) ?_ ?_
    · refine fsteps_cons 1 rfl (fun a u hE hD hk => f_call (o := ⟨some 35, _, _, _, _, _⟩) 3 #[] rfl (wanted_none rfl _) (exec_call 3 _ [] _ [] Try.func3 (by kernel_rfl) (by kernel_rfl) rfl rfl u) (riskRuns_is u)) ?_
      refine sv 2 rfl rfl rfl (fun a u hE hD hk => exec_assign (.tmp 35) _ rfl (hD 0 35 (by kernel_rfl))) ?_
      exact fsteps_nil
    intro gv w4 hV k4
    rw [show dstsOf _ 2 = [35, 12] by kernel_rfl]
    simp only [List.foldl_cons, List.foldl_nil, List.setIfInBounds_toArray, List.set_cons_succ, List.set_cons_zero, List.drop_succ_cons, List.drop_zero]
    rw [show gv 12 = .bool true from hV 1 12 (by kernel_rfl)]
    clear hV
    refine wpList_nil ?_
    have kwz := (kw2.trans k3).trans k4
    go_wp2
    go_ret
    exact ⟨rfl, kwz⟩
  | true =>
    by_cases hV : chk B L c i = 0
    · skip
      have hq := chk_zero.1 hV
      have hc := (right_iff c).1 hq.1
      obtain ⟨_, _, _, _, _, _, _, _, hqb, hsb⟩ := hc
      have hlr := hRb
      unfold Lim.right at hlr
      rw [Bool.and_eq_true, Bool.and_eq_true, Bool.and_eq_true, wiB_iff, wiB_iff, wiB_iff, decide_eq_true_eq] at hlr
      obtain ⟨⟨⟨l1, l2⟩, l3⟩, l4⟩ := hlr
      obtain ⟨D, hD⟩ : ∃ D, wi more 0 99 = D := ⟨_, rfl⟩
      have bD := wi_in more 0 99 (by omega)
      rw [hD] at bD
      have HD := Lib.hid hD
      obtain ⟨n, hn⟩ : ∃ n, wi less 1 c.qty = n := ⟨_, rfl⟩
      have bn := wi_in less 1 c.qty (by omega)
      rw [hn] at bn
      have Hn := Lib.hid hn
      have mq := mn_up (m := 1048576) l1.1 l1.2 bD.1
      have mo := mn_up (m := 1099511627776) l3.1 l3.2 bD.1
      have mp := mn_up (m := 1099511627776) l4.1 l4.2 bD.1
      obtain ⟨Rq, hRq⟩ : ∃ z, mn 1048576 (L.q + D) = z := ⟨_, rfl⟩
      obtain ⟨Ro, hRo⟩ : ∃ z, mn 1099511627776 (L.o + D) = z := ⟨_, rfl⟩
      obtain ⟨Rp, hRp⟩ : ∃ z, mn 1099511627776 (L.p + D) = z := ⟨_, rfl⟩
      rw [hRq] at mq
      rw [hRo] at mo
      rw [hRp] at mp
      have HRq : Hid ((if L.q + D < 1048576 then L.q + D else 1048576) = Rq) := hRq
      have HRo : Hid ((if L.o + D < 1099511627776 then L.o + D else 1099511627776) = Ro) := hRo
      have HRp : Hid ((if L.p + D < 1099511627776 then L.p + D else 1099511627776) = Rp) := hRp
      obtain ⟨M, hM⟩ : ∃ M, Lim.mk Rq L.m Ro Rp = M := ⟨_, rfl⟩
      have HM : Hid (M.right = true) := by
        show _ = _
        rw [← hM]
        unfold Lim.right
        rw [Bool.and_eq_true, Bool.and_eq_true, Bool.and_eq_true, wiB_iff, wiB_iff, wiB_iff, decide_eq_true_eq]
        dsimp only
        omega
      have HVM : Hid (chk B M c i = 0) := wider_is hV (by rw [← hM]; exact mq.1) (by rw [← hM]; exact Int.le_refl _) (by rw [← hM]; exact mo.1) (by rw [← hM]; exact mp.1)
      obtain ⟨c1, hc1⟩ : ∃ d : Ord, ⟨c.tr, c.id, c.firm, c.side, c.k, c.price, n, c.shw, c.stop⟩ = d := ⟨_, rfl⟩
      obtain ⟨d, hd⟩ : ∃ d : Ord, ⟨c.tr, c.id, c.firm, c.side, c.k, c.price, n, mn c.shw n, c.stop⟩ = d := ⟨_, rfl⟩
      have HVd : Hid (chk B L d i = 0) := less_is hV bn.1 bn.2 hd.symm
      have HS1 : Hid (c.cells.set 6 (.int .i64 n) = c1.cells) := by show _ = _; rw [← hc1]; rfl
      have HS2 : Hid (c1.cells.set 7 (.int .i64 (mn c.shw n)) = d.cells) := by show _ = _; rw [← hc1, ← hd]; rfl
      have q1 : c1.qty = n := by rw [← hc1]
      have q2 : c1.shw = c.shw := by rw [← hc1]
      have Q1 := Lib.hid q1
      have Q2 := Lib.hid q2
      have HMl : Hid ((((L.l.set 0 Rq).set 2 Ro).set 3 Rp) = M.l) := by show _ = _; rw [← hM]; rfl
      have HV := Lib.hid hV
      have HRb := Lib.hid hRb
      have bq := hqb
      clear hq hsb hV hRb hD hn hRq hRo hRp hM hc1 hd q1 q2 hqb mq mo mp
      go_upto_region 4 with fail
      refine wp_text 11 [.eq (L.v), .eq (.bool true), .eq (.bool false), .eq (.bool false), .eq (.pointer (some ⟨g, 0, none⟩)), .eq (L.v), .eq (c.v), .eq (.int .i64 i), .eq (.int .i64 0), .eq (.bool false), .eq (.bool false)] rfl (by kernel_rfl) ?_ ?_
      · refine sv 1 rfl rfl rfl (fun a u hE hD hk => exec_ldS 25 _ (.tmp 7) (g7) (0) (L.cells) rfl (hE 7 (.pointer (some ⟨g7, 0, none⟩)) (by kernel_rfl) (by kernel_rfl)) (range_kept HL2.out hk) Try.underlying25 (by rw [L.len4l]; exact szLim)) ?_
        refine fsteps_cons 2 rfl (fun a u hE hD hk => f_call (o := ⟨some 25, _, _, _, _, _⟩) 12 #[L.v] rfl (wanted_none rfl _) (exec_call 12 _ [.tmp 24] _ [L.v] Try.func12 (by kernel_rfl) (by kernel_rfl) rfl (show [a.eval (.tmp 24)] = [L.v] from (by rw [show a.eval (.tmp 24) = L.v from (hD 0 24 (by kernel_rfl))] <;> rfl)) u) (by rw [← HRb.out]; exact lright_any L u)) ?_
        refine sv 3 rfl rfl rfl (fun a u hE hD hk => exec_not _ (.tmp 25) true rfl (hD 1 25 (by kernel_rfl))) ?_
        refine sv 4 rfl rfl rfl (fun a u hE hD hk => exec_move (.tmp 26) _ rfl (hD 2 26 (by kernel_rfl))) ?_
        refine fsteps_cons 5 rfl (fun a u hE hD hk => f_val (o := ⟨some 28, _, _, _, _, _⟩) (.pointer (some ⟨g, 0, none⟩)) rfl (wanted_at (b := false) false rfl rfl (hD 3 27 (by kernel_rfl))) (exec_move (.tmp 13) _ rfl (hE 13 (.pointer (some ⟨g, 0, none⟩)) (by kernel_rfl) (by kernel_rfl))) rfl) ?_
        refine fsteps_cons 6 rfl (fun a u hE hD hk => f_val (o := ⟨some 29, _, _, _, _, _⟩) (L.v) rfl (wanted_at (b := false) false rfl rfl (hD 3 27 (by kernel_rfl))) (exec_ldS 25 _ (.tmp 7) (g7) (0) (L.cells) rfl (hE 7 (.pointer (some ⟨g7, 0, none⟩)) (by kernel_rfl) (by kernel_rfl)) (range_kept HL2.out hk) Try.underlying25 (by rw [L.len4l]; exact szLim)) rfl) ?_
        refine fsteps_cons 7 rfl (fun a u hE hD hk => f_val (o := ⟨some 30, _, _, _, _, _⟩) (c.v) rfl (wanted_at (b := false) false rfl rfl (hD 3 27 (by kernel_rfl))) (exec_ldS 29 _ (.tmp 8) (g8) (0) (c.cells) rfl (hE 8 (.pointer (some ⟨g8, 0, none⟩)) (by kernel_rfl) (by kernel_rfl)) (range_kept HC2.out hk) Try.underlying29 (by rw [c.len9]; exact ord_size)) rfl) ?_
        refine fsteps_cons 8 rfl (fun a u hE hD hk => f_val (o := ⟨some 31, _, _, _, _, _⟩) (.int .i64 i) rfl (wanted_at (b := false) false rfl rfl (hD 3 27 (by kernel_rfl))) (exec_move (.tmp 3) _ rfl (hE 3 (.int .i64 i) (by kernel_rfl) (by kernel_rfl))) rfl) ?_
        refine fsteps_cons 9 rfl (fun a u hE hD hk => f_call (o := ⟨some 32, _, _, _, _, _⟩) 10 #[.pointer (some ⟨g, 0, none⟩), L.v, c.v, .int .i64 i] rfl (wanted_at (b := false) false rfl rfl (hD 3 27 (by kernel_rfl))) (exec_call 10 _ [.tmp 28, .tmp 29, .tmp 30, .tmp 31] _ [.pointer (some ⟨g, 0, none⟩), L.v, c.v, .int .i64 i] Try.func10 (by kernel_rfl) (by kernel_rfl) rfl (show [a.eval (.tmp 28), a.eval (.tmp 29), a.eval (.tmp 30), a.eval (.tmp 31)] = [.pointer (some ⟨g, 0, none⟩), L.v, c.v, .int .i64 i] from (by rw [show a.eval (.tmp 28) = .pointer (some ⟨g, 0, none⟩) from (hD 4 28 (by kernel_rfl)), show a.eval (.tmp 29) = L.v from (hD 5 29 (by kernel_rfl)), show a.eval (.tmp 30) = c.v from (hD 6 30 (by kernel_rfl)), show a.eval (.tmp 31) = .int .i64 i from (hD 7 31 (by kernel_rfl))] <;> rfl)) u) (check_at (HB2.out.kept hk) HI.out HV.out)) ?_
        refine fsteps_cons 10 rfl (fun a u hE hD hk => f_as (show ((decide ((0 : Int) ≠ (0 : Int))) : Bool) = false from decide_eq_false (by omega)) (f_val (o := ⟨some 33, _, _, _, _, _⟩) (.bool (decide ((0 : Int) ≠ (0 : Int)))) rfl (wanted_at (b := false) false rfl rfl (hD 3 27 (by kernel_rfl))) (exec_nen (p := 0) (q := 0) rfl (hD 8 32 (by kernel_rfl)) rfl) rfl)) ?_
        refine sv 11 rfl rfl rfl (fun a u hE hD hk => exec_pickF (.tmp 27) (.const (.bool true)) (.tmp 33) (.bool false) rfl (hD 3 27 (by kernel_rfl)) (hD 9 33 (by kernel_rfl))) ?_
        exact fsteps_nil
      intro gv w3 hV k3
      rw [show dstsOf _ 11 = [24, 25, 26, 27, 28, 29, 30, 31, 32, 33, 34] by kernel_rfl]
      simp only [List.foldl_cons, List.foldl_nil, List.setIfInBounds_toArray, List.set_cons_succ, List.set_cons_zero, List.drop_succ_cons, List.drop_zero]
      rw [show gv 34 = .bool false from hV 10 34 (by kernel_rfl)]
      clear hV
      refine wpList_nil ?_
      have HB3 := Lib.hid (HB2.out.kept k3)
      have HL3 := Lib.hid (range_kept HL2.out k3)
      have HC3 := Lib.hid (range_kept HC2.out k3)
      have kw3 := kw2.trans k3
      have z7 := lim_lt' HL3.out
      have z8 := ord_lt' HC3.out
      have zg := HB3.out.lt
      have zw := kw3.size
      clear HB2 HL2 HC2 kw2 k3
      go_upto_region 6 with fail
      refine wp_text 1 [.eq (L.v)] rfl (by kernel_rfl) ?_ ?_
      · refine sv 1 rfl rfl rfl (fun a u hE hD hk => exec_ldS 25 _ (.tmp 7) (g7) (0) (L.cells) rfl (hE 7 (.pointer (some ⟨g7, 0, none⟩)) (by kernel_rfl) (by kernel_rfl)) (range_kept HL3.out hk) Try.underlying25 (by rw [L.len4l]; exact szLim)) ?_
        exact fsteps_nil
      intro gv wa hV ka
      rw [show dstsOf _ 1 = [36] by kernel_rfl]
      simp only [List.foldl_cons, List.foldl_nil, List.setIfInBounds_toArray, List.set_cons_succ, List.set_cons_zero, List.drop_succ_cons, List.drop_zero]
      rw [show gv 36 = L.v from hV 0 36 (by kernel_rfl)]
      clear hV
      refine l_new (o := ⟨some 15, _, _, _, _, _⟩) (.pointer (some ⟨wa.heap.size, 0, none⟩)) (wa.alloc (.cells zeroL.cells.toArray 25)) rfl (exec_alc 25 zeroL.cells rfl zLim) ?_
      have hNa := Blk.new wa 25 zeroL.cells
      have kb : Kept wa (wa.alloc (.cells zeroL.cells.toArray 25)) := (Keep.refl _ wa).alloc _
      generalize wa.alloc (.cells zeroL.cells.toArray 25) = wb at hNa kb ⊢
      simp only [Act.put, List.setIfInBounds_toArray, List.set_cons_succ, List.set_cons_zero]
      refine l_setS (o := ⟨none, _, _, _, _, _⟩) 25 wa.heap.size 25 zeroL.cells L.cells (.tmp 15) (.tmp 36) rfl rfl (by kernel_rfl) (by kernel_rfl) hNa (by rw [Lim.len4l]; exact szLim) (by rw [Lim.len4l, Lim.len4l]) (Lim.one _) ?_
      intro w4 hC hK hS
      simp only [Act.put]
      refine wpList_nil ?_
      obtain ⟨g15, hg15⟩ : ∃ y, wa.heap.size = y := ⟨_, rfl⟩
      rw [hg15] at hNa hC hK ⊢
      have zka := ka.size
      have z15 : w3.heap.size ≤ g15 := by omega
      have kw4 : Kept w3 w4 := (ka.trans kb).trans' hK (by omega)
      have HX15 := Lib.hid hC
      clear hNa hC hK hS kb ka zka hg15
      go_upto_region 7 with fail
      refine wp_sched (fun u => Kept w3 u) [(0, 0), (1, 0), (2, 0), (6, 0), (7, 0), (8, 0), (12, 0), (13, 0), (14, 0), (3, 1), (4, 0), (5, 0), (18, 0), (9, 1), (10, 0), (11, 0), (15, 1), (16, 0), (17, 0), (19, 1), (20, 0), (21, 1), (22, 0), (23, 1)] (by kernel_rfl) (by kernel_rfl) (Kept.trans kw4 (show Kept w4 w4.drew from Keep.drew (Keep.refl _ w4))) ?_
      refine s_val (o := ⟨some 37, _, _, _, _, _⟩) (.pointer (some ⟨g7, 0, none⟩)) rfl (by kernel_rfl) (fun u hu => exec_fldo 25 0 0 (.tmp 7) (g7) (0) (0) rfl (by kernel_rfl) (by kernel_rfl) rfl) ?_
      simp only [Act.put, List.setIfInBounds_toArray, List.set_cons_succ, List.set_cons_zero]
      refine s_val (o := ⟨some 38, _, _, _, _, _⟩) (.int .i64 L.q) rfl (by kernel_rfl) (fun u hu => exec_loadi 3 Try.underlying3 (.tmp 37) ⟨g7, 0, none⟩ (.int .i64 L.q) rfl (by kernel_rfl) (range_int (off := 0) (range_kept HL3.out hu) 0 _ rfl)) ?_
      simp only [Act.put, List.setIfInBounds_toArray, List.set_cons_succ, List.set_cons_zero]
      refine s_val (o := ⟨some 39, _, _, _, _, _⟩) (.int .i64 more) rfl (by kernel_rfl) (fun u hu => exec_move (.tmp 4) (.int .i64 more) rfl (by kernel_rfl)) ?_
      simp only [Act.put, List.setIfInBounds_toArray, List.set_cons_succ, List.set_cons_zero]
      refine s_val (o := ⟨some 43, _, _, _, _, _⟩) (.pointer (some ⟨g7, 2, none⟩)) rfl (by kernel_rfl) (fun u hu => exec_fldo 25 2 2 (.tmp 7) (g7) (0) (2) rfl (by kernel_rfl) (by kernel_rfl) rfl) ?_
      simp only [Act.put, List.setIfInBounds_toArray, List.set_cons_succ, List.set_cons_zero]
      refine s_val (o := ⟨some 44, _, _, _, _, _⟩) (.int .i64 L.o) rfl (by kernel_rfl) (fun u hu => exec_loadi 3 Try.underlying3 (.tmp 43) ⟨g7, 2, none⟩ (.int .i64 L.o) rfl (by kernel_rfl) (range_int (off := 0) (range_kept HL3.out hu) 2 _ rfl)) ?_
      simp only [Act.put, List.setIfInBounds_toArray, List.set_cons_succ, List.set_cons_zero]
      refine s_val (o := ⟨some 45, _, _, _, _, _⟩) (.int .i64 more) rfl (by kernel_rfl) (fun u hu => exec_move (.tmp 4) (.int .i64 more) rfl (by kernel_rfl)) ?_
      simp only [Act.put, List.setIfInBounds_toArray, List.set_cons_succ, List.set_cons_zero]
      refine s_val (o := ⟨some 49, _, _, _, _, _⟩) (.pointer (some ⟨g7, 3, none⟩)) rfl (by kernel_rfl) (fun u hu => exec_fldo 25 3 3 (.tmp 7) (g7) (0) (3) rfl (by kernel_rfl) (by kernel_rfl) rfl) ?_
      simp only [Act.put, List.setIfInBounds_toArray, List.set_cons_succ, List.set_cons_zero]
      refine s_val (o := ⟨some 50, _, _, _, _, _⟩) (.int .i64 L.p) rfl (by kernel_rfl) (fun u hu => exec_loadi 3 Try.underlying3 (.tmp 49) ⟨g7, 3, none⟩ (.int .i64 L.p) rfl (by kernel_rfl) (range_int (off := 0) (range_kept HL3.out hu) 3 _ rfl)) ?_
      simp only [Act.put, List.setIfInBounds_toArray, List.set_cons_succ, List.set_cons_zero]
      refine s_val (o := ⟨some 51, _, _, _, _, _⟩) (.int .i64 more) rfl (by kernel_rfl) (fun u hu => exec_move (.tmp 4) (.int .i64 more) rfl (by kernel_rfl)) ?_
      simp only [Act.put, List.setIfInBounds_toArray, List.set_cons_succ, List.set_cons_zero]
      refine s_call (o := ⟨some 40, _, _, _, _, _⟩) 16 #[.int .i64 more, .int .i64 0, .int .i64 99] rfl (by kernel_rfl) (exec_call 16 _ [.tmp 39, .const (.int .i64 0), .const (.int .i64 99)] _ _ Try.func16 (by kernel_rfl) (by kernel_rfl) rfl (by kernel_rfl)) ?_
      refine (within_is more 0 99 w4.drew (by omega) (by omega) (by omega)).mono ?_
      rintro e w4a ⟨v4, rfl, hv4, k4a⟩
      obtain rfl : v4 = .int .i64 D := by rw [← HD.out]; exact hv4
      have k4b : Kept w3 w4a := Kept.trans (Kept.trans kw4 (show Kept w4 w4.drew from Keep.drew (Keep.refl _ w4))) k4a
      have X1 := HX15.out.kept (Kept.trans (show Kept w4 w4.drew from Keep.drew (Keep.refl _ w4)) k4a)
      refine ⟨_, rfl, k4b, ?_⟩
      simp only [Act.put, List.setIfInBounds_toArray, List.set_cons_succ, List.set_cons_zero]
      refine s_val (o := ⟨some 41, _, _, _, _, _⟩) (.int .i64 (L.q + D)) rfl (by kernel_rfl) (fun u hu => exec_addn (p := L.q) (q := D) (L.q + D) rfl (by kernel_rfl) (by kernel_rfl) rfl (by omega) (by omega)) ?_
      simp only [Act.put, List.setIfInBounds_toArray, List.set_cons_succ, List.set_cons_zero]
      refine s_val (o := ⟨some 42, _, _, _, _, _⟩) (.int .i64 Rq) rfl (by kernel_rfl) (fun u hu => exec_min (.const (.int .i64 1048576)) (.tmp 41) _ (1048576) (L.q + D) Rq rfl rfl (by kernel_rfl) HRq.out) ?_
      simp only [Act.put, List.setIfInBounds_toArray, List.set_cons_succ, List.set_cons_zero]
      refine s_val (o := ⟨some 55, _, _, _, _, _⟩) (.pointer (some ⟨g15, 0, none⟩)) rfl (by kernel_rfl) (fun u hu => exec_fldo 25 0 0 (.tmp 15) (g15) (0) (0) rfl (by kernel_rfl) (by kernel_rfl) rfl) ?_
      simp only [Act.put, List.setIfInBounds_toArray, List.set_cons_succ, List.set_cons_zero]
      refine s_call (o := ⟨some 46, _, _, _, _, _⟩) 16 #[.int .i64 more, .int .i64 0, .int .i64 99] rfl (by kernel_rfl) (exec_call 16 _ [.tmp 45, .const (.int .i64 0), .const (.int .i64 99)] _ _ Try.func16 (by kernel_rfl) (by kernel_rfl) rfl (by kernel_rfl)) ?_
      refine (within_is more 0 99 w4a (by omega) (by omega) (by omega)).mono ?_
      rintro e w4c ⟨v4, rfl, hv4, k4a⟩
      obtain rfl : v4 = .int .i64 D := by rw [← HD.out]; exact hv4
      have k4d : Kept w3 w4c := Kept.trans k4b k4a
      have X2 := X1.kept k4a
      refine ⟨_, rfl, k4d, ?_⟩
      simp only [Act.put, List.setIfInBounds_toArray, List.set_cons_succ, List.set_cons_zero]
      refine s_val (o := ⟨some 47, _, _, _, _, _⟩) (.int .i64 (L.o + D)) rfl (by kernel_rfl) (fun u hu => exec_addn (p := L.o) (q := D) (L.o + D) rfl (by kernel_rfl) (by kernel_rfl) rfl (by omega) (by omega)) ?_
      simp only [Act.put, List.setIfInBounds_toArray, List.set_cons_succ, List.set_cons_zero]
      refine s_val (o := ⟨some 48, _, _, _, _, _⟩) (.int .i64 Ro) rfl (by kernel_rfl) (fun u hu => exec_min (.const (.int .i64 1099511627776)) (.tmp 47) _ (1099511627776) (L.o + D) Ro rfl rfl (by kernel_rfl) HRo.out) ?_
      simp only [Act.put, List.setIfInBounds_toArray, List.set_cons_succ, List.set_cons_zero]
      refine s_call (o := ⟨some 52, _, _, _, _, _⟩) 16 #[.int .i64 more, .int .i64 0, .int .i64 99] rfl (by kernel_rfl) (exec_call 16 _ [.tmp 51, .const (.int .i64 0), .const (.int .i64 99)] _ _ Try.func16 (by kernel_rfl) (by kernel_rfl) rfl (by kernel_rfl)) ?_
      refine (within_is more 0 99 w4c (by omega) (by omega) (by omega)).mono ?_
      rintro e w4e ⟨v4, rfl, hv4, k4a⟩
      obtain rfl : v4 = .int .i64 D := by rw [← HD.out]; exact hv4
      have k4f : Kept w3 w4e := Kept.trans k4d k4a
      have X3 : Blk w4e g15 25 (stc L.l []) := X2.kept k4a
      refine ⟨_, rfl, k4f, ?_⟩
      simp only [Act.put, List.setIfInBounds_toArray, List.set_cons_succ, List.set_cons_zero]
      refine s_val (o := ⟨some 53, _, _, _, _, _⟩) (.int .i64 (L.p + D)) rfl (by kernel_rfl) (fun u hu => exec_addn (p := L.p) (q := D) (L.p + D) rfl (by kernel_rfl) (by kernel_rfl) rfl (by omega) (by omega)) ?_
      simp only [Act.put, List.setIfInBounds_toArray, List.set_cons_succ, List.set_cons_zero]
      refine s_val (o := ⟨some 54, _, _, _, _, _⟩) (.int .i64 Rp) rfl (by kernel_rfl) (fun u hu => exec_min (.const (.int .i64 1099511627776)) (.tmp 53) _ (1099511627776) (L.p + D) Rp rfl rfl (by kernel_rfl) HRp.out) ?_
      simp only [Act.put, List.setIfInBounds_toArray, List.set_cons_succ, List.set_cons_zero]
      refine s_setf (o := ⟨none, _, _, _, _, _⟩) g15 0 25 (L.l) [] Rq (.tmp 55) (.tmp 42) rfl (by kernel_rfl) rfl (by kernel_rfl) (by kernel_rfl) X3 (by simp [Lim.l]) (fun w' hk => Kept.trans' k4f hk (by omega)) ?_
      intro v0 Y0 y0 s0
      have t0 : Kept w3 v0 := Kept.trans' k4f y0 (by omega)
      simp only [Act.put]
      refine s_val (o := ⟨some 56, _, _, _, _, _⟩) (.pointer (some ⟨g15, 2, none⟩)) rfl (by kernel_rfl) (fun u hu => exec_fldo 25 2 2 (.tmp 15) (g15) (0) (2) rfl (by kernel_rfl) (by kernel_rfl) rfl) ?_
      simp only [Act.put, List.setIfInBounds_toArray, List.set_cons_succ, List.set_cons_zero]
      refine s_setf (o := ⟨none, _, _, _, _, _⟩) g15 2 25 ((L.l).set 0 Rq) [] Ro (.tmp 56) (.tmp 48) rfl (by kernel_rfl) rfl (by kernel_rfl) (by kernel_rfl) Y0 (by simp [Lim.l]) (fun w' hk => Kept.trans' t0 hk (by omega)) ?_
      intro v1 Y1 y1 s1
      have t1 : Kept w3 v1 := Kept.trans' t0 y1 (by omega)
      simp only [Act.put]
      refine s_val (o := ⟨some 57, _, _, _, _, _⟩) (.pointer (some ⟨g15, 3, none⟩)) rfl (by kernel_rfl) (fun u hu => exec_fldo 25 3 3 (.tmp 15) (g15) (0) (3) rfl (by kernel_rfl) (by kernel_rfl) rfl) ?_
      simp only [Act.put, List.setIfInBounds_toArray, List.set_cons_succ, List.set_cons_zero]
      refine s_setf (o := ⟨none, _, _, _, _, _⟩) g15 3 25 (((L.l).set 0 Rq).set 2 Ro) [] Rp (.tmp 57) (.tmp 54) rfl (by kernel_rfl) rfl (by kernel_rfl) (by kernel_rfl) Y1 (by simp [Lim.l]) (fun w' hk => Kept.trans' t1 hk (by omega)) ?_
      intro v2 Y2 y2 s2
      have t2 : Kept w3 v2 := Kept.trans' t1 y2 (by omega)
      simp only [Act.put]
      refine s_done ?_
      have HX : Hid (Blk v2 g15 25 M.cells) := by
        have h := Y2
        rw [HMl.out] at h
        exact h
      have HB5 := Lib.hid (HB3.out.kept t2)
      have HL5 := Lib.hid (range_kept HL3.out t2)
      have HC5 := Lib.hid (range_kept HC3.out t2)
      have zx := HX.out.lt
      have kw5 := kw3.trans t2
      clear Y0 Y1 Y2 y0 y1 y2 s0 s1 s2 t0 t1 X1 X2 X3 k4b k4d k4f HB3 HL3 HC3 HX15 kw3 kw4
      go_upto_region 8 with fail
      refine wp_text 1 [.eq (c.v)] rfl (by kernel_rfl) ?_ ?_
      · refine sv 1 rfl rfl rfl (fun a u hE hD hk => exec_ldS 29 _ (.tmp 8) (g8) (0) (c.cells) rfl (hE 8 (.pointer (some ⟨g8, 0, none⟩)) (by kernel_rfl) (by kernel_rfl)) (range_kept HC5.out hk) Try.underlying29 (by rw [c.len9]; exact ord_size)) ?_
        exact fsteps_nil
      intro gv wa hV ka
      rw [show dstsOf _ 1 = [58] by kernel_rfl]
      simp only [List.foldl_cons, List.foldl_nil, List.setIfInBounds_toArray, List.set_cons_succ, List.set_cons_zero, List.drop_succ_cons, List.drop_zero]
      rw [show gv 58 = c.v from hV 0 58 (by kernel_rfl)]
      clear hV
      refine l_new (o := ⟨some 16, _, _, _, _, _⟩) (.pointer (some ⟨wa.heap.size, 0, none⟩)) (wa.alloc (.cells zeroO.cells.toArray 29)) rfl (exec_alc 29 zeroO.cells rfl zO) ?_
      have hNa := Blk.new wa 29 zeroO.cells
      have kb : Kept wa (wa.alloc (.cells zeroO.cells.toArray 29)) := (Keep.refl _ wa).alloc _
      generalize wa.alloc (.cells zeroO.cells.toArray 29) = wb at hNa kb ⊢
      simp only [Act.put, List.setIfInBounds_toArray, List.set_cons_succ, List.set_cons_zero]
      refine l_setS (o := ⟨none, _, _, _, _, _⟩) 29 wa.heap.size 29 zeroO.cells c.cells (.tmp 16) (.tmp 58) rfl rfl (by kernel_rfl) (by kernel_rfl) hNa (by rw [Ord.len9]; exact ord_size) (by rw [Ord.len9, Ord.len9]) (Ord.one1 _) ?_
      intro w6 hC hK hS
      simp only [Act.put]
      refine wpList_nil ?_
      obtain ⟨g16, hg16⟩ : ∃ y, wa.heap.size = y := ⟨_, rfl⟩
      rw [hg16] at hNa hC hK ⊢
      have zka := ka.size
      have z16 : v2.heap.size ≤ g16 := by omega
      have kw6 : Kept v2 w6 := (ka.trans kb).trans' hK (by omega)
      have HX16 := Lib.hid hC
      clear hNa hC hK hS kb ka zka hg16
      have HX6 := Lib.hid (HX.out.kept kw6)
      have HB6 := Lib.hid (HB5.out.kept kw6)
      have HL6 := Lib.hid (range_kept HL5.out kw6)
      have HC6 := Lib.hid (range_kept HC5.out kw6)
      have z16 := HX16.out.lt
      have o16 : g7 < g16 ∧ g8 < g16 ∧ g < g16 ∧ g15 < g16 ∧ w.heap.size ≤ g16 := by have := t2.size; have := kw5.size; omega
      have kz6 := kw5.trans kw6
      clear HX HB5 HL5 HC5 kw5 kw6 t2
      go_upto_region 9 with fail
      refine wp_text 5 [.eq (.int .i64 less), .eq (.pointer (some ⟨g8, 6, none⟩)), .eq (.int .i64 c.qty), .eq (.int .i64 n), .eq (.pointer (some ⟨g16, 6, none⟩))] rfl (by kernel_rfl) ?_ ?_
      · refine sv 1 rfl rfl rfl (fun a u hE hD hk => exec_move (.tmp 5) _ rfl (hE 5 (.int .i64 less) (by kernel_rfl) (by kernel_rfl))) ?_
        refine sv 2 rfl rfl rfl (fun a u hE hD hk => exec_fldo 29 6 6 (.tmp 8) (g8) (0) (6) rfl (hE 8 (.pointer (some ⟨g8, 0, none⟩)) (by kernel_rfl) (by kernel_rfl)) (by kernel_rfl) rfl) ?_
        refine sv 3 rfl rfl rfl (fun a u hE hD hk => exec_loadi 3 Try.underlying3 (.tmp 60) ⟨g8, 6, none⟩ (.int .i64 c.qty) rfl (hD 1 60 (by kernel_rfl)) (range_int (range_kept HC6.out hk) 6 _ rfl)) ?_
        refine fsteps_cons 4 rfl (fun a u hE hD hk => f_call (o := ⟨some 62, _, _, _, _, _⟩) 16 #[.int .i64 less, .int .i64 1, .int .i64 c.qty] rfl (wanted_none rfl _) (exec_call 16 _ [.tmp 59, .const (.int .i64 1), .tmp 61] _ [.int .i64 less, .int .i64 1, .int .i64 c.qty] Try.func16 (by kernel_rfl) (by kernel_rfl) rfl (show [a.eval (.tmp 59), a.eval (.const (.int .i64 1)), a.eval (.tmp 61)] = [.int .i64 less, .int .i64 1, .int .i64 c.qty] from (by rw [show a.eval (.tmp 59) = .int .i64 less from (hD 0 59 (by kernel_rfl)), show a.eval (.tmp 61) = .int .i64 c.qty from (hD 2 61 (by kernel_rfl))] <;> rfl)) u) (by rw [← Hn.out]; exact within_is less 1 c.qty u (by omega) (by omega) (by omega))) ?_
        refine sv 5 rfl rfl rfl (fun a u hE hD hk => exec_fldo 29 6 6 (.tmp 16) (g16) (0) (6) rfl (hE 16 (.pointer (some ⟨g16, 0, none⟩)) (by kernel_rfl) (by kernel_rfl)) (by kernel_rfl) rfl) ?_
        exact fsteps_nil
      intro gv wa hV ka
      rw [show dstsOf _ 5 = [59, 60, 61, 62, 63] by kernel_rfl]
      simp only [List.foldl_cons, List.foldl_nil, List.setIfInBounds_toArray, List.set_cons_succ, List.set_cons_zero, List.drop_succ_cons, List.drop_zero]
      rw [show gv 63 = .pointer (some ⟨g16, 6, none⟩) from hV 4 63 (by kernel_rfl)]
      rw [show gv 62 = .int .i64 n from hV 3 62 (by kernel_rfl)]
      clear hV
      refine l_putN (o := ⟨none, _, _, _, _, _⟩) g16 6 29 c.cells c1.cells n (.tmp 63) (.tmp 62) rfl rfl (by kernel_rfl) (by kernel_rfl) (HX16.out.kept ka) (by rw [Ord.len9]; omega) HS1.out ?_
      intro wb hC hK hS
      simp only [Act.put]
      refine wpList_nil ?_
      have HX7 := Lib.hid ((HX6.out.kept ka).keep hK (by omega))
      have HB7 := Lib.hid ((HB6.out.kept ka).keep hK (by omega))
      have HL7 := Lib.hid (range_keep (range_kept HL6.out ka) hK (by omega))
      have HC7 := Lib.hid (range_keep (range_kept HC6.out ka) hK (by omega))
      have HY7 := Lib.hid hC
      have HZ7 := Lib.hid (blk_range hC)
      have kz7 : Kept w wb := kept_own (kz6.trans ka) o16.2.2.2.2 hK
      clear hC hK hS HX6 HB6 HL6 HC6 HX16 kz6 ka
      go_upto_region 10 with fail
      refine wp_text 6 [.eq (.pointer (some ⟨g16, 7, none⟩)), .eq (.int .i64 c.shw), .eq (.pointer (some ⟨g16, 6, none⟩)), .eq (.int .i64 n), .eq (.int .i64 (mn (c.shw) (n))), .eq (.pointer (some ⟨g16, 7, none⟩))] rfl (by kernel_rfl) ?_ ?_
      · refine sv 1 rfl rfl rfl (fun a u hE hD hk => exec_fldo 29 7 7 (.tmp 16) (g16) (0) (7) rfl (hE 16 (.pointer (some ⟨g16, 0, none⟩)) (by kernel_rfl) (by kernel_rfl)) (by kernel_rfl) rfl) ?_
        refine sv 2 rfl rfl rfl (fun a u hE hD hk => by rw [← Q2.out]; exact exec_loadi 3 Try.underlying3 (.tmp 64) ⟨g16, 7, none⟩ (.int .i64 c1.shw) rfl (hD 0 64 (by kernel_rfl)) (range_int (off := 0) (range_kept HZ7.out hk) 7 _ rfl)) ?_
        refine sv 3 rfl rfl rfl (fun a u hE hD hk => exec_fldo 29 6 6 (.tmp 16) (g16) (0) (6) rfl (hE 16 (.pointer (some ⟨g16, 0, none⟩)) (by kernel_rfl) (by kernel_rfl)) (by kernel_rfl) rfl) ?_
        refine sv 4 rfl rfl rfl (fun a u hE hD hk => by rw [← Q1.out]; exact exec_loadi 3 Try.underlying3 (.tmp 66) ⟨g16, 6, none⟩ (.int .i64 c1.qty) rfl (hD 2 66 (by kernel_rfl)) (range_int (off := 0) (range_kept HZ7.out hk) 6 _ rfl)) ?_
        refine sv 5 rfl rfl rfl (fun a u hE hD hk => exec_min (.tmp 65) (.tmp 67) _ (c.shw) (n) (mn (c.shw) (n)) rfl (hD 1 65 (by kernel_rfl)) (hD 3 67 (by kernel_rfl)) rfl) ?_
        refine sv 6 rfl rfl rfl (fun a u hE hD hk => exec_fldo 29 7 7 (.tmp 16) (g16) (0) (7) rfl (hE 16 (.pointer (some ⟨g16, 0, none⟩)) (by kernel_rfl) (by kernel_rfl)) (by kernel_rfl) rfl) ?_
        exact fsteps_nil
      intro gv wc hV kc
      rw [show dstsOf _ 6 = [64, 65, 66, 67, 68, 69] by kernel_rfl]
      simp only [List.foldl_cons, List.foldl_nil, List.setIfInBounds_toArray, List.set_cons_succ, List.set_cons_zero, List.drop_succ_cons, List.drop_zero]
      rw [show gv 69 = .pointer (some ⟨g16, 7, none⟩) from hV 5 69 (by kernel_rfl)]
      rw [show gv 68 = .int .i64 (mn (c.shw) (n)) from hV 4 68 (by kernel_rfl)]
      clear hV
      refine l_putN (o := ⟨none, _, _, _, _, _⟩) g16 7 29 c1.cells d.cells (mn c.shw n) (.tmp 69) (.tmp 68) rfl rfl (by kernel_rfl) (by kernel_rfl) (HY7.out.kept kc) (by rw [Ord.len9]; omega) HS2.out ?_
      intro wd hC hK hS
      simp only [Act.put]
      refine wpList_nil ?_
      have HX8 := Lib.hid (blk_range ((HX7.out.kept kc).keep hK (by omega)))
      have HB8 := Lib.hid ((HB7.out.kept kc).keep hK (by omega))
      have HL8 := Lib.hid (range_keep (range_kept HL7.out kc) hK (by omega))
      have HC8 := Lib.hid (range_keep (range_kept HC7.out kc) hK (by omega))
      have HD8 := Lib.hid (blk_range hC)
      have kz8 : Kept w wd := kept_own (kz7.trans kc) o16.2.2.2.2 hK
      clear hC hK hS HX7 HB7 HL7 HC7 HY7 HZ7 kz7 kc
      go_upto_region 11 with fail
      refine wp_text 22 [.eq (M.v), .eq (.bool true), .eq (.bool true), .eq (.pointer (some ⟨g, 0, none⟩)), .eq (M.v), .eq (c.v), .eq (.int .i64 i), .eq (.int .i64 0), .eq (.bool true), .eq (.bool true), .eq (.bool true), .eq (.pointer (some ⟨g, 0, none⟩)), .eq (L.v), .eq (d.v), .eq (.int .i64 i), .eq (.int .i64 0), .eq (.bool true), .eq (.bool true), .eq (.bool true), .eq (.bool true), .eq (.bool true), .eq (.bool true)] rfl (by kernel_rfl) ?_ ?_
      · refine sv 1 rfl rfl rfl (fun a u hE hD hk => exec_ldS 25 _ (.tmp 15) (g15) (0) (M.cells) rfl (hE 15 (.pointer (some ⟨g15, 0, none⟩)) (by kernel_rfl) (by kernel_rfl)) (range_kept HX8.out hk) Try.underlying25 (by rw [M.len4l]; exact szLim)) ?_
        refine fsteps_cons 2 rfl (fun a u hE hD hk => f_call (o := ⟨some 71, _, _, _, _, _⟩) 12 #[M.v] rfl (wanted_none rfl _) (exec_call 12 _ [.tmp 70] _ [M.v] Try.func12 (by kernel_rfl) (by kernel_rfl) rfl (show [a.eval (.tmp 70)] = [M.v] from (by rw [show a.eval (.tmp 70) = M.v from (hD 0 70 (by kernel_rfl))] <;> rfl)) u) (by rw [← HM.out]; exact lright_any M u)) ?_
        refine sv 3 rfl rfl rfl (fun a u hE hD hk => exec_move (.tmp 71) _ rfl (hD 1 71 (by kernel_rfl))) ?_
        refine fsteps_cons 4 rfl (fun a u hE hD hk => f_val (o := ⟨some 73, _, _, _, _, _⟩) (.pointer (some ⟨g, 0, none⟩)) rfl (wanted_at (b := true) true rfl rfl (hD 2 72 (by kernel_rfl))) (exec_move (.tmp 13) _ rfl (hE 13 (.pointer (some ⟨g, 0, none⟩)) (by kernel_rfl) (by kernel_rfl))) rfl) ?_
        refine fsteps_cons 5 rfl (fun a u hE hD hk => f_val (o := ⟨some 74, _, _, _, _, _⟩) (M.v) rfl (wanted_at (b := true) true rfl rfl (hD 2 72 (by kernel_rfl))) (exec_ldS 25 _ (.tmp 15) (g15) (0) (M.cells) rfl (hE 15 (.pointer (some ⟨g15, 0, none⟩)) (by kernel_rfl) (by kernel_rfl)) (range_kept HX8.out hk) Try.underlying25 (by rw [M.len4l]; exact szLim)) rfl) ?_
        refine fsteps_cons 6 rfl (fun a u hE hD hk => f_val (o := ⟨some 75, _, _, _, _, _⟩) (c.v) rfl (wanted_at (b := true) true rfl rfl (hD 2 72 (by kernel_rfl))) (exec_ldS 29 _ (.tmp 8) (g8) (0) (c.cells) rfl (hE 8 (.pointer (some ⟨g8, 0, none⟩)) (by kernel_rfl) (by kernel_rfl)) (range_kept HC8.out hk) Try.underlying29 (by rw [c.len9]; exact ord_size)) rfl) ?_
        refine fsteps_cons 7 rfl (fun a u hE hD hk => f_val (o := ⟨some 76, _, _, _, _, _⟩) (.int .i64 i) rfl (wanted_at (b := true) true rfl rfl (hD 2 72 (by kernel_rfl))) (exec_move (.tmp 3) _ rfl (hE 3 (.int .i64 i) (by kernel_rfl) (by kernel_rfl))) rfl) ?_
        refine fsteps_cons 8 rfl (fun a u hE hD hk => f_call (o := ⟨some 77, _, _, _, _, _⟩) 10 #[.pointer (some ⟨g, 0, none⟩), M.v, c.v, .int .i64 i] rfl (wanted_at (b := true) true rfl rfl (hD 2 72 (by kernel_rfl))) (exec_call 10 _ [.tmp 73, .tmp 74, .tmp 75, .tmp 76] _ [.pointer (some ⟨g, 0, none⟩), M.v, c.v, .int .i64 i] Try.func10 (by kernel_rfl) (by kernel_rfl) rfl (show [a.eval (.tmp 73), a.eval (.tmp 74), a.eval (.tmp 75), a.eval (.tmp 76)] = [.pointer (some ⟨g, 0, none⟩), M.v, c.v, .int .i64 i] from (by rw [show a.eval (.tmp 73) = .pointer (some ⟨g, 0, none⟩) from (hD 3 73 (by kernel_rfl)), show a.eval (.tmp 74) = M.v from (hD 4 74 (by kernel_rfl)), show a.eval (.tmp 75) = c.v from (hD 5 75 (by kernel_rfl)), show a.eval (.tmp 76) = .int .i64 i from (hD 6 76 (by kernel_rfl))] <;> rfl)) u) (check_at (HB8.out.kept hk) HI.out HVM.out)) ?_
        refine fsteps_cons 9 rfl (fun a u hE hD hk => f_as (show ((decide ((0 : Int) = (0 : Int))) : Bool) = true from decide_eq_true rfl) (f_val (o := ⟨some 78, _, _, _, _, _⟩) (.bool (decide ((0 : Int) = (0 : Int)))) rfl (wanted_at (b := true) true rfl rfl (hD 2 72 (by kernel_rfl))) (exec_eqn (p := 0) (q := 0) rfl (hD 7 77 (by kernel_rfl)) rfl) rfl)) ?_
        refine sv 10 rfl rfl rfl (fun a u hE hD hk => exec_pick (.tmp 72) (.tmp 78) (.const (.bool false)) (.bool true) rfl (hD 2 72 (by kernel_rfl)) (hD 8 78 (by kernel_rfl))) ?_
        refine sv 11 rfl rfl rfl (fun a u hE hD hk => exec_move (.tmp 79) _ rfl (hD 9 79 (by kernel_rfl))) ?_
        refine fsteps_cons 12 rfl (fun a u hE hD hk => f_val (o := ⟨some 81, _, _, _, _, _⟩) (.pointer (some ⟨g, 0, none⟩)) rfl (wanted_at (b := true) true rfl rfl (hD 10 80 (by kernel_rfl))) (exec_move (.tmp 13) _ rfl (hE 13 (.pointer (some ⟨g, 0, none⟩)) (by kernel_rfl) (by kernel_rfl))) rfl) ?_
        refine fsteps_cons 13 rfl (fun a u hE hD hk => f_val (o := ⟨some 82, _, _, _, _, _⟩) (L.v) rfl (wanted_at (b := true) true rfl rfl (hD 10 80 (by kernel_rfl))) (exec_ldS 25 _ (.tmp 7) (g7) (0) (L.cells) rfl (hE 7 (.pointer (some ⟨g7, 0, none⟩)) (by kernel_rfl) (by kernel_rfl)) (range_kept HL8.out hk) Try.underlying25 (by rw [L.len4l]; exact szLim)) rfl) ?_
        refine fsteps_cons 14 rfl (fun a u hE hD hk => f_val (o := ⟨some 83, _, _, _, _, _⟩) (d.v) rfl (wanted_at (b := true) true rfl rfl (hD 10 80 (by kernel_rfl))) (exec_ldS 29 _ (.tmp 16) (g16) (0) (d.cells) rfl (hE 16 (.pointer (some ⟨g16, 0, none⟩)) (by kernel_rfl) (by kernel_rfl)) (range_kept HD8.out hk) Try.underlying29 (by rw [d.len9]; exact ord_size)) rfl) ?_
        refine fsteps_cons 15 rfl (fun a u hE hD hk => f_val (o := ⟨some 84, _, _, _, _, _⟩) (.int .i64 i) rfl (wanted_at (b := true) true rfl rfl (hD 10 80 (by kernel_rfl))) (exec_move (.tmp 3) _ rfl (hE 3 (.int .i64 i) (by kernel_rfl) (by kernel_rfl))) rfl) ?_
        refine fsteps_cons 16 rfl (fun a u hE hD hk => f_call (o := ⟨some 85, _, _, _, _, _⟩) 10 #[.pointer (some ⟨g, 0, none⟩), L.v, d.v, .int .i64 i] rfl (wanted_at (b := true) true rfl rfl (hD 10 80 (by kernel_rfl))) (exec_call 10 _ [.tmp 81, .tmp 82, .tmp 83, .tmp 84] _ [.pointer (some ⟨g, 0, none⟩), L.v, d.v, .int .i64 i] Try.func10 (by kernel_rfl) (by kernel_rfl) rfl (show [a.eval (.tmp 81), a.eval (.tmp 82), a.eval (.tmp 83), a.eval (.tmp 84)] = [.pointer (some ⟨g, 0, none⟩), L.v, d.v, .int .i64 i] from (by rw [show a.eval (.tmp 81) = .pointer (some ⟨g, 0, none⟩) from (hD 11 81 (by kernel_rfl)), show a.eval (.tmp 82) = L.v from (hD 12 82 (by kernel_rfl)), show a.eval (.tmp 83) = d.v from (hD 13 83 (by kernel_rfl)), show a.eval (.tmp 84) = .int .i64 i from (hD 14 84 (by kernel_rfl))] <;> rfl)) u) (check_at (HB8.out.kept hk) HI.out HVd.out)) ?_
        refine fsteps_cons 17 rfl (fun a u hE hD hk => f_as (show ((decide ((0 : Int) = (0 : Int))) : Bool) = true from decide_eq_true rfl) (f_val (o := ⟨some 86, _, _, _, _, _⟩) (.bool (decide ((0 : Int) = (0 : Int)))) rfl (wanted_at (b := true) true rfl rfl (hD 10 80 (by kernel_rfl))) (exec_eqn (p := 0) (q := 0) rfl (hD 15 85 (by kernel_rfl)) rfl) rfl)) ?_
        refine sv 18 rfl rfl rfl (fun a u hE hD hk => exec_pick (.tmp 80) (.tmp 86) (.const (.bool false)) (.bool true) rfl (hD 10 80 (by kernel_rfl)) (hD 16 86 (by kernel_rfl))) ?_
        refine sv 19 rfl rfl rfl (fun a u hE hD hk => exec_move (.tmp 87) _ rfl (hD 17 87 (by kernel_rfl))) ?_
        refine fsteps_cons 20 rfl (fun a u hE hD hk => f_call (o := ⟨some 89, _, _, _, _, _⟩) 3 #[] rfl (wanted_at (b := true) true rfl rfl (hD 18 88 (by kernel_rfl))) (exec_call 3 _ [] _ [] Try.func3 (by kernel_rfl) (by kernel_rfl) rfl rfl u) (riskRuns_is u)) ?_
        refine sv 21 rfl rfl rfl (fun a u hE hD hk => exec_pick (.tmp 88) (.tmp 89) (.const (.bool false)) (.bool true) rfl (hD 18 88 (by kernel_rfl)) (hD 19 89 (by kernel_rfl))) ?_
        refine sv 22 rfl rfl rfl (fun a u hE hD hk => exec_assign (.tmp 90) _ rfl (hD 20 90 (by kernel_rfl))) ?_
        exact fsteps_nil
      intro gv we hV ke
      rw [show dstsOf _ 22 = [70, 71, 72, 73, 74, 75, 76, 77, 78, 79, 80, 81, 82, 83, 84, 85, 86, 87, 88, 89, 90, 12] by kernel_rfl]
      simp only [List.foldl_cons, List.foldl_nil, List.setIfInBounds_toArray, List.set_cons_succ, List.set_cons_zero, List.drop_succ_cons, List.drop_zero]
      rw [show gv 12 = .bool true from hV 21 12 (by kernel_rfl)]
      clear hV
      refine wpList_nil ?_
      have kwz := kz8.trans ke
      go_wp2
      go_ret
      exact ⟨rfl, kwz⟩
    · have HRb := Lib.hid hRb
      obtain ⟨V, hV2⟩ : ∃ V, chk B L c i = V := ⟨_, rfl⟩
      rw [hV2] at hV
      have HV := Lib.hid hV2
      clear hRb hV2
      go_upto_region 4 with fail
      refine wp_text 11 [.eq (L.v), .eq (.bool true), .eq (.bool false), .eq (.bool false), .eq (.pointer (some ⟨g, 0, none⟩)), .eq (L.v), .eq (c.v), .eq (.int .i64 i), .eq (.int .i64 V), .eq (.bool true), .eq (.bool true)] rfl (by kernel_rfl) ?_ ?_
      · refine sv 1 rfl rfl rfl (fun a u hE hD hk => exec_ldS 25 _ (.tmp 7) (g7) (0) (L.cells) rfl (hE 7 (.pointer (some ⟨g7, 0, none⟩)) (by kernel_rfl) (by kernel_rfl)) (range_kept HL2.out hk) Try.underlying25 (by rw [L.len4l]; exact szLim)) ?_
        refine fsteps_cons 2 rfl (fun a u hE hD hk => f_call (o := ⟨some 25, _, _, _, _, _⟩) 12 #[L.v] rfl (wanted_none rfl _) (exec_call 12 _ [.tmp 24] _ [L.v] Try.func12 (by kernel_rfl) (by kernel_rfl) rfl (show [a.eval (.tmp 24)] = [L.v] from (by rw [show a.eval (.tmp 24) = L.v from (hD 0 24 (by kernel_rfl))] <;> rfl)) u) (by rw [← HRb.out]; exact lright_any L u)) ?_
        refine sv 3 rfl rfl rfl (fun a u hE hD hk => exec_not _ (.tmp 25) true rfl (hD 1 25 (by kernel_rfl))) ?_
        refine sv 4 rfl rfl rfl (fun a u hE hD hk => exec_move (.tmp 26) _ rfl (hD 2 26 (by kernel_rfl))) ?_
        refine fsteps_cons 5 rfl (fun a u hE hD hk => f_val (o := ⟨some 28, _, _, _, _, _⟩) (.pointer (some ⟨g, 0, none⟩)) rfl (wanted_at (b := false) false rfl rfl (hD 3 27 (by kernel_rfl))) (exec_move (.tmp 13) _ rfl (hE 13 (.pointer (some ⟨g, 0, none⟩)) (by kernel_rfl) (by kernel_rfl))) rfl) ?_
        refine fsteps_cons 6 rfl (fun a u hE hD hk => f_val (o := ⟨some 29, _, _, _, _, _⟩) (L.v) rfl (wanted_at (b := false) false rfl rfl (hD 3 27 (by kernel_rfl))) (exec_ldS 25 _ (.tmp 7) (g7) (0) (L.cells) rfl (hE 7 (.pointer (some ⟨g7, 0, none⟩)) (by kernel_rfl) (by kernel_rfl)) (range_kept HL2.out hk) Try.underlying25 (by rw [L.len4l]; exact szLim)) rfl) ?_
        refine fsteps_cons 7 rfl (fun a u hE hD hk => f_val (o := ⟨some 30, _, _, _, _, _⟩) (c.v) rfl (wanted_at (b := false) false rfl rfl (hD 3 27 (by kernel_rfl))) (exec_ldS 29 _ (.tmp 8) (g8) (0) (c.cells) rfl (hE 8 (.pointer (some ⟨g8, 0, none⟩)) (by kernel_rfl) (by kernel_rfl)) (range_kept HC2.out hk) Try.underlying29 (by rw [c.len9]; exact ord_size)) rfl) ?_
        refine fsteps_cons 8 rfl (fun a u hE hD hk => f_val (o := ⟨some 31, _, _, _, _, _⟩) (.int .i64 i) rfl (wanted_at (b := false) false rfl rfl (hD 3 27 (by kernel_rfl))) (exec_move (.tmp 3) _ rfl (hE 3 (.int .i64 i) (by kernel_rfl) (by kernel_rfl))) rfl) ?_
        refine fsteps_cons 9 rfl (fun a u hE hD hk => f_call (o := ⟨some 32, _, _, _, _, _⟩) 10 #[.pointer (some ⟨g, 0, none⟩), L.v, c.v, .int .i64 i] rfl (wanted_at (b := false) false rfl rfl (hD 3 27 (by kernel_rfl))) (exec_call 10 _ [.tmp 28, .tmp 29, .tmp 30, .tmp 31] _ [.pointer (some ⟨g, 0, none⟩), L.v, c.v, .int .i64 i] Try.func10 (by kernel_rfl) (by kernel_rfl) rfl (show [a.eval (.tmp 28), a.eval (.tmp 29), a.eval (.tmp 30), a.eval (.tmp 31)] = [.pointer (some ⟨g, 0, none⟩), L.v, c.v, .int .i64 i] from (by rw [show a.eval (.tmp 28) = .pointer (some ⟨g, 0, none⟩) from (hD 4 28 (by kernel_rfl)), show a.eval (.tmp 29) = L.v from (hD 5 29 (by kernel_rfl)), show a.eval (.tmp 30) = c.v from (hD 6 30 (by kernel_rfl)), show a.eval (.tmp 31) = .int .i64 i from (hD 7 31 (by kernel_rfl))] <;> rfl)) u) (check_at (HB2.out.kept hk) HI.out HV.out)) ?_
        refine fsteps_cons 10 rfl (fun a u hE hD hk => f_as (show ((decide ((V : Int) ≠ (0 : Int))) : Bool) = true from decide_eq_true (by omega)) (f_val (o := ⟨some 33, _, _, _, _, _⟩) (.bool (decide ((V : Int) ≠ (0 : Int)))) rfl (wanted_at (b := false) false rfl rfl (hD 3 27 (by kernel_rfl))) (exec_nen (p := V) (q := 0) rfl (hD 8 32 (by kernel_rfl)) rfl) rfl)) ?_
        refine sv 11 rfl rfl rfl (fun a u hE hD hk => exec_pickF (.tmp 27) (.const (.bool true)) (.tmp 33) (.bool true) rfl (hD 3 27 (by kernel_rfl)) (hD 9 33 (by kernel_rfl))) ?_
        exact fsteps_nil
      intro gv w3 hV k3
      rw [show dstsOf _ 11 = [24, 25, 26, 27, 28, 29, 30, 31, 32, 33, 34] by kernel_rfl]
      simp only [List.foldl_cons, List.foldl_nil, List.setIfInBounds_toArray, List.set_cons_succ, List.set_cons_zero, List.drop_succ_cons, List.drop_zero]
      rw [show gv 34 = .bool true from hV 10 34 (by kernel_rfl)]
      clear hV
      refine wpList_nil ?_
      go_upto_region 5 with fail
      refine wp_text 2 [.eq (.bool true), .eq (.bool true)] rfl (by kernel_rfl) ?_ ?_
      · refine fsteps_cons 1 rfl (fun a u hE hD hk => f_call (o := ⟨some 35, _, _, _, _, _⟩) 3 #[] rfl (wanted_none rfl _) (exec_call 3 _ [] _ [] Try.func3 (by kernel_rfl) (by kernel_rfl) rfl rfl u) (riskRuns_is u)) ?_
        refine sv 2 rfl rfl rfl (fun a u hE hD hk => exec_assign (.tmp 35) _ rfl (hD 0 35 (by kernel_rfl))) ?_
        exact fsteps_nil
      intro gv w4 hV k4
      rw [show dstsOf _ 2 = [35, 12] by kernel_rfl]
      simp only [List.foldl_cons, List.foldl_nil, List.setIfInBounds_toArray, List.set_cons_succ, List.set_cons_zero, List.drop_succ_cons, List.drop_zero]
      rw [show gv 12 = .bool true from hV 1 12 (by kernel_rfl)]
      clear hV
      refine wpList_nil ?_
      have kwz := (kw2.trans k3).trans k4
      go_wp2
      go_ret
      exact ⟨rfl, kwz⟩
end Go.Proofs.Ytgajdkelpaaadaa
