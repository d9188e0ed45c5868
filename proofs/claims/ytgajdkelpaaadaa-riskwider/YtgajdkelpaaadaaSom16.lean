/-
  Asks of chapter 16's statements; accounts behind some calls, the program's and the document's. Condition: the asks as the arguments hold them.
-/
import Derived.Test.YtgajdkelpaaadaaRuns15
import Derived.Test.YtgajdkelpaaadaaAcD
namespace Go.Proofs.Ytgajdkelpaaadaa
open Go.RowKit Go.ChangeShapes Go.WideShapes Go.ChangeAt
set_option linter.unusedVariables false
set_option maxRecDepth 100000

theorem zBq6 : (Try.prog.info? 59).map (·.zero) = some (some (.agg zeroBq.cells.toArray)) := by kernel_rfl
theorem szBq6 : (Try.prog.info? 59).map (·.size) = some 5 := by kernel_rfl
theorem slBq6 : SlT 33 59 5 40 := ⟨Try.underlying33, by kernel_rfl, ⟨zeroBq.v, by kernel_rfl, rfl, by intro u hu; exact zeroBq.one u (by simpa [Bq.v, Value.cells] using hu)⟩, by omega⟩
theorem sh_bq6 {H : Type} {enc : TypeId × Value → H} {W : World} (fuel : Nat) (cs : List Value) (x : DataW H × List MemPlace) (h : DataW.trod enc Try.prog W 0 (fun _ => true) true fuel 59 cs = some x) : ∃ q : Bq, cs = q.cells ∧ q.wf := by
  obtain ⟨l, rfl, hl, hw⟩ := sh_ints 5 (by kernel_rfl) _ _ _ h
  match l, hl with
  | [x0, x1, x2, x3, x4], _ => exact ⟨⟨x0, x1, x2, x3, x4⟩, rfl, hw⟩
theorem open_bqs6 {H : Type} {enc : TypeId × Value → H} {W : World} {b0 : Nat} {v : Value} {d : DataW H} {p : List MemPlace} (hv : Value.okWide Try.prog W .any b0 33 v)
    (h : DataW.Trod enc Try.prog W 0 (fun _ => true) true 33 v d p) : ∃ l, Bqs W v l := open_args 5 Bq.cells Bq.wf Try.underlying33 (by kernel_rfl) (by omega) sh_bq6 hv h
theorem i64_and1 (n : Int) : bits .and .i64 n 1 = n % 2 := by
  have h63 : (BitVec.ofInt 64 1).toNat = 2 ^ 1 - 1 := by decide
  have key : (BitVec.ofInt 64 n &&& BitVec.ofInt 64 1).toNat = (n % ((2 ^ 64 : Nat) : Int)).toNat % 2 ^ 1 := by
    rw [BitVec.toNat_and, BitVec.toNat_ofInt, h63, Nat.and_two_pow_sub_one_eq_mod]
  show IntKind.i64.wrap ((BitVec.ofInt 64 n &&& BitVec.ofInt 64 1).toNat : Nat) = n % 2
  rw [key, IntKind.wrap_i64]
  omega
theorem exec_and1 {a : Act} {o : Oper} {u : World} (x : Operand) (t' : TypeId) (p : Int) (hop : o.op = .binOp .and 3 x (.const (.int .i64 1)) t') (hx : a.eval x = .int .i64 p) : (execOp a.eval o).run Try.prog u = .ok (.value (.int .i64 (p % 2))) u := by
  have he : a.eval (.const (.int .i64 1)) = .int .i64 1 := rfl
  unfold execOp
  simp only [hop, hx, he]
  simp [go_sem, i64_and1]
set_option maxRecDepth 100000 in
set_option maxHeartbeats 3200000 in
theorem both_any (v : Value) (l : List Bq) (w : World) (hl : Bqs w v l) : Calls Try.prog 13 #[v] w fun e w' => ∃ (g r : Nat) (B : Bal), e = .returned (.tuple #[.pointer (some ⟨g, 0, none⟩), .pointer (some ⟨r, 0, none⟩)]) ∧ B.Ok ∧ Blk w' g 53 B.lc ∧ Blk w' r 43 (B.rc fun _ => 0) ∧ w.heap.size ≤ g ∧ w.heap.size ≤ r ∧ g ≠ r ∧ Kept w w' := by
  have HA := Lib.hid hl
  obtain ⟨A, n, c, rfl, hn, hm⟩ : ∃ A n c, v = .slice A n c ∧ l.length = n ∧ n ≤ maxLen := by
    obtain ⟨A, n, c, h1, h2, _, h3, _⟩ := hl
    exact ⟨A, n, c, h1, h2, h3⟩
  clear hl
  unfold maxLen at hm
  have HN := Lib.hid hn
  clear hn
  obtain ⟨cs, hcs⟩ : ∃ cs, (zeroB.rc fun _ => 0) = cs := ⟨_, rfl⟩
  have HZ := Lib.hid hcs
  clear hcs
  go_enter Try.func13, Try.ntmps13
  go_upto_region 1 with fail
  refine wp_region_lit ?_
  refine l_call (o := ⟨some 10, _, _, _, _, _⟩) 9 #[] rfl (exec_call 9 _ [] _ _ Try.func9 (by kernel_rfl) (by kernel_rfl) rfl (by kernel_rfl) _) ?_
  refine (new_any w.heap.size w (Nat.le_refl _)).mono ?_
  rintro e w1 ⟨v1, rfl, ⟨g, rfl, hg, hB⟩, k1⟩
  refine ⟨_, rfl, ?_⟩
  simp only [Act.put, List.setIfInBounds_toArray, List.set_cons_succ, List.set_cons_zero]
  refine l_val (o := ⟨some 11, _, _, _, _, _⟩) (.agg cs.toArray) rfl (by rw [← HZ.out]; exact exec_build 43 [] (zeroB.rc fun _ => 0) rfl (by kernel_rfl)) ?_
  simp only [Act.put, List.setIfInBounds_toArray, List.set_cons_succ, List.set_cons_zero]
  refine l_new (o := ⟨some 12, _, _, _, _, _⟩) (.pointer (some ⟨w1.heap.size, 0, none⟩)) (w1.alloc (.cells cs.toArray 43)) rfl (exec_box 43 (.tmp 11) cs rfl (by kernel_rfl)) ?_
  have hN := Blk.new w1 43 cs
  have kn : Kept w1 (w1.alloc (.cells cs.toArray 43)) := (Keep.refl _ w1).alloc _
  generalize w1.alloc (.cells cs.toArray 43) = w2 at hN kn ⊢
  simp only [Act.put, List.setIfInBounds_toArray, List.set_cons_succ, List.set_cons_zero]
  refine l_val (o := ⟨some 4, _, _, _, _, _⟩) (.pointer (some ⟨g, 0, none⟩)) rfl (exec_assign (.tmp 10) (.pointer (some ⟨g, 0, none⟩)) rfl (by kernel_rfl)) ?_
  simp only [Act.put, List.setIfInBounds_toArray, List.set_cons_succ, List.set_cons_zero]
  refine l_val (o := ⟨some 5, _, _, _, _, _⟩) (.pointer (some ⟨w1.heap.size, 0, none⟩)) rfl (exec_assign (.tmp 12) (.pointer (some ⟨w1.heap.size, 0, none⟩)) rfl (by kernel_rfl)) ?_
  simp only [Act.put, List.setIfInBounds_toArray, List.set_cons_succ, List.set_cons_zero]
  refine wpList_nil ?_
  obtain ⟨r, hr⟩ : ∃ b, w1.heap.size = b := ⟨_, rfl⟩
  have zg := hB.lt
  have z1 := k1.size
  rw [hr] at hN zg z1 ⊢
  have HB2 := Lib.hid (hB.kept kn)
  rw [← HZ.out] at hN
  obtain ⟨L, hL⟩ : ∃ L : Nat → Int, (fun _ => 0) = L := ⟨_, rfl⟩
  rw [hL] at hN
  have HL := Lib.hid hL
  have HR2 := Lib.hid hN
  have kw2 := k1.trans kn
  clear hB hN k1 kn HZ hL hr
  have HO2 := Lib.hid ok_zero
  generalize zeroB = B0 at HB2 HR2 HO2
  go_wp2_with fail
  go_loopw [6] (fun t wr => ∃ (k : Nat) (B : Bal), t = .int .i64 (k : Int) ∧ k ≤ 30 ∧ k ≤ n ∧ Hid (Blk wr g 53 B.lc) ∧ Hid (Blk wr r 43 (B.rc L)) ∧ Hid B.Ok ∧ Kept w wr) (fun t _ => 30 - (intOf t).toNat)
  case atStart => exact ⟨0, B0, rfl, by omega, by omega, HB2, HR2, HO2, kw2⟩
  case round =>
    obtain ⟨k, B, rfl, hk30, hkn, HBr, HRr, HI, kwr⟩ := hrel
    clear HB2 HR2 HO2 kw2
    by_cases hlt : k < n ∧ k < 30
    · obtain ⟨hin', hk3⟩ := hlt
      have hil : k < l.length := by rw [HN.out]; exact hin'
      obtain ⟨q, hq⟩ : ∃ q, l[k]? = some q := ⟨_, List.getElem?_eq_getElem hil⟩
      obtain ⟨A', n', c', e1, _, _, _, h4⟩ := HA.out
      injection e1 with e1 e2 e3
      subst e1 e2 e3
      obtain ⟨ga, off, rfl, hr⟩ := h4 k q hq
      have HE := Lib.hid (range_kept hr kwr)
      have zga : ga < w.heap.size := World.block_lt_of_cell? w _ (hr 0 (.int .i64 q.k) rfl)
      have hga : ¬ ga = g := by omega
      clear h4 hr hq hil
      obtain ⟨N, hN⟩ : ∃ N, wi q.n 0 3 = N := ⟨_, rfl⟩
      obtain ⟨I, hI⟩ : ∃ I, wi q.i 0 2 = I := ⟨_, rfl⟩
      obtain ⟨Q, hQ⟩ : ∃ Q, wi q.q 1 20 = Q := ⟨_, rfl⟩
      obtain ⟨S, hS⟩ : ∃ S, q.s % 2 = S := ⟨_, rfl⟩
      have bS : 0 ≤ S ∧ S ≤ 1 := by omega
      have HN_ := Lib.hid hN
      have HI_ := Lib.hid hI
      have HQ_ := Lib.hid hQ
      have HS := Lib.hid hS
      have hgr : ¬ g = r := by omega
      have hrw : w.heap.size ≤ r := by omega
      clear hN hI hQ hS
      go_upto_region 3 with fail
      refine wp_text 12 [.eq (.int .i64 (k : Int)), .eq (.slice (some ⟨ga, off, none⟩) n c), .eq (.int .i64 (n : Int)), .eq (.bool true), .eq (.bool true), .eq (.int .i64 (k : Int)), .eq (.bool true), .eq (.bool true), .eq (.bool true), .eq (.pointer (some ⟨g, 0, none⟩)), .eq (.bool true), .eq (.bool true)] rfl (by kernel_rfl) ?_ ?_
      · refine sv 1 rfl rfl rfl (fun a u hE hD hk => exec_move (.tmp 6) _ rfl (hE 6 (.int .i64 (k : Int)) (by kernel_rfl) (by kernel_rfl))) ?_
        refine sv 2 rfl rfl rfl (fun a u hE hD hk => exec_move (.tmp 0) _ rfl (hE 0 (.slice (some ⟨ga, off, none⟩) n c) (by kernel_rfl) (by kernel_rfl))) ?_
        refine sv 3 rfl rfl rfl (fun a u hE hD hk => exec_len (.tmp 14) _ _ slBq6.und (some ⟨ga, off, none⟩) n c rfl (hD 1 14 (by kernel_rfl))) ?_
        refine fsteps_cons 4 rfl (fun a u hE hD hk => f_as (show ((decide (((k : Int) : Int) < ((n : Int) : Int))) : Bool) = true from decide_eq_true (by omega)) (f_val (o := ⟨some 16, _, _, _, _, _⟩) (.bool (decide (((k : Int) : Int) < ((n : Int) : Int)))) rfl (wanted_none rfl _) (exec_ltn (p := (k : Int)) (q := (n : Int)) rfl (hD 0 13 (by kernel_rfl)) (hD 2 15 (by kernel_rfl))) rfl)) ?_
        refine sv 5 rfl rfl rfl (fun a u hE hD hk => exec_move (.tmp 16) _ rfl (hD 3 16 (by kernel_rfl))) ?_
        refine fsteps_cons 6 rfl (fun a u hE hD hk => f_val (o := ⟨some 18, _, _, _, _, _⟩) (.int .i64 (k : Int)) rfl (wanted_at (b := true) true rfl rfl (hD 4 17 (by kernel_rfl))) (exec_move (.tmp 6) _ rfl (hE 6 (.int .i64 (k : Int)) (by kernel_rfl) (by kernel_rfl))) rfl) ?_
        refine fsteps_cons 7 rfl (fun a u hE hD hk => f_as (show ((decide (((k : Int) : Int) < (30 : Int))) : Bool) = true from decide_eq_true (by omega)) (f_val (o := ⟨some 19, _, _, _, _, _⟩) (.bool (decide (((k : Int) : Int) < (30 : Int)))) rfl (wanted_at (b := true) true rfl rfl (hD 4 17 (by kernel_rfl))) (exec_ltn (p := (k : Int)) (q := 30) rfl (hD 5 18 (by kernel_rfl)) rfl) rfl)) ?_
        refine sv 8 rfl rfl rfl (fun a u hE hD hk => exec_pick (.tmp 17) (.tmp 19) (.const (.bool false)) (.bool true) rfl (hD 4 17 (by kernel_rfl)) (hD 6 19 (by kernel_rfl))) ?_
        refine sv 9 rfl rfl rfl (fun a u hE hD hk => exec_move (.tmp 20) _ rfl (hD 7 20 (by kernel_rfl))) ?_
        refine fsteps_cons 10 rfl (fun a u hE hD hk => f_val (o := ⟨some 22, _, _, _, _, _⟩) (.pointer (some ⟨g, 0, none⟩)) rfl (wanted_at (b := true) true rfl rfl (hD 8 21 (by kernel_rfl))) (exec_move (.tmp 4) _ rfl (hE 4 (.pointer (some ⟨g, 0, none⟩)) (by kernel_rfl) (by kernel_rfl))) rfl) ?_
        refine fsteps_cons 11 rfl (fun a u hE hD hk => f_val (o := ⟨some 23, _, _, _, _, _⟩) (.bool true) rfl (wanted_at (b := true) true rfl rfl (hD 8 21 (by kernel_rfl))) (exec_neP (.tmp 22) _ _ ⟨g, 0, none⟩ (by kernel_rfl) rfl (hD 9 22 (by kernel_rfl))) rfl) ?_
        refine sv 12 rfl rfl rfl (fun a u hE hD hk => exec_pick (.tmp 21) (.tmp 23) (.const (.bool false)) (.bool true) rfl (hD 8 21 (by kernel_rfl)) (hD 10 23 (by kernel_rfl))) ?_
        exact fsteps_nil
      intro gv w4 hV k4
      rw [show dstsOf _ 12 = [13, 14, 15, 16, 17, 18, 19, 20, 21, 22, 23, 24] by kernel_rfl]
      simp only [List.foldl_cons, List.foldl_nil, List.setIfInBounds_toArray, List.set_cons_succ, List.set_cons_zero, List.drop_succ_cons, List.drop_zero]
      rw [show gv 24 = .bool true from hV 11 24 (by kernel_rfl)]
      clear hV
      refine wpList_nil ?_
      have HE4 := Lib.hid (range_kept HE.out k4)
      have HB4 := Lib.hid (HBr.out.kept k4)
      have HR4 := Lib.hid (HRr.out.kept k4)
      have kw4 := kwr.trans k4
      clear HE HBr HRr k4 kwr
      go_upto_region 5 with fail
      refine wp_sched (fun u => Kept w4 u) [(0, 0), (1, 0), (2, 0), (3, 0), (4, 0), (6, 0), (7, 0), (8, 0), (9, 0), (10, 0), (12, 0), (13, 0), (14, 0), (15, 0), (16, 0), (5, 1), (11, 1), (17, 1), (18, 0), (19, 0), (20, 0)] (by kernel_rfl) (by kernel_rfl) (Keep.drew (Keep.refl _ w4)) ?_
      refine s_val (o := ⟨some 27, _, _, _, _, _⟩) (.slice (some ⟨ga, off, none⟩) n c) rfl (by kernel_rfl) (fun u hu => exec_move (.tmp 0) (.slice (some ⟨ga, off, none⟩) n c) rfl (by kernel_rfl)) ?_
      simp only [Act.put, List.setIfInBounds_toArray, List.set_cons_succ, List.set_cons_zero]
      refine s_val (o := ⟨some 28, _, _, _, _, _⟩) (.int .i64 (k : Int)) rfl (by kernel_rfl) (fun u hu => exec_move (.tmp 6) (.int .i64 (k : Int)) rfl (by kernel_rfl)) ?_
      simp only [Act.put, List.setIfInBounds_toArray, List.set_cons_succ, List.set_cons_zero]
      refine s_val (o := ⟨some 29, _, _, _, _, _⟩) (.pointer (some ⟨ga, off + k * 5, none⟩)) rfl (by kernel_rfl) (fun u hu => exec_ixo slBq6 (.tmp 27) (.tmp 28) (ga) (off) (n) (c) (k) (off + k * 5) (k : Int) rfl (by kernel_rfl) (by kernel_rfl) rfl (hin') (by first | rfl | omega)) ?_
      simp only [Act.put, List.setIfInBounds_toArray, List.set_cons_succ, List.set_cons_zero]
      refine s_val (o := ⟨some 30, _, _, _, _, _⟩) (.pointer (some ⟨ga, off + k * 5 + 1, none⟩)) rfl (by kernel_rfl) (fun u hu => exec_fldo 59 1 1 (.tmp 29) (ga) (off + k * 5) (off + k * 5 + 1) rfl (by kernel_rfl) (by kernel_rfl) rfl) ?_
      simp only [Act.put, List.setIfInBounds_toArray, List.set_cons_succ, List.set_cons_zero]
      refine s_val (o := ⟨some 31, _, _, _, _, _⟩) (.int .i64 q.n) rfl (by kernel_rfl) (fun u hu => exec_loadi 3 Try.underlying3 (.tmp 30) ⟨ga, off + k * 5 + 1, none⟩ (.int .i64 q.n) rfl (by kernel_rfl) (range_int (range_kept HE4.out hu) 1 _ rfl)) ?_
      simp only [Act.put, List.setIfInBounds_toArray, List.set_cons_succ, List.set_cons_zero]
      refine s_val (o := ⟨some 33, _, _, _, _, _⟩) (.slice (some ⟨ga, off, none⟩) n c) rfl (by kernel_rfl) (fun u hu => exec_move (.tmp 0) (.slice (some ⟨ga, off, none⟩) n c) rfl (by kernel_rfl)) ?_
      simp only [Act.put, List.setIfInBounds_toArray, List.set_cons_succ, List.set_cons_zero]
      refine s_val (o := ⟨some 34, _, _, _, _, _⟩) (.int .i64 (k : Int)) rfl (by kernel_rfl) (fun u hu => exec_move (.tmp 6) (.int .i64 (k : Int)) rfl (by kernel_rfl)) ?_
      simp only [Act.put, List.setIfInBounds_toArray, List.set_cons_succ, List.set_cons_zero]
      refine s_val (o := ⟨some 35, _, _, _, _, _⟩) (.pointer (some ⟨ga, off + k * 5, none⟩)) rfl (by kernel_rfl) (fun u hu => exec_ixo slBq6 (.tmp 33) (.tmp 34) (ga) (off) (n) (c) (k) (off + k * 5) (k : Int) rfl (by kernel_rfl) (by kernel_rfl) rfl (hin') (by first | rfl | omega)) ?_
      simp only [Act.put, List.setIfInBounds_toArray, List.set_cons_succ, List.set_cons_zero]
      refine s_val (o := ⟨some 36, _, _, _, _, _⟩) (.pointer (some ⟨ga, off + k * 5 + 2, none⟩)) rfl (by kernel_rfl) (fun u hu => exec_fldo 59 2 2 (.tmp 35) (ga) (off + k * 5) (off + k * 5 + 2) rfl (by kernel_rfl) (by kernel_rfl) rfl) ?_
      simp only [Act.put, List.setIfInBounds_toArray, List.set_cons_succ, List.set_cons_zero]
      refine s_val (o := ⟨some 37, _, _, _, _, _⟩) (.int .i64 q.i) rfl (by kernel_rfl) (fun u hu => exec_loadi 3 Try.underlying3 (.tmp 36) ⟨ga, off + k * 5 + 2, none⟩ (.int .i64 q.i) rfl (by kernel_rfl) (range_int (range_kept HE4.out hu) 2 _ rfl)) ?_
      simp only [Act.put, List.setIfInBounds_toArray, List.set_cons_succ, List.set_cons_zero]
      refine s_val (o := ⟨some 39, _, _, _, _, _⟩) (.slice (some ⟨ga, off, none⟩) n c) rfl (by kernel_rfl) (fun u hu => exec_move (.tmp 0) (.slice (some ⟨ga, off, none⟩) n c) rfl (by kernel_rfl)) ?_
      simp only [Act.put, List.setIfInBounds_toArray, List.set_cons_succ, List.set_cons_zero]
      refine s_val (o := ⟨some 40, _, _, _, _, _⟩) (.int .i64 (k : Int)) rfl (by kernel_rfl) (fun u hu => exec_move (.tmp 6) (.int .i64 (k : Int)) rfl (by kernel_rfl)) ?_
      simp only [Act.put, List.setIfInBounds_toArray, List.set_cons_succ, List.set_cons_zero]
      refine s_val (o := ⟨some 41, _, _, _, _, _⟩) (.pointer (some ⟨ga, off + k * 5, none⟩)) rfl (by kernel_rfl) (fun u hu => exec_ixo slBq6 (.tmp 39) (.tmp 40) (ga) (off) (n) (c) (k) (off + k * 5) (k : Int) rfl (by kernel_rfl) (by kernel_rfl) rfl (hin') (by first | rfl | omega)) ?_
      simp only [Act.put, List.setIfInBounds_toArray, List.set_cons_succ, List.set_cons_zero]
      refine s_val (o := ⟨some 42, _, _, _, _, _⟩) (.pointer (some ⟨ga, off + k * 5 + 4, none⟩)) rfl (by kernel_rfl) (fun u hu => exec_fldo 59 4 4 (.tmp 41) (ga) (off + k * 5) (off + k * 5 + 4) rfl (by kernel_rfl) (by kernel_rfl) rfl) ?_
      simp only [Act.put, List.setIfInBounds_toArray, List.set_cons_succ, List.set_cons_zero]
      refine s_val (o := ⟨some 43, _, _, _, _, _⟩) (.int .i64 q.q) rfl (by kernel_rfl) (fun u hu => exec_loadi 3 Try.underlying3 (.tmp 42) ⟨ga, off + k * 5 + 4, none⟩ (.int .i64 q.q) rfl (by kernel_rfl) (range_int (range_kept HE4.out hu) 4 _ rfl)) ?_
      simp only [Act.put, List.setIfInBounds_toArray, List.set_cons_succ, List.set_cons_zero]
      refine s_call (o := ⟨some 32, _, _, _, _, _⟩) 16 #[.int .i64 q.n, .int .i64 0, .int .i64 3] rfl (by kernel_rfl) (exec_call 16 _ [.tmp 31, .const (.int .i64 0), .const (.int .i64 3)] _ _ Try.func16 (by kernel_rfl) (by kernel_rfl) rfl (by kernel_rfl)) ?_
      refine (within_is q.n 0 3 w4.drew (by omega) (by omega) (by omega)).mono ?_
      rintro e w4a ⟨v4, rfl, hv4, k4a⟩
      obtain rfl : v4 = .int .i64 N := by rw [← HN_.out]; exact hv4
      have k4b : Kept w4 w4a := Kept.trans (show Kept w4 w4.drew from Keep.drew (Keep.refl _ w4)) k4a
      refine ⟨_, rfl, k4b, ?_⟩
      simp only [Act.put, List.setIfInBounds_toArray, List.set_cons_succ, List.set_cons_zero]
      refine s_call (o := ⟨some 38, _, _, _, _, _⟩) 16 #[.int .i64 q.i, .int .i64 0, .int .i64 2] rfl (by kernel_rfl) (exec_call 16 _ [.tmp 37, .const (.int .i64 0), .const (.int .i64 2)] _ _ Try.func16 (by kernel_rfl) (by kernel_rfl) rfl (by kernel_rfl)) ?_
      refine (within_is q.i 0 2 w4a (by omega) (by omega) (by omega)).mono ?_
      rintro e w4c ⟨v4, rfl, hv4, k4a⟩
      obtain rfl : v4 = .int .i64 I := by rw [← HI_.out]; exact hv4
      have k4d : Kept w4 w4c := Kept.trans k4b k4a
      refine ⟨_, rfl, k4d, ?_⟩
      simp only [Act.put, List.setIfInBounds_toArray, List.set_cons_succ, List.set_cons_zero]
      refine s_call (o := ⟨some 44, _, _, _, _, _⟩) 16 #[.int .i64 q.q, .int .i64 1, .int .i64 20] rfl (by kernel_rfl) (exec_call 16 _ [.tmp 43, .const (.int .i64 1), .const (.int .i64 20)] _ _ Try.func16 (by kernel_rfl) (by kernel_rfl) rfl (by kernel_rfl)) ?_
      refine (within_is q.q 1 20 w4c (by omega) (by omega) (by omega)).mono ?_
      rintro e w5 ⟨v4, rfl, hv4, k4a⟩
      obtain rfl : v4 = .int .i64 Q := by rw [← HQ_.out]; exact hv4
      have k5 : Kept w4 w5 := Kept.trans k4d k4a
      refine ⟨_, rfl, k5, ?_⟩
      simp only [Act.put, List.setIfInBounds_toArray, List.set_cons_succ, List.set_cons_zero]
      refine s_val (o := ⟨some 7, _, _, _, _, _⟩) (.int .i64 N) rfl (by kernel_rfl) (fun u hu => exec_assign (.tmp 32) (.int .i64 N) rfl (by kernel_rfl)) ?_
      simp only [Act.put, List.setIfInBounds_toArray, List.set_cons_succ, List.set_cons_zero]
      refine s_val (o := ⟨some 8, _, _, _, _, _⟩) (.int .i64 I) rfl (by kernel_rfl) (fun u hu => exec_assign (.tmp 38) (.int .i64 I) rfl (by kernel_rfl)) ?_
      simp only [Act.put, List.setIfInBounds_toArray, List.set_cons_succ, List.set_cons_zero]
      refine s_val (o := ⟨some 9, _, _, _, _, _⟩) (.int .i64 Q) rfl (by kernel_rfl) (fun u hu => exec_assign (.tmp 44) (.int .i64 Q) rfl (by kernel_rfl)) ?_
      simp only [Act.put, List.setIfInBounds_toArray, List.set_cons_succ, List.set_cons_zero]
      refine s_done ?_
      have HB5 := Lib.hid (HB4.out.kept k5)
      have HR5 := Lib.hid (HR4.out.kept k5)
      have HC5 := Lib.hid (range_kept HE4.out k5)
      have kw5 := kw4.trans k5
      clear HB4 HR4 HE4 kw4 k5 k4b k4d
      by_cases h1 : q.k = 1
      · skip
        go_upto_region 6 with fail
        refine wp_text 6 [.eq (.slice (some ⟨ga, off, none⟩) n c), .eq (.int .i64 (k : Int)), .eq (.pointer (some ⟨ga, off + k * 5, none⟩)), .eq (.pointer (some ⟨ga, off + k * 5, none⟩)), .eq (.int .i64 q.k), .eq (.bool true)] rfl (by kernel_rfl) ?_ ?_
        · refine sv 1 rfl rfl rfl (fun a u hE hD hk => exec_move (.tmp 0) _ rfl (hE 0 (.slice (some ⟨ga, off, none⟩) n c) (by kernel_rfl) (by kernel_rfl))) ?_
          refine sv 2 rfl rfl rfl (fun a u hE hD hk => exec_move (.tmp 6) _ rfl (hE 6 (.int .i64 (k : Int)) (by kernel_rfl) (by kernel_rfl))) ?_
          refine sv 3 rfl rfl rfl (fun a u hE hD hk => exec_ixo slBq6 (.tmp 45) (.tmp 46) (ga) (off) n c k (off + k * 5) ((k : Int)) rfl (hD 0 45 (by kernel_rfl)) (hD 1 46 (by kernel_rfl)) (by first | rfl | omega) (hin') (by first | rfl | omega)) ?_
          refine sv 4 rfl rfl rfl (fun a u hE hD hk => exec_fldo 59 0 0 (.tmp 47) (ga) (off + k * 5) (off + k * 5) rfl (hD 2 47 (by kernel_rfl)) (by kernel_rfl) rfl) ?_
          refine sv 5 rfl rfl rfl (fun a u hE hD hk => exec_loadi 3 Try.underlying3 (.tmp 48) ⟨ga, off + k * 5, none⟩ (.int .i64 q.k) rfl (hD 3 48 (by kernel_rfl)) (range_int (range_kept HC5.out hk) 0 _ rfl)) ?_
          refine fsteps_cons 6 rfl (fun a u hE hD hk => f_as (show ((decide ((q.k : Int) = (1 : Int))) : Bool) = true from decide_eq_true h1) (f_val (o := ⟨some 50, _, _, _, _, _⟩) (.bool (decide ((q.k : Int) = (1 : Int)))) rfl (wanted_none rfl _) (exec_eqn (p := q.k) (q := 1) rfl (hD 4 49 (by kernel_rfl)) rfl) rfl)) ?_
          exact fsteps_nil
        intro gv w6 hV kk
        rw [show dstsOf _ 6 = [45, 46, 47, 48, 49, 50] by kernel_rfl]
        simp only [List.foldl_cons, List.foldl_nil, List.setIfInBounds_toArray, List.set_cons_succ, List.set_cons_zero, List.drop_succ_cons, List.drop_zero]
        rw [show gv 50 = .bool true from hV 5 50 (by kernel_rfl)]
        clear hV
        refine wpList_nil ?_
        have HB6 := Lib.hid (HB5.out.kept kk)
        have HR6 := Lib.hid (HR5.out.kept kk)
        have HC6 := Lib.hid (range_kept HC5.out kk)
        have kw6 := kw5.trans kk
        clear HB5 HR5 HC5 kw5 kk
        clear h1
        obtain ⟨x, hx⟩ : ∃ x, opB B N I Q = x := ⟨_, rfl⟩
        obtain ⟨B2, hB2⟩ : ∃ B2, opM B N I Q = B2 := ⟨_, rfl⟩
        have HI2 : Hid B2.Ok := by show Bal.Ok _; rw [← hB2]; exact HI.out.op _ _ _
        have HX := Lib.hid hx
        have HM := Lib.hid hB2
        clear hx hB2
        go_upto_region 7 with fail
        refine wp_region_lit ?_
        refine l_val (o := ⟨some 51, _, _, _, _, _⟩) (.pointer (some ⟨g, 0, none⟩)) rfl (exec_move (.tmp 4) (.pointer (some ⟨g, 0, none⟩)) rfl (by kernel_rfl)) ?_
        simp only [Act.put, List.setIfInBounds_toArray, List.set_cons_succ, List.set_cons_zero]
        refine l_val (o := ⟨some 52, _, _, _, _, _⟩) (.int .i64 N) rfl (exec_move (.tmp 7) (.int .i64 N) rfl (by kernel_rfl)) ?_
        simp only [Act.put, List.setIfInBounds_toArray, List.set_cons_succ, List.set_cons_zero]
        refine l_val (o := ⟨some 53, _, _, _, _, _⟩) (.int .i64 I) rfl (exec_move (.tmp 8) (.int .i64 I) rfl (by kernel_rfl)) ?_
        simp only [Act.put, List.setIfInBounds_toArray, List.set_cons_succ, List.set_cons_zero]
        refine l_val (o := ⟨some 54, _, _, _, _, _⟩) (.int .i64 Q) rfl (exec_move (.tmp 9) (.int .i64 Q) rfl (by kernel_rfl)) ?_
        simp only [Act.put, List.setIfInBounds_toArray, List.set_cons_succ, List.set_cons_zero]
        refine l_call (o := ⟨some 55, _, _, _, _, _⟩) 17 #[.pointer (some ⟨g, 0, none⟩), .int .i64 N, .int .i64 I, .int .i64 Q] rfl (exec_call 17 _ [.tmp 51, .tmp 52, .tmp 53, .tmp 54] _ _ Try.func17 (by kernel_rfl) (by kernel_rfl) rfl (by kernel_rfl) _) ?_
        refine (opens_at (HB6.out) HI.out HX.out HM.out).mono ?_
        rintro e w7 ⟨rfl, hB7, k7⟩
        refine ⟨_, rfl, ?_⟩
        simp only [Act.put, List.setIfInBounds_toArray, List.set_cons_succ, List.set_cons_zero]
        refine wpList_nil ?_
        have HB7 := Lib.hid hB7
        have HR7 := Lib.hid ((HR6.out).keep k7 (fun h => hgr h.symm))
        have HC7 := Lib.hid (range_keep (HC6.out) k7 hga)
        have kw7 := kept_own (kw6) hg k7
        clear hB7 HB6 HR6 HC6 kw6 k7
        go_upto_region 8 with fail
        refine wp_region_lit ?_
        refine l_val (o := ⟨some 56, _, _, _, _, _⟩) (.pointer (some ⟨r, 0, none⟩)) rfl (exec_move (.tmp 5) (.pointer (some ⟨r, 0, none⟩)) rfl (by kernel_rfl)) ?_
        simp only [Act.put, List.setIfInBounds_toArray, List.set_cons_succ, List.set_cons_zero]
        refine l_val (o := ⟨some 57, _, _, _, _, _⟩) (.int .i64 N) rfl (exec_move (.tmp 7) (.int .i64 N) rfl (by kernel_rfl)) ?_
        simp only [Act.put, List.setIfInBounds_toArray, List.set_cons_succ, List.set_cons_zero]
        refine l_val (o := ⟨some 58, _, _, _, _, _⟩) (.int .i64 I) rfl (exec_move (.tmp 8) (.int .i64 I) rfl (by kernel_rfl)) ?_
        simp only [Act.put, List.setIfInBounds_toArray, List.set_cons_succ, List.set_cons_zero]
        refine l_val (o := ⟨some 59, _, _, _, _, _⟩) (.int .i64 Q) rfl (exec_move (.tmp 9) (.int .i64 Q) rfl (by kernel_rfl)) ?_
        simp only [Act.put, List.setIfInBounds_toArray, List.set_cons_succ, List.set_cons_zero]
        refine l_call (o := ⟨some 60, _, _, _, _, _⟩) 24 #[.pointer (some ⟨r, 0, none⟩), .int .i64 N, .int .i64 I, .int .i64 Q] rfl (exec_call 24 _ [.tmp 56, .tmp 57, .tmp 58, .tmp 59] _ _ Try.func24 (by kernel_rfl) (by kernel_rfl) rfl (by kernel_rfl) _) ?_
        have hq := ropens_any r B L HI.out N I Q _ (HR7.out)
        rw [HX.out, HM.out] at hq
        refine hq.mono ?_
        rintro e w8 ⟨rfl, hR8, k8⟩
        refine ⟨_, rfl, ?_⟩
        simp only [Act.put, List.setIfInBounds_toArray, List.set_cons_succ, List.set_cons_zero]
        refine wpList_nil ?_
        have HR8 := Lib.hid hR8
        have HB8 := Lib.hid ((HB7.out).keep k8 hgr)
        have kw8 := kept_own (kw7) hrw k8
        go_wp2
        exact ⟨⟨k + 1, B2, by simp, by omega, by omega, HB8, HR8, HI2, kw8⟩, by simp [intOf]; omega⟩
      · skip
        go_upto_region 6 with fail
        refine wp_text 6 [.eq (.slice (some ⟨ga, off, none⟩) n c), .eq (.int .i64 (k : Int)), .eq (.pointer (some ⟨ga, off + k * 5, none⟩)), .eq (.pointer (some ⟨ga, off + k * 5, none⟩)), .eq (.int .i64 q.k), .eq (.bool false)] rfl (by kernel_rfl) ?_ ?_
        · refine sv 1 rfl rfl rfl (fun a u hE hD hk => exec_move (.tmp 0) _ rfl (hE 0 (.slice (some ⟨ga, off, none⟩) n c) (by kernel_rfl) (by kernel_rfl))) ?_
          refine sv 2 rfl rfl rfl (fun a u hE hD hk => exec_move (.tmp 6) _ rfl (hE 6 (.int .i64 (k : Int)) (by kernel_rfl) (by kernel_rfl))) ?_
          refine sv 3 rfl rfl rfl (fun a u hE hD hk => exec_ixo slBq6 (.tmp 45) (.tmp 46) (ga) (off) n c k (off + k * 5) ((k : Int)) rfl (hD 0 45 (by kernel_rfl)) (hD 1 46 (by kernel_rfl)) (by first | rfl | omega) (hin') (by first | rfl | omega)) ?_
          refine sv 4 rfl rfl rfl (fun a u hE hD hk => exec_fldo 59 0 0 (.tmp 47) (ga) (off + k * 5) (off + k * 5) rfl (hD 2 47 (by kernel_rfl)) (by kernel_rfl) rfl) ?_
          refine sv 5 rfl rfl rfl (fun a u hE hD hk => exec_loadi 3 Try.underlying3 (.tmp 48) ⟨ga, off + k * 5, none⟩ (.int .i64 q.k) rfl (hD 3 48 (by kernel_rfl)) (range_int (range_kept HC5.out hk) 0 _ rfl)) ?_
          refine fsteps_cons 6 rfl (fun a u hE hD hk => f_as (show ((decide ((q.k : Int) = (1 : Int))) : Bool) = false from decide_eq_false h1) (f_val (o := ⟨some 50, _, _, _, _, _⟩) (.bool (decide ((q.k : Int) = (1 : Int)))) rfl (wanted_none rfl _) (exec_eqn (p := q.k) (q := 1) rfl (hD 4 49 (by kernel_rfl)) rfl) rfl)) ?_
          exact fsteps_nil
        intro gv w6 hV kk
        rw [show dstsOf _ 6 = [45, 46, 47, 48, 49, 50] by kernel_rfl]
        simp only [List.foldl_cons, List.foldl_nil, List.setIfInBounds_toArray, List.set_cons_succ, List.set_cons_zero, List.drop_succ_cons, List.drop_zero]
        rw [show gv 50 = .bool false from hV 5 50 (by kernel_rfl)]
        clear hV
        refine wpList_nil ?_
        have HB6 := Lib.hid (HB5.out.kept kk)
        have HR6 := Lib.hid (HR5.out.kept kk)
        have HC6 := Lib.hid (range_kept HC5.out kk)
        have kw6 := kw5.trans kk
        clear HB5 HR5 HC5 kw5 kk
        clear h1
        obtain ⟨x, hx⟩ : ∃ x, trB B N I (1 + S) Q = x := ⟨_, rfl⟩
        obtain ⟨B2, hB2⟩ : ∃ B2, trM B N I (1 + S) Q = B2 := ⟨_, rfl⟩
        have HI2 : Hid B2.Ok := by show Bal.Ok _; rw [← hB2]; exact HI.out.tr _ _ _ _
        have HX := Lib.hid hx
        have HM := Lib.hid hB2
        clear hx hB2
        go_upto_region 9 with fail
        refine wp_text 11 [.eq (.pointer (some ⟨g, 0, none⟩)), .eq (.int .i64 N), .eq (.int .i64 I), .eq (.slice (some ⟨ga, off, none⟩) n c), .eq (.int .i64 (k : Int)), .eq (.pointer (some ⟨ga, off + k * 5, none⟩)), .eq (.pointer (some ⟨ga, off + k * 5 + 3, none⟩)), .eq (.int .i64 q.s), .eq (.int .i64 S), .eq (.int .i64 (1 + S)), .eq (.int .i64 Q)] rfl (by kernel_rfl) ?_ ?_
        · refine sv 1 rfl rfl rfl (fun a u hE hD hk => exec_move (.tmp 4) _ rfl (hE 4 (.pointer (some ⟨g, 0, none⟩)) (by kernel_rfl) (by kernel_rfl))) ?_
          refine sv 2 rfl rfl rfl (fun a u hE hD hk => exec_move (.tmp 7) _ rfl (hE 7 (.int .i64 N) (by kernel_rfl) (by kernel_rfl))) ?_
          refine sv 3 rfl rfl rfl (fun a u hE hD hk => exec_move (.tmp 8) _ rfl (hE 8 (.int .i64 I) (by kernel_rfl) (by kernel_rfl))) ?_
          refine sv 4 rfl rfl rfl (fun a u hE hD hk => exec_move (.tmp 0) _ rfl (hE 0 (.slice (some ⟨ga, off, none⟩) n c) (by kernel_rfl) (by kernel_rfl))) ?_
          refine sv 5 rfl rfl rfl (fun a u hE hD hk => exec_move (.tmp 6) _ rfl (hE 6 (.int .i64 (k : Int)) (by kernel_rfl) (by kernel_rfl))) ?_
          refine sv 6 rfl rfl rfl (fun a u hE hD hk => exec_ixo slBq6 (.tmp 64) (.tmp 65) (ga) (off) n c k (off + k * 5) ((k : Int)) rfl (hD 3 64 (by kernel_rfl)) (hD 4 65 (by kernel_rfl)) (by first | rfl | omega) (hin') (by first | rfl | omega)) ?_
          refine sv 7 rfl rfl rfl (fun a u hE hD hk => exec_fldo 59 3 3 (.tmp 66) (ga) (off + k * 5) (off + k * 5 + 3) rfl (hD 5 66 (by kernel_rfl)) (by kernel_rfl) rfl) ?_
          refine sv 8 rfl rfl rfl (fun a u hE hD hk => exec_loadi 3 Try.underlying3 (.tmp 67) ⟨ga, off + k * 5 + 3, none⟩ (.int .i64 q.s) rfl (hD 6 67 (by kernel_rfl)) (range_int (range_kept HC6.out hk) 3 _ rfl)) ?_
          refine sv 9 rfl rfl rfl (fun a u hE hD hk => by rw [← HS.out]; exact exec_and1 (.tmp 68) _ q.s rfl (hD 7 68 (by kernel_rfl))) ?_
          refine sv 10 rfl rfl rfl (fun a u hE hD hk => exec_addn (p := 1) (q := S) (1 + S) rfl rfl (hD 8 69 (by kernel_rfl)) rfl (by omega) (by omega)) ?_
          refine sv 11 rfl rfl rfl (fun a u hE hD hk => exec_move (.tmp 9) _ rfl (hE 9 (.int .i64 Q) (by kernel_rfl) (by kernel_rfl))) ?_
          exact fsteps_nil
        intro gv w6b hV kb
        rw [show dstsOf _ 11 = [61, 62, 63, 64, 65, 66, 67, 68, 69, 70, 71] by kernel_rfl]
        simp only [List.foldl_cons, List.foldl_nil, List.setIfInBounds_toArray, List.set_cons_succ, List.set_cons_zero, List.drop_succ_cons, List.drop_zero]
        rw [show gv 61 = .pointer (some ⟨g, 0, none⟩) from hV 0 61 (by kernel_rfl)]
        rw [show gv 62 = .int .i64 N from hV 1 62 (by kernel_rfl)]
        rw [show gv 63 = .int .i64 I from hV 2 63 (by kernel_rfl)]
        rw [show gv 70 = .int .i64 (1 + S) from hV 9 70 (by kernel_rfl)]
        rw [show gv 71 = .int .i64 Q from hV 10 71 (by kernel_rfl)]
        clear hV
        refine l_call (o := ⟨some 72, _, _, _, _, _⟩) 18 #[.pointer (some ⟨g, 0, none⟩), .int .i64 N, .int .i64 I, .int .i64 (1 + S), .int .i64 Q] rfl (exec_call 18 _ [.tmp 61, .tmp 62, .tmp 63, .tmp 70, .tmp 71] _ _ Try.func18 (by kernel_rfl) (by kernel_rfl) rfl (by kernel_rfl) _) ?_
        refine (trades_at (HB6.out.kept kb) HI.out HX.out HM.out).mono ?_
        rintro e w7 ⟨rfl, hB7, k7⟩
        refine ⟨_, rfl, ?_⟩
        simp only [Act.put, List.setIfInBounds_toArray, List.set_cons_succ, List.set_cons_zero]
        refine wpList_nil ?_
        have HB7 := Lib.hid hB7
        have HR7 := Lib.hid ((HR6.out.kept kb).keep k7 (fun h => hgr h.symm))
        have HC7 := Lib.hid (range_keep ((range_kept HC6.out kb)) k7 hga)
        have kw7 := kept_own ((kw6.trans kb)) hg k7
        clear hB7 HB6 HR6 HC6 kw6 k7 kb
        go_upto_region 10 with fail
        refine wp_text 11 [.eq (.pointer (some ⟨r, 0, none⟩)), .eq (.int .i64 N), .eq (.int .i64 I), .eq (.slice (some ⟨ga, off, none⟩) n c), .eq (.int .i64 (k : Int)), .eq (.pointer (some ⟨ga, off + k * 5, none⟩)), .eq (.pointer (some ⟨ga, off + k * 5 + 3, none⟩)), .eq (.int .i64 q.s), .eq (.int .i64 S), .eq (.int .i64 (1 + S)), .eq (.int .i64 Q)] rfl (by kernel_rfl) ?_ ?_
        · refine sv 1 rfl rfl rfl (fun a u hE hD hk => exec_move (.tmp 5) _ rfl (hE 5 (.pointer (some ⟨r, 0, none⟩)) (by kernel_rfl) (by kernel_rfl))) ?_
          refine sv 2 rfl rfl rfl (fun a u hE hD hk => exec_move (.tmp 7) _ rfl (hE 7 (.int .i64 N) (by kernel_rfl) (by kernel_rfl))) ?_
          refine sv 3 rfl rfl rfl (fun a u hE hD hk => exec_move (.tmp 8) _ rfl (hE 8 (.int .i64 I) (by kernel_rfl) (by kernel_rfl))) ?_
          refine sv 4 rfl rfl rfl (fun a u hE hD hk => exec_move (.tmp 0) _ rfl (hE 0 (.slice (some ⟨ga, off, none⟩) n c) (by kernel_rfl) (by kernel_rfl))) ?_
          refine sv 5 rfl rfl rfl (fun a u hE hD hk => exec_move (.tmp 6) _ rfl (hE 6 (.int .i64 (k : Int)) (by kernel_rfl) (by kernel_rfl))) ?_
          refine sv 6 rfl rfl rfl (fun a u hE hD hk => exec_ixo slBq6 (.tmp 76) (.tmp 77) (ga) (off) n c k (off + k * 5) ((k : Int)) rfl (hD 3 76 (by kernel_rfl)) (hD 4 77 (by kernel_rfl)) (by first | rfl | omega) (hin') (by first | rfl | omega)) ?_
          refine sv 7 rfl rfl rfl (fun a u hE hD hk => exec_fldo 59 3 3 (.tmp 78) (ga) (off + k * 5) (off + k * 5 + 3) rfl (hD 5 78 (by kernel_rfl)) (by kernel_rfl) rfl) ?_
          refine sv 8 rfl rfl rfl (fun a u hE hD hk => exec_loadi 3 Try.underlying3 (.tmp 79) ⟨ga, off + k * 5 + 3, none⟩ (.int .i64 q.s) rfl (hD 6 79 (by kernel_rfl)) (range_int (range_kept HC7.out hk) 3 _ rfl)) ?_
          refine sv 9 rfl rfl rfl (fun a u hE hD hk => by rw [← HS.out]; exact exec_and1 (.tmp 80) _ q.s rfl (hD 7 80 (by kernel_rfl))) ?_
          refine sv 10 rfl rfl rfl (fun a u hE hD hk => exec_addn (p := 1) (q := S) (1 + S) rfl rfl (hD 8 81 (by kernel_rfl)) rfl (by omega) (by omega)) ?_
          refine sv 11 rfl rfl rfl (fun a u hE hD hk => exec_move (.tmp 9) _ rfl (hE 9 (.int .i64 Q) (by kernel_rfl) (by kernel_rfl))) ?_
          exact fsteps_nil
        intro gv w7b hV kb
        rw [show dstsOf _ 11 = [73, 74, 75, 76, 77, 78, 79, 80, 81, 82, 83] by kernel_rfl]
        simp only [List.foldl_cons, List.foldl_nil, List.setIfInBounds_toArray, List.set_cons_succ, List.set_cons_zero, List.drop_succ_cons, List.drop_zero]
        rw [show gv 73 = .pointer (some ⟨r, 0, none⟩) from hV 0 73 (by kernel_rfl)]
        rw [show gv 74 = .int .i64 N from hV 1 74 (by kernel_rfl)]
        rw [show gv 75 = .int .i64 I from hV 2 75 (by kernel_rfl)]
        rw [show gv 82 = .int .i64 (1 + S) from hV 9 82 (by kernel_rfl)]
        rw [show gv 83 = .int .i64 Q from hV 10 83 (by kernel_rfl)]
        clear hV
        refine l_call (o := ⟨some 84, _, _, _, _, _⟩) 25 #[.pointer (some ⟨r, 0, none⟩), .int .i64 N, .int .i64 I, .int .i64 (1 + S), .int .i64 Q] rfl (exec_call 25 _ [.tmp 73, .tmp 74, .tmp 75, .tmp 82, .tmp 83] _ _ Try.func25 (by kernel_rfl) (by kernel_rfl) rfl (by kernel_rfl) _) ?_
        have hq := rtrades_any r B L HI.out N I (1 + S) Q _ (HR7.out.kept kb)
        rw [HX.out, HM.out] at hq
        refine hq.mono ?_
        rintro e w8 ⟨rfl, hR8, k8⟩
        refine ⟨_, rfl, ?_⟩
        simp only [Act.put, List.setIfInBounds_toArray, List.set_cons_succ, List.set_cons_zero]
        refine wpList_nil ?_
        have HR8 := Lib.hid hR8
        have HB8 := Lib.hid ((HB7.out.kept kb).keep k8 hgr)
        have kw8 := kept_own ((kw7.trans kb)) hrw k8
        go_wp2
        exact ⟨⟨k + 1, B2, by simp, by omega, by omega, HB8, HR8, HI2, kw8⟩, by simp [intOf]; omega⟩
    · have hcond : (decide ((k : Int) < (n : Int)) && decide ((k : Int) < 30)) = false := by
        by_cases h1 : (k : Int) < (n : Int)
        · rw [decide_eq_false (show ¬ (k : Int) < 30 by omega), Bool.and_false]
        · rw [decide_eq_false h1, Bool.false_and]
      go_upto_region 3 with fail
      refine wp_text 12 [.eq (.int .i64 (k : Int)), .eq (.slice A n c), .eq (.int .i64 (n : Int)), .eq (.bool (decide (((k : Int) : Int) < ((n : Int) : Int)))), .eq (.bool (decide (((k : Int) : Int) < ((n : Int) : Int)))), .cond (decide (((k : Int) : Int) < ((n : Int) : Int))) (.eq (.int .i64 (k : Int))), .cond (decide (((k : Int) : Int) < ((n : Int) : Int))) (.eq (.bool (decide (((k : Int) : Int) < (30 : Int))))), .eq (.bool false), .eq (.bool false), .eq undef, .eq undef, .eq (.bool false)] rfl (by kernel_rfl) ?_ ?_
      · refine sv 1 rfl rfl rfl (fun a u hE hD hk => exec_move (.tmp 6) _ rfl (hE 6 (.int .i64 (k : Int)) (by kernel_rfl) (by kernel_rfl))) ?_
        refine sv 2 rfl rfl rfl (fun a u hE hD hk => exec_move (.tmp 0) _ rfl (hE 0 (.slice A n c) (by kernel_rfl) (by kernel_rfl))) ?_
        refine sv 3 rfl rfl rfl (fun a u hE hD hk => exec_len (.tmp 14) _ _ slBq6.und A n c rfl (hD 1 14 (by kernel_rfl))) ?_
        refine sv 4 rfl rfl rfl (fun a u hE hD hk => exec_ltn (p := (k : Int)) (q := (n : Int)) rfl (hD 0 13 (by kernel_rfl)) (hD 2 15 (by kernel_rfl))) ?_
        refine sv 5 rfl rfl rfl (fun a u hE hD hk => exec_move (.tmp 16) _ rfl (hD 3 16 (by kernel_rfl))) ?_
        refine fsteps_cons 6 rfl (fun a u hE hD hk => f_if ((decide (((k : Int) : Int) < ((n : Int) : Int)))) rfl rfl rfl (hD 4 17 (by kernel_rfl)) (fun hb => f_val (o := ⟨some 18, _, _, _, _, _⟩) (.int .i64 (k : Int)) rfl (wanted_b rfl rfl (hD 4 17 (by kernel_rfl)) (eq_true_of hb)) (exec_move (.tmp 6) _ rfl (hE 6 (.int .i64 (k : Int)) (by kernel_rfl) (by kernel_rfl))) rfl)) ?_
        refine fsteps_cons 7 rfl (fun a u hE hD hk => f_if ((decide (((k : Int) : Int) < ((n : Int) : Int)))) rfl rfl rfl (hD 4 17 (by kernel_rfl)) (fun hb => f_val (o := ⟨some 19, _, _, _, _, _⟩) (.bool (decide (((k : Int) : Int) < (30 : Int)))) rfl (wanted_b rfl rfl (hD 4 17 (by kernel_rfl)) (eq_true_of hb)) (exec_ltn (p := (k : Int)) (q := 30) rfl ((hD 5 18 (by kernel_rfl)).1 hb) rfl) rfl)) ?_
        refine fsteps_cons 8 rfl (fun a u hE hD hk => f_as (show (((decide (((k : Int) : Int) < ((n : Int) : Int))) && (decide (((k : Int) : Int) < (30 : Int)))) : Bool) = false from hcond) (f_val (o := ⟨some 20, _, _, _, _, _⟩) (.bool ((decide (((k : Int) : Int) < ((n : Int) : Int))) && (decide (((k : Int) : Int) < (30 : Int))))) rfl (wanted_none rfl _) (exec_pickand (.tmp 17) (.tmp 19) (.const (.bool false)) ((decide (((k : Int) : Int) < ((n : Int) : Int)))) ((decide (((k : Int) : Int) < (30 : Int)))) rfl (hD 4 17 (by kernel_rfl)) (fun hb2 => ((hD 6 19 (by kernel_rfl)).1 hb2)) rfl) rfl)) ?_
        refine sv 9 rfl rfl rfl (fun a u hE hD hk => exec_move (.tmp 20) _ rfl (hD 7 20 (by kernel_rfl))) ?_
        refine fsteps_cons 10 rfl (fun a u hE hD hk => f_skip (o := ⟨some 22, _, _, _, _, _⟩) rfl (wanted_at (b := true) false rfl rfl (hD 8 21 (by kernel_rfl))) rfl) ?_
        refine fsteps_cons 11 rfl (fun a u hE hD hk => f_skip (o := ⟨some 23, _, _, _, _, _⟩) rfl (wanted_at (b := true) false rfl rfl (hD 8 21 (by kernel_rfl))) rfl) ?_
        refine sv 12 rfl rfl rfl (fun a u hE hD hk => exec_pickF (.tmp 21) (.tmp 23) (.const (.bool false)) (.bool false) rfl (hD 8 21 (by kernel_rfl)) rfl) ?_
        exact fsteps_nil
      intro gv w4 hV k4
      rw [show dstsOf _ 12 = [13, 14, 15, 16, 17, 18, 19, 20, 21, 22, 23, 24] by kernel_rfl]
      simp only [List.foldl_cons, List.foldl_nil, List.setIfInBounds_toArray, List.set_cons_succ, List.set_cons_zero, List.drop_succ_cons, List.drop_zero]
      rw [show gv 24 = .bool false from hV 11 24 (by kernel_rfl)]
      clear hV
      refine wpList_nil ?_
      have kw4 := kwr.trans k4
      have hBz := HBr.out.kept k4
      have hRz := HRr.out.kept k4
      rw [← HL.out] at hRz
      clear hcond hlt k4
      go_wp2
      go_ret2
      exact ⟨g, r, B, rfl, HI.out, hBz, hRz, hg, by omega, by omega, kw4⟩
end Go.Proofs.Ytgajdkelpaaadaa
