/-
  The walk of jobberlaw4.ChainTells. No condition but the tables' contents.
-/
import Derived.Test.YtholpkaicmckfaaDoorFew4
import Derived.Test.YtholpkaicmckfaaDoorSame4
import Derived.Test.YtholpkaicmckfaaDoorRefClash
import Derived.Test.YtholpkaicmckfaaDoorRuns4
import Derived.Test.YtholpkaicmckfaaDoorWithin
namespace Go.Proofs.YtholpkaicmckfaaDoor
open Go.RowKit
set_option linter.unusedVariables false

theorem diff_set (x : List (List UInt8)) (k : Nat) (hk : k < x.length) (y : List UInt8) (hy : x[k]? ≠ some y) : diffOf x (x.set k y) = (k : Int) := by
  have h : ∀ n i, i ≤ k → k < i + n → diffFrom x (x.set k y) i n = (k : Int) := by
    intro n
    induction n with
    | zero => intro i h1 h2; omega
    | succ n ih =>
      intro i h1 h2
      unfold diffFrom
      by_cases e : k = i
      · subst e
        rw [List.getElem?_set_self hk, if_neg hy]
      · rw [List.getElem?_set_ne e, if_pos rfl]
        exact ih (i + 1) (by omega) (by omega)
  unfold diffOf
  rw [List.length_set, Nat.min_self]
  exact h _ 0 (by omega) (by omega)
theorem sumCells_set (X : List (List UInt8)) (hX : ∀ x ∈ X, x.length = 32) (k j : Nat) (x : List UInt8) (hx : X[k]? = some x) (hj : j < 32) (b : UInt8) : (sumCells X).set (k * 32 + j) (.int .u8 (b.toNat : Int)) = sumCells (X.set k (x.set j b)) := by
  have hk := (List.getElem?_eq_some_iff.1 hx).1
  have hxl := hX x (List.mem_of_getElem? hx)
  have hX' : ∀ y ∈ X.set k (x.set j b), y.length = 32 := fun y hy => by
    rcases List.mem_or_eq_of_mem_set hy with h | h
    · exact hX y h
    · rw [h, List.length_set]; exact hxl
  have hl := sumCells_length X hX
  have hl' := sumCells_length _ hX'
  rw [List.length_set] at hl'
  apply List.ext_getElem?
  intro i
  by_cases hi : i < X.length * 32
  · obtain ⟨q, r, rfl, hr⟩ : ∃ q r, i = q * 32 + r ∧ r < 32 := ⟨i / 32, i % 32, by omega, by omega⟩
    have hq : q < X.length := by omega
    by_cases e : q = k
    · subst e
      rw [sumCells_at _ hX' q r hr (x.set j b) (by rw [List.getElem?_set_self hk])]
      by_cases e2 : r = j
      · subst e2
        rw [List.getElem?_set_self (by omega)]
        simp [cells8, hxl, hr]
      · rw [List.getElem?_set_ne (by omega), sumCells_at X hX q r hr x hx]
        simp only [cells8, List.getElem?_map]
        rw [List.getElem?_set_ne (by omega)]
    · rw [List.getElem?_set_ne (by omega), sumCells_at X hX q r hr X[q] (List.getElem?_eq_getElem hq), sumCells_at _ hX' q r hr X[q] (by rw [List.getElem?_set_ne (by omega), List.getElem?_eq_getElem hq])]
  · rw [List.getElem?_eq_none (by rw [List.length_set]; omega), List.getElem?_eq_none (by omega)]

set_option maxRecDepth 100000 in
set_option maxHeartbeats 6400000 in
theorem chainTells_any (va vb : Value) (la lb : List (List UInt8)) (prev : List UInt8) (at_ t : Int) (tb : UInt8) (w : World) (hG : Glob w) (ha : RecV w va la) (hb : RecV w vb lb) (hp : prev.length = 32) (ht : t = (tb.toNat : Int)) :
    Calls Tryd.prog 4 #[va, vb, .agg (cells8 prev).toArray, .int .i64 at_, .int .u8 t] w fun e w' => e = .returned (.bool true) ∧ Kept w w' := by
  subst ht
  have hip := size_arr prev hp
  have HPl := Lib.hid hp
  have HB := Lib.hid hb
  go_enter Tryd.func4, Tryd.ntmps4
  go_upto_region 1 with ((with_reducible show wpList _ _ _ _ _ _); (first
    | ((with_reducible refine wpl_value (o := ⟨some 7, _, _, _, _, _⟩) _ _ _ rfl (exec_box _ _ _ 30 (.tmp 2) (cells8 prev).toArray rfl rfl) ?_); have hbp : Blk (w.alloc (.cells (cells8 prev).toArray 30)) w.heap.size 30 (cells8 prev) := Blk.new w _ _; have hk0 : Kept w (w.alloc (.cells (cells8 prev).toArray 30)) := (Keep.refl _ w).alloc _; generalize w.alloc (.cells (cells8 prev).toArray 30) = w0 at hbp hk0 ⊢)))
  go_wp2_with fail
  refine (few_any va la w0 (ha.kept hk0)).mono ?_
  rintro e w1 ⟨u, rfl, A1, c1, vs1, rfl, own1, rows1, hk1⟩
  have hkw1 := hk0.trans hk1
  clear ha hb hp
  go_wp2_with fail
  refine (few_any vb lb w1 (HB.out.kept hkw1)).mono ?_
  rintro e w2 ⟨u, rfl, A2, c2, vs2, rfl, own2, rows2, hk2⟩
  have hkw2 := hkw1.trans hk2
  have hX8 := fewOf_length la
  have hY8 := fewOf_length lb
  have HXe := Lib.hid (fewOf_each la)
  have HYe := Lib.hid (fewOf_each lb)
  obtain ⟨X, hX⟩ : ∃ X, X = fewOf la := ⟨_, rfl⟩
  obtain ⟨Y, hY⟩ : ∃ Y, Y = fewOf lb := ⟨_, rfl⟩
  rw [← hX] at own1 rows1 hX8 HXe ⊢
  rw [← hY] at own2 rows2 hY8 HYe ⊢
  have hRX1 : Recs w1 A1 X := recs_of_own own1 rows1
  have hRY2 : Recs w2 A2 Y := recs_of_own own2 rows2
  have hcap1 := own1.cap
  have hcap2 := own2.cap
  have HRX := Lib.hid (hRX1.kept hk2)
  have HRY := Lib.hid hRY2
  have hbp2 := (hbp.kept hk1).kept hk2
  have hlX : Hid (X.length = X.length) := rfl
  have hlY : Hid (Y.length = Y.length) := rfl
  generalize hn : X.length = n at hX8 hcap1 hlX ⊢
  generalize hm : Y.length = m at hY8 hcap2 hlY ⊢
  replace hlX : Hid (X.length = n) := hn
  replace hlY : Hid (Y.length = m) := hm
  have HVX : Hid (RecV w2 (.slice A1 n c1) X) := ⟨A1, n, c1, rfl, hlX, HRX.out, hcap1.1, hcap1.2.1⟩
  have HVY : Hid (RecV w2 (.slice A2 m c2) Y) := ⟨A2, m, c2, rfl, hlY, HRY.out, hcap2.1, hcap2.2.1⟩
  have hXL : Hid (X.length ≤ 1000) := by show _ ≤ _; rw [hn]; omega
  have hYL : Hid (Y.length ≤ 1000) := by show _ ≤ _; rw [hm]; omega
  have HXb : Hid (∀ x ∈ X, x.length ≤ 40) := fun x hx => HXe.out x hx
  have HYb : Hid (∀ x ∈ Y, x.length ≤ 40) := fun x hx => HYe.out x hx
  have hgp : w.heap.size < w2.heap.size := by have := hbp2.lt; omega
  clear own1 rows1 own2 rows2 hRX1 hRY2 hX hY hn hm hk0 hk1 hk2 hkw1 hbp HXe HYe HB
  go_wp2_with fail
  refine (refLinks_any (.slice A1 n c1) X w2 HVX.out (by have := hXL.out; omega) (fun x hx => by have := HXb.out x hx; omega)).mono ?_
  rintro e w3 ⟨u, rfl, A3, c3, rfl, own3, hk3⟩
  rw [hlX.out] at own3 ⊢
  have hkw3 := hkw2.trans hk3
  have hbp3 := hbp2.kept hk3
  have HVX3 := Lib.hid (HVX.out.kept hk3)
  have HVY3 := Lib.hid (HVY.out.kept hk3)
  have HRX3 := Lib.hid (HRX.out.kept hk3)
  have HO3 := Lib.hid own3
  have HLl := Lib.hid ((linksOf_length X).trans hlX.out)
  have HLe := Lib.hid (linksOf_each X)
  clear own3 HRY
  have hk23 := hk3
  clear hk3
  by_cases hn0 : 0 < n
  · have hX0 : 0 < X.length := by rw [hlX.out]; exact hn0
    obtain ⟨bx, ox, ux, rfl, hcx2, hbx2⟩ := HRX.out 0 X[0] (List.getElem?_eq_getElem hX0)
    have hcx := hk23.cell hcx2
    have hbx := hbx2.kept hk23
    obtain ⟨one, hone⟩ : ∃ one, one = X[0] := ⟨_, rfl⟩
    rw [← hone] at hbx hbx2
    have HBX2 := Lib.hid hbx2
    clear hbx2
    have HOl : Hid (one.length ≤ 40) := by rw [hone]; exact HXb.out _ (List.getElem_mem hX0)
    have HBX := Lib.hid hbx
    clear hone hbx hX0
    rw [Nat.add_zero] at hcx hcx2
    by_cases htb : tb = 0
    · have htz : ((tb.toNat : Int) != 0) = false := by rw [htb]; rfl
      clear htb
      have hka : Kept w3 (w3.alloc (.cells #[.int .u8 (tb.toNat : Int)] 5)) := Keep.alloc (Keep.refl _ w3) _
      have hcz := hka.cell hcx
      go_wp2_with fail
      have HOne := Lib.hid (HBX.out.kept hka)
      have hkz := hkw3.trans hka
      have hbpz := hbp3.kept hka
      have HVXz := Lib.hid (HVX3.out.kept hka)
      have HVYz := Lib.hid (HVY3.out.kept hka)
      have HSz := Lib.hid (sums_of_own (HO3.out.kept hka) HLe.out)
      obtain ⟨X2, hX2⟩ : ∃ X2, X2 = linksOf X := ⟨_, rfl⟩
      rw [← hX2] at HSz
      have HX2l : Hid (X2.length = n) := by rw [hX2]; exact HLl.out
      have HCk : Hid (diffOf (linksOf X) X2 = -1) := by rw [hX2]; exact diff_self _
      generalize w3.heap.size = g15 at ⊢
      generalize w3.alloc (.cells #[.int .u8 (tb.toNat : Int)] 5) = wz at HOne hkz hbpz HVXz HVYz HSz ⊢
      clear hX2 hka hkw3 hbp3 HVX3 HVY3 HRX3 HO3 hcx hcz HBX
      obtain ⟨LK, hLK⟩ : ∃ LK, LK = linkOf prev one := ⟨_, rfl⟩
      have HLK : Hid (∀ t, t = linkOf prev one → t = LK) := fun t h => h.trans hLK.symm
      have HLKl : Hid (LK.length = 32) := by show _ = _; rw [hLK, linkOf_length]
      obtain ⟨D, hD⟩ : ∃ D, D = clashOf X Y := ⟨_, rfl⟩
      have HD : Hid (∀ t, t = clashOf X Y → t = D) := fun t h => h.trans hD.symm
      clear hLK hD
      have q0 : Kept wz wz.drew := Keep.drew (Kept.refl wz)
      have HGz := Lib.hid (hG.kept hkz)
      generalize hv0 : wz.drew = v0 at q0
      refine wp_sched (fun u => Kept wz u) [(0, 0), (1, 0), (3, 0), (4, 0), (2, 1), (5, 1), (6, 0), (7, 0), (8, 0), (10, 0), (9, 1), (11, 1), (12, 1), (13, 0), (14, 0), (15, 0), (16, 0), (18, 0), (17, 1), (19, 0), (20, 0), (21, 0), (22, 0), (23, 0), (25, 0), (26, 0), (24, 1), (27, 1), (28, 0), (29, 0), (30, 0), (31, 1), (32, 0), (33, 0)] (by kernel_rfl) (by kernel_rfl) ((Keep.drew (Kept.refl wz) : Kept wz wz.drew)) ?_
      refine s_val (o := ⟨some 53, _, _, _, _, _⟩) (.agg (cells8 prev).toArray) rfl (by kernel_rfl) (fun u hu => exec_load_row 30 (.tmp 7) w.heap.size 32 30 5 (cells8 prev) rfl (by kernel_rfl) (hbpz.kept hu) Tryd.underlying30 hip.out) ?_
      simp only [Act.put, List.setIfInBounds_toArray, List.set_cons_succ, List.set_cons_zero]
      refine s_val (o := ⟨some 54, _, _, _, _, _⟩) (ux) rfl (by kernel_rfl) (fun u hu => exec_move (.tmp 15) (ux) rfl (by kernel_rfl)) ?_
      simp only [Act.put, List.setIfInBounds_toArray, List.set_cons_succ, List.set_cons_zero]
      refine s_val (o := ⟨some 56, _, _, _, _, _⟩) (.agg (cells8 prev).toArray) rfl (by kernel_rfl) (fun u hu => exec_load_row 30 (.tmp 7) w.heap.size 32 30 5 (cells8 prev) rfl (by kernel_rfl) (hbpz.kept hu) Tryd.underlying30 hip.out) ?_
      simp only [Act.put, List.setIfInBounds_toArray, List.set_cons_succ, List.set_cons_zero]
      refine s_val (o := ⟨some 57, _, _, _, _, _⟩) (ux) rfl (by kernel_rfl) (fun u hu => exec_move (.tmp 15) (ux) rfl (by kernel_rfl)) ?_
      simp only [Act.put, List.setIfInBounds_toArray, List.set_cons_succ, List.set_cons_zero]
      refine s_call (o := ⟨some 55, _, _, _, _, _⟩) 14 #[.agg (cells8 prev).toArray, ux] rfl (by kernel_rfl) (exec_call 14 _ [.tmp 53, .tmp 54] _ _ Tryd.func14 (by kernel_rfl) (by kernel_rfl) rfl (by kernel_rfl)) ?_
      rw [hv0]
      refine (link_any prev one (ux) v0 (HGz.out.kept q0) HPl.out (HOne.out.kept q0) (by have := HOl.out; omega)).mono ?_
      rintro e v1 ⟨rfl, p1⟩
      rw [HLK.out _ rfl]
      have q1 := q0.trans p1
      refine ⟨_, rfl, q1, ?_⟩
      simp only [Act.put, List.setIfInBounds_toArray, List.set_cons_succ, List.set_cons_zero]
      refine s_call (o := ⟨some 58, _, _, _, _, _⟩) 15 #[.agg (cells8 prev).toArray, ux] rfl (by kernel_rfl) (exec_call 15 _ [.tmp 56, .tmp 57] _ _ Tryd.func15 (by kernel_rfl) (by kernel_rfl) rfl (by kernel_rfl)) ?_
      refine (refLink_any prev one (ux) v1 HPl.out (HOne.out.kept q1) (by have := HOl.out; omega)).mono ?_
      rintro e v2 ⟨rfl, p2⟩
      rw [HLK.out _ rfl]
      have q2 := q1.trans p2
      refine ⟨_, rfl, q2, ?_⟩
      simp only [Act.put, List.setIfInBounds_toArray, List.set_cons_succ, List.set_cons_zero]
      refine s_val (o := ⟨some 59, _, _, _, _, _⟩) (.bool true) rfl (by kernel_rfl) (fun u hu => (by rw [exec_eql8 (.tmp 55) (.tmp 58) _ LK LK rfl (by kernel_rfl) (by kernel_rfl) HLKl.out HLKl.out, decide_eq_true rfl])) ?_
      simp only [Act.put, List.setIfInBounds_toArray, List.set_cons_succ, List.set_cons_zero]
      refine s_val (o := ⟨some 60, _, _, _, _, _⟩) (.bool true) rfl (by kernel_rfl) (fun u hu => exec_move (.tmp 59) (.bool true) rfl (by kernel_rfl)) ?_
      simp only [Act.put, List.setIfInBounds_toArray, List.set_cons_succ, List.set_cons_zero]
      refine s_val (o := ⟨some 61, _, _, _, _, _⟩) (.slice (some ⟨bx, ox, none⟩) n c1) rfl (by kernel_rfl) (fun u hu => exec_move (.tmp 11) (.slice (some ⟨bx, ox, none⟩) n c1) rfl (by kernel_rfl)) ?_
      simp only [Act.put, List.setIfInBounds_toArray, List.set_cons_succ, List.set_cons_zero]
      refine s_val (o := ⟨some 63, _, _, _, _, _⟩) (.slice (some ⟨bx, ox, none⟩) n c1) rfl (by kernel_rfl) (fun u hu => exec_move (.tmp 11) (.slice (some ⟨bx, ox, none⟩) n c1) rfl (by kernel_rfl)) ?_
      simp only [Act.put, List.setIfInBounds_toArray, List.set_cons_succ, List.set_cons_zero]
      refine s_call (o := ⟨some 62, _, _, _, _, _⟩) 8 #[.slice (some ⟨bx, ox, none⟩) n c1] rfl (by kernel_rfl) (exec_call 8 _ [.tmp 61] _ _ Tryd.func8 (by kernel_rfl) (by kernel_rfl) rfl (by kernel_rfl)) ?_
      refine (links_any (.slice (some ⟨bx, ox, none⟩) n c1) X v2 (HGz.out.kept q2) (HVXz.out.kept q2) (by have := hXL.out; omega) (fun x hx => by have := HXb.out x hx; omega)).mono ?_
      rintro e v3 ⟨_, rfl, g62, rfl, _, b62, p3⟩
      rw [hlX.out]
      have S62 := sums_of_blk b62 (linksOf_each X)
      have q3 := q2.trans p3
      refine ⟨_, rfl, q3, ?_⟩
      simp only [Act.put, List.setIfInBounds_toArray, List.set_cons_succ, List.set_cons_zero]
      refine s_call (o := ⟨some 64, _, _, _, _, _⟩) 12 #[.slice (some ⟨bx, ox, none⟩) n c1] rfl (by kernel_rfl) (exec_call 12 _ [.tmp 63] _ _ Tryd.func12 (by kernel_rfl) (by kernel_rfl) rfl (by kernel_rfl)) ?_
      refine (refLinks_any (.slice (some ⟨bx, ox, none⟩) n c1) X v3 (HVXz.out.kept q3) (by have := hXL.out; omega) (fun x hx => by have := HXb.out x hx; omega)).mono ?_
      rintro e v4 ⟨_, rfl, A64, c64, rfl, o64, p4⟩
      rw [hlX.out]
      have S64 := sums_of_own o64 (linksOf_each X)
      have S62b := S62.kept p4
      have q4 := q3.trans p4
      refine ⟨_, rfl, q4, ?_⟩
      simp only [Act.put, List.setIfInBounds_toArray, List.set_cons_succ, List.set_cons_zero]
      refine s_call (o := ⟨some 65, _, _, _, _, _⟩) 16 #[.slice (some ⟨g62, 0, none⟩) n n, .slice A64 n c64] rfl (by kernel_rfl) (exec_call 16 _ [.tmp 62, .tmp 64] _ _ Tryd.func16 (by kernel_rfl) (by kernel_rfl) rfl (by kernel_rfl)) ?_
      refine (sameS_any _ _ n n n c64 (linksOf X) (linksOf X) v4 S62b S64 HLl HLl (by omega) (by omega)).mono ?_
      rintro e v5 ⟨rfl, p5⟩
      rw [decide_eq_true rfl]
      have q5 := q4.trans p5
      refine ⟨_, rfl, q5, ?_⟩
      simp only [Act.put, List.setIfInBounds_toArray, List.set_cons_succ, List.set_cons_zero]
      refine s_val (o := ⟨some 66, _, _, _, _, _⟩) (.bool true) rfl (by kernel_rfl) (fun u hu => exec_pick (.tmp 60) (.tmp 65) (.const (.bool false)) (.bool true) rfl (by kernel_rfl) (by kernel_rfl)) ?_
      simp only [Act.put, List.setIfInBounds_toArray, List.set_cons_succ, List.set_cons_zero]
      refine s_val (o := ⟨some 67, _, _, _, _, _⟩) (.bool true) rfl (by kernel_rfl) (fun u hu => exec_move (.tmp 66) (.bool true) rfl (by kernel_rfl)) ?_
      simp only [Act.put, List.setIfInBounds_toArray, List.set_cons_succ, List.set_cons_zero]
      refine s_val (o := ⟨some 68, _, _, _, _, _⟩) (.slice (some ⟨bx, ox, none⟩) n c1) rfl (by kernel_rfl) (fun u hu => exec_move (.tmp 11) (.slice (some ⟨bx, ox, none⟩) n c1) rfl (by kernel_rfl)) ?_
      simp only [Act.put, List.setIfInBounds_toArray, List.set_cons_succ, List.set_cons_zero]
      refine s_val (o := ⟨some 69, _, _, _, _, _⟩) (.slice A3 n c3) rfl (by kernel_rfl) (fun u hu => exec_move (.tmp 13) (.slice A3 n c3) rfl (by kernel_rfl)) ?_
      simp only [Act.put, List.setIfInBounds_toArray, List.set_cons_succ, List.set_cons_zero]
      refine s_val (o := ⟨some 71, _, _, _, _, _⟩) (.int .i64 (-1)) rfl (by kernel_rfl) (fun u hu => exec_move (.tmp 14) (.int .i64 (-1)) rfl (by kernel_rfl)) ?_
      simp only [Act.put, List.setIfInBounds_toArray, List.set_cons_succ, List.set_cons_zero]
      refine s_call (o := ⟨some 70, _, _, _, _, _⟩) 10 #[.slice (some ⟨bx, ox, none⟩) n c1, .slice A3 n c3] rfl (by kernel_rfl) (exec_call 10 _ [.tmp 68, .tmp 69] _ _ Tryd.func10 (by kernel_rfl) (by kernel_rfl) rfl (by kernel_rfl)) ?_
      refine (check_any (.slice (some ⟨bx, ox, none⟩) n c1) X X2 A3 n c3 v5 (HGz.out.kept q5) (HVXz.out.kept q5) (by have := hXL.out; omega) (fun x hx => by have := HXb.out x hx; omega) (HSz.out.kept q5) HX2l (by omega)).mono ?_
      rintro e v6 ⟨rfl, p6⟩
      rw [HCk.out]
      have q6 := q5.trans p6
      refine ⟨_, rfl, q6, ?_⟩
      simp only [Act.put, List.setIfInBounds_toArray, List.set_cons_succ, List.set_cons_zero]
      refine s_val (o := ⟨some 72, _, _, _, _, _⟩) (.bool true) rfl (by kernel_rfl) (fun u hu => exec_eqi (.tmp 70) (.tmp 71) _ (-1) (-1) true rfl (by kernel_rfl) (by kernel_rfl) (by simp)) ?_
      simp only [Act.put, List.setIfInBounds_toArray, List.set_cons_succ, List.set_cons_zero]
      refine s_val (o := ⟨some 73, _, _, _, _, _⟩) (.bool true) rfl (by kernel_rfl) (fun u hu => exec_pick (.tmp 67) (.tmp 72) (.const (.bool false)) (.bool true) rfl (by kernel_rfl) (by kernel_rfl)) ?_
      simp only [Act.put, List.setIfInBounds_toArray, List.set_cons_succ, List.set_cons_zero]
      refine s_val (o := ⟨some 74, _, _, _, _, _⟩) (.bool true) rfl (by kernel_rfl) (fun u hu => exec_move (.tmp 73) (.bool true) rfl (by kernel_rfl)) ?_
      simp only [Act.put, List.setIfInBounds_toArray, List.set_cons_succ, List.set_cons_zero]
      refine s_val (o := ⟨some 75, _, _, _, _, _⟩) (.slice (some ⟨bx, ox, none⟩) n c1) rfl (by kernel_rfl) (fun u hu => exec_move (.tmp 11) (.slice (some ⟨bx, ox, none⟩) n c1) rfl (by kernel_rfl)) ?_
      simp only [Act.put, List.setIfInBounds_toArray, List.set_cons_succ, List.set_cons_zero]
      refine s_val (o := ⟨some 76, _, _, _, _, _⟩) (.slice A2 m c2) rfl (by kernel_rfl) (fun u hu => exec_move (.tmp 12) (.slice A2 m c2) rfl (by kernel_rfl)) ?_
      simp only [Act.put, List.setIfInBounds_toArray, List.set_cons_succ, List.set_cons_zero]
      refine s_val (o := ⟨some 78, _, _, _, _, _⟩) (.slice (some ⟨bx, ox, none⟩) n c1) rfl (by kernel_rfl) (fun u hu => exec_move (.tmp 11) (.slice (some ⟨bx, ox, none⟩) n c1) rfl (by kernel_rfl)) ?_
      simp only [Act.put, List.setIfInBounds_toArray, List.set_cons_succ, List.set_cons_zero]
      refine s_val (o := ⟨some 79, _, _, _, _, _⟩) (.slice A2 m c2) rfl (by kernel_rfl) (fun u hu => exec_move (.tmp 12) (.slice A2 m c2) rfl (by kernel_rfl)) ?_
      simp only [Act.put, List.setIfInBounds_toArray, List.set_cons_succ, List.set_cons_zero]
      refine s_call (o := ⟨some 77, _, _, _, _, _⟩) 9 #[.slice (some ⟨bx, ox, none⟩) n c1, .slice A2 m c2] rfl (by kernel_rfl) (exec_call 9 _ [.tmp 75, .tmp 76] _ _ Tryd.func9 (by kernel_rfl) (by kernel_rfl) rfl (by kernel_rfl)) ?_
      refine (clash_any (.slice (some ⟨bx, ox, none⟩) n c1) (.slice A2 m c2) X Y v6 (HGz.out.kept q6) (HVXz.out.kept q6) (HVYz.out.kept q6) (by have := hXL.out; omega) (by have := hYL.out; omega) (fun x hx => by have := HXb.out x hx; omega) (fun x hx => by have := HYb.out x hx; omega)).mono ?_
      rintro e v7 ⟨rfl, p7⟩
      rw [HD.out _ rfl]
      have q7 := q6.trans p7
      refine ⟨_, rfl, q7, ?_⟩
      simp only [Act.put, List.setIfInBounds_toArray, List.set_cons_succ, List.set_cons_zero]
      refine s_call (o := ⟨some 80, _, _, _, _, _⟩) 17 #[.slice (some ⟨bx, ox, none⟩) n c1, .slice A2 m c2] rfl (by kernel_rfl) (exec_call 17 _ [.tmp 78, .tmp 79] _ _ Tryd.func17 (by kernel_rfl) (by kernel_rfl) rfl (by kernel_rfl)) ?_
      refine (refClash_any (.slice (some ⟨bx, ox, none⟩) n c1) (.slice A2 m c2) X Y v7 (HVXz.out.kept q7) (HVYz.out.kept q7) (by have := hXL.out; omega) (by have := hYL.out; omega) (fun x hx => by have := HXb.out x hx; omega) (fun x hx => by have := HYb.out x hx; omega)).mono ?_
      rintro e v8 ⟨rfl, p8⟩
      rw [HD.out _ rfl]
      have q8 := q7.trans p8
      refine ⟨_, rfl, q8, ?_⟩
      simp only [Act.put, List.setIfInBounds_toArray, List.set_cons_succ, List.set_cons_zero]
      refine s_val (o := ⟨some 81, _, _, _, _, _⟩) (.bool true) rfl (by kernel_rfl) (fun u hu => exec_eqi (.tmp 77) (.tmp 80) _ D D true rfl (by kernel_rfl) (by kernel_rfl) (by simp)) ?_
      simp only [Act.put, List.setIfInBounds_toArray, List.set_cons_succ, List.set_cons_zero]
      refine s_val (o := ⟨some 82, _, _, _, _, _⟩) (.bool true) rfl (by kernel_rfl) (fun u hu => exec_pick (.tmp 74) (.tmp 81) (.const (.bool false)) (.bool true) rfl (by kernel_rfl) (by kernel_rfl)) ?_
      simp only [Act.put, List.setIfInBounds_toArray, List.set_cons_succ, List.set_cons_zero]
      refine s_val (o := ⟨some 83, _, _, _, _, _⟩) (.bool true) rfl (by kernel_rfl) (fun u hu => exec_move (.tmp 82) (.bool true) rfl (by kernel_rfl)) ?_
      simp only [Act.put, List.setIfInBounds_toArray, List.set_cons_succ, List.set_cons_zero]
      refine s_call (o := ⟨some 84, _, _, _, _, _⟩) 3 #[] rfl (by kernel_rfl) (exec_call 3 _ [] _ _ Tryd.func3 (by kernel_rfl) (by kernel_rfl) rfl (by kernel_rfl)) ?_
      refine (chainRuns_any v8 (HGz.out.kept q8)).mono ?_
      rintro e v9 ⟨rfl, p9⟩
      have q9 := q8.trans p9
      refine ⟨_, rfl, q9, ?_⟩
      simp only [Act.put, List.setIfInBounds_toArray, List.set_cons_succ, List.set_cons_zero]
      refine s_val (o := ⟨some 85, _, _, _, _, _⟩) (.bool true) rfl (by kernel_rfl) (fun u hu => exec_pick (.tmp 83) (.tmp 84) (.const (.bool false)) (.bool true) rfl (by kernel_rfl) (by kernel_rfl)) ?_
      simp only [Act.put, List.setIfInBounds_toArray, List.set_cons_succ, List.set_cons_zero]
      refine s_val (o := ⟨some 10, _, _, _, _, _⟩) (.bool true) rfl (by kernel_rfl) (fun u hu => exec_assign (.tmp 85) (.bool true) rfl (by kernel_rfl)) ?_
      simp only [Act.put, List.setIfInBounds_toArray, List.set_cons_succ, List.set_cons_zero]
      refine s_done ?_
      have hkf := hkz.trans q9
      clear q0 q1 q2 q3 q4 q5 q6 q7 q8 q9 S62 S62b S64 b62 o64
      go_wp2
      go_ret
      exact ⟨rfl, hkf⟩
    · have htz : ((tb.toNat : Int) != 0) = true := by
        rw [bne_iff_ne]
        intro h
        exact htb (UInt8.toNat.inj (by have : tb.toNat = 0 := by omega
                                       rw [this]; rfl))
      have HTB := Lib.hid htb
      clear htb
      go_wp2_with fail
      refine (within_nat at_ ((n : Int) - 1) w3 (by omega) (by omega)).mono ?_
      rintro e w4 ⟨k, rfl, hk, rfl⟩
      have hkn : k < n := by omega
      have hkL : k < (linksOf X).length := by rw [HLl.out]; exact hkn
      obtain ⟨j, hj⟩ : ∃ j : Nat, at_ % 32 = (j : Int) := ⟨(at_ % 32).toNat, by omega⟩
      have hj32 : j < 32 := by omega
      obtain ⟨g3, rfl, hg3, hg3l⟩ := HO3.out.some_ hn0
      obtain ⟨xk, hxk⟩ : ∃ xk, (linksOf X)[k]? = some xk := ⟨_, List.getElem?_eq_getElem hkL⟩
      have hxkl := HLe.out xk (List.mem_of_getElem? hxk)
      obtain ⟨y, hy⟩ : ∃ y, xk[j]? = some y := ⟨_, List.getElem?_eq_getElem (by omega)⟩
      obtain ⟨X2, hX2⟩ : ∃ X2, X2 = (linksOf X).set k (xk.set j (y ^^^ tb)) := ⟨_, rfl⟩
      have HCell : Hid (w3.cell? ⟨g3, 0 + k * 32 + j * 1, none⟩ = some (.int .u8 (y.toNat : Int))) := by
        show _ = _
        rw [Nat.mul_one, Nat.zero_add, HO3.out.cell _ (by omega), sumCells_at _ HLe.out k j hj32 xk hxk, cells8, List.getElem?_map, hy]
        rfl
      have HSet : Hid ((sumCells (linksOf X)).set (0 + k * 32 + j * 1) (.int .u8 ((y ^^^ tb).toNat : Int)) = sumCells X2) := by
        show _ = _
        rw [Nat.mul_one, Nat.zero_add, hX2]
        exact sumCells_set _ HLe.out k j xk hxk hj32 _
      have HX2l : Hid (X2.length = n) := by show _ = _; rw [hX2, List.length_set, HLl.out]
      have HX2e : Hid (∀ x ∈ X2, x.length = 32) := fun x hx => by
        rw [hX2] at hx
        rcases List.mem_or_eq_of_mem_set hx with h | h
        · exact HLe.out x h
        · rw [h, List.length_set]; exact hxkl
      have HCk : Hid (diffOf (linksOf X) X2 = (k : Int)) := by
        rw [hX2]
        refine diff_set _ k hkL _ (fun h => HTB.out ?_)
        rw [hxk] at h
        injection h with h
        have h2 := (set_same xk j tb (by omega)).1
        have e : xk.getD j 0 = y := by rw [List.getD_eq_getElem?_getD, hy]; rfl
        rw [e] at h2
        exact h2 h
      have HJ := Lib.hid hj
      clear hxk hy hX2 hkL hxkl hj htz
      go_wp2_with fail
      refine wp_class_tail (C := fun u => Kept w3 u) 11 (by kernel_rfl) (by kernel_rfl) (Keep.drew (Kept.refl w3)) ?_
      simp only [List.take_succ_cons, List.take_zero, List.drop_succ_cons, List.drop_zero]
      refine q_val (.slice (some ⟨g3, 0, none⟩) n c3) (by kernel_rfl) (fun u hu => exec_move (.tmp 13) (.slice (some ⟨g3, 0, none⟩) n c3) rfl (by kernel_rfl)) ?_
      simp only [Act.put, List.setIfInBounds_toArray, List.set_cons_succ, List.set_cons_zero]
      refine q_val (.int .i64 (k : Int)) (by kernel_rfl) (fun u hu => exec_move (.tmp 14) (.int .i64 (k : Int)) rfl (by kernel_rfl)) ?_
      simp only [Act.put, List.setIfInBounds_toArray, List.set_cons_succ, List.set_cons_zero]
      refine q_val (.int .i64 at_) (by kernel_rfl) (fun u hu => exec_move (.tmp 3) (.int .i64 at_) rfl (by kernel_rfl)) ?_
      simp only [Act.put, List.setIfInBounds_toArray, List.set_cons_succ, List.set_cons_zero]
      refine q_val (.int .i64 (j : Int)) (by kernel_rfl) (fun u hu => exec_and31 (.tmp 36) _ at_ j rfl (by kernel_rfl) HJ.out) ?_
      simp only [Act.put, List.setIfInBounds_toArray, List.set_cons_succ, List.set_cons_zero]
      refine q_val (.pointer (some ⟨g3, 0 + k * 32, none⟩)) (by kernel_rfl) (fun u hu => exec_index 24 30 32 (.tmp 34) (.tmp 35) g3 0 n c3 k rfl Tryd.underlying24 sum_size (by kernel_rfl) (by kernel_rfl) (by omega)) ?_
      simp only [Act.put, List.setIfInBounds_toArray, List.set_cons_succ, List.set_cons_zero]
      refine q_val (.pointer (some ⟨g3, 0 + k * 32 + j * 1, none⟩)) (by kernel_rfl) (fun u hu => exec_elem 30 5 32 1 (.tmp 38) (.tmp 37) g3 (0 + k * 32) j rfl Tryd.underlying30 info8s (by kernel_rfl) (by kernel_rfl) (by omega)) ?_
      simp only [Act.put, List.setIfInBounds_toArray, List.set_cons_succ, List.set_cons_zero]
      refine q_val (.int .u8 (y.toNat : Int)) (by kernel_rfl) (fun u hu => exec_load8 (.tmp 39) ⟨g3, 0 + k * 32 + j * 1, none⟩ (.int .u8 (y.toNat : Int)) rfl (by kernel_rfl) (Kept.cell hu HCell.out)) ?_
      simp only [Act.put, List.setIfInBounds_toArray, List.set_cons_succ, List.set_cons_zero]
      refine q_val (.int .u8 (tb.toNat : Int)) (by kernel_rfl) (fun u hu => exec_move (.tmp 4) (.int .u8 (tb.toNat : Int)) rfl (by kernel_rfl)) ?_
      simp only [Act.put, List.setIfInBounds_toArray, List.set_cons_succ, List.set_cons_zero]
      refine q_val (.int .u8 ((y ^^^ tb).toNat : Int)) (by kernel_rfl) (fun u hu => exec_xor8 (.tmp 40) (.tmp 41) _ y tb rfl (by kernel_rfl) (by kernel_rfl)) ?_
      simp only [Act.put, List.setIfInBounds_toArray, List.set_cons_succ, List.set_cons_zero]
      refine q_val (.pointer (some ⟨g3, 0 + k * 32, none⟩)) (by kernel_rfl) (fun u hu => exec_index 24 30 32 (.tmp 34) (.tmp 35) g3 0 n c3 k rfl Tryd.underlying24 sum_size (by kernel_rfl) (by kernel_rfl) (by omega)) ?_
      simp only [Act.put, List.setIfInBounds_toArray, List.set_cons_succ, List.set_cons_zero]
      refine q_val (.pointer (some ⟨g3, 0 + k * 32 + j * 1, none⟩)) (by kernel_rfl) (fun u hu => exec_elem 30 5 32 1 (.tmp 43) (.tmp 37) g3 (0 + k * 32) j rfl Tryd.underlying30 info8s (by kernel_rfl) (by kernel_rfl) (by omega)) ?_
      simp only [Act.put, List.setIfInBounds_toArray, List.set_cons_succ, List.set_cons_zero]
      refine wpQuiet_nil ?_
      intro w4 hk4
      refine wpl_skip (o := ⟨none, _, _, _, _, _⟩) _ rfl (exec_store1 5 (.tmp 44) (.tmp 42) g3 (0 + k * 32 + j * 1) (.int .u8 ((y ^^^ tb).toNat : Int)) rfl info8s (by kernel_rfl) (by kernel_rfl) rfl rfl (fun q hq => by
        obtain rfl : q = 0 := by omega
        exact ⟨by rw [Nat.add_zero, hk4.cell HCell.out]; rfl, OwnG.frozen (HO3.out.kept hk4) _⟩)) ?_
      have O5 := (HO3.out.kept hk4).set_ (0 + k * 32 + j * 1) (.int .u8 ((y ^^^ tb).toNat : Int))
      rw [HSet.out] at O5
      have K5 : Keep (· = g3) w4 (w4.setCell ⟨g3, 0 + k * 32 + j * 1, none⟩ (.int .u8 ((y ^^^ tb).toNat : Int))) := Keep.setCell (S := (· = g3)) (Keep.refl _ w4) (p := ⟨g3, 0 + k * 32 + j * 1, none⟩) (fun _ => rfl) _
      generalize w4.setCell ⟨g3, 0 + k * 32 + j * 1, none⟩ (.int .u8 ((y ^^^ tb).toNat : Int)) = w5 at O5 K5 ⊢
      have hk25 : Kept w2 w5 := Kept.trans' (hk23.trans hk4) K5 (by omega)
      have hkw5 := hkw2.trans hk25
      have hbp5 := hbp2.kept hk25
      have hcx5 := hk25.cell hcx2
      have HBX5 := Lib.hid (HBX2.out.kept hk25)
      have HVX5 := Lib.hid (HVX.out.kept hk25)
      have HVY5 := Lib.hid (HVY.out.kept hk25)
      have HS5 := Lib.hid (sums_of_own O5 HX2e.out)
      have hka : Kept w5 (w5.alloc (.cells #[.int .u8 (tb.toNat : Int)] 5)) := Keep.alloc (Keep.refl _ w5) _
      have hcz := hka.cell hcx5
      clear O5 K5 hk4 HO3 HCell HSet hk25 HX2e
      go_wp2_with fail
      have HOne := Lib.hid (HBX5.out.kept hka)
      have hkz := hkw5.trans hka
      have hbpz := hbp5.kept hka
      have HVXz := Lib.hid (HVX5.out.kept hka)
      have HVYz := Lib.hid (HVY5.out.kept hka)
      have HSz := Lib.hid (HS5.out.kept hka)
      generalize w5.heap.size = g15 at ⊢
      generalize w5.alloc (.cells #[.int .u8 (tb.toNat : Int)] 5) = wz at HOne hkz hbpz HVXz HVYz HSz ⊢
      clear hka hkw5 hbp5 HVX5 HVY5 hcx5 hcz HBX5 HS5
      obtain ⟨LK, hLK⟩ : ∃ LK, LK = linkOf prev one := ⟨_, rfl⟩
      have HLK : Hid (∀ t, t = linkOf prev one → t = LK) := fun t h => h.trans hLK.symm
      have HLKl : Hid (LK.length = 32) := by show _ = _; rw [hLK, linkOf_length]
      obtain ⟨D, hD⟩ : ∃ D, D = clashOf X Y := ⟨_, rfl⟩
      have HD : Hid (∀ t, t = clashOf X Y → t = D) := fun t h => h.trans hD.symm
      clear hLK hD
      have q0 : Kept wz wz.drew := Keep.drew (Kept.refl wz)
      have HGz := Lib.hid (hG.kept hkz)
      generalize hv0 : wz.drew = v0 at q0
      refine wp_sched (fun u => Kept wz u) [(0, 0), (1, 0), (3, 0), (4, 0), (2, 1), (5, 1), (6, 0), (7, 0), (8, 0), (10, 0), (9, 1), (11, 1), (12, 1), (13, 0), (14, 0), (15, 0), (16, 0), (18, 0), (17, 1), (19, 0), (20, 0), (21, 0), (22, 0), (23, 0), (25, 0), (26, 0), (24, 1), (27, 1), (28, 0), (29, 0), (30, 0), (31, 1), (32, 0), (33, 0)] (by kernel_rfl) (by kernel_rfl) ((Keep.drew (Kept.refl wz) : Kept wz wz.drew)) ?_
      refine s_val (o := ⟨some 53, _, _, _, _, _⟩) (.agg (cells8 prev).toArray) rfl (by kernel_rfl) (fun u hu => exec_load_row 30 (.tmp 7) w.heap.size 32 30 5 (cells8 prev) rfl (by kernel_rfl) (hbpz.kept hu) Tryd.underlying30 hip.out) ?_
      simp only [Act.put, List.setIfInBounds_toArray, List.set_cons_succ, List.set_cons_zero]
      refine s_val (o := ⟨some 54, _, _, _, _, _⟩) (ux) rfl (by kernel_rfl) (fun u hu => exec_move (.tmp 15) (ux) rfl (by kernel_rfl)) ?_
      simp only [Act.put, List.setIfInBounds_toArray, List.set_cons_succ, List.set_cons_zero]
      refine s_val (o := ⟨some 56, _, _, _, _, _⟩) (.agg (cells8 prev).toArray) rfl (by kernel_rfl) (fun u hu => exec_load_row 30 (.tmp 7) w.heap.size 32 30 5 (cells8 prev) rfl (by kernel_rfl) (hbpz.kept hu) Tryd.underlying30 hip.out) ?_
      simp only [Act.put, List.setIfInBounds_toArray, List.set_cons_succ, List.set_cons_zero]
      refine s_val (o := ⟨some 57, _, _, _, _, _⟩) (ux) rfl (by kernel_rfl) (fun u hu => exec_move (.tmp 15) (ux) rfl (by kernel_rfl)) ?_
      simp only [Act.put, List.setIfInBounds_toArray, List.set_cons_succ, List.set_cons_zero]
      refine s_call (o := ⟨some 55, _, _, _, _, _⟩) 14 #[.agg (cells8 prev).toArray, ux] rfl (by kernel_rfl) (exec_call 14 _ [.tmp 53, .tmp 54] _ _ Tryd.func14 (by kernel_rfl) (by kernel_rfl) rfl (by kernel_rfl)) ?_
      rw [hv0]
      refine (link_any prev one (ux) v0 (HGz.out.kept q0) HPl.out (HOne.out.kept q0) (by have := HOl.out; omega)).mono ?_
      rintro e v1 ⟨rfl, p1⟩
      rw [HLK.out _ rfl]
      have q1 := q0.trans p1
      refine ⟨_, rfl, q1, ?_⟩
      simp only [Act.put, List.setIfInBounds_toArray, List.set_cons_succ, List.set_cons_zero]
      refine s_call (o := ⟨some 58, _, _, _, _, _⟩) 15 #[.agg (cells8 prev).toArray, ux] rfl (by kernel_rfl) (exec_call 15 _ [.tmp 56, .tmp 57] _ _ Tryd.func15 (by kernel_rfl) (by kernel_rfl) rfl (by kernel_rfl)) ?_
      refine (refLink_any prev one (ux) v1 HPl.out (HOne.out.kept q1) (by have := HOl.out; omega)).mono ?_
      rintro e v2 ⟨rfl, p2⟩
      rw [HLK.out _ rfl]
      have q2 := q1.trans p2
      refine ⟨_, rfl, q2, ?_⟩
      simp only [Act.put, List.setIfInBounds_toArray, List.set_cons_succ, List.set_cons_zero]
      refine s_val (o := ⟨some 59, _, _, _, _, _⟩) (.bool true) rfl (by kernel_rfl) (fun u hu => (by rw [exec_eql8 (.tmp 55) (.tmp 58) _ LK LK rfl (by kernel_rfl) (by kernel_rfl) HLKl.out HLKl.out, decide_eq_true rfl])) ?_
      simp only [Act.put, List.setIfInBounds_toArray, List.set_cons_succ, List.set_cons_zero]
      refine s_val (o := ⟨some 60, _, _, _, _, _⟩) (.bool true) rfl (by kernel_rfl) (fun u hu => exec_move (.tmp 59) (.bool true) rfl (by kernel_rfl)) ?_
      simp only [Act.put, List.setIfInBounds_toArray, List.set_cons_succ, List.set_cons_zero]
      refine s_val (o := ⟨some 61, _, _, _, _, _⟩) (.slice (some ⟨bx, ox, none⟩) n c1) rfl (by kernel_rfl) (fun u hu => exec_move (.tmp 11) (.slice (some ⟨bx, ox, none⟩) n c1) rfl (by kernel_rfl)) ?_
      simp only [Act.put, List.setIfInBounds_toArray, List.set_cons_succ, List.set_cons_zero]
      refine s_val (o := ⟨some 63, _, _, _, _, _⟩) (.slice (some ⟨bx, ox, none⟩) n c1) rfl (by kernel_rfl) (fun u hu => exec_move (.tmp 11) (.slice (some ⟨bx, ox, none⟩) n c1) rfl (by kernel_rfl)) ?_
      simp only [Act.put, List.setIfInBounds_toArray, List.set_cons_succ, List.set_cons_zero]
      refine s_call (o := ⟨some 62, _, _, _, _, _⟩) 8 #[.slice (some ⟨bx, ox, none⟩) n c1] rfl (by kernel_rfl) (exec_call 8 _ [.tmp 61] _ _ Tryd.func8 (by kernel_rfl) (by kernel_rfl) rfl (by kernel_rfl)) ?_
      refine (links_any (.slice (some ⟨bx, ox, none⟩) n c1) X v2 (HGz.out.kept q2) (HVXz.out.kept q2) (by have := hXL.out; omega) (fun x hx => by have := HXb.out x hx; omega)).mono ?_
      rintro e v3 ⟨_, rfl, g62, rfl, _, b62, p3⟩
      rw [hlX.out]
      have S62 := sums_of_blk b62 (linksOf_each X)
      have q3 := q2.trans p3
      refine ⟨_, rfl, q3, ?_⟩
      simp only [Act.put, List.setIfInBounds_toArray, List.set_cons_succ, List.set_cons_zero]
      refine s_call (o := ⟨some 64, _, _, _, _, _⟩) 12 #[.slice (some ⟨bx, ox, none⟩) n c1] rfl (by kernel_rfl) (exec_call 12 _ [.tmp 63] _ _ Tryd.func12 (by kernel_rfl) (by kernel_rfl) rfl (by kernel_rfl)) ?_
      refine (refLinks_any (.slice (some ⟨bx, ox, none⟩) n c1) X v3 (HVXz.out.kept q3) (by have := hXL.out; omega) (fun x hx => by have := HXb.out x hx; omega)).mono ?_
      rintro e v4 ⟨_, rfl, A64, c64, rfl, o64, p4⟩
      rw [hlX.out]
      have S64 := sums_of_own o64 (linksOf_each X)
      have S62b := S62.kept p4
      have q4 := q3.trans p4
      refine ⟨_, rfl, q4, ?_⟩
      simp only [Act.put, List.setIfInBounds_toArray, List.set_cons_succ, List.set_cons_zero]
      refine s_call (o := ⟨some 65, _, _, _, _, _⟩) 16 #[.slice (some ⟨g62, 0, none⟩) n n, .slice A64 n c64] rfl (by kernel_rfl) (exec_call 16 _ [.tmp 62, .tmp 64] _ _ Tryd.func16 (by kernel_rfl) (by kernel_rfl) rfl (by kernel_rfl)) ?_
      refine (sameS_any _ _ n n n c64 (linksOf X) (linksOf X) v4 S62b S64 HLl HLl (by omega) (by omega)).mono ?_
      rintro e v5 ⟨rfl, p5⟩
      rw [decide_eq_true rfl]
      have q5 := q4.trans p5
      refine ⟨_, rfl, q5, ?_⟩
      simp only [Act.put, List.setIfInBounds_toArray, List.set_cons_succ, List.set_cons_zero]
      refine s_val (o := ⟨some 66, _, _, _, _, _⟩) (.bool true) rfl (by kernel_rfl) (fun u hu => exec_pick (.tmp 60) (.tmp 65) (.const (.bool false)) (.bool true) rfl (by kernel_rfl) (by kernel_rfl)) ?_
      simp only [Act.put, List.setIfInBounds_toArray, List.set_cons_succ, List.set_cons_zero]
      refine s_val (o := ⟨some 67, _, _, _, _, _⟩) (.bool true) rfl (by kernel_rfl) (fun u hu => exec_move (.tmp 66) (.bool true) rfl (by kernel_rfl)) ?_
      simp only [Act.put, List.setIfInBounds_toArray, List.set_cons_succ, List.set_cons_zero]
      refine s_val (o := ⟨some 68, _, _, _, _, _⟩) (.slice (some ⟨bx, ox, none⟩) n c1) rfl (by kernel_rfl) (fun u hu => exec_move (.tmp 11) (.slice (some ⟨bx, ox, none⟩) n c1) rfl (by kernel_rfl)) ?_
      simp only [Act.put, List.setIfInBounds_toArray, List.set_cons_succ, List.set_cons_zero]
      refine s_val (o := ⟨some 69, _, _, _, _, _⟩) (.slice (some ⟨g3, 0, none⟩) n c3) rfl (by kernel_rfl) (fun u hu => exec_move (.tmp 13) (.slice (some ⟨g3, 0, none⟩) n c3) rfl (by kernel_rfl)) ?_
      simp only [Act.put, List.setIfInBounds_toArray, List.set_cons_succ, List.set_cons_zero]
      refine s_val (o := ⟨some 71, _, _, _, _, _⟩) (.int .i64 ((k : Int))) rfl (by kernel_rfl) (fun u hu => exec_move (.tmp 14) (.int .i64 ((k : Int))) rfl (by kernel_rfl)) ?_
      simp only [Act.put, List.setIfInBounds_toArray, List.set_cons_succ, List.set_cons_zero]
      refine s_call (o := ⟨some 70, _, _, _, _, _⟩) 10 #[.slice (some ⟨bx, ox, none⟩) n c1, .slice (some ⟨g3, 0, none⟩) n c3] rfl (by kernel_rfl) (exec_call 10 _ [.tmp 68, .tmp 69] _ _ Tryd.func10 (by kernel_rfl) (by kernel_rfl) rfl (by kernel_rfl)) ?_
      refine (check_any (.slice (some ⟨bx, ox, none⟩) n c1) X X2 (some ⟨g3, 0, none⟩) n c3 v5 (HGz.out.kept q5) (HVXz.out.kept q5) (by have := hXL.out; omega) (fun x hx => by have := HXb.out x hx; omega) (HSz.out.kept q5) HX2l (by omega)).mono ?_
      rintro e v6 ⟨rfl, p6⟩
      rw [HCk.out]
      have q6 := q5.trans p6
      refine ⟨_, rfl, q6, ?_⟩
      simp only [Act.put, List.setIfInBounds_toArray, List.set_cons_succ, List.set_cons_zero]
      refine s_val (o := ⟨some 72, _, _, _, _, _⟩) (.bool true) rfl (by kernel_rfl) (fun u hu => exec_eqi (.tmp 70) (.tmp 71) _ ((k : Int)) ((k : Int)) true rfl (by kernel_rfl) (by kernel_rfl) (by simp)) ?_
      simp only [Act.put, List.setIfInBounds_toArray, List.set_cons_succ, List.set_cons_zero]
      refine s_val (o := ⟨some 73, _, _, _, _, _⟩) (.bool true) rfl (by kernel_rfl) (fun u hu => exec_pick (.tmp 67) (.tmp 72) (.const (.bool false)) (.bool true) rfl (by kernel_rfl) (by kernel_rfl)) ?_
      simp only [Act.put, List.setIfInBounds_toArray, List.set_cons_succ, List.set_cons_zero]
      refine s_val (o := ⟨some 74, _, _, _, _, _⟩) (.bool true) rfl (by kernel_rfl) (fun u hu => exec_move (.tmp 73) (.bool true) rfl (by kernel_rfl)) ?_
      simp only [Act.put, List.setIfInBounds_toArray, List.set_cons_succ, List.set_cons_zero]
      refine s_val (o := ⟨some 75, _, _, _, _, _⟩) (.slice (some ⟨bx, ox, none⟩) n c1) rfl (by kernel_rfl) (fun u hu => exec_move (.tmp 11) (.slice (some ⟨bx, ox, none⟩) n c1) rfl (by kernel_rfl)) ?_
      simp only [Act.put, List.setIfInBounds_toArray, List.set_cons_succ, List.set_cons_zero]
      refine s_val (o := ⟨some 76, _, _, _, _, _⟩) (.slice A2 m c2) rfl (by kernel_rfl) (fun u hu => exec_move (.tmp 12) (.slice A2 m c2) rfl (by kernel_rfl)) ?_
      simp only [Act.put, List.setIfInBounds_toArray, List.set_cons_succ, List.set_cons_zero]
      refine s_val (o := ⟨some 78, _, _, _, _, _⟩) (.slice (some ⟨bx, ox, none⟩) n c1) rfl (by kernel_rfl) (fun u hu => exec_move (.tmp 11) (.slice (some ⟨bx, ox, none⟩) n c1) rfl (by kernel_rfl)) ?_
      simp only [Act.put, List.setIfInBounds_toArray, List.set_cons_succ, List.set_cons_zero]
      refine s_val (o := ⟨some 79, _, _, _, _, _⟩) (.slice A2 m c2) rfl (by kernel_rfl) (fun u hu => exec_move (.tmp 12) (.slice A2 m c2) rfl (by kernel_rfl)) ?_
      simp only [Act.put, List.setIfInBounds_toArray, List.set_cons_succ, List.set_cons_zero]
      refine s_call (o := ⟨some 77, _, _, _, _, _⟩) 9 #[.slice (some ⟨bx, ox, none⟩) n c1, .slice A2 m c2] rfl (by kernel_rfl) (exec_call 9 _ [.tmp 75, .tmp 76] _ _ Tryd.func9 (by kernel_rfl) (by kernel_rfl) rfl (by kernel_rfl)) ?_
      refine (clash_any (.slice (some ⟨bx, ox, none⟩) n c1) (.slice A2 m c2) X Y v6 (HGz.out.kept q6) (HVXz.out.kept q6) (HVYz.out.kept q6) (by have := hXL.out; omega) (by have := hYL.out; omega) (fun x hx => by have := HXb.out x hx; omega) (fun x hx => by have := HYb.out x hx; omega)).mono ?_
      rintro e v7 ⟨rfl, p7⟩
      rw [HD.out _ rfl]
      have q7 := q6.trans p7
      refine ⟨_, rfl, q7, ?_⟩
      simp only [Act.put, List.setIfInBounds_toArray, List.set_cons_succ, List.set_cons_zero]
      refine s_call (o := ⟨some 80, _, _, _, _, _⟩) 17 #[.slice (some ⟨bx, ox, none⟩) n c1, .slice A2 m c2] rfl (by kernel_rfl) (exec_call 17 _ [.tmp 78, .tmp 79] _ _ Tryd.func17 (by kernel_rfl) (by kernel_rfl) rfl (by kernel_rfl)) ?_
      refine (refClash_any (.slice (some ⟨bx, ox, none⟩) n c1) (.slice A2 m c2) X Y v7 (HVXz.out.kept q7) (HVYz.out.kept q7) (by have := hXL.out; omega) (by have := hYL.out; omega) (fun x hx => by have := HXb.out x hx; omega) (fun x hx => by have := HYb.out x hx; omega)).mono ?_
      rintro e v8 ⟨rfl, p8⟩
      rw [HD.out _ rfl]
      have q8 := q7.trans p8
      refine ⟨_, rfl, q8, ?_⟩
      simp only [Act.put, List.setIfInBounds_toArray, List.set_cons_succ, List.set_cons_zero]
      refine s_val (o := ⟨some 81, _, _, _, _, _⟩) (.bool true) rfl (by kernel_rfl) (fun u hu => exec_eqi (.tmp 77) (.tmp 80) _ D D true rfl (by kernel_rfl) (by kernel_rfl) (by simp)) ?_
      simp only [Act.put, List.setIfInBounds_toArray, List.set_cons_succ, List.set_cons_zero]
      refine s_val (o := ⟨some 82, _, _, _, _, _⟩) (.bool true) rfl (by kernel_rfl) (fun u hu => exec_pick (.tmp 74) (.tmp 81) (.const (.bool false)) (.bool true) rfl (by kernel_rfl) (by kernel_rfl)) ?_
      simp only [Act.put, List.setIfInBounds_toArray, List.set_cons_succ, List.set_cons_zero]
      refine s_val (o := ⟨some 83, _, _, _, _, _⟩) (.bool true) rfl (by kernel_rfl) (fun u hu => exec_move (.tmp 82) (.bool true) rfl (by kernel_rfl)) ?_
      simp only [Act.put, List.setIfInBounds_toArray, List.set_cons_succ, List.set_cons_zero]
      refine s_call (o := ⟨some 84, _, _, _, _, _⟩) 3 #[] rfl (by kernel_rfl) (exec_call 3 _ [] _ _ Tryd.func3 (by kernel_rfl) (by kernel_rfl) rfl (by kernel_rfl)) ?_
      refine (chainRuns_any v8 (HGz.out.kept q8)).mono ?_
      rintro e v9 ⟨rfl, p9⟩
      have q9 := q8.trans p9
      refine ⟨_, rfl, q9, ?_⟩
      simp only [Act.put, List.setIfInBounds_toArray, List.set_cons_succ, List.set_cons_zero]
      refine s_val (o := ⟨some 85, _, _, _, _, _⟩) (.bool true) rfl (by kernel_rfl) (fun u hu => exec_pick (.tmp 83) (.tmp 84) (.const (.bool false)) (.bool true) rfl (by kernel_rfl) (by kernel_rfl)) ?_
      simp only [Act.put, List.setIfInBounds_toArray, List.set_cons_succ, List.set_cons_zero]
      refine s_val (o := ⟨some 10, _, _, _, _, _⟩) (.bool true) rfl (by kernel_rfl) (fun u hu => exec_assign (.tmp 85) (.bool true) rfl (by kernel_rfl)) ?_
      simp only [Act.put, List.setIfInBounds_toArray, List.set_cons_succ, List.set_cons_zero]
      refine s_done ?_
      have hkf := hkz.trans q9
      clear q0 q1 q2 q3 q4 q5 q6 q7 q8 q9 S62 S62b S64 b62 o64
      go_wp2
      go_ret
      exact ⟨rfl, hkf⟩
  · have hn0' : n ≤ 0 := by omega
    go_wp2_with fail
    have hka : Kept w3 (w3.alloc (.cells #[.int .u8 (tb.toNat : Int)] 5)) := Keep.alloc (Keep.refl _ w3) _
    obtain ⟨one, hone⟩ : ∃ one : List UInt8, one = [tb] := ⟨_, rfl⟩
    have HOne : Hid (Bytes (w3.alloc (.cells #[.int .u8 (tb.toNat : Int)] 5)) (.slice (some ⟨w3.heap.size, 0, none⟩) 1 1) one) := by
      rw [hone]
      exact bytes_marked w3 [tb] (0, 0) 1 (by simp) (by omega)
    have HOl : Hid (one.length ≤ 40) := by rw [hone]; show 1 ≤ 40; omega
    have hkz := hkw3.trans hka
    have hbpz := hbp3.kept hka
    have HVXz := Lib.hid (HVX3.out.kept hka)
    have HVYz := Lib.hid (HVY3.out.kept hka)
    have HSz := Lib.hid (sums_of_own (HO3.out.kept hka) HLe.out)
    obtain ⟨X2, hX2⟩ : ∃ X2, X2 = linksOf X := ⟨_, rfl⟩
    rw [← hX2] at HSz
    have HX2l : Hid (X2.length = n) := by rw [hX2]; exact HLl.out
    have HCk : Hid (diffOf (linksOf X) X2 = -1) := by rw [hX2]; exact diff_self _
    generalize w3.heap.size = g15 at HOne ⊢
    generalize w3.alloc (.cells #[.int .u8 (tb.toNat : Int)] 5) = wz at HOne hkz hbpz HVXz HVYz HSz ⊢
    clear hone hX2 hka hkw3 hbp3 HVX3 HVY3 HRX3 HO3
    obtain ⟨LK, hLK⟩ : ∃ LK, LK = linkOf prev one := ⟨_, rfl⟩
    have HLK : Hid (∀ t, t = linkOf prev one → t = LK) := fun t h => h.trans hLK.symm
    have HLKl : Hid (LK.length = 32) := by show _ = _; rw [hLK, linkOf_length]
    obtain ⟨D, hD⟩ : ∃ D, D = clashOf X Y := ⟨_, rfl⟩
    have HD : Hid (∀ t, t = clashOf X Y → t = D) := fun t h => h.trans hD.symm
    clear hLK hD
    have q0 : Kept wz wz.drew := Keep.drew (Kept.refl wz)
    have HGz := Lib.hid (hG.kept hkz)
    generalize hv0 : wz.drew = v0 at q0
    refine wp_sched (fun u => Kept wz u) [(0, 0), (1, 0), (3, 0), (4, 0), (2, 1), (5, 1), (6, 0), (7, 0), (8, 0), (10, 0), (9, 1), (11, 1), (12, 1), (13, 0), (14, 0), (15, 0), (16, 0), (18, 0), (17, 1), (19, 0), (20, 0), (21, 0), (22, 0), (23, 0), (25, 0), (26, 0), (24, 1), (27, 1), (28, 0), (29, 0), (30, 0), (31, 1), (32, 0), (33, 0)] (by kernel_rfl) (by kernel_rfl) ((Keep.drew (Kept.refl wz) : Kept wz wz.drew)) ?_
    refine s_val (o := ⟨some 53, _, _, _, _, _⟩) (.agg (cells8 prev).toArray) rfl (by kernel_rfl) (fun u hu => exec_load_row 30 (.tmp 7) w.heap.size 32 30 5 (cells8 prev) rfl (by kernel_rfl) (hbpz.kept hu) Tryd.underlying30 hip.out) ?_
    simp only [Act.put, List.setIfInBounds_toArray, List.set_cons_succ, List.set_cons_zero]
    refine s_val (o := ⟨some 54, _, _, _, _, _⟩) (.slice (some ⟨g15, 0, none⟩) 1 1) rfl (by kernel_rfl) (fun u hu => exec_move (.tmp 15) (.slice (some ⟨g15, 0, none⟩) 1 1) rfl (by kernel_rfl)) ?_
    simp only [Act.put, List.setIfInBounds_toArray, List.set_cons_succ, List.set_cons_zero]
    refine s_val (o := ⟨some 56, _, _, _, _, _⟩) (.agg (cells8 prev).toArray) rfl (by kernel_rfl) (fun u hu => exec_load_row 30 (.tmp 7) w.heap.size 32 30 5 (cells8 prev) rfl (by kernel_rfl) (hbpz.kept hu) Tryd.underlying30 hip.out) ?_
    simp only [Act.put, List.setIfInBounds_toArray, List.set_cons_succ, List.set_cons_zero]
    refine s_val (o := ⟨some 57, _, _, _, _, _⟩) (.slice (some ⟨g15, 0, none⟩) 1 1) rfl (by kernel_rfl) (fun u hu => exec_move (.tmp 15) (.slice (some ⟨g15, 0, none⟩) 1 1) rfl (by kernel_rfl)) ?_
    simp only [Act.put, List.setIfInBounds_toArray, List.set_cons_succ, List.set_cons_zero]
    refine s_call (o := ⟨some 55, _, _, _, _, _⟩) 14 #[.agg (cells8 prev).toArray, .slice (some ⟨g15, 0, none⟩) 1 1] rfl (by kernel_rfl) (exec_call 14 _ [.tmp 53, .tmp 54] _ _ Tryd.func14 (by kernel_rfl) (by kernel_rfl) rfl (by kernel_rfl)) ?_
    rw [hv0]
    refine (link_any prev one (.slice (some ⟨g15, 0, none⟩) 1 1) v0 (HGz.out.kept q0) HPl.out (HOne.out.kept q0) (by have := HOl.out; omega)).mono ?_
    rintro e v1 ⟨rfl, p1⟩
    rw [HLK.out _ rfl]
    have q1 := q0.trans p1
    refine ⟨_, rfl, q1, ?_⟩
    simp only [Act.put, List.setIfInBounds_toArray, List.set_cons_succ, List.set_cons_zero]
    refine s_call (o := ⟨some 58, _, _, _, _, _⟩) 15 #[.agg (cells8 prev).toArray, .slice (some ⟨g15, 0, none⟩) 1 1] rfl (by kernel_rfl) (exec_call 15 _ [.tmp 56, .tmp 57] _ _ Tryd.func15 (by kernel_rfl) (by kernel_rfl) rfl (by kernel_rfl)) ?_
    refine (refLink_any prev one (.slice (some ⟨g15, 0, none⟩) 1 1) v1 HPl.out (HOne.out.kept q1) (by have := HOl.out; omega)).mono ?_
    rintro e v2 ⟨rfl, p2⟩
    rw [HLK.out _ rfl]
    have q2 := q1.trans p2
    refine ⟨_, rfl, q2, ?_⟩
    simp only [Act.put, List.setIfInBounds_toArray, List.set_cons_succ, List.set_cons_zero]
    refine s_val (o := ⟨some 59, _, _, _, _, _⟩) (.bool true) rfl (by kernel_rfl) (fun u hu => (by rw [exec_eql8 (.tmp 55) (.tmp 58) _ LK LK rfl (by kernel_rfl) (by kernel_rfl) HLKl.out HLKl.out, decide_eq_true rfl])) ?_
    simp only [Act.put, List.setIfInBounds_toArray, List.set_cons_succ, List.set_cons_zero]
    refine s_val (o := ⟨some 60, _, _, _, _, _⟩) (.bool true) rfl (by kernel_rfl) (fun u hu => exec_move (.tmp 59) (.bool true) rfl (by kernel_rfl)) ?_
    simp only [Act.put, List.setIfInBounds_toArray, List.set_cons_succ, List.set_cons_zero]
    refine s_val (o := ⟨some 61, _, _, _, _, _⟩) (.slice A1 n c1) rfl (by kernel_rfl) (fun u hu => exec_move (.tmp 11) (.slice A1 n c1) rfl (by kernel_rfl)) ?_
    simp only [Act.put, List.setIfInBounds_toArray, List.set_cons_succ, List.set_cons_zero]
    refine s_val (o := ⟨some 63, _, _, _, _, _⟩) (.slice A1 n c1) rfl (by kernel_rfl) (fun u hu => exec_move (.tmp 11) (.slice A1 n c1) rfl (by kernel_rfl)) ?_
    simp only [Act.put, List.setIfInBounds_toArray, List.set_cons_succ, List.set_cons_zero]
    refine s_call (o := ⟨some 62, _, _, _, _, _⟩) 8 #[.slice A1 n c1] rfl (by kernel_rfl) (exec_call 8 _ [.tmp 61] _ _ Tryd.func8 (by kernel_rfl) (by kernel_rfl) rfl (by kernel_rfl)) ?_
    refine (links_any (.slice A1 n c1) X v2 (HGz.out.kept q2) (HVXz.out.kept q2) (by have := hXL.out; omega) (fun x hx => by have := HXb.out x hx; omega)).mono ?_
    rintro e v3 ⟨_, rfl, g62, rfl, _, b62, p3⟩
    rw [hlX.out]
    have S62 := sums_of_blk b62 (linksOf_each X)
    have q3 := q2.trans p3
    refine ⟨_, rfl, q3, ?_⟩
    simp only [Act.put, List.setIfInBounds_toArray, List.set_cons_succ, List.set_cons_zero]
    refine s_call (o := ⟨some 64, _, _, _, _, _⟩) 12 #[.slice A1 n c1] rfl (by kernel_rfl) (exec_call 12 _ [.tmp 63] _ _ Tryd.func12 (by kernel_rfl) (by kernel_rfl) rfl (by kernel_rfl)) ?_
    refine (refLinks_any (.slice A1 n c1) X v3 (HVXz.out.kept q3) (by have := hXL.out; omega) (fun x hx => by have := HXb.out x hx; omega)).mono ?_
    rintro e v4 ⟨_, rfl, A64, c64, rfl, o64, p4⟩
    rw [hlX.out]
    have S64 := sums_of_own o64 (linksOf_each X)
    have S62b := S62.kept p4
    have q4 := q3.trans p4
    refine ⟨_, rfl, q4, ?_⟩
    simp only [Act.put, List.setIfInBounds_toArray, List.set_cons_succ, List.set_cons_zero]
    refine s_call (o := ⟨some 65, _, _, _, _, _⟩) 16 #[.slice (some ⟨g62, 0, none⟩) n n, .slice A64 n c64] rfl (by kernel_rfl) (exec_call 16 _ [.tmp 62, .tmp 64] _ _ Tryd.func16 (by kernel_rfl) (by kernel_rfl) rfl (by kernel_rfl)) ?_
    refine (sameS_any _ _ n n n c64 (linksOf X) (linksOf X) v4 S62b S64 HLl HLl (by omega) (by omega)).mono ?_
    rintro e v5 ⟨rfl, p5⟩
    rw [decide_eq_true rfl]
    have q5 := q4.trans p5
    refine ⟨_, rfl, q5, ?_⟩
    simp only [Act.put, List.setIfInBounds_toArray, List.set_cons_succ, List.set_cons_zero]
    refine s_val (o := ⟨some 66, _, _, _, _, _⟩) (.bool true) rfl (by kernel_rfl) (fun u hu => exec_pick (.tmp 60) (.tmp 65) (.const (.bool false)) (.bool true) rfl (by kernel_rfl) (by kernel_rfl)) ?_
    simp only [Act.put, List.setIfInBounds_toArray, List.set_cons_succ, List.set_cons_zero]
    refine s_val (o := ⟨some 67, _, _, _, _, _⟩) (.bool true) rfl (by kernel_rfl) (fun u hu => exec_move (.tmp 66) (.bool true) rfl (by kernel_rfl)) ?_
    simp only [Act.put, List.setIfInBounds_toArray, List.set_cons_succ, List.set_cons_zero]
    refine s_val (o := ⟨some 68, _, _, _, _, _⟩) (.slice A1 n c1) rfl (by kernel_rfl) (fun u hu => exec_move (.tmp 11) (.slice A1 n c1) rfl (by kernel_rfl)) ?_
    simp only [Act.put, List.setIfInBounds_toArray, List.set_cons_succ, List.set_cons_zero]
    refine s_val (o := ⟨some 69, _, _, _, _, _⟩) (.slice A3 n c3) rfl (by kernel_rfl) (fun u hu => exec_move (.tmp 13) (.slice A3 n c3) rfl (by kernel_rfl)) ?_
    simp only [Act.put, List.setIfInBounds_toArray, List.set_cons_succ, List.set_cons_zero]
    refine s_val (o := ⟨some 71, _, _, _, _, _⟩) (.int .i64 (-1)) rfl (by kernel_rfl) (fun u hu => exec_move (.tmp 14) (.int .i64 (-1)) rfl (by kernel_rfl)) ?_
    simp only [Act.put, List.setIfInBounds_toArray, List.set_cons_succ, List.set_cons_zero]
    refine s_call (o := ⟨some 70, _, _, _, _, _⟩) 10 #[.slice A1 n c1, .slice A3 n c3] rfl (by kernel_rfl) (exec_call 10 _ [.tmp 68, .tmp 69] _ _ Tryd.func10 (by kernel_rfl) (by kernel_rfl) rfl (by kernel_rfl)) ?_
    refine (check_any (.slice A1 n c1) X X2 A3 n c3 v5 (HGz.out.kept q5) (HVXz.out.kept q5) (by have := hXL.out; omega) (fun x hx => by have := HXb.out x hx; omega) (HSz.out.kept q5) HX2l (by omega)).mono ?_
    rintro e v6 ⟨rfl, p6⟩
    rw [HCk.out]
    have q6 := q5.trans p6
    refine ⟨_, rfl, q6, ?_⟩
    simp only [Act.put, List.setIfInBounds_toArray, List.set_cons_succ, List.set_cons_zero]
    refine s_val (o := ⟨some 72, _, _, _, _, _⟩) (.bool true) rfl (by kernel_rfl) (fun u hu => exec_eqi (.tmp 70) (.tmp 71) _ (-1) (-1) true rfl (by kernel_rfl) (by kernel_rfl) (by simp)) ?_
    simp only [Act.put, List.setIfInBounds_toArray, List.set_cons_succ, List.set_cons_zero]
    refine s_val (o := ⟨some 73, _, _, _, _, _⟩) (.bool true) rfl (by kernel_rfl) (fun u hu => exec_pick (.tmp 67) (.tmp 72) (.const (.bool false)) (.bool true) rfl (by kernel_rfl) (by kernel_rfl)) ?_
    simp only [Act.put, List.setIfInBounds_toArray, List.set_cons_succ, List.set_cons_zero]
    refine s_val (o := ⟨some 74, _, _, _, _, _⟩) (.bool true) rfl (by kernel_rfl) (fun u hu => exec_move (.tmp 73) (.bool true) rfl (by kernel_rfl)) ?_
    simp only [Act.put, List.setIfInBounds_toArray, List.set_cons_succ, List.set_cons_zero]
    refine s_val (o := ⟨some 75, _, _, _, _, _⟩) (.slice A1 n c1) rfl (by kernel_rfl) (fun u hu => exec_move (.tmp 11) (.slice A1 n c1) rfl (by kernel_rfl)) ?_
    simp only [Act.put, List.setIfInBounds_toArray, List.set_cons_succ, List.set_cons_zero]
    refine s_val (o := ⟨some 76, _, _, _, _, _⟩) (.slice A2 m c2) rfl (by kernel_rfl) (fun u hu => exec_move (.tmp 12) (.slice A2 m c2) rfl (by kernel_rfl)) ?_
    simp only [Act.put, List.setIfInBounds_toArray, List.set_cons_succ, List.set_cons_zero]
    refine s_val (o := ⟨some 78, _, _, _, _, _⟩) (.slice A1 n c1) rfl (by kernel_rfl) (fun u hu => exec_move (.tmp 11) (.slice A1 n c1) rfl (by kernel_rfl)) ?_
    simp only [Act.put, List.setIfInBounds_toArray, List.set_cons_succ, List.set_cons_zero]
    refine s_val (o := ⟨some 79, _, _, _, _, _⟩) (.slice A2 m c2) rfl (by kernel_rfl) (fun u hu => exec_move (.tmp 12) (.slice A2 m c2) rfl (by kernel_rfl)) ?_
    simp only [Act.put, List.setIfInBounds_toArray, List.set_cons_succ, List.set_cons_zero]
    refine s_call (o := ⟨some 77, _, _, _, _, _⟩) 9 #[.slice A1 n c1, .slice A2 m c2] rfl (by kernel_rfl) (exec_call 9 _ [.tmp 75, .tmp 76] _ _ Tryd.func9 (by kernel_rfl) (by kernel_rfl) rfl (by kernel_rfl)) ?_
    refine (clash_any (.slice A1 n c1) (.slice A2 m c2) X Y v6 (HGz.out.kept q6) (HVXz.out.kept q6) (HVYz.out.kept q6) (by have := hXL.out; omega) (by have := hYL.out; omega) (fun x hx => by have := HXb.out x hx; omega) (fun x hx => by have := HYb.out x hx; omega)).mono ?_
    rintro e v7 ⟨rfl, p7⟩
    rw [HD.out _ rfl]
    have q7 := q6.trans p7
    refine ⟨_, rfl, q7, ?_⟩
    simp only [Act.put, List.setIfInBounds_toArray, List.set_cons_succ, List.set_cons_zero]
    refine s_call (o := ⟨some 80, _, _, _, _, _⟩) 17 #[.slice A1 n c1, .slice A2 m c2] rfl (by kernel_rfl) (exec_call 17 _ [.tmp 78, .tmp 79] _ _ Tryd.func17 (by kernel_rfl) (by kernel_rfl) rfl (by kernel_rfl)) ?_
    refine (refClash_any (.slice A1 n c1) (.slice A2 m c2) X Y v7 (HVXz.out.kept q7) (HVYz.out.kept q7) (by have := hXL.out; omega) (by have := hYL.out; omega) (fun x hx => by have := HXb.out x hx; omega) (fun x hx => by have := HYb.out x hx; omega)).mono ?_
    rintro e v8 ⟨rfl, p8⟩
    rw [HD.out _ rfl]
    have q8 := q7.trans p8
    refine ⟨_, rfl, q8, ?_⟩
    simp only [Act.put, List.setIfInBounds_toArray, List.set_cons_succ, List.set_cons_zero]
    refine s_val (o := ⟨some 81, _, _, _, _, _⟩) (.bool true) rfl (by kernel_rfl) (fun u hu => exec_eqi (.tmp 77) (.tmp 80) _ D D true rfl (by kernel_rfl) (by kernel_rfl) (by simp)) ?_
    simp only [Act.put, List.setIfInBounds_toArray, List.set_cons_succ, List.set_cons_zero]
    refine s_val (o := ⟨some 82, _, _, _, _, _⟩) (.bool true) rfl (by kernel_rfl) (fun u hu => exec_pick (.tmp 74) (.tmp 81) (.const (.bool false)) (.bool true) rfl (by kernel_rfl) (by kernel_rfl)) ?_
    simp only [Act.put, List.setIfInBounds_toArray, List.set_cons_succ, List.set_cons_zero]
    refine s_val (o := ⟨some 83, _, _, _, _, _⟩) (.bool true) rfl (by kernel_rfl) (fun u hu => exec_move (.tmp 82) (.bool true) rfl (by kernel_rfl)) ?_
    simp only [Act.put, List.setIfInBounds_toArray, List.set_cons_succ, List.set_cons_zero]
    refine s_call (o := ⟨some 84, _, _, _, _, _⟩) 3 #[] rfl (by kernel_rfl) (exec_call 3 _ [] _ _ Tryd.func3 (by kernel_rfl) (by kernel_rfl) rfl (by kernel_rfl)) ?_
    refine (chainRuns_any v8 (HGz.out.kept q8)).mono ?_
    rintro e v9 ⟨rfl, p9⟩
    have q9 := q8.trans p9
    refine ⟨_, rfl, q9, ?_⟩
    simp only [Act.put, List.setIfInBounds_toArray, List.set_cons_succ, List.set_cons_zero]
    refine s_val (o := ⟨some 85, _, _, _, _, _⟩) (.bool true) rfl (by kernel_rfl) (fun u hu => exec_pick (.tmp 83) (.tmp 84) (.const (.bool false)) (.bool true) rfl (by kernel_rfl) (by kernel_rfl)) ?_
    simp only [Act.put, List.setIfInBounds_toArray, List.set_cons_succ, List.set_cons_zero]
    refine s_val (o := ⟨some 10, _, _, _, _, _⟩) (.bool true) rfl (by kernel_rfl) (fun u hu => exec_assign (.tmp 85) (.bool true) rfl (by kernel_rfl)) ?_
    simp only [Act.put, List.setIfInBounds_toArray, List.set_cons_succ, List.set_cons_zero]
    refine s_done ?_
    have hkf := hkz.trans q9
    clear q0 q1 q2 q3 q4 q5 q6 q7 q8 q9 S62 S62b S64 b62 o64
    go_wp2
    go_ret
    exact ⟨rfl, hkf⟩
end Go.Proofs.YtholpkaicmckfaaDoor
