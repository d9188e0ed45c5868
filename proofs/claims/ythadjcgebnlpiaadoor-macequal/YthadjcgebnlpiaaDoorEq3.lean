/-
  The walk of jobberlaw3.MacEqual. No condition but the tables' contents.
-/
import Derived.Test.YthadjcgebnlpiaaDoorRuns3
import Derived.Test.YthadjcgebnlpiaaDoorMacEq
import Derived.Test.YthadjcgebnlpiaaDoorWithin
import Derived.Test.YthadjcgebnlpiaaDoorClassT
namespace Go.Proofs.YthadjcgebnlpiaaDoor
open Go.RowKit
set_option linter.unusedVariables false

theorem xor_same (x t : UInt8) : x = x ^^^ t ↔ t = 0 := by
  constructor
  · intro h
    have h2 : x ^^^ x = x ^^^ (x ^^^ t) := by rw [← h]
    rw [← UInt8.xor_assoc, UInt8.xor_self, UInt8.zero_xor] at h2
    exact h2.symm
  · rintro rfl
    rw [UInt8.xor_zero]
theorem set_same (xs : List UInt8) (k : Nat) (t : UInt8) (hk : k < xs.length) : xs = xs.set k (xs.getD k 0 ^^^ t) ↔ t = 0 := by
  rw [← xor_same (xs.getD k 0) t]
  constructor
  · intro h
    have h2 := congrArg (fun l => l.getD k 0) h
    have h3 : (xs.set k (xs.getD k 0 ^^^ t)).getD k 0 = xs.getD k 0 ^^^ t := by rw [List.getD_eq_getElem?_getD, List.getElem?_set_self hk]; rfl
    exact h2.trans h3
  · intro h
    rw [← h, List.getD_eq_getElem?_getD, List.getElem?_eq_getElem hk]
    simp
theorem beq_zero (t : UInt8) : ((t.toNat : Int) == 0) = decide (t = 0) := by
  rw [Bool.eq_iff_iff, beq_iff_eq, decide_eq_true_eq]
  constructor
  · intro h
    exact UInt8.toNat.inj (by have : t.toNat = 0 := by omega
                              rw [this]; rfl)
  · rintro rfl
    rfl

set_option maxRecDepth 100000 in
set_option maxHeartbeats 1600000 in
theorem macEqual_any (xs ys : List UInt8) (at_ : Int) (tb : UInt8) (ti : Int) (w : World) (hG : Glob w) (hx : xs.length = 32) (hy : ys.length = 32) (ht : ti = (tb.toNat : Int)) :
    Calls Tryd.prog 5 #[.agg (cells8 xs).toArray, .agg (cells8 ys).toArray, .int .i64 at_, .int .u8 ti] w fun e w' => e = .returned (.bool true) ∧ Kept w w' := by
  have HX := Lib.hid hx
  have HY := Lib.hid hy
  have hix : Hid ((Tryd.prog.info? 24).map (·.size) = some (cells8 xs).length) := by show _ = _; rw [len8, hx]; exact sum_size
  have hzx : Hid (z32.length = (cells8 xs).length) := by show _ = _; rw [len8, hx]; rfl
  clear hx hy
  go_enter Tryd.func5, Tryd.ntmps5
  go_upto_region 1 with ((with_reducible show wpList _ _ _ _ _ _); (first
    | ((with_reducible refine wpl_value (o := ⟨some 4, _, _, _, _, _⟩) _ (w.alloc (.cells (cells8 xs).toArray 24)) (.pointer (some ⟨w.heap.size, 0, none⟩)) rfl ?hc ?_); (case hc => exact exec_box _ _ _ _ (.tmp 0) _ rfl rfl))
    | ((with_reducible refine wpl_value (o := ⟨some 5, _, _, _, _, _⟩) _ ((w.alloc (.cells (cells8 xs).toArray 24)).alloc (.cells (cells8 ys).toArray 24)) (.pointer (some ⟨(w.alloc (.cells (cells8 xs).toArray 24)).heap.size, 0, none⟩)) rfl ?hc2 ?_); (case hc2 => exact exec_box _ _ _ _ (.tmp 1) _ rfl rfl))))
  have hk1 : Kept w (w.alloc (.cells (cells8 xs).toArray 24)) := (Keep.refl _ w).alloc _
  have hk2 := Keep.alloc hk1 (.cells (cells8 ys).toArray 24)
  have hba := (Blk.new w 24 (cells8 xs)).alloc (.cells (cells8 ys).toArray 24)
  have hbb := Blk.new (w.alloc (.cells (cells8 xs).toArray 24)) 24 (cells8 ys)
  have hsz : (w.alloc (.cells (cells8 xs).toArray 24)).heap.size = w.heap.size + 1 := by simp
  rw [hsz] at hbb
  clear hsz hk1
  generalize (w.alloc (.cells (cells8 xs).toArray 24)).alloc (.cells (cells8 ys).toArray 24) = w2 at hk2 hba hbb ⊢
  have hlt2 := hbb.lt
  go_wp2_with ((with_reducible show wpList _ _ _ _ _ _); (first
    | ((with_reducible refine wpl_load_row (o := ⟨some 10, _, _, _, _, _⟩) _ rfl 24 (.tmp 4) rfl w.heap.size ?hx 24 (cells8 xs) 32 5 hba Tryd.underlying24 hix.out ?_); case hx => rfl)
    | ((with_reducible refine wpl_alloc (o := ⟨some 9, _, _, _, _, _⟩) _ rfl 24 rfl z32 sum_zero ?_); intro w3 hb3 hs3 hk3; clear hs3; have hba3 := hba.kept hk3; have hbb3 := hbb.kept hk3)
    | ((with_reducible refine wpl_store_row (o := ⟨none, _, _, _, _, _⟩) _ rfl 24 (.tmp 9) (.tmp 10) rfl w2.heap.size (cells8 xs) ?hp ?hv 24 z32 hb3 hix.out hzx.out (cells8_one _) ?_); (case hp => rfl); (case hv => rfl); intro w4 hb4 hk4 hs4; clear hs4; have hba4 := hba3.keep hk4 (by omega); have hbb4 := hbb3.keep hk4 (by omega); have hkw4 := Kept.trans' (Kept.trans hk2 hk3) hk4 (by have := hk2.size; omega))))
  refine (within_nat at_ 31 w4 (by omega) (by omega)).mono ?_
  rintro e w5 ⟨k, rfl, hk, rfl⟩
  have hk32 : k < 32 := by omega
  have hkx : k < xs.length := by rw [HX.out]; exact hk32
  have ck : w4.cell? ⟨w2.heap.size, k, none⟩ = some (.int .u8 ((xs.getD k 0).toNat : Int)) := by
    rw [hb4.cell, cells8, List.getElem?_map, List.getElem?_eq_getElem hkx, List.getD_eq_getElem?_getD, List.getElem?_eq_getElem hkx]
    rfl
  have fk : w4.frozen? ⟨w2.heap.size, k, none⟩ = false := hb4.frozen _
  obtain ⟨zs, hzs⟩ : ∃ zs, zs = xs.set k (xs.getD k 0 ^^^ tb) := ⟨_, rfl⟩
  have HZ : Hid (zs.length = 32) := by show _ = _; rw [hzs, List.length_set]; exact HX.out
  have E0 : Hid (decide (xs = zs) = ((tb.toNat : Int) == 0)) := by
    show _ = _
    rw [beq_zero, decide_eq_decide, hzs]
    exact set_same xs k tb hkx
  have E1 : Hid ((decide (xs = zs) == ((tb.toNat : Int) == 0)) = true) := by show _ = _; rw [E0.out]; simp
  have E2 : Hid ((decide (zs = xs) == ((tb.toNat : Int) == 0)) = true) := by
    show _ = _
    rw [← E0.out, beq_iff_eq, decide_eq_decide]
    exact eq_comm
  have BEQ : Hid ((decide (xs = ys) == decide (xs = ys)) = true) := by show _ = _; simp
  have hbz5 : Blk (w4.setCell ⟨w2.heap.size, k, none⟩ (.int .u8 (bits .xor .u8 ((xs.getD k 0).toNat : Int) (tb.toNat : Int)))) w2.heap.size 24 (cells8 zs) := by
    have h := hb4.set_ k (.int .u8 (bits .xor .u8 ((xs.getD k 0).toNat : Int) (tb.toNat : Int)))
    rw [xor8] at h ⊢
    rw [hzs, cells8, List.map_set]
    exact h
  have hba5 := hba4.far (p := ⟨w2.heap.size, k, none⟩) (by show w.heap.size ≠ w2.heap.size; omega) (.int .u8 (bits .xor .u8 ((xs.getD k 0).toNat : Int) (tb.toNat : Int)))
  have hbb5 := hbb4.far (p := ⟨w2.heap.size, k, none⟩) (by show w.heap.size + 1 ≠ w2.heap.size; omega) (.int .u8 (bits .xor .u8 ((xs.getD k 0).toNat : Int) (tb.toNat : Int)))
  have hkw5 : Kept w (w4.setCell ⟨w2.heap.size, k, none⟩ (.int .u8 (bits .xor .u8 ((xs.getD k 0).toNat : Int) (tb.toNat : Int)))) := Keep.setCell hkw4 (p := ⟨w2.heap.size, k, none⟩) (fun h => by have : w2.heap.size < w.heap.size := h; omega) _
  have hiy : Hid ((Tryd.prog.info? 24).map (·.size) = some (cells8 ys).length) := by show _ = _; rw [len8, HY.out]; exact sum_size
  have hiz : Hid ((Tryd.prog.info? 24).map (·.size) = some (cells8 zs).length) := by show _ = _; rw [len8, HZ.out]; exact sum_size
  have H5 := Lib.hid (And.intro hbz5 (And.intro hba5 (And.intro hbb5 hkw5)))
  clear hzs E0 hbz5 hba5 hbb5 hkw5 hba4 hbb4 hkw4 hb4 hk4 hb3 hk3 hba3 hbb3 hba hbb hk2 hzx
  generalize xs.getD k 0 = x at ck H5
  go_upto_region 3 with fail
  obtain ⟨hbz5, hba5, hbb5, hkw5⟩ := H5.out
  clear H5 ck fk
  generalize w4.setCell ⟨w2.heap.size, k, none⟩ (.int .u8 (bits .xor .u8 (x.toNat : Int) (tb.toNat : Int))) = w5 at hbz5 hba5 hbb5 hkw5 ⊢
  have hG5 := hG.kept hkw5
  refine wp_class_tail (C := fun u => Kept w5 u) 31 (by kernel_rfl) (by kernel_rfl) (Keep.drew (Kept.refl w5)) ?_
  simp only [List.take_succ_cons, List.take_zero, List.drop_succ_cons, List.drop_zero]
  refine q_val (.agg (cells8 xs).toArray) (by kernel_rfl) (fun u hu => exec_load_row 24 (.tmp 4) w.heap.size 32 24 5 (cells8 xs) rfl (by kernel_rfl) (hba5.kept hu) Tryd.underlying24 hix.out) ?_
  simp only [Act.put, List.setIfInBounds_toArray, List.set_cons_succ, List.set_cons_zero]
  refine q_val (.agg (cells8 ys).toArray) (by kernel_rfl) (fun u hu => exec_load_row 24 (.tmp 5) (w.heap.size + 1) 32 24 5 (cells8 ys) rfl (by kernel_rfl) (hbb5.kept hu) Tryd.underlying24 hiy.out) ?_
  simp only [Act.put, List.setIfInBounds_toArray, List.set_cons_succ, List.set_cons_zero]
  refine q_call (.bool (decide (xs = ys))) 15 #[.agg (cells8 xs).toArray, .agg (cells8 ys).toArray] (by kernel_rfl) (exec_call 15 _ [.tmp 18, .tmp 19] _ _ Tryd.func15 (by kernel_rfl) (by kernel_rfl) rfl (by kernel_rfl)) (fun u hu => (equal_any xs ys u HX.out HY.out).mono fun e w' ⟨h1, h2⟩ => ⟨by rw [h1], Kept.trans hu h2⟩) ?_
  simp only [Act.put, List.setIfInBounds_toArray, List.set_cons_succ, List.set_cons_zero]
  refine q_val (.agg (cells8 xs).toArray) (by kernel_rfl) (fun u hu => exec_load_row 24 (.tmp 4) w.heap.size 32 24 5 (cells8 xs) rfl (by kernel_rfl) (hba5.kept hu) Tryd.underlying24 hix.out) ?_
  simp only [Act.put, List.setIfInBounds_toArray, List.set_cons_succ, List.set_cons_zero]
  refine q_val (.agg (cells8 ys).toArray) (by kernel_rfl) (fun u hu => exec_load_row 24 (.tmp 5) (w.heap.size + 1) 32 24 5 (cells8 ys) rfl (by kernel_rfl) (hbb5.kept hu) Tryd.underlying24 hiy.out) ?_
  simp only [Act.put, List.setIfInBounds_toArray, List.set_cons_succ, List.set_cons_zero]
  refine q_val (.bool (decide (xs = ys))) (by kernel_rfl) (fun u hu => exec_eql8 (.tmp 21) (.tmp 22) _ xs ys rfl (by kernel_rfl) (by kernel_rfl) HX.out HY.out) ?_
  simp only [Act.put, List.setIfInBounds_toArray, List.set_cons_succ, List.set_cons_zero]
  refine q_val (.bool true) (by kernel_rfl) (fun u hu => (exec_eqlb (.tmp 20) (.tmp 23) _ (decide (xs = ys)) (decide (xs = ys)) rfl (by kernel_rfl) (by kernel_rfl)).trans (by rw [BEQ.out])) ?_
  simp only [Act.put, List.setIfInBounds_toArray, List.set_cons_succ, List.set_cons_zero]
  refine q_val (.bool true) (by kernel_rfl) (fun u hu => exec_move (.tmp 24) (.bool true) rfl (by kernel_rfl)) ?_
  simp only [Act.put, List.setIfInBounds_toArray, List.set_cons_succ, List.set_cons_zero]
  refine q_val (.agg (cells8 xs).toArray) (by kernel_rfl) (fun u hu => exec_load_row 24 (.tmp 4) w.heap.size 32 24 5 (cells8 xs) rfl (by kernel_rfl) (hba5.kept hu) Tryd.underlying24 hix.out) ?_
  simp only [Act.put, List.setIfInBounds_toArray, List.set_cons_succ, List.set_cons_zero]
  refine q_val (.agg (cells8 xs).toArray) (by kernel_rfl) (fun u hu => exec_load_row 24 (.tmp 4) w.heap.size 32 24 5 (cells8 xs) rfl (by kernel_rfl) (hba5.kept hu) Tryd.underlying24 hix.out) ?_
  simp only [Act.put, List.setIfInBounds_toArray, List.set_cons_succ, List.set_cons_zero]
  refine q_call (.bool true) 15 #[.agg (cells8 xs).toArray, .agg (cells8 xs).toArray] (by kernel_rfl) (exec_call 15 _ [.tmp 26, .tmp 27] _ _ Tryd.func15 (by kernel_rfl) (by kernel_rfl) rfl (by kernel_rfl)) (fun u hu => (equal_any xs xs u HX.out HX.out).mono fun e w' ⟨h1, h2⟩ => ⟨by rw [h1]; rw [decide_eq_true rfl], Kept.trans hu h2⟩) ?_
  simp only [Act.put, List.setIfInBounds_toArray, List.set_cons_succ, List.set_cons_zero]
  refine q_val (.bool true) (by kernel_rfl) (fun u hu => exec_pick (.tmp 25) (.tmp 28) _ (.bool true) rfl (by kernel_rfl) (by kernel_rfl)) ?_
  simp only [Act.put, List.setIfInBounds_toArray, List.set_cons_succ, List.set_cons_zero]
  refine q_val (.bool true) (by kernel_rfl) (fun u hu => exec_move (.tmp 29) (.bool true) rfl (by kernel_rfl)) ?_
  simp only [Act.put, List.setIfInBounds_toArray, List.set_cons_succ, List.set_cons_zero]
  refine q_val (.agg (cells8 xs).toArray) (by kernel_rfl) (fun u hu => exec_load_row 24 (.tmp 4) w.heap.size 32 24 5 (cells8 xs) rfl (by kernel_rfl) (hba5.kept hu) Tryd.underlying24 hix.out) ?_
  simp only [Act.put, List.setIfInBounds_toArray, List.set_cons_succ, List.set_cons_zero]
  refine q_val (.agg (cells8 zs).toArray) (by kernel_rfl) (fun u hu => exec_load_row 24 (.tmp 9) w2.heap.size 32 24 5 (cells8 zs) rfl (by kernel_rfl) (hbz5.kept hu) Tryd.underlying24 hiz.out) ?_
  simp only [Act.put, List.setIfInBounds_toArray, List.set_cons_succ, List.set_cons_zero]
  refine q_call (.bool (decide (xs = zs))) 15 #[.agg (cells8 xs).toArray, .agg (cells8 zs).toArray] (by kernel_rfl) (exec_call 15 _ [.tmp 31, .tmp 32] _ _ Tryd.func15 (by kernel_rfl) (by kernel_rfl) rfl (by kernel_rfl)) (fun u hu => (equal_any xs zs u HX.out HZ.out).mono fun e w' ⟨h1, h2⟩ => ⟨by rw [h1], Kept.trans hu h2⟩) ?_
  simp only [Act.put, List.setIfInBounds_toArray, List.set_cons_succ, List.set_cons_zero]
  refine q_val (.int .u8 (tb.toNat : Int)) (by kernel_rfl) (fun u hu => exec_move (.tmp 3) (.int .u8 (tb.toNat : Int)) rfl (by kernel_rfl)) ?_
  simp only [Act.put, List.setIfInBounds_toArray, List.set_cons_succ, List.set_cons_zero]
  refine q_val (.bool ((tb.toNat : Int) == 0)) (by kernel_rfl) (fun u hu => exec_eqlu8 (.tmp 34) (.const (.int .u8 0)) _ (tb.toNat : Int) 0 rfl (by kernel_rfl) (by kernel_rfl)) ?_
  simp only [Act.put, List.setIfInBounds_toArray, List.set_cons_succ, List.set_cons_zero]
  refine q_val (.bool true) (by kernel_rfl) (fun u hu => (exec_eqlb (.tmp 33) (.tmp 35) _ (decide (xs = zs)) ((tb.toNat : Int) == 0) rfl (by kernel_rfl) (by kernel_rfl)).trans (by rw [E1.out])) ?_
  simp only [Act.put, List.setIfInBounds_toArray, List.set_cons_succ, List.set_cons_zero]
  refine q_val (.bool true) (by kernel_rfl) (fun u hu => exec_pick (.tmp 30) (.tmp 36) _ (.bool true) rfl (by kernel_rfl) (by kernel_rfl)) ?_
  simp only [Act.put, List.setIfInBounds_toArray, List.set_cons_succ, List.set_cons_zero]
  refine q_val (.bool true) (by kernel_rfl) (fun u hu => exec_move (.tmp 37) (.bool true) rfl (by kernel_rfl)) ?_
  simp only [Act.put, List.setIfInBounds_toArray, List.set_cons_succ, List.set_cons_zero]
  refine q_val (.agg (cells8 zs).toArray) (by kernel_rfl) (fun u hu => exec_load_row 24 (.tmp 9) w2.heap.size 32 24 5 (cells8 zs) rfl (by kernel_rfl) (hbz5.kept hu) Tryd.underlying24 hiz.out) ?_
  simp only [Act.put, List.setIfInBounds_toArray, List.set_cons_succ, List.set_cons_zero]
  refine q_val (.agg (cells8 xs).toArray) (by kernel_rfl) (fun u hu => exec_load_row 24 (.tmp 4) w.heap.size 32 24 5 (cells8 xs) rfl (by kernel_rfl) (hba5.kept hu) Tryd.underlying24 hix.out) ?_
  simp only [Act.put, List.setIfInBounds_toArray, List.set_cons_succ, List.set_cons_zero]
  refine q_call (.bool (decide (zs = xs))) 15 #[.agg (cells8 zs).toArray, .agg (cells8 xs).toArray] (by kernel_rfl) (exec_call 15 _ [.tmp 39, .tmp 40] _ _ Tryd.func15 (by kernel_rfl) (by kernel_rfl) rfl (by kernel_rfl)) (fun u hu => (equal_any zs xs u HZ.out HX.out).mono fun e w' ⟨h1, h2⟩ => ⟨by rw [h1], Kept.trans hu h2⟩) ?_
  simp only [Act.put, List.setIfInBounds_toArray, List.set_cons_succ, List.set_cons_zero]
  refine q_val (.int .u8 (tb.toNat : Int)) (by kernel_rfl) (fun u hu => exec_move (.tmp 3) (.int .u8 (tb.toNat : Int)) rfl (by kernel_rfl)) ?_
  simp only [Act.put, List.setIfInBounds_toArray, List.set_cons_succ, List.set_cons_zero]
  refine q_val (.bool ((tb.toNat : Int) == 0)) (by kernel_rfl) (fun u hu => exec_eqlu8 (.tmp 42) (.const (.int .u8 0)) _ (tb.toNat : Int) 0 rfl (by kernel_rfl) (by kernel_rfl)) ?_
  simp only [Act.put, List.setIfInBounds_toArray, List.set_cons_succ, List.set_cons_zero]
  refine q_val (.bool true) (by kernel_rfl) (fun u hu => (exec_eqlb (.tmp 41) (.tmp 43) _ (decide (zs = xs)) ((tb.toNat : Int) == 0) rfl (by kernel_rfl) (by kernel_rfl)).trans (by rw [E2.out])) ?_
  simp only [Act.put, List.setIfInBounds_toArray, List.set_cons_succ, List.set_cons_zero]
  refine q_val (.bool true) (by kernel_rfl) (fun u hu => exec_pick (.tmp 38) (.tmp 44) _ (.bool true) rfl (by kernel_rfl) (by kernel_rfl)) ?_
  simp only [Act.put, List.setIfInBounds_toArray, List.set_cons_succ, List.set_cons_zero]
  refine q_val (.bool true) (by kernel_rfl) (fun u hu => exec_move (.tmp 45) (.bool true) rfl (by kernel_rfl)) ?_
  simp only [Act.put, List.setIfInBounds_toArray, List.set_cons_succ, List.set_cons_zero]
  refine q_call (.bool true) 3 #[] (by kernel_rfl) (exec_call 3 _ [] _ _ Tryd.func3 (by kernel_rfl) (by kernel_rfl) rfl (by kernel_rfl)) (fun u hu => (macRuns_any u (hG5.kept hu)).mono fun e w' ⟨h1, h2⟩ => ⟨h1, Kept.trans hu h2⟩) ?_
  simp only [Act.put, List.setIfInBounds_toArray, List.set_cons_succ, List.set_cons_zero]
  refine q_val (.bool true) (by kernel_rfl) (fun u hu => exec_pick (.tmp 46) (.tmp 47) _ (.bool true) rfl (by kernel_rfl) (by kernel_rfl)) ?_
  simp only [Act.put, List.setIfInBounds_toArray, List.set_cons_succ, List.set_cons_zero]
  refine wpQuiet_nil ?_
  intro w6 hk6
  have hkz := hkw5.trans hk6
  go_wp2
  go_ret
  exact ⟨rfl, hkz⟩
end Go.Proofs.YthadjcgebnlpiaaDoor
