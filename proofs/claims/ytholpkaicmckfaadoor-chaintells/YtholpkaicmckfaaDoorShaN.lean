/-
  Contracts of sha.tail, New. Conditions: lengths far below 2^47.
-/
import Derived.Test.YtholpkaicmckfaaDoorShaWr
namespace Go.Proofs.YtholpkaicmckfaaDoor
open Go.RowKit
set_option linter.unusedVariables false

theorem a8_size : (Tryd.prog.info? 51).map (·.size) = some 8 := by kernel_rfl

def z64b : List UInt8 := List.replicate 64 0
theorem build_hash (w : World) : (Instr.build 54 #[(0, .agg (cells32 H0.list).toArray)]).run Tryd.prog w = .ok (.agg (hcells H0 z64b 0).toArray) w := by kernel_rfl

theorem wpl_value {P : Program} {ops : Array Oper} {rest : List Oper} {o : Oper} {a : Act} {Q : Exit → Act → World → Prop} (w w' : World) (v : Value) (hg : o.guard = none) (h : (execOp a.eval o).run P w = .ok (.value v) w') (hK : wpList P ops Q rest (a.put o.dst v) w') :
    wpList P ops Q (o :: rest) a w := by
  refine wpList_plain hg fun K hK' => ?_
  unfold Oper.wp
  rw [h]
  exact hK' _ _ hK
theorem exec_build {P : Program} (a : Act) (o : Oper) (w : World) (t : TypeId) (x : Operand) (v r : Value) (hop : o.op = .build t #[(0, x)]) (hx : a.eval x = v) (h : (Instr.build t #[(0, v)]).run P w = .ok r w) : (execOp a.eval o).run P w = .ok (.value r) w := by
  unfold execOp
  simp [hop, hx, h]
theorem exec_box {P : Program} (a : Act) (o : Oper) (w : World) (t : TypeId) (x : Operand) (cs : Array Value) (hop : o.op = .box t x) (hx : a.eval x = .agg cs) : (execOp a.eval o).run P w = .ok (.value (.pointer (some ⟨w.heap.size, 0, none⟩))) (w.alloc (.cells cs t)) := by
  unfold execOp
  simp only [hop, hx]
  simp [Instr.box, newVar, Value.cells, go_sem]

set_option maxRecDepth 100000 in
theorem new_any (w : World) (hG : Glob w) :
    Calls Tryd.prog 23 #[] w fun e w' => ∃ g, e = .returned (.pointer (some ⟨g, 0, none⟩)) ∧ w.heap.size ≤ g ∧ HS w' g [] ∧ Kept w w' := by
  obtain ⟨t, fr, hg⟩ := hG.first
  have HG := Lib.hid hg
  clear hg
  go_enter Tryd.func23, Tryd.ntmps23
  go_upto_region 1 with fail
  go_wp2_with ((with_reducible show wpList _ _ _ _ _ _); (first | ((with_reducible refine wpList_load_row (o := ⟨some 1, _, _, _, _, _⟩) rfl 51 (.global 0) rfl 0 ?hx t (cells32 H0.list).toArray fr _ HG.out Tryd.underlying51 ?hd ?hi ?_); (case hx => rfl); (case hd => rfl); (case hi => exact a8_size)) | ((with_reducible refine wpl_value (o := ⟨some 2, _, _, _, _, _⟩) _ w (.agg (hcells H0 z64b 0).toArray) rfl ?hb ?_); (case hb => exact exec_build _ _ _ _ (.tmp 1) _ _ rfl rfl (build_hash _))) | ((with_reducible refine wpl_value (o := ⟨some 3, _, _, _, _, _⟩) _ (w.alloc (.cells (hcells H0 z64b 0).toArray 54)) (.pointer (some ⟨w.heap.size, 0, none⟩)) rfl ?hc ?_); (case hc => exact exec_box _ _ _ _ (.tmp 2) _ rfl rfl))))
  go_ret
  exact ⟨w.heap.size, rfl, Nat.le_refl _, ⟨H0, z64b, Fed.nil _ rfl, Blk.new w _ (hcells H0 z64b 0)⟩, (Keep.refl _ w).alloc _⟩
theorem tailOf_length (n : Nat) : (tailOf n).length = 1 + (119 - n % 64) % 64 + 8 := by
  simp [tailOf, be_length]
  omega
theorem made0 (n : Nat) (h : 0 < n) : (madeCells #[Value.int .u8 0] n)[0]? = some (.int .u8 0) := by
  have e := toList_madeCells_one (.int .u8 0) n
  rw [← Array.getElem?_toList, e, List.getElem?_replicate, if_pos h]
theorem tail_row (w : World) (z : Nat) (hz : z < 64) : Row8 (w.alloc (.cells ((madeCells #[.int .u8 0] (1 + z + 8)).setIfInBounds 0 (.int .u8 128)) 5)) w.heap.size (1 + z + 8) (128 :: List.replicate z 0) := by
  have e := toList_madeCells_one (.int .u8 0) (1 + z + 8)
  have h := Blk.new w 5 ((madeCells #[.int .u8 0] (1 + z + 8)).setIfInBounds 0 (.int .u8 128)).toList
  rw [Array.toArray_toList, Array.toList_setIfInBounds, e] at h
  refine ⟨List.replicate 8 (.int .u8 0), ?_, by simp; omega, by unfold maxLen; omega⟩
  have e2 : (List.replicate (1 + z + 8) (Value.int .u8 0)).set 0 (.int .u8 128) = cells8 (128 :: List.replicate z 0) ++ List.replicate 8 (.int .u8 0) := by
    rw [show 1 + z + 8 = (z + 8) + 1 by omega, List.replicate_succ, List.set_cons_zero, ← List.replicate_append_replicate]
    simp [cells8]
  rw [e2] at h
  exact h

set_option maxRecDepth 100000 in
set_option maxHeartbeats 400000 in
theorem tail_any (n : Nat) (w : World) (hn : n ≤ 3000000) :
    Calls Tryd.prog 32 #[.int .i64 (n : Int)] w fun e w' => ∃ g m, e = .returned (.slice (some ⟨g, 0, none⟩) m m) ∧ m = (tailOf n).length ∧ w.heap.size ≤ g ∧ Row8 w' g m (tailOf n) ∧ Kept w w' := by
  obtain ⟨r, hr⟩ : ∃ r, r = n % 64 := ⟨_, rfl⟩
  have hr1 : r < 64 := by omega
  have hri : (n : Int) % 64 = (r : Int) := by omega
  obtain ⟨z, hz⟩ : ∃ z, z = (119 - n % 64) % 64 := ⟨_, rfl⟩
  have hz1 : z < 64 := by omega
  have hzi : ((55 : Int) - (r : Int) + 64) % 64 = (z : Int) := by omega
  have hmk : ∀ u : World, (Instr.makeSlice 22 (.int .i64 (1 + (z : Int))) (.int .i64 (1 + (z : Int) + 8))).run Tryd.prog u =
      .ok (.slice (some ⟨u.heap.size, 0, none⟩) (1 + z) (1 + z + 8)) (u.alloc (.cells (madeCells #[.int .u8 0] (1 + z + 8)) 5)) := fun u => by
    have h := run_make8 (1 + z) (1 + z + 8) (by omega) (by omega) u
    have e1 : ((1 + z : Nat) : Int) = 1 + (z : Int) := by omega
    have e2 : ((1 + z + 8 : Nat) : Int) = 1 + (z : Int) + 8 := by omega
    rw [e1, e2] at h
    exact h
  have HB := Lib.hid (blk_made w 5 (.int .u8 0) (1 + z + 8))
  have hk0 : Kept w (w.alloc (.cells (madeCells #[.int .u8 0] (1 + z + 8)) 5)) := (Keep.refl _ w).alloc _
  have HR := Lib.hid hr
  have HZ := Lib.hid hz
  have HZI := Lib.hid hzi
  clear hr hz
  have hm0 : (madeCells #[Value.int .u8 0] (1 + z + 8))[0]? = some (.int .u8 0) := made0 _ (by omega)
  have hrow := tail_row w z hz1
  go_enter Tryd.func32, Tryd.ntmps32
  go_wp2_with fail
  have hk1 : Kept w (w.alloc (.cells ((madeCells #[.int .u8 0] (1 + z + 8)).setIfInBounds 0 (.int .u8 128)) 5)) := (Keep.refl _ w).alloc _
  generalize w.alloc (.cells ((madeCells #[.int .u8 0] (1 + z + 8)).setIfInBounds 0 (.int .u8 128)) 5) = w1 at hrow hk1 ⊢
  rw [HZI.out]
  clear hmk HB hk0 hm0 hri hzi
  go_loopw [4, 6] (fun out sh wr => ∃ k l : Nat, k + l ≤ 8 ∧ 8 ≤ k + l ∧ sh = .int .i64 (8 * (l : Int) - 8) ∧ out = .slice (some ⟨w.heap.size, 0, none⟩) (1 + z + k) (1 + z + 8) ∧ Kept w wr ∧ Row8 wr w.heap.size (1 + z + 8) ((128 :: List.replicate z 0) ++ (be (8 * n) 8).take k)) (fun _ sh _ => ((intOf sh) + 8).toNat)
  case atStart => exact ⟨0, 8, Nat.le_refl _, Nat.le_refl _, by simp, rfl, hk1, by simpa using hrow⟩
  case round =>
    obtain ⟨k, l, hk, hkl, rfl, rfl, hkr, hrow⟩ := hrel
    by_cases hlt : 0 < l
    · have hz0 := byte_of ((n : Int) * 8) (by omega) (7 - k)
      have e8 : ((n : Int) * 8).toNat = 8 * n := by omega
      have e9 : 8 * (7 - k) = 8 * l - 8 := by omega
      rw [e8, e9] at hz0
      have HZ0 := Lib.hid hz0
      have HT := Lib.hid (be_take_succ (8 * n) 8 k (by omega))
      have hlen : Hid (((128 :: List.replicate z 0) ++ (be (8 * n) 8).take k).length = 1 + z + k) := by
        show _ = _
        rw [List.length_append, List.length_cons, List.length_replicate, List.length_take, be_length]
        omega
      clear hz0 e8 e9
      have hkr' := hkr.alloc (.cells #[.int .u8 ((n : Int) * 8 / 2 ^ (8 * l - 8) % 256)] 5)
      have hrow' := hrow.kept ((Keep.refl _ wr).alloc (.cells #[.int .u8 ((n : Int) * 8 / 2 ^ (8 * l - 8) % 256)] 5))
      have hsz := hkr.size
      go_wp2_with (at_builtin; refine wpl_append1 _ rfl (.tmp 27) (.tmp 32) rfl w.heap.size (1 + z + 8) (1 + z + k) _ rfl hlen.out hrow' wr.heap.size _ _ rfl (by simp) HZ0.out (by omega) ?_)
      intro w2 hrow2 hk2
      have hkept2 := hkr'.trans hk2 (fun i hi h => by omega)
      clear hkr' hrow' hrow hkr hk2
      go_wp2
      exact ⟨⟨k + 1, l - 1, by omega, by omega, by go_num, rfl, hkept2, by rw [HT.out]; simpa using hrow2⟩, by simp [intOf]; omega⟩
    · obtain rfl : l = 0 := by omega
      obtain rfl : k = 8 := by omega
      go_wp2
      go_ret
      rw [List.take_of_length_le (by rw [be_length]; exact Nat.le_refl _)] at hrow
      refine ⟨w.heap.size, 1 + z + 8, rfl, ?_, Nat.le_refl _, ?_, hkr⟩
      · rw [tailOf_length, ← HZ.out]
      · unfold tailOf
        rw [← HZ.out]
        exact hrow
end Go.Proofs.YtholpkaicmckfaaDoor
