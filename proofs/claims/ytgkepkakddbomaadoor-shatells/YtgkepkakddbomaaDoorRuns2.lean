/-
  Chapter 2's runs, as a contract of jobberlaw2.ShaRuns: it answers true and turns no block. No condition but the tables' contents.
-/
import Derived.Test.YtgkepkakddbomaaDoorShaSum
import Derived.Lib.SlBytesConst
namespace Go.Proofs.YtgkepkakddbomaaDoor
open Go.RowKit
set_option linter.unusedVariables false

/-- a run of cells, as an array, behind a guard that says yes -/
theorem wpl_load_partw {ops : Array Oper} {rest : List Oper} {o : Oper} {a : Act} {Q : Exit → Act → World → Prop} (w : World) (hw : Region.wanted o (yielded ops a.tmps) = true) (ty : TypeId) (x : Operand) (hop : o.op = .load ty x)
    (g : Nat) (hx : a.eval x = .pointer (some ⟨g, 0, none⟩)) (t : TypeId) (cs : List Value) (n : Nat) (e : TypeId) (hb : Blk w g t cs) (hu : Tryd.prog.underlying ty = some (.array n e))
    (hi : (Tryd.prog.info? ty).map (·.size) = some cs.length) (h : wpList Tryd.prog ops Q rest (a.put o.dst (.agg cs.toArray)) w) : wpList Tryd.prog ops Q (o :: rest) a w :=
  wpList_wanted hw fun K hK => wp_load_row ty x hop g hx t cs.toArray (0, 0) _ hb hu rfl (by simpa using hi) (hK _ _ h)

theorem eq_nil : ∀ w : World, (Op.equalIn 10000 23 (.agg (cells8 (shaOf [])).toArray) (.agg #[.int .u8 227, .int .u8 176, .int .u8 196, .int .u8 66, .int .u8 152, .int .u8 252, .int .u8 28, .int .u8 20, .int .u8 154, .int .u8 251, .int .u8 244, .int .u8 200, .int .u8 153, .int .u8 111, .int .u8 185, .int .u8 36, .int .u8 39, .int .u8 174, .int .u8 65, .int .u8 228, .int .u8 100, .int .u8 155, .int .u8 147, .int .u8 76, .int .u8 164, .int .u8 149, .int .u8 153, .int .u8 27, .int .u8 120, .int .u8 82, .int .u8 184, .int .u8 85])).run Tryd.prog w = .ok true w := fun w => by
  have h := run_arr8 23 32 Tryd.underlying23 (shaOf []) [227, 176, 196, 66, 152, 252, 28, 20, 154, 251, 244, 200, 153, 111, 185, 36, 39, 174, 65, 228, 100, 155, 147, 76, 164, 149, 153, 27, 120, 82, 184, 85] (shaOf_length _) rfl w
  rw [decide_eq_true shaNil] at h
  exact h
theorem eq_abc : ∀ w : World, (Op.equalIn 10000 23 (.agg (cells8 (shaOf [97, 98, 99])).toArray) (.agg #[.int .u8 186, .int .u8 120, .int .u8 22, .int .u8 191, .int .u8 143, .int .u8 1, .int .u8 207, .int .u8 234, .int .u8 65, .int .u8 65, .int .u8 64, .int .u8 222, .int .u8 93, .int .u8 174, .int .u8 34, .int .u8 35, .int .u8 176, .int .u8 3, .int .u8 97, .int .u8 163, .int .u8 150, .int .u8 23, .int .u8 122, .int .u8 156, .int .u8 180, .int .u8 16, .int .u8 255, .int .u8 97, .int .u8 242, .int .u8 0, .int .u8 21, .int .u8 173])).run Tryd.prog w = .ok true w := fun w => by
  have h := run_arr8 23 32 Tryd.underlying23 (shaOf [97, 98, 99]) [186, 120, 22, 191, 143, 1, 207, 234, 65, 65, 64, 222, 93, 174, 34, 35, 176, 3, 97, 163, 150, 23, 122, 156, 180, 16, 255, 97, 242, 0, 21, 173] (shaOf_length _) rfl w
  rw [decide_eq_true shaAbc] at h
  exact h

theorem r8_marked (w : World) (xs : List UInt8) (t : TypeId) (fr : Nat × Nat) : R8 (w.alloc (.cells (cells8 xs).toArray t fr)) (some ⟨w.heap.size, 0, none⟩) xs := by
  intro k x hx
  refine ⟨_, rfl, ?_⟩
  rw [add_lit, World.cell?_alloc_mark]
  simp [cells8, hx]

set_option maxRecDepth 100000 in
set_option maxHeartbeats 800000 in
theorem shaRuns_any (w : World) (hG : Glob w) : Calls Tryd.prog 3 #[] w fun e w' => e = .returned (.bool true) ∧ Kept w w' := by
  have kc := fun (w : World) (C : Array Value) (n c : Nat) => Lib.run_convert_bytes_const (P := Tryd.prog) w 25 5 C n c Tryd.underlying25 Tryd.underlying5
  have hq1 := eq_nil
  have hq2 := eq_abc
  obtain ⟨S1, hS1⟩ : ∃ S, S = shaOf [] := ⟨_, rfl⟩
  obtain ⟨S2, hS2⟩ : ∃ S, S = shaOf [97, 98, 99] := ⟨_, rfl⟩
  have hl1 : Hid ((cells8 S1).length = 32) := by show _ = _; rw [len8, hS1, shaOf_length]
  have hl2 : Hid ((cells8 S2).length = 32) := by show _ = _; rw [len8, hS2, shaOf_length]
  have hi1 : Hid ((Tryd.prog.info? 23).map (·.size) = some (cells8 S1).length) := by show _ = _; rw [hl1.out]; exact sum_size
  have hi2 : Hid ((Tryd.prog.info? 23).map (·.size) = some (cells8 S2).length) := by show _ = _; rw [hl2.out]; exact sum_size
  have hz1 : Hid (z32.length = (cells8 S1).length) := by show _ = _; rw [hl1.out]; rfl
  have hz2 : Hid (z32.length = (cells8 S2).length) := by show _ = _; rw [hl2.out]; rfl
  rw [← hS1] at hq1
  rw [← hS2] at hq2
  have HS1 : Hid (∀ S, S = shaOf [] → S = S1) := fun S h => h.trans hS1.symm
  have HS2 : Hid (∀ S, S = shaOf [97, 98, 99] → S = S2) := fun S h => h.trans hS2.symm
  clear hS1 hS2
  go_enter Tryd.func3, Tryd.ntmps3
  go_wp2_with fail
  refine (sum_any (.slice none 0 0) [] w hG (fun g _ => ⟨none, 0, 0, rfl, rfl, R8.nil _ _, Nat.le_refl _, by unfold maxLen; omega, fun _ h => by cases h⟩) (by simp)).mono ?_
  rintro e w1 ⟨rfl, hk1⟩
  rw [HS1.out _ rfl]
  have hG1 := hG.kept hk1
  go_wp2_with fail
  have hk1' : Kept w1 (w1.alloc (.cells #[.int .u8 97, .int .u8 98, .int .u8 99] 5 (3, 4))) := (Keep.refl _ w1).alloc _
  have hr1 : R8 (w1.alloc (.cells #[.int .u8 97, .int .u8 98, .int .u8 99] 5 (3, 4))) (some ⟨w1.heap.size, 0, none⟩) [97, 98, 99] := r8_marked w1 [97, 98, 99] 5 (3, 4)
  have hsz : (w1.alloc (.cells #[.int .u8 97, .int .u8 98, .int .u8 99] 5 (3, 4))).heap.size = w1.heap.size + 1 := by simp
  have HSZ := Lib.hid hsz
  clear hsz
  refine (sum_any (.slice (some ⟨w1.heap.size, 0, none⟩) 3 3) [97, 98, 99] _ (hG1.kept hk1') (fun g hg => ⟨_, 3, 3, rfl, rfl, hr1, Nat.le_refl _, by unfold maxLen; omega, fun ad h _ => by injection h with h; subst h; show w1.heap.size ≠ g; have := HSZ.out; omega⟩) (by simp)).mono ?_
  rintro e w2 ⟨rfl, hk2⟩
  rw [HS2.out _ rfl]
  have hkw : Kept w w2 := (hk1.trans hk1').trans hk2
  clear hk1 hk1' hr1 hk2 hG1 HS1 HS2 HSZ
  go_wp2_with ((with_reducible show wpList _ _ _ _ _ _); (first
    | ((with_reducible refine wpl_alloc (o := ⟨some 1, _, _, _, _, _⟩) _ rfl 23 rfl z32 sum_zero ?_); intro w3 hb3 hs3 hk3; clear hs3)
    | ((with_reducible refine wpl_alloc (o := ⟨some 2, _, _, _, _, _⟩) _ rfl 23 rfl z32 sum_zero ?_); intro w4 hb4 hs4 hk4; clear hs4; have hb34 := hb3.kept hk4; have hlt3 := hb3.lt)
    | ((with_reducible refine wpl_store_row (o := ⟨none, _, _, _, _, _⟩) _ rfl 23 (.tmp 1) (.tmp 3) rfl w2.heap.size (cells8 S1) ?hp ?hv 23 z32 hb34 hi1.out hz1.out (cells8_one _) ?_); (case hp => rfl); (case hv => rfl); intro w5 hb5 hk5 hs5; clear hs5; have hb45 := hb4.keep hk5 (by omega))
    | ((with_reducible refine wpl_store_row (o := ⟨none, _, _, _, _, _⟩) _ rfl 23 (.tmp 2) (.tmp 6) rfl w3.heap.size (cells8 S2) ?hp2 ?hv2 23 z32 hb45 hi2.out hz2.out (cells8_one _) ?_); (case hp2 => rfl); (case hv2 => rfl); intro w6 hb6 hk6 hs6; clear hs6; have hb56 := hb5.keep hk6 (by omega); have hkw6 : Kept w w6 := Kept.trans' (Kept.trans' ((hkw.trans hk3).trans hk4) hk5 (by have := hkw.size; omega)) hk6 (by have := hkw.size; omega))
    | ((with_reducible refine wpl_load_partw (o := ⟨some 7, _, _, _, _, _⟩) _ ?hw7 23 (.tmp 1) rfl w2.heap.size ?hx7 23 (cells8 S1) 32 5 hb56 Tryd.underlying23 hi1.out ?_); (case hw7 => rfl); (case hx7 => rfl))
    | ((with_reducible refine wpl_load_partw (o := ⟨some 11, _, _, _, _, _⟩) _ ?hw11 23 (.tmp 2) rfl w3.heap.size ?hx11 23 (cells8 S2) 32 5 hb6 Tryd.underlying23 hi2.out ?_); (case hw11 => rfl); (case hx11 => rfl))))
  go_ret
  exact ⟨rfl, hkw6⟩
end Go.Proofs.YtgkepkakddbomaaDoor
