/-
  The contracts of slices.Delete as Remove calls it, and of package level's Remove. Condition: a level as it may be.
-/
import Derived.Test.YtlbkehpdohihlaaLvlP
namespace Go.Proofs.Ytlbkehpdohihlaa
open Go.RowKit
set_option linter.unusedVariables false

theorem Sl.shrink {w : World} {T : TypeId} {k n c m : Nat} {A : Option Addr} {cs : List Value} (h : Sl w T k (.slice A n c) n cs) (hm : m ≤ n) : Sl w T k (.slice A m c) m (cs.take (m * k)) := by
  obtain ⟨hl1, A', c', e', h1, h2, h3, h4⟩ := h
  injection e' with e1 e2 e3
  subst e1 e3
  have hlk : m * k ≤ n * k := Nat.mul_le_mul_right k hm
  refine ⟨by rw [List.length_take, hl1]; omega, _, c, rfl, by omega, h2, h3, fun ad had => ?_⟩
  obtain ⟨g, off, cur, rfl, hB, h5, h6⟩ := h4 ad had
  refine ⟨g, off, cur, rfl, hB, h5, ?_⟩
  rw [← h6, List.take_take, Nat.min_eq_left hlk]
section
variable {a : Act} {o : Oper} {u : World} {t T : TypeId} {k bytes : Nat}
theorem exec_slcL (ht : SlT t T k bytes) (x y : Operand) (v vr : Value) (L : Int) (hop : o.op = .slice t x (some y) none none) (hx : a.eval x = v) (hy : a.eval y = .int .i64 L) (h : (Instr.slice t v (some (.int .i64 L)) none none).run Try.prog u = .ok vr u) : (execOp a.eval o).run Try.prog u = .ok (.value vr) u :=
  exec_slcS ht x (some y) none none v vr hop hx (by simp only [Option.map_some, Option.map_none, hy]; exact h)
theorem exec_slcH (ht : SlT t T k bytes) (x y : Operand) (v vr : Value) (L : Int) (hop : o.op = .slice t x none (some y) none) (hx : a.eval x = v) (hy : a.eval y = .int .i64 L) (h : (Instr.slice t v none (some (.int .i64 L)) none).run Try.prog u = .ok vr u) : (execOp a.eval o).run Try.prog u = .ok (.value vr) u :=
  exec_slcS ht x none (some y) none v vr hop hx (by simp only [Option.map_some, Option.map_none, hy]; exact h)
theorem exec_slcLH (ht : SlT t T k bytes) (x y z : Operand) (v vr : Value) (L H : Int) (hop : o.op = .slice t x (some y) (some z) none) (hx : a.eval x = v) (hy : a.eval y = .int .i64 L) (hz : a.eval z = .int .i64 H) (h : (Instr.slice t v (some (.int .i64 L)) (some (.int .i64 H)) none).run Try.prog u = .ok vr u) : (execOp a.eval o).run Try.prog u = .ok (.value vr) u :=
  exec_slcS ht x (some y) (some z) none v vr hop hx (by simp only [Option.map_some, Option.map_none, hy, hz]; exact h)
theorem exec_slcLHM (ht : SlT t T k bytes) (x y z m : Operand) (v vr : Value) (L H M : Int) (hop : o.op = .slice t x (some y) (some z) (some m)) (hx : a.eval x = v) (hy : a.eval y = .int .i64 L) (hz : a.eval z = .int .i64 H) (hm : a.eval m = .int .i64 M) (h : (Instr.slice t v (some (.int .i64 L)) (some (.int .i64 H)) (some (.int .i64 M))).run Try.prog u = .ok vr u) : (execOp a.eval o).run Try.prog u = .ok (.value vr) u :=
  exec_slcS ht x (some y) (some z) (some m) v vr hop hx (by simp only [Option.map_some, hy, hz, hm]; exact h)
theorem run_lhm (ht : SlT t T k bytes) (A : Option Addr) (n c l h : Nat) (h1 : l ≤ h) (h2 : h ≤ n) (h3 : n ≤ c) : ∃ v, ∀ u, (Instr.slice t (.slice A n c) (some (.int .i64 (l : Int))) (some (.int .i64 (h : Int))) (some (.int .i64 (n : Int)))).run Try.prog u = .ok v u := by
  obtain ⟨z, hz, hz2, _⟩ := ht.info
  obtain ⟨i0, hi, hz0, hz1, hzb⟩ := info_parts hz
  have hr := fun u => run_slice_lhm (P := Try.prog) (w := u) t A n c (by rw [ht.elem]; exact ht.und) .i64 .i64 .i64 (l : Int) (h : Int) (n : Int) (by omega) (by omega) (by omega) (by omega)
  refine ⟨sliced A l h n k, fun u => ?_⟩
  rw [hr, ht.elem]
  simp [sizeOf, typeInfo, hi, hz1]
theorem run_lh (ht : SlT t T k bytes) (g off n c l h : Nat) (h1 : l < h) (h3 : h ≤ c) (u : World) : (Instr.slice t (.slice (some ⟨g, off, none⟩) n c) (some (.int .i64 (l : Int))) (some (.int .i64 (h : Int))) none).run Try.prog u = .ok (.slice (some ⟨g, off + l * k, none⟩) (h - l) (c - l)) u := by
  obtain ⟨z, hz, hz2, _⟩ := ht.info
  obtain ⟨i0, hi, hz0, hz1, hzb⟩ := info_parts hz
  rw [run_slice_lh (P := Try.prog) (w := u) t (some ⟨g, off, none⟩) n c (by rw [ht.elem]; exact ht.und) .i64 .i64 (l : Int) (h : Int) (by omega) (by omega) (by omega), ht.elem]
  have : ¬ c = l := by omega
  simp [sizeOf, typeInfo, hi, hz1, sliced, this, Addr.add_mid]
theorem exec_clr1 (ht : SlT t T k bytes) (z : List Value) (hz0 : ∀ w, (zeroValue T).run Try.prog w = .ok (.agg z.toArray) w) (hzl : z.length = k) (hz1 : ∀ u ∈ z, u.oneCell' = true) (x : Operand) (g off c : Nat) (hop : o.op = .call { callee := .builtin .clear, args := #[x], argTypes := #[t] }) (hx : a.eval x = .slice (some ⟨g, off, none⟩) 1 c) (hth : u.there g off k) :
    (execOp a.eval o).run Try.prog u = .ok (.value (.tuple #[])) (u.setCells g off z) := by
  have hzc : (Builtin.zeroCells z.toArray 1).toList = z := by
    have hp := ht.pos
    apply List.ext_getElem
    · simp [Builtin.zeroCells]
    · intro i h1 h2
      simp [Builtin.zeroCells] at h1 ⊢
      simp [Nat.mod_eq_of_lt h1, h1]
  have hst := run_storeCells_cells (P := Try.prog) g off z 0 u (fun j hj => by simpa using (hth j (by omega)).1) (fun j hj => by simpa using (hth j (by omega)).2) hz1
  simp only [Nat.add_zero] at hst
  have hr : (Builtin.clear_ #[t] o.type #[.slice (some ⟨g, off, none⟩) 1 c]).run Try.prog u = .ok (.tuple #[]) (u.setCells g off z) := by
    simp [Builtin.clear_, run_underlying ht.und, hz0, Value.cells, hzc, hst]
  unfold execOp
  simp only [hop, resolve, invoke, builtin, Sem.run_bind, Sem.run_pure, Result.andThen_ok, List.map_toArray, List.map_cons, List.map_nil, hx, hr]
end
theorem zeroVE (w : World) : (zeroValue 61).run Try.prog w = .ok (.agg zeroE.cells.toArray) w := by kernel_rfl

theorem append_in (g off n c k : Nat) (X : List Ent) (v2 : Value) (w : World) (hS : Sl w 61 10 (.slice (some ⟨g, off, none⟩) n c) n (ents X)) (hn : X.length = n) (hkn : k < n) (hnc : n ≤ c) (h2 : Sl w 61 10 v2 (n - (k + 1)) (ents (X.drop (k + 1)))) (ho : v2.ownBlock = some g) (ty : TypeId) :
    (Builtin.append_ #[56, 56] ty #[.slice (some ⟨g, off, none⟩) k c, v2]).run Try.prog w = .ok (.slice (some ⟨g, off, none⟩) (n - 1) c) (w.setCells g (off + k * 10) (ents (X.drop (k + 1)))) := by
  obtain ⟨z, hz, hz2, _⟩ := slE.info
  obtain ⟨i0, hi, hz0, hz1, hzb⟩ := info_parts hz
  have hl : (ents (X.drop (k + 1))).length = (n - (k + 1)) * 10 := by rw [ents_len, List.length_drop, hn]
  obtain ⟨_, _, _, ht⟩ := hS.setCells (k * 10) (ents (X.drop (k + 1))) (by rw [hl]; omega)
  obtain ⟨hl2, A, d, rfl, _, _, _, h4⟩ := h2
  cases A with
  | none => simp [Value.ownBlock] at ho
  | some ad =>
    obtain ⟨g2, off2, cur2, rfl, hB2, hle2, htk2⟩ := h4 _ rfl
    have hr := run_append_room_cells (P := Try.prog) w 56 ty 61 i0 slE.und hi g off k c ⟨g2, off2, none⟩ (n - (k + 1)) d (ents (X.drop (k + 1))) (by rw [hz1, hl]) (fun j u hu => by rw [Addr.add_mid]; exact seg_cell hB2 htk2 j u hu) (ents_one _) (by omega)
      (fun j hj => by rw [hz1]; exact (ht j hj).1) (fun j hj => by rw [hz1]; exact (ht j hj).2)
    rw [hr, hz1, show k + (n - (k + 1)) = n - 1 by omega]
set_option maxRecDepth 100000 in
set_option maxHeartbeats 1600000 in
theorem delete_any (g off n c k : Nat) (X : List Ent) (w : World) (hS : Sl w 61 10 (.slice (some ⟨g, off, none⟩) n c) n (ents X)) (hn : X.length = n) (hkn : k < n) (hlen : n ≤ 100000) :
    Calls Try.prog 35 #[.slice (some ⟨g, off, none⟩) n c, .int .i64 (k : Int), .int .i64 ((k : Int) + 1)] w fun r w' => r = .returned (.slice (some ⟨g, off, none⟩) (n - 1) c) ∧ Sl w' 61 10 (.slice (some ⟨g, off, none⟩) (n - 1) c) (n - 1) (ents (X.eraseIdx k)) ∧ Keep (· = g) w w' := by
  have hnc : n ≤ c := by obtain ⟨_, A, c', e', h1, _⟩ := hS; injection e' with _ _ e3; subst e3; exact h1
  obtain ⟨vx, hvx⟩ := run_lhm slE (some ⟨g, off, none⟩) n c k (k + 1) (by omega) (by omega) hnc
  obtain ⟨v1, hv1, ho1, hs1⟩ := slice_hS slE _ n k (by omega) _ w hS
  obtain ⟨v2, hv2, ho2, hs2⟩ := slice_lS slE _ n (k + 1) (by omega) _ w hS
  have e1 : v1 = .slice (some ⟨g, off, none⟩) k c := by
    obtain ⟨z, hz, hz2, _⟩ := slE.info
    obtain ⟨i0, hi, hz0, hz1, hzb⟩ := info_parts hz
    have := hv1 w
    rw [run_slice_h (P := Try.prog) (w := w) 56 (some ⟨g, off, none⟩) n c (by rw [slE.elem]; exact slE.und) .i64 (k : Int) (by omega) (by omega), slE.elem] at this
    simp [sizeOf, typeInfo, hi, hz1, sliced, Addr.add] at this
    exact this.symm
  subst e1
  have HX2 : Hid (∀ w, Sl w 61 10 (.slice (some ⟨g, off, none⟩) n c) n (ents X) → Sl w 61 10 v2 (n - (k + 1)) (ents (X.drop (k + 1)))) := fun w h => by
    have := hs2 w _ h
    rw [show (ents X).drop ((k + 1) * 10) = ents (X.drop (k + 1)) from flat_drop Ent.cells 10 Ent.len10 X (k + 1)] at this
    exact this
  have HVX := Lib.hid hvx
  have HV1 := Lib.hid hv1
  have HV2 := Lib.hid hv2
  have HO2 := Lib.hid ho2
  have HS := Lib.hid hS
  have HN := Lib.hid hn
  have hcast : ((k + 1 : Nat) : Int) = (k : Int) + 1 := by omega
  rw [hcast] at HVX HV2
  clear hvx hv1 hv2 ho1 ho2 hs1 hs2 hS hn
  have hne : ((k : Int) == (k : Int) + 1) = false := by simp; omega
  go_enter Try.func35, Try.ntmps35
  go_upto_region 1 with fail
  refine wp_text 6 [.eq (.slice (some ⟨g, off, none⟩) n c), .eq (.int .i64 (k : Int)), .eq (.int .i64 ((k : Int) + 1)), .eq (.slice (some ⟨g, off, none⟩) n c), .eq (.int .i64 (n : Int)), .eq (vx)] rfl (by kernel_rfl) ?_ ?_
  · refine fsteps_cons 1 rfl (fun a u hE hD hk => f_val (o := ⟨some 8, _, _, _, _, _⟩) (.slice (some ⟨g, off, none⟩) n c) rfl (wanted_none rfl _) (exec_move (.tmp 0) (.slice (some ⟨g, off, none⟩) n c) rfl (hE 0 (.slice (some ⟨g, off, none⟩) n c) (by kernel_rfl) (by kernel_rfl))) rfl) ?_
    refine fsteps_cons 2 rfl (fun a u hE hD hk => f_val (o := ⟨some 9, _, _, _, _, _⟩) (.int .i64 (k : Int)) rfl (wanted_none rfl _) (exec_move (.tmp 1) (.int .i64 (k : Int)) rfl (hE 1 (.int .i64 (k : Int)) (by kernel_rfl) (by kernel_rfl))) rfl) ?_
    refine fsteps_cons 3 rfl (fun a u hE hD hk => f_val (o := ⟨some 10, _, _, _, _, _⟩) (.int .i64 ((k : Int) + 1)) rfl (wanted_none rfl _) (exec_move (.tmp 2) (.int .i64 ((k : Int) + 1)) rfl (hE 2 (.int .i64 ((k : Int) + 1)) (by kernel_rfl) (by kernel_rfl))) rfl) ?_
    refine fsteps_cons 4 rfl (fun a u hE hD hk => f_val (o := ⟨some 11, _, _, _, _, _⟩) (.slice (some ⟨g, off, none⟩) n c) rfl (wanted_none rfl _) (exec_move (.tmp 0) (.slice (some ⟨g, off, none⟩) n c) rfl (hE 0 (.slice (some ⟨g, off, none⟩) n c) (by kernel_rfl) (by kernel_rfl))) rfl) ?_
    refine fsteps_cons 5 rfl (fun a u hE hD hk => f_val (o := ⟨some 12, _, _, _, _, _⟩) (.int .i64 (n : Int)) rfl (wanted_none rfl _) (exec_len (.tmp 11) _ _ slE.und (some ⟨g, off, none⟩) n c rfl (hD 3 11 (by kernel_rfl))) rfl) ?_
    refine fsteps_cons 6 rfl (fun a u hE hD hk => f_val (o := ⟨some 13, _, _, _, _, _⟩) (vx) rfl (wanted_none rfl _) (exec_slcLHM slE (.tmp 8) (.tmp 9) (.tmp 10) (.tmp 12) _ vx _ _ _ rfl (hD 0 8 (by kernel_rfl)) (hD 1 9 (by kernel_rfl)) (hD 2 10 (by kernel_rfl)) (hD 4 12 (by kernel_rfl)) (HVX.out u)) rfl) ?_
    exact fsteps_nil
  intro gv w1 hV k1
  rw [show dstsOf _ 6 = [8, 9, 10, 11, 12, 13] by kernel_rfl]
  simp only [List.foldl_cons, List.foldl_nil, List.setIfInBounds_toArray, List.set_cons_succ, List.set_cons_zero, List.drop_succ_cons, List.drop_zero]
  clear hV
  refine wpList_nil ?_
  go_upto_region 2 with fail
  refine wp_text 3 [.eq (.int .i64 (k : Int)), .eq (.int .i64 ((k : Int) + 1)), .eq (.bool false)] rfl (by kernel_rfl) ?_ ?_
  · refine fsteps_cons 1 rfl (fun a u hE hD hk => f_val (o := ⟨some 14, _, _, _, _, _⟩) (.int .i64 (k : Int)) rfl (wanted_none rfl _) (exec_move (.tmp 1) (.int .i64 (k : Int)) rfl (hE 1 (.int .i64 (k : Int)) (by kernel_rfl) (by kernel_rfl))) rfl) ?_
    refine fsteps_cons 2 rfl (fun a u hE hD hk => f_val (o := ⟨some 15, _, _, _, _, _⟩) (.int .i64 ((k : Int) + 1)) rfl (wanted_none rfl _) (exec_move (.tmp 2) (.int .i64 ((k : Int) + 1)) rfl (hE 2 (.int .i64 ((k : Int) + 1)) (by kernel_rfl) (by kernel_rfl))) rfl) ?_
    refine fsteps_cons 3 rfl (fun a u hE hD hk => f_as (show ((decide (((k : Int) : Int) = (((k : Int) + 1) : Int))) : Bool) = false from decide_eq_false (by omega)) (f_val (o := ⟨some 16, _, _, _, _, _⟩) (.bool (decide (((k : Int) : Int) = (((k : Int) + 1) : Int)))) rfl (wanted_none rfl _) (exec_eqn (p := (k : Int)) (q := ((k : Int) + 1)) rfl (hD 0 14 (by kernel_rfl)) (hD 1 15 (by kernel_rfl))) rfl)) ?_
    exact fsteps_nil
  intro gv w2 hV k2
  rw [show dstsOf _ 3 = [14, 15, 16] by kernel_rfl]
  simp only [List.foldl_cons, List.foldl_nil, List.setIfInBounds_toArray, List.set_cons_succ, List.set_cons_zero, List.drop_succ_cons, List.drop_zero]
  rw [show gv 16 = .bool false from hV 2 16 (by kernel_rfl)]
  clear hV
  refine wpList_nil ?_
  clear hne
  go_upto_region 4 with fail
  refine wp_text 3 [.eq (.slice (some ⟨g, off, none⟩) n c), .eq (.int .i64 (n : Int)), .eq (.int .i64 (n : Int))] rfl (by kernel_rfl) ?_ ?_
  · refine fsteps_cons 1 rfl (fun a u hE hD hk => f_val (o := ⟨some 18, _, _, _, _, _⟩) (.slice (some ⟨g, off, none⟩) n c) rfl (wanted_none rfl _) (exec_move (.tmp 0) (.slice (some ⟨g, off, none⟩) n c) rfl (hE 0 (.slice (some ⟨g, off, none⟩) n c) (by kernel_rfl) (by kernel_rfl))) rfl) ?_
    refine fsteps_cons 2 rfl (fun a u hE hD hk => f_val (o := ⟨some 19, _, _, _, _, _⟩) (.int .i64 (n : Int)) rfl (wanted_none rfl _) (exec_len (.tmp 18) _ _ slE.und (some ⟨g, off, none⟩) n c rfl (hD 0 18 (by kernel_rfl))) rfl) ?_
    refine fsteps_cons 3 rfl (fun a u hE hD hk => f_val (o := ⟨some 7, _, _, _, _, _⟩) (.int .i64 (n : Int)) rfl (wanted_none rfl _) (exec_assign (.tmp 19) (.int .i64 (n : Int)) rfl (hD 1 19 (by kernel_rfl))) rfl) ?_
    exact fsteps_nil
  intro gv w3 hV k3
  rw [show dstsOf _ 3 = [18, 19, 7] by kernel_rfl]
  simp only [List.foldl_cons, List.foldl_nil, List.setIfInBounds_toArray, List.set_cons_succ, List.set_cons_zero, List.drop_succ_cons, List.drop_zero]
  rw [show gv 7 = .int .i64 (n : Int) from hV 2 7 (by kernel_rfl)]
  clear hV
  refine wpList_nil ?_
  have kw3 := (k1.trans k2).trans k3
  clear k1 k2 k3
  go_upto_region 5 with fail
  refine wp_free 6 [.eq (.slice (some ⟨g, off, none⟩) n c), .eq (.int .i64 (k : Int)), .eq (.slice (some ⟨g, off, none⟩) k c), .eq (.slice (some ⟨g, off, none⟩) n c), .eq (.int .i64 ((k : Int) + 1)), .eq (v2)] (by kernel_rfl) rfl (by kernel_rfl) ?_ ?_
  · refine fsteps_cons 1 rfl (fun a u hE hD hk => f_val (o := ⟨some 20, _, _, _, _, _⟩) (.slice (some ⟨g, off, none⟩) n c) rfl (wanted_none rfl _) (exec_move (.tmp 0) (.slice (some ⟨g, off, none⟩) n c) rfl (hE 0 (.slice (some ⟨g, off, none⟩) n c) (by kernel_rfl) (by kernel_rfl))) rfl) ?_
    refine fsteps_cons 2 rfl (fun a u hE hD hk => f_val (o := ⟨some 21, _, _, _, _, _⟩) (.int .i64 (k : Int)) rfl (wanted_none rfl _) (exec_move (.tmp 1) (.int .i64 (k : Int)) rfl (hE 1 (.int .i64 (k : Int)) (by kernel_rfl) (by kernel_rfl))) rfl) ?_
    refine fsteps_cons 3 rfl (fun a u hE hD hk => f_val (o := ⟨some 22, _, _, _, _, _⟩) (.slice (some ⟨g, off, none⟩) k c) rfl (wanted_none rfl _) (exec_slcH slE (.tmp 20) (.tmp 21) _ _ _ rfl (hD 0 20 (by kernel_rfl)) (hD 1 21 (by kernel_rfl)) (HV1.out u)) rfl) ?_
    refine fsteps_cons 4 rfl (fun a u hE hD hk => f_val (o := ⟨some 23, _, _, _, _, _⟩) (.slice (some ⟨g, off, none⟩) n c) rfl (wanted_none rfl _) (exec_move (.tmp 0) (.slice (some ⟨g, off, none⟩) n c) rfl (hE 0 (.slice (some ⟨g, off, none⟩) n c) (by kernel_rfl) (by kernel_rfl))) rfl) ?_
    refine fsteps_cons 5 rfl (fun a u hE hD hk => f_val (o := ⟨some 24, _, _, _, _, _⟩) (.int .i64 ((k : Int) + 1)) rfl (wanted_none rfl _) (exec_move (.tmp 2) (.int .i64 ((k : Int) + 1)) rfl (hE 2 (.int .i64 ((k : Int) + 1)) (by kernel_rfl) (by kernel_rfl))) rfl) ?_
    refine fsteps_cons 6 rfl (fun a u hE hD hk => f_val (o := ⟨some 25, _, _, _, _, _⟩) (v2) rfl (wanted_none rfl _) (exec_slcL slE (.tmp 23) (.tmp 24) _ v2 _ rfl (hD 3 23 (by kernel_rfl)) (hD 4 24 (by kernel_rfl)) (HV2.out u)) rfl) ?_
    exact fsteps_nil
  intro gv w4 hV k4
  rw [show dstsOf _ 6 = [20, 21, 22, 23, 24, 25] by kernel_rfl]
  simp only [List.foldl_cons, List.foldl_nil, List.setIfInBounds_toArray, List.set_cons_succ, List.set_cons_zero, List.drop_succ_cons, List.drop_zero]
  rw [show gv 22 = .slice (some ⟨g, off, none⟩) k c from hV 2 22 (by kernel_rfl)]
  rw [show gv 25 = v2 from hV 5 25 (by kernel_rfl)]
  clear hV
  have kw4 := kw3.trans k4
  have hS4 := HS.out.kept kw4
  have hX4 := HX2.out w4 hS4
  have hr4 : ∀ ty, (Builtin.append_ #[56, 56] ty #[.slice (some ⟨g, off, none⟩) k c, v2]).run Try.prog w4 = .ok (.slice (some ⟨g, off, none⟩) (n - 1) c) (w4.setCells g (off + k * 10) (ents (X.drop (k + 1)))) := fun ty => append_in g off n c k X v2 w4 hS4 HN.out hkn hnc hX4 (by rw [HO2.out]; rfl) ty
  refine l_new (o := ⟨some 26, _, _, _, _, _⟩) (.slice (some ⟨g, off, none⟩) (n - 1) c) (w4.setCells g (off + k * 10) (ents (X.drop (k + 1)))) rfl (exec_appS slE (.tmp 22) (.tmp 25) (.slice (some ⟨g, off, none⟩) k c) v2 rfl (by kernel_rfl) (by kernel_rfl) _ _ (hr4 _)) ?_
  simp only [Act.put, List.setIfInBounds_toArray, List.set_cons_succ, List.set_cons_zero]
  refine l_val (o := ⟨some 0, _, _, _, _, _⟩) (.slice (some ⟨g, off, none⟩) (n - 1) c) rfl (exec_assign (.tmp 26) (.slice (some ⟨g, off, none⟩) (n - 1) c) rfl (by kernel_rfl)) ?_
  simp only [Act.put, List.setIfInBounds_toArray, List.set_cons_zero]
  refine wpList_nil ?_
  have hlenE : (ents (X.drop (k + 1))).length = (n - (k + 1)) * 10 := by rw [ents_len, List.length_drop, HN.out]
  obtain ⟨hS5, hk5, hz5, _⟩ := hS4.setCells (k * 10) (ents (X.drop (k + 1))) (by rw [hlenE]; omega)
  have HS5 : Hid (Sl (w4.setCells g (off + k * 10) (ents (X.drop (k + 1)))) 61 10 (.slice (some ⟨g, off, none⟩) n c) n (ents (X.eraseIdx k ++ X.drop (n - 1)))) := by
    rw [show (ents X).take (k * 10) = ents (X.take k) from flat_take Ent.cells 10 Ent.len10 X k, hlenE, show k * 10 + (n - (k + 1)) * 10 = (n - 1) * 10 by omega, show (ents X).drop ((n - 1) * 10) = ents (X.drop (n - 1)) from flat_drop Ent.cells 10 Ent.len10 X (n - 1)] at hS5
    show Sl _ _ _ _ _ _
    rw [List.eraseIdx_eq_take_drop_succ]
    unfold ents at hS5 ⊢
    rw [List.flatMap_append, List.flatMap_append]
    exact hS5
  have K5 : Keep (· = g) w (w4.setCells g (off + k * 10) (ents (X.drop (k + 1)))) := (Keep.mono (T := (· = g)) kw4 (fun _ _ h => h.elim)).trans hk5 (fun _ _ h => h)
  generalize w4.setCells g (off + k * 10) (ents (X.drop (k + 1))) = w5 at HS5 K5 ⊢
  clear hr4 hX4 hS4 hS5 hk5 hz5 kw4 kw3 k4 HX2 HV1 HV2 HVX HO2 HS hlenE
  obtain ⟨m, hm⟩ : ∃ m, n - 1 = m := ⟨_, rfl⟩
  have hmn : n = m + 1 := by omega
  rw [hm] at HS5 ⊢
  go_upto_region 6 with fail
  refine wp_text 5 [.eq (.slice (some ⟨g, off, none⟩) m c), .eq (.slice (some ⟨g, off, none⟩) m c), .eq (.int .i64 (m : Int)), .eq (.int .i64 (n : Int)), .eq (.slice (some ⟨g, off + m * 10, none⟩) (n - m) (c - m))] rfl (by kernel_rfl) ?_ ?_
  · refine fsteps_cons 1 rfl (fun a u hE hD hk => f_val (o := ⟨some 27, _, _, _, _, _⟩) (.slice (some ⟨g, off, none⟩) m c) rfl (wanted_none rfl _) (exec_move (.tmp 0) (.slice (some ⟨g, off, none⟩) m c) rfl (hE 0 (.slice (some ⟨g, off, none⟩) m c) (by kernel_rfl) (by kernel_rfl))) rfl) ?_
    refine fsteps_cons 2 rfl (fun a u hE hD hk => f_val (o := ⟨some 28, _, _, _, _, _⟩) (.slice (some ⟨g, off, none⟩) m c) rfl (wanted_none rfl _) (exec_move (.tmp 0) (.slice (some ⟨g, off, none⟩) m c) rfl (hE 0 (.slice (some ⟨g, off, none⟩) m c) (by kernel_rfl) (by kernel_rfl))) rfl) ?_
    refine fsteps_cons 3 rfl (fun a u hE hD hk => f_val (o := ⟨some 29, _, _, _, _, _⟩) (.int .i64 (m : Int)) rfl (wanted_none rfl _) (exec_len (.tmp 28) _ _ slE.und (some ⟨g, off, none⟩) m c rfl (hD 1 28 (by kernel_rfl))) rfl) ?_
    refine fsteps_cons 4 rfl (fun a u hE hD hk => f_val (o := ⟨some 30, _, _, _, _, _⟩) (.int .i64 (n : Int)) rfl (wanted_none rfl _) (exec_move (.tmp 7) (.int .i64 (n : Int)) rfl (hE 7 (.int .i64 (n : Int)) (by kernel_rfl) (by kernel_rfl))) rfl) ?_
    refine fsteps_cons 5 rfl (fun a u hE hD hk => f_val (o := ⟨some 31, _, _, _, _, _⟩) (.slice (some ⟨g, off + m * 10, none⟩) (n - m) (c - m)) rfl (wanted_none rfl _) (exec_slcLH slE (.tmp 27) (.tmp 29) (.tmp 30) _ _ _ _ rfl (hD 0 27 (by kernel_rfl)) (hD 2 29 (by kernel_rfl)) (hD 3 30 (by kernel_rfl)) (run_lh slE g off m c m n (by omega) (by omega) u)) rfl) ?_
    exact fsteps_nil
  intro gv w6 hV k6
  rw [show dstsOf _ 5 = [27, 28, 29, 30, 31] by kernel_rfl]
  simp only [List.foldl_cons, List.foldl_nil, List.setIfInBounds_toArray, List.set_cons_succ, List.set_cons_zero, List.drop_succ_cons, List.drop_zero]
  rw [show gv 31 = .slice (some ⟨g, off + m * 10, none⟩) (n - m) (c - m) from hV 4 31 (by kernel_rfl)]
  clear hV
  obtain ⟨hS6, hk6, hz6, ht6⟩ := (HS5.out.kept k6).setCells (m * 10) zeroE.cells (by rw [Ent.len10]; omega)
  rw [Ent.len10] at ht6
  have h1 : n - m = 1 := by omega
  refine l_new (o := ⟨none, _, _, _, _, _⟩) (.tuple #[]) (w6.setCells g (off + m * 10) zeroE.cells) rfl (exec_clr1 slE zeroE.cells zeroVE zeroE.len10 zeroE.one (.tmp 31) g (off + m * 10) (c - m) rfl (by rw [← h1]; kernel_rfl) ht6) ?_
  simp only [Act.put]
  refine wpList_nil ?_
  have hS7 : Sl (w6.setCells g (off + m * 10) zeroE.cells) 61 10 (.slice (some ⟨g, off, none⟩) m c) m (ents (X.eraseIdx k)) := by
    have h2 := hS6.shrink (m := m) (by omega)
    have h3 : (X.eraseIdx k).length = m := by rw [List.length_eraseIdx, if_pos (by rw [HN.out]; exact hkn), HN.out]; omega
    rw [List.append_assoc, List.take_append_of_le_length (by rw [List.length_take, ents_len, List.length_append, h3]; omega), List.take_take, Nat.min_self] at h2
    have h4 : (ents (X.eraseIdx k ++ X.drop m)).take (m * 10) = ents (X.eraseIdx k) := by
      rw [show (ents (X.eraseIdx k ++ X.drop m)).take (m * 10) = ents ((X.eraseIdx k ++ X.drop m).take m) from flat_take Ent.cells 10 Ent.len10 _ m, List.take_append_of_le_length (by omega), List.take_of_length_le (by omega)]
    rw [h4] at h2
    exact h2
  have HS7 := Lib.hid hS7
  have K7 : Keep (· = g) w (w6.setCells g (off + m * 10) zeroE.cells) := (K5.kept k6).trans hk6 (fun _ _ h => h)
  generalize w6.setCells g (off + m * 10) zeroE.cells = w7 at HS7 K7 ⊢
  clear hS6 hS7 hk6 hz6 ht6 K5 HS5 k6
  go_wp2
  go_ret
  rw [hm]
  exact ⟨rfl, HS7.out, K7⟩

set_option maxRecDepth 100000 in
set_option maxHeartbeats 800000 in
theorem remove_none (w : World) (F : Nat → Prop) (p : Nat) (X : List Ent) (t i : Int) (h : Lvl 58 61 w F p X) (hlen : X.length ≤ 100000) (hc : ¬ idxM t i X < X.length) : Calls Try.prog 19 #[.pointer (some ⟨p, 0, none⟩), .int .i64 t, .int .i64 i] w fun r w' => r = .returned (.tuple #[(removeM t i X).1.v, .bool (removeM t i X).2.1]) ∧ Lvl 58 61 w' F p (removeM t i X).2.2 ∧ Keep F w w' ∧ ((removeM t i X).2.1 = false → Kept w w') := by
  have HR : Hid (removeM t i X = (zeroO, false, X)) := by
    show _ = _
    unfold removeM
    rw [List.getElem?_eq_none (by omega)]
  have HPL : Hid (placeM t i X = -1) := by show _ = _; unfold placeM; rw [if_neg hc]
  have HL := Lib.hid h
  clear h hc
  go_enter Try.func19, Try.ntmps19
  go_upto_region 0 with fail
  refine wp_text 2 [.fresh w.heap.size 25 zeroO.cells, .eq (.bool false)] rfl (by kernel_rfl) ?_ ?_
  · refine fsteps_cons 1 rfl (fun a u hE hD hk => f_new (o := ⟨some 6, _, _, _, _, _⟩) (.pointer (some ⟨u.heap.size, 0, none⟩)) _ rfl (wanted_none rfl _) (exec_alc 25 zeroO.cells rfl zO) ⟨_, rfl, hk.size, Blk.new u _ _⟩ ((Keep.refl _ u).alloc _)) ?_
    refine fsteps_cons 2 rfl (fun a u hE hD hk => f_val (o := ⟨some 7, _, _, _, _, _⟩) (.bool false) rfl (wanted_none rfl _) (exec_assign (.const (.bool false)) (.bool false) rfl rfl) rfl) ?_
    exact fsteps_nil
  intro gv w0 hV k0
  rw [show dstsOf _ 2 = [6, 7] by kernel_rfl]
  simp only [List.foldl_cons, List.foldl_nil, List.setIfInBounds_toArray, List.set_cons_succ, List.set_cons_zero, List.drop_succ_cons, List.drop_zero]
  have hv6 : (.fresh w.heap.size 25 zeroO.cells : Kn).p (gv 6) w0 := hV 0 6 (by kernel_rfl)
  generalize gv 6 = v6 at hv6 ⊢
  rw [show gv 7 = .bool false from hV 1 7 (by kernel_rfl)]
  clear hV
  obtain ⟨b6, rfl, hb6, hB6⟩ := hv6
  refine wpList_nil ?_
  have HL0 := Lib.hid (HL.out.kept k0)
  have HB6 := Lib.hid hB6
  have l6 := hB6.lt
  clear hB6
  go_upto_region 1 with fail
  refine wp_text 4 [.eq (.pointer (some ⟨p, 0, none⟩)), .eq (.int .i64 t), .eq (.int .i64 i), .eq (.int .i64 (-1))] rfl (by kernel_rfl) ?_ ?_
  · refine fsteps_cons 1 rfl (fun a u hE hD hk => f_val (o := ⟨some 10, _, _, _, _, _⟩) (.pointer (some ⟨p, 0, none⟩)) rfl (wanted_none rfl _) (exec_move (.tmp 0) (.pointer (some ⟨p, 0, none⟩)) rfl (hE 0 (.pointer (some ⟨p, 0, none⟩)) (by kernel_rfl) (by kernel_rfl))) rfl) ?_
    refine fsteps_cons 2 rfl (fun a u hE hD hk => f_val (o := ⟨some 11, _, _, _, _, _⟩) (.int .i64 t) rfl (wanted_none rfl _) (exec_move (.tmp 1) (.int .i64 t) rfl (hE 1 (.int .i64 t) (by kernel_rfl) (by kernel_rfl))) rfl) ?_
    refine fsteps_cons 3 rfl (fun a u hE hD hk => f_val (o := ⟨some 12, _, _, _, _, _⟩) (.int .i64 i) rfl (wanted_none rfl _) (exec_move (.tmp 2) (.int .i64 i) rfl (hE 2 (.int .i64 i) (by kernel_rfl) (by kernel_rfl))) rfl) ?_
    refine fsteps_cons 4 rfl (fun a u hE hD hk => f_call (o := ⟨some 13, _, _, _, _, _⟩) 34 #[.pointer (some ⟨p, 0, none⟩), .int .i64 t, .int .i64 i] rfl (wanted_none rfl _) (exec_call 34 _ [.tmp 10, .tmp 11, .tmp 12] _ [.pointer (some ⟨p, 0, none⟩), .int .i64 t, .int .i64 i] Try.func34 (by kernel_rfl) (by kernel_rfl) rfl (show [a.eval (.tmp 10), a.eval (.tmp 11), a.eval (.tmp 12)] = [.pointer (some ⟨p, 0, none⟩), .int .i64 t, .int .i64 i] from (by rw [show a.eval (.tmp 10) = .pointer (some ⟨p, 0, none⟩) from (hD 0 10 (by kernel_rfl)), show a.eval (.tmp 11) = .int .i64 t from (hD 1 11 (by kernel_rfl)), show a.eval (.tmp 12) = .int .i64 i from (hD 2 12 (by kernel_rfl))] <;> rfl)) u) ((by rw [← HPL.out]; exact place_any u F p X t i (HL0.out.kept hk) hlen))) ?_
    exact fsteps_nil
  intro gv w1 hV k1
  rw [show dstsOf _ 4 = [10, 11, 12, 13] by kernel_rfl]
  simp only [List.foldl_cons, List.foldl_nil, List.setIfInBounds_toArray, List.set_cons_succ, List.set_cons_zero, List.drop_succ_cons, List.drop_zero]
  rw [show gv 13 = .int .i64 (-1) from hV 3 13 (by kernel_rfl)]
  clear hV
  refine l_val (o := ⟨some 8, _, _, _, _, _⟩) (.int .i64 (-1)) rfl (exec_assign (.tmp 13) (.int .i64 (-1)) rfl (by kernel_rfl)) ?_
  simp only [Act.put, List.setIfInBounds_toArray, List.set_cons_succ, List.set_cons_zero]
  refine wpList_nil ?_
  have HB61 := Lib.hid (HB6.out.kept k1)
  have kw1 := k0.trans k1
  have z1 := k1.size
  clear HB6 HL0
  go_upto_region 3 with fail
  refine wp_text 1 [.eq (zeroO.v)] rfl (by kernel_rfl) ?_ ?_
  · refine fsteps_cons 1 rfl (fun a u hE hD hk => f_val (o := ⟨some 16, _, _, _, _, _⟩) (zeroO.v) rfl (wanted_none rfl _) (exec_build 25 [] zeroO.cells rfl (by kernel_rfl)) rfl) ?_
    exact fsteps_nil
  intro gv w2 hV k2
  rw [show dstsOf _ 1 = [16] by kernel_rfl]
  simp only [List.foldl_cons, List.foldl_nil, List.setIfInBounds_toArray, List.set_cons_succ, List.set_cons_zero, List.drop_succ_cons, List.drop_zero]
  rw [show gv 16 = zeroO.v from hV 0 16 (by kernel_rfl)]
  clear hV
  refine l_setS (o := ⟨none, _, _, _, _, _⟩) 25 b6 25 zeroO.cells zeroO.cells (.tmp 6) (.tmp 16) rfl rfl (by kernel_rfl) (by kernel_rfl) (HB61.out.kept k2) (by rw [Ord.len9]; exact ord_size) rfl (Ord.one1 _) ?_
  intro w3 hB3 hk3 hs3
  simp only [Act.put]
  refine l_val (o := ⟨some 7, _, _, _, _, _⟩) (.bool false) rfl (exec_assign (.const (.bool false)) (.bool false) rfl (by kernel_rfl)) ?_
  simp only [Act.put, List.setIfInBounds_toArray, List.set_cons_succ, List.set_cons_zero]
  refine wpList_nil ?_
  go_wp2
  refine bodyPost_ret (results_cell2 (p := 6) (q := 7) rfl _ _ b6 _ zeroO.cells false rfl rfl hB3 Try.underlying25 (by rw [Ord.len9]; exact ord_size)) rfl ?_
  have kw3 : Kept w w3 := (kw1.trans k2).trans' hk3 (by omega)
  exact ⟨by rw [HR.out]; rfl, by rw [HR.out]; exact HL.out.kept kw3, Keep.mono (T := F) kw3 (fun _ _ h => h.elim), fun _ => kw3⟩

set_option maxRecDepth 100000 in
set_option maxHeartbeats 800000 in
theorem remove_yes (w : World) (F : Nat → Prop) (p : Nat) (X : List Ent) (t i : Int) (h : Lvl 58 61 w F p X) (hlen : X.length ≤ 100000) (e : Ent) (he : X[idxM t i X]? = some e) : Calls Try.prog 19 #[.pointer (some ⟨p, 0, none⟩), .int .i64 t, .int .i64 i] w fun r w' => r = .returned (.tuple #[(removeM t i X).1.v, .bool (removeM t i X).2.1]) ∧ Lvl 58 61 w' F p (removeM t i X).2.2 ∧ Keep F w w' ∧ ((removeM t i X).2.1 = false → Kept w w') := by
  have HR : Hid (removeM t i X = (e.o, true, X.eraseIdx (idxM t i X))) := by
    show _ = _
    unfold removeM
    rw [he]
  obtain ⟨k, hkk⟩ : ∃ k, idxM t i X = k := ⟨_, rfl⟩
  rw [hkk] at he HR
  obtain ⟨n, hn⟩ : ∃ n, X.length = n := ⟨_, rfl⟩
  have hkn : k < n := by rw [← hn]; exact (List.getElem?_eq_some_iff.1 he).1
  have HPL : Hid (placeM t i X = (k : Int)) := by show _ = _; unfold placeM; rw [hkk, if_pos (by rw [hn]; exact hkn)]
  have hn1 : n ≤ 100000 := by omega
  have HL := Lib.hid h
  obtain ⟨h1, h2, v, hB, hS, h5⟩ := h
  rw [hn] at hS
  obtain ⟨g, off, c, rfl⟩ := hS.some_ (by omega)
  have HE : Hid (w.rangeAt g (off + k * 10) e.cells) := hS.rng k e he
  have HB := Lib.hid hB
  have HS := Lib.hid hS
  have H1 := Lib.hid h1
  have H2 := Lib.hid h2
  have H5 := Lib.hid h5
  have HN := Lib.hid hn
  have hgp : g ≠ p := (h5 g rfl).2
  have hgl : g < w.heap.size := h2 g (h5 g rfl).1
  have hpl : p < w.heap.size := h2 p h1
  clear hB hS h5 h1 h2 he hn
  go_enter Try.func19, Try.ntmps19
  go_upto_region 0 with fail
  refine wp_text 2 [.fresh w.heap.size 25 zeroO.cells, .eq (.bool false)] rfl (by kernel_rfl) ?_ ?_
  · refine fsteps_cons 1 rfl (fun a u hE hD hk => f_new (o := ⟨some 6, _, _, _, _, _⟩) (.pointer (some ⟨u.heap.size, 0, none⟩)) _ rfl (wanted_none rfl _) (exec_alc 25 zeroO.cells rfl zO) ⟨_, rfl, hk.size, Blk.new u _ _⟩ ((Keep.refl _ u).alloc _)) ?_
    refine fsteps_cons 2 rfl (fun a u hE hD hk => f_val (o := ⟨some 7, _, _, _, _, _⟩) (.bool false) rfl (wanted_none rfl _) (exec_assign (.const (.bool false)) (.bool false) rfl rfl) rfl) ?_
    exact fsteps_nil
  intro gv w0 hV k0
  rw [show dstsOf _ 2 = [6, 7] by kernel_rfl]
  simp only [List.foldl_cons, List.foldl_nil, List.setIfInBounds_toArray, List.set_cons_succ, List.set_cons_zero, List.drop_succ_cons, List.drop_zero]
  have hv6 : (.fresh w.heap.size 25 zeroO.cells : Kn).p (gv 6) w0 := hV 0 6 (by kernel_rfl)
  generalize gv 6 = v6 at hv6 ⊢
  rw [show gv 7 = .bool false from hV 1 7 (by kernel_rfl)]
  clear hV
  obtain ⟨b6, rfl, hb6, hB6⟩ := hv6
  refine wpList_nil ?_
  have HL0 := Lib.hid (HL.out.kept k0)
  have HB6 := Lib.hid hB6
  have l6 := hB6.lt
  clear hB6
  go_upto_region 1 with fail
  refine wp_text 4 [.eq (.pointer (some ⟨p, 0, none⟩)), .eq (.int .i64 t), .eq (.int .i64 i), .eq (.int .i64 (k : Int))] rfl (by kernel_rfl) ?_ ?_
  · refine fsteps_cons 1 rfl (fun a u hE hD hk => f_val (o := ⟨some 10, _, _, _, _, _⟩) (.pointer (some ⟨p, 0, none⟩)) rfl (wanted_none rfl _) (exec_move (.tmp 0) (.pointer (some ⟨p, 0, none⟩)) rfl (hE 0 (.pointer (some ⟨p, 0, none⟩)) (by kernel_rfl) (by kernel_rfl))) rfl) ?_
    refine fsteps_cons 2 rfl (fun a u hE hD hk => f_val (o := ⟨some 11, _, _, _, _, _⟩) (.int .i64 t) rfl (wanted_none rfl _) (exec_move (.tmp 1) (.int .i64 t) rfl (hE 1 (.int .i64 t) (by kernel_rfl) (by kernel_rfl))) rfl) ?_
    refine fsteps_cons 3 rfl (fun a u hE hD hk => f_val (o := ⟨some 12, _, _, _, _, _⟩) (.int .i64 i) rfl (wanted_none rfl _) (exec_move (.tmp 2) (.int .i64 i) rfl (hE 2 (.int .i64 i) (by kernel_rfl) (by kernel_rfl))) rfl) ?_
    refine fsteps_cons 4 rfl (fun a u hE hD hk => f_call (o := ⟨some 13, _, _, _, _, _⟩) 34 #[.pointer (some ⟨p, 0, none⟩), .int .i64 t, .int .i64 i] rfl (wanted_none rfl _) (exec_call 34 _ [.tmp 10, .tmp 11, .tmp 12] _ [.pointer (some ⟨p, 0, none⟩), .int .i64 t, .int .i64 i] Try.func34 (by kernel_rfl) (by kernel_rfl) rfl (show [a.eval (.tmp 10), a.eval (.tmp 11), a.eval (.tmp 12)] = [.pointer (some ⟨p, 0, none⟩), .int .i64 t, .int .i64 i] from (by rw [show a.eval (.tmp 10) = .pointer (some ⟨p, 0, none⟩) from (hD 0 10 (by kernel_rfl)), show a.eval (.tmp 11) = .int .i64 t from (hD 1 11 (by kernel_rfl)), show a.eval (.tmp 12) = .int .i64 i from (hD 2 12 (by kernel_rfl))] <;> rfl)) u) ((by rw [← HPL.out]; exact place_any u F p X t i (HL0.out.kept hk) hlen))) ?_
    exact fsteps_nil
  intro gv w1 hV k1
  rw [show dstsOf _ 4 = [10, 11, 12, 13] by kernel_rfl]
  simp only [List.foldl_cons, List.foldl_nil, List.setIfInBounds_toArray, List.set_cons_succ, List.set_cons_zero, List.drop_succ_cons, List.drop_zero]
  rw [show gv 13 = .int .i64 (k : Int) from hV 3 13 (by kernel_rfl)]
  clear hV
  refine l_val (o := ⟨some 8, _, _, _, _, _⟩) (.int .i64 (k : Int)) rfl (exec_assign (.tmp 13) (.int .i64 (k : Int)) rfl (by kernel_rfl)) ?_
  simp only [Act.put, List.setIfInBounds_toArray, List.set_cons_succ, List.set_cons_zero]
  refine wpList_nil ?_
  have HB61 := Lib.hid (HB6.out.kept k1)
  have kw1 := k0.trans k1
  have z1 := k1.size
  clear HB6 HL0
  have HB1 := Lib.hid (HB.out.kept kw1)
  have HE1 := Lib.hid (range_kept HE.out kw1)
  have z0 := kw1.size
  go_upto_region 4 with fail
  refine wp_text 9 [.eq (.pointer (some ⟨p, 0, none⟩)), .eq (.pointer (some ⟨p, 0, none⟩)), .eq (.pointer (some ⟨p, 1, none⟩)), .eq (.slice (some ⟨g, off, none⟩) n c), .eq (.int .i64 (k : Int)), .eq (.pointer (some ⟨g, off + k * 10, none⟩)), .eq (.pointer (some ⟨g, off + k * 10, none⟩)), .eq (e.o.v), .fresh w1.heap.size 25 zeroO.cells] rfl (by kernel_rfl) ?_ ?_
  · refine fsteps_cons 1 rfl (fun a u hE hD hk => f_val (o := ⟨some 17, _, _, _, _, _⟩) (.pointer (some ⟨p, 0, none⟩)) rfl (wanted_none rfl _) (exec_move (.tmp 0) (.pointer (some ⟨p, 0, none⟩)) rfl (hE 0 (.pointer (some ⟨p, 0, none⟩)) (by kernel_rfl) (by kernel_rfl))) rfl) ?_
    refine fsteps_cons 2 rfl (fun a u hE hD hk => f_val (o := ⟨some 18, _, _, _, _, _⟩) (.pointer (some ⟨p, 0, none⟩)) rfl (wanted_none rfl _) (exec_nilp (.tmp 17) ⟨p, 0, none⟩ rfl (hD 0 17 (by kernel_rfl))) rfl) ?_
    refine fsteps_cons 3 rfl (fun a u hE hD hk => f_val (o := ⟨some 19, _, _, _, _, _⟩) (.pointer (some ⟨p, 1, none⟩)) rfl (wanted_none rfl _) (exec_fldo 58 1 1 (.tmp 18) (p) (0) (1) rfl (hD 1 18 (by kernel_rfl)) (by kernel_rfl) rfl) rfl) ?_
    refine fsteps_cons 4 rfl (fun a u hE hD hk => f_val (o := ⟨some 20, _, _, _, _, _⟩) (.slice (some ⟨g, off, none⟩) n c) rfl (wanted_none rfl _) (exec_ldv 56 _ Try.underlying56 (.tmp 19) ⟨p, 1, none⟩ (.slice (some ⟨g, off, none⟩) n c) rfl (hD 2 19 (by kernel_rfl)) (by rw [(HB1.out.kept hk).cell]; rfl)) rfl) ?_
    refine fsteps_cons 5 rfl (fun a u hE hD hk => f_val (o := ⟨some 21, _, _, _, _, _⟩) (.int .i64 (k : Int)) rfl (wanted_none rfl _) (exec_move (.tmp 8) (.int .i64 (k : Int)) rfl (hE 8 (.int .i64 (k : Int)) (by kernel_rfl) (by kernel_rfl))) rfl) ?_
    refine fsteps_cons 6 rfl (fun a u hE hD hk => f_val (o := ⟨some 22, _, _, _, _, _⟩) (.pointer (some ⟨g, off + k * 10, none⟩)) rfl (wanted_none rfl _) (exec_ixo slE (.tmp 20) (.tmp 21) (g) (off) n c k (off + k * 10) ((k : Int)) rfl (hD 3 20 (by kernel_rfl)) (hD 4 21 (by kernel_rfl)) (by first | rfl | omega) (hkn) (by first | rfl | omega)) rfl) ?_
    refine fsteps_cons 7 rfl (fun a u hE hD hk => f_val (o := ⟨some 23, _, _, _, _, _⟩) (.pointer (some ⟨g, off + k * 10, none⟩)) rfl (wanted_none rfl _) (exec_fldo 61 0 0 (.tmp 22) (g) (off + k * 10) (off + k * 10) rfl (hD 5 22 (by kernel_rfl)) (by kernel_rfl) rfl) rfl) ?_
    refine fsteps_cons 8 rfl (fun a u hE hD hk => f_val (o := ⟨some 24, _, _, _, _, _⟩) (e.o.v) rfl (wanted_none rfl _) (exec_ldS 25 _ (.tmp 23) (g) (off + k * 10) (e.o.cells) rfl (hD 6 23 (by kernel_rfl)) (ent_ord (range_kept HE1.out hk)) Try.underlying25 (by rw [e.o.len9]; exact ord_size)) rfl) ?_
    refine fsteps_cons 9 rfl (fun a u hE hD hk => f_new (o := ⟨some 9, _, _, _, _, _⟩) (.pointer (some ⟨u.heap.size, 0, none⟩)) _ rfl (wanted_none rfl _) (exec_alc 25 zeroO.cells rfl zO) ⟨_, rfl, hk.size, Blk.new u _ _⟩ ((Keep.refl _ u).alloc _)) ?_
    exact fsteps_nil
  intro gv w2 hV k2
  rw [show dstsOf _ 9 = [17, 18, 19, 20, 21, 22, 23, 24, 9] by kernel_rfl]
  simp only [List.foldl_cons, List.foldl_nil, List.setIfInBounds_toArray, List.set_cons_succ, List.set_cons_zero, List.drop_succ_cons, List.drop_zero]
  have hv9 : (.fresh w1.heap.size 25 zeroO.cells : Kn).p (gv 9) w2 := hV 8 9 (by kernel_rfl)
  generalize gv 9 = v9 at hv9 ⊢
  rw [show gv 24 = e.o.v from hV 7 24 (by kernel_rfl)]
  clear hV
  obtain ⟨b9, rfl, hb9, hB9⟩ := hv9
  refine l_setS (o := ⟨none, _, _, _, _, _⟩) 25 b9 25 zeroO.cells e.o.cells (.tmp 9) (.tmp 24) rfl rfl (by kernel_rfl) (by kernel_rfl) hB9 (by rw [Ord.len9]; exact ord_size) (by rw [Ord.len9, Ord.len9]) (Ord.one1 _) ?_
  intro w3 hC3 hk3 hs3
  simp only [Act.put]
  refine wpList_nil ?_
  have k13 : Kept w1 w3 := k2.trans' hk3 (by omega)
  have kw3 := kw1.trans k13
  have HB3 := Lib.hid (HB.out.kept kw3)
  have HS3 := Lib.hid (HS.out.kept kw3)
  have HC3 := Lib.hid hC3
  have HB63 := Lib.hid (HB61.out.kept k13)
  have l9 := hC3.lt
  have z3 := k13.size
  clear hB9 hC3 hk3 k2 HB1 HE1 HE HB HS kw1 HB61 k13 hs3
  go_upto_region 5 with fail
  refine wp_text 8 [.eq (.pointer (some ⟨p, 0, none⟩)), .eq (.pointer (some ⟨p, 0, none⟩)), .eq (.pointer (some ⟨p, 0, none⟩)), .eq (.pointer (some ⟨p, 1, none⟩)), .eq (.slice (some ⟨g, off, none⟩) n c), .eq (.int .i64 (k : Int)), .eq (.int .i64 (k : Int)), .eq (.int .i64 ((k : Int) + 1))] rfl (by kernel_rfl) ?_ ?_
  · refine fsteps_cons 1 rfl (fun a u hE hD hk => f_val (o := ⟨some 25, _, _, _, _, _⟩) (.pointer (some ⟨p, 0, none⟩)) rfl (wanted_none rfl _) (exec_move (.tmp 0) (.pointer (some ⟨p, 0, none⟩)) rfl (hE 0 (.pointer (some ⟨p, 0, none⟩)) (by kernel_rfl) (by kernel_rfl))) rfl) ?_
    refine fsteps_cons 2 rfl (fun a u hE hD hk => f_val (o := ⟨some 26, _, _, _, _, _⟩) (.pointer (some ⟨p, 0, none⟩)) rfl (wanted_none rfl _) (exec_move (.tmp 0) (.pointer (some ⟨p, 0, none⟩)) rfl (hE 0 (.pointer (some ⟨p, 0, none⟩)) (by kernel_rfl) (by kernel_rfl))) rfl) ?_
    refine fsteps_cons 3 rfl (fun a u hE hD hk => f_val (o := ⟨some 27, _, _, _, _, _⟩) (.pointer (some ⟨p, 0, none⟩)) rfl (wanted_none rfl _) (exec_nilp (.tmp 26) ⟨p, 0, none⟩ rfl (hD 1 26 (by kernel_rfl))) rfl) ?_
    refine fsteps_cons 4 rfl (fun a u hE hD hk => f_val (o := ⟨some 28, _, _, _, _, _⟩) (.pointer (some ⟨p, 1, none⟩)) rfl (wanted_none rfl _) (exec_fldo 58 1 1 (.tmp 27) (p) (0) (1) rfl (hD 2 27 (by kernel_rfl)) (by kernel_rfl) rfl) rfl) ?_
    refine fsteps_cons 5 rfl (fun a u hE hD hk => f_val (o := ⟨some 29, _, _, _, _, _⟩) (.slice (some ⟨g, off, none⟩) n c) rfl (wanted_none rfl _) (exec_ldv 56 _ Try.underlying56 (.tmp 28) ⟨p, 1, none⟩ (.slice (some ⟨g, off, none⟩) n c) rfl (hD 3 28 (by kernel_rfl)) (by rw [(HB3.out.kept hk).cell]; rfl)) rfl) ?_
    refine fsteps_cons 6 rfl (fun a u hE hD hk => f_val (o := ⟨some 30, _, _, _, _, _⟩) (.int .i64 (k : Int)) rfl (wanted_none rfl _) (exec_move (.tmp 8) (.int .i64 (k : Int)) rfl (hE 8 (.int .i64 (k : Int)) (by kernel_rfl) (by kernel_rfl))) rfl) ?_
    refine fsteps_cons 7 rfl (fun a u hE hD hk => f_val (o := ⟨some 31, _, _, _, _, _⟩) (.int .i64 (k : Int)) rfl (wanted_none rfl _) (exec_move (.tmp 8) (.int .i64 (k : Int)) rfl (hE 8 (.int .i64 (k : Int)) (by kernel_rfl) (by kernel_rfl))) rfl) ?_
    refine fsteps_cons 8 rfl (fun a u hE hD hk => f_val (o := ⟨some 32, _, _, _, _, _⟩) (.int .i64 ((k : Int) + 1)) rfl (wanted_none rfl _) (exec_addn ((k : Int) + 1) rfl (hD 6 31 (by kernel_rfl)) rfl rfl (by omega) (by omega)) rfl) ?_
    exact fsteps_nil
  intro gv w4 hV k4
  rw [show dstsOf _ 8 = [25, 26, 27, 28, 29, 30, 31, 32] by kernel_rfl]
  simp only [List.foldl_cons, List.foldl_nil, List.setIfInBounds_toArray, List.set_cons_succ, List.set_cons_zero, List.drop_succ_cons, List.drop_zero]
  rw [show gv 29 = .slice (some ⟨g, off, none⟩) n c from hV 4 29 (by kernel_rfl)]
  rw [show gv 30 = .int .i64 (k : Int) from hV 5 30 (by kernel_rfl)]
  rw [show gv 32 = .int .i64 ((k : Int) + 1) from hV 7 32 (by kernel_rfl)]
  rw [show gv 25 = .pointer (some ⟨p, 0, none⟩) from hV 0 25 (by kernel_rfl)]
  clear hV
  refine l_call (o := ⟨some 33, _, _, _, _, _⟩) 35 #[.slice (some ⟨g, off, none⟩) n c, .int .i64 (k : Int), .int .i64 ((k : Int) + 1)] rfl (exec_call 35 _ [.tmp 29, .tmp 30, .tmp 32] _ _ Try.func35 (by kernel_rfl) (by kernel_rfl) rfl (by kernel_rfl) _) ?_
  refine (delete_any g off n c k X w4 (HS3.out.kept k4) HN.out hkn hn1).mono ?_
  rintro r w5 ⟨rfl, hS5, hk5⟩
  refine ⟨_, rfl, ?_⟩
  simp only [Act.put, List.setIfInBounds_toArray, List.set_cons_succ, List.set_cons_zero]
  refine l_val (o := ⟨some 34, _, _, _, _, _⟩) (.pointer (some ⟨p, 0, none⟩)) rfl (exec_nilp (.tmp 25) ⟨p, 0, none⟩ rfl (by kernel_rfl)) ?_
  simp only [Act.put, List.setIfInBounds_toArray, List.set_cons_succ, List.set_cons_zero]
  refine l_val (o := ⟨some 35, _, _, _, _, _⟩) (.pointer (some ⟨p, 1, none⟩)) rfl (exec_fldo 58 1 1 (.tmp 34) (p) (0) (1) rfl (by kernel_rfl) (by kernel_rfl) rfl) ?_
  simp only [Act.put, List.setIfInBounds_toArray, List.set_cons_succ, List.set_cons_zero]
  refine l_st1 (o := ⟨none, _, _, _, _, _⟩) 56 p 1 58 _ (.slice (some ⟨g, off, none⟩) (n - 1) c) (.tmp 35) (.tmp 33) rfl rfl (by kernel_rfl) (by kernel_rfl) (by kernel_rfl) rfl rfl ((HB3.out.kept k4).keep hk5 (fun e => hgp e.symm)) (by simp) ?_
  intro w6 hB6' hk6 hs6
  simp only [Act.put]
  refine wpList_nil ?_
  have z4 := k4.size
  have z5 := hk5.size
  have K5 : Keep (· = g) w w5 := (Keep.mono (T := (· = g)) (kw3.trans k4) (fun _ _ h => h.elim)).trans hk5 (fun _ _ h => h)
  have hgF := (H5.out g rfl).1
  have K6 : Keep F w w6 := (Keep.mono (T := F) K5 (fun b _ hb => by subst hb; exact hgF)).trans hk6 (fun b _ hb => by subst hb; exact H1.out)
  have HLE : Hid ((X.eraseIdx k).length = n - 1) := by show _ = _; rw [List.length_eraseIdx, if_pos (by rw [HN.out]; exact hkn), HN.out]
  have HL6 : Hid (Lvl 58 61 w6 F p (X.eraseIdx k)) := ⟨H1.out, fun b hb => by have := H2.out b hb; omega, _, hB6', by rw [HLE.out]; exact hS5.keep hk6 (fun b hb e => by simp [Value.ownBlock] at hb; omega), H5.out⟩
  have HC6 := Lib.hid (blk_range (((HC3.out.kept k4).keep hk5 (by omega)).keep hk6 (by omega)))
  have HB66 := Lib.hid (((HB63.out.kept k4).keep hk5 (by omega)).keep hk6 (by omega))
  clear hS5 hk5 hB6' hk6 K5 HB3 HS3 HC3 HB63 k4 kw3
  go_upto_region 6 with fail
  refine wp_text 1 [.eq (e.o.v)] rfl (by kernel_rfl) ?_ ?_
  · refine fsteps_cons 1 rfl (fun a u hE hD hk => f_val (o := ⟨some 36, _, _, _, _, _⟩) (e.o.v) rfl (wanted_none rfl _) (exec_ldS 25 _ (.tmp 9) (b9) (0) (e.o.cells) rfl (hE 9 (.pointer (some ⟨b9, 0, none⟩)) (by kernel_rfl) (by kernel_rfl)) (range_kept HC6.out hk) Try.underlying25 (by rw [e.o.len9]; exact ord_size)) rfl) ?_
    exact fsteps_nil
  intro gv w7 hV k7
  rw [show dstsOf _ 1 = [36] by kernel_rfl]
  simp only [List.foldl_cons, List.foldl_nil, List.setIfInBounds_toArray, List.set_cons_succ, List.set_cons_zero, List.drop_succ_cons, List.drop_zero]
  rw [show gv 36 = e.o.v from hV 0 36 (by kernel_rfl)]
  clear hV
  refine l_setS (o := ⟨none, _, _, _, _, _⟩) 25 b6 25 zeroO.cells e.o.cells (.tmp 6) (.tmp 36) rfl rfl (by kernel_rfl) (by kernel_rfl) (HB66.out.kept k7) (by rw [Ord.len9]; exact ord_size) (by rw [Ord.len9, Ord.len9]) (Ord.one1 _) ?_
  intro w8 hB8 hk8 hs8
  simp only [Act.put]
  refine l_val (o := ⟨some 7, _, _, _, _, _⟩) (.bool true) rfl (exec_assign (.const (.bool true)) (.bool true) rfl (by kernel_rfl)) ?_
  simp only [Act.put, List.setIfInBounds_toArray, List.set_cons_succ, List.set_cons_zero]
  refine wpList_nil ?_
  go_wp2
  refine bodyPost_ret (results_cell2 (p := 6) (q := 7) rfl _ _ b6 _ e.o.cells true rfl rfl hB8 Try.underlying25 (by rw [Ord.len9]; exact ord_size)) rfl ?_
  have hbF : ¬ F b6 := fun h => by have := H2.out b6 h; omega
  refine ⟨by rw [HR.out]; rfl, by rw [HR.out]; exact (HL6.out.kept k7).keep hk8 (fun b hb e => hbF (by rw [← e]; exact hb)), (K6.kept k7).trans hk8 (fun b hb e => by subst e; omega), fun h => by rw [HR.out] at h; cases h⟩
theorem remove_any (w : World) (F : Nat → Prop) (p : Nat) (X : List Ent) (t i : Int) (h : Lvl 58 61 w F p X) (hlen : X.length ≤ 100000) : Calls Try.prog 19 #[.pointer (some ⟨p, 0, none⟩), .int .i64 t, .int .i64 i] w fun r w' => r = .returned (.tuple #[(removeM t i X).1.v, .bool (removeM t i X).2.1]) ∧ Lvl 58 61 w' F p (removeM t i X).2.2 ∧ Keep F w w' ∧ ((removeM t i X).2.1 = false → Kept w w') := by
  cases he : X[idxM t i X]? with
  | none => exact remove_none w F p X t i h hlen (fun h => by rw [List.getElem?_eq_getElem h] at he; cases he)
  | some e => exact remove_yes w F p X t i h hlen e he
end Go.Proofs.Ytlbkehpdohihlaa
