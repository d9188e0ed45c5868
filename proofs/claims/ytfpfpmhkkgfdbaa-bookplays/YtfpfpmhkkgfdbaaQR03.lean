/-
 Laws and contracts that the walks rest on, part 3. No condition.
-/
import Derived.Test.YtfpfpmhkkgfdbaaQR02
set_option linter.unusedVariables false
namespace Go.Proofs.Ytfpfpmhkkgfdbaa
open Go.RowKit
set_option maxRecDepth 100000
theorem Blk.shape {w : World} {g : Nat} {t : TypeId} {cs : List Value} (h : Blk w g t cs) : w.shape? g = some (t, cs.length) := by
 unfold Blk at h
 unfold World.shape?
 rw [h]
 simp
theorem Sl.longer {w : World} {T : TypeId} {k n c m g off : Nat} {cs : List Value} (h : Sl w T k (.slice (some ⟨g, off, none⟩) n c) n cs) (hm : m ≤ c) (hn : n ≤ m) : ∃ ds, ds.length = m * k ∧ Sl w T k (.slice (some ⟨g, off, none⟩) m c) m ds ∧ ds.take (n * k) = cs := by
 obtain ⟨hl1, A', c', e', h1, h2, h3, h4⟩ := h
 injection e' with e1 e2 e3
 subst e1 e3
 obtain ⟨g', off', cur, e, hB, h5, h6⟩ := h4 _ rfl
 injection e with e1 e2
 subst e1 e2
 have hmc : m * k ≤ c * k := Nat.mul_le_mul_right k hm
 have hnm : n * k ≤ m * k := Nat.mul_le_mul_right k hn
 refine ⟨(cur.drop off).take (m * k), by rw [List.length_take, List.length_drop]; omega, ⟨by rw [List.length_take, List.length_drop]; omega, _, c, rfl, hm, h2, fun h => (by cases h), fun ad had => ?_⟩, by rw [List.take_take, Nat.min_eq_left hnm]; exact h6⟩
 injection had with had
 subst had
 exact ⟨g, off, cur, rfl, hB, h5, rfl⟩
theorem Sl.cap {w : World} {T : TypeId} {k n c : Nat} {A : Option Addr} {cs : List Value} (h : Sl w T k (.slice A n c) n cs) : n ≤ c ∧ c ≤ maxLen ∧ (A = none → c = 0) := by
 obtain ⟨_, A', c', e', h1, h2, h3, _⟩ := h
 injection e' with e1 e2 e3
 subst e1 e3
 exact ⟨h1, h2, h3⟩
theorem Sl.slice_ {w : World} {T : TypeId} {k n : Nat} {v : Value} {cs : List Value} (h : Sl w T k v n cs) : ∃ A c, v = .slice A n c := by
 obtain ⟨_, A, c, e, _⟩ := h
 exact ⟨A, c, e⟩
theorem zeros_len {z : Value} {k : Nat} (hz : z.cells.size = k) (m : Nat) : (Builtin.zeroCells z.cells m).toList.length = m * k := by simp [Builtin.zeroCells, hz]
theorem run_append_zeros {t tn T : TypeId} {k bytes : Nat} (ht : SlT t T k bytes) (htn : Try.prog.underlying tn = some (.int .i64)) (ty : TypeId) (w : World) (A : Option Addr) (n c m : Nat) (cs : List Value) (h : Sl w T k (.slice A n c) n cs) (hm : 0 < m) (hc : c < n + m) (h63 : n + m ≤ maxLen) (hlim : (n + m) * bytes ≤ 140737488355328) (hpos : 0 < bytes) :
  ∃ g' c' w' zs, (Builtin.append_ #[t, tn] ty #[.slice A n c, .int .i64 (m : Int)]).run Try.prog w = .ok (.slice (some ⟨g', 0, none⟩) (n + m) c') w' ∧ Sl w' T k (.slice (some ⟨g', 0, none⟩) (n + m) c') (n + m) (cs ++ zs) ∧ zs.length = m * k ∧ Kept w w' ∧ w.heap.size ≤ g' := by
 obtain ⟨z, hz, hz2, _⟩ := ht.info
 obtain ⟨i0, hi, hz0, hz1, hzb⟩ := info_parts hz
 obtain ⟨hl, A', c2, e', h1, h2, h3, h4⟩ := h
 injection e' with e1 e2 e3
 subst e1 e3
 have hold : (Builtin.firstCells i0.size n (.slice A n c)).run Try.prog w.drew = .ok cs.toArray w.drew := by
  cases A with
  | none =>
   have := h3 rfl
   have hn0 : n = 0 := by omega
   subst hn0
   have : cs = [] := List.eq_nil_of_length_eq_zero (by omega)
   subst this
   exact run_firstCells_none w.drew i0.size 0 0 c
  | some ad =>
   obtain ⟨g, off, cur, rfl, hB, h5, h6⟩ := h4 _ rfl
   exact run_firstCells_some w.drew i0.size n ⟨g, off, none⟩ n c cs (by rw [hz1]; exact hl) (fun j v hj => by rw [Addr.add_lit]; exact seg_cell hB h6 j v hj)
 have hmb : m * bytes ≤ (n + m) * bytes := Nat.mul_le_mul_right _ (by omega)
 have hr := Lib.run_append_grow_zeros (P := Try.prog) w t tn ty T i0 z .i64 .i64 ht.und htn hi hz0 A n c cs hold m hm (by rw [hz1]; exact ht.pos) hc (by unfold maxLen at h63; omega) (by rw [hzb]; omega) (by rw [hzb]; exact growslice_fits hc hlim)
 have hge := grownCap_ge w (n + m) c T
 have hle := grownCap_le_maxLen w (n + m) c T h63
 generalize grownCap w (n + m) c T = G at hr hge hle
 refine ⟨w.heap.size, G, _, (Builtin.zeroCells z.cells m).toList, hr, ⟨by rw [List.length_append, hl, zeros_len hz2, Nat.add_mul], _, G, rfl, hge, hle, fun h => (by cases h), fun ad had => ?_⟩, zeros_len hz2 m, ((Keep.refl _ w).drew).alloc _, Nat.le_refl _⟩
 injection had with had
 subst had
 refine ⟨w.heap.size, 0, (cs.toArray ++ Builtin.zeroCells z.cells m ++ Builtin.zeroCells z.cells (G - (n + m))).toList, rfl, ?_, ?_, ?_⟩
 ·have := Blk.new w.drew T (cs.toArray ++ Builtin.zeroCells z.cells m ++ Builtin.zeroCells z.cells (G - (n + m))).toList
  rw [Array.toArray_toList] at this
  exact this
 ·simp only [Array.toList_append, List.length_append, zeros_len hz2, hl, Nat.zero_add, ← Nat.add_mul]
  exact Nat.mul_le_mul_right k (by omega)
 ·rw [List.drop_zero, Array.toList_append, Array.toList_append, List.take_append_of_le_length (by simp only [List.length_append, zeros_len hz2, hl, ← Nat.add_mul]; exact Nat.le_refl _), List.take_of_length_le (by simp only [List.length_append, zeros_len hz2, hl, ← Nat.add_mul]; exact Nat.le_refl _)]
section
variable {a : Act} {o : Oper} {u : World} {t T : TypeId} {k bytes : Nat}
theorem exec_appZ (ht : SlT t T k bytes) (tn : TypeId) (s x : Operand) (v : Value) (m : Int) (hop : o.op = Op.call { callee := Callee.builtin Builtin.append, args := #[s, x], argTypes := #[t, tn] }) (hs : a.eval s = v) (hx : a.eval x = .int .i64 m) (v' : Value) (u' : World)
  (h : (Builtin.append_ #[t, tn] o.type #[v, .int .i64 m]).run Try.prog u = .ok v' u') : (execOp a.eval o).run Try.prog u = .ok (.value v') u' := by
 unfold execOp
 simp only [hop, resolve, invoke, builtin, Sem.run_bind, Sem.run_pure, Result.andThen_ok, List.map_toArray, List.map_cons, List.map_nil, hs, hx, h]
theorem exec_capS (x : Operand) (A : Option Addr) (n c : Nat) (ht : Try.prog.underlying t = some (.slice T)) (hop : o.op = .call { callee := .builtin .cap, args := #[x], argTypes := #[t] }) (hx : a.eval x = .slice A n c) : (execOp a.eval o).run Try.prog u = .ok (.value (.int .i64 (c : Int))) u := by
 unfold execOp
 simp only [hop, resolve, invoke, builtin, Sem.run_bind, Sem.run_pure, Result.andThen_ok, List.map_toArray, List.map_cons, List.map_nil, hx]
 simp [Builtin.cap_, run_underlying ht, go_sem]
theorem run_h (ht : SlT t T k bytes) (A : Option Addr) (n c h : Nat) (h3 : h ≤ c) (hA : A = none → c = 0) (u : World) : (Instr.slice t (.slice A n c) none (some (.int .i64 (h : Int))) none).run Try.prog u = .ok (.slice A h c) u := by
 obtain ⟨z, hz, hz2, _⟩ := ht.info
 obtain ⟨i0, hi, hz0, hz1, hzb⟩ := info_parts hz
 rw [run_slice_h (P := Try.prog) (w := u) t A n c (by rw [ht.elem]; exact ht.und) .i64 (h : Int) (by omega) (by omega), ht.elem]
 cases A with
 | none => simp [sizeOf, typeInfo, hi, hz1, sliced]
 | some ad => simp [sizeOf, typeInfo, hi, hz1, sliced, Addr.add]
theorem run_l (ht : SlT t T k bytes) (g off n c l : Nat) (h1 : l ≤ n) (h3 : l < c) (u : World) : (Instr.slice t (.slice (some ⟨g, off, none⟩) n c) (some (.int .i64 (l : Int))) none none).run Try.prog u = .ok (.slice (some ⟨g, off + l * k, none⟩) (n - l) (c - l)) u := by
 obtain ⟨z, hz, hz2, _⟩ := ht.info
 obtain ⟨i0, hi, hz0, hz1, hzb⟩ := info_parts hz
 rw [run_slice_l (P := Try.prog) (w := u) t (some ⟨g, off, none⟩) n c (by rw [ht.elem]; exact ht.und) .i64 (l : Int) (by omega) (by omega), ht.elem]
 have : ¬ c = l := by omega
 simp [sizeOf, typeInfo, hi, hz1, sliced, this, Addr.add_mid]
theorem exec_cpyS (d x : Operand) (v y : Value) (hop : o.op = Op.call { callee := Callee.builtin Builtin.copy, args := #[d, x], argTypes := #[t, t] }) (hd : a.eval d = v) (hx : a.eval x = y) (v' : Value) (u' : World)
  (h : (Builtin.copy_ #[t, t] o.type #[v, y]).run Try.prog u = .ok v' u') : (execOp a.eval o).run Try.prog u = .ok (.value v') u' := by
 unfold execOp
 simp only [hop, resolve, invoke, builtin, Sem.run_bind, Sem.run_pure, Result.andThen_ok, List.map_toArray, List.map_cons, List.map_nil, hd, hx, h]
theorem run_copy_sl (ht : SlT t T 1 bytes) (ty : TypeId) (g off n c i l d : Nat) (cs ds : List Value) (w : World) (h : Sl w T 1 (.slice (some ⟨g, off, none⟩) n c) n cs) (g2 off2 l2 c2 : Nat) (hd : w.rangeAt g2 off2 ds) (hl : ds.length = Nat.min l2 l) (hi : i + ds.length ≤ n) (h1 : ∀ u ∈ ds, u.oneCell' = true) :
  (Builtin.copy_ #[t, t] ty #[.slice (some ⟨g, off + i, none⟩) l d, .slice (some ⟨g2, off2, none⟩) l2 c2]).run Try.prog w = .ok (goInt ds.length) (w.setCells g (off + i) ds) ∧
  Sl (w.setCells g (off + i) ds) T 1 (.slice (some ⟨g, off, none⟩) n c) n (cs.take i ++ ds ++ cs.drop (i + ds.length)) ∧ Keep (· = g) w (w.setCells g (off + i) ds) := by
 obtain ⟨z, hz, hz2, _⟩ := ht.info
 obtain ⟨i0, hi0, hz0, hz1, hzb⟩ := info_parts hz
 obtain ⟨q1, q2, q3, q4⟩ := h.setCells i ds (by omega)
 refine ⟨?_, q1, q2⟩
 exact run_copy_cells w t t ty T g (off + i) l d ⟨g2, off2, none⟩ l2 c2 ds ht.und (by rw [hi0]; simp [hz1]) hl (fun j v hj => by rw [Addr.add_lit]; exact hd j v hj) (fun j hj => (q4 j hj).1) (fun j hj => (q4 j hj).2) h1
end
set_option maxRecDepth 100000 in
set_option maxHeartbeats 1600000 in
theorem growO_any (w : World) (v : Value) (n m : Nat) (cs : List Value) (hS : Sl w 25 9 v n cs) (hn : n + m ≤ 100000000) :
  Calls Try.prog 79 #[v, .int .i64 (m : Int)] w fun r w' => ∃ v', r = .returned v' ∧ Sl w' 25 9 v' n cs ∧ Kept w w' ∧ ∀ b, v'.ownBlock = some b → v.ownBlock = some b ∨ w.heap.size ≤ b := by
 obtain ⟨A, c, rfl⟩ := hS.slice_
 obtain ⟨hnc, hcm, hA⟩ := hS.cap
 have hcm' : c ≤ 9223372036854775807 := by unfold maxLen at hcm; omega
 have HS := Lib.hid hS
 have HA := Lib.hid hA
 clear hS hA hcm
 go_enter Try.func79, Try.ntmps79
 go_upto_region 1 with fail
 refine wp_text 2 [iE (m : Int), bE false] rfl (by kernel_rfl) ?_ ?_
 ·refine mE 1 1 ?_
  refine aS 2 rfl (fun a u E D hk=>exec_ltn rfl (dD D 0) rfl) (decide_eq_false (by omega)) ?_
  exact fz
 intro gv w1 hV k1
 rw [dq 2 [5,6]]
 simp only [F7]
 rw [gQ hV 1 6 (.bool false)]
 clear hV
 refine wpList_nil ?_
 go_upto_region 3 with fail
 refine wp_text 7 [iE (m : Int), .eq (.slice A n c), iE (c : Int), .eq (.slice A n c), iE (n : Int), iE (((c : Int) : Int) - ((n : Int) : Int)), iE (((m : Int) : Int) - ((((c : Int) : Int) - ((n : Int) : Int)) : Int))] rfl (by kernel_rfl) ?_ ?_
 ·refine mE 1 1 ?_
  refine mE 2 0 ?_
  refine sW 3 rfl (fun a u E D hk=>exec_capS _ A n c slO.und rfl (dD D 1)) ?_
  refine mE 4 0 ?_
  refine sW 5 rfl (fun a u E D hk=>exec_len _ _ _ slO.und A n c rfl (dD D 3)) ?_
  refine sW 6 rfl (fun a u E D hk=>exec_subn (p := ((c : Int))) (q := ((n : Int))) (((c : Int) : Int) - ((n : Int) : Int)) rfl (dD D 2) (dD D 4) rfl (by omega) (by omega)) ?_
  refine sW 7 rfl (fun a u E D hk=>exec_subn (p := ((m : Int))) (q := ((((c : Int) : Int) - ((n : Int) : Int)))) (((m : Int) : Int) - ((((c : Int) : Int) - ((n : Int) : Int)) : Int)) rfl (dD D 0) (dD D 5) rfl (by omega) (by omega)) ?_
  exact fz
 intro gv w2 hV k2
 rw [dq 7 [8,9,10,11,12,13,14]]
 simp only [F7]
 rw [gQ hV 6 14 (.int .i64 (((m : Int) : Int) - ((((c : Int) : Int) - ((n : Int) : Int)) : Int)))]
 clear hV
 refine l_val (.int .i64 (((m : Int) : Int) - ((((c : Int) : Int) - ((n : Int) : Int)) : Int))) rfl (exec_assign _ _ rfl (by kernel_rfl)) ?_
 simp only [Act.put, sA, sS, sZ]
 refine wpList_nil ?_
 have k02 := k1.trans k2
 clear k1 k2
 by_cases hr : (m : Int) - ((c : Int) - (n : Int)) > 0
 ·skip
  obtain ⟨ds, hds, hSL, hdt⟩ : ∃ ds : List Value, ds.length = c * 9 ∧ Sl w 25 9 (.slice A c c) c ds ∧ ds.take (n * 9) = cs := by
   cases A with
   | none =>
    have h0 := HA.out rfl
    subst h0
    have hn0 : n = 0 := by omega
    subst hn0
    have := HS.out.len
    exact ⟨cs, by omega, HS.out, by rw [List.take_of_length_le (by omega)]⟩
   | some ad =>
    obtain ⟨g, off, c', e⟩ : ∃ g off c', Value.slice (some ad) n c = .slice (some ⟨g, off, none⟩) n c' := by
     obtain ⟨_, A', c2, e', _, _, _, h4⟩ := HS.out
     injection e' with e1 e2 e3
     subst e1 e3
     obtain ⟨g, off, cur, rfl, _⟩ := h4 _ rfl
     exact ⟨g, off, c, rfl⟩
    injection e with e1 e2 e3
    injection e1 with e1
    subst e1
    exact HS.out.longer (Nat.le_refl c) hnc
  have HSL := Lib.hid hSL
  have HDT := Lib.hid hdt
  obtain ⟨j, hj⟩ : ∃ j : Nat, (m : Int) - ((c : Int) - (n : Int)) = (j : Int) := ⟨(m - (c - n)), by omega⟩
  rw [hj] at hr ⊢
  have hcj : c + j = n + m := by omega
  have hj0 : 0 < j := by omega
  clear hSL hdt hj
  go_upto_region 4 with fail
  refine wp_text 2 [iE (j : Int), bE true] rfl (by kernel_rfl) ?_ ?_
  ·refine mE 1 1 ?_
   refine aS 2 rfl (fun a u E D hk=>exec_gtn rfl (dD D 0) rfl) (decide_eq_true (by omega)) ?_
   exact fz
  intro gv w3 hV k3
  rw [dq 2 [15,16]]
  simp only [F7]
  rw [gQ hV 1 16 (.bool true)]
  clear hV
  refine wpList_nil ?_
  have k03 := k02.trans k3
  clear k02 k3
  go_upto_region 5 with fail
  refine wp_text 5 [.eq (.slice A n c), .eq (.slice A n c), iE (c : Int), .eq (.slice A c c), iE (j : Int)] rfl (by kernel_rfl) ?_ ?_
  ·refine mE 1 0 ?_
   refine mE 2 0 ?_
   refine sW 3 rfl (fun a u E D hk=>exec_capS _ A n c slO.und rfl (dD D 1)) ?_
   refine sW 4 rfl (fun a u E D hk=>exec_slcH slO _ _ _ _ _ rfl (dD D 0) (dD D 2) (run_h slO A n c c (Nat.le_refl _) HA.out u)) ?_
   refine mE 5 1 ?_
   exact fz
  intro gv w4 hV k4
  rw [dq 5 [17,18,19,20,21]]
  simp only [F7]
  rw [gQ hV 3 20 (.slice A c c)]
  rw [gQ hV 4 21 (.int .i64 (j : Int))]
  clear hV
  have k04 := k03.trans k4
  obtain ⟨gn, cn, w5, zs, hrz, hsz, hzl, hkz, hgn⟩ := run_append_zeros slO Try.underlying3 60 w4 A c c j _ (HSL.out.kept k04) hj0 (by omega) (by unfold maxLen; omega) (by omega) (by omega)
  refine l_new _ w5 rfl (exec_appZ slO 3 (.tmp 20) (.tmp 21) _ _ rfl (by kernel_rfl) (by kernel_rfl) _ w5 hrz) ?_
  simp only [Act.put, sA, sS, sZ]
  refine l_val (.slice A n c) rfl (exec_move _ _ rfl (by kernel_rfl)) ?_
  simp only [Act.put, sA, sS, sZ]
  refine l_val (.int .i64 (n : Int)) rfl (exec_len (.tmp 23) _ _ slO.und A n c rfl (by kernel_rfl)) ?_
  simp only [Act.put, sA, sS, sZ]
  refine l_val (.slice (some ⟨gn, 0, none⟩) n cn) rfl (exec_slcH slO (.tmp 22) (.tmp 24) _ _ _ rfl (by kernel_rfl) (by kernel_rfl) (run_h slO (some ⟨gn, 0, none⟩) (c + j) cn n (by have := hsz.cap.1; omega) (fun h => by cases h) w5)) ?_
  simp only [Act.put, sA, sS, sZ]
  refine l_val (.slice (some ⟨gn, 0, none⟩) n cn) rfl (exec_assign _ _ rfl (by kernel_rfl)) ?_
  simp only [Act.put, List.setIfInBounds_toArray, List.set_cons_zero]
  refine wpList_nil ?_
  have zz := k04.size
  have HR : Hid (Sl w5 25 9 (.slice (some ⟨gn, 0, none⟩) n cn) n cs) := by
   have h1 := hsz.shrink (m := n) (by omega)
   have h2 := HS.out.len
   rw [List.take_append_of_le_length (by rw [hds]; exact Nat.mul_le_mul_right _ hnc), HDT.out] at h1
   exact h1
  have k05 := k04.trans hkz
  clear hsz hrz hkz k4 k03
  go_wp2
  go_ret
  exact ⟨_, rfl, HR.out, k05, fun b hb => .inr (by simp [Value.ownBlock] at hb; omega)⟩
 ·skip
  go_upto_region 4 with fail
  refine wp_text 2 [iE ((m : Int) - ((c : Int) - (n : Int))), bE false] rfl (by kernel_rfl) ?_ ?_
  ·refine mE 1 1 ?_
   refine aS 2 rfl (fun a u E D hk=>exec_gtn rfl (dD D 0) rfl) (decide_eq_false (by omega)) ?_
   exact fz
  intro gv w3 hV k3
  rw [dq 2 [15,16]]
  simp only [F7]
  rw [gQ hV 1 16 (.bool false)]
  clear hV
  refine wpList_nil ?_
  have k03 := k02.trans k3
  have HR := Lib.hid (HS.out.kept k03)
  clear k02 k3
  go_wp2
  go_ret
  exact ⟨_, rfl, HR.out, k03, fun b hb => .inl hb⟩
set_option maxRecDepth 100000 in
set_option maxHeartbeats 1600000 in
theorem growF_any (w : World) (v : Value) (n m : Nat) (cs : List Value) (hS : Sl w 36 21 v n cs) (hn : n + m ≤ 100000000) :
  Calls Try.prog 90 #[v, .int .i64 (m : Int)] w fun r w' => ∃ v', r = .returned v' ∧ Sl w' 36 21 v' n cs ∧ Kept w w' ∧ ∀ b, v'.ownBlock = some b → v.ownBlock = some b ∨ w.heap.size ≤ b := by
 obtain ⟨A, c, rfl⟩ := hS.slice_
 obtain ⟨hnc, hcm, hA⟩ := hS.cap
 have hcm' : c ≤ 9223372036854775807 := by unfold maxLen at hcm; omega
 have HS := Lib.hid hS
 have HA := Lib.hid hA
 clear hS hA hcm
 go_enter Try.func90, Try.ntmps90
 go_upto_region 1 with fail
 refine wp_text 2 [iE (m : Int), bE false] rfl (by kernel_rfl) ?_ ?_
 ·refine mE 1 1 ?_
  refine aS 2 rfl (fun a u E D hk=>exec_ltn rfl (dD D 0) rfl) (decide_eq_false (by omega)) ?_
  exact fz
 intro gv w1 hV k1
 rw [dq 2 [5,6]]
 simp only [F7]
 rw [gQ hV 1 6 (.bool false)]
 clear hV
 refine wpList_nil ?_
 go_upto_region 3 with fail
 refine wp_text 7 [iE (m : Int), .eq (.slice A n c), iE (c : Int), .eq (.slice A n c), iE (n : Int), iE (((c : Int) : Int) - ((n : Int) : Int)), iE (((m : Int) : Int) - ((((c : Int) : Int) - ((n : Int) : Int)) : Int))] rfl (by kernel_rfl) ?_ ?_
 ·refine mE 1 1 ?_
  refine mE 2 0 ?_
  refine sW 3 rfl (fun a u E D hk=>exec_capS _ A n c slF.und rfl (dD D 1)) ?_
  refine mE 4 0 ?_
  refine sW 5 rfl (fun a u E D hk=>exec_len _ _ _ slF.und A n c rfl (dD D 3)) ?_
  refine sW 6 rfl (fun a u E D hk=>exec_subn (p := ((c : Int))) (q := ((n : Int))) (((c : Int) : Int) - ((n : Int) : Int)) rfl (dD D 2) (dD D 4) rfl (by omega) (by omega)) ?_
  refine sW 7 rfl (fun a u E D hk=>exec_subn (p := ((m : Int))) (q := ((((c : Int) : Int) - ((n : Int) : Int)))) (((m : Int) : Int) - ((((c : Int) : Int) - ((n : Int) : Int)) : Int)) rfl (dD D 0) (dD D 5) rfl (by omega) (by omega)) ?_
  exact fz
 intro gv w2 hV k2
 rw [dq 7 [8,9,10,11,12,13,14]]
 simp only [F7]
 rw [gQ hV 6 14 (.int .i64 (((m : Int) : Int) - ((((c : Int) : Int) - ((n : Int) : Int)) : Int)))]
 clear hV
 refine l_val (.int .i64 (((m : Int) : Int) - ((((c : Int) : Int) - ((n : Int) : Int)) : Int))) rfl (exec_assign _ _ rfl (by kernel_rfl)) ?_
 simp only [Act.put, sA, sS, sZ]
 refine wpList_nil ?_
 have k02 := k1.trans k2
 clear k1 k2
 by_cases hr : (m : Int) - ((c : Int) - (n : Int)) > 0
 ·skip
  obtain ⟨ds, hds, hSL, hdt⟩ : ∃ ds : List Value, ds.length = c * 21 ∧ Sl w 36 21 (.slice A c c) c ds ∧ ds.take (n * 21) = cs := by
   cases A with
   | none =>
    have h0 := HA.out rfl
    subst h0
    have hn0 : n = 0 := by omega
    subst hn0
    have := HS.out.len
    exact ⟨cs, by omega, HS.out, by rw [List.take_of_length_le (by omega)]⟩
   | some ad =>
    obtain ⟨g, off, c', e⟩ : ∃ g off c', Value.slice (some ad) n c = .slice (some ⟨g, off, none⟩) n c' := by
     obtain ⟨_, A', c2, e', _, _, _, h4⟩ := HS.out
     injection e' with e1 e2 e3
     subst e1 e3
     obtain ⟨g, off, cur, rfl, _⟩ := h4 _ rfl
     exact ⟨g, off, c, rfl⟩
    injection e with e1 e2 e3
    injection e1 with e1
    subst e1
    exact HS.out.longer (Nat.le_refl c) hnc
  have HSL := Lib.hid hSL
  have HDT := Lib.hid hdt
  obtain ⟨j, hj⟩ : ∃ j : Nat, (m : Int) - ((c : Int) - (n : Int)) = (j : Int) := ⟨(m - (c - n)), by omega⟩
  rw [hj] at hr ⊢
  have hcj : c + j = n + m := by omega
  have hj0 : 0 < j := by omega
  clear hSL hdt hj
  go_upto_region 4 with fail
  refine wp_text 2 [iE (j : Int), bE true] rfl (by kernel_rfl) ?_ ?_
  ·refine mE 1 1 ?_
   refine aS 2 rfl (fun a u E D hk=>exec_gtn rfl (dD D 0) rfl) (decide_eq_true (by omega)) ?_
   exact fz
  intro gv w3 hV k3
  rw [dq 2 [15,16]]
  simp only [F7]
  rw [gQ hV 1 16 (.bool true)]
  clear hV
  refine wpList_nil ?_
  have k03 := k02.trans k3
  clear k02 k3
  go_upto_region 5 with fail
  refine wp_text 5 [.eq (.slice A n c), .eq (.slice A n c), iE (c : Int), .eq (.slice A c c), iE (j : Int)] rfl (by kernel_rfl) ?_ ?_
  ·refine mE 1 0 ?_
   refine mE 2 0 ?_
   refine sW 3 rfl (fun a u E D hk=>exec_capS _ A n c slF.und rfl (dD D 1)) ?_
   refine sW 4 rfl (fun a u E D hk=>exec_slcH slF _ _ _ _ _ rfl (dD D 0) (dD D 2) (run_h slF A n c c (Nat.le_refl _) HA.out u)) ?_
   refine mE 5 1 ?_
   exact fz
  intro gv w4 hV k4
  rw [dq 5 [17,18,19,20,21]]
  simp only [F7]
  rw [gQ hV 3 20 (.slice A c c)]
  rw [gQ hV 4 21 (.int .i64 (j : Int))]
  clear hV
  have k04 := k03.trans k4
  obtain ⟨gn, cn, w5, zs, hrz, hsz, hzl, hkz, hgn⟩ := run_append_zeros slF Try.underlying3 26 w4 A c c j _ (HSL.out.kept k04) hj0 (by omega) (by unfold maxLen; omega) (by omega) (by omega)
  refine l_new _ w5 rfl (exec_appZ slF 3 (.tmp 20) (.tmp 21) _ _ rfl (by kernel_rfl) (by kernel_rfl) _ w5 hrz) ?_
  simp only [Act.put, sA, sS, sZ]
  refine l_val (.slice A n c) rfl (exec_move _ _ rfl (by kernel_rfl)) ?_
  simp only [Act.put, sA, sS, sZ]
  refine l_val (.int .i64 (n : Int)) rfl (exec_len (.tmp 23) _ _ slF.und A n c rfl (by kernel_rfl)) ?_
  simp only [Act.put, sA, sS, sZ]
  refine l_val (.slice (some ⟨gn, 0, none⟩) n cn) rfl (exec_slcH slF (.tmp 22) (.tmp 24) _ _ _ rfl (by kernel_rfl) (by kernel_rfl) (run_h slF (some ⟨gn, 0, none⟩) (c + j) cn n (by have := hsz.cap.1; omega) (fun h => by cases h) w5)) ?_
  simp only [Act.put, sA, sS, sZ]
  refine l_val (.slice (some ⟨gn, 0, none⟩) n cn) rfl (exec_assign _ _ rfl (by kernel_rfl)) ?_
  simp only [Act.put, List.setIfInBounds_toArray, List.set_cons_zero]
  refine wpList_nil ?_
  have zz := k04.size
  have HR : Hid (Sl w5 36 21 (.slice (some ⟨gn, 0, none⟩) n cn) n cs) := by
   have h1 := hsz.shrink (m := n) (by omega)
   have h2 := HS.out.len
   rw [List.take_append_of_le_length (by rw [hds]; exact Nat.mul_le_mul_right _ hnc), HDT.out] at h1
   exact h1
  have k05 := k04.trans hkz
  clear hsz hrz hkz k4 k03
  go_wp2
  go_ret
  exact ⟨_, rfl, HR.out, k05, fun b hb => .inr (by simp [Value.ownBlock] at hb; omega)⟩
 ·skip
  go_upto_region 4 with fail
  refine wp_text 2 [iE ((m : Int) - ((c : Int) - (n : Int))), bE false] rfl (by kernel_rfl) ?_ ?_
  ·refine mE 1 1 ?_
   refine aS 2 rfl (fun a u E D hk=>exec_gtn rfl (dD D 0) rfl) (decide_eq_false (by omega)) ?_
   exact fz
  intro gv w3 hV k3
  rw [dq 2 [15,16]]
  simp only [F7]
  rw [gQ hV 1 16 (.bool false)]
  clear hV
  refine wpList_nil ?_
  have k03 := k02.trans k3
  have HR := Lib.hid (HS.out.kept k03)
  clear k02 k3
  go_wp2
  go_ret
  exact ⟨_, rfl, HR.out, k03, fun b hb => .inl hb⟩
theorem slOO : SlT 104 60 1 24 := ⟨Try.underlying104, by kernel_rfl, ⟨.slice none 0 0, by kernel_rfl, rfl, by intro u hu; simp [Value.cells] at hu; subst hu; rfl⟩, by omega⟩
theorem exec_two1 {a : Act} {o : Oper} {u : World} {t T : TypeId} {bytes : Nat} (ht : SlT t T 1 bytes) (x y : Operand) (v1 v2 : Value) (hop : o.op = .buildSlice t 2 #[(0, x), (1, y)]) (hx : a.eval x = v1) (hy : a.eval y = v2) (h1 : v1.cells = #[v1]) (h2 : v2.cells = #[v2]) :
  (execOp a.eval o).run Try.prog u = .ok (.value (.slice (some ⟨u.heap.size, 0, none⟩) 2 2)) (u.alloc (.cells [v1, v2].toArray T)) := by
 obtain ⟨z, hz, hz2, _⟩ := ht.info
 obtain ⟨i0, hi, hz0, hz1, hzb⟩ := info_parts hz
 unfold execOp
 simp only [hop, List.map_toArray, List.map_cons, List.map_nil, hx, hy]
 have e : Array.map (fun x => z.cells[x % z.cells.size]!) (Array.range (2 * 1)) = #[z.cells[0 % z.cells.size]!, z.cells[1 % z.cells.size]!] := by
  apply Array.toList_inj.1
  simp [List.range_succ]
 have hr := run_buildSlice (P := Try.prog) u t T 2 #[(0, v1), (1, v2)] [v1, v2].toArray i0 z ht.und hi hz0 (by rw [hz1]; omega) (by rw [hz1]; omega) (by
  rw [hz1]
  simp only [Instr.fill, h1, h2, e]
  simp)
 simp only [Sem.run_bind, hr, Result.andThen_ok]
 rfl
def Cat (w : World) (g : Nat) (X Y : List Ord) : Prop := ∃ v1 v2, Blk w g 60 [v1, v2] ∧ Sl w 25 9 v1 X.length (ords X) ∧ Sl w 25 9 v2 Y.length (ords Y)
theorem Cat.kept {w w' : World} {g : Nat} {X Y : List Ord} (h : Cat w g X Y) (hk : Kept w w') : Cat w' g X Y := by
 obtain ⟨v1, v2, h1, h2, h3⟩ := h
 exact ⟨v1, v2, h1.kept hk, h2.kept hk, h3.kept hk⟩
def catP (X Y : List Ord) (i : Nat) : List Ord := if i = 0 then [] else if i = 1 then X else X ++ Y
def catE (X Y : List Ord) (i : Nat) : List Ord := if i = 0 then X else Y
theorem catP_next (X Y : List Ord) (i : Nat) (h : i < 2) : catP X Y (i + 1) = catP X Y i ++ catE X Y i := by
 rcases (by omega : i = 0 ∨ i = 1) with rfl | rfl <;> rfl
theorem catP_len (X Y : List Ord) (i : Nat) : (catP X Y i).length ≤ X.length + Y.length := by
 unfold catP
 repeat' split
 all_goals simp
theorem catE_len (X Y : List Ord) (i : Nat) : (catE X Y i).length ≤ X.length + Y.length := by
 unfold catE
 split <;> omega
def Kn.cat (base : Nat) (X Y : List Ord) : Kn := ⟨fun v w => ∃ g, v = .slice (some ⟨g, 0, none⟩) 2 2 ∧ base ≤ g ∧ Cat w g X Y, fun _ _ _ ⟨g, h1, h2, h3⟩ hk => ⟨g, h1, h2, h3.kept hk⟩⟩
set_option maxRecDepth 100000 in
set_option maxHeartbeats 1600000 in
theorem concat_any (w : World) (g : Nat) (X Y : List Ord) (h : Cat w g X Y) (hn : X.length + Y.length ≤ 1000000) : Gives 56 #[.slice (some ⟨g, 0, none⟩) 2 2] w (.sl w.heap.size 25 9 (X ++ Y).length (ords (X ++ Y))) := by
 obtain ⟨v1, v2, hB, h1, h2⟩ := h
 have HB := Lib.hid hB
 have HE : Hid (∀ i, i < 2 → ∃ v, w.cell? ⟨g, 0 + i * 1, none⟩ = some v ∧ Sl w 25 9 v (catE X Y i).length (ords (catE X Y i))) := fun i hi => by
  rcases (by omega : i = 0 ∨ i = 1) with rfl | rfl
  ·exact ⟨v1, hB.cell 0, h1⟩
  ·exact ⟨v2, hB.cell 1, h2⟩
 have HN := Lib.hid hn
 clear hB h1 h2 HB
 go_enter Try.func56, Try.ntmps56
 go_upto_region 1 with fail
 refine wp_text 1 [iE 0] rfl (by kernel_rfl) ?_ ?_
 ·refine sW 1 rfl (fun a u E D hk=>exec_assign _ _ rfl rfl) ?_
  exact fz
 intro gv wa hV ka
 rw [dq 1 [3]]
 simp only [F7]
 rw [gQ hV 0 3 (.int .i64 0)]
 clear hV
 refine wpList_nil ?_
 go_upto_region 2 with fail
 refine wp_text 3 [.eq (.slice (some ⟨g, 0, none⟩) 2 2), iE (2 : Int), iE 0] rfl (by kernel_rfl) ?_ ?_
 ·refine mE 1 0 ?_
  refine sW 2 rfl (fun a u E D hk=>exec_len _ _ _ slOO.und (some ⟨g, 0, none⟩) 2 2 rfl (dD D 0)) ?_
  refine sW 3 rfl (fun a u E D hk=>exec_move _ _ rfl rfl) ?_
  exact fz
 intro gv w0 hV k0
 rw [dq 3 [9,10,11]]
 simp only [F7]
 rw [gQ hV 0 9 (.slice (some ⟨g, 0, none⟩) 2 2)]
 rw [gQ hV 1 10 (.int .i64 (2 : Int))]
 rw [gQ hV 2 11 (.int .i64 0)]
 clear hV
 refine wpList_nil ?_
 have k00 := ka.trans k0
 clear ka k0
 go_wp2_with fail
 go_loopw [3, 11] (fun t x wr => ∃ (i : Nat) (m : Nat), i ≤ 2 ∧ x = .int .i64 (i : Int) ∧ t = .int .i64 (m : Int) ∧ Hid (m = (catP X Y i).length) ∧ Kept w wr) (fun _ x _ => 2 - (intOf x).toNat)
 case atStart => exact ⟨0, 0, by omega, rfl, rfl, rfl, k00⟩
 case round =>
  obtain ⟨i, m, hi, rfl, rfl, HM, hkr⟩ := hrel
  by_cases hlt : i < 2
  ·skip
   obtain ⟨ve, hve, hse⟩ := HE.out i hlt
   have HC := Lib.hid (hkr.cell hve)
   have HSE := Lib.hid (hse.kept hkr)
   clear hve hse
   obtain ⟨e, he⟩ : ∃ e, (catE X Y i).length = e := ⟨_, rfl⟩
   have heN : e ≤ 1000000 := by have := catE_len X Y i; have := HN.out; omega
   have HM2 : Hid (m + e = (catP X Y (i + 1)).length) := by show _ = _; rw [catP_next X Y i hlt, List.length_append, HM.out, he]
   have hmN : m ≤ 1000000 := by have := catP_len X Y i; have := HN.out; have := HM.out; omega
   rw [he] at HSE
   clear he HM
   go_upto_region 4 with fail
   refine wp_text 3 [pE g (0 + i * 1), .eq (ve), .eq (ve)] rfl (by kernel_rfl) ?_ ?_
   ·refine sW 1 rfl (fun a u E D hk=>exec_ixo slOO _ _ (g) (0) 2 2 i (0 + i * 1) ((i : Int)) rfl (eE E) (eE E) (by first | rfl | omega) (hlt) (by first | rfl | omega)) ?_
    refine sW 2 rfl (fun a u E D hk=>exec_ldv _ _ Try.underlying60 _ _ _ rfl (dD D 0) (Kept.cell hk (HC.out))) ?_
    refine mD 3 14 1 ?_
    exact fz
   intro gv w1 hV k1
   rw [dq 3 [13,14,5]]
   simp only [F7]
   rw [gQ hV 2 5 ve]
   clear hV
   refine wpList_nil ?_
   have kw1 := hkr.trans k1
   have HSE1 := Lib.hid (HSE.out.kept k1)
   clear k1 HC HSE
   go_upto_region 5 with fail
   refine wp_text 4 [iE (m : Int), .eq (ve), iE (e : Int), iE (((m : Int) : Int) + ((e : Int) : Int))] rfl (by kernel_rfl) ?_ ?_
   ·refine mE 1 3 ?_
    refine mE 2 5 ?_
    refine sW 3 rfl (fun a u E D hk=>exec_lenS _ slO _ _ _ _ rfl (dD D 1) HSE1.out) ?_
    refine sW 4 rfl (fun a u E D hk=>exec_addn (p := ((m : Int))) (q := ((e : Int))) (((m : Int) : Int) + ((e : Int) : Int)) rfl (dD D 0) (dD D 2) rfl (by omega) (by omega)) ?_
    exact fz
   intro gv w2 hV k2
   rw [dq 4 [15,16,17,18]]
   simp only [F7]
   rw [gQ hV 3 18 (.int .i64 (((m : Int) : Int) + ((e : Int) : Int)))]
   clear hV
   refine l_val (.int .i64 (((m : Int) : Int) + ((e : Int) : Int))) rfl (exec_assign _ _ rfl (by kernel_rfl)) ?_
   simp only [Act.put, sA, sS, sZ]
   refine wpList_nil ?_
   have kw2 := kw1.trans k2
   clear k2 kw1 HSE1
   have hnn : ¬ ((m : Int) + (e : Int) < 0) := by omega
   go_wp2
   exact ⟨⟨i + 1, m + e, by omega, by go_num, by go_num, HM2, kw2⟩, by simp [intOf]; omega⟩
  ·have hi2 : i = 2 := by omega
   subst hi2
   have hm : m = (X ++ Y).length := HM.out
   have hmN : m ≤ 1000000 := by rw [hm, List.length_append]; exact HN.out
   have HMM := Lib.hid hm
   clear HM hm
   go_upto_region 9 with fail
   refine wp_text 3 [iE (m : Int), .sl wr.heap.size 25 9 0 [], .sl wr.heap.size 25 9 0 []] rfl (by kernel_rfl) ?_ ?_
   ·refine mE 1 3 ?_
    refine cS 2 79 [.slice none 0 0, .int .i64 (m : Int)] rfl Try.func79 rfl (fun a u E D hk=>⟨ll rfl (ll (dD D 0) rfl), (growO_any u (.slice none 0 0) 0 m [] (Sl.nil _ _ _) (by omega)).mono (fun e w' ⟨v, h1, h2, h3, h4⟩ => ⟨v, h1, ⟨h2, fun b hb => (h4 b hb).elim (fun h => by simp [Value.ownBlock] at h) (fun h => Nat.le_trans hk.size h)⟩, h3⟩)⟩) ?_
    refine fsteps_cons 3 rfl (fun a u hE hD hk => f_val _ rfl (wanted_none rfl _) (exec_assign (.tmp 24) _ rfl rfl) (dD hD 1)) ?_
    exact fz
   intro gv w1 hV k1
   rw [dq 3 [23,24,6]]
   simp only [F7]
   have hv6 : (.sl wr.heap.size 25 9 0 [] : Kn).p (gv 6) w1 := hV 2 6 (by kernel_rfl)
   generalize gv 6 = v6 at hv6 ⊢
   clear hV
   refine wpList_nil ?_
   have kw1 := hkr.trans k1
   have zr := hkr.size
   have HV1 : Hid ((Kn.sl w.heap.size 25 9 (catP X Y 0).length (ords (catP X Y 0))).p v6 w1) := ⟨hv6.1, fun b hb => Nat.le_trans zr (hv6.2 b hb)⟩
   clear hv6 k1 hkr zr
   go_upto_region 10 with fail
   refine wp_text 3 [.eq (.slice (some ⟨g, 0, none⟩) 2 2), iE (2 : Int), iE 0] rfl (by kernel_rfl) ?_ ?_
   ·refine mE 1 0 ?_
    refine sW 2 rfl (fun a u E D hk=>exec_len _ _ _ slOO.und (some ⟨g, 0, none⟩) 2 2 rfl (dD D 0)) ?_
    refine sW 3 rfl (fun a u E D hk=>exec_move _ _ rfl rfl) ?_
    exact fz
   intro gv w2 hV k2
   rw [dq 3 [25,26,27]]
   simp only [F7]
   rw [gQ hV 0 25 (.slice (some ⟨g, 0, none⟩) 2 2)]
   rw [gQ hV 1 26 (.int .i64 (2 : Int))]
   rw [gQ hV 2 27 (.int .i64 0)]
   clear hV
   refine wpList_nil ?_
   have kw2 := kw1.trans k2
   have HV2 := Lib.hid ((Kn.sl w.heap.size 25 9 (catP X Y 0).length (ords (catP X Y 0))).st _ _ _ HV1.out k2)
   clear HV1 k2 kw1
   go_wp2_with fail
   go_loopw [6, 27] (fun t x wr => ∃ (i : Nat), i ≤ 2 ∧ x = .int .i64 (i : Int) ∧ Hid ((Kn.sl w.heap.size 25 9 (catP X Y i).length (ords (catP X Y i))).p t wr) ∧ Kept w wr) (fun _ x _ => 2 - (intOf x).toNat)
   case atStart => exact ⟨0, by omega, rfl, HV2.out, kw2⟩
   case round =>
    obtain ⟨i, hi, rfl, HV, hkr⟩ := hrel
    obtain ⟨vv, hvv⟩ : ∃ x, x = u6 := ⟨_, rfl⟩
    subst hvv
    by_cases hlt : i < 2
    ·skip
     obtain ⟨ve, hve, hse⟩ := HE.out i hlt
     have HC := Lib.hid (hkr.cell hve)
     have HSE := Lib.hid (hse.kept hkr)
     clear hve hse
     go_upto_region 12 with fail
     refine wp_text 3 [pE g (0 + i * 1), .eq (ve), .eq (ve)] rfl (by kernel_rfl) ?_ ?_
     ·refine sW 1 rfl (fun a u E D hk=>exec_ixo slOO _ _ (g) (0) 2 2 i (0 + i * 1) ((i : Int)) rfl (eE E) (eE E) (by first | rfl | omega) (hlt) (by first | rfl | omega)) ?_
      refine sW 2 rfl (fun a u E D hk=>exec_ldv _ _ Try.underlying60 _ _ _ rfl (dD D 0) (Kept.cell hk (HC.out))) ?_
      refine mD 3 30 1 ?_
      exact fz
     intro gv w3 hV k3
     rw [dq 3 [29,30,8]]
     simp only [F7]
     rw [gQ hV 2 8 ve]
     clear hV
     refine wpList_nil ?_
     have kw3 := hkr.trans k3
     have HSE3 := Lib.hid (HSE.out.kept k3)
     have HV3 := Lib.hid ((Kn.sl w.heap.size 25 9 (catP X Y i).length (ords (catP X Y i))).st _ _ _ HV.out k3)
     have z3 := kw3.size
     clear k3 HC HSE HV
     go_upto_region 13 with fail
     refine wp_text 2 [.eq (vv), .eq (ve)] rfl (by kernel_rfl) ?_ ?_
     ·refine mE 1 6 ?_
      refine mE 2 8 ?_
      exact fz
     intro gv w4 hV k4
     rw [dq 2 [31,32]]
     simp only [F7]
     rw [gQ hV 0 31 vv]
     rw [gQ hV 1 32 ve]
     clear hV
     have hl1 := catE_len X Y i
     have hl2 := catP_len X Y i
     have hl3 := HN.out
     obtain ⟨v5, w5, hr5, hs5, hk5, ho5⟩ := run_append_sl slO 60 w4 vv ve _ _ _ _ (HV3.out.1.kept k4) (HSE3.out.kept k4) (ords_one _) (by unfold maxLen; omega) (by omega)
     refine l_new v5 w5 rfl (exec_appS slO (.tmp 31) (.tmp 32) vv ve rfl (by kernel_rfl) (by kernel_rfl) v5 w5 hr5) ?_
     simp only [Act.put, sA, sS, sZ]
     refine l_val (v5) rfl (exec_assign _ _ rfl (by kernel_rfl)) ?_
     simp only [Act.put, sA, sS, sZ]
     refine wpList_nil ?_
     have z4 := k4.size
     have kw5 : Kept w w5 := Keep.trans (kw3.trans k4) hk5 (fun b hb hb' => by have := HV3.out.2 b hb'; omega)
     have HV5 : Hid ((Kn.sl w.heap.size 25 9 (catP X Y (i + 1)).length (ords (catP X Y (i + 1)))).p v5 w5) := by
      refine ⟨?_, fun b hb => ?_⟩
      ·rw [catP_next X Y i hlt, List.length_append]
       unfold ords at hs5 ⊢
       rw [List.flatMap_append]
       exact hs5
      ·rcases ho5 b hb with h | h
       ·exact HV3.out.2 b h
       ·omega
     clear hs5 hk5 ho5 HV3 HSE3 hr5 hl1 hl2 hl3 k4 kw3
     go_wp2
     exact ⟨⟨i + 1, by omega, by go_num, HV5, kw5⟩, by simp [intOf]; omega⟩
    ·have hi2 : i = 2 := by omega
     subst hi2
     have HF : Hid ((Kn.sl w.heap.size 25 9 (X ++ Y).length (ords (X ++ Y))).p vv wr) := HV.out
     clear HV
     go_wp2
     go_ret
     exact ⟨vv, rfl, HF.out, hkr⟩
set_option maxRecDepth 100000 in
set_option maxHeartbeats 1600000 in
theorem bfind_any (w : World) (F : Nat → Prop) (p : Nat) (B : Bok) (t j : Int) (h : Bk w F p B) (hI : Inv B) : Gives 28 #[.pointer (some ⟨p, 0, none⟩), .int .i64 t, .int .i64 j] w (.eq (.tuple #[(B.find t j).1.v, .bool (B.find t j).2])) := by
 refine gives_eq ?_
 have HK := Lib.hid h
 have HI := Lib.hid hI
 have hlen : (ordsL B.buys).length ≤ 64 ∧ (ordsL B.sells).length ≤ 64 := by
  have h1 := hI.two.mine.few
  have h2 := hI.two.theirs.few
  rw [ordsL_len, ordsL_len]
  exact ⟨h1, h2⟩
 have HLN := Lib.hid hlen
 have HAL : Hid (ordsL B.buys ++ ordsL B.sells = B.all.map (·.o)) := by show _ = _; unfold ordsL Bok.all; rw [List.map_append]
 clear h hI hlen
 go_enter Try.func28, Try.ntmps28
 go_upto_region 0 with fail
 refine wp_text 2 [.fresh w.heap.size 25 zeroO.cells, bE false] rfl (by kernel_rfl) ?_ ?_
 ·refine nW 1 rfl (fun a u E D hk=>⟨_, _, exec_alc 25 zeroO.cells rfl zO, ⟨_, rfl, hk.size, Blk.new u _ _⟩, ((Keep.refl _ u).alloc _)⟩) ?_
  refine sW 2 rfl (fun a u E D hk=>exec_assign _ _ rfl rfl) ?_
  exact fz
 intro gv wz hV kz
 rw [dq 2 [6,7]]
 simp only [F7]
 have hv6 : (.fresh w.heap.size 25 zeroO.cells : Kn).p (gv 6) wz := hV 0 6 (by kernel_rfl)
 generalize gv 6 = v6 at hv6 ⊢
 rw [gQ hV 1 7 (.bool false)]
 clear hV
 obtain ⟨b6, rfl, hb6, hB6⟩ := hv6
 refine wpList_nil ?_
 have HB6 := Lib.hid hB6
 have l6 := hB6.lt
 have HKz := Lib.hid (HK.out.kept kz)
 clear hB6
 obtain ⟨X, hX⟩ : ∃ X, ordsL B.buys = X := ⟨_, rfl⟩
 obtain ⟨Y, hY⟩ : ∃ Y, ordsL B.sells = Y := ⟨_, rfl⟩
 rw [hX, hY] at HLN HAL
 have HX := Lib.hid hX
 have HY := Lib.hid hY
 clear hX hY
 obtain ⟨n, hn⟩ : ∃ n, (X ++ Y).length = n := ⟨_, rfl⟩
 have hn1 : n ≤ 128 := by rw [← hn, List.length_append]; have := HLN.out; omega
 have HN := Lib.hid hn
 clear hn
 go_upto_region 1 with fail
 refine wp_free 12 [pE p 0, pE p 0, pE p 0, .sl wz.heap.size 25 9 X.length (ords X), pE p 0, pE p 0, pE p 2, .sl wz.heap.size 25 9 Y.length (ords Y), .cat wz.heap.size X Y, .sl wz.heap.size 25 9 n (ords (X ++ Y)), iE (n : Int), iE 0] (by kernel_rfl) rfl (by kernel_rfl) ?_ ?_
 ·refine mE 1 0 ?_
  refine nD 2 10 0 ?_
  refine fD 3 11 1 75 0 0 0 ?_
  refine cS 4 57 [.pointer (some ⟨p, 0, none⟩)] rfl Try.func57 rfl (fun a u E D hk=>⟨ll (dD D 2) rfl, (by obtain ⟨F', hL⟩ := (HKz.out.kept hk).lad (.inl rfl : (1 : Int) = 1 ∨ (1 : Int) = 2); have hd := gives_base (lorders_any u F' p 0 1 _ hL (HI.out.ok 1)) hk.size; rw [show ordsL (B.sd 1) = X from HX.out] at hd; exact hd)⟩) ?_
  refine mE 5 0 ?_
  refine nD 6 14 4 ?_
  refine fD 7 15 5 75 1 2 0 ?_
  refine cS 8 57 [.pointer (some ⟨p, 2, none⟩)] rfl Try.func57 rfl (fun a u E D hk=>⟨ll (dD D 6) rfl, (by obtain ⟨F', hL⟩ := (HKz.out.kept hk).lad (.inr rfl : (2 : Int) = 1 ∨ (2 : Int) = 2); have hd := gives_base (lorders_any u F' p 2 2 _ hL (HI.out.ok 2)) hk.size; rw [show ordsL (B.sd 2) = Y from HY.out] at hd; exact hd)⟩) ?_
  refine nW 9 rfl (fun a u E D hk=>⟨_, _, exec_two1 slOO _ _ _ _ rfl rfl rfl (sl_cells (D 3 13 (by kernel_rfl)).1) (sl_cells (D 7 17 (by kernel_rfl)).1), ⟨u.heap.size, rfl, hk.size, _, _, Blk.new u _ _, (D 3 13 (by kernel_rfl)).1.kept ((Keep.refl _ u).alloc _), (D 7 17 (by kernel_rfl)).1.kept ((Keep.refl _ u).alloc _)⟩, ((Keep.refl _ u).alloc _)⟩) ?_
  refine fsteps_cons 10 rfl (fun a u hE hD hk => f_call 56 #[a.eval (.tmp 18)] rfl (wanted_none rfl _) (exec_call 56 _ [.tmp 18] _ [a.eval (.tmp 18)] Try.func56 (by kernel_rfl) (by kernel_rfl) rfl rfl u) ((by obtain ⟨gg, hx, hgb, hcat⟩ := (hD 8 18 (by kernel_rfl)); have hd := gives_base (concat_any u gg X Y hcat (by have := HLN.out; omega)) hk.size; rw [HN.out] at hd; rw [hx]; exact hd))) ?_
  refine sW 11 rfl (fun a u E D hk=>exec_lenS _ slO _ _ _ _ rfl rfl (D 9 19 (by kernel_rfl)).1) ?_
  refine sW 12 rfl (fun a u E D hk=>exec_move _ _ rfl rfl) ?_
  exact fz
 intro gv w0 hV k0
 rw [dq 12 [10,11,12,13,14,15,16,17,18,19,20,21]]
 simp only [F7]
 have hv19 : (.sl wz.heap.size 25 9 n (ords (X ++ Y)) : Kn).p (gv 19) w0 := hV 9 19 (by kernel_rfl)
 generalize gv 19 = v19 at hv19 ⊢
 rw [gQ hV 10 20 (.int .i64 (n : Int))]
 rw [gQ hV 11 21 (.int .i64 0)]
 clear hV
 refine wpList_nil ?_
 have HS0 := Lib.hid hv19.1
 have HB60 := Lib.hid (HB6.out.kept k0)
 have z0 := k0.size
 have k00 := kz.trans k0
 obtain ⟨vs, hvs⟩ : ∃ x, x = v19 := ⟨_, rfl⟩
 subst hvs
 clear hv19 HB6 HKz kz k0
 go_wp2_with fail
 go_loopw [21] (fun x wr => ∃ (i : Nat), i ≤ n ∧ x = .int .i64 (i : Int) ∧ Hid (∀ (j' : Nat) (x : Ent), j' < i → B.all[j']? = some x → x.is t j = false) ∧ Kept w0 wr) (fun x _ => n - (intOf x).toNat)
 case atStart => exact ⟨0, Nat.zero_le _, rfl, fun j' x hj => (by omega), Kept.refl _⟩
 case round =>
  obtain ⟨i, hi, rfl, HM, hkr⟩ := hrel
  have HAN : Hid (B.all.length = n) := by show _ = _; rw [← HN.out, HAL.out, List.length_map]
  by_cases hlt : i < n
  ·skip
   obtain ⟨g, off, c, rfl⟩ := HS0.out.some_ (by omega)
   obtain ⟨E, hE⟩ : ∃ E, B.all[i]? = some E := ⟨B.all[i]'(by rw [HAN.out]; exact hlt), List.getElem?_eq_getElem (by rw [HAN.out]; exact hlt)⟩
   obtain ⟨e, he⟩ : ∃ e, E.o = e := ⟨_, rfl⟩
   have HE : Hid (wr.rangeAt g (off + i * 9) e.cells) := range_kept (HS0.out.rngO i e (by rw [HAL.out, List.getElem?_map, hE, ← he]; rfl)) hkr
   have HEI := Lib.hid hE
   have HEO := Lib.hid he
   have HB6r := Lib.hid (HB60.out.kept hkr)
   clear hE he
   go_upto_region 3 with fail
   refine wp_text 3 [pE g (off + i * 9), .eq (e.v), .fresh wr.heap.size 25 zeroO.cells] rfl (by kernel_rfl) ?_ ?_
   ·refine sW 1 rfl (fun a u E D hk=>exec_ixo slO _ _ (g) (off) n c i (off + i * 9) ((i : Int)) rfl (eE E) (eE E) (by first | rfl | omega) (hlt) (by first | rfl | omega)) ?_
    refine sW 2 rfl (fun a u E D hk=>exec_ldS 25 _ _ (g) (off + i * 9) (e.cells) rfl (dD D 0) (range_kept HE.out hk) Try.underlying25 (by rw [e.len9]; exact ord_size)) ?_
    refine nW 3 rfl (fun a u E D hk=>⟨_, _, exec_alc 25 zeroO.cells rfl zO, ⟨_, rfl, hk.size, Blk.new u _ _⟩, ((Keep.refl _ u).alloc _)⟩) ?_
    exact fz
   intro gv w1 hV k1
   rw [dq 3 [23,24,9]]
   simp only [F7]
   have hv9 : (.fresh wr.heap.size 25 zeroO.cells : Kn).p (gv 9) w1 := hV 2 9 (by kernel_rfl)
   generalize gv 9 = v9 at hv9 ⊢
   rw [gQ hV 1 24 e.v]
   clear hV
   obtain ⟨b9, rfl, hb9, hB9⟩ := hv9
   refine l_setS 25 b9 25 zeroO.cells e.cells _ _ rfl rfl (by kernel_rfl) (by kernel_rfl) hB9 (by rw [Ord.len9]; exact ord_size) (by rw [Ord.len9, Ord.len9]) (Ord.one1 _) ?_
   intro w2 hB2 hk2 hs2
   simp only [Act.put]
   refine wpList_nil ?_
   have k12 : Kept wr w2 := k1.trans' hk2 (by omega)
   have kw2 := hkr.trans k12
   have HB9 := Lib.hid (blk_range hB2)
   have HB62 := Lib.hid (HB6r.out.kept k12)
   have zr := hkr.size
   clear hB9 hB2 hk2 hs2 k1 HE HB6r k12
   by_cases hc1 : e.tr = t
   ·by_cases hc2 : e.id = j
    ·have HR : Hid (B.find t j = (e, true)) := by
      show _ = _
      have h1 := idx_of HM.out HEI.out (by rw [← HEO.out] at hc1 hc2; simp [Ent.is, hc1, hc2])
      unfold Bok.find findE
      rw [h1, HEI.out]
      simp only
      rw [HEO.out]
     go_upto_region 4 with fail
     refine wp_text 9 [pE b9 0, iE e.tr, iE t, bE true, bE true, pE b9 1, iE e.id, iE j, bE true] rfl (by kernel_rfl) ?_ ?_
     ·refine fE 1 9 25 0 0 0 ?_
      refine sW 2 rfl (fun a u E D hk=>exec_loadi _ Try.underlying3 _ _ _ rfl (dD D 0) (range_int (range_kept HB9.out hk) 0 _ rfl)) ?_
      refine mE 3 1 ?_
      refine aS 4 rfl (fun a u E D hk=>exec_eqn rfl (dD D 1) (dD D 2)) (decide_eq_true hc1) ?_
      refine mD 5 28 3 ?_
      refine fE 6 9 25 1 1 0 ?_
      refine sW 7 rfl (fun a u E D hk=>exec_loadi _ Try.underlying3 _ _ _ rfl (dD D 5) (range_int (range_kept HB9.out hk) 1 _ rfl)) ?_
      refine mE 8 2 ?_
      refine aS 9 rfl (fun a u E D hk=>exec_eqn rfl (dD D 6) (dD D 7)) (decide_eq_true hc2) ?_
      exact fz
     intro gv w3 hV k3
     rw [dq 9 [25,26,27,28,29,30,31,32,33]]
     simp only [F7]
     rw [gQ hV 4 29 (.bool true)]
     rw [gQ hV 8 33 (.bool true)]
     clear hV
     refine l_val (.bool true) rfl (exec_pick (.tmp 29) (.tmp 33) (.const (.bool false)) (.bool true) rfl (by kernel_rfl) (by kernel_rfl)) ?_
     simp only [Act.put, sA, sS, sZ]
     refine wpList_nil ?_
     have kw3 := kw2.trans k3
     have HB93 := Lib.hid (range_kept HB9.out k3)
     have HB63 := Lib.hid (HB62.out.kept k3)
     clear HM HB9 HB62 kw2 k3 hc1 hc2
     go_upto_region 5 with fail
     refine wp_text 1 [.eq (e.v)] rfl (by kernel_rfl) ?_ ?_
     ·refine sW 1 rfl (fun a u E D hk=>exec_ldS 25 _ _ (b9) (0) (e.cells) rfl (eE E) (range_kept HB93.out hk) Try.underlying25 (by rw [e.len9]; exact ord_size)) ?_
      exact fz
     intro gv w4 hV k4
     rw [dq 1 [35]]
     simp only [F7]
     rw [gQ hV 0 35 e.v]
     clear hV
     refine l_setS 25 b6 25 zeroO.cells e.cells _ _ rfl rfl (by kernel_rfl) (by kernel_rfl) (HB63.out.kept k4) (by rw [Ord.len9]; exact ord_size) (by rw [Ord.len9, Ord.len9]) (Ord.one1 _) ?_
     intro w5 hB5 hk5 hs5
     simp only [Act.put]
     refine l_val (.bool true) rfl (exec_assign _ _ rfl (by kernel_rfl)) ?_
     simp only [Act.put, sA, sS, sZ]
     refine wpList_nil ?_
     go_wp2
     refine bodyPost_ret (results_cell2 (p := 6) (q := 7) rfl _ _ b6 _ e.cells true rfl rfl hB5 Try.underlying25 (by rw [Ord.len9]; exact ord_size)) rfl ?_
     rw [HR.out]
     exact ⟨rfl, ((k00.trans kw3).trans k4).trans' hk5 (by omega)⟩
    ·skip
     go_upto_region 4 with fail
     refine wp_text 9 [pE b9 0, iE e.tr, iE t, bE true, bE true, pE b9 1, iE e.id, iE j, bE false] rfl (by kernel_rfl) ?_ ?_
     ·refine fE 1 9 25 0 0 0 ?_
      refine sW 2 rfl (fun a u E D hk=>exec_loadi _ Try.underlying3 _ _ _ rfl (dD D 0) (range_int (range_kept HB9.out hk) 0 _ rfl)) ?_
      refine mE 3 1 ?_
      refine aS 4 rfl (fun a u E D hk=>exec_eqn rfl (dD D 1) (dD D 2)) (decide_eq_true hc1) ?_
      refine mD 5 28 3 ?_
      refine fE 6 9 25 1 1 0 ?_
      refine sW 7 rfl (fun a u E D hk=>exec_loadi _ Try.underlying3 _ _ _ rfl (dD D 5) (range_int (range_kept HB9.out hk) 1 _ rfl)) ?_
      refine mE 8 2 ?_
      refine aS 9 rfl (fun a u E D hk=>exec_eqn rfl (dD D 6) (dD D 7)) (decide_eq_false hc2) ?_
      exact fz
     intro gv w3 hV k3
     rw [dq 9 [25,26,27,28,29,30,31,32,33]]
     simp only [F7]
     rw [gQ hV 4 29 (.bool true)]
     rw [gQ hV 8 33 (.bool false)]
     clear hV
     refine l_val (.bool false) rfl (exec_pick (.tmp 29) (.tmp 33) (.const (.bool false)) (.bool false) rfl (by kernel_rfl) (by kernel_rfl)) ?_
     simp only [Act.put, sA, sS, sZ]
     refine wpList_nil ?_
     have kw3 := kw2.trans k3
     have HM2 : Hid (∀ (j' : Nat) (x : Ent), j' < i + 1 → B.all[j']? = some x → x.is t j = false) := by
      intro j' x hj hx
      by_cases hjk : j' = i
      ·subst hjk
       rw [HEI.out] at hx
       injection hx with hx
       rw [← hx]
       have hE1 := HEO.out
       subst hE1
       simp [Ent.is]
       exact fun _ => hc2
      ·exact HM.out j' x (by omega) hx
     clear HM k3
     go_wp2
     exact ⟨⟨i + 1, by omega, by go_num, HM2, kw3⟩, by simp [intOf]; omega⟩
   ·skip
    go_upto_region 4 with fail
    refine wp_text 9 [pE b9 0, iE e.tr, iE t, bE false, bE false, uE, uE, uE, uE] rfl (by kernel_rfl) ?_ ?_
    ·refine fE 1 9 25 0 0 0 ?_
     refine sW 2 rfl (fun a u E D hk=>exec_loadi _ Try.underlying3 _ _ _ rfl (dD D 0) (range_int (range_kept HB9.out hk) 0 _ rfl)) ?_
     refine mE 3 1 ?_
     refine aS 4 rfl (fun a u E D hk=>exec_eqn rfl (dD D 1) (dD D 2)) (decide_eq_false hc1) ?_
     refine mD 5 28 3 ?_
     refine kS 6 4 ?_
     refine kS 7 4 ?_
     refine kS 8 4 ?_
     refine kS 9 4 ?_
     exact fz
    intro gv w3 hV k3
    rw [dq 9 [25,26,27,28,29,30,31,32,33]]
    simp only [F7]
    rw [gQ hV 4 29 (.bool false)]
    rw [gQ hV 8 33 undef]
    clear hV
    refine l_val (.bool false) rfl (exec_pickF (.tmp 29) (.tmp 33) (.const (.bool false)) (.bool false) rfl (by kernel_rfl) rfl) ?_
    simp only [Act.put, sA, sS, sZ]
    refine wpList_nil ?_
    have kw3 := kw2.trans k3
    have HM2 : Hid (∀ (j' : Nat) (x : Ent), j' < i + 1 → B.all[j']? = some x → x.is t j = false) := by
     intro j' x hj hx
     by_cases hjk : j' = i
     ·subst hjk
      rw [HEI.out] at hx
      injection hx with hx
      rw [← hx]
      have hE1 := HEO.out
      subst hE1
      simp [Ent.is]
      exact fun h => absurd h hc1
     ·exact HM.out j' x (by omega) hx
    clear HM k3
    go_wp2
    exact ⟨⟨i + 1, by omega, by go_num, HM2, kw3⟩, by simp [intOf]; omega⟩
  ·have HR : Hid (B.find t j = (zeroO, false)) := by
    show _ = _
    have h1 : idxM t j B.all = B.all.length := idx_none (fun j' x hj hx => HM.out j' x (by rw [HAN.out] at hj; omega) hx)
    unfold Bok.find findE
    rw [h1, List.getElem?_eq_none (Nat.le_refl _)]
   have HB6r := Lib.hid (HB60.out.kept hkr)
   clear HM
   go_upto_region 7 with fail
   refine wp_text 1 [.eq (zeroO.v)] rfl (by kernel_rfl) ?_ ?_
   ·refine sW 1 rfl (fun a u E D hk=>exec_build 25 [] zeroO.cells rfl (by kernel_rfl)) ?_
    exact fz
   intro gv w4 hV k4
   rw [dq 1 [37]]
   simp only [F7]
   rw [gQ hV 0 37 zeroO.v]
   clear hV
   refine l_setS 25 b6 25 zeroO.cells zeroO.cells _ _ rfl rfl (by kernel_rfl) (by kernel_rfl) (HB6r.out.kept k4) (by rw [Ord.len9]; exact ord_size) rfl (Ord.one1 _) ?_
   intro w5 hB5 hk5 hs5
   simp only [Act.put]
   refine l_val (.bool false) rfl (exec_assign _ _ rfl (by kernel_rfl)) ?_
   simp only [Act.put, sA, sS, sZ]
   refine wpList_nil ?_
   go_wp2
   refine bodyPost_ret (results_cell2 (p := 6) (q := 7) rfl _ _ b6 _ zeroO.cells false rfl rfl hB5 Try.underlying25 (by rw [Ord.len9]; exact ord_size)) rfl ?_
   rw [HR.out]
   exact ⟨rfl, ((k00.trans hkr).trans k4).trans' hk5 (by omega)⟩
theorem entL_at {L : List Lev} {i m : Nat} {pr : Int} {X : List Ent} {e : Ent} (h : L[i]? = some (pr, X)) (he : X[m]? = some e) : (entL L)[(entL (L.take i)).length + m]? = some e := by
 have e1 : L = L.take (i + 1) ++ L.drop (i + 1) := (List.take_append_drop _ _).symm
 have hm := (List.getElem?_eq_some_iff.1 he).1
 rw [e1, entL_append, entL_take h, List.take_append_of_le_length (by have := (List.getElem?_eq_some_iff.1 h).1; rw [List.length_take]; omega), List.take_take, Nat.min_eq_left (by omega)]
 rw [List.append_assoc, List.getElem?_append_right (by omega), Nat.add_sub_cancel_left, List.getElem?_append_left hm]
 exact he
theorem all_at {B : Bok} {k i m : Nat} {pr : Int} {X : List Ent} {e : Ent} (hk : k < 3) (h : (B.sd (k : Int))[i]? = some (pr, X)) (he : X[m]? = some e) : B.all[lenTo B k + (entL ((B.sd (k : Int)).take i)).length + m]? = some e := by
 have h0 := entL_at h he
 have hk3 : k = 0 ∨ k = 1 ∨ k = 2 := by omega
 rcases hk3 with rfl | rfl | rfl
 ·cases h
 ·have h1 : (entL B.buys)[(entL (B.buys.take i)).length + m]? = some e := h0
  have hl := (List.getElem?_eq_some_iff.1 h1).1
  show (entL B.buys ++ entL B.sells)[0 + (entL (B.buys.take i)).length + m]? = some e
  rw [Nat.zero_add, List.getElem?_append_left hl]
  exact h1
 ·show (entL B.buys ++ entL B.sells)[(entL B.buys).length + (entL (B.sells.take i)).length + m]? = some e
  rw [Nat.add_assoc, List.getElem?_append_right (by omega), Nat.add_sub_cancel_left]
  exact h0
def NoneTo (t i : Int) (X : List Ent) (n : Nat) : Prop := ∀ (j : Nat) (x : Ent), j < n → X[j]? = some x → x.is t i = false
theorem NoneTo.step {t i : Int} {X : List Ent} {n : Nat} {e : Ent} (h : NoneTo t i X n) (he : X[n]? = some e) (hn : ¬ (e.o.tr = t ∧ e.o.id = i)) : NoneTo t i X (n + 1) := by
 intro j x hj hx
 by_cases hjn : j = n
 ·subst hjn
  rw [he] at hx
  injection hx with hx
  rw [← hx]
  simp [Ent.is]
  exact fun h1 h2 => hn ⟨h1, h2⟩
 ·exact h j x (by omega) hx
set_option maxRecDepth 100000 in
set_option maxHeartbeats 1600000 in
theorem rbfind_any (w : World) (F : Nat → Prop) (p : Nat) (B : Bok) (t id : Int) (h : RBk w F p B) (hI : Inv B) : Gives 29 #[.pointer (some ⟨p, 0, none⟩), .int .i64 t, .int .i64 id] w (.eq (.tuple #[(B.find t id).1.v, .bool (B.find t id).2])) := by
 refine gives_eq ?_
 have HB := Lib.hid h
 have HI := Lib.hid hI
 clear h hI
 go_enter Try.func29, Try.ntmps29
 go_upto_region 0 with fail
 refine wp_text 2 [.fresh w.heap.size 25 zeroO.cells, bE false] rfl (by kernel_rfl) ?_ ?_
 ·refine nW 1 rfl (fun a u E D hk=>⟨_, _, exec_alc 25 zeroO.cells rfl zO, ⟨_, rfl, hk.size, Blk.new u _ _⟩, ((Keep.refl _ u).alloc _)⟩) ?_
  refine sW 2 rfl (fun a u E D hk=>exec_assign _ _ rfl rfl) ?_
  exact fz
 intro gv wz hV kz
 rw [dq 2 [6,7]]
 simp only [F7]
 have hv6 : (.fresh w.heap.size 25 zeroO.cells : Kn).p (gv 6) wz := hV 0 6 (by kernel_rfl)
 generalize gv 6 = v6 at hv6 ⊢
 rw [gQ hV 1 7 (.bool false)]
 clear hV
 obtain ⟨b6, rfl, hb6, hB6⟩ := hv6
 refine wpList_nil ?_
 have HB6 := Lib.hid hB6
 have l6 := hB6.lt
 have HBz := Lib.hid (HB.out.kept kz)
 clear hB6 HB
 go_wp2_with fail
 go_loopw [13] (fun q wr => ∃ (k : Nat), k ≤ 3 ∧ q = .int .i64 (k : Int) ∧ Hid (NoneTo t id B.all (lenTo B k)) ∧ Kept wz wr) (fun q _ => 3 - (intOf q).toNat)
 case atStart => exact ⟨0, by omega, rfl, fun j x hj => (by simp [lenTo] at hj), Kept.refl _⟩
 case round =>
  obtain ⟨k, hk3, rfl, HNO, hkr⟩ := hrel
  by_cases hk : k < 3
  ·have hst := lenTo_step B hk
   have HBW := HBz.out.kept hkr
   obtain ⟨L, hLe⟩ : ∃ L, B.sd (k : Int) = L := ⟨_, rfl⟩
   have hL : LvsOk L := by rw [← hLe]; exact HI.out.ok _
   obtain ⟨v, F1, hv0, hW⟩ := HBW.way3 hk
   rw [hLe] at hW
   obtain ⟨Z, G, eL, hW⟩ := hW
   have hn64 : Z.length ≤ 64 := by have := hL.len; rw [← eL, levs_len] at this; exact this
   have HLe := Lib.hid hLe
   have HV := Lib.hid hv0
   have HW := Lib.hid hW
   have HL := Lib.hid hL
   have EL := Lib.hid eL
   obtain ⟨n, hn⟩ : ∃ n, Z.length = n := ⟨_, rfl⟩
   have HSL := Lib.hid hW.sl
   rw [hn] at HSL hn64
   have HN := Lib.hid hn
   clear hLe hv0 hW hL eL hn
   have HST := Lib.hid hst
   clear hst HBW
   go_upto_region 4 with fail
   refine wp_text 8 [pE p 0, iE (k : Int), pE p 0, pE p 0, pE p (0 + k * 1), .eq (v), iE (n : Int), iE 0] rfl (by kernel_rfl) ?_ ?_
   ·refine mE 1 0 ?_
    refine mE 2 8 ?_
    refine nD 3 16 0 ?_
    refine fD 4 18 2 46 0 0 0 ?_
    refine sW 5 rfl (fun a u E D hk=>exec_elem 44 43 3 1 _ _ p 0 k rfl Try.underlying44 (by kernel_rfl) (dD D 3) (dD D 1) (by omega)) ?_
    refine sW 6 rfl (fun a u E D hk=>exec_ldv _ _ Try.underlying43 _ _ _ rfl (dD D 4) (Kept.cell hk (HV.out))) ?_
    refine sW 7 rfl (fun a u E D hk=>exec_lenS _ slQR _ _ _ _ rfl (dD D 5) HSL.out) ?_
    refine sW 8 rfl (fun a u E D hk=>exec_move _ _ rfl rfl) ?_
    exact fz
   intro gv w1 hV k1
   rw [dq 8 [16,17,18,19,20,21,22,23]]
   simp only [F7]
   rw [gQ hV 5 21 v]
   rw [gQ hV 6 22 (.int .i64 (n : Int))]
   rw [gQ hV 7 23 (.int .i64 0)]
   clear hV
   refine wpList_nil ?_
   have kw1 := hkr.trans k1
   have HW1 := Lib.hid (HW.out.kept k1)
   have HSL1 := Lib.hid (HSL.out.kept k1)
   clear HV HW HSL k1 hkr
   go_wp2_with fail
   rw [show (decide ((k : Int) < 3)) = true from decide_eq_true (by omega)]
   go_loopw [23] (fun q wr => ∃ (i : Nat), i ≤ n ∧ q = .int .i64 (i : Int) ∧ Hid (NoneTo t id B.all (lenTo B k + (entL (L.take i)).length)) ∧ Kept w1 wr) (fun q _ => n - (intOf q).toNat)
   case atStart => exact ⟨0, Nat.zero_le _, rfl, by show NoneTo _ _ _ _; rw [List.take_zero]; exact HNO.out, Kept.refl _⟩
   case round =>
    obtain ⟨i, hi, rfl, HNO2, hkr⟩ := hrel
    by_cases hlt : i < n
    ·skip
     obtain ⟨gs, os, cc, rfl⟩ := HSL1.out.some_ (by omega)
     obtain ⟨z, hz⟩ : ∃ z, Z[i]? = some z := ⟨Z[i]'(by rw [HN.out]; omega), List.getElem?_eq_getElem (by rw [HN.out]; omega)⟩
     obtain ⟨q, pr, X⟩ := z
     have hcell := (HW1.out.kept hkr).cell hz
     have HC := Lib.hid hcell
     have HLV := Lib.hid ((HW1.out.kept hkr).lv (q, pr, X) (List.mem_of_getElem? hz))
     have HA : Hid (L[i]? = some (pr, X)) := by show _ = _; rw [← EL.out]; exact levs_at hz
     have hXl : X.length ≤ 64 := by
      have h1 := entL_part L (i + 1)
      rw [entL_take HA.out, List.length_append] at h1
      simp only at h1
      have := HL.out.few
      omega
     obtain ⟨_, _, vq, hq1, hq2, _⟩ := HLV.out
     have HQ := Lib.hid (hq1.cell 1)
     have HQS := Lib.hid hq2
     obtain ⟨xn, hxn⟩ : ∃ y, X.length = y := ⟨_, rfl⟩
     rw [hxn] at HQS hXl
     have HXN := Lib.hid hxn
     clear hcell hz hq1 hq2 HLV hxn
     go_upto_region 6 with fail
     refine wp_text 2 [pE gs (os + i * 1), pE q 0] rfl (by kernel_rfl) ?_ ?_
     ·refine sW 1 rfl (fun a u E D hk=>exec_ixo slQR _ _ (gs) (os) n cc i (os + i * 1) ((i : Int)) rfl (eE E) (eE E) (by first | rfl | omega) (hlt) (by first | rfl | omega)) ?_
      refine sW 2 rfl (fun a u E D hk=>exec_ldp _ _ Try.underlying87 _ _ _ rfl (dD D 0) (Kept.cell hk (HC.out))) ?_
      exact fz
     intro gv w2 hV k2
     rw [dq 2 [25,26]]
     simp only [F7]
     rw [gQ hV 1 26 (.pointer (some ⟨q, 0, none⟩))]
     clear hV
     refine l_val (.pointer (some ⟨q, 0, none⟩)) rfl (exec_assign _ _ rfl (by kernel_rfl)) ?_
     simp only [Act.put, sA, sS, sZ]
     refine wpList_nil ?_
     have HQ2 := Lib.hid (k2.cell HQ.out)
     have HQS2 := Lib.hid (HQS.out.kept k2)
     go_upto_region 7 with fail
     refine wp_text 6 [pE q 0, pE q 0, pE q 1, .eq (vq), iE (xn : Int), iE 0] rfl (by kernel_rfl) ?_ ?_
     ·refine mE 1 10 ?_
      refine nD 2 27 0 ?_
      refine fD 3 28 1 86 1 1 0 ?_
      refine sW 4 rfl (fun a u E D hk=>exec_ldv _ _ Try.underlying84 _ _ _ rfl (dD D 2) (Kept.cell hk (HQ2.out))) ?_
      refine sW 5 rfl (fun a u E D hk=>exec_lenS _ slR _ _ _ _ rfl (dD D 3) HQS2.out) ?_
      refine sW 6 rfl (fun a u E D hk=>exec_move _ _ rfl rfl) ?_
      exact fz
     intro gv w3 hV k3
     rw [dq 6 [27,28,29,30,31,32]]
     simp only [F7]
     rw [gQ hV 3 30 vq]
     rw [gQ hV 4 31 (.int .i64 (xn : Int))]
     rw [gQ hV 5 32 (.int .i64 0)]
     clear hV
     refine wpList_nil ?_
     have kw3 := (kw1.trans hkr).trans (k2.trans k3)
     have k13 : Kept w1 w3 := hkr.trans (k2.trans k3)
     have HQS3 := Lib.hid (HQS2.out.kept k3)
     clear HC HQ HQS HQ2 HQS2 k2 k3 hkr
     go_wp2_with fail
     go_loopw [32] (fun q wr => ∃ (m : Nat), m ≤ xn ∧ q = .int .i64 (m : Int) ∧ Hid (NoneTo t id B.all (lenTo B k + (entL (L.take i)).length + m)) ∧ Kept w3 wr) (fun q _ => xn - (intOf q).toNat)
     case atStart => exact ⟨0, Nat.zero_le _, rfl, HNO2.out, Kept.refl _⟩
     case round =>
      obtain ⟨m, hm, rfl, HNO3, hkr⟩ := hrel
      by_cases hmt : m < xn
      ·obtain ⟨ge, oe, ce, rfl⟩ := HQS3.out.some_ (by omega)
       obtain ⟨e, he⟩ : ∃ e, X[m]? = some e := ⟨X[m]'(by rw [HXN.out]; exact hmt), List.getElem?_eq_getElem (by rw [HXN.out]; exact hmt)⟩
       have HE : Hid (wr.rangeAt ge (oe + m * 10) e.cells) := range_kept (HQS3.out.rng m e he) hkr
       have HAT : Hid (B.all[lenTo B k + (entL (L.take i)).length + m]? = some e) := by
        have h1 := HA.out
        show _ = _
        rw [← HLe.out] at h1 ⊢
        exact all_at hk h1 he
       have HB6r := Lib.hid (HB6.out.kept (kw3.trans hkr))
       have zr := (kw3.trans hkr).size
       clear he
       go_upto_region 9 with fail
       refine wp_text 3 [pE ge (oe + m * 10), .eq (e.v), .fresh wr.heap.size 95 zeroE.cells] rfl (by kernel_rfl) ?_ ?_
       ·refine sW 1 rfl (fun a u E D hk=>exec_ixo slR _ _ (ge) (oe) xn ce m (oe + m * 10) ((m : Int)) rfl (eE E) (eE E) (by first | rfl | omega) (hmt) (by first | rfl | omega)) ?_
        refine sW 2 rfl (fun a u E D hk=>exec_ldS 95 _ _ (ge) (oe + m * 10) (e.cells) rfl (dD D 0) (range_kept HE.out hk) Try.underlying95 (by rw [e.len10]; exact szR)) ?_
        refine nW 3 rfl (fun a u E D hk=>⟨_, _, exec_alc 95 zeroE.cells rfl zR, ⟨_, rfl, hk.size, Blk.new u _ _⟩, ((Keep.refl _ u).alloc _)⟩) ?_
        exact fz
       intro gv w4a hV k4a
       rw [dq 3 [34,35,12]]
       simp only [F7]
       have hv12 : (.fresh wr.heap.size 95 zeroE.cells : Kn).p (gv 12) w4a := hV 2 12 (by kernel_rfl)
       generalize gv 12 = v12 at hv12 ⊢
       rw [gQ hV 1 35 e.v]
       clear hV
       obtain ⟨b12, rfl, hb12, hB12⟩ := hv12
       refine l_setS 95 b12 95 zeroE.cells e.cells _ _ rfl rfl (by kernel_rfl) (by kernel_rfl) hB12 (by rw [Ent.len10]; exact szR) (by rw [Ent.len10, Ent.len10]) (Ent.one _) ?_
       intro w4 hB4 hk4 hs4
       simp only [Act.put]
       refine wpList_nil ?_
       have k4 : Kept wr w4 := k4a.trans' hk4 (by omega)
       have kw4 := hkr.trans k4
       have HB12 := Lib.hid (blk_range hB4)
       have HB64 := Lib.hid (HB6r.out.kept k4)
       clear hB12 hB4 hk4 hs4 k4a HE HB6r k4
       by_cases hc1 : e.o.tr = t
       ·by_cases hc2 : e.o.id = id
        ·have HR : Hid (B.find t id = (e.o, true)) := by
          show _ = _
          have h1 := idx_of HNO3.out HAT.out (by simp [Ent.is, hc1, hc2])
          unfold Bok.find findE
          rw [h1, HAT.out]
         go_upto_region 10 with fail
         refine wp_text 12 [pE b12 0, pE b12 0, iE e.o.tr, iE t, bE true, bE true, pE b12 0, pE b12 1, iE e.o.id, iE id, bE true, bE true] rfl (by kernel_rfl) ?_ ?_
         ·refine fE 1 12 95 0 0 0 ?_
          refine fD 2 36 0 25 0 0 0 ?_
          refine sW 3 rfl (fun a u E D hk=>exec_loadi _ Try.underlying3 _ _ _ rfl (dD D 1) (range_int (range_kept HB12.out hk) 0 _ rfl)) ?_
          refine mE 4 1 ?_
          refine aS 5 rfl (fun a u E D hk=>exec_eqn rfl (dD D 2) (dD D 3)) (decide_eq_true hc1) ?_
          refine mD 6 40 4 ?_
          refine fE 7 12 95 0 0 0 ?_
          refine fD 8 42 6 25 1 1 0 ?_
          refine sW 9 rfl (fun a u E D hk=>exec_loadi _ Try.underlying3 _ _ _ rfl (dD D 7) (range_int (range_kept HB12.out hk) 1 _ rfl)) ?_
          refine mE 10 2 ?_
          refine aS 11 rfl (fun a u E D hk=>exec_eqn rfl (dD D 8) (dD D 9)) (decide_eq_true hc2) ?_
          refine sW 12 rfl (fun a u E D hk=>exec_pick _ _ _ _ rfl (dD D 5) (dD D 10)) ?_
          exact fz
         intro gv w5 hV k5
         rw [dq 12 [36,37,38,39,40,41,42,43,44,45,46,47]]
         simp only [F7]
         rw [gQ hV 11 47 (.bool true)]
         clear hV
         refine wpList_nil ?_
         have HB125 := Lib.hid (range_kept HB12.out k5)
         have HB65 := Lib.hid (HB64.out.kept k5)
         clear HB12 HB64 HNO3 HAT hc1 hc2
         go_upto_region 11 with fail
         refine wp_text 2 [pE b12 0, .eq (e.o.v)] rfl (by kernel_rfl) ?_ ?_
         ·refine fE 1 12 95 0 0 0 ?_
          refine sW 2 rfl (fun a u E D hk=>exec_ldS 25 _ _ (b12) (0) (e.o.cells) rfl (dD D 0) (ent_ord (range_kept HB125.out hk)) Try.underlying25 (by rw [e.o.len9]; exact ord_size)) ?_
          exact fz
         intro gv w6 hV k6
         rw [dq 2 [48,49]]
         simp only [F7]
         rw [gQ hV 1 49 e.o.v]
         clear hV
         refine l_setS 25 b6 25 zeroO.cells e.o.cells _ _ rfl rfl (by kernel_rfl) (by kernel_rfl) (HB65.out.kept k6) (by rw [Ord.len9]; exact ord_size) (by rw [Ord.len9, Ord.len9]) (Ord.one1 _) ?_
         intro w7 hB7 hk7 hs7
         simp only [Act.put]
         refine l_val (.bool true) rfl (exec_assign _ _ rfl (by kernel_rfl)) ?_
         simp only [Act.put, sA, sS, sZ]
         refine wpList_nil ?_
         go_wp2
         refine bodyPost_ret (results_cell2 (p := 6) (q := 7) rfl _ _ b6 _ e.o.cells true rfl rfl hB7 Try.underlying25 (by rw [Ord.len9]; exact ord_size)) rfl ?_
         rw [HR.out]
         exact ⟨rfl, ((((kz.trans kw3).trans kw4).trans k5).trans k6).trans' hk7 (by omega)⟩
        ·skip
         go_upto_region 10 with fail
         refine wp_text 12 [pE b12 0, pE b12 0, iE e.o.tr, iE t, bE true, bE true, pE b12 0, pE b12 1, iE e.o.id, iE id, bE false, bE false] rfl (by kernel_rfl) ?_ ?_
         ·refine fE 1 12 95 0 0 0 ?_
          refine fD 2 36 0 25 0 0 0 ?_
          refine sW 3 rfl (fun a u E D hk=>exec_loadi _ Try.underlying3 _ _ _ rfl (dD D 1) (range_int (range_kept HB12.out hk) 0 _ rfl)) ?_
          refine mE 4 1 ?_
          refine aS 5 rfl (fun a u E D hk=>exec_eqn rfl (dD D 2) (dD D 3)) (decide_eq_true hc1) ?_
          refine mD 6 40 4 ?_
          refine fE 7 12 95 0 0 0 ?_
          refine fD 8 42 6 25 1 1 0 ?_
          refine sW 9 rfl (fun a u E D hk=>exec_loadi _ Try.underlying3 _ _ _ rfl (dD D 7) (range_int (range_kept HB12.out hk) 1 _ rfl)) ?_
          refine mE 10 2 ?_
          refine aS 11 rfl (fun a u E D hk=>exec_eqn rfl (dD D 8) (dD D 9)) (decide_eq_false hc2) ?_
          refine sW 12 rfl (fun a u E D hk=>exec_pick _ _ _ _ rfl (dD D 5) (dD D 10)) ?_
          exact fz
         intro gv w5 hV k5
         rw [dq 12 [36,37,38,39,40,41,42,43,44,45,46,47]]
         simp only [F7]
         rw [gQ hV 11 47 (.bool false)]
         clear hV
         refine wpList_nil ?_
         have HN4 : Hid (NoneTo t id B.all (lenTo B k + (entL (L.take i)).length + (m + 1))) := HNO3.out.step HAT.out (fun h => hc2 h.2)
         clear HNO3 HAT
         go_wp2
         exact ⟨⟨m + 1, by omega, by go_num, HN4, kw4.trans k5⟩, by simp [intOf]; omega⟩
       ·skip
        go_upto_region 10 with fail
        refine wp_text 12 [pE b12 0, pE b12 0, iE e.o.tr, iE t, bE false, bE false, uE, uE, uE, uE, uE, bE false] rfl (by kernel_rfl) ?_ ?_
        ·refine fE 1 12 95 0 0 0 ?_
         refine fD 2 36 0 25 0 0 0 ?_
         refine sW 3 rfl (fun a u E D hk=>exec_loadi _ Try.underlying3 _ _ _ rfl (dD D 1) (range_int (range_kept HB12.out hk) 0 _ rfl)) ?_
         refine mE 4 1 ?_
         refine aS 5 rfl (fun a u E D hk=>exec_eqn rfl (dD D 2) (dD D 3)) (decide_eq_false hc1) ?_
         refine mD 6 40 4 ?_
         refine kS 7 5 ?_
         refine kS 8 5 ?_
         refine kS 9 5 ?_
         refine kS 10 5 ?_
         refine kS 11 5 ?_
         refine sW 12 rfl (fun a u E D hk=>exec_pickF _ _ _ _ rfl (dD D 5) rfl) ?_
         exact fz
        intro gv w5 hV k5
        rw [dq 12 [36,37,38,39,40,41,42,43,44,45,46,47]]
        simp only [F7]
        rw [gQ hV 11 47 (.bool false)]
        clear hV
        refine wpList_nil ?_
        have HN4 : Hid (NoneTo t id B.all (lenTo B k + (entL (L.take i)).length + (m + 1))) := HNO3.out.step HAT.out (fun h => hc1 h.1)
        clear HNO3 HAT
        go_wp2
        exact ⟨⟨m + 1, by omega, by go_num, HN4, kw4.trans k5⟩, by simp [intOf]; omega⟩
      ·have HN4 : Hid (NoneTo t id B.all (lenTo B k + (entL (L.take (i + 1))).length)) := by
        show NoneTo _ _ _ _
        rw [entL_take HA.out, List.length_append]
        have h1 := HNO3.out
        rw [show m = X.length by rw [HXN.out]; omega, Nat.add_assoc] at h1
        exact h1
       have KK : Kept w1 wr := k13.trans hkr
       clear HNO3 hkr
       go_wp2
       exact ⟨⟨i + 1, by omega, by go_num, HN4, KK⟩, by simp [intOf]; omega⟩
    ·have HN4 : Hid (NoneTo t id B.all (lenTo B (k + 1))) := by
      show NoneTo _ _ _ _
      rw [HST.out, HLe.out]
      have h1 := HNO2.out
      rw [List.take_of_length_le (by rw [← EL.out, levs_len, HN.out]; omega)] at h1
      exact h1
     have kwr := kw1.trans hkr
     clear HNO2 hkr
     go_wp2
     exact ⟨⟨k + 1, by omega, by go_num, HN4, kwr⟩, by simp [intOf]; omega⟩
  ·have hk' : k = 3 := by omega
   subst hk'
   have HR : Hid (B.find t id = (zeroO, false)) := by
    show _ = _
    have h1 : idxM t id B.all = B.all.length := idx_none (fun j' x hj hx => HNO.out j' x hj hx)
    unfold Bok.find findE
    rw [h1, List.getElem?_eq_none (Nat.le_refl _)]
   have HB6r := Lib.hid (HB6.out.kept hkr)
   clear HNO
   go_upto_region 15 with fail
   refine wp_text 1 [.eq (zeroO.v)] rfl (by kernel_rfl) ?_ ?_
   ·refine sW 1 rfl (fun a u E D hk=>exec_build 25 [] zeroO.cells rfl (by kernel_rfl)) ?_
    exact fz
   intro gv w4 hV k4
   rw [dq 1 [53]]
   simp only [F7]
   rw [gQ hV 0 53 zeroO.v]
   clear hV
   refine l_setS 25 b6 25 zeroO.cells zeroO.cells _ _ rfl rfl (by kernel_rfl) (by kernel_rfl) (HB6r.out.kept k4) (by rw [Ord.len9]; exact ord_size) rfl (Ord.one1 _) ?_
   intro w5 hB5 hk5 hs5
   simp only [Act.put]
   refine l_val (.bool false) rfl (exec_assign _ _ rfl (by kernel_rfl)) ?_
   simp only [Act.put, sA, sS, sZ]
   refine wpList_nil ?_
   go_wp2
   refine bodyPost_ret (results_cell2 (p := 6) (q := 7) rfl _ _ b6 _ zeroO.cells false rfl rfl hB5 Try.underlying25 (by rw [Ord.len9]; exact ord_size)) rfl ?_
   rw [HR.out]
   exact ⟨rfl, ((kz.trans hkr).trans k4).trans' hk5 (by omega)⟩
end Go.Proofs.Ytfpfpmhkkgfdbaa
namespace Go.Proofs.Ytfpfpmhkkgfdbaa
open Go.RowKit
set_option maxRecDepth 100000
variable {pr : Int}
theorem Lvl.renew {T E : TypeId} {w w1 w2 : World} {F : Nat → Prop} {p base : Nat} {X Y : List Ent} {v' : Value} (h : Lvl pr T E w F p X) (hk : Kept w w1) (hb : w.heap.size ≤ base) (hs : Sl w1 E 10 v' Y.length (ents Y)) (ho : ∀ b, v'.ownBlock = some b → base ≤ b) (hB : Blk w2 p T [.int .i64 pr, v']) (hk2 : Keep (· = p) w1 w2) :
  ∃ F', Lvl pr T E w2 F' p Y ∧ Grow w F F' ∧ Keep F w w2 := by
 have hp : p < w.heap.size := h.2.1 p h.1
 refine ⟨fun b => F b ∨ v'.ownBlock = some b, ⟨.inl h.1, fun b hb' => ?_, v', hB, hs.keep hk2 (fun b hb' e => by have := ho b hb'; omega), fun b hb' => ⟨.inr hb', fun e => by have := ho b hb'; omega⟩⟩, fun b hb' => ?_, (Keep.mono (T := F) hk (fun _ _ h => h.elim)).trans hk2 (fun b _ e => by subst e; exact h.1)⟩
 ·have := hk2.size
  rcases hb' with h1 | h1
  ·have := h.2.1 b h1; have := hk.size; omega
  ·have := hs.lt h1; omega
 ·rcases hb' with h1 | h1
  ·exact .inl h1
  ·exact .inr (Nat.le_trans hb (ho b h1))
theorem Lvl.renew2 {T E : TypeId} {w w1 w2 : World} {F : Nat → Prop} {p base : Nat} {X Y : List Ent} {v' : Value} (h : Lvl pr T E w F p X) (hk : Kept w w1) (hb : w.heap.size ≤ base) (hs : Sl w1 E 10 v' Y.length (ents Y)) (ho : ∀ b, v'.ownBlock = some b → base ≤ b) (hB : Blk w2 p T [.int .i64 pr, v']) (hk2 : Keep (· = p) w1 w2) :
  ∃ F', Lvl pr T E w2 F' p Y ∧ Grow w F F' ∧ Keep F w w2 ∧ ∀ b, F' b → F b ∨ base ≤ b := by
 have hp : p < w.heap.size := h.2.1 p h.1
 refine ⟨fun b => F b ∨ v'.ownBlock = some b, ⟨.inl h.1, fun b hb' => ?_, v', hB, hs.keep hk2 (fun b hb' e => by have := ho b hb'; omega), fun b hb' => ⟨.inr hb', fun e => by have := ho b hb'; omega⟩⟩, fun b hb' => ?_, (Keep.mono (T := F) hk (fun _ _ h => h.elim)).trans hk2 (fun b _ e => by subst e; exact h.1), fun b hb' => hb'.imp id (ho b)⟩
 ·have := hk2.size
  rcases hb' with h1 | h1
  ·have := h.2.1 b h1; have := hk.size; omega
  ·have := hs.lt h1; omega
 ·rcases hb' with h1 | h1
  ·exact .inl h1
  ·exact .inr (Nat.le_trans hb (ho b h1))
theorem late_kept {w u u' : World} {base : Nat} (hk : Kept w u) (h : Keep (fun b => base ≤ b) u u') (hb : w.heap.size ≤ base) : Kept w u' := Keep.trans hk h (fun b hb' h' => by omega)
section
variable {ops : Array Oper} {Q : Exit → Act → World → Prop} {a : Act} {w : World} {o : Oper} {rest : List Oper}
theorem l_rowS (g off n c i : Nat) (X : List Ent) (e : Ent) (ad : Addr) (x y : Operand) (hw : Region.wanted o (yielded ops a.tmps) = true) (hop : o.op = .store 95 x y) (hx : a.eval x = .pointer (some ad)) (hy : a.eval y = e.v) (had : ad = ⟨g, off + i * 10, none⟩)
  (hs : Sl w 95 10 (.slice (some ⟨g, off, none⟩) n c) n (ents X)) (hn : n = X.length) (hi : i < n)
  (hK : ∀ w', Sl w' 95 10 (.slice (some ⟨g, off, none⟩) n c) n (ents (X.set i e)) → Keep (· = g) w w' → w'.heap.size = w.heap.size → wpList Try.prog ops Q rest (a.put o.dst undef) w') : wpList Try.prog ops Q (o :: rest) a w := by
 subst had
 have hm : (i + 1) * 10 ≤ n * 10 := Nat.mul_le_mul_right 10 (by omega)
 obtain ⟨h1, h2, h3, h4⟩ := hs.setCells (i * 10) e.cells (by rw [Ent.len10]; omega)
 have hr := run_storeVar_mid (P := Try.prog) w g (off + i * 10) 95 e.cells.toArray (by simpa using h4) (by rw [List.size_toArray, Ent.len10]; exact szR) (by simpa using e.one)
 rw [List.toList_toArray] at hr
 refine l_store (w.setCells g (off + i * 10) e.cells) hw ?_ (hK _ ?_ h2 h3)
 ·unfold execOp
  simp only [hop, hx, hy, Ent.v, Instr.storeAt, Instr.sureAddr, Sem.run_bind, Sem.run_pure, Result.andThen_ok, hr]
 ·rw [Ent.len10] at h1
  have := flat_set Ent.cells 10 Ent.len10 X i e (by omega)
  unfold ents at h1 ⊢
  rw [← this]
  exact h1
end
set_option maxRecDepth 100000 in
theorem radd_any (w : World) (F : Nat → Prop) (p : Nat) (X : List Ent) (c : Ord) (h : Lvl pr 86 95 w F p X) (hn : X.length ≤ 100000000) :
  Calls Try.prog 76 #[.pointer (some ⟨p, 0, none⟩), c.v] w fun e w' => ∃ F', e = .returned (.tuple #[]) ∧ Lvl pr 86 95 w' F' p (X ++ [Ent.of c]) ∧ Grow w F F' ∧ Keep F w w' := by
 have HL := Lib.hid h
 obtain ⟨h1, h2, v, hB, hS, h5⟩ := h
 have HB := Lib.hid hB
 have HS := Lib.hid hS
 clear hB hS h5 h1 h2
 go_enter Try.func76, Try.ntmps76
 go_upto_region 0 with fail
 refine wp_text 1 [.fresh w.heap.size 25 (c.cells)] rfl (by kernel_rfl) ?_ ?_
 ·refine nW 1 rfl (fun a u E D hk=>⟨_, _, exec_box 25 _ (c.cells) rfl (eE E), ⟨_, rfl, hk.size, Blk.new u _ _⟩, ((Keep.refl _ u).alloc _)⟩) ?_
  exact fz
 intro gv w0 hV k0
 rw [dq 1 [3]]
 simp only [F7]
 have hv3 : (.fresh w.heap.size 25 (c.cells) : Kn).p (gv 3) w0 := hV 0 3 (by kernel_rfl)
 generalize gv 3 = v3 at hv3 ⊢
 clear hV
 obtain ⟨g, rfl, hg, hG⟩ := hv3
 refine wpList_nil ?_
 have HG := Lib.hid (blk_range hG)
 have HB0 := Lib.hid (HB.out.kept k0)
 have HS0 := Lib.hid (HS.out.kept k0)
 have z0 := k0.size
 clear hG
 go_upto_region 1 with fail
 refine wp_freeT 12 [.eq (.pointer (some ⟨p, 0, none⟩)), .emp w0.heap.size 95, .eq (.pointer (some ⟨p, 0, none⟩)), .eq (.pointer (some ⟨p, 0, none⟩)), .eq (.pointer (some ⟨p, 1, none⟩)), .eq (v), .sl w0.heap.size 95 10 X.length (ents X), .eq (c.v), .eq (c.v), .eq (.int .i64 c.tip), .eq ((Ent.mk c (c.tip)).v), .sl w0.heap.size 95 10 1 (Ent.mk c (c.tip)).cells] (.pointer (some ⟨p, 0, none⟩)) ((fun v' u u' => Sl u' 95 10 v' (X.length + 1) (ents X ++ (Ent.mk c (c.tip)).cells) ∧ (∀ b, v'.ownBlock = some b → w0.heap.size ≤ b) ∧ Keep (fun b => w0.heap.size ≤ b) u u')) (by kernel_rfl) rfl rfl (by kernel_rfl) (by kernel_rfl) (t_zero (d := 4) _ rfl rfl rfl (by kernel_rfl) (by kernel_rfl)) ?_ (fun a u hE hD hk =>  (by obtain ⟨v', u', hr, hs', hk', ho'⟩ := run_append_sl slR _ u (a.eval (.tmp 10)) (a.eval (.tmp 15)) X.length 1 (ents X) (Ent.mk c (c.tip)).cells ((hD 6 10 (by kernel_rfl))).1 ((hD 11 15 (by kernel_rfl))).1 (Ent.one _) (by unfold maxLen; omega) (by omega); have hq := ((hD 6 10 (by kernel_rfl))).2; exact t_last (o := ⟨some 16, _, _, _, _, _⟩) (R := (fun v' u u' => Sl u' 95 10 v' (X.length + 1) (ents X ++ (Ent.mk c (c.tip)).cells) ∧ (∀ b, v'.ownBlock = some b → w0.heap.size ≤ b) ∧ Keep (fun b => w0.heap.size ≤ b) u u')) (m := 12) (v := v') (w' := u') rfl (wanted_none rfl _) (exec_appS slR (.tmp 10) (.tmp 15) _ _ rfl rfl rfl v' u' hr) ⟨hs', fun b hb => (ho' b hb).elim (hq b) (fun h => Nat.le_trans hk.size h), hk'.mono (fun b _ hb => hq b hb)⟩)) ?_
 ·refine nW 2 rfl (fun a u E D hk=>⟨_, _, exec_none 84 95 10 rfl slR.und szR, ⟨_, rfl, hk.size, Blk.new u _ _⟩, ((Keep.refl _ u).alloc _)⟩) ?_
  refine mE 3 0 ?_
  refine nD 4 6 2 ?_
  refine fD 5 7 3 86 1 1 0 ?_
  refine sW 6 rfl (fun a u E D hk=>exec_ldv _ _ Try.underlying84 _ _ _ rfl (dD D 4) (by rw [(HB0.out.kept hk).cell]; rfl)) ?_
  refine fsteps_cons 7 rfl (fun a u hE hD hk => (by obtain ⟨v', u', hr, hp, hkk⟩ := run_append_emp slR _ u (a.eval (.tmp 5)) v X.length w0.heap.size _ ((dD hD 1)) (HS0.out.kept hk) (ents_one _) (by omega) (by omega) hk.size; exact f_new v' u' rfl (wanted_none rfl _) (exec_appS slR (.tmp 5) (.tmp 9) _ v rfl rfl (dD hD 5) v' u' hr) hp hkk)) ?_
  refine sW 8 rfl (fun a u E D hk=>exec_ldS 25 _ _ (g) (0) (c.cells) rfl (eE E) (range_kept HG.out hk) Try.underlying25 (by rw [c.len9]; exact ord_size)) ?_
  refine sW 9 rfl (fun a u E D hk=>exec_ldS 25 _ _ (g) (0) (c.cells) rfl (eE E) (range_kept HG.out hk) Try.underlying25 (by rw [c.len9]; exact ord_size)) ?_
  refine cS 10 95 [c.v] rfl Try.func95 rfl (fun a u E D hk=>⟨ll (dD D 8) rfl, tip_any c u⟩) ?_
  refine sW 11 rfl (fun a u E D hk=>exec_bent 95 builtR _ _ (c) (c.tip) rfl (dD D 7) (dD D 9)) ?_
  refine nW 12 rfl (fun a u E D hk=>⟨_, _, exec_oneS slR _ (Ent.mk c (c.tip)).cells (by omega) rfl (dD D 10) ((Ent.mk c (c.tip)).len10), (sl_one u 95 10 _ w0.heap.size ((Ent.mk c (c.tip)).len10) (by omega) hk.size), ((Keep.refl _ u).alloc _)⟩) ?_
  exact fz
 intro gv w1 w2 hV h0 hR hk1
 rw [dq 13 [4,5,6,7,8,9,10,11,12,13,14,15,16]]
 simp only [F7]
 have hT := hR 16 (by kernel_rfl)
 generalize gv 16 = v16 at hT ⊢
 rw [show gv 4 = .pointer (some ⟨p, 0, none⟩) from h0 4 (by kernel_rfl)]
 clear hV h0 hR
 obtain ⟨hs2, ho2, hk2⟩ := hT
 have k02 := late_kept hk1 hk2 (Nat.le_refl _)
 have hB2 := HB0.out.kept k02
 refine l_val (.pointer (some ⟨p, 0, none⟩)) rfl (exec_nilp (.tmp 4) ⟨p, 0, none⟩ rfl (by kernel_rfl)) ?_
 simp only [Act.put, sA, sS, sZ]
 refine l_val (.pointer (some ⟨p, 1, none⟩)) rfl (exec_fldo 86 1 1 (.tmp 17) (p) (0) (1) rfl (by kernel_rfl) (by kernel_rfl) rfl) ?_
 simp only [Act.put, sA, sS, sZ]
 refine l_st1 84 p 1 86 _ v16 _ _ rfl rfl (by kernel_rfl) (by kernel_rfl) (by kernel_rfl) (sl_cells hs2) (sl_onec hs2) hB2 (by simp) ?_
 intro w3 hB3 hk3 hs3
 simp only [Act.put]
 refine wpList_nil ?_
 go_wp2
 go_end0
 obtain ⟨F', q1, q2, q3⟩ := HL.out.renew (k0.trans k02) z0 (Y := X ++ [Ent.of c]) (v' := v16) (by rw [List.length_append, ents_snoc]; exact hs2) ho2 (by simpa using hB3) hk3
 exact ⟨F', rfl, q1, q2, q3⟩
end Go.Proofs.Ytfpfpmhkkgfdbaa
namespace Go.Proofs.Ytfpfpmhkkgfdbaa
open Go.RowKit
set_option maxRecDepth 100000
def sideCs (s : Int) (v u : Value) (last no : Int) : List Value := if s = 1 then bkCells v u last no else bkCells u v last no
theorem sideCs_len (s : Int) (v u : Value) (last no : Int) : (sideCs s v u last no).length = 6 := by unfold sideCs; split <;> rfl
theorem sideCs_side {s : Int} (hs : s = 1 ∨ s = 2) (v u : Value) (last no : Int) : (sideCs s v u last no)[offS s]? = some (.int .i64 s) := by rcases hs with rfl | rfl <;> rfl
theorem sideCs_get (s : Int) (v u : Value) (last no : Int) : (sideCs s v u last no)[offS s + 1]? = some v := by unfold sideCs offS; split <;> rfl
theorem sideCs_set (s : Int) (v v' u : Value) (last no : Int) : (sideCs s v u last no).set (offS s + 1) v' = sideCs s v' u last no := by unfold sideCs offS; split <;> rfl
theorem sideCs_last (s : Int) (v u : Value) (last no x : Int) : (sideCs s v u last no).set 4 (.int .i64 x) = sideCs s v u x no := by unfold sideCs; split <;> rfl
theorem sideCs_no (s : Int) (v u : Value) (last no x : Int) : (sideCs s v u last no).set 5 (.int .i64 x) = sideCs s v u last x := by unfold sideCs; split <;> rfl
theorem offS_le (s : Int) : offS s + 1 ≤ 3 := by unfold offS; split <;> omega
def Bok.to (B : Bok) (s : Int) (L : List Lev) (last no : Int) : Bok := { B.put s L with last := last, no := no }
theorem Bok.to_self {B : Bok} {s : Int} (hs : s = 1 ∨ s = 2) : B.to s (B.sd s) B.last B.no = B := by rcases hs with rfl | rfl <;> rfl
theorem Bok.to_to {B : Bok} {s : Int} (hs : s = 1 ∨ s = 2) (L M : List Lev) (l n l' n' : Int) : (B.to s L l n).to s M l' n' = B.to s M l' n' := by rcases hs with rfl | rfl <;> rfl
theorem Bok.to_sd {B : Bok} {s : Int} (hs : s = 1 ∨ s = 2) (L : List Lev) (l n : Int) : (B.to s L l n).sd s = L := by rcases hs with rfl | rfl <;> rfl
theorem Bok.to_put {B : Bok} {s : Int} (hs : s = 1 ∨ s = 2) (L : List Lev) : B.to s L B.last B.no = B.put s L := by rcases hs with rfl | rfl <;> rfl
def Rejoin (w : World) (F : Nat → Prop) (p : Nat) (B : Bok) (s : Int) (u : Value) (Fs : Nat → Prop) : Prop :=
 ∀ (w' : World) (v' : Value) (L' : List Lev) (Fs' : Nat → Prop) (last no : Int), Keep (fun b => Fs b ∨ b = p) w w' → Blk w' p 75 (sideCs s v' u last no) → Way 110 112 97 w' Fs' v' L' → Grow w Fs Fs' → ∃ F', Bk w' F' p (B.to s L' last no) ∧ Grow w F F' ∧ Keep F w w' ∧ ∀ b, F b → F' b
theorem Bk.open_ {w : World} {F : Nat → Prop} {p : Nat} {B : Bok} (h : Bk w F p B) {s : Int} (hs : s = 1 ∨ s = 2) :
  ∃ v u Z G Fs, levs Z = B.sd s ∧ WayZ 110 112 97 w Fs v Z G ∧ Blk w p 75 (sideCs s v u B.last B.no) ∧ (∀ b, Fs b → F b ∧ b ≠ p) ∧ F p ∧ (∀ b, F b → b < w.heap.size) ∧ Rejoin w F p B s u Fs := by
 obtain ⟨h1, h2, v1, v2, F1, F2, hB, hW1, hW2, h3, h4⟩ := h
 have hpl := h2 p h1
 rcases hs with rfl | rfl
 ·obtain ⟨Z, G, e, hz⟩ := hW1
  refine ⟨v1, v2, Z, G, F1, e, hz, hB, fun b hb => ⟨(h3 b hb).1, (h3 b hb).2.1⟩, h1, h2, ?_⟩
  intro w' v' L' Fs' last no hk hB' hW' hG
  have hlt := hW'.lt
  have hkF : Keep F w w' := hk.mono (fun b _ hb => hb.elim (fun h => (h3 b h).1) (fun h => by subst h; exact h1))
  refine ⟨fun b => F b ∨ Fs' b, ⟨.inl h1, fun b hb => hb.elim (fun h => Nat.lt_of_lt_of_le (h2 b h) hk.size) (hlt b), v', v2, Fs', F2, hB', hW', hW2.keep hk (fun b hb h => h.elim (fun h => (h3 b h).2.2 hb) (fun h => (h4 b hb).2 h)), fun b hb => ?_, fun b hb => ⟨.inl (h4 b hb).1, (h4 b hb).2⟩⟩, fun b hb => hb.elim .inl (fun h => (hG b h).imp (fun h => (h3 b h).1) id), hkF, fun b hb => .inl hb⟩
  refine ⟨.inr hb, ?_, ?_⟩
  ·rcases hG b hb with h | h
   ·exact (h3 b h).2.1
   ·omega
  ·rcases hG b hb with h | h
   ·exact (h3 b h).2.2
   ·intro h'
    have := h2 b (h4 b h').1
    omega
 ·obtain ⟨Z, G, e, hz⟩ := hW2
  refine ⟨v2, v1, Z, G, F2, e, hz, hB, h4, h1, h2, ?_⟩
  intro w' v' L' Fs' last no hk hB' hW' hG
  have hlt := hW'.lt
  have hkF : Keep F w w' := hk.mono (fun b _ hb => hb.elim (fun h => (h4 b h).1) (fun h => by subst h; exact h1))
  refine ⟨fun b => F b ∨ Fs' b, ⟨.inl h1, fun b hb => hb.elim (fun h => Nat.lt_of_lt_of_le (h2 b h) hk.size) (hlt b), v1, v', F1, Fs', hB', hW1.keep hk (fun b hb h => h.elim (fun h => (h3 b hb).2.2 h) (fun h => (h3 b hb).2.1 h)), hW', fun b hb => ⟨.inl (h3 b hb).1, (h3 b hb).2.1, fun h' => ?_⟩, fun b hb => ⟨.inr hb, ?_⟩⟩, fun b hb => hb.elim .inl (fun h => (hG b h).imp (fun h => (h4 b h).1) id), hkF, fun b hb => .inl hb⟩
  ·rcases hG b h' with h | h
   ·exact (h3 b hb).2.2 h
   ·have := h2 b (h3 b hb).1
    omega
  ·rcases hG b hb with h | h
   ·exact (h4 b h).2
   ·omega
theorem ptrs_drop (X : Zs) (i : Nat) : (ptrs X).drop (i * 1) = ptrs (X.drop i) := by rw [Nat.mul_one, ptrs, ptrs, List.map_drop]
theorem ptrs_take (X : Zs) (i : Nat) : (ptrs X).take (i * 1) = ptrs (X.take i) := by rw [Nat.mul_one, ptrs, ptrs, List.map_take]
theorem ptrs_len1 (X : Zs) : (ptrs X).length = X.length * 1 := by rw [ptrs_len, Nat.mul_one]
def zP1 : List Value := [.pointer none]
theorem zP1_len : zP1.length = 1 := rfl
theorem zP1_one : ∀ u ∈ zP1, u.oneCell' = true := by intro u hu; simp [zP1] at hu; subst hu; rfl
theorem zeroVP (w : World) : (zeroValue 97).run Try.prog w = .ok (.pointer none) w := by kernel_rfl
theorem exec_clrP {a : Act} {o : Oper} {u : World} {t T : TypeId} {bytes : Nat} (ht : SlT t T 1 bytes) (hz0 : ∀ w, (zeroValue T).run Try.prog w = .ok (.pointer none) w) (x : Operand) (g off c : Nat) (hop : o.op = .call { callee := .builtin .clear, args := #[x], argTypes := #[t] }) (hx : a.eval x = .slice (some ⟨g, off, none⟩) 1 c) (hth : u.there g off 1) :
  (execOp a.eval o).run Try.prog u = .ok (.value (.tuple #[])) (u.setCells g off zP1) := by
 have hzc : (Builtin.zeroCells #[Value.pointer none] 1).toList = zP1 := by simp [Builtin.zeroCells, zP1]
 have hst := run_storeCells_cells (P := Try.prog) g off zP1 0 u (fun j hj => by simpa using (hth j (by simpa [zP1] using hj)).1) (fun j hj => by simpa using (hth j (by simpa [zP1] using hj)).2) zP1_one
 simp only [Nat.add_zero] at hst
 have hr : (Builtin.clear_ #[t] o.type #[.slice (some ⟨g, off, none⟩) 1 c]).run Try.prog u = .ok (.tuple #[]) (u.setCells g off zP1) := by
  simp [Builtin.clear_, run_underlying ht.und, hz0, Value.cells, hzc, hst]
 unfold execOp
 simp only [hop, resolve, invoke, builtin, Sem.run_bind, Sem.run_pure, Result.andThen_ok, List.map_toArray, List.map_cons, List.map_nil, hx, hr]
theorem append_inP (g off n c k : Nat) (X : Zs) (v2 : Value) (w : World) (hS : Sl w 97 1 (.slice (some ⟨g, off, none⟩) n c) n (ptrs X)) (hn : X.length = n) (hkn : k < n) (hnc : n ≤ c) (h2 : Sl w 97 1 v2 (n - (k + 1)) (ptrs (X.drop (k + 1)))) (ho : v2.ownBlock = some g) (ty : TypeId) :
  (Builtin.append_ #[71, 71] ty #[.slice (some ⟨g, off, none⟩) k c, v2]).run Try.prog w = .ok (.slice (some ⟨g, off, none⟩) (n - 1) c) (w.setCells g (off + k * 1) (ptrs (X.drop (k + 1)))) := by
 obtain ⟨z, hz, hz2, _⟩ := slQ.info
 obtain ⟨i0, hi, hz0, hz1, hzb⟩ := info_parts hz
 have hl : (ptrs (X.drop (k + 1))).length = (n - (k + 1)) * 1 := by rw [ptrs_len1, List.length_drop, hn]
 obtain ⟨_, _, _, ht⟩ := hS.setCells (k * 1) (ptrs (X.drop (k + 1))) (by rw [hl]; omega)
 obtain ⟨hl2, A, d, rfl, _, _, _, h4⟩ := h2
 cases A with
 | none => simp [Value.ownBlock] at ho
 | some ad =>
  obtain ⟨g2, off2, cur2, rfl, hB2, hle2, htk2⟩ := h4 _ rfl
  have hr := run_append_room_cells (P := Try.prog) w 71 ty 97 i0 slQ.und hi g off k c ⟨g2, off2, none⟩ (n - (k + 1)) d (ptrs (X.drop (k + 1))) (by rw [hz1, hl]) (fun j u hu => by rw [Addr.add_mid]; exact seg_cell hB2 htk2 j u hu) (ptrs_one _) (by omega)
   (fun j hj => by rw [hz1]; exact (ht j hj).1) (fun j hj => by rw [hz1]; exact (ht j hj).2)
  rw [hr, hz1, show k + (n - (k + 1)) = n - 1 by omega]
set_option maxRecDepth 100000 in
set_option maxHeartbeats 1600000 in
theorem ldelete_any (g off n c k : Nat) (X : Zs) (w : World) (hS : Sl w 97 1 (.slice (some ⟨g, off, none⟩) n c) n (ptrs X)) (hn : X.length = n) (hkn : k < n) (hlen : n ≤ 100000000) :
  Calls Try.prog 91 #[.slice (some ⟨g, off, none⟩) n c, .int .i64 (k : Int), .int .i64 ((k : Int) + 1)] w fun r w' => r = .returned (.slice (some ⟨g, off, none⟩) (n - 1) c) ∧ Sl w' 97 1 (.slice (some ⟨g, off, none⟩) (n - 1) c) (n - 1) (ptrs (X.eraseIdx k)) ∧ Keep (· = g) w w' := by
 have hnc : n ≤ c := by obtain ⟨_, A, c', e', h1, _⟩ := hS; injection e' with _ _ e3; subst e3; exact h1
 obtain ⟨vx, hvx⟩ := run_lhm slQ (some ⟨g, off, none⟩) n c k (k + 1) (by omega) (by omega) hnc
 obtain ⟨v1, hv1, ho1, hs1⟩ := slice_hS slQ _ n k (by omega) _ w hS
 obtain ⟨v2, hv2, ho2, hs2⟩ := slice_lS slQ _ n (k + 1) (by omega) _ w hS
 have e1 : v1 = .slice (some ⟨g, off, none⟩) k c := by
  obtain ⟨z, hz, hz2, _⟩ := slQ.info
  obtain ⟨i0, hi, hz0, hz1, hzb⟩ := info_parts hz
  have := hv1 w
  rw [run_slice_h (P := Try.prog) (w := w) 71 (some ⟨g, off, none⟩) n c (by rw [slQ.elem]; exact slQ.und) .i64 (k : Int) (by omega) (by omega), slQ.elem] at this
  simp [sizeOf, typeInfo, hi, hz1, sliced, Addr.add] at this
  exact this.symm
 subst e1
 have HX2 : Hid (∀ w, Sl w 97 1 (.slice (some ⟨g, off, none⟩) n c) n (ptrs X) → Sl w 97 1 v2 (n - (k + 1)) (ptrs (X.drop (k + 1)))) := fun w h => by
  have := hs2 w _ h
  rw [show (ptrs X).drop ((k + 1) * 1) = ptrs (X.drop (k + 1)) from ptrs_drop X (k + 1)] at this
  exact this
 have HVX := Lib.hid hvx
 have HV1 := Lib.hid hv1
 have HV2 := Lib.hid hv2
 have HO2 := Lib.hid ho2
 have HS := Lib.hid hS
 have HN := Lib.hid hn
 have hcast : ((k + 1 : Nat) : Int) = (k : Int) + 1 := by omega
 rw [hcast] at HVX HV2
 clear hvx hv1 hv2 ho1 ho2 hs1 hs2 hS hn
 have hne : ((k : Int) == (k : Int) + 1) = false := by simp; omega
 go_enter Try.func91, Try.ntmps91
 go_upto_region 1 with fail
 refine wp_text 6 [.eq (.slice (some ⟨g, off, none⟩) n c), iE (k : Int), iE ((k : Int) + 1), .eq (.slice (some ⟨g, off, none⟩) n c), iE (n : Int), .eq (vx)] rfl (by kernel_rfl) ?_ ?_
 ·refine mE 1 0 ?_
  refine mE 2 1 ?_
  refine mE 3 2 ?_
  refine mE 4 0 ?_
  refine sW 5 rfl (fun a u E D hk=>exec_len _ _ _ slQ.und (some ⟨g, off, none⟩) n c rfl (dD D 3)) ?_
  refine sW 6 rfl (fun a u E D hk=>exec_slcLHM slQ _ _ _ _ _ vx _ _ _ rfl (dD D 0) (dD D 1) (dD D 2) (dD D 4) (HVX.out u)) ?_
  exact fz
 intro gv w1 hV k1
 rw [dq 6 [8,9,10,11,12,13]]
 simp only [F7]
 clear hV
 refine wpList_nil ?_
 go_upto_region 2 with fail
 refine wp_text 3 [iE (k : Int), iE ((k : Int) + 1), bE false] rfl (by kernel_rfl) ?_ ?_
 ·refine mE 1 1 ?_
  refine mE 2 2 ?_
  refine aS 3 rfl (fun a u E D hk=>exec_eqn rfl (dD D 0) (dD D 1)) (decide_eq_false (by omega)) ?_
  exact fz
 intro gv w2 hV k2
 rw [dq 3 [14,15,16]]
 simp only [F7]
 rw [gQ hV 2 16 (.bool false)]
 clear hV
 refine wpList_nil ?_
 clear hne
 go_upto_region 4 with fail
 refine wp_text 3 [.eq (.slice (some ⟨g, off, none⟩) n c), iE (n : Int), iE (n : Int)] rfl (by kernel_rfl) ?_ ?_
 ·refine mE 1 0 ?_
  refine sW 2 rfl (fun a u E D hk=>exec_len _ _ _ slQ.und (some ⟨g, off, none⟩) n c rfl (dD D 0)) ?_
  refine mD 3 19 1 ?_
  exact fz
 intro gv w3 hV k3
 rw [dq 3 [18,19,7]]
 simp only [F7]
 rw [gQ hV 2 7 (.int .i64 (n : Int))]
 clear hV
 refine wpList_nil ?_
 have kw3 := (k1.trans k2).trans k3
 clear k1 k2 k3
 go_upto_region 5 with fail
 refine wp_free 6 [.eq (.slice (some ⟨g, off, none⟩) n c), iE (k : Int), .eq (.slice (some ⟨g, off, none⟩) k c), .eq (.slice (some ⟨g, off, none⟩) n c), iE ((k : Int) + 1), .eq (v2)] (by kernel_rfl) rfl (by kernel_rfl) ?_ ?_
 ·refine mE 1 0 ?_
  refine mE 2 1 ?_
  refine sW 3 rfl (fun a u E D hk=>exec_slcH slQ _ _ _ _ _ rfl (dD D 0) (dD D 1) (HV1.out u)) ?_
  refine mE 4 0 ?_
  refine mE 5 2 ?_
  refine sW 6 rfl (fun a u E D hk=>exec_slcL slQ _ _ _ v2 _ rfl (dD D 3) (dD D 4) (HV2.out u)) ?_
  exact fz
 intro gv w4 hV k4
 rw [dq 6 [20,21,22,23,24,25]]
 simp only [F7]
 rw [gQ hV 2 22 (.slice (some ⟨g, off, none⟩) k c)]
 rw [gQ hV 5 25 v2]
 clear hV
 have kw4 := kw3.trans k4
 have hS4 := HS.out.kept kw4
 have hX4 := HX2.out w4 hS4
 have hr4 : ∀ ty, (Builtin.append_ #[71, 71] ty #[.slice (some ⟨g, off, none⟩) k c, v2]).run Try.prog w4 = .ok (.slice (some ⟨g, off, none⟩) (n - 1) c) (w4.setCells g (off + k * 1) (ptrs (X.drop (k + 1)))) := fun ty => append_inP g off n c k X v2 w4 hS4 HN.out hkn hnc hX4 (by rw [HO2.out]; rfl) ty
 refine l_new (.slice (some ⟨g, off, none⟩) (n - 1) c) (w4.setCells g (off + k * 1) (ptrs (X.drop (k + 1)))) rfl (exec_appS slQ (.tmp 22) (.tmp 25) (.slice (some ⟨g, off, none⟩) k c) v2 rfl (by kernel_rfl) (by kernel_rfl) _ _ (hr4 _)) ?_
 simp only [Act.put, sA, sS, sZ]
 refine l_val (.slice (some ⟨g, off, none⟩) (n - 1) c) rfl (exec_assign _ _ rfl (by kernel_rfl)) ?_
 simp only [Act.put, List.setIfInBounds_toArray, List.set_cons_zero]
 refine wpList_nil ?_
 have hlenE : (ptrs (X.drop (k + 1))).length = (n - (k + 1)) * 1 := by rw [ptrs_len1, List.length_drop, HN.out]
 obtain ⟨hS5, hk5, hz5, _⟩ := hS4.setCells (k * 1) (ptrs (X.drop (k + 1))) (by rw [hlenE]; omega)
 have HS5 : Hid (Sl (w4.setCells g (off + k * 1) (ptrs (X.drop (k + 1)))) 97 1 (.slice (some ⟨g, off, none⟩) n c) n (ptrs (X.eraseIdx k ++ X.drop (n - 1)))) := by
  rw [show (ptrs X).take (k * 1) = ptrs (X.take k) from ptrs_take X k, hlenE, show k * 1 + (n - (k + 1)) * 1 = (n - 1) * 1 by omega, show (ptrs X).drop ((n - 1) * 1) = ptrs (X.drop (n - 1)) from ptrs_drop X (n - 1)] at hS5
  show Sl _ _ _ _ _ _
  rw [List.eraseIdx_eq_take_drop_succ]
  rw [ptrs_append, ptrs_append]
  exact hS5
 have K5 : Keep (· = g) w (w4.setCells g (off + k * 1) (ptrs (X.drop (k + 1)))) := (Keep.mono (T := (· = g)) kw4 (fun _ _ h => h.elim)).trans hk5 (fun _ _ h => h)
 generalize w4.setCells g (off + k * 1) (ptrs (X.drop (k + 1))) = w5 at HS5 K5 ⊢
 clear hr4 hX4 hS4 hS5 hk5 hz5 kw4 kw3 k4 HX2 HV1 HV2 HVX HO2 HS hlenE
 obtain ⟨m, hm⟩ : ∃ m, n - 1 = m := ⟨_, rfl⟩
 have hmn : n = m + 1 := by omega
 rw [hm] at HS5 ⊢
 go_upto_region 6 with fail
 refine wp_text 5 [.eq (.slice (some ⟨g, off, none⟩) m c), .eq (.slice (some ⟨g, off, none⟩) m c), iE (m : Int), iE (n : Int), .eq (.slice (some ⟨g, off + m * 1, none⟩) (n - m) (c - m))] rfl (by kernel_rfl) ?_ ?_
 ·refine mE 1 0 ?_
  refine mE 2 0 ?_
  refine sW 3 rfl (fun a u E D hk=>exec_len _ _ _ slQ.und (some ⟨g, off, none⟩) m c rfl (dD D 1)) ?_
  refine mE 4 7 ?_
  refine sW 5 rfl (fun a u E D hk=>exec_slcLH slQ _ _ _ _ _ _ _ rfl (dD D 0) (dD D 2) (dD D 3) (run_lh slQ g off m c m n (by omega) (by omega) u)) ?_
  exact fz
 intro gv w6 hV k6
 rw [dq 5 [27,28,29,30,31]]
 simp only [F7]
 rw [gQ hV 4 31 (.slice (some ⟨g, off + m * 1, none⟩) (n - m) (c - m))]
 clear hV
 obtain ⟨hS6, hk6, hz6, ht6⟩ := (HS5.out.kept k6).setCells (m * 1) zP1 (by rw [zP1_len]; omega)
 rw [zP1_len] at ht6
 have h1 : n - m = 1 := by omega
 refine l_new (.tuple #[]) (w6.setCells g (off + m * 1) zP1) rfl (exec_clrP slQ zeroVP (.tmp 31) g (off + m * 1) (c - m) rfl (by rw [← h1]; kernel_rfl) ht6) ?_
 simp only [Act.put]
 refine wpList_nil ?_
 have hS7 : Sl (w6.setCells g (off + m * 1) zP1) 97 1 (.slice (some ⟨g, off, none⟩) m c) m (ptrs (X.eraseIdx k)) := by
  have h2 := hS6.shrink (m := m) (by omega)
  have h3 : (X.eraseIdx k).length = m := by rw [List.length_eraseIdx, if_pos (by rw [HN.out]; exact hkn), HN.out]; omega
  rw [List.append_assoc, List.take_append_of_le_length (by rw [List.length_take, ptrs_len1, List.length_append, h3]; omega), List.take_take, Nat.min_self] at h2
  have h4 : (ptrs (X.eraseIdx k ++ X.drop m)).take (m * 1) = ptrs (X.eraseIdx k) := by
   rw [show (ptrs (X.eraseIdx k ++ X.drop m)).take (m * 1) = ptrs ((X.eraseIdx k ++ X.drop m).take m) from ptrs_take _ m, List.take_append_of_le_length (by omega), List.take_of_length_le (by omega)]
  rw [h4] at h2
  exact h2
 have HS7 := Lib.hid hS7
 have K7 : Keep (· = g) w (w6.setCells g (off + m * 1) zP1) := (K5.kept k6).trans hk6 (fun _ _ h => h)
 generalize w6.setCells g (off + m * 1) zP1 = w7 at HS7 K7 ⊢
 clear hS6 hS7 hk6 hz6 ht6 K5 HS5 k6
 go_wp2
 go_ret
 rw [hm]
 exact ⟨rfl, HS7.out, K7⟩
def dropE (A R : List Lev) (l : Lev) : List Lev := if l.2.isEmpty = true then A ++ R else A ++ l :: R
set_option maxRecDepth 100000 in
set_option maxHeartbeats 1600000 in
theorem drop_if_any (w : World) (F : Nat → Prop) (p : Nat) (B : Bok) (s : Int) (A R : List Lev) (l : Lev) (i : Nat) (h : Bk w F p B) (hs : s = 1 ∨ s = 2) (hL : B.sd s = A ++ l :: R) (hi : A.length = i) (hn : A.length + 1 + R.length ≤ 1000) (hX : l.2.length ≤ 100000000) :
  Calls Try.prog 69 #[.pointer (some ⟨p, offS s, none⟩), .int .i64 (i : Int)] w fun r w' => ∃ F', r = .returned (.tuple #[]) ∧ Bk w' F' p (B.to s (dropE A R l) B.last B.no) ∧ Grow w F F' ∧ Keep F w w' ∧ ∀ b, F b → F' b := by
 obtain ⟨v, u0, Z, G, Fs, eL, hW, hB, hFs, hp, hlt, hJ⟩ := h.open_ hs
 have HJ := Lib.hid hJ
 have HK := Lib.hid h
 obtain ⟨n, hnZ⟩ : ∃ n, Z.length = n := ⟨_, rfl⟩
 have hlen : A.length + 1 + R.length = n := by
  rw [← hnZ, ← levs_len, eL, hL]
  simp
  omega
 have hin : i < n := by omega
 obtain ⟨gs, os, c, rfl⟩ := hW.some_ (by omega)
 rw [hnZ] at hW hB
 obtain ⟨z, hz⟩ : ∃ z, Z[i]? = some z := ⟨Z[i]'(by omega), List.getElem?_eq_getElem (by omega)⟩
 have hzl : z.2 = l := by
  have h1 := levs_at hz
  rw [eL, hL, ← hi, List.getElem?_append_right (Nat.le_refl _), Nat.sub_self] at h1
  simpa using h1.symm
 obtain ⟨q, pr, X⟩ := z
 subst hzl
 have hnZ1 : n ≤ 1000 := by omega
 have HZR : Hid (levs (Z.eraseIdx i) = A ++ R) := by
  show _ = _
  have e0 : levs (Z.eraseIdx i) = (levs Z).eraseIdx i := by simp [levs, List.eraseIdx_eq_take_drop_succ, List.map_take, List.map_drop]
  rw [e0, eL, hL, ← hi, List.eraseIdx_append_of_length_le (Nat.le_refl _), Nat.sub_self]
  rfl
 have HV : Hid (w.cell? ⟨p, offS s + 1, none⟩ = some (.slice (some ⟨gs, os, none⟩) n c)) := by
  show _ = _
  rw [hB.cell]
  exact sideCs_get s _ _ _ _
 have HC := Lib.hid (hW.cell hz)
 have HLV := Lib.hid (hW.lv (q, pr, X) (List.mem_of_getElem? hz))
 have HB := Lib.hid hB
 have HW := Lib.hid hW
 have HSL := Lib.hid hW.sl
 rw [hnZ] at HSL
 have HN := Lib.hid hnZ
 have HL := Lib.hid hL
 have HFs := Lib.hid hFs
 have hgs : Fs gs := (hW.own gs rfl).1
 have hgp : gs ≠ p := (hFs gs hgs).2
 have hpl := hlt p hp
 have hgl := hlt gs (hFs gs hgs).1
 have ho3 := offS_le s
 clear hW hB eL hJ hz hFs hL h hlt hlen hi hn hnZ
 obtain ⟨x, hx⟩ : ∃ x, X.length = x := ⟨_, rfl⟩
 have HX := Lib.hid hx
 have hX : x ≤ 100000000 := by rw [← hx]; exact hX
 clear hx
 by_cases hx0 : x = 0
 ·have HE : Hid (dropE A R (pr, X) = A ++ R) := by
   show _ = _
   unfold dropE
   rw [if_pos (by simp only [List.isEmpty_iff]; exact List.eq_nil_of_length_eq_zero (by rw [HX.out]; exact hx0))]
  go_enter Try.func69, Try.ntmps69
  go_upto_region 0 with fail
  refine wp_text 9 [pE p (offS s), pE p (offS s), pE p (offS s + 1), .eq (.slice (some ⟨gs, os, none⟩) n c), iE (i : Int), pE gs (os + i * 1), pE q 0, iE (x : Int), bE true] rfl (by kernel_rfl) ?_ ?_
  ·refine mE 1 0 ?_
   refine nD 2 4 0 ?_
   refine fD 3 5 1 73 1 1 (offS s) ?_
   refine sW 4 rfl (fun a u E D hk=>exec_ldv _ _ Try.underlying71 _ _ _ rfl (dD D 2) (Kept.cell hk (HV.out))) ?_
   refine mE 5 1 ?_
   refine sW 6 rfl (fun a u E D hk=>exec_ixo slQ _ _ (gs) (os) n c i (os + i * 1) ((i : Int)) rfl (dD D 3) (dD D 4) (by first | rfl | omega) (hin) (by first | rfl | omega)) ?_
   refine sW 7 rfl (fun a u E D hk=>exec_ldp _ _ Try.underlying97 _ _ _ rfl (dD D 5) (Kept.cell hk (HC.out))) ?_
   refine cS 8 83 [.pointer (some ⟨q, 0, none⟩)] rfl Try.func83 rfl (fun a u E D hk=>⟨ll (dD D 6) rfl, (by rw [← HX.out]; exact len_any u _ q X (HLV.out.kept hk))⟩) ?_
   refine aS 9 rfl (fun a u E D hk=>exec_eqn rfl (dD D 7) rfl) (decide_eq_true (by omega)) ?_
   exact fz
  intro gv w1 hV k1
  rw [dq 9 [4,5,6,7,8,9,10,11,12]]
  simp only [F7]
  rw [gQ hV 8 12 (.bool true)]
  clear hV
  refine wpList_nil ?_
  have HB1 := Lib.hid (HB.out.kept k1)
  have HV1 := Lib.hid (k1.cell HV.out)
  have HS1 := Lib.hid (HSL.out.kept k1)
  have HW1 := Lib.hid (HW.out.kept k1)
  clear HB HV HC HLV HSL
  go_upto_region 1 with fail
  refine wp_text 8 [pE p (offS s), pE p (offS s), pE p (offS s), pE p (offS s + 1), .eq (.slice (some ⟨gs, os, none⟩) n c), iE (i : Int), iE (i : Int), iE (((i : Int) : Int) + (1 : Int))] rfl (by kernel_rfl) ?_ ?_
  ·refine mE 1 0 ?_
   refine mE 2 0 ?_
   refine nD 3 14 1 ?_
   refine fD 4 15 2 73 1 1 (offS s) ?_
   refine sW 5 rfl (fun a u E D hk=>exec_ldv _ _ Try.underlying71 _ _ _ rfl (dD D 3) (Kept.cell hk (HV1.out))) ?_
   refine mE 6 1 ?_
   refine mE 7 1 ?_
   refine sW 8 rfl (fun a u E D hk=>exec_addn (p := ((i : Int))) (q := (1)) (((i : Int) : Int) + (1 : Int)) rfl (dD D 6) rfl rfl (by omega) (by omega)) ?_
   exact fz
  intro gv w2 hV k2
  rw [dq 8 [13,14,15,16,17,18,19,20]]
  simp only [F7]
  rw [gQ hV 4 17 (.slice (some ⟨gs, os, none⟩) n c)]
  rw [gQ hV 5 18 (.int .i64 (i : Int))]
  rw [gQ hV 7 20 (.int .i64 (((i : Int) : Int) + (1 : Int)))]
  rw [gQ hV 0 13 (.pointer (some ⟨p, offS s, none⟩))]
  clear hV
  refine l_call 91 #[.slice (some ⟨gs, os, none⟩) n c, .int .i64 (i : Int), .int .i64 (((i : Int) : Int) + (1 : Int))] rfl (exec_call 91 _ [.tmp 17, .tmp 18, .tmp 20] _ _ Try.func91 (by kernel_rfl) (by kernel_rfl) rfl (by kernel_rfl) _) ?_
  refine (ldelete_any gs os n c i Z w2 (HS1.out.kept k2) HN.out hin (by omega)).mono ?_
  rintro r w3 ⟨rfl, hS3, hk3⟩
  refine ⟨_, rfl, ?_⟩
  simp only [Act.put, sA, sS, sZ]
  refine l_val (.pointer (some ⟨p, offS s, none⟩)) rfl (exec_nilp (.tmp 13) ⟨p, offS s, none⟩ rfl (by kernel_rfl)) ?_
  simp only [Act.put, sA, sS, sZ]
  refine l_val (.pointer (some ⟨p, offS s + 1, none⟩)) rfl (exec_fldo 73 1 1 (.tmp 22) (p) (offS s) (offS s + 1) rfl (by kernel_rfl) (by kernel_rfl) rfl) ?_
  simp only [Act.put, sA, sS, sZ]
  refine l_st1 71 p (offS s + 1) 75 _ (.slice (some ⟨gs, os, none⟩) (n - 1) c) _ _ rfl rfl (by kernel_rfl) (by kernel_rfl) (by kernel_rfl) rfl rfl ((HB1.out.kept k2).keep hk3 (fun e => hgp e.symm)) (by rw [sideCs_len]; omega) ?_
  intro w4 hB4 hk4 hs4
  simp only [Act.put]
  refine wpList_nil ?_
  rw [sideCs_set] at hB4
  have k12 := k1.trans k2
  have K4 : Keep (fun b => Fs b ∨ b = p) w w4 := (((Keep.mono (T := fun b => Fs b ∨ b = p) k12 (fun _ _ h => h.elim)).trans hk3 (fun b _ hb => by subst hb; exact .inl hgs))).trans hk4 (fun b _ hb => by subst hb; exact .inr rfl)
  have hlZ : (Z.eraseIdx i).length = n - 1 := by rw [List.length_eraseIdx, if_pos (by rw [HN.out]; exact hin), HN.out]
  obtain ⟨Fs', hW', hG', hk', _⟩ := (HW.out.kept k12).fewer (w' := w3) (v' := .slice (some ⟨gs, os, none⟩) (n - 1) c) (Z' := Z.eraseIdx i) (List.eraseIdx_sublist Z i)
   (hk3.mono (fun b _ hb => by subst hb; rfl)) (by rw [hlZ]; exact hS3) (fun b hb => .inl hb)
  have hG2 := hG'.wide k12.size
  have hW4 := hW'.keep hk4 (fun b hb e => by
   subst e
   rcases hG2 b hb with h | h
   ·exact (HFs.out b h).2 rfl
   ·omega)
  obtain ⟨F', q1, q2, q3, q4⟩ := HJ.out w4 _ _ _ _ _ K4 hB4 ⟨_, _, HZR.out, hW4⟩ hG2
  go_wp2
  go_end0
  exact ⟨rfl, F', by rw [HE.out]; exact q1, q2, q3, q4⟩
 ·have HE : Hid (B.to s (dropE A R (pr, X)) B.last B.no = B) := by
   show _ = _
   unfold dropE
   rw [if_neg (fun h => hx0 (by have h' : X = [] := List.isEmpty_iff.1 h; rw [← HX.out, h']; rfl)), ← HL.out, Bok.to_self hs]
  go_enter Try.func69, Try.ntmps69
  go_upto_region 0 with fail
  refine wp_text 9 [pE p (offS s), pE p (offS s), pE p (offS s + 1), .eq (.slice (some ⟨gs, os, none⟩) n c), iE (i : Int), pE gs (os + i * 1), pE q 0, iE (x : Int), bE false] rfl (by kernel_rfl) ?_ ?_
  ·refine mE 1 0 ?_
   refine nD 2 4 0 ?_
   refine fD 3 5 1 73 1 1 (offS s) ?_
   refine sW 4 rfl (fun a u E D hk=>exec_ldv _ _ Try.underlying71 _ _ _ rfl (dD D 2) (Kept.cell hk (HV.out))) ?_
   refine mE 5 1 ?_
   refine sW 6 rfl (fun a u E D hk=>exec_ixo slQ _ _ (gs) (os) n c i (os + i * 1) ((i : Int)) rfl (dD D 3) (dD D 4) (by first | rfl | omega) (hin) (by first | rfl | omega)) ?_
   refine sW 7 rfl (fun a u E D hk=>exec_ldp _ _ Try.underlying97 _ _ _ rfl (dD D 5) (Kept.cell hk (HC.out))) ?_
   refine cS 8 83 [.pointer (some ⟨q, 0, none⟩)] rfl Try.func83 rfl (fun a u E D hk=>⟨ll (dD D 6) rfl, (by rw [← HX.out]; exact len_any u _ q X (HLV.out.kept hk))⟩) ?_
   refine aS 9 rfl (fun a u E D hk=>exec_eqn rfl (dD D 7) rfl) (decide_eq_false (by omega)) ?_
   exact fz
  intro gv w1 hV k1
  rw [dq 9 [4,5,6,7,8,9,10,11,12]]
  simp only [F7]
  rw [gQ hV 8 12 (.bool false)]
  clear hV
  refine wpList_nil ?_
  have hk1 := HK.out.kept k1
  go_wp2
  go_end0
  exact ⟨rfl, F, by rw [HE.out]; exact hk1, Grow.refl _ _, Keep.mono (T := F) k1 (fun _ _ h => h.elim), fun _ h => h⟩
theorem lessL_at {t i q : Int} {l : Lev} {R : List Lev} : ∀ {A : List Lev}, (∀ x ∈ A, (lessM t i q x.2).1 = false) → (lessM t i q l.2).1 = true → lessL t i q (A ++ l :: R) = (true, A ++ (l.1, (lessM t i q l.2).2) :: R)
 | [], _, h => by rw [List.nil_append, lessL, if_pos h]; rfl
 | a :: A, hA, h => by
  have ih := lessL_at (A := A) (l := l) (R := R) (fun x hx => hA x (by simp [hx])) h
  rw [List.cons_append, lessL, if_neg (by rw [hA a (by simp)]; simp), ih]
  rfl
theorem lessL_none {t i q : Int} : ∀ {L : List Lev}, (∀ x ∈ L, (lessM t i q x.2).1 = false) → lessL t i q L = (false, L)
 | [], _ => rfl
 | a :: A, hA => by
  have ih := lessL_none (L := A) (fun x hx => hA x (by simp [hx]))
  rw [lessL, if_neg (by rw [hA a (by simp)]; simp), ih]
theorem removeL_at {t i : Int} {l : Lev} {R : List Lev} : ∀ {A : List Lev}, (∀ x ∈ A, (removeM t i x.2).2.1 = false) → (removeM t i l.2).2.1 = true → removeL t i (A ++ l :: R) = ((removeM t i l.2).1, true, dropE A R (l.1, (removeM t i l.2).2.2))
 | [], _, h => by
  rw [List.nil_append, removeL, if_pos h]
  unfold dropE
  rfl
 | a :: A, hA, h => by
  have ih := removeL_at (A := A) (l := l) (R := R) (fun x hx => hA x (by simp [hx])) h
  rw [List.cons_append, removeL, if_neg (by rw [hA a (by simp)]; simp), ih]
  unfold dropE
  split <;> rfl
theorem removeL_no {t i : Int} : ∀ {L : List Lev}, (∀ x ∈ L, (removeM t i x.2).2.1 = false) → removeL t i L = (zeroO, false, L)
 | [], _ => rfl
 | a :: A, hA => by
  have ih := removeL_no (L := A) (fun x hx => hA x (by simp [hx]))
  rw [removeL, if_neg (by rw [hA a (by simp)]; simp), ih]
theorem LvsOk.one {L : List Lev} (h : LvsOk L) {l : Lev} (hl : l ∈ L) : l.2.length ≤ 64 := by
 obtain ⟨a, b, rfl⟩ := List.append_of_mem hl
 have := h.few
 rw [entL_append, entL_cons, List.length_append, List.length_append] at this
 omega
theorem split_at {Z : Zs} {k : Nat} {z : Nat × Lev} (h : Z[k]? = some z) : Z = Z.take k ++ z :: Z.drop (k + 1) := by
 obtain ⟨hk, rfl⟩ := List.getElem?_eq_some_iff.1 h
 rw [← List.drop_eq_getElem_cons hk, List.take_append_drop]
set_option maxRecDepth 100000 in
set_option maxHeartbeats 1600000 in
theorem lless_any (w : World) (F : Nat → Prop) (p : Nat) (B : Bok) (s t j y : Int) (h : Bk w F p B) (hs : s = 1 ∨ s = 2) (hL : LvsOk (B.sd s)) :
  Calls Try.prog 54 #[.pointer (some ⟨p, offS s, none⟩), .int .i64 t, .int .i64 j, .int .i64 y] w fun r w' => ∃ F', r = .returned (.bool (lessL t j y (B.sd s)).1) ∧ Bk w' F' p (B.to s (lessL t j y (B.sd s)).2 B.last B.no) ∧ Grow w F F' ∧ Keep F w w' ∧ ((lessL t j y (B.sd s)).1 = false → Kept w w') := by
 have HK := Lib.hid h
 obtain ⟨v, u0, Z, G, Fs, eL, hW, hB, hFs, hp, hlt, hJ⟩ := h.open_ hs
 obtain ⟨L, hLe⟩ : ∃ L, B.sd s = L := ⟨_, rfl⟩
 rw [hLe] at eL hL ⊢
 have HLE := Lib.hid hLe
 have HJ := Lib.hid hJ
 have hn64 : Z.length ≤ 64 := by have := hL.len; rw [← eL, levs_len] at this; exact this
 have HV : Hid (w.cell? ⟨p, offS s + 1, none⟩ = some v) := by show _ = _; rw [hB.cell]; exact sideCs_get s _ _ _ _
 have HB := Lib.hid hB
 have HW := Lib.hid hW
 have HL := Lib.hid hL
 have EL := Lib.hid eL
 have HFs := Lib.hid hFs
 have HLT := Lib.hid hlt
 obtain ⟨n, hn⟩ : ∃ n, Z.length = n := ⟨_, rfl⟩
 have HSL := Lib.hid hW.sl
 rw [hn] at HSL hn64
 have HN := Lib.hid hn
 have hpl := hlt p hp
 clear hB hW hL eL hFs hn h hlt hJ hLe
 go_enter Try.func54, Try.ntmps54
 go_upto_region 1 with fail
 refine wp_text 6 [pE p (offS s), pE p (offS s), pE p (offS s + 1), .eq (v), iE (n : Int), iE 0] rfl (by kernel_rfl) ?_ ?_
 ·refine mE 1 0 ?_
  refine nD 2 11 0 ?_
  refine fD 3 12 1 73 1 1 (offS s) ?_
  refine sW 4 rfl (fun a u E D hk=>exec_ldv _ _ Try.underlying71 _ _ _ rfl (dD D 2) (Kept.cell hk (HV.out))) ?_
  refine sW 5 rfl (fun a u E D hk=>exec_lenS _ slQ _ _ _ _ rfl (dD D 3) HSL.out) ?_
  refine sW 6 rfl (fun a u E D hk=>exec_move _ _ rfl rfl) ?_
  exact fz
 intro gv w0 hV k0
 rw [dq 6 [11,12,13,14,15,16]]
 simp only [F7]
 rw [gQ hV 3 14 v]
 rw [gQ hV 4 15 (.int .i64 (n : Int))]
 rw [gQ hV 5 16 (.int .i64 0)]
 clear hV
 refine wpList_nil ?_
 go_wp2_with fail
 go_loopw [16] (fun x wr => ∃ (k : Nat), k ≤ n ∧ x = .int .i64 k ∧ Hid (∀ x ∈ L.take k, (lessM t j y x.2).1 = false) ∧ Kept w wr) (fun x _ => n - (intOf x).toNat)
 case atStart => exact ⟨0, Nat.zero_le _, rfl, by intro x hx; simp at hx, k0⟩
 case round =>
  obtain ⟨i, hi, rfl, HM, hkr⟩ := hrel
  by_cases hlt : i < n
  ·skip
   obtain ⟨gs, os, c, rfl⟩ := HSL.out.some_ (by omega)
   obtain ⟨z, hz⟩ : ∃ z, Z[i]? = some z := ⟨Z[i]'(by rw [HN.out]; omega), List.getElem?_eq_getElem (by rw [HN.out]; omega)⟩
   obtain ⟨q, pr, X⟩ := z
   have HC := Lib.hid ((HW.out.kept hkr).cell hz)
   have HZ := Lib.hid (split_at hz)
   have hzi := hz
   have HLV := Lib.hid ((HW.out.kept hkr).lv (q, pr, X) (List.mem_of_getElem? hz))
   have HGF := Lib.hid (HW.out.in_ (q, pr, X) (List.mem_of_getElem? hz))
   have HX := Lib.hid (HL.out.one (l := (pr, X)) (by rw [← EL.out]; exact levs_mem (List.mem_of_getElem? hz)))
   have HA : Hid (L[i]? = some (pr, X)) := by show _ = _; rw [← EL.out]; exact levs_at hz
   clear hz hzi
   go_upto_region 3 with fail
   refine wp_text 3 [pE gs (os + i * 1), pE q 0, pE q 0] rfl (by kernel_rfl) ?_ ?_
   ·refine sW 1 rfl (fun a u E D hk=>exec_ixo slQ _ _ (gs) (os) n c i (os + i * 1) ((i : Int)) rfl (eE E) (eE E) (by first | rfl | omega) (hlt) (by first | rfl | omega)) ?_
    refine sW 2 rfl (fun a u E D hk=>exec_ldp _ _ Try.underlying97 _ _ _ rfl (dD D 0) (Kept.cell hk (HC.out))) ?_
    refine mD 3 19 1 ?_
    exact fz
   intro gv w1 hV k1
   rw [dq 3 [18,19,10]]
   simp only [F7]
   rw [gQ hV 2 10 (.pointer (some ⟨q, 0, none⟩))]
   clear hV
   refine wpList_nil ?_
   have HLV1 := Lib.hid (HLV.out.kept k1)
   have kw1 := hkr.trans k1
   clear HC HLV k1
   obtain ⟨b, hb⟩ : ∃ b, (lessM t j y X).1 = b := ⟨_, rfl⟩
   have HBB := Lib.hid hb
   clear hb
   go_upto_region 4 with fail
   refine wp_text 4 [pE q 0, iE t, iE j, iE y] rfl (by kernel_rfl) ?_ ?_
   ·refine mE 1 10 ?_
    refine mE 2 1 ?_
    refine mE 3 2 ?_
    refine mE 4 3 ?_
    exact fz
   intro gv w2 hV k2
   rw [dq 4 [20,21,22,23]]
   simp only [F7]
   rw [gQ hV 0 20 (.pointer (some ⟨q, 0, none⟩))]
   rw [gQ hV 1 21 (.int .i64 t)]
   rw [gQ hV 2 22 (.int .i64 j)]
   rw [gQ hV 3 23 (.int .i64 y)]
   clear hV
   refine l_call 78 #[.pointer (some ⟨q, 0, none⟩), .int .i64 t, .int .i64 j, .int .i64 y] rfl (exec_call 78 _ [.tmp 20, .tmp 21, .tmp 22, .tmp 23] _ _ Try.func78 (by kernel_rfl) (by kernel_rfl) rfl (by kernel_rfl) _) ?_
   refine (less_any w2 _ q X t j y (HLV1.out.kept k2) (by have := HX.out; simp only at this; omega)).mono ?_
   rintro r w3 ⟨rfl, hl3, hk3, hq3⟩
   refine ⟨.bool b, by rw [HBB.out], ?_⟩
   rw [HBB.out] at hq3
   simp only [Act.put, sA, sS, sZ]
   refine wpList_nil ?_
   have kw2 := kw1.trans k2
   have HL3 := Lib.hid hl3
   have HK3 := Lib.hid hk3
   have HQ3 := Lib.hid hq3
   clear hl3 hk3 hq3 HLV1 k2 kw1
   cases b with
   | true =>
    have HR : Hid (lessL t j y L = (true, levs (Z.take i ++ (q, pr, (lessM t j y X).2) :: Z.drop (i + 1)))) := by
     show _ = _
     have e1 : L = levs (Z.take i) ++ (pr, X) :: levs (Z.drop (i + 1)) := by
      rw [← EL.out]
      conv => lhs; rw [HZ.out]
      rw [levs_append, levs_cons]
     have e2 : L.take i = levs (Z.take i) := by rw [← EL.out]; simp [levs, List.map_take]
     rw [e2] at HM
     conv => lhs; rw [e1]
     rw [lessL_at HM.out HBB.out, levs_append, levs_cons]
    obtain ⟨Fs', G', hW', hG', hk', _⟩ := WayZ.turn (A := Z.take i) (R := Z.drop (i + 1)) (q := q) (pr := pr) (X := X) (by rw [← HZ.out]; exact HW.out.kept kw2) HK3.out HL3.out (Grow.refl _ _)
    have K3 : Keep (fun b => Fs b ∨ b = p) w w3 := (Keep.mono (T := fun b => Fs b ∨ b = p) kw2 (fun _ _ h => h.elim)).trans hk' (fun b _ hb => .inl hb)
    have hB3 := (HB.out.kept kw2).keep hk' (fun h => (HFs.out p h).2 rfl)
    obtain ⟨F', q1, q2, q3, _⟩ := HJ.out w3 _ _ _ _ _ K3 hB3 ⟨_, _, rfl, hW'⟩ (hG'.wide kw2.size)
    have Q1 := Lib.hid q1
    clear HL3 HK3 HQ3 hW' hG' hk' K3 hB3 HB q1
    go_wp2
    go_ret
    rw [HR.out]
    exact ⟨rfl, F', Q1.out, q2, q3, fun h => by cases h⟩
   | false =>
    have kw3 := kw2.trans (HQ3.out rfl)
    have HM1 : Hid (∀ x ∈ L.take (i + 1), (lessM t j y x.2).1 = false) := by
     intro x hx
     rw [List.take_add_one, HA.out] at hx
     rcases List.mem_append.1 hx with hx | hx
     ·exact HM.out x hx
     ·simp at hx
      subst hx
      exact HBB.out
    clear HL3 HK3 HQ3 HM
    go_wp2
    exact ⟨⟨i + 1, by omega, by go_num, HM1, kw3⟩, by simp [intOf]; omega⟩
  ·have HF : Hid (lessL t j y L = (false, L)) := by
    show _ = _
    refine lessL_none fun x hx => HM.out x ?_
    rw [List.take_of_length_le (by rw [← EL.out, levs_len, HN.out]; omega)]
    exact hx
   have HE : Hid (B.to s L B.last B.no = B) := by show _ = _; rw [← HLE.out]; exact Bok.to_self hs
   clear HM
   go_wp2
   go_ret
   rw [HF.out]
   exact ⟨F, rfl, by rw [HE.out]; exact HK.out.kept hkr, Grow.refl _ _, Keep.mono (T := F) hkr (fun _ _ h => h.elim), fun _ => hkr⟩
set_option maxRecDepth 100000 in
set_option maxHeartbeats 1600000 in
theorem lremove_any (w : World) (F : Nat → Prop) (p : Nat) (B : Bok) (s t j : Int) (h : Bk w F p B) (hs : s = 1 ∨ s = 2) (hL : LvsOk (B.sd s)) :
  Calls Try.prog 52 #[.pointer (some ⟨p, offS s, none⟩), .int .i64 t, .int .i64 j] w fun r w' => ∃ F', r = .returned (.tuple #[(removeL t j (B.sd s)).1.v, .bool (removeL t j (B.sd s)).2.1]) ∧ Bk w' F' p (B.to s (removeL t j (B.sd s)).2.2 B.last B.no) ∧ Grow w F F' ∧ Keep F w w' ∧ ((removeL t j (B.sd s)).2.1 = false → Kept w w') := by
 have hFl := h.lt
 obtain ⟨L, hLe⟩ : ∃ L, B.sd s = L := ⟨_, rfl⟩
 rw [hLe] at hL ⊢
 go_enter Try.func52, Try.ntmps52
 go_upto_region 0 with fail
 refine wp_text 2 [.fresh w.heap.size 25 zeroO.cells, bE false] rfl (by kernel_rfl) ?_ ?_
 ·refine nW 1 rfl (fun a u E D hk=>⟨_, _, exec_alc 25 zeroO.cells rfl zO, ⟨_, rfl, hk.size, Blk.new u _ _⟩, ((Keep.refl _ u).alloc _)⟩) ?_
  refine sW 2 rfl (fun a u E D hk=>exec_assign _ _ rfl rfl) ?_
  exact fz
 intro gv wz hV kz
 rw [dq 2 [6,7]]
 simp only [F7]
 have hv6 : (.fresh w.heap.size 25 zeroO.cells : Kn).p (gv 6) wz := hV 0 6 (by kernel_rfl)
 generalize gv 6 = v6 at hv6 ⊢
 rw [gQ hV 1 7 (.bool false)]
 clear hV
 obtain ⟨b6, rfl, hb6, hB6⟩ := hv6
 refine wpList_nil ?_
 have HB6 := Lib.hid hB6
 have l6 := hB6.lt
 have h6F : ¬ F b6 := fun h => by have := hFl b6 h; omega
 clear hB6 hFl
 replace h := h.kept kz
 have HK := Lib.hid h
 obtain ⟨v, u0, Z, G, Fs, eL, hW, hB, hFs, hp, hlt, hJ⟩ := h.open_ hs
 rw [hLe] at eL
 have HLE := Lib.hid hLe
 have HJ := Lib.hid hJ
 have hn64 : Z.length ≤ 64 := by have := hL.len; rw [← eL, levs_len] at this; exact this
 have HV : Hid (wz.cell? ⟨p, offS s + 1, none⟩ = some v) := by show _ = _; rw [hB.cell]; exact sideCs_get s _ _ _ _
 have HB := Lib.hid hB
 have HW := Lib.hid hW
 have HL := Lib.hid hL
 have EL := Lib.hid eL
 have HFs := Lib.hid hFs
 have HLT := Lib.hid hlt
 obtain ⟨n, hn⟩ : ∃ n, Z.length = n := ⟨_, rfl⟩
 have HSL := Lib.hid hW.sl
 rw [hn] at HSL hn64
 have HN := Lib.hid hn
 have hpl := hlt p hp
 clear hB hW hL eL hFs hn h hlt hJ hLe
 go_upto_region 1 with fail
 refine wp_text 6 [pE p (offS s), pE p (offS s), pE p (offS s + 1), .eq (v), iE (n : Int), iE 0] rfl (by kernel_rfl) ?_ ?_
 ·refine mE 1 0 ?_
  refine nD 2 12 0 ?_
  refine fD 3 13 1 73 1 1 (offS s) ?_
  refine sW 4 rfl (fun a u E D hk=>exec_ldv _ _ Try.underlying71 _ _ _ rfl (dD D 2) (Kept.cell hk (HV.out))) ?_
  refine sW 5 rfl (fun a u E D hk=>exec_lenS _ slQ _ _ _ _ rfl (dD D 3) HSL.out) ?_
  refine sW 6 rfl (fun a u E D hk=>exec_move _ _ rfl rfl) ?_
  exact fz
 intro gv w0 hV k0
 rw [dq 6 [12,13,14,15,16,17]]
 simp only [F7]
 rw [gQ hV 3 15 v]
 rw [gQ hV 4 16 (.int .i64 (n : Int))]
 rw [gQ hV 5 17 (.int .i64 0)]
 clear hV
 refine wpList_nil ?_
 go_wp2_with fail
 go_loopw [17] (fun x wr => ∃ (k : Nat), k ≤ n ∧ x = .int .i64 k ∧ Hid (∀ x ∈ L.take k, (removeM t j x.2).2.1 = false) ∧ Kept wz wr) (fun x _ => n - (intOf x).toNat)
 case atStart => exact ⟨0, Nat.zero_le _, rfl, by intro x hx; simp at hx, k0⟩
 case round =>
  obtain ⟨i, hi, rfl, HM, hkr⟩ := hrel
  by_cases hlt : i < n
  ·skip
   obtain ⟨gs, os, c, rfl⟩ := HSL.out.some_ (by omega)
   obtain ⟨z, hz⟩ : ∃ z, Z[i]? = some z := ⟨Z[i]'(by rw [HN.out]; omega), List.getElem?_eq_getElem (by rw [HN.out]; omega)⟩
   obtain ⟨q, pr, X⟩ := z
   have HC := Lib.hid ((HW.out.kept hkr).cell hz)
   have HZ := Lib.hid (split_at hz)
   have HLV := Lib.hid ((HW.out.kept hkr).lv (q, pr, X) (List.mem_of_getElem? hz))
   have HX := Lib.hid (HL.out.one (l := (pr, X)) (by rw [← EL.out]; exact levs_mem (List.mem_of_getElem? hz)))
   have HA : Hid (L[i]? = some (pr, X)) := by show _ = _; rw [← EL.out]; exact levs_at hz
   clear hz
   go_upto_region 3 with fail
   refine wp_text 5 [iE (i : Int), pE gs (os + i * 1), pE q 0, iE (i : Int), pE q 0] rfl (by kernel_rfl) ?_ ?_
   ·refine mE 1 17 ?_
    refine sW 2 rfl (fun a u E D hk=>exec_ixo slQ _ _ (gs) (os) n c i (os + i * 1) ((i : Int)) rfl (eE E) (eE E) (by first | rfl | omega) (hlt) (by first | rfl | omega)) ?_
    refine sW 3 rfl (fun a u E D hk=>exec_ldp _ _ Try.underlying97 _ _ _ rfl (dD D 1) (Kept.cell hk (HC.out))) ?_
    refine mD 4 19 0 ?_
    refine mD 5 21 2 ?_
    exact fz
   intro gv w1 hV k1
   rw [dq 5 [19,20,21,8,9]]
   simp only [F7]
   rw [gQ hV 3 8 (.int .i64 (i : Int))]
   rw [gQ hV 4 9 (.pointer (some ⟨q, 0, none⟩))]
   clear hV
   refine wpList_nil ?_
   have HLV1 := Lib.hid (HLV.out.kept k1)
   have kw1 := hkr.trans k1
   clear HC HLV k1
   obtain ⟨b, hb⟩ : ∃ b, (removeM t j X).2.1 = b := ⟨_, rfl⟩
   obtain ⟨e, he⟩ : ∃ e, (removeM t j X).1 = e := ⟨_, rfl⟩
   have HBB := Lib.hid hb
   have HEE := Lib.hid he
   clear hb he
   go_upto_region 4 with fail
   refine wp_text 3 [pE q 0, iE t, iE j] rfl (by kernel_rfl) ?_ ?_
   ·refine mE 1 9 ?_
    refine mE 2 1 ?_
    refine mE 3 2 ?_
    exact fz
   intro gv w2 hV k2
   rw [dq 3 [23,24,25]]
   simp only [F7]
   rw [gQ hV 0 23 (.pointer (some ⟨q, 0, none⟩))]
   rw [gQ hV 1 24 (.int .i64 t)]
   rw [gQ hV 2 25 (.int .i64 j)]
   clear hV
   refine l_call 77 #[.pointer (some ⟨q, 0, none⟩), .int .i64 t, .int .i64 j] rfl (exec_call 77 _ [.tmp 23, .tmp 24, .tmp 25] _ _ Try.func77 (by kernel_rfl) (by kernel_rfl) rfl (by kernel_rfl) _) ?_
   refine (remove_any w2 _ q X t j (HLV1.out.kept k2) (by have := HX.out; simp only at this; omega)).mono ?_
   rintro r w3 ⟨rfl, hl3, hk3, hq3⟩
   refine ⟨.tuple #[e.v, .bool b], by rw [HBB.out, HEE.out], ?_⟩
   rw [HBB.out] at hq3
   simp only [Act.put, sA, sS, sZ]
   refine l_val (.tuple #[e.v, .bool b]) rfl (exec_move _ _ rfl (by kernel_rfl)) ?_
   simp only [Act.put, sA, sS, sZ]
   refine l_val (e.v) rfl (exec_extract (.tmp 22) [e.v, .bool b] 0 (e.v) rfl (by kernel_rfl) rfl) ?_
   simp only [Act.put, sA, sS, sZ]
   refine l_val (.bool b) rfl (exec_extract (.tmp 22) [e.v, .bool b] 1 (.bool b) rfl (by kernel_rfl) rfl) ?_
   simp only [Act.put, sA, sS, sZ]
   refine l_new (.pointer (some ⟨w3.heap.size, 0, none⟩)) (w3.alloc (.cells zeroO.cells.toArray 25)) rfl (exec_alc 25 zeroO.cells rfl zO) ?_
   have hNw4 := Blk.new w3 25 zeroO.cells
   have kw4 : Kept w3 (w3.alloc (.cells zeroO.cells.toArray 25)) := (Keep.refl _ w3).alloc _
   generalize w3.alloc (.cells zeroO.cells.toArray 25) = w4 at hNw4 kw4 ⊢
   simp only [Act.put, sA, sS, sZ]
   refine l_setS 25 w3.heap.size 25 zeroO.cells e.cells _ _ rfl rfl (by kernel_rfl) (by kernel_rfl) hNw4 (by rw [Ord.len9]; exact ord_size) (by rw [Ord.len9, Ord.len9]) (Ord.one1 _) ?_
   intro w5 hB5 hk5 hs5
   simp only [Act.put]
   refine l_val (.bool b) rfl (exec_assign _ _ rfl (by kernel_rfl)) ?_
   simp only [Act.put, sA, sS, sZ]
   refine wpList_nil ?_
   obtain ⟨b10, hb10⟩ : ∃ x, w3.heap.size = x := ⟨_, rfl⟩
   rw [hb10] at hNw4 hB5 hk5 ⊢
   have l10 := hB5.lt
   have K35 : Kept w3 w5 := kw4.trans' hk5 (by omega)
   have kw2 := kw1.trans k2
   have HL3 := Lib.hid hl3
   have HK3 := Lib.hid hk3
   have HQ3 := Lib.hid hq3
   have HB10 := Lib.hid hB5
   have z2 := kw2.size
   have z3 := hk3.size
   clear hl3 hk3 hq3 HLV1 k2 kw1 hNw4 hB5 hk5 hs5 kw4
   cases b with
   | true =>
    have HR : Hid (removeL t j L = (e, true, dropE (levs (Z.take i)) (levs (Z.drop (i + 1))) (pr, (removeM t j X).2.2))) := by
     show _ = _
     have e1 : L = levs (Z.take i) ++ (pr, X) :: levs (Z.drop (i + 1)) := by
      rw [← EL.out]
      conv => lhs; rw [HZ.out]
      rw [levs_append, levs_cons]
     have e2 : L.take i = levs (Z.take i) := by rw [← EL.out]; simp [levs, List.map_take]
     rw [e2] at HM
     conv => lhs; rw [e1]
     rw [removeL_at HM.out HBB.out, HEE.out]
    have HX' : Hid ((removeM t j X).2.2.length ≤ 64) := by
     have h1 := HX.out
     simp only at h1
     show _ ≤ _
     unfold removeM
     split
     ·exact h1
     ·simp only
      rw [List.length_eraseIdx]
      split <;> omega
    obtain ⟨Fs', G', hW', hG', hk', _⟩ := WayZ.turn (A := Z.take i) (R := Z.drop (i + 1)) (q := q) (pr := pr) (X := X) (by rw [← HZ.out]; exact HW.out.kept kw2) HK3.out HL3.out (Grow.refl _ _)
    have K3 : Keep (fun b => Fs b ∨ b = p) wz w3 := (Keep.mono (T := fun b => Fs b ∨ b = p) kw2 (fun _ _ h => h.elim)).trans hk' (fun b _ hb => .inl hb)
    have hB3 := (HB.out.kept kw2).keep hk' (fun h => (HFs.out p h).2 rfl)
    obtain ⟨F', q1, q2, q3, q4⟩ := HJ.out w3 _ _ _ _ _ K3 hB3 ⟨_, _, rfl, hW'⟩ (hG'.wide kw2.size)
    have h6F' : ¬ F' b6 := fun h => (q2 b6 h).elim h6F (fun h => by omega)
    have h10F' : ¬ F' b10 := fun h => by have := q1.lt b10 h; omega
    have Q5 := Lib.hid (q1.kept K35)
    have HB65 := Lib.hid (((HB6.out.kept kw2).keep HK3.out (fun h => h6F (HFs.out b6 ((HW.out.in_ (q, pr, X) (by rw [HZ.out]; simp)) b6 h)).1)).kept K35)
    have q3' := q3.kept K35
    have q2' := q2
    clear HL3 HK3 HQ3 hW' hG' hk' K3 hB3 HB q1 HB6
    have hlen1 : (levs (Z.take i)).length = i := by rw [levs_len, List.length_take, HN.out]; omega
    have hlen2 : (levs (Z.drop (i + 1))).length ≤ 64 := by rw [levs_len, List.length_drop, HN.out]; omega
    have HLN := Lib.hid hlen1
    have HLN2 := Lib.hid hlen2
    clear hlen1 hlen2
    go_upto_region 6 with fail
    refine wp_text 2 [pE p (offS s), iE (i : Int)] rfl (by kernel_rfl) ?_ ?_
    ·refine mE 1 0 ?_
     refine mE 2 8 ?_
     exact fz
    intro gv w6 hV k6
    rw [dq 2 [30,31]]
    simp only [F7]
    rw [gQ hV 0 30 (.pointer (some ⟨p, offS s, none⟩))]
    rw [gQ hV 1 31 (.int .i64 (i : Int))]
    clear hV
    refine l_call 69 #[.pointer (some ⟨p, offS s, none⟩), .int .i64 (i : Int)] rfl (exec_call 69 _ [.tmp 30, .tmp 31] _ _ Try.func69 (by kernel_rfl) (by kernel_rfl) rfl (by kernel_rfl) _) ?_
    refine (drop_if_any w6 F' p _ s (levs (Z.take i)) (levs (Z.drop (i + 1))) (pr, (removeM t j X).2.2) i (Q5.out.kept k6) hs (by rw [Bok.to_sd hs, levs_append, levs_cons]) HLN.out (by rw [HLN.out]; have := HLN2.out; omega) (by have := HX'.out; simp only; omega)).mono ?_
    rintro r w7 ⟨F2, rfl, h7, g7, k7, s7⟩
    refine ⟨_, rfl, ?_⟩
    simp only [Act.put, sA, sS, sZ]
    refine wpList_nil ?_
    have K57 : Keep F' w5 w7 := Keep.any k6 k7
    have HB67 := Lib.hid (HB65.out.keep K57 h6F')
    have HB107 := Lib.hid (blk_range (HB10.out.keep K57 h10F'))
    have z5 := K35.size
    have z6 := k6.size
    have z7 := k7.size
    have h6F2 : ¬ F2 b6 := fun h => (g7 b6 h).elim h6F' (fun h => by omega)
    have HK7 := Lib.hid h7
    have HG7 : Hid (Grow wz F F2) := by
     show Grow _ _ _
     exact q2'.trans (g7.wide (Nat.le_trans (by omega) z6)) (by omega)
    have HKK : Hid (Keep F w w7) := (Keep.mono (T := F) kz (fun _ _ h => h.elim)).trans (q3'.trans K57 (fun b hb h => (q2' b h).elim id (fun h' => by omega))) (fun _ _ h => h)
    clear h7 g7 k7 s7 HB10 HB65 K57 k6 Q5 q3' q3 K35
    go_upto_region 7 with fail
    refine wp_text 1 [.eq (e.v)] rfl (by kernel_rfl) ?_ ?_
    ·refine sW 1 rfl (fun a u E D hk=>exec_ldS 25 _ _ (b10) (0) (e.cells) rfl (eE E) (range_kept HB107.out hk) Try.underlying25 (by rw [e.len9]; exact ord_size)) ?_
     exact fz
    intro gv w8 hV k8
    rw [dq 1 [33]]
    simp only [F7]
    rw [gQ hV 0 33 e.v]
    clear hV
    refine l_setS 25 b6 25 zeroO.cells e.cells _ _ rfl rfl (by kernel_rfl) (by kernel_rfl) (HB67.out.kept k8) (by rw [Ord.len9]; exact ord_size) (by rw [Ord.len9, Ord.len9]) (Ord.one1 _) ?_
    intro w9 hB9 hk9 hs9
    simp only [Act.put]
    refine l_val (.bool true) rfl (exec_assign _ _ rfl (by kernel_rfl)) ?_
    simp only [Act.put, sA, sS, sZ]
    refine wpList_nil ?_
    go_wp2
    refine bodyPost_ret (results_cell2 (p := 6) (q := 7) rfl _ _ b6 _ e.cells true rfl rfl hB9 Try.underlying25 (by rw [Ord.len9]; exact ord_size)) rfl ?_
    rw [HR.out]
    have zz := kz.size
    refine ⟨rfl, F2, ?_, HG7.out.wide zz, (HKK.out.kept k8).trans hk9 (fun b hb h => by subst h; omega), fun h => by cases h⟩
    have h9 := (HK7.out.kept k8).keep hk9 (fun b hb h => h6F2 (by subst h; exact hb))
    rw [Bok.to_to hs] at h9
    exact h9
   | false =>
    have kw3 := (kw2.trans (HQ3.out rfl)).trans K35
    have HM1 : Hid (∀ x ∈ L.take (i + 1), (removeM t j x.2).2.1 = false) := by
     intro x hx
     rw [List.take_add_one, HA.out] at hx
     rcases List.mem_append.1 hx with hx | hx
     ·exact HM.out x hx
     ·simp at hx
      subst hx
      exact HBB.out
    clear HL3 HK3 HQ3 HM K35 kw2 z2 z3 l10 hb10 HB10
    go_wp2
    exact ⟨⟨i + 1, by omega, by go_num, HM1, kw3⟩, by simp [intOf]; omega⟩
  ·have HF : Hid (removeL t j L = (zeroO, false, L)) := by
    show _ = _
    refine removeL_no fun x hx => HM.out x ?_
    rw [List.take_of_length_le (by rw [← EL.out, levs_len, HN.out]; omega)]
    exact hx
   have HE : Hid (B.to s L B.last B.no = B) := by show _ = _; rw [← HLE.out]; exact Bok.to_self hs
   clear HM
   go_upto_region 9 with fail
   refine wp_text 1 [.eq (zeroO.v)] rfl (by kernel_rfl) ?_ ?_
   ·refine sW 1 rfl (fun a u E D hk=>exec_build 25 [] zeroO.cells rfl (by kernel_rfl)) ?_
    exact fz
   intro gv w2 hV k2
   rw [dq 1 [35]]
   simp only [F7]
   rw [gQ hV 0 35 zeroO.v]
   clear hV
   refine l_setS 25 b6 25 zeroO.cells zeroO.cells _ _ rfl rfl (by kernel_rfl) (by kernel_rfl) ((HB6.out.kept hkr).kept k2) (by rw [Ord.len9]; exact ord_size) rfl (Ord.one1 _) ?_
   intro w3 hB3 hk3 hs3
   simp only [Act.put]
   refine l_val (.bool false) rfl (exec_assign _ _ rfl (by kernel_rfl)) ?_
   simp only [Act.put, sA, sS, sZ]
   refine wpList_nil ?_
   go_wp2
   refine bodyPost_ret (results_cell2 (p := 6) (q := 7) rfl _ _ b6 _ zeroO.cells false rfl rfl hB3 Try.underlying25 (by rw [Ord.len9]; exact ord_size)) rfl ?_
   rw [HF.out]
   have k13 : Kept w w3 := ((kz.trans hkr).trans k2).trans' hk3 (by omega)
   exact ⟨F, rfl, by rw [HE.out]; exact ((HK.out.kept hkr).kept k2).keep hk3 (fun b hb h => h6F (by subst h; exact hb)), Grow.refl _ _, Keep.mono (T := F) k13 (fun _ _ h => h.elim), fun _ => k13⟩
end Go.Proofs.Ytfpfpmhkkgfdbaa
namespace Go.Proofs.Ytfpfpmhkkgfdbaa
open Go.RowKit
set_option maxRecDepth 100000
variable {pr : Int}
set_option maxRecDepth 100000 in
set_option maxHeartbeats 1600000 in
theorem rless2_any (w : World) (F : Nat → Prop) (p : Nat) (X : List Ent) (t i q : Int) (h : Lvl pr 86 95 w F p X) (hlen : X.length ≤ 100000000) : Calls Try.prog 55 #[.pointer (some ⟨p, 0, none⟩), .int .i64 t, .int .i64 i, .int .i64 q] w fun r w' => ∃ F', r = .returned (.bool (lessM t i q X).1) ∧ Lvl pr 86 95 w' F' p (lessM t i q X).2 ∧ Grow w F F' ∧ Keep F w w' ∧ ((lessM t i q X).1 = false → Kept w w') := by
 have HL := Lib.hid h
 obtain ⟨h1, h2, v, hB, hS, h5⟩ := h
 obtain ⟨n, hn⟩ : ∃ n, X.length = n := ⟨_, rfl⟩
 rw [hn] at hS hlen
 have HN := Lib.hid hn
 have HB := Lib.hid hB
 have HS := Lib.hid hS
 have H2 := Lib.hid h2
 have H1 := Lib.hid h1
 clear hB hS h5 h1 h2 hn
 go_enter Try.func55, Try.ntmps55
 go_upto_region 1 with fail
 refine wp_text 6 [pE p 0, pE p 0, pE p 1, .eq (v), iE (n : Int), iE 0] rfl (by kernel_rfl) ?_ ?_
 ·refine mE 1 0 ?_
  refine nD 2 12 0 ?_
  refine fD 3 13 1 86 1 1 0 ?_
  refine sW 4 rfl (fun a u E D hk=>exec_ldv _ _ Try.underlying84 _ _ _ rfl (dD D 2) (by rw [(HB.out.kept hk).cell]; rfl)) ?_
  refine sW 5 rfl (fun a u E D hk=>exec_lenS _ slR _ _ _ _ rfl (dD D 3) HS.out) ?_
  refine sW 6 rfl (fun a u E D hk=>exec_move _ _ rfl rfl) ?_
  exact fz
 intro gv w0 hV k0
 rw [dq 6 [12,13,14,15,16,17]]
 simp only [F7]
 rw [gQ hV 3 15 v]
 rw [gQ hV 4 16 (.int .i64 (n : Int))]
 rw [gQ hV 5 17 (.int .i64 0)]
 clear hV
 refine wpList_nil ?_
 go_wp2_with fail
 go_loopw [17] (fun z wr => ∃ (k : Nat), k ≤ n ∧ z = .int .i64 (k : Int) ∧ Hid (∀ (j : Nat) (x : Ent), j < k → X[j]? = some x → x.is t i = false) ∧ Kept w wr) (fun z _ => n - (intOf z).toNat)
 case atStart => exact ⟨0, Nat.zero_le _, rfl, fun j x hj => (by omega), k0⟩
 case round =>
  obtain ⟨k, hkn, rfl, HM, hkr⟩ := hrel
  by_cases hlt : k < n
  ·obtain ⟨g, off, c, rfl⟩ := HS.out.some_ (by omega)
   obtain ⟨e, he⟩ : ∃ e, X[k]? = some e := ⟨X[k]'(by rw [HN.out]; exact hlt), List.getElem?_eq_getElem (by rw [HN.out]; exact hlt)⟩
   have HEI := Lib.hid he
   have HE : Hid (wr.rangeAt g (off + k * 10) e.cells) := range_kept (HS.out.rng k e he) hkr
   clear he
   go_upto_region 3 with fail
   refine wp_text 4 [iE (k : Int), pE g (off + k * 10), .eq (e.v), .fresh wr.heap.size 95 zeroE.cells] rfl (by kernel_rfl) ?_ ?_
   ·refine mE 1 17 ?_
    refine sW 2 rfl (fun a u E D hk=>exec_ixo slR _ _ (g) (off) n c k (off + k * 10) ((k : Int)) rfl (eE E) (eE E) (by first | rfl | omega) (hlt) (by first | rfl | omega)) ?_
    refine sW 3 rfl (fun a u E D hk=>exec_ldS 95 _ _ (g) (off + k * 10) (e.cells) rfl (dD D 1) (range_kept HE.out hk) Try.underlying95 (by rw [e.len10]; exact szR)) ?_
    refine nW 4 rfl (fun a u E D hk=>⟨_, _, exec_alc 95 zeroE.cells rfl zR, ⟨_, rfl, hk.size, Blk.new u _ _⟩, ((Keep.refl _ u).alloc _)⟩) ?_
    exact fz
   intro gv w1 hV k1
   rw [dq 4 [19,20,21,10]]
   simp only [F7]
   rw [gQ hV 0 19 (.int .i64 (k : Int))]
   have hv10 : (.fresh wr.heap.size 95 zeroE.cells : Kn).p (gv 10) w1 := hV 3 10 (by kernel_rfl)
   generalize gv 10 = v10 at hv10 ⊢
   rw [gQ hV 2 21 e.v]
   clear hV
   obtain ⟨b9, rfl, hb9, hB9⟩ := hv10
   refine l_val (.int .i64 (k : Int)) rfl (exec_assign _ _ rfl (by kernel_rfl)) ?_
   simp only [Act.put, sA, sS, sZ]
   refine l_setS 95 b9 95 zeroE.cells e.cells _ _ rfl rfl (by kernel_rfl) (by kernel_rfl) hB9 (by rw [Ent.len10]; exact szR) (by rw [Ent.len10, Ent.len10]) (Ent.one _) ?_
   intro w2 hC2 hk2 hs2
   simp only [Act.put]
   refine wpList_nil ?_
   have kr2 : Kept wr w2 := k1.trans' hk2 (by omega)
   have kw2 := hkr.trans kr2
   have HC2 := Lib.hid hC2
   have HC2r := Lib.hid (blk_range hC2)
   have z2 := kr2.size
   have zr := hkr.size
   have l9 := hC2.lt
   clear hB9 hC2 hk2 k1 HE hs2
   clear kr2 hkr
   by_cases hm : e.is t i = true
   ·have HIX : Hid (X[idxM t i X]? = some e ∧ idxM t i X = k) := by
     have h1 := idx_of HM.out HEI.out hm
     exact ⟨by rw [h1]; exact HEI.out, h1⟩
    clear HM
    go_upto_region 4 with fail
    refine wp_text 12 [pE b9 0, pE b9 0, iE e.o.tr, iE t, bE (decide ((e.o.tr : Int) = (t : Int))), bE (decide ((e.o.tr : Int) = (t : Int))), .cond (decide ((e.o.tr : Int) = (t : Int))) (pE b9 0), .cond (decide ((e.o.tr : Int) = (t : Int))) (pE b9 1), .cond (decide ((e.o.tr : Int) = (t : Int))) (iE e.o.id), .cond (decide ((e.o.tr : Int) = (t : Int))) (iE i), .cond (decide ((e.o.tr : Int) = (t : Int))) (bE (decide ((e.o.id : Int) = (i : Int)))), bE true] rfl (by kernel_rfl) ?_ ?_
    ·refine fE 1 10 95 0 0 0 ?_
     refine fD 2 22 0 25 0 0 0 ?_
     refine sW 3 rfl (fun a u E D hk=>exec_loadi _ Try.underlying3 _ _ _ rfl (dD D 1) (range_int (range_kept HC2r.out hk) 0 _ rfl)) ?_
     refine mE 4 1 ?_
     refine sW 5 rfl (fun a u E D hk=>exec_eqn rfl (dD D 2) (dD D 3)) ?_
     refine mD 6 26 4 ?_
     refine iC 7 5 rfl (fun a u E D hk hb=>exec_fldo 95 0 0 _ (b9) (0) (0) rfl (eE E) (by kernel_rfl) rfl) ?_
     refine iC 8 5 rfl (fun a u E D hk hb=>exec_fldo 25 1 1 _ (b9) (0) (1) rfl ((D 6 28 (by kernel_rfl)).1 hb) (by kernel_rfl) rfl) ?_
     refine iC 9 5 rfl (fun a u E D hk hb=>exec_loadi _ Try.underlying3 _ _ _ rfl ((D 7 29 (by kernel_rfl)).1 hb) (range_int (range_kept HC2r.out hk) 1 _ rfl)) ?_
     refine iC 10 5 rfl (fun a u E D hk hb=>exec_move _ _ rfl (eE E)) ?_
     refine iC 11 5 rfl (fun a u E D hk hb=>exec_eqn rfl ((D 8 30 (by kernel_rfl)).1 hb) ((D 9 31 (by kernel_rfl)).1 hb)) ?_
     refine aS 12 rfl (fun a u E D hk=>exec_pickand _ _ _ ((decide ((e.o.tr : Int) = (t : Int)))) ((decide ((e.o.id : Int) = (i : Int)))) rfl (dD D 5) (fun hb2 => ((D 10 32 (by kernel_rfl)).1 hb2)) rfl) hm ?_
     exact fz
    intro gv w3 hV k3
    rw [dq 12 [22,23,24,25,26,27,28,29,30,31,32,33]]
    simp only [F7]
    rw [gQ hV 11 33 (.bool true)]
    clear hV
    refine wpList_nil ?_
    have kw3 := kw2.trans k3
    have HC3 := Lib.hid (HC2.out.kept k3)
    have HC3r := Lib.hid (range_kept HC2r.out k3)
    have z3 := k3.size
    have k23 := k3
    clear HC2 HC2r k3 kw2
    clear hm
    by_cases hq1 : 1 ≤ q
    ·by_cases hq2 : q ≤ e.o.qty
     ·have HR : Hid (lessM t i q X = (true, X.set k ⟨e.o.q q, mn e.n q⟩)) := by
       show _ = _
       unfold lessM
       rw [HIX.out.1]
       simp only
       rw [if_pos ⟨hq1, hq2⟩, HIX.out.2]
      go_upto_region 5 with fail
      refine wp_text 9 [iE q, bE false, bE false, iE q, pE b9 0, pE b9 6, iE e.o.qty, bE false, bE false] rfl (by kernel_rfl) ?_ ?_
      ·refine mE 1 3 ?_
       refine aS 2 rfl (fun a u E D hk=>exec_ltn rfl (dD D 0) rfl) (decide_eq_false (by omega)) ?_
       refine mD 3 35 1 ?_
       refine mE 4 3 ?_
       refine fE 5 10 95 0 0 0 ?_
       refine fD 6 38 4 25 6 6 0 ?_
       refine sW 7 rfl (fun a u E D hk=>exec_loadi _ Try.underlying3 _ _ _ rfl (dD D 5) (range_int (range_kept HC3r.out hk) 6 _ rfl)) ?_
       refine aS 8 rfl (fun a u E D hk=>exec_gtn rfl (dD D 3) (dD D 6)) (decide_eq_false (by omega)) ?_
       refine sW 9 rfl (fun a u E D hk=>exec_pickF _ _ _ _ rfl (dD D 2) (dD D 7)) ?_
       exact fz
      intro gv w4 hV k4
      rw [dq 9 [34,35,36,37,38,39,40,41,42]]
      simp only [F7]
      rw [gQ hV 8 42 (.bool false)]
      clear hV
      refine wpList_nil ?_
      have HC4 := Lib.hid (HC3.out.kept k4)
      have HC4r := Lib.hid (range_kept HC3r.out k4)
      have kw4 := kw3.trans k4
      have z4 := k4.size
      clear HC3 HC3r k4 kw3 hq1 hq2 HIX k23
      go_upto_region 7 with fail
      refine wp_text 5 [iE q, pE b9 9, iE e.n, iE q, iE (mn e.n q)] rfl (by kernel_rfl) ?_ ?_
      ·refine mE 1 3 ?_
       refine fE 2 10 95 1 9 0 ?_
       refine sW 3 rfl (fun a u E D hk=>exec_loadi _ Try.underlying3 _ _ _ rfl (dD D 1) (range_int (range_kept HC4r.out hk) 9 _ rfl)) ?_
       refine mE 4 3 ?_
       refine sW 5 rfl (fun a u E D hk=>exec_min _ _ _ e.n q (mn e.n q) rfl (dD D 2) (dD D 3) rfl) ?_
       exact fz
      intro gv w5 hV k5
      rw [dq 5 [43,44,45,46,47]]
      simp only [F7]
      rw [gQ hV 0 43 (.int .i64 q)]
      rw [gQ hV 4 47 (.int .i64 (mn e.n q))]
      clear hV
      refine l_val (.pointer (some ⟨b9, 0, none⟩)) rfl (exec_fldo 95 0 0 (.tmp 10) (b9) (0) (0) rfl (by kernel_rfl) (by kernel_rfl) rfl) ?_
      simp only [Act.put, sA, sS, sZ]
      refine l_val (.pointer (some ⟨b9, 6, none⟩)) rfl (exec_fldo 25 6 6 (.tmp 48) (b9) (0) (6) rfl (by kernel_rfl) (by kernel_rfl) rfl) ?_
      simp only [Act.put, sA, sS, sZ]
      refine l_st1 3 b9 6 95 _ (.int .i64 q) _ _ rfl rfl (by kernel_rfl) (by kernel_rfl) (by kernel_rfl) rfl rfl (HC4.out.kept k5) (by rw [Ent.len10]; omega) ?_
      intro w6 hC6 hk6 hs6
      simp only [Act.put]
      refine l_val (.pointer (some ⟨b9, 9, none⟩)) rfl (exec_fldo 95 1 9 (.tmp 10) (b9) (0) (9) rfl (by kernel_rfl) (by kernel_rfl) rfl) ?_
      simp only [Act.put, sA, sS, sZ]
      refine l_st1 3 b9 9 95 _ (.int .i64 (mn e.n q)) _ _ rfl rfl (by kernel_rfl) (by kernel_rfl) (by kernel_rfl) rfl rfl hC6 (by rw [List.length_set, Ent.len10]; omega) ?_
      intro w7 hC7 hk7 hs7
      simp only [Act.put]
      refine wpList_nil ?_
      have HC7 : Hid (w7.rangeAt b9 0 (Ent.mk (e.o.q q) (mn e.n q)).cells) := blk_range (show Blk w7 b9 _ (Ent.mk (e.o.q q) (mn e.n q)).cells from hC7)
      have K7 : Keep (· = b9) w4 w7 := ((Keep.mono (T := (· = b9)) k5 (fun _ _ h => h.elim)).trans hk6 (fun _ _ h => h)).trans hk7 (fun _ _ h => h)
      have kw7 : Kept w w7 := kw4.trans' K7 (by omega)
      have HB7 := Lib.hid (HB.out.kept kw7)
      have HS7 := Lib.hid (HS.out.kept kw7)
      have z7 := kw7.size
      have z47 := K7.size
      clear hC6 hC7 hk6 hk7 K7 k5 HC4 HC4r kw4
      obtain ⟨e2, he2⟩ : ∃ e2, Ent.mk (e.o.q q) (mn e.n q) = e2 := ⟨_, rfl⟩
      rw [he2] at HC7 HR
      clear he2
      go_upto_region 8 with fail
      refine wp_text 6 [.emp w7.heap.size 95, pE p 0, pE p 0, pE p 1, .eq (.slice (some ⟨g, off, none⟩) n c), .sl w7.heap.size 95 10 n (ents X)] rfl (by kernel_rfl) ?_ ?_
      ·refine nW 1 rfl (fun a u E D hk=>⟨_, _, exec_none 84 95 10 rfl slR.und szR, ⟨_, rfl, hk.size, Blk.new u _ _⟩, ((Keep.refl _ u).alloc _)⟩) ?_
       refine mE 2 0 ?_
       refine nD 3 52 1 ?_
       refine fD 4 53 2 86 1 1 0 ?_
       refine sW 5 rfl (fun a u E D hk=>exec_ldv _ _ Try.underlying84 _ _ _ rfl (dD D 3) (by rw [(HB7.out.kept hk).cell]; rfl)) ?_
       refine fsteps_cons 6 rfl (fun a u hE hD hk => (by obtain ⟨v', u', hr, hp, hkk⟩ := run_append_emp slR _ u (a.eval (.tmp 51)) (.slice (some ⟨g, off, none⟩) n c) n w7.heap.size _ ((dD hD 0)) (HS7.out.kept hk) (ents_one _) (by omega) (by omega) hk.size; exact f_new v' u' rfl (wanted_none rfl _) (exec_appS slR (.tmp 51) (.tmp 55) _ _ rfl rfl (dD hD 4) v' u' hr) hp hkk)) ?_
       exact fz
      intro gv w8 hV k8
      rw [dq 6 [51,52,53,54,55,56]]
      simp only [F7]
      have hv56 : (.sl w7.heap.size 95 10 n (ents X) : Kn).p (gv 56) w8 := hV 5 56 (by kernel_rfl)
      generalize gv 56 = v56 at hv56 ⊢
      clear hV
      refine l_val (v56) rfl (exec_assign _ _ rfl (by kernel_rfl)) ?_
      simp only [Act.put, sA, sS, sZ]
      refine wpList_nil ?_
      have HS8 := Lib.hid hv56.1
      have HO8 := Lib.hid hv56.2
      have HC8 := Lib.hid (range_kept HC7.out k8)
      have HB8 := Lib.hid (HB7.out.kept k8)
      have kw8 := kw7.trans k8
      clear hv56 k8 kw7 HC7 HB7 HS7
      obtain ⟨g2, off2, c2, rfl⟩ := HS8.out.some_ (by omega)
      have hg2 : w7.heap.size ≤ g2 := HO8.out g2 rfl
      go_upto_region 9 with fail
      refine wp_text 4 [.eq (.slice (some ⟨g2, off2, none⟩) n c2), iE (k : Int), .eq (e2.v), pE g2 (off2 + k * 10)] rfl (by kernel_rfl) ?_ ?_
      ·refine mE 1 11 ?_
       refine mE 2 9 ?_
       refine sW 3 rfl (fun a u E D hk=>exec_ldS 95 _ _ (b9) (0) (e2.cells) rfl (eE E) (range_kept HC8.out hk) Try.underlying95 (by rw [e2.len10]; exact szR)) ?_
       refine sW 4 rfl (fun a u E D hk=>exec_ixo slR _ _ (g2) (off2) n c2 k (off2 + k * 10) ((k : Int)) rfl (dD D 0) (dD D 1) (by first | rfl | omega) (hlt) (by first | rfl | omega)) ?_
       exact fz
      intro gv w9 hV k9
      rw [dq 4 [57,58,59,60]]
      simp only [F7]
      rw [gQ hV 3 60 (.pointer (some ⟨g2, off2 + k * 10, none⟩))]
      rw [gQ hV 2 59 e2.v]
      clear hV
      refine l_rowS g2 off2 n c2 k X e2 ⟨g2, off2 + k * 10, none⟩ _ _ rfl rfl (by kernel_rfl) (by kernel_rfl) rfl (HS8.out.kept k9) HN.out.symm hlt ?_
      intro w10 hS10 hk10 hs10
      simp only [Act.put]
      refine wpList_nil ?_
      have hpl := H2.out p H1.out
      have kw10 : Kept w w10 := (kw8.trans k9).trans' hk10 (by omega)
      have HB10 := Lib.hid (HB.out.kept kw10)
      have HS10 := Lib.hid hS10
      clear hS10 hk10 k9 HS8 HC8 HB8 kw8
      go_upto_region 10 with fail
      refine wp_text 4 [pE p 0, .eq (.slice (some ⟨g2, off2, none⟩) n c2), pE p 0, pE p 1] rfl (by kernel_rfl) ?_ ?_
      ·refine mE 1 0 ?_
       refine mE 2 11 ?_
       refine nD 3 61 0 ?_
       refine fD 4 63 2 86 1 1 0 ?_
       exact fz
      intro gv w11 hV k11
      rw [dq 4 [61,62,63,64]]
      simp only [F7]
      rw [gQ hV 3 64 (.pointer (some ⟨p, 1, none⟩))]
      rw [gQ hV 1 62 (.slice (some ⟨g2, off2, none⟩) n c2)]
      clear hV
      refine l_st1 84 p 1 86 _ (.slice (some ⟨g2, off2, none⟩) n c2) _ _ rfl rfl (by kernel_rfl) (by kernel_rfl) (by kernel_rfl) rfl rfl (HB10.out.kept k11) (by simp) ?_
      intro w12 hB12 hk12 hs12
      simp only [Act.put]
      refine wpList_nil ?_
      obtain ⟨F', q1, q2, q3⟩ := HL.out.renew (kw10.trans k11) z7 (Y := X.set k e2) (v' := .slice (some ⟨g2, off2, none⟩) n c2) (by rw [List.length_set, HN.out]; exact HS10.out.kept k11) HO8.out (by simpa using hB12) hk12
      have HF := Lib.hid q1
      have HG := Lib.hid q2
      clear q1 q2 hB12 hk12
      go_wp2
      go_ret
      exact ⟨F', by rw [HR.out]; rfl, by rw [HR.out]; exact HF.out, HG.out, q3, fun h => by rw [HR.out] at h; cases h⟩
     ·have HR : Hid (lessM t i q X = (false, X)) := by
       show _ = _
       unfold lessM
       rw [HIX.out.1]
       simp only
       rw [if_neg (fun h => hq2 h.2)]
      go_upto_region 5 with fail
      refine wp_text 9 [iE q, bE false, bE false, iE q, pE b9 0, pE b9 6, iE e.o.qty, bE true, bE true] rfl (by kernel_rfl) ?_ ?_
      ·refine mE 1 3 ?_
       refine aS 2 rfl (fun a u E D hk=>exec_ltn rfl (dD D 0) rfl) (decide_eq_false (by omega)) ?_
       refine mD 3 35 1 ?_
       refine mE 4 3 ?_
       refine fE 5 10 95 0 0 0 ?_
       refine fD 6 38 4 25 6 6 0 ?_
       refine sW 7 rfl (fun a u E D hk=>exec_loadi _ Try.underlying3 _ _ _ rfl (dD D 5) (range_int (range_kept HC3r.out hk) 6 _ rfl)) ?_
       refine aS 8 rfl (fun a u E D hk=>exec_gtn rfl (dD D 3) (dD D 6)) (decide_eq_true (by omega)) ?_
       refine sW 9 rfl (fun a u E D hk=>exec_pickF _ _ _ _ rfl (dD D 2) (dD D 7)) ?_
       exact fz
      intro gv w4 hV k4
      rw [dq 9 [34,35,36,37,38,39,40,41,42]]
      simp only [F7]
      rw [gQ hV 8 42 (.bool true)]
      clear hV
      refine wpList_nil ?_
      have kw4 := kw3.trans k4
      clear HIX hq1 hq2
      go_wp2
      go_ret
      exact ⟨F, by rw [HR.out]; rfl, by rw [HR.out]; exact HL.out.kept kw4, Grow.refl _ _, Keep.mono (T := F) kw4 (fun _ _ h => h.elim), fun _ => kw4⟩
    ·have HR : Hid (lessM t i q X = (false, X)) := by
      show _ = _
      unfold lessM
      rw [HIX.out.1]
      simp only
      rw [if_neg (fun h => hq1 h.1)]
     go_upto_region 5 with fail
     refine wp_text 9 [iE q, bE true, bE true, uE, uE, uE, uE, uE, bE true] rfl (by kernel_rfl) ?_ ?_
     ·refine mE 1 3 ?_
      refine aS 2 rfl (fun a u E D hk=>exec_ltn rfl (dD D 0) rfl) (decide_eq_true (by omega)) ?_
      refine mD 3 35 1 ?_
      refine kS 4 2 ?_
      refine kS 5 2 ?_
      refine kS 6 2 ?_
      refine kS 7 2 ?_
      refine kS 8 2 ?_
      refine sW 9 rfl (fun a u E D hk=>exec_pick _ _ _ _ rfl (dD D 2) rfl) ?_
      exact fz
     intro gv w4 hV k4
     rw [dq 9 [34,35,36,37,38,39,40,41,42]]
     simp only [F7]
     rw [gQ hV 8 42 (.bool true)]
     clear hV
     refine wpList_nil ?_
     have kw4 := kw3.trans k4
     clear HIX hq1
     go_wp2
     go_ret
     exact ⟨F, by rw [HR.out]; rfl, by rw [HR.out]; exact HL.out.kept kw4, Grow.refl _ _, Keep.mono (T := F) kw4 (fun _ _ h => h.elim), fun _ => kw4⟩
   ·have hm' : e.is t i = false := by simpa using hm
    have HM2 : Hid (∀ (j : Nat) (x : Ent), j < k + 1 → X[j]? = some x → x.is t i = false) := by
     intro j x hj hx
     by_cases hjk : j = k
     ·subst hjk
      rw [HEI.out] at hx
      injection hx with hx
      rw [← hx]
      exact hm'
     ·exact HM.out j x (by omega) hx
    clear hm HM
    go_upto_region 4 with fail
    refine wp_text 12 [pE b9 0, pE b9 0, iE e.o.tr, iE t, bE (decide ((e.o.tr : Int) = (t : Int))), bE (decide ((e.o.tr : Int) = (t : Int))), .cond (decide ((e.o.tr : Int) = (t : Int))) (pE b9 0), .cond (decide ((e.o.tr : Int) = (t : Int))) (pE b9 1), .cond (decide ((e.o.tr : Int) = (t : Int))) (iE e.o.id), .cond (decide ((e.o.tr : Int) = (t : Int))) (iE i), .cond (decide ((e.o.tr : Int) = (t : Int))) (bE (decide ((e.o.id : Int) = (i : Int)))), bE false] rfl (by kernel_rfl) ?_ ?_
    ·refine fE 1 10 95 0 0 0 ?_
     refine fD 2 22 0 25 0 0 0 ?_
     refine sW 3 rfl (fun a u E D hk=>exec_loadi _ Try.underlying3 _ _ _ rfl (dD D 1) (range_int (range_kept HC2r.out hk) 0 _ rfl)) ?_
     refine mE 4 1 ?_
     refine sW 5 rfl (fun a u E D hk=>exec_eqn rfl (dD D 2) (dD D 3)) ?_
     refine mD 6 26 4 ?_
     refine iC 7 5 rfl (fun a u E D hk hb=>exec_fldo 95 0 0 _ (b9) (0) (0) rfl (eE E) (by kernel_rfl) rfl) ?_
     refine iC 8 5 rfl (fun a u E D hk hb=>exec_fldo 25 1 1 _ (b9) (0) (1) rfl ((D 6 28 (by kernel_rfl)).1 hb) (by kernel_rfl) rfl) ?_
     refine iC 9 5 rfl (fun a u E D hk hb=>exec_loadi _ Try.underlying3 _ _ _ rfl ((D 7 29 (by kernel_rfl)).1 hb) (range_int (range_kept HC2r.out hk) 1 _ rfl)) ?_
     refine iC 10 5 rfl (fun a u E D hk hb=>exec_move _ _ rfl (eE E)) ?_
     refine iC 11 5 rfl (fun a u E D hk hb=>exec_eqn rfl ((D 8 30 (by kernel_rfl)).1 hb) ((D 9 31 (by kernel_rfl)).1 hb)) ?_
     refine aS 12 rfl (fun a u E D hk=>exec_pickand _ _ _ ((decide ((e.o.tr : Int) = (t : Int)))) ((decide ((e.o.id : Int) = (i : Int)))) rfl (dD D 5) (fun hb2 => ((D 10 32 (by kernel_rfl)).1 hb2)) rfl) hm' ?_
     exact fz
    intro gv w3 hV k3
    rw [dq 12 [22,23,24,25,26,27,28,29,30,31,32,33]]
    simp only [F7]
    rw [gQ hV 11 33 (.bool false)]
    clear hV
    refine wpList_nil ?_
    have kw3 := kw2.trans k3
    have HC3 := Lib.hid (HC2.out.kept k3)
    have HC3r := Lib.hid (range_kept HC2r.out k3)
    have z3 := k3.size
    have k23 := k3
    clear HC2 HC2r k3 kw2
    clear hm' HC3 HC3r k23
    go_wp2
    exact ⟨⟨k + 1, by omega, by go_num, HM2, kw3⟩, by simp [intOf]; omega⟩
  ·have HR : Hid (lessM t i q X = (false, X)) := by
    show _ = _
    unfold lessM
    rw [idx_none (fun j x hj hx => HM.out j x (by rw [HN.out] at hj; omega) hx), List.getElem?_eq_none (Nat.le_refl _)]
   clear HM
   go_wp2
   go_ret
   exact ⟨F, by rw [HR.out]; rfl, by rw [HR.out]; exact HL.out.kept hkr, Grow.refl _ _, Keep.mono (T := F) hkr (fun _ _ h => h.elim), fun _ => hkr⟩
set_option maxRecDepth 100000 in
set_option maxHeartbeats 1600000 in
theorem rremove2_any (w : World) (F : Nat → Prop) (p : Nat) (X : List Ent) (t i : Int) (h : Lvl pr 86 95 w F p X) (hlen : X.length ≤ 100000000) : Calls Try.prog 53 #[.pointer (some ⟨p, 0, none⟩), .int .i64 t, .int .i64 i] w fun r w' => ∃ F', r = .returned (.tuple #[(removeM t i X).1.v, .bool (removeM t i X).2.1]) ∧ Lvl pr 86 95 w' F' p (removeM t i X).2.2 ∧ Grow w F F' ∧ Keep F w w' ∧ ((removeM t i X).2.1 = false → Kept w w') := by
 have HL := Lib.hid h
 obtain ⟨h1, h2, v, hB, hS, h5⟩ := h
 obtain ⟨n, hn⟩ : ∃ n, X.length = n := ⟨_, rfl⟩
 rw [hn] at hS hlen
 have HN := Lib.hid hn
 have HB := Lib.hid hB
 have HS := Lib.hid hS
 have H2 := Lib.hid h2
 have H1 := Lib.hid h1
 clear hB hS h5 h1 h2 hn
 go_enter Try.func53, Try.ntmps53
 go_upto_region 0 with fail
 refine wp_text 2 [.fresh w.heap.size 25 zeroO.cells, bE false] rfl (by kernel_rfl) ?_ ?_
 ·refine nW 1 rfl (fun a u E D hk=>⟨_, _, exec_alc 25 zeroO.cells rfl zO, ⟨_, rfl, hk.size, Blk.new u _ _⟩, ((Keep.refl _ u).alloc _)⟩) ?_
  refine sW 2 rfl (fun a u E D hk=>exec_assign _ _ rfl rfl) ?_
  exact fz
 intro gv w00 hV k00
 rw [dq 2 [6,7]]
 simp only [F7]
 have hv6 : (.fresh w.heap.size 25 zeroO.cells : Kn).p (gv 6) w00 := hV 0 6 (by kernel_rfl)
 generalize gv 6 = v6 at hv6 ⊢
 rw [gQ hV 1 7 (.bool false)]
 clear hV
 obtain ⟨b6, rfl, hb6, hB6⟩ := hv6
 refine wpList_nil ?_
 have HB0 := Lib.hid (HB.out.kept k00)
 have HB6 := Lib.hid hB6
 have l6 := hB6.lt
 have z00 := k00.size
 clear hB6
 go_upto_region 1 with fail
 refine wp_text 6 [pE p 0, pE p 0, pE p 1, .eq (v), iE (n : Int), iE 0] rfl (by kernel_rfl) ?_ ?_
 ·refine mE 1 0 ?_
  refine nD 2 10 0 ?_
  refine fD 3 11 1 86 1 1 0 ?_
  refine sW 4 rfl (fun a u E D hk=>exec_ldv _ _ Try.underlying84 _ _ _ rfl (dD D 2) (by rw [(HB0.out.kept hk).cell]; rfl)) ?_
  refine sW 5 rfl (fun a u E D hk=>exec_lenS _ slR _ _ _ _ rfl (dD D 3) HS.out) ?_
  refine sW 6 rfl (fun a u E D hk=>exec_move _ _ rfl rfl) ?_
  exact fz
 intro gv w0 hV k0
 rw [dq 6 [10,11,12,13,14,15]]
 simp only [F7]
 rw [gQ hV 3 13 v]
 rw [gQ hV 4 14 (.int .i64 (n : Int))]
 rw [gQ hV 5 15 (.int .i64 0)]
 clear hV
 refine wpList_nil ?_
 have kw0 := k00.trans k0
 clear k00
 go_wp2_with fail
 go_loopw [15] (fun q wr => ∃ (k : Nat), k ≤ n ∧ q = .int .i64 (k : Int) ∧ Hid (∀ (j : Nat) (x : Ent), j < k → X[j]? = some x → x.is t i = false) ∧ Kept w wr ∧ Kept w00 wr) (fun q _ => n - (intOf q).toNat)
 case atStart => exact ⟨0, Nat.zero_le _, rfl, fun j x hj => (by omega), kw0, k0⟩
 case round =>
  obtain ⟨k, hkn, rfl, HM, hkr, hk0r⟩ := hrel
  have HB6r := Lib.hid (HB6.out.kept hk0r)
  by_cases hlt : k < n
  ·obtain ⟨g, off, c, rfl⟩ := HS.out.some_ (by omega)
   obtain ⟨e, he⟩ : ∃ e, X[k]? = some e := ⟨X[k]'(by rw [HN.out]; exact hlt), List.getElem?_eq_getElem (by rw [HN.out]; exact hlt)⟩
   have HEI := Lib.hid he
   have HE : Hid (wr.rangeAt g (off + k * 10) e.cells) := range_kept (HS.out.rng k e he) hkr
   clear he
   go_upto_region 3 with fail
   refine wp_text 4 [iE (k : Int), pE g (off + k * 10), .eq (e.v), .fresh wr.heap.size 95 zeroE.cells] rfl (by kernel_rfl) ?_ ?_
   ·refine mE 1 15 ?_
    refine sW 2 rfl (fun a u E D hk=>exec_ixo slR _ _ (g) (off) n c k (off + k * 10) ((k : Int)) rfl (eE E) (eE E) (by first | rfl | omega) (hlt) (by first | rfl | omega)) ?_
    refine sW 3 rfl (fun a u E D hk=>exec_ldS 95 _ _ (g) (off + k * 10) (e.cells) rfl (dD D 1) (range_kept HE.out hk) Try.underlying95 (by rw [e.len10]; exact szR)) ?_
    refine nW 4 rfl (fun a u E D hk=>⟨_, _, exec_alc 95 zeroE.cells rfl zR, ⟨_, rfl, hk.size, Blk.new u _ _⟩, ((Keep.refl _ u).alloc _)⟩) ?_
    exact fz
   intro gv w1 hV k1
   rw [dq 4 [17,18,19,9]]
   simp only [F7]
   rw [gQ hV 0 17 (.int .i64 (k : Int))]
   have hv9 : (.fresh wr.heap.size 95 zeroE.cells : Kn).p (gv 9) w1 := hV 3 9 (by kernel_rfl)
   generalize gv 9 = v9 at hv9 ⊢
   rw [gQ hV 2 19 e.v]
   clear hV
   obtain ⟨b9, rfl, hb9, hB9⟩ := hv9
   refine l_val (.int .i64 (k : Int)) rfl (exec_assign _ _ rfl (by kernel_rfl)) ?_
   simp only [Act.put, sA, sS, sZ]
   refine l_setS 95 b9 95 zeroE.cells e.cells _ _ rfl rfl (by kernel_rfl) (by kernel_rfl) hB9 (by rw [Ent.len10]; exact szR) (by rw [Ent.len10, Ent.len10]) (Ent.one _) ?_
   intro w2 hC2 hk2 hs2
   simp only [Act.put]
   refine wpList_nil ?_
   have kr2 : Kept wr w2 := k1.trans' hk2 (by omega)
   have kw2 := hkr.trans kr2
   have HC2 := Lib.hid hC2
   have HC2r := Lib.hid (blk_range hC2)
   have z2 := kr2.size
   have zr := hkr.size
   have l9 := hC2.lt
   clear hB9 hC2 hk2 k1 HE hs2
   have HB62 := Lib.hid (HB6r.out.kept kr2)
   have k02 := hk0r.trans kr2
   have z02 := k02.size
   clear HB6r kr2 hkr hk0r
   by_cases hm : e.is t i = true
   ·have HR : Hid (removeM t i X = (e.o, true, X.eraseIdx k)) := by
     show _ = _
     unfold removeM
     rw [idx_of HM.out HEI.out hm, HEI.out]
    clear HM
    go_upto_region 4 with fail
    refine wp_text 12 [pE b9 0, pE b9 0, iE e.o.tr, iE t, bE (decide ((e.o.tr : Int) = (t : Int))), bE (decide ((e.o.tr : Int) = (t : Int))), .cond (decide ((e.o.tr : Int) = (t : Int))) (pE b9 0), .cond (decide ((e.o.tr : Int) = (t : Int))) (pE b9 1), .cond (decide ((e.o.tr : Int) = (t : Int))) (iE e.o.id), .cond (decide ((e.o.tr : Int) = (t : Int))) (iE i), .cond (decide ((e.o.tr : Int) = (t : Int))) (bE (decide ((e.o.id : Int) = (i : Int)))), bE true] rfl (by kernel_rfl) ?_ ?_
    ·refine fE 1 9 95 0 0 0 ?_
     refine fD 2 20 0 25 0 0 0 ?_
     refine sW 3 rfl (fun a u E D hk=>exec_loadi _ Try.underlying3 _ _ _ rfl (dD D 1) (range_int (range_kept HC2r.out hk) 0 _ rfl)) ?_
     refine mE 4 1 ?_
     refine sW 5 rfl (fun a u E D hk=>exec_eqn rfl (dD D 2) (dD D 3)) ?_
     refine mD 6 24 4 ?_
     refine iC 7 5 rfl (fun a u E D hk hb=>exec_fldo 95 0 0 _ (b9) (0) (0) rfl (eE E) (by kernel_rfl) rfl) ?_
     refine iC 8 5 rfl (fun a u E D hk hb=>exec_fldo 25 1 1 _ (b9) (0) (1) rfl ((D 6 26 (by kernel_rfl)).1 hb) (by kernel_rfl) rfl) ?_
     refine iC 9 5 rfl (fun a u E D hk hb=>exec_loadi _ Try.underlying3 _ _ _ rfl ((D 7 27 (by kernel_rfl)).1 hb) (range_int (range_kept HC2r.out hk) 1 _ rfl)) ?_
     refine iC 10 5 rfl (fun a u E D hk hb=>exec_move _ _ rfl (eE E)) ?_
     refine iC 11 5 rfl (fun a u E D hk hb=>exec_eqn rfl ((D 8 28 (by kernel_rfl)).1 hb) ((D 9 29 (by kernel_rfl)).1 hb)) ?_
     refine aS 12 rfl (fun a u E D hk=>exec_pickand _ _ _ ((decide ((e.o.tr : Int) = (t : Int)))) ((decide ((e.o.id : Int) = (i : Int)))) rfl (dD D 5) (fun hb2 => ((D 10 30 (by kernel_rfl)).1 hb2)) rfl) hm ?_
     exact fz
    intro gv w3 hV k3
    rw [dq 12 [20,21,22,23,24,25,26,27,28,29,30,31]]
    simp only [F7]
    rw [gQ hV 11 31 (.bool true)]
    clear hV
    refine wpList_nil ?_
    have kw3 := kw2.trans k3
    have HC3 := Lib.hid (HC2.out.kept k3)
    have HC3r := Lib.hid (range_kept HC2r.out k3)
    have z3 := k3.size
    have k23 := k3
    clear HC2 HC2r k3 kw2
    have HS3 := Lib.hid (HS.out.kept kw3)
    have HBp := Lib.hid (HB.out.kept kw3)
    obtain ⟨va, hva, hoa, hsa⟩ := slice_hS slR _ n k (by omega) _ w3 HS3.out
    obtain ⟨vb, hvb, hob, hsb⟩ := slice_lS slR _ n (k + 1) (by omega) _ w3 HS3.out
    have HVA := Lib.hid hva
    have HVB := Lib.hid hvb
    have HSA : Hid (∀ u, Kept w3 u → Sl u 95 10 va k (ents (X.take k))) := fun u hk => by
     have := hsa u _ (HS3.out.kept hk)
     rw [show (ents X).take (k * 10) = ents (X.take k) from flat_take Ent.cells 10 Ent.len10 _ k] at this
     exact this
    have HSB : Hid (∀ u, Kept w3 u → Sl u 95 10 vb (n - (k + 1)) (ents (X.drop (k + 1)))) := fun u hk => by
     have := hsb u _ (HS3.out.kept hk)
     rw [show (ents X).drop ((k + 1) * 10) = ents (X.drop (k + 1)) from flat_drop Ent.cells 10 Ent.len10 _ (k + 1)] at this
     exact this
    have hcast : ((k + 1 : Nat) : Int) = (k : Int) + 1 := by omega
    rw [hcast] at HVB
    clear hva hoa hsa hvb hob hsb hm
    go_upto_region 5 with fail
    refine wp_freeT 16 [.eq (.pointer (some ⟨p, 0, none⟩)), .emp w3.heap.size 95, .eq (.pointer (some ⟨p, 0, none⟩)), .eq (.pointer (some ⟨p, 0, none⟩)), .eq (.pointer (some ⟨p, 1, none⟩)), .eq (.slice (some ⟨g, off, none⟩) n c), .eq (.int .i64 (k : Int)), .eq (va), .sl w3.heap.size 95 10 k (ents (X.take k)), .eq (.pointer (some ⟨p, 0, none⟩)), .eq (.pointer (some ⟨p, 0, none⟩)), .eq (.pointer (some ⟨p, 1, none⟩)), .eq (.slice (some ⟨g, off, none⟩) n c), .eq (.int .i64 (k : Int)), .eq (.int .i64 ((k : Int) + 1)), .eq (vb)] (.pointer (some ⟨p, 0, none⟩)) ((fun v' u u' => Sl u' 95 10 v' (k + (n - (k + 1))) (ents (X.take k) ++ ents (X.drop (k + 1))) ∧ (∀ b, v'.ownBlock = some b → w3.heap.size ≤ b) ∧ Keep (fun b => w3.heap.size ≤ b) u u')) (by kernel_rfl) rfl rfl (by kernel_rfl) (by kernel_rfl) (t_zero (d := 32) _ rfl rfl rfl (by kernel_rfl) (by kernel_rfl)) ?_ (fun a u hE hD hk =>  (by obtain ⟨v', u', hr, hs', hk', ho'⟩ := run_append_sl slR _ u (a.eval (.tmp 40)) vb k (n - (k + 1)) _ _ ((hD 8 40 (by kernel_rfl))).1 (HSB.out u hk) (ents_one _) (by unfold maxLen; omega) (by omega); have hq := ((hD 8 40 (by kernel_rfl))).2; exact t_last (o := ⟨some 48, _, _, _, _, _⟩) (R := (fun v' u u' => Sl u' 95 10 v' (k + (n - (k + 1))) (ents (X.take k) ++ ents (X.drop (k + 1))) ∧ (∀ b, v'.ownBlock = some b → w3.heap.size ≤ b) ∧ Keep (fun b => w3.heap.size ≤ b) u u')) (m := 16) (v := v') (w' := u') rfl (wanted_none rfl _) (exec_appS slR (.tmp 40) (.tmp 47) _ vb rfl rfl (dD hD 15) v' u' hr) ⟨hs', fun b hb => (ho' b hb).elim (hq b) (fun h => Nat.le_trans hk.size h), hk'.mono (fun b _ hb => hq b hb)⟩)) ?_
    ·refine nW 2 rfl (fun a u E D hk=>⟨_, _, exec_none 84 95 10 rfl slR.und szR, ⟨_, rfl, hk.size, Blk.new u _ _⟩, ((Keep.refl _ u).alloc _)⟩) ?_
     refine mE 3 0 ?_
     refine nD 4 34 2 ?_
     refine fD 5 35 3 86 1 1 0 ?_
     refine sW 6 rfl (fun a u E D hk=>exec_ldv _ _ Try.underlying84 _ _ _ rfl (dD D 4) (by rw [(HBp.out.kept hk).cell]; rfl)) ?_
     refine mE 7 8 ?_
     refine sW 8 rfl (fun a u E D hk=>exec_slcH slR _ _ _ va _ rfl (dD D 5) (dD D 6) (HVA.out u)) ?_
     refine fsteps_cons 9 rfl (fun a u hE hD hk => (by obtain ⟨v', u', hr, hp, hkk⟩ := run_append_emp slR _ u (a.eval (.tmp 33)) va k w3.heap.size _ ((dD hD 1)) (HSA.out u hk) (ents_one _) (by omega) (by omega) hk.size; exact f_new v' u' rfl (wanted_none rfl _) (exec_appS slR (.tmp 33) (.tmp 39) _ va rfl rfl (dD hD 7) v' u' hr) hp hkk)) ?_
     refine mE 10 0 ?_
     refine nD 11 41 9 ?_
     refine fD 12 42 10 86 1 1 0 ?_
     refine sW 13 rfl (fun a u E D hk=>exec_ldv _ _ Try.underlying84 _ _ _ rfl (dD D 11) (by rw [(HBp.out.kept hk).cell]; rfl)) ?_
     refine mE 14 8 ?_
     refine sW 15 rfl (fun a u E D hk=>exec_addn ((k : Int) + 1) rfl (dD D 13) rfl rfl (by omega) (by omega)) ?_
     refine sW 16 rfl (fun a u E D hk=>exec_slcL slR _ _ _ vb _ rfl (dD D 12) (dD D 14) (HVB.out u)) ?_
     exact fz
    intro gv w1 w4 hV h0 hR hk1
    rw [dq 17 [32,33,34,35,36,37,38,39,40,41,42,43,44,45,46,47,48]]
    simp only [F7]
    have hT := hR 48 (by kernel_rfl)
    generalize gv 48 = v48 at hT ⊢
    rw [show gv 32 = .pointer (some ⟨p, 0, none⟩) from h0 32 (by kernel_rfl)]
    clear hV h0 hR
    obtain ⟨hs4, ho4, hk4⟩ := hT
    have k34 := late_kept hk1 hk4 (Nat.le_refl _)
    have hB4 := HBp.out.kept k34
    refine l_val (.pointer (some ⟨p, 0, none⟩)) rfl (exec_nilp (.tmp 32) ⟨p, 0, none⟩ rfl (by kernel_rfl)) ?_
    simp only [Act.put, sA, sS, sZ]
    refine l_val (.pointer (some ⟨p, 1, none⟩)) rfl (exec_fldo 86 1 1 (.tmp 49) (p) (0) (1) rfl (by kernel_rfl) (by kernel_rfl) rfl) ?_
    simp only [Act.put, sA, sS, sZ]
    refine l_st1 84 p 1 86 _ v48 _ _ rfl rfl (by kernel_rfl) (by kernel_rfl) (by kernel_rfl) (sl_cells hs4) (sl_onec hs4) hB4 (by simp) ?_
    intro w5 hB5 hk5 hs5
    simp only [Act.put]
    refine wpList_nil ?_
    have hpl := H2.out p H1.out
    have zw3 := kw3.size
    have HY : Hid (Sl w4 95 10 v48 (X.eraseIdx k).length (ents (X.eraseIdx k))) := by
     show Sl _ _ _ _ _ _
     rw [List.length_eraseIdx, if_pos (by rw [HN.out]; exact hlt), HN.out, List.eraseIdx_eq_take_drop_succ]
     unfold ents at hs4 ⊢
     rw [List.flatMap_append]
     rw [show k + (n - (k + 1)) = n - 1 by omega] at hs4
     exact hs4
    obtain ⟨F', q1, q2, q3, q4⟩ := HL.out.renew2 (kw3.trans k34) zw3 (Y := X.eraseIdx k) HY.out ho4 (by simpa using hB5) hk5
    have hF6 : ¬ F' b6 := fun h => by
     rcases q4 b6 h with h1 | h1
     ·have := H2.out b6 h1; omega
     ·omega
    have HL5 := Lib.hid q1
    have HG5 := Lib.hid q2
    have HF5L : Hid (∀ b, F' b → b < w5.heap.size) := q1.2.1
    have HC5 := Lib.hid (range_keep (range_kept HC3r.out k34) hk5 (by omega))
    have HB65 := Lib.hid (((HB62.out.kept k23).kept k34).keep hk5 (by omega))
    have z4 := k34.size
    have z5 := hk5.size
    clear hs4 ho4 hB5 hk5 hk4 hk1 k34 HY q1 q2 HVA HVB HSA HSB HS3 HBp HC3 HC3r
    go_upto_region 6 with fail
    refine wp_text 2 [pE b9 0, .eq (e.o.v)] rfl (by kernel_rfl) ?_ ?_
    ·refine fE 1 9 95 0 0 0 ?_
     refine sW 2 rfl (fun a u E D hk=>exec_ldS 25 _ _ (b9) (0) (e.o.cells) rfl (dD D 0) (ent_ord (range_kept HC5.out hk)) Try.underlying25 (by rw [e.o.len9]; exact ord_size)) ?_
     exact fz
    intro gv w6 hV k6
    rw [dq 2 [51,52]]
    simp only [F7]
    rw [gQ hV 1 52 e.o.v]
    clear hV
    refine l_setS 25 b6 25 zeroO.cells e.o.cells _ _ rfl rfl (by kernel_rfl) (by kernel_rfl) (HB65.out.kept k6) (by rw [Ord.len9]; exact ord_size) (by rw [Ord.len9, Ord.len9]) (Ord.one1 _) ?_
    intro w7 hB7 hk7 hs7
    simp only [Act.put]
    refine l_val (.bool true) rfl (exec_assign _ _ rfl (by kernel_rfl)) ?_
    simp only [Act.put, sA, sS, sZ]
    refine wpList_nil ?_
    go_wp2
    refine bodyPost_ret (results_cell2 (p := 6) (q := 7) rfl _ _ b6 _ e.o.cells true rfl rfl hB7 Try.underlying25 (by rw [Ord.len9]; exact ord_size)) rfl ?_
    exact ⟨F', by rw [HR.out]; rfl, by rw [HR.out]; exact (HL5.out.kept k6).keep hk7 (fun b hb e => hF6 (by rw [← e]; exact hb)), HG5.out, (q3.kept k6).trans hk7 (fun b hb e => by subst e; omega), fun h => by rw [HR.out] at h; cases h⟩
   ·have hm' : e.is t i = false := by simpa using hm
    have HM2 : Hid (∀ (j : Nat) (x : Ent), j < k + 1 → X[j]? = some x → x.is t i = false) := by
     intro j x hj hx
     by_cases hjk : j = k
     ·subst hjk
      rw [HEI.out] at hx
      injection hx with hx
      rw [← hx]
      exact hm'
     ·exact HM.out j x (by omega) hx
    clear hm HM
    go_upto_region 4 with fail
    refine wp_text 12 [pE b9 0, pE b9 0, iE e.o.tr, iE t, bE (decide ((e.o.tr : Int) = (t : Int))), bE (decide ((e.o.tr : Int) = (t : Int))), .cond (decide ((e.o.tr : Int) = (t : Int))) (pE b9 0), .cond (decide ((e.o.tr : Int) = (t : Int))) (pE b9 1), .cond (decide ((e.o.tr : Int) = (t : Int))) (iE e.o.id), .cond (decide ((e.o.tr : Int) = (t : Int))) (iE i), .cond (decide ((e.o.tr : Int) = (t : Int))) (bE (decide ((e.o.id : Int) = (i : Int)))), bE false] rfl (by kernel_rfl) ?_ ?_
    ·refine fE 1 9 95 0 0 0 ?_
     refine fD 2 20 0 25 0 0 0 ?_
     refine sW 3 rfl (fun a u E D hk=>exec_loadi _ Try.underlying3 _ _ _ rfl (dD D 1) (range_int (range_kept HC2r.out hk) 0 _ rfl)) ?_
     refine mE 4 1 ?_
     refine sW 5 rfl (fun a u E D hk=>exec_eqn rfl (dD D 2) (dD D 3)) ?_
     refine mD 6 24 4 ?_
     refine iC 7 5 rfl (fun a u E D hk hb=>exec_fldo 95 0 0 _ (b9) (0) (0) rfl (eE E) (by kernel_rfl) rfl) ?_
     refine iC 8 5 rfl (fun a u E D hk hb=>exec_fldo 25 1 1 _ (b9) (0) (1) rfl ((D 6 26 (by kernel_rfl)).1 hb) (by kernel_rfl) rfl) ?_
     refine iC 9 5 rfl (fun a u E D hk hb=>exec_loadi _ Try.underlying3 _ _ _ rfl ((D 7 27 (by kernel_rfl)).1 hb) (range_int (range_kept HC2r.out hk) 1 _ rfl)) ?_
     refine iC 10 5 rfl (fun a u E D hk hb=>exec_move _ _ rfl (eE E)) ?_
     refine iC 11 5 rfl (fun a u E D hk hb=>exec_eqn rfl ((D 8 28 (by kernel_rfl)).1 hb) ((D 9 29 (by kernel_rfl)).1 hb)) ?_
     refine aS 12 rfl (fun a u E D hk=>exec_pickand _ _ _ ((decide ((e.o.tr : Int) = (t : Int)))) ((decide ((e.o.id : Int) = (i : Int)))) rfl (dD D 5) (fun hb2 => ((D 10 30 (by kernel_rfl)).1 hb2)) rfl) hm' ?_
     exact fz
    intro gv w3 hV k3
    rw [dq 12 [20,21,22,23,24,25,26,27,28,29,30,31]]
    simp only [F7]
    rw [gQ hV 11 31 (.bool false)]
    clear hV
    refine wpList_nil ?_
    have kw3 := kw2.trans k3
    have HC3 := Lib.hid (HC2.out.kept k3)
    have HC3r := Lib.hid (range_kept HC2r.out k3)
    have z3 := k3.size
    have k23 := k3
    clear HC2 HC2r k3 kw2
    have k03 := k02.trans k23
    clear hm' HC3 HC3r
    go_wp2
    exact ⟨⟨k + 1, by omega, by go_num, HM2, kw3, k03⟩, by simp [intOf]; omega⟩
  ·have HR : Hid (removeM t i X = (zeroO, false, X)) := by
    show _ = _
    unfold removeM
    rw [idx_none (fun j x hj hx => HM.out j x (by rw [HN.out] at hj; omega) hx), List.getElem?_eq_none (Nat.le_refl _)]
   clear HM
   go_upto_region 8 with fail
   refine wp_text 1 [.eq (zeroO.v)] rfl (by kernel_rfl) ?_ ?_
   ·refine sW 1 rfl (fun a u E D hk=>exec_build 25 [] zeroO.cells rfl (by kernel_rfl)) ?_
    exact fz
   intro gv w2 hV k2
   rw [dq 1 [54]]
   simp only [F7]
   rw [gQ hV 0 54 zeroO.v]
   clear hV
   refine l_setS 25 b6 25 zeroO.cells zeroO.cells _ _ rfl rfl (by kernel_rfl) (by kernel_rfl) (HB6r.out.kept k2) (by rw [Ord.len9]; exact ord_size) rfl (Ord.one1 _) ?_
   intro w3 hB3 hk3 hs3
   simp only [Act.put]
   refine l_val (.bool false) rfl (exec_assign _ _ rfl (by kernel_rfl)) ?_
   simp only [Act.put, sA, sS, sZ]
   refine wpList_nil ?_
   go_wp2
   refine bodyPost_ret (results_cell2 (p := 6) (q := 7) rfl _ _ b6 _ zeroO.cells false rfl rfl hB3 Try.underlying25 (by rw [Ord.len9]; exact ord_size)) rfl ?_
   have kw3 : Kept w w3 := (hkr.trans k2).trans' hk3 (by omega)
   exact ⟨F, by rw [HR.out]; rfl, by rw [HR.out]; exact HL.out.kept kw3, Grow.refl _ _, Keep.mono (T := F) kw3 (fun _ _ h => h.elim), fun _ => kw3⟩
def rsd (s : Int) (v u : Value) (last no : Int) : List Value := if s = 1 then rbCells v u last no else rbCells u v last no
def RRejoin (w : World) (F : Nat → Prop) (p : Nat) (B : Bok) (s : Int) (u : Value) (Fs : Nat → Prop) : Prop :=
 ∀ (w' : World) (v' : Value) (L' : List Lev) (Fs' : Nat → Prop) (last no : Int), Keep (fun b => Fs b ∨ b = p) w w' → Blk w' p 46 (rsd s v' u last no) → RWay w' Fs' v' L' → Grow w Fs Fs' → ∃ F', RBk w' F' p (B.to s L' last no) ∧ Grow w F F' ∧ Keep F w w' ∧ ∀ b, F b → F' b
theorem RBk.open_ {w : World} {F : Nat → Prop} {p : Nat} {B : Bok} (h : RBk w F p B) {s : Int} (hs : s = 1 ∨ s = 2) :
  ∃ v u Z G Fs, levs Z = B.sd s ∧ WayZ 86 95 87 w Fs v Z G ∧ Blk w p 46 (rsd s v u B.last B.no) ∧ (∀ b, Fs b → F b ∧ b ≠ p) ∧ F p ∧ (∀ b, F b → b < w.heap.size) ∧ RRejoin w F p B s u Fs := by
 obtain ⟨h1, h2, v1, v2, F1, F2, hB, hW1, hW2, h3, h4⟩ := h
 have hpl := h2 p h1
 rcases hs with rfl | rfl
 ·obtain ⟨Z, G, e, hz⟩ := hW1
  refine ⟨v1, v2, Z, G, F1, e, hz, hB, fun b hb => ⟨(h3 b hb).1, (h3 b hb).2.1⟩, h1, h2, ?_⟩
  intro w' v' L' Fs' last no hk hB' hW' hG
  have hlt := hW'.lt
  have hkF : Keep F w w' := hk.mono (fun b _ hb => hb.elim (fun h => (h3 b h).1) (fun h => by subst h; exact h1))
  refine ⟨fun b => F b ∨ Fs' b, ⟨.inl h1, fun b hb => hb.elim (fun h => Nat.lt_of_lt_of_le (h2 b h) hk.size) (hlt b), v', v2, Fs', F2, hB', hW', hW2.keep hk (fun b hb h => h.elim (fun h => (h3 b h).2.2 hb) (fun h => (h4 b hb).2 h)), fun b hb => ?_, fun b hb => ⟨.inl (h4 b hb).1, (h4 b hb).2⟩⟩, fun b hb => hb.elim .inl (fun h => (hG b h).imp (fun h => (h3 b h).1) id), hkF, fun b hb => .inl hb⟩
  refine ⟨.inr hb, ?_, ?_⟩
  ·rcases hG b hb with h | h
   ·exact (h3 b h).2.1
   ·omega
  ·rcases hG b hb with h | h
   ·exact (h3 b h).2.2
   ·intro h'
    have := h2 b (h4 b h').1
    omega
 ·obtain ⟨Z, G, e, hz⟩ := hW2
  refine ⟨v2, v1, Z, G, F2, e, hz, hB, h4, h1, h2, ?_⟩
  intro w' v' L' Fs' last no hk hB' hW' hG
  have hlt := hW'.lt
  have hkF : Keep F w w' := hk.mono (fun b _ hb => hb.elim (fun h => (h4 b h).1) (fun h => by subst h; exact h1))
  refine ⟨fun b => F b ∨ Fs' b, ⟨.inl h1, fun b hb => hb.elim (fun h => Nat.lt_of_lt_of_le (h2 b h) hk.size) (hlt b), v1, v', F1, Fs', hB', hW1.keep hk (fun b hb h => h.elim (fun h => (h3 b hb).2.2 h) (fun h => (h3 b hb).2.1 h)), hW', fun b hb => ⟨.inl (h3 b hb).1, (h3 b hb).2.1, fun h' => ?_⟩, fun b hb => ⟨.inr hb, ?_⟩⟩, fun b hb => hb.elim .inl (fun h => (hG b h).imp (fun h => (h4 b h).1) id), hkF, fun b hb => .inl hb⟩
  ·rcases hG b h' with h | h
   ·exact (h3 b hb).2.2 h
   ·have := h2 b (h3 b hb).1
    omega
  ·rcases hG b hb with h | h
   ·exact (h4 b h).2
   ·omega
end Go.Proofs.Ytfpfpmhkkgfdbaa
namespace Go.Proofs.Ytfpfpmhkkgfdbaa
open Go.RowKit
set_option maxRecDepth 100000
theorem RBk.open3 {w : World} {F : Nat → Prop} {p : Nat} {B : Bok} (h : RBk w F p B) {k : Nat} (hk : k < 3) :
  ∃ v u Z G Fs, levs Z = B.sd (k : Int) ∧ WayZ 86 95 87 w Fs v Z G ∧ w.cell? ⟨p, 0 + k * 1, none⟩ = some v ∧ (0 < Z.length → (k = 1 ∨ k = 2) ∧ Blk w p 46 (rsd (k : Int) v u B.last B.no) ∧ (∀ b, Fs b → F b ∧ b ≠ p) ∧ RRejoin w F p B (k : Int) u Fs) := by
 by_cases h0 : k = 0
 ·subst h0
  obtain ⟨Z, G, e, hz⟩ := (Way.nil w : RWay w (fun _ => False) (.slice none 0 0) [])
  refine ⟨_, .slice none 0 0, Z, G, _, e, hz, h.cell0, fun hl => ?_⟩
  have hz0 : Z = [] := by simpa [levs] using e
  rw [hz0] at hl
  simp at hl
 ·have h12 : k = 1 ∨ k = 2 := by omega
  obtain ⟨v, u, Z, G, Fs, e, hz, hB, hFs, _, _, hJ⟩ := h.open_ (s := (k : Int)) (by omega)
  refine ⟨v, u, Z, G, Fs, e, hz, ?_, fun _ => ⟨h12, hB, hFs, hJ⟩⟩
  rcases h12 with rfl | rfl
  ·exact hB.cell 1
  ·exact hB.cell 2
theorem less_side {B : Bok} {t j y : Int} {k : Nat} {L' : List Lev} (h12 : k = 1 ∨ k = 2) (hp : ∀ s : Nat, s < k → (lessL t j y (B.sd (s : Int))).1 = false) (h : lessL t j y (B.sd (k : Int)) = (true, L')) : B.less t j y = (true, B.to (k : Int) L' B.last B.no) := by
 unfold Bok.less
 rcases h12 with rfl | rfl
 ·have h1 : lessL t j y B.buys = (true, L') := h
  rw [h1]
  rfl
 ·have h1 : lessL t j y B.sells = (true, L') := h
  have h2 : (lessL t j y B.buys).1 = false := hp 1 (by omega)
  rw [if_neg (by rw [h2]; simp), h1]
  rfl
theorem bless_none {B : Bok} {t j y : Int} (hp : ∀ s : Nat, s < 3 → (lessL t j y (B.sd (s : Int))).1 = false) : B.less t j y = (false, B) := by
 unfold Bok.less
 have h1 : (lessL t j y B.buys).1 = false := hp 1 (by omega)
 have h2 : (lessL t j y B.sells).1 = false := hp 2 (by omega)
 rw [if_neg (by rw [h1]; simp), if_neg (by rw [h2]; simp)]
set_option maxRecDepth 100000 in
set_option maxHeartbeats 1600000 in
theorem rbless_any (w : World) (F : Nat → Prop) (p : Nat) (B : Bok) (t j y : Int) (h : RBk w F p B) (hI : Inv B) : Calls Try.prog 27 #[.pointer (some ⟨p, 0, none⟩), .int .i64 t, .int .i64 j, .int .i64 y] w fun r w' => ∃ F', r = .returned (.bool (B.less t j y).1) ∧ RBk w' F' p (B.less t j y).2 ∧ Grow w F F' ∧ Keep F w w' := by
 have HB := Lib.hid h
 have HI := Lib.hid hI
 clear h hI
 go_enter Try.func27, Try.ntmps27
 go_upto_region 1 with fail
 go_wp2_with fail
 go_loopw [12] (fun q wr => ∃ (k : Nat), k ≤ 3 ∧ q = .int .i64 (k : Int) ∧ Hid (∀ s : Nat, s < k → (lessL t j y (B.sd (s : Int))).1 = false) ∧ Kept w wr) (fun q _ => 3 - (intOf q).toNat)
 case atStart => exact ⟨0, by omega, rfl, fun s hs => (by omega), Kept.refl _⟩
 case round =>
  obtain ⟨k, hk3, rfl, HNO, hkr⟩ := hrel
  by_cases hk : k < 3
  ·obtain ⟨L, hLe⟩ : ∃ L, B.sd (k : Int) = L := ⟨_, rfl⟩
   have hL : LvsOk L := by rw [← hLe]; exact HI.out.ok _
   obtain ⟨v, uo, Z, G, Fs, eL, hW, hv0, hop⟩ := (HB.out.kept hkr).open3 hk
   rw [hLe] at eL
   have hn64 : Z.length ≤ 64 := by have := hL.len; rw [← eL, levs_len] at this; exact this
   have HLe := Lib.hid hLe
   have HV := Lib.hid hv0
   have HW := Lib.hid hW
   have HL := Lib.hid hL
   have EL := Lib.hid eL
   have HOP := Lib.hid hop
   obtain ⟨n, hn⟩ : ∃ n, Z.length = n := ⟨_, rfl⟩
   have HSL := Lib.hid hW.sl
   rw [hn] at HSL hn64
   have HN := Lib.hid hn
   have zo := hkr.size
   obtain ⟨wo, hwo⟩ : ∃ x, x = wr := ⟨_, rfl⟩
   subst hwo
   clear hLe hv0 hW hL eL hn hop
   go_upto_region 4 with fail
   refine wp_text 8 [pE p 0, iE (k : Int), pE p 0, pE p 0, pE p (0 + k * 1), .eq (v), iE (n : Int), iE 0] rfl (by kernel_rfl) ?_ ?_
   ·refine mE 1 0 ?_
    refine mE 2 9 ?_
    refine nD 3 15 0 ?_
    refine fD 4 17 2 46 0 0 0 ?_
    refine sW 5 rfl (fun a u E D hk=>exec_elem 44 43 3 1 _ _ p 0 k rfl Try.underlying44 (by kernel_rfl) (dD D 3) (dD D 1) (by omega)) ?_
    refine sW 6 rfl (fun a u E D hk=>exec_ldv _ _ Try.underlying43 _ _ _ rfl (dD D 4) (Kept.cell hk (HV.out))) ?_
    refine sW 7 rfl (fun a u E D hk=>exec_lenS _ slQR _ _ _ _ rfl (dD D 5) HSL.out) ?_
    refine sW 8 rfl (fun a u E D hk=>exec_move _ _ rfl rfl) ?_
    exact fz
   intro gv w1 hV k1
   rw [dq 8 [15,16,17,18,19,20,21,22]]
   simp only [F7]
   rw [gQ hV 5 20 v]
   rw [gQ hV 6 21 (.int .i64 (n : Int))]
   rw [gQ hV 7 22 (.int .i64 0)]
   clear hV
   refine wpList_nil ?_
   clear HV
   go_wp2_with fail
   rw [show (decide ((k : Int) < 3)) = true from decide_eq_true (by omega)]
   go_loopw [22] (fun q wr => ∃ (i : Nat), i ≤ n ∧ q = .int .i64 (i : Int) ∧ Hid (∀ x ∈ L.take i, (lessM t j y x.2).1 = false) ∧ Kept wo wr) (fun q _ => n - (intOf q).toNat)
   case atStart => exact ⟨0, Nat.zero_le _, rfl, by intro x hx; simp at hx, k1⟩
   case round =>
    obtain ⟨i, hi, rfl, HM, hkr2⟩ := hrel
    by_cases hlt : i < n
    ·obtain ⟨gs, os, c, rfl⟩ := HSL.out.some_ (by omega)
     obtain ⟨z, hz⟩ : ∃ z, Z[i]? = some z := ⟨Z[i]'(by rw [HN.out]; omega), List.getElem?_eq_getElem (by rw [HN.out]; omega)⟩
     obtain ⟨q, pr, X⟩ := z
     have HC := Lib.hid ((HW.out.kept hkr2).cell hz)
     have HZ := Lib.hid (split_at hz)
     have HLV := Lib.hid ((HW.out.kept hkr2).lv (q, pr, X) (List.mem_of_getElem? hz))
     have HX := Lib.hid (HL.out.one (l := (pr, X)) (by rw [← EL.out]; exact levs_mem (List.mem_of_getElem? hz)))
     have HA : Hid (L[i]? = some (pr, X)) := by show _ = _; rw [← EL.out]; exact levs_at hz
     clear hz
     go_upto_region 6 with fail
     refine wp_text 2 [pE gs (os + i * 1), pE q 0] rfl (by kernel_rfl) ?_ ?_
     ·refine sW 1 rfl (fun a u E D hk=>exec_ixo slQR _ _ (gs) (os) n c i (os + i * 1) ((i : Int)) rfl (eE E) (eE E) (by first | rfl | omega) (hlt) (by first | rfl | omega)) ?_
      refine sW 2 rfl (fun a u E D hk=>exec_ldp _ _ Try.underlying87 _ _ _ rfl (dD D 0) (Kept.cell hk (HC.out))) ?_
      exact fz
     intro gv w1 hV k2
     rw [dq 2 [24,25]]
     simp only [F7]
     rw [gQ hV 1 25 (.pointer (some ⟨q, 0, none⟩))]
     clear hV
     refine l_val (.pointer (some ⟨q, 0, none⟩)) rfl (exec_assign _ _ rfl (by kernel_rfl)) ?_
     simp only [Act.put, sA, sS, sZ]
     refine wpList_nil ?_
     have HLV1 := Lib.hid (HLV.out.kept k2)
     have kw1 := hkr2.trans k2
     clear HC HLV k2
     obtain ⟨b, hb⟩ : ∃ b, (lessM t j y X).1 = b := ⟨_, rfl⟩
     have HBB := Lib.hid hb
     clear hb
     go_upto_region 7 with fail
     refine wp_text 4 [pE q 0, iE t, iE j, iE y] rfl (by kernel_rfl) ?_ ?_
     ·refine mE 1 11 ?_
      refine mE 2 1 ?_
      refine mE 3 2 ?_
      refine mE 4 3 ?_
      exact fz
     intro gv w2 hV k2
     rw [dq 4 [26,27,28,29]]
     simp only [F7]
     rw [gQ hV 0 26 (.pointer (some ⟨q, 0, none⟩))]
     rw [gQ hV 1 27 (.int .i64 t)]
     rw [gQ hV 2 28 (.int .i64 j)]
     rw [gQ hV 3 29 (.int .i64 y)]
     clear hV
     refine l_call 55 #[.pointer (some ⟨q, 0, none⟩), .int .i64 t, .int .i64 j, .int .i64 y] rfl (exec_call 55 _ [.tmp 26, .tmp 27, .tmp 28, .tmp 29] _ _ Try.func55 (by kernel_rfl) (by kernel_rfl) rfl (by kernel_rfl) _) ?_
     refine (rless2_any w2 _ q X t j y (HLV1.out.kept k2) (by have := HX.out; simp only at this; omega)).mono ?_
     rintro r w3 ⟨Gq, rfl, hl3, hg3, hk3, hq3⟩
     refine ⟨.bool b, by rw [HBB.out], ?_⟩
     rw [HBB.out] at hq3
     simp only [Act.put, sA, sS, sZ]
     refine wpList_nil ?_
     have kw2 := kw1.trans k2
     have HL3 := Lib.hid hl3
     have HG3 := Lib.hid hg3
     have HK3 := Lib.hid hk3
     have HQ3 := Lib.hid hq3
     clear hl3 hk3 hq3 hg3 HLV1 k2 kw1
     cases b with
     | true =>
      have HR : Hid (lessL t j y L = (true, levs (Z.take i ++ (q, pr, (lessM t j y X).2) :: Z.drop (i + 1)))) := by
       show _ = _
       have e1 : L = levs (Z.take i) ++ (pr, X) :: levs (Z.drop (i + 1)) := by
        rw [← EL.out]
        conv => lhs; rw [HZ.out]
        rw [levs_append, levs_cons]
       have e2 : L.take i = levs (Z.take i) := by rw [← EL.out]; simp [levs, List.map_take]
       rw [e2] at HM
       conv => lhs; rw [e1]
       rw [lessL_at HM.out HBB.out, levs_append, levs_cons]
      obtain ⟨h12, hB, hFs, hJ⟩ := HOP.out (by rw [HN.out]; omega)
      obtain ⟨Fs', G', hW', hG', hk', _⟩ := WayZ.turn (A := Z.take i) (R := Z.drop (i + 1)) (q := q) (pr := pr) (X := X) (by rw [← HZ.out]; exact HW.out.kept kw2) HK3.out HL3.out HG3.out
      have K3 : Keep (fun b => Fs b ∨ b = p) wo w3 := (Keep.mono (T := fun b => Fs b ∨ b = p) kw2 (fun _ _ h => h.elim)).trans hk' (fun b _ hb => .inl hb)
      have hB3 := (hB.kept kw2).keep hk' (fun h => (hFs p h).2 rfl)
      obtain ⟨F', q1, q2, q3, _⟩ := hJ w3 _ _ _ _ _ K3 hB3 ⟨_, _, rfl, hW'⟩ (hG'.wide kw2.size)
      have HS : Hid (B.less t j y = (true, B.to (k : Int) (levs (Z.take i ++ (q, pr, (lessM t j y X).2) :: Z.drop (i + 1))) B.last B.no)) := less_side h12 HNO.out (by rw [HLe.out]; exact HR.out)
      have Q1 := Lib.hid q1
      have q2' := q2.wide zo
      have q3' : Keep F w w3 := (Keep.mono (T := F) hkr (fun _ _ h => h.elim)).trans q3 (fun _ _ h => h)
      clear HL3 HK3 HQ3 HG3 hW' hG' hk' K3 hB3 hB q1 q2 q3 HR hJ hFs
      go_wp2
      go_ret
      rw [HS.out]
      exact ⟨rfl, F', Q1.out, q2', q3'⟩
     | false =>
      have kw3 := kw2.trans (HQ3.out rfl)
      have HM1 : Hid (∀ x ∈ L.take (i + 1), (lessM t j y x.2).1 = false) := by
       intro x hx
       rw [List.take_add_one, HA.out] at hx
       rcases List.mem_append.1 hx with hx | hx
       ·exact HM.out x hx
       ·simp at hx
        subst hx
        exact HBB.out
      clear HL3 HK3 HQ3 HM HG3
      go_wp2
      exact ⟨⟨i + 1, by omega, by go_num, HM1, kw3⟩, by simp [intOf]; omega⟩
    ·have HN4 : Hid (∀ s : Nat, s < k + 1 → (lessL t j y (B.sd (s : Int))).1 = false) := by
      intro s hs
      by_cases hsk : s = k
      ·subst hsk
       rw [HLe.out, lessL_none fun x hx => HM.out x (by rw [List.take_of_length_le (by rw [← EL.out, levs_len, HN.out]; omega)]; exact hx)]
      ·exact HNO.out s (by omega)
     have kwr := hkr.trans hkr2
     clear HM
     go_wp2
     exact ⟨⟨k + 1, by omega, by go_num, HN4, kwr⟩, by simp [intOf]; omega⟩
  ·have hk' : k = 3 := by omega
   subst hk'
   have HS : Hid (B.less t j y = (false, B)) := bless_none HNO.out
   clear HNO
   go_wp2
   go_ret
   rw [HS.out]
   exact ⟨F, rfl, HB.out.kept hkr, Grow.refl _ _, Keep.mono (T := F) hkr (fun _ _ h => h.elim)⟩
section
variable {P : Program} {ops : Array Oper} {Q : Exit → Act → World → Prop} {V : List Kn} {m n : Nat} {st : Nat → Bool} {a0 : Act} {w0 : World} {C : Nat → Value} {R : Value → World → World → Prop}
structure QInv (ops : Array Oper) (V : List Kn) (m n : Nat) (st : Nat → Bool) (a0 : Act) (w0 : World) (C : Nat → Value) (R : Value → World → World → Prop) (ls : Array Bool) (a : Act) (w : World) : Prop where
 head : HeadInv .any ops n ls
 defers : a.defers = a0.defers
 size : a.tmps.size = a0.tmps.size
 env : ∀ t, (∀ i, i < n → ls.getD i false = true → dstOf ops i ≠ some t) → a.tmps[t]? = a0.tmps[t]?
 zero : ∀ i, i < n → st i = true → ls.getD i false = true → ∀ d, dstOf ops i = some d → a.tmps.getD d undef = C i
 early : ls.getD m false = false → (∀ i d, i < n → i ≠ m → ls.getD i false = true → dstOf ops i = some d → (knOf V i).p (a.tmps.getD d undef) w) ∧ Kept w0 w
 late : ls.getD m false = true → (∀ i, i < n → st i = false → ls.getD i false = true) ∧ ∃ w1, Kept w0 w1 ∧ (∀ i d, i < n → st i = false → i ≠ m → dstOf ops i = some d → (knOf V i).p (a.tmps.getD d undef) w1) ∧ ∀ d, dstOf ops m = some d → R (a.tmps.getD d undef) w1 w
def QZero (P : Program) (ops : Array Oper) (Q : Exit → Act → World → Prop) (V : List Kn) (n : Nat) (st : Nat → Bool) (a0 : Act) (C : Nat → Value) : Prop := ∀ i, i < n → st i = true → ∀ a w, FEnv ops n a0 a → FDep ops V i a w → wpOp P ops Q i (fun a' w' => a' = a.put (dstOf ops i) (C i) ∧ w' = w) a w
def sinkQ (ops : Array Oper) (m n : Nat) (st : Nat → Bool) : Bool := (decide (m < n) && !st m) && ((List.range n).all fun i => st i || (i == m || (decide (i < m) && (List.range n).any fun j => decide (i < j) && (!st j && Region.waitsFor .any ops j i))))
def strayB (ops : Array Oper) (n : Nat) (st : Nat → Bool) : Bool := (List.range n).all fun i => !st i || match ops[i]? with
 | none => false
 | some o => o.after.all fun e => !Region.binds .any e || st e.on
def QLast (P : Program) (ops : Array Oper) (Q : Exit → Act → World → Prop) (V : List Kn) (m n : Nat) (a0 : Act) (w0 : World) (R : Value → World → World → Prop) : Prop :=
 ∀ a w, FEnv ops n a0 a → FDep ops V m a w → Kept w0 w → wpOp P ops Q m (fun a' w' => ∃ v, a' = a.put (dstOf ops m) v ∧ R v w w') a w
theorem freeQ_go (hV0 : V.length = n) (hK0 : ∀ i, i < n → st i = true → V[i]? = some (.eq (C i))) (hB : freeB ops n a0.tmps.size = true) (hsk : sinkQ ops m n st = true) (hsb : strayB ops n st = true) (hst : ∀ i K, st i = false → i ≠ m → V[i]? = some K → FStep P ops Q V n a0 w0 i K)
  (hz : QZero P ops Q V n st a0 C) (hm : QLast P ops Q V m n a0 w0 R)
  (hfin : ∀ a w, QInv ops V m n st a0 w0 C R (Array.replicate n true ++ Array.replicate (ops.size - n) false) a w → wpAny P .any ops Q (ops.size - n) (Array.replicate n true ++ Array.replicate (ops.size - n) false) a w) :
  ∀ (f : Nat) (U : List Nat) (ls : Array Bool) (a : Act) (w : World), U.length = f → U.Nodup → (∀ i, i ∈ U ↔ i < n ∧ ls.getD i true = false) → QInv ops V m n st a0 w0 C R ls a w → wpAny P .any ops Q (f + (ops.size - n)) ls a w := by
 obtain ⟨hn, hsc, hseq, hall⟩ := freeB_facts hB
 simp only [sinkQ, Bool.and_eq_true, decide_eq_true_eq, Bool.not_eq_true'] at hsk
 obtain ⟨⟨hmn, hsm⟩, hsk⟩ := hsk
 have hsink : ∀ i, i < n → st i = false → i ≠ m → i < m ∧ ∃ q, q < n ∧ i < q ∧ st q = false ∧ Region.waitsFor .any ops q i = true := by
  intro i hi hs him
  have h := List.all_eq_true.1 hsk i (by simpa using hi)
  rw [hs] at h
  simp only [Bool.false_or, Bool.or_eq_true, beq_iff_eq, Bool.and_eq_true, decide_eq_true_eq, List.any_eq_true, List.mem_range, Bool.not_eq_true'] at h
  rcases h with h | ⟨h1, q, h2, h3, h4, h5⟩
  ·exact absurd h him
  ·exact ⟨h1, q, h2, h3, h4, h5⟩
 have hop : ∀ i, i < n → ∃ o d, ops[i]? = some o ∧ o.dst = some d ∧ d < a0.tmps.size ∧ (∀ j, j < i → dstOf ops j ≠ some d) ∧ ∀ e ∈ o.after, Region.binds .any e = true → e.on < i := by
  intro i hi
  have h := List.all_eq_true.1 hall i (by simpa using hi)
  cases ho : ops[i]? with
  | none => rw [ho] at h; cases h
  | some o =>
   rw [ho] at h
   simp only [Bool.and_eq_true] at h
   cases hd : o.dst with
   | none => rw [hd] at h; cases h.1
   | some d =>
    rw [hd] at h
    simp only [Bool.and_eq_true, decide_eq_true_eq, List.all_eq_true, List.mem_range, bne_iff_ne] at h
    refine ⟨o, d, rfl, hd, h.1.1, h.1.2, fun e he hb => ?_⟩
    have h2 := (Array.all_eq_true_iff_forall_mem.1 h.2) e he
    simpa [hb] using h2
 intro f
 induction f with
 | zero =>
  intro U ls a w hU _ hmem inv
  have hnil : U = [] := List.eq_nil_of_length_eq_zero hU
  have hls : ls = Array.replicate n true ++ Array.replicate (ops.size - n) false := by
   apply Array.ext
   ·simp [inv.head.size]; omega
   ·intro i h1 h2
    have hsz := inv.head.size
    by_cases hi : i < n
    ·have h3 : ¬ (i < n ∧ ls.getD i true = false) := by
      intro h
      have := (hmem i).2 h
      rw [hnil] at this
      cases this
     have h4 : ls.getD i true = true := by
      cases hq : ls.getD i true with
      | true => rfl
      | false => exact (h3 ⟨hi, hq⟩).elim
     rw [Array.getElem_append_left (by simpa using hi)]
     simp [h1] at h4
     simp [h4]
    ·have h4 := inv.head.tail i (by omega) (by omega)
     rw [Array.getElem_append_right (by simpa using hi)]
     simp [h1] at h4
     simp [h4]
  rw [Nat.zero_add]
  subst hls
  exact hfin a w inv
 | succ f ih =>
  intro U ls a w hU hnd hmem inv
  have hsz := inv.head.size
  rw [show f + 1 + (ops.size - n) = (f + (ops.size - n)) + 1 by omega]
  obtain ⟨u, hu⟩ : ∃ u, u ∈ U := by
   cases U with
   | nil => simp at hU
   | cons u U => exact ⟨u, by simp⟩
  obtain ⟨hun, huf⟩ := (hmem u).1 hu
  refine ⟨fun h0 => ?_, fun i hi => ?_⟩
  ·exfalso
   have key : ∀ k i, i ≤ k → i < n → ls.getD i true = true := by
    intro k
    induction k using Nat.strongRecOn with
    | _ k ihk =>
     intro i hik hin
     cases hq : ls.getD i true with
     | true => rfl
     | false =>
      obtain ⟨o, d, ho, _, _, _, haft⟩ := hop i hin
      have : i ∈ Region.ready .any ops ls := mem_ready.2 ⟨hq, o, ho, fun e he hb => by
       have hlt := haft e he hb
       have := ihk (k - 1) (by omega) e.on (by omega) (by omega)
       exact getD_tf this (by omega)⟩
      rw [h0] at this
      cases this
   rw [key u u (Nat.le_refl _) hun] at huf
   cases huf
  ·have hin : i < n := Nat.lt_of_not_le fun h => tail_waits (hsc (Nat.lt_of_le_of_lt h (by obtain ⟨_, o1, ho1, _⟩ := mem_ready.1 hi; exact (Array.getElem?_eq_some_iff.1 ho1).1))).1 (hsc (Nat.lt_of_le_of_lt h (by obtain ⟨_, o1, ho1, _⟩ := mem_ready.1 hi; exact (Array.getElem?_eq_some_iff.1 ho1).1))).2 (Nat.lt_of_le_of_lt h (by obtain ⟨_, o1, ho1, _⟩ := mem_ready.1 hi; exact (Array.getElem?_eq_some_iff.1 ho1).1)) inv.head _ u rfl hun huf i h hi
   obtain ⟨hiun, oi, hoi, hdeps⟩ := mem_ready.1 hi
   obtain ⟨o, d, ho, hd, hdlt, hne, haft⟩ := hop i hin
   obtain rfl : oi = o := Option.some.inj (hoi.symm.trans ho)
   have hdi : dstOf ops i = some d := by simp [dstOf, ho, hd]
   have hiff : ls.getD i false = false := getD_both hiun
   have hne' : ∀ j, j < n → j ≠ i → dstOf ops j ≠ some d := by
    intro j hj hij hjd
    by_cases hji : j < i
    ·exact hne j hji hjd
    ·obtain ⟨oj, dj, hoj, hdj, _, hnej, _⟩ := hop j hj
     have : dj = d := by
      have h1 : dstOf ops j = some dj := by simp [dstOf, hoj, hdj]
      rw [h1] at hjd
      injection hjd
     subst this
     exact hnej i (by omega) hdi
   have hdlt' : d < a.tmps.size := by rw [inv.size]; exact hdlt
   have hself : ∀ v, (a.put (some d) v).tmps.getD d undef = v := fun v => by simp [Act.put, hdlt']
   have hoth : ∀ v j e, j < n → j ≠ i → dstOf ops j = some e → (a.put (some d) v).tmps.getD e undef = a.tmps.getD e undef := by
    intro v j e hj hji he
    have : d ≠ e := fun h => hne' j hj hji (by rw [he, h])
    simp only [Act.put, Array.getD_eq_getD_getElem?, slot_set]
    rw [if_neg (fun h => this h.1)]
   have hfe : FEnv ops n a0 a := by
    intro t v ht hv
    have ht' : ∀ k, k < n → ls.getD k false = true → dstOf ops k ≠ some t := fun k hkn _ => by simpa using List.all_eq_true.1 ht k (by simpa using hkn)
    have h1 := inv.env t ht'
    rw [← hv]
    simp only [Act.eval, Array.getD_eq_getD_getElem?, h1]
   have hU' : ∀ k, k ∈ U.erase i ↔ k < n ∧ (ls.setIfInBounds i true).getD k true = false := by
    intro k
    rw [hnd.mem_erase_iff, hmem k]
    by_cases hki : k = i
    ·subst hki
     simp
    ·rw [getD_set_ne true (fun h => hki h.symm)]
     simp [hki]
   have henv : ∀ v t, (∀ k, k < n → (ls.setIfInBounds i true).getD k false = true → dstOf ops k ≠ some t) → (a.put (some d) v).tmps[t]? = a0.tmps[t]? := by
    intro v t ht
    have h1 := inv.env t (fun k hkn hl => ht k hkn (getD_set_true hl))
    have h2 : d ≠ t := fun h => ht i hin (by simp [show i < ls.size by omega]) (by rw [hdi, h])
    simp only [Act.put, slot_set]
    rw [if_neg (fun h => h2 h.1), h1]
   have hlen : (U.erase i).length = f := by rw [List.length_erase_of_mem ((hmem i).2 ⟨hin, hiun⟩)]; omega
   have hsetk : ∀ k, k ≠ i → (ls.setIfInBounds i true).getD k false = ls.getD k false := fun k hk => getD_set_ne false (fun h => hk h.symm)
   have hseti : (ls.setIfInBounds i true).getD i false = true := by simp [show i < ls.size by omega]
   have hdep : ls.getD m false = false → FDep ops V i a w := by
    intro hme j e hje
    simp only [Bool.and_eq_true, beq_iff_eq, ho, Option.map_some, Option.some.injEq, Array.any_eq_true'] at hje
    obtain ⟨⟨x, hx, hxb, hxj⟩, hdj⟩ := hje
    subst hxj
    have hd1 := hdeps x hx hxb
    exact (inv.early hme).1 x.on e (by have := haft x hx hxb; omega) (fun e1 => by rw [e1, hme] at hd1; cases hd1) hd1 hdj
   have hdepS : st i = true → FDep ops V i a w := by
    intro hsi j e hje
    simp only [Bool.and_eq_true, beq_iff_eq, ho, Option.map_some, Option.some.injEq, Array.any_eq_true'] at hje
    obtain ⟨⟨x, hx, hxb, hxj⟩, hdj⟩ := hje
    subst hxj
    have h := List.all_eq_true.1 hsb i (by simpa using hin)
    rw [hsi, ho] at h
    simp only [Bool.not_true, Bool.false_or] at h
    have h2 := (Array.all_eq_true_iff_forall_mem.1 h) x hx
    rw [hxb] at h2
    have hso : st x.on = true := by simpa using h2
    have hxn : x.on < n := by have := haft x hx hxb; omega
    have h3 := inv.zero x.on hxn hso (hdeps x hx hxb) e hdj
    have : knOf V x.on = .eq (C x.on) := by unfold knOf; rw [List.getD_eq_getElem?_getD, hK0 x.on hxn hso]; rfl
    rw [this]
    exact h3
   by_cases him : i = m
   ·subst him
    obtain ⟨hv, hk⟩ := inv.early hiff
    have hlau : ∀ k j, j < n → st j = false → j ≠ i → i ≤ j + k → ls.getD j false = true := by
     intro k
     induction k with
     | zero => intro j hjn hjs hji hjk; have := (hsink j hjn hjs hji).1; omega
     | succ k ihk =>
      intro j hjn hjs hji hjk
      obtain ⟨_, q, hq1, hq2, hqs, hq3⟩ := hsink j hjn hjs hji
      obtain ⟨oq, dq, hoq, _, _, _, _⟩ := hop q (by omega)
      obtain ⟨e, he, hb, heq⟩ := waits_on hq3 hoq
      by_cases hqi : q = i
      ·subst hqi
       obtain rfl : oq = oi := Option.some.inj (hoq.symm.trans ho)
       rw [← heq]
       exact hdeps e he hb
      ·have := inv.head.closed q oq hoq (ihk q (by omega) hqs hqi (by omega)) e he hb
       rw [← heq]
       exact this
    refine wpOp_mono ?_ (hm a w hfe (hdep hiff) hk)
    rintro a' w' ⟨v, rfl, hR⟩
    rw [hdi]
    refine ih (U.erase i) _ _ w' hlen (hnd.erase _) hU' ⟨inv.head.set hi hin, inv.defers, by simp [Act.put, inv.size], henv v, fun x hx hsx hl e he => ?_, fun hl => ?_, fun _ => ⟨fun k hk1 hk2 => ?_, w, hk, fun k e hk1 hk2 hk3 he => ?_, fun e he => ?_⟩⟩
    ·have hxi : x ≠ i := fun h => by rw [h, hsm] at hsx; cases hsx
     rw [hsetk x hxi] at hl
     rw [hoth v x e hx hxi he]
     exact inv.zero x hx hsx hl e he
    ·rw [hseti] at hl
     cases hl
    ·by_cases hki : k = i
     ·subst hki; exact hseti
     ·rw [hsetk k hki]
      exact hlau i k hk1 hk2 hki (by omega)
    ·rw [hoth v k e hk1 hk3 he]
     exact hv k e hk1 hk3 (hlau i k hk1 hk2 hk3 (by omega)) he
    ·rw [hdi] at he
     injection he with he
     subst he
     rw [hself]
     exact hR
   ·by_cases hi0 : st i = true
    ·refine wpOp_mono ?_ (hz i hin hi0 a w hfe (hdepS hi0))
     rintro a' w' ⟨rfl, rfl⟩
     rw [hdi]
     refine ih (U.erase i) _ _ w' hlen (hnd.erase _) hU' ⟨inv.head.set hi hin, inv.defers, by simp [Act.put, inv.size], henv (C i), fun x hx hsx hl e he => ?_, fun hl => ⟨fun k e hkn hkm hlk he => ?_, ?_⟩, fun hl => ?_⟩
     ·by_cases hxi : x = i
      ·subst hxi
       rw [hdi] at he
       injection he with he
       subst he
       exact hself _
      ·rw [hsetk x hxi] at hl
       rw [hoth _ x e hx hxi he]
       exact inv.zero x hx hsx hl e he
     ·rw [hsetk m (fun h => him h.symm)] at hl
      by_cases hk0 : k = i
      ·subst hk0
       rw [hdi] at he
       injection he with he
       subst he
       rw [hself]
       have : knOf V k = .eq (C k) := by unfold knOf; rw [List.getD_eq_getElem?_getD, hK0 k hin hi0]; rfl
       rw [this]
       exact rfl
      ·rw [hsetk k hk0] at hlk
       rw [hoth _ k e hkn hk0 he]
       exact (inv.early hl).1 k e hkn hkm hlk he
     ·rw [hsetk m (fun h => him h.symm)] at hl
      exact (inv.early hl).2
     ·rw [hsetk m (fun h => him h.symm)] at hl
      obtain ⟨h1, w1, h2, h3, h4⟩ := inv.late hl
      refine ⟨fun k hk1 hk2 => by rw [hsetk k (fun h => by rw [h, hi0] at hk2; cases hk2)]; exact h1 k hk1 hk2, w1, h2, fun k e hk1 hk2 hk3 he => ?_, fun e he => ?_⟩
      ·rw [hoth _ k e hk1 (fun h => by rw [h, hi0] at hk2; cases hk2) he]
       exact h3 k e hk1 hk2 hk3 he
      ·rw [hoth _ m e hmn (fun h => him h.symm) he]
       exact h4 e he
    ·have hme : ls.getD m false = false := by
      cases hq : ls.getD m false with
      | false => rfl
      | true =>
       have := (inv.late hq).1 i hin (by simpa using hi0)
       rw [hiff] at this
       cases this
     obtain ⟨hv, hk⟩ := inv.early hme
     have hK : V[i]? = some (knOf V i) := by
      unfold knOf
      rw [List.getD_eq_getElem?_getD, List.getElem?_eq_getElem (by omega)]
      rfl
     refine wpOp_mono ?_ (hst i _ (by simpa using hi0) him hK a w hfe (hdep hme) hk)
     rintro a' w' ⟨v, rfl, hv', hk'⟩
     rw [hdi]
     refine ih (U.erase i) _ _ w' hlen (hnd.erase _) hU' ⟨inv.head.set hi hin, inv.defers, by simp [Act.put, inv.size], henv v, fun x hx hsx hl e he => ?_, fun hl => ⟨fun k e hkn hkm hlk he => ?_, hk.trans hk'⟩, fun hl => ?_⟩
     ·have hxi : x ≠ i := fun h => hi0 (by rw [← h]; exact hsx)
      rw [hsetk x hxi] at hl
      rw [hoth v x e hx hxi he]
      exact inv.zero x hx hsx hl e he
     ·by_cases hki : k = i
      ·subst hki
       rw [hdi] at he
       injection he with he
       subst he
       rw [hself]
       exact hv'
      ·rw [hsetk k hki] at hlk
       rw [hoth v k e hkn hki he]
       exact (knOf V k).st _ _ _ (hv k e hkn hkm hlk he) hk'
     ·rw [hsetk m (fun h => him h.symm), hme] at hl
      cases hl
theorem actQ_filled {a : Act} {w : World} {ls : Array Bool} (hl : ∀ i, i < n → ls.getD i false = true) (inv : QInv ops V m n st a0 w0 C R ls a w) : a = ⟨(dstsOf ops n).foldl (fun t d => t.setIfInBounds d (a.tmps.getD d undef)) a0.tmps, a0.defers⟩ := by
 obtain ⟨t, df⟩ := a
 have h1 := inv.defers
 simp only at h1
 subst h1
 congr 1
 apply Array.ext_getElem?
 intro e
 rw [fold_slots]
 have hsz := inv.size
 simp only at hsz
 by_cases hm : e ∈ dstsOf ops n
 ·by_cases hlt : e < a0.tmps.size
  ·rw [if_pos ⟨hm, hlt⟩]
   have : e < t.size := by omega
   simp [this]
  ·rw [if_neg (fun h => hlt h.2), Array.getElem?_eq_none (by omega), Array.getElem?_eq_none (by omega)]
 ·rw [if_neg (fun h => hm h.1)]
  exact inv.env e (fun i hi _ h => hm (List.mem_filterMap.2 ⟨i, by simpa using hi, h⟩))
def QVals (ops : Array Oper) (V : List Kn) (m : Nat) (st : Nat → Bool) (g : Nat → Value) (w : World) : Prop := ∀ i d, (!st i && decide (i < V.length) && i != m && dstOf ops i == some d) = true → (knOf V i).p (g d) w
def QSteps (P : Program) (ops : Array Oper) (Q : Exit → Act → World → Prop) (V : List Kn) (n m : Nat) (st : Nat → Bool) (a0 : Act) (w0 : World) : Nat → List Kn → Prop
 | _, [] => True
 | i, K :: Ks => (st i = false → i ≠ m → FStep P ops Q V n a0 w0 i K) ∧ QSteps P ops Q V n m st a0 w0 (i + 1) Ks
theorem qsteps_nil {i : Nat} : QSteps P ops Q V n m st a0 w0 i [] := trivial
theorem qsteps_cons {i : Nat} (j : Nat) {K : Kn} {Ks : List Kn} (hj : j = i + 1) (h : FStep P ops Q V n a0 w0 i K) (hr : QSteps P ops Q V n m st a0 w0 j Ks) : QSteps P ops Q V n m st a0 w0 i (K :: Ks) := ⟨fun _ _ => h, by subst hj; exact hr⟩
theorem qsteps_skip {i : Nat} (j : Nat) {K : Kn} {Ks : List Kn} (hj : j = i + 1) (hm : st i = true ∨ i = m) (hr : QSteps P ops Q V n m st a0 w0 j Ks) : QSteps P ops Q V n m st a0 w0 i (K :: Ks) := ⟨fun h h2 => (hm.elim (fun h3 => by rw [h3] at h; cases h) (fun h3 => absurd h3 h2)), by subst hj; exact hr⟩
theorem qsteps_at : ∀ (Ks : List Kn) (i : Nat), QSteps P ops Q V n m st a0 w0 i Ks → ∀ k K, Ks[k]? = some K → st (i + k) = false → i + k ≠ m → FStep P ops Q V n a0 w0 (i + k) K
 | [], _, _, k, K, h, _, _ => by simp at h
 | K0 :: Ks, i, h, 0, K, hk, hs, hm => by simp at hk; subst hk; exact h.1 hs hm
 | K0 :: Ks, i, h, k + 1, K, hk, hs, hm => by
  have e : i + (k + 1) = i + 1 + k := by omega
  rw [e] at hs hm ⊢
  exact qsteps_at Ks (i + 1) h.2 k K (by simpa using hk) hs hm
theorem wp_freeQ {id : Nat} {a : Act} {w : World} {l : List Oper} (n m : Nat) (st : Nat → Bool) (V : List Kn) (C : Nat → Value) (R : Value → World → World → Prop) (hmo : P.follows Departure.mixedOrders = true) (hV : V.length = n) (hK0 : ∀ i, i < n → st i = true → V[i]? = some (.eq (C i))) (hB : freeB l.toArray n a.tmps.size = true) (hsk : sinkQ l.toArray m n st = true) (hsb : strayB l.toArray n st = true)
  (hz : QZero P l.toArray Q V n st a C) (hs : QSteps P l.toArray Q V n m st a w 0 V) (hm : QLast P l.toArray Q V m n a w R)
  (hf : ∀ (g : Nat → Value) w1 w', QVals l.toArray V m st g w1 → (∀ i, i < n → st i = true → ∀ d, dstOf l.toArray i = some d → g d = C i) → (∀ d, dstOf l.toArray m = some d → R (g d) w1 w') → Kept w w1 → wpList P l.toArray Q (l.drop n) ⟨(dstsOf l.toArray n).foldl (fun t d => t.setIfInBounds d (g d)) a.tmps, a.defers⟩ w') : (Code.region id l.toArray true).wp P Q a w := by
 have hB' := hB
 obtain ⟨hn, _, hseq, _⟩ := freeB_facts hB'
 have hn' : n ≤ l.length := by simpa using hn
 have hdl : (l.drop n).length = l.toArray.size - n := by simp
 refine wp_region_any hmo ?_
 have := freeQ_go (P := P) (Q := Q) (w0 := w) hV hK0 hB hsk hsb (fun i K hi him hK => by
  have := qsteps_at V 0 hs i K hK (by rw [Nat.zero_add]; exact hi) (by omega)
  rwa [Nat.zero_add] at this) hz hm (fun b u inv => ?_) n (List.range n) (Array.replicate l.toArray.size false) a w.drew (by simp) List.nodup_range ?_ ?_
 ·have e : n + (l.toArray.size - n) = l.toArray.size := by omega
  rw [e] at this
  exact this
 ·have hl : ∀ i, i < n → (Array.replicate n true ++ Array.replicate (l.toArray.size - n) false).getD i false = true := by
   intro i hi
   have hlt : i < (Array.replicate n true ++ Array.replicate (l.toArray.size - n) false).size := by simp; omega
   rw [Array.getD, dif_pos hlt]
   show (Array.replicate n true ++ Array.replicate (l.toArray.size - n) false)[i] = true
   rw [Array.getElem_append_left (by simpa using hi)]
   simp
  have hmn : m < n := by have := hsk; simp only [sinkQ, Bool.and_eq_true, decide_eq_true_eq] at this; exact this.1.1
  obtain ⟨_, w1, h1, h2, h3⟩ := inv.late (hl m hmn)
  have h4 := hf (fun d => b.tmps.getD d undef) w1 u (fun i d hid => by
   simp only [Bool.and_eq_true, decide_eq_true_eq, beq_iff_eq, bne_iff_ne, Bool.not_eq_true'] at hid
   exact h2 i d (by omega) hid.1.1.1 hid.1.2 hid.2) (fun x hx hsx => inv.zero x hx hsx (hl x hx)) h3 h1
  rw [← actQ_filled hl inv] at h4
  have := wpAny_of_seq (P := P) (md := .any) (ops := l.toArray) (Q' := Q) (l.drop n) n _ b u (fun j => by simp) (by rw [hdl]; exact hseq) h4
  rw [hdl] at this
  exact this
 ·intro i
  rw [List.mem_range]
  constructor
  ·intro hi
   exact ⟨hi, getD_in (by simp; omega) (getD_replicate_false _ _)⟩
  ·exact fun h => h.1
 ·refine ⟨⟨by simp, fun j oj _ hl => (by rw [getD_replicate_false] at hl; cases hl), fun t _ ht => getD_in (by simpa using ht) (getD_replicate_false _ _)⟩, rfl, rfl, fun _ _ => rfl, fun _ _ _ hl => (by rw [getD_replicate_false] at hl; cases hl), fun _ => ⟨fun i d _ _ hl => (by rw [getD_replicate_false] at hl; cases hl), Keep.drew (Keep.refl _ w)⟩, fun hl => (by rw [getD_replicate_false] at hl; cases hl)⟩
theorem qs_val {i : Nat} {a : Act} {w : World} {o : Oper} (v : Value) (ho : ops[i]? = some o) (hw : Region.wanted o (yielded ops a.tmps) = true) (h : (execOp a.eval o).run P w = .ok (.value v) w) : wpOp P ops Q i (fun a' w' => a' = a.put (dstOf ops i) v ∧ w' = w) a w := by
 unfold wpOp
 simp only [ho, hw, if_true]
 refine .inl ?_
 unfold Oper.wp
 rw [h]
 exact ⟨by simp [dstOf, ho], rfl⟩
end
theorem remove_side {B : Bok} {t j : Int} {k : Nat} {e : Ord} {L' : List Lev} (h12 : k = 1 ∨ k = 2) (hp : ∀ s : Nat, s < k → (removeL t j (B.sd (s : Int))).2.1 = false) (h : removeL t j (B.sd (k : Int)) = (e, true, L')) : B.remove t j = (e, true, B.to (k : Int) L' B.last B.no) := by
 unfold Bok.remove
 rcases h12 with rfl | rfl
 ·have h1 : removeL t j B.buys = (e, true, L') := h
  rw [h1]
  rfl
 ·have h1 : removeL t j B.sells = (e, true, L') := h
  have h2 : (removeL t j B.buys).2.1 = false := hp 1 (by omega)
  rw [if_neg (by rw [h2]; simp), h1]
  rfl
theorem bremove_none {B : Bok} {t j : Int} (hp : ∀ s : Nat, s < 3 → (removeL t j (B.sd (s : Int))).2.1 = false) : B.remove t j = (zeroO, false, B) := by
 unfold Bok.remove
 have h1 : (removeL t j B.buys).2.1 = false := hp 1 (by omega)
 have h2 : (removeL t j B.sells).2.1 = false := hp 2 (by omega)
 rw [if_neg (by rw [h1]; simp), if_neg (by rw [h2]; simp)]
theorem drop_past (A R : List Lev) (l : Lev) : (A ++ l :: R).drop (A.length + 1) = R := by rw [List.drop_append]; simp
theorem rsd_cell {w : World} {p k : Nat} {v u : Value} {last no : Int} (h12 : k = 1 ∨ k = 2) (h : Blk w p 46 (rsd (k : Int) v u last no)) : w.cell? ⟨p, 0 + k * 1, none⟩ = some v := by
 rcases h12 with rfl | rfl
 ·exact h.cell 1
 ·exact h.cell 2
theorem rsd_set {k : Nat} {v v' u : Value} {last no : Int} (h12 : k = 1 ∨ k = 2) : (rsd (k : Int) v u last no).set (0 + k * 1) v' = rsd (k : Int) v' u last no := by
 rcases h12 with rfl | rfl <;> rfl
theorem rsd_len {k : Nat} {v u : Value} {last no : Int} (h12 : k = 1 ∨ k = 2) : (rsd (k : Int) v u last no).length = 5 := by
 rcases h12 with rfl | rfl <;> rfl
set_option maxRecDepth 100000 in
set_option maxHeartbeats 3200000 in
theorem rbremove_any (w : World) (F : Nat → Prop) (p : Nat) (B : Bok) (t j : Int) (h : RBk w F p B) (hI : Inv B) : Calls Try.prog 25 #[.pointer (some ⟨p, 0, none⟩), .int .i64 t, .int .i64 j] w fun r w' => ∃ F', r = .returned (.tuple #[(B.remove t j).1.v, .bool (B.remove t j).2.1]) ∧ RBk w' F' p (B.remove t j).2.2 ∧ Grow w F F' ∧ Keep F w w' := by
 have hFl := h.lt
 have HB := Lib.hid h
 have HI := Lib.hid hI
 clear h hI
 go_enter Try.func25, Try.ntmps25
 go_upto_region 0 with fail
 refine wp_text 2 [.fresh w.heap.size 25 zeroO.cells, bE false] rfl (by kernel_rfl) ?_ ?_
 ·refine nW 1 rfl (fun a u E D hk=>⟨_, _, exec_alc 25 zeroO.cells rfl zO, ⟨_, rfl, hk.size, Blk.new u _ _⟩, ((Keep.refl _ u).alloc _)⟩) ?_
  refine sW 2 rfl (fun a u E D hk=>exec_assign _ _ rfl rfl) ?_
  exact fz
 intro gv wz hV kz
 rw [dq 2 [6,7]]
 simp only [F7]
 have hv6 : (.fresh w.heap.size 25 zeroO.cells : Kn).p (gv 6) wz := hV 0 6 (by kernel_rfl)
 generalize gv 6 = v6 at hv6 ⊢
 rw [gQ hV 1 7 (.bool false)]
 clear hV
 obtain ⟨b6, rfl, hb6, hB6⟩ := hv6
 refine wpList_nil ?_
 have HB6 := Lib.hid hB6
 have l6 := hB6.lt
 have h6F : ¬ F b6 := fun h => by have := hFl b6 h; omega
 have HBz := Lib.hid (HB.out.kept kz)
 have zz := kz.size
 clear hB6 HB hFl
 go_wp2_with fail
 go_loopw [13] (fun q wr => ∃ (k : Nat), k ≤ 3 ∧ q = .int .i64 (k : Int) ∧ Hid (∀ s : Nat, s < k → (removeL t j (B.sd (s : Int))).2.1 = false) ∧ Kept wz wr) (fun q _ => 3 - (intOf q).toNat)
 case atStart => exact ⟨0, by omega, rfl, fun s hs => (by omega), Kept.refl _⟩
 case round =>
  obtain ⟨k, hk3, rfl, HNO, hkr⟩ := hrel
  by_cases hk : k < 3
  ·obtain ⟨L, hLe⟩ : ∃ L, B.sd (k : Int) = L := ⟨_, rfl⟩
   have hL : LvsOk L := by rw [← hLe]; exact HI.out.ok _
   obtain ⟨v, uo, Z, G, Fs, eL, hW, hv0, hop⟩ := (HBz.out.kept hkr).open3 hk
   rw [hLe] at eL
   have hn64 : Z.length ≤ 64 := by have := hL.len; rw [← eL, levs_len] at this; exact this
   have HLe := Lib.hid hLe
   have HV := Lib.hid hv0
   have HW := Lib.hid hW
   have HL := Lib.hid hL
   have EL := Lib.hid eL
   have HOP := Lib.hid hop
   obtain ⟨n, hn⟩ : ∃ n, Z.length = n := ⟨_, rfl⟩
   have HSL := Lib.hid hW.sl
   rw [hn] at HSL hn64
   have HN := Lib.hid hn
   have zo := hkr.size
   obtain ⟨wo, hwo⟩ : ∃ x, x = wr := ⟨_, rfl⟩
   subst hwo
   have HB6o := Lib.hid (HB6.out.kept hkr)
   clear hLe hv0 hW hL eL hn hop
   go_upto_region 4 with fail
   refine wp_text 8 [pE p 0, iE (k : Int), pE p 0, pE p 0, pE p (0 + k * 1), .eq (v), iE (n : Int), iE 0] rfl (by kernel_rfl) ?_ ?_
   ·refine mE 1 0 ?_
    refine mE 2 8 ?_
    refine nD 3 16 0 ?_
    refine fD 4 18 2 46 0 0 0 ?_
    refine sW 5 rfl (fun a u E D hk=>exec_elem 44 43 3 1 _ _ p 0 k rfl Try.underlying44 (by kernel_rfl) (dD D 3) (dD D 1) (by omega)) ?_
    refine sW 6 rfl (fun a u E D hk=>exec_ldv _ _ Try.underlying43 _ _ _ rfl (dD D 4) (Kept.cell hk (HV.out))) ?_
    refine sW 7 rfl (fun a u E D hk=>exec_lenS _ slQR _ _ _ _ rfl (dD D 5) HSL.out) ?_
    refine sW 8 rfl (fun a u E D hk=>exec_move _ _ rfl rfl) ?_
    exact fz
   intro gv w1 hV k1
   rw [dq 8 [16,17,18,19,20,21,22,23]]
   simp only [F7]
   rw [gQ hV 5 21 v]
   rw [gQ hV 6 22 (.int .i64 (n : Int))]
   rw [gQ hV 7 23 (.int .i64 0)]
   clear hV
   refine wpList_nil ?_
   clear HV
   go_wp2_with fail
   rw [show (decide ((k : Int) < 3)) = true from decide_eq_true (by omega)]
   go_loopw [23] (fun q wr => ∃ (i : Nat), i ≤ n ∧ q = .int .i64 (i : Int) ∧ Hid (∀ x ∈ L.take i, (removeM t j x.2).2.1 = false) ∧ Kept wo wr) (fun q _ => n - (intOf q).toNat)
   case atStart => exact ⟨0, Nat.zero_le _, rfl, by intro x hx; simp at hx, k1⟩
   case round =>
    obtain ⟨i, hi, rfl, HM, hkr2⟩ := hrel
    by_cases hlt : i < n
    ·obtain ⟨gs, os, c, rfl⟩ := HSL.out.some_ (by omega)
     obtain ⟨z, hz⟩ : ∃ z, Z[i]? = some z := ⟨Z[i]'(by rw [HN.out]; omega), List.getElem?_eq_getElem (by rw [HN.out]; omega)⟩
     obtain ⟨q, pr, X⟩ := z
     have HC := Lib.hid ((HW.out.kept hkr2).cell hz)
     have HZ := Lib.hid (split_at hz)
     have HLV := Lib.hid ((HW.out.kept hkr2).lv (q, pr, X) (List.mem_of_getElem? hz))
     have HX := Lib.hid (HL.out.one (l := (pr, X)) (by rw [← EL.out]; exact levs_mem (List.mem_of_getElem? hz)))
     have HA : Hid (L[i]? = some (pr, X)) := by show _ = _; rw [← EL.out]; exact levs_at hz
     clear hz
     go_upto_region 6 with fail
     refine wp_text 3 [iE (i : Int), pE gs (os + i * 1), pE q 0] rfl (by kernel_rfl) ?_ ?_
     ·refine mE 1 23 ?_
      refine sW 2 rfl (fun a u E D hk=>exec_ixo slQR _ _ (gs) (os) n c i (os + i * 1) ((i : Int)) rfl (eE E) (eE E) (by first | rfl | omega) (hlt) (by first | rfl | omega)) ?_
      refine sW 3 rfl (fun a u E D hk=>exec_ldp _ _ Try.underlying87 _ _ _ rfl (dD D 1) (Kept.cell hk (HC.out))) ?_
      exact fz
     intro gv w1 hV k2
     rw [dq 3 [25,26,27]]
     simp only [F7]
     rw [gQ hV 0 25 (.int .i64 (i : Int))]
     rw [gQ hV 2 27 (.pointer (some ⟨q, 0, none⟩))]
     clear hV
     refine l_val (.int .i64 (i : Int)) rfl (exec_assign _ _ rfl (by kernel_rfl)) ?_
     simp only [Act.put, sA, sS, sZ]
     refine l_val (.pointer (some ⟨q, 0, none⟩)) rfl (exec_assign _ _ rfl (by kernel_rfl)) ?_
     simp only [Act.put, sA, sS, sZ]
     refine wpList_nil ?_
     have HLV1 := Lib.hid (HLV.out.kept k2)
     have kw1 := hkr2.trans k2
     clear HC HLV k2
     obtain ⟨b, hb⟩ : ∃ b, (removeM t j X).2.1 = b := ⟨_, rfl⟩
     obtain ⟨e, he⟩ : ∃ e, (removeM t j X).1 = e := ⟨_, rfl⟩
     have HBB := Lib.hid hb
     have HEE := Lib.hid he
     clear hb he
     go_upto_region 7 with fail
     refine wp_text 3 [pE q 0, iE t, iE j] rfl (by kernel_rfl) ?_ ?_
     ·refine mE 1 10 ?_
      refine mE 2 1 ?_
      refine mE 3 2 ?_
      exact fz
     intro gv w2 hV k2
     rw [dq 3 [29,30,31]]
     simp only [F7]
     rw [gQ hV 0 29 (.pointer (some ⟨q, 0, none⟩))]
     rw [gQ hV 1 30 (.int .i64 t)]
     rw [gQ hV 2 31 (.int .i64 j)]
     clear hV
     refine l_call 53 #[.pointer (some ⟨q, 0, none⟩), .int .i64 t, .int .i64 j] rfl (exec_call 53 _ [.tmp 29, .tmp 30, .tmp 31] _ _ Try.func53 (by kernel_rfl) (by kernel_rfl) rfl (by kernel_rfl) _) ?_
     refine (rremove2_any w2 _ q X t j (HLV1.out.kept k2) (by have := HX.out; simp only at this; omega)).mono ?_
     rintro r w3 ⟨Gq, rfl, hl3, hg3, hk3, hq3⟩
     refine ⟨.tuple #[e.v, .bool b], by rw [HBB.out, HEE.out], ?_⟩
     rw [HBB.out] at hq3
     simp only [Act.put, sA, sS, sZ]
     refine l_val (.tuple #[e.v, .bool b]) rfl (exec_move _ _ rfl (by kernel_rfl)) ?_
     simp only [Act.put, sA, sS, sZ]
     refine l_val (e.v) rfl (exec_extract (.tmp 28) [e.v, .bool b] 0 (e.v) rfl (by kernel_rfl) rfl) ?_
     simp only [Act.put, sA, sS, sZ]
     refine l_val (.bool b) rfl (exec_extract (.tmp 28) [e.v, .bool b] 1 (.bool b) rfl (by kernel_rfl) rfl) ?_
     simp only [Act.put, sA, sS, sZ]
     refine l_new (.pointer (some ⟨w3.heap.size, 0, none⟩)) (w3.alloc (.cells zeroO.cells.toArray 25)) rfl (exec_alc 25 zeroO.cells rfl zO) ?_
     have hNw4 := Blk.new w3 25 zeroO.cells
     have kw4 : Kept w3 (w3.alloc (.cells zeroO.cells.toArray 25)) := (Keep.refl _ w3).alloc _
     generalize w3.alloc (.cells zeroO.cells.toArray 25) = w4 at hNw4 kw4 ⊢
     simp only [Act.put, sA, sS, sZ]
     refine l_setS 25 w3.heap.size 25 zeroO.cells e.cells _ _ rfl rfl (by kernel_rfl) (by kernel_rfl) hNw4 (by rw [Ord.len9]; exact ord_size) (by rw [Ord.len9, Ord.len9]) (Ord.one1 _) ?_
     intro w5 hB5 hk5 hs5
     simp only [Act.put]
     refine l_val (.bool b) rfl (exec_assign _ _ rfl (by kernel_rfl)) ?_
     simp only [Act.put, sA, sS, sZ]
     refine wpList_nil ?_
     obtain ⟨b11, hb11⟩ : ∃ x, w3.heap.size = x := ⟨_, rfl⟩
     rw [hb11] at hNw4 hB5 hk5 ⊢
     have l11 := hB5.lt
     have K35 : Kept w3 w5 := kw4.trans' hk5 (by omega)
     have kw2 := kw1.trans k2
     have HL3 := Lib.hid hl3
     have HG3 := Lib.hid hg3
     have HK3 := Lib.hid hk3
     have HQ3 := Lib.hid hq3
     have HB11 := Lib.hid (blk_range hB5)
     have z2 := kw2.size
     have z3 := hk3.size
     have z5 := K35.size
     clear hl3 hk3 hq3 hg3 HLV1 k2 kw1 hNw4 hB5 hk5 hs5 kw4
     cases b with
     | true =>
      obtain ⟨h12, hB, hFs, hJ⟩ := HOP.out (by rw [HN.out]; omega)
      obtain ⟨X', hX'⟩ : ∃ y, (removeM t j X).2.2 = y := ⟨_, rfl⟩
      have HXe := Lib.hid hX'
      rw [hX'] at HL3
      have hXl : X'.length ≤ 64 := by
       have h1 := HX.out
       simp only at h1
       rw [← hX']
       unfold removeM
       split
       ·exact h1
       ·simp only
        rw [List.length_eraseIdx]
        split <;> omega
      have HR : Hid (removeL t j L = (e, true, dropE (levs (Z.take i)) (levs (Z.drop (i + 1))) (pr, X'))) := by
       show _ = _
       have e1 : L = levs (Z.take i) ++ (pr, X) :: levs (Z.drop (i + 1)) := by
        rw [← EL.out]
        conv => lhs; rw [HZ.out]
        rw [levs_append, levs_cons]
       have e2 : L.take i = levs (Z.take i) := by rw [← EL.out]; simp [levs, List.map_take]
       rw [e2] at HM
       conv => lhs; rw [e1]
       rw [removeL_at HM.out HBB.out, HEE.out, HXe.out]
      have HS : Hid (B.remove t j = (e, true, B.to (k : Int) (dropE (levs (Z.take i)) (levs (Z.drop (i + 1))) (pr, X')) B.last B.no)) := remove_side h12 HNO.out (by rw [HLe.out]; exact HR.out)
      obtain ⟨Fs', G', hW', hG', hk', _⟩ := WayZ.turn (A := Z.take i) (R := Z.drop (i + 1)) (q := q) (pr := pr) (X := X) (by rw [← HZ.out]; exact HW.out.kept kw2) HK3.out HL3.out HG3.out
      have K3 : Keep (fun b => Fs b ∨ b = p) wo w3 := (Keep.mono (T := fun b => Fs b ∨ b = p) kw2 (fun _ _ h => h.elim)).trans hk' (fun b _ hb => .inl hb)
      have hB3 := (hB.kept kw2).keep hk' (fun h => (hFs p h).2 rfl)
      obtain ⟨F', q1, q2, q3, _⟩ := hJ w3 _ _ _ _ _ K3 hB3 ⟨_, _, rfl, hW'⟩ (hG'.wide kw2.size)
      have h6F' : ¬ F' b6 := fun h => (q2 b6 h).elim h6F (fun h => by omega)
      have h11F' : ¬ F' b11 := fun h => by have := q1.lt b11 h; omega
      have Q5 := Lib.hid (q1.kept K35)
      have HB65 : Hid (Blk w5 b6 25 zeroO.cells) := (HB6o.out.keep q3 h6F).kept K35
      have g5 : Grow w F F' := q2.wide (by omega)
      have k5 : Keep F w w5 := ((Keep.mono (T := F) (kz.trans hkr) (fun _ _ h => h.elim)).trans q3 (fun _ _ h => h)).kept K35
      obtain ⟨_, _, vq, hq1, hq2, _⟩ := HL3.out.kept K35
      have HQ := Lib.hid (hq1.cell 1)
      have HQS := Lib.hid hq2
      have hli : (levs (Z.take i)).length = i := by rw [levs_len, List.length_take, HN.out]; omega
      have HLI := Lib.hid hli
      have hl2 : (levs (Z.drop (i + 1))).length = n - (i + 1) := by rw [levs_len, List.length_drop, HN.out]
      have HLJ := Lib.hid hl2
      obtain ⟨A, hA⟩ : ∃ y, levs (Z.take i) = y := ⟨_, rfl⟩
      obtain ⟨R, hR⟩ : ∃ y, levs (Z.drop (i + 1)) = y := ⟨_, rfl⟩
      have hLS : levs (Z.take i ++ (q, pr, X') :: Z.drop (i + 1)) = A ++ (pr, X') :: R := by rw [levs_append, levs_cons, hA, hR]
      rw [hLS] at Q5
      rw [hA, hR] at HS HR
      rw [hA] at HLI
      rw [hR] at HLJ
      clear HL3 HK3 HQ3 HG3 hW' hG' hk' K3 hB3 hB q1 q2 q3 hJ hFs hq1 hq2 hA hR hLS hli hl2 HZ HM hX' HXe HR HB6o HB6 HSL
      go_upto_region 9 with fail
      by_cases hem : X'.length = 0
      ·skip
       refine wp_text 6 [pE q 0, pE q 0, pE q 1, .eq (vq), iE (X'.length : Int), bE true] rfl (by kernel_rfl) ?_ ?_
       ·refine mE 1 10 ?_
        refine nD 2 36 0 ?_
        refine fD 3 37 1 86 1 1 0 ?_
        refine sW 4 rfl (fun a u E D hk=>exec_ldv _ _ Try.underlying84 _ _ _ rfl (dD D 2) (Kept.cell hk (HQ.out))) ?_
        refine sW 5 rfl (fun a u E D hk=>exec_lenS _ slR _ _ _ _ rfl (dD D 3) HQS.out) ?_
        refine aS 6 rfl (fun a u E D hk=>exec_eqn rfl (dD D 4) rfl) (decide_eq_true (by omega)) ?_
        exact fz
       intro gv w6 hV k6
       rw [dq 6 [36,37,38,39,40,41]]
       simp only [F7]
       rw [gQ hV 5 41 (.bool true)]
       clear hV
       refine wpList_nil ?_
       have HS2 : Hid (B.remove t j = (e, true, B.to (k : Int) (A ++ R) B.last B.no)) := by
        show _ = _
        rw [HS.out]
        unfold dropE
        rw [if_pos (by rw [List.eq_nil_of_length_eq_zero hem]; rfl)]
       clear HS
       have HS := HS2
       have hs12 : (k : Int) = 1 ∨ (k : Int) = 2 := by omega
       obtain ⟨v1, u1, Z1, G1, Fs1, e1, hW1, hB1, hFs1, hp1, hlt1, hJ1⟩ := (Q5.out.kept k6).open_ hs12
       rw [Bok.to_sd hs12] at e1
       have hZ1 : Z1.length = n := by
        have := congrArg List.length e1
        rw [levs_len, List.length_append, List.length_cons, HLI.out, HLJ.out] at this
        omega
       have HS6 := Lib.hid hW1.sl
       rw [hZ1] at HS6
       have HV6 := Lib.hid (rsd_cell h12 hB1)
       have HB1 := Lib.hid hB1
       have HW1 := Lib.hid hW1
       have HJ1 := Lib.hid hJ1
       have HF1 := Lib.hid hFs1
       have E1 := Lib.hid e1
       have HZ1 := Lib.hid hZ1
       have H66 := Lib.hid (HB65.out.kept k6)
       have HB116 := Lib.hid (range_kept HB11.out k6)
       have K6 := k5.kept k6
       have z6 := k6.size
       have hpl := hlt1 p hp1
       obtain ⟨va, hva, hoa, hsa⟩ := slice_hS slQR _ n i (by omega) _ w6 HS6.out
       obtain ⟨vb, hvb, hob, hsb⟩ := slice_lS slQR _ n (i + 1) (by omega) _ w6 HS6.out
       have HVA := Lib.hid hva
       have HVB := Lib.hid hvb
       have HSA : Hid (∀ u, Kept w6 u → Sl u 87 1 va i (ptrs (Z1.take i))) := fun u hk => by
        have := hsa u _ (HS6.out.kept hk)
        rwa [ptrs_take] at this
       have HSB : Hid (∀ u, Kept w6 u → Sl u 87 1 vb (n - (i + 1)) (ptrs (Z1.drop (i + 1)))) := fun u hk => by
        have := hsb u _ (HS6.out.kept hk)
        rwa [ptrs_drop] at this
       have hcast : ((i + 1 : Nat) : Int) = (i : Int) + 1 := by omega
       rw [hcast] at HVB
       clear hva hoa hsa hvb hob hsb hB1 hW1 hJ1 hFs1 hlt1 e1 hZ1 Q5 HB65 HB11
       go_upto_region 10 with fail
       refine wp_freeQ 24 21 (fun i_ : Nat => i_ == 0 || i_ == 1 || i_ == 22 || i_ == 23) [.eq (.pointer (some ⟨p, 0, none⟩)), .eq (.int .i64 (k : Int)), .emp w6.heap.size 87, .eq (.pointer (some ⟨p, 0, none⟩)), .eq (.int .i64 (k : Int)), .eq (.pointer (some ⟨p, 0, none⟩)), .eq (.pointer (some ⟨p, 0, none⟩)), .eq (.pointer (some ⟨p, 0 + k * 1, none⟩)), .eq (v1), .eq (.int .i64 (i : Int)), .eq (va), .sl w6.heap.size 87 1 i (ptrs (Z1.take i)), .eq (.pointer (some ⟨p, 0, none⟩)), .eq (.int .i64 (k : Int)), .eq (.pointer (some ⟨p, 0, none⟩)), .eq (.pointer (some ⟨p, 0, none⟩)), .eq (.pointer (some ⟨p, 0 + k * 1, none⟩)), .eq (v1), .eq (.int .i64 (i : Int)), .eq (.int .i64 ((i : Int) + 1)), .eq (vb), .any, .eq (.pointer (some ⟨p, 0, none⟩)), .eq (.pointer (some ⟨p, 0, none⟩))] (fun i_ : Nat => if i_ = 0 then .pointer (some ⟨p, 0, none⟩) else if i_ = 1 then .int .i64 (k : Int) else if i_ = 22 then .pointer (some ⟨p, 0, none⟩) else if i_ = 23 then .pointer (some ⟨p, 0, none⟩) else undef) ((fun v' u u' => Sl u' 87 1 v' (i + (n - (i + 1))) (ptrs (Z1.take i) ++ ptrs (Z1.drop (i + 1))) ∧ (∀ b, v'.ownBlock = some b → w6.heap.size ≤ b) ∧ Keep (fun b => w6.heap.size ≤ b) u u')) (by kernel_rfl) rfl (fun i_ hi_ hs_ => by have h_ : i_ = 0 ∨ i_ = 1 ∨ i_ = 22 ∨ i_ = 23 := (by simp at hs_; omega); rcases h_ with rfl | rfl | rfl | rfl <;> rfl) (by kernel_rfl) (by kernel_rfl) (by kernel_rfl) (fun i_ hi_ hs_ => by have h_ : i_ = 0 ∨ i_ = 1 ∨ i_ = 22 ∨ i_ = 23 := (by simp at hs_; omega); rcases h_ with rfl | rfl | rfl | rfl; exact (fun a u hE hD => qs_val (o := ⟨some 42, _, _, _, _, _⟩) (.pointer (some ⟨p, 0, none⟩)) rfl (wanted_none rfl _) (exec_move (.tmp 0) _ rfl (eE hE))); exact (fun a u hE hD => qs_val (o := ⟨some 43, _, _, _, _, _⟩) (.int .i64 (k : Int)) rfl (wanted_none rfl _) (exec_move (.tmp 8) _ rfl (eE hE))); exact (fun a u hE hD => qs_val (o := ⟨some 64, _, _, _, _, _⟩) (.pointer (some ⟨p, 0, none⟩)) rfl (wanted_none rfl _) (exec_nilp (.tmp 42) ⟨p, 0, none⟩ rfl (dD hD 0))); exact (fun a u hE hD => qs_val (o := ⟨some 65, _, _, _, _, _⟩) (.pointer (some ⟨p, 0, none⟩)) rfl (wanted_none rfl _) (exec_fldo 46 0 0 (.tmp 64) (p) (0) (0) rfl (dD hD 22) (by kernel_rfl) rfl))) ?_ (fun a u hE hD hk =>  (by obtain ⟨v', u', hr, hs', hk', ho'⟩ := run_append_sl slQR _ u (a.eval (.tmp 53)) vb i (n - (i + 1)) _ _ ((hD 11 53 (by kernel_rfl))).1 (HSB.out u hk) (ptrs_one _) (by unfold maxLen; omega) (by omega); have hq := ((hD 11 53 (by kernel_rfl))).2; exact t_last (o := ⟨some 63, _, _, _, _, _⟩) (R := (fun v' u u' => Sl u' 87 1 v' (i + (n - (i + 1))) (ptrs (Z1.take i) ++ ptrs (Z1.drop (i + 1))) ∧ (∀ b, v'.ownBlock = some b → w6.heap.size ≤ b) ∧ Keep (fun b => w6.heap.size ≤ b) u u')) (m := 21) (v := v') (w' := u') rfl (wanted_none rfl _) (exec_appS slQR (.tmp 53) (.tmp 62) _ vb rfl rfl (dD hD 20) v' u' hr) ⟨hs', fun b hb => (ho' b hb).elim (hq b) (fun h => Nat.le_trans hk.size h), hk'.mono (fun b _ hb => hq b hb)⟩)) ?_
       ·refine qsteps_skip 1 rfl (by first | exact .inl rfl | exact .inr rfl) ?_
        refine qsteps_skip 2 rfl (by first | exact .inl rfl | exact .inr rfl) ?_
        refine qsteps_cons 3 rfl (fun a u hE hD hk => f_new (.slice (some ⟨u.heap.size, 0, none⟩) 0 0) _ rfl (wanted_none rfl _) (exec_none 43 87 1 rfl slQR.und (by kernel_rfl)) ⟨_, rfl, hk.size, Blk.new u _ _⟩ ((Keep.refl _ u).alloc _)) ?_
        refine qsteps_cons 4 rfl (fun a u hE hD hk => f_val _ rfl (wanted_none rfl _) (exec_move (.tmp 0) _ rfl (eE hE)) rfl) ?_
        refine qsteps_cons 5 rfl (fun a u hE hD hk => f_val _ rfl (wanted_none rfl _) (exec_move (.tmp 8) _ rfl (eE hE)) rfl) ?_
        refine qsteps_cons 6 rfl (fun a u hE hD hk => f_val _ rfl (wanted_none rfl _) (exec_nilp (.tmp 45) ⟨p, 0, none⟩ rfl (dD hD 3)) rfl) ?_
        refine qsteps_cons 7 rfl (fun a u hE hD hk => f_val _ rfl (wanted_none rfl _) (exec_fldo 46 0 0 (.tmp 47) (p) (0) (0) rfl (dD hD 5) (by kernel_rfl) rfl) rfl) ?_
        refine qsteps_cons 8 rfl (fun a u hE hD hk => f_val _ rfl (wanted_none rfl _) (exec_elem 44 43 3 1 (.tmp 48) (.tmp 46) p 0 k rfl Try.underlying44 (by kernel_rfl) (dD hD 6) (dD hD 4) (by omega)) rfl) ?_
        refine qsteps_cons 9 rfl (fun a u hE hD hk => f_val _ rfl (wanted_none rfl _) (exec_ldv 43 _ Try.underlying43 (.tmp 49) ⟨p, 0 + k * 1, none⟩ (v1) rfl (dD hD 7) (Kept.cell hk (HV6.out))) rfl) ?_
        refine qsteps_cons 10 rfl (fun a u hE hD hk => f_val _ rfl (wanted_none rfl _) (exec_move (.tmp 9) _ rfl (eE hE)) rfl) ?_
        refine qsteps_cons 11 rfl (fun a u hE hD hk => f_val _ rfl (wanted_none rfl _) (exec_slcH slQR (.tmp 50) (.tmp 51) _ va _ rfl (dD hD 8) (dD hD 9) (HVA.out u)) rfl) ?_
        refine qsteps_cons 12 rfl (fun a u hE hD hk => (by obtain ⟨v', u', hr, hp, hkk⟩ := run_append_emp slQR _ u (a.eval (.tmp 44)) va i w6.heap.size _ ((dD hD 2)) (HSA.out u hk) (ptrs_one _) (by omega) (by omega) hk.size; exact f_new v' u' rfl (wanted_none rfl _) (exec_appS slQR (.tmp 44) (.tmp 52) _ va rfl rfl (dD hD 10) v' u' hr) hp hkk)) ?_
        refine qsteps_cons 13 rfl (fun a u hE hD hk => f_val _ rfl (wanted_none rfl _) (exec_move (.tmp 0) _ rfl (eE hE)) rfl) ?_
        refine qsteps_cons 14 rfl (fun a u hE hD hk => f_val _ rfl (wanted_none rfl _) (exec_move (.tmp 8) _ rfl (eE hE)) rfl) ?_
        refine qsteps_cons 15 rfl (fun a u hE hD hk => f_val _ rfl (wanted_none rfl _) (exec_nilp (.tmp 54) ⟨p, 0, none⟩ rfl (dD hD 12)) rfl) ?_
        refine qsteps_cons 16 rfl (fun a u hE hD hk => f_val _ rfl (wanted_none rfl _) (exec_fldo 46 0 0 (.tmp 56) (p) (0) (0) rfl (dD hD 14) (by kernel_rfl) rfl) rfl) ?_
        refine qsteps_cons 17 rfl (fun a u hE hD hk => f_val _ rfl (wanted_none rfl _) (exec_elem 44 43 3 1 (.tmp 57) (.tmp 55) p 0 k rfl Try.underlying44 (by kernel_rfl) (dD hD 15) (dD hD 13) (by omega)) rfl) ?_
        refine qsteps_cons 18 rfl (fun a u hE hD hk => f_val _ rfl (wanted_none rfl _) (exec_ldv 43 _ Try.underlying43 (.tmp 58) ⟨p, 0 + k * 1, none⟩ (v1) rfl (dD hD 16) (Kept.cell hk (HV6.out))) rfl) ?_
        refine qsteps_cons 19 rfl (fun a u hE hD hk => f_val _ rfl (wanted_none rfl _) (exec_move (.tmp 9) _ rfl (eE hE)) rfl) ?_
        refine qsteps_cons 20 rfl (fun a u hE hD hk => f_val _ rfl (wanted_none rfl _) (exec_addn ((i : Int) + 1) rfl (dD hD 18) rfl rfl (by omega) (by omega)) rfl) ?_
        refine qsteps_cons 21 rfl (fun a u hE hD hk => f_val _ rfl (wanted_none rfl _) (exec_slcL slQR (.tmp 59) (.tmp 61) _ vb _ rfl (dD hD 17) (dD hD 19) (HVB.out u)) rfl) ?_
        refine qsteps_skip 22 rfl (by first | exact .inl rfl | exact .inr rfl) ?_
        refine qsteps_skip 23 rfl (by first | exact .inl rfl | exact .inr rfl) ?_
        refine qsteps_skip 24 rfl (by first | exact .inl rfl | exact .inr rfl) ?_
        exact qsteps_nil
       intro gv w1 w7 hV h0 hR hk1
       rw [dq 24 [42,43,44,45,46,47,48,49,50,51,52,53,54,55,56,57,58,59,60,61,62,63,64,65]]
       simp only [F7]
       have hT := hR 63 (by kernel_rfl)
       generalize gv 63 = v63 at hT ⊢
       rw [show gv 42 = .pointer (some ⟨p, 0, none⟩) from h0 0 (by omega) rfl 42 (by kernel_rfl)]
       rw [show gv 43 = .int .i64 (k : Int) from h0 1 (by omega) rfl 43 (by kernel_rfl)]
       rw [show gv 64 = .pointer (some ⟨p, 0, none⟩) from h0 22 (by omega) rfl 64 (by kernel_rfl)]
       rw [show gv 65 = .pointer (some ⟨p, 0, none⟩) from h0 23 (by omega) rfl 65 (by kernel_rfl)]
       clear hV h0 hR
       obtain ⟨hs7, ho7, hk7⟩ := hT
       have k67 := late_kept hk1 hk7 (Nat.le_refl _)
       have hB7 := HB1.out.kept k67
       refine l_val (.pointer (some ⟨p, 0 + k * 1, none⟩)) rfl (exec_elem 44 43 3 1 (.tmp 65) (.tmp 43) p 0 k rfl Try.underlying44 (by kernel_rfl) rfl rfl (by omega)) ?_
       simp only [Act.put, sA, sS, sZ]
       refine l_st1 43 p (0 + k * 1) 46 _ v63 _ _ rfl rfl (by kernel_rfl) (by kernel_rfl) (by kernel_rfl) (sl_cells hs7) (sl_onec hs7) hB7 (by rw [rsd_len h12]; omega) ?_
       intro w8 hB8 hk8 hs8
       simp only [Act.put]
       refine wpList_nil ?_
       rw [rsd_set h12] at hB8
       have hsl : Sl w7 87 1 v63 (Z1.take i ++ Z1.drop (i + 1)).length (ptrs (Z1.take i ++ Z1.drop (i + 1))) := by
        rw [ptrs_append]
        rw [List.length_append, List.length_take, List.length_drop, HZ1.out, Nat.min_eq_left (by omega)]
        exact hs7
       have hk68 : Keep (fun b => Fs1 b ∨ b = p) w6 w8 := (Keep.mono (T := fun b => Fs1 b ∨ b = p) k67 (fun _ _ h => h.elim)).trans hk8 (fun b _ e' => .inr e')
       obtain ⟨Fs2, hW2, hG2, _, _⟩ := HW1.out.fewer (w' := w7) (Z' := Z1.take i ++ Z1.drop (i + 1)) (v' := v63) (by rw [← List.eraseIdx_eq_take_drop_succ]; exact List.eraseIdx_sublist _ _) (Keep.mono k67 (fun _ _ h => h.elim)) hsl (fun b hb => .inr (ho7 b hb))
       have hW3 := hW2.keep hk8 (fun b hb e' => (hG2 b hb).elim (fun h => (HF1.out b h).2 e') (fun h => by have e2 : b = p := e'; omega))
       have hLv : levs (Z1.take i ++ Z1.drop (i + 1)) = A ++ R := by
        have a1 : levs (Z1.take i) = A := by
         have : levs (Z1.take i) = (levs Z1).take i := by simp [levs, List.map_take]
         rw [this, E1.out, List.take_append_of_le_length (by have := HLI.out; omega), List.take_of_length_le (by have := HLI.out; omega)]
        have a2 : levs (Z1.drop (i + 1)) = R := by
         have : levs (Z1.drop (i + 1)) = (levs Z1).drop (i + 1) := by simp [levs, List.map_drop]
         rw [this, E1.out, ← HLI.out, drop_past]
        rw [levs_append, a1, a2]
       obtain ⟨F2, q1, q2, q3, _⟩ := HJ1.out w8 _ _ _ _ _ hk68 hB8 ⟨_, _, rfl, hW3⟩ hG2
       rw [hLv, Bok.to_to hs12] at q1
       have Q8 := Lib.hid q1
       have z67 := k67.size
       have hF2 : ¬ F2 b6 := fun h => (q2 b6 h).elim h6F' (fun h => by omega)
       have hb6p : b6 ≠ p := fun e' => h6F' (by rw [e']; exact hp1)
       have hb11p : b11 ≠ p := fun e' => h11F' (by rw [e']; exact hp1)
       have HB118 := Lib.hid (range_keep (range_kept HB116.out k67) hk8 hb11p)
       have H68 := Lib.hid ((H66.out.kept k67).keep hk8 hb6p)
       have g8 : Grow w F F2 := g5.trans q2 (by omega)
       have K8 : Keep F w w8 := Keep.trans K6 q3 (fun b hb h => (g5 b h).elim id (fun h => by omega))
       have z8 := q3.size
       clear hs7 ho7 hk7 hk1 k67 hB7 hB8 hk8 hs8 hsl hk68 hW2 hG2 hW3 q1 q2 q3 HVA HVB HSA HSB HB116 H66
       go_upto_region 11 with fail
       refine wp_text 1 [.eq (e.v)] rfl (by kernel_rfl) ?_ ?_
       ·refine sW 1 rfl (fun a u E D hk=>exec_ldS 25 _ _ (b11) (0) (e.cells) rfl (eE E) (range_kept HB118.out hk) Try.underlying25 (by rw [e.len9]; exact ord_size)) ?_
        exact fz
       intro gv wy hV ky
       rw [dq 1 [67]]
       simp only [F7]
       rw [gQ hV 0 67 e.v]
       clear hV
       refine l_setS 25 b6 25 zeroO.cells e.cells _ _ rfl rfl (by kernel_rfl) (by kernel_rfl) (H68.out.kept ky) (by rw [Ord.len9]; exact ord_size) (by rw [Ord.len9, Ord.len9]) (Ord.one1 _) ?_
       intro wv hBv hkv hsv
       simp only [Act.put]
       refine l_val (.bool true) rfl (exec_assign _ _ rfl (by kernel_rfl)) ?_
       simp only [Act.put, sA, sS, sZ]
       refine wpList_nil ?_
       go_wp2
       refine bodyPost_ret (results_cell2 (p := 6) (q := 7) rfl _ _ b6 _ e.cells true rfl rfl hBv Try.underlying25 (by rw [Ord.len9]; exact ord_size)) rfl ?_
       rw [HS.out]
       exact ⟨rfl, F2, (Q8.out.kept ky).keep hkv (fun b hb e' => hF2 (by have e2 : b = b6 := e'; rw [← e2]; exact hb)), g8, (K8.kept ky).new hkv (by omega)⟩
      ·skip
       refine wp_text 6 [pE q 0, pE q 0, pE q 1, .eq (vq), iE (X'.length : Int), bE false] rfl (by kernel_rfl) ?_ ?_
       ·refine mE 1 10 ?_
        refine nD 2 36 0 ?_
        refine fD 3 37 1 86 1 1 0 ?_
        refine sW 4 rfl (fun a u E D hk=>exec_ldv _ _ Try.underlying84 _ _ _ rfl (dD D 2) (Kept.cell hk (HQ.out))) ?_
        refine sW 5 rfl (fun a u E D hk=>exec_lenS _ slR _ _ _ _ rfl (dD D 3) HQS.out) ?_
        refine aS 6 rfl (fun a u E D hk=>exec_eqn rfl (dD D 4) rfl) (decide_eq_false (by omega)) ?_
        exact fz
       intro gv w6 hV k6
       rw [dq 6 [36,37,38,39,40,41]]
       simp only [F7]
       rw [gQ hV 5 41 (.bool false)]
       clear hV
       refine wpList_nil ?_
       have HS2 : Hid (B.remove t j = (e, true, B.to (k : Int) (A ++ (pr, X') :: R) B.last B.no)) := by
        show _ = _
        rw [HS.out]
        unfold dropE
        rw [if_neg (by cases X' with | nil => exact absurd rfl hem | cons a b => simp)]
       clear HS
       have HS := HS2
       have Q6 := Lib.hid (Q5.out.kept k6)
       have H66 := Lib.hid (HB65.out.kept k6)
       have HB116 := Lib.hid (range_kept HB11.out k6)
       have K6 := k5.kept k6
       have z6 := k6.size
       go_upto_region 11 with fail
       refine wp_text 1 [.eq (e.v)] rfl (by kernel_rfl) ?_ ?_
       ·refine sW 1 rfl (fun a u E D hk=>exec_ldS 25 _ _ (b11) (0) (e.cells) rfl (eE E) (range_kept HB116.out hk) Try.underlying25 (by rw [e.len9]; exact ord_size)) ?_
        exact fz
       intro gv wy hV ky
       rw [dq 1 [67]]
       simp only [F7]
       rw [gQ hV 0 67 e.v]
       clear hV
       refine l_setS 25 b6 25 zeroO.cells e.cells _ _ rfl rfl (by kernel_rfl) (by kernel_rfl) (H66.out.kept ky) (by rw [Ord.len9]; exact ord_size) (by rw [Ord.len9, Ord.len9]) (Ord.one1 _) ?_
       intro wv hBv hkv hsv
       simp only [Act.put]
       refine l_val (.bool true) rfl (exec_assign _ _ rfl (by kernel_rfl)) ?_
       simp only [Act.put, sA, sS, sZ]
       refine wpList_nil ?_
       go_wp2
       refine bodyPost_ret (results_cell2 (p := 6) (q := 7) rfl _ _ b6 _ e.cells true rfl rfl hBv Try.underlying25 (by rw [Ord.len9]; exact ord_size)) rfl ?_
       rw [HS.out]
       exact ⟨rfl, F', (Q6.out.kept ky).keep hkv (fun b hb e' => h6F' (by have e2 : b = b6 := e'; rw [← e2]; exact hb)), g5, (K6.kept ky).new hkv (by omega)⟩
     | false =>
      have kw3 := (kw2.trans (HQ3.out rfl)).trans K35
      have HM1 : Hid (∀ x ∈ L.take (i + 1), (removeM t j x.2).2.1 = false) := by
       intro x hx
       rw [List.take_add_one, HA.out] at hx
       rcases List.mem_append.1 hx with hx | hx
       ·exact HM.out x hx
       ·simp at hx
        subst hx
        exact HBB.out
      clear HL3 HK3 HQ3 HM HG3 K35
      go_wp2
      exact ⟨⟨i + 1, by omega, by go_num, HM1, kw3⟩, by simp [intOf]; omega⟩
    ·have HN4 : Hid (∀ s : Nat, s < k + 1 → (removeL t j (B.sd (s : Int))).2.1 = false) := by
      intro s hs
      by_cases hsk : s = k
      ·subst hsk
       rw [HLe.out, removeL_no fun x hx => HM.out x (by rw [List.take_of_length_le (by rw [← EL.out, levs_len, HN.out]; omega)]; exact hx)]
      ·exact HNO.out s (by omega)
     have kwr := hkr.trans hkr2
     clear HM
     go_wp2
     exact ⟨⟨k + 1, by omega, by go_num, HN4, kwr⟩, by simp [intOf]; omega⟩
  ·have hk' : k = 3 := by omega
   subst hk'
   have HS : Hid (B.remove t j = (zeroO, false, B)) := bremove_none HNO.out
   have HB6r := Lib.hid (HB6.out.kept hkr)
   have zr := hkr.size
   clear HNO
   go_upto_region 14 with fail
   refine wp_text 1 [.eq (zeroO.v)] rfl (by kernel_rfl) ?_ ?_
   ·refine sW 1 rfl (fun a u E D hk=>exec_build 25 [] zeroO.cells rfl (by kernel_rfl)) ?_
    exact fz
   intro gv w4 hV k4
   rw [dq 1 [70]]
   simp only [F7]
   rw [gQ hV 0 70 zeroO.v]
   clear hV
   refine l_setS 25 b6 25 zeroO.cells zeroO.cells _ _ rfl rfl (by kernel_rfl) (by kernel_rfl) (HB6r.out.kept k4) (by rw [Ord.len9]; exact ord_size) rfl (Ord.one1 _) ?_
   intro w5 hB5 hk5 hs5
   simp only [Act.put]
   refine l_val (.bool false) rfl (exec_assign _ _ rfl (by kernel_rfl)) ?_
   simp only [Act.put, sA, sS, sZ]
   refine wpList_nil ?_
   go_wp2
   refine bodyPost_ret (results_cell2 (p := 6) (q := 7) rfl _ _ b6 _ zeroO.cells false rfl rfl hB5 Try.underlying25 (by rw [Ord.len9]; exact ord_size)) rfl ?_
   rw [HS.out]
   exact ⟨F, rfl, ((HBz.out.kept hkr).kept k4).keep hk5 (fun b hb e => h6F (by have e2 : b = b6 := e; rw [← e2]; exact hb)), Grow.refl _ _, ((Keep.mono (T := F) ((kz.trans hkr).trans k4) (fun _ _ h => h.elim))).new hk5 (by omega)⟩
theorem exec_ovl {a : Act} {o : Oper} {u : World} (x y : Operand) (ts : Array TypeId) (g1 off1 l1 c1 g2 off2 l2 c2 : Nat) (T1 T2 : TypeId) (cs1 cs2 : List Value) (hop : o.op = .call { callee := .value (.func 106), args := #[x, y], argTypes := ts }) (hx : a.eval x = .slice (some ⟨g1, off1, none⟩) l1 c1) (hy : a.eval y = .slice (some ⟨g2, off2, none⟩) l2 c2)
  (h1 : Blk u g1 T1 cs1) (h2 : Blk u g2 T2 cs2) (hne : g1 ≠ g2) (h0 : cs2.length ≠ 0) : (execOp a.eval o).run Try.prog u = .ok (.value (.bool false)) u := by
 have hz : ∀ w, (Go.sizeOf 97).run Try.prog w = .ok 1 w := by
  intro w
  obtain ⟨z, hz, hz2, _⟩ := slQ.info
  obtain ⟨i0, hi, hz0, hz1, hzb⟩ := info_parts hz
  simp [Go.sizeOf, typeInfo, hi, hz1]
 have hov : (callFunc 106 #[.slice (some ⟨g1, off1, none⟩) l1 c1, .slice (some ⟨g2, off2, none⟩) l2 c2]).run Try.prog u = .ok (.value (.bool false)) u := by
  rw [run_callFunc_extern Try.func106 (by kernel_rfl) (by kernel_rfl) (by kernel_rfl) (e := Extern.SlicesOverlaps.overlaps #[71, 71] #[4]) (by kernel_rfl),
   Lib.run_overlaps_apart u 71 4 97 slQ.und 1 hz ⟨g1, off1, none⟩ ⟨g2, off2, none⟩ l1 c1 l2 c2 hne T1 T2 cs1.length cs2.length h1.shape h2.shape h0 (h1.frozen _) (h1.frozen _)]
  rfl
 have e : a.eval (.func 106) = .func (.func 106) #[] #[] := rfl
 unfold execOp
 simp only [hop, resolve, invoke, e, List.map_toArray, List.map_cons, List.map_nil, hx, hy, Sem.run_bind]
 simp [Deferred.ofValue, hov]
def insP (Z : Zs) (i : Nat) (q : Nat) : List Value := (ptrs Z).take i ++ [.pointer (some ⟨q, 0, none⟩)] ++ (ptrs Z).drop i
def InsIn (w : World) (v : Value) (n : Nat) (Z : Zs) (i q : Nat) (r : Ending) (w' : World) : Prop := ∃ v', r = .returned v' ∧ Sl w' 97 1 v' (n + 1) (insP Z i q) ∧ Keep (fun b => v.ownBlock = some b) w w' ∧ ∀ b, v'.ownBlock = some b → v.ownBlock = some b ∨ w.heap.size ≤ b
set_option maxRecDepth 100000 in
set_option maxHeartbeats 1600000 in
theorem linsert_end (w : World) (v : Value) (n : Nat) (Z : Zs) (g1 q : Nat) (hS : Sl w 97 1 v n (ptrs Z)) (hn : n ≤ 1000) (h1 : Blk w g1 97 [.pointer (some ⟨q, 0, none⟩)]) :
  Calls Try.prog 92 #[v, .int .i64 (n : Int), .slice (some ⟨g1, 0, none⟩) 1 1] w (InsIn w v n Z n q) := by
 obtain ⟨vx, hvx, _, _⟩ := slice_lS slQ v n n (Nat.le_refl _) _ w hS
 have HVX := Lib.hid hvx
 have HS := Lib.hid hS
 have H1 := Lib.hid h1
 have HX : Hid (∀ u, Kept w u → Sl u 97 1 (.slice (some ⟨g1, 0, none⟩) 1 1) 1 [.pointer (some ⟨q, 0, none⟩)]) := fun u k => ⟨rfl, _, 1, rfl, Nat.le_refl _, by decide, fun h => (by cases h), fun ad had => (by
  injection had with had
  subst had
  exact ⟨g1, 0, _, rfl, h1.kept k, by simp, rfl⟩)⟩
 clear hvx hS h1
 go_enter Try.func92, Try.ntmps92
 go_upto_region 1 with fail
 refine wp_text 3 [.eq (v), iE (n : Int), .eq (vx)] rfl (by kernel_rfl) ?_ ?_
 ·refine mE 1 0 ?_
  refine mE 2 1 ?_
  refine sW 3 rfl (fun a u E D hk=>exec_slcL slQ _ _ v vx _ rfl (dD D 0) (dD D 1) (HVX.out u)) ?_
  exact fz
 intro gv wa hV ka
 rw [dq 3 [10,11,12]]
 simp only [F7]
 clear hV
 refine wpList_nil ?_
 have HSa := Lib.hid (HS.out.kept ka)
 go_upto_region 2 with fail
 refine wp_text 3 [.eq (.slice (some ⟨g1, 0, none⟩) 1 1), iE (1 : Int), iE (1 : Int)] rfl (by kernel_rfl) ?_ ?_
 ·refine mE 1 2 ?_
  refine sW 2 rfl (fun a u E D hk=>exec_len _ _ _ slQ.und (some ⟨g1, 0, none⟩) 1 1 rfl (dD D 0)) ?_
  refine mD 3 14 1 ?_
  exact fz
 intro gv wb hV kb
 rw [dq 3 [13,14,7]]
 simp only [F7]
 rw [gQ hV 2 7 (.int .i64 (1 : Int))]
 clear hV
 refine wpList_nil ?_
 have HSb := Lib.hid (HSa.out.kept kb)
 have kab := ka.trans kb
 clear ka kb HSa HVX
 go_upto_region 5 with fail
 refine wp_text 3 [.eq (v), iE (n : Int), iE (n : Int)] rfl (by kernel_rfl) ?_ ?_
 ·refine mE 1 0 ?_
  refine sW 2 rfl (fun a u E D hk=>exec_lenS _ slQ _ _ _ _ rfl (dD D 0) HSb.out) ?_
  refine mD 3 19 1 ?_
  exact fz
 intro gv wc hV kc
 rw [dq 3 [18,19,8]]
 simp only [F7]
 rw [gQ hV 2 8 (.int .i64 (n : Int))]
 clear hV
 refine wpList_nil ?_
 have kac := kab.trans kc
 have HSc := Lib.hid (HS.out.kept kac)
 clear kab kc HSb
 go_upto_region 6 with fail
 refine wp_text 3 [iE (n : Int), iE (n : Int), bE true] rfl (by kernel_rfl) ?_ ?_
 ·refine mE 1 1 ?_
  refine mE 2 8 ?_
  refine aS 3 rfl (fun a u E D hk=>exec_eqn rfl (dD D 0) (dD D 1)) (decide_eq_true rfl) ?_
  exact fz
 intro gv wd hV kd
 rw [dq 3 [20,21,22]]
 simp only [F7]
 rw [gQ hV 2 22 (.bool true)]
 clear hV
 refine wpList_nil ?_
 have kad := kac.trans kd
 have HSd := Lib.hid (HS.out.kept kad)
 clear kac kd HSc
 go_upto_region 7 with fail
 refine wp_text 2 [.eq (v), .eq (.slice (some ⟨g1, 0, none⟩) 1 1)] rfl (by kernel_rfl) ?_ ?_
 ·refine mE 1 0 ?_
  refine mE 2 2 ?_
  exact fz
 intro gv we hV ke
 rw [dq 2 [23,24]]
 simp only [F7]
 rw [gQ hV 0 23 v]
 rw [gQ hV 1 24 (.slice (some ⟨g1, 0, none⟩) 1 1)]
 clear hV
 have kae := kad.trans ke
 obtain ⟨v4, w4, hr4, hs4, hk4, ho4⟩ := run_append_sl slQ 71 we v (.slice (some ⟨g1, 0, none⟩) 1 1) n 1 _ _ (HSd.out.kept ke) (HX.out _ kae) (by intro u hu; simp at hu; subst hu; rfl) (by unfold maxLen; omega) (by omega)
 refine l_new v4 w4 rfl (exec_appS slQ (.tmp 23) (.tmp 24) v (.slice (some ⟨g1, 0, none⟩) 1 1) rfl (by kernel_rfl) (by kernel_rfl) v4 w4 hr4) ?_
 simp only [Act.put, sA, sS, sZ]
 refine l_val (v4) rfl (exec_assign _ _ rfl (by kernel_rfl)) ?_
 simp only [Act.put, sA, sS, sZ]
 refine wpList_nil ?_
 have zz := kae.size
 have HR : Hid (InsIn w v n Z n q (.returned v4) w4) := by
  refine ⟨v4, rfl, ?_, (Keep.mono (T := fun b => v.ownBlock = some b) kae (fun _ _ h => h.elim)).trans hk4 (fun _ _ h => h), fun b hb => (ho4 b hb).imp id (fun h => by omega)⟩
  have hl : (ptrs Z).length = n := by have := HS.out.len; omega
  unfold insP
  rw [List.take_of_length_le (by omega), List.drop_of_length_le (by omega), List.append_nil]
  exact hs4
 clear hs4 hk4 ho4
 go_wp2
 go_ret
 exact HR.out
set_option maxRecDepth 100000 in
set_option maxHeartbeats 1600000 in
theorem linsert_grow (w : World) (v : Value) (n i : Nat) (Z : Zs) (g1 q : Nat) (hS : Sl w 97 1 v n (ptrs Z)) (hn : n ≤ 1000) (hi : i < n) (h1 : Blk w g1 97 [.pointer (some ⟨q, 0, none⟩)]) (hne : ∀ b, v.ownBlock = some b → b ≠ g1) (hc : ∀ A c, v = .slice A n c → c < n + 1) :
  Calls Try.prog 92 #[v, .int .i64 (i : Int), .slice (some ⟨g1, 0, none⟩) 1 1] w (InsIn w v n Z i q) := by
 have hv0 := hS.some_ (by omega : 0 < n)
 obtain ⟨g, off, c, rfl⟩ := hv0
 obtain ⟨hnc, hcm, _⟩ := hS.cap
 have hcm' : c ≤ 9223372036854775807 := by unfold maxLen at hcm; omega
 have hgg : g ≠ g1 := fun e => hne g rfl e
 have hroom := hc _ _ rfl
 have HS := Lib.hid hS
 clear hc
 have H1 := Lib.hid h1
 have hl : (ptrs Z).length = n := by have := hS.len; omega
 clear hS h1 hne
 go_enter Try.func92, Try.ntmps92
 go_upto_region 1 with fail
 refine wp_text 3 [.eq (.slice (some ⟨g, off, none⟩) n c), iE (i : Int), .eq (.slice (some ⟨g, off + i * 1, none⟩) (n - i) (c - i))] rfl (by kernel_rfl) ?_ ?_
 ·refine mE 1 0 ?_
  refine mE 2 1 ?_
  refine sW 3 rfl (fun a u E D hk=>exec_slcL slQ _ _ _ _ _ rfl (dD D 0) (dD D 1) (run_l slQ g off n c i (by omega) (by omega) u)) ?_
  exact fz
 intro gv wa hV ka
 rw [dq 3 [10,11,12]]
 simp only [F7]
 clear hV
 refine wpList_nil ?_
 go_upto_region 2 with fail
 refine wp_text 3 [.eq (.slice (some ⟨g1, 0, none⟩) 1 1), iE (1 : Int), iE (1 : Int)] rfl (by kernel_rfl) ?_ ?_
 ·refine mE 1 2 ?_
  refine sW 2 rfl (fun a u E D hk=>exec_len _ _ _ slQ.und (some ⟨g1, 0, none⟩) 1 1 rfl (dD D 0)) ?_
  refine mD 3 14 1 ?_
  exact fz
 intro gv wb hV kb
 rw [dq 3 [13,14,7]]
 simp only [F7]
 rw [gQ hV 2 7 (.int .i64 (1 : Int))]
 clear hV
 refine wpList_nil ?_
 have kab := ka.trans kb
 clear ka kb
 go_upto_region 5 with fail
 refine wp_text 3 [.eq (.slice (some ⟨g, off, none⟩) n c), iE (n : Int), iE (n : Int)] rfl (by kernel_rfl) ?_ ?_
 ·refine mE 1 0 ?_
  refine sW 2 rfl (fun a u E D hk=>exec_len _ _ _ slQ.und (some ⟨g, off, none⟩) n c rfl (dD D 0)) ?_
  refine mD 3 19 1 ?_
  exact fz
 intro gv wc hV kc
 rw [dq 3 [18,19,8]]
 simp only [F7]
 rw [gQ hV 2 8 (.int .i64 (n : Int))]
 clear hV
 refine wpList_nil ?_
 have kac := kab.trans kc
 clear kab kc
 go_upto_region 6 with fail
 refine wp_text 3 [iE (i : Int), iE (n : Int), bE false] rfl (by kernel_rfl) ?_ ?_
 ·refine mE 1 1 ?_
  refine mE 2 8 ?_
  refine aS 3 rfl (fun a u E D hk=>exec_eqn rfl (dD D 0) (dD D 1)) (decide_eq_false (by omega)) ?_
  exact fz
 intro gv wd hV kd
 rw [dq 3 [20,21,22]]
 simp only [F7]
 rw [gQ hV 2 22 (.bool false)]
 clear hV
 refine wpList_nil ?_
 have kad := kac.trans kd
 clear kac kd
 go_upto_region 8 with fail
 refine wp_text 6 [iE (n : Int), iE 1, iE (((n : Int) : Int) + (1 : Int)), .eq (.slice (some ⟨g, off, none⟩) n c), iE (c : Int), bE true] rfl (by kernel_rfl) ?_ ?_
 ·refine mE 1 8 ?_
  refine mE 2 7 ?_
  refine sW 3 rfl (fun a u E D hk=>exec_addn (p := ((n : Int))) (q := (1)) (((n : Int) : Int) + (1 : Int)) rfl (dD D 0) (dD D 1) rfl (by omega) (by omega)) ?_
  refine mE 4 0 ?_
  refine sW 5 rfl (fun a u E D hk=>exec_capS _ (some ⟨g, off, none⟩) n c slQ.und rfl (dD D 3)) ?_
  refine aS 6 rfl (fun a u E D hk=>exec_gtn rfl (dD D 2) (dD D 4)) (decide_eq_true (by omega)) ?_
  exact fz
 intro gv we hV ke
 rw [dq 6 [26,27,28,29,30,31]]
 simp only [F7]
 rw [gQ hV 5 31 (.bool true)]
 clear hV
 refine wpList_nil ?_
 have kae := kad.trans ke
 clear kad ke
 have HSe := Lib.hid (HS.out.kept kae)
 have H1e := Lib.hid (H1.out.kept kae)
 have hgl : g < w.heap.size := HS.out.lt rfl
 have hcast : (n : Int) + 1 - (i : Int) = ((n + 1 - i : Nat) : Int) := by omega
 go_upto_region 9 with fail
 refine wp_text 8 [.eq (.slice (some ⟨g, off, none⟩) n c), iE (i : Int), .eq (.slice (some ⟨g, off, none⟩) i c), iE (n : Int), iE 1, iE (((n : Int) : Int) + (1 : Int)), iE (i : Int), iE ((n + 1 - i : Nat) : Int)] rfl (by kernel_rfl) ?_ ?_
 ·refine mE 1 0 ?_
  refine mE 2 1 ?_
  refine sW 3 rfl (fun a u E D hk=>exec_slcH slQ _ _ _ _ _ rfl (dD D 0) (dD D 1) (run_h slQ (some ⟨g, off, none⟩) n c i (by omega) (fun h => by cases h) u)) ?_
  refine mE 4 8 ?_
  refine mE 5 7 ?_
  refine sW 6 rfl (fun a u E D hk=>exec_addn (p := ((n : Int))) (q := (1)) (((n : Int) : Int) + (1 : Int)) rfl (dD D 3) (dD D 4) rfl (by omega) (by omega)) ?_
  refine mE 7 1 ?_
  refine sW 8 rfl (fun a u E D hk=>exec_subn ((n + 1 - i : Nat) : Int) (p := (n : Int) + 1) (q := (i : Int)) rfl (dD D 5) (dD D 6) hcast (by omega) (by omega)) ?_
  exact fz
 intro gv wf hV kf
 rw [dq 8 [32,33,34,35,36,37,38,39]]
 simp only [F7]
 rw [gQ hV 2 34 (.slice (some ⟨g, off, none⟩) i c)]
 rw [gQ hV 7 39 (.int .i64 ((n + 1 - i : Nat) : Int))]
 clear hV
 have kaf := kae.trans kf
 obtain ⟨gn, cn, wg, zs, hrz, hsz, hzl, hkz, hgn⟩ := run_append_zeros slQ Try.underlying3 71 wf (some ⟨g, off, none⟩) i c (n + 1 - i) _ ((HSe.out.kept kf).shrink (m := i) (by omega)) (by omega) (by omega) (by unfold maxLen; omega) (by omega) (by omega)
 have hrz2 : ∀ ty, (Builtin.append_ #[71, 3] ty #[.slice (some ⟨g, off, none⟩) i c, .int .i64 ((n + 1 - i : Nat) : Int)]).run Try.prog wf = .ok (.slice (some ⟨gn, 0, none⟩) (n + 1) cn) wg := fun ty => by rw [show i + (n + 1 - i) = n + 1 by omega] at hrz; exact hrz
 refine l_new _ wg rfl (exec_appZ slQ 3 (.tmp 34) (.tmp 39) _ _ rfl (by kernel_rfl) (by kernel_rfl) _ wg (hrz2 _)) ?_
 simp only [Act.put, sA, sS, sZ]
 refine l_val (.slice (some ⟨gn, 0, none⟩) (n + 1) cn) rfl (exec_assign _ _ rfl (by kernel_rfl)) ?_
 simp only [Act.put, sA, sS, sZ]
 refine wpList_nil ?_
 rw [show i + (n + 1 - i) = n + 1 by omega] at hsz
 have kag := kaf.trans hkz
 have HSg := Lib.hid hsz
 have H1g := Lib.hid (H1.out.kept kag)
 have HS0 := Lib.hid (HS.out.kept kag)
 have zf := kaf.size
 have zg := hkz.size
 have hcn := HSg.out.cap.1
 have hzl1 : zs.length = n + 1 - i := by omega
 have hgn1 : gn ≠ g1 := fun e => by have := (H1.out.lt); omega
 have hgng : gn ≠ g := by omega
 clear hsz hrz hrz2 hkz H1e HSe kf hzl
 have hti : ((ptrs Z).take (i * 1)).length = i := by rw [List.length_take]; omega
 go_upto_region 10 with fail
 refine wp_text 4 [.eq (.slice (some ⟨gn, 0, none⟩) (n + 1) cn), iE (i : Int), .eq (.slice (some ⟨gn, 0 + i * 1, none⟩) (n + 1 - i) (cn - i)), .eq (.slice (some ⟨g1, 0, none⟩) 1 1)] rfl (by kernel_rfl) ?_ ?_
 ·refine mE 1 9 ?_
  refine mE 2 1 ?_
  refine sW 3 rfl (fun a u E D hk=>exec_slcL slQ _ _ _ _ _ rfl (dD D 0) (dD D 1) (run_l slQ gn 0 (n + 1) cn i (by omega) (by omega) u)) ?_
  refine mE 4 2 ?_
  exact fz
 intro gv wh hV kh
 rw [dq 4 [41,42,43,44]]
 simp only [F7]
 rw [gQ hV 2 43 (.slice (some ⟨gn, 0 + i * 1, none⟩) (n + 1 - i) (cn - i))]
 rw [gQ hV 3 44 (.slice (some ⟨g1, 0, none⟩) 1 1)]
 clear hV
 have hcpy := run_copy_sl slQ 3 gn 0 (n + 1) cn i (n + 1 - i) (cn - i) _ [.pointer (some ⟨q, 0, none⟩)] wh (HSg.out.kept kh) g1 0 1 1 (blk_range (H1g.out.kept kh)) (by simp [Nat.min_def]; omega) (by simp; omega) (by intro u hu; simp at hu; subst hu; rfl)
 rw [show 0 + i = 0 + i * 1 by omega] at hcpy
 obtain ⟨hcr, hcs, hck⟩ := hcpy
 refine l_new (goInt 1) _ rfl (exec_cpyS (.tmp 43) (.tmp 44) _ _ rfl (by kernel_rfl) (by kernel_rfl) _ _ hcr) ?_
 simp only [Act.put, sA, sS, sZ]
 refine wpList_nil ?_
 generalize wh.setCells gn (0 + i * 1) [.pointer (some ⟨q, 0, none⟩)] = wi at hcs hck ⊢
 have e1 : ((ptrs Z).take (i * 1) ++ zs).take i = (ptrs Z).take i := by rw [List.take_append_of_le_length (by omega), List.take_of_length_le (by omega), Nat.mul_one]
 have e2 : ((ptrs Z).take (i * 1) ++ zs).drop (i + [Value.pointer (some ⟨q, 0, none⟩)].length) = zs.drop 1 := by
  rw [List.drop_append, List.drop_of_length_le (by simp; omega), List.nil_append, hti]
  congr 1
  simp
 rw [e1, e2] at hcs
 have HSi := Lib.hid hcs
 have HS0i := Lib.hid ((HS0.out.kept kh).keep hck (fun b hb e => by simp [Value.ownBlock] at hb; omega))
 have K1 : Keep (· = gn) wg wi := Keep.any kh hck
 have hgi : gn ≠ g := hgng
 clear hcs hck hcr kh HSg H1g HS0 e1 e2
 obtain ⟨dd, hdd⟩ : ∃ dd, (ptrs Z).drop i = dd := ⟨_, rfl⟩
 have hdl : dd.length = n - i := by rw [← hdd, List.length_drop]; omega
 have HDR : Hid (∀ u, Sl u 97 1 (.slice (some ⟨g, off, none⟩) n c) n (ptrs Z) → u.rangeAt g (off + i * 1) dd) := fun u h => by
  obtain ⟨_, A, c', e', _, _, _, h4⟩ := h
  injection e' with e1 e2 e3
  subst e1 e3
  obtain ⟨g', off', cur, e, hB, h5, h6⟩ := h4 _ rfl
  injection e with e1 e2
  subst e1 e2
  have := range_drop (seg_cell hB h6) i
  rw [hdd] at this
  rw [Nat.mul_one]
  exact this
 go_upto_region 11 with fail
 refine wp_free 8 [.eq (.slice (some ⟨gn, 0, none⟩) (n + 1) cn), iE (i : Int), iE 1, iE ((i + 1 : Nat) : Int), .eq (.slice (some ⟨gn, 0 + (i + 1) * 1, none⟩) (n + 1 - (i + 1)) (cn - (i + 1))), .eq (.slice (some ⟨g, off, none⟩) n c), iE (i : Int), .eq (.slice (some ⟨g, off + i * 1, none⟩) (n - i) (c - i))] (by kernel_rfl) rfl (by kernel_rfl) ?_ ?_
 ·refine mE 1 9 ?_
  refine mE 2 1 ?_
  refine mE 3 7 ?_
  refine sW 4 rfl (fun a u E D hk=>exec_addn ((i + 1 : Nat) : Int) (p := (i : Int)) (q := 1) rfl (dD D 1) (dD D 2) (by omega) (by omega) (by omega)) ?_
  refine sW 5 rfl (fun a u E D hk=>exec_slcL slQ _ _ _ _ _ rfl (dD D 0) (dD D 3) (run_l slQ gn 0 (n + 1) cn (i + 1) (by omega) (by omega) u)) ?_
  refine mE 6 0 ?_
  refine mE 7 1 ?_
  refine sW 8 rfl (fun a u E D hk=>exec_slcL slQ _ _ _ _ _ rfl (dD D 5) (dD D 6) (run_l slQ g off n c i (by omega) (by omega) u)) ?_
  exact fz
 intro gv wj hV kj
 rw [dq 8 [46,47,48,49,50,51,52,53]]
 simp only [F7]
 rw [gQ hV 4 50 (.slice (some ⟨gn, 0 + (i + 1) * 1, none⟩) (n + 1 - (i + 1)) (cn - (i + 1)))]
 rw [gQ hV 7 53 (.slice (some ⟨g, off + i * 1, none⟩) (n - i) (c - i))]
 clear hV
 have hcpy := run_copy_sl slQ 3 gn 0 (n + 1) cn (i + 1) (n + 1 - (i + 1)) (cn - (i + 1)) _ dd wj (HSi.out.kept kj) g (off + i * 1) (n - i) (c - i) (HDR.out wj (HS0i.out.kept kj)) (by rw [hdl]; simp only [Nat.min_def]; split <;> omega) (by omega) (fun u hu => ptrs_one Z u (by rw [← hdd] at hu; exact List.mem_of_mem_drop hu))
 rw [show 0 + (i + 1) = 0 + (i + 1) * 1 by omega] at hcpy
 obtain ⟨hcr, hcs, hck⟩ := hcpy
 refine l_new (goInt dd.length) _ rfl (exec_cpyS (.tmp 50) (.tmp 53) _ _ rfl (by kernel_rfl) (by kernel_rfl) _ _ hcr) ?_
 simp only [Act.put, sA, sS, sZ]
 refine wpList_nil ?_
 generalize wj.setCells gn (0 + (i + 1) * 1) dd = wk at hcs hck ⊢
 have hti2 : ((ptrs Z).take i).length = i := by rw [List.length_take]; omega
 have HR : Hid (InsIn w (.slice (some ⟨g, off, none⟩) n c) n Z i q (.returned (.slice (some ⟨gn, 0, none⟩) (n + 1) cn)) wk) := by
  refine ⟨_, rfl, ?_, ?_, fun b hb => .inr (by simp [Value.ownBlock] at hb; omega)⟩
  ·have e3 : ((ptrs Z).take i ++ [Value.pointer (some ⟨q, 0, none⟩)] ++ zs.drop 1).take (i + 1) = (ptrs Z).take i ++ [Value.pointer (some ⟨q, 0, none⟩)] := by
    rw [List.take_append_of_le_length (by simp only [List.length_append, hti2, List.length_cons, List.length_nil]; omega), List.take_of_length_le (by simp only [List.length_append, hti2, List.length_cons, List.length_nil]; omega)]
   have e4 : ((ptrs Z).take i ++ [Value.pointer (some ⟨q, 0, none⟩)] ++ zs.drop 1).drop (i + 1 + dd.length) = [] := by
    rw [List.drop_of_length_le]
    simp only [List.length_append, hti2, List.length_drop, List.length_cons, List.length_nil]
    omega
   rw [e3, e4, List.append_nil] at hcs
   unfold insP
   rw [hdd]
   exact hcs
  ·have k2 : Keep (· = gn) wg wk := (K1.kept kj).trans hck (fun _ _ h => h)
   exact (Keep.mono (T := fun b => (Value.slice (some ⟨g, off, none⟩) n c).ownBlock = some b) kag (fun _ _ h => h.elim)).trans k2 (fun b hb h => by omega)
 clear hcs hck hcr
 go_wp2
 go_ret
 exact HR.out
set_option maxRecDepth 100000 in
set_option maxHeartbeats 1600000 in
theorem linsert_room (w : World) (v : Value) (n i : Nat) (Z : Zs) (g1 q : Nat) (hS : Sl w 97 1 v n (ptrs Z)) (hn : n ≤ 1000) (hi : i < n) (h1 : Blk w g1 97 [.pointer (some ⟨q, 0, none⟩)]) (hne : ∀ b, v.ownBlock = some b → b ≠ g1) (hc : ∀ A c, v = .slice A n c → n + 1 ≤ c) :
  Calls Try.prog 92 #[v, .int .i64 (i : Int), .slice (some ⟨g1, 0, none⟩) 1 1] w (InsIn w v n Z i q) := by
 have hv0 := hS.some_ (by omega : 0 < n)
 obtain ⟨g, off, c, rfl⟩ := hv0
 obtain ⟨hnc, hcm, _⟩ := hS.cap
 have hcm' : c ≤ 9223372036854775807 := by unfold maxLen at hcm; omega
 have hgg : g ≠ g1 := fun e => hne g rfl e
 have hroom := hc _ _ rfl
 have HS := Lib.hid hS
 clear hc
 have H1 := Lib.hid h1
 have hl : (ptrs Z).length = n := by have := hS.len; omega
 clear hS h1 hne
 go_enter Try.func92, Try.ntmps92
 go_upto_region 1 with fail
 refine wp_text 3 [.eq (.slice (some ⟨g, off, none⟩) n c), iE (i : Int), .eq (.slice (some ⟨g, off + i * 1, none⟩) (n - i) (c - i))] rfl (by kernel_rfl) ?_ ?_
 ·refine mE 1 0 ?_
  refine mE 2 1 ?_
  refine sW 3 rfl (fun a u E D hk=>exec_slcL slQ _ _ _ _ _ rfl (dD D 0) (dD D 1) (run_l slQ g off n c i (by omega) (by omega) u)) ?_
  exact fz
 intro gv wa hV ka
 rw [dq 3 [10,11,12]]
 simp only [F7]
 clear hV
 refine wpList_nil ?_
 go_upto_region 2 with fail
 refine wp_text 3 [.eq (.slice (some ⟨g1, 0, none⟩) 1 1), iE (1 : Int), iE (1 : Int)] rfl (by kernel_rfl) ?_ ?_
 ·refine mE 1 2 ?_
  refine sW 2 rfl (fun a u E D hk=>exec_len _ _ _ slQ.und (some ⟨g1, 0, none⟩) 1 1 rfl (dD D 0)) ?_
  refine mD 3 14 1 ?_
  exact fz
 intro gv wb hV kb
 rw [dq 3 [13,14,7]]
 simp only [F7]
 rw [gQ hV 2 7 (.int .i64 (1 : Int))]
 clear hV
 refine wpList_nil ?_
 have kab := ka.trans kb
 clear ka kb
 go_upto_region 5 with fail
 refine wp_text 3 [.eq (.slice (some ⟨g, off, none⟩) n c), iE (n : Int), iE (n : Int)] rfl (by kernel_rfl) ?_ ?_
 ·refine mE 1 0 ?_
  refine sW 2 rfl (fun a u E D hk=>exec_len _ _ _ slQ.und (some ⟨g, off, none⟩) n c rfl (dD D 0)) ?_
  refine mD 3 19 1 ?_
  exact fz
 intro gv wc hV kc
 rw [dq 3 [18,19,8]]
 simp only [F7]
 rw [gQ hV 2 8 (.int .i64 (n : Int))]
 clear hV
 refine wpList_nil ?_
 have kac := kab.trans kc
 clear kab kc
 go_upto_region 6 with fail
 refine wp_text 3 [iE (i : Int), iE (n : Int), bE false] rfl (by kernel_rfl) ?_ ?_
 ·refine mE 1 1 ?_
  refine mE 2 8 ?_
  refine aS 3 rfl (fun a u E D hk=>exec_eqn rfl (dD D 0) (dD D 1)) (decide_eq_false (by omega)) ?_
  exact fz
 intro gv wd hV kd
 rw [dq 3 [20,21,22]]
 simp only [F7]
 rw [gQ hV 2 22 (.bool false)]
 clear hV
 refine wpList_nil ?_
 have kad := kac.trans kd
 clear kac kd
 go_upto_region 8 with fail
 refine wp_text 6 [iE (n : Int), iE 1, iE (((n : Int) : Int) + (1 : Int)), .eq (.slice (some ⟨g, off, none⟩) n c), iE (c : Int), bE false] rfl (by kernel_rfl) ?_ ?_
 ·refine mE 1 8 ?_
  refine mE 2 7 ?_
  refine sW 3 rfl (fun a u E D hk=>exec_addn (p := ((n : Int))) (q := (1)) (((n : Int) : Int) + (1 : Int)) rfl (dD D 0) (dD D 1) rfl (by omega) (by omega)) ?_
  refine mE 4 0 ?_
  refine sW 5 rfl (fun a u E D hk=>exec_capS _ (some ⟨g, off, none⟩) n c slQ.und rfl (dD D 3)) ?_
  refine aS 6 rfl (fun a u E D hk=>exec_gtn rfl (dD D 2) (dD D 4)) (decide_eq_false (by omega)) ?_
  exact fz
 intro gv we hV ke
 rw [dq 6 [26,27,28,29,30,31]]
 simp only [F7]
 rw [gQ hV 5 31 (.bool false)]
 clear hV
 refine wpList_nil ?_
 have kae := kad.trans ke
 clear kad ke
 have HSe := Lib.hid (HS.out.kept kae)
 have H1e := Lib.hid (H1.out.kept kae)
 have hgl : g < w.heap.size := HS.out.lt rfl
 obtain ⟨ds, hdsl, hS1, hds⟩ := HSe.out.longer (m := n + 1) hroom (by omega)
 have HSL := Lib.hid hS1
 have HDS := Lib.hid hds
 have hcur : ∃ T cs, Blk we g T cs ∧ cs.length ≠ 0 := by
  obtain ⟨_, A, c', e', _, _, _, h4⟩ := hS1
  injection e' with e1 e2 e3
  subst e1 e3
  obtain ⟨g', off', cur, e, hB, h5, h6⟩ := h4 _ rfl
  injection e with e1 e2
  subst e1 e2
  exact ⟨_, cur, hB, by omega⟩
 obtain ⟨TG, cg, hBg, hcg0⟩ := hcur
 have HBG := Lib.hid hBg
 have hdsl : ds.length = n + 1 := by omega
 clear hS1 hds HSe hBg
 go_upto_region 13 with fail
 refine wp_text 5 [.eq (.slice (some ⟨g, off, none⟩) n c), iE (n : Int), iE 1, iE ((n + 1 : Nat) : Int), .eq (.slice (some ⟨g, off, none⟩) (n + 1) c)] rfl (by kernel_rfl) ?_ ?_
 ·refine mE 1 0 ?_
  refine mE 2 8 ?_
  refine mE 3 7 ?_
  refine sW 4 rfl (fun a u E D hk=>exec_addn ((n + 1 : Nat) : Int) (p := (n : Int)) (q := 1) rfl (dD D 1) (dD D 2) (by omega) (by omega) (by omega)) ?_
  refine sW 5 rfl (fun a u E D hk=>exec_slcH slQ _ _ _ _ _ rfl (dD D 0) (dD D 3) (run_h slQ (some ⟨g, off, none⟩) n c (n + 1) (by omega) (fun h => by cases h) u)) ?_
  exact fz
 intro gv wf hV kf
 rw [dq 5 [56,57,58,59,60]]
 simp only [F7]
 rw [gQ hV 4 60 (.slice (some ⟨g, off, none⟩) (n + 1) c)]
 clear hV
 refine l_val (.slice (some ⟨g, off, none⟩) (n + 1) c) rfl (exec_assign _ _ rfl (by kernel_rfl)) ?_
 simp only [Act.put, List.setIfInBounds_toArray, List.set_cons_zero]
 refine wpList_nil ?_
 have kaf := kae.trans kf
 have HSf := Lib.hid (HSL.out.kept kf)
 have HBf := Lib.hid (HBG.out.kept kf)
 have H1f := Lib.hid (H1.out.kept kaf)
 clear HSL HBG H1e kf
 obtain ⟨m, hm⟩ : ∃ m, n + 1 = m := ⟨_, rfl⟩
 rw [hm] at HSf hdsl ⊢
 go_upto_region 14 with fail
 refine wp_text 7 [.eq (.slice (some ⟨g1, 0, none⟩) 1 1), .eq (.slice (some ⟨g, off, none⟩) m c), iE (i : Int), iE 1, iE ((i + 1 : Nat) : Int), .eq (.slice (some ⟨g, off + (i + 1) * 1, none⟩) (m - (i + 1)) (c - (i + 1))), bE false] rfl (by kernel_rfl) ?_ ?_
 ·refine mE 1 2 ?_
  refine mE 2 0 ?_
  refine mE 3 1 ?_
  refine mE 4 7 ?_
  refine sW 5 rfl (fun a u E D hk=>exec_addn ((i + 1 : Nat) : Int) (p := (i : Int)) (q := 1) rfl (dD D 2) (dD D 3) (by omega) (by omega) (by omega)) ?_
  refine sW 6 rfl (fun a u E D hk=>exec_slcL slQ _ _ _ _ _ rfl (dD D 1) (dD D 4) (run_l slQ g off m c (i + 1) (by omega) (by omega) u)) ?_
  refine sW 7 rfl (fun a u E D hk=>exec_ovl _ _ _ g1 0 1 1 g (off + (i + 1) * 1) (m - (i + 1)) (c - (i + 1)) _ _ _ _ rfl (dD D 0) (dD D 5) (H1f.out.kept hk) (HBf.out.kept hk) (fun e => hgg e.symm) hcg0) ?_
  exact fz
 intro gv wg hV kg
 rw [dq 7 [61,62,63,64,65,66,67]]
 simp only [F7]
 rw [gQ hV 6 67 (.bool false)]
 clear hV
 refine l_val (.bool true) rfl (exec_not _ (.tmp 67) false rfl (by kernel_rfl)) ?_
 simp only [Act.put, sA, sS, sZ]
 refine wpList_nil ?_
 have kag := kaf.trans kg
 have HSg := Lib.hid (HSf.out.kept kg)
 have H1g := Lib.hid (H1.out.kept kag)
 clear HSf HBf H1f kg
 obtain ⟨dd, hdd⟩ : ∃ dd, (ptrs Z).drop i = dd := ⟨_, rfl⟩
 have hdl : dd.length = n - i := by rw [← hdd, List.length_drop]; omega
 have HD1 : Hid ((ds.drop i).take (n - i) = dd) := by
  show _ = _
  rw [← hdd, ← HDS.out, List.drop_take, Nat.mul_one]
 have HDT : Hid (ds.take i = (ptrs Z).take i) := by
  show _ = _
  rw [← HDS.out, List.take_take, Nat.min_eq_left (by omega)]
 have HDR : Hid (∀ u, Sl u 97 1 (.slice (some ⟨g, off, none⟩) m c) m ds → u.rangeAt g (off + i * 1) dd) := fun u h => by
  obtain ⟨_, A, c', e', _, _, _, h4⟩ := h
  injection e' with e1 e2 e3
  subst e1 e3
  obtain ⟨g', off', cur, e, hB, h5, h6⟩ := h4 _ rfl
  injection e with e1 e2
  subst e1 e2
  have := range_take (range_drop (seg_cell hB h6) i) (n - i)
  rw [HD1.out] at this
  rw [Nat.mul_one]
  exact this
 go_upto_region 15 with fail
 refine wp_free 8 [.eq (.slice (some ⟨g, off, none⟩) m c), iE (i : Int), iE 1, iE ((i + 1 : Nat) : Int), .eq (.slice (some ⟨g, off + (i + 1) * 1, none⟩) (m - (i + 1)) (c - (i + 1))), .eq (.slice (some ⟨g, off, none⟩) m c), iE (i : Int), .eq (.slice (some ⟨g, off + i * 1, none⟩) (m - i) (c - i))] (by kernel_rfl) rfl (by kernel_rfl) ?_ ?_
 ·refine mE 1 0 ?_
  refine mE 2 1 ?_
  refine mE 3 7 ?_
  refine sW 4 rfl (fun a u E D hk=>exec_addn ((i + 1 : Nat) : Int) (p := (i : Int)) (q := 1) rfl (dD D 1) (dD D 2) (by omega) (by omega) (by omega)) ?_
  refine sW 5 rfl (fun a u E D hk=>exec_slcL slQ _ _ _ _ _ rfl (dD D 0) (dD D 3) (run_l slQ g off m c (i + 1) (by omega) (by omega) u)) ?_
  refine mE 6 0 ?_
  refine mE 7 1 ?_
  refine sW 8 rfl (fun a u E D hk=>exec_slcL slQ _ _ _ _ _ rfl (dD D 5) (dD D 6) (run_l slQ g off m c i (by omega) (by omega) u)) ?_
  exact fz
 intro gv wj hV kj
 rw [dq 8 [69,70,71,72,73,74,75,76]]
 simp only [F7]
 rw [gQ hV 4 73 (.slice (some ⟨g, off + (i + 1) * 1, none⟩) (m - (i + 1)) (c - (i + 1)))]
 rw [gQ hV 7 76 (.slice (some ⟨g, off + i * 1, none⟩) (m - i) (c - i))]
 clear hV
 have hcpy := run_copy_sl slQ 3 g off m c (i + 1) (m - (i + 1)) (c - (i + 1)) _ dd wj (HSg.out.kept kj) g (off + i * 1) (m - i) (c - i) (HDR.out wj (HSg.out.kept kj)) (by rw [hdl]; simp only [Nat.min_def]; split <;> omega) (by omega) (fun u hu => ptrs_one Z u (by rw [← hdd] at hu; exact List.mem_of_mem_drop hu))
 rw [show off + (i + 1) = off + (i + 1) * 1 by omega] at hcpy
 obtain ⟨hcr, hcs, hck⟩ := hcpy
 refine l_new (goInt dd.length) _ rfl (exec_cpyS (.tmp 73) (.tmp 76) _ _ rfl (by kernel_rfl) (by kernel_rfl) _ _ hcr) ?_
 simp only [Act.put, sA, sS, sZ]
 refine wpList_nil ?_
 generalize wj.setCells g (off + (i + 1) * 1) dd = wk at hcs hck ⊢
 have HSk := Lib.hid hcs
 have H1k := Lib.hid ((H1g.out.kept kj).keep hck (fun e => hgg e.symm))
 have K1 : Keep (· = g) wg wk := Keep.any kj hck
 clear hcs hck hcr kj HSg H1g
 go_upto_region 16 with fail
 refine wp_text 4 [.eq (.slice (some ⟨g, off, none⟩) m c), iE (i : Int), .eq (.slice (some ⟨g, off + i * 1, none⟩) (m - i) (c - i)), .eq (.slice (some ⟨g1, 0, none⟩) 1 1)] rfl (by kernel_rfl) ?_ ?_
 ·refine mE 1 0 ?_
  refine mE 2 1 ?_
  refine sW 3 rfl (fun a u E D hk=>exec_slcL slQ _ _ _ _ _ rfl (dD D 0) (dD D 1) (run_l slQ g off m c i (by omega) (by omega) u)) ?_
  refine mE 4 2 ?_
  exact fz
 intro gv wh hV kh
 rw [dq 4 [78,79,80,81]]
 simp only [F7]
 rw [gQ hV 2 80 (.slice (some ⟨g, off + i * 1, none⟩) (m - i) (c - i))]
 rw [gQ hV 3 81 (.slice (some ⟨g1, 0, none⟩) 1 1)]
 clear hV
 have hcpy := run_copy_sl slQ 3 g off m c i (m - i) (c - i) _ [.pointer (some ⟨q, 0, none⟩)] wh (HSk.out.kept kh) g1 0 1 1 (blk_range (H1k.out.kept kh)) (by simp [Nat.min_def]; omega) (by simp; omega) (by intro u hu; simp at hu; subst hu; rfl)
 rw [show off + i = off + i * 1 by omega] at hcpy
 obtain ⟨hcr, hcs, hck⟩ := hcpy
 refine l_new (goInt 1) _ rfl (exec_cpyS (.tmp 80) (.tmp 81) _ _ rfl (by kernel_rfl) (by kernel_rfl) _ _ hcr) ?_
 simp only [Act.put, sA, sS, sZ]
 refine wpList_nil ?_
 generalize wh.setCells g (off + i * 1) [.pointer (some ⟨q, 0, none⟩)] = wi at hcs hck ⊢
 have HR : Hid (InsIn w (.slice (some ⟨g, off, none⟩) n c) n Z i q (.returned (.slice (some ⟨g, off, none⟩) m c)) wi) := by
  refine ⟨_, rfl, ?_, ?_, fun b hb => .inl hb⟩
  ·have hti : (ds.take (i + 1)).length = i + 1 := by rw [List.length_take]; omega
   have e3 : (ds.take (i + 1) ++ dd ++ ds.drop (i + 1 + dd.length)).take i = (ptrs Z).take i := by
    rw [List.append_assoc, List.take_append_of_le_length (by omega), List.take_take, Nat.min_eq_left (by omega)]
    exact HDT.out
   have e4 : (ds.take (i + 1) ++ dd ++ ds.drop (i + 1 + dd.length)).drop (i + [Value.pointer (some ⟨q, 0, none⟩)].length) = dd := by
    rw [show ds.drop (i + 1 + dd.length) = [] from List.drop_of_length_le (by omega), List.append_nil, List.drop_append, List.drop_of_length_le (by simp; omega), List.nil_append, hti]
    simp
   rw [e3, e4, ← hm] at hcs
   unfold insP
   rw [hdd, ← hm]
   exact hcs
  ·have k2 : Keep (· = g) wg wi := (K1.kept kh).trans hck (fun _ _ h => h)
   exact (Keep.mono (T := fun b => (Value.slice (some ⟨g, off, none⟩) n c).ownBlock = some b) kag (fun _ _ h => h.elim)).trans k2 (fun b hb h => by subst h; rfl)
 clear hcs hck hcr
 go_wp2
 go_ret
 exact HR.out
theorem linsert_any (w : World) (v : Value) (n i : Nat) (Z : Zs) (g1 q : Nat) (hS : Sl w 97 1 v n (ptrs Z)) (hn : n ≤ 1000) (hi : i ≤ n) (h1 : Blk w g1 97 [.pointer (some ⟨q, 0, none⟩)]) (hne : ∀ b, v.ownBlock = some b → b ≠ g1) :
  Calls Try.prog 92 #[v, .int .i64 (i : Int), .slice (some ⟨g1, 0, none⟩) 1 1] w (InsIn w v n Z i q) := by
 by_cases h : i = n
 ·subst h
  exact linsert_end w v i Z g1 q hS hn h1
 ·obtain ⟨A, c, rfl⟩ := hS.slice_
  by_cases hc : n + 1 ≤ c
  ·exact linsert_room w _ n i Z g1 q hS hn (by omega) h1 hne (fun A' c' e => by injection e with _ _ e3; omega)
  ·exact linsert_grow w _ n i Z g1 q hS hn (by omega) h1 hne (fun A' c' e => by injection e with _ _ e3; omega)
section
variable {P : Program} {ops : Array Oper} {Q : Exit → Act → World → Prop} {V : List Kn} {n m : Nat} {a0 : Act} {w0 : World} {S : Nat → Prop}
def Kn.safe (S : Nat → Prop) (K : Kn) : Prop := ∀ v w w', K.p v w → Keep S w w' → K.p v w'
theorem Kn.safe_eq (S : Nat → Prop) (c : Value) : (Kn.eq c).safe S := fun _ _ _ h _ => h
structure VInv (ops : Array Oper) (V : List Kn) (n m : Nat) (a0 : Act) (w0 : World) (S : Nat → Prop) (ls : Array Bool) (a : Act) (w : World) : Prop where
 head : HeadInv .any ops n ls
 defers : a.defers = a0.defers
 size : a.tmps.size = a0.tmps.size
 env : ∀ t, (∀ i, i < n → ls.getD i false = true → dstOf ops i ≠ some t) → a.tmps[t]? = a0.tmps[t]?
 vals : ∀ i d, i < n → ls.getD i false = true → dstOf ops i = some d → (knOf V i).p (a.tmps.getD d undef) w
 keep : Keep S w0 w
 kept : ls.getD m false = false → Kept w0 w
def VStep (P : Program) (ops : Array Oper) (Q : Exit → Act → World → Prop) (V : List Kn) (n : Nat) (a0 : Act) (w0 : World) (S : Nat → Prop) (i : Nat) (K : Kn) : Prop :=
 ∀ a w, FEnv ops n a0 a → FDep ops V i a w → Keep S w0 w → wpOp P ops Q i (FPost ops i K a w) a w
def VTurn (P : Program) (ops : Array Oper) (Q : Exit → Act → World → Prop) (V : List Kn) (n : Nat) (a0 : Act) (w0 : World) (S : Nat → Prop) (m : Nat) (K : Kn) : Prop :=
 ∀ a w, FEnv ops n a0 a → FDep ops V m a w → Kept w0 w → wpOp P ops Q m (fun a' w' => ∃ v, a' = a.put (dstOf ops m) v ∧ K.p v w' ∧ Keep S w w') a w
def VSteps (P : Program) (ops : Array Oper) (Q : Exit → Act → World → Prop) (V : List Kn) (n m : Nat) (a0 : Act) (w0 : World) (S : Nat → Prop) : Nat → List Kn → Prop
 | _, [] => True
 | i, K :: Ks => (i ≠ m → VStep P ops Q V n a0 w0 S i K) ∧ VSteps P ops Q V n m a0 w0 S (i + 1) Ks
theorem vsteps_nil {i : Nat} : VSteps P ops Q V n m a0 w0 S i [] := trivial
theorem vsteps_cons {i : Nat} (j : Nat) {K : Kn} {Ks : List Kn} (hj : j = i + 1) (h : VStep P ops Q V n a0 w0 S i K) (hr : VSteps P ops Q V n m a0 w0 S j Ks) : VSteps P ops Q V n m a0 w0 S i (K :: Ks) := ⟨fun _ => h, by subst hj; exact hr⟩
theorem vsteps_turn {i : Nat} (j : Nat) {K : Kn} {Ks : List Kn} (hj : j = i + 1) (hm : i = m) (hr : VSteps P ops Q V n m a0 w0 S j Ks) : VSteps P ops Q V n m a0 w0 S i (K :: Ks) := ⟨fun h => (h hm).elim, by subst hj; exact hr⟩
theorem vsteps_at : ∀ (Ks : List Kn) (i : Nat), VSteps P ops Q V n m a0 w0 S i Ks → ∀ k K, Ks[k]? = some K → i + k ≠ m → VStep P ops Q V n a0 w0 S (i + k) K
 | [], _, _, k, K, h, _ => by simp at h
 | K0 :: Ks, i, h, 0, K, hk, hm => by simp at hk; subst hk; exact h.1 hm
 | K0 :: Ks, i, h, k + 1, K, hk, hm => by
  have := vsteps_at Ks (i + 1) h.2 k K (by simpa using hk) (by omega)
  rw [show i + (k + 1) = i + 1 + k by omega]
  exact this
def lateB (ops : Array Oper) (n m : Nat) (early : List Nat) : Bool := (List.range n).all fun i => i == m || early.contains i || (List.range i).any fun j => (j == m || !early.contains j) && Region.waitsFor .any ops i j
theorem freeV_go (early : List Nat) (hnV : V.length = n) (hmn : m < n) (hB : freeB ops n a0.tmps.size = true) (hL : lateB ops n m early = true) (hsafe : ∀ i, i ∈ early → (knOf V i).safe S) (hst : ∀ i K, V[i]? = some K → i ≠ m → VStep P ops Q V n a0 w0 S i K) (htn : VTurn P ops Q V n a0 w0 S m (knOf V m))
  (hfin : ∀ a w, VInv ops V n m a0 w0 S (Array.replicate n true ++ Array.replicate (ops.size - n) false) a w → wpAny P .any ops Q (ops.size - n) (Array.replicate n true ++ Array.replicate (ops.size - n) false) a w) :
  ∀ (f : Nat) (U : List Nat) (ls : Array Bool) (a : Act) (w : World), U.length = f → U.Nodup → (∀ i, i ∈ U ↔ i < n ∧ ls.getD i true = false) → VInv ops V n m a0 w0 S ls a w → wpAny P .any ops Q (f + (ops.size - n)) ls a w := by
 obtain ⟨hn, hsc, hseq, hall⟩ := freeB_facts hB
 have hop : ∀ i, i < n → ∃ o d, ops[i]? = some o ∧ o.dst = some d ∧ d < a0.tmps.size ∧ (∀ j, j < i → dstOf ops j ≠ some d) ∧ ∀ e ∈ o.after, Region.binds .any e = true → e.on < i := by
  intro i hi
  have h := List.all_eq_true.1 hall i (by simpa using hi)
  cases ho : ops[i]? with
  | none => rw [ho] at h; cases h
  | some o =>
   rw [ho] at h
   simp only [Bool.and_eq_true] at h
   cases hd : o.dst with
   | none => rw [hd] at h; cases h.1
   | some d =>
    rw [hd] at h
    simp only [Bool.and_eq_true, decide_eq_true_eq, List.all_eq_true, List.mem_range, bne_iff_ne] at h
    refine ⟨o, d, rfl, hd, h.1.1, h.1.2, fun e he hb => ?_⟩
    have h2 := (Array.all_eq_true_iff_forall_mem.1 h.2) e he
    simpa [hb] using h2
 intro f
 induction f with
 | zero =>
  intro U ls a w hU _ hmem inv
  have hnil : U = [] := List.eq_nil_of_length_eq_zero hU
  have hls : ls = Array.replicate n true ++ Array.replicate (ops.size - n) false := by
   apply Array.ext
   ·simp [inv.head.size]; omega
   ·intro i h1 h2
    have hsz := inv.head.size
    by_cases hi : i < n
    ·have h3 : ¬ (i < n ∧ ls.getD i true = false) := by
      intro h
      have := (hmem i).2 h
      rw [hnil] at this
      cases this
     have h4 : ls.getD i true = true := by
      cases hq : ls.getD i true with
      | true => rfl
      | false => exact (h3 ⟨hi, hq⟩).elim
     rw [Array.getElem_append_left (by simpa using hi)]
     simp [h1] at h4
     simp [h4]
    ·have h4 := inv.head.tail i (by omega) (by omega)
     rw [Array.getElem_append_right (by simpa using hi)]
     simp [h1] at h4
     simp [h4]
  rw [Nat.zero_add]
  subst hls
  exact hfin a w inv
 | succ f ih =>
  intro U ls a w hU hnd hmem inv
  have hsz := inv.head.size
  rw [show f + 1 + (ops.size - n) = (f + (ops.size - n)) + 1 by omega]
  obtain ⟨u, hu⟩ : ∃ u, u ∈ U := by
   cases U with
   | nil => simp at hU
   | cons u U => exact ⟨u, by simp⟩
  obtain ⟨hun, huf⟩ := (hmem u).1 hu
  refine ⟨fun h0 => ?_, fun i hi => ?_⟩
  ·exfalso
   have key : ∀ k i, i ≤ k → i < n → ls.getD i true = true := by
    intro k
    induction k using Nat.strongRecOn with
    | _ k ihk =>
     intro i hik hin
     cases hq : ls.getD i true with
     | true => rfl
     | false =>
      obtain ⟨o, d, ho, _, _, _, haft⟩ := hop i hin
      have : i ∈ Region.ready .any ops ls := mem_ready.2 ⟨hq, o, ho, fun e he hb => by
       have hlt := haft e he hb
       have := ihk (k - 1) (by omega) e.on (by omega) (by omega)
       exact getD_tf this (by omega)⟩
      rw [h0] at this
      cases this
   rw [key u u (Nat.le_refl _) hun] at huf
   cases huf
  ·have hin : i < n := Nat.lt_of_not_le fun h => tail_waits (hsc (Nat.lt_of_le_of_lt h (by obtain ⟨_, o1, ho1, _⟩ := mem_ready.1 hi; exact (Array.getElem?_eq_some_iff.1 ho1).1))).1 (hsc (Nat.lt_of_le_of_lt h (by obtain ⟨_, o1, ho1, _⟩ := mem_ready.1 hi; exact (Array.getElem?_eq_some_iff.1 ho1).1))).2 (Nat.lt_of_le_of_lt h (by obtain ⟨_, o1, ho1, _⟩ := mem_ready.1 hi; exact (Array.getElem?_eq_some_iff.1 ho1).1)) inv.head _ u rfl hun huf i h hi
   obtain ⟨hiun, oi, hoi, hdeps⟩ := mem_ready.1 hi
   obtain ⟨o, d, ho, hd, hdlt, hne, haft⟩ := hop i hin
   obtain rfl : oi = o := Option.some.inj (hoi.symm.trans ho)
   have hdi : dstOf ops i = some d := by simp [dstOf, ho, hd]
   have hiff : ls.getD i false = false := getD_both hiun
   have hne' : ∀ j, j < n → j ≠ i → dstOf ops j ≠ some d := by
    intro j hj hij hjd
    by_cases hji : j < i
    ·exact hne j hji hjd
    ·obtain ⟨oj, dj, hoj, hdj, _, hnej, _⟩ := hop j hj
     have : dj = d := by
      have h1 : dstOf ops j = some dj := by simp [dstOf, hoj, hdj]
      rw [h1] at hjd
      injection hjd
     subst this
     exact hnej i (by omega) hdi
   have hdlt' : d < a.tmps.size := by rw [inv.size]; exact hdlt
   have hself : ∀ v, (a.put (some d) v).tmps.getD d undef = v := fun v => by simp [Act.put, hdlt']
   have hoth : ∀ v j e, j < n → j ≠ i → dstOf ops j = some e → (a.put (some d) v).tmps.getD e undef = a.tmps.getD e undef := by
    intro v j e hj hji he
    have : d ≠ e := fun h => hne' j hj hji (by rw [he, h])
    simp only [Act.put, Array.getD_eq_getD_getElem?, slot_set]
    rw [if_neg (fun h => this h.1)]
   have hfe : FEnv ops n a0 a := by
    intro t v ht hv
    have ht' : ∀ k, k < n → ls.getD k false = true → dstOf ops k ≠ some t := fun k hkn _ => by simpa using List.all_eq_true.1 ht k (by simpa using hkn)
    have h1 := inv.env t ht'
    rw [← hv]
    simp only [Act.eval, Array.getD_eq_getD_getElem?, h1]
   have hU' : ∀ k, k ∈ U.erase i ↔ k < n ∧ (ls.setIfInBounds i true).getD k true = false := by
    intro k
    rw [hnd.mem_erase_iff, hmem k]
    by_cases hki : k = i
    ·subst hki
     simp
    ·rw [getD_set_ne true (fun h => hki h.symm)]
     simp [hki]
   have henv : ∀ v t, (∀ k, k < n → (ls.setIfInBounds i true).getD k false = true → dstOf ops k ≠ some t) → (a.put (some d) v).tmps[t]? = a0.tmps[t]? := by
    intro v t ht
    have h1 := inv.env t (fun k hkn hl => ht k hkn (getD_set_true hl))
    have h2 : d ≠ t := fun h => ht i hin (by simp [show i < ls.size by omega]) (by rw [hdi, h])
    simp only [Act.put, slot_set]
    rw [if_neg (fun h => h2 h.1), h1]
   have hlen : (U.erase i).length = f := by rw [List.length_erase_of_mem ((hmem i).2 ⟨hin, hiun⟩)]; omega
   have hsetk : ∀ k, k ≠ i → (ls.setIfInBounds i true).getD k false = ls.getD k false := fun k hk => getD_set_ne false (fun h => hk h.symm)
   have hseti : (ls.setIfInBounds i true).getD i false = true := by simp [show i < ls.size by omega]
   have hdep : FDep ops V i a w := by
    intro j e hje
    simp only [Bool.and_eq_true, beq_iff_eq, ho, Option.map_some, Option.some.injEq, Array.any_eq_true'] at hje
    obtain ⟨⟨x, hx, hxb, hxj⟩, hdj⟩ := hje
    subst hxj
    exact inv.vals x.on e (by have := haft x hx hxb; omega) (hdeps x hx hxb) hdj
   have hK : V[i]? = some (knOf V i) := by
    unfold knOf
    rw [List.getD_eq_getElem?_getD, List.getElem?_eq_getElem (by omega)]
    rfl
   by_cases him : i = m
   ·subst him
    have hk := inv.kept hiff
    have hlate : ∀ j, j < n → ls.getD j false = true → j ∈ early := by
     intro j
     induction j using Nat.strongRecOn with
     | _ j ihj =>
      intro hj hlj
      have h := List.all_eq_true.1 hL j (by simpa using hj)
      simp only [Bool.or_eq_true, beq_iff_eq, List.any_eq_true, List.mem_range, Bool.and_eq_true, Bool.not_eq_true', List.contains_iff_mem] at h
      rcases h with (h | h) | ⟨q, hq1, hq2, hq3⟩
      ·subst h
       rw [hiff] at hlj
       cases hlj
      ·exact h
      ·exfalso
       obtain ⟨oj, dj, hoj, _, _, _, _⟩ := hop j hj
       obtain ⟨e, he, hb, heq⟩ := waits_on hq3 hoj
       have hlq := inv.head.closed j oj hoj hlj e he hb
       rw [heq] at hlq
       rcases hq2 with h | h
       ·subst h
        rw [hiff] at hlq
        cases hlq
       ·have := ihj q hq1 (by omega) hlq
        have h' : early.contains q = true := by simpa using this
        rw [h'] at h
        cases h
    refine wpOp_mono ?_ (htn a w hfe hdep hk)
    rintro a' w' ⟨v, rfl, hKp, hkS⟩
    rw [hdi]
    refine ih (U.erase i) _ _ w' hlen (hnd.erase _) hU' ⟨inv.head.set hi hin, inv.defers, by simp [Act.put, inv.size], henv v, fun k e hkn hlk he => ?_, inv.keep.trans hkS (fun _ _ h => h), fun hl => ?_⟩
    ·by_cases hki : k = i
     ·subst hki
      rw [hdi] at he
      injection he with he
      subst he
      rw [hself]
      exact hKp
     ·rw [hsetk k hki] at hlk
      rw [hoth v k e hkn hki he]
      exact hsafe k (hlate k hkn hlk) _ _ _ (inv.vals k e hkn hlk he) hkS
    ·rw [hseti] at hl
     cases hl
   ·refine wpOp_mono ?_ (hst i _ hK him a w hfe hdep inv.keep)
    rintro a' w' ⟨v, rfl, hv, hk⟩
    rw [hdi]
    refine ih (U.erase i) _ _ w' hlen (hnd.erase _) hU' ⟨inv.head.set hi hin, inv.defers, by simp [Act.put, inv.size], henv v, fun k e hkn hlk he => ?_, inv.keep.kept hk, fun hl => ?_⟩
    ·by_cases hki : k = i
     ·subst hki
      rw [hdi] at he
      injection he with he
      subst he
      rw [hself]
      exact hv
     ·rw [hsetk k hki] at hlk
      rw [hoth v k e hkn hki he]
      exact (knOf V k).st _ _ _ (inv.vals k e hkn hlk he) hk
    ·rw [hsetk m (fun h => him h.symm)] at hl
     exact (inv.kept hl).trans hk
theorem actV_filled {a : Act} {w : World} {ls : Array Bool} (hl : ∀ i, i < n → ls.getD i false = true) (inv : VInv ops V n m a0 w0 S ls a w) : a = ⟨(dstsOf ops n).foldl (fun t d => t.setIfInBounds d (a.tmps.getD d undef)) a0.tmps, a0.defers⟩ := by
 obtain ⟨t, df⟩ := a
 have h1 := inv.defers
 simp only at h1
 subst h1
 congr 1
 apply Array.ext_getElem?
 intro e
 rw [fold_slots]
 have hsz := inv.size
 simp only at hsz
 by_cases hm : e ∈ dstsOf ops n
 ·by_cases hlt : e < a0.tmps.size
  ·rw [if_pos ⟨hm, hlt⟩]
   have : e < t.size := by omega
   simp [this]
  ·rw [if_neg (fun h => hlt h.2), Array.getElem?_eq_none (by omega), Array.getElem?_eq_none (by omega)]
 ·rw [if_neg (fun h => hm h.1)]
  exact inv.env e (fun i hi _ h => hm (List.mem_filterMap.2 ⟨i, by simpa using hi, h⟩))
theorem wp_freeV {id : Nat} {a : Act} {w : World} {l : List Oper} (n m : Nat) (early : List Nat) (V : List Kn) (S : Nat → Prop) (hmo : P.follows Departure.mixedOrders = true) (hV : V.length = n) (hmn : m < n) (hB : freeB l.toArray n a.tmps.size = true) (hL : lateB l.toArray n m early = true)
  (hsafe : ∀ i, i ∈ early → (knOf V i).safe S) (hs : VSteps P l.toArray Q V n m a w S 0 V) (hm : VTurn P l.toArray Q V n a w S m (knOf V m))
  (hf : ∀ (g : Nat → Value) w', FVals l.toArray V g w' → Keep S w w' → wpList P l.toArray Q (l.drop n) ⟨(dstsOf l.toArray n).foldl (fun t d => t.setIfInBounds d (g d)) a.tmps, a.defers⟩ w') : (Code.region id l.toArray true).wp P Q a w := by
 have hB' := hB
 obtain ⟨hn, _, hseq, _⟩ := freeB_facts hB'
 have hn' : n ≤ l.length := by simpa using hn
 have hdl : (l.drop n).length = l.toArray.size - n := by simp
 refine wp_region_any hmo ?_
 have := freeV_go (P := P) (Q := Q) (w0 := w) early hV hmn hB hL hsafe (fun i K hK him => by
  have := vsteps_at V 0 hs i K hK (by omega)
  rwa [Nat.zero_add] at this) hm (fun b u inv => ?_) n (List.range n) (Array.replicate l.toArray.size false) a w.drew (by simp) List.nodup_range ?_ ?_
 ·have e : n + (l.toArray.size - n) = l.toArray.size := by omega
  rw [e] at this
  exact this
 ·have hl : ∀ i, i < n → (Array.replicate n true ++ Array.replicate (l.toArray.size - n) false).getD i false = true := by
   intro i hi
   have hlt : i < (Array.replicate n true ++ Array.replicate (l.toArray.size - n) false).size := by simp; omega
   rw [Array.getD, dif_pos hlt]
   show (Array.replicate n true ++ Array.replicate (l.toArray.size - n) false)[i] = true
   rw [Array.getElem_append_left (by simpa using hi)]
   simp
  have h4 := hf (fun d => b.tmps.getD d undef) u (fun i d hid => by
   simp only [Bool.and_eq_true, decide_eq_true_eq, beq_iff_eq] at hid
   exact inv.vals i d (by omega) (hl i (by omega)) hid.2) inv.keep
  rw [← actV_filled hl inv] at h4
  have := wpAny_of_seq (P := P) (md := .any) (ops := l.toArray) (Q' := Q) (l.drop n) n _ b u (fun j => by simp) (by rw [hdl]; exact hseq) h4
  rw [hdl] at this
  exact this
 ·intro i
  rw [List.mem_range]
  constructor
  ·intro hi
   exact ⟨hi, getD_in (by simp; omega) (getD_replicate_false _ _)⟩
  ·exact fun h => h.1
 ·refine ⟨⟨by simp, fun j oj _ hl => (by rw [getD_replicate_false] at hl; cases hl), fun t _ ht => getD_in (by simpa using ht) (getD_replicate_false _ _)⟩, rfl, rfl, fun _ _ => rfl, fun i d _ hl => (by rw [getD_replicate_false] at hl; cases hl), Keep.drew (Keep.refl _ w), fun _ => Keep.drew (Keep.refl _ w)⟩
variable {a : Act} {w : World} {o : Oper} {K : Kn}
theorem v_call (f : Nat) (args : Array Value) (ho : ops[m]? = some o) (hw : Region.wanted o (yielded ops a.tmps) = true) (h : (execOp a.eval o).run P w = .ok (.enter f args) w)
  (hc : Calls P f args w fun e w' => ∃ v, e = .returned v ∧ K.p v w' ∧ Keep S w w') : wpOp P ops Q m (fun a' w' => ∃ v, a' = a.put (dstOf ops m) v ∧ K.p v w' ∧ Keep S w w') a w := by
 unfold wpOp
 simp only [ho, hw, if_true]
 refine .inl ?_
 unfold Oper.wp
 rw [h, Oper.upon_enter]
 refine hc.mono ?_
 rintro e w' ⟨v, rfl, hv, hk⟩
 exact ⟨v, by simp [dstOf, ho], hv, hk⟩
end
end Go.Proofs.Ytfpfpmhkkgfdbaa
