/-
  The contract of jobberlaw6.MsgOnly: a right command with a field that its kind doesn't name is none any more; it answers true. Condition: the tag has 32 bytes.
-/
import Derived.Test.YtdmeiffofmagjaaRuns6
import Derived.Test.YtdmeiffofmagjaaSched3
import Derived.Test.YtdmeiffofmagjaaWithin
namespace Go.Proofs.Ytdmeiffofmagjaa
open Go.RowKit
set_option linter.unusedVariables false

theorem not_right {c : Cmd} (h : c ≠ c.bare) : c.right = false := by unfold Cmd.right; rw [decide_eq_false h]; simp
theorem bare_shw (c : Cmd) (h : c.k ≠ 3) : c.bare.shw = 0 := by
  unfold Cmd.bare
  repeat' split
  all_goals first | rfl | contradiction
theorem bare_fa (c : Cmd) (h : c.k ≠ 9) : c.bare.fa = 0 := by
  unfold Cmd.bare
  repeat' split
  all_goals first | rfl | contradiction
theorem bare_seq (c : Cmd) (h : c.k = 2) : c.bare.seq = 0 := by
  unfold Cmd.bare
  simp [h]
  rfl
theorem bare_tagz (c : Cmd) (h : c.k ≠ 2) : c.bare.tag = zeros32 := by
  unfold Cmd.bare
  repeat' split
  all_goals first | rfl | contradiction
theorem only_shw (c : Cmd) (x : Int) (hx : x ≠ 0) (h : c.k ≠ 3) : Cmd.right { c with shw := x } = false := not_right fun e => by
  have h1 := bare_shw { c with shw := x } h
  rw [← e] at h1
  exact hx h1
theorem only_fa (c : Cmd) (x : Int) (hx : x ≠ 0) (h : c.k ≠ 9) : Cmd.right { c with fa := x } = false := not_right fun e => by
  have h1 := bare_fa { c with fa := x } h
  rw [← e] at h1
  exact hx h1
theorem only_seq (c : Cmd) (x : Int) (hx : x ≠ 0) (h : c.k = 2) : Cmd.right { c with seq := x } = false := not_right fun e => by
  have h1 := bare_seq { c with seq := x } h
  rw [← e] at h1
  exact hx h1
theorem only_tag (c : Cmd) (i : Nat) (hi : i < 32) (ht : c.tag.length = 32) (h : c.k ≠ 2) : Cmd.right { c with tag := c.tag.set i 1 } = false := not_right fun e => by
  have h1 := bare_tagz { c with tag := c.tag.set i 1 } h
  rw [← e] at h1
  have h2 : (c.tag.set i 1)[i]? = zeros32[i]? := by rw [show c.tag.set i 1 = zeros32 from h1]
  rw [List.getElem?_set_self (by omega)] at h2
  unfold zeros32 at h2
  rw [List.getElem?_replicate, if_pos hi] at h2
  simp at h2
theorem only_kind (c : Cmd) (x : Int) (hx : 9 < x) : Cmd.right { c with k := x } = false := by
  unfold Cmd.right isKindB rng
  have : decide (x ≤ 9) = false := by simpa using hx
  simp only [this, Bool.and_false, Bool.false_and]
/-- a byte of the sum stored -/
theorem l_set8 {ops : Array Oper} {Q : Exit → Act → World → Prop} {a : Act} {w : World} {o : Oper} {rest : List Oper} (g n i : Nat) (T : TypeId) (l : List Int) (t : List UInt8) (v : UInt8) (z : Int) (hz : z = (v.toNat : Int)) (x y : Operand) (hw : Region.wanted o (yielded ops a.tmps) = true) (hop : o.op = .store 5 x y) (hx : a.eval x = .pointer (some ⟨g, n + i * 1, none⟩)) (hy : a.eval y = .int .u8 z) (hb : Blk w g T (stc l t)) (hn : l.length = n) (hi : i < t.length)
    (hK : ∀ w', Blk w' g T (stc l (t.set i v)) → Keep (· = g) w w' → wpList Try.prog ops Q rest (a.put o.dst undef) w') : wpList Try.prog ops Q (o :: rest) a w := by
  subst hz
  subst hn
  rw [Nat.mul_one] at hx
  have hlen : l.length + i + 1 ≤ (stc l t).length := by rw [stc_len]; omega
  refine l_store (w.setCell ⟨g, l.length + i, none⟩ (.int .u8 (v.toNat : Int))) hw (exec_store1 5 x y g (l.length + i) (.int .u8 (v.toNat : Int)) hop info8s hx hy rfl rfl (hb.there _ 1 hlen)) (hK _ ?_ (Keep.setCell (Keep.refl (· = g) w) (fun _ => rfl) _))
  have := hb.set_ (l.length + i) (.int .u8 (v.toNat : Int))
  rwa [stc_setByte l t i v] at this

set_option maxRecDepth 100000 in
set_option maxHeartbeats 1600000 in
theorem only_f (c : Cmd) (n : Int) (w : World) (HT : Hid (c.tag.length = 32)) (hR : Hid (c.right = false)) : Calls Try.prog 7 #[c.v, .int .i64 n] w fun e w' => e = .returned (.bool true) ∧ Kept w w' := by
  unfold Cmd.v
  have HB0 : Hid (Blk (w.alloc (.cells c.cells.toArray 28)) w.heap.size 28 c.cells) := Blk.new w _ _
  have kw0 : Kept w (w.alloc (.cells c.cells.toArray 28)) := (Keep.refl _ w).alloc _
  go_enter Try.func7, Try.ntmps7
  go_upto_region 1 with fail
  generalize w.alloc (.cells c.cells.toArray 28) = w0 at HB0 kw0 ⊢
  generalize w.heap.size = g at HB0 ⊢
  refine wp_text 2 [.eq (c.v), .eq (.bool false)] rfl (by kernel_rfl) ?_ ?_
  · refine fsteps_cons 1 rfl (fun a u hE hD hk => f_val (o := ⟨some 9, _, _, _, _, _⟩) (c.v) rfl (wanted_none rfl _) (exec_loadS 28 (.tmp 2) (g) _ c.cells _ rfl (hE 2 (.pointer (some ⟨g, 0, none⟩)) (by kernel_rfl) (by kernel_rfl)) (HB0.out.kept hk) Try.underlying28 (by rw [Cmd.cells_len _ HT.out]; exact cmd_size)) rfl) ?_
    refine fsteps_cons 2 rfl (fun a u hE hD hk => f_call (o := ⟨some 10, _, _, _, _, _⟩) 13 #[c.v] rfl (wanted_none rfl _) (exec_call 13 _ [.tmp 9] _ [c.v] Try.func13 (by kernel_rfl) (by kernel_rfl) rfl (show [a.eval (.tmp 9)] = [c.v] from (by rw [show a.eval (.tmp 9) = c.v from (hD 0 9 (by kernel_rfl))] <;> rfl)) u) (msgRight_is c false u HT hR.out)) ?_
    exact fsteps_nil
  intro gv w1 hV k1
  rw [show dstsOf _ 2 = [9, 10] by kernel_rfl]
  simp only [List.foldl_cons, List.foldl_nil, List.setIfInBounds_toArray, List.set_cons_succ, List.set_cons_zero, List.drop_succ_cons, List.drop_zero]
  rw [show gv 10 = .bool false from hV 1 10 (by kernel_rfl)]
  clear hV
  have kw1 := kw0.trans k1
  go_wp2_with fail
  refine (msgRuns_any w1).mono ?_
  rintro e w2 ⟨rfl, k2⟩
  have kw2 := kw1.trans k2
  go_wp2
  go_ret
  exact ⟨rfl, kw2⟩

theorem exec_addk {a : Act} {o : Oper} {u : World} (x y : Operand) (t' : TypeId) (p q : Int) (hop : o.op = .binOp .add 3 x y t') (hx : a.eval x = .int .i64 p) (hy : a.eval y = .int .i64 q) (h0 : -9223372036854775808 ≤ p + q) (h1 : p + q ≤ 9223372036854775807) : (execOp a.eval o).run Try.prog u = .ok (.value (.int .i64 (p + q))) u := by
  unfold execOp
  simp only [hop, hx, hy]
  have hw : IntKind.i64.wrap (p + q) = p + q := by rw [IntKind.wrap_i64]; omega
  simp [go_sem, hw]

set_option maxRecDepth 100000 in
set_option maxHeartbeats 3200000 in
theorem only_2 (c : Cmd) (n : Int) (w : World) (HT : Hid (c.tag.length = 32)) (hR : Hid (c.right = true)) (hkk : Hid (c.k = 2)) : Calls Try.prog 7 #[c.v, .int .i64 n] w fun e w' => e = .returned (.bool true) ∧ Kept w w' := by
  unfold Cmd.v
  have HB0 : Hid (Blk (w.alloc (.cells c.cells.toArray 28)) w.heap.size 28 c.cells) := Blk.new w _ _
  have kw0 : Kept w (w.alloc (.cells c.cells.toArray 28)) := (Keep.refl _ w).alloc _
  go_enter Try.func7, Try.ntmps7
  go_upto_region 1 with fail
  generalize w.alloc (.cells c.cells.toArray 28) = w0 at HB0 kw0 ⊢
  obtain ⟨g, hg⟩ : ∃ g, g = w.heap.size := ⟨_, rfl⟩
  rw [← hg] at HB0 ⊢
  clear hg
  refine wp_text 2 [.eq (c.v), .eq (.bool true)] rfl (by kernel_rfl) ?_ ?_
  · refine fsteps_cons 1 rfl (fun a u hE hD hk => f_val (o := ⟨some 9, _, _, _, _, _⟩) (c.v) rfl (wanted_none rfl _) (exec_loadS 28 (.tmp 2) (g) _ c.cells _ rfl (hE 2 (.pointer (some ⟨g, 0, none⟩)) (by kernel_rfl) (by kernel_rfl)) (HB0.out.kept hk) Try.underlying28 (by rw [Cmd.cells_len _ HT.out]; exact cmd_size)) rfl) ?_
    refine fsteps_cons 2 rfl (fun a u hE hD hk => f_call (o := ⟨some 10, _, _, _, _, _⟩) 13 #[c.v] rfl (wanted_none rfl _) (exec_call 13 _ [.tmp 9] _ [c.v] Try.func13 (by kernel_rfl) (by kernel_rfl) rfl (show [a.eval (.tmp 9)] = [c.v] from (by rw [show a.eval (.tmp 9) = c.v from (hD 0 9 (by kernel_rfl))] <;> rfl)) u) (msgRight_is c true u HT hR.out)) ?_
    exact fsteps_nil
  intro gv w1 hV k1
  rw [show dstsOf _ 2 = [9, 10] by kernel_rfl]
  simp only [List.foldl_cons, List.foldl_nil, List.setIfInBounds_toArray, List.set_cons_succ, List.set_cons_zero, List.drop_succ_cons, List.drop_zero]
  rw [show gv 10 = .bool true from hV 1 10 (by kernel_rfl)]
  clear hV
  have kw1 := kw0.trans k1
  have HB1 := Lib.hid (HB0.out.kept k1)
  clear kw0 k1 HB0
  go_upto_region 3 with fail
  refine wp_region_lit ?_
  refine l_val (o := ⟨some 13, _, _, _, _, _⟩) (.int .i64 n) rfl (exec_move (.tmp 1) (.int .i64 n) rfl (by kernel_rfl)) ?_
  simp only [Act.put, List.setIfInBounds_toArray, List.set_cons_succ, List.set_cons_zero]
  refine l_call (o := ⟨some 14, _, _, _, _, _⟩) 21 #[.int .i64 n, .int .i64 1, .int .i64 9] rfl (exec_call 21 _ [.tmp 13, .const (.int .i64 1), .const (.int .i64 9)] _ _ Try.func21 (by kernel_rfl) (by kernel_rfl) rfl (by kernel_rfl) _) ?_
  refine (within_any n 1 9 w1 (by omega) (by omega) (by omega)).mono ?_
  rintro e w2 ⟨rfl, rfl⟩
  obtain ⟨k, hk, hk1, hk9⟩ : ∃ k : Nat, 1 + n % (9 - 1 + 1) = (k : Int) ∧ 1 ≤ k ∧ k ≤ 9 := ⟨(1 + n % 9).toNat, by omega, by omega, by omega⟩
  rw [hk]
  refine ⟨_, rfl, ?_⟩
  clear hk
  simp only [Act.put, List.setIfInBounds_toArray, List.set_cons_succ, List.set_cons_zero]
  refine l_val (o := ⟨some 5, _, _, _, _, _⟩) (.int .i64 (k : Int)) rfl (exec_assign (.tmp 14) (.int .i64 (k : Int)) rfl (by kernel_rfl)) ?_
  simp only [Act.put, List.setIfInBounds_toArray, List.set_cons_succ, List.set_cons_zero]
  refine wpList_nil ?_
  go_upto_region 4 with fail
  refine wp_alloc3 [0, 1, 2] 28 (Cmd.z 0).cells 3 4 5 6 7 8 [(6, 1), (7, 1), (8, 1)] (by kernel_rfl) cmd_zero (by kernel_rfl) ?_
  refine p_val (o := ⟨some 15, _, _, _, _, _⟩) c.v rfl rfl (fun u hu => exec_loadS 28 (.tmp 2) g 28 c.cells _ rfl (by kernel_rfl) (HB1.out.kept hu) Try.underlying28 (by rw [Cmd.cells_len c HT.out]; exact cmd_size)) ?_
  simp only [Act.put, List.setIfInBounds_toArray, List.set_cons_succ, List.set_cons_zero]
  refine p_val (o := ⟨some 16, _, _, _, _, _⟩) c.v rfl rfl (fun u hu => exec_loadS 28 (.tmp 2) g 28 c.cells _ rfl (by kernel_rfl) (HB1.out.kept hu) Try.underlying28 (by rw [Cmd.cells_len c HT.out]; exact cmd_size)) ?_
  simp only [Act.put, List.setIfInBounds_toArray, List.set_cons_succ, List.set_cons_zero]
  refine p_val (o := ⟨some 17, _, _, _, _, _⟩) c.v rfl rfl (fun u hu => exec_loadS 28 (.tmp 2) g 28 c.cells _ rfl (by kernel_rfl) (HB1.out.kept hu) Try.underlying28 (by rw [Cmd.cells_len c HT.out]; exact cmd_size)) ?_
  simp only [Act.put, List.setIfInBounds_toArray, List.set_cons_succ, List.set_cons_zero]
  intro ga gb gd u1 nab nad nbd la lb ld A1 B1 D1 ku1
  simp only [List.setIfInBounds_toArray, List.set_cons_succ, List.set_cons_zero]
  refine s_setS (o := ⟨none, _, _, _, _, _⟩) 28 ga 28 (Cmd.z 0).cells c.cells (.tmp 6) (.tmp 15) rfl rfl rfl (by kernel_rfl) (by kernel_rfl) A1 (by rw [Cmd.cells_len c HT.out]; exact cmd_size) (by rw [Cmd.cells_len c HT.out]; rfl) (stc_one _ _) (fun w' hk => Kept.trans' ku1 hk (by omega)) ?_
  intro u2 A2 k2
  have ku2 : Kept w1 u2 := Kept.trans' ku1 k2 (by omega)
  have B2 := B1.keep k2 (by omega)
  have D2 := D1.keep k2 (by omega)
  simp only [Act.put]
  refine s_setS (o := ⟨none, _, _, _, _, _⟩) 28 gb 28 (Cmd.z 0).cells c.cells (.tmp 7) (.tmp 16) rfl rfl rfl (by kernel_rfl) (by kernel_rfl) B2 (by rw [Cmd.cells_len c HT.out]; exact cmd_size) (by rw [Cmd.cells_len c HT.out]; rfl) (stc_one _ _) (fun w' hk => Kept.trans' ku2 hk (by omega)) ?_
  intro u3 B3 k3
  have ku3 : Kept w1 u3 := Kept.trans' ku2 k3 (by omega)
  have A3 := A2.keep k3 (by omega)
  have D3 := D2.keep k3 (by omega)
  simp only [Act.put]
  refine s_setS (o := ⟨none, _, _, _, _, _⟩) 28 gd 28 (Cmd.z 0).cells c.cells (.tmp 8) (.tmp 17) rfl rfl rfl (by kernel_rfl) (by kernel_rfl) D3 (by rw [Cmd.cells_len c HT.out]; exact cmd_size) (by rw [Cmd.cells_len c HT.out]; rfl) (stc_one _ _) (fun w' hk => Kept.trans' ku3 hk (by omega)) ?_
  intro u4 D4 k4
  have ku4 : Kept w1 u4 := Kept.trans' ku3 k4 (by omega)
  have A4 := A3.keep k4 (by omega)
  have B4 := B3.keep k4 (by omega)
  simp only [Act.put]
  refine s_done ?_
  have HA : Hid (Blk u4 ga 28 (stc c.l c.tag)) := A4
  have HBb : Hid (Blk u4 gb 28 (stc c.l c.tag)) := B4
  have HD : Hid (Blk u4 gd 28 (stc c.l c.tag)) := D4
  have HC := Lib.hid (HB1.out.kept ku4)
  have kw4 := kw1.trans ku4
  have hs : Hid (w.heap.size ≤ w1.heap.size) := kw1.size
  have hab : Hid (ga ≠ gb) := nab
  have had : Hid (ga ≠ gd) := nad
  have hbd : Hid (gb ≠ gd) := nbd
  have hla : Hid (w1.heap.size ≤ ga) := la
  have hlb : Hid (w1.heap.size ≤ gb) := lb
  have hld : Hid (w1.heap.size ≤ gd) := ld
  have hgl : Hid (g < w1.heap.size) := HB1.out.lt
  clear A1 A2 A3 A4 B1 B2 B3 B4 D1 D2 D3 D4 k2 k3 k4 ku1 ku2 ku3 ku4 nab nad nbd la lb ld HB1 kw1
  have hc4 : u4.cell? ⟨g, 0, none⟩ = some (.int .i64 2) := by rw [← hkk.out]; exact HC.out.fld 0 _ rfl
  go_upto_region 6 with fail
  refine wp_region_lit ?_
  refine l_val (o := ⟨some 21, _, _, _, _, _⟩) (.int .i64 (k : Int)) rfl (exec_move (.tmp 5) (.int .i64 (k : Int)) rfl (by kernel_rfl)) ?_
  simp only [Act.put, List.setIfInBounds_toArray, List.set_cons_succ, List.set_cons_zero]
  refine l_val (o := ⟨some 22, _, _, _, _, _⟩) (.pointer (some ⟨ga, 9, none⟩)) rfl (exec_fld 28 9 9 (.tmp 6) (ga) rfl (by kernel_rfl) (by kernel_rfl)) ?_
  simp only [Act.put, List.setIfInBounds_toArray, List.set_cons_succ, List.set_cons_zero]
  refine l_setf (o := ⟨none, _, _, _, _, _⟩) ga 9 28 c.l c.tag (k : Int) (.tmp 22) (.tmp 21) rfl rfl (by kernel_rfl) (by kernel_rfl) HA.out (by simp [Cmd.l]) ?_
  intro u5 A5 k5 z5
  simp only [Act.put]
  refine wpList_nil ?_
  have HA5 : Hid (Blk u5 ga 28 (Cmd.cells { c with shw := (k : Int) })) := A5
  have HB5 := Lib.hid (HBb.out.keep k5 (by have := hab.out; omega))
  have HD5 := Lib.hid (HD.out.keep k5 (by have := had.out; omega))
  have HC5 := Lib.hid (HC.out.keep k5 (by have := hgl.out; have := hla.out; omega))
  have kw5 : Kept w u5 := Kept.trans' kw4 k5 (by have := hs.out; have := hla.out; omega)
  have hc5 : u5.cell? ⟨g, 0, none⟩ = some (.int .i64 2) := by rw [← hkk.out]; exact HC5.out.fld 0 _ rfl
  clear A5 k5 z5 HA HBb HD HC kw4 hc4
  go_upto_region 9 with fail
  refine wp_region_lit ?_
  refine l_val (o := ⟨some 28, _, _, _, _, _⟩) (.int .i64 (k : Int)) rfl (exec_move (.tmp 5) (.int .i64 (k : Int)) rfl (by kernel_rfl)) ?_
  simp only [Act.put, List.setIfInBounds_toArray, List.set_cons_succ, List.set_cons_zero]
  refine l_val (o := ⟨some 29, _, _, _, _, _⟩) (.pointer (some ⟨gb, 1, none⟩)) rfl (exec_fld 28 1 1 (.tmp 7) (gb) rfl (by kernel_rfl) (by kernel_rfl)) ?_
  simp only [Act.put, List.setIfInBounds_toArray, List.set_cons_succ, List.set_cons_zero]
  refine l_setf (o := ⟨none, _, _, _, _, _⟩) gb 1 28 c.l c.tag (k : Int) (.tmp 29) (.tmp 28) rfl rfl (by kernel_rfl) (by kernel_rfl) HB5.out (by simp [Cmd.l]) ?_
  intro u6 B6 k6 z6
  simp only [Act.put]
  refine wpList_nil ?_
  have HB6 : Hid (Blk u6 gb 28 (Cmd.cells { c with seq := (k : Int) })) := B6
  have HA6 := Lib.hid (HA5.out.keep k6 (by have := hab.out; omega))
  have HD6 := Lib.hid (HD5.out.keep k6 (by have := hbd.out; omega))
  have kw6 : Kept w u6 := Kept.trans' kw5 k6 (by have := hs.out; have := hlb.out; omega)
  clear B6 k6 HA5 HB5 HD5 HC5 kw5 hc5 z6
  go_upto_region 11 with fail
  refine wp_region_lit ?_
  refine l_val (o := ⟨some 33, _, _, _, _, _⟩) (.int .i64 (k : Int)) rfl (exec_move (.tmp 5) (.int .i64 (k : Int)) rfl (by kernel_rfl)) ?_
  simp only [Act.put, List.setIfInBounds_toArray, List.set_cons_succ, List.set_cons_zero]
  refine l_val (o := ⟨some 34, _, _, _, _, _⟩) (.int .i64 (9 + (k : Int))) rfl (exec_addk (.const (.int .i64 9)) (.tmp 33) _ 9 (k : Int) rfl rfl (by kernel_rfl) (by omega) (by omega)) ?_
  simp only [Act.put, List.setIfInBounds_toArray, List.set_cons_succ, List.set_cons_zero]
  refine l_val (o := ⟨some 35, _, _, _, _, _⟩) (.pointer (some ⟨gd, 0, none⟩)) rfl (exec_fld 28 0 0 (.tmp 8) (gd) rfl (by kernel_rfl) (by kernel_rfl)) ?_
  simp only [Act.put, List.setIfInBounds_toArray, List.set_cons_succ, List.set_cons_zero]
  refine l_setf (o := ⟨none, _, _, _, _, _⟩) gd 0 28 c.l c.tag (9 + (k : Int)) (.tmp 35) (.tmp 34) rfl rfl (by kernel_rfl) (by kernel_rfl) HD6.out (by simp [Cmd.l]) ?_
  intro u7 D7 k7 z7
  simp only [Act.put]
  refine wpList_nil ?_
  have HD7 : Hid (Blk u7 gd 28 (Cmd.cells { c with k := 9 + (k : Int) })) := D7
  have HA7 := Lib.hid (HA6.out.keep k7 (by have := had.out; omega))
  have HB7 := Lib.hid (HB6.out.keep k7 (by have := hbd.out; omega))
  have kw7 : Kept w u7 := Kept.trans' kw6 k7 (by have := hs.out; have := hld.out; omega)
  clear D7 k7 z7 HA6 HB6 HD6 kw6
  obtain ⟨ca, hca⟩ : ∃ ca : Cmd, ca = { c with shw := (k : Int) } := ⟨_, rfl⟩
  obtain ⟨cb, hcb⟩ : ∃ cb : Cmd, cb = { c with seq := (k : Int) } := ⟨_, rfl⟩
  obtain ⟨cd, hcd⟩ : ∃ cd : Cmd, cd = { c with k := 9 + (k : Int) } := ⟨_, rfl⟩
  have Ra : Hid (ca.right = false) := by rw [hca]; exact only_shw c _ (by omega) (by rw [hkk.out]; decide)
  have Rb : Hid (cb.right = false) := by rw [hcb]; exact only_seq c _ (by omega) hkk.out
  have Rd : Hid (cd.right = false) := by rw [hcd]; exact only_kind c _ (by omega)
  have Ta : Hid (ca.tag.length = 32) := by rw [hca]; exact HT.out
  have Tb : Hid (cb.tag.length = 32) := by rw [hcb]; exact HT.out
  have Td : Hid (cd.tag.length = 32) := by rw [hcd]; exact HT.out
  rw [← hca] at HA7
  rw [← hcb] at HB7
  rw [← hcd] at HD7
  clear hca hcb hcd
  go_upto_region 12 with fail
  refine wp_text 16 [.eq (ca.v), .eq (.bool false), .eq (.bool true), .eq (.bool true), .eq (cb.v), .eq (.bool false), .eq (.bool true), .eq (.bool true), .eq (.bool true), .eq (cd.v), .eq (.bool false), .eq (.bool true), .eq (.bool true), .eq (.bool true), .eq (.bool true), .eq (.bool true)] rfl (by kernel_rfl) ?_ ?_
  · refine fsteps_cons 1 rfl (fun a u hE hD hk => f_val (o := ⟨some 36, _, _, _, _, _⟩) (ca.v) rfl (wanted_none rfl _) (exec_loadS 28 (.tmp 6) (ga) _ ca.cells _ rfl (hE 6 (.pointer (some ⟨ga, 0, none⟩)) (by kernel_rfl) (by kernel_rfl)) (HA7.out.kept hk) Try.underlying28 (by rw [Cmd.cells_len _ Ta.out]; exact cmd_size)) rfl) ?_
    refine fsteps_cons 2 rfl (fun a u hE hD hk => f_call (o := ⟨some 37, _, _, _, _, _⟩) 13 #[ca.v] rfl (wanted_none rfl _) (exec_call 13 _ [.tmp 36] _ [ca.v] Try.func13 (by kernel_rfl) (by kernel_rfl) rfl (show [a.eval (.tmp 36)] = [ca.v] from (by rw [show a.eval (.tmp 36) = ca.v from (hD 0 36 (by kernel_rfl))] <;> rfl)) u) (msgRight_is ca false u Ta Ra.out)) ?_
    refine fsteps_cons 3 rfl (fun a u hE hD hk => f_val (o := ⟨some 38, _, _, _, _, _⟩) (.bool true) rfl (wanted_none rfl _) (exec_not _ (.tmp 37) false rfl (hD 1 37 (by kernel_rfl))) rfl) ?_
    refine fsteps_cons 4 rfl (fun a u hE hD hk => f_val (o := ⟨some 39, _, _, _, _, _⟩) (.bool true) rfl (wanted_none rfl _) (exec_move (.tmp 38) (.bool true) rfl (hD 2 38 (by kernel_rfl))) rfl) ?_
    refine fsteps_cons 5 rfl (fun a u hE hD hk => f_val (o := ⟨some 40, _, _, _, _, _⟩) (cb.v) rfl (wanted_at (b := true) true rfl rfl (hD 3 39 (by kernel_rfl))) (exec_loadS 28 (.tmp 7) (gb) _ cb.cells _ rfl (hE 7 (.pointer (some ⟨gb, 0, none⟩)) (by kernel_rfl) (by kernel_rfl)) (HB7.out.kept hk) Try.underlying28 (by rw [Cmd.cells_len _ Tb.out]; exact cmd_size)) rfl) ?_
    refine fsteps_cons 6 rfl (fun a u hE hD hk => f_call (o := ⟨some 41, _, _, _, _, _⟩) 13 #[cb.v] rfl (wanted_at (b := true) true rfl rfl (hD 3 39 (by kernel_rfl))) (exec_call 13 _ [.tmp 40] _ [cb.v] Try.func13 (by kernel_rfl) (by kernel_rfl) rfl (show [a.eval (.tmp 40)] = [cb.v] from (by rw [show a.eval (.tmp 40) = cb.v from (hD 4 40 (by kernel_rfl))] <;> rfl)) u) (msgRight_is cb false u Tb Rb.out)) ?_
    refine fsteps_cons 7 rfl (fun a u hE hD hk => f_val (o := ⟨some 42, _, _, _, _, _⟩) (.bool true) rfl (wanted_at (b := true) true rfl rfl (hD 3 39 (by kernel_rfl))) (exec_not _ (.tmp 41) false rfl (hD 5 41 (by kernel_rfl))) rfl) ?_
    refine fsteps_cons 8 rfl (fun a u hE hD hk => f_val (o := ⟨some 43, _, _, _, _, _⟩) (.bool true) rfl (wanted_none rfl _) (exec_pick (.tmp 39) (.tmp 42) (.const (.bool false)) (.bool true) rfl (hD 3 39 (by kernel_rfl)) (hD 6 42 (by kernel_rfl))) rfl) ?_
    refine fsteps_cons 9 rfl (fun a u hE hD hk => f_val (o := ⟨some 44, _, _, _, _, _⟩) (.bool true) rfl (wanted_none rfl _) (exec_move (.tmp 43) (.bool true) rfl (hD 7 43 (by kernel_rfl))) rfl) ?_
    refine fsteps_cons 10 rfl (fun a u hE hD hk => f_val (o := ⟨some 45, _, _, _, _, _⟩) (cd.v) rfl (wanted_at (b := true) true rfl rfl (hD 8 44 (by kernel_rfl))) (exec_loadS 28 (.tmp 8) (gd) _ cd.cells _ rfl (hE 8 (.pointer (some ⟨gd, 0, none⟩)) (by kernel_rfl) (by kernel_rfl)) (HD7.out.kept hk) Try.underlying28 (by rw [Cmd.cells_len _ Td.out]; exact cmd_size)) rfl) ?_
    refine fsteps_cons 11 rfl (fun a u hE hD hk => f_call (o := ⟨some 46, _, _, _, _, _⟩) 13 #[cd.v] rfl (wanted_at (b := true) true rfl rfl (hD 8 44 (by kernel_rfl))) (exec_call 13 _ [.tmp 45] _ [cd.v] Try.func13 (by kernel_rfl) (by kernel_rfl) rfl (show [a.eval (.tmp 45)] = [cd.v] from (by rw [show a.eval (.tmp 45) = cd.v from (hD 9 45 (by kernel_rfl))] <;> rfl)) u) (msgRight_is cd false u Td Rd.out)) ?_
    refine fsteps_cons 12 rfl (fun a u hE hD hk => f_val (o := ⟨some 47, _, _, _, _, _⟩) (.bool true) rfl (wanted_at (b := true) true rfl rfl (hD 8 44 (by kernel_rfl))) (exec_not _ (.tmp 46) false rfl (hD 10 46 (by kernel_rfl))) rfl) ?_
    refine fsteps_cons 13 rfl (fun a u hE hD hk => f_val (o := ⟨some 48, _, _, _, _, _⟩) (.bool true) rfl (wanted_none rfl _) (exec_pick (.tmp 44) (.tmp 47) (.const (.bool false)) (.bool true) rfl (hD 8 44 (by kernel_rfl)) (hD 11 47 (by kernel_rfl))) rfl) ?_
    refine fsteps_cons 14 rfl (fun a u hE hD hk => f_val (o := ⟨some 49, _, _, _, _, _⟩) (.bool true) rfl (wanted_none rfl _) (exec_move (.tmp 48) (.bool true) rfl (hD 12 48 (by kernel_rfl))) rfl) ?_
    refine fsteps_cons 15 rfl (fun a u hE hD hk => f_call (o := ⟨some 50, _, _, _, _, _⟩) 3 #[] rfl (wanted_at (b := true) true rfl rfl (hD 13 49 (by kernel_rfl))) (exec_call 3 _ [] _ [] Try.func3 (by kernel_rfl) (by kernel_rfl) rfl rfl u) (runs_gives u)) ?_
    refine fsteps_cons 16 rfl (fun a u hE hD hk => f_val (o := ⟨some 51, _, _, _, _, _⟩) (.bool true) rfl (wanted_none rfl _) (exec_pick (.tmp 49) (.tmp 50) (.const (.bool false)) (.bool true) rfl (hD 13 49 (by kernel_rfl)) (hD 14 50 (by kernel_rfl))) rfl) ?_
    exact fsteps_nil
  intro gv u8 hV k8
  rw [show dstsOf _ 16 = [36, 37, 38, 39, 40, 41, 42, 43, 44, 45, 46, 47, 48, 49, 50, 51] by kernel_rfl]
  simp only [List.foldl_cons, List.foldl_nil, List.setIfInBounds_toArray, List.set_cons_succ, List.set_cons_zero, List.drop_succ_cons, List.drop_zero]
  rw [show gv 51 = .bool true from hV 15 51 (by kernel_rfl)]
  clear hV
  have kw8 := kw7.trans k8
  go_wp2
  go_ret
  exact ⟨rfl, kw8⟩

set_option maxRecDepth 100000 in
set_option maxHeartbeats 3200000 in
theorem only_3 (c : Cmd) (n : Int) (w : World) (HT : Hid (c.tag.length = 32)) (hR : Hid (c.right = true)) (hkk : Hid (c.k = 3)) : Calls Try.prog 7 #[c.v, .int .i64 n] w fun e w' => e = .returned (.bool true) ∧ Kept w w' := by
  unfold Cmd.v
  have HB0 : Hid (Blk (w.alloc (.cells c.cells.toArray 28)) w.heap.size 28 c.cells) := Blk.new w _ _
  have kw0 : Kept w (w.alloc (.cells c.cells.toArray 28)) := (Keep.refl _ w).alloc _
  go_enter Try.func7, Try.ntmps7
  go_upto_region 1 with fail
  generalize w.alloc (.cells c.cells.toArray 28) = w0 at HB0 kw0 ⊢
  obtain ⟨g, hg⟩ : ∃ g, g = w.heap.size := ⟨_, rfl⟩
  rw [← hg] at HB0 ⊢
  clear hg
  refine wp_text 2 [.eq (c.v), .eq (.bool true)] rfl (by kernel_rfl) ?_ ?_
  · refine fsteps_cons 1 rfl (fun a u hE hD hk => f_val (o := ⟨some 9, _, _, _, _, _⟩) (c.v) rfl (wanted_none rfl _) (exec_loadS 28 (.tmp 2) (g) _ c.cells _ rfl (hE 2 (.pointer (some ⟨g, 0, none⟩)) (by kernel_rfl) (by kernel_rfl)) (HB0.out.kept hk) Try.underlying28 (by rw [Cmd.cells_len _ HT.out]; exact cmd_size)) rfl) ?_
    refine fsteps_cons 2 rfl (fun a u hE hD hk => f_call (o := ⟨some 10, _, _, _, _, _⟩) 13 #[c.v] rfl (wanted_none rfl _) (exec_call 13 _ [.tmp 9] _ [c.v] Try.func13 (by kernel_rfl) (by kernel_rfl) rfl (show [a.eval (.tmp 9)] = [c.v] from (by rw [show a.eval (.tmp 9) = c.v from (hD 0 9 (by kernel_rfl))] <;> rfl)) u) (msgRight_is c true u HT hR.out)) ?_
    exact fsteps_nil
  intro gv w1 hV k1
  rw [show dstsOf _ 2 = [9, 10] by kernel_rfl]
  simp only [List.foldl_cons, List.foldl_nil, List.setIfInBounds_toArray, List.set_cons_succ, List.set_cons_zero, List.drop_succ_cons, List.drop_zero]
  rw [show gv 10 = .bool true from hV 1 10 (by kernel_rfl)]
  clear hV
  have kw1 := kw0.trans k1
  have HB1 := Lib.hid (HB0.out.kept k1)
  clear kw0 k1 HB0
  go_upto_region 3 with fail
  refine wp_region_lit ?_
  refine l_val (o := ⟨some 13, _, _, _, _, _⟩) (.int .i64 n) rfl (exec_move (.tmp 1) (.int .i64 n) rfl (by kernel_rfl)) ?_
  simp only [Act.put, List.setIfInBounds_toArray, List.set_cons_succ, List.set_cons_zero]
  refine l_call (o := ⟨some 14, _, _, _, _, _⟩) 21 #[.int .i64 n, .int .i64 1, .int .i64 9] rfl (exec_call 21 _ [.tmp 13, .const (.int .i64 1), .const (.int .i64 9)] _ _ Try.func21 (by kernel_rfl) (by kernel_rfl) rfl (by kernel_rfl) _) ?_
  refine (within_any n 1 9 w1 (by omega) (by omega) (by omega)).mono ?_
  rintro e w2 ⟨rfl, rfl⟩
  obtain ⟨k, hk, hk1, hk9⟩ : ∃ k : Nat, 1 + n % (9 - 1 + 1) = (k : Int) ∧ 1 ≤ k ∧ k ≤ 9 := ⟨(1 + n % 9).toNat, by omega, by omega, by omega⟩
  rw [hk]
  refine ⟨_, rfl, ?_⟩
  clear hk
  simp only [Act.put, List.setIfInBounds_toArray, List.set_cons_succ, List.set_cons_zero]
  refine l_val (o := ⟨some 5, _, _, _, _, _⟩) (.int .i64 (k : Int)) rfl (exec_assign (.tmp 14) (.int .i64 (k : Int)) rfl (by kernel_rfl)) ?_
  simp only [Act.put, List.setIfInBounds_toArray, List.set_cons_succ, List.set_cons_zero]
  refine wpList_nil ?_
  go_upto_region 4 with fail
  refine wp_alloc3 [0, 1, 2] 28 (Cmd.z 0).cells 3 4 5 6 7 8 [(6, 1), (7, 1), (8, 1)] (by kernel_rfl) cmd_zero (by kernel_rfl) ?_
  refine p_val (o := ⟨some 15, _, _, _, _, _⟩) c.v rfl rfl (fun u hu => exec_loadS 28 (.tmp 2) g 28 c.cells _ rfl (by kernel_rfl) (HB1.out.kept hu) Try.underlying28 (by rw [Cmd.cells_len c HT.out]; exact cmd_size)) ?_
  simp only [Act.put, List.setIfInBounds_toArray, List.set_cons_succ, List.set_cons_zero]
  refine p_val (o := ⟨some 16, _, _, _, _, _⟩) c.v rfl rfl (fun u hu => exec_loadS 28 (.tmp 2) g 28 c.cells _ rfl (by kernel_rfl) (HB1.out.kept hu) Try.underlying28 (by rw [Cmd.cells_len c HT.out]; exact cmd_size)) ?_
  simp only [Act.put, List.setIfInBounds_toArray, List.set_cons_succ, List.set_cons_zero]
  refine p_val (o := ⟨some 17, _, _, _, _, _⟩) c.v rfl rfl (fun u hu => exec_loadS 28 (.tmp 2) g 28 c.cells _ rfl (by kernel_rfl) (HB1.out.kept hu) Try.underlying28 (by rw [Cmd.cells_len c HT.out]; exact cmd_size)) ?_
  simp only [Act.put, List.setIfInBounds_toArray, List.set_cons_succ, List.set_cons_zero]
  intro ga gb gd u1 nab nad nbd la lb ld A1 B1 D1 ku1
  simp only [List.setIfInBounds_toArray, List.set_cons_succ, List.set_cons_zero]
  refine s_setS (o := ⟨none, _, _, _, _, _⟩) 28 ga 28 (Cmd.z 0).cells c.cells (.tmp 6) (.tmp 15) rfl rfl rfl (by kernel_rfl) (by kernel_rfl) A1 (by rw [Cmd.cells_len c HT.out]; exact cmd_size) (by rw [Cmd.cells_len c HT.out]; rfl) (stc_one _ _) (fun w' hk => Kept.trans' ku1 hk (by omega)) ?_
  intro u2 A2 k2
  have ku2 : Kept w1 u2 := Kept.trans' ku1 k2 (by omega)
  have B2 := B1.keep k2 (by omega)
  have D2 := D1.keep k2 (by omega)
  simp only [Act.put]
  refine s_setS (o := ⟨none, _, _, _, _, _⟩) 28 gb 28 (Cmd.z 0).cells c.cells (.tmp 7) (.tmp 16) rfl rfl rfl (by kernel_rfl) (by kernel_rfl) B2 (by rw [Cmd.cells_len c HT.out]; exact cmd_size) (by rw [Cmd.cells_len c HT.out]; rfl) (stc_one _ _) (fun w' hk => Kept.trans' ku2 hk (by omega)) ?_
  intro u3 B3 k3
  have ku3 : Kept w1 u3 := Kept.trans' ku2 k3 (by omega)
  have A3 := A2.keep k3 (by omega)
  have D3 := D2.keep k3 (by omega)
  simp only [Act.put]
  refine s_setS (o := ⟨none, _, _, _, _, _⟩) 28 gd 28 (Cmd.z 0).cells c.cells (.tmp 8) (.tmp 17) rfl rfl rfl (by kernel_rfl) (by kernel_rfl) D3 (by rw [Cmd.cells_len c HT.out]; exact cmd_size) (by rw [Cmd.cells_len c HT.out]; rfl) (stc_one _ _) (fun w' hk => Kept.trans' ku3 hk (by omega)) ?_
  intro u4 D4 k4
  have ku4 : Kept w1 u4 := Kept.trans' ku3 k4 (by omega)
  have A4 := A3.keep k4 (by omega)
  have B4 := B3.keep k4 (by omega)
  simp only [Act.put]
  refine s_done ?_
  have HA : Hid (Blk u4 ga 28 (stc c.l c.tag)) := A4
  have HBb : Hid (Blk u4 gb 28 (stc c.l c.tag)) := B4
  have HD : Hid (Blk u4 gd 28 (stc c.l c.tag)) := D4
  have HC := Lib.hid (HB1.out.kept ku4)
  have kw4 := kw1.trans ku4
  have hs : Hid (w.heap.size ≤ w1.heap.size) := kw1.size
  have hab : Hid (ga ≠ gb) := nab
  have had : Hid (ga ≠ gd) := nad
  have hbd : Hid (gb ≠ gd) := nbd
  have hla : Hid (w1.heap.size ≤ ga) := la
  have hlb : Hid (w1.heap.size ≤ gb) := lb
  have hld : Hid (w1.heap.size ≤ gd) := ld
  have hgl : Hid (g < w1.heap.size) := HB1.out.lt
  clear A1 A2 A3 A4 B1 B2 B3 B4 D1 D2 D3 D4 k2 k3 k4 ku1 ku2 ku3 ku4 nab nad nbd la lb ld HB1 kw1
  have hc4 : u4.cell? ⟨g, 0, none⟩ = some (.int .i64 3) := by rw [← hkk.out]; exact HC.out.fld 0 _ rfl
  go_upto_region 7 with fail
  refine wp_region_lit ?_
  refine l_val (o := ⟨some 23, _, _, _, _, _⟩) (.int .i64 (k : Int)) rfl (exec_move (.tmp 5) (.int .i64 (k : Int)) rfl (by kernel_rfl)) ?_
  simp only [Act.put, List.setIfInBounds_toArray, List.set_cons_succ, List.set_cons_zero]
  refine l_val (o := ⟨some 24, _, _, _, _, _⟩) (.pointer (some ⟨ga, 12, none⟩)) rfl (exec_fld 28 12 12 (.tmp 6) (ga) rfl (by kernel_rfl) (by kernel_rfl)) ?_
  simp only [Act.put, List.setIfInBounds_toArray, List.set_cons_succ, List.set_cons_zero]
  refine l_setf (o := ⟨none, _, _, _, _, _⟩) ga 12 28 c.l c.tag (k : Int) (.tmp 24) (.tmp 23) rfl rfl (by kernel_rfl) (by kernel_rfl) HA.out (by simp [Cmd.l]) ?_
  intro u5 A5 k5 z5
  simp only [Act.put]
  refine wpList_nil ?_
  have HA5 : Hid (Blk u5 ga 28 (Cmd.cells { c with fa := (k : Int) })) := A5
  have HB5 := Lib.hid (HBb.out.keep k5 (by have := hab.out; omega))
  have HD5 := Lib.hid (HD.out.keep k5 (by have := had.out; omega))
  have HC5 := Lib.hid (HC.out.keep k5 (by have := hgl.out; have := hla.out; omega))
  have kw5 : Kept w u5 := Kept.trans' kw4 k5 (by have := hs.out; have := hla.out; omega)
  have hc5 : u5.cell? ⟨g, 0, none⟩ = some (.int .i64 3) := by rw [← hkk.out]; exact HC5.out.fld 0 _ rfl
  clear A5 k5 z5 HA HBb HD HC kw4 hc4
  go_upto_region 10 with fail
  refine wp_region_lit ?_
  refine l_val (o := ⟨some 30, _, _, _, _, _⟩) (.int .i64 (k : Int)) rfl (exec_move (.tmp 5) (.int .i64 (k : Int)) rfl (by kernel_rfl)) ?_
  simp only [Act.put, List.setIfInBounds_toArray, List.set_cons_succ, List.set_cons_zero]
  refine l_val (o := ⟨some 31, _, _, _, _, _⟩) (.pointer (some ⟨gb, 14, none⟩)) rfl (exec_fld 28 14 14 (.tmp 7) (gb) rfl (by kernel_rfl) (by kernel_rfl)) ?_
  simp only [Act.put, List.setIfInBounds_toArray, List.set_cons_succ, List.set_cons_zero]
  refine l_val (o := ⟨some 32, _, _, _, _, _⟩) (.pointer (some ⟨gb, 14 + k * 1, none⟩)) rfl (exec_elem 26 5 32 1 (.tmp 31) (.tmp 30) gb 14 k rfl Try.underlying26 info8s (by kernel_rfl) (by kernel_rfl) (by omega)) ?_
  simp only [Act.put, List.setIfInBounds_toArray, List.set_cons_succ, List.set_cons_zero]
  refine l_set8 (o := ⟨none, _, _, _, _, _⟩) gb 14 k 28 c.l c.tag 1 1 rfl (.tmp 32) (.const (.int .u8 1)) rfl rfl (by kernel_rfl) rfl HB5.out rfl (by rw [HT.out]; omega) ?_
  intro u6 B6 k6
  simp only [Act.put]
  refine wpList_nil ?_
  have HB6 : Hid (Blk u6 gb 28 (Cmd.cells { c with tag := c.tag.set k 1 })) := B6
  have HA6 := Lib.hid (HA5.out.keep k6 (by have := hab.out; omega))
  have HD6 := Lib.hid (HD5.out.keep k6 (by have := hbd.out; omega))
  have kw6 : Kept w u6 := Kept.trans' kw5 k6 (by have := hs.out; have := hlb.out; omega)
  clear B6 k6 HA5 HB5 HD5 HC5 kw5 hc5
  go_upto_region 11 with fail
  refine wp_region_lit ?_
  refine l_val (o := ⟨some 33, _, _, _, _, _⟩) (.int .i64 (k : Int)) rfl (exec_move (.tmp 5) (.int .i64 (k : Int)) rfl (by kernel_rfl)) ?_
  simp only [Act.put, List.setIfInBounds_toArray, List.set_cons_succ, List.set_cons_zero]
  refine l_val (o := ⟨some 34, _, _, _, _, _⟩) (.int .i64 (9 + (k : Int))) rfl (exec_addk (.const (.int .i64 9)) (.tmp 33) _ 9 (k : Int) rfl rfl (by kernel_rfl) (by omega) (by omega)) ?_
  simp only [Act.put, List.setIfInBounds_toArray, List.set_cons_succ, List.set_cons_zero]
  refine l_val (o := ⟨some 35, _, _, _, _, _⟩) (.pointer (some ⟨gd, 0, none⟩)) rfl (exec_fld 28 0 0 (.tmp 8) (gd) rfl (by kernel_rfl) (by kernel_rfl)) ?_
  simp only [Act.put, List.setIfInBounds_toArray, List.set_cons_succ, List.set_cons_zero]
  refine l_setf (o := ⟨none, _, _, _, _, _⟩) gd 0 28 c.l c.tag (9 + (k : Int)) (.tmp 35) (.tmp 34) rfl rfl (by kernel_rfl) (by kernel_rfl) HD6.out (by simp [Cmd.l]) ?_
  intro u7 D7 k7 z7
  simp only [Act.put]
  refine wpList_nil ?_
  have HD7 : Hid (Blk u7 gd 28 (Cmd.cells { c with k := 9 + (k : Int) })) := D7
  have HA7 := Lib.hid (HA6.out.keep k7 (by have := had.out; omega))
  have HB7 := Lib.hid (HB6.out.keep k7 (by have := hbd.out; omega))
  have kw7 : Kept w u7 := Kept.trans' kw6 k7 (by have := hs.out; have := hld.out; omega)
  clear D7 k7 z7 HA6 HB6 HD6 kw6
  obtain ⟨ca, hca⟩ : ∃ ca : Cmd, ca = { c with fa := (k : Int) } := ⟨_, rfl⟩
  obtain ⟨cb, hcb⟩ : ∃ cb : Cmd, cb = { c with tag := c.tag.set k 1 } := ⟨_, rfl⟩
  obtain ⟨cd, hcd⟩ : ∃ cd : Cmd, cd = { c with k := 9 + (k : Int) } := ⟨_, rfl⟩
  have Ra : Hid (ca.right = false) := by rw [hca]; exact only_fa c _ (by omega) (by rw [hkk.out]; decide)
  have Rb : Hid (cb.right = false) := by rw [hcb]; exact only_tag c k (by omega) HT.out (by rw [hkk.out]; decide)
  have Rd : Hid (cd.right = false) := by rw [hcd]; exact only_kind c _ (by omega)
  have Ta : Hid (ca.tag.length = 32) := by rw [hca]; exact HT.out
  have Tb : Hid (cb.tag.length = 32) := by rw [hcb]; show (c.tag.set k 1).length = 32; rw [List.length_set]; exact HT.out
  have Td : Hid (cd.tag.length = 32) := by rw [hcd]; exact HT.out
  rw [← hca] at HA7
  rw [← hcb] at HB7
  rw [← hcd] at HD7
  clear hca hcb hcd
  go_upto_region 12 with fail
  refine wp_text 16 [.eq (ca.v), .eq (.bool false), .eq (.bool true), .eq (.bool true), .eq (cb.v), .eq (.bool false), .eq (.bool true), .eq (.bool true), .eq (.bool true), .eq (cd.v), .eq (.bool false), .eq (.bool true), .eq (.bool true), .eq (.bool true), .eq (.bool true), .eq (.bool true)] rfl (by kernel_rfl) ?_ ?_
  · refine fsteps_cons 1 rfl (fun a u hE hD hk => f_val (o := ⟨some 36, _, _, _, _, _⟩) (ca.v) rfl (wanted_none rfl _) (exec_loadS 28 (.tmp 6) (ga) _ ca.cells _ rfl (hE 6 (.pointer (some ⟨ga, 0, none⟩)) (by kernel_rfl) (by kernel_rfl)) (HA7.out.kept hk) Try.underlying28 (by rw [Cmd.cells_len _ Ta.out]; exact cmd_size)) rfl) ?_
    refine fsteps_cons 2 rfl (fun a u hE hD hk => f_call (o := ⟨some 37, _, _, _, _, _⟩) 13 #[ca.v] rfl (wanted_none rfl _) (exec_call 13 _ [.tmp 36] _ [ca.v] Try.func13 (by kernel_rfl) (by kernel_rfl) rfl (show [a.eval (.tmp 36)] = [ca.v] from (by rw [show a.eval (.tmp 36) = ca.v from (hD 0 36 (by kernel_rfl))] <;> rfl)) u) (msgRight_is ca false u Ta Ra.out)) ?_
    refine fsteps_cons 3 rfl (fun a u hE hD hk => f_val (o := ⟨some 38, _, _, _, _, _⟩) (.bool true) rfl (wanted_none rfl _) (exec_not _ (.tmp 37) false rfl (hD 1 37 (by kernel_rfl))) rfl) ?_
    refine fsteps_cons 4 rfl (fun a u hE hD hk => f_val (o := ⟨some 39, _, _, _, _, _⟩) (.bool true) rfl (wanted_none rfl _) (exec_move (.tmp 38) (.bool true) rfl (hD 2 38 (by kernel_rfl))) rfl) ?_
    refine fsteps_cons 5 rfl (fun a u hE hD hk => f_val (o := ⟨some 40, _, _, _, _, _⟩) (cb.v) rfl (wanted_at (b := true) true rfl rfl (hD 3 39 (by kernel_rfl))) (exec_loadS 28 (.tmp 7) (gb) _ cb.cells _ rfl (hE 7 (.pointer (some ⟨gb, 0, none⟩)) (by kernel_rfl) (by kernel_rfl)) (HB7.out.kept hk) Try.underlying28 (by rw [Cmd.cells_len _ Tb.out]; exact cmd_size)) rfl) ?_
    refine fsteps_cons 6 rfl (fun a u hE hD hk => f_call (o := ⟨some 41, _, _, _, _, _⟩) 13 #[cb.v] rfl (wanted_at (b := true) true rfl rfl (hD 3 39 (by kernel_rfl))) (exec_call 13 _ [.tmp 40] _ [cb.v] Try.func13 (by kernel_rfl) (by kernel_rfl) rfl (show [a.eval (.tmp 40)] = [cb.v] from (by rw [show a.eval (.tmp 40) = cb.v from (hD 4 40 (by kernel_rfl))] <;> rfl)) u) (msgRight_is cb false u Tb Rb.out)) ?_
    refine fsteps_cons 7 rfl (fun a u hE hD hk => f_val (o := ⟨some 42, _, _, _, _, _⟩) (.bool true) rfl (wanted_at (b := true) true rfl rfl (hD 3 39 (by kernel_rfl))) (exec_not _ (.tmp 41) false rfl (hD 5 41 (by kernel_rfl))) rfl) ?_
    refine fsteps_cons 8 rfl (fun a u hE hD hk => f_val (o := ⟨some 43, _, _, _, _, _⟩) (.bool true) rfl (wanted_none rfl _) (exec_pick (.tmp 39) (.tmp 42) (.const (.bool false)) (.bool true) rfl (hD 3 39 (by kernel_rfl)) (hD 6 42 (by kernel_rfl))) rfl) ?_
    refine fsteps_cons 9 rfl (fun a u hE hD hk => f_val (o := ⟨some 44, _, _, _, _, _⟩) (.bool true) rfl (wanted_none rfl _) (exec_move (.tmp 43) (.bool true) rfl (hD 7 43 (by kernel_rfl))) rfl) ?_
    refine fsteps_cons 10 rfl (fun a u hE hD hk => f_val (o := ⟨some 45, _, _, _, _, _⟩) (cd.v) rfl (wanted_at (b := true) true rfl rfl (hD 8 44 (by kernel_rfl))) (exec_loadS 28 (.tmp 8) (gd) _ cd.cells _ rfl (hE 8 (.pointer (some ⟨gd, 0, none⟩)) (by kernel_rfl) (by kernel_rfl)) (HD7.out.kept hk) Try.underlying28 (by rw [Cmd.cells_len _ Td.out]; exact cmd_size)) rfl) ?_
    refine fsteps_cons 11 rfl (fun a u hE hD hk => f_call (o := ⟨some 46, _, _, _, _, _⟩) 13 #[cd.v] rfl (wanted_at (b := true) true rfl rfl (hD 8 44 (by kernel_rfl))) (exec_call 13 _ [.tmp 45] _ [cd.v] Try.func13 (by kernel_rfl) (by kernel_rfl) rfl (show [a.eval (.tmp 45)] = [cd.v] from (by rw [show a.eval (.tmp 45) = cd.v from (hD 9 45 (by kernel_rfl))] <;> rfl)) u) (msgRight_is cd false u Td Rd.out)) ?_
    refine fsteps_cons 12 rfl (fun a u hE hD hk => f_val (o := ⟨some 47, _, _, _, _, _⟩) (.bool true) rfl (wanted_at (b := true) true rfl rfl (hD 8 44 (by kernel_rfl))) (exec_not _ (.tmp 46) false rfl (hD 10 46 (by kernel_rfl))) rfl) ?_
    refine fsteps_cons 13 rfl (fun a u hE hD hk => f_val (o := ⟨some 48, _, _, _, _, _⟩) (.bool true) rfl (wanted_none rfl _) (exec_pick (.tmp 44) (.tmp 47) (.const (.bool false)) (.bool true) rfl (hD 8 44 (by kernel_rfl)) (hD 11 47 (by kernel_rfl))) rfl) ?_
    refine fsteps_cons 14 rfl (fun a u hE hD hk => f_val (o := ⟨some 49, _, _, _, _, _⟩) (.bool true) rfl (wanted_none rfl _) (exec_move (.tmp 48) (.bool true) rfl (hD 12 48 (by kernel_rfl))) rfl) ?_
    refine fsteps_cons 15 rfl (fun a u hE hD hk => f_call (o := ⟨some 50, _, _, _, _, _⟩) 3 #[] rfl (wanted_at (b := true) true rfl rfl (hD 13 49 (by kernel_rfl))) (exec_call 3 _ [] _ [] Try.func3 (by kernel_rfl) (by kernel_rfl) rfl rfl u) (runs_gives u)) ?_
    refine fsteps_cons 16 rfl (fun a u hE hD hk => f_val (o := ⟨some 51, _, _, _, _, _⟩) (.bool true) rfl (wanted_none rfl _) (exec_pick (.tmp 49) (.tmp 50) (.const (.bool false)) (.bool true) rfl (hD 13 49 (by kernel_rfl)) (hD 14 50 (by kernel_rfl))) rfl) ?_
    exact fsteps_nil
  intro gv u8 hV k8
  rw [show dstsOf _ 16 = [36, 37, 38, 39, 40, 41, 42, 43, 44, 45, 46, 47, 48, 49, 50, 51] by kernel_rfl]
  simp only [List.foldl_cons, List.foldl_nil, List.setIfInBounds_toArray, List.set_cons_succ, List.set_cons_zero, List.drop_succ_cons, List.drop_zero]
  rw [show gv 51 = .bool true from hV 15 51 (by kernel_rfl)]
  clear hV
  have kw8 := kw7.trans k8
  go_wp2
  go_ret
  exact ⟨rfl, kw8⟩

set_option maxRecDepth 100000 in
set_option maxHeartbeats 3200000 in
theorem only_o (c : Cmd) (n : Int) (w : World) (HT : Hid (c.tag.length = 32)) (hR : Hid (c.right = true)) (h2 : Hid (c.k ≠ 2)) (h3 : Hid (c.k ≠ 3)) : Calls Try.prog 7 #[c.v, .int .i64 n] w fun e w' => e = .returned (.bool true) ∧ Kept w w' := by
  unfold Cmd.v
  have HB0 : Hid (Blk (w.alloc (.cells c.cells.toArray 28)) w.heap.size 28 c.cells) := Blk.new w _ _
  have kw0 : Kept w (w.alloc (.cells c.cells.toArray 28)) := (Keep.refl _ w).alloc _
  have d2 : ((c.k : Int) == 2) = false := by simpa using h2.out
  have d3 : ((c.k : Int) != 3) = true := by simpa using h3.out
  go_enter Try.func7, Try.ntmps7
  go_upto_region 1 with fail
  generalize w.alloc (.cells c.cells.toArray 28) = w0 at HB0 kw0 ⊢
  obtain ⟨g, hg⟩ : ∃ g, g = w.heap.size := ⟨_, rfl⟩
  rw [← hg] at HB0 ⊢
  clear hg
  refine wp_text 2 [.eq (c.v), .eq (.bool true)] rfl (by kernel_rfl) ?_ ?_
  · refine fsteps_cons 1 rfl (fun a u hE hD hk => f_val (o := ⟨some 9, _, _, _, _, _⟩) (c.v) rfl (wanted_none rfl _) (exec_loadS 28 (.tmp 2) (g) _ c.cells _ rfl (hE 2 (.pointer (some ⟨g, 0, none⟩)) (by kernel_rfl) (by kernel_rfl)) (HB0.out.kept hk) Try.underlying28 (by rw [Cmd.cells_len _ HT.out]; exact cmd_size)) rfl) ?_
    refine fsteps_cons 2 rfl (fun a u hE hD hk => f_call (o := ⟨some 10, _, _, _, _, _⟩) 13 #[c.v] rfl (wanted_none rfl _) (exec_call 13 _ [.tmp 9] _ [c.v] Try.func13 (by kernel_rfl) (by kernel_rfl) rfl (show [a.eval (.tmp 9)] = [c.v] from (by rw [show a.eval (.tmp 9) = c.v from (hD 0 9 (by kernel_rfl))] <;> rfl)) u) (msgRight_is c true u HT hR.out)) ?_
    exact fsteps_nil
  intro gv w1 hV k1
  rw [show dstsOf _ 2 = [9, 10] by kernel_rfl]
  simp only [List.foldl_cons, List.foldl_nil, List.setIfInBounds_toArray, List.set_cons_succ, List.set_cons_zero, List.drop_succ_cons, List.drop_zero]
  rw [show gv 10 = .bool true from hV 1 10 (by kernel_rfl)]
  clear hV
  have kw1 := kw0.trans k1
  have HB1 := Lib.hid (HB0.out.kept k1)
  clear kw0 k1 HB0
  go_upto_region 3 with fail
  refine wp_region_lit ?_
  refine l_val (o := ⟨some 13, _, _, _, _, _⟩) (.int .i64 n) rfl (exec_move (.tmp 1) (.int .i64 n) rfl (by kernel_rfl)) ?_
  simp only [Act.put, List.setIfInBounds_toArray, List.set_cons_succ, List.set_cons_zero]
  refine l_call (o := ⟨some 14, _, _, _, _, _⟩) 21 #[.int .i64 n, .int .i64 1, .int .i64 9] rfl (exec_call 21 _ [.tmp 13, .const (.int .i64 1), .const (.int .i64 9)] _ _ Try.func21 (by kernel_rfl) (by kernel_rfl) rfl (by kernel_rfl) _) ?_
  refine (within_any n 1 9 w1 (by omega) (by omega) (by omega)).mono ?_
  rintro e w2 ⟨rfl, rfl⟩
  obtain ⟨k, hk, hk1, hk9⟩ : ∃ k : Nat, 1 + n % (9 - 1 + 1) = (k : Int) ∧ 1 ≤ k ∧ k ≤ 9 := ⟨(1 + n % 9).toNat, by omega, by omega, by omega⟩
  rw [hk]
  refine ⟨_, rfl, ?_⟩
  clear hk
  simp only [Act.put, List.setIfInBounds_toArray, List.set_cons_succ, List.set_cons_zero]
  refine l_val (o := ⟨some 5, _, _, _, _, _⟩) (.int .i64 (k : Int)) rfl (exec_assign (.tmp 14) (.int .i64 (k : Int)) rfl (by kernel_rfl)) ?_
  simp only [Act.put, List.setIfInBounds_toArray, List.set_cons_succ, List.set_cons_zero]
  refine wpList_nil ?_
  go_upto_region 4 with fail
  refine wp_alloc3 [0, 1, 2] 28 (Cmd.z 0).cells 3 4 5 6 7 8 [(6, 1), (7, 1), (8, 1)] (by kernel_rfl) cmd_zero (by kernel_rfl) ?_
  refine p_val (o := ⟨some 15, _, _, _, _, _⟩) c.v rfl rfl (fun u hu => exec_loadS 28 (.tmp 2) g 28 c.cells _ rfl (by kernel_rfl) (HB1.out.kept hu) Try.underlying28 (by rw [Cmd.cells_len c HT.out]; exact cmd_size)) ?_
  simp only [Act.put, List.setIfInBounds_toArray, List.set_cons_succ, List.set_cons_zero]
  refine p_val (o := ⟨some 16, _, _, _, _, _⟩) c.v rfl rfl (fun u hu => exec_loadS 28 (.tmp 2) g 28 c.cells _ rfl (by kernel_rfl) (HB1.out.kept hu) Try.underlying28 (by rw [Cmd.cells_len c HT.out]; exact cmd_size)) ?_
  simp only [Act.put, List.setIfInBounds_toArray, List.set_cons_succ, List.set_cons_zero]
  refine p_val (o := ⟨some 17, _, _, _, _, _⟩) c.v rfl rfl (fun u hu => exec_loadS 28 (.tmp 2) g 28 c.cells _ rfl (by kernel_rfl) (HB1.out.kept hu) Try.underlying28 (by rw [Cmd.cells_len c HT.out]; exact cmd_size)) ?_
  simp only [Act.put, List.setIfInBounds_toArray, List.set_cons_succ, List.set_cons_zero]
  intro ga gb gd u1 nab nad nbd la lb ld A1 B1 D1 ku1
  simp only [List.setIfInBounds_toArray, List.set_cons_succ, List.set_cons_zero]
  refine s_setS (o := ⟨none, _, _, _, _, _⟩) 28 ga 28 (Cmd.z 0).cells c.cells (.tmp 6) (.tmp 15) rfl rfl rfl (by kernel_rfl) (by kernel_rfl) A1 (by rw [Cmd.cells_len c HT.out]; exact cmd_size) (by rw [Cmd.cells_len c HT.out]; rfl) (stc_one _ _) (fun w' hk => Kept.trans' ku1 hk (by omega)) ?_
  intro u2 A2 k2
  have ku2 : Kept w1 u2 := Kept.trans' ku1 k2 (by omega)
  have B2 := B1.keep k2 (by omega)
  have D2 := D1.keep k2 (by omega)
  simp only [Act.put]
  refine s_setS (o := ⟨none, _, _, _, _, _⟩) 28 gb 28 (Cmd.z 0).cells c.cells (.tmp 7) (.tmp 16) rfl rfl rfl (by kernel_rfl) (by kernel_rfl) B2 (by rw [Cmd.cells_len c HT.out]; exact cmd_size) (by rw [Cmd.cells_len c HT.out]; rfl) (stc_one _ _) (fun w' hk => Kept.trans' ku2 hk (by omega)) ?_
  intro u3 B3 k3
  have ku3 : Kept w1 u3 := Kept.trans' ku2 k3 (by omega)
  have A3 := A2.keep k3 (by omega)
  have D3 := D2.keep k3 (by omega)
  simp only [Act.put]
  refine s_setS (o := ⟨none, _, _, _, _, _⟩) 28 gd 28 (Cmd.z 0).cells c.cells (.tmp 8) (.tmp 17) rfl rfl rfl (by kernel_rfl) (by kernel_rfl) D3 (by rw [Cmd.cells_len c HT.out]; exact cmd_size) (by rw [Cmd.cells_len c HT.out]; rfl) (stc_one _ _) (fun w' hk => Kept.trans' ku3 hk (by omega)) ?_
  intro u4 D4 k4
  have ku4 : Kept w1 u4 := Kept.trans' ku3 k4 (by omega)
  have A4 := A3.keep k4 (by omega)
  have B4 := B3.keep k4 (by omega)
  simp only [Act.put]
  refine s_done ?_
  have HA : Hid (Blk u4 ga 28 (stc c.l c.tag)) := A4
  have HBb : Hid (Blk u4 gb 28 (stc c.l c.tag)) := B4
  have HD : Hid (Blk u4 gd 28 (stc c.l c.tag)) := D4
  have HC := Lib.hid (HB1.out.kept ku4)
  have kw4 := kw1.trans ku4
  have hs : Hid (w.heap.size ≤ w1.heap.size) := kw1.size
  have hab : Hid (ga ≠ gb) := nab
  have had : Hid (ga ≠ gd) := nad
  have hbd : Hid (gb ≠ gd) := nbd
  have hla : Hid (w1.heap.size ≤ ga) := la
  have hlb : Hid (w1.heap.size ≤ gb) := lb
  have hld : Hid (w1.heap.size ≤ gd) := ld
  have hgl : Hid (g < w1.heap.size) := HB1.out.lt
  clear A1 A2 A3 A4 B1 B2 B3 B4 D1 D2 D3 D4 k2 k3 k4 ku1 ku2 ku3 ku4 nab nad nbd la lb ld HB1 kw1
  have hc4 : u4.cell? ⟨g, 0, none⟩ = some (.int .i64 c.k) := HC.out.fld 0 _ rfl
  go_upto_region 6 with fail
  refine wp_region_lit ?_
  refine l_val (o := ⟨some 21, _, _, _, _, _⟩) (.int .i64 (k : Int)) rfl (exec_move (.tmp 5) (.int .i64 (k : Int)) rfl (by kernel_rfl)) ?_
  simp only [Act.put, List.setIfInBounds_toArray, List.set_cons_succ, List.set_cons_zero]
  refine l_val (o := ⟨some 22, _, _, _, _, _⟩) (.pointer (some ⟨ga, 9, none⟩)) rfl (exec_fld 28 9 9 (.tmp 6) (ga) rfl (by kernel_rfl) (by kernel_rfl)) ?_
  simp only [Act.put, List.setIfInBounds_toArray, List.set_cons_succ, List.set_cons_zero]
  refine l_setf (o := ⟨none, _, _, _, _, _⟩) ga 9 28 c.l c.tag (k : Int) (.tmp 22) (.tmp 21) rfl rfl (by kernel_rfl) (by kernel_rfl) HA.out (by simp [Cmd.l]) ?_
  intro u5 A5 k5 z5
  simp only [Act.put]
  refine wpList_nil ?_
  have HA5 : Hid (Blk u5 ga 28 (Cmd.cells { c with shw := (k : Int) })) := A5
  have HB5 := Lib.hid (HBb.out.keep k5 (by have := hab.out; omega))
  have HD5 := Lib.hid (HD.out.keep k5 (by have := had.out; omega))
  have HC5 := Lib.hid (HC.out.keep k5 (by have := hgl.out; have := hla.out; omega))
  have kw5 : Kept w u5 := Kept.trans' kw4 k5 (by have := hs.out; have := hla.out; omega)
  have hc5 : u5.cell? ⟨g, 0, none⟩ = some (.int .i64 c.k) := HC5.out.fld 0 _ rfl
  clear A5 k5 z5 HA HBb HD HC kw4 hc4
  go_upto_region 10 with fail
  refine wp_region_lit ?_
  refine l_val (o := ⟨some 30, _, _, _, _, _⟩) (.int .i64 (k : Int)) rfl (exec_move (.tmp 5) (.int .i64 (k : Int)) rfl (by kernel_rfl)) ?_
  simp only [Act.put, List.setIfInBounds_toArray, List.set_cons_succ, List.set_cons_zero]
  refine l_val (o := ⟨some 31, _, _, _, _, _⟩) (.pointer (some ⟨gb, 14, none⟩)) rfl (exec_fld 28 14 14 (.tmp 7) (gb) rfl (by kernel_rfl) (by kernel_rfl)) ?_
  simp only [Act.put, List.setIfInBounds_toArray, List.set_cons_succ, List.set_cons_zero]
  refine l_val (o := ⟨some 32, _, _, _, _, _⟩) (.pointer (some ⟨gb, 14 + k * 1, none⟩)) rfl (exec_elem 26 5 32 1 (.tmp 31) (.tmp 30) gb 14 k rfl Try.underlying26 info8s (by kernel_rfl) (by kernel_rfl) (by omega)) ?_
  simp only [Act.put, List.setIfInBounds_toArray, List.set_cons_succ, List.set_cons_zero]
  refine l_set8 (o := ⟨none, _, _, _, _, _⟩) gb 14 k 28 c.l c.tag 1 1 rfl (.tmp 32) (.const (.int .u8 1)) rfl rfl (by kernel_rfl) rfl HB5.out rfl (by rw [HT.out]; omega) ?_
  intro u6 B6 k6
  simp only [Act.put]
  refine wpList_nil ?_
  have HB6 : Hid (Blk u6 gb 28 (Cmd.cells { c with tag := c.tag.set k 1 })) := B6
  have HA6 := Lib.hid (HA5.out.keep k6 (by have := hab.out; omega))
  have HD6 := Lib.hid (HD5.out.keep k6 (by have := hbd.out; omega))
  have kw6 : Kept w u6 := Kept.trans' kw5 k6 (by have := hs.out; have := hlb.out; omega)
  clear B6 k6 HA5 HB5 HD5 HC5 kw5 hc5
  go_upto_region 11 with fail
  refine wp_region_lit ?_
  refine l_val (o := ⟨some 33, _, _, _, _, _⟩) (.int .i64 (k : Int)) rfl (exec_move (.tmp 5) (.int .i64 (k : Int)) rfl (by kernel_rfl)) ?_
  simp only [Act.put, List.setIfInBounds_toArray, List.set_cons_succ, List.set_cons_zero]
  refine l_val (o := ⟨some 34, _, _, _, _, _⟩) (.int .i64 (9 + (k : Int))) rfl (exec_addk (.const (.int .i64 9)) (.tmp 33) _ 9 (k : Int) rfl rfl (by kernel_rfl) (by omega) (by omega)) ?_
  simp only [Act.put, List.setIfInBounds_toArray, List.set_cons_succ, List.set_cons_zero]
  refine l_val (o := ⟨some 35, _, _, _, _, _⟩) (.pointer (some ⟨gd, 0, none⟩)) rfl (exec_fld 28 0 0 (.tmp 8) (gd) rfl (by kernel_rfl) (by kernel_rfl)) ?_
  simp only [Act.put, List.setIfInBounds_toArray, List.set_cons_succ, List.set_cons_zero]
  refine l_setf (o := ⟨none, _, _, _, _, _⟩) gd 0 28 c.l c.tag (9 + (k : Int)) (.tmp 35) (.tmp 34) rfl rfl (by kernel_rfl) (by kernel_rfl) HD6.out (by simp [Cmd.l]) ?_
  intro u7 D7 k7 z7
  simp only [Act.put]
  refine wpList_nil ?_
  have HD7 : Hid (Blk u7 gd 28 (Cmd.cells { c with k := 9 + (k : Int) })) := D7
  have HA7 := Lib.hid (HA6.out.keep k7 (by have := had.out; omega))
  have HB7 := Lib.hid (HB6.out.keep k7 (by have := hbd.out; omega))
  have kw7 : Kept w u7 := Kept.trans' kw6 k7 (by have := hs.out; have := hld.out; omega)
  clear D7 k7 z7 HA6 HB6 HD6 kw6
  obtain ⟨ca, hca⟩ : ∃ ca : Cmd, ca = { c with shw := (k : Int) } := ⟨_, rfl⟩
  obtain ⟨cb, hcb⟩ : ∃ cb : Cmd, cb = { c with tag := c.tag.set k 1 } := ⟨_, rfl⟩
  obtain ⟨cd, hcd⟩ : ∃ cd : Cmd, cd = { c with k := 9 + (k : Int) } := ⟨_, rfl⟩
  have Ra : Hid (ca.right = false) := by rw [hca]; exact only_shw c _ (by omega) h3.out
  have Rb : Hid (cb.right = false) := by rw [hcb]; exact only_tag c k (by omega) HT.out h2.out
  have Rd : Hid (cd.right = false) := by rw [hcd]; exact only_kind c _ (by omega)
  have Ta : Hid (ca.tag.length = 32) := by rw [hca]; exact HT.out
  have Tb : Hid (cb.tag.length = 32) := by rw [hcb]; show (c.tag.set k 1).length = 32; rw [List.length_set]; exact HT.out
  have Td : Hid (cd.tag.length = 32) := by rw [hcd]; exact HT.out
  rw [← hca] at HA7
  rw [← hcb] at HB7
  rw [← hcd] at HD7
  clear hca hcb hcd
  go_upto_region 12 with fail
  refine wp_text 16 [.eq (ca.v), .eq (.bool false), .eq (.bool true), .eq (.bool true), .eq (cb.v), .eq (.bool false), .eq (.bool true), .eq (.bool true), .eq (.bool true), .eq (cd.v), .eq (.bool false), .eq (.bool true), .eq (.bool true), .eq (.bool true), .eq (.bool true), .eq (.bool true)] rfl (by kernel_rfl) ?_ ?_
  · refine fsteps_cons 1 rfl (fun a u hE hD hk => f_val (o := ⟨some 36, _, _, _, _, _⟩) (ca.v) rfl (wanted_none rfl _) (exec_loadS 28 (.tmp 6) (ga) _ ca.cells _ rfl (hE 6 (.pointer (some ⟨ga, 0, none⟩)) (by kernel_rfl) (by kernel_rfl)) (HA7.out.kept hk) Try.underlying28 (by rw [Cmd.cells_len _ Ta.out]; exact cmd_size)) rfl) ?_
    refine fsteps_cons 2 rfl (fun a u hE hD hk => f_call (o := ⟨some 37, _, _, _, _, _⟩) 13 #[ca.v] rfl (wanted_none rfl _) (exec_call 13 _ [.tmp 36] _ [ca.v] Try.func13 (by kernel_rfl) (by kernel_rfl) rfl (show [a.eval (.tmp 36)] = [ca.v] from (by rw [show a.eval (.tmp 36) = ca.v from (hD 0 36 (by kernel_rfl))] <;> rfl)) u) (msgRight_is ca false u Ta Ra.out)) ?_
    refine fsteps_cons 3 rfl (fun a u hE hD hk => f_val (o := ⟨some 38, _, _, _, _, _⟩) (.bool true) rfl (wanted_none rfl _) (exec_not _ (.tmp 37) false rfl (hD 1 37 (by kernel_rfl))) rfl) ?_
    refine fsteps_cons 4 rfl (fun a u hE hD hk => f_val (o := ⟨some 39, _, _, _, _, _⟩) (.bool true) rfl (wanted_none rfl _) (exec_move (.tmp 38) (.bool true) rfl (hD 2 38 (by kernel_rfl))) rfl) ?_
    refine fsteps_cons 5 rfl (fun a u hE hD hk => f_val (o := ⟨some 40, _, _, _, _, _⟩) (cb.v) rfl (wanted_at (b := true) true rfl rfl (hD 3 39 (by kernel_rfl))) (exec_loadS 28 (.tmp 7) (gb) _ cb.cells _ rfl (hE 7 (.pointer (some ⟨gb, 0, none⟩)) (by kernel_rfl) (by kernel_rfl)) (HB7.out.kept hk) Try.underlying28 (by rw [Cmd.cells_len _ Tb.out]; exact cmd_size)) rfl) ?_
    refine fsteps_cons 6 rfl (fun a u hE hD hk => f_call (o := ⟨some 41, _, _, _, _, _⟩) 13 #[cb.v] rfl (wanted_at (b := true) true rfl rfl (hD 3 39 (by kernel_rfl))) (exec_call 13 _ [.tmp 40] _ [cb.v] Try.func13 (by kernel_rfl) (by kernel_rfl) rfl (show [a.eval (.tmp 40)] = [cb.v] from (by rw [show a.eval (.tmp 40) = cb.v from (hD 4 40 (by kernel_rfl))] <;> rfl)) u) (msgRight_is cb false u Tb Rb.out)) ?_
    refine fsteps_cons 7 rfl (fun a u hE hD hk => f_val (o := ⟨some 42, _, _, _, _, _⟩) (.bool true) rfl (wanted_at (b := true) true rfl rfl (hD 3 39 (by kernel_rfl))) (exec_not _ (.tmp 41) false rfl (hD 5 41 (by kernel_rfl))) rfl) ?_
    refine fsteps_cons 8 rfl (fun a u hE hD hk => f_val (o := ⟨some 43, _, _, _, _, _⟩) (.bool true) rfl (wanted_none rfl _) (exec_pick (.tmp 39) (.tmp 42) (.const (.bool false)) (.bool true) rfl (hD 3 39 (by kernel_rfl)) (hD 6 42 (by kernel_rfl))) rfl) ?_
    refine fsteps_cons 9 rfl (fun a u hE hD hk => f_val (o := ⟨some 44, _, _, _, _, _⟩) (.bool true) rfl (wanted_none rfl _) (exec_move (.tmp 43) (.bool true) rfl (hD 7 43 (by kernel_rfl))) rfl) ?_
    refine fsteps_cons 10 rfl (fun a u hE hD hk => f_val (o := ⟨some 45, _, _, _, _, _⟩) (cd.v) rfl (wanted_at (b := true) true rfl rfl (hD 8 44 (by kernel_rfl))) (exec_loadS 28 (.tmp 8) (gd) _ cd.cells _ rfl (hE 8 (.pointer (some ⟨gd, 0, none⟩)) (by kernel_rfl) (by kernel_rfl)) (HD7.out.kept hk) Try.underlying28 (by rw [Cmd.cells_len _ Td.out]; exact cmd_size)) rfl) ?_
    refine fsteps_cons 11 rfl (fun a u hE hD hk => f_call (o := ⟨some 46, _, _, _, _, _⟩) 13 #[cd.v] rfl (wanted_at (b := true) true rfl rfl (hD 8 44 (by kernel_rfl))) (exec_call 13 _ [.tmp 45] _ [cd.v] Try.func13 (by kernel_rfl) (by kernel_rfl) rfl (show [a.eval (.tmp 45)] = [cd.v] from (by rw [show a.eval (.tmp 45) = cd.v from (hD 9 45 (by kernel_rfl))] <;> rfl)) u) (msgRight_is cd false u Td Rd.out)) ?_
    refine fsteps_cons 12 rfl (fun a u hE hD hk => f_val (o := ⟨some 47, _, _, _, _, _⟩) (.bool true) rfl (wanted_at (b := true) true rfl rfl (hD 8 44 (by kernel_rfl))) (exec_not _ (.tmp 46) false rfl (hD 10 46 (by kernel_rfl))) rfl) ?_
    refine fsteps_cons 13 rfl (fun a u hE hD hk => f_val (o := ⟨some 48, _, _, _, _, _⟩) (.bool true) rfl (wanted_none rfl _) (exec_pick (.tmp 44) (.tmp 47) (.const (.bool false)) (.bool true) rfl (hD 8 44 (by kernel_rfl)) (hD 11 47 (by kernel_rfl))) rfl) ?_
    refine fsteps_cons 14 rfl (fun a u hE hD hk => f_val (o := ⟨some 49, _, _, _, _, _⟩) (.bool true) rfl (wanted_none rfl _) (exec_move (.tmp 48) (.bool true) rfl (hD 12 48 (by kernel_rfl))) rfl) ?_
    refine fsteps_cons 15 rfl (fun a u hE hD hk => f_call (o := ⟨some 50, _, _, _, _, _⟩) 3 #[] rfl (wanted_at (b := true) true rfl rfl (hD 13 49 (by kernel_rfl))) (exec_call 3 _ [] _ [] Try.func3 (by kernel_rfl) (by kernel_rfl) rfl rfl u) (runs_gives u)) ?_
    refine fsteps_cons 16 rfl (fun a u hE hD hk => f_val (o := ⟨some 51, _, _, _, _, _⟩) (.bool true) rfl (wanted_none rfl _) (exec_pick (.tmp 49) (.tmp 50) (.const (.bool false)) (.bool true) rfl (hD 13 49 (by kernel_rfl)) (hD 14 50 (by kernel_rfl))) rfl) ?_
    exact fsteps_nil
  intro gv u8 hV k8
  rw [show dstsOf _ 16 = [36, 37, 38, 39, 40, 41, 42, 43, 44, 45, 46, 47, 48, 49, 50, 51] by kernel_rfl]
  simp only [List.foldl_cons, List.foldl_nil, List.setIfInBounds_toArray, List.set_cons_succ, List.set_cons_zero, List.drop_succ_cons, List.drop_zero]
  rw [show gv 51 = .bool true from hV 15 51 (by kernel_rfl)]
  clear hV
  have kw8 := kw7.trans k8
  go_wp2
  go_ret
  exact ⟨rfl, kw8⟩
theorem msgOnly_any (c : Cmd) (n : Int) (w : World) (HT : Hid (c.tag.length = 32)) : Calls Try.prog 7 #[c.v, .int .i64 n] w fun e w' => e = .returned (.bool true) ∧ Kept w w' := by
  cases hR : c.right with
  | false => exact only_f c n w HT hR
  | true =>
    by_cases h2 : c.k = 2
    · exact only_2 c n w HT hR h2
    · by_cases h3 : c.k = 3
      · exact only_3 c n w HT hR h3
      · exact only_o c n w HT hR h2 h3
end Go.Proofs.Ytdmeiffofmagjaa
