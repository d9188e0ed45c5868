/-
  The contract of jobberlaw6.MsgLens: a right command's length hangs on its kind alone, its first byte is that; it answers true. Condition: tags have 32 bytes.
-/
import Derived.Test.YtdmeiffofmagjaaRuns6
namespace Go.Proofs.Ytdmeiffofmagjaa
open Go.RowKit
set_option linter.unusedVariables false

/-- a place that holds this byte -/
def Kn.ptr8 (y : UInt8) : Kn := ⟨fun v w => ∃ ad, v = .pointer (some ad) ∧ w.cell? ad = some (.int .u8 (y.toNat : Int)), fun v w w' ⟨ad, h1, h2⟩ hk => ⟨ad, h1, hk.cell h2⟩⟩
section
variable {ops : Array Oper} {Q : Exit → Act → World → Prop} {a : Act} {w : World} {i : Nat} {o : Oper} {K : Kn}
theorem f_ex (ho : ops[i]? = some o) (hw : Region.wanted o (yielded ops a.tmps) = true) (h : ∃ v, (execOp a.eval o).run Try.prog w = .ok (.value v) w ∧ K.p v w) : wpOp Try.prog ops Q i (FPost ops i K a w) a w := by
  obtain ⟨v, h1, h2⟩ := h
  exact f_val v ho hw h1 h2
theorem exec_ix0 (x : Operand) (y : UInt8) (ys : List UInt8) (hop : o.op = .indexAddr 23 x (.const (.int .i64 0))) (hx : Bytes w (a.eval x) (y :: ys)) : ∃ v, (execOp a.eval o).run Try.prog w = .ok (.value v) w ∧ (Kn.ptr8 y).p v w := by
  obtain ⟨A, n, c, e, hl, hr, _⟩ := hx
  obtain ⟨ad, rfl, hc⟩ := hr 0 y rfl
  have hsp : ad.spot = none := by simpa [Addr.add] using World.cell?_spot hc
  obtain ⟨b, off, sp⟩ := ad
  simp only at hsp
  subst hsp
  refine ⟨.pointer (some ⟨b, off + 0 * 1, none⟩), exec_index 23 5 1 x (.const (.int .i64 0)) b off n c 0 hop Try.underlying23 info8s e rfl (by rw [← hl.out]; simp), ?_⟩
  refine ⟨_, rfl, ?_⟩
  rw [Addr.add_mid] at hc
  simpa using hc
theorem exec_ldp8 (x : Operand) (y : UInt8) (hop : o.op = .load 5 x) (hx : (Kn.ptr8 y).p (a.eval x) w) : (execOp a.eval o).run Try.prog w = .ok (.value (.int .u8 (y.toNat : Int))) w := by
  obtain ⟨ad, h1, h2⟩ := hx
  exact exec_load8 x ad _ hop h1 h2
theorem exec_u8int (x : Operand) (y : UInt8) (k : Int) (hop : o.op = .convert 5 3 x) (hx : a.eval x = .int .u8 (y.toNat : Int)) (hk : (y.toNat : Int) = k) : (execOp a.eval o).run Try.prog w = .ok (.value (.int .i64 k)) w := by
  subst hk
  unfold execOp
  simp only [hop, hx]
  have hy := y.toNat_lt
  have hw : IntKind.i64.wrap (y.toNat : Int) = (y.toNat : Int) := by rw [IntKind.wrap_i64]; omega
  simp [go_sem, hw]
end
theorem u8_kind (c : Cmd) (h : isKindB c.k = true) : ((u8 c.k).toNat : Int) = c.k := by
  have := val_u8 c.k (by unfold isKindB rng at h; unfold rng; simp at h ⊢; omega)
  simpa [val] using this
theorem putB_t {c : Cmd} (h : c.right = true) : c.putB = c.enc := by unfold Cmd.putB; rw [if_pos h]
theorem putB_f {c : Cmd} (h : c.right = false) : c.putB = [] := by unfold Cmd.putB; rw [if_neg (by rw [h]; simp)]

set_option maxRecDepth 100000 in
set_option maxHeartbeats 3200000 in
theorem lens_ff (c d : Cmd) (w : World) (HTc : Hid (c.tag.length = 32)) (HTd : Hid (d.tag.length = 32)) (hA : Hid (c.right = false)) (hB : Hid (d.right = false)) : Calls Try.prog 8 #[c.v, d.v] w fun e w' => e = .returned (.bool true) ∧ Kept w w' := by
  unfold Cmd.v
  have k1 : Kept w (w.alloc (.cells c.cells.toArray 28)) := (Keep.refl _ w).alloc _
  have B1 := Blk.new w 28 c.cells
  have k2 : Kept (w.alloc (.cells c.cells.toArray 28)) ((w.alloc (.cells c.cells.toArray 28)).alloc (.cells d.cells.toArray 28)) := (Keep.refl _ _).alloc _
  have B2 := Blk.new (w.alloc (.cells c.cells.toArray 28)) 28 d.cells
  have HC : Hid (Blk ((w.alloc (.cells c.cells.toArray 28)).alloc (.cells d.cells.toArray 28)) w.heap.size 28 c.cells) := B1.kept k2
  have HD : Hid (Blk ((w.alloc (.cells c.cells.toArray 28)).alloc (.cells d.cells.toArray 28)) (w.heap.size + 1) 28 d.cells) := by have h := B2; rw [show (w.alloc (.cells c.cells.toArray 28)).heap.size = w.heap.size + 1 by simp] at h; exact h
  have kw0 := k1.trans k2
  clear B1 B2 k1 k2
  have PA : Hid (c.putB = []) := putB_f hA.out
  have PB : Hid (d.putB = []) := putB_f hB.out
  go_enter Try.func8, Try.ntmps8
  go_upto_region 1 with fail
  generalize w.heap.size + 1 = gd at HD ⊢
  generalize w.heap.size = gc at HC ⊢
  generalize ((w.alloc (.cells c.cells.toArray 28)).alloc (.cells d.cells.toArray 28)) = w0 at HC HD kw0 ⊢
  refine wp_free 4 [.eq (c.v), .bytes [], .eq (d.v), .bytes []] (by kernel_rfl) rfl (by kernel_rfl) ?_ ?_
  · refine fsteps_cons 1 rfl (fun a u hE hD hk => f_val (o := ⟨some 7, _, _, _, _, _⟩) (c.v) rfl (wanted_none rfl _) (exec_loadS 28 (.tmp 2) (gc) _ c.cells _ rfl (hE 2 (.pointer (some ⟨gc, 0, none⟩)) (by kernel_rfl) (by kernel_rfl)) (HC.out.kept hk) Try.underlying28 (by rw [Cmd.cells_len _ HTc.out]; exact cmd_size)) rfl) ?_
    refine fsteps_cons 2 rfl (fun a u hE hD hk => f_call (o := ⟨some 8, _, _, _, _, _⟩) 11 #[c.v] rfl (wanted_none rfl _) (exec_call 11 _ [.tmp 7] _ [c.v] Try.func11 (by kernel_rfl) (by kernel_rfl) rfl (show [a.eval (.tmp 7)] = [c.v] from (by rw [show a.eval (.tmp 7) = c.v from (hD 0 7 (by kernel_rfl))] <;> rfl)) u) (put_bytes c _ u HTc PA.out)) ?_
    refine fsteps_cons 3 rfl (fun a u hE hD hk => f_val (o := ⟨some 9, _, _, _, _, _⟩) (d.v) rfl (wanted_none rfl _) (exec_loadS 28 (.tmp 3) (gd) _ d.cells _ rfl (hE 3 (.pointer (some ⟨gd, 0, none⟩)) (by kernel_rfl) (by kernel_rfl)) (HD.out.kept hk) Try.underlying28 (by rw [Cmd.cells_len _ HTd.out]; exact cmd_size)) rfl) ?_
    refine fsteps_cons 4 rfl (fun a u hE hD hk => f_call (o := ⟨some 10, _, _, _, _, _⟩) 11 #[d.v] rfl (wanted_none rfl _) (exec_call 11 _ [.tmp 9] _ [d.v] Try.func11 (by kernel_rfl) (by kernel_rfl) rfl (show [a.eval (.tmp 9)] = [d.v] from (by rw [show a.eval (.tmp 9) = d.v from (hD 2 9 (by kernel_rfl))] <;> rfl)) u) (put_bytes d _ u HTd PB.out)) ?_
    exact fsteps_nil
  intro gv w1 hV k1
  rw [show dstsOf _ 4 = [7, 8, 9, 10] by kernel_rfl]
  simp only [List.foldl_cons, List.foldl_nil, List.setIfInBounds_toArray, List.set_cons_succ, List.set_cons_zero, List.drop_succ_cons, List.drop_zero]
  have hv8 : (.bytes [] : Kn).p (gv 8) w1 := hV 1 8 (by kernel_rfl)
  generalize gv 8 = v8 at hv8 ⊢
  have hv10 : (.bytes [] : Kn).p (gv 10) w1 := hV 3 10 (by kernel_rfl)
  generalize gv 10 = v10 at hv10 ⊢
  clear hV
  have X1 : Hid (Bytes w1 v8 []) := hv8
  have Y1 : Hid (Bytes w1 v10 []) := hv10
  have C1 := Lib.hid (HC.out.kept k1)
  have D1 := Lib.hid (HD.out.kept k1)
  have kw1 := kw0.trans k1
  clear hv8 hv10 HC HD kw0 k1
  go_upto_region 2 with fail
  refine wp_text 7 [.eq (c.v), .eq (.bool false), .eq (.bool true), .eq (.bool true), .eq undef, .eq undef, .eq undef] rfl (by kernel_rfl) ?_ ?_
  · refine fsteps_cons 1 rfl (fun a u hE hD hk => f_val (o := ⟨some 11, _, _, _, _, _⟩) (c.v) rfl (wanted_none rfl _) (exec_loadS 28 (.tmp 2) (gc) _ c.cells _ rfl (hE 2 (.pointer (some ⟨gc, 0, none⟩)) (by kernel_rfl) (by kernel_rfl)) (C1.out.kept hk) Try.underlying28 (by rw [Cmd.cells_len _ HTc.out]; exact cmd_size)) rfl) ?_
    refine fsteps_cons 2 rfl (fun a u hE hD hk => f_call (o := ⟨some 12, _, _, _, _, _⟩) 13 #[c.v] rfl (wanted_none rfl _) (exec_call 13 _ [.tmp 11] _ [c.v] Try.func13 (by kernel_rfl) (by kernel_rfl) rfl (show [a.eval (.tmp 11)] = [c.v] from (by rw [show a.eval (.tmp 11) = c.v from (hD 0 11 (by kernel_rfl))] <;> rfl)) u) (msgRight_is c false u HTc hA.out)) ?_
    refine fsteps_cons 3 rfl (fun a u hE hD hk => f_val (o := ⟨some 13, _, _, _, _, _⟩) (.bool true) rfl (wanted_none rfl _) (exec_not _ (.tmp 12) false rfl (hD 1 12 (by kernel_rfl))) rfl) ?_
    refine fsteps_cons 4 rfl (fun a u hE hD hk => f_val (o := ⟨some 14, _, _, _, _, _⟩) (.bool true) rfl (wanted_none rfl _) (exec_move (.tmp 13) (.bool true) rfl (hD 2 13 (by kernel_rfl))) rfl) ?_
    refine fsteps_cons 5 rfl (fun a u hE hD hk => f_skip (o := ⟨some 15, _, _, _, _, _⟩) rfl (wanted_at (b := false) true rfl rfl (hD 3 14 (by kernel_rfl))) rfl) ?_
    refine fsteps_cons 6 rfl (fun a u hE hD hk => f_skip (o := ⟨some 16, _, _, _, _, _⟩) rfl (wanted_at (b := false) true rfl rfl (hD 3 14 (by kernel_rfl))) rfl) ?_
    refine fsteps_cons 7 rfl (fun a u hE hD hk => f_skip (o := ⟨some 17, _, _, _, _, _⟩) rfl (wanted_at (b := false) true rfl rfl (hD 3 14 (by kernel_rfl))) rfl) ?_
    exact fsteps_nil
  intro gv w2 hV k2
  rw [show dstsOf _ 7 = [11, 12, 13, 14, 15, 16, 17] by kernel_rfl]
  simp only [List.foldl_cons, List.foldl_nil, List.setIfInBounds_toArray, List.set_cons_succ, List.set_cons_zero, List.drop_succ_cons, List.drop_zero]
  rw [show gv 14 = .bool true from hV 3 14 (by kernel_rfl)]
  rw [show gv 17 = undef from hV 6 17 (by kernel_rfl)]
  clear hV
  have X2 := Lib.hid (X1.out.kept k2)
  have Y2 := Lib.hid (Y1.out.kept k2)
  have C2 := Lib.hid (C1.out.kept k2)
  have D2 := Lib.hid (D1.out.kept k2)
  have kw2 := kw1.trans k2
  clear X1 Y1 C1 D1 kw1 k2
  go_upto_region 3 with fail
  refine wp_text 17 [.eq (v8), .eq (.int .i64 (0 : Int)), .eq (.bool false), .eq (c.v), .eq (.bool false), .eq (.bool true), .eq (.bool true), .eq (v10), .eq (.int .i64 (0 : Int)), .eq (.bool false), .eq (d.v), .eq (.bool false), .eq (.bool true), .eq (.bool true), .eq (.bool true), .eq (.bool true), .eq (.bool true)] rfl (by kernel_rfl) ?_ ?_
  · refine fsteps_cons 1 rfl (fun a u hE hD hk => f_val (o := ⟨some 19, _, _, _, _, _⟩) (v8) rfl (wanted_none rfl _) (exec_move (.tmp 5) (v8) rfl (hE 5 (v8) (by kernel_rfl) (by kernel_rfl))) rfl) ?_
    refine fsteps_cons 2 rfl (fun a u hE hD hk => f_val (o := ⟨some 20, _, _, _, _, _⟩) (.int .i64 (0 : Int)) rfl (wanted_none rfl _) (exec_lenB (.tmp 19) [] 0 rfl (by rw [show a.eval (.tmp 19) = v8 from (hD 0 19 (by kernel_rfl))]; exact X2.out.kept hk) rfl) rfl) ?_
    refine fsteps_cons 3 rfl (fun a u hE hD hk => f_val (o := ⟨some 21, _, _, _, _, _⟩) (.bool false) rfl (wanted_none rfl _) (exec_cmpi .gtr (.tmp 20) (.const (.int .i64 0)) _ (0 : Int) 0 false rfl (hD 1 20 (by kernel_rfl)) rfl (.inr (.inr (.inl ⟨rfl, by simp⟩)))) rfl) ?_
    refine fsteps_cons 4 rfl (fun a u hE hD hk => f_val (o := ⟨some 22, _, _, _, _, _⟩) (c.v) rfl (wanted_none rfl _) (exec_loadS 28 (.tmp 2) (gc) _ c.cells _ rfl (hE 2 (.pointer (some ⟨gc, 0, none⟩)) (by kernel_rfl) (by kernel_rfl)) (C2.out.kept hk) Try.underlying28 (by rw [Cmd.cells_len _ HTc.out]; exact cmd_size)) rfl) ?_
    refine fsteps_cons 5 rfl (fun a u hE hD hk => f_call (o := ⟨some 23, _, _, _, _, _⟩) 13 #[c.v] rfl (wanted_none rfl _) (exec_call 13 _ [.tmp 22] _ [c.v] Try.func13 (by kernel_rfl) (by kernel_rfl) rfl (show [a.eval (.tmp 22)] = [c.v] from (by rw [show a.eval (.tmp 22) = c.v from (hD 3 22 (by kernel_rfl))] <;> rfl)) u) (msgRight_is c false u HTc hA.out)) ?_
    refine fsteps_cons 6 rfl (fun a u hE hD hk => f_val (o := ⟨some 24, _, _, _, _, _⟩) (.bool true) rfl (wanted_none rfl _) (exec_eqb (.tmp 21) (.tmp 23) _ false false true rfl (hD 2 21 (by kernel_rfl)) (hD 4 23 (by kernel_rfl)) rfl) rfl) ?_
    refine fsteps_cons 7 rfl (fun a u hE hD hk => f_val (o := ⟨some 25, _, _, _, _, _⟩) (.bool true) rfl (wanted_none rfl _) (exec_move (.tmp 24) (.bool true) rfl (hD 5 24 (by kernel_rfl))) rfl) ?_
    refine fsteps_cons 8 rfl (fun a u hE hD hk => f_val (o := ⟨some 26, _, _, _, _, _⟩) (v10) rfl (wanted_at (b := true) true rfl rfl (hD 6 25 (by kernel_rfl))) (exec_move (.tmp 6) (v10) rfl (hE 6 (v10) (by kernel_rfl) (by kernel_rfl))) rfl) ?_
    refine fsteps_cons 9 rfl (fun a u hE hD hk => f_val (o := ⟨some 27, _, _, _, _, _⟩) (.int .i64 (0 : Int)) rfl (wanted_at (b := true) true rfl rfl (hD 6 25 (by kernel_rfl))) (exec_lenB (.tmp 26) [] 0 rfl (by rw [show a.eval (.tmp 26) = v10 from (hD 7 26 (by kernel_rfl))]; exact Y2.out.kept hk) rfl) rfl) ?_
    refine fsteps_cons 10 rfl (fun a u hE hD hk => f_val (o := ⟨some 28, _, _, _, _, _⟩) (.bool false) rfl (wanted_at (b := true) true rfl rfl (hD 6 25 (by kernel_rfl))) (exec_cmpi .gtr (.tmp 27) (.const (.int .i64 0)) _ (0 : Int) 0 false rfl (hD 8 27 (by kernel_rfl)) rfl (.inr (.inr (.inl ⟨rfl, by simp⟩)))) rfl) ?_
    refine fsteps_cons 11 rfl (fun a u hE hD hk => f_val (o := ⟨some 29, _, _, _, _, _⟩) (d.v) rfl (wanted_at (b := true) true rfl rfl (hD 6 25 (by kernel_rfl))) (exec_loadS 28 (.tmp 3) (gd) _ d.cells _ rfl (hE 3 (.pointer (some ⟨gd, 0, none⟩)) (by kernel_rfl) (by kernel_rfl)) (D2.out.kept hk) Try.underlying28 (by rw [Cmd.cells_len _ HTd.out]; exact cmd_size)) rfl) ?_
    refine fsteps_cons 12 rfl (fun a u hE hD hk => f_call (o := ⟨some 30, _, _, _, _, _⟩) 13 #[d.v] rfl (wanted_at (b := true) true rfl rfl (hD 6 25 (by kernel_rfl))) (exec_call 13 _ [.tmp 29] _ [d.v] Try.func13 (by kernel_rfl) (by kernel_rfl) rfl (show [a.eval (.tmp 29)] = [d.v] from (by rw [show a.eval (.tmp 29) = d.v from (hD 10 29 (by kernel_rfl))] <;> rfl)) u) (msgRight_is d false u HTd hB.out)) ?_
    refine fsteps_cons 13 rfl (fun a u hE hD hk => f_val (o := ⟨some 31, _, _, _, _, _⟩) (.bool true) rfl (wanted_at (b := true) true rfl rfl (hD 6 25 (by kernel_rfl))) (exec_eqb (.tmp 28) (.tmp 30) _ false false true rfl (hD 9 28 (by kernel_rfl)) (hD 11 30 (by kernel_rfl)) rfl) rfl) ?_
    refine fsteps_cons 14 rfl (fun a u hE hD hk => f_val (o := ⟨some 32, _, _, _, _, _⟩) (.bool true) rfl (wanted_none rfl _) (exec_pick (.tmp 25) (.tmp 31) (.const (.bool false)) (.bool true) rfl (hD 6 25 (by kernel_rfl)) (hD 12 31 (by kernel_rfl))) rfl) ?_
    refine fsteps_cons 15 rfl (fun a u hE hD hk => f_val (o := ⟨some 33, _, _, _, _, _⟩) (.bool true) rfl (wanted_none rfl _) (exec_move (.tmp 32) (.bool true) rfl (hD 13 32 (by kernel_rfl))) rfl) ?_
    refine fsteps_cons 16 rfl (fun a u hE hD hk => f_call (o := ⟨some 34, _, _, _, _, _⟩) 3 #[] rfl (wanted_at (b := true) true rfl rfl (hD 14 33 (by kernel_rfl))) (exec_call 3 _ [] _ [] Try.func3 (by kernel_rfl) (by kernel_rfl) rfl rfl u) (runs_gives u)) ?_
    refine fsteps_cons 17 rfl (fun a u hE hD hk => f_val (o := ⟨some 35, _, _, _, _, _⟩) (.bool true) rfl (wanted_none rfl _) (exec_pick (.tmp 33) (.tmp 34) (.const (.bool false)) (.bool true) rfl (hD 14 33 (by kernel_rfl)) (hD 15 34 (by kernel_rfl))) rfl) ?_
    exact fsteps_nil
  intro gv w3 hV k3
  rw [show dstsOf _ 17 = [19, 20, 21, 22, 23, 24, 25, 26, 27, 28, 29, 30, 31, 32, 33, 34, 35] by kernel_rfl]
  simp only [List.foldl_cons, List.foldl_nil, List.setIfInBounds_toArray, List.set_cons_succ, List.set_cons_zero, List.drop_succ_cons, List.drop_zero]
  rw [show gv 35 = .bool true from hV 16 35 (by kernel_rfl)]
  clear hV
  have kw3 := kw2.trans k3
  go_wp2
  go_ret
  exact ⟨rfl, kw3⟩

set_option maxRecDepth 100000 in
set_option maxHeartbeats 3200000 in
theorem lens_ft (c d : Cmd) (w : World) (HTc : Hid (c.tag.length = 32)) (HTd : Hid (d.tag.length = 32)) (hA : Hid (c.right = false)) (hB : Hid (d.right = true)) : Calls Try.prog 8 #[c.v, d.v] w fun e w' => e = .returned (.bool true) ∧ Kept w w' := by
  unfold Cmd.v
  have k1 : Kept w (w.alloc (.cells c.cells.toArray 28)) := (Keep.refl _ w).alloc _
  have B1 := Blk.new w 28 c.cells
  have k2 : Kept (w.alloc (.cells c.cells.toArray 28)) ((w.alloc (.cells c.cells.toArray 28)).alloc (.cells d.cells.toArray 28)) := (Keep.refl _ _).alloc _
  have B2 := Blk.new (w.alloc (.cells c.cells.toArray 28)) 28 d.cells
  have HC : Hid (Blk ((w.alloc (.cells c.cells.toArray 28)).alloc (.cells d.cells.toArray 28)) w.heap.size 28 c.cells) := B1.kept k2
  have HD : Hid (Blk ((w.alloc (.cells c.cells.toArray 28)).alloc (.cells d.cells.toArray 28)) (w.heap.size + 1) 28 d.cells) := by have h := B2; rw [show (w.alloc (.cells c.cells.toArray 28)).heap.size = w.heap.size + 1 by simp] at h; exact h
  have kw0 := k1.trans k2
  clear B1 B2 k1 k2
  have PA : Hid (c.putB = []) := putB_f hA.out
  have PB : Hid (d.putB = d.enc) := putB_t hB.out
  have NB : Hid (0 < d.enc.length) := by show _ < _; rw [enc_len d HTd.out]; omega
  go_enter Try.func8, Try.ntmps8
  go_upto_region 1 with fail
  generalize w.heap.size + 1 = gd at HD ⊢
  generalize w.heap.size = gc at HC ⊢
  generalize ((w.alloc (.cells c.cells.toArray 28)).alloc (.cells d.cells.toArray 28)) = w0 at HC HD kw0 ⊢
  refine wp_free 4 [.eq (c.v), .bytes [], .eq (d.v), .bytes d.enc] (by kernel_rfl) rfl (by kernel_rfl) ?_ ?_
  · refine fsteps_cons 1 rfl (fun a u hE hD hk => f_val (o := ⟨some 7, _, _, _, _, _⟩) (c.v) rfl (wanted_none rfl _) (exec_loadS 28 (.tmp 2) (gc) _ c.cells _ rfl (hE 2 (.pointer (some ⟨gc, 0, none⟩)) (by kernel_rfl) (by kernel_rfl)) (HC.out.kept hk) Try.underlying28 (by rw [Cmd.cells_len _ HTc.out]; exact cmd_size)) rfl) ?_
    refine fsteps_cons 2 rfl (fun a u hE hD hk => f_call (o := ⟨some 8, _, _, _, _, _⟩) 11 #[c.v] rfl (wanted_none rfl _) (exec_call 11 _ [.tmp 7] _ [c.v] Try.func11 (by kernel_rfl) (by kernel_rfl) rfl (show [a.eval (.tmp 7)] = [c.v] from (by rw [show a.eval (.tmp 7) = c.v from (hD 0 7 (by kernel_rfl))] <;> rfl)) u) (put_bytes c _ u HTc PA.out)) ?_
    refine fsteps_cons 3 rfl (fun a u hE hD hk => f_val (o := ⟨some 9, _, _, _, _, _⟩) (d.v) rfl (wanted_none rfl _) (exec_loadS 28 (.tmp 3) (gd) _ d.cells _ rfl (hE 3 (.pointer (some ⟨gd, 0, none⟩)) (by kernel_rfl) (by kernel_rfl)) (HD.out.kept hk) Try.underlying28 (by rw [Cmd.cells_len _ HTd.out]; exact cmd_size)) rfl) ?_
    refine fsteps_cons 4 rfl (fun a u hE hD hk => f_call (o := ⟨some 10, _, _, _, _, _⟩) 11 #[d.v] rfl (wanted_none rfl _) (exec_call 11 _ [.tmp 9] _ [d.v] Try.func11 (by kernel_rfl) (by kernel_rfl) rfl (show [a.eval (.tmp 9)] = [d.v] from (by rw [show a.eval (.tmp 9) = d.v from (hD 2 9 (by kernel_rfl))] <;> rfl)) u) (put_bytes d _ u HTd PB.out)) ?_
    exact fsteps_nil
  intro gv w1 hV k1
  rw [show dstsOf _ 4 = [7, 8, 9, 10] by kernel_rfl]
  simp only [List.foldl_cons, List.foldl_nil, List.setIfInBounds_toArray, List.set_cons_succ, List.set_cons_zero, List.drop_succ_cons, List.drop_zero]
  have hv8 : (.bytes [] : Kn).p (gv 8) w1 := hV 1 8 (by kernel_rfl)
  generalize gv 8 = v8 at hv8 ⊢
  have hv10 : (.bytes d.enc : Kn).p (gv 10) w1 := hV 3 10 (by kernel_rfl)
  generalize gv 10 = v10 at hv10 ⊢
  clear hV
  have X1 : Hid (Bytes w1 v8 []) := hv8
  have Y1 : Hid (Bytes w1 v10 d.enc) := hv10
  have C1 := Lib.hid (HC.out.kept k1)
  have D1 := Lib.hid (HD.out.kept k1)
  have kw1 := kw0.trans k1
  clear hv8 hv10 HC HD kw0 k1
  go_upto_region 2 with fail
  refine wp_text 7 [.eq (c.v), .eq (.bool false), .eq (.bool true), .eq (.bool true), .eq undef, .eq undef, .eq undef] rfl (by kernel_rfl) ?_ ?_
  · refine fsteps_cons 1 rfl (fun a u hE hD hk => f_val (o := ⟨some 11, _, _, _, _, _⟩) (c.v) rfl (wanted_none rfl _) (exec_loadS 28 (.tmp 2) (gc) _ c.cells _ rfl (hE 2 (.pointer (some ⟨gc, 0, none⟩)) (by kernel_rfl) (by kernel_rfl)) (C1.out.kept hk) Try.underlying28 (by rw [Cmd.cells_len _ HTc.out]; exact cmd_size)) rfl) ?_
    refine fsteps_cons 2 rfl (fun a u hE hD hk => f_call (o := ⟨some 12, _, _, _, _, _⟩) 13 #[c.v] rfl (wanted_none rfl _) (exec_call 13 _ [.tmp 11] _ [c.v] Try.func13 (by kernel_rfl) (by kernel_rfl) rfl (show [a.eval (.tmp 11)] = [c.v] from (by rw [show a.eval (.tmp 11) = c.v from (hD 0 11 (by kernel_rfl))] <;> rfl)) u) (msgRight_is c false u HTc hA.out)) ?_
    refine fsteps_cons 3 rfl (fun a u hE hD hk => f_val (o := ⟨some 13, _, _, _, _, _⟩) (.bool true) rfl (wanted_none rfl _) (exec_not _ (.tmp 12) false rfl (hD 1 12 (by kernel_rfl))) rfl) ?_
    refine fsteps_cons 4 rfl (fun a u hE hD hk => f_val (o := ⟨some 14, _, _, _, _, _⟩) (.bool true) rfl (wanted_none rfl _) (exec_move (.tmp 13) (.bool true) rfl (hD 2 13 (by kernel_rfl))) rfl) ?_
    refine fsteps_cons 5 rfl (fun a u hE hD hk => f_skip (o := ⟨some 15, _, _, _, _, _⟩) rfl (wanted_at (b := false) true rfl rfl (hD 3 14 (by kernel_rfl))) rfl) ?_
    refine fsteps_cons 6 rfl (fun a u hE hD hk => f_skip (o := ⟨some 16, _, _, _, _, _⟩) rfl (wanted_at (b := false) true rfl rfl (hD 3 14 (by kernel_rfl))) rfl) ?_
    refine fsteps_cons 7 rfl (fun a u hE hD hk => f_skip (o := ⟨some 17, _, _, _, _, _⟩) rfl (wanted_at (b := false) true rfl rfl (hD 3 14 (by kernel_rfl))) rfl) ?_
    exact fsteps_nil
  intro gv w2 hV k2
  rw [show dstsOf _ 7 = [11, 12, 13, 14, 15, 16, 17] by kernel_rfl]
  simp only [List.foldl_cons, List.foldl_nil, List.setIfInBounds_toArray, List.set_cons_succ, List.set_cons_zero, List.drop_succ_cons, List.drop_zero]
  rw [show gv 14 = .bool true from hV 3 14 (by kernel_rfl)]
  rw [show gv 17 = undef from hV 6 17 (by kernel_rfl)]
  clear hV
  have X2 := Lib.hid (X1.out.kept k2)
  have Y2 := Lib.hid (Y1.out.kept k2)
  have C2 := Lib.hid (C1.out.kept k2)
  have D2 := Lib.hid (D1.out.kept k2)
  have kw2 := kw1.trans k2
  clear X1 Y1 C1 D1 kw1 k2
  go_upto_region 3 with fail
  refine wp_text 17 [.eq (v8), .eq (.int .i64 (0 : Int)), .eq (.bool false), .eq (c.v), .eq (.bool false), .eq (.bool true), .eq (.bool true), .eq (v10), .eq (.int .i64 (d.enc.length : Int)), .eq (.bool true), .eq (d.v), .eq (.bool true), .eq (.bool true), .eq (.bool true), .eq (.bool true), .eq (.bool true), .eq (.bool true)] rfl (by kernel_rfl) ?_ ?_
  · refine fsteps_cons 1 rfl (fun a u hE hD hk => f_val (o := ⟨some 19, _, _, _, _, _⟩) (v8) rfl (wanted_none rfl _) (exec_move (.tmp 5) (v8) rfl (hE 5 (v8) (by kernel_rfl) (by kernel_rfl))) rfl) ?_
    refine fsteps_cons 2 rfl (fun a u hE hD hk => f_val (o := ⟨some 20, _, _, _, _, _⟩) (.int .i64 (0 : Int)) rfl (wanted_none rfl _) (exec_lenB (.tmp 19) [] 0 rfl (by rw [show a.eval (.tmp 19) = v8 from (hD 0 19 (by kernel_rfl))]; exact X2.out.kept hk) rfl) rfl) ?_
    refine fsteps_cons 3 rfl (fun a u hE hD hk => f_val (o := ⟨some 21, _, _, _, _, _⟩) (.bool false) rfl (wanted_none rfl _) (exec_cmpi .gtr (.tmp 20) (.const (.int .i64 0)) _ (0 : Int) 0 false rfl (hD 1 20 (by kernel_rfl)) rfl (.inr (.inr (.inl ⟨rfl, by simp⟩)))) rfl) ?_
    refine fsteps_cons 4 rfl (fun a u hE hD hk => f_val (o := ⟨some 22, _, _, _, _, _⟩) (c.v) rfl (wanted_none rfl _) (exec_loadS 28 (.tmp 2) (gc) _ c.cells _ rfl (hE 2 (.pointer (some ⟨gc, 0, none⟩)) (by kernel_rfl) (by kernel_rfl)) (C2.out.kept hk) Try.underlying28 (by rw [Cmd.cells_len _ HTc.out]; exact cmd_size)) rfl) ?_
    refine fsteps_cons 5 rfl (fun a u hE hD hk => f_call (o := ⟨some 23, _, _, _, _, _⟩) 13 #[c.v] rfl (wanted_none rfl _) (exec_call 13 _ [.tmp 22] _ [c.v] Try.func13 (by kernel_rfl) (by kernel_rfl) rfl (show [a.eval (.tmp 22)] = [c.v] from (by rw [show a.eval (.tmp 22) = c.v from (hD 3 22 (by kernel_rfl))] <;> rfl)) u) (msgRight_is c false u HTc hA.out)) ?_
    refine fsteps_cons 6 rfl (fun a u hE hD hk => f_val (o := ⟨some 24, _, _, _, _, _⟩) (.bool true) rfl (wanted_none rfl _) (exec_eqb (.tmp 21) (.tmp 23) _ false false true rfl (hD 2 21 (by kernel_rfl)) (hD 4 23 (by kernel_rfl)) rfl) rfl) ?_
    refine fsteps_cons 7 rfl (fun a u hE hD hk => f_val (o := ⟨some 25, _, _, _, _, _⟩) (.bool true) rfl (wanted_none rfl _) (exec_move (.tmp 24) (.bool true) rfl (hD 5 24 (by kernel_rfl))) rfl) ?_
    refine fsteps_cons 8 rfl (fun a u hE hD hk => f_val (o := ⟨some 26, _, _, _, _, _⟩) (v10) rfl (wanted_at (b := true) true rfl rfl (hD 6 25 (by kernel_rfl))) (exec_move (.tmp 6) (v10) rfl (hE 6 (v10) (by kernel_rfl) (by kernel_rfl))) rfl) ?_
    refine fsteps_cons 9 rfl (fun a u hE hD hk => f_val (o := ⟨some 27, _, _, _, _, _⟩) (.int .i64 (d.enc.length : Int)) rfl (wanted_at (b := true) true rfl rfl (hD 6 25 (by kernel_rfl))) (exec_lenB (.tmp 26) d.enc d.enc.length rfl (by rw [show a.eval (.tmp 26) = v10 from (hD 7 26 (by kernel_rfl))]; exact Y2.out.kept hk) rfl) rfl) ?_
    refine fsteps_cons 10 rfl (fun a u hE hD hk => f_val (o := ⟨some 28, _, _, _, _, _⟩) (.bool true) rfl (wanted_at (b := true) true rfl rfl (hD 6 25 (by kernel_rfl))) (exec_cmpi .gtr (.tmp 27) (.const (.int .i64 0)) _ (d.enc.length : Int) 0 true rfl (hD 8 27 (by kernel_rfl)) rfl (.inr (.inr (.inl ⟨rfl, by have := NB.out; simp; omega⟩)))) rfl) ?_
    refine fsteps_cons 11 rfl (fun a u hE hD hk => f_val (o := ⟨some 29, _, _, _, _, _⟩) (d.v) rfl (wanted_at (b := true) true rfl rfl (hD 6 25 (by kernel_rfl))) (exec_loadS 28 (.tmp 3) (gd) _ d.cells _ rfl (hE 3 (.pointer (some ⟨gd, 0, none⟩)) (by kernel_rfl) (by kernel_rfl)) (D2.out.kept hk) Try.underlying28 (by rw [Cmd.cells_len _ HTd.out]; exact cmd_size)) rfl) ?_
    refine fsteps_cons 12 rfl (fun a u hE hD hk => f_call (o := ⟨some 30, _, _, _, _, _⟩) 13 #[d.v] rfl (wanted_at (b := true) true rfl rfl (hD 6 25 (by kernel_rfl))) (exec_call 13 _ [.tmp 29] _ [d.v] Try.func13 (by kernel_rfl) (by kernel_rfl) rfl (show [a.eval (.tmp 29)] = [d.v] from (by rw [show a.eval (.tmp 29) = d.v from (hD 10 29 (by kernel_rfl))] <;> rfl)) u) (msgRight_is d true u HTd hB.out)) ?_
    refine fsteps_cons 13 rfl (fun a u hE hD hk => f_val (o := ⟨some 31, _, _, _, _, _⟩) (.bool true) rfl (wanted_at (b := true) true rfl rfl (hD 6 25 (by kernel_rfl))) (exec_eqb (.tmp 28) (.tmp 30) _ true true true rfl (hD 9 28 (by kernel_rfl)) (hD 11 30 (by kernel_rfl)) rfl) rfl) ?_
    refine fsteps_cons 14 rfl (fun a u hE hD hk => f_val (o := ⟨some 32, _, _, _, _, _⟩) (.bool true) rfl (wanted_none rfl _) (exec_pick (.tmp 25) (.tmp 31) (.const (.bool false)) (.bool true) rfl (hD 6 25 (by kernel_rfl)) (hD 12 31 (by kernel_rfl))) rfl) ?_
    refine fsteps_cons 15 rfl (fun a u hE hD hk => f_val (o := ⟨some 33, _, _, _, _, _⟩) (.bool true) rfl (wanted_none rfl _) (exec_move (.tmp 32) (.bool true) rfl (hD 13 32 (by kernel_rfl))) rfl) ?_
    refine fsteps_cons 16 rfl (fun a u hE hD hk => f_call (o := ⟨some 34, _, _, _, _, _⟩) 3 #[] rfl (wanted_at (b := true) true rfl rfl (hD 14 33 (by kernel_rfl))) (exec_call 3 _ [] _ [] Try.func3 (by kernel_rfl) (by kernel_rfl) rfl rfl u) (runs_gives u)) ?_
    refine fsteps_cons 17 rfl (fun a u hE hD hk => f_val (o := ⟨some 35, _, _, _, _, _⟩) (.bool true) rfl (wanted_none rfl _) (exec_pick (.tmp 33) (.tmp 34) (.const (.bool false)) (.bool true) rfl (hD 14 33 (by kernel_rfl)) (hD 15 34 (by kernel_rfl))) rfl) ?_
    exact fsteps_nil
  intro gv w3 hV k3
  rw [show dstsOf _ 17 = [19, 20, 21, 22, 23, 24, 25, 26, 27, 28, 29, 30, 31, 32, 33, 34, 35] by kernel_rfl]
  simp only [List.foldl_cons, List.foldl_nil, List.setIfInBounds_toArray, List.set_cons_succ, List.set_cons_zero, List.drop_succ_cons, List.drop_zero]
  rw [show gv 35 = .bool true from hV 16 35 (by kernel_rfl)]
  clear hV
  have kw3 := kw2.trans k3
  go_wp2
  go_ret
  exact ⟨rfl, kw3⟩

set_option maxRecDepth 100000 in
set_option maxHeartbeats 3200000 in
theorem lens_tf (c d : Cmd) (w : World) (HTc : Hid (c.tag.length = 32)) (HTd : Hid (d.tag.length = 32)) (hA : Hid (c.right = true)) (hB : Hid (d.right = false)) : Calls Try.prog 8 #[c.v, d.v] w fun e w' => e = .returned (.bool true) ∧ Kept w w' := by
  unfold Cmd.v
  have k1 : Kept w (w.alloc (.cells c.cells.toArray 28)) := (Keep.refl _ w).alloc _
  have B1 := Blk.new w 28 c.cells
  have k2 : Kept (w.alloc (.cells c.cells.toArray 28)) ((w.alloc (.cells c.cells.toArray 28)).alloc (.cells d.cells.toArray 28)) := (Keep.refl _ _).alloc _
  have B2 := Blk.new (w.alloc (.cells c.cells.toArray 28)) 28 d.cells
  have HC : Hid (Blk ((w.alloc (.cells c.cells.toArray 28)).alloc (.cells d.cells.toArray 28)) w.heap.size 28 c.cells) := B1.kept k2
  have HD : Hid (Blk ((w.alloc (.cells c.cells.toArray 28)).alloc (.cells d.cells.toArray 28)) (w.heap.size + 1) 28 d.cells) := by have h := B2; rw [show (w.alloc (.cells c.cells.toArray 28)).heap.size = w.heap.size + 1 by simp] at h; exact h
  have kw0 := k1.trans k2
  clear B1 B2 k1 k2
  have PA : Hid (c.putB = c.enc) := putB_t hA.out
  have PB : Hid (d.putB = []) := putB_f hB.out
  have NA : Hid (0 < c.enc.length) := by show _ < _; rw [enc_len c HTc.out]; omega
  go_enter Try.func8, Try.ntmps8
  go_upto_region 1 with fail
  generalize w.heap.size + 1 = gd at HD ⊢
  generalize w.heap.size = gc at HC ⊢
  generalize ((w.alloc (.cells c.cells.toArray 28)).alloc (.cells d.cells.toArray 28)) = w0 at HC HD kw0 ⊢
  refine wp_free 4 [.eq (c.v), .bytes c.enc, .eq (d.v), .bytes []] (by kernel_rfl) rfl (by kernel_rfl) ?_ ?_
  · refine fsteps_cons 1 rfl (fun a u hE hD hk => f_val (o := ⟨some 7, _, _, _, _, _⟩) (c.v) rfl (wanted_none rfl _) (exec_loadS 28 (.tmp 2) (gc) _ c.cells _ rfl (hE 2 (.pointer (some ⟨gc, 0, none⟩)) (by kernel_rfl) (by kernel_rfl)) (HC.out.kept hk) Try.underlying28 (by rw [Cmd.cells_len _ HTc.out]; exact cmd_size)) rfl) ?_
    refine fsteps_cons 2 rfl (fun a u hE hD hk => f_call (o := ⟨some 8, _, _, _, _, _⟩) 11 #[c.v] rfl (wanted_none rfl _) (exec_call 11 _ [.tmp 7] _ [c.v] Try.func11 (by kernel_rfl) (by kernel_rfl) rfl (show [a.eval (.tmp 7)] = [c.v] from (by rw [show a.eval (.tmp 7) = c.v from (hD 0 7 (by kernel_rfl))] <;> rfl)) u) (put_bytes c _ u HTc PA.out)) ?_
    refine fsteps_cons 3 rfl (fun a u hE hD hk => f_val (o := ⟨some 9, _, _, _, _, _⟩) (d.v) rfl (wanted_none rfl _) (exec_loadS 28 (.tmp 3) (gd) _ d.cells _ rfl (hE 3 (.pointer (some ⟨gd, 0, none⟩)) (by kernel_rfl) (by kernel_rfl)) (HD.out.kept hk) Try.underlying28 (by rw [Cmd.cells_len _ HTd.out]; exact cmd_size)) rfl) ?_
    refine fsteps_cons 4 rfl (fun a u hE hD hk => f_call (o := ⟨some 10, _, _, _, _, _⟩) 11 #[d.v] rfl (wanted_none rfl _) (exec_call 11 _ [.tmp 9] _ [d.v] Try.func11 (by kernel_rfl) (by kernel_rfl) rfl (show [a.eval (.tmp 9)] = [d.v] from (by rw [show a.eval (.tmp 9) = d.v from (hD 2 9 (by kernel_rfl))] <;> rfl)) u) (put_bytes d _ u HTd PB.out)) ?_
    exact fsteps_nil
  intro gv w1 hV k1
  rw [show dstsOf _ 4 = [7, 8, 9, 10] by kernel_rfl]
  simp only [List.foldl_cons, List.foldl_nil, List.setIfInBounds_toArray, List.set_cons_succ, List.set_cons_zero, List.drop_succ_cons, List.drop_zero]
  have hv8 : (.bytes c.enc : Kn).p (gv 8) w1 := hV 1 8 (by kernel_rfl)
  generalize gv 8 = v8 at hv8 ⊢
  have hv10 : (.bytes [] : Kn).p (gv 10) w1 := hV 3 10 (by kernel_rfl)
  generalize gv 10 = v10 at hv10 ⊢
  clear hV
  have X1 : Hid (Bytes w1 v8 c.enc) := hv8
  have Y1 : Hid (Bytes w1 v10 []) := hv10
  have C1 := Lib.hid (HC.out.kept k1)
  have D1 := Lib.hid (HD.out.kept k1)
  have kw1 := kw0.trans k1
  clear hv8 hv10 HC HD kw0 k1
  go_upto_region 2 with fail
  refine wp_text 7 [.eq (c.v), .eq (.bool true), .eq (.bool false), .eq (.bool false), .eq (d.v), .eq (.bool false), .eq (.bool true)] rfl (by kernel_rfl) ?_ ?_
  · refine fsteps_cons 1 rfl (fun a u hE hD hk => f_val (o := ⟨some 11, _, _, _, _, _⟩) (c.v) rfl (wanted_none rfl _) (exec_loadS 28 (.tmp 2) (gc) _ c.cells _ rfl (hE 2 (.pointer (some ⟨gc, 0, none⟩)) (by kernel_rfl) (by kernel_rfl)) (C1.out.kept hk) Try.underlying28 (by rw [Cmd.cells_len _ HTc.out]; exact cmd_size)) rfl) ?_
    refine fsteps_cons 2 rfl (fun a u hE hD hk => f_call (o := ⟨some 12, _, _, _, _, _⟩) 13 #[c.v] rfl (wanted_none rfl _) (exec_call 13 _ [.tmp 11] _ [c.v] Try.func13 (by kernel_rfl) (by kernel_rfl) rfl (show [a.eval (.tmp 11)] = [c.v] from (by rw [show a.eval (.tmp 11) = c.v from (hD 0 11 (by kernel_rfl))] <;> rfl)) u) (msgRight_is c true u HTc hA.out)) ?_
    refine fsteps_cons 3 rfl (fun a u hE hD hk => f_val (o := ⟨some 13, _, _, _, _, _⟩) (.bool false) rfl (wanted_none rfl _) (exec_not _ (.tmp 12) true rfl (hD 1 12 (by kernel_rfl))) rfl) ?_
    refine fsteps_cons 4 rfl (fun a u hE hD hk => f_val (o := ⟨some 14, _, _, _, _, _⟩) (.bool false) rfl (wanted_none rfl _) (exec_move (.tmp 13) (.bool false) rfl (hD 2 13 (by kernel_rfl))) rfl) ?_
    refine fsteps_cons 5 rfl (fun a u hE hD hk => f_val (o := ⟨some 15, _, _, _, _, _⟩) (d.v) rfl (wanted_at (b := false) false rfl rfl (hD 3 14 (by kernel_rfl))) (exec_loadS 28 (.tmp 3) (gd) _ d.cells _ rfl (hE 3 (.pointer (some ⟨gd, 0, none⟩)) (by kernel_rfl) (by kernel_rfl)) (D1.out.kept hk) Try.underlying28 (by rw [Cmd.cells_len _ HTd.out]; exact cmd_size)) rfl) ?_
    refine fsteps_cons 6 rfl (fun a u hE hD hk => f_call (o := ⟨some 16, _, _, _, _, _⟩) 13 #[d.v] rfl (wanted_at (b := false) false rfl rfl (hD 3 14 (by kernel_rfl))) (exec_call 13 _ [.tmp 15] _ [d.v] Try.func13 (by kernel_rfl) (by kernel_rfl) rfl (show [a.eval (.tmp 15)] = [d.v] from (by rw [show a.eval (.tmp 15) = d.v from (hD 4 15 (by kernel_rfl))] <;> rfl)) u) (msgRight_is d false u HTd hB.out)) ?_
    refine fsteps_cons 7 rfl (fun a u hE hD hk => f_val (o := ⟨some 17, _, _, _, _, _⟩) (.bool true) rfl (wanted_at (b := false) false rfl rfl (hD 3 14 (by kernel_rfl))) (exec_not _ (.tmp 16) false rfl (hD 5 16 (by kernel_rfl))) rfl) ?_
    exact fsteps_nil
  intro gv w2 hV k2
  rw [show dstsOf _ 7 = [11, 12, 13, 14, 15, 16, 17] by kernel_rfl]
  simp only [List.foldl_cons, List.foldl_nil, List.setIfInBounds_toArray, List.set_cons_succ, List.set_cons_zero, List.drop_succ_cons, List.drop_zero]
  rw [show gv 14 = .bool false from hV 3 14 (by kernel_rfl)]
  rw [show gv 17 = .bool true from hV 6 17 (by kernel_rfl)]
  clear hV
  have X2 := Lib.hid (X1.out.kept k2)
  have Y2 := Lib.hid (Y1.out.kept k2)
  have C2 := Lib.hid (C1.out.kept k2)
  have D2 := Lib.hid (D1.out.kept k2)
  have kw2 := kw1.trans k2
  clear X1 Y1 C1 D1 kw1 k2
  go_upto_region 3 with fail
  refine wp_text 17 [.eq (v8), .eq (.int .i64 (c.enc.length : Int)), .eq (.bool true), .eq (c.v), .eq (.bool true), .eq (.bool true), .eq (.bool true), .eq (v10), .eq (.int .i64 (0 : Int)), .eq (.bool false), .eq (d.v), .eq (.bool false), .eq (.bool true), .eq (.bool true), .eq (.bool true), .eq (.bool true), .eq (.bool true)] rfl (by kernel_rfl) ?_ ?_
  · refine fsteps_cons 1 rfl (fun a u hE hD hk => f_val (o := ⟨some 19, _, _, _, _, _⟩) (v8) rfl (wanted_none rfl _) (exec_move (.tmp 5) (v8) rfl (hE 5 (v8) (by kernel_rfl) (by kernel_rfl))) rfl) ?_
    refine fsteps_cons 2 rfl (fun a u hE hD hk => f_val (o := ⟨some 20, _, _, _, _, _⟩) (.int .i64 (c.enc.length : Int)) rfl (wanted_none rfl _) (exec_lenB (.tmp 19) c.enc c.enc.length rfl (by rw [show a.eval (.tmp 19) = v8 from (hD 0 19 (by kernel_rfl))]; exact X2.out.kept hk) rfl) rfl) ?_
    refine fsteps_cons 3 rfl (fun a u hE hD hk => f_val (o := ⟨some 21, _, _, _, _, _⟩) (.bool true) rfl (wanted_none rfl _) (exec_cmpi .gtr (.tmp 20) (.const (.int .i64 0)) _ (c.enc.length : Int) 0 true rfl (hD 1 20 (by kernel_rfl)) rfl (.inr (.inr (.inl ⟨rfl, by have := NA.out; simp; omega⟩)))) rfl) ?_
    refine fsteps_cons 4 rfl (fun a u hE hD hk => f_val (o := ⟨some 22, _, _, _, _, _⟩) (c.v) rfl (wanted_none rfl _) (exec_loadS 28 (.tmp 2) (gc) _ c.cells _ rfl (hE 2 (.pointer (some ⟨gc, 0, none⟩)) (by kernel_rfl) (by kernel_rfl)) (C2.out.kept hk) Try.underlying28 (by rw [Cmd.cells_len _ HTc.out]; exact cmd_size)) rfl) ?_
    refine fsteps_cons 5 rfl (fun a u hE hD hk => f_call (o := ⟨some 23, _, _, _, _, _⟩) 13 #[c.v] rfl (wanted_none rfl _) (exec_call 13 _ [.tmp 22] _ [c.v] Try.func13 (by kernel_rfl) (by kernel_rfl) rfl (show [a.eval (.tmp 22)] = [c.v] from (by rw [show a.eval (.tmp 22) = c.v from (hD 3 22 (by kernel_rfl))] <;> rfl)) u) (msgRight_is c true u HTc hA.out)) ?_
    refine fsteps_cons 6 rfl (fun a u hE hD hk => f_val (o := ⟨some 24, _, _, _, _, _⟩) (.bool true) rfl (wanted_none rfl _) (exec_eqb (.tmp 21) (.tmp 23) _ true true true rfl (hD 2 21 (by kernel_rfl)) (hD 4 23 (by kernel_rfl)) rfl) rfl) ?_
    refine fsteps_cons 7 rfl (fun a u hE hD hk => f_val (o := ⟨some 25, _, _, _, _, _⟩) (.bool true) rfl (wanted_none rfl _) (exec_move (.tmp 24) (.bool true) rfl (hD 5 24 (by kernel_rfl))) rfl) ?_
    refine fsteps_cons 8 rfl (fun a u hE hD hk => f_val (o := ⟨some 26, _, _, _, _, _⟩) (v10) rfl (wanted_at (b := true) true rfl rfl (hD 6 25 (by kernel_rfl))) (exec_move (.tmp 6) (v10) rfl (hE 6 (v10) (by kernel_rfl) (by kernel_rfl))) rfl) ?_
    refine fsteps_cons 9 rfl (fun a u hE hD hk => f_val (o := ⟨some 27, _, _, _, _, _⟩) (.int .i64 (0 : Int)) rfl (wanted_at (b := true) true rfl rfl (hD 6 25 (by kernel_rfl))) (exec_lenB (.tmp 26) [] 0 rfl (by rw [show a.eval (.tmp 26) = v10 from (hD 7 26 (by kernel_rfl))]; exact Y2.out.kept hk) rfl) rfl) ?_
    refine fsteps_cons 10 rfl (fun a u hE hD hk => f_val (o := ⟨some 28, _, _, _, _, _⟩) (.bool false) rfl (wanted_at (b := true) true rfl rfl (hD 6 25 (by kernel_rfl))) (exec_cmpi .gtr (.tmp 27) (.const (.int .i64 0)) _ (0 : Int) 0 false rfl (hD 8 27 (by kernel_rfl)) rfl (.inr (.inr (.inl ⟨rfl, by simp⟩)))) rfl) ?_
    refine fsteps_cons 11 rfl (fun a u hE hD hk => f_val (o := ⟨some 29, _, _, _, _, _⟩) (d.v) rfl (wanted_at (b := true) true rfl rfl (hD 6 25 (by kernel_rfl))) (exec_loadS 28 (.tmp 3) (gd) _ d.cells _ rfl (hE 3 (.pointer (some ⟨gd, 0, none⟩)) (by kernel_rfl) (by kernel_rfl)) (D2.out.kept hk) Try.underlying28 (by rw [Cmd.cells_len _ HTd.out]; exact cmd_size)) rfl) ?_
    refine fsteps_cons 12 rfl (fun a u hE hD hk => f_call (o := ⟨some 30, _, _, _, _, _⟩) 13 #[d.v] rfl (wanted_at (b := true) true rfl rfl (hD 6 25 (by kernel_rfl))) (exec_call 13 _ [.tmp 29] _ [d.v] Try.func13 (by kernel_rfl) (by kernel_rfl) rfl (show [a.eval (.tmp 29)] = [d.v] from (by rw [show a.eval (.tmp 29) = d.v from (hD 10 29 (by kernel_rfl))] <;> rfl)) u) (msgRight_is d false u HTd hB.out)) ?_
    refine fsteps_cons 13 rfl (fun a u hE hD hk => f_val (o := ⟨some 31, _, _, _, _, _⟩) (.bool true) rfl (wanted_at (b := true) true rfl rfl (hD 6 25 (by kernel_rfl))) (exec_eqb (.tmp 28) (.tmp 30) _ false false true rfl (hD 9 28 (by kernel_rfl)) (hD 11 30 (by kernel_rfl)) rfl) rfl) ?_
    refine fsteps_cons 14 rfl (fun a u hE hD hk => f_val (o := ⟨some 32, _, _, _, _, _⟩) (.bool true) rfl (wanted_none rfl _) (exec_pick (.tmp 25) (.tmp 31) (.const (.bool false)) (.bool true) rfl (hD 6 25 (by kernel_rfl)) (hD 12 31 (by kernel_rfl))) rfl) ?_
    refine fsteps_cons 15 rfl (fun a u hE hD hk => f_val (o := ⟨some 33, _, _, _, _, _⟩) (.bool true) rfl (wanted_none rfl _) (exec_move (.tmp 32) (.bool true) rfl (hD 13 32 (by kernel_rfl))) rfl) ?_
    refine fsteps_cons 16 rfl (fun a u hE hD hk => f_call (o := ⟨some 34, _, _, _, _, _⟩) 3 #[] rfl (wanted_at (b := true) true rfl rfl (hD 14 33 (by kernel_rfl))) (exec_call 3 _ [] _ [] Try.func3 (by kernel_rfl) (by kernel_rfl) rfl rfl u) (runs_gives u)) ?_
    refine fsteps_cons 17 rfl (fun a u hE hD hk => f_val (o := ⟨some 35, _, _, _, _, _⟩) (.bool true) rfl (wanted_none rfl _) (exec_pick (.tmp 33) (.tmp 34) (.const (.bool false)) (.bool true) rfl (hD 14 33 (by kernel_rfl)) (hD 15 34 (by kernel_rfl))) rfl) ?_
    exact fsteps_nil
  intro gv w3 hV k3
  rw [show dstsOf _ 17 = [19, 20, 21, 22, 23, 24, 25, 26, 27, 28, 29, 30, 31, 32, 33, 34, 35] by kernel_rfl]
  simp only [List.foldl_cons, List.foldl_nil, List.setIfInBounds_toArray, List.set_cons_succ, List.set_cons_zero, List.drop_succ_cons, List.drop_zero]
  rw [show gv 35 = .bool true from hV 16 35 (by kernel_rfl)]
  clear hV
  have kw3 := kw2.trans k3
  go_wp2
  go_ret
  exact ⟨rfl, kw3⟩

set_option maxRecDepth 100000 in
set_option maxHeartbeats 3200000 in
theorem lens_tte (c d : Cmd) (w : World) (HTc : Hid (c.tag.length = 32)) (HTd : Hid (d.tag.length = 32)) (hA : Hid (c.right = true)) (hB : Hid (d.right = true)) (hEq : Hid (decide (c.k ≠ d.k) = false)) : Calls Try.prog 8 #[c.v, d.v] w fun e w' => e = .returned (.bool true) ∧ Kept w w' := by
  unfold Cmd.v
  have k1 : Kept w (w.alloc (.cells c.cells.toArray 28)) := (Keep.refl _ w).alloc _
  have B1 := Blk.new w 28 c.cells
  have k2 : Kept (w.alloc (.cells c.cells.toArray 28)) ((w.alloc (.cells c.cells.toArray 28)).alloc (.cells d.cells.toArray 28)) := (Keep.refl _ _).alloc _
  have B2 := Blk.new (w.alloc (.cells c.cells.toArray 28)) 28 d.cells
  have HC : Hid (Blk ((w.alloc (.cells c.cells.toArray 28)).alloc (.cells d.cells.toArray 28)) w.heap.size 28 c.cells) := B1.kept k2
  have HD : Hid (Blk ((w.alloc (.cells c.cells.toArray 28)).alloc (.cells d.cells.toArray 28)) (w.heap.size + 1) 28 d.cells) := by have h := B2; rw [show (w.alloc (.cells c.cells.toArray 28)).heap.size = w.heap.size + 1 by simp] at h; exact h
  have kw0 := k1.trans k2
  clear B1 B2 k1 k2
  have PA : Hid (c.putB = c.enc) := putB_t hA.out
  have PB : Hid (d.putB = d.enc) := putB_t hB.out
  have LA : Hid (c.enc.length = 1 + (plan c.k).sum) := enc_len c HTc.out
  have LB : Hid (d.enc.length = 1 + (plan d.k).sum) := enc_len d HTd.out
  have LP : Hid ((plan c.k).sum ≤ 32) := plan_le c.k
  have U8 : Hid (((u8 c.k).toNat : Int) = c.k) := u8_kind c (right_of hA.out).kind
  have NA : Hid (0 < c.enc.length) := by show _ < _; rw [enc_len c HTc.out]; omega
  have NB : Hid (0 < d.enc.length) := by show _ < _; rw [enc_len d HTd.out]; omega
  go_enter Try.func8, Try.ntmps8
  go_upto_region 1 with fail
  generalize w.heap.size + 1 = gd at HD ⊢
  generalize w.heap.size = gc at HC ⊢
  generalize ((w.alloc (.cells c.cells.toArray 28)).alloc (.cells d.cells.toArray 28)) = w0 at HC HD kw0 ⊢
  refine wp_free 4 [.eq (c.v), .bytes c.enc, .eq (d.v), .bytes d.enc] (by kernel_rfl) rfl (by kernel_rfl) ?_ ?_
  · refine fsteps_cons 1 rfl (fun a u hE hD hk => f_val (o := ⟨some 7, _, _, _, _, _⟩) (c.v) rfl (wanted_none rfl _) (exec_loadS 28 (.tmp 2) (gc) _ c.cells _ rfl (hE 2 (.pointer (some ⟨gc, 0, none⟩)) (by kernel_rfl) (by kernel_rfl)) (HC.out.kept hk) Try.underlying28 (by rw [Cmd.cells_len _ HTc.out]; exact cmd_size)) rfl) ?_
    refine fsteps_cons 2 rfl (fun a u hE hD hk => f_call (o := ⟨some 8, _, _, _, _, _⟩) 11 #[c.v] rfl (wanted_none rfl _) (exec_call 11 _ [.tmp 7] _ [c.v] Try.func11 (by kernel_rfl) (by kernel_rfl) rfl (show [a.eval (.tmp 7)] = [c.v] from (by rw [show a.eval (.tmp 7) = c.v from (hD 0 7 (by kernel_rfl))] <;> rfl)) u) (put_bytes c _ u HTc PA.out)) ?_
    refine fsteps_cons 3 rfl (fun a u hE hD hk => f_val (o := ⟨some 9, _, _, _, _, _⟩) (d.v) rfl (wanted_none rfl _) (exec_loadS 28 (.tmp 3) (gd) _ d.cells _ rfl (hE 3 (.pointer (some ⟨gd, 0, none⟩)) (by kernel_rfl) (by kernel_rfl)) (HD.out.kept hk) Try.underlying28 (by rw [Cmd.cells_len _ HTd.out]; exact cmd_size)) rfl) ?_
    refine fsteps_cons 4 rfl (fun a u hE hD hk => f_call (o := ⟨some 10, _, _, _, _, _⟩) 11 #[d.v] rfl (wanted_none rfl _) (exec_call 11 _ [.tmp 9] _ [d.v] Try.func11 (by kernel_rfl) (by kernel_rfl) rfl (show [a.eval (.tmp 9)] = [d.v] from (by rw [show a.eval (.tmp 9) = d.v from (hD 2 9 (by kernel_rfl))] <;> rfl)) u) (put_bytes d _ u HTd PB.out)) ?_
    exact fsteps_nil
  intro gv w1 hV k1
  rw [show dstsOf _ 4 = [7, 8, 9, 10] by kernel_rfl]
  simp only [List.foldl_cons, List.foldl_nil, List.setIfInBounds_toArray, List.set_cons_succ, List.set_cons_zero, List.drop_succ_cons, List.drop_zero]
  have hv8 : (.bytes c.enc : Kn).p (gv 8) w1 := hV 1 8 (by kernel_rfl)
  generalize gv 8 = v8 at hv8 ⊢
  have hv10 : (.bytes d.enc : Kn).p (gv 10) w1 := hV 3 10 (by kernel_rfl)
  generalize gv 10 = v10 at hv10 ⊢
  clear hV
  have X1 : Hid (Bytes w1 v8 c.enc) := hv8
  have Y1 : Hid (Bytes w1 v10 d.enc) := hv10
  have C1 := Lib.hid (HC.out.kept k1)
  have D1 := Lib.hid (HD.out.kept k1)
  have kw1 := kw0.trans k1
  clear hv8 hv10 HC HD kw0 k1
  go_upto_region 2 with fail
  refine wp_text 7 [.eq (c.v), .eq (.bool true), .eq (.bool false), .eq (.bool false), .eq (d.v), .eq (.bool true), .eq (.bool false)] rfl (by kernel_rfl) ?_ ?_
  · refine fsteps_cons 1 rfl (fun a u hE hD hk => f_val (o := ⟨some 11, _, _, _, _, _⟩) (c.v) rfl (wanted_none rfl _) (exec_loadS 28 (.tmp 2) (gc) _ c.cells _ rfl (hE 2 (.pointer (some ⟨gc, 0, none⟩)) (by kernel_rfl) (by kernel_rfl)) (C1.out.kept hk) Try.underlying28 (by rw [Cmd.cells_len _ HTc.out]; exact cmd_size)) rfl) ?_
    refine fsteps_cons 2 rfl (fun a u hE hD hk => f_call (o := ⟨some 12, _, _, _, _, _⟩) 13 #[c.v] rfl (wanted_none rfl _) (exec_call 13 _ [.tmp 11] _ [c.v] Try.func13 (by kernel_rfl) (by kernel_rfl) rfl (show [a.eval (.tmp 11)] = [c.v] from (by rw [show a.eval (.tmp 11) = c.v from (hD 0 11 (by kernel_rfl))] <;> rfl)) u) (msgRight_is c true u HTc hA.out)) ?_
    refine fsteps_cons 3 rfl (fun a u hE hD hk => f_val (o := ⟨some 13, _, _, _, _, _⟩) (.bool false) rfl (wanted_none rfl _) (exec_not _ (.tmp 12) true rfl (hD 1 12 (by kernel_rfl))) rfl) ?_
    refine fsteps_cons 4 rfl (fun a u hE hD hk => f_val (o := ⟨some 14, _, _, _, _, _⟩) (.bool false) rfl (wanted_none rfl _) (exec_move (.tmp 13) (.bool false) rfl (hD 2 13 (by kernel_rfl))) rfl) ?_
    refine fsteps_cons 5 rfl (fun a u hE hD hk => f_val (o := ⟨some 15, _, _, _, _, _⟩) (d.v) rfl (wanted_at (b := false) false rfl rfl (hD 3 14 (by kernel_rfl))) (exec_loadS 28 (.tmp 3) (gd) _ d.cells _ rfl (hE 3 (.pointer (some ⟨gd, 0, none⟩)) (by kernel_rfl) (by kernel_rfl)) (D1.out.kept hk) Try.underlying28 (by rw [Cmd.cells_len _ HTd.out]; exact cmd_size)) rfl) ?_
    refine fsteps_cons 6 rfl (fun a u hE hD hk => f_call (o := ⟨some 16, _, _, _, _, _⟩) 13 #[d.v] rfl (wanted_at (b := false) false rfl rfl (hD 3 14 (by kernel_rfl))) (exec_call 13 _ [.tmp 15] _ [d.v] Try.func13 (by kernel_rfl) (by kernel_rfl) rfl (show [a.eval (.tmp 15)] = [d.v] from (by rw [show a.eval (.tmp 15) = d.v from (hD 4 15 (by kernel_rfl))] <;> rfl)) u) (msgRight_is d true u HTd hB.out)) ?_
    refine fsteps_cons 7 rfl (fun a u hE hD hk => f_val (o := ⟨some 17, _, _, _, _, _⟩) (.bool false) rfl (wanted_at (b := false) false rfl rfl (hD 3 14 (by kernel_rfl))) (exec_not _ (.tmp 16) true rfl (hD 5 16 (by kernel_rfl))) rfl) ?_
    exact fsteps_nil
  intro gv w2 hV k2
  rw [show dstsOf _ 7 = [11, 12, 13, 14, 15, 16, 17] by kernel_rfl]
  simp only [List.foldl_cons, List.foldl_nil, List.setIfInBounds_toArray, List.set_cons_succ, List.set_cons_zero, List.drop_succ_cons, List.drop_zero]
  rw [show gv 14 = .bool false from hV 3 14 (by kernel_rfl)]
  rw [show gv 17 = .bool false from hV 6 17 (by kernel_rfl)]
  clear hV
  have X2 := Lib.hid (X1.out.kept k2)
  have Y2 := Lib.hid (Y1.out.kept k2)
  have C2 := Lib.hid (C1.out.kept k2)
  have D2 := Lib.hid (D1.out.kept k2)
  have kw2 := kw1.trans k2
  clear X1 Y1 C1 D1 kw1 k2
  go_upto_region 4 with fail
  refine wp_free 34 [.eq (v8), .eq (.int .i64 (c.enc.length : Int)), .eq (.bool true), .eq (.bool true), .eq (v8), .eq (.int .i64 (c.enc.length : Int)), .eq (.bool true), .eq (.bool true), .eq (.bool true), .eq (v8), .ptr8 (u8 c.k), .eq (.int .u8 ((u8 c.k).toNat : Int)), .eq (.int .i64 c.k), .eq (.pointer (some ⟨gc, 0, none⟩)), .eq (.int .i64 c.k), .eq (.bool true), .eq (.bool true), .eq (.bool true), .eq (.pointer (some ⟨gc, 0, none⟩)), .eq (.int .i64 c.k), .eq (.pointer (some ⟨gd, 0, none⟩)), .eq (.int .i64 d.k), .eq (.bool false), .eq (.bool false), .eq (v8), .eq (.int .i64 (c.enc.length : Int)), .eq (v10), .eq (.int .i64 (d.enc.length : Int)), .eq (.bool true), .eq (.bool true), .eq (.bool true), .eq (.bool true), .eq (.bool true), .eq (.bool true)] (by kernel_rfl) rfl (by kernel_rfl) ?_ ?_
  · refine fsteps_cons 1 rfl (fun a u hE hD hk => f_val (o := ⟨some 36, _, _, _, _, _⟩) (v8) rfl (wanted_none rfl _) (exec_move (.tmp 5) (v8) rfl (hE 5 (v8) (by kernel_rfl) (by kernel_rfl))) rfl) ?_
    refine fsteps_cons 2 rfl (fun a u hE hD hk => f_val (o := ⟨some 37, _, _, _, _, _⟩) (.int .i64 (c.enc.length : Int)) rfl (wanted_none rfl _) (exec_lenB (.tmp 36) c.enc c.enc.length rfl (by rw [show a.eval (.tmp 36) = v8 from (hD 0 36 (by kernel_rfl))]; exact X2.out.kept hk) rfl) rfl) ?_
    refine fsteps_cons 3 rfl (fun a u hE hD hk => f_val (o := ⟨some 38, _, _, _, _, _⟩) (.bool true) rfl (wanted_none rfl _) (exec_cmpi .gtr (.tmp 37) (.const (.int .i64 0)) _ (c.enc.length : Int) 0 true rfl (hD 1 37 (by kernel_rfl)) rfl (.inr (.inr (.inl ⟨rfl, by have := NA.out; simp; omega⟩)))) rfl) ?_
    refine fsteps_cons 4 rfl (fun a u hE hD hk => f_val (o := ⟨some 39, _, _, _, _, _⟩) (.bool true) rfl (wanted_none rfl _) (exec_move (.tmp 38) (.bool true) rfl (hD 2 38 (by kernel_rfl))) rfl) ?_
    refine fsteps_cons 5 rfl (fun a u hE hD hk => f_val (o := ⟨some 40, _, _, _, _, _⟩) (v8) rfl (wanted_at (b := true) true rfl rfl (hD 3 39 (by kernel_rfl))) (exec_move (.tmp 5) (v8) rfl (hE 5 (v8) (by kernel_rfl) (by kernel_rfl))) rfl) ?_
    refine fsteps_cons 6 rfl (fun a u hE hD hk => f_val (o := ⟨some 41, _, _, _, _, _⟩) (.int .i64 (c.enc.length : Int)) rfl (wanted_at (b := true) true rfl rfl (hD 3 39 (by kernel_rfl))) (exec_lenB (.tmp 40) c.enc c.enc.length rfl (by rw [show a.eval (.tmp 40) = v8 from (hD 4 40 (by kernel_rfl))]; exact X2.out.kept hk) rfl) rfl) ?_
    refine fsteps_cons 7 rfl (fun a u hE hD hk => f_val (o := ⟨some 42, _, _, _, _, _⟩) (.bool true) rfl (wanted_at (b := true) true rfl rfl (hD 3 39 (by kernel_rfl))) (exec_cmpi .leq (.tmp 41) (.const (.int .i64 256)) _ (c.enc.length : Int) 256 true rfl (hD 5 41 (by kernel_rfl)) rfl (.inr (.inl ⟨rfl, by have := LA.out; have := LP.out; simp; omega⟩))) rfl) ?_
    refine fsteps_cons 8 rfl (fun a u hE hD hk => f_val (o := ⟨some 43, _, _, _, _, _⟩) (.bool true) rfl (wanted_none rfl _) (exec_pick (.tmp 39) (.tmp 42) (.const (.bool false)) (.bool true) rfl (hD 3 39 (by kernel_rfl)) (hD 6 42 (by kernel_rfl))) rfl) ?_
    refine fsteps_cons 9 rfl (fun a u hE hD hk => f_val (o := ⟨some 44, _, _, _, _, _⟩) (.bool true) rfl (wanted_none rfl _) (exec_move (.tmp 43) (.bool true) rfl (hD 7 43 (by kernel_rfl))) rfl) ?_
    refine fsteps_cons 10 rfl (fun a u hE hD hk => f_val (o := ⟨some 45, _, _, _, _, _⟩) (v8) rfl (wanted_at (b := true) true rfl rfl (hD 8 44 (by kernel_rfl))) (exec_move (.tmp 5) (v8) rfl (hE 5 (v8) (by kernel_rfl) (by kernel_rfl))) rfl) ?_
    refine fsteps_cons 11 rfl (fun a u hE hD hk => f_ex (o := ⟨some 46, _, _, _, _, _⟩) rfl (wanted_at (b := true) true rfl rfl (hD 8 44 (by kernel_rfl))) (exec_ix0 (.tmp 45) (u8 c.k) c.body rfl (by rw [show a.eval (.tmp 45) = v8 from (hD 9 45 (by kernel_rfl))]; exact X2.out.kept hk))) ?_
    refine fsteps_cons 12 rfl (fun a u hE hD hk => f_val (o := ⟨some 47, _, _, _, _, _⟩) (.int .u8 ((u8 c.k).toNat : Int)) rfl (wanted_at (b := true) true rfl rfl (hD 8 44 (by kernel_rfl))) (exec_ldp8 (.tmp 46) (u8 c.k) rfl (hD 10 46 (by kernel_rfl))) rfl) ?_
    refine fsteps_cons 13 rfl (fun a u hE hD hk => f_val (o := ⟨some 48, _, _, _, _, _⟩) (.int .i64 c.k) rfl (wanted_at (b := true) true rfl rfl (hD 8 44 (by kernel_rfl))) (exec_u8int (.tmp 47) (u8 c.k) c.k rfl (hD 11 47 (by kernel_rfl)) U8.out) rfl) ?_
    refine fsteps_cons 14 rfl (fun a u hE hD hk => f_val (o := ⟨some 49, _, _, _, _, _⟩) (.pointer (some ⟨gc, 0, none⟩)) rfl (wanted_at (b := true) true rfl rfl (hD 8 44 (by kernel_rfl))) (exec_fld 28 0 0 (.tmp 2) (gc) rfl (hE 2 (.pointer (some ⟨gc, 0, none⟩)) (by kernel_rfl) (by kernel_rfl)) (by kernel_rfl)) rfl) ?_
    refine fsteps_cons 15 rfl (fun a u hE hD hk => f_val (o := ⟨some 50, _, _, _, _, _⟩) (.int .i64 c.k) rfl (wanted_at (b := true) true rfl rfl (hD 8 44 (by kernel_rfl))) (exec_loadi 3 Try.underlying3 (.tmp 49) ⟨gc, 0, none⟩ (.int .i64 c.k) rfl (hD 13 49 (by kernel_rfl)) ((C2.out.kept hk).fld 0 _ rfl)) rfl) ?_
    refine fsteps_cons 16 rfl (fun a u hE hD hk => f_val (o := ⟨some 51, _, _, _, _, _⟩) (.bool true) rfl (wanted_at (b := true) true rfl rfl (hD 8 44 (by kernel_rfl))) (exec_cmpi .eql (.tmp 48) (.tmp 50) _ c.k c.k true rfl (hD 12 48 (by kernel_rfl)) (hD 14 50 (by kernel_rfl)) (.inr (.inr (.inr (.inr (.inl ⟨rfl, by simp⟩)))))) rfl) ?_
    refine fsteps_cons 17 rfl (fun a u hE hD hk => f_val (o := ⟨some 52, _, _, _, _, _⟩) (.bool true) rfl (wanted_none rfl _) (exec_pick (.tmp 44) (.tmp 51) (.const (.bool false)) (.bool true) rfl (hD 8 44 (by kernel_rfl)) (hD 15 51 (by kernel_rfl))) rfl) ?_
    refine fsteps_cons 18 rfl (fun a u hE hD hk => f_val (o := ⟨some 53, _, _, _, _, _⟩) (.bool true) rfl (wanted_none rfl _) (exec_move (.tmp 52) (.bool true) rfl (hD 16 52 (by kernel_rfl))) rfl) ?_
    refine fsteps_cons 19 rfl (fun a u hE hD hk => f_val (o := ⟨some 54, _, _, _, _, _⟩) (.pointer (some ⟨gc, 0, none⟩)) rfl (wanted_at (b := true) true rfl rfl (hD 17 53 (by kernel_rfl))) (exec_fld 28 0 0 (.tmp 2) (gc) rfl (hE 2 (.pointer (some ⟨gc, 0, none⟩)) (by kernel_rfl) (by kernel_rfl)) (by kernel_rfl)) rfl) ?_
    refine fsteps_cons 20 rfl (fun a u hE hD hk => f_val (o := ⟨some 55, _, _, _, _, _⟩) (.int .i64 c.k) rfl (wanted_at (b := true) true rfl rfl (hD 17 53 (by kernel_rfl))) (exec_loadi 3 Try.underlying3 (.tmp 54) ⟨gc, 0, none⟩ (.int .i64 c.k) rfl (hD 18 54 (by kernel_rfl)) ((C2.out.kept hk).fld 0 _ rfl)) rfl) ?_
    refine fsteps_cons 21 rfl (fun a u hE hD hk => f_val (o := ⟨some 56, _, _, _, _, _⟩) (.pointer (some ⟨gd, 0, none⟩)) rfl (wanted_at (b := true) true rfl rfl (hD 17 53 (by kernel_rfl))) (exec_fld 28 0 0 (.tmp 3) (gd) rfl (hE 3 (.pointer (some ⟨gd, 0, none⟩)) (by kernel_rfl) (by kernel_rfl)) (by kernel_rfl)) rfl) ?_
    refine fsteps_cons 22 rfl (fun a u hE hD hk => f_val (o := ⟨some 57, _, _, _, _, _⟩) (.int .i64 d.k) rfl (wanted_at (b := true) true rfl rfl (hD 17 53 (by kernel_rfl))) (exec_loadi 3 Try.underlying3 (.tmp 56) ⟨gd, 0, none⟩ (.int .i64 d.k) rfl (hD 20 56 (by kernel_rfl)) ((D2.out.kept hk).fld 0 _ rfl)) rfl) ?_
    refine fsteps_cons 23 rfl (fun a u hE hD hk => f_val (o := ⟨some 58, _, _, _, _, _⟩) (.bool false) rfl (wanted_at (b := true) true rfl rfl (hD 17 53 (by kernel_rfl))) (exec_cmpi .neq (.tmp 55) (.tmp 57) _ c.k d.k false rfl (hD 19 55 (by kernel_rfl)) (hD 21 57 (by kernel_rfl)) (.inr (.inr (.inr (.inr (.inr ⟨rfl, hEq.out⟩)))))) rfl) ?_
    refine fsteps_cons 24 rfl (fun a u hE hD hk => f_val (o := ⟨some 59, _, _, _, _, _⟩) (.bool false) rfl (wanted_at (b := true) true rfl rfl (hD 17 53 (by kernel_rfl))) (exec_move (.tmp 58) (.bool false) rfl (hD 22 58 (by kernel_rfl))) rfl) ?_
    refine fsteps_cons 25 rfl (fun a u hE hD hk => f_val (o := ⟨some 60, _, _, _, _, _⟩) (v8) rfl (wanted_at (b := false) false rfl rfl (hD 23 59 (by kernel_rfl))) (exec_move (.tmp 5) (v8) rfl (hE 5 (v8) (by kernel_rfl) (by kernel_rfl))) rfl) ?_
    refine fsteps_cons 26 rfl (fun a u hE hD hk => f_val (o := ⟨some 61, _, _, _, _, _⟩) (.int .i64 (c.enc.length : Int)) rfl (wanted_at (b := false) false rfl rfl (hD 23 59 (by kernel_rfl))) (exec_lenB (.tmp 60) c.enc c.enc.length rfl (by rw [show a.eval (.tmp 60) = v8 from (hD 24 60 (by kernel_rfl))]; exact X2.out.kept hk) rfl) rfl) ?_
    refine fsteps_cons 27 rfl (fun a u hE hD hk => f_val (o := ⟨some 62, _, _, _, _, _⟩) (v10) rfl (wanted_at (b := false) false rfl rfl (hD 23 59 (by kernel_rfl))) (exec_move (.tmp 6) (v10) rfl (hE 6 (v10) (by kernel_rfl) (by kernel_rfl))) rfl) ?_
    refine fsteps_cons 28 rfl (fun a u hE hD hk => f_val (o := ⟨some 63, _, _, _, _, _⟩) (.int .i64 (d.enc.length : Int)) rfl (wanted_at (b := false) false rfl rfl (hD 23 59 (by kernel_rfl))) (exec_lenB (.tmp 62) d.enc d.enc.length rfl (by rw [show a.eval (.tmp 62) = v10 from (hD 26 62 (by kernel_rfl))]; exact Y2.out.kept hk) rfl) rfl) ?_
    refine fsteps_cons 29 rfl (fun a u hE hD hk => f_val (o := ⟨some 64, _, _, _, _, _⟩) (.bool true) rfl (wanted_at (b := false) false rfl rfl (hD 23 59 (by kernel_rfl))) (exec_cmpi .eql (.tmp 61) (.tmp 63) _ (c.enc.length : Int) (d.enc.length : Int) true rfl (hD 25 61 (by kernel_rfl)) (hD 27 63 (by kernel_rfl)) (.inr (.inr (.inr (.inr (.inl ⟨rfl, by have h := hEq.out; simp at h; rw [LA.out, LB.out, h]; simp⟩)))))) rfl) ?_
    refine fsteps_cons 30 rfl (fun a u hE hD hk => f_val (o := ⟨some 65, _, _, _, _, _⟩) (.bool true) rfl (wanted_at (b := true) true rfl rfl (hD 17 53 (by kernel_rfl))) (exec_pickF (.tmp 59) (.const (.bool true)) (.tmp 64) (.bool true) rfl (hD 23 59 (by kernel_rfl)) (hD 28 64 (by kernel_rfl))) rfl) ?_
    refine fsteps_cons 31 rfl (fun a u hE hD hk => f_val (o := ⟨some 66, _, _, _, _, _⟩) (.bool true) rfl (wanted_none rfl _) (exec_pick (.tmp 53) (.tmp 65) (.const (.bool false)) (.bool true) rfl (hD 17 53 (by kernel_rfl)) (hD 29 65 (by kernel_rfl))) rfl) ?_
    refine fsteps_cons 32 rfl (fun a u hE hD hk => f_val (o := ⟨some 67, _, _, _, _, _⟩) (.bool true) rfl (wanted_none rfl _) (exec_move (.tmp 66) (.bool true) rfl (hD 30 66 (by kernel_rfl))) rfl) ?_
    refine fsteps_cons 33 rfl (fun a u hE hD hk => f_call (o := ⟨some 68, _, _, _, _, _⟩) 3 #[] rfl (wanted_at (b := true) true rfl rfl (hD 31 67 (by kernel_rfl))) (exec_call 3 _ [] _ [] Try.func3 (by kernel_rfl) (by kernel_rfl) rfl rfl u) (runs_gives u)) ?_
    refine fsteps_cons 34 rfl (fun a u hE hD hk => f_val (o := ⟨some 69, _, _, _, _, _⟩) (.bool true) rfl (wanted_none rfl _) (exec_pick (.tmp 67) (.tmp 68) (.const (.bool false)) (.bool true) rfl (hD 31 67 (by kernel_rfl)) (hD 32 68 (by kernel_rfl))) rfl) ?_
    exact fsteps_nil
  intro gv w3 hV k3
  rw [show dstsOf _ 34 = [36, 37, 38, 39, 40, 41, 42, 43, 44, 45, 46, 47, 48, 49, 50, 51, 52, 53, 54, 55, 56, 57, 58, 59, 60, 61, 62, 63, 64, 65, 66, 67, 68, 69] by kernel_rfl]
  simp only [List.foldl_cons, List.foldl_nil, List.setIfInBounds_toArray, List.set_cons_succ, List.set_cons_zero, List.drop_succ_cons, List.drop_zero]
  rw [show gv 69 = .bool true from hV 33 69 (by kernel_rfl)]
  clear hV
  have kw3 := kw2.trans k3
  go_wp2
  go_ret
  exact ⟨rfl, kw3⟩

set_option maxRecDepth 100000 in
set_option maxHeartbeats 3200000 in
theorem lens_ttn (c d : Cmd) (w : World) (HTc : Hid (c.tag.length = 32)) (HTd : Hid (d.tag.length = 32)) (hA : Hid (c.right = true)) (hB : Hid (d.right = true)) (hEq : Hid (decide (c.k ≠ d.k) = true)) : Calls Try.prog 8 #[c.v, d.v] w fun e w' => e = .returned (.bool true) ∧ Kept w w' := by
  unfold Cmd.v
  have k1 : Kept w (w.alloc (.cells c.cells.toArray 28)) := (Keep.refl _ w).alloc _
  have B1 := Blk.new w 28 c.cells
  have k2 : Kept (w.alloc (.cells c.cells.toArray 28)) ((w.alloc (.cells c.cells.toArray 28)).alloc (.cells d.cells.toArray 28)) := (Keep.refl _ _).alloc _
  have B2 := Blk.new (w.alloc (.cells c.cells.toArray 28)) 28 d.cells
  have HC : Hid (Blk ((w.alloc (.cells c.cells.toArray 28)).alloc (.cells d.cells.toArray 28)) w.heap.size 28 c.cells) := B1.kept k2
  have HD : Hid (Blk ((w.alloc (.cells c.cells.toArray 28)).alloc (.cells d.cells.toArray 28)) (w.heap.size + 1) 28 d.cells) := by have h := B2; rw [show (w.alloc (.cells c.cells.toArray 28)).heap.size = w.heap.size + 1 by simp] at h; exact h
  have kw0 := k1.trans k2
  clear B1 B2 k1 k2
  have PA : Hid (c.putB = c.enc) := putB_t hA.out
  have PB : Hid (d.putB = d.enc) := putB_t hB.out
  have LA : Hid (c.enc.length = 1 + (plan c.k).sum) := enc_len c HTc.out
  have LB : Hid (d.enc.length = 1 + (plan d.k).sum) := enc_len d HTd.out
  have LP : Hid ((plan c.k).sum ≤ 32) := plan_le c.k
  have U8 : Hid (((u8 c.k).toNat : Int) = c.k) := u8_kind c (right_of hA.out).kind
  have NA : Hid (0 < c.enc.length) := by show _ < _; rw [enc_len c HTc.out]; omega
  have NB : Hid (0 < d.enc.length) := by show _ < _; rw [enc_len d HTd.out]; omega
  go_enter Try.func8, Try.ntmps8
  go_upto_region 1 with fail
  generalize w.heap.size + 1 = gd at HD ⊢
  generalize w.heap.size = gc at HC ⊢
  generalize ((w.alloc (.cells c.cells.toArray 28)).alloc (.cells d.cells.toArray 28)) = w0 at HC HD kw0 ⊢
  refine wp_free 4 [.eq (c.v), .bytes c.enc, .eq (d.v), .bytes d.enc] (by kernel_rfl) rfl (by kernel_rfl) ?_ ?_
  · refine fsteps_cons 1 rfl (fun a u hE hD hk => f_val (o := ⟨some 7, _, _, _, _, _⟩) (c.v) rfl (wanted_none rfl _) (exec_loadS 28 (.tmp 2) (gc) _ c.cells _ rfl (hE 2 (.pointer (some ⟨gc, 0, none⟩)) (by kernel_rfl) (by kernel_rfl)) (HC.out.kept hk) Try.underlying28 (by rw [Cmd.cells_len _ HTc.out]; exact cmd_size)) rfl) ?_
    refine fsteps_cons 2 rfl (fun a u hE hD hk => f_call (o := ⟨some 8, _, _, _, _, _⟩) 11 #[c.v] rfl (wanted_none rfl _) (exec_call 11 _ [.tmp 7] _ [c.v] Try.func11 (by kernel_rfl) (by kernel_rfl) rfl (show [a.eval (.tmp 7)] = [c.v] from (by rw [show a.eval (.tmp 7) = c.v from (hD 0 7 (by kernel_rfl))] <;> rfl)) u) (put_bytes c _ u HTc PA.out)) ?_
    refine fsteps_cons 3 rfl (fun a u hE hD hk => f_val (o := ⟨some 9, _, _, _, _, _⟩) (d.v) rfl (wanted_none rfl _) (exec_loadS 28 (.tmp 3) (gd) _ d.cells _ rfl (hE 3 (.pointer (some ⟨gd, 0, none⟩)) (by kernel_rfl) (by kernel_rfl)) (HD.out.kept hk) Try.underlying28 (by rw [Cmd.cells_len _ HTd.out]; exact cmd_size)) rfl) ?_
    refine fsteps_cons 4 rfl (fun a u hE hD hk => f_call (o := ⟨some 10, _, _, _, _, _⟩) 11 #[d.v] rfl (wanted_none rfl _) (exec_call 11 _ [.tmp 9] _ [d.v] Try.func11 (by kernel_rfl) (by kernel_rfl) rfl (show [a.eval (.tmp 9)] = [d.v] from (by rw [show a.eval (.tmp 9) = d.v from (hD 2 9 (by kernel_rfl))] <;> rfl)) u) (put_bytes d _ u HTd PB.out)) ?_
    exact fsteps_nil
  intro gv w1 hV k1
  rw [show dstsOf _ 4 = [7, 8, 9, 10] by kernel_rfl]
  simp only [List.foldl_cons, List.foldl_nil, List.setIfInBounds_toArray, List.set_cons_succ, List.set_cons_zero, List.drop_succ_cons, List.drop_zero]
  have hv8 : (.bytes c.enc : Kn).p (gv 8) w1 := hV 1 8 (by kernel_rfl)
  generalize gv 8 = v8 at hv8 ⊢
  have hv10 : (.bytes d.enc : Kn).p (gv 10) w1 := hV 3 10 (by kernel_rfl)
  generalize gv 10 = v10 at hv10 ⊢
  clear hV
  have X1 : Hid (Bytes w1 v8 c.enc) := hv8
  have Y1 : Hid (Bytes w1 v10 d.enc) := hv10
  have C1 := Lib.hid (HC.out.kept k1)
  have D1 := Lib.hid (HD.out.kept k1)
  have kw1 := kw0.trans k1
  clear hv8 hv10 HC HD kw0 k1
  go_upto_region 2 with fail
  refine wp_text 7 [.eq (c.v), .eq (.bool true), .eq (.bool false), .eq (.bool false), .eq (d.v), .eq (.bool true), .eq (.bool false)] rfl (by kernel_rfl) ?_ ?_
  · refine fsteps_cons 1 rfl (fun a u hE hD hk => f_val (o := ⟨some 11, _, _, _, _, _⟩) (c.v) rfl (wanted_none rfl _) (exec_loadS 28 (.tmp 2) (gc) _ c.cells _ rfl (hE 2 (.pointer (some ⟨gc, 0, none⟩)) (by kernel_rfl) (by kernel_rfl)) (C1.out.kept hk) Try.underlying28 (by rw [Cmd.cells_len _ HTc.out]; exact cmd_size)) rfl) ?_
    refine fsteps_cons 2 rfl (fun a u hE hD hk => f_call (o := ⟨some 12, _, _, _, _, _⟩) 13 #[c.v] rfl (wanted_none rfl _) (exec_call 13 _ [.tmp 11] _ [c.v] Try.func13 (by kernel_rfl) (by kernel_rfl) rfl (show [a.eval (.tmp 11)] = [c.v] from (by rw [show a.eval (.tmp 11) = c.v from (hD 0 11 (by kernel_rfl))] <;> rfl)) u) (msgRight_is c true u HTc hA.out)) ?_
    refine fsteps_cons 3 rfl (fun a u hE hD hk => f_val (o := ⟨some 13, _, _, _, _, _⟩) (.bool false) rfl (wanted_none rfl _) (exec_not _ (.tmp 12) true rfl (hD 1 12 (by kernel_rfl))) rfl) ?_
    refine fsteps_cons 4 rfl (fun a u hE hD hk => f_val (o := ⟨some 14, _, _, _, _, _⟩) (.bool false) rfl (wanted_none rfl _) (exec_move (.tmp 13) (.bool false) rfl (hD 2 13 (by kernel_rfl))) rfl) ?_
    refine fsteps_cons 5 rfl (fun a u hE hD hk => f_val (o := ⟨some 15, _, _, _, _, _⟩) (d.v) rfl (wanted_at (b := false) false rfl rfl (hD 3 14 (by kernel_rfl))) (exec_loadS 28 (.tmp 3) (gd) _ d.cells _ rfl (hE 3 (.pointer (some ⟨gd, 0, none⟩)) (by kernel_rfl) (by kernel_rfl)) (D1.out.kept hk) Try.underlying28 (by rw [Cmd.cells_len _ HTd.out]; exact cmd_size)) rfl) ?_
    refine fsteps_cons 6 rfl (fun a u hE hD hk => f_call (o := ⟨some 16, _, _, _, _, _⟩) 13 #[d.v] rfl (wanted_at (b := false) false rfl rfl (hD 3 14 (by kernel_rfl))) (exec_call 13 _ [.tmp 15] _ [d.v] Try.func13 (by kernel_rfl) (by kernel_rfl) rfl (show [a.eval (.tmp 15)] = [d.v] from (by rw [show a.eval (.tmp 15) = d.v from (hD 4 15 (by kernel_rfl))] <;> rfl)) u) (msgRight_is d true u HTd hB.out)) ?_
    refine fsteps_cons 7 rfl (fun a u hE hD hk => f_val (o := ⟨some 17, _, _, _, _, _⟩) (.bool false) rfl (wanted_at (b := false) false rfl rfl (hD 3 14 (by kernel_rfl))) (exec_not _ (.tmp 16) true rfl (hD 5 16 (by kernel_rfl))) rfl) ?_
    exact fsteps_nil
  intro gv w2 hV k2
  rw [show dstsOf _ 7 = [11, 12, 13, 14, 15, 16, 17] by kernel_rfl]
  simp only [List.foldl_cons, List.foldl_nil, List.setIfInBounds_toArray, List.set_cons_succ, List.set_cons_zero, List.drop_succ_cons, List.drop_zero]
  rw [show gv 14 = .bool false from hV 3 14 (by kernel_rfl)]
  rw [show gv 17 = .bool false from hV 6 17 (by kernel_rfl)]
  clear hV
  have X2 := Lib.hid (X1.out.kept k2)
  have Y2 := Lib.hid (Y1.out.kept k2)
  have C2 := Lib.hid (C1.out.kept k2)
  have D2 := Lib.hid (D1.out.kept k2)
  have kw2 := kw1.trans k2
  clear X1 Y1 C1 D1 kw1 k2
  go_upto_region 4 with fail
  refine wp_free 34 [.eq (v8), .eq (.int .i64 (c.enc.length : Int)), .eq (.bool true), .eq (.bool true), .eq (v8), .eq (.int .i64 (c.enc.length : Int)), .eq (.bool true), .eq (.bool true), .eq (.bool true), .eq (v8), .ptr8 (u8 c.k), .eq (.int .u8 ((u8 c.k).toNat : Int)), .eq (.int .i64 c.k), .eq (.pointer (some ⟨gc, 0, none⟩)), .eq (.int .i64 c.k), .eq (.bool true), .eq (.bool true), .eq (.bool true), .eq (.pointer (some ⟨gc, 0, none⟩)), .eq (.int .i64 c.k), .eq (.pointer (some ⟨gd, 0, none⟩)), .eq (.int .i64 d.k), .eq (.bool true), .eq (.bool true), .eq undef, .eq undef, .eq undef, .eq undef, .eq undef, .eq (.bool true), .eq (.bool true), .eq (.bool true), .eq (.bool true), .eq (.bool true)] (by kernel_rfl) rfl (by kernel_rfl) ?_ ?_
  · refine fsteps_cons 1 rfl (fun a u hE hD hk => f_val (o := ⟨some 36, _, _, _, _, _⟩) (v8) rfl (wanted_none rfl _) (exec_move (.tmp 5) (v8) rfl (hE 5 (v8) (by kernel_rfl) (by kernel_rfl))) rfl) ?_
    refine fsteps_cons 2 rfl (fun a u hE hD hk => f_val (o := ⟨some 37, _, _, _, _, _⟩) (.int .i64 (c.enc.length : Int)) rfl (wanted_none rfl _) (exec_lenB (.tmp 36) c.enc c.enc.length rfl (by rw [show a.eval (.tmp 36) = v8 from (hD 0 36 (by kernel_rfl))]; exact X2.out.kept hk) rfl) rfl) ?_
    refine fsteps_cons 3 rfl (fun a u hE hD hk => f_val (o := ⟨some 38, _, _, _, _, _⟩) (.bool true) rfl (wanted_none rfl _) (exec_cmpi .gtr (.tmp 37) (.const (.int .i64 0)) _ (c.enc.length : Int) 0 true rfl (hD 1 37 (by kernel_rfl)) rfl (.inr (.inr (.inl ⟨rfl, by have := NA.out; simp; omega⟩)))) rfl) ?_
    refine fsteps_cons 4 rfl (fun a u hE hD hk => f_val (o := ⟨some 39, _, _, _, _, _⟩) (.bool true) rfl (wanted_none rfl _) (exec_move (.tmp 38) (.bool true) rfl (hD 2 38 (by kernel_rfl))) rfl) ?_
    refine fsteps_cons 5 rfl (fun a u hE hD hk => f_val (o := ⟨some 40, _, _, _, _, _⟩) (v8) rfl (wanted_at (b := true) true rfl rfl (hD 3 39 (by kernel_rfl))) (exec_move (.tmp 5) (v8) rfl (hE 5 (v8) (by kernel_rfl) (by kernel_rfl))) rfl) ?_
    refine fsteps_cons 6 rfl (fun a u hE hD hk => f_val (o := ⟨some 41, _, _, _, _, _⟩) (.int .i64 (c.enc.length : Int)) rfl (wanted_at (b := true) true rfl rfl (hD 3 39 (by kernel_rfl))) (exec_lenB (.tmp 40) c.enc c.enc.length rfl (by rw [show a.eval (.tmp 40) = v8 from (hD 4 40 (by kernel_rfl))]; exact X2.out.kept hk) rfl) rfl) ?_
    refine fsteps_cons 7 rfl (fun a u hE hD hk => f_val (o := ⟨some 42, _, _, _, _, _⟩) (.bool true) rfl (wanted_at (b := true) true rfl rfl (hD 3 39 (by kernel_rfl))) (exec_cmpi .leq (.tmp 41) (.const (.int .i64 256)) _ (c.enc.length : Int) 256 true rfl (hD 5 41 (by kernel_rfl)) rfl (.inr (.inl ⟨rfl, by have := LA.out; have := LP.out; simp; omega⟩))) rfl) ?_
    refine fsteps_cons 8 rfl (fun a u hE hD hk => f_val (o := ⟨some 43, _, _, _, _, _⟩) (.bool true) rfl (wanted_none rfl _) (exec_pick (.tmp 39) (.tmp 42) (.const (.bool false)) (.bool true) rfl (hD 3 39 (by kernel_rfl)) (hD 6 42 (by kernel_rfl))) rfl) ?_
    refine fsteps_cons 9 rfl (fun a u hE hD hk => f_val (o := ⟨some 44, _, _, _, _, _⟩) (.bool true) rfl (wanted_none rfl _) (exec_move (.tmp 43) (.bool true) rfl (hD 7 43 (by kernel_rfl))) rfl) ?_
    refine fsteps_cons 10 rfl (fun a u hE hD hk => f_val (o := ⟨some 45, _, _, _, _, _⟩) (v8) rfl (wanted_at (b := true) true rfl rfl (hD 8 44 (by kernel_rfl))) (exec_move (.tmp 5) (v8) rfl (hE 5 (v8) (by kernel_rfl) (by kernel_rfl))) rfl) ?_
    refine fsteps_cons 11 rfl (fun a u hE hD hk => f_ex (o := ⟨some 46, _, _, _, _, _⟩) rfl (wanted_at (b := true) true rfl rfl (hD 8 44 (by kernel_rfl))) (exec_ix0 (.tmp 45) (u8 c.k) c.body rfl (by rw [show a.eval (.tmp 45) = v8 from (hD 9 45 (by kernel_rfl))]; exact X2.out.kept hk))) ?_
    refine fsteps_cons 12 rfl (fun a u hE hD hk => f_val (o := ⟨some 47, _, _, _, _, _⟩) (.int .u8 ((u8 c.k).toNat : Int)) rfl (wanted_at (b := true) true rfl rfl (hD 8 44 (by kernel_rfl))) (exec_ldp8 (.tmp 46) (u8 c.k) rfl (hD 10 46 (by kernel_rfl))) rfl) ?_
    refine fsteps_cons 13 rfl (fun a u hE hD hk => f_val (o := ⟨some 48, _, _, _, _, _⟩) (.int .i64 c.k) rfl (wanted_at (b := true) true rfl rfl (hD 8 44 (by kernel_rfl))) (exec_u8int (.tmp 47) (u8 c.k) c.k rfl (hD 11 47 (by kernel_rfl)) U8.out) rfl) ?_
    refine fsteps_cons 14 rfl (fun a u hE hD hk => f_val (o := ⟨some 49, _, _, _, _, _⟩) (.pointer (some ⟨gc, 0, none⟩)) rfl (wanted_at (b := true) true rfl rfl (hD 8 44 (by kernel_rfl))) (exec_fld 28 0 0 (.tmp 2) (gc) rfl (hE 2 (.pointer (some ⟨gc, 0, none⟩)) (by kernel_rfl) (by kernel_rfl)) (by kernel_rfl)) rfl) ?_
    refine fsteps_cons 15 rfl (fun a u hE hD hk => f_val (o := ⟨some 50, _, _, _, _, _⟩) (.int .i64 c.k) rfl (wanted_at (b := true) true rfl rfl (hD 8 44 (by kernel_rfl))) (exec_loadi 3 Try.underlying3 (.tmp 49) ⟨gc, 0, none⟩ (.int .i64 c.k) rfl (hD 13 49 (by kernel_rfl)) ((C2.out.kept hk).fld 0 _ rfl)) rfl) ?_
    refine fsteps_cons 16 rfl (fun a u hE hD hk => f_val (o := ⟨some 51, _, _, _, _, _⟩) (.bool true) rfl (wanted_at (b := true) true rfl rfl (hD 8 44 (by kernel_rfl))) (exec_cmpi .eql (.tmp 48) (.tmp 50) _ c.k c.k true rfl (hD 12 48 (by kernel_rfl)) (hD 14 50 (by kernel_rfl)) (.inr (.inr (.inr (.inr (.inl ⟨rfl, by simp⟩)))))) rfl) ?_
    refine fsteps_cons 17 rfl (fun a u hE hD hk => f_val (o := ⟨some 52, _, _, _, _, _⟩) (.bool true) rfl (wanted_none rfl _) (exec_pick (.tmp 44) (.tmp 51) (.const (.bool false)) (.bool true) rfl (hD 8 44 (by kernel_rfl)) (hD 15 51 (by kernel_rfl))) rfl) ?_
    refine fsteps_cons 18 rfl (fun a u hE hD hk => f_val (o := ⟨some 53, _, _, _, _, _⟩) (.bool true) rfl (wanted_none rfl _) (exec_move (.tmp 52) (.bool true) rfl (hD 16 52 (by kernel_rfl))) rfl) ?_
    refine fsteps_cons 19 rfl (fun a u hE hD hk => f_val (o := ⟨some 54, _, _, _, _, _⟩) (.pointer (some ⟨gc, 0, none⟩)) rfl (wanted_at (b := true) true rfl rfl (hD 17 53 (by kernel_rfl))) (exec_fld 28 0 0 (.tmp 2) (gc) rfl (hE 2 (.pointer (some ⟨gc, 0, none⟩)) (by kernel_rfl) (by kernel_rfl)) (by kernel_rfl)) rfl) ?_
    refine fsteps_cons 20 rfl (fun a u hE hD hk => f_val (o := ⟨some 55, _, _, _, _, _⟩) (.int .i64 c.k) rfl (wanted_at (b := true) true rfl rfl (hD 17 53 (by kernel_rfl))) (exec_loadi 3 Try.underlying3 (.tmp 54) ⟨gc, 0, none⟩ (.int .i64 c.k) rfl (hD 18 54 (by kernel_rfl)) ((C2.out.kept hk).fld 0 _ rfl)) rfl) ?_
    refine fsteps_cons 21 rfl (fun a u hE hD hk => f_val (o := ⟨some 56, _, _, _, _, _⟩) (.pointer (some ⟨gd, 0, none⟩)) rfl (wanted_at (b := true) true rfl rfl (hD 17 53 (by kernel_rfl))) (exec_fld 28 0 0 (.tmp 3) (gd) rfl (hE 3 (.pointer (some ⟨gd, 0, none⟩)) (by kernel_rfl) (by kernel_rfl)) (by kernel_rfl)) rfl) ?_
    refine fsteps_cons 22 rfl (fun a u hE hD hk => f_val (o := ⟨some 57, _, _, _, _, _⟩) (.int .i64 d.k) rfl (wanted_at (b := true) true rfl rfl (hD 17 53 (by kernel_rfl))) (exec_loadi 3 Try.underlying3 (.tmp 56) ⟨gd, 0, none⟩ (.int .i64 d.k) rfl (hD 20 56 (by kernel_rfl)) ((D2.out.kept hk).fld 0 _ rfl)) rfl) ?_
    refine fsteps_cons 23 rfl (fun a u hE hD hk => f_val (o := ⟨some 58, _, _, _, _, _⟩) (.bool true) rfl (wanted_at (b := true) true rfl rfl (hD 17 53 (by kernel_rfl))) (exec_cmpi .neq (.tmp 55) (.tmp 57) _ c.k d.k true rfl (hD 19 55 (by kernel_rfl)) (hD 21 57 (by kernel_rfl)) (.inr (.inr (.inr (.inr (.inr ⟨rfl, hEq.out⟩)))))) rfl) ?_
    refine fsteps_cons 24 rfl (fun a u hE hD hk => f_val (o := ⟨some 59, _, _, _, _, _⟩) (.bool true) rfl (wanted_at (b := true) true rfl rfl (hD 17 53 (by kernel_rfl))) (exec_move (.tmp 58) (.bool true) rfl (hD 22 58 (by kernel_rfl))) rfl) ?_
    refine fsteps_cons 25 rfl (fun a u hE hD hk => f_skip (o := ⟨some 60, _, _, _, _, _⟩) rfl (wanted_at (b := false) true rfl rfl (hD 23 59 (by kernel_rfl))) rfl) ?_
    refine fsteps_cons 26 rfl (fun a u hE hD hk => f_skip (o := ⟨some 61, _, _, _, _, _⟩) rfl (wanted_at (b := false) true rfl rfl (hD 23 59 (by kernel_rfl))) rfl) ?_
    refine fsteps_cons 27 rfl (fun a u hE hD hk => f_skip (o := ⟨some 62, _, _, _, _, _⟩) rfl (wanted_at (b := false) true rfl rfl (hD 23 59 (by kernel_rfl))) rfl) ?_
    refine fsteps_cons 28 rfl (fun a u hE hD hk => f_skip (o := ⟨some 63, _, _, _, _, _⟩) rfl (wanted_at (b := false) true rfl rfl (hD 23 59 (by kernel_rfl))) rfl) ?_
    refine fsteps_cons 29 rfl (fun a u hE hD hk => f_skip (o := ⟨some 64, _, _, _, _, _⟩) rfl (wanted_at (b := false) true rfl rfl (hD 23 59 (by kernel_rfl))) rfl) ?_
    refine fsteps_cons 30 rfl (fun a u hE hD hk => f_val (o := ⟨some 65, _, _, _, _, _⟩) (.bool true) rfl (wanted_at (b := true) true rfl rfl (hD 17 53 (by kernel_rfl))) (exec_pick (.tmp 59) (.const (.bool true)) (.tmp 64) (.bool true) rfl (hD 23 59 (by kernel_rfl)) rfl) rfl) ?_
    refine fsteps_cons 31 rfl (fun a u hE hD hk => f_val (o := ⟨some 66, _, _, _, _, _⟩) (.bool true) rfl (wanted_none rfl _) (exec_pick (.tmp 53) (.tmp 65) (.const (.bool false)) (.bool true) rfl (hD 17 53 (by kernel_rfl)) (hD 29 65 (by kernel_rfl))) rfl) ?_
    refine fsteps_cons 32 rfl (fun a u hE hD hk => f_val (o := ⟨some 67, _, _, _, _, _⟩) (.bool true) rfl (wanted_none rfl _) (exec_move (.tmp 66) (.bool true) rfl (hD 30 66 (by kernel_rfl))) rfl) ?_
    refine fsteps_cons 33 rfl (fun a u hE hD hk => f_call (o := ⟨some 68, _, _, _, _, _⟩) 3 #[] rfl (wanted_at (b := true) true rfl rfl (hD 31 67 (by kernel_rfl))) (exec_call 3 _ [] _ [] Try.func3 (by kernel_rfl) (by kernel_rfl) rfl rfl u) (runs_gives u)) ?_
    refine fsteps_cons 34 rfl (fun a u hE hD hk => f_val (o := ⟨some 69, _, _, _, _, _⟩) (.bool true) rfl (wanted_none rfl _) (exec_pick (.tmp 67) (.tmp 68) (.const (.bool false)) (.bool true) rfl (hD 31 67 (by kernel_rfl)) (hD 32 68 (by kernel_rfl))) rfl) ?_
    exact fsteps_nil
  intro gv w3 hV k3
  rw [show dstsOf _ 34 = [36, 37, 38, 39, 40, 41, 42, 43, 44, 45, 46, 47, 48, 49, 50, 51, 52, 53, 54, 55, 56, 57, 58, 59, 60, 61, 62, 63, 64, 65, 66, 67, 68, 69] by kernel_rfl]
  simp only [List.foldl_cons, List.foldl_nil, List.setIfInBounds_toArray, List.set_cons_succ, List.set_cons_zero, List.drop_succ_cons, List.drop_zero]
  rw [show gv 69 = .bool true from hV 33 69 (by kernel_rfl)]
  clear hV
  have kw3 := kw2.trans k3
  go_wp2
  go_ret
  exact ⟨rfl, kw3⟩
theorem msgLens_any (c d : Cmd) (w : World) (HTc : Hid (c.tag.length = 32)) (HTd : Hid (d.tag.length = 32)) : Calls Try.prog 8 #[c.v, d.v] w fun e w' => e = .returned (.bool true) ∧ Kept w w' := by
  cases hA : c.right with
  | false =>
    cases hB : d.right with
    | false => exact lens_ff c d w HTc HTd hA hB
    | true => exact lens_ft c d w HTc HTd hA hB
  | true =>
    cases hB : d.right with
    | false => exact lens_tf c d w HTc HTd hA hB
    | true =>
      cases hE : decide (c.k ≠ d.k) with
      | false => exact lens_tte c d w HTc HTd hA hB hE
      | true => exact lens_ttn c d w HTc HTd hA hB hE
end Go.Proofs.Ytdmeiffofmagjaa
