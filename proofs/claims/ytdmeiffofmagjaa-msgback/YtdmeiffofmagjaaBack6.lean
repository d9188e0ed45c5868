/-
  The contract of jobberlaw6.MsgBack: a right command comes back; two have the same bytes just if they are the same; cut short, or with more behind, they are none; it answers true. Condition: tags have 32 bytes.
-/
import Derived.Test.YtdmeiffofmagjaaLens6
import Derived.Test.YtdmeiffofmagjaaWithin
namespace Go.Proofs.Ytdmeiffofmagjaa
open Go.RowKit
set_option linter.unusedVariables false

/-- the zero command is none -/
theorem zero_right : (Cmd.z 0).right = false := by decide +kernel
theorem zero_put : (Cmd.z 0).putB = [] := putB_f zero_right
theorem get_take (c : Cmd) (hr : c.right = true) (ht : c.tag.length = 32) (j : Nat) (hj : j < c.enc.length) : getB (c.enc.take j) = (Cmd.z 0, false) := by
  refine get_short c (right_of hr).kind ht _ (fun x ys h => ?_) (by rw [List.length_take]; omega)
  cases j with
  | zero => simp at h
  | succ j =>
    unfold Cmd.enc at h
    simp at h
    exact h.1.symm
theorem get_more (c : Cmd) (hr : c.right = true) (ht : c.tag.length = 32) (y : UInt8) : getB (c.enc ++ [y]) = (Cmd.z 0, false) := by
  refine get_short c (right_of hr).kind ht _ (fun x ys h => ?_) (by simp)
  unfold Cmd.enc at h
  simp at h
  exact h.1.symm

theorem bytes_r8 {w : World} {A : Option Addr} {n c : Nat} {xs : List UInt8} (h : Bytes w (.slice A n c) xs) : R8 w A xs := by
  obtain ⟨A', n', c', e, _, h, _⟩ := h
  injection e with e1
  subst e1
  exact h
theorem op_app8 {o : Oper} {a : Act} {K : Act → World → Prop} {Q : Exit → Act → World → Prop} (w : World) (s x : Operand)
    (hop : o.op = Op.call { callee := Callee.builtin Builtin.append, args := #[s, x], argTypes := #[23, 23] })
    (base n c : Nat) (A : Option Addr) (xs : List UInt8) (hs : a.eval s = .slice A n c) (hown : Own8 w base A n c xs) (hbase : base ≤ w.heap.size)
    (B : Option Addr) (m d : Nat) (ys : List UInt8) (hx : a.eval x = .slice B m d) (hm : ys.length = m) (hR : R8 w B ys) (hB : B = none → d = 0) (hlim : n + m ≤ 140737488355328)
    (hK : ∀ w' A' c', Own8 w' base A' (n + m) c' (xs ++ ys) → Keep (base ≤ ·) w w' → K (a.put o.dst (.slice A' (n + m) c')) w') : o.wp Try.prog a w K Q := by
  cases B with
  | some ad => exact op_append_own8 w 23 Try.underlying23 s x hop base n c A xs hs hown hbase ad m d ys hx hm hR hlim hK
  | none =>
    have hd := hB rfl
    subst hd
    have hy : ys = [] := by
      cases ys with
      | nil => rfl
      | cons y ys =>
        obtain ⟨ad, h1, _⟩ := hR 0 y rfl
        cases h1
    subst hy
    subst hm
    obtain ⟨i0, hi, hz0, hz1, hz2⟩ := info_parts info8
    have hr := run_append_owned_none (P := Try.prog) w base 23 o.type 5 i0 1 Try.underlying23 hi (.slice A n c) n (cells8 xs) hown.own
    unfold Oper.wp execOp
    simp only [hop, resolve, invoke, builtin, Sem.run_bind, Sem.run_pure, Result.andThen_ok, List.map_toArray, List.map_cons, List.map_nil, hs, hx, List.length_nil, hr]
    exact hK w A c (by simpa using hown) (Keep.refl _ _)

set_option maxRecDepth 100000 in
set_option maxHeartbeats 6400000 in
theorem back_ff (c d : Cmd) (cut : Int) (more : Int) (y : UInt8) (hy : more = (y.toNat : Int)) (w : World) (HTc : Hid (c.tag.length = 32)) (HTd : Hid (d.tag.length = 32)) (hA : Hid (c.right = false)) (hB : Hid (d.right = false)) : Calls Try.prog 6 #[c.v, d.v, .int .i64 cut, .int .u8 more] w fun e w' => e = .returned (.bool true) ∧ Kept w w' := by
  unfold Cmd.v
  have k1 : Kept w (w.alloc (.cells c.cells.toArray 28)) := (Keep.refl _ w).alloc _
  have B1 := Blk.new w 28 c.cells
  have k2 : Kept (w.alloc (.cells c.cells.toArray 28)) ((w.alloc (.cells c.cells.toArray 28)).alloc (.cells d.cells.toArray 28)) := (Keep.refl _ _).alloc _
  have B2 := Blk.new (w.alloc (.cells c.cells.toArray 28)) 28 d.cells
  have HC : Hid (Blk ((w.alloc (.cells c.cells.toArray 28)).alloc (.cells d.cells.toArray 28)) w.heap.size 28 c.cells) := B1.kept k2
  have HD : Hid (Blk ((w.alloc (.cells c.cells.toArray 28)).alloc (.cells d.cells.toArray 28)) (w.heap.size + 1) 28 d.cells) := by have h := B2; rw [show (w.alloc (.cells c.cells.toArray 28)).heap.size = w.heap.size + 1 by simp] at h; exact h
  have kw0 := k1.trans k2
  clear B1 B2 k1 k2
  go_enter Try.func6, Try.ntmps6
  go_upto_region 1 with fail
  generalize w.heap.size + 1 = gd at HD ⊢
  generalize hgw : w.heap.size = gc at HC ⊢
  generalize ((w.alloc (.cells c.cells.toArray 28)).alloc (.cells d.cells.toArray 28)) = w0 at HC HD kw0 ⊢
  refine wp_text 7 [.eq (c.v), .eq (.bool false), .eq (.bool true), .eq (.bool true), .eq undef, .eq undef, .eq undef] rfl (by kernel_rfl) ?_ ?_
  · refine fsteps_cons 1 rfl (fun a u hE hD hk => f_val (o := ⟨some 17, _, _, _, _, _⟩) (c.v) rfl (wanted_none rfl _) (exec_loadS 28 (.tmp 4) (gc) _ c.cells _ rfl (hE 4 (.pointer (some ⟨gc, 0, none⟩)) (by kernel_rfl) (by kernel_rfl)) (HC.out.kept hk) Try.underlying28 (by rw [Cmd.cells_len _ HTc.out]; exact cmd_size)) rfl) ?_
    refine fsteps_cons 2 rfl (fun a u hE hD hk => f_call (o := ⟨some 18, _, _, _, _, _⟩) 13 #[c.v] rfl (wanted_none rfl _) (exec_call 13 _ [.tmp 17] _ [c.v] Try.func13 (by kernel_rfl) (by kernel_rfl) rfl (show [a.eval (.tmp 17)] = [c.v] from (by rw [show a.eval (.tmp 17) = c.v from (hD 0 17 (by kernel_rfl))] <;> rfl)) u) (msgRight_is c false u HTc hA.out)) ?_
    refine fsteps_cons 3 rfl (fun a u hE hD hk => f_val (o := ⟨some 19, _, _, _, _, _⟩) (.bool true) rfl (wanted_none rfl _) (exec_not _ (.tmp 18) false rfl (hD 1 18 (by kernel_rfl))) rfl) ?_
    refine fsteps_cons 4 rfl (fun a u hE hD hk => f_val (o := ⟨some 20, _, _, _, _, _⟩) (.bool true) rfl (wanted_none rfl _) (exec_move (.tmp 19) (.bool true) rfl (hD 2 19 (by kernel_rfl))) rfl) ?_
    refine fsteps_cons 5 rfl (fun a u hE hD hk => f_skip (o := ⟨some 21, _, _, _, _, _⟩) rfl (wanted_at (b := false) true rfl rfl (hD 3 20 (by kernel_rfl))) rfl) ?_
    refine fsteps_cons 6 rfl (fun a u hE hD hk => f_skip (o := ⟨some 22, _, _, _, _, _⟩) rfl (wanted_at (b := false) true rfl rfl (hD 3 20 (by kernel_rfl))) rfl) ?_
    refine fsteps_cons 7 rfl (fun a u hE hD hk => f_skip (o := ⟨some 23, _, _, _, _, _⟩) rfl (wanted_at (b := false) true rfl rfl (hD 3 20 (by kernel_rfl))) rfl) ?_
    exact fsteps_nil
  intro gv w1 hV k1
  rw [show dstsOf _ 7 = [17, 18, 19, 20, 21, 22, 23] by kernel_rfl]
  simp only [List.foldl_cons, List.foldl_nil, List.setIfInBounds_toArray, List.set_cons_succ, List.set_cons_zero, List.drop_succ_cons, List.drop_zero]
  rw [show gv 20 = .bool true from hV 3 20 (by kernel_rfl)]
  rw [show gv 23 = undef from hV 6 23 (by kernel_rfl)]
  clear hV
  have kw1 := kw0.trans k1
  have C1 := Lib.hid (HC.out.kept k1)
  have D1 := Lib.hid (HD.out.kept k1)
  clear kw0 k1 HC HD
  have HZ : Hid ((Cmd.z 0).tag.length = 32) := zeros32_len
  go_upto_region 2 with fail
  refine wp_text 12 [.eq ((Cmd.z 0).v), .bytes [], .eq (.int .i64 ((0 : Nat) : Int)), .eq (.bool true), .eq (.bool true), .eq ((Cmd.z 0).v), .eq (.bool false), .eq (.bool true), .eq (.bool true), .eq (.bool true), .eq (.bool true), .eq (.bool true)] rfl (by kernel_rfl) ?_ ?_
  · refine fsteps_cons 1 rfl (fun a u hE hD hk => f_val (o := ⟨some 25, _, _, _, _, _⟩) ((Cmd.z 0).v) rfl (wanted_none rfl _) (exec_build 28 [] (Cmd.z 0).cells rfl (by kernel_rfl)) rfl) ?_
    refine fsteps_cons 2 rfl (fun a u hE hD hk => f_call (o := ⟨some 26, _, _, _, _, _⟩) 11 #[(Cmd.z 0).v] rfl (wanted_none rfl _) (exec_call 11 _ [.tmp 25] _ [(Cmd.z 0).v] Try.func11 (by kernel_rfl) (by kernel_rfl) rfl (show [a.eval (.tmp 25)] = [(Cmd.z 0).v] from (by rw [show a.eval (.tmp 25) = (Cmd.z 0).v from (hD 0 25 (by kernel_rfl))] <;> rfl)) u) (put_bytes (Cmd.z 0) _ u HZ zero_put)) ?_
    refine fsteps_cons 3 rfl (fun a u hE hD hk => f_val (o := ⟨some 27, _, _, _, _, _⟩) (.int .i64 ((0 : Nat) : Int)) rfl (wanted_none rfl _) (exec_lenB (.tmp 26) [] 0 rfl (hD 1 26 (by kernel_rfl)) rfl) rfl) ?_
    refine fsteps_cons 4 rfl (fun a u hE hD hk => f_val (o := ⟨some 28, _, _, _, _, _⟩) (.bool true) rfl (wanted_none rfl _) (exec_cmpi .eql (.tmp 27) (.const (.int .i64 0)) _ ((0 : Nat) : Int) 0 true rfl (hD 2 27 (by kernel_rfl)) rfl (.inr (.inr (.inr (.inr (.inl ⟨rfl, by simp⟩)))))) rfl) ?_
    refine fsteps_cons 5 rfl (fun a u hE hD hk => f_val (o := ⟨some 29, _, _, _, _, _⟩) (.bool true) rfl (wanted_none rfl _) (exec_move (.tmp 28) (.bool true) rfl (hD 3 28 (by kernel_rfl))) rfl) ?_
    refine fsteps_cons 6 rfl (fun a u hE hD hk => f_val (o := ⟨some 30, _, _, _, _, _⟩) ((Cmd.z 0).v) rfl (wanted_at (b := true) true rfl rfl (hD 4 29 (by kernel_rfl))) (exec_build 28 [] (Cmd.z 0).cells rfl (by kernel_rfl)) rfl) ?_
    refine fsteps_cons 7 rfl (fun a u hE hD hk => f_call (o := ⟨some 31, _, _, _, _, _⟩) 13 #[(Cmd.z 0).v] rfl (wanted_at (b := true) true rfl rfl (hD 4 29 (by kernel_rfl))) (exec_call 13 _ [.tmp 30] _ [(Cmd.z 0).v] Try.func13 (by kernel_rfl) (by kernel_rfl) rfl (show [a.eval (.tmp 30)] = [(Cmd.z 0).v] from (by rw [show a.eval (.tmp 30) = (Cmd.z 0).v from (hD 5 30 (by kernel_rfl))] <;> rfl)) u) (msgRight_is (Cmd.z 0) false u HZ zero_right)) ?_
    refine fsteps_cons 8 rfl (fun a u hE hD hk => f_val (o := ⟨some 32, _, _, _, _, _⟩) (.bool true) rfl (wanted_at (b := true) true rfl rfl (hD 4 29 (by kernel_rfl))) (exec_not _ (.tmp 31) false rfl (hD 6 31 (by kernel_rfl))) rfl) ?_
    refine fsteps_cons 9 rfl (fun a u hE hD hk => f_val (o := ⟨some 33, _, _, _, _, _⟩) (.bool true) rfl (wanted_none rfl _) (exec_pick (.tmp 29) (.tmp 32) (.const (.bool false)) (.bool true) rfl (hD 4 29 (by kernel_rfl)) (hD 7 32 (by kernel_rfl))) rfl) ?_
    refine fsteps_cons 10 rfl (fun a u hE hD hk => f_val (o := ⟨some 34, _, _, _, _, _⟩) (.bool true) rfl (wanted_none rfl _) (exec_move (.tmp 33) (.bool true) rfl (hD 8 33 (by kernel_rfl))) rfl) ?_
    refine fsteps_cons 11 rfl (fun a u hE hD hk => f_call (o := ⟨some 35, _, _, _, _, _⟩) 3 #[] rfl (wanted_at (b := true) true rfl rfl (hD 9 34 (by kernel_rfl))) (exec_call 3 _ [] _ [] Try.func3 (by kernel_rfl) (by kernel_rfl) rfl rfl u) (runs_gives u)) ?_
    refine fsteps_cons 12 rfl (fun a u hE hD hk => f_val (o := ⟨some 36, _, _, _, _, _⟩) (.bool true) rfl (wanted_none rfl _) (exec_pick (.tmp 34) (.tmp 35) (.const (.bool false)) (.bool true) rfl (hD 9 34 (by kernel_rfl)) (hD 10 35 (by kernel_rfl))) rfl) ?_
    exact fsteps_nil
  intro gv w2 hV k2
  rw [show dstsOf _ 12 = [25, 26, 27, 28, 29, 30, 31, 32, 33, 34, 35, 36] by kernel_rfl]
  simp only [List.foldl_cons, List.foldl_nil, List.setIfInBounds_toArray, List.set_cons_succ, List.set_cons_zero, List.drop_succ_cons, List.drop_zero]
  rw [show gv 36 = .bool true from hV 11 36 (by kernel_rfl)]
  clear hV
  have kw2 := kw1.trans k2
  go_wp2
  go_ret
  exact ⟨rfl, kw2⟩

set_option maxRecDepth 100000 in
set_option maxHeartbeats 6400000 in
theorem back_ft (c d : Cmd) (cut : Int) (more : Int) (y : UInt8) (hy : more = (y.toNat : Int)) (w : World) (HTc : Hid (c.tag.length = 32)) (HTd : Hid (d.tag.length = 32)) (hA : Hid (c.right = false)) (hB : Hid (d.right = true)) : Calls Try.prog 6 #[c.v, d.v, .int .i64 cut, .int .u8 more] w fun e w' => e = .returned (.bool true) ∧ Kept w w' := by
  unfold Cmd.v
  have k1 : Kept w (w.alloc (.cells c.cells.toArray 28)) := (Keep.refl _ w).alloc _
  have B1 := Blk.new w 28 c.cells
  have k2 : Kept (w.alloc (.cells c.cells.toArray 28)) ((w.alloc (.cells c.cells.toArray 28)).alloc (.cells d.cells.toArray 28)) := (Keep.refl _ _).alloc _
  have B2 := Blk.new (w.alloc (.cells c.cells.toArray 28)) 28 d.cells
  have HC : Hid (Blk ((w.alloc (.cells c.cells.toArray 28)).alloc (.cells d.cells.toArray 28)) w.heap.size 28 c.cells) := B1.kept k2
  have HD : Hid (Blk ((w.alloc (.cells c.cells.toArray 28)).alloc (.cells d.cells.toArray 28)) (w.heap.size + 1) 28 d.cells) := by have h := B2; rw [show (w.alloc (.cells c.cells.toArray 28)).heap.size = w.heap.size + 1 by simp] at h; exact h
  have kw0 := k1.trans k2
  clear B1 B2 k1 k2
  go_enter Try.func6, Try.ntmps6
  go_upto_region 1 with fail
  generalize w.heap.size + 1 = gd at HD ⊢
  generalize hgw : w.heap.size = gc at HC ⊢
  generalize ((w.alloc (.cells c.cells.toArray 28)).alloc (.cells d.cells.toArray 28)) = w0 at HC HD kw0 ⊢
  refine wp_text 7 [.eq (c.v), .eq (.bool false), .eq (.bool true), .eq (.bool true), .eq undef, .eq undef, .eq undef] rfl (by kernel_rfl) ?_ ?_
  · refine fsteps_cons 1 rfl (fun a u hE hD hk => f_val (o := ⟨some 17, _, _, _, _, _⟩) (c.v) rfl (wanted_none rfl _) (exec_loadS 28 (.tmp 4) (gc) _ c.cells _ rfl (hE 4 (.pointer (some ⟨gc, 0, none⟩)) (by kernel_rfl) (by kernel_rfl)) (HC.out.kept hk) Try.underlying28 (by rw [Cmd.cells_len _ HTc.out]; exact cmd_size)) rfl) ?_
    refine fsteps_cons 2 rfl (fun a u hE hD hk => f_call (o := ⟨some 18, _, _, _, _, _⟩) 13 #[c.v] rfl (wanted_none rfl _) (exec_call 13 _ [.tmp 17] _ [c.v] Try.func13 (by kernel_rfl) (by kernel_rfl) rfl (show [a.eval (.tmp 17)] = [c.v] from (by rw [show a.eval (.tmp 17) = c.v from (hD 0 17 (by kernel_rfl))] <;> rfl)) u) (msgRight_is c false u HTc hA.out)) ?_
    refine fsteps_cons 3 rfl (fun a u hE hD hk => f_val (o := ⟨some 19, _, _, _, _, _⟩) (.bool true) rfl (wanted_none rfl _) (exec_not _ (.tmp 18) false rfl (hD 1 18 (by kernel_rfl))) rfl) ?_
    refine fsteps_cons 4 rfl (fun a u hE hD hk => f_val (o := ⟨some 20, _, _, _, _, _⟩) (.bool true) rfl (wanted_none rfl _) (exec_move (.tmp 19) (.bool true) rfl (hD 2 19 (by kernel_rfl))) rfl) ?_
    refine fsteps_cons 5 rfl (fun a u hE hD hk => f_skip (o := ⟨some 21, _, _, _, _, _⟩) rfl (wanted_at (b := false) true rfl rfl (hD 3 20 (by kernel_rfl))) rfl) ?_
    refine fsteps_cons 6 rfl (fun a u hE hD hk => f_skip (o := ⟨some 22, _, _, _, _, _⟩) rfl (wanted_at (b := false) true rfl rfl (hD 3 20 (by kernel_rfl))) rfl) ?_
    refine fsteps_cons 7 rfl (fun a u hE hD hk => f_skip (o := ⟨some 23, _, _, _, _, _⟩) rfl (wanted_at (b := false) true rfl rfl (hD 3 20 (by kernel_rfl))) rfl) ?_
    exact fsteps_nil
  intro gv w1 hV k1
  rw [show dstsOf _ 7 = [17, 18, 19, 20, 21, 22, 23] by kernel_rfl]
  simp only [List.foldl_cons, List.foldl_nil, List.setIfInBounds_toArray, List.set_cons_succ, List.set_cons_zero, List.drop_succ_cons, List.drop_zero]
  rw [show gv 20 = .bool true from hV 3 20 (by kernel_rfl)]
  rw [show gv 23 = undef from hV 6 23 (by kernel_rfl)]
  clear hV
  have kw1 := kw0.trans k1
  have C1 := Lib.hid (HC.out.kept k1)
  have D1 := Lib.hid (HD.out.kept k1)
  clear kw0 k1 HC HD
  have HZ : Hid ((Cmd.z 0).tag.length = 32) := zeros32_len
  go_upto_region 2 with fail
  refine wp_text 12 [.eq ((Cmd.z 0).v), .bytes [], .eq (.int .i64 ((0 : Nat) : Int)), .eq (.bool true), .eq (.bool true), .eq ((Cmd.z 0).v), .eq (.bool false), .eq (.bool true), .eq (.bool true), .eq (.bool true), .eq (.bool true), .eq (.bool true)] rfl (by kernel_rfl) ?_ ?_
  · refine fsteps_cons 1 rfl (fun a u hE hD hk => f_val (o := ⟨some 25, _, _, _, _, _⟩) ((Cmd.z 0).v) rfl (wanted_none rfl _) (exec_build 28 [] (Cmd.z 0).cells rfl (by kernel_rfl)) rfl) ?_
    refine fsteps_cons 2 rfl (fun a u hE hD hk => f_call (o := ⟨some 26, _, _, _, _, _⟩) 11 #[(Cmd.z 0).v] rfl (wanted_none rfl _) (exec_call 11 _ [.tmp 25] _ [(Cmd.z 0).v] Try.func11 (by kernel_rfl) (by kernel_rfl) rfl (show [a.eval (.tmp 25)] = [(Cmd.z 0).v] from (by rw [show a.eval (.tmp 25) = (Cmd.z 0).v from (hD 0 25 (by kernel_rfl))] <;> rfl)) u) (put_bytes (Cmd.z 0) _ u HZ zero_put)) ?_
    refine fsteps_cons 3 rfl (fun a u hE hD hk => f_val (o := ⟨some 27, _, _, _, _, _⟩) (.int .i64 ((0 : Nat) : Int)) rfl (wanted_none rfl _) (exec_lenB (.tmp 26) [] 0 rfl (hD 1 26 (by kernel_rfl)) rfl) rfl) ?_
    refine fsteps_cons 4 rfl (fun a u hE hD hk => f_val (o := ⟨some 28, _, _, _, _, _⟩) (.bool true) rfl (wanted_none rfl _) (exec_cmpi .eql (.tmp 27) (.const (.int .i64 0)) _ ((0 : Nat) : Int) 0 true rfl (hD 2 27 (by kernel_rfl)) rfl (.inr (.inr (.inr (.inr (.inl ⟨rfl, by simp⟩)))))) rfl) ?_
    refine fsteps_cons 5 rfl (fun a u hE hD hk => f_val (o := ⟨some 29, _, _, _, _, _⟩) (.bool true) rfl (wanted_none rfl _) (exec_move (.tmp 28) (.bool true) rfl (hD 3 28 (by kernel_rfl))) rfl) ?_
    refine fsteps_cons 6 rfl (fun a u hE hD hk => f_val (o := ⟨some 30, _, _, _, _, _⟩) ((Cmd.z 0).v) rfl (wanted_at (b := true) true rfl rfl (hD 4 29 (by kernel_rfl))) (exec_build 28 [] (Cmd.z 0).cells rfl (by kernel_rfl)) rfl) ?_
    refine fsteps_cons 7 rfl (fun a u hE hD hk => f_call (o := ⟨some 31, _, _, _, _, _⟩) 13 #[(Cmd.z 0).v] rfl (wanted_at (b := true) true rfl rfl (hD 4 29 (by kernel_rfl))) (exec_call 13 _ [.tmp 30] _ [(Cmd.z 0).v] Try.func13 (by kernel_rfl) (by kernel_rfl) rfl (show [a.eval (.tmp 30)] = [(Cmd.z 0).v] from (by rw [show a.eval (.tmp 30) = (Cmd.z 0).v from (hD 5 30 (by kernel_rfl))] <;> rfl)) u) (msgRight_is (Cmd.z 0) false u HZ zero_right)) ?_
    refine fsteps_cons 8 rfl (fun a u hE hD hk => f_val (o := ⟨some 32, _, _, _, _, _⟩) (.bool true) rfl (wanted_at (b := true) true rfl rfl (hD 4 29 (by kernel_rfl))) (exec_not _ (.tmp 31) false rfl (hD 6 31 (by kernel_rfl))) rfl) ?_
    refine fsteps_cons 9 rfl (fun a u hE hD hk => f_val (o := ⟨some 33, _, _, _, _, _⟩) (.bool true) rfl (wanted_none rfl _) (exec_pick (.tmp 29) (.tmp 32) (.const (.bool false)) (.bool true) rfl (hD 4 29 (by kernel_rfl)) (hD 7 32 (by kernel_rfl))) rfl) ?_
    refine fsteps_cons 10 rfl (fun a u hE hD hk => f_val (o := ⟨some 34, _, _, _, _, _⟩) (.bool true) rfl (wanted_none rfl _) (exec_move (.tmp 33) (.bool true) rfl (hD 8 33 (by kernel_rfl))) rfl) ?_
    refine fsteps_cons 11 rfl (fun a u hE hD hk => f_call (o := ⟨some 35, _, _, _, _, _⟩) 3 #[] rfl (wanted_at (b := true) true rfl rfl (hD 9 34 (by kernel_rfl))) (exec_call 3 _ [] _ [] Try.func3 (by kernel_rfl) (by kernel_rfl) rfl rfl u) (runs_gives u)) ?_
    refine fsteps_cons 12 rfl (fun a u hE hD hk => f_val (o := ⟨some 36, _, _, _, _, _⟩) (.bool true) rfl (wanted_none rfl _) (exec_pick (.tmp 34) (.tmp 35) (.const (.bool false)) (.bool true) rfl (hD 9 34 (by kernel_rfl)) (hD 10 35 (by kernel_rfl))) rfl) ?_
    exact fsteps_nil
  intro gv w2 hV k2
  rw [show dstsOf _ 12 = [25, 26, 27, 28, 29, 30, 31, 32, 33, 34, 35, 36] by kernel_rfl]
  simp only [List.foldl_cons, List.foldl_nil, List.setIfInBounds_toArray, List.set_cons_succ, List.set_cons_zero, List.drop_succ_cons, List.drop_zero]
  rw [show gv 36 = .bool true from hV 11 36 (by kernel_rfl)]
  clear hV
  have kw2 := kw1.trans k2
  go_wp2
  go_ret
  exact ⟨rfl, kw2⟩

set_option maxRecDepth 100000 in
set_option maxHeartbeats 6400000 in
theorem back_tf (c d : Cmd) (cut : Int) (more : Int) (y : UInt8) (hy : more = (y.toNat : Int)) (w : World) (HTc : Hid (c.tag.length = 32)) (HTd : Hid (d.tag.length = 32)) (hA : Hid (c.right = true)) (hB : Hid (d.right = false)) : Calls Try.prog 6 #[c.v, d.v, .int .i64 cut, .int .u8 more] w fun e w' => e = .returned (.bool true) ∧ Kept w w' := by
  unfold Cmd.v
  have k1 : Kept w (w.alloc (.cells c.cells.toArray 28)) := (Keep.refl _ w).alloc _
  have B1 := Blk.new w 28 c.cells
  have k2 : Kept (w.alloc (.cells c.cells.toArray 28)) ((w.alloc (.cells c.cells.toArray 28)).alloc (.cells d.cells.toArray 28)) := (Keep.refl _ _).alloc _
  have B2 := Blk.new (w.alloc (.cells c.cells.toArray 28)) 28 d.cells
  have HC : Hid (Blk ((w.alloc (.cells c.cells.toArray 28)).alloc (.cells d.cells.toArray 28)) w.heap.size 28 c.cells) := B1.kept k2
  have HD : Hid (Blk ((w.alloc (.cells c.cells.toArray 28)).alloc (.cells d.cells.toArray 28)) (w.heap.size + 1) 28 d.cells) := by have h := B2; rw [show (w.alloc (.cells c.cells.toArray 28)).heap.size = w.heap.size + 1 by simp] at h; exact h
  have kw0 := k1.trans k2
  clear B1 B2 k1 k2
  go_enter Try.func6, Try.ntmps6
  go_upto_region 1 with fail
  generalize w.heap.size + 1 = gd at HD ⊢
  generalize hgw : w.heap.size = gc at HC ⊢
  generalize ((w.alloc (.cells c.cells.toArray 28)).alloc (.cells d.cells.toArray 28)) = w0 at HC HD kw0 ⊢
  refine wp_text 7 [.eq (c.v), .eq (.bool true), .eq (.bool false), .eq (.bool false), .eq (d.v), .eq (.bool false), .eq (.bool true)] rfl (by kernel_rfl) ?_ ?_
  · refine fsteps_cons 1 rfl (fun a u hE hD hk => f_val (o := ⟨some 17, _, _, _, _, _⟩) (c.v) rfl (wanted_none rfl _) (exec_loadS 28 (.tmp 4) (gc) _ c.cells _ rfl (hE 4 (.pointer (some ⟨gc, 0, none⟩)) (by kernel_rfl) (by kernel_rfl)) (HC.out.kept hk) Try.underlying28 (by rw [Cmd.cells_len _ HTc.out]; exact cmd_size)) rfl) ?_
    refine fsteps_cons 2 rfl (fun a u hE hD hk => f_call (o := ⟨some 18, _, _, _, _, _⟩) 13 #[c.v] rfl (wanted_none rfl _) (exec_call 13 _ [.tmp 17] _ [c.v] Try.func13 (by kernel_rfl) (by kernel_rfl) rfl (show [a.eval (.tmp 17)] = [c.v] from (by rw [show a.eval (.tmp 17) = c.v from (hD 0 17 (by kernel_rfl))] <;> rfl)) u) (msgRight_is c true u HTc hA.out)) ?_
    refine fsteps_cons 3 rfl (fun a u hE hD hk => f_val (o := ⟨some 19, _, _, _, _, _⟩) (.bool false) rfl (wanted_none rfl _) (exec_not _ (.tmp 18) true rfl (hD 1 18 (by kernel_rfl))) rfl) ?_
    refine fsteps_cons 4 rfl (fun a u hE hD hk => f_val (o := ⟨some 20, _, _, _, _, _⟩) (.bool false) rfl (wanted_none rfl _) (exec_move (.tmp 19) (.bool false) rfl (hD 2 19 (by kernel_rfl))) rfl) ?_
    refine fsteps_cons 5 rfl (fun a u hE hD hk => f_val (o := ⟨some 21, _, _, _, _, _⟩) (d.v) rfl (wanted_at (b := false) false rfl rfl (hD 3 20 (by kernel_rfl))) (exec_loadS 28 (.tmp 5) (gd) _ d.cells _ rfl (hE 5 (.pointer (some ⟨gd, 0, none⟩)) (by kernel_rfl) (by kernel_rfl)) (HD.out.kept hk) Try.underlying28 (by rw [Cmd.cells_len _ HTd.out]; exact cmd_size)) rfl) ?_
    refine fsteps_cons 6 rfl (fun a u hE hD hk => f_call (o := ⟨some 22, _, _, _, _, _⟩) 13 #[d.v] rfl (wanted_at (b := false) false rfl rfl (hD 3 20 (by kernel_rfl))) (exec_call 13 _ [.tmp 21] _ [d.v] Try.func13 (by kernel_rfl) (by kernel_rfl) rfl (show [a.eval (.tmp 21)] = [d.v] from (by rw [show a.eval (.tmp 21) = d.v from (hD 4 21 (by kernel_rfl))] <;> rfl)) u) (msgRight_is d false u HTd hB.out)) ?_
    refine fsteps_cons 7 rfl (fun a u hE hD hk => f_val (o := ⟨some 23, _, _, _, _, _⟩) (.bool true) rfl (wanted_at (b := false) false rfl rfl (hD 3 20 (by kernel_rfl))) (exec_not _ (.tmp 22) false rfl (hD 5 22 (by kernel_rfl))) rfl) ?_
    exact fsteps_nil
  intro gv w1 hV k1
  rw [show dstsOf _ 7 = [17, 18, 19, 20, 21, 22, 23] by kernel_rfl]
  simp only [List.foldl_cons, List.foldl_nil, List.setIfInBounds_toArray, List.set_cons_succ, List.set_cons_zero, List.drop_succ_cons, List.drop_zero]
  rw [show gv 20 = .bool false from hV 3 20 (by kernel_rfl)]
  rw [show gv 23 = .bool true from hV 6 23 (by kernel_rfl)]
  clear hV
  have kw1 := kw0.trans k1
  have C1 := Lib.hid (HC.out.kept k1)
  have D1 := Lib.hid (HD.out.kept k1)
  clear kw0 k1 HC HD
  have HZ : Hid ((Cmd.z 0).tag.length = 32) := zeros32_len
  go_upto_region 2 with fail
  refine wp_text 12 [.eq ((Cmd.z 0).v), .bytes [], .eq (.int .i64 ((0 : Nat) : Int)), .eq (.bool true), .eq (.bool true), .eq ((Cmd.z 0).v), .eq (.bool false), .eq (.bool true), .eq (.bool true), .eq (.bool true), .eq (.bool true), .eq (.bool true)] rfl (by kernel_rfl) ?_ ?_
  · refine fsteps_cons 1 rfl (fun a u hE hD hk => f_val (o := ⟨some 25, _, _, _, _, _⟩) ((Cmd.z 0).v) rfl (wanted_none rfl _) (exec_build 28 [] (Cmd.z 0).cells rfl (by kernel_rfl)) rfl) ?_
    refine fsteps_cons 2 rfl (fun a u hE hD hk => f_call (o := ⟨some 26, _, _, _, _, _⟩) 11 #[(Cmd.z 0).v] rfl (wanted_none rfl _) (exec_call 11 _ [.tmp 25] _ [(Cmd.z 0).v] Try.func11 (by kernel_rfl) (by kernel_rfl) rfl (show [a.eval (.tmp 25)] = [(Cmd.z 0).v] from (by rw [show a.eval (.tmp 25) = (Cmd.z 0).v from (hD 0 25 (by kernel_rfl))] <;> rfl)) u) (put_bytes (Cmd.z 0) _ u HZ zero_put)) ?_
    refine fsteps_cons 3 rfl (fun a u hE hD hk => f_val (o := ⟨some 27, _, _, _, _, _⟩) (.int .i64 ((0 : Nat) : Int)) rfl (wanted_none rfl _) (exec_lenB (.tmp 26) [] 0 rfl (hD 1 26 (by kernel_rfl)) rfl) rfl) ?_
    refine fsteps_cons 4 rfl (fun a u hE hD hk => f_val (o := ⟨some 28, _, _, _, _, _⟩) (.bool true) rfl (wanted_none rfl _) (exec_cmpi .eql (.tmp 27) (.const (.int .i64 0)) _ ((0 : Nat) : Int) 0 true rfl (hD 2 27 (by kernel_rfl)) rfl (.inr (.inr (.inr (.inr (.inl ⟨rfl, by simp⟩)))))) rfl) ?_
    refine fsteps_cons 5 rfl (fun a u hE hD hk => f_val (o := ⟨some 29, _, _, _, _, _⟩) (.bool true) rfl (wanted_none rfl _) (exec_move (.tmp 28) (.bool true) rfl (hD 3 28 (by kernel_rfl))) rfl) ?_
    refine fsteps_cons 6 rfl (fun a u hE hD hk => f_val (o := ⟨some 30, _, _, _, _, _⟩) ((Cmd.z 0).v) rfl (wanted_at (b := true) true rfl rfl (hD 4 29 (by kernel_rfl))) (exec_build 28 [] (Cmd.z 0).cells rfl (by kernel_rfl)) rfl) ?_
    refine fsteps_cons 7 rfl (fun a u hE hD hk => f_call (o := ⟨some 31, _, _, _, _, _⟩) 13 #[(Cmd.z 0).v] rfl (wanted_at (b := true) true rfl rfl (hD 4 29 (by kernel_rfl))) (exec_call 13 _ [.tmp 30] _ [(Cmd.z 0).v] Try.func13 (by kernel_rfl) (by kernel_rfl) rfl (show [a.eval (.tmp 30)] = [(Cmd.z 0).v] from (by rw [show a.eval (.tmp 30) = (Cmd.z 0).v from (hD 5 30 (by kernel_rfl))] <;> rfl)) u) (msgRight_is (Cmd.z 0) false u HZ zero_right)) ?_
    refine fsteps_cons 8 rfl (fun a u hE hD hk => f_val (o := ⟨some 32, _, _, _, _, _⟩) (.bool true) rfl (wanted_at (b := true) true rfl rfl (hD 4 29 (by kernel_rfl))) (exec_not _ (.tmp 31) false rfl (hD 6 31 (by kernel_rfl))) rfl) ?_
    refine fsteps_cons 9 rfl (fun a u hE hD hk => f_val (o := ⟨some 33, _, _, _, _, _⟩) (.bool true) rfl (wanted_none rfl _) (exec_pick (.tmp 29) (.tmp 32) (.const (.bool false)) (.bool true) rfl (hD 4 29 (by kernel_rfl)) (hD 7 32 (by kernel_rfl))) rfl) ?_
    refine fsteps_cons 10 rfl (fun a u hE hD hk => f_val (o := ⟨some 34, _, _, _, _, _⟩) (.bool true) rfl (wanted_none rfl _) (exec_move (.tmp 33) (.bool true) rfl (hD 8 33 (by kernel_rfl))) rfl) ?_
    refine fsteps_cons 11 rfl (fun a u hE hD hk => f_call (o := ⟨some 35, _, _, _, _, _⟩) 3 #[] rfl (wanted_at (b := true) true rfl rfl (hD 9 34 (by kernel_rfl))) (exec_call 3 _ [] _ [] Try.func3 (by kernel_rfl) (by kernel_rfl) rfl rfl u) (runs_gives u)) ?_
    refine fsteps_cons 12 rfl (fun a u hE hD hk => f_val (o := ⟨some 36, _, _, _, _, _⟩) (.bool true) rfl (wanted_none rfl _) (exec_pick (.tmp 34) (.tmp 35) (.const (.bool false)) (.bool true) rfl (hD 9 34 (by kernel_rfl)) (hD 10 35 (by kernel_rfl))) rfl) ?_
    exact fsteps_nil
  intro gv w2 hV k2
  rw [show dstsOf _ 12 = [25, 26, 27, 28, 29, 30, 31, 32, 33, 34, 35, 36] by kernel_rfl]
  simp only [List.foldl_cons, List.foldl_nil, List.setIfInBounds_toArray, List.set_cons_succ, List.set_cons_zero, List.drop_succ_cons, List.drop_zero]
  rw [show gv 36 = .bool true from hV 11 36 (by kernel_rfl)]
  clear hV
  have kw2 := kw1.trans k2
  go_wp2
  go_ret
  exact ⟨rfl, kw2⟩

set_option maxRecDepth 100000 in
set_option maxHeartbeats 6400000 in
theorem back_tte (c d : Cmd) (cut : Int) (more : Int) (y : UInt8) (hy : more = (y.toNat : Int)) (w : World) (HTc : Hid (c.tag.length = 32)) (HTd : Hid (d.tag.length = 32)) (hA : Hid (c.right = true)) (hB : Hid (d.right = true)) (hEq : Hid (decide (c = d) = true)) : Calls Try.prog 6 #[c.v, d.v, .int .i64 cut, .int .u8 more] w fun e w' => e = .returned (.bool true) ∧ Kept w w' := by
  have PA : Hid (c.putB = c.enc) := putB_t hA.out
  have PB : Hid (d.putB = d.enc) := putB_t hB.out
  have LA : Hid (c.enc.length = 1 + (plan c.k).sum) := enc_len c HTc.out
  have LP : Hid ((plan c.k).sum ≤ 32) := plan_le c.k
  have GB : Hid (getB c.enc = (c, true)) := get_back c hA.out HTc.out
  have GT : Hid (∀ j, j < c.enc.length → getB (c.enc.take j) = (Cmd.z 0, false)) := fun j hj => get_take c hA.out HTc.out j hj
  have GM : Hid (getB (c.enc ++ [y]) = (Cmd.z 0, false)) := get_more c hA.out HTc.out y
  have SB : Hid (decide (c.enc = d.enc) = true) := by
    show _ = _
    have h : c = d := by simpa using hEq.out
    rw [h]
    simp
  have HY := Lib.hid hy
  clear hy
  unfold Cmd.v
  have k1 : Kept w (w.alloc (.cells c.cells.toArray 28)) := (Keep.refl _ w).alloc _
  have B1 := Blk.new w 28 c.cells
  have k2 : Kept (w.alloc (.cells c.cells.toArray 28)) ((w.alloc (.cells c.cells.toArray 28)).alloc (.cells d.cells.toArray 28)) := (Keep.refl _ _).alloc _
  have B2 := Blk.new (w.alloc (.cells c.cells.toArray 28)) 28 d.cells
  have HC : Hid (Blk ((w.alloc (.cells c.cells.toArray 28)).alloc (.cells d.cells.toArray 28)) w.heap.size 28 c.cells) := B1.kept k2
  have HD : Hid (Blk ((w.alloc (.cells c.cells.toArray 28)).alloc (.cells d.cells.toArray 28)) (w.heap.size + 1) 28 d.cells) := by have h := B2; rw [show (w.alloc (.cells c.cells.toArray 28)).heap.size = w.heap.size + 1 by simp] at h; exact h
  have kw0 := k1.trans k2
  clear B1 B2 k1 k2
  go_enter Try.func6, Try.ntmps6
  go_upto_region 1 with fail
  generalize w.heap.size + 1 = gd at HD ⊢
  generalize hgw : w.heap.size = gc at HC ⊢
  generalize ((w.alloc (.cells c.cells.toArray 28)).alloc (.cells d.cells.toArray 28)) = w0 at HC HD kw0 ⊢
  refine wp_text 7 [.eq (c.v), .eq (.bool true), .eq (.bool false), .eq (.bool false), .eq (d.v), .eq (.bool true), .eq (.bool false)] rfl (by kernel_rfl) ?_ ?_
  · refine fsteps_cons 1 rfl (fun a u hE hD hk => f_val (o := ⟨some 17, _, _, _, _, _⟩) (c.v) rfl (wanted_none rfl _) (exec_loadS 28 (.tmp 4) (gc) _ c.cells _ rfl (hE 4 (.pointer (some ⟨gc, 0, none⟩)) (by kernel_rfl) (by kernel_rfl)) (HC.out.kept hk) Try.underlying28 (by rw [Cmd.cells_len _ HTc.out]; exact cmd_size)) rfl) ?_
    refine fsteps_cons 2 rfl (fun a u hE hD hk => f_call (o := ⟨some 18, _, _, _, _, _⟩) 13 #[c.v] rfl (wanted_none rfl _) (exec_call 13 _ [.tmp 17] _ [c.v] Try.func13 (by kernel_rfl) (by kernel_rfl) rfl (show [a.eval (.tmp 17)] = [c.v] from (by rw [show a.eval (.tmp 17) = c.v from (hD 0 17 (by kernel_rfl))] <;> rfl)) u) (msgRight_is c true u HTc hA.out)) ?_
    refine fsteps_cons 3 rfl (fun a u hE hD hk => f_val (o := ⟨some 19, _, _, _, _, _⟩) (.bool false) rfl (wanted_none rfl _) (exec_not _ (.tmp 18) true rfl (hD 1 18 (by kernel_rfl))) rfl) ?_
    refine fsteps_cons 4 rfl (fun a u hE hD hk => f_val (o := ⟨some 20, _, _, _, _, _⟩) (.bool false) rfl (wanted_none rfl _) (exec_move (.tmp 19) (.bool false) rfl (hD 2 19 (by kernel_rfl))) rfl) ?_
    refine fsteps_cons 5 rfl (fun a u hE hD hk => f_val (o := ⟨some 21, _, _, _, _, _⟩) (d.v) rfl (wanted_at (b := false) false rfl rfl (hD 3 20 (by kernel_rfl))) (exec_loadS 28 (.tmp 5) (gd) _ d.cells _ rfl (hE 5 (.pointer (some ⟨gd, 0, none⟩)) (by kernel_rfl) (by kernel_rfl)) (HD.out.kept hk) Try.underlying28 (by rw [Cmd.cells_len _ HTd.out]; exact cmd_size)) rfl) ?_
    refine fsteps_cons 6 rfl (fun a u hE hD hk => f_call (o := ⟨some 22, _, _, _, _, _⟩) 13 #[d.v] rfl (wanted_at (b := false) false rfl rfl (hD 3 20 (by kernel_rfl))) (exec_call 13 _ [.tmp 21] _ [d.v] Try.func13 (by kernel_rfl) (by kernel_rfl) rfl (show [a.eval (.tmp 21)] = [d.v] from (by rw [show a.eval (.tmp 21) = d.v from (hD 4 21 (by kernel_rfl))] <;> rfl)) u) (msgRight_is d true u HTd hB.out)) ?_
    refine fsteps_cons 7 rfl (fun a u hE hD hk => f_val (o := ⟨some 23, _, _, _, _, _⟩) (.bool false) rfl (wanted_at (b := false) false rfl rfl (hD 3 20 (by kernel_rfl))) (exec_not _ (.tmp 22) true rfl (hD 5 22 (by kernel_rfl))) rfl) ?_
    exact fsteps_nil
  intro gv w1 hV k1
  rw [show dstsOf _ 7 = [17, 18, 19, 20, 21, 22, 23] by kernel_rfl]
  simp only [List.foldl_cons, List.foldl_nil, List.setIfInBounds_toArray, List.set_cons_succ, List.set_cons_zero, List.drop_succ_cons, List.drop_zero]
  rw [show gv 20 = .bool false from hV 3 20 (by kernel_rfl)]
  rw [show gv 23 = .bool false from hV 6 23 (by kernel_rfl)]
  clear hV
  have kw1 := kw0.trans k1
  have C1 := Lib.hid (HC.out.kept k1)
  have D1 := Lib.hid (HD.out.kept k1)
  clear kw0 k1 HC HD
  go_upto_region 3 with fail
  refine wp_free 4 [.eq (c.v), .bytes c.enc, .eq (d.v), .bytes d.enc] (by kernel_rfl) rfl (by kernel_rfl) ?_ ?_
  · refine fsteps_cons 1 rfl (fun a u hE hD hk => f_val (o := ⟨some 37, _, _, _, _, _⟩) (c.v) rfl (wanted_none rfl _) (exec_loadS 28 (.tmp 4) (gc) _ c.cells _ rfl (hE 4 (.pointer (some ⟨gc, 0, none⟩)) (by kernel_rfl) (by kernel_rfl)) (C1.out.kept hk) Try.underlying28 (by rw [Cmd.cells_len _ HTc.out]; exact cmd_size)) rfl) ?_
    refine fsteps_cons 2 rfl (fun a u hE hD hk => f_call (o := ⟨some 38, _, _, _, _, _⟩) 11 #[c.v] rfl (wanted_none rfl _) (exec_call 11 _ [.tmp 37] _ [c.v] Try.func11 (by kernel_rfl) (by kernel_rfl) rfl (show [a.eval (.tmp 37)] = [c.v] from (by rw [show a.eval (.tmp 37) = c.v from (hD 0 37 (by kernel_rfl))] <;> rfl)) u) (put_bytes c _ u HTc PA.out)) ?_
    refine fsteps_cons 3 rfl (fun a u hE hD hk => f_val (o := ⟨some 39, _, _, _, _, _⟩) (d.v) rfl (wanted_none rfl _) (exec_loadS 28 (.tmp 5) (gd) _ d.cells _ rfl (hE 5 (.pointer (some ⟨gd, 0, none⟩)) (by kernel_rfl) (by kernel_rfl)) (D1.out.kept hk) Try.underlying28 (by rw [Cmd.cells_len _ HTd.out]; exact cmd_size)) rfl) ?_
    refine fsteps_cons 4 rfl (fun a u hE hD hk => f_call (o := ⟨some 40, _, _, _, _, _⟩) 11 #[d.v] rfl (wanted_none rfl _) (exec_call 11 _ [.tmp 39] _ [d.v] Try.func11 (by kernel_rfl) (by kernel_rfl) rfl (show [a.eval (.tmp 39)] = [d.v] from (by rw [show a.eval (.tmp 39) = d.v from (hD 2 39 (by kernel_rfl))] <;> rfl)) u) (put_bytes d _ u HTd PB.out)) ?_
    exact fsteps_nil
  intro gv w2 hV k2
  rw [show dstsOf _ 4 = [37, 38, 39, 40] by kernel_rfl]
  simp only [List.foldl_cons, List.foldl_nil, List.setIfInBounds_toArray, List.set_cons_succ, List.set_cons_zero, List.drop_succ_cons, List.drop_zero]
  have hv38 : (.bytes c.enc : Kn).p (gv 38) w2 := hV 1 38 (by kernel_rfl)
  generalize gv 38 = v38 at hv38 ⊢
  have hv40 : (.bytes d.enc : Kn).p (gv 40) w2 := hV 3 40 (by kernel_rfl)
  generalize gv 40 = v40 at hv40 ⊢
  clear hV
  have kw2 := kw1.trans k2
  have C2 := Lib.hid (C1.out.kept k2)
  have D2 := Lib.hid (D1.out.kept k2)
  have X2 : Hid (Bytes w2 v38 c.enc) := hv38
  have Y2 : Hid (Bytes w2 v40 d.enc) := hv40
  clear kw1 k2 C1 D1 hv38 hv40
  obtain ⟨A, n, ca, rfl, hn, hx, hnc, hcm, hAn⟩ := X2.out
  have HX := Lib.hid hx
  have HN := Lib.hid hAn
  have hn33 : n = 1 + (plan c.k).sum := by rw [← hn.out]; exact LA.out
  have hn1 : n ≤ 33 := by have := LP.out; omega
  have hn0 : 1 ≤ n := by omega
  have HL := hn
  clear hn33 hx X2 hAn
  have X2 : Hid (Bytes w2 (.slice A n ca) c.enc) := ⟨A, n, ca, rfl, hn, HX.out, hnc, hcm, HN.out⟩
  go_upto_region 4 with fail
  refine wp_region_lit ?_
  refine l_val (o := ⟨some 42, _, _, _, _, _⟩) (.slice A n ca) rfl (exec_move (.tmp 9) (.slice A n ca) rfl (by kernel_rfl)) ?_
  simp only [Act.put, List.setIfInBounds_toArray, List.set_cons_succ, List.set_cons_zero]
  refine l_call (o := ⟨some 43, _, _, _, _, _⟩) 18 #[.slice A n ca] rfl (exec_call 18 _ [.tmp 42] _ _ Try.func18 (by kernel_rfl) (by kernel_rfl) rfl (by kernel_rfl) _) ?_
  refine (get_any _ c.enc w2 X2.out (by rw [LA.out]; have := LP.out; omega)).mono ?_
  rintro e w3 ⟨rfl, k3⟩
  rw [GB.out]
  refine ⟨_, rfl, ?_⟩
  simp only [Act.put, List.setIfInBounds_toArray, List.set_cons_succ, List.set_cons_zero]
  refine l_val (o := ⟨some 41, _, _, _, _, _⟩) (.tuple #[c.v, .bool true]) rfl (exec_move (.tmp 43) (.tuple #[c.v, .bool true]) rfl (by kernel_rfl)) ?_
  simp only [Act.put, List.setIfInBounds_toArray, List.set_cons_succ, List.set_cons_zero]
  refine l_val (o := ⟨some 44, _, _, _, _, _⟩) (c.v) rfl (exec_extract (.tmp 41) [c.v, .bool true] 0 c.v rfl (by kernel_rfl) rfl) ?_
  simp only [Act.put, List.setIfInBounds_toArray, List.set_cons_succ, List.set_cons_zero]
  refine l_val (o := ⟨some 45, _, _, _, _, _⟩) (.bool true) rfl (exec_extract (.tmp 41) [c.v, .bool true] 1 (.bool true) rfl (by kernel_rfl) rfl) ?_
  simp only [Act.put, List.setIfInBounds_toArray, List.set_cons_succ, List.set_cons_zero]
  refine l_alloc (o := ⟨some 11, _, _, _, _, _⟩) 28 (Cmd.z 0).cells rfl rfl cmd_zero ?_
  intro w4 b4 z4 k4
  obtain ⟨ge, hge⟩ : ∃ ge, ge = w3.heap.size := ⟨_, rfl⟩
  rw [← hge] at b4 ⊢
  simp only [Act.put, List.setIfInBounds_toArray, List.set_cons_succ, List.set_cons_zero]
  refine l_setS (o := ⟨none, _, _, _, _, _⟩) 28 ge 28 (Cmd.z 0).cells c.cells (.tmp 11) (.tmp 44) rfl rfl (by kernel_rfl) (by kernel_rfl) b4 (by rw [Cmd.cells_len c HTc.out]; exact cmd_size) (by rw [Cmd.cells_len c HTc.out]; rfl) (stc_one _ _) ?_
  intro w5 b5 k5 z5
  simp only [Act.put]
  refine l_val (o := ⟨some 12, _, _, _, _, _⟩) (.bool true) rfl (exec_assign (.tmp 45) (.bool true) rfl (by kernel_rfl)) ?_
  simp only [Act.put, List.setIfInBounds_toArray, List.set_cons_succ, List.set_cons_zero]
  refine wpList_nil ?_
  have k25 : Kept w2 w5 := Kept.trans' (k3.trans k4) k5 (by have := k3.size; omega)
  have kw5 := kw2.trans k25
  have X5 := Lib.hid (X2.out.kept k25)
  have Y5 := Lib.hid (Y2.out.kept k25)
  have C5 := Lib.hid (C2.out.kept k25)
  have D5 := Lib.hid (D2.out.kept k25)
  have E5 : Hid (Blk w5 ge 28 c.cells) := b5
  clear k3 k4 k5 b4 b5 z4 z5 hge k25 kw2 X2 Y2 C2 D2
  go_upto_region 5 with fail
  refine wp_free 20 [.eq (.bool true), .eq (.bool false), .eq (.bool false), .eq (c.v), .eq (c.v), .eq (.bool false), .eq (.bool false), .eq (.bool false), .eq (.slice A n ca), .eq (.int .i64 (n : Int)), .eq (.bool false), .eq (.bool false), .eq (.bool false), .eq (.slice A n ca), .eq (v40), .eq (.bool true), .eq (c.v), .eq (d.v), .eq (.bool true), .eq (.bool false)] (by kernel_rfl) rfl (by kernel_rfl) ?_ ?_
  · refine fsteps_cons 1 rfl (fun a u hE hD hk => f_val (o := ⟨some 46, _, _, _, _, _⟩) (.bool true) rfl (wanted_none rfl _) (exec_move (.tmp 12) (.bool true) rfl (hE 12 (.bool true) (by kernel_rfl) (by kernel_rfl))) rfl) ?_
    refine fsteps_cons 2 rfl (fun a u hE hD hk => f_val (o := ⟨some 47, _, _, _, _, _⟩) (.bool false) rfl (wanted_none rfl _) (exec_not _ (.tmp 46) true rfl (hD 0 46 (by kernel_rfl))) rfl) ?_
    refine fsteps_cons 3 rfl (fun a u hE hD hk => f_val (o := ⟨some 48, _, _, _, _, _⟩) (.bool false) rfl (wanted_none rfl _) (exec_move (.tmp 47) (.bool false) rfl (hD 1 47 (by kernel_rfl))) rfl) ?_
    refine fsteps_cons 4 rfl (fun a u hE hD hk => f_val (o := ⟨some 49, _, _, _, _, _⟩) (c.v) rfl (wanted_at (b := false) false rfl rfl (hD 2 48 (by kernel_rfl))) (exec_loadS 28 (.tmp 11) (ge) _ c.cells _ rfl (hE 11 (.pointer (some ⟨ge, 0, none⟩)) (by kernel_rfl) (by kernel_rfl)) (E5.out.kept hk) Try.underlying28 (by rw [Cmd.cells_len _ HTc.out]; exact cmd_size)) rfl) ?_
    refine fsteps_cons 5 rfl (fun a u hE hD hk => f_val (o := ⟨some 50, _, _, _, _, _⟩) (c.v) rfl (wanted_at (b := false) false rfl rfl (hD 2 48 (by kernel_rfl))) (exec_loadS 28 (.tmp 4) (gc) _ c.cells _ rfl (hE 4 (.pointer (some ⟨gc, 0, none⟩)) (by kernel_rfl) (by kernel_rfl)) (C5.out.kept hk) Try.underlying28 (by rw [Cmd.cells_len _ HTc.out]; exact cmd_size)) rfl) ?_
    refine fsteps_cons 6 rfl (fun a u hE hD hk => f_val (o := ⟨some 51, _, _, _, _, _⟩) (.bool false) rfl (wanted_at (b := false) false rfl rfl (hD 2 48 (by kernel_rfl))) (exec_neqCmd (.tmp 49) (.tmp 50) _ c c false rfl (hD 3 49 (by kernel_rfl)) (hD 4 50 (by kernel_rfl)) HTc.out HTc.out (by simp)) rfl) ?_
    refine fsteps_cons 7 rfl (fun a u hE hD hk => f_val (o := ⟨some 52, _, _, _, _, _⟩) (.bool false) rfl (wanted_none rfl _) (exec_pickF (.tmp 48) (.const (.bool true)) (.tmp 51) (.bool false) rfl (hD 2 48 (by kernel_rfl)) (hD 5 51 (by kernel_rfl))) rfl) ?_
    refine fsteps_cons 8 rfl (fun a u hE hD hk => f_val (o := ⟨some 53, _, _, _, _, _⟩) (.bool false) rfl (wanted_none rfl _) (exec_move (.tmp 52) (.bool false) rfl (hD 6 52 (by kernel_rfl))) rfl) ?_
    refine fsteps_cons 9 rfl (fun a u hE hD hk => f_val (o := ⟨some 54, _, _, _, _, _⟩) (.slice A n ca) rfl (wanted_at (b := false) false rfl rfl (hD 7 53 (by kernel_rfl))) (exec_move (.tmp 9) (.slice A n ca) rfl (hE 9 (.slice A n ca) (by kernel_rfl) (by kernel_rfl))) rfl) ?_
    refine fsteps_cons 10 rfl (fun a u hE hD hk => f_val (o := ⟨some 55, _, _, _, _, _⟩) (.int .i64 (n : Int)) rfl (wanted_at (b := false) false rfl rfl (hD 7 53 (by kernel_rfl))) (exec_lenB (.tmp 54) c.enc n rfl (by rw [show a.eval (.tmp 54) = .slice A n ca from (hD 8 54 (by kernel_rfl))]; exact X5.out.kept hk) HL.out) rfl) ?_
    refine fsteps_cons 11 rfl (fun a u hE hD hk => f_val (o := ⟨some 56, _, _, _, _, _⟩) (.bool false) rfl (wanted_at (b := false) false rfl rfl (hD 7 53 (by kernel_rfl))) (exec_cmpi .lss (.tmp 55) (.const (.int .i64 1)) _ (n : Int) 1 false rfl (hD 9 55 (by kernel_rfl)) rfl (.inl ⟨rfl, by simp; omega⟩)) rfl) ?_
    refine fsteps_cons 12 rfl (fun a u hE hD hk => f_val (o := ⟨some 57, _, _, _, _, _⟩) (.bool false) rfl (wanted_none rfl _) (exec_pickF (.tmp 53) (.const (.bool true)) (.tmp 56) (.bool false) rfl (hD 7 53 (by kernel_rfl)) (hD 10 56 (by kernel_rfl))) rfl) ?_
    refine fsteps_cons 13 rfl (fun a u hE hD hk => f_val (o := ⟨some 58, _, _, _, _, _⟩) (.bool false) rfl (wanted_none rfl _) (exec_move (.tmp 57) (.bool false) rfl (hD 11 57 (by kernel_rfl))) rfl) ?_
    refine fsteps_cons 14 rfl (fun a u hE hD hk => f_val (o := ⟨some 59, _, _, _, _, _⟩) (.slice A n ca) rfl (wanted_at (b := false) false rfl rfl (hD 12 58 (by kernel_rfl))) (exec_move (.tmp 9) (.slice A n ca) rfl (hE 9 (.slice A n ca) (by kernel_rfl) (by kernel_rfl))) rfl) ?_
    refine fsteps_cons 15 rfl (fun a u hE hD hk => f_val (o := ⟨some 60, _, _, _, _, _⟩) (v40) rfl (wanted_at (b := false) false rfl rfl (hD 12 58 (by kernel_rfl))) (exec_move (.tmp 10) (v40) rfl (hE 10 (v40) (by kernel_rfl) (by kernel_rfl))) rfl) ?_
    refine fsteps_cons 16 rfl (fun a u hE hD hk => f_call (o := ⟨some 61, _, _, _, _, _⟩) 10 #[.slice A n ca, v40] rfl (wanted_at (b := false) false rfl rfl (hD 12 58 (by kernel_rfl))) (exec_call 10 _ [.tmp 59, .tmp 60] _ [.slice A n ca, v40] Try.func10 (by kernel_rfl) (by kernel_rfl) rfl (show [a.eval (.tmp 59), a.eval (.tmp 60)] = [.slice A n ca, v40] from (by rw [show a.eval (.tmp 59) = .slice A n ca from (hD 13 59 (by kernel_rfl)), show a.eval (.tmp 60) = v40 from (hD 14 60 (by kernel_rfl))] <;> rfl)) u) (same_v _ _ c.enc d.enc true u (X5.out.kept hk) (Y5.out.kept hk) SB.out)) ?_
    refine fsteps_cons 17 rfl (fun a u hE hD hk => f_val (o := ⟨some 62, _, _, _, _, _⟩) (c.v) rfl (wanted_at (b := false) false rfl rfl (hD 12 58 (by kernel_rfl))) (exec_loadS 28 (.tmp 4) (gc) _ c.cells _ rfl (hE 4 (.pointer (some ⟨gc, 0, none⟩)) (by kernel_rfl) (by kernel_rfl)) (C5.out.kept hk) Try.underlying28 (by rw [Cmd.cells_len _ HTc.out]; exact cmd_size)) rfl) ?_
    refine fsteps_cons 18 rfl (fun a u hE hD hk => f_val (o := ⟨some 63, _, _, _, _, _⟩) (d.v) rfl (wanted_at (b := false) false rfl rfl (hD 12 58 (by kernel_rfl))) (exec_loadS 28 (.tmp 5) (gd) _ d.cells _ rfl (hE 5 (.pointer (some ⟨gd, 0, none⟩)) (by kernel_rfl) (by kernel_rfl)) (D5.out.kept hk) Try.underlying28 (by rw [Cmd.cells_len _ HTd.out]; exact cmd_size)) rfl) ?_
    refine fsteps_cons 19 rfl (fun a u hE hD hk => f_val (o := ⟨some 64, _, _, _, _, _⟩) (.bool true) rfl (wanted_at (b := false) false rfl rfl (hD 12 58 (by kernel_rfl))) (exec_eqCmd (.tmp 62) (.tmp 63) _ c d true rfl (hD 16 62 (by kernel_rfl)) (hD 17 63 (by kernel_rfl)) HTc.out HTd.out hEq.out) rfl) ?_
    refine fsteps_cons 20 rfl (fun a u hE hD hk => f_val (o := ⟨some 65, _, _, _, _, _⟩) (.bool false) rfl (wanted_at (b := false) false rfl rfl (hD 12 58 (by kernel_rfl))) (exec_neb (.tmp 61) (.tmp 64) _ true true false rfl (hD 15 61 (by kernel_rfl)) (hD 18 64 (by kernel_rfl)) rfl) rfl) ?_
    exact fsteps_nil
  intro gv w6 hV k6
  rw [show dstsOf _ 20 = [46, 47, 48, 49, 50, 51, 52, 53, 54, 55, 56, 57, 58, 59, 60, 61, 62, 63, 64, 65] by kernel_rfl]
  simp only [List.foldl_cons, List.foldl_nil, List.setIfInBounds_toArray, List.set_cons_succ, List.set_cons_zero, List.drop_succ_cons, List.drop_zero]
  rw [show gv 58 = .bool false from hV 12 58 (by kernel_rfl)]
  rw [show gv 65 = .bool false from hV 19 65 (by kernel_rfl)]
  clear hV
  have kw6 := kw5.trans k6
  have X6 := Lib.hid (X5.out.kept k6)
  clear kw5 k6 X5 Y5 C5 D5 E5
  go_upto_region 7 with fail
  refine wp_region_lit ?_
  refine l_val (o := ⟨some 68, _, _, _, _, _⟩) (.slice A n ca) rfl (exec_move (.tmp 9) (.slice A n ca) rfl (by kernel_rfl)) ?_
  simp only [Act.put, List.setIfInBounds_toArray, List.set_cons_succ, List.set_cons_zero]
  refine l_val (o := ⟨some 69, _, _, _, _, _⟩) (.int .i64 cut) rfl (exec_move (.tmp 2) (.int .i64 cut) rfl (by kernel_rfl)) ?_
  simp only [Act.put, List.setIfInBounds_toArray, List.set_cons_succ, List.set_cons_zero]
  refine l_val (o := ⟨some 70, _, _, _, _, _⟩) (.slice A n ca) rfl (exec_move (.tmp 9) (.slice A n ca) rfl (by kernel_rfl)) ?_
  simp only [Act.put, List.setIfInBounds_toArray, List.set_cons_succ, List.set_cons_zero]
  refine l_val (o := ⟨some 71, _, _, _, _, _⟩) (.int .i64 (n : Int)) rfl (exec_len (.tmp 70) _ _ Try.underlying23 A n ca rfl (by kernel_rfl)) ?_
  simp only [Act.put, List.setIfInBounds_toArray, List.set_cons_succ, List.set_cons_zero]
  refine l_val (o := ⟨some 72, _, _, _, _, _⟩) (.int .i64 ((n : Int) - 1)) rfl (exec_subi (.tmp 71) (.const (.int .i64 1)) _ (n : Int) 1 _ rfl (by kernel_rfl) rfl rfl (by omega) (by omega)) ?_
  simp only [Act.put, List.setIfInBounds_toArray, List.set_cons_succ, List.set_cons_zero]
  refine l_call (o := ⟨some 73, _, _, _, _, _⟩) 21 #[.int .i64 cut, .int .i64 0, .int .i64 ((n : Int) - 1)] rfl (exec_call 21 _ [.tmp 69, .const (.int .i64 0), .tmp 72] _ _ Try.func21 (by kernel_rfl) (by kernel_rfl) rfl (by kernel_rfl) _) ?_
  refine (within_nat cut ((n : Int) - 1) w6 (by omega) (by omega)).mono ?_
  rintro e w7 ⟨j, rfl, hj1, rfl⟩
  refine ⟨_, rfl, ?_⟩
  simp only [Act.put, List.setIfInBounds_toArray, List.set_cons_succ, List.set_cons_zero]
  refine l_val (o := ⟨some 74, _, _, _, _, _⟩) (.slice A j ca) rfl (exec_upto 23 5 1 (.tmp 68) (.tmp 73) A n ca j rfl Try.underlying23 info8s (by kernel_rfl) (by kernel_rfl) (by omega)) ?_
  simp only [Act.put, List.setIfInBounds_toArray, List.set_cons_succ, List.set_cons_zero]
  refine l_call (o := ⟨some 75, _, _, _, _, _⟩) 18 #[.slice A j ca] rfl (exec_call 18 _ [.tmp 74] _ _ Try.func18 (by kernel_rfl) (by kernel_rfl) rfl (by kernel_rfl) _) ?_
  have hjl : (c.enc.take j).length = j := by rw [List.length_take, HL.out]; omega
  have X7 := (bytes_r8 X6.out).take2 j
  have XT : Bytes w6 (.slice A j ca) (c.enc.take j) := ⟨A, j, ca, rfl, hjl, X7, by omega, hcm, HN.out⟩
  refine (get_any _ _ w6 XT (by omega)).mono ?_
  rintro e w8 ⟨rfl, k8⟩
  rw [GT.out j (by rw [HL.out]; omega)]
  refine ⟨_, rfl, ?_⟩
  simp only [Act.put, List.setIfInBounds_toArray, List.set_cons_succ, List.set_cons_zero]
  refine l_val (o := ⟨some 67, _, _, _, _, _⟩) (.tuple #[(Cmd.z 0).v, .bool false]) rfl (exec_move (.tmp 75) (.tuple #[(Cmd.z 0).v, .bool false]) rfl (by kernel_rfl)) ?_
  simp only [Act.put, List.setIfInBounds_toArray, List.set_cons_succ, List.set_cons_zero]
  refine l_val (o := ⟨some 76, _, _, _, _, _⟩) ((Cmd.z 0).v) rfl (exec_extract (.tmp 67) [(Cmd.z 0).v, .bool false] 0 (Cmd.z 0).v rfl (by kernel_rfl) rfl) ?_
  simp only [Act.put, List.setIfInBounds_toArray, List.set_cons_succ, List.set_cons_zero]
  refine l_val (o := ⟨some 77, _, _, _, _, _⟩) (.bool false) rfl (exec_extract (.tmp 67) [(Cmd.z 0).v, .bool false] 1 (.bool false) rfl (by kernel_rfl) rfl) ?_
  simp only [Act.put, List.setIfInBounds_toArray, List.set_cons_succ, List.set_cons_zero]
  refine l_alloc (o := ⟨some 13, _, _, _, _, _⟩) 28 (Cmd.z 0).cells rfl rfl cmd_zero ?_
  intro w9 b9 z9 k9
  obtain ⟨gf, hgf⟩ : ∃ gf, gf = w8.heap.size := ⟨_, rfl⟩
  rw [← hgf] at b9 ⊢
  simp only [Act.put, List.setIfInBounds_toArray, List.set_cons_succ, List.set_cons_zero]
  refine l_setS (o := ⟨none, _, _, _, _, _⟩) 28 gf 28 (Cmd.z 0).cells (Cmd.z 0).cells (.tmp 13) (.tmp 76) rfl rfl (by kernel_rfl) (by kernel_rfl) b9 cmd_size rfl (stc_one _ _) ?_
  intro w10 b10 k10 z10
  simp only [Act.put]
  refine l_val (o := ⟨some 14, _, _, _, _, _⟩) (.bool false) rfl (exec_assign (.tmp 77) (.bool false) rfl (by kernel_rfl)) ?_
  simp only [Act.put, List.setIfInBounds_toArray, List.set_cons_succ, List.set_cons_zero]
  refine wpList_nil ?_
  have k610 : Kept w6 w10 := Kept.trans' (k8.trans k9) k10 (by have := k8.size; omega)
  have kw10 := kw6.trans k610
  have X10 := Lib.hid (X6.out.kept k610)
  clear k8 k9 k10 b9 b10 z9 z10 hgf k610 kw6 X6 XT X7 hjl hj1
  have HRX := Lib.hid (bytes_r8 X10.out)
  go_upto_region 8 with fail
  refine wp_region_lit ?_
  refine l_new (o := ⟨some 79, _, _, _, _, _⟩) (.slice (some ⟨w10.heap.size, 0, none⟩) 0 0) (w10.alloc (.cells #[] 5)) rfl (exec_none 23 5 1 rfl Try.underlying23 info8s) ?_
  have k11 : Kept w10 (w10.alloc (.cells #[] 5)) := (Keep.refl _ w10).alloc _
  have r11 : Own8 (w10.alloc (.cells #[] 5)) w10.heap.size (some ⟨w10.heap.size, 0, none⟩) 0 0 [] := .inr ⟨_, rfl, Nat.le_refl _, rfl, row8_new w10 [] (by simp)⟩
  have z11 : w10.heap.size ≤ (w10.alloc (.cells #[] 5)).heap.size := k11.size
  have x11 := HRX.out.kept k11
  generalize w10.alloc (.cells #[] 5) = w11 at k11 r11 z11 x11 ⊢
  obtain ⟨m, hm⟩ : ∃ m, m = w10.heap.size := ⟨_, rfl⟩
  rw [← hm] at r11 z11 ⊢
  simp only [Act.put, List.setIfInBounds_toArray, List.set_cons_succ, List.set_cons_zero]
  refine l_val (o := ⟨some 80, _, _, _, _, _⟩) (.slice A n ca) rfl (exec_move (.tmp 9) (.slice A n ca) rfl (by kernel_rfl)) ?_
  simp only [Act.put, List.setIfInBounds_toArray, List.set_cons_succ, List.set_cons_zero]
  refine wpList_wanted rfl fun K hK' => op_app8 w11 (.tmp 79) (.tmp 80) rfl m 0 0 (some ⟨m, 0, none⟩) [] (by kernel_rfl) r11 z11 A n ca c.enc (by kernel_rfl) HL.out x11 HN.out (by omega) ?_
  intro w12 A12 c12 o12 k12
  refine hK' _ _ ?_
  have k12' : Keep (m ≤ ·) w10 w12 := Keep.trans (k11.mono (T := (m ≤ ·)) (fun _ _ h => h.elim)) k12 (fun _ _ h => h)
  have z12 : m ≤ w12.heap.size := by have := k12.size; omega
  simp only [Act.put, List.setIfInBounds_toArray, List.set_cons_succ, List.set_cons_zero]
  refine l_val (o := ⟨some 82, _, _, _, _, _⟩) (.int .u8 more) rfl (exec_move (.tmp 3) (.int .u8 more) rfl (by kernel_rfl)) ?_
  simp only [Act.put, List.setIfInBounds_toArray, List.set_cons_succ, List.set_cons_zero]
  refine l_new (o := ⟨some 83, _, _, _, _, _⟩) (.slice (some ⟨w12.heap.size, 0, none⟩) 1 1) (w12.alloc (.cells #[.int .u8 more] 5)) rfl (exec_one 23 5 (.tmp 82) (.int .u8 more) (.int .u8 0) rfl Try.underlying23 (by kernel_rfl) rfl (by kernel_rfl)) ?_
  have k13 : Kept w12 (w12.alloc (.cells #[.int .u8 more] 5)) := (Keep.refl _ w12).alloc _
  have r13 : R8 (w12.alloc (.cells #[.int .u8 more] 5)) (some ⟨w12.heap.size, 0, none⟩) [y] := r8_newc w12 _ [y] _ (by rw [HY.out]; rfl)
  have o13 := o12.kept k13
  generalize w12.heap.size = q at r13 z12 ⊢
  have z13 : m ≤ (w12.alloc (.cells #[.int .u8 more] 5)).heap.size := by have := k13.size; have := k12.size; omega
  generalize w12.alloc (.cells #[.int .u8 more] 5) = w13 at k13 r13 o13 z13 ⊢
  simp only [Act.put, List.setIfInBounds_toArray, List.set_cons_succ, List.set_cons_zero]
  refine wpList_wanted rfl fun K hK' => op_app8 w13 (.tmp 81) (.tmp 83) rfl m (0 + n) c12 A12 ([] ++ c.enc) (by kernel_rfl) o13 z13 (some ⟨q, 0, none⟩) 1 1 [y] (by kernel_rfl) rfl r13 (fun h => by cases h) (by omega) ?_
  intro w14 A14 c14 o14 k14
  refine hK' _ _ ?_
  have k14' : Keep (m ≤ ·) w10 w14 := Keep.trans (Keep.trans k12' (k13.mono (T := (m ≤ ·)) (fun _ _ h => h.elim)) (fun _ _ h => h)) k14 (fun _ _ h => h)
  have kw14 : Kept w w14 := Keep.trans kw10 k14' (fun i hi h => by have := kw10.size; omega)
  have XM : Bytes w14 (.slice A14 (0 + n + 1) c14) (c.enc ++ [y]) := OwnV.bytes ⟨A14, _, c14, rfl, by simpa using o14⟩
  simp only [Act.put, List.setIfInBounds_toArray, List.set_cons_succ, List.set_cons_zero]
  refine l_call (o := ⟨some 85, _, _, _, _, _⟩) 18 #[.slice A14 (0 + n + 1) c14] rfl (exec_call 18 _ [.tmp 84] _ _ Try.func18 (by kernel_rfl) (by kernel_rfl) rfl (by kernel_rfl) _) ?_
  refine (get_any _ _ w14 XM (by rw [List.length_append, HL.out]; simp; omega)).mono ?_
  rintro e w15 ⟨rfl, k15⟩
  rw [GM.out]
  refine ⟨_, rfl, ?_⟩
  simp only [Act.put, List.setIfInBounds_toArray, List.set_cons_succ, List.set_cons_zero]
  refine l_val (o := ⟨some 78, _, _, _, _, _⟩) (.tuple #[(Cmd.z 0).v, .bool false]) rfl (exec_move (.tmp 85) (.tuple #[(Cmd.z 0).v, .bool false]) rfl (by kernel_rfl)) ?_
  simp only [Act.put, List.setIfInBounds_toArray, List.set_cons_succ, List.set_cons_zero]
  refine l_val (o := ⟨some 86, _, _, _, _, _⟩) ((Cmd.z 0).v) rfl (exec_extract (.tmp 78) [(Cmd.z 0).v, .bool false] 0 (Cmd.z 0).v rfl (by kernel_rfl) rfl) ?_
  simp only [Act.put, List.setIfInBounds_toArray, List.set_cons_succ, List.set_cons_zero]
  refine l_val (o := ⟨some 87, _, _, _, _, _⟩) (.bool false) rfl (exec_extract (.tmp 78) [(Cmd.z 0).v, .bool false] 1 (.bool false) rfl (by kernel_rfl) rfl) ?_
  simp only [Act.put, List.setIfInBounds_toArray, List.set_cons_succ, List.set_cons_zero]
  refine l_alloc (o := ⟨some 15, _, _, _, _, _⟩) 28 (Cmd.z 0).cells rfl rfl cmd_zero ?_
  intro w16 b16 z16 k16
  obtain ⟨gh, hgh⟩ : ∃ gh, gh = w15.heap.size := ⟨_, rfl⟩
  rw [← hgh] at b16 ⊢
  simp only [Act.put, List.setIfInBounds_toArray, List.set_cons_succ, List.set_cons_zero]
  refine l_setS (o := ⟨none, _, _, _, _, _⟩) 28 gh 28 (Cmd.z 0).cells (Cmd.z 0).cells (.tmp 15) (.tmp 86) rfl rfl (by kernel_rfl) (by kernel_rfl) b16 cmd_size rfl (stc_one _ _) ?_
  intro w17 b17 k17 z17
  simp only [Act.put]
  refine l_val (o := ⟨some 16, _, _, _, _, _⟩) (.bool false) rfl (exec_assign (.tmp 87) (.bool false) rfl (by kernel_rfl)) ?_
  simp only [Act.put, List.setIfInBounds_toArray, List.set_cons_succ, List.set_cons_zero]
  refine wpList_nil ?_
  have kw17 : Kept w w17 := Kept.trans' ((kw14.trans k15).trans k16) k17 (by have := kw14.size; have := k15.size; omega)
  clear k11 r11 z11 x11 o12 k12 k12' z12 k13 r13 o13 z13 k14 k14' o14 XM k15 k16 k17 b16 b17 z16 z17 hgh hm kw14 kw10 HRX
  go_upto_region 9 with fail
  refine wp_text 9 [.eq (.bool false), .eq (.bool true), .eq (.bool true), .eq (.bool false), .eq (.bool true), .eq (.bool true), .eq (.bool true), .eq (.bool true), .eq (.bool true)] rfl (by kernel_rfl) ?_ ?_
  · refine fsteps_cons 1 rfl (fun a u hE hD hk => f_val (o := ⟨some 88, _, _, _, _, _⟩) (.bool false) rfl (wanted_none rfl _) (exec_move (.tmp 14) (.bool false) rfl (hE 14 (.bool false) (by kernel_rfl) (by kernel_rfl))) rfl) ?_
    refine fsteps_cons 2 rfl (fun a u hE hD hk => f_val (o := ⟨some 89, _, _, _, _, _⟩) (.bool true) rfl (wanted_none rfl _) (exec_not _ (.tmp 88) false rfl (hD 0 88 (by kernel_rfl))) rfl) ?_
    refine fsteps_cons 3 rfl (fun a u hE hD hk => f_val (o := ⟨some 90, _, _, _, _, _⟩) (.bool true) rfl (wanted_none rfl _) (exec_move (.tmp 89) (.bool true) rfl (hD 1 89 (by kernel_rfl))) rfl) ?_
    refine fsteps_cons 4 rfl (fun a u hE hD hk => f_val (o := ⟨some 91, _, _, _, _, _⟩) (.bool false) rfl (wanted_at (b := true) true rfl rfl (hD 2 90 (by kernel_rfl))) (exec_move (.tmp 16) (.bool false) rfl (hE 16 (.bool false) (by kernel_rfl) (by kernel_rfl))) rfl) ?_
    refine fsteps_cons 5 rfl (fun a u hE hD hk => f_val (o := ⟨some 92, _, _, _, _, _⟩) (.bool true) rfl (wanted_at (b := true) true rfl rfl (hD 2 90 (by kernel_rfl))) (exec_not _ (.tmp 91) false rfl (hD 3 91 (by kernel_rfl))) rfl) ?_
    refine fsteps_cons 6 rfl (fun a u hE hD hk => f_val (o := ⟨some 93, _, _, _, _, _⟩) (.bool true) rfl (wanted_none rfl _) (exec_pick (.tmp 90) (.tmp 92) (.const (.bool false)) (.bool true) rfl (hD 2 90 (by kernel_rfl)) (hD 4 92 (by kernel_rfl))) rfl) ?_
    refine fsteps_cons 7 rfl (fun a u hE hD hk => f_val (o := ⟨some 94, _, _, _, _, _⟩) (.bool true) rfl (wanted_none rfl _) (exec_move (.tmp 93) (.bool true) rfl (hD 5 93 (by kernel_rfl))) rfl) ?_
    refine fsteps_cons 8 rfl (fun a u hE hD hk => f_call (o := ⟨some 95, _, _, _, _, _⟩) 3 #[] rfl (wanted_at (b := true) true rfl rfl (hD 6 94 (by kernel_rfl))) (exec_call 3 _ [] _ [] Try.func3 (by kernel_rfl) (by kernel_rfl) rfl rfl u) (runs_gives u)) ?_
    refine fsteps_cons 9 rfl (fun a u hE hD hk => f_val (o := ⟨some 96, _, _, _, _, _⟩) (.bool true) rfl (wanted_none rfl _) (exec_pick (.tmp 94) (.tmp 95) (.const (.bool false)) (.bool true) rfl (hD 6 94 (by kernel_rfl)) (hD 7 95 (by kernel_rfl))) rfl) ?_
    exact fsteps_nil
  intro gv w18 hV k18
  rw [show dstsOf _ 9 = [88, 89, 90, 91, 92, 93, 94, 95, 96] by kernel_rfl]
  simp only [List.foldl_cons, List.foldl_nil, List.setIfInBounds_toArray, List.set_cons_succ, List.set_cons_zero, List.drop_succ_cons, List.drop_zero]
  rw [show gv 96 = .bool true from hV 8 96 (by kernel_rfl)]
  clear hV
  have kw18 := kw17.trans k18
  go_wp2
  go_ret
  exact ⟨rfl, kw18⟩

set_option maxRecDepth 100000 in
set_option maxHeartbeats 6400000 in
theorem back_ttn (c d : Cmd) (cut : Int) (more : Int) (y : UInt8) (hy : more = (y.toNat : Int)) (w : World) (HTc : Hid (c.tag.length = 32)) (HTd : Hid (d.tag.length = 32)) (hA : Hid (c.right = true)) (hB : Hid (d.right = true)) (hEq : Hid (decide (c = d) = false)) : Calls Try.prog 6 #[c.v, d.v, .int .i64 cut, .int .u8 more] w fun e w' => e = .returned (.bool true) ∧ Kept w w' := by
  have PA : Hid (c.putB = c.enc) := putB_t hA.out
  have PB : Hid (d.putB = d.enc) := putB_t hB.out
  have LA : Hid (c.enc.length = 1 + (plan c.k).sum) := enc_len c HTc.out
  have LP : Hid ((plan c.k).sum ≤ 32) := plan_le c.k
  have GB : Hid (getB c.enc = (c, true)) := get_back c hA.out HTc.out
  have GT : Hid (∀ j, j < c.enc.length → getB (c.enc.take j) = (Cmd.z 0, false)) := fun j hj => get_take c hA.out HTc.out j hj
  have GM : Hid (getB (c.enc ++ [y]) = (Cmd.z 0, false)) := get_more c hA.out HTc.out y
  have SB : Hid (decide (c.enc = d.enc) = false) := by
    show _ = _
    have h : c ≠ d := by simpa using hEq.out
    exact decide_eq_false (fun h2 => h (enc_inj c d hA.out hB.out HTc.out HTd.out h2))
  have HY := Lib.hid hy
  clear hy
  unfold Cmd.v
  have k1 : Kept w (w.alloc (.cells c.cells.toArray 28)) := (Keep.refl _ w).alloc _
  have B1 := Blk.new w 28 c.cells
  have k2 : Kept (w.alloc (.cells c.cells.toArray 28)) ((w.alloc (.cells c.cells.toArray 28)).alloc (.cells d.cells.toArray 28)) := (Keep.refl _ _).alloc _
  have B2 := Blk.new (w.alloc (.cells c.cells.toArray 28)) 28 d.cells
  have HC : Hid (Blk ((w.alloc (.cells c.cells.toArray 28)).alloc (.cells d.cells.toArray 28)) w.heap.size 28 c.cells) := B1.kept k2
  have HD : Hid (Blk ((w.alloc (.cells c.cells.toArray 28)).alloc (.cells d.cells.toArray 28)) (w.heap.size + 1) 28 d.cells) := by have h := B2; rw [show (w.alloc (.cells c.cells.toArray 28)).heap.size = w.heap.size + 1 by simp] at h; exact h
  have kw0 := k1.trans k2
  clear B1 B2 k1 k2
  go_enter Try.func6, Try.ntmps6
  go_upto_region 1 with fail
  generalize w.heap.size + 1 = gd at HD ⊢
  generalize hgw : w.heap.size = gc at HC ⊢
  generalize ((w.alloc (.cells c.cells.toArray 28)).alloc (.cells d.cells.toArray 28)) = w0 at HC HD kw0 ⊢
  refine wp_text 7 [.eq (c.v), .eq (.bool true), .eq (.bool false), .eq (.bool false), .eq (d.v), .eq (.bool true), .eq (.bool false)] rfl (by kernel_rfl) ?_ ?_
  · refine fsteps_cons 1 rfl (fun a u hE hD hk => f_val (o := ⟨some 17, _, _, _, _, _⟩) (c.v) rfl (wanted_none rfl _) (exec_loadS 28 (.tmp 4) (gc) _ c.cells _ rfl (hE 4 (.pointer (some ⟨gc, 0, none⟩)) (by kernel_rfl) (by kernel_rfl)) (HC.out.kept hk) Try.underlying28 (by rw [Cmd.cells_len _ HTc.out]; exact cmd_size)) rfl) ?_
    refine fsteps_cons 2 rfl (fun a u hE hD hk => f_call (o := ⟨some 18, _, _, _, _, _⟩) 13 #[c.v] rfl (wanted_none rfl _) (exec_call 13 _ [.tmp 17] _ [c.v] Try.func13 (by kernel_rfl) (by kernel_rfl) rfl (show [a.eval (.tmp 17)] = [c.v] from (by rw [show a.eval (.tmp 17) = c.v from (hD 0 17 (by kernel_rfl))] <;> rfl)) u) (msgRight_is c true u HTc hA.out)) ?_
    refine fsteps_cons 3 rfl (fun a u hE hD hk => f_val (o := ⟨some 19, _, _, _, _, _⟩) (.bool false) rfl (wanted_none rfl _) (exec_not _ (.tmp 18) true rfl (hD 1 18 (by kernel_rfl))) rfl) ?_
    refine fsteps_cons 4 rfl (fun a u hE hD hk => f_val (o := ⟨some 20, _, _, _, _, _⟩) (.bool false) rfl (wanted_none rfl _) (exec_move (.tmp 19) (.bool false) rfl (hD 2 19 (by kernel_rfl))) rfl) ?_
    refine fsteps_cons 5 rfl (fun a u hE hD hk => f_val (o := ⟨some 21, _, _, _, _, _⟩) (d.v) rfl (wanted_at (b := false) false rfl rfl (hD 3 20 (by kernel_rfl))) (exec_loadS 28 (.tmp 5) (gd) _ d.cells _ rfl (hE 5 (.pointer (some ⟨gd, 0, none⟩)) (by kernel_rfl) (by kernel_rfl)) (HD.out.kept hk) Try.underlying28 (by rw [Cmd.cells_len _ HTd.out]; exact cmd_size)) rfl) ?_
    refine fsteps_cons 6 rfl (fun a u hE hD hk => f_call (o := ⟨some 22, _, _, _, _, _⟩) 13 #[d.v] rfl (wanted_at (b := false) false rfl rfl (hD 3 20 (by kernel_rfl))) (exec_call 13 _ [.tmp 21] _ [d.v] Try.func13 (by kernel_rfl) (by kernel_rfl) rfl (show [a.eval (.tmp 21)] = [d.v] from (by rw [show a.eval (.tmp 21) = d.v from (hD 4 21 (by kernel_rfl))] <;> rfl)) u) (msgRight_is d true u HTd hB.out)) ?_
    refine fsteps_cons 7 rfl (fun a u hE hD hk => f_val (o := ⟨some 23, _, _, _, _, _⟩) (.bool false) rfl (wanted_at (b := false) false rfl rfl (hD 3 20 (by kernel_rfl))) (exec_not _ (.tmp 22) true rfl (hD 5 22 (by kernel_rfl))) rfl) ?_
    exact fsteps_nil
  intro gv w1 hV k1
  rw [show dstsOf _ 7 = [17, 18, 19, 20, 21, 22, 23] by kernel_rfl]
  simp only [List.foldl_cons, List.foldl_nil, List.setIfInBounds_toArray, List.set_cons_succ, List.set_cons_zero, List.drop_succ_cons, List.drop_zero]
  rw [show gv 20 = .bool false from hV 3 20 (by kernel_rfl)]
  rw [show gv 23 = .bool false from hV 6 23 (by kernel_rfl)]
  clear hV
  have kw1 := kw0.trans k1
  have C1 := Lib.hid (HC.out.kept k1)
  have D1 := Lib.hid (HD.out.kept k1)
  clear kw0 k1 HC HD
  go_upto_region 3 with fail
  refine wp_free 4 [.eq (c.v), .bytes c.enc, .eq (d.v), .bytes d.enc] (by kernel_rfl) rfl (by kernel_rfl) ?_ ?_
  · refine fsteps_cons 1 rfl (fun a u hE hD hk => f_val (o := ⟨some 37, _, _, _, _, _⟩) (c.v) rfl (wanted_none rfl _) (exec_loadS 28 (.tmp 4) (gc) _ c.cells _ rfl (hE 4 (.pointer (some ⟨gc, 0, none⟩)) (by kernel_rfl) (by kernel_rfl)) (C1.out.kept hk) Try.underlying28 (by rw [Cmd.cells_len _ HTc.out]; exact cmd_size)) rfl) ?_
    refine fsteps_cons 2 rfl (fun a u hE hD hk => f_call (o := ⟨some 38, _, _, _, _, _⟩) 11 #[c.v] rfl (wanted_none rfl _) (exec_call 11 _ [.tmp 37] _ [c.v] Try.func11 (by kernel_rfl) (by kernel_rfl) rfl (show [a.eval (.tmp 37)] = [c.v] from (by rw [show a.eval (.tmp 37) = c.v from (hD 0 37 (by kernel_rfl))] <;> rfl)) u) (put_bytes c _ u HTc PA.out)) ?_
    refine fsteps_cons 3 rfl (fun a u hE hD hk => f_val (o := ⟨some 39, _, _, _, _, _⟩) (d.v) rfl (wanted_none rfl _) (exec_loadS 28 (.tmp 5) (gd) _ d.cells _ rfl (hE 5 (.pointer (some ⟨gd, 0, none⟩)) (by kernel_rfl) (by kernel_rfl)) (D1.out.kept hk) Try.underlying28 (by rw [Cmd.cells_len _ HTd.out]; exact cmd_size)) rfl) ?_
    refine fsteps_cons 4 rfl (fun a u hE hD hk => f_call (o := ⟨some 40, _, _, _, _, _⟩) 11 #[d.v] rfl (wanted_none rfl _) (exec_call 11 _ [.tmp 39] _ [d.v] Try.func11 (by kernel_rfl) (by kernel_rfl) rfl (show [a.eval (.tmp 39)] = [d.v] from (by rw [show a.eval (.tmp 39) = d.v from (hD 2 39 (by kernel_rfl))] <;> rfl)) u) (put_bytes d _ u HTd PB.out)) ?_
    exact fsteps_nil
  intro gv w2 hV k2
  rw [show dstsOf _ 4 = [37, 38, 39, 40] by kernel_rfl]
  simp only [List.foldl_cons, List.foldl_nil, List.setIfInBounds_toArray, List.set_cons_succ, List.set_cons_zero, List.drop_succ_cons, List.drop_zero]
  have hv38 : (.bytes c.enc : Kn).p (gv 38) w2 := hV 1 38 (by kernel_rfl)
  generalize gv 38 = v38 at hv38 ⊢
  have hv40 : (.bytes d.enc : Kn).p (gv 40) w2 := hV 3 40 (by kernel_rfl)
  generalize gv 40 = v40 at hv40 ⊢
  clear hV
  have kw2 := kw1.trans k2
  have C2 := Lib.hid (C1.out.kept k2)
  have D2 := Lib.hid (D1.out.kept k2)
  have X2 : Hid (Bytes w2 v38 c.enc) := hv38
  have Y2 : Hid (Bytes w2 v40 d.enc) := hv40
  clear kw1 k2 C1 D1 hv38 hv40
  obtain ⟨A, n, ca, rfl, hn, hx, hnc, hcm, hAn⟩ := X2.out
  have HX := Lib.hid hx
  have HN := Lib.hid hAn
  have hn33 : n = 1 + (plan c.k).sum := by rw [← hn.out]; exact LA.out
  have hn1 : n ≤ 33 := by have := LP.out; omega
  have hn0 : 1 ≤ n := by omega
  have HL := hn
  clear hn33 hx X2 hAn
  have X2 : Hid (Bytes w2 (.slice A n ca) c.enc) := ⟨A, n, ca, rfl, hn, HX.out, hnc, hcm, HN.out⟩
  go_upto_region 4 with fail
  refine wp_region_lit ?_
  refine l_val (o := ⟨some 42, _, _, _, _, _⟩) (.slice A n ca) rfl (exec_move (.tmp 9) (.slice A n ca) rfl (by kernel_rfl)) ?_
  simp only [Act.put, List.setIfInBounds_toArray, List.set_cons_succ, List.set_cons_zero]
  refine l_call (o := ⟨some 43, _, _, _, _, _⟩) 18 #[.slice A n ca] rfl (exec_call 18 _ [.tmp 42] _ _ Try.func18 (by kernel_rfl) (by kernel_rfl) rfl (by kernel_rfl) _) ?_
  refine (get_any _ c.enc w2 X2.out (by rw [LA.out]; have := LP.out; omega)).mono ?_
  rintro e w3 ⟨rfl, k3⟩
  rw [GB.out]
  refine ⟨_, rfl, ?_⟩
  simp only [Act.put, List.setIfInBounds_toArray, List.set_cons_succ, List.set_cons_zero]
  refine l_val (o := ⟨some 41, _, _, _, _, _⟩) (.tuple #[c.v, .bool true]) rfl (exec_move (.tmp 43) (.tuple #[c.v, .bool true]) rfl (by kernel_rfl)) ?_
  simp only [Act.put, List.setIfInBounds_toArray, List.set_cons_succ, List.set_cons_zero]
  refine l_val (o := ⟨some 44, _, _, _, _, _⟩) (c.v) rfl (exec_extract (.tmp 41) [c.v, .bool true] 0 c.v rfl (by kernel_rfl) rfl) ?_
  simp only [Act.put, List.setIfInBounds_toArray, List.set_cons_succ, List.set_cons_zero]
  refine l_val (o := ⟨some 45, _, _, _, _, _⟩) (.bool true) rfl (exec_extract (.tmp 41) [c.v, .bool true] 1 (.bool true) rfl (by kernel_rfl) rfl) ?_
  simp only [Act.put, List.setIfInBounds_toArray, List.set_cons_succ, List.set_cons_zero]
  refine l_alloc (o := ⟨some 11, _, _, _, _, _⟩) 28 (Cmd.z 0).cells rfl rfl cmd_zero ?_
  intro w4 b4 z4 k4
  obtain ⟨ge, hge⟩ : ∃ ge, ge = w3.heap.size := ⟨_, rfl⟩
  rw [← hge] at b4 ⊢
  simp only [Act.put, List.setIfInBounds_toArray, List.set_cons_succ, List.set_cons_zero]
  refine l_setS (o := ⟨none, _, _, _, _, _⟩) 28 ge 28 (Cmd.z 0).cells c.cells (.tmp 11) (.tmp 44) rfl rfl (by kernel_rfl) (by kernel_rfl) b4 (by rw [Cmd.cells_len c HTc.out]; exact cmd_size) (by rw [Cmd.cells_len c HTc.out]; rfl) (stc_one _ _) ?_
  intro w5 b5 k5 z5
  simp only [Act.put]
  refine l_val (o := ⟨some 12, _, _, _, _, _⟩) (.bool true) rfl (exec_assign (.tmp 45) (.bool true) rfl (by kernel_rfl)) ?_
  simp only [Act.put, List.setIfInBounds_toArray, List.set_cons_succ, List.set_cons_zero]
  refine wpList_nil ?_
  have k25 : Kept w2 w5 := Kept.trans' (k3.trans k4) k5 (by have := k3.size; omega)
  have kw5 := kw2.trans k25
  have X5 := Lib.hid (X2.out.kept k25)
  have Y5 := Lib.hid (Y2.out.kept k25)
  have C5 := Lib.hid (C2.out.kept k25)
  have D5 := Lib.hid (D2.out.kept k25)
  have E5 : Hid (Blk w5 ge 28 c.cells) := b5
  clear k3 k4 k5 b4 b5 z4 z5 hge k25 kw2 X2 Y2 C2 D2
  go_upto_region 5 with fail
  refine wp_free 20 [.eq (.bool true), .eq (.bool false), .eq (.bool false), .eq (c.v), .eq (c.v), .eq (.bool false), .eq (.bool false), .eq (.bool false), .eq (.slice A n ca), .eq (.int .i64 (n : Int)), .eq (.bool false), .eq (.bool false), .eq (.bool false), .eq (.slice A n ca), .eq (v40), .eq (.bool false), .eq (c.v), .eq (d.v), .eq (.bool false), .eq (.bool false)] (by kernel_rfl) rfl (by kernel_rfl) ?_ ?_
  · refine fsteps_cons 1 rfl (fun a u hE hD hk => f_val (o := ⟨some 46, _, _, _, _, _⟩) (.bool true) rfl (wanted_none rfl _) (exec_move (.tmp 12) (.bool true) rfl (hE 12 (.bool true) (by kernel_rfl) (by kernel_rfl))) rfl) ?_
    refine fsteps_cons 2 rfl (fun a u hE hD hk => f_val (o := ⟨some 47, _, _, _, _, _⟩) (.bool false) rfl (wanted_none rfl _) (exec_not _ (.tmp 46) true rfl (hD 0 46 (by kernel_rfl))) rfl) ?_
    refine fsteps_cons 3 rfl (fun a u hE hD hk => f_val (o := ⟨some 48, _, _, _, _, _⟩) (.bool false) rfl (wanted_none rfl _) (exec_move (.tmp 47) (.bool false) rfl (hD 1 47 (by kernel_rfl))) rfl) ?_
    refine fsteps_cons 4 rfl (fun a u hE hD hk => f_val (o := ⟨some 49, _, _, _, _, _⟩) (c.v) rfl (wanted_at (b := false) false rfl rfl (hD 2 48 (by kernel_rfl))) (exec_loadS 28 (.tmp 11) (ge) _ c.cells _ rfl (hE 11 (.pointer (some ⟨ge, 0, none⟩)) (by kernel_rfl) (by kernel_rfl)) (E5.out.kept hk) Try.underlying28 (by rw [Cmd.cells_len _ HTc.out]; exact cmd_size)) rfl) ?_
    refine fsteps_cons 5 rfl (fun a u hE hD hk => f_val (o := ⟨some 50, _, _, _, _, _⟩) (c.v) rfl (wanted_at (b := false) false rfl rfl (hD 2 48 (by kernel_rfl))) (exec_loadS 28 (.tmp 4) (gc) _ c.cells _ rfl (hE 4 (.pointer (some ⟨gc, 0, none⟩)) (by kernel_rfl) (by kernel_rfl)) (C5.out.kept hk) Try.underlying28 (by rw [Cmd.cells_len _ HTc.out]; exact cmd_size)) rfl) ?_
    refine fsteps_cons 6 rfl (fun a u hE hD hk => f_val (o := ⟨some 51, _, _, _, _, _⟩) (.bool false) rfl (wanted_at (b := false) false rfl rfl (hD 2 48 (by kernel_rfl))) (exec_neqCmd (.tmp 49) (.tmp 50) _ c c false rfl (hD 3 49 (by kernel_rfl)) (hD 4 50 (by kernel_rfl)) HTc.out HTc.out (by simp)) rfl) ?_
    refine fsteps_cons 7 rfl (fun a u hE hD hk => f_val (o := ⟨some 52, _, _, _, _, _⟩) (.bool false) rfl (wanted_none rfl _) (exec_pickF (.tmp 48) (.const (.bool true)) (.tmp 51) (.bool false) rfl (hD 2 48 (by kernel_rfl)) (hD 5 51 (by kernel_rfl))) rfl) ?_
    refine fsteps_cons 8 rfl (fun a u hE hD hk => f_val (o := ⟨some 53, _, _, _, _, _⟩) (.bool false) rfl (wanted_none rfl _) (exec_move (.tmp 52) (.bool false) rfl (hD 6 52 (by kernel_rfl))) rfl) ?_
    refine fsteps_cons 9 rfl (fun a u hE hD hk => f_val (o := ⟨some 54, _, _, _, _, _⟩) (.slice A n ca) rfl (wanted_at (b := false) false rfl rfl (hD 7 53 (by kernel_rfl))) (exec_move (.tmp 9) (.slice A n ca) rfl (hE 9 (.slice A n ca) (by kernel_rfl) (by kernel_rfl))) rfl) ?_
    refine fsteps_cons 10 rfl (fun a u hE hD hk => f_val (o := ⟨some 55, _, _, _, _, _⟩) (.int .i64 (n : Int)) rfl (wanted_at (b := false) false rfl rfl (hD 7 53 (by kernel_rfl))) (exec_lenB (.tmp 54) c.enc n rfl (by rw [show a.eval (.tmp 54) = .slice A n ca from (hD 8 54 (by kernel_rfl))]; exact X5.out.kept hk) HL.out) rfl) ?_
    refine fsteps_cons 11 rfl (fun a u hE hD hk => f_val (o := ⟨some 56, _, _, _, _, _⟩) (.bool false) rfl (wanted_at (b := false) false rfl rfl (hD 7 53 (by kernel_rfl))) (exec_cmpi .lss (.tmp 55) (.const (.int .i64 1)) _ (n : Int) 1 false rfl (hD 9 55 (by kernel_rfl)) rfl (.inl ⟨rfl, by simp; omega⟩)) rfl) ?_
    refine fsteps_cons 12 rfl (fun a u hE hD hk => f_val (o := ⟨some 57, _, _, _, _, _⟩) (.bool false) rfl (wanted_none rfl _) (exec_pickF (.tmp 53) (.const (.bool true)) (.tmp 56) (.bool false) rfl (hD 7 53 (by kernel_rfl)) (hD 10 56 (by kernel_rfl))) rfl) ?_
    refine fsteps_cons 13 rfl (fun a u hE hD hk => f_val (o := ⟨some 58, _, _, _, _, _⟩) (.bool false) rfl (wanted_none rfl _) (exec_move (.tmp 57) (.bool false) rfl (hD 11 57 (by kernel_rfl))) rfl) ?_
    refine fsteps_cons 14 rfl (fun a u hE hD hk => f_val (o := ⟨some 59, _, _, _, _, _⟩) (.slice A n ca) rfl (wanted_at (b := false) false rfl rfl (hD 12 58 (by kernel_rfl))) (exec_move (.tmp 9) (.slice A n ca) rfl (hE 9 (.slice A n ca) (by kernel_rfl) (by kernel_rfl))) rfl) ?_
    refine fsteps_cons 15 rfl (fun a u hE hD hk => f_val (o := ⟨some 60, _, _, _, _, _⟩) (v40) rfl (wanted_at (b := false) false rfl rfl (hD 12 58 (by kernel_rfl))) (exec_move (.tmp 10) (v40) rfl (hE 10 (v40) (by kernel_rfl) (by kernel_rfl))) rfl) ?_
    refine fsteps_cons 16 rfl (fun a u hE hD hk => f_call (o := ⟨some 61, _, _, _, _, _⟩) 10 #[.slice A n ca, v40] rfl (wanted_at (b := false) false rfl rfl (hD 12 58 (by kernel_rfl))) (exec_call 10 _ [.tmp 59, .tmp 60] _ [.slice A n ca, v40] Try.func10 (by kernel_rfl) (by kernel_rfl) rfl (show [a.eval (.tmp 59), a.eval (.tmp 60)] = [.slice A n ca, v40] from (by rw [show a.eval (.tmp 59) = .slice A n ca from (hD 13 59 (by kernel_rfl)), show a.eval (.tmp 60) = v40 from (hD 14 60 (by kernel_rfl))] <;> rfl)) u) (same_v _ _ c.enc d.enc false u (X5.out.kept hk) (Y5.out.kept hk) SB.out)) ?_
    refine fsteps_cons 17 rfl (fun a u hE hD hk => f_val (o := ⟨some 62, _, _, _, _, _⟩) (c.v) rfl (wanted_at (b := false) false rfl rfl (hD 12 58 (by kernel_rfl))) (exec_loadS 28 (.tmp 4) (gc) _ c.cells _ rfl (hE 4 (.pointer (some ⟨gc, 0, none⟩)) (by kernel_rfl) (by kernel_rfl)) (C5.out.kept hk) Try.underlying28 (by rw [Cmd.cells_len _ HTc.out]; exact cmd_size)) rfl) ?_
    refine fsteps_cons 18 rfl (fun a u hE hD hk => f_val (o := ⟨some 63, _, _, _, _, _⟩) (d.v) rfl (wanted_at (b := false) false rfl rfl (hD 12 58 (by kernel_rfl))) (exec_loadS 28 (.tmp 5) (gd) _ d.cells _ rfl (hE 5 (.pointer (some ⟨gd, 0, none⟩)) (by kernel_rfl) (by kernel_rfl)) (D5.out.kept hk) Try.underlying28 (by rw [Cmd.cells_len _ HTd.out]; exact cmd_size)) rfl) ?_
    refine fsteps_cons 19 rfl (fun a u hE hD hk => f_val (o := ⟨some 64, _, _, _, _, _⟩) (.bool false) rfl (wanted_at (b := false) false rfl rfl (hD 12 58 (by kernel_rfl))) (exec_eqCmd (.tmp 62) (.tmp 63) _ c d false rfl (hD 16 62 (by kernel_rfl)) (hD 17 63 (by kernel_rfl)) HTc.out HTd.out hEq.out) rfl) ?_
    refine fsteps_cons 20 rfl (fun a u hE hD hk => f_val (o := ⟨some 65, _, _, _, _, _⟩) (.bool false) rfl (wanted_at (b := false) false rfl rfl (hD 12 58 (by kernel_rfl))) (exec_neb (.tmp 61) (.tmp 64) _ false false false rfl (hD 15 61 (by kernel_rfl)) (hD 18 64 (by kernel_rfl)) rfl) rfl) ?_
    exact fsteps_nil
  intro gv w6 hV k6
  rw [show dstsOf _ 20 = [46, 47, 48, 49, 50, 51, 52, 53, 54, 55, 56, 57, 58, 59, 60, 61, 62, 63, 64, 65] by kernel_rfl]
  simp only [List.foldl_cons, List.foldl_nil, List.setIfInBounds_toArray, List.set_cons_succ, List.set_cons_zero, List.drop_succ_cons, List.drop_zero]
  rw [show gv 58 = .bool false from hV 12 58 (by kernel_rfl)]
  rw [show gv 65 = .bool false from hV 19 65 (by kernel_rfl)]
  clear hV
  have kw6 := kw5.trans k6
  have X6 := Lib.hid (X5.out.kept k6)
  clear kw5 k6 X5 Y5 C5 D5 E5
  go_upto_region 7 with fail
  refine wp_region_lit ?_
  refine l_val (o := ⟨some 68, _, _, _, _, _⟩) (.slice A n ca) rfl (exec_move (.tmp 9) (.slice A n ca) rfl (by kernel_rfl)) ?_
  simp only [Act.put, List.setIfInBounds_toArray, List.set_cons_succ, List.set_cons_zero]
  refine l_val (o := ⟨some 69, _, _, _, _, _⟩) (.int .i64 cut) rfl (exec_move (.tmp 2) (.int .i64 cut) rfl (by kernel_rfl)) ?_
  simp only [Act.put, List.setIfInBounds_toArray, List.set_cons_succ, List.set_cons_zero]
  refine l_val (o := ⟨some 70, _, _, _, _, _⟩) (.slice A n ca) rfl (exec_move (.tmp 9) (.slice A n ca) rfl (by kernel_rfl)) ?_
  simp only [Act.put, List.setIfInBounds_toArray, List.set_cons_succ, List.set_cons_zero]
  refine l_val (o := ⟨some 71, _, _, _, _, _⟩) (.int .i64 (n : Int)) rfl (exec_len (.tmp 70) _ _ Try.underlying23 A n ca rfl (by kernel_rfl)) ?_
  simp only [Act.put, List.setIfInBounds_toArray, List.set_cons_succ, List.set_cons_zero]
  refine l_val (o := ⟨some 72, _, _, _, _, _⟩) (.int .i64 ((n : Int) - 1)) rfl (exec_subi (.tmp 71) (.const (.int .i64 1)) _ (n : Int) 1 _ rfl (by kernel_rfl) rfl rfl (by omega) (by omega)) ?_
  simp only [Act.put, List.setIfInBounds_toArray, List.set_cons_succ, List.set_cons_zero]
  refine l_call (o := ⟨some 73, _, _, _, _, _⟩) 21 #[.int .i64 cut, .int .i64 0, .int .i64 ((n : Int) - 1)] rfl (exec_call 21 _ [.tmp 69, .const (.int .i64 0), .tmp 72] _ _ Try.func21 (by kernel_rfl) (by kernel_rfl) rfl (by kernel_rfl) _) ?_
  refine (within_nat cut ((n : Int) - 1) w6 (by omega) (by omega)).mono ?_
  rintro e w7 ⟨j, rfl, hj1, rfl⟩
  refine ⟨_, rfl, ?_⟩
  simp only [Act.put, List.setIfInBounds_toArray, List.set_cons_succ, List.set_cons_zero]
  refine l_val (o := ⟨some 74, _, _, _, _, _⟩) (.slice A j ca) rfl (exec_upto 23 5 1 (.tmp 68) (.tmp 73) A n ca j rfl Try.underlying23 info8s (by kernel_rfl) (by kernel_rfl) (by omega)) ?_
  simp only [Act.put, List.setIfInBounds_toArray, List.set_cons_succ, List.set_cons_zero]
  refine l_call (o := ⟨some 75, _, _, _, _, _⟩) 18 #[.slice A j ca] rfl (exec_call 18 _ [.tmp 74] _ _ Try.func18 (by kernel_rfl) (by kernel_rfl) rfl (by kernel_rfl) _) ?_
  have hjl : (c.enc.take j).length = j := by rw [List.length_take, HL.out]; omega
  have X7 := (bytes_r8 X6.out).take2 j
  have XT : Bytes w6 (.slice A j ca) (c.enc.take j) := ⟨A, j, ca, rfl, hjl, X7, by omega, hcm, HN.out⟩
  refine (get_any _ _ w6 XT (by omega)).mono ?_
  rintro e w8 ⟨rfl, k8⟩
  rw [GT.out j (by rw [HL.out]; omega)]
  refine ⟨_, rfl, ?_⟩
  simp only [Act.put, List.setIfInBounds_toArray, List.set_cons_succ, List.set_cons_zero]
  refine l_val (o := ⟨some 67, _, _, _, _, _⟩) (.tuple #[(Cmd.z 0).v, .bool false]) rfl (exec_move (.tmp 75) (.tuple #[(Cmd.z 0).v, .bool false]) rfl (by kernel_rfl)) ?_
  simp only [Act.put, List.setIfInBounds_toArray, List.set_cons_succ, List.set_cons_zero]
  refine l_val (o := ⟨some 76, _, _, _, _, _⟩) ((Cmd.z 0).v) rfl (exec_extract (.tmp 67) [(Cmd.z 0).v, .bool false] 0 (Cmd.z 0).v rfl (by kernel_rfl) rfl) ?_
  simp only [Act.put, List.setIfInBounds_toArray, List.set_cons_succ, List.set_cons_zero]
  refine l_val (o := ⟨some 77, _, _, _, _, _⟩) (.bool false) rfl (exec_extract (.tmp 67) [(Cmd.z 0).v, .bool false] 1 (.bool false) rfl (by kernel_rfl) rfl) ?_
  simp only [Act.put, List.setIfInBounds_toArray, List.set_cons_succ, List.set_cons_zero]
  refine l_alloc (o := ⟨some 13, _, _, _, _, _⟩) 28 (Cmd.z 0).cells rfl rfl cmd_zero ?_
  intro w9 b9 z9 k9
  obtain ⟨gf, hgf⟩ : ∃ gf, gf = w8.heap.size := ⟨_, rfl⟩
  rw [← hgf] at b9 ⊢
  simp only [Act.put, List.setIfInBounds_toArray, List.set_cons_succ, List.set_cons_zero]
  refine l_setS (o := ⟨none, _, _, _, _, _⟩) 28 gf 28 (Cmd.z 0).cells (Cmd.z 0).cells (.tmp 13) (.tmp 76) rfl rfl (by kernel_rfl) (by kernel_rfl) b9 cmd_size rfl (stc_one _ _) ?_
  intro w10 b10 k10 z10
  simp only [Act.put]
  refine l_val (o := ⟨some 14, _, _, _, _, _⟩) (.bool false) rfl (exec_assign (.tmp 77) (.bool false) rfl (by kernel_rfl)) ?_
  simp only [Act.put, List.setIfInBounds_toArray, List.set_cons_succ, List.set_cons_zero]
  refine wpList_nil ?_
  have k610 : Kept w6 w10 := Kept.trans' (k8.trans k9) k10 (by have := k8.size; omega)
  have kw10 := kw6.trans k610
  have X10 := Lib.hid (X6.out.kept k610)
  clear k8 k9 k10 b9 b10 z9 z10 hgf k610 kw6 X6 XT X7 hjl hj1
  have HRX := Lib.hid (bytes_r8 X10.out)
  go_upto_region 8 with fail
  refine wp_region_lit ?_
  refine l_new (o := ⟨some 79, _, _, _, _, _⟩) (.slice (some ⟨w10.heap.size, 0, none⟩) 0 0) (w10.alloc (.cells #[] 5)) rfl (exec_none 23 5 1 rfl Try.underlying23 info8s) ?_
  have k11 : Kept w10 (w10.alloc (.cells #[] 5)) := (Keep.refl _ w10).alloc _
  have r11 : Own8 (w10.alloc (.cells #[] 5)) w10.heap.size (some ⟨w10.heap.size, 0, none⟩) 0 0 [] := .inr ⟨_, rfl, Nat.le_refl _, rfl, row8_new w10 [] (by simp)⟩
  have z11 : w10.heap.size ≤ (w10.alloc (.cells #[] 5)).heap.size := k11.size
  have x11 := HRX.out.kept k11
  generalize w10.alloc (.cells #[] 5) = w11 at k11 r11 z11 x11 ⊢
  obtain ⟨m, hm⟩ : ∃ m, m = w10.heap.size := ⟨_, rfl⟩
  rw [← hm] at r11 z11 ⊢
  simp only [Act.put, List.setIfInBounds_toArray, List.set_cons_succ, List.set_cons_zero]
  refine l_val (o := ⟨some 80, _, _, _, _, _⟩) (.slice A n ca) rfl (exec_move (.tmp 9) (.slice A n ca) rfl (by kernel_rfl)) ?_
  simp only [Act.put, List.setIfInBounds_toArray, List.set_cons_succ, List.set_cons_zero]
  refine wpList_wanted rfl fun K hK' => op_app8 w11 (.tmp 79) (.tmp 80) rfl m 0 0 (some ⟨m, 0, none⟩) [] (by kernel_rfl) r11 z11 A n ca c.enc (by kernel_rfl) HL.out x11 HN.out (by omega) ?_
  intro w12 A12 c12 o12 k12
  refine hK' _ _ ?_
  have k12' : Keep (m ≤ ·) w10 w12 := Keep.trans (k11.mono (T := (m ≤ ·)) (fun _ _ h => h.elim)) k12 (fun _ _ h => h)
  have z12 : m ≤ w12.heap.size := by have := k12.size; omega
  simp only [Act.put, List.setIfInBounds_toArray, List.set_cons_succ, List.set_cons_zero]
  refine l_val (o := ⟨some 82, _, _, _, _, _⟩) (.int .u8 more) rfl (exec_move (.tmp 3) (.int .u8 more) rfl (by kernel_rfl)) ?_
  simp only [Act.put, List.setIfInBounds_toArray, List.set_cons_succ, List.set_cons_zero]
  refine l_new (o := ⟨some 83, _, _, _, _, _⟩) (.slice (some ⟨w12.heap.size, 0, none⟩) 1 1) (w12.alloc (.cells #[.int .u8 more] 5)) rfl (exec_one 23 5 (.tmp 82) (.int .u8 more) (.int .u8 0) rfl Try.underlying23 (by kernel_rfl) rfl (by kernel_rfl)) ?_
  have k13 : Kept w12 (w12.alloc (.cells #[.int .u8 more] 5)) := (Keep.refl _ w12).alloc _
  have r13 : R8 (w12.alloc (.cells #[.int .u8 more] 5)) (some ⟨w12.heap.size, 0, none⟩) [y] := r8_newc w12 _ [y] _ (by rw [HY.out]; rfl)
  have o13 := o12.kept k13
  generalize w12.heap.size = q at r13 z12 ⊢
  have z13 : m ≤ (w12.alloc (.cells #[.int .u8 more] 5)).heap.size := by have := k13.size; have := k12.size; omega
  generalize w12.alloc (.cells #[.int .u8 more] 5) = w13 at k13 r13 o13 z13 ⊢
  simp only [Act.put, List.setIfInBounds_toArray, List.set_cons_succ, List.set_cons_zero]
  refine wpList_wanted rfl fun K hK' => op_app8 w13 (.tmp 81) (.tmp 83) rfl m (0 + n) c12 A12 ([] ++ c.enc) (by kernel_rfl) o13 z13 (some ⟨q, 0, none⟩) 1 1 [y] (by kernel_rfl) rfl r13 (fun h => by cases h) (by omega) ?_
  intro w14 A14 c14 o14 k14
  refine hK' _ _ ?_
  have k14' : Keep (m ≤ ·) w10 w14 := Keep.trans (Keep.trans k12' (k13.mono (T := (m ≤ ·)) (fun _ _ h => h.elim)) (fun _ _ h => h)) k14 (fun _ _ h => h)
  have kw14 : Kept w w14 := Keep.trans kw10 k14' (fun i hi h => by have := kw10.size; omega)
  have XM : Bytes w14 (.slice A14 (0 + n + 1) c14) (c.enc ++ [y]) := OwnV.bytes ⟨A14, _, c14, rfl, by simpa using o14⟩
  simp only [Act.put, List.setIfInBounds_toArray, List.set_cons_succ, List.set_cons_zero]
  refine l_call (o := ⟨some 85, _, _, _, _, _⟩) 18 #[.slice A14 (0 + n + 1) c14] rfl (exec_call 18 _ [.tmp 84] _ _ Try.func18 (by kernel_rfl) (by kernel_rfl) rfl (by kernel_rfl) _) ?_
  refine (get_any _ _ w14 XM (by rw [List.length_append, HL.out]; simp; omega)).mono ?_
  rintro e w15 ⟨rfl, k15⟩
  rw [GM.out]
  refine ⟨_, rfl, ?_⟩
  simp only [Act.put, List.setIfInBounds_toArray, List.set_cons_succ, List.set_cons_zero]
  refine l_val (o := ⟨some 78, _, _, _, _, _⟩) (.tuple #[(Cmd.z 0).v, .bool false]) rfl (exec_move (.tmp 85) (.tuple #[(Cmd.z 0).v, .bool false]) rfl (by kernel_rfl)) ?_
  simp only [Act.put, List.setIfInBounds_toArray, List.set_cons_succ, List.set_cons_zero]
  refine l_val (o := ⟨some 86, _, _, _, _, _⟩) ((Cmd.z 0).v) rfl (exec_extract (.tmp 78) [(Cmd.z 0).v, .bool false] 0 (Cmd.z 0).v rfl (by kernel_rfl) rfl) ?_
  simp only [Act.put, List.setIfInBounds_toArray, List.set_cons_succ, List.set_cons_zero]
  refine l_val (o := ⟨some 87, _, _, _, _, _⟩) (.bool false) rfl (exec_extract (.tmp 78) [(Cmd.z 0).v, .bool false] 1 (.bool false) rfl (by kernel_rfl) rfl) ?_
  simp only [Act.put, List.setIfInBounds_toArray, List.set_cons_succ, List.set_cons_zero]
  refine l_alloc (o := ⟨some 15, _, _, _, _, _⟩) 28 (Cmd.z 0).cells rfl rfl cmd_zero ?_
  intro w16 b16 z16 k16
  obtain ⟨gh, hgh⟩ : ∃ gh, gh = w15.heap.size := ⟨_, rfl⟩
  rw [← hgh] at b16 ⊢
  simp only [Act.put, List.setIfInBounds_toArray, List.set_cons_succ, List.set_cons_zero]
  refine l_setS (o := ⟨none, _, _, _, _, _⟩) 28 gh 28 (Cmd.z 0).cells (Cmd.z 0).cells (.tmp 15) (.tmp 86) rfl rfl (by kernel_rfl) (by kernel_rfl) b16 cmd_size rfl (stc_one _ _) ?_
  intro w17 b17 k17 z17
  simp only [Act.put]
  refine l_val (o := ⟨some 16, _, _, _, _, _⟩) (.bool false) rfl (exec_assign (.tmp 87) (.bool false) rfl (by kernel_rfl)) ?_
  simp only [Act.put, List.setIfInBounds_toArray, List.set_cons_succ, List.set_cons_zero]
  refine wpList_nil ?_
  have kw17 : Kept w w17 := Kept.trans' ((kw14.trans k15).trans k16) k17 (by have := kw14.size; have := k15.size; omega)
  clear k11 r11 z11 x11 o12 k12 k12' z12 k13 r13 o13 z13 k14 k14' o14 XM k15 k16 k17 b16 b17 z16 z17 hgh hm kw14 kw10 HRX
  go_upto_region 9 with fail
  refine wp_text 9 [.eq (.bool false), .eq (.bool true), .eq (.bool true), .eq (.bool false), .eq (.bool true), .eq (.bool true), .eq (.bool true), .eq (.bool true), .eq (.bool true)] rfl (by kernel_rfl) ?_ ?_
  · refine fsteps_cons 1 rfl (fun a u hE hD hk => f_val (o := ⟨some 88, _, _, _, _, _⟩) (.bool false) rfl (wanted_none rfl _) (exec_move (.tmp 14) (.bool false) rfl (hE 14 (.bool false) (by kernel_rfl) (by kernel_rfl))) rfl) ?_
    refine fsteps_cons 2 rfl (fun a u hE hD hk => f_val (o := ⟨some 89, _, _, _, _, _⟩) (.bool true) rfl (wanted_none rfl _) (exec_not _ (.tmp 88) false rfl (hD 0 88 (by kernel_rfl))) rfl) ?_
    refine fsteps_cons 3 rfl (fun a u hE hD hk => f_val (o := ⟨some 90, _, _, _, _, _⟩) (.bool true) rfl (wanted_none rfl _) (exec_move (.tmp 89) (.bool true) rfl (hD 1 89 (by kernel_rfl))) rfl) ?_
    refine fsteps_cons 4 rfl (fun a u hE hD hk => f_val (o := ⟨some 91, _, _, _, _, _⟩) (.bool false) rfl (wanted_at (b := true) true rfl rfl (hD 2 90 (by kernel_rfl))) (exec_move (.tmp 16) (.bool false) rfl (hE 16 (.bool false) (by kernel_rfl) (by kernel_rfl))) rfl) ?_
    refine fsteps_cons 5 rfl (fun a u hE hD hk => f_val (o := ⟨some 92, _, _, _, _, _⟩) (.bool true) rfl (wanted_at (b := true) true rfl rfl (hD 2 90 (by kernel_rfl))) (exec_not _ (.tmp 91) false rfl (hD 3 91 (by kernel_rfl))) rfl) ?_
    refine fsteps_cons 6 rfl (fun a u hE hD hk => f_val (o := ⟨some 93, _, _, _, _, _⟩) (.bool true) rfl (wanted_none rfl _) (exec_pick (.tmp 90) (.tmp 92) (.const (.bool false)) (.bool true) rfl (hD 2 90 (by kernel_rfl)) (hD 4 92 (by kernel_rfl))) rfl) ?_
    refine fsteps_cons 7 rfl (fun a u hE hD hk => f_val (o := ⟨some 94, _, _, _, _, _⟩) (.bool true) rfl (wanted_none rfl _) (exec_move (.tmp 93) (.bool true) rfl (hD 5 93 (by kernel_rfl))) rfl) ?_
    refine fsteps_cons 8 rfl (fun a u hE hD hk => f_call (o := ⟨some 95, _, _, _, _, _⟩) 3 #[] rfl (wanted_at (b := true) true rfl rfl (hD 6 94 (by kernel_rfl))) (exec_call 3 _ [] _ [] Try.func3 (by kernel_rfl) (by kernel_rfl) rfl rfl u) (runs_gives u)) ?_
    refine fsteps_cons 9 rfl (fun a u hE hD hk => f_val (o := ⟨some 96, _, _, _, _, _⟩) (.bool true) rfl (wanted_none rfl _) (exec_pick (.tmp 94) (.tmp 95) (.const (.bool false)) (.bool true) rfl (hD 6 94 (by kernel_rfl)) (hD 7 95 (by kernel_rfl))) rfl) ?_
    exact fsteps_nil
  intro gv w18 hV k18
  rw [show dstsOf _ 9 = [88, 89, 90, 91, 92, 93, 94, 95, 96] by kernel_rfl]
  simp only [List.foldl_cons, List.foldl_nil, List.setIfInBounds_toArray, List.set_cons_succ, List.set_cons_zero, List.drop_succ_cons, List.drop_zero]
  rw [show gv 96 = .bool true from hV 8 96 (by kernel_rfl)]
  clear hV
  have kw18 := kw17.trans k18
  go_wp2
  go_ret
  exact ⟨rfl, kw18⟩
theorem msgBack_any (c d : Cmd) (cut more : Int) (y : UInt8) (hy : more = (y.toNat : Int)) (w : World) (HTc : Hid (c.tag.length = 32)) (HTd : Hid (d.tag.length = 32)) : Calls Try.prog 6 #[c.v, d.v, .int .i64 cut, .int .u8 more] w fun e w' => e = .returned (.bool true) ∧ Kept w w' := by
  cases hA : c.right with
  | false =>
    cases hB : d.right with
    | false => exact back_ff c d cut more y hy w HTc HTd hA hB
    | true => exact back_ft c d cut more y hy w HTc HTd hA hB
  | true =>
    cases hB : d.right with
    | false => exact back_tf c d cut more y hy w HTc HTd hA hB
    | true =>
      cases hE : decide (c = d) with
      | false => exact back_ttn c d cut more y hy w HTc HTd hA hB hE
      | true => exact back_tte c d cut more y hy w HTc HTd hA hB hE
end Go.Proofs.Ytdmeiffofmagjaa
