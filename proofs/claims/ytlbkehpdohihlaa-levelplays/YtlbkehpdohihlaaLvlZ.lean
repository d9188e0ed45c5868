/-
  The contracts of the document's own Add, Remove, Less of a level. Condition: a level as it may be.
-/
import Derived.Test.YtlbkehpdohihlaaLvlF
import Derived.Test.YtlbkehpdohihlaaLvlR
namespace Go.Proofs.Ytlbkehpdohihlaa
open Go.RowKit
set_option linter.unusedVariables false
/-- a level of which the slice is another one, in a new block -/
theorem Lvl.renew {T E : TypeId} {w w1 w2 : World} {F : Nat → Prop} {p base : Nat} {X Y : List Ent} {v' : Value} (h : Lvl T E w F p X) (hk : Kept w w1) (hb : w.heap.size ≤ base) (hs : Sl w1 E 10 v' Y.length (ents Y)) (ho : ∀ b, v'.ownBlock = some b → base ≤ b) (hB : Blk w2 p T [.int .i64 7, v']) (hk2 : Keep (· = p) w1 w2) :
    ∃ F', Lvl T E w2 F' p Y ∧ Grow w F F' ∧ Keep F w w2 := by
  have hp : p < w.heap.size := h.2.1 p h.1
  refine ⟨fun b => F b ∨ v'.ownBlock = some b, ⟨.inl h.1, fun b hb' => ?_, v', hB, hs.keep hk2 (fun b hb' e => by have := ho b hb'; omega), fun b hb' => ⟨.inr hb', fun e => by have := ho b hb'; omega⟩⟩, fun b hb' => ?_, (Keep.mono (T := F) hk (fun _ _ h => h.elim)).trans hk2 (fun b _ e => by subst e; exact h.1)⟩
  · have := hk2.size
    rcases hb' with h1 | h1
    · have := h.2.1 b h1; have := hk.size; omega
    · have := hs.lt h1; omega
  · rcases hb' with h1 | h1
    · exact .inl h1
    · exact .inr (Nat.le_trans hb (ho b h1))
theorem Lvl.renew2 {T E : TypeId} {w w1 w2 : World} {F : Nat → Prop} {p base : Nat} {X Y : List Ent} {v' : Value} (h : Lvl T E w F p X) (hk : Kept w w1) (hb : w.heap.size ≤ base) (hs : Sl w1 E 10 v' Y.length (ents Y)) (ho : ∀ b, v'.ownBlock = some b → base ≤ b) (hB : Blk w2 p T [.int .i64 7, v']) (hk2 : Keep (· = p) w1 w2) :
    ∃ F', Lvl T E w2 F' p Y ∧ Grow w F F' ∧ Keep F w w2 ∧ ∀ b, F' b → F b ∨ base ≤ b := by
  have hp : p < w.heap.size := h.2.1 p h.1
  refine ⟨fun b => F b ∨ v'.ownBlock = some b, ⟨.inl h.1, fun b hb' => ?_, v', hB, hs.keep hk2 (fun b hb' e => by have := ho b hb'; omega), fun b hb' => ⟨.inr hb', fun e => by have := ho b hb'; omega⟩⟩, fun b hb' => ?_, (Keep.mono (T := F) hk (fun _ _ h => h.elim)).trans hk2 (fun b _ e => by subst e; exact h.1), fun b hb' => hb'.imp id (ho b)⟩
  · have := hk2.size
    rcases hb' with h1 | h1
    · have := h.2.1 b h1; have := hk.size; omega
    · have := hs.lt h1; omega
  · rcases hb' with h1 | h1
    · exact .inl h1
    · exact .inr (Nat.le_trans hb (ho b h1))
theorem late_kept {w u u' : World} {base : Nat} (hk : Kept w u) (h : Keep (fun b => base ≤ b) u u') (hb : w.heap.size ≤ base) : Kept w u' := Keep.trans hk h (fun b hb' h' => by omega)
section
variable {ops : Array Oper} {Q : Exit → Act → World → Prop} {a : Act} {w : World} {o : Oper} {rest : List Oper}
/-- an entry stored into a row -/
theorem l_rowS (g off n c i : Nat) (X : List Ent) (e : Ent) (ad : Addr) (x y : Operand) (hw : Region.wanted o (yielded ops a.tmps) = true) (hop : o.op = .store 64 x y) (hx : a.eval x = .pointer (some ad)) (hy : a.eval y = e.v) (had : ad = ⟨g, off + i * 10, none⟩)
    (hs : Sl w 64 10 (.slice (some ⟨g, off, none⟩) n c) n (ents X)) (hn : n = X.length) (hi : i < n)
    (hK : ∀ w', Sl w' 64 10 (.slice (some ⟨g, off, none⟩) n c) n (ents (X.set i e)) → Keep (· = g) w w' → w'.heap.size = w.heap.size → wpList Try.prog ops Q rest (a.put o.dst undef) w') : wpList Try.prog ops Q (o :: rest) a w := by
  subst had
  have hm : (i + 1) * 10 ≤ n * 10 := Nat.mul_le_mul_right 10 (by omega)
  obtain ⟨h1, h2, h3, h4⟩ := hs.setCells (i * 10) e.cells (by rw [Ent.len10]; omega)
  have hr := run_storeVar_mid (P := Try.prog) w g (off + i * 10) 64 e.cells.toArray (by simpa using h4) (by rw [List.size_toArray, Ent.len10]; exact szR) (by simpa using e.one)
  rw [List.toList_toArray] at hr
  refine l_store (w.setCells g (off + i * 10) e.cells) hw ?_ (hK _ ?_ h2 h3)
  · unfold execOp
    simp only [hop, hx, hy, Ent.v, Instr.storeAt, Instr.sureAddr, Sem.run_bind, Sem.run_pure, Result.andThen_ok, hr]
  · rw [Ent.len10] at h1
    have := flat_set Ent.cells 10 Ent.len10 X i e (by omega)
    unfold ents at h1 ⊢
    rw [← this]
    exact h1
end

set_option maxRecDepth 100000 in
theorem radd_any (w : World) (F : Nat → Prop) (p : Nat) (X : List Ent) (c : Ord) (h : Lvl 42 64 w F p X) (hn : X.length ≤ 100000) :
    Calls Try.prog 17 #[.pointer (some ⟨p, 0, none⟩), c.v] w fun e w' => ∃ F', e = .returned (.tuple #[]) ∧ Lvl 42 64 w' F' p (X ++ [Ent.of c]) ∧ Grow w F F' ∧ Keep F w w' := by
  have HL := Lib.hid h
  obtain ⟨h1, h2, v, hB, hS, h5⟩ := h
  have HB := Lib.hid hB
  have HS := Lib.hid hS
  clear hB hS h5 h1 h2
  go_enter Try.func17, Try.ntmps17
  go_upto_region 0 with fail
  refine wp_text 1 [.fresh w.heap.size 25 (c.cells)] rfl (by kernel_rfl) ?_ ?_
  · refine fsteps_cons 1 rfl (fun a u hE hD hk => f_new (o := ⟨some 3, _, _, _, _, _⟩) (.pointer (some ⟨u.heap.size, 0, none⟩)) _ rfl (wanted_none rfl _) (exec_box 25 (.tmp 1) (c.cells) rfl (hE 1 (c.v) (by kernel_rfl) (by kernel_rfl))) ⟨_, rfl, hk.size, Blk.new u _ _⟩ ((Keep.refl _ u).alloc _)) ?_
    exact fsteps_nil
  intro gv w0 hV k0
  rw [show dstsOf _ 1 = [3] by kernel_rfl]
  simp only [List.foldl_cons, List.foldl_nil, List.setIfInBounds_toArray, List.set_cons_succ, List.set_cons_zero, List.drop_succ_cons, List.drop_zero]
  have hv3 : (.fresh w.heap.size 25 (c.cells) : Kn).p (gv 3) w0 := hV 0 3 (by kernel_rfl)
  generalize gv 3 = v3 at hv3 ⊢
  clear hV
  obtain ⟨g, rfl, hg, hG⟩ := hv3
  refine wpList_nil ?_
  have HG := Lib.hid (blk_range hG)
  have HB0 := Lib.hid (HB.out.kept k0)
  have HS0 := Lib.hid (HS.out.kept k0)
  have z0 := k0.size
  clear hG
  go_upto_region 1 with fail
  refine wp_freeT 12 [.eq (.pointer (some ⟨p, 0, none⟩)), .emp w0.heap.size 64, .eq (.pointer (some ⟨p, 0, none⟩)), .eq (.pointer (some ⟨p, 0, none⟩)), .eq (.pointer (some ⟨p, 1, none⟩)), .eq (v), .sl w0.heap.size 64 10 X.length (ents X), .eq (c.v), .eq (c.v), .eq (.int .i64 c.tip), .eq ((Ent.mk c (c.tip)).v), .sl w0.heap.size 64 10 1 (Ent.mk c (c.tip)).cells] (.pointer (some ⟨p, 0, none⟩)) ((fun v' u u' => Sl u' 64 10 v' (X.length + 1) (ents X ++ (Ent.mk c (c.tip)).cells) ∧ (∀ b, v'.ownBlock = some b → w0.heap.size ≤ b) ∧ Keep (fun b => w0.heap.size ≤ b) u u')) (by kernel_rfl) rfl rfl (by kernel_rfl) (by kernel_rfl) (t_zero (d := 4) _ rfl rfl rfl (by kernel_rfl) (by kernel_rfl)) ?_ (fun a u hE hD hk =>  (by obtain ⟨v', u', hr, hs', hk', ho'⟩ := run_append_sl slR _ u (a.eval (.tmp 10)) (a.eval (.tmp 15)) X.length 1 (ents X) (Ent.mk c (c.tip)).cells ((hD 6 10 (by kernel_rfl))).1 ((hD 11 15 (by kernel_rfl))).1 (Ent.one _) (by unfold maxLen; omega) (by omega); have hq := ((hD 6 10 (by kernel_rfl))).2; exact t_last (o := ⟨some 16, _, _, _, _, _⟩) (R := (fun v' u u' => Sl u' 64 10 v' (X.length + 1) (ents X ++ (Ent.mk c (c.tip)).cells) ∧ (∀ b, v'.ownBlock = some b → w0.heap.size ≤ b) ∧ Keep (fun b => w0.heap.size ≤ b) u u')) (m := 12) (v := v') (w' := u') rfl (wanted_none rfl _) (exec_appS slR (.tmp 10) (.tmp 15) _ _ rfl rfl rfl v' u' hr) ⟨hs', fun b hb => (ho' b hb).elim (hq b) (fun h => Nat.le_trans hk.size h), hk'.mono (fun b _ hb => hq b hb)⟩)) ?_
  · refine fsteps_cons 2 rfl (fun a u hE hD hk => f_new (o := ⟨some 5, _, _, _, _, _⟩) (.slice (some ⟨u.heap.size, 0, none⟩) 0 0) _ rfl (wanted_none rfl _) (exec_none 40 64 10 rfl slR.und szR) ⟨_, rfl, hk.size, Blk.new u _ _⟩ ((Keep.refl _ u).alloc _)) ?_
    refine fsteps_cons 3 rfl (fun a u hE hD hk => f_val (o := ⟨some 6, _, _, _, _, _⟩) (.pointer (some ⟨p, 0, none⟩)) rfl (wanted_none rfl _) (exec_move (.tmp 0) (.pointer (some ⟨p, 0, none⟩)) rfl (hE 0 (.pointer (some ⟨p, 0, none⟩)) (by kernel_rfl) (by kernel_rfl))) rfl) ?_
    refine fsteps_cons 4 rfl (fun a u hE hD hk => f_val (o := ⟨some 7, _, _, _, _, _⟩) (.pointer (some ⟨p, 0, none⟩)) rfl (wanted_none rfl _) (exec_nilp (.tmp 6) ⟨p, 0, none⟩ rfl (hD 2 6 (by kernel_rfl))) rfl) ?_
    refine fsteps_cons 5 rfl (fun a u hE hD hk => f_val (o := ⟨some 8, _, _, _, _, _⟩) (.pointer (some ⟨p, 1, none⟩)) rfl (wanted_none rfl _) (exec_fldo 42 1 1 (.tmp 7) (p) (0) (1) rfl (hD 3 7 (by kernel_rfl)) (by kernel_rfl) rfl) rfl) ?_
    refine fsteps_cons 6 rfl (fun a u hE hD hk => f_val (o := ⟨some 9, _, _, _, _, _⟩) (v) rfl (wanted_none rfl _) (exec_ldv 40 _ Try.underlying40 (.tmp 8) ⟨p, 1, none⟩ (v) rfl (hD 4 8 (by kernel_rfl)) (by rw [(HB0.out.kept hk).cell]; rfl)) rfl) ?_
    refine fsteps_cons 7 rfl (fun a u hE hD hk => (by obtain ⟨v', u', hr, hp, hkk⟩ := run_append_emp slR _ u (a.eval (.tmp 5)) v X.length w0.heap.size _ ((hD 1 5 (by kernel_rfl))) (HS0.out.kept hk) (ents_one _) (by omega) (by omega) hk.size; exact f_new (o := ⟨some 10, _, _, _, _, _⟩) v' u' rfl (wanted_none rfl _) (exec_appS slR (.tmp 5) (.tmp 9) _ v rfl rfl (hD 5 9 (by kernel_rfl)) v' u' hr) hp hkk)) ?_
    refine fsteps_cons 8 rfl (fun a u hE hD hk => f_val (o := ⟨some 11, _, _, _, _, _⟩) (c.v) rfl (wanted_none rfl _) (exec_ldS 25 _ (.tmp 3) (g) (0) (c.cells) rfl (hE 3 (.pointer (some ⟨g, 0, none⟩)) (by kernel_rfl) (by kernel_rfl)) (range_kept HG.out hk) Try.underlying25 (by rw [c.len9]; exact ord_size)) rfl) ?_
    refine fsteps_cons 9 rfl (fun a u hE hD hk => f_val (o := ⟨some 12, _, _, _, _, _⟩) (c.v) rfl (wanted_none rfl _) (exec_ldS 25 _ (.tmp 3) (g) (0) (c.cells) rfl (hE 3 (.pointer (some ⟨g, 0, none⟩)) (by kernel_rfl) (by kernel_rfl)) (range_kept HG.out hk) Try.underlying25 (by rw [c.len9]; exact ord_size)) rfl) ?_
    refine fsteps_cons 10 rfl (fun a u hE hD hk => f_call (o := ⟨some 13, _, _, _, _, _⟩) 33 #[c.v] rfl (wanted_none rfl _) (exec_call 33 _ [.tmp 12] _ [c.v] Try.func33 (by kernel_rfl) (by kernel_rfl) rfl (show [a.eval (.tmp 12)] = [c.v] from (by rw [show a.eval (.tmp 12) = c.v from (hD 8 12 (by kernel_rfl))] <;> rfl)) u) (tip_any c u)) ?_
    refine fsteps_cons 11 rfl (fun a u hE hD hk => f_val (o := ⟨some 14, _, _, _, _, _⟩) ((Ent.mk c (c.tip)).v) rfl (wanted_none rfl _) (exec_bent 64 builtR (.tmp 11) (.tmp 13) (c) (c.tip) rfl (hD 7 11 (by kernel_rfl)) (hD 9 13 (by kernel_rfl))) rfl) ?_
    refine fsteps_cons 12 rfl (fun a u hE hD hk => f_new (o := ⟨some 15, _, _, _, _, _⟩) (.slice (some ⟨u.heap.size, 0, none⟩) 1 1) _ rfl (wanted_none rfl _) (exec_oneS slR (.tmp 14) (Ent.mk c (c.tip)).cells (by omega) rfl (hD 10 14 (by kernel_rfl)) ((Ent.mk c (c.tip)).len10)) (sl_one u 64 10 _ w0.heap.size ((Ent.mk c (c.tip)).len10) (by omega) hk.size) ((Keep.refl _ u).alloc _)) ?_
    exact fsteps_nil
  intro gv w1 w2 hV h0 hR hk1
  rw [show dstsOf _ 13 = [4, 5, 6, 7, 8, 9, 10, 11, 12, 13, 14, 15, 16] by kernel_rfl]
  simp only [List.foldl_cons, List.foldl_nil, List.setIfInBounds_toArray, List.set_cons_succ, List.set_cons_zero, List.drop_succ_cons, List.drop_zero]
  have hT := hR 16 (by kernel_rfl)
  generalize gv 16 = v16 at hT ⊢
  rw [show gv 4 = .pointer (some ⟨p, 0, none⟩) from h0 4 (by kernel_rfl)]
  clear hV h0 hR
  obtain ⟨hs2, ho2, hk2⟩ := hT
  have k02 := late_kept hk1 hk2 (Nat.le_refl _)
  have hB2 := HB0.out.kept k02
  refine l_val (o := ⟨some 17, _, _, _, _, _⟩) (.pointer (some ⟨p, 0, none⟩)) rfl (exec_nilp (.tmp 4) ⟨p, 0, none⟩ rfl (by kernel_rfl)) ?_
  simp only [Act.put, List.setIfInBounds_toArray, List.set_cons_succ, List.set_cons_zero]
  refine l_val (o := ⟨some 18, _, _, _, _, _⟩) (.pointer (some ⟨p, 1, none⟩)) rfl (exec_fldo 42 1 1 (.tmp 17) (p) (0) (1) rfl (by kernel_rfl) (by kernel_rfl) rfl) ?_
  simp only [Act.put, List.setIfInBounds_toArray, List.set_cons_succ, List.set_cons_zero]
  refine l_st1 (o := ⟨none, _, _, _, _, _⟩) 40 p 1 42 _ v16 (.tmp 18) (.tmp 16) rfl rfl (by kernel_rfl) (by kernel_rfl) (by kernel_rfl) (sl_cells hs2) (sl_onec hs2) hB2 (by simp) ?_
  intro w3 hB3 hk3 hs3
  simp only [Act.put]
  refine wpList_nil ?_
  go_wp2
  go_end0
  obtain ⟨F', q1, q2, q3⟩ := HL.out.renew (k0.trans k02) z0 (Y := X ++ [Ent.of c]) (v' := v16) (by rw [List.length_append, ents_snoc]; exact hs2) ho2 (by simpa using hB3) hk3
  exact ⟨F', rfl, q1, q2, q3⟩

set_option maxRecDepth 100000 in
set_option maxHeartbeats 1600000 in
theorem rremove_any (w : World) (F : Nat → Prop) (p : Nat) (X : List Ent) (t i : Int) (h : Lvl 42 64 w F p X) (hlen : X.length ≤ 100000) : Calls Try.prog 20 #[.pointer (some ⟨p, 0, none⟩), .int .i64 t, .int .i64 i] w fun r w' => ∃ F', r = .returned (.tuple #[(removeM t i X).1.v, .bool (removeM t i X).2.1]) ∧ Lvl 42 64 w' F' p (removeM t i X).2.2 ∧ Grow w F F' ∧ Keep F w w' := by
  have HL := Lib.hid h
  obtain ⟨h1, h2, v, hB, hS, h5⟩ := h
  obtain ⟨n, hn⟩ : ∃ n, X.length = n := ⟨_, rfl⟩
  rw [hn] at hS hlen
  have HN := Lib.hid hn
  have HB := Lib.hid hB
  have HS := Lib.hid hS
  have H2 := Lib.hid h2
  have H1 := Lib.hid h1
  clear hB hS h5 h1 h2 hn
  go_enter Try.func20, Try.ntmps20
  go_upto_region 0 with fail
  refine wp_text 2 [.fresh w.heap.size 25 zeroO.cells, .eq (.bool false)] rfl (by kernel_rfl) ?_ ?_
  · refine fsteps_cons 1 rfl (fun a u hE hD hk => f_new (o := ⟨some 6, _, _, _, _, _⟩) (.pointer (some ⟨u.heap.size, 0, none⟩)) _ rfl (wanted_none rfl _) (exec_alc 25 zeroO.cells rfl zO) ⟨_, rfl, hk.size, Blk.new u _ _⟩ ((Keep.refl _ u).alloc _)) ?_
    refine fsteps_cons 2 rfl (fun a u hE hD hk => f_val (o := ⟨some 7, _, _, _, _, _⟩) (.bool false) rfl (wanted_none rfl _) (exec_assign (.const (.bool false)) (.bool false) rfl rfl) rfl) ?_
    exact fsteps_nil
  intro gv w00 hV k00
  rw [show dstsOf _ 2 = [6, 7] by kernel_rfl]
  simp only [List.foldl_cons, List.foldl_nil, List.setIfInBounds_toArray, List.set_cons_succ, List.set_cons_zero, List.drop_succ_cons, List.drop_zero]
  have hv6 : (.fresh w.heap.size 25 zeroO.cells : Kn).p (gv 6) w00 := hV 0 6 (by kernel_rfl)
  generalize gv 6 = v6 at hv6 ⊢
  rw [show gv 7 = .bool false from hV 1 7 (by kernel_rfl)]
  clear hV
  obtain ⟨b6, rfl, hb6, hB6⟩ := hv6
  refine wpList_nil ?_
  have HB0 := Lib.hid (HB.out.kept k00)
  have HB6 := Lib.hid hB6
  have l6 := hB6.lt
  have z00 := k00.size
  clear hB6
  go_upto_region 1 with fail
  refine wp_text 6 [.eq (.pointer (some ⟨p, 0, none⟩)), .eq (.pointer (some ⟨p, 0, none⟩)), .eq (.pointer (some ⟨p, 1, none⟩)), .eq (v), .eq (.int .i64 (n : Int)), .eq (.int .i64 0)] rfl (by kernel_rfl) ?_ ?_
  · refine fsteps_cons 1 rfl (fun a u hE hD hk => f_val (o := ⟨some 10, _, _, _, _, _⟩) (.pointer (some ⟨p, 0, none⟩)) rfl (wanted_none rfl _) (exec_move (.tmp 0) (.pointer (some ⟨p, 0, none⟩)) rfl (hE 0 (.pointer (some ⟨p, 0, none⟩)) (by kernel_rfl) (by kernel_rfl))) rfl) ?_
    refine fsteps_cons 2 rfl (fun a u hE hD hk => f_val (o := ⟨some 11, _, _, _, _, _⟩) (.pointer (some ⟨p, 0, none⟩)) rfl (wanted_none rfl _) (exec_nilp (.tmp 10) ⟨p, 0, none⟩ rfl (hD 0 10 (by kernel_rfl))) rfl) ?_
    refine fsteps_cons 3 rfl (fun a u hE hD hk => f_val (o := ⟨some 12, _, _, _, _, _⟩) (.pointer (some ⟨p, 1, none⟩)) rfl (wanted_none rfl _) (exec_fldo 42 1 1 (.tmp 11) (p) (0) (1) rfl (hD 1 11 (by kernel_rfl)) (by kernel_rfl) rfl) rfl) ?_
    refine fsteps_cons 4 rfl (fun a u hE hD hk => f_val (o := ⟨some 13, _, _, _, _, _⟩) (v) rfl (wanted_none rfl _) (exec_ldv 40 _ Try.underlying40 (.tmp 12) ⟨p, 1, none⟩ (v) rfl (hD 2 12 (by kernel_rfl)) (by rw [(HB0.out.kept hk).cell]; rfl)) rfl) ?_
    refine fsteps_cons 5 rfl (fun a u hE hD hk => f_val (o := ⟨some 14, _, _, _, _, _⟩) (.int .i64 (n : Int)) rfl (wanted_none rfl _) (exec_lenS (.tmp 13) slR (v) (n) _ _ rfl (hD 3 13 (by kernel_rfl)) HS.out) rfl) ?_
    refine fsteps_cons 6 rfl (fun a u hE hD hk => f_val (o := ⟨some 15, _, _, _, _, _⟩) (.int .i64 0) rfl (wanted_none rfl _) (exec_move (.const (.int .i64 0)) (.int .i64 0) rfl rfl) rfl) ?_
    exact fsteps_nil
  intro gv w0 hV k0
  rw [show dstsOf _ 6 = [10, 11, 12, 13, 14, 15] by kernel_rfl]
  simp only [List.foldl_cons, List.foldl_nil, List.setIfInBounds_toArray, List.set_cons_succ, List.set_cons_zero, List.drop_succ_cons, List.drop_zero]
  rw [show gv 13 = v from hV 3 13 (by kernel_rfl)]
  rw [show gv 14 = .int .i64 (n : Int) from hV 4 14 (by kernel_rfl)]
  rw [show gv 15 = .int .i64 0 from hV 5 15 (by kernel_rfl)]
  clear hV
  refine wpList_nil ?_
  have kw0 := k00.trans k0
  clear k00
  go_wp2_with fail
  go_loopw [15] (fun q wr => ∃ (k : Nat), k ≤ n ∧ q = .int .i64 (k : Int) ∧ Hid (∀ (j : Nat) (x : Ent), j < k → X[j]? = some x → x.is t i = false) ∧ Kept w wr ∧ Kept w00 wr) (fun q _ => n - (intOf q).toNat)
  case atStart => exact ⟨0, Nat.zero_le _, rfl, fun j x hj => (by omega), kw0, k0⟩
  case round =>
    obtain ⟨k, hkn, rfl, HM, hkr, hk0r⟩ := hrel
    have HB6r := Lib.hid (HB6.out.kept hk0r)
    by_cases hlt : k < n
    · obtain ⟨g, off, c, rfl⟩ := HS.out.some_ (by omega)
      obtain ⟨e, he⟩ : ∃ e, X[k]? = some e := ⟨X[k]'(by rw [HN.out]; exact hlt), List.getElem?_eq_getElem (by rw [HN.out]; exact hlt)⟩
      have HEI := Lib.hid he
      have HE : Hid (wr.rangeAt g (off + k * 10) e.cells) := range_kept (HS.out.rng k e he) hkr
      clear he
      go_upto_region 3 with fail
      refine wp_text 4 [.eq (.int .i64 (k : Int)), .eq (.pointer (some ⟨g, off + k * 10, none⟩)), .eq (e.v), .fresh wr.heap.size 64 zeroE.cells] rfl (by kernel_rfl) ?_ ?_
      · refine fsteps_cons 1 rfl (fun a u hE hD hk => f_val (o := ⟨some 17, _, _, _, _, _⟩) (.int .i64 (k : Int)) rfl (wanted_none rfl _) (exec_move (.tmp 15) (.int .i64 (k : Int)) rfl (hE 15 (.int .i64 (k : Int)) (by kernel_rfl) (by kernel_rfl))) rfl) ?_
        refine fsteps_cons 2 rfl (fun a u hE hD hk => f_val (o := ⟨some 18, _, _, _, _, _⟩) (.pointer (some ⟨g, off + k * 10, none⟩)) rfl (wanted_none rfl _) (exec_ixo slR (.tmp 13) (.tmp 15) (g) (off) n c k (off + k * 10) ((k : Int)) rfl (hE 13 (.slice (some ⟨g, off, none⟩) n c) (by kernel_rfl) (by kernel_rfl)) (hE 15 (.int .i64 (k : Int)) (by kernel_rfl) (by kernel_rfl)) (by first | rfl | omega) (hlt) (by first | rfl | omega)) rfl) ?_
        refine fsteps_cons 3 rfl (fun a u hE hD hk => f_val (o := ⟨some 19, _, _, _, _, _⟩) (e.v) rfl (wanted_none rfl _) (exec_ldS 64 _ (.tmp 18) (g) (off + k * 10) (e.cells) rfl (hD 1 18 (by kernel_rfl)) (range_kept HE.out hk) Try.underlying64 (by rw [e.len10]; exact szR)) rfl) ?_
        refine fsteps_cons 4 rfl (fun a u hE hD hk => f_new (o := ⟨some 9, _, _, _, _, _⟩) (.pointer (some ⟨u.heap.size, 0, none⟩)) _ rfl (wanted_none rfl _) (exec_alc 64 zeroE.cells rfl zR) ⟨_, rfl, hk.size, Blk.new u _ _⟩ ((Keep.refl _ u).alloc _)) ?_
        exact fsteps_nil
      intro gv w1 hV k1
      rw [show dstsOf _ 4 = [17, 18, 19, 9] by kernel_rfl]
      simp only [List.foldl_cons, List.foldl_nil, List.setIfInBounds_toArray, List.set_cons_succ, List.set_cons_zero, List.drop_succ_cons, List.drop_zero]
      rw [show gv 17 = .int .i64 (k : Int) from hV 0 17 (by kernel_rfl)]
      have hv9 : (.fresh wr.heap.size 64 zeroE.cells : Kn).p (gv 9) w1 := hV 3 9 (by kernel_rfl)
      generalize gv 9 = v9 at hv9 ⊢
      rw [show gv 19 = e.v from hV 2 19 (by kernel_rfl)]
      clear hV
      obtain ⟨b9, rfl, hb9, hB9⟩ := hv9
      refine l_val (o := ⟨some 8, _, _, _, _, _⟩) (.int .i64 (k : Int)) rfl (exec_assign (.tmp 17) (.int .i64 (k : Int)) rfl (by kernel_rfl)) ?_
      simp only [Act.put, List.setIfInBounds_toArray, List.set_cons_succ, List.set_cons_zero]
      refine l_setS (o := ⟨none, _, _, _, _, _⟩) 64 b9 64 zeroE.cells e.cells (.tmp 9) (.tmp 19) rfl rfl (by kernel_rfl) (by kernel_rfl) hB9 (by rw [Ent.len10]; exact szR) (by rw [Ent.len10, Ent.len10]) (Ent.one _) ?_
      intro w2 hC2 hk2 hs2
      simp only [Act.put]
      refine wpList_nil ?_
      have kr2 : Kept wr w2 := k1.trans' hk2 (by omega)
      have kw2 := hkr.trans kr2
      have HC2 := Lib.hid hC2
      have HC2r := Lib.hid (blk_range hC2)
      have z2 := kr2.size
      have zr := hkr.size
      have l9 := hC2.lt
      clear hB9 hC2 hk2 k1 HE hs2
      have HB62 := Lib.hid (HB6r.out.kept kr2)
      have k02 := hk0r.trans kr2
      have z02 := k02.size
      clear HB6r kr2 hkr hk0r
      by_cases hm : e.is t i = true
      · have HR : Hid (removeM t i X = (e.o, true, X.eraseIdx k)) := by
          show _ = _
          unfold removeM
          rw [idx_of HM.out HEI.out hm, HEI.out]
        clear HM
        go_upto_region 4 with fail
        refine wp_text 12 [.eq (.pointer (some ⟨b9, 0, none⟩)), .eq (.pointer (some ⟨b9, 0, none⟩)), .eq (.int .i64 e.o.tr), .eq (.int .i64 t), .eq (.bool (decide ((e.o.tr : Int) = (t : Int)))), .eq (.bool (decide ((e.o.tr : Int) = (t : Int)))), .cond (decide ((e.o.tr : Int) = (t : Int))) (.eq (.pointer (some ⟨b9, 0, none⟩))), .cond (decide ((e.o.tr : Int) = (t : Int))) (.eq (.pointer (some ⟨b9, 1, none⟩))), .cond (decide ((e.o.tr : Int) = (t : Int))) (.eq (.int .i64 e.o.id)), .cond (decide ((e.o.tr : Int) = (t : Int))) (.eq (.int .i64 i)), .cond (decide ((e.o.tr : Int) = (t : Int))) (.eq (.bool (decide ((e.o.id : Int) = (i : Int))))), .eq (.bool true)] rfl (by kernel_rfl) ?_ ?_
        · refine fsteps_cons 1 rfl (fun a u hE hD hk => f_val (o := ⟨some 20, _, _, _, _, _⟩) (.pointer (some ⟨b9, 0, none⟩)) rfl (wanted_none rfl _) (exec_fldo 64 0 0 (.tmp 9) (b9) (0) (0) rfl (hE 9 (.pointer (some ⟨b9, 0, none⟩)) (by kernel_rfl) (by kernel_rfl)) (by kernel_rfl) rfl) rfl) ?_
          refine fsteps_cons 2 rfl (fun a u hE hD hk => f_val (o := ⟨some 21, _, _, _, _, _⟩) (.pointer (some ⟨b9, 0, none⟩)) rfl (wanted_none rfl _) (exec_fldo 25 0 0 (.tmp 20) (b9) (0) (0) rfl (hD 0 20 (by kernel_rfl)) (by kernel_rfl) rfl) rfl) ?_
          refine fsteps_cons 3 rfl (fun a u hE hD hk => f_val (o := ⟨some 22, _, _, _, _, _⟩) (.int .i64 e.o.tr) rfl (wanted_none rfl _) (exec_loadi 3 Try.underlying3 (.tmp 21) ⟨b9, 0, none⟩ (.int .i64 e.o.tr) rfl (hD 1 21 (by kernel_rfl)) (range_int (range_kept HC2r.out hk) 0 _ rfl)) rfl) ?_
          refine fsteps_cons 4 rfl (fun a u hE hD hk => f_val (o := ⟨some 23, _, _, _, _, _⟩) (.int .i64 t) rfl (wanted_none rfl _) (exec_move (.tmp 1) (.int .i64 t) rfl (hE 1 (.int .i64 t) (by kernel_rfl) (by kernel_rfl))) rfl) ?_
          refine fsteps_cons 5 rfl (fun a u hE hD hk => f_val (o := ⟨some 24, _, _, _, _, _⟩) (.bool (decide ((e.o.tr : Int) = (t : Int)))) rfl (wanted_none rfl _) (exec_eqn (p := e.o.tr) (q := t) rfl (hD 2 22 (by kernel_rfl)) (hD 3 23 (by kernel_rfl))) rfl) ?_
          refine fsteps_cons 6 rfl (fun a u hE hD hk => f_val (o := ⟨some 25, _, _, _, _, _⟩) (.bool (decide ((e.o.tr : Int) = (t : Int)))) rfl (wanted_none rfl _) (exec_move (.tmp 24) (.bool (decide ((e.o.tr : Int) = (t : Int)))) rfl (hD 4 24 (by kernel_rfl))) rfl) ?_
          refine fsteps_cons 7 rfl (fun a u hE hD hk => f_if ((decide ((e.o.tr : Int) = (t : Int)))) rfl rfl rfl (hD 5 25 (by kernel_rfl)) (fun hb => f_val (o := ⟨some 26, _, _, _, _, _⟩) (.pointer (some ⟨b9, 0, none⟩)) rfl (wanted_b rfl rfl (hD 5 25 (by kernel_rfl)) (eq_true_of hb)) (exec_fldo 64 0 0 (.tmp 9) (b9) (0) (0) rfl (hE 9 (.pointer (some ⟨b9, 0, none⟩)) (by kernel_rfl) (by kernel_rfl)) (by kernel_rfl) rfl) rfl)) ?_
          refine fsteps_cons 8 rfl (fun a u hE hD hk => f_if ((decide ((e.o.tr : Int) = (t : Int)))) rfl rfl rfl (hD 5 25 (by kernel_rfl)) (fun hb => f_val (o := ⟨some 27, _, _, _, _, _⟩) (.pointer (some ⟨b9, 1, none⟩)) rfl (wanted_b rfl rfl (hD 5 25 (by kernel_rfl)) (eq_true_of hb)) (exec_fldo 25 1 1 (.tmp 26) (b9) (0) (1) rfl ((hD 6 26 (by kernel_rfl)).1 hb) (by kernel_rfl) rfl) rfl)) ?_
          refine fsteps_cons 9 rfl (fun a u hE hD hk => f_if ((decide ((e.o.tr : Int) = (t : Int)))) rfl rfl rfl (hD 5 25 (by kernel_rfl)) (fun hb => f_val (o := ⟨some 28, _, _, _, _, _⟩) (.int .i64 e.o.id) rfl (wanted_b rfl rfl (hD 5 25 (by kernel_rfl)) (eq_true_of hb)) (exec_loadi 3 Try.underlying3 (.tmp 27) ⟨b9, 1, none⟩ (.int .i64 e.o.id) rfl ((hD 7 27 (by kernel_rfl)).1 hb) (range_int (range_kept HC2r.out hk) 1 _ rfl)) rfl)) ?_
          refine fsteps_cons 10 rfl (fun a u hE hD hk => f_if ((decide ((e.o.tr : Int) = (t : Int)))) rfl rfl rfl (hD 5 25 (by kernel_rfl)) (fun hb => f_val (o := ⟨some 29, _, _, _, _, _⟩) (.int .i64 i) rfl (wanted_b rfl rfl (hD 5 25 (by kernel_rfl)) (eq_true_of hb)) (exec_move (.tmp 2) (.int .i64 i) rfl (hE 2 (.int .i64 i) (by kernel_rfl) (by kernel_rfl))) rfl)) ?_
          refine fsteps_cons 11 rfl (fun a u hE hD hk => f_if ((decide ((e.o.tr : Int) = (t : Int)))) rfl rfl rfl (hD 5 25 (by kernel_rfl)) (fun hb => f_val (o := ⟨some 30, _, _, _, _, _⟩) (.bool (decide ((e.o.id : Int) = (i : Int)))) rfl (wanted_b rfl rfl (hD 5 25 (by kernel_rfl)) (eq_true_of hb)) (exec_eqn (p := e.o.id) (q := i) rfl ((hD 8 28 (by kernel_rfl)).1 hb) ((hD 9 29 (by kernel_rfl)).1 hb)) rfl)) ?_
          refine fsteps_cons 12 rfl (fun a u hE hD hk => f_as (show (((decide ((e.o.tr : Int) = (t : Int))) && (decide ((e.o.id : Int) = (i : Int)))) : Bool) = true from hm) (f_val (o := ⟨some 31, _, _, _, _, _⟩) (.bool ((decide ((e.o.tr : Int) = (t : Int))) && (decide ((e.o.id : Int) = (i : Int))))) rfl (wanted_none rfl _) (exec_pickand (.tmp 25) (.tmp 30) (.const (.bool false)) ((decide ((e.o.tr : Int) = (t : Int)))) ((decide ((e.o.id : Int) = (i : Int)))) rfl (hD 5 25 (by kernel_rfl)) (fun hb2 => ((hD 10 30 (by kernel_rfl)).1 hb2)) rfl) rfl)) ?_
          exact fsteps_nil
        intro gv w3 hV k3
        rw [show dstsOf _ 12 = [20, 21, 22, 23, 24, 25, 26, 27, 28, 29, 30, 31] by kernel_rfl]
        simp only [List.foldl_cons, List.foldl_nil, List.setIfInBounds_toArray, List.set_cons_succ, List.set_cons_zero, List.drop_succ_cons, List.drop_zero]
        rw [show gv 31 = .bool true from hV 11 31 (by kernel_rfl)]
        clear hV
        refine wpList_nil ?_
        have kw3 := kw2.trans k3
        have HC3 := Lib.hid (HC2.out.kept k3)
        have HC3r := Lib.hid (range_kept HC2r.out k3)
        have z3 := k3.size
        have k23 := k3
        clear HC2 HC2r k3 kw2
        have HS3 := Lib.hid (HS.out.kept kw3)
        have HBp := Lib.hid (HB.out.kept kw3)
        obtain ⟨va, hva, hoa, hsa⟩ := slice_hS slR _ n k (by omega) _ w3 HS3.out
        obtain ⟨vb, hvb, hob, hsb⟩ := slice_lS slR _ n (k + 1) (by omega) _ w3 HS3.out
        have HVA := Lib.hid hva
        have HVB := Lib.hid hvb
        have HSA : Hid (∀ u, Kept w3 u → Sl u 64 10 va k (ents (X.take k))) := fun u hk => by
          have := hsa u _ (HS3.out.kept hk)
          rw [show (ents X).take (k * 10) = ents (X.take k) from flat_take Ent.cells 10 Ent.len10 _ k] at this
          exact this
        have HSB : Hid (∀ u, Kept w3 u → Sl u 64 10 vb (n - (k + 1)) (ents (X.drop (k + 1)))) := fun u hk => by
          have := hsb u _ (HS3.out.kept hk)
          rw [show (ents X).drop ((k + 1) * 10) = ents (X.drop (k + 1)) from flat_drop Ent.cells 10 Ent.len10 _ (k + 1)] at this
          exact this
        have hcast : ((k + 1 : Nat) : Int) = (k : Int) + 1 := by omega
        rw [hcast] at HVB
        clear hva hoa hsa hvb hob hsb hm
        go_upto_region 5 with fail
        refine wp_freeT 16 [.eq (.pointer (some ⟨p, 0, none⟩)), .emp w3.heap.size 64, .eq (.pointer (some ⟨p, 0, none⟩)), .eq (.pointer (some ⟨p, 0, none⟩)), .eq (.pointer (some ⟨p, 1, none⟩)), .eq (.slice (some ⟨g, off, none⟩) n c), .eq (.int .i64 (k : Int)), .eq (va), .sl w3.heap.size 64 10 k (ents (X.take k)), .eq (.pointer (some ⟨p, 0, none⟩)), .eq (.pointer (some ⟨p, 0, none⟩)), .eq (.pointer (some ⟨p, 1, none⟩)), .eq (.slice (some ⟨g, off, none⟩) n c), .eq (.int .i64 (k : Int)), .eq (.int .i64 ((k : Int) + 1)), .eq (vb)] (.pointer (some ⟨p, 0, none⟩)) ((fun v' u u' => Sl u' 64 10 v' (k + (n - (k + 1))) (ents (X.take k) ++ ents (X.drop (k + 1))) ∧ (∀ b, v'.ownBlock = some b → w3.heap.size ≤ b) ∧ Keep (fun b => w3.heap.size ≤ b) u u')) (by kernel_rfl) rfl rfl (by kernel_rfl) (by kernel_rfl) (t_zero (d := 32) _ rfl rfl rfl (by kernel_rfl) (by kernel_rfl)) ?_ (fun a u hE hD hk =>  (by obtain ⟨v', u', hr, hs', hk', ho'⟩ := run_append_sl slR _ u (a.eval (.tmp 40)) vb k (n - (k + 1)) _ _ ((hD 8 40 (by kernel_rfl))).1 (HSB.out u hk) (ents_one _) (by unfold maxLen; omega) (by omega); have hq := ((hD 8 40 (by kernel_rfl))).2; exact t_last (o := ⟨some 48, _, _, _, _, _⟩) (R := (fun v' u u' => Sl u' 64 10 v' (k + (n - (k + 1))) (ents (X.take k) ++ ents (X.drop (k + 1))) ∧ (∀ b, v'.ownBlock = some b → w3.heap.size ≤ b) ∧ Keep (fun b => w3.heap.size ≤ b) u u')) (m := 16) (v := v') (w' := u') rfl (wanted_none rfl _) (exec_appS slR (.tmp 40) (.tmp 47) _ vb rfl rfl (hD 15 47 (by kernel_rfl)) v' u' hr) ⟨hs', fun b hb => (ho' b hb).elim (hq b) (fun h => Nat.le_trans hk.size h), hk'.mono (fun b _ hb => hq b hb)⟩)) ?_
        · refine fsteps_cons 2 rfl (fun a u hE hD hk => f_new (o := ⟨some 33, _, _, _, _, _⟩) (.slice (some ⟨u.heap.size, 0, none⟩) 0 0) _ rfl (wanted_none rfl _) (exec_none 40 64 10 rfl slR.und szR) ⟨_, rfl, hk.size, Blk.new u _ _⟩ ((Keep.refl _ u).alloc _)) ?_
          refine fsteps_cons 3 rfl (fun a u hE hD hk => f_val (o := ⟨some 34, _, _, _, _, _⟩) (.pointer (some ⟨p, 0, none⟩)) rfl (wanted_none rfl _) (exec_move (.tmp 0) (.pointer (some ⟨p, 0, none⟩)) rfl (hE 0 (.pointer (some ⟨p, 0, none⟩)) (by kernel_rfl) (by kernel_rfl))) rfl) ?_
          refine fsteps_cons 4 rfl (fun a u hE hD hk => f_val (o := ⟨some 35, _, _, _, _, _⟩) (.pointer (some ⟨p, 0, none⟩)) rfl (wanted_none rfl _) (exec_nilp (.tmp 34) ⟨p, 0, none⟩ rfl (hD 2 34 (by kernel_rfl))) rfl) ?_
          refine fsteps_cons 5 rfl (fun a u hE hD hk => f_val (o := ⟨some 36, _, _, _, _, _⟩) (.pointer (some ⟨p, 1, none⟩)) rfl (wanted_none rfl _) (exec_fldo 42 1 1 (.tmp 35) (p) (0) (1) rfl (hD 3 35 (by kernel_rfl)) (by kernel_rfl) rfl) rfl) ?_
          refine fsteps_cons 6 rfl (fun a u hE hD hk => f_val (o := ⟨some 37, _, _, _, _, _⟩) (.slice (some ⟨g, off, none⟩) n c) rfl (wanted_none rfl _) (exec_ldv 40 _ Try.underlying40 (.tmp 36) ⟨p, 1, none⟩ (.slice (some ⟨g, off, none⟩) n c) rfl (hD 4 36 (by kernel_rfl)) (by rw [(HBp.out.kept hk).cell]; rfl)) rfl) ?_
          refine fsteps_cons 7 rfl (fun a u hE hD hk => f_val (o := ⟨some 38, _, _, _, _, _⟩) (.int .i64 (k : Int)) rfl (wanted_none rfl _) (exec_move (.tmp 8) (.int .i64 (k : Int)) rfl (hE 8 (.int .i64 (k : Int)) (by kernel_rfl) (by kernel_rfl))) rfl) ?_
          refine fsteps_cons 8 rfl (fun a u hE hD hk => f_val (o := ⟨some 39, _, _, _, _, _⟩) (va) rfl (wanted_none rfl _) (exec_slcH slR (.tmp 37) (.tmp 38) _ va _ rfl (hD 5 37 (by kernel_rfl)) (hD 6 38 (by kernel_rfl)) (HVA.out u)) rfl) ?_
          refine fsteps_cons 9 rfl (fun a u hE hD hk => (by obtain ⟨v', u', hr, hp, hkk⟩ := run_append_emp slR _ u (a.eval (.tmp 33)) va k w3.heap.size _ ((hD 1 33 (by kernel_rfl))) (HSA.out u hk) (ents_one _) (by omega) (by omega) hk.size; exact f_new (o := ⟨some 40, _, _, _, _, _⟩) v' u' rfl (wanted_none rfl _) (exec_appS slR (.tmp 33) (.tmp 39) _ va rfl rfl (hD 7 39 (by kernel_rfl)) v' u' hr) hp hkk)) ?_
          refine fsteps_cons 10 rfl (fun a u hE hD hk => f_val (o := ⟨some 41, _, _, _, _, _⟩) (.pointer (some ⟨p, 0, none⟩)) rfl (wanted_none rfl _) (exec_move (.tmp 0) (.pointer (some ⟨p, 0, none⟩)) rfl (hE 0 (.pointer (some ⟨p, 0, none⟩)) (by kernel_rfl) (by kernel_rfl))) rfl) ?_
          refine fsteps_cons 11 rfl (fun a u hE hD hk => f_val (o := ⟨some 42, _, _, _, _, _⟩) (.pointer (some ⟨p, 0, none⟩)) rfl (wanted_none rfl _) (exec_nilp (.tmp 41) ⟨p, 0, none⟩ rfl (hD 9 41 (by kernel_rfl))) rfl) ?_
          refine fsteps_cons 12 rfl (fun a u hE hD hk => f_val (o := ⟨some 43, _, _, _, _, _⟩) (.pointer (some ⟨p, 1, none⟩)) rfl (wanted_none rfl _) (exec_fldo 42 1 1 (.tmp 42) (p) (0) (1) rfl (hD 10 42 (by kernel_rfl)) (by kernel_rfl) rfl) rfl) ?_
          refine fsteps_cons 13 rfl (fun a u hE hD hk => f_val (o := ⟨some 44, _, _, _, _, _⟩) (.slice (some ⟨g, off, none⟩) n c) rfl (wanted_none rfl _) (exec_ldv 40 _ Try.underlying40 (.tmp 43) ⟨p, 1, none⟩ (.slice (some ⟨g, off, none⟩) n c) rfl (hD 11 43 (by kernel_rfl)) (by rw [(HBp.out.kept hk).cell]; rfl)) rfl) ?_
          refine fsteps_cons 14 rfl (fun a u hE hD hk => f_val (o := ⟨some 45, _, _, _, _, _⟩) (.int .i64 (k : Int)) rfl (wanted_none rfl _) (exec_move (.tmp 8) (.int .i64 (k : Int)) rfl (hE 8 (.int .i64 (k : Int)) (by kernel_rfl) (by kernel_rfl))) rfl) ?_
          refine fsteps_cons 15 rfl (fun a u hE hD hk => f_val (o := ⟨some 46, _, _, _, _, _⟩) (.int .i64 ((k : Int) + 1)) rfl (wanted_none rfl _) (exec_addn ((k : Int) + 1) rfl (hD 13 45 (by kernel_rfl)) rfl rfl (by omega) (by omega)) rfl) ?_
          refine fsteps_cons 16 rfl (fun a u hE hD hk => f_val (o := ⟨some 47, _, _, _, _, _⟩) (vb) rfl (wanted_none rfl _) (exec_slcL slR (.tmp 44) (.tmp 46) _ vb _ rfl (hD 12 44 (by kernel_rfl)) (hD 14 46 (by kernel_rfl)) (HVB.out u)) rfl) ?_
          exact fsteps_nil
        intro gv w1 w4 hV h0 hR hk1
        rw [show dstsOf _ 17 = [32, 33, 34, 35, 36, 37, 38, 39, 40, 41, 42, 43, 44, 45, 46, 47, 48] by kernel_rfl]
        simp only [List.foldl_cons, List.foldl_nil, List.setIfInBounds_toArray, List.set_cons_succ, List.set_cons_zero, List.drop_succ_cons, List.drop_zero]
        have hT := hR 48 (by kernel_rfl)
        generalize gv 48 = v48 at hT ⊢
        rw [show gv 32 = .pointer (some ⟨p, 0, none⟩) from h0 32 (by kernel_rfl)]
        clear hV h0 hR
        obtain ⟨hs4, ho4, hk4⟩ := hT
        have k34 := late_kept hk1 hk4 (Nat.le_refl _)
        have hB4 := HBp.out.kept k34
        refine l_val (o := ⟨some 49, _, _, _, _, _⟩) (.pointer (some ⟨p, 0, none⟩)) rfl (exec_nilp (.tmp 32) ⟨p, 0, none⟩ rfl (by kernel_rfl)) ?_
        simp only [Act.put, List.setIfInBounds_toArray, List.set_cons_succ, List.set_cons_zero]
        refine l_val (o := ⟨some 50, _, _, _, _, _⟩) (.pointer (some ⟨p, 1, none⟩)) rfl (exec_fldo 42 1 1 (.tmp 49) (p) (0) (1) rfl (by kernel_rfl) (by kernel_rfl) rfl) ?_
        simp only [Act.put, List.setIfInBounds_toArray, List.set_cons_succ, List.set_cons_zero]
        refine l_st1 (o := ⟨none, _, _, _, _, _⟩) 40 p 1 42 _ v48 (.tmp 50) (.tmp 48) rfl rfl (by kernel_rfl) (by kernel_rfl) (by kernel_rfl) (sl_cells hs4) (sl_onec hs4) hB4 (by simp) ?_
        intro w5 hB5 hk5 hs5
        simp only [Act.put]
        refine wpList_nil ?_
        have hpl := H2.out p H1.out
        have zw3 := kw3.size
        have HY : Hid (Sl w4 64 10 v48 (X.eraseIdx k).length (ents (X.eraseIdx k))) := by
          show Sl _ _ _ _ _ _
          rw [List.length_eraseIdx, if_pos (by rw [HN.out]; exact hlt), HN.out, List.eraseIdx_eq_take_drop_succ]
          unfold ents at hs4 ⊢
          rw [List.flatMap_append]
          rw [show k + (n - (k + 1)) = n - 1 by omega] at hs4
          exact hs4
        obtain ⟨F', q1, q2, q3, q4⟩ := HL.out.renew2 (kw3.trans k34) zw3 (Y := X.eraseIdx k) HY.out ho4 (by simpa using hB5) hk5
        have hF6 : ¬ F' b6 := fun h => by
          rcases q4 b6 h with h1 | h1
          · have := H2.out b6 h1; omega
          · omega
        have HL5 := Lib.hid q1
        have HG5 := Lib.hid q2
        have HF5L : Hid (∀ b, F' b → b < w5.heap.size) := q1.2.1
        have HC5 := Lib.hid (range_keep (range_kept HC3r.out k34) hk5 (by omega))
        have HB65 := Lib.hid (((HB62.out.kept k23).kept k34).keep hk5 (by omega))
        have z4 := k34.size
        have z5 := hk5.size
        clear hs4 ho4 hB5 hk5 hk4 hk1 k34 HY q1 q2 HVA HVB HSA HSB HS3 HBp HC3 HC3r
        go_upto_region 6 with fail
        refine wp_text 2 [.eq (.pointer (some ⟨b9, 0, none⟩)), .eq (e.o.v)] rfl (by kernel_rfl) ?_ ?_
        · refine fsteps_cons 1 rfl (fun a u hE hD hk => f_val (o := ⟨some 51, _, _, _, _, _⟩) (.pointer (some ⟨b9, 0, none⟩)) rfl (wanted_none rfl _) (exec_fldo 64 0 0 (.tmp 9) (b9) (0) (0) rfl (hE 9 (.pointer (some ⟨b9, 0, none⟩)) (by kernel_rfl) (by kernel_rfl)) (by kernel_rfl) rfl) rfl) ?_
          refine fsteps_cons 2 rfl (fun a u hE hD hk => f_val (o := ⟨some 52, _, _, _, _, _⟩) (e.o.v) rfl (wanted_none rfl _) (exec_ldS 25 _ (.tmp 51) (b9) (0) (e.o.cells) rfl (hD 0 51 (by kernel_rfl)) (ent_ord (range_kept HC5.out hk)) Try.underlying25 (by rw [e.o.len9]; exact ord_size)) rfl) ?_
          exact fsteps_nil
        intro gv w6 hV k6
        rw [show dstsOf _ 2 = [51, 52] by kernel_rfl]
        simp only [List.foldl_cons, List.foldl_nil, List.setIfInBounds_toArray, List.set_cons_succ, List.set_cons_zero, List.drop_succ_cons, List.drop_zero]
        rw [show gv 52 = e.o.v from hV 1 52 (by kernel_rfl)]
        clear hV
        refine l_setS (o := ⟨none, _, _, _, _, _⟩) 25 b6 25 zeroO.cells e.o.cells (.tmp 6) (.tmp 52) rfl rfl (by kernel_rfl) (by kernel_rfl) (HB65.out.kept k6) (by rw [Ord.len9]; exact ord_size) (by rw [Ord.len9, Ord.len9]) (Ord.one1 _) ?_
        intro w7 hB7 hk7 hs7
        simp only [Act.put]
        refine l_val (o := ⟨some 7, _, _, _, _, _⟩) (.bool true) rfl (exec_assign (.const (.bool true)) (.bool true) rfl (by kernel_rfl)) ?_
        simp only [Act.put, List.setIfInBounds_toArray, List.set_cons_succ, List.set_cons_zero]
        refine wpList_nil ?_
        go_wp2
        refine bodyPost_ret (results_cell2 (p := 6) (q := 7) rfl _ _ b6 _ e.o.cells true rfl rfl hB7 Try.underlying25 (by rw [Ord.len9]; exact ord_size)) rfl ?_
        exact ⟨F', by rw [HR.out]; rfl, by rw [HR.out]; exact (HL5.out.kept k6).keep hk7 (fun b hb e => hF6 (by rw [← e]; exact hb)), HG5.out, (q3.kept k6).trans hk7 (fun b hb e => by subst e; omega)⟩
      · have hm' : e.is t i = false := by simpa using hm
        have HM2 : Hid (∀ (j : Nat) (x : Ent), j < k + 1 → X[j]? = some x → x.is t i = false) := by
          intro j x hj hx
          by_cases hjk : j = k
          · subst hjk
            rw [HEI.out] at hx
            injection hx with hx
            rw [← hx]
            exact hm'
          · exact HM.out j x (by omega) hx
        clear hm HM
        go_upto_region 4 with fail
        refine wp_text 12 [.eq (.pointer (some ⟨b9, 0, none⟩)), .eq (.pointer (some ⟨b9, 0, none⟩)), .eq (.int .i64 e.o.tr), .eq (.int .i64 t), .eq (.bool (decide ((e.o.tr : Int) = (t : Int)))), .eq (.bool (decide ((e.o.tr : Int) = (t : Int)))), .cond (decide ((e.o.tr : Int) = (t : Int))) (.eq (.pointer (some ⟨b9, 0, none⟩))), .cond (decide ((e.o.tr : Int) = (t : Int))) (.eq (.pointer (some ⟨b9, 1, none⟩))), .cond (decide ((e.o.tr : Int) = (t : Int))) (.eq (.int .i64 e.o.id)), .cond (decide ((e.o.tr : Int) = (t : Int))) (.eq (.int .i64 i)), .cond (decide ((e.o.tr : Int) = (t : Int))) (.eq (.bool (decide ((e.o.id : Int) = (i : Int))))), .eq (.bool false)] rfl (by kernel_rfl) ?_ ?_
        · refine fsteps_cons 1 rfl (fun a u hE hD hk => f_val (o := ⟨some 20, _, _, _, _, _⟩) (.pointer (some ⟨b9, 0, none⟩)) rfl (wanted_none rfl _) (exec_fldo 64 0 0 (.tmp 9) (b9) (0) (0) rfl (hE 9 (.pointer (some ⟨b9, 0, none⟩)) (by kernel_rfl) (by kernel_rfl)) (by kernel_rfl) rfl) rfl) ?_
          refine fsteps_cons 2 rfl (fun a u hE hD hk => f_val (o := ⟨some 21, _, _, _, _, _⟩) (.pointer (some ⟨b9, 0, none⟩)) rfl (wanted_none rfl _) (exec_fldo 25 0 0 (.tmp 20) (b9) (0) (0) rfl (hD 0 20 (by kernel_rfl)) (by kernel_rfl) rfl) rfl) ?_
          refine fsteps_cons 3 rfl (fun a u hE hD hk => f_val (o := ⟨some 22, _, _, _, _, _⟩) (.int .i64 e.o.tr) rfl (wanted_none rfl _) (exec_loadi 3 Try.underlying3 (.tmp 21) ⟨b9, 0, none⟩ (.int .i64 e.o.tr) rfl (hD 1 21 (by kernel_rfl)) (range_int (range_kept HC2r.out hk) 0 _ rfl)) rfl) ?_
          refine fsteps_cons 4 rfl (fun a u hE hD hk => f_val (o := ⟨some 23, _, _, _, _, _⟩) (.int .i64 t) rfl (wanted_none rfl _) (exec_move (.tmp 1) (.int .i64 t) rfl (hE 1 (.int .i64 t) (by kernel_rfl) (by kernel_rfl))) rfl) ?_
          refine fsteps_cons 5 rfl (fun a u hE hD hk => f_val (o := ⟨some 24, _, _, _, _, _⟩) (.bool (decide ((e.o.tr : Int) = (t : Int)))) rfl (wanted_none rfl _) (exec_eqn (p := e.o.tr) (q := t) rfl (hD 2 22 (by kernel_rfl)) (hD 3 23 (by kernel_rfl))) rfl) ?_
          refine fsteps_cons 6 rfl (fun a u hE hD hk => f_val (o := ⟨some 25, _, _, _, _, _⟩) (.bool (decide ((e.o.tr : Int) = (t : Int)))) rfl (wanted_none rfl _) (exec_move (.tmp 24) (.bool (decide ((e.o.tr : Int) = (t : Int)))) rfl (hD 4 24 (by kernel_rfl))) rfl) ?_
          refine fsteps_cons 7 rfl (fun a u hE hD hk => f_if ((decide ((e.o.tr : Int) = (t : Int)))) rfl rfl rfl (hD 5 25 (by kernel_rfl)) (fun hb => f_val (o := ⟨some 26, _, _, _, _, _⟩) (.pointer (some ⟨b9, 0, none⟩)) rfl (wanted_b rfl rfl (hD 5 25 (by kernel_rfl)) (eq_true_of hb)) (exec_fldo 64 0 0 (.tmp 9) (b9) (0) (0) rfl (hE 9 (.pointer (some ⟨b9, 0, none⟩)) (by kernel_rfl) (by kernel_rfl)) (by kernel_rfl) rfl) rfl)) ?_
          refine fsteps_cons 8 rfl (fun a u hE hD hk => f_if ((decide ((e.o.tr : Int) = (t : Int)))) rfl rfl rfl (hD 5 25 (by kernel_rfl)) (fun hb => f_val (o := ⟨some 27, _, _, _, _, _⟩) (.pointer (some ⟨b9, 1, none⟩)) rfl (wanted_b rfl rfl (hD 5 25 (by kernel_rfl)) (eq_true_of hb)) (exec_fldo 25 1 1 (.tmp 26) (b9) (0) (1) rfl ((hD 6 26 (by kernel_rfl)).1 hb) (by kernel_rfl) rfl) rfl)) ?_
          refine fsteps_cons 9 rfl (fun a u hE hD hk => f_if ((decide ((e.o.tr : Int) = (t : Int)))) rfl rfl rfl (hD 5 25 (by kernel_rfl)) (fun hb => f_val (o := ⟨some 28, _, _, _, _, _⟩) (.int .i64 e.o.id) rfl (wanted_b rfl rfl (hD 5 25 (by kernel_rfl)) (eq_true_of hb)) (exec_loadi 3 Try.underlying3 (.tmp 27) ⟨b9, 1, none⟩ (.int .i64 e.o.id) rfl ((hD 7 27 (by kernel_rfl)).1 hb) (range_int (range_kept HC2r.out hk) 1 _ rfl)) rfl)) ?_
          refine fsteps_cons 10 rfl (fun a u hE hD hk => f_if ((decide ((e.o.tr : Int) = (t : Int)))) rfl rfl rfl (hD 5 25 (by kernel_rfl)) (fun hb => f_val (o := ⟨some 29, _, _, _, _, _⟩) (.int .i64 i) rfl (wanted_b rfl rfl (hD 5 25 (by kernel_rfl)) (eq_true_of hb)) (exec_move (.tmp 2) (.int .i64 i) rfl (hE 2 (.int .i64 i) (by kernel_rfl) (by kernel_rfl))) rfl)) ?_
          refine fsteps_cons 11 rfl (fun a u hE hD hk => f_if ((decide ((e.o.tr : Int) = (t : Int)))) rfl rfl rfl (hD 5 25 (by kernel_rfl)) (fun hb => f_val (o := ⟨some 30, _, _, _, _, _⟩) (.bool (decide ((e.o.id : Int) = (i : Int)))) rfl (wanted_b rfl rfl (hD 5 25 (by kernel_rfl)) (eq_true_of hb)) (exec_eqn (p := e.o.id) (q := i) rfl ((hD 8 28 (by kernel_rfl)).1 hb) ((hD 9 29 (by kernel_rfl)).1 hb)) rfl)) ?_
          refine fsteps_cons 12 rfl (fun a u hE hD hk => f_as (show (((decide ((e.o.tr : Int) = (t : Int))) && (decide ((e.o.id : Int) = (i : Int)))) : Bool) = false from hm') (f_val (o := ⟨some 31, _, _, _, _, _⟩) (.bool ((decide ((e.o.tr : Int) = (t : Int))) && (decide ((e.o.id : Int) = (i : Int))))) rfl (wanted_none rfl _) (exec_pickand (.tmp 25) (.tmp 30) (.const (.bool false)) ((decide ((e.o.tr : Int) = (t : Int)))) ((decide ((e.o.id : Int) = (i : Int)))) rfl (hD 5 25 (by kernel_rfl)) (fun hb2 => ((hD 10 30 (by kernel_rfl)).1 hb2)) rfl) rfl)) ?_
          exact fsteps_nil
        intro gv w3 hV k3
        rw [show dstsOf _ 12 = [20, 21, 22, 23, 24, 25, 26, 27, 28, 29, 30, 31] by kernel_rfl]
        simp only [List.foldl_cons, List.foldl_nil, List.setIfInBounds_toArray, List.set_cons_succ, List.set_cons_zero, List.drop_succ_cons, List.drop_zero]
        rw [show gv 31 = .bool false from hV 11 31 (by kernel_rfl)]
        clear hV
        refine wpList_nil ?_
        have kw3 := kw2.trans k3
        have HC3 := Lib.hid (HC2.out.kept k3)
        have HC3r := Lib.hid (range_kept HC2r.out k3)
        have z3 := k3.size
        have k23 := k3
        clear HC2 HC2r k3 kw2
        have k03 := k02.trans k23
        clear hm' HC3 HC3r
        go_wp2
        exact ⟨⟨k + 1, by omega, by go_num, HM2, kw3, k03⟩, by simp [intOf]; omega⟩
    · have HR : Hid (removeM t i X = (zeroO, false, X)) := by
        show _ = _
        unfold removeM
        rw [idx_none (fun j x hj hx => HM.out j x (by rw [HN.out] at hj; omega) hx), List.getElem?_eq_none (Nat.le_refl _)]
      clear HM
      go_upto_region 8 with fail
      refine wp_text 1 [.eq (zeroO.v)] rfl (by kernel_rfl) ?_ ?_
      · refine fsteps_cons 1 rfl (fun a u hE hD hk => f_val (o := ⟨some 54, _, _, _, _, _⟩) (zeroO.v) rfl (wanted_none rfl _) (exec_build 25 [] zeroO.cells rfl (by kernel_rfl)) rfl) ?_
        exact fsteps_nil
      intro gv w2 hV k2
      rw [show dstsOf _ 1 = [54] by kernel_rfl]
      simp only [List.foldl_cons, List.foldl_nil, List.setIfInBounds_toArray, List.set_cons_succ, List.set_cons_zero, List.drop_succ_cons, List.drop_zero]
      rw [show gv 54 = zeroO.v from hV 0 54 (by kernel_rfl)]
      clear hV
      refine l_setS (o := ⟨none, _, _, _, _, _⟩) 25 b6 25 zeroO.cells zeroO.cells (.tmp 6) (.tmp 54) rfl rfl (by kernel_rfl) (by kernel_rfl) (HB6r.out.kept k2) (by rw [Ord.len9]; exact ord_size) rfl (Ord.one1 _) ?_
      intro w3 hB3 hk3 hs3
      simp only [Act.put]
      refine l_val (o := ⟨some 7, _, _, _, _, _⟩) (.bool false) rfl (exec_assign (.const (.bool false)) (.bool false) rfl (by kernel_rfl)) ?_
      simp only [Act.put, List.setIfInBounds_toArray, List.set_cons_succ, List.set_cons_zero]
      refine wpList_nil ?_
      go_wp2
      refine bodyPost_ret (results_cell2 (p := 6) (q := 7) rfl _ _ b6 _ zeroO.cells false rfl rfl hB3 Try.underlying25 (by rw [Ord.len9]; exact ord_size)) rfl ?_
      have kw3 : Kept w w3 := (hkr.trans k2).trans' hk3 (by omega)
      exact ⟨F, by rw [HR.out]; rfl, by rw [HR.out]; exact HL.out.kept kw3, Grow.refl _ _, Keep.mono (T := F) kw3 (fun _ _ h => h.elim)⟩

set_option maxRecDepth 100000 in
set_option maxHeartbeats 1600000 in
theorem rless_any (w : World) (F : Nat → Prop) (p : Nat) (X : List Ent) (t i q : Int) (h : Lvl 42 64 w F p X) (hlen : X.length ≤ 100000) : Calls Try.prog 22 #[.pointer (some ⟨p, 0, none⟩), .int .i64 t, .int .i64 i, .int .i64 q] w fun r w' => ∃ F', r = .returned (.bool (lessM t i q X).1) ∧ Lvl 42 64 w' F' p (lessM t i q X).2 ∧ Grow w F F' ∧ Keep F w w' := by
  have HL := Lib.hid h
  obtain ⟨h1, h2, v, hB, hS, h5⟩ := h
  obtain ⟨n, hn⟩ : ∃ n, X.length = n := ⟨_, rfl⟩
  rw [hn] at hS hlen
  have HN := Lib.hid hn
  have HB := Lib.hid hB
  have HS := Lib.hid hS
  have H2 := Lib.hid h2
  have H1 := Lib.hid h1
  clear hB hS h5 h1 h2 hn
  go_enter Try.func22, Try.ntmps22
  go_upto_region 1 with fail
  refine wp_text 6 [.eq (.pointer (some ⟨p, 0, none⟩)), .eq (.pointer (some ⟨p, 0, none⟩)), .eq (.pointer (some ⟨p, 1, none⟩)), .eq (v), .eq (.int .i64 (n : Int)), .eq (.int .i64 0)] rfl (by kernel_rfl) ?_ ?_
  · refine fsteps_cons 1 rfl (fun a u hE hD hk => f_val (o := ⟨some 12, _, _, _, _, _⟩) (.pointer (some ⟨p, 0, none⟩)) rfl (wanted_none rfl _) (exec_move (.tmp 0) (.pointer (some ⟨p, 0, none⟩)) rfl (hE 0 (.pointer (some ⟨p, 0, none⟩)) (by kernel_rfl) (by kernel_rfl))) rfl) ?_
    refine fsteps_cons 2 rfl (fun a u hE hD hk => f_val (o := ⟨some 13, _, _, _, _, _⟩) (.pointer (some ⟨p, 0, none⟩)) rfl (wanted_none rfl _) (exec_nilp (.tmp 12) ⟨p, 0, none⟩ rfl (hD 0 12 (by kernel_rfl))) rfl) ?_
    refine fsteps_cons 3 rfl (fun a u hE hD hk => f_val (o := ⟨some 14, _, _, _, _, _⟩) (.pointer (some ⟨p, 1, none⟩)) rfl (wanted_none rfl _) (exec_fldo 42 1 1 (.tmp 13) (p) (0) (1) rfl (hD 1 13 (by kernel_rfl)) (by kernel_rfl) rfl) rfl) ?_
    refine fsteps_cons 4 rfl (fun a u hE hD hk => f_val (o := ⟨some 15, _, _, _, _, _⟩) (v) rfl (wanted_none rfl _) (exec_ldv 40 _ Try.underlying40 (.tmp 14) ⟨p, 1, none⟩ (v) rfl (hD 2 14 (by kernel_rfl)) (by rw [(HB.out.kept hk).cell]; rfl)) rfl) ?_
    refine fsteps_cons 5 rfl (fun a u hE hD hk => f_val (o := ⟨some 16, _, _, _, _, _⟩) (.int .i64 (n : Int)) rfl (wanted_none rfl _) (exec_lenS (.tmp 15) slR (v) (n) _ _ rfl (hD 3 15 (by kernel_rfl)) HS.out) rfl) ?_
    refine fsteps_cons 6 rfl (fun a u hE hD hk => f_val (o := ⟨some 17, _, _, _, _, _⟩) (.int .i64 0) rfl (wanted_none rfl _) (exec_move (.const (.int .i64 0)) (.int .i64 0) rfl rfl) rfl) ?_
    exact fsteps_nil
  intro gv w0 hV k0
  rw [show dstsOf _ 6 = [12, 13, 14, 15, 16, 17] by kernel_rfl]
  simp only [List.foldl_cons, List.foldl_nil, List.setIfInBounds_toArray, List.set_cons_succ, List.set_cons_zero, List.drop_succ_cons, List.drop_zero]
  rw [show gv 15 = v from hV 3 15 (by kernel_rfl)]
  rw [show gv 16 = .int .i64 (n : Int) from hV 4 16 (by kernel_rfl)]
  rw [show gv 17 = .int .i64 0 from hV 5 17 (by kernel_rfl)]
  clear hV
  refine wpList_nil ?_
  go_wp2_with fail
  go_loopw [17] (fun z wr => ∃ (k : Nat), k ≤ n ∧ z = .int .i64 (k : Int) ∧ Hid (∀ (j : Nat) (x : Ent), j < k → X[j]? = some x → x.is t i = false) ∧ Kept w wr) (fun z _ => n - (intOf z).toNat)
  case atStart => exact ⟨0, Nat.zero_le _, rfl, fun j x hj => (by omega), k0⟩
  case round =>
    obtain ⟨k, hkn, rfl, HM, hkr⟩ := hrel
    by_cases hlt : k < n
    · obtain ⟨g, off, c, rfl⟩ := HS.out.some_ (by omega)
      obtain ⟨e, he⟩ : ∃ e, X[k]? = some e := ⟨X[k]'(by rw [HN.out]; exact hlt), List.getElem?_eq_getElem (by rw [HN.out]; exact hlt)⟩
      have HEI := Lib.hid he
      have HE : Hid (wr.rangeAt g (off + k * 10) e.cells) := range_kept (HS.out.rng k e he) hkr
      clear he
      go_upto_region 3 with fail
      refine wp_text 4 [.eq (.int .i64 (k : Int)), .eq (.pointer (some ⟨g, off + k * 10, none⟩)), .eq (e.v), .fresh wr.heap.size 64 zeroE.cells] rfl (by kernel_rfl) ?_ ?_
      · refine fsteps_cons 1 rfl (fun a u hE hD hk => f_val (o := ⟨some 19, _, _, _, _, _⟩) (.int .i64 (k : Int)) rfl (wanted_none rfl _) (exec_move (.tmp 17) (.int .i64 (k : Int)) rfl (hE 17 (.int .i64 (k : Int)) (by kernel_rfl) (by kernel_rfl))) rfl) ?_
        refine fsteps_cons 2 rfl (fun a u hE hD hk => f_val (o := ⟨some 20, _, _, _, _, _⟩) (.pointer (some ⟨g, off + k * 10, none⟩)) rfl (wanted_none rfl _) (exec_ixo slR (.tmp 15) (.tmp 17) (g) (off) n c k (off + k * 10) ((k : Int)) rfl (hE 15 (.slice (some ⟨g, off, none⟩) n c) (by kernel_rfl) (by kernel_rfl)) (hE 17 (.int .i64 (k : Int)) (by kernel_rfl) (by kernel_rfl)) (by first | rfl | omega) (hlt) (by first | rfl | omega)) rfl) ?_
        refine fsteps_cons 3 rfl (fun a u hE hD hk => f_val (o := ⟨some 21, _, _, _, _, _⟩) (e.v) rfl (wanted_none rfl _) (exec_ldS 64 _ (.tmp 20) (g) (off + k * 10) (e.cells) rfl (hD 1 20 (by kernel_rfl)) (range_kept HE.out hk) Try.underlying64 (by rw [e.len10]; exact szR)) rfl) ?_
        refine fsteps_cons 4 rfl (fun a u hE hD hk => f_new (o := ⟨some 10, _, _, _, _, _⟩) (.pointer (some ⟨u.heap.size, 0, none⟩)) _ rfl (wanted_none rfl _) (exec_alc 64 zeroE.cells rfl zR) ⟨_, rfl, hk.size, Blk.new u _ _⟩ ((Keep.refl _ u).alloc _)) ?_
        exact fsteps_nil
      intro gv w1 hV k1
      rw [show dstsOf _ 4 = [19, 20, 21, 10] by kernel_rfl]
      simp only [List.foldl_cons, List.foldl_nil, List.setIfInBounds_toArray, List.set_cons_succ, List.set_cons_zero, List.drop_succ_cons, List.drop_zero]
      rw [show gv 19 = .int .i64 (k : Int) from hV 0 19 (by kernel_rfl)]
      have hv10 : (.fresh wr.heap.size 64 zeroE.cells : Kn).p (gv 10) w1 := hV 3 10 (by kernel_rfl)
      generalize gv 10 = v10 at hv10 ⊢
      rw [show gv 21 = e.v from hV 2 21 (by kernel_rfl)]
      clear hV
      obtain ⟨b9, rfl, hb9, hB9⟩ := hv10
      refine l_val (o := ⟨some 9, _, _, _, _, _⟩) (.int .i64 (k : Int)) rfl (exec_assign (.tmp 19) (.int .i64 (k : Int)) rfl (by kernel_rfl)) ?_
      simp only [Act.put, List.setIfInBounds_toArray, List.set_cons_succ, List.set_cons_zero]
      refine l_setS (o := ⟨none, _, _, _, _, _⟩) 64 b9 64 zeroE.cells e.cells (.tmp 10) (.tmp 21) rfl rfl (by kernel_rfl) (by kernel_rfl) hB9 (by rw [Ent.len10]; exact szR) (by rw [Ent.len10, Ent.len10]) (Ent.one _) ?_
      intro w2 hC2 hk2 hs2
      simp only [Act.put]
      refine wpList_nil ?_
      have kr2 : Kept wr w2 := k1.trans' hk2 (by omega)
      have kw2 := hkr.trans kr2
      have HC2 := Lib.hid hC2
      have HC2r := Lib.hid (blk_range hC2)
      have z2 := kr2.size
      have zr := hkr.size
      have l9 := hC2.lt
      clear hB9 hC2 hk2 k1 HE hs2
      clear kr2 hkr
      by_cases hm : e.is t i = true
      · have HIX : Hid (X[idxM t i X]? = some e ∧ idxM t i X = k) := by
          have h1 := idx_of HM.out HEI.out hm
          exact ⟨by rw [h1]; exact HEI.out, h1⟩
        clear HM
        go_upto_region 4 with fail
        refine wp_text 12 [.eq (.pointer (some ⟨b9, 0, none⟩)), .eq (.pointer (some ⟨b9, 0, none⟩)), .eq (.int .i64 e.o.tr), .eq (.int .i64 t), .eq (.bool (decide ((e.o.tr : Int) = (t : Int)))), .eq (.bool (decide ((e.o.tr : Int) = (t : Int)))), .cond (decide ((e.o.tr : Int) = (t : Int))) (.eq (.pointer (some ⟨b9, 0, none⟩))), .cond (decide ((e.o.tr : Int) = (t : Int))) (.eq (.pointer (some ⟨b9, 1, none⟩))), .cond (decide ((e.o.tr : Int) = (t : Int))) (.eq (.int .i64 e.o.id)), .cond (decide ((e.o.tr : Int) = (t : Int))) (.eq (.int .i64 i)), .cond (decide ((e.o.tr : Int) = (t : Int))) (.eq (.bool (decide ((e.o.id : Int) = (i : Int))))), .eq (.bool true)] rfl (by kernel_rfl) ?_ ?_
        · refine fsteps_cons 1 rfl (fun a u hE hD hk => f_val (o := ⟨some 22, _, _, _, _, _⟩) (.pointer (some ⟨b9, 0, none⟩)) rfl (wanted_none rfl _) (exec_fldo 64 0 0 (.tmp 10) (b9) (0) (0) rfl (hE 10 (.pointer (some ⟨b9, 0, none⟩)) (by kernel_rfl) (by kernel_rfl)) (by kernel_rfl) rfl) rfl) ?_
          refine fsteps_cons 2 rfl (fun a u hE hD hk => f_val (o := ⟨some 23, _, _, _, _, _⟩) (.pointer (some ⟨b9, 0, none⟩)) rfl (wanted_none rfl _) (exec_fldo 25 0 0 (.tmp 22) (b9) (0) (0) rfl (hD 0 22 (by kernel_rfl)) (by kernel_rfl) rfl) rfl) ?_
          refine fsteps_cons 3 rfl (fun a u hE hD hk => f_val (o := ⟨some 24, _, _, _, _, _⟩) (.int .i64 e.o.tr) rfl (wanted_none rfl _) (exec_loadi 3 Try.underlying3 (.tmp 23) ⟨b9, 0, none⟩ (.int .i64 e.o.tr) rfl (hD 1 23 (by kernel_rfl)) (range_int (range_kept HC2r.out hk) 0 _ rfl)) rfl) ?_
          refine fsteps_cons 4 rfl (fun a u hE hD hk => f_val (o := ⟨some 25, _, _, _, _, _⟩) (.int .i64 t) rfl (wanted_none rfl _) (exec_move (.tmp 1) (.int .i64 t) rfl (hE 1 (.int .i64 t) (by kernel_rfl) (by kernel_rfl))) rfl) ?_
          refine fsteps_cons 5 rfl (fun a u hE hD hk => f_val (o := ⟨some 26, _, _, _, _, _⟩) (.bool (decide ((e.o.tr : Int) = (t : Int)))) rfl (wanted_none rfl _) (exec_eqn (p := e.o.tr) (q := t) rfl (hD 2 24 (by kernel_rfl)) (hD 3 25 (by kernel_rfl))) rfl) ?_
          refine fsteps_cons 6 rfl (fun a u hE hD hk => f_val (o := ⟨some 27, _, _, _, _, _⟩) (.bool (decide ((e.o.tr : Int) = (t : Int)))) rfl (wanted_none rfl _) (exec_move (.tmp 26) (.bool (decide ((e.o.tr : Int) = (t : Int)))) rfl (hD 4 26 (by kernel_rfl))) rfl) ?_
          refine fsteps_cons 7 rfl (fun a u hE hD hk => f_if ((decide ((e.o.tr : Int) = (t : Int)))) rfl rfl rfl (hD 5 27 (by kernel_rfl)) (fun hb => f_val (o := ⟨some 28, _, _, _, _, _⟩) (.pointer (some ⟨b9, 0, none⟩)) rfl (wanted_b rfl rfl (hD 5 27 (by kernel_rfl)) (eq_true_of hb)) (exec_fldo 64 0 0 (.tmp 10) (b9) (0) (0) rfl (hE 10 (.pointer (some ⟨b9, 0, none⟩)) (by kernel_rfl) (by kernel_rfl)) (by kernel_rfl) rfl) rfl)) ?_
          refine fsteps_cons 8 rfl (fun a u hE hD hk => f_if ((decide ((e.o.tr : Int) = (t : Int)))) rfl rfl rfl (hD 5 27 (by kernel_rfl)) (fun hb => f_val (o := ⟨some 29, _, _, _, _, _⟩) (.pointer (some ⟨b9, 1, none⟩)) rfl (wanted_b rfl rfl (hD 5 27 (by kernel_rfl)) (eq_true_of hb)) (exec_fldo 25 1 1 (.tmp 28) (b9) (0) (1) rfl ((hD 6 28 (by kernel_rfl)).1 hb) (by kernel_rfl) rfl) rfl)) ?_
          refine fsteps_cons 9 rfl (fun a u hE hD hk => f_if ((decide ((e.o.tr : Int) = (t : Int)))) rfl rfl rfl (hD 5 27 (by kernel_rfl)) (fun hb => f_val (o := ⟨some 30, _, _, _, _, _⟩) (.int .i64 e.o.id) rfl (wanted_b rfl rfl (hD 5 27 (by kernel_rfl)) (eq_true_of hb)) (exec_loadi 3 Try.underlying3 (.tmp 29) ⟨b9, 1, none⟩ (.int .i64 e.o.id) rfl ((hD 7 29 (by kernel_rfl)).1 hb) (range_int (range_kept HC2r.out hk) 1 _ rfl)) rfl)) ?_
          refine fsteps_cons 10 rfl (fun a u hE hD hk => f_if ((decide ((e.o.tr : Int) = (t : Int)))) rfl rfl rfl (hD 5 27 (by kernel_rfl)) (fun hb => f_val (o := ⟨some 31, _, _, _, _, _⟩) (.int .i64 i) rfl (wanted_b rfl rfl (hD 5 27 (by kernel_rfl)) (eq_true_of hb)) (exec_move (.tmp 2) (.int .i64 i) rfl (hE 2 (.int .i64 i) (by kernel_rfl) (by kernel_rfl))) rfl)) ?_
          refine fsteps_cons 11 rfl (fun a u hE hD hk => f_if ((decide ((e.o.tr : Int) = (t : Int)))) rfl rfl rfl (hD 5 27 (by kernel_rfl)) (fun hb => f_val (o := ⟨some 32, _, _, _, _, _⟩) (.bool (decide ((e.o.id : Int) = (i : Int)))) rfl (wanted_b rfl rfl (hD 5 27 (by kernel_rfl)) (eq_true_of hb)) (exec_eqn (p := e.o.id) (q := i) rfl ((hD 8 30 (by kernel_rfl)).1 hb) ((hD 9 31 (by kernel_rfl)).1 hb)) rfl)) ?_
          refine fsteps_cons 12 rfl (fun a u hE hD hk => f_as (show (((decide ((e.o.tr : Int) = (t : Int))) && (decide ((e.o.id : Int) = (i : Int)))) : Bool) = true from hm) (f_val (o := ⟨some 33, _, _, _, _, _⟩) (.bool ((decide ((e.o.tr : Int) = (t : Int))) && (decide ((e.o.id : Int) = (i : Int))))) rfl (wanted_none rfl _) (exec_pickand (.tmp 27) (.tmp 32) (.const (.bool false)) ((decide ((e.o.tr : Int) = (t : Int)))) ((decide ((e.o.id : Int) = (i : Int)))) rfl (hD 5 27 (by kernel_rfl)) (fun hb2 => ((hD 10 32 (by kernel_rfl)).1 hb2)) rfl) rfl)) ?_
          exact fsteps_nil
        intro gv w3 hV k3
        rw [show dstsOf _ 12 = [22, 23, 24, 25, 26, 27, 28, 29, 30, 31, 32, 33] by kernel_rfl]
        simp only [List.foldl_cons, List.foldl_nil, List.setIfInBounds_toArray, List.set_cons_succ, List.set_cons_zero, List.drop_succ_cons, List.drop_zero]
        rw [show gv 33 = .bool true from hV 11 33 (by kernel_rfl)]
        clear hV
        refine wpList_nil ?_
        have kw3 := kw2.trans k3
        have HC3 := Lib.hid (HC2.out.kept k3)
        have HC3r := Lib.hid (range_kept HC2r.out k3)
        have z3 := k3.size
        have k23 := k3
        clear HC2 HC2r k3 kw2
        clear hm
        by_cases hq1 : 1 ≤ q
        · by_cases hq2 : q ≤ e.o.qty
          · have HR : Hid (lessM t i q X = (true, X.set k ⟨e.o.q q, mn e.n q⟩)) := by
              show _ = _
              unfold lessM
              rw [HIX.out.1]
              simp only
              rw [if_pos ⟨hq1, hq2⟩, HIX.out.2]
            go_upto_region 5 with fail
            refine wp_text 9 [.eq (.int .i64 q), .eq (.bool false), .eq (.bool false), .eq (.int .i64 q), .eq (.pointer (some ⟨b9, 0, none⟩)), .eq (.pointer (some ⟨b9, 6, none⟩)), .eq (.int .i64 e.o.qty), .eq (.bool false), .eq (.bool false)] rfl (by kernel_rfl) ?_ ?_
            · refine fsteps_cons 1 rfl (fun a u hE hD hk => f_val (o := ⟨some 34, _, _, _, _, _⟩) (.int .i64 q) rfl (wanted_none rfl _) (exec_move (.tmp 3) (.int .i64 q) rfl (hE 3 (.int .i64 q) (by kernel_rfl) (by kernel_rfl))) rfl) ?_
              refine fsteps_cons 2 rfl (fun a u hE hD hk => f_as (show ((decide ((q : Int) < (1 : Int))) : Bool) = false from decide_eq_false (by omega)) (f_val (o := ⟨some 35, _, _, _, _, _⟩) (.bool (decide ((q : Int) < (1 : Int)))) rfl (wanted_none rfl _) (exec_ltn (p := q) (q := 1) rfl (hD 0 34 (by kernel_rfl)) rfl) rfl)) ?_
              refine fsteps_cons 3 rfl (fun a u hE hD hk => f_val (o := ⟨some 36, _, _, _, _, _⟩) (.bool false) rfl (wanted_none rfl _) (exec_move (.tmp 35) (.bool false) rfl (hD 1 35 (by kernel_rfl))) rfl) ?_
              refine fsteps_cons 4 rfl (fun a u hE hD hk => f_val (o := ⟨some 37, _, _, _, _, _⟩) (.int .i64 q) rfl (wanted_at (b := false) false rfl rfl (hD 2 36 (by kernel_rfl))) (exec_move (.tmp 3) (.int .i64 q) rfl (hE 3 (.int .i64 q) (by kernel_rfl) (by kernel_rfl))) rfl) ?_
              refine fsteps_cons 5 rfl (fun a u hE hD hk => f_val (o := ⟨some 38, _, _, _, _, _⟩) (.pointer (some ⟨b9, 0, none⟩)) rfl (wanted_at (b := false) false rfl rfl (hD 2 36 (by kernel_rfl))) (exec_fldo 64 0 0 (.tmp 10) (b9) (0) (0) rfl (hE 10 (.pointer (some ⟨b9, 0, none⟩)) (by kernel_rfl) (by kernel_rfl)) (by kernel_rfl) rfl) rfl) ?_
              refine fsteps_cons 6 rfl (fun a u hE hD hk => f_val (o := ⟨some 39, _, _, _, _, _⟩) (.pointer (some ⟨b9, 6, none⟩)) rfl (wanted_at (b := false) false rfl rfl (hD 2 36 (by kernel_rfl))) (exec_fldo 25 6 6 (.tmp 38) (b9) (0) (6) rfl (hD 4 38 (by kernel_rfl)) (by kernel_rfl) rfl) rfl) ?_
              refine fsteps_cons 7 rfl (fun a u hE hD hk => f_val (o := ⟨some 40, _, _, _, _, _⟩) (.int .i64 e.o.qty) rfl (wanted_at (b := false) false rfl rfl (hD 2 36 (by kernel_rfl))) (exec_loadi 3 Try.underlying3 (.tmp 39) ⟨b9, 6, none⟩ (.int .i64 e.o.qty) rfl (hD 5 39 (by kernel_rfl)) (range_int (range_kept HC3r.out hk) 6 _ rfl)) rfl) ?_
              refine fsteps_cons 8 rfl (fun a u hE hD hk => f_as (show ((decide ((e.o.qty : Int) < (q : Int))) : Bool) = false from decide_eq_false (by omega)) (f_val (o := ⟨some 41, _, _, _, _, _⟩) (.bool (decide ((e.o.qty : Int) < (q : Int)))) rfl (wanted_at (b := false) false rfl rfl (hD 2 36 (by kernel_rfl))) (exec_gtn (p := q) (q := e.o.qty) rfl (hD 3 37 (by kernel_rfl)) (hD 6 40 (by kernel_rfl))) rfl)) ?_
              refine fsteps_cons 9 rfl (fun a u hE hD hk => f_val (o := ⟨some 42, _, _, _, _, _⟩) (.bool false) rfl (wanted_none rfl _) (exec_pickF (.tmp 36) (.const (.bool true)) (.tmp 41) (.bool false) rfl (hD 2 36 (by kernel_rfl)) (hD 7 41 (by kernel_rfl))) rfl) ?_
              exact fsteps_nil
            intro gv w4 hV k4
            rw [show dstsOf _ 9 = [34, 35, 36, 37, 38, 39, 40, 41, 42] by kernel_rfl]
            simp only [List.foldl_cons, List.foldl_nil, List.setIfInBounds_toArray, List.set_cons_succ, List.set_cons_zero, List.drop_succ_cons, List.drop_zero]
            rw [show gv 42 = .bool false from hV 8 42 (by kernel_rfl)]
            clear hV
            refine wpList_nil ?_
            have HC4 := Lib.hid (HC3.out.kept k4)
            have HC4r := Lib.hid (range_kept HC3r.out k4)
            have kw4 := kw3.trans k4
            have z4 := k4.size
            clear HC3 HC3r k4 kw3 hq1 hq2 HIX k23
            go_upto_region 7 with fail
            refine wp_text 5 [.eq (.int .i64 q), .eq (.pointer (some ⟨b9, 9, none⟩)), .eq (.int .i64 e.n), .eq (.int .i64 q), .eq (.int .i64 (mn e.n q))] rfl (by kernel_rfl) ?_ ?_
            · refine fsteps_cons 1 rfl (fun a u hE hD hk => f_val (o := ⟨some 43, _, _, _, _, _⟩) (.int .i64 q) rfl (wanted_none rfl _) (exec_move (.tmp 3) (.int .i64 q) rfl (hE 3 (.int .i64 q) (by kernel_rfl) (by kernel_rfl))) rfl) ?_
              refine fsteps_cons 2 rfl (fun a u hE hD hk => f_val (o := ⟨some 44, _, _, _, _, _⟩) (.pointer (some ⟨b9, 9, none⟩)) rfl (wanted_none rfl _) (exec_fldo 64 1 9 (.tmp 10) (b9) (0) (9) rfl (hE 10 (.pointer (some ⟨b9, 0, none⟩)) (by kernel_rfl) (by kernel_rfl)) (by kernel_rfl) rfl) rfl) ?_
              refine fsteps_cons 3 rfl (fun a u hE hD hk => f_val (o := ⟨some 45, _, _, _, _, _⟩) (.int .i64 e.n) rfl (wanted_none rfl _) (exec_loadi 3 Try.underlying3 (.tmp 44) ⟨b9, 9, none⟩ (.int .i64 e.n) rfl (hD 1 44 (by kernel_rfl)) (range_int (range_kept HC4r.out hk) 9 _ rfl)) rfl) ?_
              refine fsteps_cons 4 rfl (fun a u hE hD hk => f_val (o := ⟨some 46, _, _, _, _, _⟩) (.int .i64 q) rfl (wanted_none rfl _) (exec_move (.tmp 3) (.int .i64 q) rfl (hE 3 (.int .i64 q) (by kernel_rfl) (by kernel_rfl))) rfl) ?_
              refine fsteps_cons 5 rfl (fun a u hE hD hk => f_val (o := ⟨some 47, _, _, _, _, _⟩) (.int .i64 (mn e.n q)) rfl (wanted_none rfl _) (exec_min (.tmp 45) (.tmp 46) _ e.n q (mn e.n q) rfl (hD 2 45 (by kernel_rfl)) (hD 3 46 (by kernel_rfl)) rfl) rfl) ?_
              exact fsteps_nil
            intro gv w5 hV k5
            rw [show dstsOf _ 5 = [43, 44, 45, 46, 47] by kernel_rfl]
            simp only [List.foldl_cons, List.foldl_nil, List.setIfInBounds_toArray, List.set_cons_succ, List.set_cons_zero, List.drop_succ_cons, List.drop_zero]
            rw [show gv 43 = .int .i64 q from hV 0 43 (by kernel_rfl)]
            rw [show gv 47 = .int .i64 (mn e.n q) from hV 4 47 (by kernel_rfl)]
            clear hV
            refine l_val (o := ⟨some 48, _, _, _, _, _⟩) (.pointer (some ⟨b9, 0, none⟩)) rfl (exec_fldo 64 0 0 (.tmp 10) (b9) (0) (0) rfl (by kernel_rfl) (by kernel_rfl) rfl) ?_
            simp only [Act.put, List.setIfInBounds_toArray, List.set_cons_succ, List.set_cons_zero]
            refine l_val (o := ⟨some 49, _, _, _, _, _⟩) (.pointer (some ⟨b9, 6, none⟩)) rfl (exec_fldo 25 6 6 (.tmp 48) (b9) (0) (6) rfl (by kernel_rfl) (by kernel_rfl) rfl) ?_
            simp only [Act.put, List.setIfInBounds_toArray, List.set_cons_succ, List.set_cons_zero]
            refine l_st1 (o := ⟨none, _, _, _, _, _⟩) 3 b9 6 64 _ (.int .i64 q) (.tmp 49) (.tmp 43) rfl rfl (by kernel_rfl) (by kernel_rfl) (by kernel_rfl) rfl rfl (HC4.out.kept k5) (by rw [Ent.len10]; omega) ?_
            intro w6 hC6 hk6 hs6
            simp only [Act.put]
            refine l_val (o := ⟨some 50, _, _, _, _, _⟩) (.pointer (some ⟨b9, 9, none⟩)) rfl (exec_fldo 64 1 9 (.tmp 10) (b9) (0) (9) rfl (by kernel_rfl) (by kernel_rfl) rfl) ?_
            simp only [Act.put, List.setIfInBounds_toArray, List.set_cons_succ, List.set_cons_zero]
            refine l_st1 (o := ⟨none, _, _, _, _, _⟩) 3 b9 9 64 _ (.int .i64 (mn e.n q)) (.tmp 50) (.tmp 47) rfl rfl (by kernel_rfl) (by kernel_rfl) (by kernel_rfl) rfl rfl hC6 (by rw [List.length_set, Ent.len10]; omega) ?_
            intro w7 hC7 hk7 hs7
            simp only [Act.put]
            refine wpList_nil ?_
            have HC7 : Hid (w7.rangeAt b9 0 (Ent.mk (e.o.q q) (mn e.n q)).cells) := blk_range (show Blk w7 b9 _ (Ent.mk (e.o.q q) (mn e.n q)).cells from hC7)
            have K7 : Keep (· = b9) w4 w7 := ((Keep.mono (T := (· = b9)) k5 (fun _ _ h => h.elim)).trans hk6 (fun _ _ h => h)).trans hk7 (fun _ _ h => h)
            have kw7 : Kept w w7 := kw4.trans' K7 (by omega)
            have HB7 := Lib.hid (HB.out.kept kw7)
            have HS7 := Lib.hid (HS.out.kept kw7)
            have z7 := kw7.size
            have z47 := K7.size
            clear hC6 hC7 hk6 hk7 K7 k5 HC4 HC4r kw4
            obtain ⟨e2, he2⟩ : ∃ e2, Ent.mk (e.o.q q) (mn e.n q) = e2 := ⟨_, rfl⟩
            rw [he2] at HC7 HR
            clear he2
            go_upto_region 8 with fail
            refine wp_text 6 [.emp w7.heap.size 64, .eq (.pointer (some ⟨p, 0, none⟩)), .eq (.pointer (some ⟨p, 0, none⟩)), .eq (.pointer (some ⟨p, 1, none⟩)), .eq (.slice (some ⟨g, off, none⟩) n c), .sl w7.heap.size 64 10 n (ents X)] rfl (by kernel_rfl) ?_ ?_
            · refine fsteps_cons 1 rfl (fun a u hE hD hk => f_new (o := ⟨some 51, _, _, _, _, _⟩) (.slice (some ⟨u.heap.size, 0, none⟩) 0 0) _ rfl (wanted_none rfl _) (exec_none 40 64 10 rfl slR.und szR) ⟨_, rfl, hk.size, Blk.new u _ _⟩ ((Keep.refl _ u).alloc _)) ?_
              refine fsteps_cons 2 rfl (fun a u hE hD hk => f_val (o := ⟨some 52, _, _, _, _, _⟩) (.pointer (some ⟨p, 0, none⟩)) rfl (wanted_none rfl _) (exec_move (.tmp 0) (.pointer (some ⟨p, 0, none⟩)) rfl (hE 0 (.pointer (some ⟨p, 0, none⟩)) (by kernel_rfl) (by kernel_rfl))) rfl) ?_
              refine fsteps_cons 3 rfl (fun a u hE hD hk => f_val (o := ⟨some 53, _, _, _, _, _⟩) (.pointer (some ⟨p, 0, none⟩)) rfl (wanted_none rfl _) (exec_nilp (.tmp 52) ⟨p, 0, none⟩ rfl (hD 1 52 (by kernel_rfl))) rfl) ?_
              refine fsteps_cons 4 rfl (fun a u hE hD hk => f_val (o := ⟨some 54, _, _, _, _, _⟩) (.pointer (some ⟨p, 1, none⟩)) rfl (wanted_none rfl _) (exec_fldo 42 1 1 (.tmp 53) (p) (0) (1) rfl (hD 2 53 (by kernel_rfl)) (by kernel_rfl) rfl) rfl) ?_
              refine fsteps_cons 5 rfl (fun a u hE hD hk => f_val (o := ⟨some 55, _, _, _, _, _⟩) (.slice (some ⟨g, off, none⟩) n c) rfl (wanted_none rfl _) (exec_ldv 40 _ Try.underlying40 (.tmp 54) ⟨p, 1, none⟩ (.slice (some ⟨g, off, none⟩) n c) rfl (hD 3 54 (by kernel_rfl)) (by rw [(HB7.out.kept hk).cell]; rfl)) rfl) ?_
              refine fsteps_cons 6 rfl (fun a u hE hD hk => (by obtain ⟨v', u', hr, hp, hkk⟩ := run_append_emp slR _ u (a.eval (.tmp 51)) (.slice (some ⟨g, off, none⟩) n c) n w7.heap.size _ ((hD 0 51 (by kernel_rfl))) (HS7.out.kept hk) (ents_one _) (by omega) (by omega) hk.size; exact f_new (o := ⟨some 56, _, _, _, _, _⟩) v' u' rfl (wanted_none rfl _) (exec_appS slR (.tmp 51) (.tmp 55) _ _ rfl rfl (hD 4 55 (by kernel_rfl)) v' u' hr) hp hkk)) ?_
              exact fsteps_nil
            intro gv w8 hV k8
            rw [show dstsOf _ 6 = [51, 52, 53, 54, 55, 56] by kernel_rfl]
            simp only [List.foldl_cons, List.foldl_nil, List.setIfInBounds_toArray, List.set_cons_succ, List.set_cons_zero, List.drop_succ_cons, List.drop_zero]
            have hv56 : (.sl w7.heap.size 64 10 n (ents X) : Kn).p (gv 56) w8 := hV 5 56 (by kernel_rfl)
            generalize gv 56 = v56 at hv56 ⊢
            clear hV
            refine l_val (o := ⟨some 11, _, _, _, _, _⟩) (v56) rfl (exec_assign (.tmp 56) (v56) rfl (by kernel_rfl)) ?_
            simp only [Act.put, List.setIfInBounds_toArray, List.set_cons_succ, List.set_cons_zero]
            refine wpList_nil ?_
            have HS8 := Lib.hid hv56.1
            have HO8 := Lib.hid hv56.2
            have HC8 := Lib.hid (range_kept HC7.out k8)
            have HB8 := Lib.hid (HB7.out.kept k8)
            have kw8 := kw7.trans k8
            clear hv56 k8 kw7 HC7 HB7 HS7
            obtain ⟨g2, off2, c2, rfl⟩ := HS8.out.some_ (by omega)
            have hg2 : w7.heap.size ≤ g2 := HO8.out g2 rfl
            go_upto_region 9 with fail
            refine wp_text 4 [.eq (.slice (some ⟨g2, off2, none⟩) n c2), .eq (.int .i64 (k : Int)), .eq (e2.v), .eq (.pointer (some ⟨g2, off2 + k * 10, none⟩))] rfl (by kernel_rfl) ?_ ?_
            · refine fsteps_cons 1 rfl (fun a u hE hD hk => f_val (o := ⟨some 57, _, _, _, _, _⟩) (.slice (some ⟨g2, off2, none⟩) n c2) rfl (wanted_none rfl _) (exec_move (.tmp 11) (.slice (some ⟨g2, off2, none⟩) n c2) rfl (hE 11 (.slice (some ⟨g2, off2, none⟩) n c2) (by kernel_rfl) (by kernel_rfl))) rfl) ?_
              refine fsteps_cons 2 rfl (fun a u hE hD hk => f_val (o := ⟨some 58, _, _, _, _, _⟩) (.int .i64 (k : Int)) rfl (wanted_none rfl _) (exec_move (.tmp 9) (.int .i64 (k : Int)) rfl (hE 9 (.int .i64 (k : Int)) (by kernel_rfl) (by kernel_rfl))) rfl) ?_
              refine fsteps_cons 3 rfl (fun a u hE hD hk => f_val (o := ⟨some 59, _, _, _, _, _⟩) (e2.v) rfl (wanted_none rfl _) (exec_ldS 64 _ (.tmp 10) (b9) (0) (e2.cells) rfl (hE 10 (.pointer (some ⟨b9, 0, none⟩)) (by kernel_rfl) (by kernel_rfl)) (range_kept HC8.out hk) Try.underlying64 (by rw [e2.len10]; exact szR)) rfl) ?_
              refine fsteps_cons 4 rfl (fun a u hE hD hk => f_val (o := ⟨some 60, _, _, _, _, _⟩) (.pointer (some ⟨g2, off2 + k * 10, none⟩)) rfl (wanted_none rfl _) (exec_ixo slR (.tmp 57) (.tmp 58) (g2) (off2) n c2 k (off2 + k * 10) ((k : Int)) rfl (hD 0 57 (by kernel_rfl)) (hD 1 58 (by kernel_rfl)) (by first | rfl | omega) (hlt) (by first | rfl | omega)) rfl) ?_
              exact fsteps_nil
            intro gv w9 hV k9
            rw [show dstsOf _ 4 = [57, 58, 59, 60] by kernel_rfl]
            simp only [List.foldl_cons, List.foldl_nil, List.setIfInBounds_toArray, List.set_cons_succ, List.set_cons_zero, List.drop_succ_cons, List.drop_zero]
            rw [show gv 60 = .pointer (some ⟨g2, off2 + k * 10, none⟩) from hV 3 60 (by kernel_rfl)]
            rw [show gv 59 = e2.v from hV 2 59 (by kernel_rfl)]
            clear hV
            refine l_rowS (o := ⟨none, _, _, _, _, _⟩) g2 off2 n c2 k X e2 ⟨g2, off2 + k * 10, none⟩ (.tmp 60) (.tmp 59) rfl rfl (by kernel_rfl) (by kernel_rfl) rfl (HS8.out.kept k9) HN.out.symm hlt ?_
            intro w10 hS10 hk10 hs10
            simp only [Act.put]
            refine wpList_nil ?_
            have hpl := H2.out p H1.out
            have kw10 : Kept w w10 := (kw8.trans k9).trans' hk10 (by omega)
            have HB10 := Lib.hid (HB.out.kept kw10)
            have HS10 := Lib.hid hS10
            clear hS10 hk10 k9 HS8 HC8 HB8 kw8
            go_upto_region 10 with fail
            refine wp_text 4 [.eq (.pointer (some ⟨p, 0, none⟩)), .eq (.slice (some ⟨g2, off2, none⟩) n c2), .eq (.pointer (some ⟨p, 0, none⟩)), .eq (.pointer (some ⟨p, 1, none⟩))] rfl (by kernel_rfl) ?_ ?_
            · refine fsteps_cons 1 rfl (fun a u hE hD hk => f_val (o := ⟨some 61, _, _, _, _, _⟩) (.pointer (some ⟨p, 0, none⟩)) rfl (wanted_none rfl _) (exec_move (.tmp 0) (.pointer (some ⟨p, 0, none⟩)) rfl (hE 0 (.pointer (some ⟨p, 0, none⟩)) (by kernel_rfl) (by kernel_rfl))) rfl) ?_
              refine fsteps_cons 2 rfl (fun a u hE hD hk => f_val (o := ⟨some 62, _, _, _, _, _⟩) (.slice (some ⟨g2, off2, none⟩) n c2) rfl (wanted_none rfl _) (exec_move (.tmp 11) (.slice (some ⟨g2, off2, none⟩) n c2) rfl (hE 11 (.slice (some ⟨g2, off2, none⟩) n c2) (by kernel_rfl) (by kernel_rfl))) rfl) ?_
              refine fsteps_cons 3 rfl (fun a u hE hD hk => f_val (o := ⟨some 63, _, _, _, _, _⟩) (.pointer (some ⟨p, 0, none⟩)) rfl (wanted_none rfl _) (exec_nilp (.tmp 61) ⟨p, 0, none⟩ rfl (hD 0 61 (by kernel_rfl))) rfl) ?_
              refine fsteps_cons 4 rfl (fun a u hE hD hk => f_val (o := ⟨some 64, _, _, _, _, _⟩) (.pointer (some ⟨p, 1, none⟩)) rfl (wanted_none rfl _) (exec_fldo 42 1 1 (.tmp 63) (p) (0) (1) rfl (hD 2 63 (by kernel_rfl)) (by kernel_rfl) rfl) rfl) ?_
              exact fsteps_nil
            intro gv w11 hV k11
            rw [show dstsOf _ 4 = [61, 62, 63, 64] by kernel_rfl]
            simp only [List.foldl_cons, List.foldl_nil, List.setIfInBounds_toArray, List.set_cons_succ, List.set_cons_zero, List.drop_succ_cons, List.drop_zero]
            rw [show gv 64 = .pointer (some ⟨p, 1, none⟩) from hV 3 64 (by kernel_rfl)]
            rw [show gv 62 = .slice (some ⟨g2, off2, none⟩) n c2 from hV 1 62 (by kernel_rfl)]
            clear hV
            refine l_st1 (o := ⟨none, _, _, _, _, _⟩) 40 p 1 42 _ (.slice (some ⟨g2, off2, none⟩) n c2) (.tmp 64) (.tmp 62) rfl rfl (by kernel_rfl) (by kernel_rfl) (by kernel_rfl) rfl rfl (HB10.out.kept k11) (by simp) ?_
            intro w12 hB12 hk12 hs12
            simp only [Act.put]
            refine wpList_nil ?_
            obtain ⟨F', q1, q2, q3⟩ := HL.out.renew (kw10.trans k11) z7 (Y := X.set k e2) (v' := .slice (some ⟨g2, off2, none⟩) n c2) (by rw [List.length_set, HN.out]; exact HS10.out.kept k11) HO8.out (by simpa using hB12) hk12
            have HF := Lib.hid q1
            have HG := Lib.hid q2
            clear q1 q2 hB12 hk12
            go_wp2
            go_ret
            exact ⟨F', by rw [HR.out]; rfl, by rw [HR.out]; exact HF.out, HG.out, q3⟩
          · have HR : Hid (lessM t i q X = (false, X)) := by
              show _ = _
              unfold lessM
              rw [HIX.out.1]
              simp only
              rw [if_neg (fun h => hq2 h.2)]
            go_upto_region 5 with fail
            refine wp_text 9 [.eq (.int .i64 q), .eq (.bool false), .eq (.bool false), .eq (.int .i64 q), .eq (.pointer (some ⟨b9, 0, none⟩)), .eq (.pointer (some ⟨b9, 6, none⟩)), .eq (.int .i64 e.o.qty), .eq (.bool true), .eq (.bool true)] rfl (by kernel_rfl) ?_ ?_
            · refine fsteps_cons 1 rfl (fun a u hE hD hk => f_val (o := ⟨some 34, _, _, _, _, _⟩) (.int .i64 q) rfl (wanted_none rfl _) (exec_move (.tmp 3) (.int .i64 q) rfl (hE 3 (.int .i64 q) (by kernel_rfl) (by kernel_rfl))) rfl) ?_
              refine fsteps_cons 2 rfl (fun a u hE hD hk => f_as (show ((decide ((q : Int) < (1 : Int))) : Bool) = false from decide_eq_false (by omega)) (f_val (o := ⟨some 35, _, _, _, _, _⟩) (.bool (decide ((q : Int) < (1 : Int)))) rfl (wanted_none rfl _) (exec_ltn (p := q) (q := 1) rfl (hD 0 34 (by kernel_rfl)) rfl) rfl)) ?_
              refine fsteps_cons 3 rfl (fun a u hE hD hk => f_val (o := ⟨some 36, _, _, _, _, _⟩) (.bool false) rfl (wanted_none rfl _) (exec_move (.tmp 35) (.bool false) rfl (hD 1 35 (by kernel_rfl))) rfl) ?_
              refine fsteps_cons 4 rfl (fun a u hE hD hk => f_val (o := ⟨some 37, _, _, _, _, _⟩) (.int .i64 q) rfl (wanted_at (b := false) false rfl rfl (hD 2 36 (by kernel_rfl))) (exec_move (.tmp 3) (.int .i64 q) rfl (hE 3 (.int .i64 q) (by kernel_rfl) (by kernel_rfl))) rfl) ?_
              refine fsteps_cons 5 rfl (fun a u hE hD hk => f_val (o := ⟨some 38, _, _, _, _, _⟩) (.pointer (some ⟨b9, 0, none⟩)) rfl (wanted_at (b := false) false rfl rfl (hD 2 36 (by kernel_rfl))) (exec_fldo 64 0 0 (.tmp 10) (b9) (0) (0) rfl (hE 10 (.pointer (some ⟨b9, 0, none⟩)) (by kernel_rfl) (by kernel_rfl)) (by kernel_rfl) rfl) rfl) ?_
              refine fsteps_cons 6 rfl (fun a u hE hD hk => f_val (o := ⟨some 39, _, _, _, _, _⟩) (.pointer (some ⟨b9, 6, none⟩)) rfl (wanted_at (b := false) false rfl rfl (hD 2 36 (by kernel_rfl))) (exec_fldo 25 6 6 (.tmp 38) (b9) (0) (6) rfl (hD 4 38 (by kernel_rfl)) (by kernel_rfl) rfl) rfl) ?_
              refine fsteps_cons 7 rfl (fun a u hE hD hk => f_val (o := ⟨some 40, _, _, _, _, _⟩) (.int .i64 e.o.qty) rfl (wanted_at (b := false) false rfl rfl (hD 2 36 (by kernel_rfl))) (exec_loadi 3 Try.underlying3 (.tmp 39) ⟨b9, 6, none⟩ (.int .i64 e.o.qty) rfl (hD 5 39 (by kernel_rfl)) (range_int (range_kept HC3r.out hk) 6 _ rfl)) rfl) ?_
              refine fsteps_cons 8 rfl (fun a u hE hD hk => f_as (show ((decide ((e.o.qty : Int) < (q : Int))) : Bool) = true from decide_eq_true (by omega)) (f_val (o := ⟨some 41, _, _, _, _, _⟩) (.bool (decide ((e.o.qty : Int) < (q : Int)))) rfl (wanted_at (b := false) false rfl rfl (hD 2 36 (by kernel_rfl))) (exec_gtn (p := q) (q := e.o.qty) rfl (hD 3 37 (by kernel_rfl)) (hD 6 40 (by kernel_rfl))) rfl)) ?_
              refine fsteps_cons 9 rfl (fun a u hE hD hk => f_val (o := ⟨some 42, _, _, _, _, _⟩) (.bool true) rfl (wanted_none rfl _) (exec_pickF (.tmp 36) (.const (.bool true)) (.tmp 41) (.bool true) rfl (hD 2 36 (by kernel_rfl)) (hD 7 41 (by kernel_rfl))) rfl) ?_
              exact fsteps_nil
            intro gv w4 hV k4
            rw [show dstsOf _ 9 = [34, 35, 36, 37, 38, 39, 40, 41, 42] by kernel_rfl]
            simp only [List.foldl_cons, List.foldl_nil, List.setIfInBounds_toArray, List.set_cons_succ, List.set_cons_zero, List.drop_succ_cons, List.drop_zero]
            rw [show gv 42 = .bool true from hV 8 42 (by kernel_rfl)]
            clear hV
            refine wpList_nil ?_
            have kw4 := kw3.trans k4
            clear HIX hq1 hq2
            go_wp2
            go_ret
            exact ⟨F, by rw [HR.out]; rfl, by rw [HR.out]; exact HL.out.kept kw4, Grow.refl _ _, Keep.mono (T := F) kw4 (fun _ _ h => h.elim)⟩
        · have HR : Hid (lessM t i q X = (false, X)) := by
            show _ = _
            unfold lessM
            rw [HIX.out.1]
            simp only
            rw [if_neg (fun h => hq1 h.1)]
          go_upto_region 5 with fail
          refine wp_text 9 [.eq (.int .i64 q), .eq (.bool true), .eq (.bool true), .eq undef, .eq undef, .eq undef, .eq undef, .eq undef, .eq (.bool true)] rfl (by kernel_rfl) ?_ ?_
          · refine fsteps_cons 1 rfl (fun a u hE hD hk => f_val (o := ⟨some 34, _, _, _, _, _⟩) (.int .i64 q) rfl (wanted_none rfl _) (exec_move (.tmp 3) (.int .i64 q) rfl (hE 3 (.int .i64 q) (by kernel_rfl) (by kernel_rfl))) rfl) ?_
            refine fsteps_cons 2 rfl (fun a u hE hD hk => f_as (show ((decide ((q : Int) < (1 : Int))) : Bool) = true from decide_eq_true (by omega)) (f_val (o := ⟨some 35, _, _, _, _, _⟩) (.bool (decide ((q : Int) < (1 : Int)))) rfl (wanted_none rfl _) (exec_ltn (p := q) (q := 1) rfl (hD 0 34 (by kernel_rfl)) rfl) rfl)) ?_
            refine fsteps_cons 3 rfl (fun a u hE hD hk => f_val (o := ⟨some 36, _, _, _, _, _⟩) (.bool true) rfl (wanted_none rfl _) (exec_move (.tmp 35) (.bool true) rfl (hD 1 35 (by kernel_rfl))) rfl) ?_
            refine fsteps_cons 4 rfl (fun a u hE hD hk => f_skip (o := ⟨some 37, _, _, _, _, _⟩) rfl (wanted_at (b := false) true rfl rfl (hD 2 36 (by kernel_rfl))) rfl) ?_
            refine fsteps_cons 5 rfl (fun a u hE hD hk => f_skip (o := ⟨some 38, _, _, _, _, _⟩) rfl (wanted_at (b := false) true rfl rfl (hD 2 36 (by kernel_rfl))) rfl) ?_
            refine fsteps_cons 6 rfl (fun a u hE hD hk => f_skip (o := ⟨some 39, _, _, _, _, _⟩) rfl (wanted_at (b := false) true rfl rfl (hD 2 36 (by kernel_rfl))) rfl) ?_
            refine fsteps_cons 7 rfl (fun a u hE hD hk => f_skip (o := ⟨some 40, _, _, _, _, _⟩) rfl (wanted_at (b := false) true rfl rfl (hD 2 36 (by kernel_rfl))) rfl) ?_
            refine fsteps_cons 8 rfl (fun a u hE hD hk => f_skip (o := ⟨some 41, _, _, _, _, _⟩) rfl (wanted_at (b := false) true rfl rfl (hD 2 36 (by kernel_rfl))) rfl) ?_
            refine fsteps_cons 9 rfl (fun a u hE hD hk => f_val (o := ⟨some 42, _, _, _, _, _⟩) (.bool true) rfl (wanted_none rfl _) (exec_pick (.tmp 36) (.const (.bool true)) (.tmp 41) (.bool true) rfl (hD 2 36 (by kernel_rfl)) rfl) rfl) ?_
            exact fsteps_nil
          intro gv w4 hV k4
          rw [show dstsOf _ 9 = [34, 35, 36, 37, 38, 39, 40, 41, 42] by kernel_rfl]
          simp only [List.foldl_cons, List.foldl_nil, List.setIfInBounds_toArray, List.set_cons_succ, List.set_cons_zero, List.drop_succ_cons, List.drop_zero]
          rw [show gv 42 = .bool true from hV 8 42 (by kernel_rfl)]
          clear hV
          refine wpList_nil ?_
          have kw4 := kw3.trans k4
          clear HIX hq1
          go_wp2
          go_ret
          exact ⟨F, by rw [HR.out]; rfl, by rw [HR.out]; exact HL.out.kept kw4, Grow.refl _ _, Keep.mono (T := F) kw4 (fun _ _ h => h.elim)⟩
      · have hm' : e.is t i = false := by simpa using hm
        have HM2 : Hid (∀ (j : Nat) (x : Ent), j < k + 1 → X[j]? = some x → x.is t i = false) := by
          intro j x hj hx
          by_cases hjk : j = k
          · subst hjk
            rw [HEI.out] at hx
            injection hx with hx
            rw [← hx]
            exact hm'
          · exact HM.out j x (by omega) hx
        clear hm HM
        go_upto_region 4 with fail
        refine wp_text 12 [.eq (.pointer (some ⟨b9, 0, none⟩)), .eq (.pointer (some ⟨b9, 0, none⟩)), .eq (.int .i64 e.o.tr), .eq (.int .i64 t), .eq (.bool (decide ((e.o.tr : Int) = (t : Int)))), .eq (.bool (decide ((e.o.tr : Int) = (t : Int)))), .cond (decide ((e.o.tr : Int) = (t : Int))) (.eq (.pointer (some ⟨b9, 0, none⟩))), .cond (decide ((e.o.tr : Int) = (t : Int))) (.eq (.pointer (some ⟨b9, 1, none⟩))), .cond (decide ((e.o.tr : Int) = (t : Int))) (.eq (.int .i64 e.o.id)), .cond (decide ((e.o.tr : Int) = (t : Int))) (.eq (.int .i64 i)), .cond (decide ((e.o.tr : Int) = (t : Int))) (.eq (.bool (decide ((e.o.id : Int) = (i : Int))))), .eq (.bool false)] rfl (by kernel_rfl) ?_ ?_
        · refine fsteps_cons 1 rfl (fun a u hE hD hk => f_val (o := ⟨some 22, _, _, _, _, _⟩) (.pointer (some ⟨b9, 0, none⟩)) rfl (wanted_none rfl _) (exec_fldo 64 0 0 (.tmp 10) (b9) (0) (0) rfl (hE 10 (.pointer (some ⟨b9, 0, none⟩)) (by kernel_rfl) (by kernel_rfl)) (by kernel_rfl) rfl) rfl) ?_
          refine fsteps_cons 2 rfl (fun a u hE hD hk => f_val (o := ⟨some 23, _, _, _, _, _⟩) (.pointer (some ⟨b9, 0, none⟩)) rfl (wanted_none rfl _) (exec_fldo 25 0 0 (.tmp 22) (b9) (0) (0) rfl (hD 0 22 (by kernel_rfl)) (by kernel_rfl) rfl) rfl) ?_
          refine fsteps_cons 3 rfl (fun a u hE hD hk => f_val (o := ⟨some 24, _, _, _, _, _⟩) (.int .i64 e.o.tr) rfl (wanted_none rfl _) (exec_loadi 3 Try.underlying3 (.tmp 23) ⟨b9, 0, none⟩ (.int .i64 e.o.tr) rfl (hD 1 23 (by kernel_rfl)) (range_int (range_kept HC2r.out hk) 0 _ rfl)) rfl) ?_
          refine fsteps_cons 4 rfl (fun a u hE hD hk => f_val (o := ⟨some 25, _, _, _, _, _⟩) (.int .i64 t) rfl (wanted_none rfl _) (exec_move (.tmp 1) (.int .i64 t) rfl (hE 1 (.int .i64 t) (by kernel_rfl) (by kernel_rfl))) rfl) ?_
          refine fsteps_cons 5 rfl (fun a u hE hD hk => f_val (o := ⟨some 26, _, _, _, _, _⟩) (.bool (decide ((e.o.tr : Int) = (t : Int)))) rfl (wanted_none rfl _) (exec_eqn (p := e.o.tr) (q := t) rfl (hD 2 24 (by kernel_rfl)) (hD 3 25 (by kernel_rfl))) rfl) ?_
          refine fsteps_cons 6 rfl (fun a u hE hD hk => f_val (o := ⟨some 27, _, _, _, _, _⟩) (.bool (decide ((e.o.tr : Int) = (t : Int)))) rfl (wanted_none rfl _) (exec_move (.tmp 26) (.bool (decide ((e.o.tr : Int) = (t : Int)))) rfl (hD 4 26 (by kernel_rfl))) rfl) ?_
          refine fsteps_cons 7 rfl (fun a u hE hD hk => f_if ((decide ((e.o.tr : Int) = (t : Int)))) rfl rfl rfl (hD 5 27 (by kernel_rfl)) (fun hb => f_val (o := ⟨some 28, _, _, _, _, _⟩) (.pointer (some ⟨b9, 0, none⟩)) rfl (wanted_b rfl rfl (hD 5 27 (by kernel_rfl)) (eq_true_of hb)) (exec_fldo 64 0 0 (.tmp 10) (b9) (0) (0) rfl (hE 10 (.pointer (some ⟨b9, 0, none⟩)) (by kernel_rfl) (by kernel_rfl)) (by kernel_rfl) rfl) rfl)) ?_
          refine fsteps_cons 8 rfl (fun a u hE hD hk => f_if ((decide ((e.o.tr : Int) = (t : Int)))) rfl rfl rfl (hD 5 27 (by kernel_rfl)) (fun hb => f_val (o := ⟨some 29, _, _, _, _, _⟩) (.pointer (some ⟨b9, 1, none⟩)) rfl (wanted_b rfl rfl (hD 5 27 (by kernel_rfl)) (eq_true_of hb)) (exec_fldo 25 1 1 (.tmp 28) (b9) (0) (1) rfl ((hD 6 28 (by kernel_rfl)).1 hb) (by kernel_rfl) rfl) rfl)) ?_
          refine fsteps_cons 9 rfl (fun a u hE hD hk => f_if ((decide ((e.o.tr : Int) = (t : Int)))) rfl rfl rfl (hD 5 27 (by kernel_rfl)) (fun hb => f_val (o := ⟨some 30, _, _, _, _, _⟩) (.int .i64 e.o.id) rfl (wanted_b rfl rfl (hD 5 27 (by kernel_rfl)) (eq_true_of hb)) (exec_loadi 3 Try.underlying3 (.tmp 29) ⟨b9, 1, none⟩ (.int .i64 e.o.id) rfl ((hD 7 29 (by kernel_rfl)).1 hb) (range_int (range_kept HC2r.out hk) 1 _ rfl)) rfl)) ?_
          refine fsteps_cons 10 rfl (fun a u hE hD hk => f_if ((decide ((e.o.tr : Int) = (t : Int)))) rfl rfl rfl (hD 5 27 (by kernel_rfl)) (fun hb => f_val (o := ⟨some 31, _, _, _, _, _⟩) (.int .i64 i) rfl (wanted_b rfl rfl (hD 5 27 (by kernel_rfl)) (eq_true_of hb)) (exec_move (.tmp 2) (.int .i64 i) rfl (hE 2 (.int .i64 i) (by kernel_rfl) (by kernel_rfl))) rfl)) ?_
          refine fsteps_cons 11 rfl (fun a u hE hD hk => f_if ((decide ((e.o.tr : Int) = (t : Int)))) rfl rfl rfl (hD 5 27 (by kernel_rfl)) (fun hb => f_val (o := ⟨some 32, _, _, _, _, _⟩) (.bool (decide ((e.o.id : Int) = (i : Int)))) rfl (wanted_b rfl rfl (hD 5 27 (by kernel_rfl)) (eq_true_of hb)) (exec_eqn (p := e.o.id) (q := i) rfl ((hD 8 30 (by kernel_rfl)).1 hb) ((hD 9 31 (by kernel_rfl)).1 hb)) rfl)) ?_
          refine fsteps_cons 12 rfl (fun a u hE hD hk => f_as (show (((decide ((e.o.tr : Int) = (t : Int))) && (decide ((e.o.id : Int) = (i : Int)))) : Bool) = false from hm') (f_val (o := ⟨some 33, _, _, _, _, _⟩) (.bool ((decide ((e.o.tr : Int) = (t : Int))) && (decide ((e.o.id : Int) = (i : Int))))) rfl (wanted_none rfl _) (exec_pickand (.tmp 27) (.tmp 32) (.const (.bool false)) ((decide ((e.o.tr : Int) = (t : Int)))) ((decide ((e.o.id : Int) = (i : Int)))) rfl (hD 5 27 (by kernel_rfl)) (fun hb2 => ((hD 10 32 (by kernel_rfl)).1 hb2)) rfl) rfl)) ?_
          exact fsteps_nil
        intro gv w3 hV k3
        rw [show dstsOf _ 12 = [22, 23, 24, 25, 26, 27, 28, 29, 30, 31, 32, 33] by kernel_rfl]
        simp only [List.foldl_cons, List.foldl_nil, List.setIfInBounds_toArray, List.set_cons_succ, List.set_cons_zero, List.drop_succ_cons, List.drop_zero]
        rw [show gv 33 = .bool false from hV 11 33 (by kernel_rfl)]
        clear hV
        refine wpList_nil ?_
        have kw3 := kw2.trans k3
        have HC3 := Lib.hid (HC2.out.kept k3)
        have HC3r := Lib.hid (range_kept HC2r.out k3)
        have z3 := k3.size
        have k23 := k3
        clear HC2 HC2r k3 kw2
        clear hm' HC3 HC3r k23
        go_wp2
        exact ⟨⟨k + 1, by omega, by go_num, HM2, kw3⟩, by simp [intOf]; omega⟩
    · have HR : Hid (lessM t i q X = (false, X)) := by
        show _ = _
        unfold lessM
        rw [idx_none (fun j x hj hx => HM.out j x (by rw [HN.out] at hj; omega) hx), List.getElem?_eq_none (Nat.le_refl _)]
      clear HM
      go_wp2
      go_ret
      exact ⟨F, by rw [HR.out]; rfl, by rw [HR.out]; exact HL.out.kept hkr, Grow.refl _ _, Keep.mono (T := F) hkr (fun _ _ h => h.elim)⟩
end Go.Proofs.Ytlbkehpdohihlaa
