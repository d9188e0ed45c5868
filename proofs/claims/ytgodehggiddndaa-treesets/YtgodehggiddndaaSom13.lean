/-
  Asks of chapter 13's statements; the traders made of them (jobberlaw13.some). No condition.
-/
import Derived.Test.YtgodehggiddndaaTreN
import Derived.Test.YtgodehggiddndaaArgsM
namespace Go.Proofs.Ytgodehggiddndaa
open Go.RowKit Go.ChangeShapes Go.WideShapes Go.ChangeAt
set_option linter.unusedVariables false
set_option maxRecDepth 100000

structure Aq where
  n : Int
  firm : Int
  desk : Int
  roles : Int
  insts : Int
deriving Inhabited
def Aq.l (q : Aq) : List Int := [q.n, q.firm, q.desk, q.roles, q.insts]
def Aq.cells (q : Aq) : List Value := stc q.l []
def Aq.v (q : Aq) : Value := .agg q.cells.toArray
theorem Aq.len5q (q : Aq) : q.cells.length = 5 := by unfold Aq.cells; rw [stc_len]; rfl
theorem Aq.one (q : Aq) : ∀ u ∈ q.cells, u.oneCell' = true := stc_one _ _
def zeroAq : Aq := ⟨0, 0, 0, 0, 0⟩
theorem slAq : SlT 33 56 5 40 := ⟨Try.underlying33, by kernel_rfl, ⟨zeroAq.v, by kernel_rfl, rfl, by intro u hu; exact zeroAq.one u (by simpa [Aq.v, Value.cells] using hu)⟩, by omega⟩
def Aq.wf (q : Aq) : Prop := ∀ y ∈ q.l, (Lit.int .i64 y).wf = true
abbrev Aqs (W : World) (v : Value) (l : List Aq) : Prop := Args 5 Aq.cells Aq.wf W v l
theorem sh_aq {H : Type} {enc : TypeId × Value → H} {W : World} (fuel : Nat) (cs : List Value) (x : DataW H × List MemPlace) (h : DataW.trod enc Try.prog W 0 (fun _ => true) true fuel 56 cs = some x) : ∃ q : Aq, cs = q.cells ∧ q.wf := by
  obtain ⟨l, rfl, hl, hw⟩ := sh_ints 5 (by kernel_rfl) _ _ _ h
  match l, hl with
  | [x0, x1, x2, x3, x4], _ => exact ⟨⟨x0, x1, x2, x3, x4⟩, rfl, hw⟩
theorem open_aqs {H : Type} {enc : TypeId × Value → H} {W : World} {b0 : Nat} {v : Value} {d : DataW H} {p : List MemPlace} (hv : Value.okWide Try.prog W .any b0 33 v)
    (h : DataW.Trod enc Try.prog W 0 (fun _ => true) true 33 v d p) : ∃ l, Aqs W v l := open_args 5 Aq.cells Aq.wf Try.underlying33 (by kernel_rfl) (by omega) sh_aq hv h

/-- the place of an ask, and its trader -/
def Aq.k (q : Aq) : Nat := (wi q.n 0 31).toNat
theorem Aq.k_lt (q : Aq) : q.k < 32 := by
  have h := wi_in q.n 0 31 (by omega)
  unfold Aq.k
  omega
theorem Aq.k_is (q : Aq) : ((q.k : Nat) : Int) = wi q.n 0 31 := by
  have h := wi_in q.n 0 31 (by omega)
  unfold Aq.k
  omega
def mkT (a b c d : Int) : Trd := ⟨a, b, c, d, false, List.replicate 32 0, rfl⟩
def Aq.t (q : Aq) : Trd := mkT (wi q.firm 0 3) (wi q.desk 0 2) (wi q.roles 1 15) (wi q.insts 0 255)
theorem builtT (a b c d : Int) : Try.prog.built 25 [(0, .int .i64 a), (1, .int .i64 b), (2, .int .i64 c), (3, .int .i64 d)] = some (mkT a b c d).cells.toArray := by kernel_rfl
theorem exec_mkT {a : Act} {o : Oper} {u : World} (x0 x1 x2 x3 : Operand) (p q r t : Int) (hop : o.op = .build 25 #[(0, x0), (1, x1), (2, x2), (3, x3)]) (h0 : a.eval x0 = .int .i64 p) (h1 : a.eval x1 = .int .i64 q) (h2 : a.eval x2 = .int .i64 r) (h3 : a.eval x3 = .int .i64 t) : (execOp a.eval o).run Try.prog u = .ok (.value (mkT p q r t).v) u :=
  exec_build _ [(0, x0), (1, x1), (2, x2), (3, x3)] (mkT p q r t).cells hop (by
    simp only [List.map_cons, List.map_nil, h0, h1, h2, h3]
    exact builtT p q r t)
/-- the list, so far -/
def someL (l : List Aq) : Trds := l.foldl (fun X q => X.put q.k q.t) zeroX
theorem someL_next (l : List Aq) (i : Nat) (q : Aq) (h : l[i]? = some q) : someL (l.take (i + 1)) = (someL (l.take i)).put q.k q.t := by
  unfold someL
  rw [List.take_add_one, h, List.foldl_append]
  rfl
def someM (l : List Aq) (at_ : Int) (raw : Trd) : Trds := if 0 ≤ at_ ∧ at_ < 32 then (someL (l.take 40)).put at_.toNat raw else someL (l.take 40)
theorem someM_none (l : List Aq) (raw : Trd) : someM l (-1) raw = someL (l.take 40) := by unfold someM; rw [if_neg (by omega)]
theorem someL_all (l : List Aq) (i : Nat) (h : l.length ≤ i ∨ i = 40) (h40 : i ≤ 40) : someL (l.take i) = someL (l.take 40) := by
  rcases h with h | h
  · rw [List.take_of_length_le h, List.take_of_length_le (by omega)]
  · rw [h]
/-- a trader stored into its place of an array -/
theorem l_putT {ops : Array Oper} {Q : Exit → Act → World → Prop} {a : Act} {w : World} {o : Oper} {rest : List Oper} (g i : Nat) (T : TypeId) (X : Trds) (t : Trd) (x y : Operand) (hw : Region.wanted o (yielded ops a.tmps) = true) (hop : o.op = .store 25 x y) (hx : a.eval x = .pointer (some ⟨g, i * 37, none⟩)) (hy : a.eval y = t.v) (hb : Blk w g T X.cells) (hi : i < 32)
    (hK : ∀ w', Blk w' g T (X.put i t).cells → Keep (· = g) w w' → w'.heap.size = w.heap.size → wpList Try.prog ops Q rest (a.put o.dst undef) w') : wpList Try.prog ops Q (o :: rest) a w := by
  obtain ⟨h1, h2, h3⟩ := hb.putT i t hi
  have hth : w.there g (i * 37) t.cells.toArray.size := hb.there (i * 37) _ (by rw [X.len]; simp [t.len37]; omega)
  have hsz : (Try.prog.info? 25).map (·.size) = some t.cells.toArray.size := by
    rw [show t.cells.toArray.size = 37 by simp [t.len37]]
    exact szT
  have hr := run_storeVar_mid (P := Try.prog) w g (i * 37) 25 t.cells.toArray hth hsz (by simpa using t.one)
  refine l_store (w.setCells g (i * 37) t.cells) hw ?_ (hK _ h1 h2 h3)
  unfold execOp
  simp only [hop, hx, hy, Trd.v, Instr.storeAt, Instr.sureAddr, Sem.run_bind, Sem.run_pure, Result.andThen_ok, hr]
theorem results_cellX {fn : Func} {p : Tmp} (h : fn.results = #[.cell p 26]) (tmps : Array Value) (w : World) (g : Nat) (T : TypeId) (X : Trds) (hp : tmps.getD p undef = .pointer (some ⟨g, 0, none⟩)) (hg : Blk w g T X.cells) :
    (results fn tmps).run Try.prog w = .ok X.v w := by
  have hp' : tmps[p]?.getD undef = .pointer (some ⟨g, 0, none⟩) := by simpa using hp
  have hr := run_loadVar_row (P := Try.prog) w g T 26 X.cells.toArray (0, 0) _ hg trd_und rfl (by rw [szX]; simp [X.len])
  simp [results, h, hp', asAddr, hr, Trds.v]
set_option maxRecDepth 100000 in
set_option maxHeartbeats 3200000 in
theorem some_any (w : World) (v : Value) (l : List Aq) (at_ : Int) (t : Trd) (hl : Aqs w v l) : Gives 10 #[v, .int .i64 at_, t.v] w (.eq (someM l at_ t).v) := by
  unfold Gives
  have HA := Lib.hid hl
  obtain ⟨A, n, c, rfl, hn, hm⟩ : ∃ A n c, v = .slice A n c ∧ l.length = n ∧ n ≤ maxLen := by
    obtain ⟨A, n, c, h1, h2, _, h3, _⟩ := hl
    exact ⟨A, n, c, h1, h2, h3⟩
  clear hl
  unfold maxLen at hm
  have HN := Lib.hid hn
  clear hn
  obtain ⟨R, hR⟩ : ∃ R, someM l at_ t = R := ⟨_, rfl⟩
  have HR := Lib.hid hR
  rw [hR]
  clear hR
  obtain ⟨w0, hw0⟩ : ∃ w0, w.alloc (.cells t.cells.toArray 25) = w0 := ⟨_, rfl⟩
  obtain ⟨w1, hw1⟩ : ∃ w1, w0.alloc (.cells zeroX.cells.toArray 26) = w1 := ⟨_, rfl⟩
  obtain ⟨w2, hw2⟩ : ∃ w2, w1.alloc (.cells zeroX.cells.toArray 26) = w2 := ⟨_, rfl⟩
  have k0 : Kept w w0 := by rw [← hw0]; exact (Keep.refl _ w).alloc _
  have k1 : Kept w0 w1 := by rw [← hw1]; exact (Keep.refl _ w0).alloc _
  have k2 : Kept w1 w2 := by rw [← hw2]; exact (Keep.refl _ w1).alloc _
  have hT0 : Blk w0 w.heap.size 25 t.cells := by rw [← hw0]; exact Blk.new w _ _
  have hN1 : Blk w1 w0.heap.size 26 zeroX.cells := by rw [← hw1]; exact Blk.new w0 _ _
  have hX2 : Blk w2 w1.heap.size 26 zeroX.cells := by rw [← hw2]; exact Blk.new w1 _ _
  have s0 : w0.heap.size = w.heap.size + 1 := by rw [← hw0]; simp
  have s1 : w1.heap.size = w0.heap.size + 1 := by rw [← hw1]; simp
  go_enter Try.func10, Try.ntmps10
  go_upto_region 0 with fail
  refine wp_region_lit ?_
  refine l_new (o := ⟨some 5, _, _, _, _, _⟩) (.pointer (some ⟨w.heap.size, 0, none⟩)) w0 rfl (by rw [← hw0]; exact exec_box 25 (.tmp 2) t.cells rfl (by kernel_rfl)) ?_
  simp only [Act.put, List.setIfInBounds_toArray, List.set_cons_succ, List.set_cons_zero]
  refine l_new (o := ⟨some 6, _, _, _, _, _⟩) (.pointer (some ⟨w0.heap.size, 0, none⟩)) w1 rfl (by rw [← hw1]; exact exec_alc 26 zeroX.cells rfl zX) ?_
  simp only [Act.put, List.setIfInBounds_toArray, List.set_cons_succ, List.set_cons_zero]
  refine wpList_nil ?_
  go_upto_region 1 with fail
  refine wp_region_lit ?_
  refine l_new (o := ⟨some 7, _, _, _, _, _⟩) (.pointer (some ⟨w1.heap.size, 0, none⟩)) w2 rfl (by rw [← hw2]; exact exec_alc 26 zeroX.cells rfl zX) ?_
  simp only [Act.put, List.setIfInBounds_toArray, List.set_cons_succ, List.set_cons_zero]
  refine wpList_nil ?_
  have HT := Lib.hid (blk_range ((hT0.kept k1).kept k2))
  have HN2 := Lib.hid (hN1.kept k2)
  have HX2 := Lib.hid hX2
  have kw2 := (k0.trans k1).trans k2
  have z2 := hX2.lt
  clear hT0 hN1 hX2 hw0 hw1 hw2 k0 k1 k2
  obtain ⟨gt, hgt⟩ : ∃ g, w.heap.size = g := ⟨_, rfl⟩
  obtain ⟨gr, hgr⟩ : ∃ g, w0.heap.size = g := ⟨_, rfl⟩
  obtain ⟨gx, hgx⟩ : ∃ g, w1.heap.size = g := ⟨_, rfl⟩
  rw [hgt] at HT s0 ⊢
  rw [hgr] at HN2 s0 s1 ⊢
  rw [hgx] at HX2 s1 z2 ⊢
  clear hgr hgx
  go_wp2_with fail
  go_loopw [8] (fun q wr => ∃ i : Nat, q = .int .i64 (i : Int) ∧ i ≤ 40 ∧ i ≤ n ∧ Hid (Blk wr gx 26 (someL (l.take i)).cells) ∧ Keep (· = gx) w2 wr) (fun q _ => 40 - (intOf q).toNat)
  case atStart => exact ⟨0, rfl, by omega, by omega, HX2, Keep.refl _ _⟩
  case round =>
    obtain ⟨i, rfl, hi, hin, HXr, hkr⟩ := hrel
    by_cases hlt : i < n ∧ i < 40
    · obtain ⟨hin', hi20⟩ := hlt
      have hil : i < l.length := by rw [HN.out]; exact hin'
      obtain ⟨q, hq⟩ : ∃ q, l[i]? = some q := ⟨_, List.getElem?_eq_getElem hil⟩
      have HNx := Lib.hid (someL_next l i q hq)
      generalize someL (l.take i) = Y at HXr HNx
      obtain ⟨A', n', c', e1, _, _, _, h4⟩ := HA.out
      injection e1 with e1 e2 e3
      subst e1 e2 e3
      obtain ⟨g, off, rfl, hr⟩ := h4 i q hq
      have HE := Lib.hid (range_keep (range_kept hr kw2) hkr (by
        have h0 := hr 0 _ (show q.cells[0]? = some (.int .i64 q.n) from rfl)
        have : g < w.heap.size := World.block_lt_of_cell? w _ h0
        omega))
      clear h4 hr hq hil
      go_upto_region 3 with fail
      refine wp_text 8 [.eq (.int .i64 (i : Int)), .eq (.slice (some ⟨g, off, none⟩) n c), .eq (.int .i64 (n : Int)), .eq (.bool true), .eq (.bool true), .eq (.int .i64 (i : Int)), .eq (.bool true), .eq (.bool true)] rfl (by kernel_rfl) ?_ ?_
      · refine sv 1 rfl rfl rfl (fun a u hE hD hk => exec_move (.tmp 8) _ rfl (hE 8 (.int .i64 (i : Int)) (by kernel_rfl) (by kernel_rfl))) ?_
        refine sv 2 rfl rfl rfl (fun a u hE hD hk => exec_move (.tmp 0) _ rfl (hE 0 (.slice (some ⟨g, off, none⟩) n c) (by kernel_rfl) (by kernel_rfl))) ?_
        refine sv 3 rfl rfl rfl (fun a u hE hD hk => exec_len (.tmp 10) _ _ slAq.und (some ⟨g, off, none⟩) n c rfl (hD 1 10 (by kernel_rfl))) ?_
        refine fsteps_cons 4 rfl (fun a u hE hD hk => f_as (show ((decide (((i : Int) : Int) < ((n : Int) : Int))) : Bool) = true from decide_eq_true (by omega)) (f_val (o := ⟨some 12, _, _, _, _, _⟩) (.bool (decide (((i : Int) : Int) < ((n : Int) : Int)))) rfl (wanted_none rfl _) (exec_ltn (p := (i : Int)) (q := (n : Int)) rfl (hD 0 9 (by kernel_rfl)) (hD 2 11 (by kernel_rfl))) rfl)) ?_
        refine sv 5 rfl rfl rfl (fun a u hE hD hk => exec_move (.tmp 12) _ rfl (hD 3 12 (by kernel_rfl))) ?_
        refine fsteps_cons 6 rfl (fun a u hE hD hk => f_val (o := ⟨some 14, _, _, _, _, _⟩) (.int .i64 (i : Int)) rfl (wanted_at (b := true) true rfl rfl (hD 4 13 (by kernel_rfl))) (exec_move (.tmp 8) _ rfl (hE 8 (.int .i64 (i : Int)) (by kernel_rfl) (by kernel_rfl))) rfl) ?_
        refine fsteps_cons 7 rfl (fun a u hE hD hk => f_as (show ((decide (((i : Int) : Int) < (40 : Int))) : Bool) = true from decide_eq_true (by omega)) (f_val (o := ⟨some 15, _, _, _, _, _⟩) (.bool (decide (((i : Int) : Int) < (40 : Int)))) rfl (wanted_at (b := true) true rfl rfl (hD 4 13 (by kernel_rfl))) (exec_ltn (p := (i : Int)) (q := 40) rfl (hD 5 14 (by kernel_rfl)) rfl) rfl)) ?_
        refine sv 8 rfl rfl rfl (fun a u hE hD hk => exec_pick (.tmp 13) (.tmp 15) (.const (.bool false)) (.bool true) rfl (hD 4 13 (by kernel_rfl)) (hD 6 15 (by kernel_rfl))) ?_
        exact fsteps_nil
      intro gv w3 hV k3
      rw [show dstsOf _ 8 = [9, 10, 11, 12, 13, 14, 15, 16] by kernel_rfl]
      simp only [List.foldl_cons, List.foldl_nil, List.setIfInBounds_toArray, List.set_cons_succ, List.set_cons_zero, List.drop_succ_cons, List.drop_zero]
      rw [show gv 16 = .bool true from hV 7 16 (by kernel_rfl)]
      clear hV
      refine wpList_nil ?_
      have HE3 := Lib.hid (range_kept HE.out k3)
      have HX3 := Lib.hid (HXr.out.kept k3)
      obtain ⟨k, hk⟩ : ∃ k : Nat, q.k = k := ⟨_, rfl⟩
      have hk32 : k < 32 := by rw [← hk]; exact q.k_lt
      have HWk : Hid (wi q.n 0 31 = (k : Int)) := by show _ = _; rw [← hk]; exact q.k_is.symm
      obtain ⟨m, hmq⟩ : ∃ m, q.t = m := ⟨_, rfl⟩
      have HMq := Lib.hid hmq
      rw [hk, hmq] at HNx
      clear HE HXr hk hmq
      go_upto_region 5 with fail
      refine wp_free 31 [.eq (.slice (some ⟨g, off, none⟩) n c), .eq (.int .i64 (i : Int)), .eq (.pointer (some ⟨g, off + i * 5, none⟩)), .eq (.pointer (some ⟨g, off + i * 5, none⟩)), .eq (.int .i64 q.n), .eq (.int .i64 (k : Int)), .eq (.slice (some ⟨g, off, none⟩) n c), .eq (.int .i64 (i : Int)), .eq (.pointer (some ⟨g, off + i * 5, none⟩)), .eq (.pointer (some ⟨g, off + i * 5 + 1, none⟩)), .eq (.int .i64 q.firm), .eq (.int .i64 (wi q.firm 0 3)), .eq (.slice (some ⟨g, off, none⟩) n c), .eq (.int .i64 (i : Int)), .eq (.pointer (some ⟨g, off + i * 5, none⟩)), .eq (.pointer (some ⟨g, off + i * 5 + 2, none⟩)), .eq (.int .i64 q.desk), .eq (.int .i64 (wi q.desk 0 2)), .eq (.slice (some ⟨g, off, none⟩) n c), .eq (.int .i64 (i : Int)), .eq (.pointer (some ⟨g, off + i * 5, none⟩)), .eq (.pointer (some ⟨g, off + i * 5 + 3, none⟩)), .eq (.int .i64 q.roles), .eq (.int .i64 (wi q.roles 1 15)), .eq (.slice (some ⟨g, off, none⟩) n c), .eq (.int .i64 (i : Int)), .eq (.pointer (some ⟨g, off + i * 5, none⟩)), .eq (.pointer (some ⟨g, off + i * 5 + 4, none⟩)), .eq (.int .i64 q.insts), .eq (.int .i64 (wi q.insts 0 255)), .eq (m.v)] (by kernel_rfl) rfl (by kernel_rfl) ?_ ?_
      · refine sv 1 rfl rfl rfl (fun a u hE hD hk => exec_move (.tmp 0) _ rfl (hE 0 (.slice (some ⟨g, off, none⟩) n c) (by kernel_rfl) (by kernel_rfl))) ?_
        refine sv 2 rfl rfl rfl (fun a u hE hD hk => exec_move (.tmp 8) _ rfl (hE 8 (.int .i64 (i : Int)) (by kernel_rfl) (by kernel_rfl))) ?_
        refine sv 3 rfl rfl rfl (fun a u hE hD hk => exec_ixo slAq (.tmp 19) (.tmp 20) (g) (off) n c i (off + i * 5) ((i : Int)) rfl (hD 0 19 (by kernel_rfl)) (hD 1 20 (by kernel_rfl)) (by first | rfl | omega) (hin') (by first | rfl | omega)) ?_
        refine sv 4 rfl rfl rfl (fun a u hE hD hk => exec_fldo 56 0 0 (.tmp 21) (g) (off + i * 5) (off + i * 5) rfl (hD 2 21 (by kernel_rfl)) (by kernel_rfl) rfl) ?_
        refine sv 5 rfl rfl rfl (fun a u hE hD hk => exec_loadi 3 Try.underlying3 (.tmp 22) ⟨g, off + i * 5, none⟩ (.int .i64 q.n) rfl (hD 3 22 (by kernel_rfl)) (range_int (range_kept HE3.out hk) 0 _ rfl)) ?_
        refine fsteps_cons 6 rfl (fun a u hE hD hk => f_call (o := ⟨some 24, _, _, _, _, _⟩) 20 #[.int .i64 q.n, .int .i64 0, .int .i64 31] rfl (wanted_none rfl _) (exec_call 20 _ [.tmp 23, .const (.int .i64 0), .const (.int .i64 31)] _ [.int .i64 q.n, .int .i64 0, .int .i64 31] Try.func20 (by kernel_rfl) (by kernel_rfl) rfl (show [a.eval (.tmp 23), a.eval (.const (.int .i64 0)), a.eval (.const (.int .i64 31))] = [.int .i64 q.n, .int .i64 0, .int .i64 31] from (by rw [show a.eval (.tmp 23) = .int .i64 q.n from (hD 4 23 (by kernel_rfl))] <;> rfl)) u) (by rw [← HWk.out]; exact within_is q.n 0 31 u (by omega) (by omega) (by omega))) ?_
        refine sv 7 rfl rfl rfl (fun a u hE hD hk => exec_move (.tmp 0) _ rfl (hE 0 (.slice (some ⟨g, off, none⟩) n c) (by kernel_rfl) (by kernel_rfl))) ?_
        refine sv 8 rfl rfl rfl (fun a u hE hD hk => exec_move (.tmp 8) _ rfl (hE 8 (.int .i64 (i : Int)) (by kernel_rfl) (by kernel_rfl))) ?_
        refine sv 9 rfl rfl rfl (fun a u hE hD hk => exec_ixo slAq (.tmp 25) (.tmp 26) (g) (off) n c i (off + i * 5) ((i : Int)) rfl (hD 6 25 (by kernel_rfl)) (hD 7 26 (by kernel_rfl)) (by first | rfl | omega) (hin') (by first | rfl | omega)) ?_
        refine sv 10 rfl rfl rfl (fun a u hE hD hk => exec_fldo 56 1 1 (.tmp 27) (g) (off + i * 5) (off + i * 5 + 1) rfl (hD 8 27 (by kernel_rfl)) (by kernel_rfl) rfl) ?_
        refine sv 11 rfl rfl rfl (fun a u hE hD hk => exec_loadi 3 Try.underlying3 (.tmp 28) ⟨g, off + i * 5 + 1, none⟩ (.int .i64 q.firm) rfl (hD 9 28 (by kernel_rfl)) (range_int (range_kept HE3.out hk) 1 _ rfl)) ?_
        refine fsteps_cons 12 rfl (fun a u hE hD hk => f_call (o := ⟨some 30, _, _, _, _, _⟩) 20 #[.int .i64 q.firm, .int .i64 0, .int .i64 3] rfl (wanted_none rfl _) (exec_call 20 _ [.tmp 29, .const (.int .i64 0), .const (.int .i64 3)] _ [.int .i64 q.firm, .int .i64 0, .int .i64 3] Try.func20 (by kernel_rfl) (by kernel_rfl) rfl (show [a.eval (.tmp 29), a.eval (.const (.int .i64 0)), a.eval (.const (.int .i64 3))] = [.int .i64 q.firm, .int .i64 0, .int .i64 3] from (by rw [show a.eval (.tmp 29) = .int .i64 q.firm from (hD 10 29 (by kernel_rfl))] <;> rfl)) u) (within_is q.firm 0 3 u (by omega) (by omega) (by omega))) ?_
        refine sv 13 rfl rfl rfl (fun a u hE hD hk => exec_move (.tmp 0) _ rfl (hE 0 (.slice (some ⟨g, off, none⟩) n c) (by kernel_rfl) (by kernel_rfl))) ?_
        refine sv 14 rfl rfl rfl (fun a u hE hD hk => exec_move (.tmp 8) _ rfl (hE 8 (.int .i64 (i : Int)) (by kernel_rfl) (by kernel_rfl))) ?_
        refine sv 15 rfl rfl rfl (fun a u hE hD hk => exec_ixo slAq (.tmp 31) (.tmp 32) (g) (off) n c i (off + i * 5) ((i : Int)) rfl (hD 12 31 (by kernel_rfl)) (hD 13 32 (by kernel_rfl)) (by first | rfl | omega) (hin') (by first | rfl | omega)) ?_
        refine sv 16 rfl rfl rfl (fun a u hE hD hk => exec_fldo 56 2 2 (.tmp 33) (g) (off + i * 5) (off + i * 5 + 2) rfl (hD 14 33 (by kernel_rfl)) (by kernel_rfl) rfl) ?_
        refine sv 17 rfl rfl rfl (fun a u hE hD hk => exec_loadi 3 Try.underlying3 (.tmp 34) ⟨g, off + i * 5 + 2, none⟩ (.int .i64 q.desk) rfl (hD 15 34 (by kernel_rfl)) (range_int (range_kept HE3.out hk) 2 _ rfl)) ?_
        refine fsteps_cons 18 rfl (fun a u hE hD hk => f_call (o := ⟨some 36, _, _, _, _, _⟩) 20 #[.int .i64 q.desk, .int .i64 0, .int .i64 2] rfl (wanted_none rfl _) (exec_call 20 _ [.tmp 35, .const (.int .i64 0), .const (.int .i64 2)] _ [.int .i64 q.desk, .int .i64 0, .int .i64 2] Try.func20 (by kernel_rfl) (by kernel_rfl) rfl (show [a.eval (.tmp 35), a.eval (.const (.int .i64 0)), a.eval (.const (.int .i64 2))] = [.int .i64 q.desk, .int .i64 0, .int .i64 2] from (by rw [show a.eval (.tmp 35) = .int .i64 q.desk from (hD 16 35 (by kernel_rfl))] <;> rfl)) u) (within_is q.desk 0 2 u (by omega) (by omega) (by omega))) ?_
        refine sv 19 rfl rfl rfl (fun a u hE hD hk => exec_move (.tmp 0) _ rfl (hE 0 (.slice (some ⟨g, off, none⟩) n c) (by kernel_rfl) (by kernel_rfl))) ?_
        refine sv 20 rfl rfl rfl (fun a u hE hD hk => exec_move (.tmp 8) _ rfl (hE 8 (.int .i64 (i : Int)) (by kernel_rfl) (by kernel_rfl))) ?_
        refine sv 21 rfl rfl rfl (fun a u hE hD hk => exec_ixo slAq (.tmp 37) (.tmp 38) (g) (off) n c i (off + i * 5) ((i : Int)) rfl (hD 18 37 (by kernel_rfl)) (hD 19 38 (by kernel_rfl)) (by first | rfl | omega) (hin') (by first | rfl | omega)) ?_
        refine sv 22 rfl rfl rfl (fun a u hE hD hk => exec_fldo 56 3 3 (.tmp 39) (g) (off + i * 5) (off + i * 5 + 3) rfl (hD 20 39 (by kernel_rfl)) (by kernel_rfl) rfl) ?_
        refine sv 23 rfl rfl rfl (fun a u hE hD hk => exec_loadi 3 Try.underlying3 (.tmp 40) ⟨g, off + i * 5 + 3, none⟩ (.int .i64 q.roles) rfl (hD 21 40 (by kernel_rfl)) (range_int (range_kept HE3.out hk) 3 _ rfl)) ?_
        refine fsteps_cons 24 rfl (fun a u hE hD hk => f_call (o := ⟨some 42, _, _, _, _, _⟩) 20 #[.int .i64 q.roles, .int .i64 1, .int .i64 15] rfl (wanted_none rfl _) (exec_call 20 _ [.tmp 41, .const (.int .i64 1), .const (.int .i64 15)] _ [.int .i64 q.roles, .int .i64 1, .int .i64 15] Try.func20 (by kernel_rfl) (by kernel_rfl) rfl (show [a.eval (.tmp 41), a.eval (.const (.int .i64 1)), a.eval (.const (.int .i64 15))] = [.int .i64 q.roles, .int .i64 1, .int .i64 15] from (by rw [show a.eval (.tmp 41) = .int .i64 q.roles from (hD 22 41 (by kernel_rfl))] <;> rfl)) u) (within_is q.roles 1 15 u (by omega) (by omega) (by omega))) ?_
        refine sv 25 rfl rfl rfl (fun a u hE hD hk => exec_move (.tmp 0) _ rfl (hE 0 (.slice (some ⟨g, off, none⟩) n c) (by kernel_rfl) (by kernel_rfl))) ?_
        refine sv 26 rfl rfl rfl (fun a u hE hD hk => exec_move (.tmp 8) _ rfl (hE 8 (.int .i64 (i : Int)) (by kernel_rfl) (by kernel_rfl))) ?_
        refine sv 27 rfl rfl rfl (fun a u hE hD hk => exec_ixo slAq (.tmp 43) (.tmp 44) (g) (off) n c i (off + i * 5) ((i : Int)) rfl (hD 24 43 (by kernel_rfl)) (hD 25 44 (by kernel_rfl)) (by first | rfl | omega) (hin') (by first | rfl | omega)) ?_
        refine sv 28 rfl rfl rfl (fun a u hE hD hk => exec_fldo 56 4 4 (.tmp 45) (g) (off + i * 5) (off + i * 5 + 4) rfl (hD 26 45 (by kernel_rfl)) (by kernel_rfl) rfl) ?_
        refine sv 29 rfl rfl rfl (fun a u hE hD hk => exec_loadi 3 Try.underlying3 (.tmp 46) ⟨g, off + i * 5 + 4, none⟩ (.int .i64 q.insts) rfl (hD 27 46 (by kernel_rfl)) (range_int (range_kept HE3.out hk) 4 _ rfl)) ?_
        refine fsteps_cons 30 rfl (fun a u hE hD hk => f_call (o := ⟨some 48, _, _, _, _, _⟩) 20 #[.int .i64 q.insts, .int .i64 0, .int .i64 255] rfl (wanted_none rfl _) (exec_call 20 _ [.tmp 47, .const (.int .i64 0), .const (.int .i64 255)] _ [.int .i64 q.insts, .int .i64 0, .int .i64 255] Try.func20 (by kernel_rfl) (by kernel_rfl) rfl (show [a.eval (.tmp 47), a.eval (.const (.int .i64 0)), a.eval (.const (.int .i64 255))] = [.int .i64 q.insts, .int .i64 0, .int .i64 255] from (by rw [show a.eval (.tmp 47) = .int .i64 q.insts from (hD 28 47 (by kernel_rfl))] <;> rfl)) u) (within_is q.insts 0 255 u (by omega) (by omega) (by omega))) ?_
        refine sv 31 rfl rfl rfl (fun a u hE hD hk => by rw [← HMq.out]; exact exec_mkT (.tmp 30) (.tmp 36) (.tmp 42) (.tmp 48) _ _ _ _ rfl (hD 11 30 (by kernel_rfl)) (hD 17 36 (by kernel_rfl)) (hD 23 42 (by kernel_rfl)) (hD 29 48 (by kernel_rfl))) ?_
        exact fsteps_nil
      intro gv w4 hV k4
      rw [show dstsOf _ 31 = [19, 20, 21, 22, 23, 24, 25, 26, 27, 28, 29, 30, 31, 32, 33, 34, 35, 36, 37, 38, 39, 40, 41, 42, 43, 44, 45, 46, 47, 48, 49] by kernel_rfl]
      simp only [List.foldl_cons, List.foldl_nil, List.setIfInBounds_toArray, List.set_cons_succ, List.set_cons_zero, List.drop_succ_cons, List.drop_zero]
      rw [show gv 24 = .int .i64 (k : Int) from hV 5 24 (by kernel_rfl)]
      rw [show gv 49 = m.v from hV 30 49 (by kernel_rfl)]
      clear hV
      refine l_val (o := ⟨some 50, _, _, _, _, _⟩) (.pointer (some ⟨gx, k * 37, none⟩)) rfl (exec_ixA (.tmp 7) (.tmp 24) gx k _ rfl (by kernel_rfl) (by kernel_rfl) rfl hk32) ?_
      simp only [Act.put, List.setIfInBounds_toArray, List.set_cons_succ, List.set_cons_zero]
      refine l_putT (o := ⟨none, _, _, _, _, _⟩) gx k 26 Y m (.tmp 50) (.tmp 49) rfl rfl (by kernel_rfl) (by kernel_rfl) (HX3.out.kept k4) hk32 ?_
      intro w5 hB5 hk5 hs5
      simp only [Act.put]
      refine wpList_nil ?_
      rw [← HNx.out] at hB5
      have HB5 := Lib.hid hB5
      have kr5 : Keep (· = gx) w2 w5 := (hkr.kept (k3.trans k4)).trans hk5 (fun _ _ h => h)
      clear hB5 hk5 hs5 HX3 HE3 HNx HMq HWk k3 k4 hkr
      go_wp2
      exact ⟨⟨i + 1, by simp, by omega, by omega, HB5, kr5⟩, by simp [intOf]; omega⟩
    · have HLA := Lib.hid (someL_all l i (by rw [HN.out]; omega) hi)
      rw [HLA.out] at HXr
      have HY := HR
      unfold someM at HY
      clear HLA HR
      generalize someL (l.take 40) = Y at HXr HY
      have HTr := Lib.hid (range_keep HT.out hkr (by omega))
      have HNr := Lib.hid (HN2.out.keep hkr (by omega))
      clear HT HN2 HA
      go_upto_region 3 with fail
      refine wp_text 8 [.eq (.int .i64 (i : Int)), .eq (.slice A n c), .eq (.int .i64 (n : Int)), .eq (.bool (decide (((i : Int) : Int) < ((n : Int) : Int)))), .eq (.bool (decide (((i : Int) : Int) < ((n : Int) : Int)))), .cond (decide (((i : Int) : Int) < ((n : Int) : Int))) (.eq (.int .i64 (i : Int))), .cond (decide (((i : Int) : Int) < ((n : Int) : Int))) (.eq (.bool (decide (((i : Int) : Int) < (40 : Int))))), .eq (.bool false)] rfl (by kernel_rfl) ?_ ?_
      · refine sv 1 rfl rfl rfl (fun a u hE hD hk => exec_move (.tmp 8) _ rfl (hE 8 (.int .i64 (i : Int)) (by kernel_rfl) (by kernel_rfl))) ?_
        refine sv 2 rfl rfl rfl (fun a u hE hD hk => exec_move (.tmp 0) _ rfl (hE 0 (.slice A n c) (by kernel_rfl) (by kernel_rfl))) ?_
        refine sv 3 rfl rfl rfl (fun a u hE hD hk => exec_len (.tmp 10) _ _ slAq.und A n c rfl (hD 1 10 (by kernel_rfl))) ?_
        refine sv 4 rfl rfl rfl (fun a u hE hD hk => exec_ltn (p := (i : Int)) (q := (n : Int)) rfl (hD 0 9 (by kernel_rfl)) (hD 2 11 (by kernel_rfl))) ?_
        refine sv 5 rfl rfl rfl (fun a u hE hD hk => exec_move (.tmp 12) _ rfl (hD 3 12 (by kernel_rfl))) ?_
        refine fsteps_cons 6 rfl (fun a u hE hD hk => f_if ((decide (((i : Int) : Int) < ((n : Int) : Int)))) rfl rfl rfl (hD 4 13 (by kernel_rfl)) (fun hb => f_val (o := ⟨some 14, _, _, _, _, _⟩) (.int .i64 (i : Int)) rfl (wanted_b rfl rfl (hD 4 13 (by kernel_rfl)) (eq_true_of hb)) (exec_move (.tmp 8) _ rfl (hE 8 (.int .i64 (i : Int)) (by kernel_rfl) (by kernel_rfl))) rfl)) ?_
        refine fsteps_cons 7 rfl (fun a u hE hD hk => f_if ((decide (((i : Int) : Int) < ((n : Int) : Int)))) rfl rfl rfl (hD 4 13 (by kernel_rfl)) (fun hb => f_val (o := ⟨some 15, _, _, _, _, _⟩) (.bool (decide (((i : Int) : Int) < (40 : Int)))) rfl (wanted_b rfl rfl (hD 4 13 (by kernel_rfl)) (eq_true_of hb)) (exec_ltn (p := (i : Int)) (q := 40) rfl ((hD 5 14 (by kernel_rfl)).1 hb) rfl) rfl)) ?_
        refine fsteps_cons 8 rfl (fun a u hE hD hk => f_as (show (((decide (((i : Int) : Int) < ((n : Int) : Int))) && (decide (((i : Int) : Int) < (40 : Int)))) : Bool) = false from (by rw [Bool.and_eq_false_iff]; simp only [decide_eq_false_iff_not]; omega)) (f_val (o := ⟨some 16, _, _, _, _, _⟩) (.bool ((decide (((i : Int) : Int) < ((n : Int) : Int))) && (decide (((i : Int) : Int) < (40 : Int))))) rfl (wanted_none rfl _) (exec_pickand (.tmp 13) (.tmp 15) (.const (.bool false)) ((decide (((i : Int) : Int) < ((n : Int) : Int)))) ((decide (((i : Int) : Int) < (40 : Int)))) rfl (hD 4 13 (by kernel_rfl)) (fun hb2 => ((hD 6 15 (by kernel_rfl)).1 hb2)) rfl) rfl)) ?_
        exact fsteps_nil
      intro gv wa hV ka
      rw [show dstsOf _ 8 = [9, 10, 11, 12, 13, 14, 15, 16] by kernel_rfl]
      simp only [List.foldl_cons, List.foldl_nil, List.setIfInBounds_toArray, List.set_cons_succ, List.set_cons_zero, List.drop_succ_cons, List.drop_zero]
      rw [show gv 16 = .bool false from hV 7 16 (by kernel_rfl)]
      clear hV
      refine wpList_nil ?_
      have HXa := Lib.hid (HXr.out.kept ka)
      have HTa := Lib.hid (range_kept HTr.out ka)
      have HNa := Lib.hid (HNr.out.kept ka)
      have kra : Keep (· = gx) w2 wa := hkr.kept ka
      clear HXr HTr HNr hkr ka
      by_cases hat : 0 ≤ at_ ∧ at_ < 32
      · obtain ⟨j, hj, rfl⟩ : ∃ j : Nat, j < 32 ∧ at_ = (j : Int) := ⟨at_.toNat, by omega, by omega⟩
        have HY2 : Hid (Y.put j t = R) := by show _ = _; rw [← HY.out, if_pos hat, Int.toNat_natCast]
        clear HY
        go_upto_region 6 with fail
        refine wp_text 6 [.eq (.int .i64 (j : Int)), .eq (.bool (decide ((0 : Int) ≤ ((j : Int) : Int)))), .eq (.bool (decide ((0 : Int) ≤ ((j : Int) : Int)))), .cond (decide ((0 : Int) ≤ ((j : Int) : Int))) (.eq (.int .i64 (j : Int))), .cond (decide ((0 : Int) ≤ ((j : Int) : Int))) (.eq (.bool (decide (((j : Int) : Int) < (32 : Int))))), .eq (.bool true)] rfl (by kernel_rfl) ?_ ?_
        · refine sv 1 rfl rfl rfl (fun a u hE hD hk => exec_move (.tmp 1) _ rfl (hE 1 (.int .i64 (j : Int)) (by kernel_rfl) (by kernel_rfl))) ?_
          refine sv 2 rfl rfl rfl (fun a u hE hD hk => exec_gen (p := (j : Int)) (q := 0) rfl (hD 0 51 (by kernel_rfl)) rfl) ?_
          refine sv 3 rfl rfl rfl (fun a u hE hD hk => exec_move (.tmp 52) _ rfl (hD 1 52 (by kernel_rfl))) ?_
          refine fsteps_cons 4 rfl (fun a u hE hD hk => f_if ((decide ((0 : Int) ≤ ((j : Int) : Int)))) rfl rfl rfl (hD 2 53 (by kernel_rfl)) (fun hb => f_val (o := ⟨some 54, _, _, _, _, _⟩) (.int .i64 (j : Int)) rfl (wanted_b rfl rfl (hD 2 53 (by kernel_rfl)) (eq_true_of hb)) (exec_move (.tmp 1) _ rfl (hE 1 (.int .i64 (j : Int)) (by kernel_rfl) (by kernel_rfl))) rfl)) ?_
          refine fsteps_cons 5 rfl (fun a u hE hD hk => f_if ((decide ((0 : Int) ≤ ((j : Int) : Int)))) rfl rfl rfl (hD 2 53 (by kernel_rfl)) (fun hb => f_val (o := ⟨some 55, _, _, _, _, _⟩) (.bool (decide (((j : Int) : Int) < (32 : Int)))) rfl (wanted_b rfl rfl (hD 2 53 (by kernel_rfl)) (eq_true_of hb)) (exec_ltn (p := (j : Int)) (q := 32) rfl ((hD 3 54 (by kernel_rfl)).1 hb) rfl) rfl)) ?_
          refine fsteps_cons 6 rfl (fun a u hE hD hk => f_as (show (((decide ((0 : Int) ≤ ((j : Int) : Int))) && (decide (((j : Int) : Int) < (32 : Int)))) : Bool) = true from (by rw [Bool.and_eq_true]; simp only [decide_eq_true_eq]; omega)) (f_val (o := ⟨some 56, _, _, _, _, _⟩) (.bool ((decide ((0 : Int) ≤ ((j : Int) : Int))) && (decide (((j : Int) : Int) < (32 : Int))))) rfl (wanted_none rfl _) (exec_pickand (.tmp 53) (.tmp 55) (.const (.bool false)) ((decide ((0 : Int) ≤ ((j : Int) : Int)))) ((decide (((j : Int) : Int) < (32 : Int)))) rfl (hD 2 53 (by kernel_rfl)) (fun hb2 => ((hD 4 55 (by kernel_rfl)).1 hb2)) rfl) rfl)) ?_
          exact fsteps_nil
        intro gv wb hV kb
        rw [show dstsOf _ 6 = [51, 52, 53, 54, 55, 56] by kernel_rfl]
        simp only [List.foldl_cons, List.foldl_nil, List.setIfInBounds_toArray, List.set_cons_succ, List.set_cons_zero, List.drop_succ_cons, List.drop_zero]
        rw [show gv 56 = .bool true from hV 5 56 (by kernel_rfl)]
        clear hV
        refine wpList_nil ?_
        have HXb := Lib.hid (HXa.out.kept kb)
        have HTb := Lib.hid (range_kept HTa.out kb)
        have HNb := Lib.hid (HNa.out.kept kb)
        have krb : Keep (· = gx) w2 wb := kra.kept kb
        clear HXa HTa HNa kra kb
        go_upto_region 7 with fail
        refine wp_text 3 [.eq (.int .i64 (j : Int)), .eq (t.v), .eq (.pointer (some ⟨gx, j * 37, none⟩))] rfl (by kernel_rfl) ?_ ?_
        · refine sv 1 rfl rfl rfl (fun a u hE hD hk => exec_move (.tmp 1) _ rfl (hE 1 (.int .i64 (j : Int)) (by kernel_rfl) (by kernel_rfl))) ?_
          refine sv 2 rfl rfl rfl (fun a u hE hD hk => exec_ldS 25 _ (.tmp 5) (gt) (0) (t.cells) rfl (hE 5 (.pointer (some ⟨gt, 0, none⟩)) (by kernel_rfl) (by kernel_rfl)) (range_kept (HTb.out) hk) Try.underlying25 (by rw [Trd.len37]; exact szT)) ?_
          refine sv 3 rfl rfl rfl (fun a u hE hD hk => exec_ixA (.tmp 7) (.tmp 57) (gx) j ((j : Int)) rfl (hE 7 (.pointer (some ⟨gx, 0, none⟩)) (by kernel_rfl) (by kernel_rfl)) (hD 0 57 (by kernel_rfl)) (by first | rfl | omega) (hj)) ?_
          exact fsteps_nil
        intro gv wc hV kc
        rw [show dstsOf _ 3 = [57, 58, 59] by kernel_rfl]
        simp only [List.foldl_cons, List.foldl_nil, List.setIfInBounds_toArray, List.set_cons_succ, List.set_cons_zero, List.drop_succ_cons, List.drop_zero]
        rw [show gv 59 = .pointer (some ⟨gx, j * 37, none⟩) from hV 2 59 (by kernel_rfl)]
        rw [show gv 58 = t.v from hV 1 58 (by kernel_rfl)]
        clear hV
        refine l_putT (o := ⟨none, _, _, _, _, _⟩) gx j 26 Y t (.tmp 59) (.tmp 58) rfl rfl (by kernel_rfl) (by kernel_rfl) (HXb.out.kept kc) hj ?_
        intro wd hBd hkd hsd
        simp only [Act.put]
        refine wpList_nil ?_
        rw [HY2.out] at hBd
        have HXd := Lib.hid hBd
        have HNd := Lib.hid ((HNb.out.kept kc).keep hkd (by omega))
        have kwd : Kept w wd := kw2.trans' ((krb.kept kc).trans hkd (fun _ _ h => h)) (by omega)
        clear hBd hkd hsd HXb HTb HNb krb kc
        go_upto_region 8 with fail
        refine wp_text 1 [.eq (R.v)] rfl (by kernel_rfl) ?_ ?_
        · refine sv 1 rfl rfl rfl (fun a u hE hD hk => exec_ldX R (.tmp 7) (gx) _ rfl (hE 7 (.pointer (some ⟨gx, 0, none⟩)) (by kernel_rfl) (by kernel_rfl)) (HXd.out.kept hk)) ?_
          exact fsteps_nil
        intro gv we hV ke
        rw [show dstsOf _ 1 = [60] by kernel_rfl]
        simp only [List.foldl_cons, List.foldl_nil, List.setIfInBounds_toArray, List.set_cons_succ, List.set_cons_zero, List.drop_succ_cons, List.drop_zero]
        rw [show gv 60 = R.v from hV 0 60 (by kernel_rfl)]
        clear hV
        refine l_setS (o := ⟨none, _, _, _, _, _⟩) 26 gr 26 zeroX.cells R.cells (.tmp 6) (.tmp 60) rfl rfl (by kernel_rfl) (by kernel_rfl) (HNd.out.kept ke) (by rw [Trds.len]; exact szX) (by rw [Trds.len, Trds.len]) (Trds.one _) ?_
        intro wf hBf hkf hsf
        simp only [Act.put]
        refine wpList_nil ?_
        have kwf : Kept w wf := (kwd.trans ke).trans' hkf (by omega)
        clear HXd HNd hkf hsf ke
        go_wp2
        refine bodyPost_ret (results_cellX (p := 6) rfl _ _ gr _ R rfl hBf) rfl ?_
        exact ⟨_, rfl, rfl, kwf⟩
      · have HY2 : Hid (Y = R) := by show _ = _; rw [← HY.out, if_neg hat]
        clear HY
        go_upto_region 6 with fail
        refine wp_text 6 [.eq (.int .i64 at_), .eq (.bool (decide ((0 : Int) ≤ (at_ : Int)))), .eq (.bool (decide ((0 : Int) ≤ (at_ : Int)))), .cond (decide ((0 : Int) ≤ (at_ : Int))) (.eq (.int .i64 at_)), .cond (decide ((0 : Int) ≤ (at_ : Int))) (.eq (.bool (decide ((at_ : Int) < (32 : Int))))), .eq (.bool false)] rfl (by kernel_rfl) ?_ ?_
        · refine sv 1 rfl rfl rfl (fun a u hE hD hk => exec_move (.tmp 1) _ rfl (hE 1 (.int .i64 at_) (by kernel_rfl) (by kernel_rfl))) ?_
          refine sv 2 rfl rfl rfl (fun a u hE hD hk => exec_gen (p := at_) (q := 0) rfl (hD 0 51 (by kernel_rfl)) rfl) ?_
          refine sv 3 rfl rfl rfl (fun a u hE hD hk => exec_move (.tmp 52) _ rfl (hD 1 52 (by kernel_rfl))) ?_
          refine fsteps_cons 4 rfl (fun a u hE hD hk => f_if ((decide ((0 : Int) ≤ (at_ : Int)))) rfl rfl rfl (hD 2 53 (by kernel_rfl)) (fun hb => f_val (o := ⟨some 54, _, _, _, _, _⟩) (.int .i64 at_) rfl (wanted_b rfl rfl (hD 2 53 (by kernel_rfl)) (eq_true_of hb)) (exec_move (.tmp 1) _ rfl (hE 1 (.int .i64 at_) (by kernel_rfl) (by kernel_rfl))) rfl)) ?_
          refine fsteps_cons 5 rfl (fun a u hE hD hk => f_if ((decide ((0 : Int) ≤ (at_ : Int)))) rfl rfl rfl (hD 2 53 (by kernel_rfl)) (fun hb => f_val (o := ⟨some 55, _, _, _, _, _⟩) (.bool (decide ((at_ : Int) < (32 : Int)))) rfl (wanted_b rfl rfl (hD 2 53 (by kernel_rfl)) (eq_true_of hb)) (exec_ltn (p := at_) (q := 32) rfl ((hD 3 54 (by kernel_rfl)).1 hb) rfl) rfl)) ?_
          refine fsteps_cons 6 rfl (fun a u hE hD hk => f_as (show (((decide ((0 : Int) ≤ (at_ : Int))) && (decide ((at_ : Int) < (32 : Int)))) : Bool) = false from (by rw [Bool.and_eq_false_iff]; simp only [decide_eq_false_iff_not]; omega)) (f_val (o := ⟨some 56, _, _, _, _, _⟩) (.bool ((decide ((0 : Int) ≤ (at_ : Int))) && (decide ((at_ : Int) < (32 : Int))))) rfl (wanted_none rfl _) (exec_pickand (.tmp 53) (.tmp 55) (.const (.bool false)) ((decide ((0 : Int) ≤ (at_ : Int)))) ((decide ((at_ : Int) < (32 : Int)))) rfl (hD 2 53 (by kernel_rfl)) (fun hb2 => ((hD 4 55 (by kernel_rfl)).1 hb2)) rfl) rfl)) ?_
          exact fsteps_nil
        intro gv wb hV kb
        rw [show dstsOf _ 6 = [51, 52, 53, 54, 55, 56] by kernel_rfl]
        simp only [List.foldl_cons, List.foldl_nil, List.setIfInBounds_toArray, List.set_cons_succ, List.set_cons_zero, List.drop_succ_cons, List.drop_zero]
        rw [show gv 56 = .bool false from hV 5 56 (by kernel_rfl)]
        clear hV
        refine wpList_nil ?_
        rw [HY2.out] at HXa
        have HXd := Lib.hid (HXa.out.kept kb)
        have HNd := Lib.hid (HNa.out.kept kb)
        have kwd : Kept w wb := kw2.trans' (kra.kept kb) (by omega)
        clear HXa HTa HNa kra kb
        go_upto_region 8 with fail
        refine wp_text 1 [.eq (R.v)] rfl (by kernel_rfl) ?_ ?_
        · refine sv 1 rfl rfl rfl (fun a u hE hD hk => exec_ldX R (.tmp 7) (gx) _ rfl (hE 7 (.pointer (some ⟨gx, 0, none⟩)) (by kernel_rfl) (by kernel_rfl)) (HXd.out.kept hk)) ?_
          exact fsteps_nil
        intro gv we hV ke
        rw [show dstsOf _ 1 = [60] by kernel_rfl]
        simp only [List.foldl_cons, List.foldl_nil, List.setIfInBounds_toArray, List.set_cons_succ, List.set_cons_zero, List.drop_succ_cons, List.drop_zero]
        rw [show gv 60 = R.v from hV 0 60 (by kernel_rfl)]
        clear hV
        refine l_setS (o := ⟨none, _, _, _, _, _⟩) 26 gr 26 zeroX.cells R.cells (.tmp 6) (.tmp 60) rfl rfl (by kernel_rfl) (by kernel_rfl) (HNd.out.kept ke) (by rw [Trds.len]; exact szX) (by rw [Trds.len, Trds.len]) (Trds.one _) ?_
        intro wf hBf hkf hsf
        simp only [Act.put]
        refine wpList_nil ?_
        have kwf : Kept w wf := (kwd.trans ke).trans' hkf (by omega)
        clear HXd HNd hkf hsf ke
        go_wp2
        refine bodyPost_ret (results_cellX (p := 6) rfl _ _ gr _ R rfl hBf) rfl ?_
        exact ⟨_, rfl, rfl, kwf⟩
end Go.Proofs.Ytgodehggiddndaa
