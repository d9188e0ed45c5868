/-
  The contracts of package level's place, Less, Remove, and of slices.IndexFunc, slices.Delete as they are called there. Condition: a level as it may be.
-/
import Derived.Test.YtlbkehpdohihlaaLvlX
namespace Go.Proofs.Ytlbkehpdohihlaa
open Go.RowKit
set_option linter.unusedVariables false

def Ent.is (t i : Int) (e : Ent) : Bool := decide (e.o.tr = t) && decide (e.o.id = i)
/-- the place of the first one of this trader and id; the length: nowhere -/
def idxM (t i : Int) (X : List Ent) : Nat := X.findIdx (Ent.is t i)
def placeM (t i : Int) (X : List Ent) : Int := if idxM t i X < X.length then (idxM t i X : Int) else -1
theorem idx_of {t i : Int} {X : List Ent} {k : Nat} {e : Ent} (h : ∀ (j : Nat) (x : Ent), j < k → X[j]? = some x → x.is t i = false) (he : X[k]? = some e) (hm : e.is t i = true) : idxM t i X = k := by
  unfold idxM
  obtain ⟨hk, rfl⟩ := List.getElem?_eq_some_iff.1 he
  rw [List.findIdx_eq hk]
  refine ⟨hm, fun j hj => ?_⟩
  exact h j _ hj (List.getElem?_eq_getElem (by omega))
theorem idx_none {t i : Int} {X : List Ent} (h : ∀ (j : Nat) (x : Ent), j < X.length → X[j]? = some x → x.is t i = false) : idxM t i X = X.length := by
  unfold idxM
  apply List.findIdx_eq_length.2
  intro x hx
  obtain ⟨j, hj, rfl⟩ := List.getElem_of_mem hx
  exact h j _ hj (List.getElem?_eq_getElem hj)
theorem idx_is {t i : Int} {X : List Ent} (h : idxM t i X < X.length) : ∃ e, X[idxM t i X]? = some e ∧ e.is t i = true := ⟨_, List.getElem?_eq_getElem h, List.findIdx_getElem⟩
/-- Less -/
def lessM (t i q : Int) (X : List Ent) : Bool × List Ent :=
  match X[idxM t i X]? with
  | none => (false, X)
  | some e => if 1 ≤ q ∧ q ≤ e.o.qty then (true, X.set (idxM t i X) ⟨e.o.q q, mn e.n q⟩) else (false, X)
/-- Remove -/
def removeM (t i : Int) (X : List Ent) : Ord × Bool × List Ent :=
  match X[idxM t i X]? with
  | none => (zeroO, false, X)
  | some e => (e.o, true, X.eraseIdx (idxM t i X))

/-- what is captured -/
def caps (g1 g2 : Nat) : List Value := [.pointer (some ⟨g1, 0, none⟩), .pointer (some ⟨g2, 0, none⟩)]
/-- the closure that place makes -/
def clo (g1 g2 : Nat) : Value := .func (.func 39) #[] (caps g1 g2).toArray
section
variable {a : Act} {o : Oper} {u : World}
/-- a call of a closure -/
theorem exec_callv (f : Nat) (fn : Func) (x : Operand) (xs : List Operand) (ts : Array TypeId) (args caps : List Value) (hf : Try.prog.funcs[f]? = some fn) (hn : (fn.name == "runtime.NumGoroutine") = false) (hb : fn.body.isNone = false) (hop : o.op = .call { callee := .value x, args := xs.toArray, argTypes := ts }) (hv : a.eval x = .func (.func f) #[] caps.toArray) (hx : xs.map a.eval = args) :
    (execOp a.eval o).run Try.prog u = .ok (.enter f (args ++ caps).toArray) u := by
  have hc : (callFunc f (args ++ caps).toArray).run Try.prog u = .ok (.enter f (args ++ caps).toArray) u := by
    have hn' : ¬ fn.name = "runtime.NumGoroutine" := by simpa using hn
    have hb' : ¬ fn.body = none := by
      intro h
      rw [h] at hb
      cases hb
    simp [callFunc, hf, hn', hb']
  unfold execOp
  simp only [hop, resolve, invoke, hv, List.map_toArray, hx, Sem.run_bind]
  simp [Deferred.ofValue, hc]
theorem exec_mkf (x y : Operand) (g1 g2 : Nat) (hop : o.op = .makeFunc (.func 39) #[] #[x, y]) (hx : a.eval x = .pointer (some ⟨g1, 0, none⟩)) (hy : a.eval y = .pointer (some ⟨g2, 0, none⟩)) : (execOp a.eval o).run Try.prog u = .ok (.value (clo g1 g2)) u := by
  unfold execOp
  simp only [hop, Instr.makeFunc, List.map_toArray, List.map_cons, List.map_nil, hx, hy]
  rfl
end
set_option maxRecDepth 100000 in
theorem is_any (e : Ent) (t i : Int) (g1 g2 : Nat) (w : World) (h1 : Blk w g1 3 [.int .i64 t]) (h2 : Blk w g2 3 [.int .i64 i]) : Gives 39 #[e.v, .pointer (some ⟨g1, 0, none⟩), .pointer (some ⟨g2, 0, none⟩)] w (.eq (.bool (e.is t i))) := by
  refine gives_eq ?_
  have H1 := Lib.hid h1
  have H2 := Lib.hid h2
  clear h1 h2
  go_enter Try.func39, Try.ntmps39
  go_upto_region 0 with fail
  refine wp_text 2 [.fresh w.heap.size 61 (e.cells), .eq (.bool false)] rfl (by kernel_rfl) ?_ ?_
  · refine fsteps_cons 1 rfl (fun a u hE hD hk => f_new (o := ⟨some 3, _, _, _, _, _⟩) (.pointer (some ⟨u.heap.size, 0, none⟩)) _ rfl (wanted_none rfl _) (exec_box 61 (.tmp 0) (e.cells) rfl (hE 0 (e.v) (by kernel_rfl) (by kernel_rfl))) ⟨_, rfl, hk.size, Blk.new u _ _⟩ ((Keep.refl _ u).alloc _)) ?_
    refine fsteps_cons 2 rfl (fun a u hE hD hk => f_val (o := ⟨some 4, _, _, _, _, _⟩) (.bool false) rfl (wanted_none rfl _) (exec_assign (.const (.bool false)) (.bool false) rfl rfl) rfl) ?_
    exact fsteps_nil
  intro gv w1 hV k1
  rw [show dstsOf _ 2 = [3, 4] by kernel_rfl]
  simp only [List.foldl_cons, List.foldl_nil, List.setIfInBounds_toArray, List.set_cons_succ, List.set_cons_zero, List.drop_succ_cons, List.drop_zero]
  have hv3 : (.fresh w.heap.size 61 (e.cells) : Kn).p (gv 3) w1 := hV 0 3 (by kernel_rfl)
  generalize gv 3 = v3 at hv3 ⊢
  clear hV
  obtain ⟨g, rfl, hg, hB⟩ := hv3
  refine wpList_nil ?_
  have HB := Lib.hid (blk_range hB)
  have H11 := Lib.hid (H1.out.kept k1)
  have H21 := Lib.hid (H2.out.kept k1)
  clear hB H1 H2
  go_upto_region 1 with fail
  refine wp_text 13 [.eq (.pointer (some ⟨g, 0, none⟩)), .eq (.pointer (some ⟨g, 0, none⟩)), .eq (.int .i64 e.o.tr), .eq (.int .i64 t), .eq (.bool (decide ((e.o.tr : Int) = (t : Int)))), .eq (.bool (decide ((e.o.tr : Int) = (t : Int)))), .cond (decide ((e.o.tr : Int) = (t : Int))) (.eq (.pointer (some ⟨g, 0, none⟩))), .cond (decide ((e.o.tr : Int) = (t : Int))) (.eq (.pointer (some ⟨g, 1, none⟩))), .cond (decide ((e.o.tr : Int) = (t : Int))) (.eq (.int .i64 e.o.id)), .cond (decide ((e.o.tr : Int) = (t : Int))) (.eq (.int .i64 i)), .cond (decide ((e.o.tr : Int) = (t : Int))) (.eq (.bool (decide ((e.o.id : Int) = (i : Int))))), .eq (.bool ((decide ((e.o.tr : Int) = (t : Int))) && (decide ((e.o.id : Int) = (i : Int))))), .eq (.bool ((decide ((e.o.tr : Int) = (t : Int))) && (decide ((e.o.id : Int) = (i : Int)))))] rfl (by kernel_rfl) ?_ ?_
  · refine fsteps_cons 1 rfl (fun a u hE hD hk => f_val (o := ⟨some 5, _, _, _, _, _⟩) (.pointer (some ⟨g, 0, none⟩)) rfl (wanted_none rfl _) (exec_fldo 61 0 0 (.tmp 3) (g) (0) (0) rfl (hE 3 (.pointer (some ⟨g, 0, none⟩)) (by kernel_rfl) (by kernel_rfl)) (by kernel_rfl) rfl) rfl) ?_
    refine fsteps_cons 2 rfl (fun a u hE hD hk => f_val (o := ⟨some 6, _, _, _, _, _⟩) (.pointer (some ⟨g, 0, none⟩)) rfl (wanted_none rfl _) (exec_fldo 25 0 0 (.tmp 5) (g) (0) (0) rfl (hD 0 5 (by kernel_rfl)) (by kernel_rfl) rfl) rfl) ?_
    refine fsteps_cons 3 rfl (fun a u hE hD hk => f_val (o := ⟨some 7, _, _, _, _, _⟩) (.int .i64 e.o.tr) rfl (wanted_none rfl _) (exec_loadi 3 Try.underlying3 (.tmp 6) ⟨g, 0, none⟩ (.int .i64 e.o.tr) rfl (hD 1 6 (by kernel_rfl)) (range_int (range_kept HB.out hk) 0 _ rfl)) rfl) ?_
    refine fsteps_cons 4 rfl (fun a u hE hD hk => f_val (o := ⟨some 8, _, _, _, _, _⟩) (.int .i64 t) rfl (wanted_none rfl _) (exec_loadi 3 Try.underlying3 (.tmp 1) ⟨g1, 0, none⟩ (.int .i64 t) rfl (hE 1 (.pointer (some ⟨g1, 0, none⟩)) (by kernel_rfl) (by kernel_rfl)) (by rw [(H11.out.kept hk).cell]; rfl)) rfl) ?_
    refine fsteps_cons 5 rfl (fun a u hE hD hk => f_val (o := ⟨some 9, _, _, _, _, _⟩) (.bool (decide ((e.o.tr : Int) = (t : Int)))) rfl (wanted_none rfl _) (exec_eqn (p := e.o.tr) (q := t) rfl (hD 2 7 (by kernel_rfl)) (hD 3 8 (by kernel_rfl))) rfl) ?_
    refine fsteps_cons 6 rfl (fun a u hE hD hk => f_val (o := ⟨some 10, _, _, _, _, _⟩) (.bool (decide ((e.o.tr : Int) = (t : Int)))) rfl (wanted_none rfl _) (exec_move (.tmp 9) (.bool (decide ((e.o.tr : Int) = (t : Int)))) rfl (hD 4 9 (by kernel_rfl))) rfl) ?_
    refine fsteps_cons 7 rfl (fun a u hE hD hk => f_if ((decide ((e.o.tr : Int) = (t : Int)))) rfl rfl rfl (hD 5 10 (by kernel_rfl)) (fun hb => f_val (o := ⟨some 11, _, _, _, _, _⟩) (.pointer (some ⟨g, 0, none⟩)) rfl (wanted_b rfl rfl (hD 5 10 (by kernel_rfl)) (eq_true_of hb)) (exec_fldo 61 0 0 (.tmp 3) (g) (0) (0) rfl (hE 3 (.pointer (some ⟨g, 0, none⟩)) (by kernel_rfl) (by kernel_rfl)) (by kernel_rfl) rfl) rfl)) ?_
    refine fsteps_cons 8 rfl (fun a u hE hD hk => f_if ((decide ((e.o.tr : Int) = (t : Int)))) rfl rfl rfl (hD 5 10 (by kernel_rfl)) (fun hb => f_val (o := ⟨some 12, _, _, _, _, _⟩) (.pointer (some ⟨g, 1, none⟩)) rfl (wanted_b rfl rfl (hD 5 10 (by kernel_rfl)) (eq_true_of hb)) (exec_fldo 25 1 1 (.tmp 11) (g) (0) (1) rfl ((hD 6 11 (by kernel_rfl)).1 hb) (by kernel_rfl) rfl) rfl)) ?_
    refine fsteps_cons 9 rfl (fun a u hE hD hk => f_if ((decide ((e.o.tr : Int) = (t : Int)))) rfl rfl rfl (hD 5 10 (by kernel_rfl)) (fun hb => f_val (o := ⟨some 13, _, _, _, _, _⟩) (.int .i64 e.o.id) rfl (wanted_b rfl rfl (hD 5 10 (by kernel_rfl)) (eq_true_of hb)) (exec_loadi 3 Try.underlying3 (.tmp 12) ⟨g, 1, none⟩ (.int .i64 e.o.id) rfl ((hD 7 12 (by kernel_rfl)).1 hb) (range_int (range_kept HB.out hk) 1 _ rfl)) rfl)) ?_
    refine fsteps_cons 10 rfl (fun a u hE hD hk => f_if ((decide ((e.o.tr : Int) = (t : Int)))) rfl rfl rfl (hD 5 10 (by kernel_rfl)) (fun hb => f_val (o := ⟨some 14, _, _, _, _, _⟩) (.int .i64 i) rfl (wanted_b rfl rfl (hD 5 10 (by kernel_rfl)) (eq_true_of hb)) (exec_loadi 3 Try.underlying3 (.tmp 2) ⟨g2, 0, none⟩ (.int .i64 i) rfl (hE 2 (.pointer (some ⟨g2, 0, none⟩)) (by kernel_rfl) (by kernel_rfl)) (by rw [(H21.out.kept hk).cell]; rfl)) rfl)) ?_
    refine fsteps_cons 11 rfl (fun a u hE hD hk => f_if ((decide ((e.o.tr : Int) = (t : Int)))) rfl rfl rfl (hD 5 10 (by kernel_rfl)) (fun hb => f_val (o := ⟨some 15, _, _, _, _, _⟩) (.bool (decide ((e.o.id : Int) = (i : Int)))) rfl (wanted_b rfl rfl (hD 5 10 (by kernel_rfl)) (eq_true_of hb)) (exec_eqn (p := e.o.id) (q := i) rfl ((hD 8 13 (by kernel_rfl)).1 hb) ((hD 9 14 (by kernel_rfl)).1 hb)) rfl)) ?_
    refine fsteps_cons 12 rfl (fun a u hE hD hk => f_val (o := ⟨some 16, _, _, _, _, _⟩) (.bool ((decide ((e.o.tr : Int) = (t : Int))) && (decide ((e.o.id : Int) = (i : Int))))) rfl (wanted_none rfl _) (exec_pickand (.tmp 10) (.tmp 15) (.const (.bool false)) ((decide ((e.o.tr : Int) = (t : Int)))) ((decide ((e.o.id : Int) = (i : Int)))) rfl (hD 5 10 (by kernel_rfl)) (fun hb2 => ((hD 10 15 (by kernel_rfl)).1 hb2)) rfl) rfl) ?_
    refine fsteps_cons 13 rfl (fun a u hE hD hk => f_val (o := ⟨some 4, _, _, _, _, _⟩) (.bool ((decide ((e.o.tr : Int) = (t : Int))) && (decide ((e.o.id : Int) = (i : Int))))) rfl (wanted_none rfl _) (exec_assign (.tmp 16) (.bool ((decide ((e.o.tr : Int) = (t : Int))) && (decide ((e.o.id : Int) = (i : Int))))) rfl (hD 11 16 (by kernel_rfl))) rfl) ?_
    exact fsteps_nil
  intro gv w2 hV k2
  rw [show dstsOf _ 13 = [5, 6, 7, 8, 9, 10, 11, 12, 13, 14, 15, 16, 4] by kernel_rfl]
  simp only [List.foldl_cons, List.foldl_nil, List.setIfInBounds_toArray, List.set_cons_succ, List.set_cons_zero, List.drop_succ_cons, List.drop_zero]
  rw [show gv 4 = .bool ((decide ((e.o.tr : Int) = (t : Int))) && (decide ((e.o.id : Int) = (i : Int)))) from hV 12 4 (by kernel_rfl)]
  clear hV
  refine wpList_nil ?_
  go_wp2
  go_ret
  exact ⟨rfl, k1.trans k2⟩

set_option maxRecDepth 100000 in
set_option maxHeartbeats 800000 in
theorem index_any (v : Value) (X : List Ent) (t i : Int) (g1 g2 : Nat) (w : World) (hS : Sl w 61 10 v X.length (ents X)) (hlen : X.length ≤ 100000) (h1 : Blk w g1 3 [.int .i64 t]) (h2 : Blk w g2 3 [.int .i64 i]) :
    Gives 38 #[v, clo g1 g2] w (.eq (.int .i64 (placeM t i X))) := by
  refine gives_eq ?_
  obtain ⟨n, hn⟩ : ∃ n, X.length = n := ⟨_, rfl⟩
  rw [hn] at hS hlen
  have HN := Lib.hid hn
  have HS := Lib.hid hS
  have H1 := Lib.hid h1
  have H2 := Lib.hid h2
  clear hS h1 h2 hn
  go_enter Try.func38, Try.ntmps38
  go_upto_region 1 with fail
  refine wp_text 3 [.eq (v), .eq (.int .i64 (n : Int)), .eq (.int .i64 0)] rfl (by kernel_rfl) ?_ ?_
  · refine fsteps_cons 1 rfl (fun a u hE hD hk => f_val (o := ⟨some 6, _, _, _, _, _⟩) (v) rfl (wanted_none rfl _) (exec_move (.tmp 0) (v) rfl (hE 0 (v) (by kernel_rfl) (by kernel_rfl))) rfl) ?_
    refine fsteps_cons 2 rfl (fun a u hE hD hk => f_val (o := ⟨some 7, _, _, _, _, _⟩) (.int .i64 (n : Int)) rfl (wanted_none rfl _) (exec_lenS (.tmp 6) slE (v) (n) _ _ rfl (hD 0 6 (by kernel_rfl)) HS.out) rfl) ?_
    refine fsteps_cons 3 rfl (fun a u hE hD hk => f_val (o := ⟨some 8, _, _, _, _, _⟩) (.int .i64 0) rfl (wanted_none rfl _) (exec_move (.const (.int .i64 0)) (.int .i64 0) rfl rfl) rfl) ?_
    exact fsteps_nil
  intro gv w0 hV k0
  rw [show dstsOf _ 3 = [6, 7, 8] by kernel_rfl]
  simp only [List.foldl_cons, List.foldl_nil, List.setIfInBounds_toArray, List.set_cons_succ, List.set_cons_zero, List.drop_succ_cons, List.drop_zero]
  rw [show gv 7 = .int .i64 (n : Int) from hV 1 7 (by kernel_rfl)]
  rw [show gv 8 = .int .i64 0 from hV 2 8 (by kernel_rfl)]
  clear hV
  refine wpList_nil ?_
  go_wp2_with fail
  go_loopw [8] (fun q wr => ∃ (k : Nat), k ≤ n ∧ q = .int .i64 (k : Int) ∧ Hid (∀ (j : Nat) (x : Ent), j < k → X[j]? = some x → x.is t i = false) ∧ Kept w wr) (fun q _ => n - (intOf q).toNat)
  case atStart => exact ⟨0, Nat.zero_le _, rfl, fun j x hj => (by omega), k0⟩
  case round =>
    obtain ⟨k, hk, rfl, HM, hkr⟩ := hrel
    by_cases hlt : k < n
    · obtain ⟨g, off, c, rfl⟩ := HS.out.some_ (by omega)
      obtain ⟨e, he⟩ : ∃ e, X[k]? = some e := ⟨X[k]'(by rw [HN.out]; exact hlt), List.getElem?_eq_getElem (by rw [HN.out]; exact hlt)⟩
      have HE : Hid (wr.rangeAt g (off + k * 10) e.cells) := range_kept (HS.out.rng k e he) hkr
      have H1r := Lib.hid (H1.out.kept hkr)
      have H2r := Lib.hid (H2.out.kept hkr)
      have HEI := Lib.hid he
      clear he
      by_cases hm : e.is t i = true
      · have HP : Hid (placeM t i X = (k : Int)) := by
          show _ = _
          have h1 := idx_of HM.out HEI.out hm
          unfold placeM
          rw [h1, if_pos (by rw [HN.out]; exact hlt)]
        go_upto_region 4 with fail
        refine wp_text 6 [.eq (clo g1 g2), .eq (.slice (some ⟨g, off, none⟩) n c), .eq (.int .i64 (k : Int)), .eq (.pointer (some ⟨g, off + k * 10, none⟩)), .eq (e.v), .eq (.bool true)] rfl (by kernel_rfl) ?_ ?_
        · refine fsteps_cons 1 rfl (fun a u hE hD hk => f_val (o := ⟨some 11, _, _, _, _, _⟩) (clo g1 g2) rfl (wanted_none rfl _) (exec_move (.tmp 1) (clo g1 g2) rfl (hE 1 (clo g1 g2) (by kernel_rfl) (by kernel_rfl))) rfl) ?_
          refine fsteps_cons 2 rfl (fun a u hE hD hk => f_val (o := ⟨some 12, _, _, _, _, _⟩) (.slice (some ⟨g, off, none⟩) n c) rfl (wanted_none rfl _) (exec_move (.tmp 0) (.slice (some ⟨g, off, none⟩) n c) rfl (hE 0 (.slice (some ⟨g, off, none⟩) n c) (by kernel_rfl) (by kernel_rfl))) rfl) ?_
          refine fsteps_cons 3 rfl (fun a u hE hD hk => f_val (o := ⟨some 13, _, _, _, _, _⟩) (.int .i64 (k : Int)) rfl (wanted_none rfl _) (exec_move (.tmp 5) (.int .i64 (k : Int)) rfl (hE 5 (.int .i64 (k : Int)) (by kernel_rfl) (by kernel_rfl))) rfl) ?_
          refine fsteps_cons 4 rfl (fun a u hE hD hk => f_val (o := ⟨some 14, _, _, _, _, _⟩) (.pointer (some ⟨g, off + k * 10, none⟩)) rfl (wanted_none rfl _) (exec_ixo slE (.tmp 12) (.tmp 13) (g) (off) n c k (off + k * 10) ((k : Int)) rfl (hD 1 12 (by kernel_rfl)) (hD 2 13 (by kernel_rfl)) (by first | rfl | omega) (hlt) (by first | rfl | omega)) rfl) ?_
          refine fsteps_cons 5 rfl (fun a u hE hD hk => f_val (o := ⟨some 15, _, _, _, _, _⟩) (e.v) rfl (wanted_none rfl _) (exec_ldS 61 _ (.tmp 14) (g) (off + k * 10) (e.cells) rfl (hD 3 14 (by kernel_rfl)) (range_kept HE.out hk) Try.underlying61 (by rw [e.len10]; exact szE)) rfl) ?_
          refine fsteps_cons 6 rfl (fun a u hE hD hk => f_call (o := ⟨some 16, _, _, _, _, _⟩) 39 #[e.v, .pointer (some ⟨g1, 0, none⟩), .pointer (some ⟨g2, 0, none⟩)] rfl (wanted_none rfl _) (exec_callv 39 _ (.tmp 11) [.tmp 15] _ [e.v] (caps g1 g2) Try.func39 (by kernel_rfl) (by kernel_rfl) rfl (hD 0 11 (by kernel_rfl)) (show [a.eval (.tmp 15)] = [e.v] by rw [show a.eval (.tmp 15) = e.v from (hD 4 15 (by kernel_rfl))])) (by rw [← hm]; exact is_any e t i g1 g2 u (H1r.out.kept hk) (H2r.out.kept hk))) ?_
          exact fsteps_nil
        intro gv w1 hV k1
        rw [show dstsOf _ 6 = [11, 12, 13, 14, 15, 16] by kernel_rfl]
        simp only [List.foldl_cons, List.foldl_nil, List.setIfInBounds_toArray, List.set_cons_succ, List.set_cons_zero, List.drop_succ_cons, List.drop_zero]
        rw [show gv 16 = .bool true from hV 5 16 (by kernel_rfl)]
        clear hV
        refine wpList_nil ?_
        have kw1 := hkr.trans k1
        clear hkr k1 hm
        go_wp2
        go_ret
        exact ⟨by rw [HP.out]; rfl, kw1⟩
      · have hm' : e.is t i = false := by simpa using hm
        have HM2 : Hid (∀ (j : Nat) (x : Ent), j < k + 1 → X[j]? = some x → x.is t i = false) := by
          intro j x hj hx
          by_cases hjk : j = k
          · subst hjk
            rw [HEI.out] at hx
            injection hx with hx
            rw [← hx]
            exact hm'
          · exact HM.out j x (by omega) hx
        clear hm
        go_upto_region 4 with fail
        refine wp_text 6 [.eq (clo g1 g2), .eq (.slice (some ⟨g, off, none⟩) n c), .eq (.int .i64 (k : Int)), .eq (.pointer (some ⟨g, off + k * 10, none⟩)), .eq (e.v), .eq (.bool false)] rfl (by kernel_rfl) ?_ ?_
        · refine fsteps_cons 1 rfl (fun a u hE hD hk => f_val (o := ⟨some 11, _, _, _, _, _⟩) (clo g1 g2) rfl (wanted_none rfl _) (exec_move (.tmp 1) (clo g1 g2) rfl (hE 1 (clo g1 g2) (by kernel_rfl) (by kernel_rfl))) rfl) ?_
          refine fsteps_cons 2 rfl (fun a u hE hD hk => f_val (o := ⟨some 12, _, _, _, _, _⟩) (.slice (some ⟨g, off, none⟩) n c) rfl (wanted_none rfl _) (exec_move (.tmp 0) (.slice (some ⟨g, off, none⟩) n c) rfl (hE 0 (.slice (some ⟨g, off, none⟩) n c) (by kernel_rfl) (by kernel_rfl))) rfl) ?_
          refine fsteps_cons 3 rfl (fun a u hE hD hk => f_val (o := ⟨some 13, _, _, _, _, _⟩) (.int .i64 (k : Int)) rfl (wanted_none rfl _) (exec_move (.tmp 5) (.int .i64 (k : Int)) rfl (hE 5 (.int .i64 (k : Int)) (by kernel_rfl) (by kernel_rfl))) rfl) ?_
          refine fsteps_cons 4 rfl (fun a u hE hD hk => f_val (o := ⟨some 14, _, _, _, _, _⟩) (.pointer (some ⟨g, off + k * 10, none⟩)) rfl (wanted_none rfl _) (exec_ixo slE (.tmp 12) (.tmp 13) (g) (off) n c k (off + k * 10) ((k : Int)) rfl (hD 1 12 (by kernel_rfl)) (hD 2 13 (by kernel_rfl)) (by first | rfl | omega) (hlt) (by first | rfl | omega)) rfl) ?_
          refine fsteps_cons 5 rfl (fun a u hE hD hk => f_val (o := ⟨some 15, _, _, _, _, _⟩) (e.v) rfl (wanted_none rfl _) (exec_ldS 61 _ (.tmp 14) (g) (off + k * 10) (e.cells) rfl (hD 3 14 (by kernel_rfl)) (range_kept HE.out hk) Try.underlying61 (by rw [e.len10]; exact szE)) rfl) ?_
          refine fsteps_cons 6 rfl (fun a u hE hD hk => f_call (o := ⟨some 16, _, _, _, _, _⟩) 39 #[e.v, .pointer (some ⟨g1, 0, none⟩), .pointer (some ⟨g2, 0, none⟩)] rfl (wanted_none rfl _) (exec_callv 39 _ (.tmp 11) [.tmp 15] _ [e.v] (caps g1 g2) Try.func39 (by kernel_rfl) (by kernel_rfl) rfl (hD 0 11 (by kernel_rfl)) (show [a.eval (.tmp 15)] = [e.v] by rw [show a.eval (.tmp 15) = e.v from (hD 4 15 (by kernel_rfl))])) (by rw [← hm']; exact is_any e t i g1 g2 u (H1r.out.kept hk) (H2r.out.kept hk))) ?_
          exact fsteps_nil
        intro gv w1 hV k1
        rw [show dstsOf _ 6 = [11, 12, 13, 14, 15, 16] by kernel_rfl]
        simp only [List.foldl_cons, List.foldl_nil, List.setIfInBounds_toArray, List.set_cons_succ, List.set_cons_zero, List.drop_succ_cons, List.drop_zero]
        rw [show gv 16 = .bool false from hV 5 16 (by kernel_rfl)]
        clear hV
        refine wpList_nil ?_
        have kw1 := hkr.trans k1
        clear hkr k1 hm'
        go_wp2
        exact ⟨⟨k + 1, by omega, by go_num, HM2, kw1⟩, by simp [intOf]; omega⟩
    · have HP : Hid (placeM t i X = -1) := by
        show _ = _
        have h1 : idxM t i X = X.length := idx_none (fun j x hj hx => HM.out j x (by rw [HN.out] at hj; omega) hx)
        unfold placeM
        rw [h1, if_neg (by omega)]
      clear HM
      go_wp2
      go_ret
      exact ⟨by rw [HP.out]; rfl, hkr⟩

set_option maxRecDepth 100000 in
set_option maxHeartbeats 800000 in
theorem place_any (w : World) (F : Nat → Prop) (p : Nat) (X : List Ent) (t i : Int) (h : Lvl 58 61 w F p X) (hlen : X.length ≤ 100000) : Gives 34 #[.pointer (some ⟨p, 0, none⟩), .int .i64 t, .int .i64 i] w (.eq (.int .i64 (placeM t i X))) := by
  refine gives_eq ?_
  obtain ⟨h1, h2, v, hB, hS, h5⟩ := h
  have HB := Lib.hid hB
  have HS := Lib.hid hS
  clear hB hS h5 h1 h2
  go_enter Try.func34, Try.ntmps34
  go_upto_region 0 with fail
  refine wp_text 3 [.fresh w.heap.size 3 ([.int .i64 t]), .fresh w.heap.size 3 ([.int .i64 i]), .eq (.int .i64 0)] rfl (by kernel_rfl) ?_ ?_
  · refine fsteps_cons 1 rfl (fun a u hE hD hk => f_new (o := ⟨some 4, _, _, _, _, _⟩) (.pointer (some ⟨u.heap.size, 0, none⟩)) _ rfl (wanted_none rfl _) (exec_boxi 3 (.tmp 1) (.int .i64 t) rfl (hE 1 (.int .i64 t) (by kernel_rfl) (by kernel_rfl)) rfl) ⟨_, rfl, hk.size, Blk.new u _ _⟩ ((Keep.refl _ u).alloc _)) ?_
    refine fsteps_cons 2 rfl (fun a u hE hD hk => f_new (o := ⟨some 5, _, _, _, _, _⟩) (.pointer (some ⟨u.heap.size, 0, none⟩)) _ rfl (wanted_none rfl _) (exec_boxi 3 (.tmp 2) (.int .i64 i) rfl (hE 2 (.int .i64 i) (by kernel_rfl) (by kernel_rfl)) rfl) ⟨_, rfl, hk.size, Blk.new u _ _⟩ ((Keep.refl _ u).alloc _)) ?_
    refine fsteps_cons 3 rfl (fun a u hE hD hk => f_val (o := ⟨some 6, _, _, _, _, _⟩) (.int .i64 0) rfl (wanted_none rfl _) (exec_assign (.const (.int .i64 0)) (.int .i64 0) rfl rfl) rfl) ?_
    exact fsteps_nil
  intro gv w1 hV k1
  rw [show dstsOf _ 3 = [4, 5, 6] by kernel_rfl]
  simp only [List.foldl_cons, List.foldl_nil, List.setIfInBounds_toArray, List.set_cons_succ, List.set_cons_zero, List.drop_succ_cons, List.drop_zero]
  have hv4 : (.fresh w.heap.size 3 ([.int .i64 t]) : Kn).p (gv 4) w1 := hV 0 4 (by kernel_rfl)
  generalize gv 4 = v4 at hv4 ⊢
  have hv5 : (.fresh w.heap.size 3 ([.int .i64 i]) : Kn).p (gv 5) w1 := hV 1 5 (by kernel_rfl)
  generalize gv 5 = v5 at hv5 ⊢
  clear hV
  obtain ⟨g1, rfl, hg1, hB1⟩ := hv4
  obtain ⟨g2, rfl, hg2, hB2⟩ := hv5
  refine wpList_nil ?_
  have HB1 := Lib.hid hB1
  have HB2 := Lib.hid hB2
  have HBL := Lib.hid (HB.out.kept k1)
  have HS1 := Lib.hid (HS.out.kept k1)
  clear hB1 hB2 HB HS
  go_upto_region 1 with fail
  refine wp_text 6 [.eq (.pointer (some ⟨p, 0, none⟩)), .eq (.pointer (some ⟨p, 0, none⟩)), .eq (.pointer (some ⟨p, 1, none⟩)), .eq (v), .eq (clo g1 g2), .eq (.int .i64 (placeM t i X))] rfl (by kernel_rfl) ?_ ?_
  · refine fsteps_cons 1 rfl (fun a u hE hD hk => f_val (o := ⟨some 7, _, _, _, _, _⟩) (.pointer (some ⟨p, 0, none⟩)) rfl (wanted_none rfl _) (exec_move (.tmp 0) (.pointer (some ⟨p, 0, none⟩)) rfl (hE 0 (.pointer (some ⟨p, 0, none⟩)) (by kernel_rfl) (by kernel_rfl))) rfl) ?_
    refine fsteps_cons 2 rfl (fun a u hE hD hk => f_val (o := ⟨some 8, _, _, _, _, _⟩) (.pointer (some ⟨p, 0, none⟩)) rfl (wanted_none rfl _) (exec_nilp (.tmp 7) ⟨p, 0, none⟩ rfl (hD 0 7 (by kernel_rfl))) rfl) ?_
    refine fsteps_cons 3 rfl (fun a u hE hD hk => f_val (o := ⟨some 9, _, _, _, _, _⟩) (.pointer (some ⟨p, 1, none⟩)) rfl (wanted_none rfl _) (exec_fldo 58 1 1 (.tmp 8) (p) (0) (1) rfl (hD 1 8 (by kernel_rfl)) (by kernel_rfl) rfl) rfl) ?_
    refine fsteps_cons 4 rfl (fun a u hE hD hk => f_val (o := ⟨some 10, _, _, _, _, _⟩) (v) rfl (wanted_none rfl _) (exec_ldv 56 _ Try.underlying56 (.tmp 9) ⟨p, 1, none⟩ (v) rfl (hD 2 9 (by kernel_rfl)) (by rw [(HBL.out.kept hk).cell]; rfl)) rfl) ?_
    refine fsteps_cons 5 rfl (fun a u hE hD hk => f_val (o := ⟨some 11, _, _, _, _, _⟩) (clo g1 g2) rfl (wanted_none rfl _) (exec_mkf (.tmp 4) (.tmp 5) g1 g2 rfl (hE 4 (.pointer (some ⟨g1, 0, none⟩)) (by kernel_rfl) (by kernel_rfl)) (hE 5 (.pointer (some ⟨g2, 0, none⟩)) (by kernel_rfl) (by kernel_rfl))) rfl) ?_
    refine fsteps_cons 6 rfl (fun a u hE hD hk => f_call (o := ⟨some 12, _, _, _, _, _⟩) 38 #[v, clo g1 g2] rfl (wanted_none rfl _) (exec_call 38 _ [.tmp 10, .tmp 11] _ [v, clo g1 g2] Try.func38 (by kernel_rfl) (by kernel_rfl) rfl (show [a.eval (.tmp 10), a.eval (.tmp 11)] = [v, clo g1 g2] from (by rw [show a.eval (.tmp 10) = v from (hD 3 10 (by kernel_rfl)), show a.eval (.tmp 11) = clo g1 g2 from (hD 4 11 (by kernel_rfl))] <;> rfl)) u) (index_any v X t i g1 g2 u (HS1.out.kept hk) hlen (HB1.out.kept hk) (HB2.out.kept hk))) ?_
    exact fsteps_nil
  intro gv w2 hV k2
  rw [show dstsOf _ 6 = [7, 8, 9, 10, 11, 12] by kernel_rfl]
  simp only [List.foldl_cons, List.foldl_nil, List.setIfInBounds_toArray, List.set_cons_succ, List.set_cons_zero, List.drop_succ_cons, List.drop_zero]
  rw [show gv 12 = .int .i64 (placeM t i X) from hV 5 12 (by kernel_rfl)]
  clear hV
  refine l_val (o := ⟨some 6, _, _, _, _, _⟩) (.int .i64 (placeM t i X)) rfl (exec_assign (.tmp 12) (.int .i64 (placeM t i X)) rfl (by kernel_rfl)) ?_
  simp only [Act.put, List.setIfInBounds_toArray, List.set_cons_succ, List.set_cons_zero]
  refine wpList_nil ?_
  go_wp2
  go_ret
  exact ⟨rfl, k1.trans k2⟩

set_option maxRecDepth 100000 in
set_option maxHeartbeats 800000 in
theorem less_none (w : World) (F : Nat → Prop) (p : Nat) (X : List Ent) (t i q : Int) (h : Lvl 58 61 w F p X) (hlen : X.length ≤ 100000) (hc : ¬ idxM t i X < X.length) : Calls Try.prog 21 #[.pointer (some ⟨p, 0, none⟩), .int .i64 t, .int .i64 i, .int .i64 q] w fun r w' => r = .returned (.bool (lessM t i q X).1) ∧ Lvl 58 61 w' F p (lessM t i q X).2 ∧ Keep F w w' ∧ ((lessM t i q X).1 = false → Kept w w') := by
  have HR : Hid (lessM t i q X = (false, X)) := by
    show _ = _
    unfold lessM
    rw [List.getElem?_eq_none (by omega)]
  have HPL : Hid (placeM t i X = -1) := by show _ = _; unfold placeM; rw [if_neg hc]
  have HL0 := Lib.hid h
  clear h hc
  go_enter Try.func21, Try.ntmps21
  go_upto_region 1 with fail
  refine wp_text 4 [.eq (.pointer (some ⟨p, 0, none⟩)), .eq (.int .i64 t), .eq (.int .i64 i), .eq (.int .i64 (-1))] rfl (by kernel_rfl) ?_ ?_
  · refine fsteps_cons 1 rfl (fun a u hE hD hk => f_val (o := ⟨some 11, _, _, _, _, _⟩) (.pointer (some ⟨p, 0, none⟩)) rfl (wanted_none rfl _) (exec_move (.tmp 0) (.pointer (some ⟨p, 0, none⟩)) rfl (hE 0 (.pointer (some ⟨p, 0, none⟩)) (by kernel_rfl) (by kernel_rfl))) rfl) ?_
    refine fsteps_cons 2 rfl (fun a u hE hD hk => f_val (o := ⟨some 12, _, _, _, _, _⟩) (.int .i64 t) rfl (wanted_none rfl _) (exec_move (.tmp 1) (.int .i64 t) rfl (hE 1 (.int .i64 t) (by kernel_rfl) (by kernel_rfl))) rfl) ?_
    refine fsteps_cons 3 rfl (fun a u hE hD hk => f_val (o := ⟨some 13, _, _, _, _, _⟩) (.int .i64 i) rfl (wanted_none rfl _) (exec_move (.tmp 2) (.int .i64 i) rfl (hE 2 (.int .i64 i) (by kernel_rfl) (by kernel_rfl))) rfl) ?_
    refine fsteps_cons 4 rfl (fun a u hE hD hk => f_call (o := ⟨some 14, _, _, _, _, _⟩) 34 #[.pointer (some ⟨p, 0, none⟩), .int .i64 t, .int .i64 i] rfl (wanted_none rfl _) (exec_call 34 _ [.tmp 11, .tmp 12, .tmp 13] _ [.pointer (some ⟨p, 0, none⟩), .int .i64 t, .int .i64 i] Try.func34 (by kernel_rfl) (by kernel_rfl) rfl (show [a.eval (.tmp 11), a.eval (.tmp 12), a.eval (.tmp 13)] = [.pointer (some ⟨p, 0, none⟩), .int .i64 t, .int .i64 i] from (by rw [show a.eval (.tmp 11) = .pointer (some ⟨p, 0, none⟩) from (hD 0 11 (by kernel_rfl)), show a.eval (.tmp 12) = .int .i64 t from (hD 1 12 (by kernel_rfl)), show a.eval (.tmp 13) = .int .i64 i from (hD 2 13 (by kernel_rfl))] <;> rfl)) u) ((by rw [← HPL.out]; exact place_any u F p X t i (HL0.out.kept hk) hlen))) ?_
    exact fsteps_nil
  intro gv w1 hV k1
  rw [show dstsOf _ 4 = [11, 12, 13, 14] by kernel_rfl]
  simp only [List.foldl_cons, List.foldl_nil, List.setIfInBounds_toArray, List.set_cons_succ, List.set_cons_zero, List.drop_succ_cons, List.drop_zero]
  rw [show gv 14 = .int .i64 (-1) from hV 3 14 (by kernel_rfl)]
  clear hV
  refine l_val (o := ⟨some 9, _, _, _, _, _⟩) (.int .i64 (-1)) rfl (exec_assign (.tmp 14) (.int .i64 (-1)) rfl (by kernel_rfl)) ?_
  simp only [Act.put, List.setIfInBounds_toArray, List.set_cons_succ, List.set_cons_zero]
  refine wpList_nil ?_
  go_upto_region 2 with fail
  refine wp_text 19 [.eq (.int .i64 (-1)), .eq (.bool true), .eq (.bool true), .eq undef, .eq undef, .eq (.bool true), .eq (.bool true), .eq undef, .eq undef, .eq undef, .eq undef, .eq undef, .eq undef, .eq undef, .eq undef, .eq undef, .eq undef, .eq undef, .eq (.bool true)] rfl (by kernel_rfl) ?_ ?_
  · refine fsteps_cons 1 rfl (fun a u hE hD hk => f_val (o := ⟨some 15, _, _, _, _, _⟩) (.int .i64 (-1)) rfl (wanted_none rfl _) (exec_move (.tmp 9) (.int .i64 (-1)) rfl (hE 9 (.int .i64 (-1)) (by kernel_rfl) (by kernel_rfl))) rfl) ?_
    refine fsteps_cons 2 rfl (fun a u hE hD hk => f_as (show ((decide (((-1) : Int) < (0 : Int))) : Bool) = true from rfl) (f_val (o := ⟨some 16, _, _, _, _, _⟩) (.bool (decide (((-1) : Int) < (0 : Int)))) rfl (wanted_none rfl _) (exec_ltn (p := (-1)) (q := 0) rfl (hD 0 15 (by kernel_rfl)) rfl) rfl)) ?_
    refine fsteps_cons 3 rfl (fun a u hE hD hk => f_val (o := ⟨some 17, _, _, _, _, _⟩) (.bool true) rfl (wanted_none rfl _) (exec_move (.tmp 16) (.bool true) rfl (hD 1 16 (by kernel_rfl))) rfl) ?_
    refine fsteps_cons 4 rfl (fun a u hE hD hk => f_skip (o := ⟨some 18, _, _, _, _, _⟩) rfl (wanted_at (b := false) true rfl rfl (hD 2 17 (by kernel_rfl))) rfl) ?_
    refine fsteps_cons 5 rfl (fun a u hE hD hk => f_skip (o := ⟨some 19, _, _, _, _, _⟩) rfl (wanted_at (b := false) true rfl rfl (hD 2 17 (by kernel_rfl))) rfl) ?_
    refine fsteps_cons 6 rfl (fun a u hE hD hk => f_val (o := ⟨some 20, _, _, _, _, _⟩) (.bool true) rfl (wanted_none rfl _) (exec_pick (.tmp 17) (.const (.bool true)) (.tmp 19) (.bool true) rfl (hD 2 17 (by kernel_rfl)) rfl) rfl) ?_
    refine fsteps_cons 7 rfl (fun a u hE hD hk => f_val (o := ⟨some 21, _, _, _, _, _⟩) (.bool true) rfl (wanted_none rfl _) (exec_move (.tmp 20) (.bool true) rfl (hD 5 20 (by kernel_rfl))) rfl) ?_
    refine fsteps_cons 8 rfl (fun a u hE hD hk => f_skip (o := ⟨some 22, _, _, _, _, _⟩) rfl (wanted_at (b := false) true rfl rfl (hD 6 21 (by kernel_rfl))) rfl) ?_
    refine fsteps_cons 9 rfl (fun a u hE hD hk => f_skip (o := ⟨some 23, _, _, _, _, _⟩) rfl (wanted_at (b := false) true rfl rfl (hD 6 21 (by kernel_rfl))) rfl) ?_
    refine fsteps_cons 10 rfl (fun a u hE hD hk => f_skip (o := ⟨some 24, _, _, _, _, _⟩) rfl (wanted_at (b := false) true rfl rfl (hD 6 21 (by kernel_rfl))) rfl) ?_
    refine fsteps_cons 11 rfl (fun a u hE hD hk => f_skip (o := ⟨some 25, _, _, _, _, _⟩) rfl (wanted_at (b := false) true rfl rfl (hD 6 21 (by kernel_rfl))) rfl) ?_
    refine fsteps_cons 12 rfl (fun a u hE hD hk => f_skip (o := ⟨some 26, _, _, _, _, _⟩) rfl (wanted_at (b := false) true rfl rfl (hD 6 21 (by kernel_rfl))) rfl) ?_
    refine fsteps_cons 13 rfl (fun a u hE hD hk => f_skip (o := ⟨some 27, _, _, _, _, _⟩) rfl (wanted_at (b := false) true rfl rfl (hD 6 21 (by kernel_rfl))) rfl) ?_
    refine fsteps_cons 14 rfl (fun a u hE hD hk => f_skip (o := ⟨some 28, _, _, _, _, _⟩) rfl (wanted_at (b := false) true rfl rfl (hD 6 21 (by kernel_rfl))) rfl) ?_
    refine fsteps_cons 15 rfl (fun a u hE hD hk => f_skip (o := ⟨some 29, _, _, _, _, _⟩) rfl (wanted_at (b := false) true rfl rfl (hD 6 21 (by kernel_rfl))) rfl) ?_
    refine fsteps_cons 16 rfl (fun a u hE hD hk => f_skip (o := ⟨some 30, _, _, _, _, _⟩) rfl (wanted_at (b := false) true rfl rfl (hD 6 21 (by kernel_rfl))) rfl) ?_
    refine fsteps_cons 17 rfl (fun a u hE hD hk => f_skip (o := ⟨some 31, _, _, _, _, _⟩) rfl (wanted_at (b := false) true rfl rfl (hD 6 21 (by kernel_rfl))) rfl) ?_
    refine fsteps_cons 18 rfl (fun a u hE hD hk => f_skip (o := ⟨some 32, _, _, _, _, _⟩) rfl (wanted_at (b := false) true rfl rfl (hD 6 21 (by kernel_rfl))) rfl) ?_
    refine fsteps_cons 19 rfl (fun a u hE hD hk => f_val (o := ⟨some 33, _, _, _, _, _⟩) (.bool true) rfl (wanted_none rfl _) (exec_pick (.tmp 21) (.const (.bool true)) (.tmp 32) (.bool true) rfl (hD 6 21 (by kernel_rfl)) rfl) rfl) ?_
    exact fsteps_nil
  intro gv w2 hV k2
  rw [show dstsOf _ 19 = [15, 16, 17, 18, 19, 20, 21, 22, 23, 24, 25, 26, 27, 28, 29, 30, 31, 32, 33] by kernel_rfl]
  simp only [List.foldl_cons, List.foldl_nil, List.setIfInBounds_toArray, List.set_cons_succ, List.set_cons_zero, List.drop_succ_cons, List.drop_zero]
  rw [show gv 33 = .bool true from hV 18 33 (by kernel_rfl)]
  clear hV
  refine wpList_nil ?_
  go_wp2
  go_ret
  exact ⟨by rw [HR.out]; rfl, by rw [HR.out]; exact HL0.out.kept (k1.trans k2), (Keep.mono (T := F) (k1.trans k2) (fun _ _ h => h.elim)), fun _ => k1.trans k2⟩

set_option maxRecDepth 100000 in
set_option maxHeartbeats 800000 in
theorem less_low (w : World) (F : Nat → Prop) (p : Nat) (X : List Ent) (t i q : Int) (h : Lvl 58 61 w F p X) (hlen : X.length ≤ 100000) (e : Ent) (he : X[idxM t i X]? = some e) (hq : ¬ 1 ≤ q) : Calls Try.prog 21 #[.pointer (some ⟨p, 0, none⟩), .int .i64 t, .int .i64 i, .int .i64 q] w fun r w' => r = .returned (.bool (lessM t i q X).1) ∧ Lvl 58 61 w' F p (lessM t i q X).2 ∧ Keep F w w' ∧ ((lessM t i q X).1 = false → Kept w w') := by
  have HR : Hid (lessM t i q X = (false, X)) := by
    show _ = _
    unfold lessM
    rw [he]
    simp only
    rw [if_neg (fun h => hq h.1)]
  obtain ⟨k, hkk⟩ : ∃ k, idxM t i X = k := ⟨_, rfl⟩
  rw [hkk] at he
  obtain ⟨n, hn⟩ : ∃ n, X.length = n := ⟨_, rfl⟩
  have hkn : k < n := by rw [← hn]; exact (List.getElem?_eq_some_iff.1 he).1
  have HPL : Hid (placeM t i X = (k : Int)) := by show _ = _; unfold placeM; rw [hkk, if_pos (by rw [hn]; exact hkn)]
  have hn1 : n ≤ 100000 := by omega
  have HL0 := Lib.hid h
  obtain ⟨h1, h2, v, hB, hS, h5⟩ := h
  rw [hn] at hS
  obtain ⟨g, off, c, rfl⟩ := hS.some_ (by omega)
  have HE : Hid (w.rangeAt g (off + k * 10) e.cells) := hS.rng k e he
  have HB := Lib.hid hB
  have HS := Lib.hid hS
  have H1 := Lib.hid h1
  have H2 := Lib.hid h2
  have H5 := Lib.hid h5
  have HEI := Lib.hid he
  have HN := Lib.hid hn
  clear hB hS h5 h1 h2 he hn
  go_enter Try.func21, Try.ntmps21
  go_upto_region 1 with fail
  refine wp_text 4 [.eq (.pointer (some ⟨p, 0, none⟩)), .eq (.int .i64 t), .eq (.int .i64 i), .eq (.int .i64 (k : Int))] rfl (by kernel_rfl) ?_ ?_
  · refine fsteps_cons 1 rfl (fun a u hE hD hk => f_val (o := ⟨some 11, _, _, _, _, _⟩) (.pointer (some ⟨p, 0, none⟩)) rfl (wanted_none rfl _) (exec_move (.tmp 0) (.pointer (some ⟨p, 0, none⟩)) rfl (hE 0 (.pointer (some ⟨p, 0, none⟩)) (by kernel_rfl) (by kernel_rfl))) rfl) ?_
    refine fsteps_cons 2 rfl (fun a u hE hD hk => f_val (o := ⟨some 12, _, _, _, _, _⟩) (.int .i64 t) rfl (wanted_none rfl _) (exec_move (.tmp 1) (.int .i64 t) rfl (hE 1 (.int .i64 t) (by kernel_rfl) (by kernel_rfl))) rfl) ?_
    refine fsteps_cons 3 rfl (fun a u hE hD hk => f_val (o := ⟨some 13, _, _, _, _, _⟩) (.int .i64 i) rfl (wanted_none rfl _) (exec_move (.tmp 2) (.int .i64 i) rfl (hE 2 (.int .i64 i) (by kernel_rfl) (by kernel_rfl))) rfl) ?_
    refine fsteps_cons 4 rfl (fun a u hE hD hk => f_call (o := ⟨some 14, _, _, _, _, _⟩) 34 #[.pointer (some ⟨p, 0, none⟩), .int .i64 t, .int .i64 i] rfl (wanted_none rfl _) (exec_call 34 _ [.tmp 11, .tmp 12, .tmp 13] _ [.pointer (some ⟨p, 0, none⟩), .int .i64 t, .int .i64 i] Try.func34 (by kernel_rfl) (by kernel_rfl) rfl (show [a.eval (.tmp 11), a.eval (.tmp 12), a.eval (.tmp 13)] = [.pointer (some ⟨p, 0, none⟩), .int .i64 t, .int .i64 i] from (by rw [show a.eval (.tmp 11) = .pointer (some ⟨p, 0, none⟩) from (hD 0 11 (by kernel_rfl)), show a.eval (.tmp 12) = .int .i64 t from (hD 1 12 (by kernel_rfl)), show a.eval (.tmp 13) = .int .i64 i from (hD 2 13 (by kernel_rfl))] <;> rfl)) u) ((by rw [← HPL.out]; exact place_any u F p X t i (HL0.out.kept hk) hlen))) ?_
    exact fsteps_nil
  intro gv w1 hV k1
  rw [show dstsOf _ 4 = [11, 12, 13, 14] by kernel_rfl]
  simp only [List.foldl_cons, List.foldl_nil, List.setIfInBounds_toArray, List.set_cons_succ, List.set_cons_zero, List.drop_succ_cons, List.drop_zero]
  rw [show gv 14 = .int .i64 (k : Int) from hV 3 14 (by kernel_rfl)]
  clear hV
  refine l_val (o := ⟨some 9, _, _, _, _, _⟩) (.int .i64 (k : Int)) rfl (exec_assign (.tmp 14) (.int .i64 (k : Int)) rfl (by kernel_rfl)) ?_
  simp only [Act.put, List.setIfInBounds_toArray, List.set_cons_succ, List.set_cons_zero]
  refine wpList_nil ?_
  have HB1 := Lib.hid (HB.out.kept k1)
  have HE1 := Lib.hid (range_kept HE.out k1)
  go_upto_region 2 with fail
  refine wp_text 19 [.eq (.int .i64 (k : Int)), .eq (.bool false), .eq (.bool false), .eq (.int .i64 q), .eq (.bool true), .eq (.bool true), .eq (.bool true), .eq undef, .eq undef, .eq undef, .eq undef, .eq undef, .eq undef, .eq undef, .eq undef, .eq undef, .eq undef, .eq undef, .eq (.bool true)] rfl (by kernel_rfl) ?_ ?_
  · refine fsteps_cons 1 rfl (fun a u hE hD hk => f_val (o := ⟨some 15, _, _, _, _, _⟩) (.int .i64 (k : Int)) rfl (wanted_none rfl _) (exec_move (.tmp 9) (.int .i64 (k : Int)) rfl (hE 9 (.int .i64 (k : Int)) (by kernel_rfl) (by kernel_rfl))) rfl) ?_
    refine fsteps_cons 2 rfl (fun a u hE hD hk => f_as (show ((decide (((k : Int) : Int) < (0 : Int))) : Bool) = false from decide_eq_false (by omega)) (f_val (o := ⟨some 16, _, _, _, _, _⟩) (.bool (decide (((k : Int) : Int) < (0 : Int)))) rfl (wanted_none rfl _) (exec_ltn (p := (k : Int)) (q := 0) rfl (hD 0 15 (by kernel_rfl)) rfl) rfl)) ?_
    refine fsteps_cons 3 rfl (fun a u hE hD hk => f_val (o := ⟨some 17, _, _, _, _, _⟩) (.bool false) rfl (wanted_none rfl _) (exec_move (.tmp 16) (.bool false) rfl (hD 1 16 (by kernel_rfl))) rfl) ?_
    refine fsteps_cons 4 rfl (fun a u hE hD hk => f_val (o := ⟨some 18, _, _, _, _, _⟩) (.int .i64 q) rfl (wanted_at (b := false) false rfl rfl (hD 2 17 (by kernel_rfl))) (exec_move (.tmp 3) (.int .i64 q) rfl (hE 3 (.int .i64 q) (by kernel_rfl) (by kernel_rfl))) rfl) ?_
    refine fsteps_cons 5 rfl (fun a u hE hD hk => f_as (show ((decide ((q : Int) < (1 : Int))) : Bool) = true from decide_eq_true (by omega)) (f_val (o := ⟨some 19, _, _, _, _, _⟩) (.bool (decide ((q : Int) < (1 : Int)))) rfl (wanted_at (b := false) false rfl rfl (hD 2 17 (by kernel_rfl))) (exec_ltn (p := q) (q := 1) rfl (hD 3 18 (by kernel_rfl)) rfl) rfl)) ?_
    refine fsteps_cons 6 rfl (fun a u hE hD hk => f_val (o := ⟨some 20, _, _, _, _, _⟩) (.bool true) rfl (wanted_none rfl _) (exec_pickF (.tmp 17) (.const (.bool true)) (.tmp 19) (.bool true) rfl (hD 2 17 (by kernel_rfl)) (hD 4 19 (by kernel_rfl))) rfl) ?_
    refine fsteps_cons 7 rfl (fun a u hE hD hk => f_val (o := ⟨some 21, _, _, _, _, _⟩) (.bool true) rfl (wanted_none rfl _) (exec_move (.tmp 20) (.bool true) rfl (hD 5 20 (by kernel_rfl))) rfl) ?_
    refine fsteps_cons 8 rfl (fun a u hE hD hk => f_skip (o := ⟨some 22, _, _, _, _, _⟩) rfl (wanted_at (b := false) true rfl rfl (hD 6 21 (by kernel_rfl))) rfl) ?_
    refine fsteps_cons 9 rfl (fun a u hE hD hk => f_skip (o := ⟨some 23, _, _, _, _, _⟩) rfl (wanted_at (b := false) true rfl rfl (hD 6 21 (by kernel_rfl))) rfl) ?_
    refine fsteps_cons 10 rfl (fun a u hE hD hk => f_skip (o := ⟨some 24, _, _, _, _, _⟩) rfl (wanted_at (b := false) true rfl rfl (hD 6 21 (by kernel_rfl))) rfl) ?_
    refine fsteps_cons 11 rfl (fun a u hE hD hk => f_skip (o := ⟨some 25, _, _, _, _, _⟩) rfl (wanted_at (b := false) true rfl rfl (hD 6 21 (by kernel_rfl))) rfl) ?_
    refine fsteps_cons 12 rfl (fun a u hE hD hk => f_skip (o := ⟨some 26, _, _, _, _, _⟩) rfl (wanted_at (b := false) true rfl rfl (hD 6 21 (by kernel_rfl))) rfl) ?_
    refine fsteps_cons 13 rfl (fun a u hE hD hk => f_skip (o := ⟨some 27, _, _, _, _, _⟩) rfl (wanted_at (b := false) true rfl rfl (hD 6 21 (by kernel_rfl))) rfl) ?_
    refine fsteps_cons 14 rfl (fun a u hE hD hk => f_skip (o := ⟨some 28, _, _, _, _, _⟩) rfl (wanted_at (b := false) true rfl rfl (hD 6 21 (by kernel_rfl))) rfl) ?_
    refine fsteps_cons 15 rfl (fun a u hE hD hk => f_skip (o := ⟨some 29, _, _, _, _, _⟩) rfl (wanted_at (b := false) true rfl rfl (hD 6 21 (by kernel_rfl))) rfl) ?_
    refine fsteps_cons 16 rfl (fun a u hE hD hk => f_skip (o := ⟨some 30, _, _, _, _, _⟩) rfl (wanted_at (b := false) true rfl rfl (hD 6 21 (by kernel_rfl))) rfl) ?_
    refine fsteps_cons 17 rfl (fun a u hE hD hk => f_skip (o := ⟨some 31, _, _, _, _, _⟩) rfl (wanted_at (b := false) true rfl rfl (hD 6 21 (by kernel_rfl))) rfl) ?_
    refine fsteps_cons 18 rfl (fun a u hE hD hk => f_skip (o := ⟨some 32, _, _, _, _, _⟩) rfl (wanted_at (b := false) true rfl rfl (hD 6 21 (by kernel_rfl))) rfl) ?_
    refine fsteps_cons 19 rfl (fun a u hE hD hk => f_val (o := ⟨some 33, _, _, _, _, _⟩) (.bool true) rfl (wanted_none rfl _) (exec_pick (.tmp 21) (.const (.bool true)) (.tmp 32) (.bool true) rfl (hD 6 21 (by kernel_rfl)) rfl) rfl) ?_
    exact fsteps_nil
  intro gv w2 hV k2
  rw [show dstsOf _ 19 = [15, 16, 17, 18, 19, 20, 21, 22, 23, 24, 25, 26, 27, 28, 29, 30, 31, 32, 33] by kernel_rfl]
  simp only [List.foldl_cons, List.foldl_nil, List.setIfInBounds_toArray, List.set_cons_succ, List.set_cons_zero, List.drop_succ_cons, List.drop_zero]
  rw [show gv 33 = .bool true from hV 18 33 (by kernel_rfl)]
  clear hV
  refine wpList_nil ?_
  go_wp2
  go_ret
  exact ⟨by rw [HR.out]; rfl, by rw [HR.out]; exact HL0.out.kept (k1.trans k2), (Keep.mono (T := F) (k1.trans k2) (fun _ _ h => h.elim)), fun _ => k1.trans k2⟩

set_option maxRecDepth 100000 in
set_option maxHeartbeats 800000 in
theorem less_high (w : World) (F : Nat → Prop) (p : Nat) (X : List Ent) (t i q : Int) (h : Lvl 58 61 w F p X) (hlen : X.length ≤ 100000) (e : Ent) (he : X[idxM t i X]? = some e) (hq : 1 ≤ q) (hq2 : ¬ q ≤ e.o.qty) : Calls Try.prog 21 #[.pointer (some ⟨p, 0, none⟩), .int .i64 t, .int .i64 i, .int .i64 q] w fun r w' => r = .returned (.bool (lessM t i q X).1) ∧ Lvl 58 61 w' F p (lessM t i q X).2 ∧ Keep F w w' ∧ ((lessM t i q X).1 = false → Kept w w') := by
  have HR : Hid (lessM t i q X = (false, X)) := by
    show _ = _
    unfold lessM
    rw [he]
    simp only
    rw [if_neg (fun h => hq2 h.2)]
  obtain ⟨k, hkk⟩ : ∃ k, idxM t i X = k := ⟨_, rfl⟩
  rw [hkk] at he
  obtain ⟨n, hn⟩ : ∃ n, X.length = n := ⟨_, rfl⟩
  have hkn : k < n := by rw [← hn]; exact (List.getElem?_eq_some_iff.1 he).1
  have HPL : Hid (placeM t i X = (k : Int)) := by show _ = _; unfold placeM; rw [hkk, if_pos (by rw [hn]; exact hkn)]
  have hn1 : n ≤ 100000 := by omega
  have HL0 := Lib.hid h
  obtain ⟨h1, h2, v, hB, hS, h5⟩ := h
  rw [hn] at hS
  obtain ⟨g, off, c, rfl⟩ := hS.some_ (by omega)
  have HE : Hid (w.rangeAt g (off + k * 10) e.cells) := hS.rng k e he
  have HB := Lib.hid hB
  have HS := Lib.hid hS
  have H1 := Lib.hid h1
  have H2 := Lib.hid h2
  have H5 := Lib.hid h5
  have HEI := Lib.hid he
  have HN := Lib.hid hn
  clear hB hS h5 h1 h2 he hn
  go_enter Try.func21, Try.ntmps21
  go_upto_region 1 with fail
  refine wp_text 4 [.eq (.pointer (some ⟨p, 0, none⟩)), .eq (.int .i64 t), .eq (.int .i64 i), .eq (.int .i64 (k : Int))] rfl (by kernel_rfl) ?_ ?_
  · refine fsteps_cons 1 rfl (fun a u hE hD hk => f_val (o := ⟨some 11, _, _, _, _, _⟩) (.pointer (some ⟨p, 0, none⟩)) rfl (wanted_none rfl _) (exec_move (.tmp 0) (.pointer (some ⟨p, 0, none⟩)) rfl (hE 0 (.pointer (some ⟨p, 0, none⟩)) (by kernel_rfl) (by kernel_rfl))) rfl) ?_
    refine fsteps_cons 2 rfl (fun a u hE hD hk => f_val (o := ⟨some 12, _, _, _, _, _⟩) (.int .i64 t) rfl (wanted_none rfl _) (exec_move (.tmp 1) (.int .i64 t) rfl (hE 1 (.int .i64 t) (by kernel_rfl) (by kernel_rfl))) rfl) ?_
    refine fsteps_cons 3 rfl (fun a u hE hD hk => f_val (o := ⟨some 13, _, _, _, _, _⟩) (.int .i64 i) rfl (wanted_none rfl _) (exec_move (.tmp 2) (.int .i64 i) rfl (hE 2 (.int .i64 i) (by kernel_rfl) (by kernel_rfl))) rfl) ?_
    refine fsteps_cons 4 rfl (fun a u hE hD hk => f_call (o := ⟨some 14, _, _, _, _, _⟩) 34 #[.pointer (some ⟨p, 0, none⟩), .int .i64 t, .int .i64 i] rfl (wanted_none rfl _) (exec_call 34 _ [.tmp 11, .tmp 12, .tmp 13] _ [.pointer (some ⟨p, 0, none⟩), .int .i64 t, .int .i64 i] Try.func34 (by kernel_rfl) (by kernel_rfl) rfl (show [a.eval (.tmp 11), a.eval (.tmp 12), a.eval (.tmp 13)] = [.pointer (some ⟨p, 0, none⟩), .int .i64 t, .int .i64 i] from (by rw [show a.eval (.tmp 11) = .pointer (some ⟨p, 0, none⟩) from (hD 0 11 (by kernel_rfl)), show a.eval (.tmp 12) = .int .i64 t from (hD 1 12 (by kernel_rfl)), show a.eval (.tmp 13) = .int .i64 i from (hD 2 13 (by kernel_rfl))] <;> rfl)) u) ((by rw [← HPL.out]; exact place_any u F p X t i (HL0.out.kept hk) hlen))) ?_
    exact fsteps_nil
  intro gv w1 hV k1
  rw [show dstsOf _ 4 = [11, 12, 13, 14] by kernel_rfl]
  simp only [List.foldl_cons, List.foldl_nil, List.setIfInBounds_toArray, List.set_cons_succ, List.set_cons_zero, List.drop_succ_cons, List.drop_zero]
  rw [show gv 14 = .int .i64 (k : Int) from hV 3 14 (by kernel_rfl)]
  clear hV
  refine l_val (o := ⟨some 9, _, _, _, _, _⟩) (.int .i64 (k : Int)) rfl (exec_assign (.tmp 14) (.int .i64 (k : Int)) rfl (by kernel_rfl)) ?_
  simp only [Act.put, List.setIfInBounds_toArray, List.set_cons_succ, List.set_cons_zero]
  refine wpList_nil ?_
  have HB1 := Lib.hid (HB.out.kept k1)
  have HE1 := Lib.hid (range_kept HE.out k1)
  go_upto_region 2 with fail
  refine wp_text 19 [.eq (.int .i64 (k : Int)), .eq (.bool false), .eq (.bool false), .eq (.int .i64 q), .eq (.bool false), .eq (.bool false), .eq (.bool false), .eq (.int .i64 q), .eq (.pointer (some ⟨p, 0, none⟩)), .eq (.pointer (some ⟨p, 0, none⟩)), .eq (.pointer (some ⟨p, 1, none⟩)), .eq (.slice (some ⟨g, off, none⟩) n c), .eq (.int .i64 (k : Int)), .eq (.pointer (some ⟨g, off + k * 10, none⟩)), .eq (.pointer (some ⟨g, off + k * 10, none⟩)), .eq (.pointer (some ⟨g, off + k * 10 + 6, none⟩)), .eq (.int .i64 e.o.qty), .eq (.bool true), .eq (.bool true)] rfl (by kernel_rfl) ?_ ?_
  · refine fsteps_cons 1 rfl (fun a u hE hD hk => f_val (o := ⟨some 15, _, _, _, _, _⟩) (.int .i64 (k : Int)) rfl (wanted_none rfl _) (exec_move (.tmp 9) (.int .i64 (k : Int)) rfl (hE 9 (.int .i64 (k : Int)) (by kernel_rfl) (by kernel_rfl))) rfl) ?_
    refine fsteps_cons 2 rfl (fun a u hE hD hk => f_as (show ((decide (((k : Int) : Int) < (0 : Int))) : Bool) = false from decide_eq_false (by omega)) (f_val (o := ⟨some 16, _, _, _, _, _⟩) (.bool (decide (((k : Int) : Int) < (0 : Int)))) rfl (wanted_none rfl _) (exec_ltn (p := (k : Int)) (q := 0) rfl (hD 0 15 (by kernel_rfl)) rfl) rfl)) ?_
    refine fsteps_cons 3 rfl (fun a u hE hD hk => f_val (o := ⟨some 17, _, _, _, _, _⟩) (.bool false) rfl (wanted_none rfl _) (exec_move (.tmp 16) (.bool false) rfl (hD 1 16 (by kernel_rfl))) rfl) ?_
    refine fsteps_cons 4 rfl (fun a u hE hD hk => f_val (o := ⟨some 18, _, _, _, _, _⟩) (.int .i64 q) rfl (wanted_at (b := false) false rfl rfl (hD 2 17 (by kernel_rfl))) (exec_move (.tmp 3) (.int .i64 q) rfl (hE 3 (.int .i64 q) (by kernel_rfl) (by kernel_rfl))) rfl) ?_
    refine fsteps_cons 5 rfl (fun a u hE hD hk => f_as (show ((decide ((q : Int) < (1 : Int))) : Bool) = false from decide_eq_false (by omega)) (f_val (o := ⟨some 19, _, _, _, _, _⟩) (.bool (decide ((q : Int) < (1 : Int)))) rfl (wanted_at (b := false) false rfl rfl (hD 2 17 (by kernel_rfl))) (exec_ltn (p := q) (q := 1) rfl (hD 3 18 (by kernel_rfl)) rfl) rfl)) ?_
    refine fsteps_cons 6 rfl (fun a u hE hD hk => f_val (o := ⟨some 20, _, _, _, _, _⟩) (.bool false) rfl (wanted_none rfl _) (exec_pickF (.tmp 17) (.const (.bool true)) (.tmp 19) (.bool false) rfl (hD 2 17 (by kernel_rfl)) (hD 4 19 (by kernel_rfl))) rfl) ?_
    refine fsteps_cons 7 rfl (fun a u hE hD hk => f_val (o := ⟨some 21, _, _, _, _, _⟩) (.bool false) rfl (wanted_none rfl _) (exec_move (.tmp 20) (.bool false) rfl (hD 5 20 (by kernel_rfl))) rfl) ?_
    refine fsteps_cons 8 rfl (fun a u hE hD hk => f_val (o := ⟨some 22, _, _, _, _, _⟩) (.int .i64 q) rfl (wanted_at (b := false) false rfl rfl (hD 6 21 (by kernel_rfl))) (exec_move (.tmp 3) (.int .i64 q) rfl (hE 3 (.int .i64 q) (by kernel_rfl) (by kernel_rfl))) rfl) ?_
    refine fsteps_cons 9 rfl (fun a u hE hD hk => f_val (o := ⟨some 23, _, _, _, _, _⟩) (.pointer (some ⟨p, 0, none⟩)) rfl (wanted_at (b := false) false rfl rfl (hD 6 21 (by kernel_rfl))) (exec_move (.tmp 0) (.pointer (some ⟨p, 0, none⟩)) rfl (hE 0 (.pointer (some ⟨p, 0, none⟩)) (by kernel_rfl) (by kernel_rfl))) rfl) ?_
    refine fsteps_cons 10 rfl (fun a u hE hD hk => f_val (o := ⟨some 24, _, _, _, _, _⟩) (.pointer (some ⟨p, 0, none⟩)) rfl (wanted_at (b := false) false rfl rfl (hD 6 21 (by kernel_rfl))) (exec_nilp (.tmp 23) ⟨p, 0, none⟩ rfl (hD 8 23 (by kernel_rfl))) rfl) ?_
    refine fsteps_cons 11 rfl (fun a u hE hD hk => f_val (o := ⟨some 25, _, _, _, _, _⟩) (.pointer (some ⟨p, 1, none⟩)) rfl (wanted_at (b := false) false rfl rfl (hD 6 21 (by kernel_rfl))) (exec_fldo 58 1 1 (.tmp 24) (p) (0) (1) rfl (hD 9 24 (by kernel_rfl)) (by kernel_rfl) rfl) rfl) ?_
    refine fsteps_cons 12 rfl (fun a u hE hD hk => f_val (o := ⟨some 26, _, _, _, _, _⟩) (.slice (some ⟨g, off, none⟩) n c) rfl (wanted_at (b := false) false rfl rfl (hD 6 21 (by kernel_rfl))) (exec_ldv 56 _ Try.underlying56 (.tmp 25) ⟨p, 1, none⟩ (.slice (some ⟨g, off, none⟩) n c) rfl (hD 10 25 (by kernel_rfl)) (by rw [(HB1.out.kept hk).cell]; rfl)) rfl) ?_
    refine fsteps_cons 13 rfl (fun a u hE hD hk => f_val (o := ⟨some 27, _, _, _, _, _⟩) (.int .i64 (k : Int)) rfl (wanted_at (b := false) false rfl rfl (hD 6 21 (by kernel_rfl))) (exec_move (.tmp 9) (.int .i64 (k : Int)) rfl (hE 9 (.int .i64 (k : Int)) (by kernel_rfl) (by kernel_rfl))) rfl) ?_
    refine fsteps_cons 14 rfl (fun a u hE hD hk => f_val (o := ⟨some 28, _, _, _, _, _⟩) (.pointer (some ⟨g, off + k * 10, none⟩)) rfl (wanted_at (b := false) false rfl rfl (hD 6 21 (by kernel_rfl))) (exec_ixo slE (.tmp 26) (.tmp 27) (g) (off) n c k (off + k * 10) ((k : Int)) rfl (hD 11 26 (by kernel_rfl)) (hD 12 27 (by kernel_rfl)) (by first | rfl | omega) (hkn) (by first | rfl | omega)) rfl) ?_
    refine fsteps_cons 15 rfl (fun a u hE hD hk => f_val (o := ⟨some 29, _, _, _, _, _⟩) (.pointer (some ⟨g, off + k * 10, none⟩)) rfl (wanted_at (b := false) false rfl rfl (hD 6 21 (by kernel_rfl))) (exec_fldo 61 0 0 (.tmp 28) (g) (off + k * 10) (off + k * 10) rfl (hD 13 28 (by kernel_rfl)) (by kernel_rfl) rfl) rfl) ?_
    refine fsteps_cons 16 rfl (fun a u hE hD hk => f_val (o := ⟨some 30, _, _, _, _, _⟩) (.pointer (some ⟨g, off + k * 10 + 6, none⟩)) rfl (wanted_at (b := false) false rfl rfl (hD 6 21 (by kernel_rfl))) (exec_fldo 25 6 6 (.tmp 29) (g) (off + k * 10) (off + k * 10 + 6) rfl (hD 14 29 (by kernel_rfl)) (by kernel_rfl) rfl) rfl) ?_
    refine fsteps_cons 17 rfl (fun a u hE hD hk => f_val (o := ⟨some 31, _, _, _, _, _⟩) (.int .i64 e.o.qty) rfl (wanted_at (b := false) false rfl rfl (hD 6 21 (by kernel_rfl))) (exec_loadi 3 Try.underlying3 (.tmp 30) ⟨g, off + k * 10 + 6, none⟩ (.int .i64 e.o.qty) rfl (hD 15 30 (by kernel_rfl)) (range_int (range_kept HE1.out hk) 6 _ rfl)) rfl) ?_
    refine fsteps_cons 18 rfl (fun a u hE hD hk => f_as (show ((decide ((e.o.qty : Int) < (q : Int))) : Bool) = true from decide_eq_true (by omega)) (f_val (o := ⟨some 32, _, _, _, _, _⟩) (.bool (decide ((e.o.qty : Int) < (q : Int)))) rfl (wanted_at (b := false) false rfl rfl (hD 6 21 (by kernel_rfl))) (exec_gtn (p := q) (q := e.o.qty) rfl (hD 7 22 (by kernel_rfl)) (hD 16 31 (by kernel_rfl))) rfl)) ?_
    refine fsteps_cons 19 rfl (fun a u hE hD hk => f_val (o := ⟨some 33, _, _, _, _, _⟩) (.bool true) rfl (wanted_none rfl _) (exec_pickF (.tmp 21) (.const (.bool true)) (.tmp 32) (.bool true) rfl (hD 6 21 (by kernel_rfl)) (hD 17 32 (by kernel_rfl))) rfl) ?_
    exact fsteps_nil
  intro gv w2 hV k2
  rw [show dstsOf _ 19 = [15, 16, 17, 18, 19, 20, 21, 22, 23, 24, 25, 26, 27, 28, 29, 30, 31, 32, 33] by kernel_rfl]
  simp only [List.foldl_cons, List.foldl_nil, List.setIfInBounds_toArray, List.set_cons_succ, List.set_cons_zero, List.drop_succ_cons, List.drop_zero]
  rw [show gv 33 = .bool true from hV 18 33 (by kernel_rfl)]
  clear hV
  refine wpList_nil ?_
  go_wp2
  go_ret
  exact ⟨by rw [HR.out]; rfl, by rw [HR.out]; exact HL0.out.kept (k1.trans k2), (Keep.mono (T := F) (k1.trans k2) (fun _ _ h => h.elim)), fun _ => k1.trans k2⟩

set_option maxRecDepth 100000 in
set_option maxHeartbeats 800000 in
theorem less_yes (w : World) (F : Nat → Prop) (p : Nat) (X : List Ent) (t i q : Int) (h : Lvl 58 61 w F p X) (hlen : X.length ≤ 100000) (e : Ent) (he : X[idxM t i X]? = some e) (hq : 1 ≤ q) (hq2 : q ≤ e.o.qty) : Calls Try.prog 21 #[.pointer (some ⟨p, 0, none⟩), .int .i64 t, .int .i64 i, .int .i64 q] w fun r w' => r = .returned (.bool (lessM t i q X).1) ∧ Lvl 58 61 w' F p (lessM t i q X).2 ∧ Keep F w w' ∧ ((lessM t i q X).1 = false → Kept w w') := by
  have HR : Hid (lessM t i q X = (true, X.set (idxM t i X) ⟨e.o.q q, mn e.n q⟩)) := by
    show _ = _
    unfold lessM
    rw [he]
    simp only
    rw [if_pos ⟨hq, hq2⟩]
  obtain ⟨k, hkk⟩ : ∃ k, idxM t i X = k := ⟨_, rfl⟩
  rw [hkk] at he HR
  obtain ⟨n, hn⟩ : ∃ n, X.length = n := ⟨_, rfl⟩
  have hkn : k < n := by rw [← hn]; exact (List.getElem?_eq_some_iff.1 he).1
  have HPL : Hid (placeM t i X = (k : Int)) := by show _ = _; unfold placeM; rw [hkk, if_pos (by rw [hn]; exact hkn)]
  have hn1 : n ≤ 100000 := by omega
  have HL0 := Lib.hid h
  obtain ⟨h1, h2, v, hB, hS, h5⟩ := h
  rw [hn] at hS
  obtain ⟨g, off, c, rfl⟩ := hS.some_ (by omega)
  have HE : Hid (w.rangeAt g (off + k * 10) e.cells) := hS.rng k e he
  have HB := Lib.hid hB
  have HS := Lib.hid hS
  have H1 := Lib.hid h1
  have H2 := Lib.hid h2
  have H5 := Lib.hid h5
  have HEI := Lib.hid he
  have HN := Lib.hid hn
  clear hB hS h5 h1 h2 he hn
  have hgp : g ≠ p := (H5.out g rfl).2
  go_enter Try.func21, Try.ntmps21
  go_upto_region 1 with fail
  refine wp_text 4 [.eq (.pointer (some ⟨p, 0, none⟩)), .eq (.int .i64 t), .eq (.int .i64 i), .eq (.int .i64 (k : Int))] rfl (by kernel_rfl) ?_ ?_
  · refine fsteps_cons 1 rfl (fun a u hE hD hk => f_val (o := ⟨some 11, _, _, _, _, _⟩) (.pointer (some ⟨p, 0, none⟩)) rfl (wanted_none rfl _) (exec_move (.tmp 0) (.pointer (some ⟨p, 0, none⟩)) rfl (hE 0 (.pointer (some ⟨p, 0, none⟩)) (by kernel_rfl) (by kernel_rfl))) rfl) ?_
    refine fsteps_cons 2 rfl (fun a u hE hD hk => f_val (o := ⟨some 12, _, _, _, _, _⟩) (.int .i64 t) rfl (wanted_none rfl _) (exec_move (.tmp 1) (.int .i64 t) rfl (hE 1 (.int .i64 t) (by kernel_rfl) (by kernel_rfl))) rfl) ?_
    refine fsteps_cons 3 rfl (fun a u hE hD hk => f_val (o := ⟨some 13, _, _, _, _, _⟩) (.int .i64 i) rfl (wanted_none rfl _) (exec_move (.tmp 2) (.int .i64 i) rfl (hE 2 (.int .i64 i) (by kernel_rfl) (by kernel_rfl))) rfl) ?_
    refine fsteps_cons 4 rfl (fun a u hE hD hk => f_call (o := ⟨some 14, _, _, _, _, _⟩) 34 #[.pointer (some ⟨p, 0, none⟩), .int .i64 t, .int .i64 i] rfl (wanted_none rfl _) (exec_call 34 _ [.tmp 11, .tmp 12, .tmp 13] _ [.pointer (some ⟨p, 0, none⟩), .int .i64 t, .int .i64 i] Try.func34 (by kernel_rfl) (by kernel_rfl) rfl (show [a.eval (.tmp 11), a.eval (.tmp 12), a.eval (.tmp 13)] = [.pointer (some ⟨p, 0, none⟩), .int .i64 t, .int .i64 i] from (by rw [show a.eval (.tmp 11) = .pointer (some ⟨p, 0, none⟩) from (hD 0 11 (by kernel_rfl)), show a.eval (.tmp 12) = .int .i64 t from (hD 1 12 (by kernel_rfl)), show a.eval (.tmp 13) = .int .i64 i from (hD 2 13 (by kernel_rfl))] <;> rfl)) u) ((by rw [← HPL.out]; exact place_any u F p X t i (HL0.out.kept hk) hlen))) ?_
    exact fsteps_nil
  intro gv w1 hV k1
  rw [show dstsOf _ 4 = [11, 12, 13, 14] by kernel_rfl]
  simp only [List.foldl_cons, List.foldl_nil, List.setIfInBounds_toArray, List.set_cons_succ, List.set_cons_zero, List.drop_succ_cons, List.drop_zero]
  rw [show gv 14 = .int .i64 (k : Int) from hV 3 14 (by kernel_rfl)]
  clear hV
  refine l_val (o := ⟨some 9, _, _, _, _, _⟩) (.int .i64 (k : Int)) rfl (exec_assign (.tmp 14) (.int .i64 (k : Int)) rfl (by kernel_rfl)) ?_
  simp only [Act.put, List.setIfInBounds_toArray, List.set_cons_succ, List.set_cons_zero]
  refine wpList_nil ?_
  have HB1 := Lib.hid (HB.out.kept k1)
  have HE1 := Lib.hid (range_kept HE.out k1)
  go_upto_region 2 with fail
  refine wp_text 19 [.eq (.int .i64 (k : Int)), .eq (.bool false), .eq (.bool false), .eq (.int .i64 q), .eq (.bool false), .eq (.bool false), .eq (.bool false), .eq (.int .i64 q), .eq (.pointer (some ⟨p, 0, none⟩)), .eq (.pointer (some ⟨p, 0, none⟩)), .eq (.pointer (some ⟨p, 1, none⟩)), .eq (.slice (some ⟨g, off, none⟩) n c), .eq (.int .i64 (k : Int)), .eq (.pointer (some ⟨g, off + k * 10, none⟩)), .eq (.pointer (some ⟨g, off + k * 10, none⟩)), .eq (.pointer (some ⟨g, off + k * 10 + 6, none⟩)), .eq (.int .i64 e.o.qty), .eq (.bool false), .eq (.bool false)] rfl (by kernel_rfl) ?_ ?_
  · refine fsteps_cons 1 rfl (fun a u hE hD hk => f_val (o := ⟨some 15, _, _, _, _, _⟩) (.int .i64 (k : Int)) rfl (wanted_none rfl _) (exec_move (.tmp 9) (.int .i64 (k : Int)) rfl (hE 9 (.int .i64 (k : Int)) (by kernel_rfl) (by kernel_rfl))) rfl) ?_
    refine fsteps_cons 2 rfl (fun a u hE hD hk => f_as (show ((decide (((k : Int) : Int) < (0 : Int))) : Bool) = false from decide_eq_false (by omega)) (f_val (o := ⟨some 16, _, _, _, _, _⟩) (.bool (decide (((k : Int) : Int) < (0 : Int)))) rfl (wanted_none rfl _) (exec_ltn (p := (k : Int)) (q := 0) rfl (hD 0 15 (by kernel_rfl)) rfl) rfl)) ?_
    refine fsteps_cons 3 rfl (fun a u hE hD hk => f_val (o := ⟨some 17, _, _, _, _, _⟩) (.bool false) rfl (wanted_none rfl _) (exec_move (.tmp 16) (.bool false) rfl (hD 1 16 (by kernel_rfl))) rfl) ?_
    refine fsteps_cons 4 rfl (fun a u hE hD hk => f_val (o := ⟨some 18, _, _, _, _, _⟩) (.int .i64 q) rfl (wanted_at (b := false) false rfl rfl (hD 2 17 (by kernel_rfl))) (exec_move (.tmp 3) (.int .i64 q) rfl (hE 3 (.int .i64 q) (by kernel_rfl) (by kernel_rfl))) rfl) ?_
    refine fsteps_cons 5 rfl (fun a u hE hD hk => f_as (show ((decide ((q : Int) < (1 : Int))) : Bool) = false from decide_eq_false (by omega)) (f_val (o := ⟨some 19, _, _, _, _, _⟩) (.bool (decide ((q : Int) < (1 : Int)))) rfl (wanted_at (b := false) false rfl rfl (hD 2 17 (by kernel_rfl))) (exec_ltn (p := q) (q := 1) rfl (hD 3 18 (by kernel_rfl)) rfl) rfl)) ?_
    refine fsteps_cons 6 rfl (fun a u hE hD hk => f_val (o := ⟨some 20, _, _, _, _, _⟩) (.bool false) rfl (wanted_none rfl _) (exec_pickF (.tmp 17) (.const (.bool true)) (.tmp 19) (.bool false) rfl (hD 2 17 (by kernel_rfl)) (hD 4 19 (by kernel_rfl))) rfl) ?_
    refine fsteps_cons 7 rfl (fun a u hE hD hk => f_val (o := ⟨some 21, _, _, _, _, _⟩) (.bool false) rfl (wanted_none rfl _) (exec_move (.tmp 20) (.bool false) rfl (hD 5 20 (by kernel_rfl))) rfl) ?_
    refine fsteps_cons 8 rfl (fun a u hE hD hk => f_val (o := ⟨some 22, _, _, _, _, _⟩) (.int .i64 q) rfl (wanted_at (b := false) false rfl rfl (hD 6 21 (by kernel_rfl))) (exec_move (.tmp 3) (.int .i64 q) rfl (hE 3 (.int .i64 q) (by kernel_rfl) (by kernel_rfl))) rfl) ?_
    refine fsteps_cons 9 rfl (fun a u hE hD hk => f_val (o := ⟨some 23, _, _, _, _, _⟩) (.pointer (some ⟨p, 0, none⟩)) rfl (wanted_at (b := false) false rfl rfl (hD 6 21 (by kernel_rfl))) (exec_move (.tmp 0) (.pointer (some ⟨p, 0, none⟩)) rfl (hE 0 (.pointer (some ⟨p, 0, none⟩)) (by kernel_rfl) (by kernel_rfl))) rfl) ?_
    refine fsteps_cons 10 rfl (fun a u hE hD hk => f_val (o := ⟨some 24, _, _, _, _, _⟩) (.pointer (some ⟨p, 0, none⟩)) rfl (wanted_at (b := false) false rfl rfl (hD 6 21 (by kernel_rfl))) (exec_nilp (.tmp 23) ⟨p, 0, none⟩ rfl (hD 8 23 (by kernel_rfl))) rfl) ?_
    refine fsteps_cons 11 rfl (fun a u hE hD hk => f_val (o := ⟨some 25, _, _, _, _, _⟩) (.pointer (some ⟨p, 1, none⟩)) rfl (wanted_at (b := false) false rfl rfl (hD 6 21 (by kernel_rfl))) (exec_fldo 58 1 1 (.tmp 24) (p) (0) (1) rfl (hD 9 24 (by kernel_rfl)) (by kernel_rfl) rfl) rfl) ?_
    refine fsteps_cons 12 rfl (fun a u hE hD hk => f_val (o := ⟨some 26, _, _, _, _, _⟩) (.slice (some ⟨g, off, none⟩) n c) rfl (wanted_at (b := false) false rfl rfl (hD 6 21 (by kernel_rfl))) (exec_ldv 56 _ Try.underlying56 (.tmp 25) ⟨p, 1, none⟩ (.slice (some ⟨g, off, none⟩) n c) rfl (hD 10 25 (by kernel_rfl)) (by rw [(HB1.out.kept hk).cell]; rfl)) rfl) ?_
    refine fsteps_cons 13 rfl (fun a u hE hD hk => f_val (o := ⟨some 27, _, _, _, _, _⟩) (.int .i64 (k : Int)) rfl (wanted_at (b := false) false rfl rfl (hD 6 21 (by kernel_rfl))) (exec_move (.tmp 9) (.int .i64 (k : Int)) rfl (hE 9 (.int .i64 (k : Int)) (by kernel_rfl) (by kernel_rfl))) rfl) ?_
    refine fsteps_cons 14 rfl (fun a u hE hD hk => f_val (o := ⟨some 28, _, _, _, _, _⟩) (.pointer (some ⟨g, off + k * 10, none⟩)) rfl (wanted_at (b := false) false rfl rfl (hD 6 21 (by kernel_rfl))) (exec_ixo slE (.tmp 26) (.tmp 27) (g) (off) n c k (off + k * 10) ((k : Int)) rfl (hD 11 26 (by kernel_rfl)) (hD 12 27 (by kernel_rfl)) (by first | rfl | omega) (hkn) (by first | rfl | omega)) rfl) ?_
    refine fsteps_cons 15 rfl (fun a u hE hD hk => f_val (o := ⟨some 29, _, _, _, _, _⟩) (.pointer (some ⟨g, off + k * 10, none⟩)) rfl (wanted_at (b := false) false rfl rfl (hD 6 21 (by kernel_rfl))) (exec_fldo 61 0 0 (.tmp 28) (g) (off + k * 10) (off + k * 10) rfl (hD 13 28 (by kernel_rfl)) (by kernel_rfl) rfl) rfl) ?_
    refine fsteps_cons 16 rfl (fun a u hE hD hk => f_val (o := ⟨some 30, _, _, _, _, _⟩) (.pointer (some ⟨g, off + k * 10 + 6, none⟩)) rfl (wanted_at (b := false) false rfl rfl (hD 6 21 (by kernel_rfl))) (exec_fldo 25 6 6 (.tmp 29) (g) (off + k * 10) (off + k * 10 + 6) rfl (hD 14 29 (by kernel_rfl)) (by kernel_rfl) rfl) rfl) ?_
    refine fsteps_cons 17 rfl (fun a u hE hD hk => f_val (o := ⟨some 31, _, _, _, _, _⟩) (.int .i64 e.o.qty) rfl (wanted_at (b := false) false rfl rfl (hD 6 21 (by kernel_rfl))) (exec_loadi 3 Try.underlying3 (.tmp 30) ⟨g, off + k * 10 + 6, none⟩ (.int .i64 e.o.qty) rfl (hD 15 30 (by kernel_rfl)) (range_int (range_kept HE1.out hk) 6 _ rfl)) rfl) ?_
    refine fsteps_cons 18 rfl (fun a u hE hD hk => f_as (show ((decide ((e.o.qty : Int) < (q : Int))) : Bool) = false from decide_eq_false (by omega)) (f_val (o := ⟨some 32, _, _, _, _, _⟩) (.bool (decide ((e.o.qty : Int) < (q : Int)))) rfl (wanted_at (b := false) false rfl rfl (hD 6 21 (by kernel_rfl))) (exec_gtn (p := q) (q := e.o.qty) rfl (hD 7 22 (by kernel_rfl)) (hD 16 31 (by kernel_rfl))) rfl)) ?_
    refine fsteps_cons 19 rfl (fun a u hE hD hk => f_val (o := ⟨some 33, _, _, _, _, _⟩) (.bool false) rfl (wanted_none rfl _) (exec_pickF (.tmp 21) (.const (.bool true)) (.tmp 32) (.bool false) rfl (hD 6 21 (by kernel_rfl)) (hD 17 32 (by kernel_rfl))) rfl) ?_
    exact fsteps_nil
  intro gv w2 hV k2
  rw [show dstsOf _ 19 = [15, 16, 17, 18, 19, 20, 21, 22, 23, 24, 25, 26, 27, 28, 29, 30, 31, 32, 33] by kernel_rfl]
  simp only [List.foldl_cons, List.foldl_nil, List.setIfInBounds_toArray, List.set_cons_succ, List.set_cons_zero, List.drop_succ_cons, List.drop_zero]
  rw [show gv 33 = .bool false from hV 18 33 (by kernel_rfl)]
  clear hV
  refine wpList_nil ?_
  have k12 := k1.trans k2
  have HB2 := Lib.hid (HB.out.kept k12)
  clear HB1 HE1 k1 k2 HE
  go_upto_region 4 with fail
  refine wp_text 7 [.eq (.pointer (some ⟨p, 0, none⟩)), .eq (.pointer (some ⟨p, 0, none⟩)), .eq (.pointer (some ⟨p, 1, none⟩)), .eq (.slice (some ⟨g, off, none⟩) n c), .eq (.int .i64 (k : Int)), .eq (.pointer (some ⟨g, off + k * 10, none⟩)), .eq (.pointer (some ⟨g, off + k * 10, none⟩))] rfl (by kernel_rfl) ?_ ?_
  · refine fsteps_cons 1 rfl (fun a u hE hD hk => f_val (o := ⟨some 34, _, _, _, _, _⟩) (.pointer (some ⟨p, 0, none⟩)) rfl (wanted_none rfl _) (exec_move (.tmp 0) (.pointer (some ⟨p, 0, none⟩)) rfl (hE 0 (.pointer (some ⟨p, 0, none⟩)) (by kernel_rfl) (by kernel_rfl))) rfl) ?_
    refine fsteps_cons 2 rfl (fun a u hE hD hk => f_val (o := ⟨some 35, _, _, _, _, _⟩) (.pointer (some ⟨p, 0, none⟩)) rfl (wanted_none rfl _) (exec_nilp (.tmp 34) ⟨p, 0, none⟩ rfl (hD 0 34 (by kernel_rfl))) rfl) ?_
    refine fsteps_cons 3 rfl (fun a u hE hD hk => f_val (o := ⟨some 36, _, _, _, _, _⟩) (.pointer (some ⟨p, 1, none⟩)) rfl (wanted_none rfl _) (exec_fldo 58 1 1 (.tmp 35) (p) (0) (1) rfl (hD 1 35 (by kernel_rfl)) (by kernel_rfl) rfl) rfl) ?_
    refine fsteps_cons 4 rfl (fun a u hE hD hk => f_val (o := ⟨some 37, _, _, _, _, _⟩) (.slice (some ⟨g, off, none⟩) n c) rfl (wanted_none rfl _) (exec_ldv 56 _ Try.underlying56 (.tmp 36) ⟨p, 1, none⟩ (.slice (some ⟨g, off, none⟩) n c) rfl (hD 2 36 (by kernel_rfl)) (by rw [(HB2.out.kept hk).cell]; rfl)) rfl) ?_
    refine fsteps_cons 5 rfl (fun a u hE hD hk => f_val (o := ⟨some 38, _, _, _, _, _⟩) (.int .i64 (k : Int)) rfl (wanted_none rfl _) (exec_move (.tmp 9) (.int .i64 (k : Int)) rfl (hE 9 (.int .i64 (k : Int)) (by kernel_rfl) (by kernel_rfl))) rfl) ?_
    refine fsteps_cons 6 rfl (fun a u hE hD hk => f_val (o := ⟨some 39, _, _, _, _, _⟩) (.pointer (some ⟨g, off + k * 10, none⟩)) rfl (wanted_none rfl _) (exec_ixo slE (.tmp 37) (.tmp 38) (g) (off) n c k (off + k * 10) ((k : Int)) rfl (hD 3 37 (by kernel_rfl)) (hD 4 38 (by kernel_rfl)) (by first | rfl | omega) (hkn) (by first | rfl | omega)) rfl) ?_
    refine fsteps_cons 7 rfl (fun a u hE hD hk => f_val (o := ⟨some 10, _, _, _, _, _⟩) (.pointer (some ⟨g, off + k * 10, none⟩)) rfl (wanted_none rfl _) (exec_assign (.tmp 39) (.pointer (some ⟨g, off + k * 10, none⟩)) rfl (hD 5 39 (by kernel_rfl))) rfl) ?_
    exact fsteps_nil
  intro gv w3 hV k3
  rw [show dstsOf _ 7 = [34, 35, 36, 37, 38, 39, 10] by kernel_rfl]
  simp only [List.foldl_cons, List.foldl_nil, List.setIfInBounds_toArray, List.set_cons_succ, List.set_cons_zero, List.drop_succ_cons, List.drop_zero]
  rw [show gv 10 = .pointer (some ⟨g, off + k * 10, none⟩) from hV 6 10 (by kernel_rfl)]
  clear hV
  refine wpList_nil ?_
  have kw3 := k12.trans k3
  have HS3 := Lib.hid (HS.out.kept kw3)
  have HB3 := Lib.hid (HB.out.kept kw3)
  have z3 := kw3.size
  clear HS HB HB2 k12 k3
  go_upto_region 5 with fail
  refine wp_text 5 [.eq (.pointer (some ⟨g, off + k * 10, none⟩)), .eq (.int .i64 q), .eq (.pointer (some ⟨g, off + k * 10, none⟩)), .eq (.pointer (some ⟨g, off + k * 10, none⟩)), .eq (.pointer (some ⟨g, off + k * 10 + 6, none⟩))] rfl (by kernel_rfl) ?_ ?_
  · refine fsteps_cons 1 rfl (fun a u hE hD hk => f_val (o := ⟨some 40, _, _, _, _, _⟩) (.pointer (some ⟨g, off + k * 10, none⟩)) rfl (wanted_none rfl _) (exec_move (.tmp 10) (.pointer (some ⟨g, off + k * 10, none⟩)) rfl (hE 10 (.pointer (some ⟨g, off + k * 10, none⟩)) (by kernel_rfl) (by kernel_rfl))) rfl) ?_
    refine fsteps_cons 2 rfl (fun a u hE hD hk => f_val (o := ⟨some 41, _, _, _, _, _⟩) (.int .i64 q) rfl (wanted_none rfl _) (exec_move (.tmp 3) (.int .i64 q) rfl (hE 3 (.int .i64 q) (by kernel_rfl) (by kernel_rfl))) rfl) ?_
    refine fsteps_cons 3 rfl (fun a u hE hD hk => f_val (o := ⟨some 42, _, _, _, _, _⟩) (.pointer (some ⟨g, off + k * 10, none⟩)) rfl (wanted_none rfl _) (exec_nilp (.tmp 40) ⟨g, off + k * 10, none⟩ rfl (hD 0 40 (by kernel_rfl))) rfl) ?_
    refine fsteps_cons 4 rfl (fun a u hE hD hk => f_val (o := ⟨some 43, _, _, _, _, _⟩) (.pointer (some ⟨g, off + k * 10, none⟩)) rfl (wanted_none rfl _) (exec_fldo 61 0 0 (.tmp 42) (g) (off + k * 10) (off + k * 10) rfl (hD 2 42 (by kernel_rfl)) (by kernel_rfl) rfl) rfl) ?_
    refine fsteps_cons 5 rfl (fun a u hE hD hk => f_val (o := ⟨some 44, _, _, _, _, _⟩) (.pointer (some ⟨g, off + k * 10 + 6, none⟩)) rfl (wanted_none rfl _) (exec_fldo 25 6 6 (.tmp 43) (g) (off + k * 10) (off + k * 10 + 6) rfl (hD 3 43 (by kernel_rfl)) (by kernel_rfl) rfl) rfl) ?_
    exact fsteps_nil
  intro gv w4 hV k4
  rw [show dstsOf _ 5 = [40, 41, 42, 43, 44] by kernel_rfl]
  simp only [List.foldl_cons, List.foldl_nil, List.setIfInBounds_toArray, List.set_cons_succ, List.set_cons_zero, List.drop_succ_cons, List.drop_zero]
  rw [show gv 44 = .pointer (some ⟨g, off + k * 10 + 6, none⟩) from hV 4 44 (by kernel_rfl)]
  rw [show gv 41 = .int .i64 q from hV 1 41 (by kernel_rfl)]
  clear hV
  refine l_rowi (o := ⟨none, _, _, _, _, _⟩) 61 g off n c k 6 X e ⟨e.o.q q, e.n⟩ q ⟨g, off + k * 10 + 6, none⟩ (.tmp 44) (.tmp 41) rfl rfl (by kernel_rfl) (by kernel_rfl) (by rw [Nat.add_assoc]) (HS3.out.kept k4) HN.out.symm HEI.out (by omega) rfl ?_
  intro w5 hS5 hk5 hs5
  simp only [Act.put]
  refine wpList_nil ?_
  have HE5I : Hid ((X.set k ⟨e.o.q q, e.n⟩)[k]? = some ⟨e.o.q q, e.n⟩) := by
    show _ = _
    rw [List.getElem?_set_self (by rw [HN.out]; exact hkn)]
  have HS5 := Lib.hid hS5
  have HE5 : Hid (w5.rangeAt g (off + k * 10) (Ent.mk (e.o.q q) e.n).cells) := hS5.rng k _ HE5I.out
  have z5 : w.heap.size ≤ w5.heap.size := by have := k4.size; omega
  have K5 : Keep (· = g) w w5 := (Keep.mono (T := (· = g)) (kw3.trans k4) (fun _ _ h => h.elim)).trans hk5 (fun _ _ h => h)
  have HB5 := Lib.hid ((HB3.out.kept k4).keep hk5 (fun e => hgp e.symm))
  clear hS5 hk5 k4 kw3 HS3 HB3
  go_upto_region 6 with fail
  refine wp_text 9 [.eq (.pointer (some ⟨g, off + k * 10, none⟩)), .eq (.pointer (some ⟨g, off + k * 10, none⟩)), .eq (.pointer (some ⟨g, off + k * 10, none⟩)), .eq (.pointer (some ⟨g, off + k * 10 + 9, none⟩)), .eq (.int .i64 (Ent.mk (e.o.q q) e.n).n), .eq (.int .i64 q), .eq (.int .i64 (mn e.n q)), .eq (.pointer (some ⟨g, off + k * 10, none⟩)), .eq (.pointer (some ⟨g, off + k * 10 + 9, none⟩))] rfl (by kernel_rfl) ?_ ?_
  · refine fsteps_cons 1 rfl (fun a u hE hD hk => f_val (o := ⟨some 45, _, _, _, _, _⟩) (.pointer (some ⟨g, off + k * 10, none⟩)) rfl (wanted_none rfl _) (exec_move (.tmp 10) (.pointer (some ⟨g, off + k * 10, none⟩)) rfl (hE 10 (.pointer (some ⟨g, off + k * 10, none⟩)) (by kernel_rfl) (by kernel_rfl))) rfl) ?_
    refine fsteps_cons 2 rfl (fun a u hE hD hk => f_val (o := ⟨some 46, _, _, _, _, _⟩) (.pointer (some ⟨g, off + k * 10, none⟩)) rfl (wanted_none rfl _) (exec_move (.tmp 10) (.pointer (some ⟨g, off + k * 10, none⟩)) rfl (hE 10 (.pointer (some ⟨g, off + k * 10, none⟩)) (by kernel_rfl) (by kernel_rfl))) rfl) ?_
    refine fsteps_cons 3 rfl (fun a u hE hD hk => f_val (o := ⟨some 47, _, _, _, _, _⟩) (.pointer (some ⟨g, off + k * 10, none⟩)) rfl (wanted_none rfl _) (exec_nilp (.tmp 46) ⟨g, off + k * 10, none⟩ rfl (hD 1 46 (by kernel_rfl))) rfl) ?_
    refine fsteps_cons 4 rfl (fun a u hE hD hk => f_val (o := ⟨some 48, _, _, _, _, _⟩) (.pointer (some ⟨g, off + k * 10 + 9, none⟩)) rfl (wanted_none rfl _) (exec_fldo 61 1 9 (.tmp 47) (g) (off + k * 10) (off + k * 10 + 9) rfl (hD 2 47 (by kernel_rfl)) (by kernel_rfl) rfl) rfl) ?_
    refine fsteps_cons 5 rfl (fun a u hE hD hk => f_val (o := ⟨some 49, _, _, _, _, _⟩) (.int .i64 (Ent.mk (e.o.q q) e.n).n) rfl (wanted_none rfl _) (exec_loadi 3 Try.underlying3 (.tmp 48) ⟨g, off + k * 10 + 9, none⟩ (.int .i64 (Ent.mk (e.o.q q) e.n).n) rfl (hD 3 48 (by kernel_rfl)) (range_int (range_kept HE5.out hk) 9 _ rfl)) rfl) ?_
    refine fsteps_cons 6 rfl (fun a u hE hD hk => f_val (o := ⟨some 50, _, _, _, _, _⟩) (.int .i64 q) rfl (wanted_none rfl _) (exec_move (.tmp 3) (.int .i64 q) rfl (hE 3 (.int .i64 q) (by kernel_rfl) (by kernel_rfl))) rfl) ?_
    refine fsteps_cons 7 rfl (fun a u hE hD hk => f_val (o := ⟨some 51, _, _, _, _, _⟩) (.int .i64 (mn e.n q)) rfl (wanted_none rfl _) (exec_min (.tmp 49) (.tmp 50) _ e.n q (mn e.n q) rfl (hD 4 49 (by kernel_rfl)) (hD 5 50 (by kernel_rfl)) rfl) rfl) ?_
    refine fsteps_cons 8 rfl (fun a u hE hD hk => f_val (o := ⟨some 52, _, _, _, _, _⟩) (.pointer (some ⟨g, off + k * 10, none⟩)) rfl (wanted_none rfl _) (exec_nilp (.tmp 45) ⟨g, off + k * 10, none⟩ rfl (hD 0 45 (by kernel_rfl))) rfl) ?_
    refine fsteps_cons 9 rfl (fun a u hE hD hk => f_val (o := ⟨some 53, _, _, _, _, _⟩) (.pointer (some ⟨g, off + k * 10 + 9, none⟩)) rfl (wanted_none rfl _) (exec_fldo 61 1 9 (.tmp 52) (g) (off + k * 10) (off + k * 10 + 9) rfl (hD 7 52 (by kernel_rfl)) (by kernel_rfl) rfl) rfl) ?_
    exact fsteps_nil
  intro gv w6 hV k6
  rw [show dstsOf _ 9 = [45, 46, 47, 48, 49, 50, 51, 52, 53] by kernel_rfl]
  simp only [List.foldl_cons, List.foldl_nil, List.setIfInBounds_toArray, List.set_cons_succ, List.set_cons_zero, List.drop_succ_cons, List.drop_zero]
  rw [show gv 53 = .pointer (some ⟨g, off + k * 10 + 9, none⟩) from hV 8 53 (by kernel_rfl)]
  rw [show gv 51 = .int .i64 (mn e.n q) from hV 6 51 (by kernel_rfl)]
  clear hV
  refine l_rowi (o := ⟨none, _, _, _, _, _⟩) 61 g off n c k 9 (X.set k ⟨e.o.q q, e.n⟩) ⟨e.o.q q, e.n⟩ ⟨e.o.q q, mn e.n q⟩ (mn e.n q) ⟨g, off + k * 10 + 9, none⟩ (.tmp 53) (.tmp 51) rfl rfl (by kernel_rfl) (by kernel_rfl) (by rw [Nat.add_assoc]) (HS5.out.kept k6) (by rw [List.length_set]; exact HN.out.symm) HE5I.out (by omega) rfl ?_
  intro w7 hS7 hk7 hs7
  simp only [Act.put]
  refine wpList_nil ?_
  go_wp2
  go_ret
  have z7 := k6.size
  have K7 : Keep (· = g) w w7 := (K5.kept k6).trans hk7 (fun _ _ h => h)
  have hgF := (H5.out g rfl).1
  refine ⟨by rw [HR.out]; rfl, ?_, K7.mono (fun b _ hb => by subst hb; exact hgF), fun h => by rw [HR.out] at h; cases h⟩
  rw [HR.out]
  refine ⟨H1.out, fun b hb => by have := H2.out b hb; omega, _, (HB5.out.kept k6).keep hk7 (fun e => hgp e.symm), ?_, H5.out⟩
  rw [List.length_set, HN.out]
  rw [List.set_set] at hS7
  exact hS7
theorem less_any (w : World) (F : Nat → Prop) (p : Nat) (X : List Ent) (t i q : Int) (h : Lvl 58 61 w F p X) (hlen : X.length ≤ 100000) : Calls Try.prog 21 #[.pointer (some ⟨p, 0, none⟩), .int .i64 t, .int .i64 i, .int .i64 q] w fun r w' => r = .returned (.bool (lessM t i q X).1) ∧ Lvl 58 61 w' F p (lessM t i q X).2 ∧ Keep F w w' ∧ ((lessM t i q X).1 = false → Kept w w') := by
  cases he : X[idxM t i X]? with
  | none => exact less_none w F p X t i q h hlen (fun h => by rw [List.getElem?_eq_getElem h] at he; cases he)
  | some e =>
    by_cases hq : 1 ≤ q
    · by_cases hq2 : q ≤ e.o.qty
      · exact less_yes w F p X t i q h hlen e he hq hq2
      · exact less_high w F p X t i q h hlen e he hq hq2
    · exact less_low w F p X t i q h hlen e he hq
end Go.Proofs.Ytlbkehpdohihlaa
