/-
  The contract of jobberlaw9.LevelFirst: any asks, any place, any quantity: it answers true. No condition.
-/
import Derived.Test.YtlbkehpdohihlaaRemoves9
namespace Go.Proofs.Ytlbkehpdohihlaa
open Go.RowKit
set_option linter.unusedVariables false
def asks (X : List Ask) : List Value := X.flatMap Ask.cells
theorem asks_snoc (X : List Ask) (e : Ask) : asks (X ++ [e]) = asks X ++ e.cells := by simp [asks]
/-- nothing of it is hidden -/
def Ask.d0 (q : Ask) : Ask := { q with d := 0 }
theorem asks_of_sl {w : World} {v : Value} {l : List Ask} (h : Sl w 45 5 v l.length (asks l)) (hw : ∀ q ∈ l, q.wf) : Asks w v l := by
  obtain ⟨hl, A, c, rfl, h1, h2, h3, h4⟩ := h
  refine ⟨A, l.length, c, rfl, rfl, hw, by omega, fun i q hq => ?_⟩
  cases A with
  | none =>
    have := h3 rfl
    have := (List.getElem?_eq_some_iff.1 hq).1
    omega
  | some ad =>
    obtain ⟨g, off, cur, rfl, hB, h5, h6⟩ := h4 _ rfl
    refine ⟨g, off, rfl, ?_⟩
    have := range_take (range_drop (seg_cell hB h6) (i * 5)) 5
    rw [show ((asks l).drop (i * 5)).take 5 = _ from flat_at Ask.cells 5 Ask.len5 l i _ hq] at this
    exact this
theorem d0_wf {q : Ask} (h : q.wf) : q.d0.wf := by
  intro y hy
  unfold Ask.d0 Ask.l at hy
  simp only [List.mem_cons, List.not_mem_nil, or_false] at hy
  rcases hy with h1 | h1 | h1 | h1 | h1
  · subst h1; exact h _ (by simp [Ask.l])
  · subst h1; exact h _ (by simp [Ask.l])
  · subst h1; exact h _ (by simp [Ask.l])
  · subst h1; exact h _ (by simp [Ask.l])
  · subst h1; exact wf_small 0 (by omega) (by omega)
theorem d0_shw (q : Ask) : q.d0.o.shw = 0 := by
  show wi 0 0 _ = 0
  unfold wi
  simp
/-- all of each is seen -/
def Plain (X : List Ent) : Prop := ∀ e ∈ X, e.n = e.o.qty
theorem fill_plain (K : List (Int × Int)) (l : List Ask) : Plain (fillE K (l.map Ask.d0)) := by
  intro e he
  obtain ⟨q, hq, rfl⟩ := (fillE_facts K _).2 e he
  obtain ⟨q', _, rfl⟩ := List.mem_map.1 hq
  show q'.d0.o.tip = q'.d0.o.qty
  unfold Ord.tip
  rw [if_neg (by rw [d0_shw]; omega)]
theorem take_plain (f : Int) : ∀ (X : List Ent) (q : Int), (∀ e ∈ X, e.ok) → Plain X → NoFirm f X → wholeM X ≤ q → takeM f q X = (X, false, [])
  | [], q, _, _, _, _ => takeM_nil f q
  | e :: R, q, hX, hP, hF, hq => by
    have h1 := hX e (by simp)
    have h2 := hP e (by simp)
    unfold Ent.ok at h1
    have h3 := whole_ge (X := R) (fun x hx => hX x (by simp [hx]))
    rw [wholeM_cons] at hq
    have e1 : mn q e.n = e.n := by unfold mn; split <;> omega
    have e2 : nextM e e.n R = R := by unfold nextM; rw [if_pos (by omega)]
    rw [takeM_go f q e R (by omega) (by omega) (hF e (by simp)), e1, e2, take_plain f R (q - e.n) (fun x hx => hX x (by simp [hx])) (fun x hx => hP x (by simp [hx])) (fun x hx => hF x (by simp [hx])) (by omega)]
/-- one made less -/
theorem less_facts {X : List Ent} {k : Nat} {e : Ent} {n : Int} (hX : Good X) (hU : Uniq X) (hP : Plain X) (hF : NoFirm 9 X) (he : X[k]? = some e) (h1 : 1 ≤ n) (h2 : n ≤ e.o.qty) :
    lessM e.o.tr e.o.id n X = (true, X.set k ⟨e.o.q n, n⟩) ∧ lessM e.o.tr e.o.id (n + 1) (X.set k ⟨e.o.q n, n⟩) = (false, X.set k ⟨e.o.q n, n⟩) ∧ Good (X.set k ⟨e.o.q n, n⟩) ∧ Plain (X.set k ⟨e.o.q n, n⟩) ∧ NoFirm 9 (X.set k ⟨e.o.q n, n⟩) ∧ wholeM (X.set k ⟨e.o.q n, n⟩) ≤ wholeM X := by
  have hk := (List.getElem?_eq_some_iff.1 he).1
  have hpe := hP e (List.mem_of_getElem? he)
  have hbe := hX.bound (List.mem_of_getElem? he)
  have e1 : mn e.n n = n := by unfold mn; split <;> omega
  have hU1 : Uniq (X.set k ⟨e.o.q n, n⟩) := by
    have : (X.set k ⟨e.o.q n, n⟩).map Ent.key = X.map Ent.key := by
      rw [List.map_set]
      apply List.ext_getElem?
      intro j
      by_cases hj : k = j
      · subst hj
        rw [List.getElem?_set_self (by rw [List.length_map]; exact hk), List.getElem?_map, he]
        rfl
      · rw [List.getElem?_set_ne hj]
    unfold Uniq
    rw [this]
    exact hU
  have he1 : (X.set k ⟨e.o.q n, n⟩)[k]? = some ⟨e.o.q n, n⟩ := List.getElem?_set_self hk
  have hi1 : idxM e.o.tr e.o.id (X.set k ⟨e.o.q n, n⟩) = k := idx_uniq (e := ⟨e.o.q n, n⟩) hU1 he1
  have hmem : ∀ x ∈ X.set k ⟨e.o.q n, n⟩, x ∈ X ∨ x = ⟨e.o.q n, n⟩ := fun x hx => List.mem_or_eq_of_mem_set hx
  have hw : wholeM (X.set k ⟨e.o.q n, n⟩) = wholeM X - e.o.qty + n := by
    obtain ⟨hk', rfl⟩ := List.getElem?_eq_some_iff.1 he
    have h2 : X = X.take k ++ X[k] :: X.drop (k + 1) := by
      rw [← List.drop_eq_getElem_cons hk, List.take_append_drop]
    have h3 : wholeM X = wholeM (X.take k) + (X[k].o.qty + wholeM (X.drop (k + 1))) := by
      conv => lhs; rw [h2, wholeM_append, wholeM_cons]
    rw [List.set_eq_take_append_cons_drop, if_pos hk, wholeM_append, wholeM_cons]
    simp only [Ord.q]
    omega
  refine ⟨?_, ?_, ⟨fun x hx => ?_, ?_⟩, fun x hx => ?_, fun x hx => ?_, by omega⟩
  · unfold lessM
    rw [idx_uniq hU he, he]
    simp only
    rw [if_pos ⟨h1, h2⟩, e1]
  · unfold lessM
    rw [hi1, he1]
    simp only
    rw [if_neg (by simp only [Ord.q]; omega)]
  · rcases hmem x hx with h | rfl
    · exact hX.ok x h
    · unfold Ent.ok
      simp only [Ord.q]
      omega
  · have := hX.few
    omega
  · rcases hmem x hx with h | rfl
    · exact hP x h
    · rfl
  · rcases hmem x hx with h | rfl
    · exact hF x h
    · exact hF e (List.mem_of_getElem? he)
theorem fill_whole (K : List (Int × Int)) (l : List Ask) (h : l.length ≤ 20) : wholeM (fillE K l) ≤ 240 := by
  obtain ⟨h1, h2⟩ := fillE_facts K l
  have := whole_few (fillE K l) (fun e he => by
    obtain ⟨q, _, rfl⟩ := h2 e he
    exact (ask_qty q).2)
  omega

set_option maxRecDepth 100000 in
set_option maxHeartbeats 6400000 in
theorem levelFirst_any (v : Value) (l : List Ask) (at0 q0 : Int) (w : World) (hl : Asks w v l) : Calls Try.prog 7 #[v, .int .i64 at0, .int .i64 q0] w fun e w' => e = .returned (.bool true) ∧ Kept w w' := by
  have HA := Lib.hid hl
  obtain ⟨A, n, c, rfl, hn, hwf, hm, _⟩ := hl
  unfold maxLen at hm
  have HN := Lib.hid hn
  have HWF := Lib.hid hwf
  clear hn hwf
  go_enter Try.func7, Try.ntmps7
  go_wp2_with fail
  go_loopw [7, 8] (fun t q wr => ∃ (i : Nat), q = .int .i64 (i : Int) ∧ i ≤ 20 ∧ i ≤ n ∧ Hid ((Kn.sl w.heap.size 45 5 i (asks ((l.take i).map Ask.d0))).p t wr) ∧ Kept w wr) (fun _ q _ => 20 - (intOf q).toNat)
  case atStart => exact ⟨0, rfl, by omega, by omega, ⟨by rw [List.take_zero]; exact Sl.nil _ _ _, fun b hb => by simp [Value.ownBlock] at hb⟩, Kept.refl _⟩
  case round =>
    obtain ⟨i, rfl, hi, hin, HV, hkr⟩ := hrel
    obtain ⟨v7, hv7⟩ : ∃ v7, v7 = u7 := ⟨_, rfl⟩
    subst hv7
    by_cases hlt : i < n ∧ i < 20
    · obtain ⟨hin', hi20⟩ := hlt
      have hil : i < l.length := by rw [HN.out]; exact hin'
      obtain ⟨q, hq⟩ : ∃ q, l[i]? = some q := ⟨_, List.getElem?_eq_getElem hil⟩
      have HQ := Lib.hid hq
      obtain ⟨A', n', c', e1, _, _, _, h4⟩ := HA.out
      injection e1 with e1 e2 e3
      subst e1 e2 e3
      obtain ⟨g, off, rfl, hr⟩ := h4 i q hq
      have HE := Lib.hid (range_kept hr hkr)
      clear h4 hr hq hil
      go_upto_region 5 with fail
      refine wp_text 5 [.eq (.slice (some ⟨g, off, none⟩) n c), .eq (.int .i64 (i : Int)), .eq (.pointer (some ⟨g, off + i * 5, none⟩)), .eq (q.v), .fresh wr.heap.size 45 zeroA.cells] rfl (by kernel_rfl) ?_ ?_
      · refine fsteps_cons 1 rfl (fun a u hE hD hk => f_val (o := ⟨some 27, _, _, _, _, _⟩) (.slice (some ⟨g, off, none⟩) n c) rfl (wanted_none rfl _) (exec_move (.tmp 0) (.slice (some ⟨g, off, none⟩) n c) rfl (hE 0 (.slice (some ⟨g, off, none⟩) n c) (by kernel_rfl) (by kernel_rfl))) rfl) ?_
        refine fsteps_cons 2 rfl (fun a u hE hD hk => f_val (o := ⟨some 28, _, _, _, _, _⟩) (.int .i64 (i : Int)) rfl (wanted_none rfl _) (exec_move (.tmp 8) (.int .i64 (i : Int)) rfl (hE 8 (.int .i64 (i : Int)) (by kernel_rfl) (by kernel_rfl))) rfl) ?_
        refine fsteps_cons 3 rfl (fun a u hE hD hk => f_val (o := ⟨some 29, _, _, _, _, _⟩) (.pointer (some ⟨g, off + i * 5, none⟩)) rfl (wanted_none rfl _) (exec_ixo slA (.tmp 27) (.tmp 28) (g) (off) n c i (off + i * 5) ((i : Int)) rfl (hD 0 27 (by kernel_rfl)) (hD 1 28 (by kernel_rfl)) (by first | rfl | omega) (hin') (by first | rfl | omega)) rfl) ?_
        refine fsteps_cons 4 rfl (fun a u hE hD hk => f_val (o := ⟨some 30, _, _, _, _, _⟩) (q.v) rfl (wanted_none rfl _) (exec_ldS 45 _ (.tmp 29) (g) (off + i * 5) (q.cells) rfl (hD 2 29 (by kernel_rfl)) (range_kept HE.out hk) Try.underlying45 (by rw [q.len5]; exact szA)) rfl) ?_
        refine fsteps_cons 5 rfl (fun a u hE hD hk => f_new (o := ⟨some 9, _, _, _, _, _⟩) (.pointer (some ⟨u.heap.size, 0, none⟩)) _ rfl (wanted_none rfl _) (exec_alc 45 zeroA.cells rfl zA) ⟨_, rfl, hk.size, Blk.new u _ _⟩ ((Keep.refl _ u).alloc _)) ?_
        exact fsteps_nil
      intro gv w1 hV k1
      rw [show dstsOf _ 5 = [27, 28, 29, 30, 9] by kernel_rfl]
      simp only [List.foldl_cons, List.foldl_nil, List.setIfInBounds_toArray, List.set_cons_succ, List.set_cons_zero, List.drop_succ_cons, List.drop_zero]
      have hv9 : (.fresh wr.heap.size 45 zeroA.cells : Kn).p (gv 9) w1 := hV 4 9 (by kernel_rfl)
      generalize gv 9 = v9 at hv9 ⊢
      rw [show gv 30 = q.v from hV 3 30 (by kernel_rfl)]
      clear hV
      obtain ⟨b9, rfl, hb9, hB9⟩ := hv9
      refine l_setS (o := ⟨none, _, _, _, _, _⟩) 45 b9 45 zeroA.cells q.cells (.tmp 9) (.tmp 30) rfl rfl (by kernel_rfl) (by kernel_rfl) hB9 (by rw [Ask.len5]; exact szA) (by rw [Ask.len5, Ask.len5]) (Ask.one _) ?_
      intro w2 hC2 hk2 hs2
      simp only [Act.put]
      refine wpList_nil ?_
      have kr2 : Kept wr w2 := k1.trans' hk2 (by omega)
      have HC2 := Lib.hid hC2
      have z2 := kr2.size
      have zr := hkr.size
      have l9 := hC2.lt
      clear hB9 hC2 hk2 k1 HE hs2
      go_upto_region 6 with fail
      refine wp_text 1 [.eq (.pointer (some ⟨b9, 4, none⟩))] rfl (by kernel_rfl) ?_ ?_
      · refine fsteps_cons 1 rfl (fun a u hE hD hk => f_val (o := ⟨some 31, _, _, _, _, _⟩) (.pointer (some ⟨b9, 4, none⟩)) rfl (wanted_none rfl _) (exec_fldo 45 4 4 (.tmp 9) (b9) (0) (4) rfl (hE 9 (.pointer (some ⟨b9, 0, none⟩)) (by kernel_rfl) (by kernel_rfl)) (by kernel_rfl) rfl) rfl) ?_
        exact fsteps_nil
      intro gv w3 hV k3
      rw [show dstsOf _ 1 = [31] by kernel_rfl]
      simp only [List.foldl_cons, List.foldl_nil, List.setIfInBounds_toArray, List.set_cons_succ, List.set_cons_zero, List.drop_succ_cons, List.drop_zero]
      rw [show gv 31 = .pointer (some ⟨b9, 4, none⟩) from hV 0 31 (by kernel_rfl)]
      clear hV
      refine l_st1 (o := ⟨none, _, _, _, _, _⟩) 3 b9 4 45 _ (.int .i64 0) (.tmp 31) (.const (.int .i64 0)) rfl rfl (by kernel_rfl) (by kernel_rfl) rfl rfl rfl (HC2.out.kept k3) (by rw [Ask.len5]; omega) ?_
      intro w4 hC4 hk4 hs4
      simp only [Act.put]
      refine wpList_nil ?_
      have kr4 : Kept wr w4 := (kr2.trans k3).trans' hk4 (by omega)
      have HC4 : Hid (w4.rangeAt b9 0 q.d0.cells) := blk_range (show Blk w4 b9 _ q.d0.cells from hC4)
      have HV4 := Lib.hid (HV.out.1.kept kr4)
      have HW4 := Lib.hid HV.out.2
      have z4 := kr4.size
      clear hC4 hk4 k3 kr2 HC2 HV hs4
      obtain ⟨q', hq'⟩ : ∃ q', q.d0 = q' := ⟨_, rfl⟩
      rw [hq'] at HC4
      have HQ' := Lib.hid hq'
      clear hq'
      go_upto_region 7 with fail
      refine wp_text 3 [.eq (v7), .eq (q'.v), .sl w4.heap.size 45 5 1 q'.cells] rfl (by kernel_rfl) ?_ ?_
      · refine fsteps_cons 1 rfl (fun a u hE hD hk => f_val (o := ⟨some 32, _, _, _, _, _⟩) (v7) rfl (wanted_none rfl _) (exec_move (.tmp 7) (v7) rfl (hE 7 (v7) (by kernel_rfl) (by kernel_rfl))) rfl) ?_
        refine fsteps_cons 2 rfl (fun a u hE hD hk => f_val (o := ⟨some 33, _, _, _, _, _⟩) (q'.v) rfl (wanted_none rfl _) (exec_ldS 45 _ (.tmp 9) (b9) (0) (q'.cells) rfl (hE 9 (.pointer (some ⟨b9, 0, none⟩)) (by kernel_rfl) (by kernel_rfl)) (range_kept HC4.out hk) Try.underlying45 (by rw [q'.len5]; exact szA)) rfl) ?_
        refine fsteps_cons 3 rfl (fun a u hE hD hk => f_new (o := ⟨some 34, _, _, _, _, _⟩) (.slice (some ⟨u.heap.size, 0, none⟩) 1 1) _ rfl (wanted_none rfl _) (exec_oneS slA (.tmp 33) q'.cells (by omega) rfl (hD 1 33 (by kernel_rfl)) (q'.len5)) (sl_one u 45 5 _ w4.heap.size (q'.len5) (by omega) hk.size) ((Keep.refl _ u).alloc _)) ?_
        exact fsteps_nil
      intro gv w5 hV k5
      rw [show dstsOf _ 3 = [32, 33, 34] by kernel_rfl]
      simp only [List.foldl_cons, List.foldl_nil, List.setIfInBounds_toArray, List.set_cons_succ, List.set_cons_zero, List.drop_succ_cons, List.drop_zero]
      rw [show gv 32 = v7 from hV 0 32 (by kernel_rfl)]
      have hv34 : (.sl w4.heap.size 45 5 1 q'.cells : Kn).p (gv 34) w5 := hV 2 34 (by kernel_rfl)
      generalize gv 34 = v34 at hv34 ⊢
      clear hV
      have z5 := k5.size
      obtain ⟨v6, w6, hr6, hs6, hk6, ho6⟩ := run_append_sl slA 38 w5 v7 v34 i 1 _ _ (HV4.out.kept k5) hv34.1 (Ask.one _) (by unfold maxLen; omega) (by omega)
      refine l_new (o := ⟨some 35, _, _, _, _, _⟩) v6 w6 rfl (exec_appS slA (.tmp 32) (.tmp 34) v7 v34 rfl (by kernel_rfl) (by kernel_rfl) v6 w6 hr6) ?_
      simp only [Act.put, List.setIfInBounds_toArray, List.set_cons_succ, List.set_cons_zero]
      refine l_val (o := ⟨some 7, _, _, _, _, _⟩) (v6) rfl (exec_assign (.tmp 35) (v6) rfl (by kernel_rfl)) ?_
      simp only [Act.put, List.setIfInBounds_toArray, List.set_cons_succ, List.set_cons_zero]
      refine wpList_nil ?_
      have kw6 : Kept w w6 := Keep.trans ((hkr.trans kr4).trans k5) hk6 (fun b hb h => by have := HW4.out b h; omega)
      have HV6 : Hid ((Kn.sl w.heap.size 45 5 (i + 1) (asks ((l.take (i + 1)).map Ask.d0))).p v6 w6) := by
        refine ⟨?_, fun b hb => ?_⟩
        · rw [List.take_add_one, HQ.out, Option.toList_some, List.map_append, List.map_cons, List.map_nil, asks_snoc, HQ'.out]
          exact hs6
        · rcases ho6 b hb with h | h
          · exact HW4.out b h
          · omega
      clear hs6 hk6 ho6 hr6 hv34 HV4 HW4 kr4 k5 hkr HC4 HQ HQ'
      go_wp2
      exact ⟨⟨i + 1, by go_num, by omega, by omega, HV6, kw6⟩, by simp [intOf]; omega⟩
    · have hti : l.take i = l.take 20 := by
        have := HN.out
        by_cases h1 : i = 20
        · rw [h1]
        · rw [List.take_of_length_le (by omega), List.take_of_length_le (by omega)]
      have HAS : Hid (Asks wr v7 ((l.take 20).map Ask.d0)) := by
        refine asks_of_sl ?_ (fun q hq => ?_)
        · have := HV.out.1
          rw [hti] at this
          rw [List.length_map, List.length_take, HN.out, show min 20 n = i by omega]
          exact this
        · obtain ⟨q', hq', rfl⟩ := List.mem_map.1 hq
          exact d0_wf (HWF.out q' (List.mem_of_mem_take hq'))
      have hl20 : ((l.take 20).map Ask.d0).length ≤ 20 := by rw [List.length_map, List.length_take]; omega
      obtain ⟨L, hL⟩ : ∃ L, (l.take 20).map Ask.d0 = L := ⟨_, rfl⟩
      have hXG := fill_good [] L (by rw [← hL]; omega)
      have hXU := fill_uniq L
      have hXP : Plain (fillE [] L) := by rw [← hL]; exact fill_plain [] _
      have hXF := fill_firm [] L
      have hXW := fill_whole [] L (by rw [← hL]; exact hl20)
      rw [hL] at HAS hl20
      have HTL : Hid (fillE [] (L.take 20) = fillE [] L) := by show _ = _; rw [List.take_of_length_le hl20]
      clear HV hti hL hl20
      have hcond : ((decide ((i : Int) < (n : Int)) && decide ((i : Int) < 20)) : Bool) = false := by
        by_cases h1 : (i : Int) < (n : Int)
        · have h2 : ¬ ((i : Int) < 20) := by omega
          simp [h2]
        · simp [h1]
      go_upto_region 3 with fail
      refine wp_text 8 [.eq (.int .i64 (i : Int)), .eq (.slice A n c), .eq (.int .i64 (n : Int)), .eq (.bool (decide (((i : Int) : Int) < ((n : Int) : Int)))), .eq (.bool (decide (((i : Int) : Int) < ((n : Int) : Int)))), .cond (decide (((i : Int) : Int) < ((n : Int) : Int))) (.eq (.int .i64 (i : Int))), .cond (decide (((i : Int) : Int) < ((n : Int) : Int))) (.eq (.bool (decide (((i : Int) : Int) < (20 : Int))))), .eq (.bool false)] rfl (by kernel_rfl) ?_ ?_
      · refine fsteps_cons 1 rfl (fun a u hE hD hk => f_val (o := ⟨some 17, _, _, _, _, _⟩) (.int .i64 (i : Int)) rfl (wanted_none rfl _) (exec_move (.tmp 8) (.int .i64 (i : Int)) rfl (hE 8 (.int .i64 (i : Int)) (by kernel_rfl) (by kernel_rfl))) rfl) ?_
        refine fsteps_cons 2 rfl (fun a u hE hD hk => f_val (o := ⟨some 18, _, _, _, _, _⟩) (.slice A n c) rfl (wanted_none rfl _) (exec_move (.tmp 0) (.slice A n c) rfl (hE 0 (.slice A n c) (by kernel_rfl) (by kernel_rfl))) rfl) ?_
        refine fsteps_cons 3 rfl (fun a u hE hD hk => f_val (o := ⟨some 19, _, _, _, _, _⟩) (.int .i64 (n : Int)) rfl (wanted_none rfl _) (exec_len (.tmp 18) _ _ slA.und A n c rfl (hD 1 18 (by kernel_rfl))) rfl) ?_
        refine fsteps_cons 4 rfl (fun a u hE hD hk => f_val (o := ⟨some 20, _, _, _, _, _⟩) (.bool (decide (((i : Int) : Int) < ((n : Int) : Int)))) rfl (wanted_none rfl _) (exec_ltn (p := (i : Int)) (q := (n : Int)) rfl (hD 0 17 (by kernel_rfl)) (hD 2 19 (by kernel_rfl))) rfl) ?_
        refine fsteps_cons 5 rfl (fun a u hE hD hk => f_val (o := ⟨some 21, _, _, _, _, _⟩) (.bool (decide (((i : Int) : Int) < ((n : Int) : Int)))) rfl (wanted_none rfl _) (exec_move (.tmp 20) (.bool (decide (((i : Int) : Int) < ((n : Int) : Int)))) rfl (hD 3 20 (by kernel_rfl))) rfl) ?_
        refine fsteps_cons 6 rfl (fun a u hE hD hk => f_if ((decide (((i : Int) : Int) < ((n : Int) : Int)))) rfl rfl rfl (hD 4 21 (by kernel_rfl)) (fun hb => f_val (o := ⟨some 22, _, _, _, _, _⟩) (.int .i64 (i : Int)) rfl (wanted_b rfl rfl (hD 4 21 (by kernel_rfl)) (eq_true_of hb)) (exec_move (.tmp 8) (.int .i64 (i : Int)) rfl (hE 8 (.int .i64 (i : Int)) (by kernel_rfl) (by kernel_rfl))) rfl)) ?_
        refine fsteps_cons 7 rfl (fun a u hE hD hk => f_if ((decide (((i : Int) : Int) < ((n : Int) : Int)))) rfl rfl rfl (hD 4 21 (by kernel_rfl)) (fun hb => f_val (o := ⟨some 23, _, _, _, _, _⟩) (.bool (decide (((i : Int) : Int) < (20 : Int)))) rfl (wanted_b rfl rfl (hD 4 21 (by kernel_rfl)) (eq_true_of hb)) (exec_ltn (p := (i : Int)) (q := 20) rfl ((hD 5 22 (by kernel_rfl)).1 hb) rfl) rfl)) ?_
        refine fsteps_cons 8 rfl (fun a u hE hD hk => f_as (show (((decide (((i : Int) : Int) < ((n : Int) : Int))) && (decide (((i : Int) : Int) < (20 : Int)))) : Bool) = false from hcond) (f_val (o := ⟨some 24, _, _, _, _, _⟩) (.bool ((decide (((i : Int) : Int) < ((n : Int) : Int))) && (decide (((i : Int) : Int) < (20 : Int))))) rfl (wanted_none rfl _) (exec_pickand (.tmp 21) (.tmp 23) (.const (.bool false)) ((decide (((i : Int) : Int) < ((n : Int) : Int)))) ((decide (((i : Int) : Int) < (20 : Int)))) rfl (hD 4 21 (by kernel_rfl)) (fun hb2 => ((hD 6 23 (by kernel_rfl)).1 hb2)) rfl) rfl)) ?_
        exact fsteps_nil
      intro gv w0 hV k0
      rw [show dstsOf _ 8 = [17, 18, 19, 20, 21, 22, 23, 24] by kernel_rfl]
      simp only [List.foldl_cons, List.foldl_nil, List.setIfInBounds_toArray, List.set_cons_succ, List.set_cons_zero, List.drop_succ_cons, List.drop_zero]
      rw [show gv 24 = .bool false from hV 7 24 (by kernel_rfl)]
      clear hV
      refine wpList_nil ?_
      clear hcond hlt
      have HAS0 := Lib.hid (HAS.out.kept k0)
      have kw0 := hkr.trans k0
      clear HAS k0 hkr
      go_upto_region 8 with fail
      refine wp_region_lit ?_
      refine l_val (o := ⟨some 36, _, _, _, _, _⟩) (v7) rfl (exec_move (.tmp 7) (v7) rfl (by kernel_rfl)) ?_
      simp only [Act.put, List.setIfInBounds_toArray, List.set_cons_succ, List.set_cons_zero]
      refine l_call (o := ⟨some 37, _, _, _, _, _⟩) 29 #[v7] rfl (exec_call 29 _ [.tmp 36] _ _ Try.func29 (by kernel_rfl) (by kernel_rfl) rfl (by kernel_rfl) _) ?_
      refine (filled_any v7 L w0 HAS0.out).mono ?_
      rintro r w1 ⟨p, F, rfl, hL1, hG1, k1⟩
      refine ⟨_, rfl, ?_⟩
      simp only [Act.put, List.setIfInBounds_toArray, List.set_cons_succ, List.set_cons_zero]
      refine l_val (o := ⟨some 10, _, _, _, _, _⟩) (.pointer (some ⟨p, 0, none⟩)) rfl (exec_assign (.tmp 37) (.pointer (some ⟨p, 0, none⟩)) rfl (by kernel_rfl)) ?_
      simp only [Act.put, List.setIfInBounds_toArray, List.set_cons_succ, List.set_cons_zero]
      refine wpList_nil ?_
      rw [HTL.out] at hL1
      generalize fillE [] L = X at hXG hXU hXP hXF hXW hL1
      have HX := Lib.hid hXG
      have HU := Lib.hid hXU
      have HP := Lib.hid hXP
      have HNF := Lib.hid hXF
      have HL1 := Lib.hid hL1
      have kw1 := kw0.trans k1
      have HG : Hid (∀ b, F b → w0.heap.size ≤ b) := fun b hb => (hG1 b hb).elim (fun h => h.elim) id
      have HFL : Hid (∀ b, F b → b < w1.heap.size) := hL1.2.1
      have z0 := kw0.size
      have z1 := k1.size
      clear hXG hXU hXP hXF hL1 hG1 k1 kw0 HAS0 HTL
      go_upto_region 11 with fail
      refine wp_text 2 [.eq (.pointer (some ⟨p, 0, none⟩)), .sl w1.heap.size 25 9 X.length (ords (X.map (·.o)))] rfl (by kernel_rfl) ?_ ?_
      · refine fsteps_cons 1 rfl (fun a u hE hD hk => f_val (o := ⟨some 40, _, _, _, _, _⟩) (.pointer (some ⟨p, 0, none⟩)) rfl (wanted_none rfl _) (exec_move (.tmp 10) (.pointer (some ⟨p, 0, none⟩)) rfl (hE 10 (.pointer (some ⟨p, 0, none⟩)) (by kernel_rfl) (by kernel_rfl))) rfl) ?_
        refine fsteps_cons 2 rfl (fun a u hE hD hk => f_call (o := ⟨some 41, _, _, _, _, _⟩) 13 #[.pointer (some ⟨p, 0, none⟩)] rfl (wanted_none rfl _) (exec_call 13 _ [.tmp 40] _ [.pointer (some ⟨p, 0, none⟩)] Try.func13 (by kernel_rfl) (by kernel_rfl) rfl (show [a.eval (.tmp 40)] = [.pointer (some ⟨p, 0, none⟩)] from (by rw [show a.eval (.tmp 40) = .pointer (some ⟨p, 0, none⟩) from (hD 0 40 (by kernel_rfl))] <;> rfl)) u) ((orders_any u F p X (HL1.out.kept hk) HX.out).mono (fun e w' ⟨v, h1, h2, h3⟩ => ⟨v, h1, ⟨h2.1, fun b hb => Nat.le_trans hk.size (h2.2 b hb)⟩, h3⟩))) ?_
        exact fsteps_nil
      intro gv w2 hV k2
      rw [show dstsOf _ 2 = [40, 41] by kernel_rfl]
      simp only [List.foldl_cons, List.foldl_nil, List.setIfInBounds_toArray, List.set_cons_succ, List.set_cons_zero, List.drop_succ_cons, List.drop_zero]
      have hv41 : (.sl w1.heap.size 25 9 X.length (ords (X.map (·.o))) : Kn).p (gv 41) w2 := hV 1 41 (by kernel_rfl)
      generalize gv 41 = v41 at hv41 ⊢
      clear hV
      refine l_val (o := ⟨some 11, _, _, _, _, _⟩) (v41) rfl (exec_assign (.tmp 41) (v41) rfl (by kernel_rfl)) ?_
      simp only [Act.put, List.setIfInBounds_toArray, List.set_cons_succ, List.set_cons_zero]
      refine wpList_nil ?_
      have HV := Lib.hid hv41.1
      have HW := Lib.hid hv41.2
      have HL2 := Lib.hid (HL1.out.kept k2)
      have kw2 := kw1.trans k2
      have z2 := k2.size
      have hlen := HX.out.len
      clear hv41 HL1 kw1 k2
      obtain ⟨nx, hnx⟩ : ∃ nx, X.length = nx := ⟨_, rfl⟩
      rw [hnx] at HV hlen
      have HNX := Lib.hid hnx
      clear hnx
      by_cases h0 : nx = 0
      · subst h0
        go_upto_region 12 with fail
        refine wp_text 3 [.eq (v41), .eq (.int .i64 (0 : Int)), .eq (.bool true)] rfl (by kernel_rfl) ?_ ?_
        · refine fsteps_cons 1 rfl (fun a u hE hD hk => f_val (o := ⟨some 42, _, _, _, _, _⟩) (v41) rfl (wanted_none rfl _) (exec_move (.tmp 11) (v41) rfl (hE 11 (v41) (by kernel_rfl) (by kernel_rfl))) rfl) ?_
          refine fsteps_cons 2 rfl (fun a u hE hD hk => f_val (o := ⟨some 43, _, _, _, _, _⟩) (.int .i64 (0 : Int)) rfl (wanted_none rfl _) (exec_lenS (.tmp 42) slO (v41) (0) _ _ rfl (hD 0 42 (by kernel_rfl)) HV.out) rfl) ?_
          refine fsteps_cons 3 rfl (fun a u hE hD hk => f_as (show ((decide (((0 : Int) : Int) = (0 : Int))) : Bool) = true from rfl) (f_val (o := ⟨some 44, _, _, _, _, _⟩) (.bool (decide (((0 : Int) : Int) = (0 : Int)))) rfl (wanted_none rfl _) (exec_eqn (p := (0 : Int)) (q := 0) rfl (hD 1 43 (by kernel_rfl)) rfl) rfl)) ?_
          exact fsteps_nil
        intro gv w3 hV k3
        rw [show dstsOf _ 3 = [42, 43, 44] by kernel_rfl]
        simp only [List.foldl_cons, List.foldl_nil, List.setIfInBounds_toArray, List.set_cons_succ, List.set_cons_zero, List.drop_succ_cons, List.drop_zero]
        rw [show gv 44 = .bool true from hV 2 44 (by kernel_rfl)]
        clear hV
        refine wpList_nil ?_
        go_upto_region 13 with fail
        refine wp_text 1 [.eq (.bool true)] rfl (by kernel_rfl) ?_ ?_
        · refine fsteps_cons 1 rfl (fun a u hE hD hk => f_call (o := ⟨some 45, _, _, _, _, _⟩) 3 #[] rfl (wanted_none rfl _) (exec_call 3 _ [] _ [] Try.func3 (by kernel_rfl) (by kernel_rfl) rfl rfl u) (runs_gives u)) ?_
          exact fsteps_nil
        intro gv w4 hV k4
        rw [show dstsOf _ 1 = [45] by kernel_rfl]
        simp only [List.foldl_cons, List.foldl_nil, List.setIfInBounds_toArray, List.set_cons_succ, List.set_cons_zero, List.drop_succ_cons, List.drop_zero]
        rw [show gv 45 = .bool true from hV 0 45 (by kernel_rfl)]
        clear hV
        refine l_val (o := ⟨some 6, _, _, _, _, _⟩) (.bool true) rfl (exec_assign (.tmp 45) (.bool true) rfl (by kernel_rfl)) ?_
        simp only [Act.put, List.setIfInBounds_toArray, List.set_cons_succ, List.set_cons_zero]
        refine wpList_nil ?_
        go_wp2
        go_ret
        exact ⟨rfl, (kw2.trans k3).trans k4⟩
      · have hnx0 : 0 < nx := by omega
        obtain ⟨go, oo, c6, rfl⟩ := HV.out.some_ hnx0
        have hgo : w1.heap.size ≤ go := HW.out go rfl
        have hgol : go < w2.heap.size := HV.out.lt rfl
        obtain ⟨KI, hKI⟩ : ∃ K, wi at0 0 ((nx : Int) - 1) = K := ⟨_, rfl⟩
        have hK1 := wi_in at0 0 ((nx : Int) - 1) (by omega)
        rw [hKI] at hK1
        obtain ⟨k, hk0⟩ : ∃ k : Nat, KI = (k : Int) := ⟨KI.toNat, by omega⟩
        subst hk0
        have hkn : k < nx := by omega
        obtain ⟨e, he⟩ : ∃ e, X[k]? = some e := ⟨X[k]'(by rw [HNX.out]; exact hkn), List.getElem?_eq_getElem (by rw [HNX.out]; exact hkn)⟩
        have HKI := Lib.hid hKI
        have hbe := HX.out.bound (List.mem_of_getElem? he)
        obtain ⟨m, hm0⟩ : ∃ m, wi q0 1 e.o.qty = m := ⟨_, rfl⟩
        have hm1 := wi_in q0 1 e.o.qty (by omega)
        rw [hm0] at hm1
        have HMI := Lib.hid hm0
        have heo : (X.map (·.o))[k]? = some e.o := by rw [List.getElem?_map, he]; rfl
        have HEO := Lib.hid heo
        have HO2 : Hid (w2.rangeAt go (oo + k * 9) e.o.cells) := HV.out.rngO k e.o heo
        obtain ⟨f1, f2, f3, f4, f5, f6⟩ := less_facts HX.out HU.out HP.out HNF.out he hm1.1 hm1.2
        have HOS : Hid ((X.map (·.o)).set k (e.o.q m) = (X.set k ⟨e.o.q m, m⟩).map (·.o)) := by
          show _ = _
          rw [List.map_set]
        have hXL : (X.set k ⟨e.o.q m, m⟩).length = nx := by rw [List.length_set]; exact HNX.out
        generalize X.set k ⟨e.o.q m, m⟩ = X1 at f1 f2 f3 f4 f5 f6 HOS hXL
        have HT1 : Hid (takeM 9 1000 X1 = (X1, false, [])) := take_plain 9 X1 1000 f3.ok f4 f5 (by omega)
        have H1 := Lib.hid f1
        have H2 := Lib.hid f2
        have HX1 := Lib.hid f3
        have HP1 := Lib.hid f4
        have HXL := Lib.hid hXL
        clear he heo hKI hm0 f1 f2 f3 f4 f5 f6 HW HU HP HNF hXL hXW
        have hnF : ¬ F go := fun h => by have := HFL.out go h; omega
        go_upto_region 12 with fail
        refine wp_text 3 [.eq (.slice (some ⟨go, oo, none⟩) nx c6), .eq (.int .i64 (nx : Int)), .eq (.bool false)] rfl (by kernel_rfl) ?_ ?_
        · refine fsteps_cons 1 rfl (fun a u hE hD hk => f_val (o := ⟨some 42, _, _, _, _, _⟩) (.slice (some ⟨go, oo, none⟩) nx c6) rfl (wanted_none rfl _) (exec_move (.tmp 11) (.slice (some ⟨go, oo, none⟩) nx c6) rfl (hE 11 (.slice (some ⟨go, oo, none⟩) nx c6) (by kernel_rfl) (by kernel_rfl))) rfl) ?_
          refine fsteps_cons 2 rfl (fun a u hE hD hk => f_val (o := ⟨some 43, _, _, _, _, _⟩) (.int .i64 (nx : Int)) rfl (wanted_none rfl _) (exec_len (.tmp 42) _ _ slO.und (some ⟨go, oo, none⟩) nx c6 rfl (hD 0 42 (by kernel_rfl))) rfl) ?_
          refine fsteps_cons 3 rfl (fun a u hE hD hk => f_as (show ((decide (((nx : Int) : Int) = (0 : Int))) : Bool) = false from decide_eq_false (by omega)) (f_val (o := ⟨some 44, _, _, _, _, _⟩) (.bool (decide (((nx : Int) : Int) = (0 : Int)))) rfl (wanted_none rfl _) (exec_eqn (p := (nx : Int)) (q := 0) rfl (hD 1 43 (by kernel_rfl)) rfl) rfl)) ?_
          exact fsteps_nil
        intro gv w3 hV k3
        rw [show dstsOf _ 3 = [42, 43, 44] by kernel_rfl]
        simp only [List.foldl_cons, List.foldl_nil, List.setIfInBounds_toArray, List.set_cons_succ, List.set_cons_zero, List.drop_succ_cons, List.drop_zero]
        rw [show gv 44 = .bool false from hV 2 44 (by kernel_rfl)]
        clear hV
        refine wpList_nil ?_
        go_upto_region 14 with fail
        refine wp_text 5 [.eq (.int .i64 at0), .eq (.slice (some ⟨go, oo, none⟩) nx c6), .eq (.int .i64 (nx : Int)), .eq (.int .i64 ((nx : Int) - 1)), .eq (.int .i64 (k : Int))] rfl (by kernel_rfl) ?_ ?_
        · refine fsteps_cons 1 rfl (fun a u hE hD hk => f_val (o := ⟨some 46, _, _, _, _, _⟩) (.int .i64 at0) rfl (wanted_none rfl _) (exec_move (.tmp 1) (.int .i64 at0) rfl (hE 1 (.int .i64 at0) (by kernel_rfl) (by kernel_rfl))) rfl) ?_
          refine fsteps_cons 2 rfl (fun a u hE hD hk => f_val (o := ⟨some 47, _, _, _, _, _⟩) (.slice (some ⟨go, oo, none⟩) nx c6) rfl (wanted_none rfl _) (exec_move (.tmp 11) (.slice (some ⟨go, oo, none⟩) nx c6) rfl (hE 11 (.slice (some ⟨go, oo, none⟩) nx c6) (by kernel_rfl) (by kernel_rfl))) rfl) ?_
          refine fsteps_cons 3 rfl (fun a u hE hD hk => f_val (o := ⟨some 48, _, _, _, _, _⟩) (.int .i64 (nx : Int)) rfl (wanted_none rfl _) (exec_len (.tmp 47) _ _ slO.und (some ⟨go, oo, none⟩) nx c6 rfl (hD 1 47 (by kernel_rfl))) rfl) ?_
          refine fsteps_cons 4 rfl (fun a u hE hD hk => f_val (o := ⟨some 49, _, _, _, _, _⟩) (.int .i64 ((nx : Int) - 1)) rfl (wanted_none rfl _) (exec_subn ((nx : Int) - 1) rfl (hD 2 48 (by kernel_rfl)) rfl rfl (by omega) (by omega)) rfl) ?_
          refine fsteps_cons 5 rfl (fun a u hE hD hk => f_call (o := ⟨some 50, _, _, _, _, _⟩) 30 #[.int .i64 at0, .int .i64 0, .int .i64 ((nx : Int) - 1)] rfl (wanted_none rfl _) (exec_call 30 _ [.tmp 46, .const (.int .i64 0), .tmp 49] _ [.int .i64 at0, .int .i64 0, .int .i64 ((nx : Int) - 1)] Try.func30 (by kernel_rfl) (by kernel_rfl) rfl (show [a.eval (.tmp 46), a.eval (.const (.int .i64 0)), a.eval (.tmp 49)] = [.int .i64 at0, .int .i64 0, .int .i64 ((nx : Int) - 1)] from (by rw [show a.eval (.tmp 46) = .int .i64 at0 from (hD 0 46 (by kernel_rfl)), show a.eval (.tmp 49) = .int .i64 ((nx : Int) - 1) from (hD 3 49 (by kernel_rfl))] <;> rfl)) u) ((by rw [← HKI.out]; exact within_is at0 0 ((nx : Int) - 1) u (by omega) (by omega) (by omega)))) ?_
          exact fsteps_nil
        intro gv w4 hV k4
        rw [show dstsOf _ 5 = [46, 47, 48, 49, 50] by kernel_rfl]
        simp only [List.foldl_cons, List.foldl_nil, List.setIfInBounds_toArray, List.set_cons_succ, List.set_cons_zero, List.drop_succ_cons, List.drop_zero]
        rw [show gv 50 = .int .i64 (k : Int) from hV 4 50 (by kernel_rfl)]
        clear hV
        refine l_val (o := ⟨some 12, _, _, _, _, _⟩) (.int .i64 (k : Int)) rfl (exec_assign (.tmp 50) (.int .i64 (k : Int)) rfl (by kernel_rfl)) ?_
        simp only [Act.put, List.setIfInBounds_toArray, List.set_cons_succ, List.set_cons_zero]
        refine wpList_nil ?_
        have k24 := k3.trans k4
        have HO4 := Lib.hid (range_kept HO2.out k24)
        clear k3 k4 HO2 HKI
        go_upto_region 15 with fail
        refine wp_text 7 [.eq (.int .i64 q0), .eq (.slice (some ⟨go, oo, none⟩) nx c6), .eq (.int .i64 (k : Int)), .eq (.pointer (some ⟨go, oo + k * 9, none⟩)), .eq (.pointer (some ⟨go, oo + k * 9 + 6, none⟩)), .eq (.int .i64 e.o.qty), .eq (.int .i64 m)] rfl (by kernel_rfl) ?_ ?_
        · refine fsteps_cons 1 rfl (fun a u hE hD hk => f_val (o := ⟨some 51, _, _, _, _, _⟩) (.int .i64 q0) rfl (wanted_none rfl _) (exec_move (.tmp 2) (.int .i64 q0) rfl (hE 2 (.int .i64 q0) (by kernel_rfl) (by kernel_rfl))) rfl) ?_
          refine fsteps_cons 2 rfl (fun a u hE hD hk => f_val (o := ⟨some 52, _, _, _, _, _⟩) (.slice (some ⟨go, oo, none⟩) nx c6) rfl (wanted_none rfl _) (exec_move (.tmp 11) (.slice (some ⟨go, oo, none⟩) nx c6) rfl (hE 11 (.slice (some ⟨go, oo, none⟩) nx c6) (by kernel_rfl) (by kernel_rfl))) rfl) ?_
          refine fsteps_cons 3 rfl (fun a u hE hD hk => f_val (o := ⟨some 53, _, _, _, _, _⟩) (.int .i64 (k : Int)) rfl (wanted_none rfl _) (exec_move (.tmp 12) (.int .i64 (k : Int)) rfl (hE 12 (.int .i64 (k : Int)) (by kernel_rfl) (by kernel_rfl))) rfl) ?_
          refine fsteps_cons 4 rfl (fun a u hE hD hk => f_val (o := ⟨some 54, _, _, _, _, _⟩) (.pointer (some ⟨go, oo + k * 9, none⟩)) rfl (wanted_none rfl _) (exec_ixo slO (.tmp 52) (.tmp 53) (go) (oo) nx c6 k (oo + k * 9) ((k : Int)) rfl (hD 1 52 (by kernel_rfl)) (hD 2 53 (by kernel_rfl)) (by first | rfl | omega) (hkn) (by first | rfl | omega)) rfl) ?_
          refine fsteps_cons 5 rfl (fun a u hE hD hk => f_val (o := ⟨some 55, _, _, _, _, _⟩) (.pointer (some ⟨go, oo + k * 9 + 6, none⟩)) rfl (wanted_none rfl _) (exec_fldo 25 6 6 (.tmp 54) (go) (oo + k * 9) (oo + k * 9 + 6) rfl (hD 3 54 (by kernel_rfl)) (by kernel_rfl) rfl) rfl) ?_
          refine fsteps_cons 6 rfl (fun a u hE hD hk => f_val (o := ⟨some 56, _, _, _, _, _⟩) (.int .i64 e.o.qty) rfl (wanted_none rfl _) (exec_loadi 3 Try.underlying3 (.tmp 55) ⟨go, oo + k * 9 + 6, none⟩ (.int .i64 e.o.qty) rfl (hD 4 55 (by kernel_rfl)) (range_int (range_kept HO4.out hk) 6 _ rfl)) rfl) ?_
          refine fsteps_cons 7 rfl (fun a u hE hD hk => f_call (o := ⟨some 57, _, _, _, _, _⟩) 30 #[.int .i64 q0, .int .i64 1, .int .i64 e.o.qty] rfl (wanted_none rfl _) (exec_call 30 _ [.tmp 51, .const (.int .i64 1), .tmp 56] _ [.int .i64 q0, .int .i64 1, .int .i64 e.o.qty] Try.func30 (by kernel_rfl) (by kernel_rfl) rfl (show [a.eval (.tmp 51), a.eval (.const (.int .i64 1)), a.eval (.tmp 56)] = [.int .i64 q0, .int .i64 1, .int .i64 e.o.qty] from (by rw [show a.eval (.tmp 51) = .int .i64 q0 from (hD 0 51 (by kernel_rfl)), show a.eval (.tmp 56) = .int .i64 e.o.qty from (hD 5 56 (by kernel_rfl))] <;> rfl)) u) ((by rw [← HMI.out]; exact within_is q0 1 e.o.qty u (by omega) (by omega) (by omega)))) ?_
          exact fsteps_nil
        intro gv w5 hV k5
        rw [show dstsOf _ 7 = [51, 52, 53, 54, 55, 56, 57] by kernel_rfl]
        simp only [List.foldl_cons, List.foldl_nil, List.setIfInBounds_toArray, List.set_cons_succ, List.set_cons_zero, List.drop_succ_cons, List.drop_zero]
        rw [show gv 57 = .int .i64 m from hV 6 57 (by kernel_rfl)]
        clear hV
        refine l_val (o := ⟨some 13, _, _, _, _, _⟩) (.int .i64 m) rfl (exec_assign (.tmp 57) (.int .i64 m) rfl (by kernel_rfl)) ?_
        simp only [Act.put, List.setIfInBounds_toArray, List.set_cons_succ, List.set_cons_zero]
        refine wpList_nil ?_
        have k25 := k24.trans k5
        have HO5 := Lib.hid (range_kept HO4.out k5)
        have HV5 := Lib.hid (HV.out.kept k25)
        have HL5 := Lib.hid (HL2.out.kept k25)
        have kw5 := kw2.trans k25
        have z5 := k25.size
        clear k24 k5 k25 HO4 HV HL2 kw2 HMI
        go_upto_region 16 with fail
        refine wp_freeV 29 12 [0, 1, 2, 3, 4, 5, 6, 7, 8, 9, 10, 11] [.eq (.pointer (some ⟨p, 0, none⟩)), .eq (.slice (some ⟨go, oo, none⟩) nx c6), .eq (.int .i64 (k : Int)), .eq (.pointer (some ⟨go, oo + k * 9, none⟩)), .eq (.pointer (some ⟨go, oo + k * 9, none⟩)), .eq (.int .i64 e.o.tr), .eq (.slice (some ⟨go, oo, none⟩) nx c6), .eq (.int .i64 (k : Int)), .eq (.pointer (some ⟨go, oo + k * 9, none⟩)), .eq (.pointer (some ⟨go, oo + k * 9 + 1, none⟩)), .eq (.int .i64 e.o.id), .eq (.int .i64 m), .both (.bool true) (fun u => Lvl 58 61 u F p X1) (fun w w' h hk => h.kept hk), .both (.bool false) (fun u => Lvl 58 61 u F p X1) (fun w w' h hk => h.kept hk), .both (.bool false) (fun u => Lvl 58 61 u F p X1) (fun w w' h hk => h.kept hk), .eq (.pointer (some ⟨p, 0, none⟩)), .eq (.slice (some ⟨go, oo, none⟩) nx c6), .eq (.int .i64 (k : Int)), .eq (.pointer (some ⟨go, oo + k * 9, none⟩)), .eq (.pointer (some ⟨go, oo + k * 9, none⟩)), .eq (.int .i64 e.o.tr), .eq (.slice (some ⟨go, oo, none⟩) nx c6), .eq (.int .i64 (k : Int)), .eq (.pointer (some ⟨go, oo + k * 9, none⟩)), .eq (.pointer (some ⟨go, oo + k * 9 + 1, none⟩)), .eq (.int .i64 e.o.id), .eq (.int .i64 m), .eq (.int .i64 (m + 1)), .eq (.bool false)] (F) (by kernel_rfl) rfl (by omega) (by kernel_rfl) (by kernel_rfl) ?_ ?_ (fun a u hE hD hk => v_call (o := ⟨some 70, _, _, _, _, _⟩) 21 #[.pointer (some ⟨p, 0, none⟩), .int .i64 e.o.tr, .int .i64 e.o.id, .int .i64 m] rfl (wanted_none rfl _) (exec_call 21 _ [.tmp 58, .tmp 63, .tmp 68, .tmp 69] _ [.pointer (some ⟨p, 0, none⟩), .int .i64 e.o.tr, .int .i64 e.o.id, .int .i64 m] Try.func21 (by kernel_rfl) (by kernel_rfl) rfl (show [a.eval (.tmp 58), a.eval (.tmp 63), a.eval (.tmp 68), a.eval (.tmp 69)] = [.pointer (some ⟨p, 0, none⟩), .int .i64 e.o.tr, .int .i64 e.o.id, .int .i64 m] from (by rw [show a.eval (.tmp 58) = .pointer (some ⟨p, 0, none⟩) from (hD 0 58 (by kernel_rfl)), show a.eval (.tmp 63) = .int .i64 e.o.tr from (hD 5 63 (by kernel_rfl)), show a.eval (.tmp 68) = .int .i64 e.o.id from (hD 10 68 (by kernel_rfl)), show a.eval (.tmp 69) = .int .i64 m from (hD 11 69 (by kernel_rfl))] <;> rfl)) u) ((less_any u F p X e.o.tr e.o.id m (HL5.out.kept hk) HX.out.len).mono (fun r w' ⟨h1, h2, h3, _⟩ => ⟨_, by rw [H1.out] at h1; exact h1, ⟨rfl, by rw [H1.out] at h2; exact h2⟩, h3⟩))) ?_
        · intro i hi
          have hi2 : i = 0 ∨ i = 1 ∨ i = 2 ∨ i = 3 ∨ i = 4 ∨ i = 5 ∨ i = 6 ∨ i = 7 ∨ i = 8 ∨ i = 9 ∨ i = 10 ∨ i = 11 := by simpa using hi
          rcases hi2 with rfl | rfl | rfl | rfl | rfl | rfl | rfl | rfl | rfl | rfl | rfl | rfl
          · exact Kn.safe_eq _ _
          · exact Kn.safe_eq _ _
          · exact Kn.safe_eq _ _
          · exact Kn.safe_eq _ _
          · exact Kn.safe_eq _ _
          · exact Kn.safe_eq _ _
          · exact Kn.safe_eq _ _
          · exact Kn.safe_eq _ _
          · exact Kn.safe_eq _ _
          · exact Kn.safe_eq _ _
          · exact Kn.safe_eq _ _
          · exact Kn.safe_eq _ _
        · refine vsteps_cons 1 rfl (fun a u hE hD hk => f_val (o := ⟨some 58, _, _, _, _, _⟩) (.pointer (some ⟨p, 0, none⟩)) rfl (wanted_none rfl _) (exec_move (.tmp 10) (.pointer (some ⟨p, 0, none⟩)) rfl (hE 10 (.pointer (some ⟨p, 0, none⟩)) (by kernel_rfl) (by kernel_rfl))) rfl) ?_
          refine vsteps_cons 2 rfl (fun a u hE hD hk => f_val (o := ⟨some 59, _, _, _, _, _⟩) (.slice (some ⟨go, oo, none⟩) nx c6) rfl (wanted_none rfl _) (exec_move (.tmp 11) (.slice (some ⟨go, oo, none⟩) nx c6) rfl (hE 11 (.slice (some ⟨go, oo, none⟩) nx c6) (by kernel_rfl) (by kernel_rfl))) rfl) ?_
          refine vsteps_cons 3 rfl (fun a u hE hD hk => f_val (o := ⟨some 60, _, _, _, _, _⟩) (.int .i64 (k : Int)) rfl (wanted_none rfl _) (exec_move (.tmp 12) (.int .i64 (k : Int)) rfl (hE 12 (.int .i64 (k : Int)) (by kernel_rfl) (by kernel_rfl))) rfl) ?_
          refine vsteps_cons 4 rfl (fun a u hE hD hk => f_val (o := ⟨some 61, _, _, _, _, _⟩) (.pointer (some ⟨go, oo + k * 9, none⟩)) rfl (wanted_none rfl _) (exec_ixo slO (.tmp 59) (.tmp 60) (go) (oo) nx c6 k (oo + k * 9) ((k : Int)) rfl (hD 1 59 (by kernel_rfl)) (hD 2 60 (by kernel_rfl)) (by first | rfl | omega) (hkn) (by first | rfl | omega)) rfl) ?_
          refine vsteps_cons 5 rfl (fun a u hE hD hk => f_val (o := ⟨some 62, _, _, _, _, _⟩) (.pointer (some ⟨go, oo + k * 9, none⟩)) rfl (wanted_none rfl _) (exec_fldo 25 0 0 (.tmp 61) (go) (oo + k * 9) (oo + k * 9) rfl (hD 3 61 (by kernel_rfl)) (by kernel_rfl) rfl) rfl) ?_
          refine vsteps_cons 6 rfl (fun a u hE hD hk => f_val (o := ⟨some 63, _, _, _, _, _⟩) (.int .i64 e.o.tr) rfl (wanted_none rfl _) (exec_loadi 3 Try.underlying3 (.tmp 62) ⟨go, oo + k * 9, none⟩ (.int .i64 e.o.tr) rfl (hD 4 62 (by kernel_rfl)) (range_int (range_keep HO5.out hk (hnF)) 0 _ rfl)) rfl) ?_
          refine vsteps_cons 7 rfl (fun a u hE hD hk => f_val (o := ⟨some 64, _, _, _, _, _⟩) (.slice (some ⟨go, oo, none⟩) nx c6) rfl (wanted_none rfl _) (exec_move (.tmp 11) (.slice (some ⟨go, oo, none⟩) nx c6) rfl (hE 11 (.slice (some ⟨go, oo, none⟩) nx c6) (by kernel_rfl) (by kernel_rfl))) rfl) ?_
          refine vsteps_cons 8 rfl (fun a u hE hD hk => f_val (o := ⟨some 65, _, _, _, _, _⟩) (.int .i64 (k : Int)) rfl (wanted_none rfl _) (exec_move (.tmp 12) (.int .i64 (k : Int)) rfl (hE 12 (.int .i64 (k : Int)) (by kernel_rfl) (by kernel_rfl))) rfl) ?_
          refine vsteps_cons 9 rfl (fun a u hE hD hk => f_val (o := ⟨some 66, _, _, _, _, _⟩) (.pointer (some ⟨go, oo + k * 9, none⟩)) rfl (wanted_none rfl _) (exec_ixo slO (.tmp 64) (.tmp 65) (go) (oo) nx c6 k (oo + k * 9) ((k : Int)) rfl (hD 6 64 (by kernel_rfl)) (hD 7 65 (by kernel_rfl)) (by first | rfl | omega) (hkn) (by first | rfl | omega)) rfl) ?_
          refine vsteps_cons 10 rfl (fun a u hE hD hk => f_val (o := ⟨some 67, _, _, _, _, _⟩) (.pointer (some ⟨go, oo + k * 9 + 1, none⟩)) rfl (wanted_none rfl _) (exec_fldo 25 1 1 (.tmp 66) (go) (oo + k * 9) (oo + k * 9 + 1) rfl (hD 8 66 (by kernel_rfl)) (by kernel_rfl) rfl) rfl) ?_
          refine vsteps_cons 11 rfl (fun a u hE hD hk => f_val (o := ⟨some 68, _, _, _, _, _⟩) (.int .i64 e.o.id) rfl (wanted_none rfl _) (exec_loadi 3 Try.underlying3 (.tmp 67) ⟨go, oo + k * 9 + 1, none⟩ (.int .i64 e.o.id) rfl (hD 9 67 (by kernel_rfl)) (range_int (range_keep HO5.out hk (hnF)) 1 _ rfl)) rfl) ?_
          refine vsteps_cons 12 rfl (fun a u hE hD hk => f_val (o := ⟨some 69, _, _, _, _, _⟩) (.int .i64 m) rfl (wanted_none rfl _) (exec_move (.tmp 13) (.int .i64 m) rfl (hE 13 (.int .i64 m) (by kernel_rfl) (by kernel_rfl))) rfl) ?_
          refine vsteps_turn 13 rfl rfl ?_
          refine vsteps_cons 14 rfl (fun a u hE hD hk => f_val (o := ⟨some 71, _, _, _, _, _⟩) (.bool false) rfl (wanted_none rfl _) (exec_not _ (.tmp 70) true rfl (hD 12 70 (by kernel_rfl)).1) ⟨rfl, (hD 12 70 (by kernel_rfl)).2⟩) ?_
          refine vsteps_cons 15 rfl (fun a u hE hD hk => f_val (o := ⟨some 72, _, _, _, _, _⟩) (.bool false) rfl (wanted_none rfl _) (exec_move (.tmp 71) _ rfl (hD 13 71 (by kernel_rfl)).1) ⟨rfl, (hD 13 71 (by kernel_rfl)).2⟩) ?_
          refine vsteps_cons 16 rfl (fun a u hE hD hk => f_val (o := ⟨some 73, _, _, _, _, _⟩) (.pointer (some ⟨p, 0, none⟩)) rfl (wanted_at (b := false) false rfl rfl (hD 14 72 (by kernel_rfl)).1) (exec_move (.tmp 10) (.pointer (some ⟨p, 0, none⟩)) rfl (hE 10 (.pointer (some ⟨p, 0, none⟩)) (by kernel_rfl) (by kernel_rfl))) rfl) ?_
          refine vsteps_cons 17 rfl (fun a u hE hD hk => f_val (o := ⟨some 74, _, _, _, _, _⟩) (.slice (some ⟨go, oo, none⟩) nx c6) rfl (wanted_at (b := false) false rfl rfl (hD 14 72 (by kernel_rfl)).1) (exec_move (.tmp 11) (.slice (some ⟨go, oo, none⟩) nx c6) rfl (hE 11 (.slice (some ⟨go, oo, none⟩) nx c6) (by kernel_rfl) (by kernel_rfl))) rfl) ?_
          refine vsteps_cons 18 rfl (fun a u hE hD hk => f_val (o := ⟨some 75, _, _, _, _, _⟩) (.int .i64 (k : Int)) rfl (wanted_at (b := false) false rfl rfl (hD 14 72 (by kernel_rfl)).1) (exec_move (.tmp 12) (.int .i64 (k : Int)) rfl (hE 12 (.int .i64 (k : Int)) (by kernel_rfl) (by kernel_rfl))) rfl) ?_
          refine vsteps_cons 19 rfl (fun a u hE hD hk => f_val (o := ⟨some 76, _, _, _, _, _⟩) (.pointer (some ⟨go, oo + k * 9, none⟩)) rfl (wanted_at (b := false) false rfl rfl (hD 14 72 (by kernel_rfl)).1) (exec_ixo slO (.tmp 74) (.tmp 75) (go) (oo) nx c6 k (oo + k * 9) ((k : Int)) rfl (hD 16 74 (by kernel_rfl)) (hD 17 75 (by kernel_rfl)) (by first | rfl | omega) (hkn) (by first | rfl | omega)) rfl) ?_
          refine vsteps_cons 20 rfl (fun a u hE hD hk => f_val (o := ⟨some 77, _, _, _, _, _⟩) (.pointer (some ⟨go, oo + k * 9, none⟩)) rfl (wanted_at (b := false) false rfl rfl (hD 14 72 (by kernel_rfl)).1) (exec_fldo 25 0 0 (.tmp 76) (go) (oo + k * 9) (oo + k * 9) rfl (hD 18 76 (by kernel_rfl)) (by kernel_rfl) rfl) rfl) ?_
          refine vsteps_cons 21 rfl (fun a u hE hD hk => f_val (o := ⟨some 78, _, _, _, _, _⟩) (.int .i64 e.o.tr) rfl (wanted_at (b := false) false rfl rfl (hD 14 72 (by kernel_rfl)).1) (exec_loadi 3 Try.underlying3 (.tmp 77) ⟨go, oo + k * 9, none⟩ (.int .i64 e.o.tr) rfl (hD 19 77 (by kernel_rfl)) (range_int (range_keep HO5.out hk (hnF)) 0 _ rfl)) rfl) ?_
          refine vsteps_cons 22 rfl (fun a u hE hD hk => f_val (o := ⟨some 79, _, _, _, _, _⟩) (.slice (some ⟨go, oo, none⟩) nx c6) rfl (wanted_at (b := false) false rfl rfl (hD 14 72 (by kernel_rfl)).1) (exec_move (.tmp 11) (.slice (some ⟨go, oo, none⟩) nx c6) rfl (hE 11 (.slice (some ⟨go, oo, none⟩) nx c6) (by kernel_rfl) (by kernel_rfl))) rfl) ?_
          refine vsteps_cons 23 rfl (fun a u hE hD hk => f_val (o := ⟨some 80, _, _, _, _, _⟩) (.int .i64 (k : Int)) rfl (wanted_at (b := false) false rfl rfl (hD 14 72 (by kernel_rfl)).1) (exec_move (.tmp 12) (.int .i64 (k : Int)) rfl (hE 12 (.int .i64 (k : Int)) (by kernel_rfl) (by kernel_rfl))) rfl) ?_
          refine vsteps_cons 24 rfl (fun a u hE hD hk => f_val (o := ⟨some 81, _, _, _, _, _⟩) (.pointer (some ⟨go, oo + k * 9, none⟩)) rfl (wanted_at (b := false) false rfl rfl (hD 14 72 (by kernel_rfl)).1) (exec_ixo slO (.tmp 79) (.tmp 80) (go) (oo) nx c6 k (oo + k * 9) ((k : Int)) rfl (hD 21 79 (by kernel_rfl)) (hD 22 80 (by kernel_rfl)) (by first | rfl | omega) (hkn) (by first | rfl | omega)) rfl) ?_
          refine vsteps_cons 25 rfl (fun a u hE hD hk => f_val (o := ⟨some 82, _, _, _, _, _⟩) (.pointer (some ⟨go, oo + k * 9 + 1, none⟩)) rfl (wanted_at (b := false) false rfl rfl (hD 14 72 (by kernel_rfl)).1) (exec_fldo 25 1 1 (.tmp 81) (go) (oo + k * 9) (oo + k * 9 + 1) rfl (hD 23 81 (by kernel_rfl)) (by kernel_rfl) rfl) rfl) ?_
          refine vsteps_cons 26 rfl (fun a u hE hD hk => f_val (o := ⟨some 83, _, _, _, _, _⟩) (.int .i64 e.o.id) rfl (wanted_at (b := false) false rfl rfl (hD 14 72 (by kernel_rfl)).1) (exec_loadi 3 Try.underlying3 (.tmp 82) ⟨go, oo + k * 9 + 1, none⟩ (.int .i64 e.o.id) rfl (hD 24 82 (by kernel_rfl)) (range_int (range_keep HO5.out hk (hnF)) 1 _ rfl)) rfl) ?_
          refine vsteps_cons 27 rfl (fun a u hE hD hk => f_val (o := ⟨some 84, _, _, _, _, _⟩) (.int .i64 m) rfl (wanted_at (b := false) false rfl rfl (hD 14 72 (by kernel_rfl)).1) (exec_move (.tmp 13) (.int .i64 m) rfl (hE 13 (.int .i64 m) (by kernel_rfl) (by kernel_rfl))) rfl) ?_
          refine vsteps_cons 28 rfl (fun a u hE hD hk => f_val (o := ⟨some 85, _, _, _, _, _⟩) (.int .i64 (m + 1)) rfl (wanted_at (b := false) false rfl rfl (hD 14 72 (by kernel_rfl)).1) (exec_addn (m + 1) rfl (hD 26 84 (by kernel_rfl)) rfl rfl (by omega) (by omega)) rfl) ?_
          refine vsteps_cons 29 rfl (fun a u hE hD hk => f_call (o := ⟨some 86, _, _, _, _, _⟩) 21 #[.pointer (some ⟨p, 0, none⟩), .int .i64 e.o.tr, .int .i64 e.o.id, .int .i64 (m + 1)] rfl (wanted_at (b := false) false rfl rfl (hD 14 72 (by kernel_rfl)).1) (exec_call 21 _ [.tmp 73, .tmp 78, .tmp 83, .tmp 85] _ [.pointer (some ⟨p, 0, none⟩), .int .i64 e.o.tr, .int .i64 e.o.id, .int .i64 (m + 1)] Try.func21 (by kernel_rfl) (by kernel_rfl) rfl (show [a.eval (.tmp 73), a.eval (.tmp 78), a.eval (.tmp 83), a.eval (.tmp 85)] = [.pointer (some ⟨p, 0, none⟩), .int .i64 e.o.tr, .int .i64 e.o.id, .int .i64 (m + 1)] from (by rw [show a.eval (.tmp 73) = .pointer (some ⟨p, 0, none⟩) from (hD 15 73 (by kernel_rfl)), show a.eval (.tmp 78) = .int .i64 e.o.tr from (hD 20 78 (by kernel_rfl)), show a.eval (.tmp 83) = .int .i64 e.o.id from (hD 25 83 (by kernel_rfl)), show a.eval (.tmp 85) = .int .i64 (m + 1) from (hD 27 85 (by kernel_rfl))] <;> rfl)) u) ((less_any u F p X1 e.o.tr e.o.id (m + 1) (hD 14 72 (by kernel_rfl)).2 HX1.out.len).mono (fun r w' ⟨h1, _, _, h4⟩ => ⟨_, by rw [H2.out] at h1; exact h1, rfl, h4 (by rw [H2.out])⟩))) ?_
          exact vsteps_nil
        intro gv w6 hV k6
        rw [show dstsOf _ 29 = [58, 59, 60, 61, 62, 63, 64, 65, 66, 67, 68, 69, 70, 71, 72, 73, 74, 75, 76, 77, 78, 79, 80, 81, 82, 83, 84, 85, 86] by kernel_rfl]
        simp only [List.foldl_cons, List.foldl_nil, List.setIfInBounds_toArray, List.set_cons_succ, List.set_cons_zero, List.drop_succ_cons, List.drop_zero]
        have hi72 : (fun u => Lvl 58 61 u F p X1) w6 := (hV 14 72 (by kernel_rfl)).2
        rw [show gv 72 = .bool false from (hV 14 72 (by kernel_rfl)).1]
        rw [show gv 86 = .bool false from hV 28 86 (by kernel_rfl)]
        clear hV
        refine l_val (o := ⟨some 87, _, _, _, _, _⟩) (.bool false) rfl (exec_pickF (.tmp 72) (.const (.bool true)) (.tmp 86) (.bool false) rfl (by kernel_rfl) (by kernel_rfl)) ?_
        simp only [Act.put, List.setIfInBounds_toArray, List.set_cons_succ, List.set_cons_zero]
        refine wpList_nil ?_
        have HL6 := Lib.hid hi72
        have HO6 := Lib.hid (range_keep HO5.out k6 hnF)
        have HV6 := Lib.hid (HV5.out.keep k6 (fun b hb h => by simp [Value.ownBlock] at hb; subst hb; exact hnF h))
        have kw6 : Kept w w6 := Keep.trans kw5 k6 (fun b hb h => by have := HG.out b h; omega)
        have z6 := k6.size
        clear hi72 HO5 HV5 HL5 kw5 k6 H1 H2
        go_upto_region 18 with fail
        refine wp_text 5 [.eq (.slice (some ⟨go, oo, none⟩) nx c6), .eq (.int .i64 (k : Int)), .eq (.int .i64 m), .eq (.pointer (some ⟨go, oo + k * 9, none⟩)), .eq (.pointer (some ⟨go, oo + k * 9 + 6, none⟩))] rfl (by kernel_rfl) ?_ ?_
        · refine fsteps_cons 1 rfl (fun a u hE hD hk => f_val (o := ⟨some 88, _, _, _, _, _⟩) (.slice (some ⟨go, oo, none⟩) nx c6) rfl (wanted_none rfl _) (exec_move (.tmp 11) (.slice (some ⟨go, oo, none⟩) nx c6) rfl (hE 11 (.slice (some ⟨go, oo, none⟩) nx c6) (by kernel_rfl) (by kernel_rfl))) rfl) ?_
          refine fsteps_cons 2 rfl (fun a u hE hD hk => f_val (o := ⟨some 89, _, _, _, _, _⟩) (.int .i64 (k : Int)) rfl (wanted_none rfl _) (exec_move (.tmp 12) (.int .i64 (k : Int)) rfl (hE 12 (.int .i64 (k : Int)) (by kernel_rfl) (by kernel_rfl))) rfl) ?_
          refine fsteps_cons 3 rfl (fun a u hE hD hk => f_val (o := ⟨some 90, _, _, _, _, _⟩) (.int .i64 m) rfl (wanted_none rfl _) (exec_move (.tmp 13) (.int .i64 m) rfl (hE 13 (.int .i64 m) (by kernel_rfl) (by kernel_rfl))) rfl) ?_
          refine fsteps_cons 4 rfl (fun a u hE hD hk => f_val (o := ⟨some 91, _, _, _, _, _⟩) (.pointer (some ⟨go, oo + k * 9, none⟩)) rfl (wanted_none rfl _) (exec_ixo slO (.tmp 88) (.tmp 89) (go) (oo) nx c6 k (oo + k * 9) ((k : Int)) rfl (hD 0 88 (by kernel_rfl)) (hD 1 89 (by kernel_rfl)) (by first | rfl | omega) (hkn) (by first | rfl | omega)) rfl) ?_
          refine fsteps_cons 5 rfl (fun a u hE hD hk => f_val (o := ⟨some 92, _, _, _, _, _⟩) (.pointer (some ⟨go, oo + k * 9 + 6, none⟩)) rfl (wanted_none rfl _) (exec_fldo 25 6 6 (.tmp 91) (go) (oo + k * 9) (oo + k * 9 + 6) rfl (hD 3 91 (by kernel_rfl)) (by kernel_rfl) rfl) rfl) ?_
          exact fsteps_nil
        intro gv w7 hV k7
        rw [show dstsOf _ 5 = [88, 89, 90, 91, 92] by kernel_rfl]
        simp only [List.foldl_cons, List.foldl_nil, List.setIfInBounds_toArray, List.set_cons_succ, List.set_cons_zero, List.drop_succ_cons, List.drop_zero]
        rw [show gv 92 = .pointer (some ⟨go, oo + k * 9 + 6, none⟩) from hV 4 92 (by kernel_rfl)]
        rw [show gv 90 = .int .i64 m from hV 2 90 (by kernel_rfl)]
        clear hV
        refine l_rowo (o := ⟨none, _, _, _, _, _⟩) 25 go oo nx c6 k 6 (X.map (·.o)) e.o (e.o.q m) m ⟨go, oo + k * 9 + 6, none⟩ (.tmp 92) (.tmp 90) rfl rfl (by kernel_rfl) (by kernel_rfl) (by rw [Nat.add_assoc]) (HV6.out.kept k7) (by rw [List.length_map]; exact HNX.out.symm) HEO.out (by omega) rfl ?_
        intro w8 hS8 hk8 hs8
        simp only [Act.put]
        refine wpList_nil ?_
        rw [HOS.out] at hS8
        have HV8 := Lib.hid hS8
        have z8 : w6.heap.size ≤ w8.heap.size := by have := k7.size; omega
        have HL8 := Lib.hid ((HL6.out.kept k7).keep hk8 (fun b hb e => hnF (by rw [← e]; exact hb)))
        have kw8 : Kept w w8 := (kw6.trans k7).trans' hk8 (by omega)
        clear hS8 hk8 k7 HV6 HL6 HO6 kw6 HOS HEO
        go_upto_region 19 with fail
        refine wp_text 5 [.eq (.pointer (some ⟨p, 0, none⟩)), .sl 0 25 9 X1.length (ords (X1.map (·.o))), .eq (.slice (some ⟨go, oo, none⟩) nx c6), .eq (.bool true), .eq (.bool false)] rfl (by kernel_rfl) ?_ ?_
        · refine fsteps_cons 1 rfl (fun a u hE hD hk => f_val (o := ⟨some 93, _, _, _, _, _⟩) (.pointer (some ⟨p, 0, none⟩)) rfl (wanted_none rfl _) (exec_move (.tmp 10) (.pointer (some ⟨p, 0, none⟩)) rfl (hE 10 (.pointer (some ⟨p, 0, none⟩)) (by kernel_rfl) (by kernel_rfl))) rfl) ?_
          refine fsteps_cons 2 rfl (fun a u hE hD hk => f_call (o := ⟨some 94, _, _, _, _, _⟩) 13 #[.pointer (some ⟨p, 0, none⟩)] rfl (wanted_none rfl _) (exec_call 13 _ [.tmp 93] _ [.pointer (some ⟨p, 0, none⟩)] Try.func13 (by kernel_rfl) (by kernel_rfl) rfl (show [a.eval (.tmp 93)] = [.pointer (some ⟨p, 0, none⟩)] from (by rw [show a.eval (.tmp 93) = .pointer (some ⟨p, 0, none⟩) from (hD 0 93 (by kernel_rfl))] <;> rfl)) u) ((orders_any u F p X1 (HL8.out.kept hk) HX1.out).mono (fun e w' ⟨v, h1, h2, h3⟩ => ⟨v, h1, ⟨h2.1, fun b hb => Nat.zero_le _⟩, h3⟩))) ?_
          refine fsteps_cons 3 rfl (fun a u hE hD hk => f_val (o := ⟨some 95, _, _, _, _, _⟩) (.slice (some ⟨go, oo, none⟩) nx c6) rfl (wanted_none rfl _) (exec_move (.tmp 11) (.slice (some ⟨go, oo, none⟩) nx c6) rfl (hE 11 (.slice (some ⟨go, oo, none⟩) nx c6) (by kernel_rfl) (by kernel_rfl))) rfl) ?_
          refine fsteps_cons 4 rfl (fun a u hE hD hk => f_call (o := ⟨some 96, _, _, _, _, _⟩) 15 #[a.eval (.tmp 94), .slice (some ⟨go, oo, none⟩) nx c6] rfl (wanted_none rfl _) (exec_call 15 _ [.tmp 94, .tmp 95] _ [a.eval (.tmp 94), .slice (some ⟨go, oo, none⟩) nx c6] Try.func15 (by kernel_rfl) (by kernel_rfl) rfl (show [a.eval (.tmp 94), a.eval (.tmp 95)] = [a.eval (.tmp 94), .slice (some ⟨go, oo, none⟩) nx c6] from (by rw [show a.eval (.tmp 95) = .slice (some ⟨go, oo, none⟩) nx c6 from (hD 2 95 (by kernel_rfl))] <;> rfl)) u) (same_self _ _ X1 u ((hD 1 94 (by kernel_rfl))).1 (by rw [HXL.out]; exact HV8.out.kept hk) HX1.out.len)) ?_
          refine fsteps_cons 5 rfl (fun a u hE hD hk => f_val (o := ⟨some 97, _, _, _, _, _⟩) (.bool false) rfl (wanted_none rfl _) (exec_not _ (.tmp 96) true rfl (hD 3 96 (by kernel_rfl))) rfl) ?_
          exact fsteps_nil
        intro gv w9 hV k9
        rw [show dstsOf _ 5 = [93, 94, 95, 96, 97] by kernel_rfl]
        simp only [List.foldl_cons, List.foldl_nil, List.setIfInBounds_toArray, List.set_cons_succ, List.set_cons_zero, List.drop_succ_cons, List.drop_zero]
        rw [show gv 97 = .bool false from hV 4 97 (by kernel_rfl)]
        clear hV
        refine wpList_nil ?_
        have HL9 := Lib.hid (HL8.out.kept k9)
        have HV9 := Lib.hid (HV8.out.kept k9)
        have kw9 := kw8.trans k9
        have z9 := k9.size
        clear HL8 HV8 kw8 k9
        go_upto_region 21 with fail
        refine wp_region_lit ?_
        refine l_val (o := ⟨some 99, _, _, _, _, _⟩) (.pointer (some ⟨p, 0, none⟩)) rfl (exec_move (.tmp 10) (.pointer (some ⟨p, 0, none⟩)) rfl (by kernel_rfl)) ?_
        simp only [Act.put, List.setIfInBounds_toArray, List.set_cons_succ, List.set_cons_zero]
        refine l_call (o := ⟨some 100, _, _, _, _, _⟩) 11 #[.pointer (some ⟨p, 0, none⟩), .int .i64 9, .int .i64 1000] rfl (exec_call 11 _ [.tmp 99, .const (.int .i64 9), .const (.int .i64 1000)] _ _ Try.func11 (by kernel_rfl) (by kernel_rfl) rfl (by kernel_rfl) _) ?_
        refine (take_any w9 F p X1 9 1000 HL9.out HX1.out (by omega)).mono ?_
        rintro r w10 ⟨F', v14, rfl, hL10, hS10, hO10, hG10, hk10⟩
        refine ⟨_, rfl, ?_⟩
        simp only [Act.put, List.setIfInBounds_toArray, List.set_cons_succ, List.set_cons_zero]
        refine l_val (o := ⟨some 98, _, _, _, _, _⟩) (.tuple #[v14, .bool (takeM 9 1000 X1).2.1]) rfl (exec_move (.tmp 100) (.tuple #[v14, .bool (takeM 9 1000 X1).2.1]) rfl (by kernel_rfl)) ?_
        simp only [Act.put, List.setIfInBounds_toArray, List.set_cons_succ, List.set_cons_zero]
        refine l_val (o := ⟨some 101, _, _, _, _, _⟩) (v14) rfl (exec_extract (.tmp 98) [v14, .bool (takeM 9 1000 X1).2.1] 0 (v14) rfl (by kernel_rfl) rfl) ?_
        simp only [Act.put, List.setIfInBounds_toArray, List.set_cons_succ, List.set_cons_zero]
        refine l_val (o := ⟨some 102, _, _, _, _, _⟩) (.bool (takeM 9 1000 X1).2.1) rfl (exec_extract (.tmp 98) [v14, .bool (takeM 9 1000 X1).2.1] 1 (.bool (takeM 9 1000 X1).2.1) rfl (by kernel_rfl) rfl) ?_
        simp only [Act.put, List.setIfInBounds_toArray, List.set_cons_succ, List.set_cons_zero]
        refine l_val (o := ⟨some 14, _, _, _, _, _⟩) (v14) rfl (exec_assign (.tmp 101) (v14) rfl (by kernel_rfl)) ?_
        simp only [Act.put, List.setIfInBounds_toArray, List.set_cons_succ, List.set_cons_zero]
        refine l_val (o := ⟨some 15, _, _, _, _, _⟩) (.bool (takeM 9 1000 X1).2.1) rfl (exec_assign (.tmp 102) (.bool (takeM 9 1000 X1).2.1) rfl (by kernel_rfl)) ?_
        simp only [Act.put, List.setIfInBounds_toArray, List.set_cons_succ, List.set_cons_zero]
        refine wpList_nil ?_
        rw [HT1.out] at hL10 hS10 ⊢
        have HL10 : Hid (Lvl 58 61 w10 F' p []) := hL10
        have HH10 : Hid (Sl w10 35 10 v14 nx (ents X1)) := by rw [← HXL.out]; exact hS10
        have HV10 := Lib.hid (HV9.out.keep hk10 (fun b hb h => by simp [Value.ownBlock] at hb; subst hb; exact hnF h))
        have kw10 : Kept w w10 := Keep.trans kw9 hk10 (fun b hb h => by have := HG.out b h; omega)
        clear hL10 hS10 hO10 hG10 hk10 HL9 HV9 kw9 HT1
        obtain ⟨gh, oh, ch, rfl⟩ := HH10.out.some_ hnx0
        go_upto_region 22 with fail
        refine wp_text 5 [.eq (.slice (some ⟨gh, oh, none⟩) nx ch), .eq (.int .i64 (nx : Int)), .eq (.slice (some ⟨go, oo, none⟩) nx c6), .eq (.int .i64 (nx : Int)), .eq (.bool false)] rfl (by kernel_rfl) ?_ ?_
        · refine fsteps_cons 1 rfl (fun a u hE hD hk => f_val (o := ⟨some 103, _, _, _, _, _⟩) (.slice (some ⟨gh, oh, none⟩) nx ch) rfl (wanted_none rfl _) (exec_move (.tmp 14) (.slice (some ⟨gh, oh, none⟩) nx ch) rfl (hE 14 (.slice (some ⟨gh, oh, none⟩) nx ch) (by kernel_rfl) (by kernel_rfl))) rfl) ?_
          refine fsteps_cons 2 rfl (fun a u hE hD hk => f_val (o := ⟨some 104, _, _, _, _, _⟩) (.int .i64 (nx : Int)) rfl (wanted_none rfl _) (exec_len (.tmp 103) _ _ slH.und (some ⟨gh, oh, none⟩) nx ch rfl (hD 0 103 (by kernel_rfl))) rfl) ?_
          refine fsteps_cons 3 rfl (fun a u hE hD hk => f_val (o := ⟨some 105, _, _, _, _, _⟩) (.slice (some ⟨go, oo, none⟩) nx c6) rfl (wanted_none rfl _) (exec_move (.tmp 11) (.slice (some ⟨go, oo, none⟩) nx c6) rfl (hE 11 (.slice (some ⟨go, oo, none⟩) nx c6) (by kernel_rfl) (by kernel_rfl))) rfl) ?_
          refine fsteps_cons 4 rfl (fun a u hE hD hk => f_val (o := ⟨some 106, _, _, _, _, _⟩) (.int .i64 (nx : Int)) rfl (wanted_none rfl _) (exec_len (.tmp 105) _ _ slO.und (some ⟨go, oo, none⟩) nx c6 rfl (hD 2 105 (by kernel_rfl))) rfl) ?_
          refine fsteps_cons 5 rfl (fun a u hE hD hk => f_as (show ((decide (((nx : Int) : Int) ≠ ((nx : Int) : Int))) : Bool) = false from decide_eq_false (by simp)) (f_val (o := ⟨some 107, _, _, _, _, _⟩) (.bool (decide (((nx : Int) : Int) ≠ ((nx : Int) : Int)))) rfl (wanted_none rfl _) (exec_nen (p := (nx : Int)) (q := (nx : Int)) rfl (hD 1 104 (by kernel_rfl)) (hD 3 106 (by kernel_rfl))) rfl)) ?_
          exact fsteps_nil
        intro gv w11 hV k11
        rw [show dstsOf _ 5 = [103, 104, 105, 106, 107] by kernel_rfl]
        simp only [List.foldl_cons, List.foldl_nil, List.setIfInBounds_toArray, List.set_cons_succ, List.set_cons_zero, List.drop_succ_cons, List.drop_zero]
        rw [show gv 107 = .bool false from hV 4 107 (by kernel_rfl)]
        clear hV
        refine wpList_nil ?_
        go_upto_region 24 with fail
        refine wp_text 3 [.eq (.slice (some ⟨go, oo, none⟩) nx c6), .eq (.int .i64 (nx : Int)), .eq (.int .i64 0)] rfl (by kernel_rfl) ?_ ?_
        · refine fsteps_cons 1 rfl (fun a u hE hD hk => f_val (o := ⟨some 108, _, _, _, _, _⟩) (.slice (some ⟨go, oo, none⟩) nx c6) rfl (wanted_none rfl _) (exec_move (.tmp 11) (.slice (some ⟨go, oo, none⟩) nx c6) rfl (hE 11 (.slice (some ⟨go, oo, none⟩) nx c6) (by kernel_rfl) (by kernel_rfl))) rfl) ?_
          refine fsteps_cons 2 rfl (fun a u hE hD hk => f_val (o := ⟨some 109, _, _, _, _, _⟩) (.int .i64 (nx : Int)) rfl (wanted_none rfl _) (exec_len (.tmp 108) _ _ slO.und (some ⟨go, oo, none⟩) nx c6 rfl (hD 0 108 (by kernel_rfl))) rfl) ?_
          refine fsteps_cons 3 rfl (fun a u hE hD hk => f_val (o := ⟨some 110, _, _, _, _, _⟩) (.int .i64 0) rfl (wanted_none rfl _) (exec_move (.const (.int .i64 0)) (.int .i64 0) rfl rfl) rfl) ?_
          exact fsteps_nil
        intro gv w12 hV k12
        rw [show dstsOf _ 3 = [108, 109, 110] by kernel_rfl]
        simp only [List.foldl_cons, List.foldl_nil, List.setIfInBounds_toArray, List.set_cons_succ, List.set_cons_zero, List.drop_succ_cons, List.drop_zero]
        rw [show gv 109 = .int .i64 (nx : Int) from hV 1 109 (by kernel_rfl)]
        rw [show gv 110 = .int .i64 0 from hV 2 110 (by kernel_rfl)]
        clear hV
        refine wpList_nil ?_
        have k1012 := k11.trans k12
        have kw12 := kw10.trans k1012
        clear k11 k12
        go_wp2_with fail
        go_loopw [110] (fun t wr => ∃ (i : Nat), t = .int .i64 (i : Int) ∧ i ≤ nx ∧ Kept w10 wr) (fun t _ => nx - (intOf t).toNat)
        case atStart => exact ⟨0, rfl, Nat.zero_le _, k1012⟩
        case round =>
          obtain ⟨j, rfl, hj, hk10⟩ := hrel
          by_cases hlt : j < nx
          · obtain ⟨x, hx⟩ : ∃ x, X1[j]? = some x := ⟨X1[j]'(by rw [HXL.out]; exact hlt), List.getElem?_eq_getElem (by rw [HXL.out]; exact hlt)⟩
            have hpx := HP1.out x (List.mem_of_getElem? hx)
            have HEH : Hid (wr.rangeAt gh (oh + j * 10) x.cells) := range_kept (HH10.out.rng j x hx) hk10
            have HEO : Hid (wr.rangeAt go (oo + j * 9) x.o.cells) := range_kept (HV10.out.rngO j x.o (by rw [List.getElem?_map, hx]; rfl)) hk10
            clear hx
            go_upto_region 27 with fail
            refine wp_free 22 [.eq (.slice (some ⟨gh, oh, none⟩) nx ch), .eq (.int .i64 (j : Int)), .eq (.pointer (some ⟨gh, oh + j * 10, none⟩)), .eq (.pointer (some ⟨gh, oh + j * 10, none⟩)), .eq (x.o.v), .eq (.slice (some ⟨go, oo, none⟩) nx c6), .eq (.int .i64 (j : Int)), .eq (.pointer (some ⟨go, oo + j * 9, none⟩)), .eq (x.o.v), .eq (.bool false), .eq (.bool false), .eq (.slice (some ⟨gh, oh, none⟩) nx ch), .eq (.int .i64 (j : Int)), .eq (.pointer (some ⟨gh, oh + j * 10, none⟩)), .eq (.pointer (some ⟨gh, oh + j * 10 + 9, none⟩)), .eq (.int .i64 x.n), .eq (.slice (some ⟨go, oo, none⟩) nx c6), .eq (.int .i64 (j : Int)), .eq (.pointer (some ⟨go, oo + j * 9, none⟩)), .eq (.pointer (some ⟨go, oo + j * 9 + 6, none⟩)), .eq (.int .i64 x.o.qty), .eq (.bool false)] (by kernel_rfl) rfl (by kernel_rfl) ?_ ?_
            · refine fsteps_cons 1 rfl (fun a u hE hD hk => f_val (o := ⟨some 113, _, _, _, _, _⟩) (.slice (some ⟨gh, oh, none⟩) nx ch) rfl (wanted_none rfl _) (exec_move (.tmp 14) (.slice (some ⟨gh, oh, none⟩) nx ch) rfl (hE 14 (.slice (some ⟨gh, oh, none⟩) nx ch) (by kernel_rfl) (by kernel_rfl))) rfl) ?_
              refine fsteps_cons 2 rfl (fun a u hE hD hk => f_val (o := ⟨some 114, _, _, _, _, _⟩) (.int .i64 (j : Int)) rfl (wanted_none rfl _) (exec_move (.tmp 16) (.int .i64 (j : Int)) rfl (hE 16 (.int .i64 (j : Int)) (by kernel_rfl) (by kernel_rfl))) rfl) ?_
              refine fsteps_cons 3 rfl (fun a u hE hD hk => f_val (o := ⟨some 115, _, _, _, _, _⟩) (.pointer (some ⟨gh, oh + j * 10, none⟩)) rfl (wanted_none rfl _) (exec_ixo slH (.tmp 113) (.tmp 114) (gh) (oh) nx ch j (oh + j * 10) ((j : Int)) rfl (hD 0 113 (by kernel_rfl)) (hD 1 114 (by kernel_rfl)) (by first | rfl | omega) (hlt) (by first | rfl | omega)) rfl) ?_
              refine fsteps_cons 4 rfl (fun a u hE hD hk => f_val (o := ⟨some 116, _, _, _, _, _⟩) (.pointer (some ⟨gh, oh + j * 10, none⟩)) rfl (wanted_none rfl _) (exec_fldo 35 0 0 (.tmp 115) (gh) (oh + j * 10) (oh + j * 10) rfl (hD 2 115 (by kernel_rfl)) (by kernel_rfl) rfl) rfl) ?_
              refine fsteps_cons 5 rfl (fun a u hE hD hk => f_val (o := ⟨some 117, _, _, _, _, _⟩) (x.o.v) rfl (wanted_none rfl _) (exec_ldS 25 _ (.tmp 116) (gh) (oh + j * 10) (x.o.cells) rfl (hD 3 116 (by kernel_rfl)) (ent_ord (range_kept HEH.out hk)) Try.underlying25 (by rw [x.o.len9]; exact ord_size)) rfl) ?_
              refine fsteps_cons 6 rfl (fun a u hE hD hk => f_val (o := ⟨some 118, _, _, _, _, _⟩) (.slice (some ⟨go, oo, none⟩) nx c6) rfl (wanted_none rfl _) (exec_move (.tmp 11) (.slice (some ⟨go, oo, none⟩) nx c6) rfl (hE 11 (.slice (some ⟨go, oo, none⟩) nx c6) (by kernel_rfl) (by kernel_rfl))) rfl) ?_
              refine fsteps_cons 7 rfl (fun a u hE hD hk => f_val (o := ⟨some 119, _, _, _, _, _⟩) (.int .i64 (j : Int)) rfl (wanted_none rfl _) (exec_move (.tmp 16) (.int .i64 (j : Int)) rfl (hE 16 (.int .i64 (j : Int)) (by kernel_rfl) (by kernel_rfl))) rfl) ?_
              refine fsteps_cons 8 rfl (fun a u hE hD hk => f_val (o := ⟨some 120, _, _, _, _, _⟩) (.pointer (some ⟨go, oo + j * 9, none⟩)) rfl (wanted_none rfl _) (exec_ixo slO (.tmp 118) (.tmp 119) (go) (oo) nx c6 j (oo + j * 9) ((j : Int)) rfl (hD 5 118 (by kernel_rfl)) (hD 6 119 (by kernel_rfl)) (by first | rfl | omega) (hlt) (by first | rfl | omega)) rfl) ?_
              refine fsteps_cons 9 rfl (fun a u hE hD hk => f_val (o := ⟨some 121, _, _, _, _, _⟩) (x.o.v) rfl (wanted_none rfl _) (exec_ldS 25 _ (.tmp 120) (go) (oo + j * 9) (x.o.cells) rfl (hD 7 120 (by kernel_rfl)) (range_kept HEO.out hk) Try.underlying25 (by rw [x.o.len9]; exact ord_size)) rfl) ?_
              refine fsteps_cons 10 rfl (fun a u hE hD hk => f_val (o := ⟨some 122, _, _, _, _, _⟩) (.bool false) rfl (wanted_none rfl _) (exec_neOb false (.tmp 117) (.tmp 121) _ x.o x.o rfl (hD 4 117 (by kernel_rfl)) (hD 8 121 (by kernel_rfl)) (decide_eq_false (fun h => h rfl))) rfl) ?_
              refine fsteps_cons 11 rfl (fun a u hE hD hk => f_val (o := ⟨some 123, _, _, _, _, _⟩) (.bool false) rfl (wanted_none rfl _) (exec_move (.tmp 122) (.bool false) rfl (hD 9 122 (by kernel_rfl))) rfl) ?_
              refine fsteps_cons 12 rfl (fun a u hE hD hk => f_val (o := ⟨some 124, _, _, _, _, _⟩) (.slice (some ⟨gh, oh, none⟩) nx ch) rfl (wanted_at (b := false) false rfl rfl (hD 10 123 (by kernel_rfl))) (exec_move (.tmp 14) (.slice (some ⟨gh, oh, none⟩) nx ch) rfl (hE 14 (.slice (some ⟨gh, oh, none⟩) nx ch) (by kernel_rfl) (by kernel_rfl))) rfl) ?_
              refine fsteps_cons 13 rfl (fun a u hE hD hk => f_val (o := ⟨some 125, _, _, _, _, _⟩) (.int .i64 (j : Int)) rfl (wanted_at (b := false) false rfl rfl (hD 10 123 (by kernel_rfl))) (exec_move (.tmp 16) (.int .i64 (j : Int)) rfl (hE 16 (.int .i64 (j : Int)) (by kernel_rfl) (by kernel_rfl))) rfl) ?_
              refine fsteps_cons 14 rfl (fun a u hE hD hk => f_val (o := ⟨some 126, _, _, _, _, _⟩) (.pointer (some ⟨gh, oh + j * 10, none⟩)) rfl (wanted_at (b := false) false rfl rfl (hD 10 123 (by kernel_rfl))) (exec_ixo slH (.tmp 124) (.tmp 125) (gh) (oh) nx ch j (oh + j * 10) ((j : Int)) rfl (hD 11 124 (by kernel_rfl)) (hD 12 125 (by kernel_rfl)) (by first | rfl | omega) (hlt) (by first | rfl | omega)) rfl) ?_
              refine fsteps_cons 15 rfl (fun a u hE hD hk => f_val (o := ⟨some 127, _, _, _, _, _⟩) (.pointer (some ⟨gh, oh + j * 10 + 9, none⟩)) rfl (wanted_at (b := false) false rfl rfl (hD 10 123 (by kernel_rfl))) (exec_fldo 35 1 9 (.tmp 126) (gh) (oh + j * 10) (oh + j * 10 + 9) rfl (hD 13 126 (by kernel_rfl)) (by kernel_rfl) rfl) rfl) ?_
              refine fsteps_cons 16 rfl (fun a u hE hD hk => f_val (o := ⟨some 128, _, _, _, _, _⟩) (.int .i64 x.n) rfl (wanted_at (b := false) false rfl rfl (hD 10 123 (by kernel_rfl))) (exec_loadi 3 Try.underlying3 (.tmp 127) ⟨gh, oh + j * 10 + 9, none⟩ (.int .i64 x.n) rfl (hD 14 127 (by kernel_rfl)) (range_int (range_kept HEH.out hk) 9 _ rfl)) rfl) ?_
              refine fsteps_cons 17 rfl (fun a u hE hD hk => f_val (o := ⟨some 129, _, _, _, _, _⟩) (.slice (some ⟨go, oo, none⟩) nx c6) rfl (wanted_at (b := false) false rfl rfl (hD 10 123 (by kernel_rfl))) (exec_move (.tmp 11) (.slice (some ⟨go, oo, none⟩) nx c6) rfl (hE 11 (.slice (some ⟨go, oo, none⟩) nx c6) (by kernel_rfl) (by kernel_rfl))) rfl) ?_
              refine fsteps_cons 18 rfl (fun a u hE hD hk => f_val (o := ⟨some 130, _, _, _, _, _⟩) (.int .i64 (j : Int)) rfl (wanted_at (b := false) false rfl rfl (hD 10 123 (by kernel_rfl))) (exec_move (.tmp 16) (.int .i64 (j : Int)) rfl (hE 16 (.int .i64 (j : Int)) (by kernel_rfl) (by kernel_rfl))) rfl) ?_
              refine fsteps_cons 19 rfl (fun a u hE hD hk => f_val (o := ⟨some 131, _, _, _, _, _⟩) (.pointer (some ⟨go, oo + j * 9, none⟩)) rfl (wanted_at (b := false) false rfl rfl (hD 10 123 (by kernel_rfl))) (exec_ixo slO (.tmp 129) (.tmp 130) (go) (oo) nx c6 j (oo + j * 9) ((j : Int)) rfl (hD 16 129 (by kernel_rfl)) (hD 17 130 (by kernel_rfl)) (by first | rfl | omega) (hlt) (by first | rfl | omega)) rfl) ?_
              refine fsteps_cons 20 rfl (fun a u hE hD hk => f_val (o := ⟨some 132, _, _, _, _, _⟩) (.pointer (some ⟨go, oo + j * 9 + 6, none⟩)) rfl (wanted_at (b := false) false rfl rfl (hD 10 123 (by kernel_rfl))) (exec_fldo 25 6 6 (.tmp 131) (go) (oo + j * 9) (oo + j * 9 + 6) rfl (hD 18 131 (by kernel_rfl)) (by kernel_rfl) rfl) rfl) ?_
              refine fsteps_cons 21 rfl (fun a u hE hD hk => f_val (o := ⟨some 133, _, _, _, _, _⟩) (.int .i64 x.o.qty) rfl (wanted_at (b := false) false rfl rfl (hD 10 123 (by kernel_rfl))) (exec_loadi 3 Try.underlying3 (.tmp 132) ⟨go, oo + j * 9 + 6, none⟩ (.int .i64 x.o.qty) rfl (hD 19 132 (by kernel_rfl)) (range_int (range_kept HEO.out hk) 6 _ rfl)) rfl) ?_
              refine fsteps_cons 22 rfl (fun a u hE hD hk => f_as (show ((decide ((x.n : Int) ≠ (x.o.qty : Int))) : Bool) = false from decide_eq_false (by rw [hpx]; simp)) (f_val (o := ⟨some 134, _, _, _, _, _⟩) (.bool (decide ((x.n : Int) ≠ (x.o.qty : Int)))) rfl (wanted_at (b := false) false rfl rfl (hD 10 123 (by kernel_rfl))) (exec_nen (p := x.n) (q := x.o.qty) rfl (hD 15 128 (by kernel_rfl)) (hD 20 133 (by kernel_rfl))) rfl)) ?_
              exact fsteps_nil
            intro gv w13 hV k13
            rw [show dstsOf _ 22 = [113, 114, 115, 116, 117, 118, 119, 120, 121, 122, 123, 124, 125, 126, 127, 128, 129, 130, 131, 132, 133, 134] by kernel_rfl]
            simp only [List.foldl_cons, List.foldl_nil, List.setIfInBounds_toArray, List.set_cons_succ, List.set_cons_zero, List.drop_succ_cons, List.drop_zero]
            rw [show gv 123 = .bool false from hV 10 123 (by kernel_rfl)]
            rw [show gv 134 = .bool false from hV 21 134 (by kernel_rfl)]
            clear hV
            refine l_val (o := ⟨some 135, _, _, _, _, _⟩) (.bool false) rfl (exec_pickF (.tmp 123) (.const (.bool true)) (.tmp 134) (.bool false) rfl (by kernel_rfl) (by kernel_rfl)) ?_
            simp only [Act.put, List.setIfInBounds_toArray, List.set_cons_succ, List.set_cons_zero]
            refine wpList_nil ?_
            have k14 := hk10.trans k13
            clear hpx HEH HEO k13 hk10
            go_wp2
            exact ⟨⟨j + 1, by go_num, by omega, k14⟩, by simp [intOf]; omega⟩
          · have HL14 := Lib.hid (HL10.out.kept hk10)
            have kw14 := kw10.trans hk10
            go_upto_region 30 with fail
            refine wp_text 6 [.eq (.pointer (some ⟨p, 0, none⟩)), .eq (.int .i64 (([] : List Ent).length : Int)), .eq (.bool true), .eq (.bool true), .eq (.bool true), .eq (.bool true)] rfl (by kernel_rfl) ?_ ?_
            · refine fsteps_cons 1 rfl (fun a u hE hD hk => f_val (o := ⟨some 137, _, _, _, _, _⟩) (.pointer (some ⟨p, 0, none⟩)) rfl (wanted_none rfl _) (exec_move (.tmp 10) (.pointer (some ⟨p, 0, none⟩)) rfl (hE 10 (.pointer (some ⟨p, 0, none⟩)) (by kernel_rfl) (by kernel_rfl))) rfl) ?_
              refine fsteps_cons 2 rfl (fun a u hE hD hk => f_call (o := ⟨some 138, _, _, _, _, _⟩) 27 #[.pointer (some ⟨p, 0, none⟩)] rfl (wanted_none rfl _) (exec_call 27 _ [.tmp 137] _ [.pointer (some ⟨p, 0, none⟩)] Try.func27 (by kernel_rfl) (by kernel_rfl) rfl (show [a.eval (.tmp 137)] = [.pointer (some ⟨p, 0, none⟩)] from (by rw [show a.eval (.tmp 137) = .pointer (some ⟨p, 0, none⟩) from (hD 0 137 (by kernel_rfl))] <;> rfl)) u) (len_any u F' p [] (HL14.out.kept hk))) ?_
              refine fsteps_cons 3 rfl (fun a u hE hD hk => f_as (show ((decide (((([] : List Ent).length : Int) : Int) = (0 : Int))) : Bool) = true from (by simp)) (f_val (o := ⟨some 139, _, _, _, _, _⟩) (.bool (decide (((([] : List Ent).length : Int) : Int) = (0 : Int)))) rfl (wanted_none rfl _) (exec_eqn (p := (([] : List Ent).length : Int)) (q := 0) rfl (hD 1 138 (by kernel_rfl)) rfl) rfl)) ?_
              refine fsteps_cons 4 rfl (fun a u hE hD hk => f_val (o := ⟨some 140, _, _, _, _, _⟩) (.bool true) rfl (wanted_none rfl _) (exec_move (.tmp 139) (.bool true) rfl (hD 2 139 (by kernel_rfl))) rfl) ?_
              refine fsteps_cons 5 rfl (fun a u hE hD hk => f_call (o := ⟨some 141, _, _, _, _, _⟩) 3 #[] rfl (wanted_at (b := true) true rfl rfl (hD 3 140 (by kernel_rfl))) (exec_call 3 _ [] _ [] Try.func3 (by kernel_rfl) (by kernel_rfl) rfl rfl u) (runs_gives u)) ?_
              refine fsteps_cons 6 rfl (fun a u hE hD hk => f_val (o := ⟨some 142, _, _, _, _, _⟩) (.bool true) rfl (wanted_none rfl _) (exec_pick (.tmp 140) (.tmp 141) (.const (.bool false)) (.bool true) rfl (hD 3 140 (by kernel_rfl)) (hD 4 141 (by kernel_rfl))) rfl) ?_
              exact fsteps_nil
            intro gv w15 hV k15
            rw [show dstsOf _ 6 = [137, 138, 139, 140, 141, 142] by kernel_rfl]
            simp only [List.foldl_cons, List.foldl_nil, List.setIfInBounds_toArray, List.set_cons_succ, List.set_cons_zero, List.drop_succ_cons, List.drop_zero]
            rw [show gv 142 = .bool true from hV 5 142 (by kernel_rfl)]
            clear hV
            refine l_val (o := ⟨some 6, _, _, _, _, _⟩) (.bool true) rfl (exec_assign (.tmp 142) (.bool true) rfl (by kernel_rfl)) ?_
            simp only [Act.put, List.setIfInBounds_toArray, List.set_cons_succ, List.set_cons_zero]
            refine wpList_nil ?_
            go_wp2
            go_ret
            exact ⟨rfl, kw14.trans k15⟩
end Go.Proofs.Ytlbkehpdohihlaa
