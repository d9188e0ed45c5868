/-
  The contracts of tree.New and of the document's own NewTree. No condition.
-/
import Derived.Test.YtfoamgljfdnloaaDoorTreC
namespace Go.Proofs.YtfoamgljfdnloaaDoor
open Go.RowKit
set_option linter.unusedVariables false
set_option maxRecDepth 100000

def Trd.bad (x : Trd) : Bool := decide (x ≠ zeroT) && !x.may
/-- the first that may not stand -/
def Trds.bad (X : Trds) : Option Nat := (List.range 32).find? fun i => (X.at_ i).bad
theorem bad_some {X : Trds} {i : Nat} (hi : i < 32) (h : (X.at_ i).bad = true) (hl : ∀ j, j < i → (X.at_ j).bad = false) : X.bad = some i := by
  unfold Trds.bad
  rw [List.find?_range_eq_some]
  exact ⟨h, by simpa using hi, fun j hj => by rw [hl j hj]; rfl⟩
theorem bad_none {X : Trds} (hl : ∀ j, j < 32 → (X.at_ j).bad = false) : X.bad = none := by
  unfold Trds.bad
  rw [List.find?_range_eq_none]
  exact fun j hj => by rw [hl j hj]; rfl
def NewIn (T : TypeId) (w : World) (X : Trds) (e : Ending) (w' : World) : Prop := Kept w w' ∧ ((∃ i : Nat, X.bad = some i ∧ e = .returned (.tuple #[.pointer none, .int .i64 (i : Int)])) ∨ (X.bad = none ∧ ∃ p, e = .returned (.tuple #[.pointer (some ⟨p, 0, none⟩), .int .i64 (-1)]) ∧ w.heap.size ≤ p ∧ Blk w' p T X.cells))
theorem box_new (w : World) (X : Trds) : Hid (Blk (w.alloc (.cells X.cells.toArray 36)) w.heap.size 36 X.cells) := Blk.new w _ _
set_option maxRecDepth 100000 in
set_option maxHeartbeats 1600000 in
theorem new_any (w : World) (X : Trds) : Calls Tryd.prog 12 #[X.v] w (NewIn 58 w X) := by
  unfold Trds.v
  have HB0 := box_new w X
  have kw0 : Kept w (w.alloc (.cells X.cells.toArray 36)) := (Keep.refl _ w).alloc _
  go_enter Tryd.func12, Tryd.ntmps12
  go_upto_region 1 with fail
  generalize w.alloc (.cells X.cells.toArray 36) = w0 at HB0 kw0 ⊢
  obtain ⟨g, hg⟩ : ∃ g, w.heap.size = g := ⟨_, rfl⟩
  rw [hg] at HB0 ⊢
  refine wp_text 2 [.eq (X.v), .eq (.int .i64 0)] rfl (by kernel_rfl) ?_ ?_
  · refine sv 1 rfl rfl rfl (fun a u hE hD hk => exec_ldX X (.tmp 1) (g) _ rfl (hE 1 (.pointer (some ⟨g, 0, none⟩)) (by kernel_rfl) (by kernel_rfl)) (HB0.out.kept hk)) ?_
    refine sv 2 rfl rfl rfl (fun a u hE hD hk => exec_move (.const (.int .i64 0)) _ rfl rfl) ?_
    exact fsteps_nil
  intro gv w1 hV k1
  rw [show dstsOf _ 2 = [6, 7] by kernel_rfl]
  simp only [List.foldl_cons, List.foldl_nil, List.setIfInBounds_toArray, List.set_cons_succ, List.set_cons_zero, List.drop_succ_cons, List.drop_zero]
  rw [show gv 6 = X.v from hV 0 6 (by kernel_rfl)]
  rw [show gv 7 = .int .i64 0 from hV 1 7 (by kernel_rfl)]
  clear hV
  refine wpList_nil ?_
  have kw1 := kw0.trans k1
  have HB1 := Lib.hid (HB0.out.kept k1)
  clear HB0 kw0 k1
  go_wp2_with fail
  go_loopw [7] (fun t wr => ∃ i : Nat, i ≤ 32 ∧ t = .int .i64 (i : Int) ∧ Hid (∀ j, j < i → (X.at_ j).bad = false) ∧ Kept w1 wr) (fun t _ => 32 - (intOf t).toNat)
  case atStart => exact ⟨0, by omega, rfl, fun j hj => (by omega), Kept.refl _⟩
  case round =>
    obtain ⟨i, hi', rfl, HL, hkr⟩ := hrel
    by_cases hi : i < 32
    · clear HB1
      go_upto_region 3 with fail
      refine wp_text 2 [.eq (.int .i64 (i : Int)), .eq ((X.at_ i).v)] rfl (by kernel_rfl) ?_ ?_
      · refine sv 1 rfl rfl rfl (fun a u hE hD hk => exec_move (.tmp 7) _ rfl (hE 7 (.int .i64 (i : Int)) (by kernel_rfl) (by kernel_rfl))) ?_
        refine sv 2 rfl rfl rfl (fun a u hE hD hk => exec_ixV X i ((i : Int)) (.tmp 6) (.tmp 7) rfl (hE 6 (X.v) (by kernel_rfl) (by kernel_rfl)) (hE 7 (.int .i64 (i : Int)) (by kernel_rfl) (by kernel_rfl)) (by first | rfl | omega) (hi)) ?_
        exact fsteps_nil
      intro gv wa hV ka
      rw [show dstsOf _ 2 = [9, 10] by kernel_rfl]
      simp only [List.foldl_cons, List.foldl_nil, List.setIfInBounds_toArray, List.set_cons_succ, List.set_cons_zero, List.drop_succ_cons, List.drop_zero]
      rw [show gv 9 = .int .i64 (i : Int) from hV 0 9 (by kernel_rfl)]
      rw [show gv 10 = (X.at_ i).v from hV 1 10 (by kernel_rfl)]
      clear hV
      refine l_new (o := ⟨some 5, _, _, _, _, _⟩) (.pointer (some ⟨wa.heap.size, 0, none⟩)) (wa.alloc (.cells zeroT.cells.toArray 35)) rfl (exec_alc 35 zeroT.cells rfl zT) ?_
      have hNa := Blk.new wa 35 zeroT.cells
      have kb : Kept wa (wa.alloc (.cells zeroT.cells.toArray 35)) := (Keep.refl _ wa).alloc _
      generalize wa.alloc (.cells zeroT.cells.toArray 35) = wb at hNa kb ⊢
      simp only [Act.put, List.setIfInBounds_toArray, List.set_cons_succ, List.set_cons_zero]
      refine l_val (o := ⟨some 4, _, _, _, _, _⟩) (.int .i64 (i : Int)) rfl (exec_assign (.tmp 9) (.int .i64 (i : Int)) rfl (by kernel_rfl)) ?_
      simp only [Act.put, List.setIfInBounds_toArray, List.set_cons_succ, List.set_cons_zero]
      refine l_setS (o := ⟨none, _, _, _, _, _⟩) 35 wa.heap.size 35 zeroT.cells (X.at_ i).cells (.tmp 5) (.tmp 10) rfl rfl (by kernel_rfl) (by kernel_rfl) hNa (by rw [Trd.len37]; exact szT) (by rw [Trd.len37, Trd.len37]) (Trd.one _) ?_
      intro wc hCwc hkwc hswc
      simp only [Act.put]
      refine wpList_nil ?_
      obtain ⟨gx, hgx⟩ : ∃ a, wa.heap.size = a := ⟨_, rfl⟩
      rw [hgx] at hNa hCwc hkwc ⊢
      have zka := ka.size
      have kwc : Kept wr wc := (ka.trans kb).trans' hkwc (by omega)
      have HXwc := Lib.hid (blk_range hCwc)
      clear hNa hCwc hkwc hswc kb ka
      have kc : Kept w wc := (kw1.trans hkr).trans kwc
      have kc1 := hkr.trans kwc
      clear kwc hkr kw1
      obtain ⟨b, hb⟩ : ∃ b, (X.at_ i).bad = b := ⟨_, rfl⟩
      have HL2f : b = false → Hid (∀ j, j < i + 1 → (X.at_ j).bad = false) := by
        intro e j hj
        by_cases h : j = i
        · subst h
          rw [hb, e]
        · exact HL.out j (by omega)
      have HBDt : b = true → Hid (X.bad = some i) := fun e => bad_some hi (by rw [hb, e]) HL.out
      clear HL
      cases b with
      | true =>
        have HE : Hid ((decide (X.at_ i ≠ zeroT) && !(X.at_ i).may) = true) := hb
        have HBD := HBDt rfl
        clear hb HL2f HBDt
        go_upto_region 4 with fail
        refine wp_text 8 [.eq ((X.at_ i).v), .eq (zeroT.v), .eq (.bool (decide (X.at_ i ≠ zeroT))), .eq (.bool (decide (X.at_ i ≠ zeroT))), .cond (decide (X.at_ i ≠ zeroT)) (.eq ((X.at_ i).v)), .cond (decide (X.at_ i ≠ zeroT)) (.eq (.bool (X.at_ i).may)), .cond (decide (X.at_ i ≠ zeroT)) (.eq (.bool (!(X.at_ i).may))), .eq (.bool true)] rfl (by kernel_rfl) ?_ ?_
        · refine sv 1 rfl rfl rfl (fun a u hE hD hk => exec_ldS 35 _ (.tmp 5) (gx) (0) ((X.at_ i).cells) rfl (hE 5 (.pointer (some ⟨gx, 0, none⟩)) (by kernel_rfl) (by kernel_rfl)) (range_kept (HXwc.out) hk) Tryd.underlying35 (by rw [Trd.len37]; exact szT)) ?_
          refine sv 2 rfl rfl rfl (fun a u hE hD hk => exec_build 35 [] zeroT.cells rfl (by kernel_rfl)) ?_
          refine sv 3 rfl rfl rfl (fun a u hE hD hk => exec_neTrd (.tmp 11) (.tmp 12) _ (X.at_ i) zeroT _ rfl (hD 0 11 (by kernel_rfl)) (hD 1 12 (by kernel_rfl)) rfl) ?_
          refine sv 4 rfl rfl rfl (fun a u hE hD hk => exec_move (.tmp 13) _ rfl (hD 2 13 (by kernel_rfl))) ?_
          refine fsteps_cons 5 rfl (fun a u hE hD hk => f_if ((decide (X.at_ i ≠ zeroT))) rfl rfl rfl (hD 3 14 (by kernel_rfl)) (fun hb => f_val (o := ⟨some 15, _, _, _, _, _⟩) ((X.at_ i).v) rfl (wanted_b rfl rfl (hD 3 14 (by kernel_rfl)) (eq_true_of hb)) (exec_ldS 35 _ (.tmp 5) (gx) (0) ((X.at_ i).cells) rfl (hE 5 (.pointer (some ⟨gx, 0, none⟩)) (by kernel_rfl) (by kernel_rfl)) (range_kept (HXwc.out) hk) Tryd.underlying35 (by rw [Trd.len37]; exact szT)) rfl)) ?_
          refine fsteps_cons 6 rfl (fun a u hE hD hk => f_if ((decide (X.at_ i ≠ zeroT))) rfl rfl rfl (hD 3 14 (by kernel_rfl)) (fun hb => f_call (o := ⟨some 16, _, _, _, _, _⟩) 22 #[(X.at_ i).v] rfl (wanted_b rfl rfl (hD 3 14 (by kernel_rfl)) (eq_true_of hb)) (exec_call 22 _ [.tmp 15] _ [(X.at_ i).v] Tryd.func22 (by kernel_rfl) (by kernel_rfl) rfl (show [a.eval (.tmp 15)] = [(X.at_ i).v] from (by rw [show a.eval (.tmp 15) = (X.at_ i).v from ((hD 4 15 (by kernel_rfl)).1 hb)] <;> rfl)) u) (may_t _ u))) ?_
          refine fsteps_cons 7 rfl (fun a u hE hD hk => f_if ((decide (X.at_ i ≠ zeroT))) rfl rfl rfl (hD 3 14 (by kernel_rfl)) (fun hb => f_val (o := ⟨some 17, _, _, _, _, _⟩) (.bool (!(X.at_ i).may)) rfl (wanted_b rfl rfl (hD 3 14 (by kernel_rfl)) (eq_true_of hb)) (exec_not _ (.tmp 16) (X.at_ i).may rfl ((hD 5 16 (by kernel_rfl)).1 hb)) rfl)) ?_
          refine fsteps_cons 8 rfl (fun a u hE hD hk => f_as (show (((decide (X.at_ i ≠ zeroT)) && (!(X.at_ i).may)) : Bool) = true from HE.out) (f_val (o := ⟨some 18, _, _, _, _, _⟩) (.bool ((decide (X.at_ i ≠ zeroT)) && (!(X.at_ i).may))) rfl (wanted_none rfl _) (exec_pickand (.tmp 14) (.tmp 17) (.const (.bool false)) ((decide (X.at_ i ≠ zeroT))) ((!(X.at_ i).may)) rfl (hD 3 14 (by kernel_rfl)) (fun hb2 => ((hD 6 17 (by kernel_rfl)).1 hb2)) rfl) rfl)) ?_
          exact fsteps_nil
        intro gv wd hV kd
        rw [show dstsOf _ 8 = [11, 12, 13, 14, 15, 16, 17, 18] by kernel_rfl]
        simp only [List.foldl_cons, List.foldl_nil, List.setIfInBounds_toArray, List.set_cons_succ, List.set_cons_zero, List.drop_succ_cons, List.drop_zero]
        rw [show gv 18 = .bool true from hV 7 18 (by kernel_rfl)]
        clear hV
        refine wpList_nil ?_
        clear HXwc HE
        have kwe := kc.trans kd
        go_wp2
        go_ret2
        exact ⟨kwe, .inl ⟨i, HBD.out, rfl⟩⟩
      | false =>
        have HE : Hid ((decide (X.at_ i ≠ zeroT) && !(X.at_ i).may) = false) := hb
        have HL2 := HL2f rfl
        clear hb HL2f HBDt
        go_upto_region 4 with fail
        refine wp_text 8 [.eq ((X.at_ i).v), .eq (zeroT.v), .eq (.bool (decide (X.at_ i ≠ zeroT))), .eq (.bool (decide (X.at_ i ≠ zeroT))), .cond (decide (X.at_ i ≠ zeroT)) (.eq ((X.at_ i).v)), .cond (decide (X.at_ i ≠ zeroT)) (.eq (.bool (X.at_ i).may)), .cond (decide (X.at_ i ≠ zeroT)) (.eq (.bool (!(X.at_ i).may))), .eq (.bool false)] rfl (by kernel_rfl) ?_ ?_
        · refine sv 1 rfl rfl rfl (fun a u hE hD hk => exec_ldS 35 _ (.tmp 5) (gx) (0) ((X.at_ i).cells) rfl (hE 5 (.pointer (some ⟨gx, 0, none⟩)) (by kernel_rfl) (by kernel_rfl)) (range_kept (HXwc.out) hk) Tryd.underlying35 (by rw [Trd.len37]; exact szT)) ?_
          refine sv 2 rfl rfl rfl (fun a u hE hD hk => exec_build 35 [] zeroT.cells rfl (by kernel_rfl)) ?_
          refine sv 3 rfl rfl rfl (fun a u hE hD hk => exec_neTrd (.tmp 11) (.tmp 12) _ (X.at_ i) zeroT _ rfl (hD 0 11 (by kernel_rfl)) (hD 1 12 (by kernel_rfl)) rfl) ?_
          refine sv 4 rfl rfl rfl (fun a u hE hD hk => exec_move (.tmp 13) _ rfl (hD 2 13 (by kernel_rfl))) ?_
          refine fsteps_cons 5 rfl (fun a u hE hD hk => f_if ((decide (X.at_ i ≠ zeroT))) rfl rfl rfl (hD 3 14 (by kernel_rfl)) (fun hb => f_val (o := ⟨some 15, _, _, _, _, _⟩) ((X.at_ i).v) rfl (wanted_b rfl rfl (hD 3 14 (by kernel_rfl)) (eq_true_of hb)) (exec_ldS 35 _ (.tmp 5) (gx) (0) ((X.at_ i).cells) rfl (hE 5 (.pointer (some ⟨gx, 0, none⟩)) (by kernel_rfl) (by kernel_rfl)) (range_kept (HXwc.out) hk) Tryd.underlying35 (by rw [Trd.len37]; exact szT)) rfl)) ?_
          refine fsteps_cons 6 rfl (fun a u hE hD hk => f_if ((decide (X.at_ i ≠ zeroT))) rfl rfl rfl (hD 3 14 (by kernel_rfl)) (fun hb => f_call (o := ⟨some 16, _, _, _, _, _⟩) 22 #[(X.at_ i).v] rfl (wanted_b rfl rfl (hD 3 14 (by kernel_rfl)) (eq_true_of hb)) (exec_call 22 _ [.tmp 15] _ [(X.at_ i).v] Tryd.func22 (by kernel_rfl) (by kernel_rfl) rfl (show [a.eval (.tmp 15)] = [(X.at_ i).v] from (by rw [show a.eval (.tmp 15) = (X.at_ i).v from ((hD 4 15 (by kernel_rfl)).1 hb)] <;> rfl)) u) (may_t _ u))) ?_
          refine fsteps_cons 7 rfl (fun a u hE hD hk => f_if ((decide (X.at_ i ≠ zeroT))) rfl rfl rfl (hD 3 14 (by kernel_rfl)) (fun hb => f_val (o := ⟨some 17, _, _, _, _, _⟩) (.bool (!(X.at_ i).may)) rfl (wanted_b rfl rfl (hD 3 14 (by kernel_rfl)) (eq_true_of hb)) (exec_not _ (.tmp 16) (X.at_ i).may rfl ((hD 5 16 (by kernel_rfl)).1 hb)) rfl)) ?_
          refine fsteps_cons 8 rfl (fun a u hE hD hk => f_as (show (((decide (X.at_ i ≠ zeroT)) && (!(X.at_ i).may)) : Bool) = false from HE.out) (f_val (o := ⟨some 18, _, _, _, _, _⟩) (.bool ((decide (X.at_ i ≠ zeroT)) && (!(X.at_ i).may))) rfl (wanted_none rfl _) (exec_pickand (.tmp 14) (.tmp 17) (.const (.bool false)) ((decide (X.at_ i ≠ zeroT))) ((!(X.at_ i).may)) rfl (hD 3 14 (by kernel_rfl)) (fun hb2 => ((hD 6 17 (by kernel_rfl)).1 hb2)) rfl) rfl)) ?_
          exact fsteps_nil
        intro gv wd hV kd
        rw [show dstsOf _ 8 = [11, 12, 13, 14, 15, 16, 17, 18] by kernel_rfl]
        simp only [List.foldl_cons, List.foldl_nil, List.setIfInBounds_toArray, List.set_cons_succ, List.set_cons_zero, List.drop_succ_cons, List.drop_zero]
        rw [show gv 18 = .bool false from hV 7 18 (by kernel_rfl)]
        clear hV
        refine wpList_nil ?_
        clear HXwc HE
        have kwe := kc1.trans kd
        go_wp2
        exact ⟨⟨i + 1, by omega, by simp, HL2, kwe⟩, by simp [intOf]; omega⟩
    · obtain rfl : i = 32 := by omega
      have HBN := Lib.hid (bad_none HL.out)
      have HBr := Lib.hid (HB1.out.kept hkr)
      clear HL HB1
      go_upto_region 7 with fail
      refine wp_text 3 [.eq (X.v), .eq (X.v), .fresh wr.heap.size 58 (X.cells)] rfl (by kernel_rfl) ?_ ?_
      · refine sv 1 rfl rfl rfl (fun a u hE hD hk => exec_ldX X (.tmp 1) (g) _ rfl (hE 1 (.pointer (some ⟨g, 0, none⟩)) (by kernel_rfl) (by kernel_rfl)) (HBr.out.kept hk)) ?_
        refine sv 2 rfl rfl rfl (fun a u hE hD hk => exec_bTree 58 X (.tmp 21) (by kernel_rfl) (by kernel_rfl) rfl (hD 0 21 (by kernel_rfl))) ?_
        refine fsteps_cons 3 rfl (fun a u hE hD hk => f_new (o := ⟨some 23, _, _, _, _, _⟩) (.pointer (some ⟨u.heap.size, 0, none⟩)) _ rfl (wanted_none rfl _) (exec_box 58 (.tmp 22) (X.cells) rfl (hD 1 22 (by kernel_rfl))) ⟨_, rfl, hk.size, Blk.new u _ _⟩ ((Keep.refl _ u).alloc _)) ?_
        exact fsteps_nil
      intro gv w2 hV k2
      rw [show dstsOf _ 3 = [21, 22, 23] by kernel_rfl]
      simp only [List.foldl_cons, List.foldl_nil, List.setIfInBounds_toArray, List.set_cons_succ, List.set_cons_zero, List.drop_succ_cons, List.drop_zero]
      have hv23 : (.fresh wr.heap.size 58 (X.cells) : Kn).p (gv 23) w2 := hV 2 23 (by kernel_rfl)
      generalize gv 23 = v23 at hv23 ⊢
      clear hV
      obtain ⟨p, rfl, hp1, hp2⟩ := hv23
      refine l_val (o := ⟨some 2, _, _, _, _, _⟩) (.pointer (some ⟨p, 0, none⟩)) rfl (exec_assign (.tmp 23) (.pointer (some ⟨p, 0, none⟩)) rfl (by kernel_rfl)) ?_
      simp only [Act.put, List.setIfInBounds_toArray, List.set_cons_succ, List.set_cons_zero]
      refine l_val (o := ⟨some 3, _, _, _, _, _⟩) (.int .i64 (-1)) rfl (exec_assign (.const (.int .i64 (-1))) (.int .i64 (-1)) rfl (by kernel_rfl)) ?_
      simp only [Act.put, List.setIfInBounds_toArray, List.set_cons_succ, List.set_cons_zero]
      refine wpList_nil ?_
      have kw2 := (kw1.trans hkr).trans k2
      have zr := (kw1.trans hkr).size
      have HP := Lib.hid hp2
      clear hp2 k2 hkr HBr
      go_wp2
      go_ret2
      exact ⟨kw2, .inr ⟨HBN.out, p, rfl, by omega, HP.out⟩⟩
set_option maxRecDepth 100000 in
set_option maxHeartbeats 1600000 in
theorem rnew_any (w : World) (X : Trds) : Calls Tryd.prog 13 #[X.v] w (NewIn 60 w X) := by
  unfold Trds.v
  have HB0 := box_new w X
  have kw0 : Kept w (w.alloc (.cells X.cells.toArray 36)) := (Keep.refl _ w).alloc _
  go_enter Tryd.func13, Tryd.ntmps13
  go_upto_region 1 with fail
  generalize w.alloc (.cells X.cells.toArray 36) = w0 at HB0 kw0 ⊢
  obtain ⟨g, hg⟩ : ∃ g, w.heap.size = g := ⟨_, rfl⟩
  rw [hg] at HB0 ⊢
  refine wp_text 2 [.eq (X.v), .eq (.int .i64 0)] rfl (by kernel_rfl) ?_ ?_
  · refine sv 1 rfl rfl rfl (fun a u hE hD hk => exec_ldX X (.tmp 1) (g) _ rfl (hE 1 (.pointer (some ⟨g, 0, none⟩)) (by kernel_rfl) (by kernel_rfl)) (HB0.out.kept hk)) ?_
    refine sv 2 rfl rfl rfl (fun a u hE hD hk => exec_move (.const (.int .i64 0)) _ rfl rfl) ?_
    exact fsteps_nil
  intro gv w1 hV k1
  rw [show dstsOf _ 2 = [6, 7] by kernel_rfl]
  simp only [List.foldl_cons, List.foldl_nil, List.setIfInBounds_toArray, List.set_cons_succ, List.set_cons_zero, List.drop_succ_cons, List.drop_zero]
  rw [show gv 6 = X.v from hV 0 6 (by kernel_rfl)]
  rw [show gv 7 = .int .i64 0 from hV 1 7 (by kernel_rfl)]
  clear hV
  refine wpList_nil ?_
  have kw1 := kw0.trans k1
  have HB1 := Lib.hid (HB0.out.kept k1)
  clear HB0 kw0 k1
  go_wp2_with fail
  go_loopw [7] (fun t wr => ∃ i : Nat, i ≤ 32 ∧ t = .int .i64 (i : Int) ∧ Hid (∀ j, j < i → (X.at_ j).bad = false) ∧ Kept w1 wr) (fun t _ => 32 - (intOf t).toNat)
  case atStart => exact ⟨0, by omega, rfl, fun j hj => (by omega), Kept.refl _⟩
  case round =>
    obtain ⟨i, hi', rfl, HL, hkr⟩ := hrel
    by_cases hi : i < 32
    · clear HB1
      go_upto_region 3 with fail
      refine wp_text 2 [.eq (.int .i64 (i : Int)), .eq ((X.at_ i).v)] rfl (by kernel_rfl) ?_ ?_
      · refine sv 1 rfl rfl rfl (fun a u hE hD hk => exec_move (.tmp 7) _ rfl (hE 7 (.int .i64 (i : Int)) (by kernel_rfl) (by kernel_rfl))) ?_
        refine sv 2 rfl rfl rfl (fun a u hE hD hk => exec_ixV X i ((i : Int)) (.tmp 6) (.tmp 7) rfl (hE 6 (X.v) (by kernel_rfl) (by kernel_rfl)) (hE 7 (.int .i64 (i : Int)) (by kernel_rfl) (by kernel_rfl)) (by first | rfl | omega) (hi)) ?_
        exact fsteps_nil
      intro gv wa hV ka
      rw [show dstsOf _ 2 = [9, 10] by kernel_rfl]
      simp only [List.foldl_cons, List.foldl_nil, List.setIfInBounds_toArray, List.set_cons_succ, List.set_cons_zero, List.drop_succ_cons, List.drop_zero]
      rw [show gv 9 = .int .i64 (i : Int) from hV 0 9 (by kernel_rfl)]
      rw [show gv 10 = (X.at_ i).v from hV 1 10 (by kernel_rfl)]
      clear hV
      refine l_new (o := ⟨some 5, _, _, _, _, _⟩) (.pointer (some ⟨wa.heap.size, 0, none⟩)) (wa.alloc (.cells zeroT.cells.toArray 35)) rfl (exec_alc 35 zeroT.cells rfl zT) ?_
      have hNa := Blk.new wa 35 zeroT.cells
      have kb : Kept wa (wa.alloc (.cells zeroT.cells.toArray 35)) := (Keep.refl _ wa).alloc _
      generalize wa.alloc (.cells zeroT.cells.toArray 35) = wb at hNa kb ⊢
      simp only [Act.put, List.setIfInBounds_toArray, List.set_cons_succ, List.set_cons_zero]
      refine l_val (o := ⟨some 4, _, _, _, _, _⟩) (.int .i64 (i : Int)) rfl (exec_assign (.tmp 9) (.int .i64 (i : Int)) rfl (by kernel_rfl)) ?_
      simp only [Act.put, List.setIfInBounds_toArray, List.set_cons_succ, List.set_cons_zero]
      refine l_setS (o := ⟨none, _, _, _, _, _⟩) 35 wa.heap.size 35 zeroT.cells (X.at_ i).cells (.tmp 5) (.tmp 10) rfl rfl (by kernel_rfl) (by kernel_rfl) hNa (by rw [Trd.len37]; exact szT) (by rw [Trd.len37, Trd.len37]) (Trd.one _) ?_
      intro wc hCwc hkwc hswc
      simp only [Act.put]
      refine wpList_nil ?_
      obtain ⟨gx, hgx⟩ : ∃ a, wa.heap.size = a := ⟨_, rfl⟩
      rw [hgx] at hNa hCwc hkwc ⊢
      have zka := ka.size
      have kwc : Kept wr wc := (ka.trans kb).trans' hkwc (by omega)
      have HXwc := Lib.hid (blk_range hCwc)
      clear hNa hCwc hkwc hswc kb ka
      have kc : Kept w wc := (kw1.trans hkr).trans kwc
      have kc1 := hkr.trans kwc
      clear kwc hkr kw1
      obtain ⟨b, hb⟩ : ∃ b, (X.at_ i).bad = b := ⟨_, rfl⟩
      have HL2f : b = false → Hid (∀ j, j < i + 1 → (X.at_ j).bad = false) := by
        intro e j hj
        by_cases h : j = i
        · subst h
          rw [hb, e]
        · exact HL.out j (by omega)
      have HBDt : b = true → Hid (X.bad = some i) := fun e => bad_some hi (by rw [hb, e]) HL.out
      clear HL
      by_cases hz : X.at_ i = zeroT
      · have HZ := Lib.hid hz
        have HL2 := HL2f (by rw [← hb]; unfold Trd.bad; rw [hz]; simp)
        clear HL2f HBDt hb hz
        go_upto_region 4 with fail
        refine wp_text 3 [.eq ((X.at_ i).v), .eq (zeroT.v), .eq (.bool true)] rfl (by kernel_rfl) ?_ ?_
        · refine sv 1 rfl rfl rfl (fun a u hE hD hk => exec_ldS 35 _ (.tmp 5) (gx) (0) ((X.at_ i).cells) rfl (hE 5 (.pointer (some ⟨gx, 0, none⟩)) (by kernel_rfl) (by kernel_rfl)) (range_kept (HXwc.out) hk) Tryd.underlying35 (by rw [Trd.len37]; exact szT)) ?_
          refine sv 2 rfl rfl rfl (fun a u hE hD hk => exec_build 35 [] zeroT.cells rfl (by kernel_rfl)) ?_
          refine sv 3 rfl rfl rfl (fun a u hE hD hk => exec_eqTrd (.tmp 11) (.tmp 12) _ (X.at_ i) zeroT _ rfl (hD 0 11 (by kernel_rfl)) (hD 1 12 (by kernel_rfl)) (decide_eq_true HZ.out)) ?_
          exact fsteps_nil
        intro gv wd hV kd
        rw [show dstsOf _ 3 = [11, 12, 13] by kernel_rfl]
        simp only [List.foldl_cons, List.foldl_nil, List.setIfInBounds_toArray, List.set_cons_succ, List.set_cons_zero, List.drop_succ_cons, List.drop_zero]
        rw [show gv 13 = .bool true from hV 2 13 (by kernel_rfl)]
        clear hV
        refine wpList_nil ?_
        clear HXwc HZ
        have kwe := kc1.trans kd
        go_wp2
        exact ⟨⟨i + 1, by omega, by simp, HL2, kwe⟩, by simp [intOf]; omega⟩
      · have HZ := Lib.hid hz
        go_upto_region 4 with fail
        refine wp_text 3 [.eq ((X.at_ i).v), .eq (zeroT.v), .eq (.bool false)] rfl (by kernel_rfl) ?_ ?_
        · refine sv 1 rfl rfl rfl (fun a u hE hD hk => exec_ldS 35 _ (.tmp 5) (gx) (0) ((X.at_ i).cells) rfl (hE 5 (.pointer (some ⟨gx, 0, none⟩)) (by kernel_rfl) (by kernel_rfl)) (range_kept (HXwc.out) hk) Tryd.underlying35 (by rw [Trd.len37]; exact szT)) ?_
          refine sv 2 rfl rfl rfl (fun a u hE hD hk => exec_build 35 [] zeroT.cells rfl (by kernel_rfl)) ?_
          refine sv 3 rfl rfl rfl (fun a u hE hD hk => exec_eqTrd (.tmp 11) (.tmp 12) _ (X.at_ i) zeroT _ rfl (hD 0 11 (by kernel_rfl)) (hD 1 12 (by kernel_rfl)) (decide_eq_false HZ.out)) ?_
          exact fsteps_nil
        intro gv wd hV kd
        rw [show dstsOf _ 3 = [11, 12, 13] by kernel_rfl]
        simp only [List.foldl_cons, List.foldl_nil, List.setIfInBounds_toArray, List.set_cons_succ, List.set_cons_zero, List.drop_succ_cons, List.drop_zero]
        rw [show gv 13 = .bool false from hV 2 13 (by kernel_rfl)]
        clear hV
        refine wpList_nil ?_
        have HXd := Lib.hid (range_kept HXwc.out kd)
        have kcd := kc.trans kd
        have kcd1 := kc1.trans kd
        clear HXwc HZ kc kc1 kd
        have he : (!(X.at_ i).right || decide ((X.at_ i).roles = 0)) = b := by
          rw [← hb]
          unfold Trd.bad Trd.may
          rw [decide_eq_true hz, Bool.true_and]
          cases (X.at_ i).right <;> simp
        clear hz hb
        cases b with
        | true =>
          have HE := Lib.hid he
          have HBD := HBDt rfl
          clear he HL2f HBDt
          go_upto_region 5 with fail
          refine wp_text 8 [.eq ((X.at_ i).v), .eq (.bool (X.at_ i).right), .eq (.bool (!(X.at_ i).right)), .eq (.bool (!(X.at_ i).right)), .cond (!(!(X.at_ i).right)) (.eq (.pointer (some ⟨gx, 2, none⟩))), .cond (!(!(X.at_ i).right)) (.eq (.int .i64 (X.at_ i).roles)), .cond (!(!(X.at_ i).right)) (.eq (.bool (decide (((X.at_ i).roles : Int) = (0 : Int))))), .eq (.bool true)] rfl (by kernel_rfl) ?_ ?_
          · refine sv 1 rfl rfl rfl (fun a u hE hD hk => exec_ldS 35 _ (.tmp 5) (gx) (0) ((X.at_ i).cells) rfl (hE 5 (.pointer (some ⟨gx, 0, none⟩)) (by kernel_rfl) (by kernel_rfl)) (range_kept (HXd.out) hk) Tryd.underlying35 (by rw [Trd.len37]; exact szT)) ?_
            refine fsteps_cons 2 rfl (fun a u hE hD hk => f_call (o := ⟨some 15, _, _, _, _, _⟩) 23 #[(X.at_ i).v] rfl (wanted_none rfl _) (exec_call 23 _ [.tmp 14] _ [(X.at_ i).v] Tryd.func23 (by kernel_rfl) (by kernel_rfl) rfl (show [a.eval (.tmp 14)] = [(X.at_ i).v] from (by rw [show a.eval (.tmp 14) = (X.at_ i).v from (hD 0 14 (by kernel_rfl))] <;> rfl)) u) (rright_t _ u)) ?_
            refine sv 3 rfl rfl rfl (fun a u hE hD hk => exec_not _ (.tmp 15) (X.at_ i).right rfl (hD 1 15 (by kernel_rfl))) ?_
            refine sv 4 rfl rfl rfl (fun a u hE hD hk => exec_move (.tmp 16) _ rfl (hD 2 16 (by kernel_rfl))) ?_
            refine fsteps_cons 5 rfl (fun a u hE hD hk => f_unless ((!(X.at_ i).right)) rfl rfl rfl (hD 3 17 (by kernel_rfl)) (fun hb => f_val (o := ⟨some 18, _, _, _, _, _⟩) (.pointer (some ⟨gx, 2, none⟩)) rfl (wanted_b rfl rfl (hD 3 17 (by kernel_rfl)) (eq_false_of hb)) (exec_fldo 35 2 2 (.tmp 5) (gx) (0) (2) rfl (hE 5 (.pointer (some ⟨gx, 0, none⟩)) (by kernel_rfl) (by kernel_rfl)) (by kernel_rfl) rfl) rfl)) ?_
            refine fsteps_cons 6 rfl (fun a u hE hD hk => f_unless ((!(X.at_ i).right)) rfl rfl rfl (hD 3 17 (by kernel_rfl)) (fun hb => f_val (o := ⟨some 19, _, _, _, _, _⟩) (.int .i64 (X.at_ i).roles) rfl (wanted_b rfl rfl (hD 3 17 (by kernel_rfl)) (eq_false_of hb)) (exec_loadi 3 Tryd.underlying3 (.tmp 18) ⟨gx, 2, none⟩ (.int .i64 (X.at_ i).roles) rfl ((hD 4 18 (by kernel_rfl)).1 hb) ((range_kept (HXd.out) hk) 2 _ rfl)) rfl)) ?_
            refine fsteps_cons 7 rfl (fun a u hE hD hk => f_unless ((!(X.at_ i).right)) rfl rfl rfl (hD 3 17 (by kernel_rfl)) (fun hb => f_val (o := ⟨some 20, _, _, _, _, _⟩) (.bool (decide (((X.at_ i).roles : Int) = (0 : Int)))) rfl (wanted_b rfl rfl (hD 3 17 (by kernel_rfl)) (eq_false_of hb)) (exec_eqn (p := (X.at_ i).roles) (q := 0) rfl ((hD 5 19 (by kernel_rfl)).1 hb) rfl) rfl)) ?_
            refine fsteps_cons 8 rfl (fun a u hE hD hk => f_as (show (((!(X.at_ i).right) || (decide (((X.at_ i).roles : Int) = (0 : Int)))) : Bool) = true from HE.out) (f_val (o := ⟨some 21, _, _, _, _, _⟩) (.bool ((!(X.at_ i).right) || (decide (((X.at_ i).roles : Int) = (0 : Int))))) rfl (wanted_none rfl _) (exec_pickor (.tmp 17) (.const (.bool true)) (.tmp 20) ((!(X.at_ i).right)) ((decide (((X.at_ i).roles : Int) = (0 : Int)))) rfl (hD 3 17 (by kernel_rfl)) rfl (fun hb2 => ((hD 6 20 (by kernel_rfl)).1 hb2))) rfl)) ?_
            exact fsteps_nil
          intro gv we hV ke
          rw [show dstsOf _ 8 = [14, 15, 16, 17, 18, 19, 20, 21] by kernel_rfl]
          simp only [List.foldl_cons, List.foldl_nil, List.setIfInBounds_toArray, List.set_cons_succ, List.set_cons_zero, List.drop_succ_cons, List.drop_zero]
          rw [show gv 21 = .bool true from hV 7 21 (by kernel_rfl)]
          clear hV
          refine wpList_nil ?_
          clear HXd HE
          have kwe := kcd.trans ke
          go_wp2
          go_ret2
          exact ⟨kwe, .inl ⟨i, HBD.out, rfl⟩⟩
        | false =>
          have HE := Lib.hid he
          have HL2 := HL2f rfl
          clear he HL2f HBDt
          go_upto_region 5 with fail
          refine wp_text 8 [.eq ((X.at_ i).v), .eq (.bool (X.at_ i).right), .eq (.bool (!(X.at_ i).right)), .eq (.bool (!(X.at_ i).right)), .cond (!(!(X.at_ i).right)) (.eq (.pointer (some ⟨gx, 2, none⟩))), .cond (!(!(X.at_ i).right)) (.eq (.int .i64 (X.at_ i).roles)), .cond (!(!(X.at_ i).right)) (.eq (.bool (decide (((X.at_ i).roles : Int) = (0 : Int))))), .eq (.bool false)] rfl (by kernel_rfl) ?_ ?_
          · refine sv 1 rfl rfl rfl (fun a u hE hD hk => exec_ldS 35 _ (.tmp 5) (gx) (0) ((X.at_ i).cells) rfl (hE 5 (.pointer (some ⟨gx, 0, none⟩)) (by kernel_rfl) (by kernel_rfl)) (range_kept (HXd.out) hk) Tryd.underlying35 (by rw [Trd.len37]; exact szT)) ?_
            refine fsteps_cons 2 rfl (fun a u hE hD hk => f_call (o := ⟨some 15, _, _, _, _, _⟩) 23 #[(X.at_ i).v] rfl (wanted_none rfl _) (exec_call 23 _ [.tmp 14] _ [(X.at_ i).v] Tryd.func23 (by kernel_rfl) (by kernel_rfl) rfl (show [a.eval (.tmp 14)] = [(X.at_ i).v] from (by rw [show a.eval (.tmp 14) = (X.at_ i).v from (hD 0 14 (by kernel_rfl))] <;> rfl)) u) (rright_t _ u)) ?_
            refine sv 3 rfl rfl rfl (fun a u hE hD hk => exec_not _ (.tmp 15) (X.at_ i).right rfl (hD 1 15 (by kernel_rfl))) ?_
            refine sv 4 rfl rfl rfl (fun a u hE hD hk => exec_move (.tmp 16) _ rfl (hD 2 16 (by kernel_rfl))) ?_
            refine fsteps_cons 5 rfl (fun a u hE hD hk => f_unless ((!(X.at_ i).right)) rfl rfl rfl (hD 3 17 (by kernel_rfl)) (fun hb => f_val (o := ⟨some 18, _, _, _, _, _⟩) (.pointer (some ⟨gx, 2, none⟩)) rfl (wanted_b rfl rfl (hD 3 17 (by kernel_rfl)) (eq_false_of hb)) (exec_fldo 35 2 2 (.tmp 5) (gx) (0) (2) rfl (hE 5 (.pointer (some ⟨gx, 0, none⟩)) (by kernel_rfl) (by kernel_rfl)) (by kernel_rfl) rfl) rfl)) ?_
            refine fsteps_cons 6 rfl (fun a u hE hD hk => f_unless ((!(X.at_ i).right)) rfl rfl rfl (hD 3 17 (by kernel_rfl)) (fun hb => f_val (o := ⟨some 19, _, _, _, _, _⟩) (.int .i64 (X.at_ i).roles) rfl (wanted_b rfl rfl (hD 3 17 (by kernel_rfl)) (eq_false_of hb)) (exec_loadi 3 Tryd.underlying3 (.tmp 18) ⟨gx, 2, none⟩ (.int .i64 (X.at_ i).roles) rfl ((hD 4 18 (by kernel_rfl)).1 hb) ((range_kept (HXd.out) hk) 2 _ rfl)) rfl)) ?_
            refine fsteps_cons 7 rfl (fun a u hE hD hk => f_unless ((!(X.at_ i).right)) rfl rfl rfl (hD 3 17 (by kernel_rfl)) (fun hb => f_val (o := ⟨some 20, _, _, _, _, _⟩) (.bool (decide (((X.at_ i).roles : Int) = (0 : Int)))) rfl (wanted_b rfl rfl (hD 3 17 (by kernel_rfl)) (eq_false_of hb)) (exec_eqn (p := (X.at_ i).roles) (q := 0) rfl ((hD 5 19 (by kernel_rfl)).1 hb) rfl) rfl)) ?_
            refine fsteps_cons 8 rfl (fun a u hE hD hk => f_as (show (((!(X.at_ i).right) || (decide (((X.at_ i).roles : Int) = (0 : Int)))) : Bool) = false from HE.out) (f_val (o := ⟨some 21, _, _, _, _, _⟩) (.bool ((!(X.at_ i).right) || (decide (((X.at_ i).roles : Int) = (0 : Int))))) rfl (wanted_none rfl _) (exec_pickor (.tmp 17) (.const (.bool true)) (.tmp 20) ((!(X.at_ i).right)) ((decide (((X.at_ i).roles : Int) = (0 : Int)))) rfl (hD 3 17 (by kernel_rfl)) rfl (fun hb2 => ((hD 6 20 (by kernel_rfl)).1 hb2))) rfl)) ?_
            exact fsteps_nil
          intro gv we hV ke
          rw [show dstsOf _ 8 = [14, 15, 16, 17, 18, 19, 20, 21] by kernel_rfl]
          simp only [List.foldl_cons, List.foldl_nil, List.setIfInBounds_toArray, List.set_cons_succ, List.set_cons_zero, List.drop_succ_cons, List.drop_zero]
          rw [show gv 21 = .bool false from hV 7 21 (by kernel_rfl)]
          clear hV
          refine wpList_nil ?_
          clear HXd HE
          have kwe := kcd1.trans ke
          go_wp2
          exact ⟨⟨i + 1, by omega, by simp, HL2, kwe⟩, by simp [intOf]; omega⟩
    · obtain rfl : i = 32 := by omega
      have HBN := Lib.hid (bad_none HL.out)
      have HBr := Lib.hid (HB1.out.kept hkr)
      clear HL HB1
      go_upto_region 8 with fail
      refine wp_text 3 [.eq (X.v), .eq (X.v), .fresh wr.heap.size 60 (X.cells)] rfl (by kernel_rfl) ?_ ?_
      · refine sv 1 rfl rfl rfl (fun a u hE hD hk => exec_ldX X (.tmp 1) (g) _ rfl (hE 1 (.pointer (some ⟨g, 0, none⟩)) (by kernel_rfl) (by kernel_rfl)) (HBr.out.kept hk)) ?_
        refine sv 2 rfl rfl rfl (fun a u hE hD hk => exec_bTree 60 X (.tmp 24) (by kernel_rfl) (by kernel_rfl) rfl (hD 0 24 (by kernel_rfl))) ?_
        refine fsteps_cons 3 rfl (fun a u hE hD hk => f_new (o := ⟨some 26, _, _, _, _, _⟩) (.pointer (some ⟨u.heap.size, 0, none⟩)) _ rfl (wanted_none rfl _) (exec_box 60 (.tmp 25) (X.cells) rfl (hD 1 25 (by kernel_rfl))) ⟨_, rfl, hk.size, Blk.new u _ _⟩ ((Keep.refl _ u).alloc _)) ?_
        exact fsteps_nil
      intro gv w2 hV k2
      rw [show dstsOf _ 3 = [24, 25, 26] by kernel_rfl]
      simp only [List.foldl_cons, List.foldl_nil, List.setIfInBounds_toArray, List.set_cons_succ, List.set_cons_zero, List.drop_succ_cons, List.drop_zero]
      have hv26 : (.fresh wr.heap.size 60 (X.cells) : Kn).p (gv 26) w2 := hV 2 26 (by kernel_rfl)
      generalize gv 26 = v26 at hv26 ⊢
      clear hV
      obtain ⟨p, rfl, hp1, hp2⟩ := hv26
      refine l_val (o := ⟨some 2, _, _, _, _, _⟩) (.pointer (some ⟨p, 0, none⟩)) rfl (exec_assign (.tmp 26) (.pointer (some ⟨p, 0, none⟩)) rfl (by kernel_rfl)) ?_
      simp only [Act.put, List.setIfInBounds_toArray, List.set_cons_succ, List.set_cons_zero]
      refine l_val (o := ⟨some 3, _, _, _, _, _⟩) (.int .i64 (-1)) rfl (exec_assign (.const (.int .i64 (-1))) (.int .i64 (-1)) rfl (by kernel_rfl)) ?_
      simp only [Act.put, List.setIfInBounds_toArray, List.set_cons_succ, List.set_cons_zero]
      refine wpList_nil ?_
      have kw2 := (kw1.trans hkr).trans k2
      have zr := (kw1.trans hkr).size
      have HP := Lib.hid hp2
      clear hp2 k2 hkr HBr
      go_wp2
      go_ret2
      exact ⟨kw2, .inr ⟨HBN.out, p, rfl, by omega, HP.out⟩⟩
end Go.Proofs.YtfoamgljfdnloaaDoor
