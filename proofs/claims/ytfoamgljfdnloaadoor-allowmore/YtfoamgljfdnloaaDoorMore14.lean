/-
  The contract of jobberlaw14.AllowMore: with more roles what was allowed is; without any more than trading nobody else's is touched; it answers true. Condition: the table of rules as its text lays it.
-/
import Derived.Test.YtfoamgljfdnloaaDoorRuns14
namespace Go.Proofs.YtfoamgljfdnloaaDoor
open Go.RowKit
set_option linter.unusedVariables false
set_option maxRecDepth 100000

theorem or_bits : ∀ r m : Fin 16, (decide (0 ≤ orI (r.val : Int) (m.val : Int)) && (decide (orI (r.val : Int) (m.val : Int) ≤ 15) && ((decide (r.val = 0) || decide (orI (r.val : Int) (m.val : Int) ≠ 0)) && ([1, 2, 4, 8].all fun c => decide (anI (r.val : Int) c = 0) || decide (anI (orI (r.val : Int) (m.val : Int)) c ≠ 0))))) = true := by decide +kernel
theorem one_2 : anI 1 2 = 0 := by decide +kernel
theorem one_4 : anI 1 4 = 0 := by decide +kernel
theorem one_8 : anI 1 8 = 0 := by decide +kernel
/-- a trader of other roles -/
def Trds.role (X : Trds) (k : Nat) (r : Int) : Trds := X.put k { X.at_ k with roles := r }
theorem role_at (X : Trds) {k : Nat} (hk : k < 32) (r : Int) (j : Nat) : (X.role k r).at_ j = if k = j then { X.at_ k with roles := r } else X.at_ j := by unfold Trds.role; rw [Trds.at_put _ _ _ _ hk]
theorem role_there (X : Trds) {k : Nat} (hk : k < 32) {r : Int} (hr : r ≠ 0) (h0 : (X.at_ k).roles ≠ 0) (z : Int) : (X.role k r).there z = X.there z := by
  unfold Trds.there
  rw [role_at X hk]
  by_cases e : k = z.toNat
  · rw [if_pos e]
    subst e
    rw [decide_eq_true h0]
    simp only
    rw [decide_eq_true hr]
  · rw [if_neg e]
theorem role_get (X : Trds) {k : Nat} (hk : k < 32) {r : Int} (hr : r ≠ 0) (h0 : (X.at_ k).roles ≠ 0) (z : Int) : ((X.role k r).get z).firm = (X.get z).firm ∧ ((X.role k r).get z).desk = (X.get z).desk ∧ ((X.role k r).get z).insts = (X.get z).insts ∧ ((X.role k r).get z).off = (X.get z).off := by
  unfold Trds.get
  rw [role_there X hk hr h0]
  by_cases ht : X.there z = true
  · rw [if_pos ht, if_pos ht, role_at X hk]
    by_cases e : k = z.toNat
    · rw [if_pos e]
      subst e
      exact ⟨rfl, rfl, rfl, rfl⟩
    · rw [if_neg e]
      exact ⟨rfl, rfl, rfl, rfl⟩
  · rw [if_neg ht, if_neg ht]
    exact ⟨rfl, rfl, rfl, rfl⟩
theorem role_roles (X : Trds) {k : Nat} (hk : k < 32) {r : Int} (ht : (X.role k r).there (k : Int) = true) : ((X.role k r).get (k : Int)).roles = r := by
  rw [get_in ht, role_at X hk, if_pos rfl]
theorem role_ok {X : Trds} (h : X.Ok) {k : Nat} (hk : k < 32) {r : Int} (h0 : (X.at_ k).roles ≠ 0) (h1 : 0 ≤ r) (h2 : r ≤ 15) (hr : r ≠ 0) : (X.role k r).Ok := by
  intro i hi
  rw [role_at X hk]
  split
  · have hb := h k hk
    unfold Trd.bad at hb ⊢
    have hz : X.at_ k ≠ zeroT := fun e => h0 (by rw [e]; rfl)
    rw [decide_eq_true hz, Bool.true_and] at hb
    have hm : (X.at_ k).may = true := by simpa using hb
    have e : ({ X.at_ k with roles := r } : Trd).may = true := by
      unfold Trd.may Trd.right at hm ⊢
      simp only [Bool.and_eq_true] at hm ⊢
      exact ⟨⟨⟨hm.1.1.1, upB_true h1 h2⟩, hm.1.2⟩, decide_eq_true hr⟩
    rw [e]
    simp
  · exact h i hi
theorem okV_zero {b : Bool} : okV b = 0 ↔ b = true := by cases b <;> simp [okV]
theorem more_can {x y x' y' : Trd} {p : Phs} {n other : Int} (hx : x'.firm = x.firm) (hxd : x'.desk = x.desk) (hy : y'.firm = y.firm) (hyd : y'.desk = y.desk) (hr : ∀ c, c ∈ [1, 2, 4, 8] → anI x.roles c ≠ 0 → anI x'.roles c ≠ 0) (h : cancelB x y p n other = true) : cancelB x' y' p n other = true := by
  unfold cancelB at h ⊢
  rw [hx, hxd, hy, hyd]
  simp only [Bool.or_eq_true, Bool.and_eq_true, decide_eq_true_eq] at h ⊢
  rcases h with (((h | h) | h) | h) | h
  · exact .inl (.inl (.inl (.inl h)))
  · exact .inl (.inl (.inl (.inr (hr 8 (by simp) h))))
  · exact .inl (.inl (.inr ⟨hr 4 (by simp) h.1, h.2⟩))
  · exact .inl (.inr ⟨⟨hr 2 (by simp) h.1.1, h.1.2⟩, h.2⟩)
  · exact .inr ⟨hr 4 (by simp) h.1, h.2⟩
theorem more_susp {x y x' y' : Trd} {n other : Int} (hx : x'.firm = x.firm) (hy : y'.firm = y.firm) (hr : ∀ c, c ∈ [1, 2, 4, 8] → anI x.roles c ≠ 0 → anI x'.roles c ≠ 0) (h : suspB x y n other = true) : suspB x' y' n other = true := by
  unfold suspB at h ⊢
  rw [hx, hy]
  simp only [Bool.or_eq_true, Bool.and_eq_true, decide_eq_true_eq] at h ⊢
  rcases h with ⟨h0, h | h⟩
  · exact ⟨h0, .inl (hr 8 (by simp) h)⟩
  · exact ⟨h0, .inr ⟨hr 4 (by simp) h.1, h.2⟩⟩
theorem allow_more {X : Trds} {p : Phs} {k : Nat} {d inst other r : Int} (hk : k < 32) (h0 : (X.at_ k).roles ≠ 0) (hr0 : r ≠ 0) (hr : ∀ c, c ∈ [1, 2, 4, 8] → anI (X.at_ k).roles c ≠ 0 → anI r c ≠ 0) (h : allowM X p (k : Int) d inst other = 0) : allowM (X.role k r) p (k : Int) d inst other = 0 := by
  unfold allowM at h ⊢
  rw [role_there X hk hr0 h0, role_there X hk hr0 h0]
  by_cases ht : X.there (k : Int) = true
  · have ht' : (X.role k r).there (k : Int) = true := by rw [role_there X hk hr0 h0]; exact ht
    rw [if_pos ht] at h ⊢
    obtain ⟨e1, e2, e3, e4⟩ := role_get X hk hr0 h0 (k : Int)
    obtain ⟨f1, f2, _, _⟩ := role_get X hk hr0 h0 other
    have er := role_roles X hk ht'
    have ex : (X.get (k : Int)).roles = (X.at_ k).roles := by rw [get_in ht]
    rw [← ex] at hr
    generalize (X.role k r).get (k : Int) = x' at e1 e2 e3 e4 er ⊢
    generalize (X.role k r).get other = y' at f1 f2 ⊢
    generalize X.get (k : Int) = x at e1 e2 e3 e4 hr h
    generalize X.get other = y at f1 f2 h
    rw [← er] at hr
    have eo : outB x' p d = outB x p d := by unfold outB; rw [e1, e4]
    rw [eo]
    by_cases h2 : outB x p d = true
    · rw [if_pos h2] at h; omega
    · rw [if_neg h2] at h ⊢
      by_cases d1 : d = 1
      · rw [if_pos d1] at h ⊢
        unfold tradeM at h ⊢
        rw [e3]
        by_cases hi : inst < 0 ∨ 8 ≤ inst
        · rw [if_pos hi] at h; omega
        · rw [if_neg hi] at h ⊢
          by_cases hc : (decide (anI x.roles 1 = 0) || decide (anI (shI x.insts inst) 1 = 0)) = true
          · rw [if_pos hc] at h; omega
          · rw [if_neg hc] at h
            rw [Bool.or_eq_true, decide_eq_true_eq, decide_eq_true_eq] at hc
            have h1 := hr 1 (by simp) (fun e => hc (.inl e))
            rw [if_neg (by rw [Bool.or_eq_true, decide_eq_true_eq, decide_eq_true_eq]; intro e; rcases e with e | e; exact h1 e; exact hc (.inr e))]
            exact h
      · rw [if_neg d1] at h ⊢
        by_cases d2 : d = 2
        · rw [if_pos d2] at h ⊢
          by_cases ho : X.there other = true
          · rw [if_pos ho, okV_zero] at h ⊢
            exact more_can e1 e2 f1 f2 hr h
          · rw [if_neg ho] at h; omega
        · rw [if_neg d2] at h ⊢
          by_cases d3 : d = 3
          · rw [if_pos d3] at h ⊢
            by_cases ho : X.there other = true
            · rw [if_pos ho, okV_zero] at h ⊢
              exact more_susp e1 f1 hr h
            · rw [if_neg ho] at h; omega
          · rw [if_neg d3] at h ⊢
            by_cases d4 : d = 4
            · rw [if_pos d4, okV_zero] at h ⊢
              rw [decide_eq_true_eq] at h ⊢
              exact hr 8 (by simp) h
            · rw [if_neg d4] at h; omega
  · rw [if_neg ht] at h; omega
theorem allow_plain {X : Trds} {p : Phs} {n d inst other : Int} (h1 : X.there n = true → (X.get n).roles = 1) : ((decide (allowM X p n d inst other ≠ 0) || decide (d = 1)) || (decide (d = 2) && decide (other = n))) = true := by
  rw [Bool.or_eq_true, Bool.or_eq_true, Bool.and_eq_true, decide_eq_true_eq, decide_eq_true_eq, decide_eq_true_eq, decide_eq_true_eq]
  by_cases d1 : d = 1
  · exact .inl (.inr d1)
  by_cases d2 : d = 2 ∧ other = n
  · exact .inr d2
  refine .inl (.inl ?_)
  unfold allowM
  by_cases ht : X.there n = true
  · rw [if_pos ht]
    have hr := h1 ht
    by_cases h2 : outB (X.get n) p d = true
    · rw [if_pos h2]; omega
    · rw [if_neg h2, if_neg d1]
      by_cases e2 : d = 2
      · rw [if_pos e2]
        split
        · unfold cancelB
          rw [hr, one_2, one_4, one_8, decide_eq_false (show ¬ other = n from fun e => d2 ⟨e2, e⟩)]
          simp [okV]
        · omega
      · rw [if_neg e2]
        by_cases e3 : d = 3
        · rw [if_pos e3]
          split
          · unfold suspB
            rw [hr, one_4, one_8]
            simp [okV]
          · omega
        · rw [if_neg e3]
          by_cases e4 : d = 4
          · rw [if_pos e4, hr, one_8]
            simp [okV]
          · rw [if_neg e4]; omega
  · rw [if_neg ht]; omega
set_option maxRecDepth 100000 in
set_option maxHeartbeats 6400000 in
theorem allowMore_any (v : Value) (l : List Ab) (p : Phs) (n : Int) (d : Int) (inst : Int) (other : Int) (more : Int) (w : World) (hG : RulIn w) (hl : Abs w v l) : Calls Tryd.prog 5 #[v, p.v, .int .i64 n, .int .i64 d, .int .i64 inst, .int .i64 other, .int .i64 more] w fun e w' => e = .returned (.bool true) ∧ Kept w w' := by
  have HOk := Lib.hid (abs_good (l.take 40))
  have HBd := Lib.hid (bad_none HOk.out)
  have HX : Hid (∀ u, Kept w u → Gives 11 #[v] u (.eq (absL (l.take 40)).v)) := fun u hk => abs_any u v l (hl.kept hk)
  have HAR : Hid (∀ u, Kept w u → Gives 3 #[] u (.eq (.bool true))) := fun u hk => allowRuns_is u (hG.kept hk)
  have HG := Lib.hid hG
  generalize absL (l.take 40) = X at HOk HBd HX
  clear hl hG
  obtain ⟨b0, hb0⟩ : ∃ z, w.alloc (.cells p.cells.toArray 29) = z := ⟨_, rfl⟩
  have q0 : Kept w b0 := by rw [← hb0]; exact (Keep.refl _ _).alloc _
  have r0 : b0.rangeAt w.heap.size 0 p.cells := by rw [← hb0]; exact blk_range (Blk.new w 29 p.cells)
  have HB8 := Lib.hid (r0)
  have k0 := q0
  clear r0
  go_enter Tryd.func5, Tryd.ntmps5
  go_upto_region 0 with fail
  refine wp_region_lit ?_
  refine l_new (o := ⟨some 8, _, _, _, _, _⟩) (.pointer (some ⟨w.heap.size, 0, none⟩)) b0 rfl (by rw [← hb0]; exact exec_box 29 (.tmp 1) p.cells rfl (by kernel_rfl)) ?_
  simp only [Act.put, List.setIfInBounds_toArray, List.set_cons_succ, List.set_cons_zero]
  refine l_val (o := ⟨some 14, _, _, _, _, _⟩) (.bool false) rfl (exec_assign (.const (.bool false)) (.bool false) rfl (by kernel_rfl)) ?_
  simp only [Act.put, List.setIfInBounds_toArray, List.set_cons_succ, List.set_cons_zero]
  refine wpList_nil ?_
  obtain ⟨g8, hg8⟩ : ∃ g, w.heap.size = g := ⟨_, rfl⟩
  rw [hg8] at HB8 ⊢
  clear hg8 hb0 q0
  have G0 := Lib.hid (HG.out.kept k0)
  have zG := HG.out.lt
  have zs0 := k0.size
  have zl8 : g8 < b0.heap.size := World.block_lt_of_cell? b0 _ (HB8.out 0 _ (p.at_h (i := 0) (by omega)))
  clear HG
  obtain ⟨k, hk⟩ : ∃ k : Nat, wi n 0 31 = (k : Int) := ⟨(wi n 0 31).toNat, by have := wi_in n 0 31 (by omega); omega⟩
  have hklt : k < 32 := by have := wi_in n 0 31 (by omega); omega
  have HWk : Hid (∀ u, Gives 15 #[.int .i64 n, .int .i64 0, .int .i64 31] u (.eq (.int .i64 (k : Int)))) := fun u => by rw [← hk]; exact within_is n 0 31 u (by omega) (by omega) (by omega)
  clear hk
  obtain ⟨x, hx⟩ : ∃ x, X.at_ k = x := ⟨_, rfl⟩
  have HAT := Lib.hid hx
  clear hx
  obtain ⟨V1, hV1⟩ : ∃ V, allowM X p (k : Int) d inst other = V := ⟨_, rfl⟩
  have HV1 := Lib.hid hV1
  clear hV1
  go_upto_region 1 with fail
  refine wp_text 6 [.eq (v), .eq (X.v), .eq (v), .eq (X.v), .eq (v), .eq (X.v)] rfl (by kernel_rfl) ?_ ?_
  · refine sv 1 rfl rfl rfl (fun a u hE hD hk => exec_move (.tmp 0) _ rfl (hE 0 (v) (by kernel_rfl) (by kernel_rfl))) ?_
    refine fsteps_cons 2 rfl (fun a u hE hD hk => f_call (o := ⟨some 27, _, _, _, _, _⟩) 11 #[v] rfl (wanted_none rfl _) (exec_call 11 _ [.tmp 26] _ [v] Tryd.func11 (by kernel_rfl) (by kernel_rfl) rfl (show [a.eval (.tmp 26)] = [v] from (by rw [show a.eval (.tmp 26) = v from (hD 0 26 (by kernel_rfl))] <;> rfl)) u) (HX.out u (k0.trans hk))) ?_
    refine sv 3 rfl rfl rfl (fun a u hE hD hk => exec_move (.tmp 0) _ rfl (hE 0 (v) (by kernel_rfl) (by kernel_rfl))) ?_
    refine fsteps_cons 4 rfl (fun a u hE hD hk => f_call (o := ⟨some 29, _, _, _, _, _⟩) 11 #[v] rfl (wanted_none rfl _) (exec_call 11 _ [.tmp 28] _ [v] Tryd.func11 (by kernel_rfl) (by kernel_rfl) rfl (show [a.eval (.tmp 28)] = [v] from (by rw [show a.eval (.tmp 28) = v from (hD 2 28 (by kernel_rfl))] <;> rfl)) u) (HX.out u (k0.trans hk))) ?_
    refine sv 5 rfl rfl rfl (fun a u hE hD hk => exec_move (.tmp 0) _ rfl (hE 0 (v) (by kernel_rfl) (by kernel_rfl))) ?_
    refine fsteps_cons 6 rfl (fun a u hE hD hk => f_call (o := ⟨some 31, _, _, _, _, _⟩) 11 #[v] rfl (wanted_none rfl _) (exec_call 11 _ [.tmp 30] _ [v] Tryd.func11 (by kernel_rfl) (by kernel_rfl) rfl (show [a.eval (.tmp 30)] = [v] from (by rw [show a.eval (.tmp 30) = v from (hD 4 30 (by kernel_rfl))] <;> rfl)) u) (HX.out u (k0.trans hk))) ?_
    exact fsteps_nil
  intro gv wa hV ka
  rw [show dstsOf _ 6 = [26, 27, 28, 29, 30, 31] by kernel_rfl]
  simp only [List.foldl_cons, List.foldl_nil, List.setIfInBounds_toArray, List.set_cons_succ, List.set_cons_zero, List.drop_succ_cons, List.drop_zero]
  rw [show gv 27 = X.v from hV 1 27 (by kernel_rfl)]
  rw [show gv 29 = X.v from hV 3 29 (by kernel_rfl)]
  rw [show gv 31 = X.v from hV 5 31 (by kernel_rfl)]
  clear hV
  refine l_new (o := ⟨some 15, _, _, _, _, _⟩) (.pointer (some ⟨wa.heap.size, 0, none⟩)) (wa.alloc (.cells zeroX.cells.toArray 36)) rfl (exec_alc 36 zeroX.cells rfl zX) ?_
  have hN15 := Blk.new wa 36 zeroX.cells
  have ka0 : Kept wa (wa.alloc (.cells zeroX.cells.toArray 36)) := (Keep.refl _ wa).alloc _
  have sa0 : (wa.alloc (.cells zeroX.cells.toArray 36)).heap.size = wa.heap.size + 1 := by simp
  generalize wa.alloc (.cells zeroX.cells.toArray 36) = wa0 at hN15 ka0 sa0 ⊢
  simp only [Act.put, List.setIfInBounds_toArray, List.set_cons_succ, List.set_cons_zero]
  refine l_new (o := ⟨some 16, _, _, _, _, _⟩) (.pointer (some ⟨wa0.heap.size, 0, none⟩)) (wa0.alloc (.cells zeroX.cells.toArray 36)) rfl (exec_alc 36 zeroX.cells rfl zX) ?_
  have hN16 := Blk.new wa0 36 zeroX.cells
  have ka1 : Kept wa0 (wa0.alloc (.cells zeroX.cells.toArray 36)) := (Keep.refl _ wa0).alloc _
  have sa1 : (wa0.alloc (.cells zeroX.cells.toArray 36)).heap.size = wa0.heap.size + 1 := by simp
  generalize wa0.alloc (.cells zeroX.cells.toArray 36) = wa1 at hN16 ka1 sa1 ⊢
  simp only [Act.put, List.setIfInBounds_toArray, List.set_cons_succ, List.set_cons_zero]
  refine l_new (o := ⟨some 17, _, _, _, _, _⟩) (.pointer (some ⟨wa1.heap.size, 0, none⟩)) (wa1.alloc (.cells zeroX.cells.toArray 36)) rfl (exec_alc 36 zeroX.cells rfl zX) ?_
  have hN17 := Blk.new wa1 36 zeroX.cells
  have ka2 : Kept wa1 (wa1.alloc (.cells zeroX.cells.toArray 36)) := (Keep.refl _ wa1).alloc _
  have sa2 : (wa1.alloc (.cells zeroX.cells.toArray 36)).heap.size = wa1.heap.size + 1 := by simp
  generalize wa1.alloc (.cells zeroX.cells.toArray 36) = wa2 at hN17 ka2 sa2 ⊢
  simp only [Act.put, List.setIfInBounds_toArray, List.set_cons_succ, List.set_cons_zero]
  refine l_setS (o := ⟨none, _, _, _, _, _⟩) 36 wa.heap.size 36 zeroX.cells X.cells (.tmp 15) (.tmp 27) rfl rfl (by kernel_rfl) (by kernel_rfl) (((hN15).kept ka1).kept ka2) (by rw [Trds.len]; exact szX) (by rw [Trds.len, Trds.len]) (Trds.one _) ?_
  intro ws0 hC15 ks0 ss0
  simp only [Act.put]
  refine l_setS (o := ⟨none, _, _, _, _, _⟩) 36 wa0.heap.size 36 zeroX.cells X.cells (.tmp 16) (.tmp 29) rfl rfl (by kernel_rfl) (by kernel_rfl) (((hN16).kept ka2).keep ks0 (by omega)) (by rw [Trds.len]; exact szX) (by rw [Trds.len, Trds.len]) (Trds.one _) ?_
  intro ws1 hC16 ks1 ss1
  simp only [Act.put]
  refine l_setS (o := ⟨none, _, _, _, _, _⟩) 36 wa1.heap.size 36 zeroX.cells X.cells (.tmp 17) (.tmp 31) rfl rfl (by kernel_rfl) (by kernel_rfl) (((hN17).keep ks0 (by omega)).keep ks1 (by omega)) (by rw [Trds.len]; exact szX) (by rw [Trds.len, Trds.len]) (Trds.one _) ?_
  intro ws2 hC17 ks2 ss2
  simp only [Act.put]
  refine wpList_nil ?_
  obtain ⟨g15, hg15⟩ : ∃ a, wa.heap.size = a := ⟨_, rfl⟩
  obtain ⟨g16, hg16⟩ : ∃ a, wa0.heap.size = a := ⟨_, rfl⟩
  obtain ⟨g17, hg17⟩ : ∃ a, wa1.heap.size = a := ⟨_, rfl⟩
  have zka := ka.size
  rw [hg15] at hC15 ks0 ⊢
  rw [hg16] at hC16 ks1 ⊢
  rw [hg17] at hC17 ks2 ⊢
  simp only [hg15, hg16, hg17] at sa0 sa1 sa2 zka
  have A15 := Lib.hid (((hC15).keep ks1 (by omega)).keep ks2 (by omega))
  have A16 := Lib.hid ((hC16).keep ks2 (by omega))
  have A17 := Lib.hid (hC17)
  have kz : Kept b0 ws2 := (((((ka.trans ka0).trans ka1).trans ka2).trans' ks0 (by omega)).trans' ks1 (by omega)).trans' ks2 (by omega)
  have zg15 : g15 < ws2.heap.size := by have h_ := hC15.lt; omega
  have zg16 : g16 < ws2.heap.size := by have h_ := hC16.lt; omega
  have zg17 : g17 < ws2.heap.size := by have h_ := hC17.lt; omega
  have zb15 : b0.heap.size ≤ g15 := by omega
  have zb16 : b0.heap.size ≤ g16 := by omega
  have zb17 : b0.heap.size ≤ g17 := by omega
  have zn16 : g15 < g16 := by omega
  have zn17 : g16 < g17 := by omega
  clear hN15 hC15 hN16 hC16 hN17 hC17 ka0 ks0 ss0 sa0 ka1 ks1 ss1 sa1 ka2 ks2 ss2 sa2 ka zka hg15 hg16 hg17
  have G_1 := Lib.hid (G0.out.kept kz)
  have R8_1 := Lib.hid (range_kept HB8.out kz)
  have zs1 := kz.size
  have kk1 := k0.trans kz
  clear G0 HB8 kz k0
  go_upto_region 2 with fail
  refine wp_text 3 [.eq (.int .i64 n), .eq (.int .i64 (k : Int)), .eq (.int .i64 (k : Int))] rfl (by kernel_rfl) ?_ ?_
  · refine sv 1 rfl rfl rfl (fun a u hE hD hk => exec_move (.tmp 2) _ rfl (hE 2 (.int .i64 n) (by kernel_rfl) (by kernel_rfl))) ?_
    refine fsteps_cons 2 rfl (fun a u hE hD hk => f_call (o := ⟨some 33, _, _, _, _, _⟩) 15 #[.int .i64 n, .int .i64 0, .int .i64 31] rfl (wanted_none rfl _) (exec_call 15 _ [.tmp 32, .const (.int .i64 0), .const (.int .i64 31)] _ [.int .i64 n, .int .i64 0, .int .i64 31] Tryd.func15 (by kernel_rfl) (by kernel_rfl) rfl (show [a.eval (.tmp 32), a.eval (.const (.int .i64 0)), a.eval (.const (.int .i64 31))] = [.int .i64 n, .int .i64 0, .int .i64 31] from (by rw [show a.eval (.tmp 32) = .int .i64 n from (hD 0 32 (by kernel_rfl))] <;> rfl)) u) (HWk.out u)) ?_
    refine sv 3 rfl rfl rfl (fun a u hE hD hk => exec_assign (.tmp 33) _ rfl (hD 1 33 (by kernel_rfl))) ?_
    exact fsteps_nil
  intro gv v2 hV kv2
  rw [show dstsOf _ 3 = [32, 33, 18] by kernel_rfl]
  simp only [List.foldl_cons, List.foldl_nil, List.setIfInBounds_toArray, List.set_cons_succ, List.set_cons_zero, List.drop_succ_cons, List.drop_zero]
  rw [show gv 18 = .int .i64 (k : Int) from hV 2 18 (by kernel_rfl)]
  clear hV
  refine wpList_nil ?_
  have G_2 := Lib.hid (G_1.out.kept kv2)
  have R8_2 := Lib.hid (range_kept R8_1.out kv2)
  have A15_2 := Lib.hid (A15.out.kept kv2)
  have A16_2 := Lib.hid (A16.out.kept kv2)
  have A17_2 := Lib.hid (A17.out.kept kv2)
  have zs2 := kv2.size
  have kk2 := kk1.trans kv2
  clear G_1 R8_1 A15 A16 A17 kv2 kk1
  have HAX0 : Hid (v2.rangeAt g15 (k * 37) x.cells) := by show World.rangeAt _ _ _ _; rw [← HAT.out]; exact trds_range A15_2.out hklt
  by_cases hr : x.roles ≠ 0
  · skip
    go_upto_region 3 with fail
    refine wp_text 5 [.eq (.int .i64 (k : Int)), .eq (.pointer (some ⟨g15, k * 37, none⟩)), .eq (.pointer (some ⟨g15, k * 37 + 2, none⟩)), .eq (.int .i64 x.roles), .eq (.bool true)] rfl (by kernel_rfl) ?_ ?_
    · refine sv 1 rfl rfl rfl (fun a u hE hD hk => exec_move (.tmp 18) _ rfl (hE 18 (.int .i64 (k : Int)) (by kernel_rfl) (by kernel_rfl))) ?_
      refine sv 2 rfl rfl rfl (fun a u hE hD hk => exec_ixA (.tmp 15) (.tmp 34) (g15) k ((k : Int)) rfl (hE 15 (.pointer (some ⟨g15, 0, none⟩)) (by kernel_rfl) (by kernel_rfl)) (hD 0 34 (by kernel_rfl)) (by first | rfl | omega) (hklt)) ?_
      refine sv 3 rfl rfl rfl (fun a u hE hD hk => exec_fldo 35 2 2 (.tmp 35) (g15) (k * 37) (k * 37 + 2) rfl (hD 1 35 (by kernel_rfl)) (by kernel_rfl) rfl) ?_
      refine sv 4 rfl rfl rfl (fun a u hE hD hk => exec_loadi 3 Tryd.underlying3 (.tmp 36) ⟨g15, k * 37 + 2, none⟩ (.int .i64 x.roles) rfl (hD 2 36 (by kernel_rfl)) ((range_kept (HAX0.out) hk) 2 _ rfl)) ?_
      refine fsteps_cons 5 rfl (fun a u hE hD hk => f_as (show ((decide ((x.roles : Int) ≠ (0 : Int))) : Bool) = true from decide_eq_true hr) (f_val (o := ⟨some 38, _, _, _, _, _⟩) (.bool (decide ((x.roles : Int) ≠ (0 : Int)))) rfl (wanted_none rfl _) (exec_nen (p := x.roles) (q := 0) rfl (hD 3 37 (by kernel_rfl)) rfl) rfl)) ?_
      exact fsteps_nil
    intro gv v3 hV kv3
    rw [show dstsOf _ 5 = [34, 35, 36, 37, 38] by kernel_rfl]
    simp only [List.foldl_cons, List.foldl_nil, List.setIfInBounds_toArray, List.set_cons_succ, List.set_cons_zero, List.drop_succ_cons, List.drop_zero]
    rw [show gv 38 = .bool true from hV 4 38 (by kernel_rfl)]
    clear hV
    refine wpList_nil ?_
    have G_3 := Lib.hid (G_2.out.kept kv3)
    have R8_3 := Lib.hid (range_kept R8_2.out kv3)
    have A15_3 := Lib.hid (A15_2.out.kept kv3)
    have A16_3 := Lib.hid (A16_2.out.kept kv3)
    have A17_3 := Lib.hid (A17_2.out.kept kv3)
    have RX_3 := Lib.hid (range_kept HAX0.out kv3)
    have zs3 := kv3.size
    have kk3 := kk2.trans kv3
    clear G_2 R8_2 A15_2 A16_2 A17_2 HAX0 kv3 kk2
    have hXr : (X.at_ k).roles ≠ 0 := by rw [HAT.out]; exact hr
    have htk : X.there (k : Int) = true := by rw [there_in hklt]; exact decide_eq_true hXr
    have hrr := (HOk.out.facts htk).2
    rw [get_in htk, HAT.out] at hrr
    obtain ⟨mm, hmm⟩ : ∃ k : Nat, wi more 0 15 = (k : Int) := ⟨(wi more 0 15).toNat, by have := wi_in more 0 15 (by omega); omega⟩
    have hm16 : mm < 16 := by have := wi_in more 0 15 (by omega); omega
    have HWm : Hid (∀ u, Gives 15 #[.int .i64 more, .int .i64 0, .int .i64 15] u (.eq (.int .i64 (mm : Int)))) := fun u => by rw [← hmm]; exact within_is more 0 15 u (by omega) (by omega) (by omega)
    obtain ⟨r16, hr16⟩ : ∃ r : Fin 16, x.roles = (r.val : Int) := ⟨⟨x.roles.toNat, by omega⟩, by simp only; omega⟩
    have hob := or_bits r16 ⟨mm, hm16⟩
    simp only [Bool.and_eq_true, Bool.or_eq_true, decide_eq_true_eq, ← hr16, List.all_eq_true] at hob
    obtain ⟨ho1, ho2, ho3, ho4⟩ := hob
    obtain ⟨nr, hnr⟩ : ∃ n, orI x.roles (mm : Int) = n := ⟨_, rfl⟩
    rw [hnr] at ho1 ho2 ho3
    have hn0 : nr ≠ 0 := by rcases ho3 with e | e; exact absurd (show x.roles = 0 by rw [hr16, e]; rfl) hr; exact e
    have hbt : ∀ c, c ∈ [1, 2, 4, 8] → anI (X.at_ k).roles c ≠ 0 → anI nr c ≠ 0 := fun c hc h1 => by
      rw [HAT.out] at h1
      have := ho4 c hc
      rw [hnr] at this
      rcases this with e | e
      · exact absurd e h1
      · exact e
    obtain ⟨Y, hY⟩ : ∃ Y, X.role k nr = Y := ⟨_, rfl⟩
    obtain ⟨Z, hZ⟩ : ∃ Z, X.role k 1 = Z := ⟨_, rfl⟩
    have HYo : Hid Y.Ok := by rw [← hY]; exact role_ok HOk.out hklt hXr ho1 ho2 hn0
    have HZo : Hid Z.Ok := by rw [← hZ]; exact role_ok HOk.out hklt hXr (by omega) (by omega) (by omega)
    have HYb := Lib.hid (bad_none HYo.out)
    have HZb := Lib.hid (bad_none HZo.out)
    have HYc : Hid (X.cells.set (k * 37 + 2) (.int .i64 nr) = Y.cells) := by show _ = _; rw [← hY]; exact X.set_cell k 2 _ _ hklt (by omega) rfl
    have HZc : Hid (X.cells.set (k * 37 + 2) (.int .i64 1) = Z.cells) := by show _ = _; rw [← hZ]; exact X.set_cell k 2 _ _ hklt (by omega) rfl
    have HNR := Lib.hid hnr
    obtain ⟨V2, hV2⟩ : ∃ V, allowM Y p (k : Int) d inst other = V := ⟨_, rfl⟩
    obtain ⟨V3, hV3⟩ : ∃ V, allowM Z p (k : Int) d inst other = V := ⟨_, rfl⟩
    have HM1 : Hid ((decide ((V1 : Int) = (0 : Int)) && decide ((V2 : Int) ≠ (0 : Int))) = false) := by
      show _ = _
      by_cases e : V1 = 0
      · have e2 : V2 = 0 := by rw [← hV2]; rw [← hY]; exact allow_more hklt hXr hn0 hbt (HV1.out.trans e)
        rw [e2]
        simp
      · rw [decide_eq_false e, Bool.false_and]
    have HM2 : Hid (((decide ((V3 : Int) ≠ (0 : Int)) || decide ((d : Int) = (1 : Int))) || (decide ((d : Int) = (2 : Int)) && decide ((other : Int) = (k : Int)))) = true) := by show _ = _; rw [← hV3]; exact allow_plain (fun ht => by rw [← hZ] at ht ⊢; exact role_roles X hklt ht)
    have HV2 := Lib.hid hV2
    have HV3 := Lib.hid hV3
    clear hV2 hV3
    clear ho1 ho2 ho3 ho4 hbt hnr hY hZ hmm hm16 hr16 hrr htk hXr hr hn0 r16
    go_upto_region 4 with fail
    refine wp_free 10 [.eq (.int .i64 (k : Int)), .eq (.int .i64 (k : Int)), .eq (.pointer (some ⟨g15, k * 37, none⟩)), .eq (.pointer (some ⟨g15, k * 37 + 2, none⟩)), .eq (.int .i64 x.roles), .eq (.int .i64 more), .eq (.int .i64 (mm : Int)), .eq (.int .i64 nr), .eq (.pointer (some ⟨g16, k * 37, none⟩)), .eq (.pointer (some ⟨g16, k * 37 + 2, none⟩))] (by kernel_rfl) rfl (by kernel_rfl) ?_ ?_
    · refine sv 1 rfl rfl rfl (fun a u hE hD hk => exec_move (.tmp 18) _ rfl (hE 18 (.int .i64 (k : Int)) (by kernel_rfl) (by kernel_rfl))) ?_
      refine sv 2 rfl rfl rfl (fun a u hE hD hk => exec_move (.tmp 18) _ rfl (hE 18 (.int .i64 (k : Int)) (by kernel_rfl) (by kernel_rfl))) ?_
      refine sv 3 rfl rfl rfl (fun a u hE hD hk => exec_ixA (.tmp 15) (.tmp 40) (g15) k ((k : Int)) rfl (hE 15 (.pointer (some ⟨g15, 0, none⟩)) (by kernel_rfl) (by kernel_rfl)) (hD 1 40 (by kernel_rfl)) (by first | rfl | omega) (hklt)) ?_
      refine sv 4 rfl rfl rfl (fun a u hE hD hk => exec_fldo 35 2 2 (.tmp 41) (g15) (k * 37) (k * 37 + 2) rfl (hD 2 41 (by kernel_rfl)) (by kernel_rfl) rfl) ?_
      refine sv 5 rfl rfl rfl (fun a u hE hD hk => exec_loadi 3 Tryd.underlying3 (.tmp 42) ⟨g15, k * 37 + 2, none⟩ (.int .i64 x.roles) rfl (hD 3 42 (by kernel_rfl)) ((range_kept (RX_3.out) hk) 2 _ rfl)) ?_
      refine sv 6 rfl rfl rfl (fun a u hE hD hk => exec_move (.tmp 6) _ rfl (hE 6 (.int .i64 more) (by kernel_rfl) (by kernel_rfl))) ?_
      refine fsteps_cons 7 rfl (fun a u hE hD hk => f_call (o := ⟨some 45, _, _, _, _, _⟩) 15 #[.int .i64 more, .int .i64 0, .int .i64 15] rfl (wanted_none rfl _) (exec_call 15 _ [.tmp 44, .const (.int .i64 0), .const (.int .i64 15)] _ [.int .i64 more, .int .i64 0, .int .i64 15] Tryd.func15 (by kernel_rfl) (by kernel_rfl) rfl (show [a.eval (.tmp 44), a.eval (.const (.int .i64 0)), a.eval (.const (.int .i64 15))] = [.int .i64 more, .int .i64 0, .int .i64 15] from (by rw [show a.eval (.tmp 44) = .int .i64 more from (hD 5 44 (by kernel_rfl))] <;> rfl)) u) (HWm.out u)) ?_
      refine sv 8 rfl rfl rfl (fun a u hE hD hk => by rw [← HNR.out]; exact exec_orI (.tmp 43) (.tmp 45) _ _ x.roles (mm : Int) rfl (hD 4 43 (by kernel_rfl)) (hD 6 45 (by kernel_rfl))) ?_
      refine sv 9 rfl rfl rfl (fun a u hE hD hk => exec_ixA (.tmp 16) (.tmp 39) (g16) k ((k : Int)) rfl (hE 16 (.pointer (some ⟨g16, 0, none⟩)) (by kernel_rfl) (by kernel_rfl)) (hD 0 39 (by kernel_rfl)) (by first | rfl | omega) (hklt)) ?_
      refine sv 10 rfl rfl rfl (fun a u hE hD hk => exec_fldo 35 2 2 (.tmp 47) (g16) (k * 37) (k * 37 + 2) rfl (hD 8 47 (by kernel_rfl)) (by kernel_rfl) rfl) ?_
      exact fsteps_nil
    intro gv wa hV ka
    rw [show dstsOf _ 10 = [39, 40, 41, 42, 43, 44, 45, 46, 47, 48] by kernel_rfl]
    simp only [List.foldl_cons, List.foldl_nil, List.setIfInBounds_toArray, List.set_cons_succ, List.set_cons_zero, List.drop_succ_cons, List.drop_zero]
    rw [show gv 48 = .pointer (some ⟨g16, k * 37 + 2, none⟩) from hV 9 48 (by kernel_rfl)]
    rw [show gv 46 = .int .i64 nr from hV 7 46 (by kernel_rfl)]
    clear hV
    refine l_putN (o := ⟨none, _, _, _, _, _⟩) g16 (k * 37 + 2) 36 X.cells Y.cells nr (.tmp 48) (.tmp 46) rfl rfl (by kernel_rfl) (by kernel_rfl) (A16_3.out.kept ka) (by rw [Trds.len]; omega) HYc.out ?_
    intro wS hS kS sS
    simp only [Act.put]
    refine wpList_nil ?_
    have zka := ka.size
    have zkS := kS.size
    have G_4 := Lib.hid ((G_3.out.kept ka).keep kS (by omega))
    have R8_4 := Lib.hid (range_keep (range_kept R8_3.out ka) kS (by omega))
    have A15_4 := Lib.hid ((A15_3.out.kept ka).keep kS (by omega))
    have A17_4 := Lib.hid ((A17_3.out.kept ka).keep kS (by omega))
    have A16_4 := Lib.hid hS
    have zs4 : v3.heap.size ≤ wS.heap.size := by omega
    have kk4 : Kept w wS := (kk3.trans ka).trans' kS (by omega)
    clear G_3 R8_3 A15_3 A16_3 A17_3 RX_3 kk3 hS kS sS ka zka zkS
    obtain ⟨v4w, hv4w⟩ : ∃ z, wS = z := ⟨_, rfl⟩
    rw [hv4w] at G_4 R8_4 A15_4 A17_4 A16_4 zs4 kk4 ⊢
    clear hv4w
    go_upto_region 5 with fail
    refine wp_text 3 [.eq (.int .i64 (k : Int)), .eq (.pointer (some ⟨g17, k * 37, none⟩)), .eq (.pointer (some ⟨g17, k * 37 + 2, none⟩))] rfl (by kernel_rfl) ?_ ?_
    · refine sv 1 rfl rfl rfl (fun a u hE hD hk => exec_move (.tmp 18) _ rfl (hE 18 (.int .i64 (k : Int)) (by kernel_rfl) (by kernel_rfl))) ?_
      refine sv 2 rfl rfl rfl (fun a u hE hD hk => exec_ixA (.tmp 17) (.tmp 49) (g17) k ((k : Int)) rfl (hE 17 (.pointer (some ⟨g17, 0, none⟩)) (by kernel_rfl) (by kernel_rfl)) (hD 0 49 (by kernel_rfl)) (by first | rfl | omega) (hklt)) ?_
      refine sv 3 rfl rfl rfl (fun a u hE hD hk => exec_fldo 35 2 2 (.tmp 50) (g17) (k * 37) (k * 37 + 2) rfl (hD 1 50 (by kernel_rfl)) (by kernel_rfl) rfl) ?_
      exact fsteps_nil
    intro gv wa hV ka
    rw [show dstsOf _ 3 = [49, 50, 51] by kernel_rfl]
    simp only [List.foldl_cons, List.foldl_nil, List.setIfInBounds_toArray, List.set_cons_succ, List.set_cons_zero, List.drop_succ_cons, List.drop_zero]
    rw [show gv 51 = .pointer (some ⟨g17, k * 37 + 2, none⟩) from hV 2 51 (by kernel_rfl)]
    clear hV
    refine l_putN (o := ⟨none, _, _, _, _, _⟩) g17 (k * 37 + 2) 36 X.cells Z.cells 1 (.tmp 51) (.const (.int .i64 1)) rfl rfl (by kernel_rfl) rfl (A17_4.out.kept ka) (by rw [Trds.len]; omega) HZc.out ?_
    intro wS hS kS sS
    simp only [Act.put]
    refine wpList_nil ?_
    have zka := ka.size
    have zkS := kS.size
    have G_5 := Lib.hid ((G_4.out.kept ka).keep kS (by omega))
    have R8_5 := Lib.hid (range_keep (range_kept R8_4.out ka) kS (by omega))
    have A15_5 := Lib.hid ((A15_4.out.kept ka).keep kS (by omega))
    have A16_5 := Lib.hid ((A16_4.out.kept ka).keep kS (by omega))
    have A17_5 := Lib.hid hS
    have zs5 : v4w.heap.size ≤ wS.heap.size := by omega
    have kk5 : Kept w wS := (kk4.trans ka).trans' kS (by omega)
    clear G_4 R8_4 A15_4 A17_4 A16_4 kk4 hS kS sS ka zka zkS
    obtain ⟨v5w, hv5w⟩ : ∃ z, wS = z := ⟨_, rfl⟩
    rw [hv5w] at G_5 R8_5 A15_5 A16_5 A17_5 zs5 kk5 ⊢
    clear hv5w
    go_upto_region 6 with fail
    refine wp_text 1 [.eq (X.v)] rfl (by kernel_rfl) ?_ ?_
    · refine sv 1 rfl rfl rfl (fun a u hE hD hk => exec_ldX X (.tmp 15) (g15) _ rfl (hE 15 (.pointer (some ⟨g15, 0, none⟩)) (by kernel_rfl) (by kernel_rfl)) (A15_5.out.kept hk)) ?_
      exact fsteps_nil
    intro gv wa hV ka
    rw [show dstsOf _ 1 = [53] by kernel_rfl]
    simp only [List.foldl_cons, List.foldl_nil, List.setIfInBounds_toArray, List.set_cons_succ, List.set_cons_zero, List.drop_succ_cons, List.drop_zero]
    rw [show gv 53 = X.v from hV 0 53 (by kernel_rfl)]
    clear hV
    refine l_call (o := ⟨some 54, _, _, _, _, _⟩) 12 #[X.v] rfl (exec_call 12 _ [.tmp 53] _ _ Tryd.func12 (by kernel_rfl) (by kernel_rfl) rfl (by kernel_rfl) _) ?_
    refine (new_ok HBd.out).mono ?_
    rintro e wn5 ⟨pt, rfl, hp_, hP_, kn_⟩
    refine ⟨_, rfl, ?_⟩
    simp only [Act.put, List.setIfInBounds_toArray, List.set_cons_succ, List.set_cons_zero]
    refine l_val (o := ⟨some 52, _, _, _, _, _⟩) (.tuple #[.pointer (some ⟨pt, 0, none⟩), .int .i64 (-1)]) rfl (exec_move (.tmp 54) (.tuple #[.pointer (some ⟨pt, 0, none⟩), .int .i64 (-1)]) rfl (by kernel_rfl)) ?_
    simp only [Act.put, List.setIfInBounds_toArray, List.set_cons_succ, List.set_cons_zero]
    refine l_val (o := ⟨some 55, _, _, _, _, _⟩) (.pointer (some ⟨pt, 0, none⟩)) rfl (exec_extract (.tmp 52) [.pointer (some ⟨pt, 0, none⟩), .int .i64 (-1)] 0 (.pointer (some ⟨pt, 0, none⟩)) rfl (by kernel_rfl) rfl) ?_
    simp only [Act.put, List.setIfInBounds_toArray, List.set_cons_succ, List.set_cons_zero]
    refine l_val (o := ⟨some 56, _, _, _, _, _⟩) (.int .i64 (-1)) rfl (exec_extract (.tmp 52) [.pointer (some ⟨pt, 0, none⟩), .int .i64 (-1)] 1 (.int .i64 (-1)) rfl (by kernel_rfl) rfl) ?_
    simp only [Act.put, List.setIfInBounds_toArray, List.set_cons_succ, List.set_cons_zero]
    refine l_val (o := ⟨some 19, _, _, _, _, _⟩) (.pointer (some ⟨pt, 0, none⟩)) rfl (exec_assign (.tmp 55) (.pointer (some ⟨pt, 0, none⟩)) rfl (by kernel_rfl)) ?_
    simp only [Act.put, List.setIfInBounds_toArray, List.set_cons_succ, List.set_cons_zero]
    refine l_val (o := ⟨some 20, _, _, _, _, _⟩) (.int .i64 (-1)) rfl (exec_assign (.tmp 56) (.int .i64 (-1)) rfl (by kernel_rfl)) ?_
    simp only [Act.put, List.setIfInBounds_toArray, List.set_cons_succ, List.set_cons_zero]
    refine wpList_nil ?_
    have zkpt : v5w.heap.size ≤ pt := by have h_ := ka.size; omega
    have zlpt : pt < wn5.heap.size := hP_.lt
    have T0 := Lib.hid hP_
    have kz := ka.trans kn_
    clear hP_ ka kn_ hp_
    have G_6 := Lib.hid (G_5.out.kept kz)
    have R8_6 := Lib.hid (range_kept R8_5.out kz)
    have A15_6 := Lib.hid (A15_5.out.kept kz)
    have A16_6 := Lib.hid (A16_5.out.kept kz)
    have A17_6 := Lib.hid (A17_5.out.kept kz)
    have zs6 := kz.size
    have kk6 := kk5.trans kz
    clear G_5 R8_5 A15_5 A16_5 A17_5 kz kk5
    go_upto_region 7 with fail
    refine wp_text 1 [.eq (Y.v)] rfl (by kernel_rfl) ?_ ?_
    · refine sv 1 rfl rfl rfl (fun a u hE hD hk => exec_ldX Y (.tmp 16) (g16) _ rfl (hE 16 (.pointer (some ⟨g16, 0, none⟩)) (by kernel_rfl) (by kernel_rfl)) (A16_6.out.kept hk)) ?_
      exact fsteps_nil
    intro gv wa hV ka
    rw [show dstsOf _ 1 = [58] by kernel_rfl]
    simp only [List.foldl_cons, List.foldl_nil, List.setIfInBounds_toArray, List.set_cons_succ, List.set_cons_zero, List.drop_succ_cons, List.drop_zero]
    rw [show gv 58 = Y.v from hV 0 58 (by kernel_rfl)]
    clear hV
    refine l_call (o := ⟨some 59, _, _, _, _, _⟩) 12 #[Y.v] rfl (exec_call 12 _ [.tmp 58] _ _ Tryd.func12 (by kernel_rfl) (by kernel_rfl) rfl (by kernel_rfl) _) ?_
    refine (new_ok HYb.out).mono ?_
    rintro e wn6 ⟨pu, rfl, hp_, hP_, kn_⟩
    refine ⟨_, rfl, ?_⟩
    simp only [Act.put, List.setIfInBounds_toArray, List.set_cons_succ, List.set_cons_zero]
    refine l_val (o := ⟨some 57, _, _, _, _, _⟩) (.tuple #[.pointer (some ⟨pu, 0, none⟩), .int .i64 (-1)]) rfl (exec_move (.tmp 59) (.tuple #[.pointer (some ⟨pu, 0, none⟩), .int .i64 (-1)]) rfl (by kernel_rfl)) ?_
    simp only [Act.put, List.setIfInBounds_toArray, List.set_cons_succ, List.set_cons_zero]
    refine l_val (o := ⟨some 60, _, _, _, _, _⟩) (.pointer (some ⟨pu, 0, none⟩)) rfl (exec_extract (.tmp 57) [.pointer (some ⟨pu, 0, none⟩), .int .i64 (-1)] 0 (.pointer (some ⟨pu, 0, none⟩)) rfl (by kernel_rfl) rfl) ?_
    simp only [Act.put, List.setIfInBounds_toArray, List.set_cons_succ, List.set_cons_zero]
    refine l_val (o := ⟨some 61, _, _, _, _, _⟩) (.int .i64 (-1)) rfl (exec_extract (.tmp 57) [.pointer (some ⟨pu, 0, none⟩), .int .i64 (-1)] 1 (.int .i64 (-1)) rfl (by kernel_rfl) rfl) ?_
    simp only [Act.put, List.setIfInBounds_toArray, List.set_cons_succ, List.set_cons_zero]
    refine l_val (o := ⟨some 21, _, _, _, _, _⟩) (.pointer (some ⟨pu, 0, none⟩)) rfl (exec_assign (.tmp 60) (.pointer (some ⟨pu, 0, none⟩)) rfl (by kernel_rfl)) ?_
    simp only [Act.put, List.setIfInBounds_toArray, List.set_cons_succ, List.set_cons_zero]
    refine l_val (o := ⟨some 22, _, _, _, _, _⟩) (.int .i64 (-1)) rfl (exec_assign (.tmp 61) (.int .i64 (-1)) rfl (by kernel_rfl)) ?_
    simp only [Act.put, List.setIfInBounds_toArray, List.set_cons_succ, List.set_cons_zero]
    refine wpList_nil ?_
    have zkpu : wn5.heap.size ≤ pu := by have h_ := ka.size; omega
    have zlpu : pu < wn6.heap.size := hP_.lt
    have U0 := Lib.hid hP_
    have kz := ka.trans kn_
    clear hP_ ka kn_ hp_
    have G_7 := Lib.hid (G_6.out.kept kz)
    have R8_7 := Lib.hid (range_kept R8_6.out kz)
    have A15_7 := Lib.hid (A15_6.out.kept kz)
    have A16_7 := Lib.hid (A16_6.out.kept kz)
    have A17_7 := Lib.hid (A17_6.out.kept kz)
    have T_7 := Lib.hid (T0.out.kept kz)
    have zs7 := kz.size
    have kk7 := kk6.trans kz
    clear G_6 R8_6 A15_6 A16_6 A17_6 T0 kz kk6
    go_upto_region 8 with fail
    refine wp_text 1 [.eq (Z.v)] rfl (by kernel_rfl) ?_ ?_
    · refine sv 1 rfl rfl rfl (fun a u hE hD hk => exec_ldX Z (.tmp 17) (g17) _ rfl (hE 17 (.pointer (some ⟨g17, 0, none⟩)) (by kernel_rfl) (by kernel_rfl)) (A17_7.out.kept hk)) ?_
      exact fsteps_nil
    intro gv wa hV ka
    rw [show dstsOf _ 1 = [63] by kernel_rfl]
    simp only [List.foldl_cons, List.foldl_nil, List.setIfInBounds_toArray, List.set_cons_succ, List.set_cons_zero, List.drop_succ_cons, List.drop_zero]
    rw [show gv 63 = Z.v from hV 0 63 (by kernel_rfl)]
    clear hV
    refine l_call (o := ⟨some 64, _, _, _, _, _⟩) 12 #[Z.v] rfl (exec_call 12 _ [.tmp 63] _ _ Tryd.func12 (by kernel_rfl) (by kernel_rfl) rfl (by kernel_rfl) _) ?_
    refine (new_ok HZb.out).mono ?_
    rintro e wn7 ⟨pw, rfl, hp_, hP_, kn_⟩
    refine ⟨_, rfl, ?_⟩
    simp only [Act.put, List.setIfInBounds_toArray, List.set_cons_succ, List.set_cons_zero]
    refine l_val (o := ⟨some 62, _, _, _, _, _⟩) (.tuple #[.pointer (some ⟨pw, 0, none⟩), .int .i64 (-1)]) rfl (exec_move (.tmp 64) (.tuple #[.pointer (some ⟨pw, 0, none⟩), .int .i64 (-1)]) rfl (by kernel_rfl)) ?_
    simp only [Act.put, List.setIfInBounds_toArray, List.set_cons_succ, List.set_cons_zero]
    refine l_val (o := ⟨some 65, _, _, _, _, _⟩) (.pointer (some ⟨pw, 0, none⟩)) rfl (exec_extract (.tmp 62) [.pointer (some ⟨pw, 0, none⟩), .int .i64 (-1)] 0 (.pointer (some ⟨pw, 0, none⟩)) rfl (by kernel_rfl) rfl) ?_
    simp only [Act.put, List.setIfInBounds_toArray, List.set_cons_succ, List.set_cons_zero]
    refine l_val (o := ⟨some 66, _, _, _, _, _⟩) (.int .i64 (-1)) rfl (exec_extract (.tmp 62) [.pointer (some ⟨pw, 0, none⟩), .int .i64 (-1)] 1 (.int .i64 (-1)) rfl (by kernel_rfl) rfl) ?_
    simp only [Act.put, List.setIfInBounds_toArray, List.set_cons_succ, List.set_cons_zero]
    refine l_val (o := ⟨some 23, _, _, _, _, _⟩) (.pointer (some ⟨pw, 0, none⟩)) rfl (exec_assign (.tmp 65) (.pointer (some ⟨pw, 0, none⟩)) rfl (by kernel_rfl)) ?_
    simp only [Act.put, List.setIfInBounds_toArray, List.set_cons_succ, List.set_cons_zero]
    refine l_val (o := ⟨some 24, _, _, _, _, _⟩) (.int .i64 (-1)) rfl (exec_assign (.tmp 66) (.int .i64 (-1)) rfl (by kernel_rfl)) ?_
    simp only [Act.put, List.setIfInBounds_toArray, List.set_cons_succ, List.set_cons_zero]
    refine wpList_nil ?_
    have zkpw : wn6.heap.size ≤ pw := by have h_ := ka.size; omega
    have zlpw : pw < wn7.heap.size := hP_.lt
    have W0 := Lib.hid hP_
    have kz := ka.trans kn_
    clear hP_ ka kn_ hp_
    have G_8 := Lib.hid (G_7.out.kept kz)
    have R8_8 := Lib.hid (range_kept R8_7.out kz)
    have A15_8 := Lib.hid (A15_7.out.kept kz)
    have A16_8 := Lib.hid (A16_7.out.kept kz)
    have A17_8 := Lib.hid (A17_7.out.kept kz)
    have T_8 := Lib.hid (T_7.out.kept kz)
    have U_8 := Lib.hid (U0.out.kept kz)
    have zs8 := kz.size
    have kk8 := kk7.trans kz
    clear G_7 R8_7 A15_7 A16_7 A17_7 T_7 U0 kz kk7
    go_upto_region 9 with fail
    refine wp_text 10 [.eq (.pointer (some ⟨pt, 0, none⟩)), .eq (.bool false), .eq (.bool false), .eq (.pointer (some ⟨pu, 0, none⟩)), .eq (.bool false), .eq (.bool false), .eq (.bool false), .eq (.pointer (some ⟨pw, 0, none⟩)), .eq (.bool false), .eq (.bool false)] rfl (by kernel_rfl) ?_ ?_
    · refine sv 1 rfl rfl rfl (fun a u hE hD hk => exec_move (.tmp 19) _ rfl (hE 19 (.pointer (some ⟨pt, 0, none⟩)) (by kernel_rfl) (by kernel_rfl))) ?_
      refine sv 2 rfl rfl rfl (fun a u hE hD hk => exec_eqP (.tmp 67) _ _ ⟨pt, 0, none⟩ (by kernel_rfl) rfl (hD 0 67 (by kernel_rfl))) ?_
      refine sv 3 rfl rfl rfl (fun a u hE hD hk => exec_move (.tmp 68) _ rfl (hD 1 68 (by kernel_rfl))) ?_
      refine fsteps_cons 4 rfl (fun a u hE hD hk => f_val (o := ⟨some 70, _, _, _, _, _⟩) (.pointer (some ⟨pu, 0, none⟩)) rfl (wanted_at (b := false) false rfl rfl (hD 2 69 (by kernel_rfl))) (exec_move (.tmp 21) _ rfl (hE 21 (.pointer (some ⟨pu, 0, none⟩)) (by kernel_rfl) (by kernel_rfl))) rfl) ?_
      refine fsteps_cons 5 rfl (fun a u hE hD hk => f_val (o := ⟨some 71, _, _, _, _, _⟩) (.bool false) rfl (wanted_at (b := false) false rfl rfl (hD 2 69 (by kernel_rfl))) (exec_eqP (.tmp 70) _ _ ⟨pu, 0, none⟩ (by kernel_rfl) rfl (hD 3 70 (by kernel_rfl))) rfl) ?_
      refine sv 6 rfl rfl rfl (fun a u hE hD hk => exec_pickF (.tmp 69) (.const (.bool true)) (.tmp 71) (.bool false) rfl (hD 2 69 (by kernel_rfl)) (hD 4 71 (by kernel_rfl))) ?_
      refine sv 7 rfl rfl rfl (fun a u hE hD hk => exec_move (.tmp 72) _ rfl (hD 5 72 (by kernel_rfl))) ?_
      refine fsteps_cons 8 rfl (fun a u hE hD hk => f_val (o := ⟨some 74, _, _, _, _, _⟩) (.pointer (some ⟨pw, 0, none⟩)) rfl (wanted_at (b := false) false rfl rfl (hD 6 73 (by kernel_rfl))) (exec_move (.tmp 23) _ rfl (hE 23 (.pointer (some ⟨pw, 0, none⟩)) (by kernel_rfl) (by kernel_rfl))) rfl) ?_
      refine fsteps_cons 9 rfl (fun a u hE hD hk => f_val (o := ⟨some 75, _, _, _, _, _⟩) (.bool false) rfl (wanted_at (b := false) false rfl rfl (hD 6 73 (by kernel_rfl))) (exec_eqP (.tmp 74) _ _ ⟨pw, 0, none⟩ (by kernel_rfl) rfl (hD 7 74 (by kernel_rfl))) rfl) ?_
      refine sv 10 rfl rfl rfl (fun a u hE hD hk => exec_pickF (.tmp 73) (.const (.bool true)) (.tmp 75) (.bool false) rfl (hD 6 73 (by kernel_rfl)) (hD 8 75 (by kernel_rfl))) ?_
      exact fsteps_nil
    intro gv v9 hV kv9
    rw [show dstsOf _ 10 = [67, 68, 69, 70, 71, 72, 73, 74, 75, 76] by kernel_rfl]
    simp only [List.foldl_cons, List.foldl_nil, List.setIfInBounds_toArray, List.set_cons_succ, List.set_cons_zero, List.drop_succ_cons, List.drop_zero]
    rw [show gv 76 = .bool false from hV 9 76 (by kernel_rfl)]
    clear hV
    refine wpList_nil ?_
    have G_9 := Lib.hid (G_8.out.kept kv9)
    have R8_9 := Lib.hid (range_kept R8_8.out kv9)
    have T_9 := Lib.hid (T_8.out.kept kv9)
    have U_9 := Lib.hid (U_8.out.kept kv9)
    have W_9 := Lib.hid (W0.out.kept kv9)
    have zs9 := kv9.size
    have kk9 := kk8.trans kv9
    clear G_8 R8_8 A15_8 A16_8 A17_8 T_8 U_8 W0 kv9 kk8
    go_upto_region 11 with fail
    refine wp_text 18 [.eq (.pointer (some ⟨pt, 0, none⟩)), .eq (p.v), .eq (.int .i64 (k : Int)), .eq (.int .i64 d), .eq (.int .i64 inst), .eq (.int .i64 other), .eq (.int .i64 V1), .eq (.bool (decide ((V1 : Int) = (0 : Int)))), .eq (.bool (decide ((V1 : Int) = (0 : Int)))), .cond (decide ((V1 : Int) = (0 : Int))) (.eq (.pointer (some ⟨pu, 0, none⟩))), .cond (decide ((V1 : Int) = (0 : Int))) (.eq (p.v)), .cond (decide ((V1 : Int) = (0 : Int))) (.eq (.int .i64 (k : Int))), .cond (decide ((V1 : Int) = (0 : Int))) (.eq (.int .i64 d)), .cond (decide ((V1 : Int) = (0 : Int))) (.eq (.int .i64 inst)), .cond (decide ((V1 : Int) = (0 : Int))) (.eq (.int .i64 other)), .cond (decide ((V1 : Int) = (0 : Int))) (.eq (.int .i64 V2)), .cond (decide ((V1 : Int) = (0 : Int))) (.eq (.bool (decide ((V2 : Int) ≠ (0 : Int))))), .eq (.bool false)] rfl (by kernel_rfl) ?_ ?_
    · refine sv 1 rfl rfl rfl (fun a u hE hD hk => exec_move (.tmp 19) _ rfl (hE 19 (.pointer (some ⟨pt, 0, none⟩)) (by kernel_rfl) (by kernel_rfl))) ?_
      refine sv 2 rfl rfl rfl (fun a u hE hD hk => exec_ldS 29 _ (.tmp 8) (g8) (0) (p.cells) rfl (hE 8 (.pointer (some ⟨g8, 0, none⟩)) (by kernel_rfl) (by kernel_rfl)) (range_kept R8_9.out hk) Tryd.underlying29 (by rw [p.len24]; exact szP)) ?_
      refine sv 3 rfl rfl rfl (fun a u hE hD hk => exec_move (.tmp 18) _ rfl (hE 18 (.int .i64 (k : Int)) (by kernel_rfl) (by kernel_rfl))) ?_
      refine sv 4 rfl rfl rfl (fun a u hE hD hk => exec_move (.tmp 3) _ rfl (hE 3 (.int .i64 d) (by kernel_rfl) (by kernel_rfl))) ?_
      refine sv 5 rfl rfl rfl (fun a u hE hD hk => exec_move (.tmp 4) _ rfl (hE 4 (.int .i64 inst) (by kernel_rfl) (by kernel_rfl))) ?_
      refine sv 6 rfl rfl rfl (fun a u hE hD hk => exec_move (.tmp 5) _ rfl (hE 5 (.int .i64 other) (by kernel_rfl) (by kernel_rfl))) ?_
      refine fsteps_cons 7 rfl (fun a u hE hD hk => f_call (o := ⟨some 83, _, _, _, _, _⟩) 10 #[.pointer (some ⟨pt, 0, none⟩), p.v, .int .i64 (k : Int), .int .i64 d, .int .i64 inst, .int .i64 other] rfl (wanted_none rfl _) (exec_call 10 _ [.tmp 77, .tmp 78, .tmp 79, .tmp 80, .tmp 81, .tmp 82] _ [.pointer (some ⟨pt, 0, none⟩), p.v, .int .i64 (k : Int), .int .i64 d, .int .i64 inst, .int .i64 other] Tryd.func10 (by kernel_rfl) (by kernel_rfl) rfl (show [a.eval (.tmp 77), a.eval (.tmp 78), a.eval (.tmp 79), a.eval (.tmp 80), a.eval (.tmp 81), a.eval (.tmp 82)] = [.pointer (some ⟨pt, 0, none⟩), p.v, .int .i64 (k : Int), .int .i64 d, .int .i64 inst, .int .i64 other] from (by rw [show a.eval (.tmp 77) = .pointer (some ⟨pt, 0, none⟩) from (hD 0 77 (by kernel_rfl)), show a.eval (.tmp 78) = p.v from (hD 1 78 (by kernel_rfl)), show a.eval (.tmp 79) = .int .i64 (k : Int) from (hD 2 79 (by kernel_rfl)), show a.eval (.tmp 80) = .int .i64 d from (hD 3 80 (by kernel_rfl)), show a.eval (.tmp 81) = .int .i64 inst from (hD 4 81 (by kernel_rfl)), show a.eval (.tmp 82) = .int .i64 other from (hD 5 82 (by kernel_rfl))] <;> rfl)) u) (may_at (G_9.out.kept hk) (T_9.out.kept hk) HOk.out HV1.out)) ?_
      refine sv 8 rfl rfl rfl (fun a u hE hD hk => exec_eqn (p := V1) (q := 0) rfl (hD 6 83 (by kernel_rfl)) rfl) ?_
      refine sv 9 rfl rfl rfl (fun a u hE hD hk => exec_move (.tmp 84) _ rfl (hD 7 84 (by kernel_rfl))) ?_
      refine fsteps_cons 10 rfl (fun a u hE hD hk => f_if ((decide ((V1 : Int) = (0 : Int)))) rfl rfl rfl (hD 8 85 (by kernel_rfl)) (fun hb => f_val (o := ⟨some 86, _, _, _, _, _⟩) (.pointer (some ⟨pu, 0, none⟩)) rfl (wanted_b rfl rfl (hD 8 85 (by kernel_rfl)) (eq_true_of hb)) (exec_move (.tmp 21) _ rfl (hE 21 (.pointer (some ⟨pu, 0, none⟩)) (by kernel_rfl) (by kernel_rfl))) rfl)) ?_
      refine fsteps_cons 11 rfl (fun a u hE hD hk => f_if ((decide ((V1 : Int) = (0 : Int)))) rfl rfl rfl (hD 8 85 (by kernel_rfl)) (fun hb => f_val (o := ⟨some 87, _, _, _, _, _⟩) (p.v) rfl (wanted_b rfl rfl (hD 8 85 (by kernel_rfl)) (eq_true_of hb)) (exec_ldS 29 _ (.tmp 8) (g8) (0) (p.cells) rfl (hE 8 (.pointer (some ⟨g8, 0, none⟩)) (by kernel_rfl) (by kernel_rfl)) (range_kept R8_9.out hk) Tryd.underlying29 (by rw [p.len24]; exact szP)) rfl)) ?_
      refine fsteps_cons 12 rfl (fun a u hE hD hk => f_if ((decide ((V1 : Int) = (0 : Int)))) rfl rfl rfl (hD 8 85 (by kernel_rfl)) (fun hb => f_val (o := ⟨some 88, _, _, _, _, _⟩) (.int .i64 (k : Int)) rfl (wanted_b rfl rfl (hD 8 85 (by kernel_rfl)) (eq_true_of hb)) (exec_move (.tmp 18) _ rfl (hE 18 (.int .i64 (k : Int)) (by kernel_rfl) (by kernel_rfl))) rfl)) ?_
      refine fsteps_cons 13 rfl (fun a u hE hD hk => f_if ((decide ((V1 : Int) = (0 : Int)))) rfl rfl rfl (hD 8 85 (by kernel_rfl)) (fun hb => f_val (o := ⟨some 89, _, _, _, _, _⟩) (.int .i64 d) rfl (wanted_b rfl rfl (hD 8 85 (by kernel_rfl)) (eq_true_of hb)) (exec_move (.tmp 3) _ rfl (hE 3 (.int .i64 d) (by kernel_rfl) (by kernel_rfl))) rfl)) ?_
      refine fsteps_cons 14 rfl (fun a u hE hD hk => f_if ((decide ((V1 : Int) = (0 : Int)))) rfl rfl rfl (hD 8 85 (by kernel_rfl)) (fun hb => f_val (o := ⟨some 90, _, _, _, _, _⟩) (.int .i64 inst) rfl (wanted_b rfl rfl (hD 8 85 (by kernel_rfl)) (eq_true_of hb)) (exec_move (.tmp 4) _ rfl (hE 4 (.int .i64 inst) (by kernel_rfl) (by kernel_rfl))) rfl)) ?_
      refine fsteps_cons 15 rfl (fun a u hE hD hk => f_if ((decide ((V1 : Int) = (0 : Int)))) rfl rfl rfl (hD 8 85 (by kernel_rfl)) (fun hb => f_val (o := ⟨some 91, _, _, _, _, _⟩) (.int .i64 other) rfl (wanted_b rfl rfl (hD 8 85 (by kernel_rfl)) (eq_true_of hb)) (exec_move (.tmp 5) _ rfl (hE 5 (.int .i64 other) (by kernel_rfl) (by kernel_rfl))) rfl)) ?_
      refine fsteps_cons 16 rfl (fun a u hE hD hk => f_if ((decide ((V1 : Int) = (0 : Int)))) rfl rfl rfl (hD 8 85 (by kernel_rfl)) (fun hb => f_call (o := ⟨some 92, _, _, _, _, _⟩) 10 #[.pointer (some ⟨pu, 0, none⟩), p.v, .int .i64 (k : Int), .int .i64 d, .int .i64 inst, .int .i64 other] rfl (wanted_b rfl rfl (hD 8 85 (by kernel_rfl)) (eq_true_of hb)) (exec_call 10 _ [.tmp 86, .tmp 87, .tmp 88, .tmp 89, .tmp 90, .tmp 91] _ [.pointer (some ⟨pu, 0, none⟩), p.v, .int .i64 (k : Int), .int .i64 d, .int .i64 inst, .int .i64 other] Tryd.func10 (by kernel_rfl) (by kernel_rfl) rfl (show [a.eval (.tmp 86), a.eval (.tmp 87), a.eval (.tmp 88), a.eval (.tmp 89), a.eval (.tmp 90), a.eval (.tmp 91)] = [.pointer (some ⟨pu, 0, none⟩), p.v, .int .i64 (k : Int), .int .i64 d, .int .i64 inst, .int .i64 other] from (by rw [show a.eval (.tmp 86) = .pointer (some ⟨pu, 0, none⟩) from ((hD 9 86 (by kernel_rfl)).1 hb), show a.eval (.tmp 87) = p.v from ((hD 10 87 (by kernel_rfl)).1 hb), show a.eval (.tmp 88) = .int .i64 (k : Int) from ((hD 11 88 (by kernel_rfl)).1 hb), show a.eval (.tmp 89) = .int .i64 d from ((hD 12 89 (by kernel_rfl)).1 hb), show a.eval (.tmp 90) = .int .i64 inst from ((hD 13 90 (by kernel_rfl)).1 hb), show a.eval (.tmp 91) = .int .i64 other from ((hD 14 91 (by kernel_rfl)).1 hb)] <;> rfl)) u) (may_at (G_9.out.kept hk) (U_9.out.kept hk) HYo.out HV2.out))) ?_
      refine fsteps_cons 17 rfl (fun a u hE hD hk => f_if ((decide ((V1 : Int) = (0 : Int)))) rfl rfl rfl (hD 8 85 (by kernel_rfl)) (fun hb => f_val (o := ⟨some 93, _, _, _, _, _⟩) (.bool (decide ((V2 : Int) ≠ (0 : Int)))) rfl (wanted_b rfl rfl (hD 8 85 (by kernel_rfl)) (eq_true_of hb)) (exec_nen (p := V2) (q := 0) rfl ((hD 15 92 (by kernel_rfl)).1 hb) rfl) rfl)) ?_
      refine fsteps_cons 18 rfl (fun a u hE hD hk => f_as (show (((decide ((V1 : Int) = (0 : Int))) && (decide ((V2 : Int) ≠ (0 : Int)))) : Bool) = false from HM1.out) (f_val (o := ⟨some 94, _, _, _, _, _⟩) (.bool ((decide ((V1 : Int) = (0 : Int))) && (decide ((V2 : Int) ≠ (0 : Int))))) rfl (wanted_none rfl _) (exec_pickand (.tmp 85) (.tmp 93) (.const (.bool false)) ((decide ((V1 : Int) = (0 : Int)))) ((decide ((V2 : Int) ≠ (0 : Int)))) rfl (hD 8 85 (by kernel_rfl)) (fun hb2 => ((hD 16 93 (by kernel_rfl)).1 hb2)) rfl) rfl)) ?_
      exact fsteps_nil
    intro gv v10 hV kv10
    rw [show dstsOf _ 18 = [77, 78, 79, 80, 81, 82, 83, 84, 85, 86, 87, 88, 89, 90, 91, 92, 93, 94] by kernel_rfl]
    simp only [List.foldl_cons, List.foldl_nil, List.setIfInBounds_toArray, List.set_cons_succ, List.set_cons_zero, List.drop_succ_cons, List.drop_zero]
    rw [show gv 94 = .bool false from hV 17 94 (by kernel_rfl)]
    clear hV
    refine wpList_nil ?_
    have G_10 := Lib.hid (G_9.out.kept kv10)
    have R8_10 := Lib.hid (range_kept R8_9.out kv10)
    have W_10 := Lib.hid (W_9.out.kept kv10)
    have zs10 := kv10.size
    have kk10 := kk9.trans kv10
    clear G_9 R8_9 T_9 U_9 W_9 kv10 kk9
    go_upto_region 13 with fail
    refine wp_text 8 [.eq (.pointer (some ⟨pw, 0, none⟩)), .eq (p.v), .eq (.int .i64 (k : Int)), .eq (.int .i64 d), .eq (.int .i64 inst), .eq (.int .i64 other), .eq (.int .i64 V3), .eq (.int .i64 V3)] rfl (by kernel_rfl) ?_ ?_
    · refine sv 1 rfl rfl rfl (fun a u hE hD hk => exec_move (.tmp 23) _ rfl (hE 23 (.pointer (some ⟨pw, 0, none⟩)) (by kernel_rfl) (by kernel_rfl))) ?_
      refine sv 2 rfl rfl rfl (fun a u hE hD hk => exec_ldS 29 _ (.tmp 8) (g8) (0) (p.cells) rfl (hE 8 (.pointer (some ⟨g8, 0, none⟩)) (by kernel_rfl) (by kernel_rfl)) (range_kept R8_10.out hk) Tryd.underlying29 (by rw [p.len24]; exact szP)) ?_
      refine sv 3 rfl rfl rfl (fun a u hE hD hk => exec_move (.tmp 18) _ rfl (hE 18 (.int .i64 (k : Int)) (by kernel_rfl) (by kernel_rfl))) ?_
      refine sv 4 rfl rfl rfl (fun a u hE hD hk => exec_move (.tmp 3) _ rfl (hE 3 (.int .i64 d) (by kernel_rfl) (by kernel_rfl))) ?_
      refine sv 5 rfl rfl rfl (fun a u hE hD hk => exec_move (.tmp 4) _ rfl (hE 4 (.int .i64 inst) (by kernel_rfl) (by kernel_rfl))) ?_
      refine sv 6 rfl rfl rfl (fun a u hE hD hk => exec_move (.tmp 5) _ rfl (hE 5 (.int .i64 other) (by kernel_rfl) (by kernel_rfl))) ?_
      refine fsteps_cons 7 rfl (fun a u hE hD hk => f_call (o := ⟨some 101, _, _, _, _, _⟩) 10 #[.pointer (some ⟨pw, 0, none⟩), p.v, .int .i64 (k : Int), .int .i64 d, .int .i64 inst, .int .i64 other] rfl (wanted_none rfl _) (exec_call 10 _ [.tmp 95, .tmp 96, .tmp 97, .tmp 98, .tmp 99, .tmp 100] _ [.pointer (some ⟨pw, 0, none⟩), p.v, .int .i64 (k : Int), .int .i64 d, .int .i64 inst, .int .i64 other] Tryd.func10 (by kernel_rfl) (by kernel_rfl) rfl (show [a.eval (.tmp 95), a.eval (.tmp 96), a.eval (.tmp 97), a.eval (.tmp 98), a.eval (.tmp 99), a.eval (.tmp 100)] = [.pointer (some ⟨pw, 0, none⟩), p.v, .int .i64 (k : Int), .int .i64 d, .int .i64 inst, .int .i64 other] from (by rw [show a.eval (.tmp 95) = .pointer (some ⟨pw, 0, none⟩) from (hD 0 95 (by kernel_rfl)), show a.eval (.tmp 96) = p.v from (hD 1 96 (by kernel_rfl)), show a.eval (.tmp 97) = .int .i64 (k : Int) from (hD 2 97 (by kernel_rfl)), show a.eval (.tmp 98) = .int .i64 d from (hD 3 98 (by kernel_rfl)), show a.eval (.tmp 99) = .int .i64 inst from (hD 4 99 (by kernel_rfl)), show a.eval (.tmp 100) = .int .i64 other from (hD 5 100 (by kernel_rfl))] <;> rfl)) u) (may_at (G_10.out.kept hk) (W_10.out.kept hk) HZo.out HV3.out)) ?_
      refine sv 8 rfl rfl rfl (fun a u hE hD hk => exec_assign (.tmp 101) _ rfl (hD 6 101 (by kernel_rfl))) ?_
      exact fsteps_nil
    intro gv v11 hV kv11
    rw [show dstsOf _ 8 = [95, 96, 97, 98, 99, 100, 101, 25] by kernel_rfl]
    simp only [List.foldl_cons, List.foldl_nil, List.setIfInBounds_toArray, List.set_cons_succ, List.set_cons_zero, List.drop_succ_cons, List.drop_zero]
    rw [show gv 25 = .int .i64 V3 from hV 7 25 (by kernel_rfl)]
    clear hV
    refine wpList_nil ?_
    have G_11 := Lib.hid (G_10.out.kept kv11)
    have R8_11 := Lib.hid (range_kept R8_10.out kv11)
    have W_11 := Lib.hid (W_10.out.kept kv11)
    have zs11 := kv11.size
    have kk11 := kk10.trans kv11
    clear G_10 R8_10 W_10 kv11 kk10
    go_upto_region 14 with fail
    refine wp_text 19 [.eq (.int .i64 V3), .eq (.bool (decide ((V3 : Int) ≠ (0 : Int)))), .eq (.bool (decide ((V3 : Int) ≠ (0 : Int)))), .cond (!(decide ((V3 : Int) ≠ (0 : Int)))) (.eq (.int .i64 d)), .cond (!(decide ((V3 : Int) ≠ (0 : Int)))) (.eq (.bool (decide ((d : Int) = (1 : Int))))), .eq (.bool ((decide ((V3 : Int) ≠ (0 : Int))) || (decide ((d : Int) = (1 : Int))))), .eq (.bool ((decide ((V3 : Int) ≠ (0 : Int))) || (decide ((d : Int) = (1 : Int))))), .cond (!((decide ((V3 : Int) ≠ (0 : Int))) || (decide ((d : Int) = (1 : Int))))) (.eq (.int .i64 d)), .cond (!((decide ((V3 : Int) ≠ (0 : Int))) || (decide ((d : Int) = (1 : Int))))) (.eq (.bool (decide ((d : Int) = (2 : Int))))), .cond (!((decide ((V3 : Int) ≠ (0 : Int))) || (decide ((d : Int) = (1 : Int))))) (.eq (.bool (decide ((d : Int) = (2 : Int))))), .cond ((!((decide ((V3 : Int) ≠ (0 : Int))) || (decide ((d : Int) = (1 : Int))))) && (decide ((d : Int) = (2 : Int)))) (.eq (.int .i64 other)), .cond ((!((decide ((V3 : Int) ≠ (0 : Int))) || (decide ((d : Int) = (1 : Int))))) && (decide ((d : Int) = (2 : Int)))) (.eq (.int .i64 (k : Int))), .cond ((!((decide ((V3 : Int) ≠ (0 : Int))) || (decide ((d : Int) = (1 : Int))))) && (decide ((d : Int) = (2 : Int)))) (.eq (.bool (decide ((other : Int) = ((k : Int) : Int))))), .cond (!((decide ((V3 : Int) ≠ (0 : Int))) || (decide ((d : Int) = (1 : Int))))) (.eq (.bool ((decide ((d : Int) = (2 : Int))) && (decide ((other : Int) = ((k : Int) : Int)))))), .eq (.bool true), .eq (.bool true), .eq (.bool true), .eq (.bool true), .eq (.bool true)] rfl (by kernel_rfl) ?_ ?_
    · refine sv 1 rfl rfl rfl (fun a u hE hD hk => exec_move (.tmp 25) _ rfl (hE 25 (.int .i64 V3) (by kernel_rfl) (by kernel_rfl))) ?_
      refine sv 2 rfl rfl rfl (fun a u hE hD hk => exec_nen (p := V3) (q := 0) rfl (hD 0 102 (by kernel_rfl)) rfl) ?_
      refine sv 3 rfl rfl rfl (fun a u hE hD hk => exec_move (.tmp 103) _ rfl (hD 1 103 (by kernel_rfl))) ?_
      refine fsteps_cons 4 rfl (fun a u hE hD hk => f_unless ((decide ((V3 : Int) ≠ (0 : Int)))) rfl rfl rfl (hD 2 104 (by kernel_rfl)) (fun hb => f_val (o := ⟨some 105, _, _, _, _, _⟩) (.int .i64 d) rfl (wanted_b rfl rfl (hD 2 104 (by kernel_rfl)) (eq_false_of hb)) (exec_move (.tmp 3) _ rfl (hE 3 (.int .i64 d) (by kernel_rfl) (by kernel_rfl))) rfl)) ?_
      refine fsteps_cons 5 rfl (fun a u hE hD hk => f_unless ((decide ((V3 : Int) ≠ (0 : Int)))) rfl rfl rfl (hD 2 104 (by kernel_rfl)) (fun hb => f_val (o := ⟨some 106, _, _, _, _, _⟩) (.bool (decide ((d : Int) = (1 : Int)))) rfl (wanted_b rfl rfl (hD 2 104 (by kernel_rfl)) (eq_false_of hb)) (exec_eqn (p := d) (q := 1) rfl ((hD 3 105 (by kernel_rfl)).1 hb) rfl) rfl)) ?_
      refine sv 6 rfl rfl rfl (fun a u hE hD hk => exec_pickor (.tmp 104) (.const (.bool true)) (.tmp 106) ((decide ((V3 : Int) ≠ (0 : Int)))) ((decide ((d : Int) = (1 : Int)))) rfl (hD 2 104 (by kernel_rfl)) rfl (fun hb2 => ((hD 4 106 (by kernel_rfl)).1 hb2))) ?_
      refine sv 7 rfl rfl rfl (fun a u hE hD hk => exec_move (.tmp 107) _ rfl (hD 5 107 (by kernel_rfl))) ?_
      refine fsteps_cons 8 rfl (fun a u hE hD hk => f_unless (((decide ((V3 : Int) ≠ (0 : Int))) || (decide ((d : Int) = (1 : Int))))) rfl rfl rfl (hD 6 108 (by kernel_rfl)) (fun hb => f_val (o := ⟨some 109, _, _, _, _, _⟩) (.int .i64 d) rfl (wanted_b rfl rfl (hD 6 108 (by kernel_rfl)) (eq_false_of hb)) (exec_move (.tmp 3) _ rfl (hE 3 (.int .i64 d) (by kernel_rfl) (by kernel_rfl))) rfl)) ?_
      refine fsteps_cons 9 rfl (fun a u hE hD hk => f_unless (((decide ((V3 : Int) ≠ (0 : Int))) || (decide ((d : Int) = (1 : Int))))) rfl rfl rfl (hD 6 108 (by kernel_rfl)) (fun hb => f_val (o := ⟨some 110, _, _, _, _, _⟩) (.bool (decide ((d : Int) = (2 : Int)))) rfl (wanted_b rfl rfl (hD 6 108 (by kernel_rfl)) (eq_false_of hb)) (exec_eqn (p := d) (q := 2) rfl ((hD 7 109 (by kernel_rfl)).1 hb) rfl) rfl)) ?_
      refine fsteps_cons 10 rfl (fun a u hE hD hk => f_unless (((decide ((V3 : Int) ≠ (0 : Int))) || (decide ((d : Int) = (1 : Int))))) rfl rfl rfl (hD 6 108 (by kernel_rfl)) (fun hb => f_val (o := ⟨some 111, _, _, _, _, _⟩) (.bool (decide ((d : Int) = (2 : Int)))) rfl (wanted_b rfl rfl (hD 6 108 (by kernel_rfl)) (eq_false_of hb)) (exec_move (.tmp 110) _ rfl ((hD 8 110 (by kernel_rfl)).1 hb)) rfl)) ?_
      refine fsteps_cons 11 rfl (fun a u hE hD hk => f_if2 (!((decide ((V3 : Int) ≠ (0 : Int))) || (decide ((d : Int) = (1 : Int))))) ((decide ((d : Int) = (2 : Int)))) rfl rfl rfl (hD 9 111 (by kernel_rfl)) (fun hb => f_val (o := ⟨some 112, _, _, _, _, _⟩) (.int .i64 other) rfl (wanted_b rfl rfl ((hD 9 111 (by kernel_rfl)).1 (and_l hb)) (eq_true_of (and_r hb))) (exec_move (.tmp 5) _ rfl (hE 5 (.int .i64 other) (by kernel_rfl) (by kernel_rfl))) rfl)) ?_
      refine fsteps_cons 12 rfl (fun a u hE hD hk => f_if2 (!((decide ((V3 : Int) ≠ (0 : Int))) || (decide ((d : Int) = (1 : Int))))) ((decide ((d : Int) = (2 : Int)))) rfl rfl rfl (hD 9 111 (by kernel_rfl)) (fun hb => f_val (o := ⟨some 113, _, _, _, _, _⟩) (.int .i64 (k : Int)) rfl (wanted_b rfl rfl ((hD 9 111 (by kernel_rfl)).1 (and_l hb)) (eq_true_of (and_r hb))) (exec_move (.tmp 18) _ rfl (hE 18 (.int .i64 (k : Int)) (by kernel_rfl) (by kernel_rfl))) rfl)) ?_
      refine fsteps_cons 13 rfl (fun a u hE hD hk => f_if2 (!((decide ((V3 : Int) ≠ (0 : Int))) || (decide ((d : Int) = (1 : Int))))) ((decide ((d : Int) = (2 : Int)))) rfl rfl rfl (hD 9 111 (by kernel_rfl)) (fun hb => f_val (o := ⟨some 114, _, _, _, _, _⟩) (.bool (decide ((other : Int) = ((k : Int) : Int)))) rfl (wanted_b rfl rfl ((hD 9 111 (by kernel_rfl)).1 (and_l hb)) (eq_true_of (and_r hb))) (exec_eqn (p := other) (q := (k : Int)) rfl ((hD 10 112 (by kernel_rfl)).1 hb) ((hD 11 113 (by kernel_rfl)).1 hb)) rfl)) ?_
      refine fsteps_cons 14 rfl (fun a u hE hD hk => f_unless (((decide ((V3 : Int) ≠ (0 : Int))) || (decide ((d : Int) = (1 : Int))))) rfl rfl rfl (hD 6 108 (by kernel_rfl)) (fun hb => f_val (o := ⟨some 115, _, _, _, _, _⟩) (.bool ((decide ((d : Int) = (2 : Int))) && (decide ((other : Int) = ((k : Int) : Int))))) rfl (wanted_b rfl rfl (hD 6 108 (by kernel_rfl)) (eq_false_of hb)) (exec_pickand (.tmp 111) (.tmp 114) (.const (.bool false)) ((decide ((d : Int) = (2 : Int)))) ((decide ((other : Int) = ((k : Int) : Int)))) rfl ((hD 9 111 (by kernel_rfl)).1 hb) (fun hb2 => ((hD 12 114 (by kernel_rfl)).1 (and_mk hb hb2))) rfl) rfl)) ?_
      refine fsteps_cons 15 rfl (fun a u hE hD hk => f_as (show ((((decide ((V3 : Int) ≠ (0 : Int))) || (decide ((d : Int) = (1 : Int)))) || ((decide ((d : Int) = (2 : Int))) && (decide ((other : Int) = ((k : Int) : Int))))) : Bool) = true from HM2.out) (f_val (o := ⟨some 116, _, _, _, _, _⟩) (.bool (((decide ((V3 : Int) ≠ (0 : Int))) || (decide ((d : Int) = (1 : Int)))) || ((decide ((d : Int) = (2 : Int))) && (decide ((other : Int) = ((k : Int) : Int)))))) rfl (wanted_none rfl _) (exec_pickor (.tmp 108) (.const (.bool true)) (.tmp 115) (((decide ((V3 : Int) ≠ (0 : Int))) || (decide ((d : Int) = (1 : Int))))) (((decide ((d : Int) = (2 : Int))) && (decide ((other : Int) = ((k : Int) : Int))))) rfl (hD 6 108 (by kernel_rfl)) rfl (fun hb2 => ((hD 13 115 (by kernel_rfl)).1 hb2))) rfl)) ?_
      refine sv 16 rfl rfl rfl (fun a u hE hD hk => exec_move (.tmp 116) _ rfl (hD 14 116 (by kernel_rfl))) ?_
      refine fsteps_cons 17 rfl (fun a u hE hD hk => f_call (o := ⟨some 118, _, _, _, _, _⟩) 3 #[] rfl (wanted_at (b := true) true rfl rfl (hD 15 117 (by kernel_rfl))) (exec_call 3 _ [] _ [] Tryd.func3 (by kernel_rfl) (by kernel_rfl) rfl rfl u) (HAR.out u (kk11.trans hk))) ?_
      refine sv 18 rfl rfl rfl (fun a u hE hD hk => exec_pick (.tmp 117) (.tmp 118) (.const (.bool false)) (.bool true) rfl (hD 15 117 (by kernel_rfl)) (hD 16 118 (by kernel_rfl))) ?_
      refine sv 19 rfl rfl rfl (fun a u hE hD hk => exec_assign (.tmp 119) _ rfl (hD 17 119 (by kernel_rfl))) ?_
      exact fsteps_nil
    intro gv v12 hV kv12
    rw [show dstsOf _ 19 = [102, 103, 104, 105, 106, 107, 108, 109, 110, 111, 112, 113, 114, 115, 116, 117, 118, 119, 14] by kernel_rfl]
    simp only [List.foldl_cons, List.foldl_nil, List.setIfInBounds_toArray, List.set_cons_succ, List.set_cons_zero, List.drop_succ_cons, List.drop_zero]
    rw [show gv 14 = .bool true from hV 18 14 (by kernel_rfl)]
    clear hV
    refine wpList_nil ?_
    have G_12 := Lib.hid (G_11.out.kept kv12)
    have R8_12 := Lib.hid (range_kept R8_11.out kv12)
    have W_12 := Lib.hid (W_11.out.kept kv12)
    have zs12 := kv12.size
    have kk12 := kk11.trans kv12
    clear G_11 R8_11 W_11 kv12 kk11
    go_wp2
    go_ret
    exact ⟨rfl, kk12⟩
  · skip
    go_upto_region 3 with fail
    refine wp_text 5 [.eq (.int .i64 (k : Int)), .eq (.pointer (some ⟨g15, k * 37, none⟩)), .eq (.pointer (some ⟨g15, k * 37 + 2, none⟩)), .eq (.int .i64 x.roles), .eq (.bool false)] rfl (by kernel_rfl) ?_ ?_
    · refine sv 1 rfl rfl rfl (fun a u hE hD hk => exec_move (.tmp 18) _ rfl (hE 18 (.int .i64 (k : Int)) (by kernel_rfl) (by kernel_rfl))) ?_
      refine sv 2 rfl rfl rfl (fun a u hE hD hk => exec_ixA (.tmp 15) (.tmp 34) (g15) k ((k : Int)) rfl (hE 15 (.pointer (some ⟨g15, 0, none⟩)) (by kernel_rfl) (by kernel_rfl)) (hD 0 34 (by kernel_rfl)) (by first | rfl | omega) (hklt)) ?_
      refine sv 3 rfl rfl rfl (fun a u hE hD hk => exec_fldo 35 2 2 (.tmp 35) (g15) (k * 37) (k * 37 + 2) rfl (hD 1 35 (by kernel_rfl)) (by kernel_rfl) rfl) ?_
      refine sv 4 rfl rfl rfl (fun a u hE hD hk => exec_loadi 3 Tryd.underlying3 (.tmp 36) ⟨g15, k * 37 + 2, none⟩ (.int .i64 x.roles) rfl (hD 2 36 (by kernel_rfl)) ((range_kept (HAX0.out) hk) 2 _ rfl)) ?_
      refine fsteps_cons 5 rfl (fun a u hE hD hk => f_as (show ((decide ((x.roles : Int) ≠ (0 : Int))) : Bool) = false from decide_eq_false hr) (f_val (o := ⟨some 38, _, _, _, _, _⟩) (.bool (decide ((x.roles : Int) ≠ (0 : Int)))) rfl (wanted_none rfl _) (exec_nen (p := x.roles) (q := 0) rfl (hD 3 37 (by kernel_rfl)) rfl) rfl)) ?_
      exact fsteps_nil
    intro gv v3 hV kv3
    rw [show dstsOf _ 5 = [34, 35, 36, 37, 38] by kernel_rfl]
    simp only [List.foldl_cons, List.foldl_nil, List.setIfInBounds_toArray, List.set_cons_succ, List.set_cons_zero, List.drop_succ_cons, List.drop_zero]
    rw [show gv 38 = .bool false from hV 4 38 (by kernel_rfl)]
    clear hV
    refine wpList_nil ?_
    have G_3 := Lib.hid (G_2.out.kept kv3)
    have R8_3 := Lib.hid (range_kept R8_2.out kv3)
    have A15_3 := Lib.hid (A15_2.out.kept kv3)
    have A16_3 := Lib.hid (A16_2.out.kept kv3)
    have A17_3 := Lib.hid (A17_2.out.kept kv3)
    have zs3 := kv3.size
    have kk3 := kk2.trans kv3
    clear G_2 R8_2 A15_2 A16_2 A17_2 HAX0 kv3 kk2
    have HYo := HOk
    have HZo := HOk
    have HYb := HBd
    have HZb := HBd
    have htk : X.there (k : Int) = false := by rw [there_in hklt, HAT.out]; exact decide_eq_false hr
    obtain ⟨V2, hV2⟩ : ∃ V, allowM X p (k : Int) d inst other = V := ⟨_, rfl⟩
    obtain ⟨V3, hV3⟩ : ∃ V, allowM X p (k : Int) d inst other = V := ⟨_, rfl⟩
    have HM1 : Hid ((decide ((V1 : Int) = (0 : Int)) && decide ((V2 : Int) ≠ (0 : Int))) = false) := by
      show _ = _
      by_cases e : V1 = 0
      · have e2 : V2 = 0 := by rw [← hV2]; rw [HV1.out]; exact e
        rw [e2]
        simp
      · rw [decide_eq_false e, Bool.false_and]
    have HM2 : Hid (((decide ((V3 : Int) ≠ (0 : Int)) || decide ((d : Int) = (1 : Int))) || (decide ((d : Int) = (2 : Int)) && decide ((other : Int) = (k : Int)))) = true) := by show _ = _; rw [← hV3]; exact allow_plain (fun ht => by rw [htk] at ht; cases ht)
    have HV2 := Lib.hid hV2
    have HV3 := Lib.hid hV3
    clear hV2 hV3
    clear hr htk
    go_upto_region 6 with fail
    refine wp_text 1 [.eq (X.v)] rfl (by kernel_rfl) ?_ ?_
    · refine sv 1 rfl rfl rfl (fun a u hE hD hk => exec_ldX X (.tmp 15) (g15) _ rfl (hE 15 (.pointer (some ⟨g15, 0, none⟩)) (by kernel_rfl) (by kernel_rfl)) (A15_3.out.kept hk)) ?_
      exact fsteps_nil
    intro gv wa hV ka
    rw [show dstsOf _ 1 = [53] by kernel_rfl]
    simp only [List.foldl_cons, List.foldl_nil, List.setIfInBounds_toArray, List.set_cons_succ, List.set_cons_zero, List.drop_succ_cons, List.drop_zero]
    rw [show gv 53 = X.v from hV 0 53 (by kernel_rfl)]
    clear hV
    refine l_call (o := ⟨some 54, _, _, _, _, _⟩) 12 #[X.v] rfl (exec_call 12 _ [.tmp 53] _ _ Tryd.func12 (by kernel_rfl) (by kernel_rfl) rfl (by kernel_rfl) _) ?_
    refine (new_ok HBd.out).mono ?_
    rintro e wn3 ⟨pt, rfl, hp_, hP_, kn_⟩
    refine ⟨_, rfl, ?_⟩
    simp only [Act.put, List.setIfInBounds_toArray, List.set_cons_succ, List.set_cons_zero]
    refine l_val (o := ⟨some 52, _, _, _, _, _⟩) (.tuple #[.pointer (some ⟨pt, 0, none⟩), .int .i64 (-1)]) rfl (exec_move (.tmp 54) (.tuple #[.pointer (some ⟨pt, 0, none⟩), .int .i64 (-1)]) rfl (by kernel_rfl)) ?_
    simp only [Act.put, List.setIfInBounds_toArray, List.set_cons_succ, List.set_cons_zero]
    refine l_val (o := ⟨some 55, _, _, _, _, _⟩) (.pointer (some ⟨pt, 0, none⟩)) rfl (exec_extract (.tmp 52) [.pointer (some ⟨pt, 0, none⟩), .int .i64 (-1)] 0 (.pointer (some ⟨pt, 0, none⟩)) rfl (by kernel_rfl) rfl) ?_
    simp only [Act.put, List.setIfInBounds_toArray, List.set_cons_succ, List.set_cons_zero]
    refine l_val (o := ⟨some 56, _, _, _, _, _⟩) (.int .i64 (-1)) rfl (exec_extract (.tmp 52) [.pointer (some ⟨pt, 0, none⟩), .int .i64 (-1)] 1 (.int .i64 (-1)) rfl (by kernel_rfl) rfl) ?_
    simp only [Act.put, List.setIfInBounds_toArray, List.set_cons_succ, List.set_cons_zero]
    refine l_val (o := ⟨some 19, _, _, _, _, _⟩) (.pointer (some ⟨pt, 0, none⟩)) rfl (exec_assign (.tmp 55) (.pointer (some ⟨pt, 0, none⟩)) rfl (by kernel_rfl)) ?_
    simp only [Act.put, List.setIfInBounds_toArray, List.set_cons_succ, List.set_cons_zero]
    refine l_val (o := ⟨some 20, _, _, _, _, _⟩) (.int .i64 (-1)) rfl (exec_assign (.tmp 56) (.int .i64 (-1)) rfl (by kernel_rfl)) ?_
    simp only [Act.put, List.setIfInBounds_toArray, List.set_cons_succ, List.set_cons_zero]
    refine wpList_nil ?_
    have zkpt : v3.heap.size ≤ pt := by have h_ := ka.size; omega
    have zlpt : pt < wn3.heap.size := hP_.lt
    have T0 := Lib.hid hP_
    have kz := ka.trans kn_
    clear hP_ ka kn_ hp_
    have G_4 := Lib.hid (G_3.out.kept kz)
    have R8_4 := Lib.hid (range_kept R8_3.out kz)
    have A15_4 := Lib.hid (A15_3.out.kept kz)
    have A16_4 := Lib.hid (A16_3.out.kept kz)
    have A17_4 := Lib.hid (A17_3.out.kept kz)
    have zs4 := kz.size
    have kk4 := kk3.trans kz
    clear G_3 R8_3 A15_3 A16_3 A17_3 kz kk3
    go_upto_region 7 with fail
    refine wp_text 1 [.eq (X.v)] rfl (by kernel_rfl) ?_ ?_
    · refine sv 1 rfl rfl rfl (fun a u hE hD hk => exec_ldX X (.tmp 16) (g16) _ rfl (hE 16 (.pointer (some ⟨g16, 0, none⟩)) (by kernel_rfl) (by kernel_rfl)) (A16_4.out.kept hk)) ?_
      exact fsteps_nil
    intro gv wa hV ka
    rw [show dstsOf _ 1 = [58] by kernel_rfl]
    simp only [List.foldl_cons, List.foldl_nil, List.setIfInBounds_toArray, List.set_cons_succ, List.set_cons_zero, List.drop_succ_cons, List.drop_zero]
    rw [show gv 58 = X.v from hV 0 58 (by kernel_rfl)]
    clear hV
    refine l_call (o := ⟨some 59, _, _, _, _, _⟩) 12 #[X.v] rfl (exec_call 12 _ [.tmp 58] _ _ Tryd.func12 (by kernel_rfl) (by kernel_rfl) rfl (by kernel_rfl) _) ?_
    refine (new_ok HYb.out).mono ?_
    rintro e wn4 ⟨pu, rfl, hp_, hP_, kn_⟩
    refine ⟨_, rfl, ?_⟩
    simp only [Act.put, List.setIfInBounds_toArray, List.set_cons_succ, List.set_cons_zero]
    refine l_val (o := ⟨some 57, _, _, _, _, _⟩) (.tuple #[.pointer (some ⟨pu, 0, none⟩), .int .i64 (-1)]) rfl (exec_move (.tmp 59) (.tuple #[.pointer (some ⟨pu, 0, none⟩), .int .i64 (-1)]) rfl (by kernel_rfl)) ?_
    simp only [Act.put, List.setIfInBounds_toArray, List.set_cons_succ, List.set_cons_zero]
    refine l_val (o := ⟨some 60, _, _, _, _, _⟩) (.pointer (some ⟨pu, 0, none⟩)) rfl (exec_extract (.tmp 57) [.pointer (some ⟨pu, 0, none⟩), .int .i64 (-1)] 0 (.pointer (some ⟨pu, 0, none⟩)) rfl (by kernel_rfl) rfl) ?_
    simp only [Act.put, List.setIfInBounds_toArray, List.set_cons_succ, List.set_cons_zero]
    refine l_val (o := ⟨some 61, _, _, _, _, _⟩) (.int .i64 (-1)) rfl (exec_extract (.tmp 57) [.pointer (some ⟨pu, 0, none⟩), .int .i64 (-1)] 1 (.int .i64 (-1)) rfl (by kernel_rfl) rfl) ?_
    simp only [Act.put, List.setIfInBounds_toArray, List.set_cons_succ, List.set_cons_zero]
    refine l_val (o := ⟨some 21, _, _, _, _, _⟩) (.pointer (some ⟨pu, 0, none⟩)) rfl (exec_assign (.tmp 60) (.pointer (some ⟨pu, 0, none⟩)) rfl (by kernel_rfl)) ?_
    simp only [Act.put, List.setIfInBounds_toArray, List.set_cons_succ, List.set_cons_zero]
    refine l_val (o := ⟨some 22, _, _, _, _, _⟩) (.int .i64 (-1)) rfl (exec_assign (.tmp 61) (.int .i64 (-1)) rfl (by kernel_rfl)) ?_
    simp only [Act.put, List.setIfInBounds_toArray, List.set_cons_succ, List.set_cons_zero]
    refine wpList_nil ?_
    have zkpu : wn3.heap.size ≤ pu := by have h_ := ka.size; omega
    have zlpu : pu < wn4.heap.size := hP_.lt
    have U0 := Lib.hid hP_
    have kz := ka.trans kn_
    clear hP_ ka kn_ hp_
    have G_5 := Lib.hid (G_4.out.kept kz)
    have R8_5 := Lib.hid (range_kept R8_4.out kz)
    have A15_5 := Lib.hid (A15_4.out.kept kz)
    have A16_5 := Lib.hid (A16_4.out.kept kz)
    have A17_5 := Lib.hid (A17_4.out.kept kz)
    have T_5 := Lib.hid (T0.out.kept kz)
    have zs5 := kz.size
    have kk5 := kk4.trans kz
    clear G_4 R8_4 A15_4 A16_4 A17_4 T0 kz kk4
    go_upto_region 8 with fail
    refine wp_text 1 [.eq (X.v)] rfl (by kernel_rfl) ?_ ?_
    · refine sv 1 rfl rfl rfl (fun a u hE hD hk => exec_ldX X (.tmp 17) (g17) _ rfl (hE 17 (.pointer (some ⟨g17, 0, none⟩)) (by kernel_rfl) (by kernel_rfl)) (A17_5.out.kept hk)) ?_
      exact fsteps_nil
    intro gv wa hV ka
    rw [show dstsOf _ 1 = [63] by kernel_rfl]
    simp only [List.foldl_cons, List.foldl_nil, List.setIfInBounds_toArray, List.set_cons_succ, List.set_cons_zero, List.drop_succ_cons, List.drop_zero]
    rw [show gv 63 = X.v from hV 0 63 (by kernel_rfl)]
    clear hV
    refine l_call (o := ⟨some 64, _, _, _, _, _⟩) 12 #[X.v] rfl (exec_call 12 _ [.tmp 63] _ _ Tryd.func12 (by kernel_rfl) (by kernel_rfl) rfl (by kernel_rfl) _) ?_
    refine (new_ok HZb.out).mono ?_
    rintro e wn5 ⟨pw, rfl, hp_, hP_, kn_⟩
    refine ⟨_, rfl, ?_⟩
    simp only [Act.put, List.setIfInBounds_toArray, List.set_cons_succ, List.set_cons_zero]
    refine l_val (o := ⟨some 62, _, _, _, _, _⟩) (.tuple #[.pointer (some ⟨pw, 0, none⟩), .int .i64 (-1)]) rfl (exec_move (.tmp 64) (.tuple #[.pointer (some ⟨pw, 0, none⟩), .int .i64 (-1)]) rfl (by kernel_rfl)) ?_
    simp only [Act.put, List.setIfInBounds_toArray, List.set_cons_succ, List.set_cons_zero]
    refine l_val (o := ⟨some 65, _, _, _, _, _⟩) (.pointer (some ⟨pw, 0, none⟩)) rfl (exec_extract (.tmp 62) [.pointer (some ⟨pw, 0, none⟩), .int .i64 (-1)] 0 (.pointer (some ⟨pw, 0, none⟩)) rfl (by kernel_rfl) rfl) ?_
    simp only [Act.put, List.setIfInBounds_toArray, List.set_cons_succ, List.set_cons_zero]
    refine l_val (o := ⟨some 66, _, _, _, _, _⟩) (.int .i64 (-1)) rfl (exec_extract (.tmp 62) [.pointer (some ⟨pw, 0, none⟩), .int .i64 (-1)] 1 (.int .i64 (-1)) rfl (by kernel_rfl) rfl) ?_
    simp only [Act.put, List.setIfInBounds_toArray, List.set_cons_succ, List.set_cons_zero]
    refine l_val (o := ⟨some 23, _, _, _, _, _⟩) (.pointer (some ⟨pw, 0, none⟩)) rfl (exec_assign (.tmp 65) (.pointer (some ⟨pw, 0, none⟩)) rfl (by kernel_rfl)) ?_
    simp only [Act.put, List.setIfInBounds_toArray, List.set_cons_succ, List.set_cons_zero]
    refine l_val (o := ⟨some 24, _, _, _, _, _⟩) (.int .i64 (-1)) rfl (exec_assign (.tmp 66) (.int .i64 (-1)) rfl (by kernel_rfl)) ?_
    simp only [Act.put, List.setIfInBounds_toArray, List.set_cons_succ, List.set_cons_zero]
    refine wpList_nil ?_
    have zkpw : wn4.heap.size ≤ pw := by have h_ := ka.size; omega
    have zlpw : pw < wn5.heap.size := hP_.lt
    have W0 := Lib.hid hP_
    have kz := ka.trans kn_
    clear hP_ ka kn_ hp_
    have G_6 := Lib.hid (G_5.out.kept kz)
    have R8_6 := Lib.hid (range_kept R8_5.out kz)
    have A15_6 := Lib.hid (A15_5.out.kept kz)
    have A16_6 := Lib.hid (A16_5.out.kept kz)
    have A17_6 := Lib.hid (A17_5.out.kept kz)
    have T_6 := Lib.hid (T_5.out.kept kz)
    have U_6 := Lib.hid (U0.out.kept kz)
    have zs6 := kz.size
    have kk6 := kk5.trans kz
    clear G_5 R8_5 A15_5 A16_5 A17_5 T_5 U0 kz kk5
    go_upto_region 9 with fail
    refine wp_text 10 [.eq (.pointer (some ⟨pt, 0, none⟩)), .eq (.bool false), .eq (.bool false), .eq (.pointer (some ⟨pu, 0, none⟩)), .eq (.bool false), .eq (.bool false), .eq (.bool false), .eq (.pointer (some ⟨pw, 0, none⟩)), .eq (.bool false), .eq (.bool false)] rfl (by kernel_rfl) ?_ ?_
    · refine sv 1 rfl rfl rfl (fun a u hE hD hk => exec_move (.tmp 19) _ rfl (hE 19 (.pointer (some ⟨pt, 0, none⟩)) (by kernel_rfl) (by kernel_rfl))) ?_
      refine sv 2 rfl rfl rfl (fun a u hE hD hk => exec_eqP (.tmp 67) _ _ ⟨pt, 0, none⟩ (by kernel_rfl) rfl (hD 0 67 (by kernel_rfl))) ?_
      refine sv 3 rfl rfl rfl (fun a u hE hD hk => exec_move (.tmp 68) _ rfl (hD 1 68 (by kernel_rfl))) ?_
      refine fsteps_cons 4 rfl (fun a u hE hD hk => f_val (o := ⟨some 70, _, _, _, _, _⟩) (.pointer (some ⟨pu, 0, none⟩)) rfl (wanted_at (b := false) false rfl rfl (hD 2 69 (by kernel_rfl))) (exec_move (.tmp 21) _ rfl (hE 21 (.pointer (some ⟨pu, 0, none⟩)) (by kernel_rfl) (by kernel_rfl))) rfl) ?_
      refine fsteps_cons 5 rfl (fun a u hE hD hk => f_val (o := ⟨some 71, _, _, _, _, _⟩) (.bool false) rfl (wanted_at (b := false) false rfl rfl (hD 2 69 (by kernel_rfl))) (exec_eqP (.tmp 70) _ _ ⟨pu, 0, none⟩ (by kernel_rfl) rfl (hD 3 70 (by kernel_rfl))) rfl) ?_
      refine sv 6 rfl rfl rfl (fun a u hE hD hk => exec_pickF (.tmp 69) (.const (.bool true)) (.tmp 71) (.bool false) rfl (hD 2 69 (by kernel_rfl)) (hD 4 71 (by kernel_rfl))) ?_
      refine sv 7 rfl rfl rfl (fun a u hE hD hk => exec_move (.tmp 72) _ rfl (hD 5 72 (by kernel_rfl))) ?_
      refine fsteps_cons 8 rfl (fun a u hE hD hk => f_val (o := ⟨some 74, _, _, _, _, _⟩) (.pointer (some ⟨pw, 0, none⟩)) rfl (wanted_at (b := false) false rfl rfl (hD 6 73 (by kernel_rfl))) (exec_move (.tmp 23) _ rfl (hE 23 (.pointer (some ⟨pw, 0, none⟩)) (by kernel_rfl) (by kernel_rfl))) rfl) ?_
      refine fsteps_cons 9 rfl (fun a u hE hD hk => f_val (o := ⟨some 75, _, _, _, _, _⟩) (.bool false) rfl (wanted_at (b := false) false rfl rfl (hD 6 73 (by kernel_rfl))) (exec_eqP (.tmp 74) _ _ ⟨pw, 0, none⟩ (by kernel_rfl) rfl (hD 7 74 (by kernel_rfl))) rfl) ?_
      refine sv 10 rfl rfl rfl (fun a u hE hD hk => exec_pickF (.tmp 73) (.const (.bool true)) (.tmp 75) (.bool false) rfl (hD 6 73 (by kernel_rfl)) (hD 8 75 (by kernel_rfl))) ?_
      exact fsteps_nil
    intro gv v7 hV kv7
    rw [show dstsOf _ 10 = [67, 68, 69, 70, 71, 72, 73, 74, 75, 76] by kernel_rfl]
    simp only [List.foldl_cons, List.foldl_nil, List.setIfInBounds_toArray, List.set_cons_succ, List.set_cons_zero, List.drop_succ_cons, List.drop_zero]
    rw [show gv 76 = .bool false from hV 9 76 (by kernel_rfl)]
    clear hV
    refine wpList_nil ?_
    have G_7 := Lib.hid (G_6.out.kept kv7)
    have R8_7 := Lib.hid (range_kept R8_6.out kv7)
    have T_7 := Lib.hid (T_6.out.kept kv7)
    have U_7 := Lib.hid (U_6.out.kept kv7)
    have W_7 := Lib.hid (W0.out.kept kv7)
    have zs7 := kv7.size
    have kk7 := kk6.trans kv7
    clear G_6 R8_6 A15_6 A16_6 A17_6 T_6 U_6 W0 kv7 kk6
    go_upto_region 11 with fail
    refine wp_text 18 [.eq (.pointer (some ⟨pt, 0, none⟩)), .eq (p.v), .eq (.int .i64 (k : Int)), .eq (.int .i64 d), .eq (.int .i64 inst), .eq (.int .i64 other), .eq (.int .i64 V1), .eq (.bool (decide ((V1 : Int) = (0 : Int)))), .eq (.bool (decide ((V1 : Int) = (0 : Int)))), .cond (decide ((V1 : Int) = (0 : Int))) (.eq (.pointer (some ⟨pu, 0, none⟩))), .cond (decide ((V1 : Int) = (0 : Int))) (.eq (p.v)), .cond (decide ((V1 : Int) = (0 : Int))) (.eq (.int .i64 (k : Int))), .cond (decide ((V1 : Int) = (0 : Int))) (.eq (.int .i64 d)), .cond (decide ((V1 : Int) = (0 : Int))) (.eq (.int .i64 inst)), .cond (decide ((V1 : Int) = (0 : Int))) (.eq (.int .i64 other)), .cond (decide ((V1 : Int) = (0 : Int))) (.eq (.int .i64 V2)), .cond (decide ((V1 : Int) = (0 : Int))) (.eq (.bool (decide ((V2 : Int) ≠ (0 : Int))))), .eq (.bool false)] rfl (by kernel_rfl) ?_ ?_
    · refine sv 1 rfl rfl rfl (fun a u hE hD hk => exec_move (.tmp 19) _ rfl (hE 19 (.pointer (some ⟨pt, 0, none⟩)) (by kernel_rfl) (by kernel_rfl))) ?_
      refine sv 2 rfl rfl rfl (fun a u hE hD hk => exec_ldS 29 _ (.tmp 8) (g8) (0) (p.cells) rfl (hE 8 (.pointer (some ⟨g8, 0, none⟩)) (by kernel_rfl) (by kernel_rfl)) (range_kept R8_7.out hk) Tryd.underlying29 (by rw [p.len24]; exact szP)) ?_
      refine sv 3 rfl rfl rfl (fun a u hE hD hk => exec_move (.tmp 18) _ rfl (hE 18 (.int .i64 (k : Int)) (by kernel_rfl) (by kernel_rfl))) ?_
      refine sv 4 rfl rfl rfl (fun a u hE hD hk => exec_move (.tmp 3) _ rfl (hE 3 (.int .i64 d) (by kernel_rfl) (by kernel_rfl))) ?_
      refine sv 5 rfl rfl rfl (fun a u hE hD hk => exec_move (.tmp 4) _ rfl (hE 4 (.int .i64 inst) (by kernel_rfl) (by kernel_rfl))) ?_
      refine sv 6 rfl rfl rfl (fun a u hE hD hk => exec_move (.tmp 5) _ rfl (hE 5 (.int .i64 other) (by kernel_rfl) (by kernel_rfl))) ?_
      refine fsteps_cons 7 rfl (fun a u hE hD hk => f_call (o := ⟨some 83, _, _, _, _, _⟩) 10 #[.pointer (some ⟨pt, 0, none⟩), p.v, .int .i64 (k : Int), .int .i64 d, .int .i64 inst, .int .i64 other] rfl (wanted_none rfl _) (exec_call 10 _ [.tmp 77, .tmp 78, .tmp 79, .tmp 80, .tmp 81, .tmp 82] _ [.pointer (some ⟨pt, 0, none⟩), p.v, .int .i64 (k : Int), .int .i64 d, .int .i64 inst, .int .i64 other] Tryd.func10 (by kernel_rfl) (by kernel_rfl) rfl (show [a.eval (.tmp 77), a.eval (.tmp 78), a.eval (.tmp 79), a.eval (.tmp 80), a.eval (.tmp 81), a.eval (.tmp 82)] = [.pointer (some ⟨pt, 0, none⟩), p.v, .int .i64 (k : Int), .int .i64 d, .int .i64 inst, .int .i64 other] from (by rw [show a.eval (.tmp 77) = .pointer (some ⟨pt, 0, none⟩) from (hD 0 77 (by kernel_rfl)), show a.eval (.tmp 78) = p.v from (hD 1 78 (by kernel_rfl)), show a.eval (.tmp 79) = .int .i64 (k : Int) from (hD 2 79 (by kernel_rfl)), show a.eval (.tmp 80) = .int .i64 d from (hD 3 80 (by kernel_rfl)), show a.eval (.tmp 81) = .int .i64 inst from (hD 4 81 (by kernel_rfl)), show a.eval (.tmp 82) = .int .i64 other from (hD 5 82 (by kernel_rfl))] <;> rfl)) u) (may_at (G_7.out.kept hk) (T_7.out.kept hk) HOk.out HV1.out)) ?_
      refine sv 8 rfl rfl rfl (fun a u hE hD hk => exec_eqn (p := V1) (q := 0) rfl (hD 6 83 (by kernel_rfl)) rfl) ?_
      refine sv 9 rfl rfl rfl (fun a u hE hD hk => exec_move (.tmp 84) _ rfl (hD 7 84 (by kernel_rfl))) ?_
      refine fsteps_cons 10 rfl (fun a u hE hD hk => f_if ((decide ((V1 : Int) = (0 : Int)))) rfl rfl rfl (hD 8 85 (by kernel_rfl)) (fun hb => f_val (o := ⟨some 86, _, _, _, _, _⟩) (.pointer (some ⟨pu, 0, none⟩)) rfl (wanted_b rfl rfl (hD 8 85 (by kernel_rfl)) (eq_true_of hb)) (exec_move (.tmp 21) _ rfl (hE 21 (.pointer (some ⟨pu, 0, none⟩)) (by kernel_rfl) (by kernel_rfl))) rfl)) ?_
      refine fsteps_cons 11 rfl (fun a u hE hD hk => f_if ((decide ((V1 : Int) = (0 : Int)))) rfl rfl rfl (hD 8 85 (by kernel_rfl)) (fun hb => f_val (o := ⟨some 87, _, _, _, _, _⟩) (p.v) rfl (wanted_b rfl rfl (hD 8 85 (by kernel_rfl)) (eq_true_of hb)) (exec_ldS 29 _ (.tmp 8) (g8) (0) (p.cells) rfl (hE 8 (.pointer (some ⟨g8, 0, none⟩)) (by kernel_rfl) (by kernel_rfl)) (range_kept R8_7.out hk) Tryd.underlying29 (by rw [p.len24]; exact szP)) rfl)) ?_
      refine fsteps_cons 12 rfl (fun a u hE hD hk => f_if ((decide ((V1 : Int) = (0 : Int)))) rfl rfl rfl (hD 8 85 (by kernel_rfl)) (fun hb => f_val (o := ⟨some 88, _, _, _, _, _⟩) (.int .i64 (k : Int)) rfl (wanted_b rfl rfl (hD 8 85 (by kernel_rfl)) (eq_true_of hb)) (exec_move (.tmp 18) _ rfl (hE 18 (.int .i64 (k : Int)) (by kernel_rfl) (by kernel_rfl))) rfl)) ?_
      refine fsteps_cons 13 rfl (fun a u hE hD hk => f_if ((decide ((V1 : Int) = (0 : Int)))) rfl rfl rfl (hD 8 85 (by kernel_rfl)) (fun hb => f_val (o := ⟨some 89, _, _, _, _, _⟩) (.int .i64 d) rfl (wanted_b rfl rfl (hD 8 85 (by kernel_rfl)) (eq_true_of hb)) (exec_move (.tmp 3) _ rfl (hE 3 (.int .i64 d) (by kernel_rfl) (by kernel_rfl))) rfl)) ?_
      refine fsteps_cons 14 rfl (fun a u hE hD hk => f_if ((decide ((V1 : Int) = (0 : Int)))) rfl rfl rfl (hD 8 85 (by kernel_rfl)) (fun hb => f_val (o := ⟨some 90, _, _, _, _, _⟩) (.int .i64 inst) rfl (wanted_b rfl rfl (hD 8 85 (by kernel_rfl)) (eq_true_of hb)) (exec_move (.tmp 4) _ rfl (hE 4 (.int .i64 inst) (by kernel_rfl) (by kernel_rfl))) rfl)) ?_
      refine fsteps_cons 15 rfl (fun a u hE hD hk => f_if ((decide ((V1 : Int) = (0 : Int)))) rfl rfl rfl (hD 8 85 (by kernel_rfl)) (fun hb => f_val (o := ⟨some 91, _, _, _, _, _⟩) (.int .i64 other) rfl (wanted_b rfl rfl (hD 8 85 (by kernel_rfl)) (eq_true_of hb)) (exec_move (.tmp 5) _ rfl (hE 5 (.int .i64 other) (by kernel_rfl) (by kernel_rfl))) rfl)) ?_
      refine fsteps_cons 16 rfl (fun a u hE hD hk => f_if ((decide ((V1 : Int) = (0 : Int)))) rfl rfl rfl (hD 8 85 (by kernel_rfl)) (fun hb => f_call (o := ⟨some 92, _, _, _, _, _⟩) 10 #[.pointer (some ⟨pu, 0, none⟩), p.v, .int .i64 (k : Int), .int .i64 d, .int .i64 inst, .int .i64 other] rfl (wanted_b rfl rfl (hD 8 85 (by kernel_rfl)) (eq_true_of hb)) (exec_call 10 _ [.tmp 86, .tmp 87, .tmp 88, .tmp 89, .tmp 90, .tmp 91] _ [.pointer (some ⟨pu, 0, none⟩), p.v, .int .i64 (k : Int), .int .i64 d, .int .i64 inst, .int .i64 other] Tryd.func10 (by kernel_rfl) (by kernel_rfl) rfl (show [a.eval (.tmp 86), a.eval (.tmp 87), a.eval (.tmp 88), a.eval (.tmp 89), a.eval (.tmp 90), a.eval (.tmp 91)] = [.pointer (some ⟨pu, 0, none⟩), p.v, .int .i64 (k : Int), .int .i64 d, .int .i64 inst, .int .i64 other] from (by rw [show a.eval (.tmp 86) = .pointer (some ⟨pu, 0, none⟩) from ((hD 9 86 (by kernel_rfl)).1 hb), show a.eval (.tmp 87) = p.v from ((hD 10 87 (by kernel_rfl)).1 hb), show a.eval (.tmp 88) = .int .i64 (k : Int) from ((hD 11 88 (by kernel_rfl)).1 hb), show a.eval (.tmp 89) = .int .i64 d from ((hD 12 89 (by kernel_rfl)).1 hb), show a.eval (.tmp 90) = .int .i64 inst from ((hD 13 90 (by kernel_rfl)).1 hb), show a.eval (.tmp 91) = .int .i64 other from ((hD 14 91 (by kernel_rfl)).1 hb)] <;> rfl)) u) (may_at (G_7.out.kept hk) (U_7.out.kept hk) HYo.out HV2.out))) ?_
      refine fsteps_cons 17 rfl (fun a u hE hD hk => f_if ((decide ((V1 : Int) = (0 : Int)))) rfl rfl rfl (hD 8 85 (by kernel_rfl)) (fun hb => f_val (o := ⟨some 93, _, _, _, _, _⟩) (.bool (decide ((V2 : Int) ≠ (0 : Int)))) rfl (wanted_b rfl rfl (hD 8 85 (by kernel_rfl)) (eq_true_of hb)) (exec_nen (p := V2) (q := 0) rfl ((hD 15 92 (by kernel_rfl)).1 hb) rfl) rfl)) ?_
      refine fsteps_cons 18 rfl (fun a u hE hD hk => f_as (show (((decide ((V1 : Int) = (0 : Int))) && (decide ((V2 : Int) ≠ (0 : Int)))) : Bool) = false from HM1.out) (f_val (o := ⟨some 94, _, _, _, _, _⟩) (.bool ((decide ((V1 : Int) = (0 : Int))) && (decide ((V2 : Int) ≠ (0 : Int))))) rfl (wanted_none rfl _) (exec_pickand (.tmp 85) (.tmp 93) (.const (.bool false)) ((decide ((V1 : Int) = (0 : Int)))) ((decide ((V2 : Int) ≠ (0 : Int)))) rfl (hD 8 85 (by kernel_rfl)) (fun hb2 => ((hD 16 93 (by kernel_rfl)).1 hb2)) rfl) rfl)) ?_
      exact fsteps_nil
    intro gv v8 hV kv8
    rw [show dstsOf _ 18 = [77, 78, 79, 80, 81, 82, 83, 84, 85, 86, 87, 88, 89, 90, 91, 92, 93, 94] by kernel_rfl]
    simp only [List.foldl_cons, List.foldl_nil, List.setIfInBounds_toArray, List.set_cons_succ, List.set_cons_zero, List.drop_succ_cons, List.drop_zero]
    rw [show gv 94 = .bool false from hV 17 94 (by kernel_rfl)]
    clear hV
    refine wpList_nil ?_
    have G_8 := Lib.hid (G_7.out.kept kv8)
    have R8_8 := Lib.hid (range_kept R8_7.out kv8)
    have W_8 := Lib.hid (W_7.out.kept kv8)
    have zs8 := kv8.size
    have kk8 := kk7.trans kv8
    clear G_7 R8_7 T_7 U_7 W_7 kv8 kk7
    go_upto_region 13 with fail
    refine wp_text 8 [.eq (.pointer (some ⟨pw, 0, none⟩)), .eq (p.v), .eq (.int .i64 (k : Int)), .eq (.int .i64 d), .eq (.int .i64 inst), .eq (.int .i64 other), .eq (.int .i64 V3), .eq (.int .i64 V3)] rfl (by kernel_rfl) ?_ ?_
    · refine sv 1 rfl rfl rfl (fun a u hE hD hk => exec_move (.tmp 23) _ rfl (hE 23 (.pointer (some ⟨pw, 0, none⟩)) (by kernel_rfl) (by kernel_rfl))) ?_
      refine sv 2 rfl rfl rfl (fun a u hE hD hk => exec_ldS 29 _ (.tmp 8) (g8) (0) (p.cells) rfl (hE 8 (.pointer (some ⟨g8, 0, none⟩)) (by kernel_rfl) (by kernel_rfl)) (range_kept R8_8.out hk) Tryd.underlying29 (by rw [p.len24]; exact szP)) ?_
      refine sv 3 rfl rfl rfl (fun a u hE hD hk => exec_move (.tmp 18) _ rfl (hE 18 (.int .i64 (k : Int)) (by kernel_rfl) (by kernel_rfl))) ?_
      refine sv 4 rfl rfl rfl (fun a u hE hD hk => exec_move (.tmp 3) _ rfl (hE 3 (.int .i64 d) (by kernel_rfl) (by kernel_rfl))) ?_
      refine sv 5 rfl rfl rfl (fun a u hE hD hk => exec_move (.tmp 4) _ rfl (hE 4 (.int .i64 inst) (by kernel_rfl) (by kernel_rfl))) ?_
      refine sv 6 rfl rfl rfl (fun a u hE hD hk => exec_move (.tmp 5) _ rfl (hE 5 (.int .i64 other) (by kernel_rfl) (by kernel_rfl))) ?_
      refine fsteps_cons 7 rfl (fun a u hE hD hk => f_call (o := ⟨some 101, _, _, _, _, _⟩) 10 #[.pointer (some ⟨pw, 0, none⟩), p.v, .int .i64 (k : Int), .int .i64 d, .int .i64 inst, .int .i64 other] rfl (wanted_none rfl _) (exec_call 10 _ [.tmp 95, .tmp 96, .tmp 97, .tmp 98, .tmp 99, .tmp 100] _ [.pointer (some ⟨pw, 0, none⟩), p.v, .int .i64 (k : Int), .int .i64 d, .int .i64 inst, .int .i64 other] Tryd.func10 (by kernel_rfl) (by kernel_rfl) rfl (show [a.eval (.tmp 95), a.eval (.tmp 96), a.eval (.tmp 97), a.eval (.tmp 98), a.eval (.tmp 99), a.eval (.tmp 100)] = [.pointer (some ⟨pw, 0, none⟩), p.v, .int .i64 (k : Int), .int .i64 d, .int .i64 inst, .int .i64 other] from (by rw [show a.eval (.tmp 95) = .pointer (some ⟨pw, 0, none⟩) from (hD 0 95 (by kernel_rfl)), show a.eval (.tmp 96) = p.v from (hD 1 96 (by kernel_rfl)), show a.eval (.tmp 97) = .int .i64 (k : Int) from (hD 2 97 (by kernel_rfl)), show a.eval (.tmp 98) = .int .i64 d from (hD 3 98 (by kernel_rfl)), show a.eval (.tmp 99) = .int .i64 inst from (hD 4 99 (by kernel_rfl)), show a.eval (.tmp 100) = .int .i64 other from (hD 5 100 (by kernel_rfl))] <;> rfl)) u) (may_at (G_8.out.kept hk) (W_8.out.kept hk) HZo.out HV3.out)) ?_
      refine sv 8 rfl rfl rfl (fun a u hE hD hk => exec_assign (.tmp 101) _ rfl (hD 6 101 (by kernel_rfl))) ?_
      exact fsteps_nil
    intro gv v9 hV kv9
    rw [show dstsOf _ 8 = [95, 96, 97, 98, 99, 100, 101, 25] by kernel_rfl]
    simp only [List.foldl_cons, List.foldl_nil, List.setIfInBounds_toArray, List.set_cons_succ, List.set_cons_zero, List.drop_succ_cons, List.drop_zero]
    rw [show gv 25 = .int .i64 V3 from hV 7 25 (by kernel_rfl)]
    clear hV
    refine wpList_nil ?_
    have G_9 := Lib.hid (G_8.out.kept kv9)
    have R8_9 := Lib.hid (range_kept R8_8.out kv9)
    have W_9 := Lib.hid (W_8.out.kept kv9)
    have zs9 := kv9.size
    have kk9 := kk8.trans kv9
    clear G_8 R8_8 W_8 kv9 kk8
    go_upto_region 14 with fail
    refine wp_text 19 [.eq (.int .i64 V3), .eq (.bool (decide ((V3 : Int) ≠ (0 : Int)))), .eq (.bool (decide ((V3 : Int) ≠ (0 : Int)))), .cond (!(decide ((V3 : Int) ≠ (0 : Int)))) (.eq (.int .i64 d)), .cond (!(decide ((V3 : Int) ≠ (0 : Int)))) (.eq (.bool (decide ((d : Int) = (1 : Int))))), .eq (.bool ((decide ((V3 : Int) ≠ (0 : Int))) || (decide ((d : Int) = (1 : Int))))), .eq (.bool ((decide ((V3 : Int) ≠ (0 : Int))) || (decide ((d : Int) = (1 : Int))))), .cond (!((decide ((V3 : Int) ≠ (0 : Int))) || (decide ((d : Int) = (1 : Int))))) (.eq (.int .i64 d)), .cond (!((decide ((V3 : Int) ≠ (0 : Int))) || (decide ((d : Int) = (1 : Int))))) (.eq (.bool (decide ((d : Int) = (2 : Int))))), .cond (!((decide ((V3 : Int) ≠ (0 : Int))) || (decide ((d : Int) = (1 : Int))))) (.eq (.bool (decide ((d : Int) = (2 : Int))))), .cond ((!((decide ((V3 : Int) ≠ (0 : Int))) || (decide ((d : Int) = (1 : Int))))) && (decide ((d : Int) = (2 : Int)))) (.eq (.int .i64 other)), .cond ((!((decide ((V3 : Int) ≠ (0 : Int))) || (decide ((d : Int) = (1 : Int))))) && (decide ((d : Int) = (2 : Int)))) (.eq (.int .i64 (k : Int))), .cond ((!((decide ((V3 : Int) ≠ (0 : Int))) || (decide ((d : Int) = (1 : Int))))) && (decide ((d : Int) = (2 : Int)))) (.eq (.bool (decide ((other : Int) = ((k : Int) : Int))))), .cond (!((decide ((V3 : Int) ≠ (0 : Int))) || (decide ((d : Int) = (1 : Int))))) (.eq (.bool ((decide ((d : Int) = (2 : Int))) && (decide ((other : Int) = ((k : Int) : Int)))))), .eq (.bool true), .eq (.bool true), .eq (.bool true), .eq (.bool true), .eq (.bool true)] rfl (by kernel_rfl) ?_ ?_
    · refine sv 1 rfl rfl rfl (fun a u hE hD hk => exec_move (.tmp 25) _ rfl (hE 25 (.int .i64 V3) (by kernel_rfl) (by kernel_rfl))) ?_
      refine sv 2 rfl rfl rfl (fun a u hE hD hk => exec_nen (p := V3) (q := 0) rfl (hD 0 102 (by kernel_rfl)) rfl) ?_
      refine sv 3 rfl rfl rfl (fun a u hE hD hk => exec_move (.tmp 103) _ rfl (hD 1 103 (by kernel_rfl))) ?_
      refine fsteps_cons 4 rfl (fun a u hE hD hk => f_unless ((decide ((V3 : Int) ≠ (0 : Int)))) rfl rfl rfl (hD 2 104 (by kernel_rfl)) (fun hb => f_val (o := ⟨some 105, _, _, _, _, _⟩) (.int .i64 d) rfl (wanted_b rfl rfl (hD 2 104 (by kernel_rfl)) (eq_false_of hb)) (exec_move (.tmp 3) _ rfl (hE 3 (.int .i64 d) (by kernel_rfl) (by kernel_rfl))) rfl)) ?_
      refine fsteps_cons 5 rfl (fun a u hE hD hk => f_unless ((decide ((V3 : Int) ≠ (0 : Int)))) rfl rfl rfl (hD 2 104 (by kernel_rfl)) (fun hb => f_val (o := ⟨some 106, _, _, _, _, _⟩) (.bool (decide ((d : Int) = (1 : Int)))) rfl (wanted_b rfl rfl (hD 2 104 (by kernel_rfl)) (eq_false_of hb)) (exec_eqn (p := d) (q := 1) rfl ((hD 3 105 (by kernel_rfl)).1 hb) rfl) rfl)) ?_
      refine sv 6 rfl rfl rfl (fun a u hE hD hk => exec_pickor (.tmp 104) (.const (.bool true)) (.tmp 106) ((decide ((V3 : Int) ≠ (0 : Int)))) ((decide ((d : Int) = (1 : Int)))) rfl (hD 2 104 (by kernel_rfl)) rfl (fun hb2 => ((hD 4 106 (by kernel_rfl)).1 hb2))) ?_
      refine sv 7 rfl rfl rfl (fun a u hE hD hk => exec_move (.tmp 107) _ rfl (hD 5 107 (by kernel_rfl))) ?_
      refine fsteps_cons 8 rfl (fun a u hE hD hk => f_unless (((decide ((V3 : Int) ≠ (0 : Int))) || (decide ((d : Int) = (1 : Int))))) rfl rfl rfl (hD 6 108 (by kernel_rfl)) (fun hb => f_val (o := ⟨some 109, _, _, _, _, _⟩) (.int .i64 d) rfl (wanted_b rfl rfl (hD 6 108 (by kernel_rfl)) (eq_false_of hb)) (exec_move (.tmp 3) _ rfl (hE 3 (.int .i64 d) (by kernel_rfl) (by kernel_rfl))) rfl)) ?_
      refine fsteps_cons 9 rfl (fun a u hE hD hk => f_unless (((decide ((V3 : Int) ≠ (0 : Int))) || (decide ((d : Int) = (1 : Int))))) rfl rfl rfl (hD 6 108 (by kernel_rfl)) (fun hb => f_val (o := ⟨some 110, _, _, _, _, _⟩) (.bool (decide ((d : Int) = (2 : Int)))) rfl (wanted_b rfl rfl (hD 6 108 (by kernel_rfl)) (eq_false_of hb)) (exec_eqn (p := d) (q := 2) rfl ((hD 7 109 (by kernel_rfl)).1 hb) rfl) rfl)) ?_
      refine fsteps_cons 10 rfl (fun a u hE hD hk => f_unless (((decide ((V3 : Int) ≠ (0 : Int))) || (decide ((d : Int) = (1 : Int))))) rfl rfl rfl (hD 6 108 (by kernel_rfl)) (fun hb => f_val (o := ⟨some 111, _, _, _, _, _⟩) (.bool (decide ((d : Int) = (2 : Int)))) rfl (wanted_b rfl rfl (hD 6 108 (by kernel_rfl)) (eq_false_of hb)) (exec_move (.tmp 110) _ rfl ((hD 8 110 (by kernel_rfl)).1 hb)) rfl)) ?_
      refine fsteps_cons 11 rfl (fun a u hE hD hk => f_if2 (!((decide ((V3 : Int) ≠ (0 : Int))) || (decide ((d : Int) = (1 : Int))))) ((decide ((d : Int) = (2 : Int)))) rfl rfl rfl (hD 9 111 (by kernel_rfl)) (fun hb => f_val (o := ⟨some 112, _, _, _, _, _⟩) (.int .i64 other) rfl (wanted_b rfl rfl ((hD 9 111 (by kernel_rfl)).1 (and_l hb)) (eq_true_of (and_r hb))) (exec_move (.tmp 5) _ rfl (hE 5 (.int .i64 other) (by kernel_rfl) (by kernel_rfl))) rfl)) ?_
      refine fsteps_cons 12 rfl (fun a u hE hD hk => f_if2 (!((decide ((V3 : Int) ≠ (0 : Int))) || (decide ((d : Int) = (1 : Int))))) ((decide ((d : Int) = (2 : Int)))) rfl rfl rfl (hD 9 111 (by kernel_rfl)) (fun hb => f_val (o := ⟨some 113, _, _, _, _, _⟩) (.int .i64 (k : Int)) rfl (wanted_b rfl rfl ((hD 9 111 (by kernel_rfl)).1 (and_l hb)) (eq_true_of (and_r hb))) (exec_move (.tmp 18) _ rfl (hE 18 (.int .i64 (k : Int)) (by kernel_rfl) (by kernel_rfl))) rfl)) ?_
      refine fsteps_cons 13 rfl (fun a u hE hD hk => f_if2 (!((decide ((V3 : Int) ≠ (0 : Int))) || (decide ((d : Int) = (1 : Int))))) ((decide ((d : Int) = (2 : Int)))) rfl rfl rfl (hD 9 111 (by kernel_rfl)) (fun hb => f_val (o := ⟨some 114, _, _, _, _, _⟩) (.bool (decide ((other : Int) = ((k : Int) : Int)))) rfl (wanted_b rfl rfl ((hD 9 111 (by kernel_rfl)).1 (and_l hb)) (eq_true_of (and_r hb))) (exec_eqn (p := other) (q := (k : Int)) rfl ((hD 10 112 (by kernel_rfl)).1 hb) ((hD 11 113 (by kernel_rfl)).1 hb)) rfl)) ?_
      refine fsteps_cons 14 rfl (fun a u hE hD hk => f_unless (((decide ((V3 : Int) ≠ (0 : Int))) || (decide ((d : Int) = (1 : Int))))) rfl rfl rfl (hD 6 108 (by kernel_rfl)) (fun hb => f_val (o := ⟨some 115, _, _, _, _, _⟩) (.bool ((decide ((d : Int) = (2 : Int))) && (decide ((other : Int) = ((k : Int) : Int))))) rfl (wanted_b rfl rfl (hD 6 108 (by kernel_rfl)) (eq_false_of hb)) (exec_pickand (.tmp 111) (.tmp 114) (.const (.bool false)) ((decide ((d : Int) = (2 : Int)))) ((decide ((other : Int) = ((k : Int) : Int)))) rfl ((hD 9 111 (by kernel_rfl)).1 hb) (fun hb2 => ((hD 12 114 (by kernel_rfl)).1 (and_mk hb hb2))) rfl) rfl)) ?_
      refine fsteps_cons 15 rfl (fun a u hE hD hk => f_as (show ((((decide ((V3 : Int) ≠ (0 : Int))) || (decide ((d : Int) = (1 : Int)))) || ((decide ((d : Int) = (2 : Int))) && (decide ((other : Int) = ((k : Int) : Int))))) : Bool) = true from HM2.out) (f_val (o := ⟨some 116, _, _, _, _, _⟩) (.bool (((decide ((V3 : Int) ≠ (0 : Int))) || (decide ((d : Int) = (1 : Int)))) || ((decide ((d : Int) = (2 : Int))) && (decide ((other : Int) = ((k : Int) : Int)))))) rfl (wanted_none rfl _) (exec_pickor (.tmp 108) (.const (.bool true)) (.tmp 115) (((decide ((V3 : Int) ≠ (0 : Int))) || (decide ((d : Int) = (1 : Int))))) (((decide ((d : Int) = (2 : Int))) && (decide ((other : Int) = ((k : Int) : Int))))) rfl (hD 6 108 (by kernel_rfl)) rfl (fun hb2 => ((hD 13 115 (by kernel_rfl)).1 hb2))) rfl)) ?_
      refine sv 16 rfl rfl rfl (fun a u hE hD hk => exec_move (.tmp 116) _ rfl (hD 14 116 (by kernel_rfl))) ?_
      refine fsteps_cons 17 rfl (fun a u hE hD hk => f_call (o := ⟨some 118, _, _, _, _, _⟩) 3 #[] rfl (wanted_at (b := true) true rfl rfl (hD 15 117 (by kernel_rfl))) (exec_call 3 _ [] _ [] Tryd.func3 (by kernel_rfl) (by kernel_rfl) rfl rfl u) (HAR.out u (kk9.trans hk))) ?_
      refine sv 18 rfl rfl rfl (fun a u hE hD hk => exec_pick (.tmp 117) (.tmp 118) (.const (.bool false)) (.bool true) rfl (hD 15 117 (by kernel_rfl)) (hD 16 118 (by kernel_rfl))) ?_
      refine sv 19 rfl rfl rfl (fun a u hE hD hk => exec_assign (.tmp 119) _ rfl (hD 17 119 (by kernel_rfl))) ?_
      exact fsteps_nil
    intro gv v10 hV kv10
    rw [show dstsOf _ 19 = [102, 103, 104, 105, 106, 107, 108, 109, 110, 111, 112, 113, 114, 115, 116, 117, 118, 119, 14] by kernel_rfl]
    simp only [List.foldl_cons, List.foldl_nil, List.setIfInBounds_toArray, List.set_cons_succ, List.set_cons_zero, List.drop_succ_cons, List.drop_zero]
    rw [show gv 14 = .bool true from hV 18 14 (by kernel_rfl)]
    clear hV
    refine wpList_nil ?_
    have G_10 := Lib.hid (G_9.out.kept kv10)
    have R8_10 := Lib.hid (range_kept R8_9.out kv10)
    have W_10 := Lib.hid (W_9.out.kept kv10)
    have zs10 := kv10.size
    have kk10 := kk9.trans kv10
    clear G_9 R8_9 W_9 kv10 kk9
    go_wp2
    go_ret
    exact ⟨rfl, kk10⟩
end Go.Proofs.YtfoamgljfdnloaaDoor
