/-
  What the document allows, as mathematics; the contract of the document's own Allowed; the landed code's answer is the same. Condition: all of the tree may stand.
-/
import Derived.Test.YtfoamgljfdnloaaDoorAlC
namespace Go.Proofs.YtfoamgljfdnloaaDoor
open Go.RowKit
set_option linter.unusedVariables false
set_option maxRecDepth 100000

def rb (r m : Int) : Bool := decide (anI r m ≠ 0)
def cancelB (x y : Trd) (p : Phs) (n other : Int) : Bool := (((decide (other = n) || decide (anI x.roles 8 ≠ 0)) || (decide (anI x.roles 4 ≠ 0) && decide (y.firm = x.firm))) || ((decide (anI x.roles 2 ≠ 0) && decide (y.firm = x.firm)) && decide (y.desk = x.desk))) || (decide (anI x.roles 4 ≠ 0) && decide (anI (shI (p.gra x.firm.toNat) y.firm) 1 = 1))
def suspB (x y : Trd) (n other : Int) : Bool := decide (other ≠ n) && (decide (anI x.roles 8 ≠ 0) || (decide (anI x.roles 4 ≠ 0) && decide (y.firm = x.firm)))
def tradeM (x : Trd) (p : Phs) (inst : Int) : Int := if inst < 0 ∨ 8 ≤ inst then 1 else if (decide (anI x.roles 1 = 0) || decide (anI (shI x.insts inst) 1 = 0)) = true then 7 else if p.hal inst.toNat = true then 9 else 0
def outB (x : Trd) (p : Phs) (d : Int) : Bool := x.off || ((p.kil x.firm.toNat && decide (d ≠ 2)) && decide (d ≠ 4))
def okV (b : Bool) : Int := if b = true then 0 else 7
def allowM (X : Trds) (p : Phs) (n d inst other : Int) : Int :=
  if X.there n = true then
    (if outB (X.get n) p d = true then 7
     else if d = 1 then tradeM (X.get n) p inst
     else if d = 2 then (if X.there other = true then okV (cancelB (X.get n) (X.get other) p n other) else 6)
     else if d = 3 then (if X.there other = true then okV (suspB (X.get n) (X.get other) n other) else 6)
     else if d = 4 then okV (decide (anI (X.get n).roles 8 ≠ 0))
     else 1)
  else 6

/-! the rules say the same: by trying all roles and all ties -/
def tB (a f k g : Bool) : Int := orI (orI (whenI a 1) (whenI (!a) 2)) (if f = true then orI 8 (whenI k 4) else whenI g 16)
theorem ent1 : ∀ r : Fin 16, ∀ h : Bool, entV (r.val : Int) 1 (whenI h 32) = okV (decide (anI (r.val : Int) 1 ≠ 0) && h) := by decide +kernel
theorem ent2 : ∀ r : Fin 16, ∀ a f k g : Bool, entV (r.val : Int) 2 (tB a f k g) = okV ((((a || decide (anI (r.val : Int) 8 ≠ 0)) || (decide (anI (r.val : Int) 4 ≠ 0) && f)) || ((decide (anI (r.val : Int) 2 ≠ 0) && f) && k)) || (decide (anI (r.val : Int) 4 ≠ 0) && g)) := by decide +kernel
theorem ent3 : ∀ r : Fin 16, ∀ a f k g : Bool, entV (r.val : Int) 3 (tB a f k g) = okV (!a && (decide (anI (r.val : Int) 8 ≠ 0) || (decide (anI (r.val : Int) 4 ≠ 0) && f))) := by decide +kernel
theorem ent4 : ∀ r : Fin 16, entV (r.val : Int) 4 0 = okV (decide (anI (r.val : Int) 8 ≠ 0)) := by decide +kernel
theorem decide_ne (a b : Int) : decide (a ≠ b) = !decide (a = b) := by by_cases h : a = b <;> simp [h]
theorem decide_sym (a b : Int) : decide (a = b) = decide (b = a) := by by_cases h : a = b <;> simp [h, eq_comm]
theorem ties_is (x y : Trd) (p : Phs) (n other : Int) : orI (orI (whenI (decide (n = other)) 1) (whenI (decide (n ≠ other)) 2)) (tieV x y p) = tB (decide (other = n)) (decide (y.firm = x.firm)) (decide (y.desk = x.desk)) (hasB (p.gra x.firm.toNat) y.firm) := by
  unfold tB tieV
  rw [decide_ne, decide_sym n other, decide_sym y.desk x.desk]
  by_cases h : x.firm = y.firm
  · rw [if_neg (by simp [h]), if_pos (by simp [h])]
  · rw [if_pos h, if_neg (by simpa using fun e => h e.symm)]
theorem may_is {X : Trds} (hX : X.Ok) (p : Phs) (n d inst other : Int) : mayV X p n d inst other = allowM X p n d inst other := by
  unfold mayV allowM
  by_cases hn : X.there n = true
  · rw [if_pos hn, if_pos hn]
    have hf := hX.facts hn
    generalize hx : X.get n = x at hf ⊢
    obtain ⟨r, hr⟩ : ∃ r : Fin 16, x.roles = (r.val : Int) := ⟨⟨x.roles.toNat, by omega⟩, by simp only; omega⟩
    have e : offB x p d = outB x p d := by
      unfold offB outB evenB
      rw [decide_ne, decide_ne]
      cases x.off <;> cases p.kil x.firm.toNat <;> simp
    rw [e]
    by_cases ho : outB x p d = true
    · rw [if_pos ho, if_pos ho]
    · rw [if_neg ho, if_neg ho]
      by_cases h1 : d = 1
      · rw [if_pos h1, if_pos h1]
        unfold tradeV tradeM
        by_cases hi : inst < 0 ∨ 8 ≤ inst
        · rw [if_pos hi, if_pos hi]
        · rw [if_neg hi, if_neg hi, hr, ent1]
          have hm : decide (anI (shI x.insts inst) 1 = 0) = !hasB x.insts inst := by
            unfold hasB
            rw [anI_mod]
            rcases Int.emod_two_eq (shI x.insts inst) with h | h <;> rw [h] <;> rfl
          rw [hm, show decide (anI (r.val : Int) 1 = 0) = !decide (anI (r.val : Int) 1 ≠ 0) by rw [decide_ne, Bool.not_not]]
          cases decide (anI (r.val : Int) 1 ≠ 0) <;> cases hasB x.insts inst <;> cases p.hal inst.toNat <;> rfl
      · rw [if_neg h1, if_neg h1]
        by_cases h2 : d = 2
        · rw [if_pos (.inl h2), if_pos h2]
          unfold actV
          by_cases ht : X.there other = true
          · rw [if_pos ht, if_pos ht, hx, ties_is, hr, h2, ent2]
            unfold cancelB
            rw [hr]
            rfl
          · rw [if_neg ht, if_neg ht]
        · rw [if_neg h2]
          by_cases h3 : d = 3
          · rw [if_pos (.inr h3), if_pos h3]
            unfold actV
            by_cases ht : X.there other = true
            · rw [if_pos ht, if_pos ht, hx, ties_is, hr, h3, ent3]
              unfold suspB
              rw [hr, decide_ne other n]
            · rw [if_neg ht, if_neg ht]
          · rw [if_neg (by omega), if_neg h3]
            by_cases h4 : d = 4
            · rw [if_pos h4, if_pos h4, hr, ent4]
            · rw [if_neg h4, if_neg h4]
  · rw [if_neg hn, if_neg hn]
set_option maxRecDepth 100000 in
set_option maxHeartbeats 6400000 in
theorem rallowed_any (q : Nat) (X : Trds) (p : Phs) (n d inst other : Int) (w : World) (hB : Blk w q 60 X.cells) (hX : X.Ok) : Gives 14 #[.pointer (some ⟨q, 0, none⟩), p.v, .int .i64 n, .int .i64 d, .int .i64 inst, .int .i64 other] w (.eq (.int .i64 (allowM X p n d inst other))) := by
  refine gives_eq ?_
  obtain ⟨V, hV⟩ : ∃ V, allowM X p n d inst other = V := ⟨_, rfl⟩
  have HV := Lib.hid hV
  have HT := Lib.hid hB
  have HX := Lib.hid hX
  rw [hV]
  clear hV hB hX
  obtain ⟨b0, hb0⟩ : ∃ z, w.alloc (.cells p.cells.toArray 29) = z := ⟨_, rfl⟩
  have q0 : Kept w b0 := by rw [← hb0]; exact (Keep.refl _ _).alloc _
  have r0 : b0.rangeAt w.heap.size 0 p.cells := by rw [← hb0]; exact blk_range (Blk.new w 29 p.cells)
  have HB7 := Lib.hid (r0)
  have k0 := q0
  clear r0
  go_enter Tryd.func14, Tryd.ntmps14
  go_upto_region 0 with fail
  refine wp_region_lit ?_
  refine l_new (o := ⟨some 7, _, _, _, _, _⟩) (.pointer (some ⟨w.heap.size, 0, none⟩)) b0 rfl (by rw [← hb0]; exact exec_box 29 (.tmp 1) p.cells rfl (by kernel_rfl)) ?_
  simp only [Act.put, List.setIfInBounds_toArray, List.set_cons_succ, List.set_cons_zero]
  refine l_val (o := ⟨some 12, _, _, _, _, _⟩) (.int .i64 0) rfl (exec_assign (.const (.int .i64 0)) (.int .i64 0) rfl (by kernel_rfl)) ?_
  simp only [Act.put, List.setIfInBounds_toArray, List.set_cons_succ, List.set_cons_zero]
  refine wpList_nil ?_
  obtain ⟨g7, hg7⟩ : ∃ g, w.heap.size = g := ⟨_, rfl⟩
  rw [hg7] at HB7 ⊢
  clear hg7 hb0 q0
  have HT0 := Lib.hid (HT.out.kept k0)
  clear HT
  cases hn : X.there n with
  | false =>
    have HV2 : Hid (V = 6) := by show _ = _; rw [← HV.out]; unfold allowM; rw [if_neg (by rw [hn]; simp)]
    have HNn := Lib.hid hn
    clear HV hn
    go_upto_region 1 with fail
    refine wp_text 4 [.eq (.pointer (some ⟨q, 0, none⟩)), .eq (.int .i64 n), .eq (.bool false), .eq (.bool true)] rfl (by kernel_rfl) ?_ ?_
    · refine sv 1 rfl rfl rfl (fun a u hE hD hk => exec_move (.tmp 0) _ rfl (hE 0 (.pointer (some ⟨q, 0, none⟩)) (by kernel_rfl) (by kernel_rfl))) ?_
      refine sv 2 rfl rfl rfl (fun a u hE hD hk => exec_move (.tmp 2) _ rfl (hE 2 (.int .i64 n) (by kernel_rfl) (by kernel_rfl))) ?_
      refine fsteps_cons 3 rfl (fun a u hE hD hk => f_call (o := ⟨some 17, _, _, _, _, _⟩) 24 #[.pointer (some ⟨q, 0, none⟩), .int .i64 n] rfl (wanted_none rfl _) (exec_call 24 _ [.tmp 15, .tmp 16] _ [.pointer (some ⟨q, 0, none⟩), .int .i64 n] Tryd.func24 (by kernel_rfl) (by kernel_rfl) rfl (show [a.eval (.tmp 15), a.eval (.tmp 16)] = [.pointer (some ⟨q, 0, none⟩), .int .i64 n] from (by rw [show a.eval (.tmp 15) = .pointer (some ⟨q, 0, none⟩) from (hD 0 15 (by kernel_rfl)), show a.eval (.tmp 16) = .int .i64 n from (hD 1 16 (by kernel_rfl))] <;> rfl)) u) (by rw [← HNn.out]; exact rthere_any u q X n (HT0.out.kept hk))) ?_
      refine sv 4 rfl rfl rfl (fun a u hE hD hk => exec_not _ (.tmp 17) false rfl (hD 2 17 (by kernel_rfl))) ?_
      exact fsteps_nil
    intro gv w1 hV k1
    rw [show dstsOf _ 4 = [15, 16, 17, 18] by kernel_rfl]
    simp only [List.foldl_cons, List.foldl_nil, List.setIfInBounds_toArray, List.set_cons_succ, List.set_cons_zero, List.drop_succ_cons, List.drop_zero]
    rw [show gv 18 = .bool true from hV 3 18 (by kernel_rfl)]
    clear hV
    refine wpList_nil ?_
    have kw1 := k0.trans k1
    go_wp2
    go_ret
    exact ⟨by rw [HV2.out]; rfl, kw1⟩
  | true =>
    obtain ⟨j, hj, hnj⟩ := there_lt hn
    obtain ⟨x, hx⟩ : ∃ x, X.get n = x := ⟨_, rfl⟩
    have hfx := (HX.out.facts hn).1
    rw [hx] at hfx
    obtain ⟨i, hi, hxi⟩ : ∃ i : Nat, i < 8 ∧ x.firm = (i : Int) := ⟨x.firm.toNat, by omega, by omega⟩
    obtain ⟨K, hK⟩ : ∃ K, p.kil i = K := ⟨_, rfl⟩
    obtain ⟨G, hGr⟩ : ∃ G, p.gra i = G := ⟨_, rfl⟩
    have HAK : Hid (p.cells[8 + i]? = some (.bool K)) := by show _ = _; rw [← hK]; exact p.at_k hi
    have HAG : Hid (p.cells[16 + i]? = some (.int .i64 G)) := by show _ = _; rw [← hGr]; exact p.at_g hi
    have HQ : Hid (p.gra x.firm.toNat = G) := by show _ = _; rw [hxi, Int.toNat_natCast, hGr]
    obtain ⟨B, hBB⟩ : ∃ B, (x.off || ((K && decide (d ≠ 2)) && decide (d ≠ 4))) = B := ⟨_, rfl⟩
    have hq : outB x p d = B := by unfold outB; rw [hxi, Int.toNat_natCast, hK, hBB]
    have HV2 : Hid ((if B = true then 7 else if d = 1 then tradeM x p inst else if d = 2 then (if X.there other = true then okV (cancelB x (X.get other) p n other) else 6) else if d = 3 then (if X.there other = true then okV (suspB x (X.get other) n other) else 6) else if d = 4 then okV (decide (anI x.roles 8 ≠ 0)) else 1) = V) := by show _ = _; rw [← HV.out]; unfold allowM; rw [if_pos hn, hx, hq]
    have HNn := Lib.hid hn
    have HBB := Lib.hid hBB
    have HAT : Hid (X.at_ j = x) := by show _ = _; rw [← hx, hnj, get_in (by rw [← hnj]; exact hn)]
    have HNJ := Lib.hid hnj
    clear HV hn hx hK hGr hq hBB hnj
    go_upto_region 1 with fail
    refine wp_text 4 [.eq (.pointer (some ⟨q, 0, none⟩)), .eq (.int .i64 n), .eq (.bool true), .eq (.bool false)] rfl (by kernel_rfl) ?_ ?_
    · refine sv 1 rfl rfl rfl (fun a u hE hD hk => exec_move (.tmp 0) _ rfl (hE 0 (.pointer (some ⟨q, 0, none⟩)) (by kernel_rfl) (by kernel_rfl))) ?_
      refine sv 2 rfl rfl rfl (fun a u hE hD hk => exec_move (.tmp 2) _ rfl (hE 2 (.int .i64 n) (by kernel_rfl) (by kernel_rfl))) ?_
      refine fsteps_cons 3 rfl (fun a u hE hD hk => f_call (o := ⟨some 17, _, _, _, _, _⟩) 24 #[.pointer (some ⟨q, 0, none⟩), .int .i64 n] rfl (wanted_none rfl _) (exec_call 24 _ [.tmp 15, .tmp 16] _ [.pointer (some ⟨q, 0, none⟩), .int .i64 n] Tryd.func24 (by kernel_rfl) (by kernel_rfl) rfl (show [a.eval (.tmp 15), a.eval (.tmp 16)] = [.pointer (some ⟨q, 0, none⟩), .int .i64 n] from (by rw [show a.eval (.tmp 15) = .pointer (some ⟨q, 0, none⟩) from (hD 0 15 (by kernel_rfl)), show a.eval (.tmp 16) = .int .i64 n from (hD 1 16 (by kernel_rfl))] <;> rfl)) u) (by rw [← HNn.out]; exact rthere_any u q X n (HT0.out.kept hk))) ?_
      refine sv 4 rfl rfl rfl (fun a u hE hD hk => exec_not _ (.tmp 17) true rfl (hD 2 17 (by kernel_rfl))) ?_
      exact fsteps_nil
    intro gv w1 hV k1
    rw [show dstsOf _ 4 = [15, 16, 17, 18] by kernel_rfl]
    simp only [List.foldl_cons, List.foldl_nil, List.setIfInBounds_toArray, List.set_cons_succ, List.set_cons_zero, List.drop_succ_cons, List.drop_zero]
    rw [show gv 18 = .bool false from hV 3 18 (by kernel_rfl)]
    clear hV
    refine wpList_nil ?_
    have HT1 := Lib.hid (HT0.out.kept k1)
    have HC7 := Lib.hid (range_kept HB7.out k1)
    have kw1 := k0.trans k1
    clear HT0 HB7 k0 k1
    go_upto_region 3 with fail
    refine wp_text 6 [.eq (.pointer (some ⟨q, 0, none⟩)), .eq (.int .i64 n), .eq (.pointer (some ⟨q, 0, none⟩)), .eq (.pointer (some ⟨q, 0, none⟩)), .eq (.pointer (some ⟨q, j * 37, none⟩)), .eq (x.v)] rfl (by kernel_rfl) ?_ ?_
    · refine sv 1 rfl rfl rfl (fun a u hE hD hk => exec_move (.tmp 0) _ rfl (hE 0 (.pointer (some ⟨q, 0, none⟩)) (by kernel_rfl) (by kernel_rfl))) ?_
      refine sv 2 rfl rfl rfl (fun a u hE hD hk => exec_move (.tmp 2) _ rfl (hE 2 (.int .i64 n) (by kernel_rfl) (by kernel_rfl))) ?_
      refine sv 3 rfl rfl rfl (fun a u hE hD hk => exec_nilp (.tmp 19) ⟨q, 0, none⟩ rfl (hD 0 19 (by kernel_rfl))) ?_
      refine sv 4 rfl rfl rfl (fun a u hE hD hk => exec_fldo 60 0 0 (.tmp 21) (q) (0) (0) rfl (hD 2 21 (by kernel_rfl)) (by kernel_rfl) rfl) ?_
      refine sv 5 rfl rfl rfl (fun a u hE hD hk => exec_ixA (.tmp 22) (.tmp 20) q j n rfl (hD 3 22 (by kernel_rfl)) (hD 1 20 (by kernel_rfl)) HNJ.out hj) ?_
      refine sv 6 rfl rfl rfl (fun a u hE hD hk => exec_ldS 35 _ (.tmp 23) (q) (j * 37) (x.cells) rfl (hD 4 23 (by kernel_rfl)) (range_kept ((by rw [← HAT.out]; exact trds_range HT1.out hj)) hk) Tryd.underlying35 (by rw [Trd.len37]; exact szT)) ?_
      exact fsteps_nil
    intro gv wa hV ka
    rw [show dstsOf _ 6 = [19, 20, 21, 22, 23, 24] by kernel_rfl]
    simp only [List.foldl_cons, List.foldl_nil, List.setIfInBounds_toArray, List.set_cons_succ, List.set_cons_zero, List.drop_succ_cons, List.drop_zero]
    rw [show gv 24 = x.v from hV 5 24 (by kernel_rfl)]
    clear hV
    refine l_new (o := ⟨some 13, _, _, _, _, _⟩) (.pointer (some ⟨wa.heap.size, 0, none⟩)) (wa.alloc (.cells zeroT.cells.toArray 35)) rfl (exec_alc 35 zeroT.cells rfl zT) ?_
    have hNa := Blk.new wa 35 zeroT.cells
    have kb : Kept wa (wa.alloc (.cells zeroT.cells.toArray 35)) := (Keep.refl _ wa).alloc _
    generalize wa.alloc (.cells zeroT.cells.toArray 35) = wb at hNa kb ⊢
    simp only [Act.put, List.setIfInBounds_toArray, List.set_cons_succ, List.set_cons_zero]
    refine l_setS (o := ⟨none, _, _, _, _, _⟩) 35 wa.heap.size 35 zeroT.cells x.cells (.tmp 13) (.tmp 24) rfl rfl (by kernel_rfl) (by kernel_rfl) hNa (by rw [Trd.len37]; exact szT) (by rw [Trd.len37, Trd.len37]) (Trd.one _) ?_
    intro w2 hCw2 hkw2 hsw2
    simp only [Act.put]
    refine wpList_nil ?_
    obtain ⟨g13, hg13⟩ : ∃ a, wa.heap.size = a := ⟨_, rfl⟩
    rw [hg13] at hNa hCw2 hkw2 ⊢
    have zka := ka.size
    have kw2 : Kept w1 w2 := (ka.trans kb).trans' hkw2 (by omega)
    have HX13 := Lib.hid (blk_range hCw2)
    clear hNa hCw2 hkw2 hsw2 kb ka zka hg13
    have HT2 := Lib.hid (HT1.out.kept kw2)
    have HD7 := Lib.hid (range_kept HC7.out kw2)
    have kz2 := kw1.trans kw2
    clear HT1 HC7 kw1 kw2
    go_upto_region 4 with fail
    refine wp_text 17 [.eq (.pointer (some ⟨g13, 4, none⟩)), .eq (.bool x.off), .eq (.bool x.off), .cond (!x.off) (.eq (.pointer (some ⟨g13, 0, none⟩))), .cond (!x.off) (.eq (.int .i64 x.firm)), .cond (!x.off) (.eq (.pointer (some ⟨g7, 8, none⟩))), .cond (!x.off) (.eq (.pointer (some ⟨g7, 8 + i, none⟩))), .cond (!x.off) (.eq (.bool K)), .cond (!x.off) (.eq (.bool K)), .cond ((!x.off) && K) (.eq (.int .i64 d)), .cond ((!x.off) && K) (.eq (.bool (decide ((d : Int) ≠ (2 : Int))))), .cond (!x.off) (.eq (.bool (K && (decide ((d : Int) ≠ (2 : Int)))))), .cond (!x.off) (.eq (.bool (K && (decide ((d : Int) ≠ (2 : Int)))))), .cond ((!x.off) && (K && (decide ((d : Int) ≠ (2 : Int))))) (.eq (.int .i64 d)), .cond ((!x.off) && (K && (decide ((d : Int) ≠ (2 : Int))))) (.eq (.bool (decide ((d : Int) ≠ (4 : Int))))), .cond (!x.off) (.eq (.bool ((K && (decide ((d : Int) ≠ (2 : Int)))) && (decide ((d : Int) ≠ (4 : Int)))))), .eq (.bool B)] rfl (by kernel_rfl) ?_ ?_
    · refine sv 1 rfl rfl rfl (fun a u hE hD hk => exec_fldo 35 4 4 (.tmp 13) (g13) (0) (4) rfl (hE 13 (.pointer (some ⟨g13, 0, none⟩)) (by kernel_rfl) (by kernel_rfl)) (by kernel_rfl) rfl) ?_
      refine sv 2 rfl rfl rfl (fun a u hE hD hk => exec_ldb 4 Tryd.underlying4 (.tmp 25) ⟨g13, 4, none⟩ (.bool x.off) rfl (hD 0 25 (by kernel_rfl)) ((range_kept (HX13.out) hk) 4 _ rfl)) ?_
      refine sv 3 rfl rfl rfl (fun a u hE hD hk => exec_move (.tmp 26) _ rfl (hD 1 26 (by kernel_rfl))) ?_
      refine fsteps_cons 4 rfl (fun a u hE hD hk => f_unless (x.off) rfl rfl rfl (hD 2 27 (by kernel_rfl)) (fun hb => f_val (o := ⟨some 28, _, _, _, _, _⟩) (.pointer (some ⟨g13, 0, none⟩)) rfl (wanted_b rfl rfl (hD 2 27 (by kernel_rfl)) (eq_false_of hb)) (exec_fldo 35 0 0 (.tmp 13) (g13) (0) (0) rfl (hE 13 (.pointer (some ⟨g13, 0, none⟩)) (by kernel_rfl) (by kernel_rfl)) (by kernel_rfl) rfl) rfl)) ?_
      refine fsteps_cons 5 rfl (fun a u hE hD hk => f_unless (x.off) rfl rfl rfl (hD 2 27 (by kernel_rfl)) (fun hb => f_val (o := ⟨some 29, _, _, _, _, _⟩) (.int .i64 x.firm) rfl (wanted_b rfl rfl (hD 2 27 (by kernel_rfl)) (eq_false_of hb)) (exec_loadi 3 Tryd.underlying3 (.tmp 28) ⟨g13, 0, none⟩ (.int .i64 x.firm) rfl ((hD 3 28 (by kernel_rfl)).1 hb) ((range_kept (HX13.out) hk) 0 _ rfl)) rfl)) ?_
      refine fsteps_cons 6 rfl (fun a u hE hD hk => f_unless (x.off) rfl rfl rfl (hD 2 27 (by kernel_rfl)) (fun hb => f_val (o := ⟨some 30, _, _, _, _, _⟩) (.pointer (some ⟨g7, 8, none⟩)) rfl (wanted_b rfl rfl (hD 2 27 (by kernel_rfl)) (eq_false_of hb)) (exec_fldo 29 1 8 (.tmp 7) (g7) (0) (8) rfl (hE 7 (.pointer (some ⟨g7, 0, none⟩)) (by kernel_rfl) (by kernel_rfl)) (by kernel_rfl) rfl) rfl)) ?_
      refine fsteps_cons 7 rfl (fun a u hE hD hk => f_unless (x.off) rfl rfl rfl (hD 2 27 (by kernel_rfl)) (fun hb => f_val (o := ⟨some 31, _, _, _, _, _⟩) (.pointer (some ⟨g7, 8 + i, none⟩)) rfl (wanted_b rfl rfl (hD 2 27 (by kernel_rfl)) (eq_false_of hb)) (exec_ixC 26 4 8 (.tmp 30) (.tmp 29) g7 8 (8 + i) i x.firm rfl Tryd.underlying26 (by kernel_rfl) ((hD 5 30 (by kernel_rfl)).1 hb) ((hD 4 29 (by kernel_rfl)).1 hb) hxi hi rfl) rfl)) ?_
      refine fsteps_cons 8 rfl (fun a u hE hD hk => f_unless (x.off) rfl rfl rfl (hD 2 27 (by kernel_rfl)) (fun hb => f_val (o := ⟨some 32, _, _, _, _, _⟩) (.bool K) rfl (wanted_b rfl rfl (hD 2 27 (by kernel_rfl)) (eq_false_of hb)) (exec_ldb 4 Tryd.underlying4 (.tmp 31) ⟨g7, 8 + i, none⟩ (.bool K) rfl ((hD 6 31 (by kernel_rfl)).1 hb) (by have h_ := range_kept HD7.out hk (8 + i) _ HAK.out; rwa [Nat.zero_add] at h_)) rfl)) ?_
      refine fsteps_cons 9 rfl (fun a u hE hD hk => f_unless (x.off) rfl rfl rfl (hD 2 27 (by kernel_rfl)) (fun hb => f_val (o := ⟨some 33, _, _, _, _, _⟩) (.bool K) rfl (wanted_b rfl rfl (hD 2 27 (by kernel_rfl)) (eq_false_of hb)) (exec_move (.tmp 32) _ rfl ((hD 7 32 (by kernel_rfl)).1 hb)) rfl)) ?_
      refine fsteps_cons 10 rfl (fun a u hE hD hk => f_if2 (!x.off) (K) rfl rfl rfl (hD 8 33 (by kernel_rfl)) (fun hb => f_val (o := ⟨some 34, _, _, _, _, _⟩) (.int .i64 d) rfl (wanted_b rfl rfl ((hD 8 33 (by kernel_rfl)).1 (and_l hb)) (eq_true_of (and_r hb))) (exec_move (.tmp 3) _ rfl (hE 3 (.int .i64 d) (by kernel_rfl) (by kernel_rfl))) rfl)) ?_
      refine fsteps_cons 11 rfl (fun a u hE hD hk => f_if2 (!x.off) (K) rfl rfl rfl (hD 8 33 (by kernel_rfl)) (fun hb => f_val (o := ⟨some 35, _, _, _, _, _⟩) (.bool (decide ((d : Int) ≠ (2 : Int)))) rfl (wanted_b rfl rfl ((hD 8 33 (by kernel_rfl)).1 (and_l hb)) (eq_true_of (and_r hb))) (exec_nen (p := d) (q := 2) rfl ((hD 9 34 (by kernel_rfl)).1 hb) rfl) rfl)) ?_
      refine fsteps_cons 12 rfl (fun a u hE hD hk => f_unless (x.off) rfl rfl rfl (hD 2 27 (by kernel_rfl)) (fun hb => f_val (o := ⟨some 36, _, _, _, _, _⟩) (.bool (K && (decide ((d : Int) ≠ (2 : Int))))) rfl (wanted_b rfl rfl (hD 2 27 (by kernel_rfl)) (eq_false_of hb)) (exec_pickand (.tmp 33) (.tmp 35) (.const (.bool false)) (K) ((decide ((d : Int) ≠ (2 : Int)))) rfl ((hD 8 33 (by kernel_rfl)).1 hb) (fun hb2 => ((hD 10 35 (by kernel_rfl)).1 (and_mk hb hb2))) rfl) rfl)) ?_
      refine fsteps_cons 13 rfl (fun a u hE hD hk => f_unless (x.off) rfl rfl rfl (hD 2 27 (by kernel_rfl)) (fun hb => f_val (o := ⟨some 37, _, _, _, _, _⟩) (.bool (K && (decide ((d : Int) ≠ (2 : Int))))) rfl (wanted_b rfl rfl (hD 2 27 (by kernel_rfl)) (eq_false_of hb)) (exec_move (.tmp 36) _ rfl ((hD 11 36 (by kernel_rfl)).1 hb)) rfl)) ?_
      refine fsteps_cons 14 rfl (fun a u hE hD hk => f_if2 (!x.off) ((K && (decide ((d : Int) ≠ (2 : Int))))) rfl rfl rfl (hD 12 37 (by kernel_rfl)) (fun hb => f_val (o := ⟨some 38, _, _, _, _, _⟩) (.int .i64 d) rfl (wanted_b rfl rfl ((hD 12 37 (by kernel_rfl)).1 (and_l hb)) (eq_true_of (and_r hb))) (exec_move (.tmp 3) _ rfl (hE 3 (.int .i64 d) (by kernel_rfl) (by kernel_rfl))) rfl)) ?_
      refine fsteps_cons 15 rfl (fun a u hE hD hk => f_if2 (!x.off) ((K && (decide ((d : Int) ≠ (2 : Int))))) rfl rfl rfl (hD 12 37 (by kernel_rfl)) (fun hb => f_val (o := ⟨some 39, _, _, _, _, _⟩) (.bool (decide ((d : Int) ≠ (4 : Int)))) rfl (wanted_b rfl rfl ((hD 12 37 (by kernel_rfl)).1 (and_l hb)) (eq_true_of (and_r hb))) (exec_nen (p := d) (q := 4) rfl ((hD 13 38 (by kernel_rfl)).1 hb) rfl) rfl)) ?_
      refine fsteps_cons 16 rfl (fun a u hE hD hk => f_unless (x.off) rfl rfl rfl (hD 2 27 (by kernel_rfl)) (fun hb => f_val (o := ⟨some 40, _, _, _, _, _⟩) (.bool ((K && (decide ((d : Int) ≠ (2 : Int)))) && (decide ((d : Int) ≠ (4 : Int))))) rfl (wanted_b rfl rfl (hD 2 27 (by kernel_rfl)) (eq_false_of hb)) (exec_pickand (.tmp 37) (.tmp 39) (.const (.bool false)) ((K && (decide ((d : Int) ≠ (2 : Int))))) ((decide ((d : Int) ≠ (4 : Int)))) rfl ((hD 12 37 (by kernel_rfl)).1 hb) (fun hb2 => ((hD 14 39 (by kernel_rfl)).1 (and_mk hb hb2))) rfl) rfl)) ?_
      refine fsteps_cons 17 rfl (fun a u hE hD hk => f_as (show ((x.off || ((K && (decide ((d : Int) ≠ (2 : Int)))) && (decide ((d : Int) ≠ (4 : Int))))) : Bool) = B from HBB.out) (f_val (o := ⟨some 41, _, _, _, _, _⟩) (.bool (x.off || ((K && (decide ((d : Int) ≠ (2 : Int)))) && (decide ((d : Int) ≠ (4 : Int)))))) rfl (wanted_none rfl _) (exec_pickor (.tmp 27) (.const (.bool true)) (.tmp 40) (x.off) (((K && (decide ((d : Int) ≠ (2 : Int)))) && (decide ((d : Int) ≠ (4 : Int))))) rfl (hD 2 27 (by kernel_rfl)) rfl (fun hb2 => ((hD 15 40 (by kernel_rfl)).1 hb2))) rfl)) ?_
      exact fsteps_nil
    intro gv v1w hV kv1
    rw [show dstsOf _ 17 = [25, 26, 27, 28, 29, 30, 31, 32, 33, 34, 35, 36, 37, 38, 39, 40, 41] by kernel_rfl]
    simp only [List.foldl_cons, List.foldl_nil, List.setIfInBounds_toArray, List.set_cons_succ, List.set_cons_zero, List.drop_succ_cons, List.drop_zero]
    rw [show gv 41 = .bool B from hV 16 41 (by kernel_rfl)]
    clear hV
    refine wpList_nil ?_
    have T_1 := Lib.hid (HT2.out.kept kv1)
    have R7_1 := Lib.hid (range_kept HD7.out kv1)
    have R13_1 := Lib.hid (range_kept HX13.out kv1)
    have kk1 := kz2.trans kv1
    clear HT2 HD7 HX13 kv1 kz2
    cases B with
    | true =>
      have HV3 : Hid (V = 7) := by show _ = _; rw [← HV2.out, if_pos rfl]
      go_wp2
      go_ret
      exact ⟨by rw [HV3.out]; rfl, kk1⟩
    | false =>
      have HV3 : Hid ((if d = 1 then tradeM x p inst else if d = 2 then (if X.there other = true then okV (cancelB x (X.get other) p n other) else 6) else if d = 3 then (if X.there other = true then okV (suspB x (X.get other) n other) else 6) else if d = 4 then okV (decide (anI x.roles 8 ≠ 0)) else 1) = V) := by show _ = _; rw [← HV2.out, if_neg (show ¬ (false = true) by simp)]
      clear HV2
      go_upto_region 6 with fail
      refine wp_text 1 [.eq (.int .i64 d)] rfl (by kernel_rfl) ?_ ?_
      · refine sv 1 rfl rfl rfl (fun a u hE hD hk => exec_move (.tmp 3) _ rfl (hE 3 (.int .i64 d) (by kernel_rfl) (by kernel_rfl))) ?_
        exact fsteps_nil
      intro gv v2w hV kv2
      rw [show dstsOf _ 1 = [42] by kernel_rfl]
      simp only [List.foldl_cons, List.foldl_nil, List.setIfInBounds_toArray, List.set_cons_succ, List.set_cons_zero, List.drop_succ_cons, List.drop_zero]
      rw [show gv 42 = .int .i64 d from hV 0 42 (by kernel_rfl)]
      clear hV
      refine wpList_nil ?_
      have T_2 := Lib.hid (T_1.out.kept kv2)
      have R7_2 := Lib.hid (range_kept R7_1.out kv2)
      have R13_2 := Lib.hid (range_kept R13_1.out kv2)
      have kk2 := kk1.trans kv2
      clear T_1 R7_1 R13_1 kv2 kk1
      by_cases hd1 : d = 1
      · have HV4 : Hid (tradeM x p inst = V) := by show _ = _; rw [← HV3.out, if_pos hd1]
        clear HV3
        go_upto_region 7 with fail
        refine wp_text 2 [.eq (.bool true), .eq (.bool true)] rfl (by kernel_rfl) ?_ ?_
        · refine fsteps_cons 1 rfl (fun a u hE hD hk => f_as (show ((decide ((d : Int) = (1 : Int))) : Bool) = true from decide_eq_true (by omega)) (f_val (o := ⟨some 44, _, _, _, _, _⟩) (.bool (decide ((d : Int) = (1 : Int)))) rfl (wanted_none rfl _) (exec_eqn (p := d) (q := 1) rfl (hE 42 (.int .i64 d) (by kernel_rfl) (by kernel_rfl)) rfl) rfl)) ?_
          refine sv 2 rfl rfl rfl (fun a u hE hD hk => exec_assign (.tmp 44) _ rfl (hD 0 44 (by kernel_rfl))) ?_
          exact fsteps_nil
        intro gv v3w hV kv3
        rw [show dstsOf _ 2 = [44, 43] by kernel_rfl]
        simp only [List.foldl_cons, List.foldl_nil, List.setIfInBounds_toArray, List.set_cons_succ, List.set_cons_zero, List.drop_succ_cons, List.drop_zero]
        rw [show gv 43 = .bool true from hV 1 43 (by kernel_rfl)]
        clear hV
        refine wpList_nil ?_
        have T_3 := Lib.hid (T_2.out.kept kv3)
        have R7_3 := Lib.hid (range_kept R7_2.out kv3)
        have R13_3 := Lib.hid (range_kept R13_2.out kv3)
        have kk3 := kk2.trans kv3
        clear T_2 R7_2 R13_2 kv3 kk2
        by_cases hin : inst < 0 ∨ 8 ≤ inst
        · have HV5 : Hid (V = 1) := by show _ = _; rw [← HV4.out]; unfold tradeM; rw [if_pos hin]
          go_upto_region 8 with fail
          refine wp_text 6 [.eq (.int .i64 inst), .eq (.bool (decide ((inst : Int) < (0 : Int)))), .eq (.bool (decide ((inst : Int) < (0 : Int)))), .cond (!(decide ((inst : Int) < (0 : Int)))) (.eq (.int .i64 inst)), .cond (!(decide ((inst : Int) < (0 : Int)))) (.eq (.bool (decide ((8 : Int) ≤ (inst : Int))))), .eq (.bool true)] rfl (by kernel_rfl) ?_ ?_
          · refine sv 1 rfl rfl rfl (fun a u hE hD hk => exec_move (.tmp 4) _ rfl (hE 4 (.int .i64 inst) (by kernel_rfl) (by kernel_rfl))) ?_
            refine sv 2 rfl rfl rfl (fun a u hE hD hk => exec_ltn (p := inst) (q := 0) rfl (hD 0 45 (by kernel_rfl)) rfl) ?_
            refine sv 3 rfl rfl rfl (fun a u hE hD hk => exec_move (.tmp 46) _ rfl (hD 1 46 (by kernel_rfl))) ?_
            refine fsteps_cons 4 rfl (fun a u hE hD hk => f_unless ((decide ((inst : Int) < (0 : Int)))) rfl rfl rfl (hD 2 47 (by kernel_rfl)) (fun hb => f_val (o := ⟨some 48, _, _, _, _, _⟩) (.int .i64 inst) rfl (wanted_b rfl rfl (hD 2 47 (by kernel_rfl)) (eq_false_of hb)) (exec_move (.tmp 4) _ rfl (hE 4 (.int .i64 inst) (by kernel_rfl) (by kernel_rfl))) rfl)) ?_
            refine fsteps_cons 5 rfl (fun a u hE hD hk => f_unless ((decide ((inst : Int) < (0 : Int)))) rfl rfl rfl (hD 2 47 (by kernel_rfl)) (fun hb => f_val (o := ⟨some 49, _, _, _, _, _⟩) (.bool (decide ((8 : Int) ≤ (inst : Int)))) rfl (wanted_b rfl rfl (hD 2 47 (by kernel_rfl)) (eq_false_of hb)) (exec_gen (p := inst) (q := 8) rfl ((hD 3 48 (by kernel_rfl)).1 hb) rfl) rfl)) ?_
            refine fsteps_cons 6 rfl (fun a u hE hD hk => f_as (show (((decide ((inst : Int) < (0 : Int))) || (decide ((8 : Int) ≤ (inst : Int)))) : Bool) = true from (by rw [Bool.or_eq_true]; simpa using hin)) (f_val (o := ⟨some 50, _, _, _, _, _⟩) (.bool ((decide ((inst : Int) < (0 : Int))) || (decide ((8 : Int) ≤ (inst : Int))))) rfl (wanted_none rfl _) (exec_pickor (.tmp 47) (.const (.bool true)) (.tmp 49) ((decide ((inst : Int) < (0 : Int)))) ((decide ((8 : Int) ≤ (inst : Int)))) rfl (hD 2 47 (by kernel_rfl)) rfl (fun hb2 => ((hD 4 49 (by kernel_rfl)).1 hb2))) rfl)) ?_
            exact fsteps_nil
          intro gv v4w hV kv4
          rw [show dstsOf _ 6 = [45, 46, 47, 48, 49, 50] by kernel_rfl]
          simp only [List.foldl_cons, List.foldl_nil, List.setIfInBounds_toArray, List.set_cons_succ, List.set_cons_zero, List.drop_succ_cons, List.drop_zero]
          rw [show gv 50 = .bool true from hV 5 50 (by kernel_rfl)]
          clear hV
          refine wpList_nil ?_
          have T_4 := Lib.hid (T_3.out.kept kv4)
          have R7_4 := Lib.hid (range_kept R7_3.out kv4)
          have R13_4 := Lib.hid (range_kept R13_3.out kv4)
          have kk4 := kk3.trans kv4
          clear T_3 R7_3 R13_3 kv4 kk3
          go_wp2
          go_ret
          exact ⟨by rw [HV5.out]; rfl, kk4⟩
        · obtain ⟨m, hm, rfl⟩ : ∃ m : Nat, m < 8 ∧ inst = (m : Int) := ⟨inst.toNat, by omega, by omega⟩
          obtain ⟨H, hH⟩ : ∃ H, p.hal m = H := ⟨_, rfl⟩
          have HAH : Hid (p.cells[m]? = some (.bool H)) := by show _ = _; rw [← hH]; exact p.at_h hm
          obtain ⟨c, hc⟩ : ∃ c, (decide (anI x.roles 1 = 0) || decide (anI (shI x.insts (m : Int)) 1 = 0)) = c := ⟨_, rfl⟩
          have HC := Lib.hid hc
          have HV5 : Hid ((if c = true then 7 else if H = true then 9 else 0) = V) := by show _ = _; rw [← HV4.out]; unfold tradeM; rw [if_neg hin, Int.toNat_natCast, hc, hH]
          clear HV4 hin hH hc
          go_upto_region 8 with fail
          refine wp_text 6 [.eq (.int .i64 (m : Int)), .eq (.bool (decide (((m : Int) : Int) < (0 : Int)))), .eq (.bool (decide (((m : Int) : Int) < (0 : Int)))), .cond (!(decide (((m : Int) : Int) < (0 : Int)))) (.eq (.int .i64 (m : Int))), .cond (!(decide (((m : Int) : Int) < (0 : Int)))) (.eq (.bool (decide ((8 : Int) ≤ ((m : Int) : Int))))), .eq (.bool false)] rfl (by kernel_rfl) ?_ ?_
          · refine sv 1 rfl rfl rfl (fun a u hE hD hk => exec_move (.tmp 4) _ rfl (hE 4 (.int .i64 (m : Int)) (by kernel_rfl) (by kernel_rfl))) ?_
            refine sv 2 rfl rfl rfl (fun a u hE hD hk => exec_ltn (p := (m : Int)) (q := 0) rfl (hD 0 45 (by kernel_rfl)) rfl) ?_
            refine sv 3 rfl rfl rfl (fun a u hE hD hk => exec_move (.tmp 46) _ rfl (hD 1 46 (by kernel_rfl))) ?_
            refine fsteps_cons 4 rfl (fun a u hE hD hk => f_unless ((decide (((m : Int) : Int) < (0 : Int)))) rfl rfl rfl (hD 2 47 (by kernel_rfl)) (fun hb => f_val (o := ⟨some 48, _, _, _, _, _⟩) (.int .i64 (m : Int)) rfl (wanted_b rfl rfl (hD 2 47 (by kernel_rfl)) (eq_false_of hb)) (exec_move (.tmp 4) _ rfl (hE 4 (.int .i64 (m : Int)) (by kernel_rfl) (by kernel_rfl))) rfl)) ?_
            refine fsteps_cons 5 rfl (fun a u hE hD hk => f_unless ((decide (((m : Int) : Int) < (0 : Int)))) rfl rfl rfl (hD 2 47 (by kernel_rfl)) (fun hb => f_val (o := ⟨some 49, _, _, _, _, _⟩) (.bool (decide ((8 : Int) ≤ ((m : Int) : Int)))) rfl (wanted_b rfl rfl (hD 2 47 (by kernel_rfl)) (eq_false_of hb)) (exec_gen (p := (m : Int)) (q := 8) rfl ((hD 3 48 (by kernel_rfl)).1 hb) rfl) rfl)) ?_
            refine fsteps_cons 6 rfl (fun a u hE hD hk => f_as (show (((decide (((m : Int) : Int) < (0 : Int))) || (decide ((8 : Int) ≤ ((m : Int) : Int)))) : Bool) = false from (by rw [Bool.or_eq_false_iff]; simp only [decide_eq_false_iff_not]; omega)) (f_val (o := ⟨some 50, _, _, _, _, _⟩) (.bool ((decide (((m : Int) : Int) < (0 : Int))) || (decide ((8 : Int) ≤ ((m : Int) : Int))))) rfl (wanted_none rfl _) (exec_pickor (.tmp 47) (.const (.bool true)) (.tmp 49) ((decide (((m : Int) : Int) < (0 : Int)))) ((decide ((8 : Int) ≤ ((m : Int) : Int)))) rfl (hD 2 47 (by kernel_rfl)) rfl (fun hb2 => ((hD 4 49 (by kernel_rfl)).1 hb2))) rfl)) ?_
            exact fsteps_nil
          intro gv v4w hV kv4
          rw [show dstsOf _ 6 = [45, 46, 47, 48, 49, 50] by kernel_rfl]
          simp only [List.foldl_cons, List.foldl_nil, List.setIfInBounds_toArray, List.set_cons_succ, List.set_cons_zero, List.drop_succ_cons, List.drop_zero]
          rw [show gv 50 = .bool false from hV 5 50 (by kernel_rfl)]
          clear hV
          refine wpList_nil ?_
          have T_4 := Lib.hid (T_3.out.kept kv4)
          have R7_4 := Lib.hid (range_kept R7_3.out kv4)
          have R13_4 := Lib.hid (range_kept R13_3.out kv4)
          have kk4 := kk3.trans kv4
          clear T_3 R7_3 R13_3 kv4 kk3
          go_upto_region 10 with fail
          refine wp_text 12 [.eq (.pointer (some ⟨g13, 2, none⟩)), .eq (.int .i64 x.roles), .eq (.int .i64 (anI x.roles 1)), .eq (.bool (decide (((anI x.roles 1) : Int) = (0 : Int)))), .eq (.bool (decide (((anI x.roles 1) : Int) = (0 : Int)))), .cond (!(decide (((anI x.roles 1) : Int) = (0 : Int)))) (.eq (.pointer (some ⟨g13, 3, none⟩))), .cond (!(decide (((anI x.roles 1) : Int) = (0 : Int)))) (.eq (.int .i64 x.insts)), .cond (!(decide (((anI x.roles 1) : Int) = (0 : Int)))) (.eq (.int .i64 (m : Int))), .cond (!(decide (((anI x.roles 1) : Int) = (0 : Int)))) (.eq (.int .i64 (shI x.insts (m : Int)))), .cond (!(decide (((anI x.roles 1) : Int) = (0 : Int)))) (.eq (.int .i64 (anI (shI x.insts (m : Int)) 1))), .cond (!(decide (((anI x.roles 1) : Int) = (0 : Int)))) (.eq (.bool (decide (((anI (shI x.insts (m : Int)) 1) : Int) = (0 : Int))))), .eq (.bool c)] rfl (by kernel_rfl) ?_ ?_
          · refine sv 1 rfl rfl rfl (fun a u hE hD hk => exec_fldo 35 2 2 (.tmp 13) (g13) (0) (2) rfl (hE 13 (.pointer (some ⟨g13, 0, none⟩)) (by kernel_rfl) (by kernel_rfl)) (by kernel_rfl) rfl) ?_
            refine sv 2 rfl rfl rfl (fun a u hE hD hk => exec_loadi 3 Tryd.underlying3 (.tmp 51) ⟨g13, 2, none⟩ (.int .i64 x.roles) rfl (hD 0 51 (by kernel_rfl)) ((range_kept (R13_4.out) hk) 2 _ rfl)) ?_
            refine sv 3 rfl rfl rfl (fun a u hE hD hk => exec_andI (.tmp 52) (.const (.int .i64 1)) _ _ x.roles 1 rfl (hD 1 52 (by kernel_rfl)) rfl) ?_
            refine sv 4 rfl rfl rfl (fun a u hE hD hk => exec_eqn (p := (anI x.roles 1)) (q := 0) rfl (hD 2 53 (by kernel_rfl)) rfl) ?_
            refine sv 5 rfl rfl rfl (fun a u hE hD hk => exec_move (.tmp 54) _ rfl (hD 3 54 (by kernel_rfl))) ?_
            refine fsteps_cons 6 rfl (fun a u hE hD hk => f_unless ((decide (((anI x.roles 1) : Int) = (0 : Int)))) rfl rfl rfl (hD 4 55 (by kernel_rfl)) (fun hb => f_val (o := ⟨some 56, _, _, _, _, _⟩) (.pointer (some ⟨g13, 3, none⟩)) rfl (wanted_b rfl rfl (hD 4 55 (by kernel_rfl)) (eq_false_of hb)) (exec_fldo 35 3 3 (.tmp 13) (g13) (0) (3) rfl (hE 13 (.pointer (some ⟨g13, 0, none⟩)) (by kernel_rfl) (by kernel_rfl)) (by kernel_rfl) rfl) rfl)) ?_
            refine fsteps_cons 7 rfl (fun a u hE hD hk => f_unless ((decide (((anI x.roles 1) : Int) = (0 : Int)))) rfl rfl rfl (hD 4 55 (by kernel_rfl)) (fun hb => f_val (o := ⟨some 57, _, _, _, _, _⟩) (.int .i64 x.insts) rfl (wanted_b rfl rfl (hD 4 55 (by kernel_rfl)) (eq_false_of hb)) (exec_loadi 3 Tryd.underlying3 (.tmp 56) ⟨g13, 3, none⟩ (.int .i64 x.insts) rfl ((hD 5 56 (by kernel_rfl)).1 hb) ((range_kept (R13_4.out) hk) 3 _ rfl)) rfl)) ?_
            refine fsteps_cons 8 rfl (fun a u hE hD hk => f_unless ((decide (((anI x.roles 1) : Int) = (0 : Int)))) rfl rfl rfl (hD 4 55 (by kernel_rfl)) (fun hb => f_val (o := ⟨some 58, _, _, _, _, _⟩) (.int .i64 (m : Int)) rfl (wanted_b rfl rfl (hD 4 55 (by kernel_rfl)) (eq_false_of hb)) (exec_move (.tmp 4) _ rfl (hE 4 (.int .i64 (m : Int)) (by kernel_rfl) (by kernel_rfl))) rfl)) ?_
            refine fsteps_cons 9 rfl (fun a u hE hD hk => f_unless ((decide (((anI x.roles 1) : Int) = (0 : Int)))) rfl rfl rfl (hD 4 55 (by kernel_rfl)) (fun hb => f_val (o := ⟨some 59, _, _, _, _, _⟩) (.int .i64 (shI x.insts (m : Int))) rfl (wanted_b rfl rfl (hD 4 55 (by kernel_rfl)) (eq_false_of hb)) (exec_shrI (.tmp 57) (.tmp 58) _ _ x.insts (m : Int) rfl ((hD 6 57 (by kernel_rfl)).1 hb) ((hD 7 58 (by kernel_rfl)).1 hb) (by omega)) rfl)) ?_
            refine fsteps_cons 10 rfl (fun a u hE hD hk => f_unless ((decide (((anI x.roles 1) : Int) = (0 : Int)))) rfl rfl rfl (hD 4 55 (by kernel_rfl)) (fun hb => f_val (o := ⟨some 60, _, _, _, _, _⟩) (.int .i64 (anI (shI x.insts (m : Int)) 1)) rfl (wanted_b rfl rfl (hD 4 55 (by kernel_rfl)) (eq_false_of hb)) (exec_andI (.tmp 59) (.const (.int .i64 1)) _ _ (shI x.insts (m : Int)) 1 rfl ((hD 8 59 (by kernel_rfl)).1 hb) rfl) rfl)) ?_
            refine fsteps_cons 11 rfl (fun a u hE hD hk => f_unless ((decide (((anI x.roles 1) : Int) = (0 : Int)))) rfl rfl rfl (hD 4 55 (by kernel_rfl)) (fun hb => f_val (o := ⟨some 61, _, _, _, _, _⟩) (.bool (decide (((anI (shI x.insts (m : Int)) 1) : Int) = (0 : Int)))) rfl (wanted_b rfl rfl (hD 4 55 (by kernel_rfl)) (eq_false_of hb)) (exec_eqn (p := (anI (shI x.insts (m : Int)) 1)) (q := 0) rfl ((hD 9 60 (by kernel_rfl)).1 hb) rfl) rfl)) ?_
            refine fsteps_cons 12 rfl (fun a u hE hD hk => f_as (show (((decide (((anI x.roles 1) : Int) = (0 : Int))) || (decide (((anI (shI x.insts (m : Int)) 1) : Int) = (0 : Int)))) : Bool) = c from HC.out) (f_val (o := ⟨some 62, _, _, _, _, _⟩) (.bool ((decide (((anI x.roles 1) : Int) = (0 : Int))) || (decide (((anI (shI x.insts (m : Int)) 1) : Int) = (0 : Int))))) rfl (wanted_none rfl _) (exec_pickor (.tmp 55) (.const (.bool true)) (.tmp 61) ((decide (((anI x.roles 1) : Int) = (0 : Int)))) ((decide (((anI (shI x.insts (m : Int)) 1) : Int) = (0 : Int)))) rfl (hD 4 55 (by kernel_rfl)) rfl (fun hb2 => ((hD 10 61 (by kernel_rfl)).1 hb2))) rfl)) ?_
            exact fsteps_nil
          intro gv v5w hV kv5
          rw [show dstsOf _ 12 = [51, 52, 53, 54, 55, 56, 57, 58, 59, 60, 61, 62] by kernel_rfl]
          simp only [List.foldl_cons, List.foldl_nil, List.setIfInBounds_toArray, List.set_cons_succ, List.set_cons_zero, List.drop_succ_cons, List.drop_zero]
          rw [show gv 62 = .bool c from hV 11 62 (by kernel_rfl)]
          clear hV
          refine wpList_nil ?_
          have T_5 := Lib.hid (T_4.out.kept kv5)
          have R7_5 := Lib.hid (range_kept R7_4.out kv5)
          have R13_5 := Lib.hid (range_kept R13_4.out kv5)
          have kk5 := kk4.trans kv5
          clear T_4 R7_4 R13_4 kv5 kk4
          cases c with
          | true =>
            have HV6 : Hid (V = 7) := by show _ = _; rw [← HV5.out, if_pos rfl]
            go_wp2
            go_ret
            exact ⟨by rw [HV6.out]; rfl, kk5⟩
          | false =>
            go_upto_region 12 with fail
            refine wp_text 4 [.eq (.int .i64 (m : Int)), .eq (.pointer (some ⟨g7, 0, none⟩)), .eq (.pointer (some ⟨g7, m, none⟩)), .eq (.bool H)] rfl (by kernel_rfl) ?_ ?_
            · refine sv 1 rfl rfl rfl (fun a u hE hD hk => exec_move (.tmp 4) _ rfl (hE 4 (.int .i64 (m : Int)) (by kernel_rfl) (by kernel_rfl))) ?_
              refine sv 2 rfl rfl rfl (fun a u hE hD hk => exec_fldo 29 0 0 (.tmp 7) (g7) (0) (0) rfl (hE 7 (.pointer (some ⟨g7, 0, none⟩)) (by kernel_rfl) (by kernel_rfl)) (by kernel_rfl) rfl) ?_
              refine sv 3 rfl rfl rfl (fun a u hE hD hk => exec_ixC 26 4 8 (.tmp 64) (.tmp 63) g7 0 m m (m : Int) rfl Tryd.underlying26 (by kernel_rfl) (hD 1 64 (by kernel_rfl)) (hD 0 63 (by kernel_rfl)) rfl hm (Nat.zero_add m)) ?_
              refine sv 4 rfl rfl rfl (fun a u hE hD hk => exec_ldb 4 Tryd.underlying4 (.tmp 65) ⟨g7, m, none⟩ (.bool H) rfl (hD 2 65 (by kernel_rfl)) (by have h_ := range_kept R7_5.out hk m _ HAH.out; rwa [Nat.zero_add] at h_)) ?_
              exact fsteps_nil
            intro gv v6w hV kv6
            rw [show dstsOf _ 4 = [63, 64, 65, 66] by kernel_rfl]
            simp only [List.foldl_cons, List.foldl_nil, List.setIfInBounds_toArray, List.set_cons_succ, List.set_cons_zero, List.drop_succ_cons, List.drop_zero]
            rw [show gv 66 = .bool H from hV 3 66 (by kernel_rfl)]
            clear hV
            refine wpList_nil ?_
            have T_6 := Lib.hid (T_5.out.kept kv6)
            have R7_6 := Lib.hid (range_kept R7_5.out kv6)
            have R13_6 := Lib.hid (range_kept R13_5.out kv6)
            have kk6 := kk5.trans kv6
            clear T_5 R7_5 R13_5 kv6 kk5
            cases H with
            | true =>
              have HV6 : Hid (V = 9) := by show _ = _; rw [← HV5.out]; rfl
              go_wp2
              go_ret
              exact ⟨by rw [HV6.out]; rfl, kk6⟩
            | false =>
              have HV6 : Hid (V = 0) := by show _ = _; rw [← HV5.out]; rfl
              go_wp2
              go_ret
              exact ⟨by rw [HV6.out]; rfl, kk6⟩
      · by_cases hd2 : d = 2
        · have HV4 : Hid ((if X.there other = true then okV (cancelB x (X.get other) p n other) else 6) = V) := by show _ = _; rw [← HV3.out, if_neg hd1, if_pos hd2]
          clear HV3
          go_upto_region 7 with fail
          refine wp_text 2 [.eq (.bool false), .eq (.bool false)] rfl (by kernel_rfl) ?_ ?_
          · refine fsteps_cons 1 rfl (fun a u hE hD hk => f_as (show ((decide ((d : Int) = (1 : Int))) : Bool) = false from decide_eq_false (by omega)) (f_val (o := ⟨some 44, _, _, _, _, _⟩) (.bool (decide ((d : Int) = (1 : Int)))) rfl (wanted_none rfl _) (exec_eqn (p := d) (q := 1) rfl (hE 42 (.int .i64 d) (by kernel_rfl) (by kernel_rfl)) rfl) rfl)) ?_
            refine sv 2 rfl rfl rfl (fun a u hE hD hk => exec_assign (.tmp 44) _ rfl (hD 0 44 (by kernel_rfl))) ?_
            exact fsteps_nil
          intro gv v3w hV kv3
          rw [show dstsOf _ 2 = [44, 43] by kernel_rfl]
          simp only [List.foldl_cons, List.foldl_nil, List.setIfInBounds_toArray, List.set_cons_succ, List.set_cons_zero, List.drop_succ_cons, List.drop_zero]
          rw [show gv 43 = .bool false from hV 1 43 (by kernel_rfl)]
          clear hV
          refine wpList_nil ?_
          have T_3 := Lib.hid (T_2.out.kept kv3)
          have R7_3 := Lib.hid (range_kept R7_2.out kv3)
          have R13_3 := Lib.hid (range_kept R13_2.out kv3)
          have kk3 := kk2.trans kv3
          clear T_2 R7_2 R13_2 kv3 kk2
          go_upto_region 15 with fail
          refine wp_text 2 [.eq (.bool true), .eq (.bool true)] rfl (by kernel_rfl) ?_ ?_
          · refine fsteps_cons 1 rfl (fun a u hE hD hk => f_as (show ((decide ((d : Int) = (2 : Int))) : Bool) = true from decide_eq_true (by omega)) (f_val (o := ⟨some 68, _, _, _, _, _⟩) (.bool (decide ((d : Int) = (2 : Int)))) rfl (wanted_none rfl _) (exec_eqn (p := d) (q := 2) rfl (hE 42 (.int .i64 d) (by kernel_rfl) (by kernel_rfl)) rfl) rfl)) ?_
            refine sv 2 rfl rfl rfl (fun a u hE hD hk => exec_assign (.tmp 68) _ rfl (hD 0 68 (by kernel_rfl))) ?_
            exact fsteps_nil
          intro gv v4w hV kv4
          rw [show dstsOf _ 2 = [68, 67] by kernel_rfl]
          simp only [List.foldl_cons, List.foldl_nil, List.setIfInBounds_toArray, List.set_cons_succ, List.set_cons_zero, List.drop_succ_cons, List.drop_zero]
          rw [show gv 67 = .bool true from hV 1 67 (by kernel_rfl)]
          clear hV
          refine wpList_nil ?_
          have T_4 := Lib.hid (T_3.out.kept kv4)
          have R7_4 := Lib.hid (range_kept R7_3.out kv4)
          have R13_4 := Lib.hid (range_kept R13_3.out kv4)
          have kk4 := kk3.trans kv4
          clear T_3 R7_3 R13_3 kv4 kk3
          cases ho : X.there other with
          | false =>
            have HV5 : Hid (V = 6) := by show _ = _; rw [← HV4.out, if_neg (by rw [ho]; simp)]
            have HO := Lib.hid ho
            clear HV4 ho
            go_upto_region 16 with fail
            refine wp_text 4 [.eq (.pointer (some ⟨q, 0, none⟩)), .eq (.int .i64 other), .eq (.bool false), .eq (.bool true)] rfl (by kernel_rfl) ?_ ?_
            · refine sv 1 rfl rfl rfl (fun a u hE hD hk => exec_move (.tmp 0) _ rfl (hE 0 (.pointer (some ⟨q, 0, none⟩)) (by kernel_rfl) (by kernel_rfl))) ?_
              refine sv 2 rfl rfl rfl (fun a u hE hD hk => exec_move (.tmp 5) _ rfl (hE 5 (.int .i64 other) (by kernel_rfl) (by kernel_rfl))) ?_
              refine fsteps_cons 3 rfl (fun a u hE hD hk => f_call (o := ⟨some 71, _, _, _, _, _⟩) 24 #[.pointer (some ⟨q, 0, none⟩), .int .i64 other] rfl (wanted_none rfl _) (exec_call 24 _ [.tmp 69, .tmp 70] _ [.pointer (some ⟨q, 0, none⟩), .int .i64 other] Tryd.func24 (by kernel_rfl) (by kernel_rfl) rfl (show [a.eval (.tmp 69), a.eval (.tmp 70)] = [.pointer (some ⟨q, 0, none⟩), .int .i64 other] from (by rw [show a.eval (.tmp 69) = .pointer (some ⟨q, 0, none⟩) from (hD 0 69 (by kernel_rfl)), show a.eval (.tmp 70) = .int .i64 other from (hD 1 70 (by kernel_rfl))] <;> rfl)) u) (by rw [← HO.out]; exact rthere_any u q X other (T_4.out.kept hk))) ?_
              refine sv 4 rfl rfl rfl (fun a u hE hD hk => exec_not _ (.tmp 71) false rfl (hD 2 71 (by kernel_rfl))) ?_
              exact fsteps_nil
            intro gv v5w hV kv5
            rw [show dstsOf _ 4 = [69, 70, 71, 72] by kernel_rfl]
            simp only [List.foldl_cons, List.foldl_nil, List.setIfInBounds_toArray, List.set_cons_succ, List.set_cons_zero, List.drop_succ_cons, List.drop_zero]
            rw [show gv 72 = .bool true from hV 3 72 (by kernel_rfl)]
            clear hV
            refine wpList_nil ?_
            have T_5 := Lib.hid (T_4.out.kept kv5)
            have R7_5 := Lib.hid (range_kept R7_4.out kv5)
            have R13_5 := Lib.hid (range_kept R13_4.out kv5)
            have kk5 := kk4.trans kv5
            clear T_4 R7_4 R13_4 kv5 kk4
            go_wp2
            go_ret
            exact ⟨by rw [HV5.out]; rfl, kk5⟩
          | true =>
            obtain ⟨l, hl, hol⟩ := there_lt ho
            obtain ⟨y, hy⟩ : ∃ y, X.get other = y := ⟨_, rfl⟩
            have hfy := (HX.out.facts ho).1
            rw [hy] at hfy
            have HV5 : Hid (okV (cancelB x y p n other) = V) := by show _ = _; rw [← HV4.out, if_pos ho, hy]
            have HO := Lib.hid ho
            have HAY : Hid (X.at_ l = y) := by show _ = _; rw [← hy, hol, get_in (by rw [← hol]; exact ho)]
            have HOL := Lib.hid hol
            clear HV4 ho hy hol
            go_upto_region 16 with fail
            refine wp_text 4 [.eq (.pointer (some ⟨q, 0, none⟩)), .eq (.int .i64 other), .eq (.bool true), .eq (.bool false)] rfl (by kernel_rfl) ?_ ?_
            · refine sv 1 rfl rfl rfl (fun a u hE hD hk => exec_move (.tmp 0) _ rfl (hE 0 (.pointer (some ⟨q, 0, none⟩)) (by kernel_rfl) (by kernel_rfl))) ?_
              refine sv 2 rfl rfl rfl (fun a u hE hD hk => exec_move (.tmp 5) _ rfl (hE 5 (.int .i64 other) (by kernel_rfl) (by kernel_rfl))) ?_
              refine fsteps_cons 3 rfl (fun a u hE hD hk => f_call (o := ⟨some 71, _, _, _, _, _⟩) 24 #[.pointer (some ⟨q, 0, none⟩), .int .i64 other] rfl (wanted_none rfl _) (exec_call 24 _ [.tmp 69, .tmp 70] _ [.pointer (some ⟨q, 0, none⟩), .int .i64 other] Tryd.func24 (by kernel_rfl) (by kernel_rfl) rfl (show [a.eval (.tmp 69), a.eval (.tmp 70)] = [.pointer (some ⟨q, 0, none⟩), .int .i64 other] from (by rw [show a.eval (.tmp 69) = .pointer (some ⟨q, 0, none⟩) from (hD 0 69 (by kernel_rfl)), show a.eval (.tmp 70) = .int .i64 other from (hD 1 70 (by kernel_rfl))] <;> rfl)) u) (by rw [← HO.out]; exact rthere_any u q X other (T_4.out.kept hk))) ?_
              refine sv 4 rfl rfl rfl (fun a u hE hD hk => exec_not _ (.tmp 71) true rfl (hD 2 71 (by kernel_rfl))) ?_
              exact fsteps_nil
            intro gv v5w hV kv5
            rw [show dstsOf _ 4 = [69, 70, 71, 72] by kernel_rfl]
            simp only [List.foldl_cons, List.foldl_nil, List.setIfInBounds_toArray, List.set_cons_succ, List.set_cons_zero, List.drop_succ_cons, List.drop_zero]
            rw [show gv 72 = .bool false from hV 3 72 (by kernel_rfl)]
            clear hV
            refine wpList_nil ?_
            have T_5 := Lib.hid (T_4.out.kept kv5)
            have R7_5 := Lib.hid (range_kept R7_4.out kv5)
            have R13_5 := Lib.hid (range_kept R13_4.out kv5)
            have kk5 := kk4.trans kv5
            clear T_4 R7_4 R13_4 kv5 kk4
            go_upto_region 18 with fail
            refine wp_text 6 [.eq (.pointer (some ⟨q, 0, none⟩)), .eq (.int .i64 other), .eq (.pointer (some ⟨q, 0, none⟩)), .eq (.pointer (some ⟨q, 0, none⟩)), .eq (.pointer (some ⟨q, l * 37, none⟩)), .eq (y.v)] rfl (by kernel_rfl) ?_ ?_
            · refine sv 1 rfl rfl rfl (fun a u hE hD hk => exec_move (.tmp 0) _ rfl (hE 0 (.pointer (some ⟨q, 0, none⟩)) (by kernel_rfl) (by kernel_rfl))) ?_
              refine sv 2 rfl rfl rfl (fun a u hE hD hk => exec_move (.tmp 5) _ rfl (hE 5 (.int .i64 other) (by kernel_rfl) (by kernel_rfl))) ?_
              refine sv 3 rfl rfl rfl (fun a u hE hD hk => exec_nilp (.tmp 73) ⟨q, 0, none⟩ rfl (hD 0 73 (by kernel_rfl))) ?_
              refine sv 4 rfl rfl rfl (fun a u hE hD hk => exec_fldo 60 0 0 (.tmp 75) (q) (0) (0) rfl (hD 2 75 (by kernel_rfl)) (by kernel_rfl) rfl) ?_
              refine sv 5 rfl rfl rfl (fun a u hE hD hk => exec_ixA (.tmp 76) (.tmp 74) q l other rfl (hD 3 76 (by kernel_rfl)) (hD 1 74 (by kernel_rfl)) HOL.out hl) ?_
              refine sv 6 rfl rfl rfl (fun a u hE hD hk => exec_ldS 35 _ (.tmp 77) (q) (l * 37) (y.cells) rfl (hD 4 77 (by kernel_rfl)) (range_kept ((by rw [← HAY.out]; exact trds_range T_5.out hl)) hk) Tryd.underlying35 (by rw [Trd.len37]; exact szT)) ?_
              exact fsteps_nil
            intro gv wa hV ka
            rw [show dstsOf _ 6 = [73, 74, 75, 76, 77, 78] by kernel_rfl]
            simp only [List.foldl_cons, List.foldl_nil, List.setIfInBounds_toArray, List.set_cons_succ, List.set_cons_zero, List.drop_succ_cons, List.drop_zero]
            rw [show gv 78 = y.v from hV 5 78 (by kernel_rfl)]
            clear hV
            refine l_new (o := ⟨some 14, _, _, _, _, _⟩) (.pointer (some ⟨wa.heap.size, 0, none⟩)) (wa.alloc (.cells zeroT.cells.toArray 35)) rfl (exec_alc 35 zeroT.cells rfl zT) ?_
            have hNa := Blk.new wa 35 zeroT.cells
            have kb : Kept wa (wa.alloc (.cells zeroT.cells.toArray 35)) := (Keep.refl _ wa).alloc _
            generalize wa.alloc (.cells zeroT.cells.toArray 35) = wb at hNa kb ⊢
            simp only [Act.put, List.setIfInBounds_toArray, List.set_cons_succ, List.set_cons_zero]
            refine l_setS (o := ⟨none, _, _, _, _, _⟩) 35 wa.heap.size 35 zeroT.cells y.cells (.tmp 14) (.tmp 78) rfl rfl (by kernel_rfl) (by kernel_rfl) hNa (by rw [Trd.len37]; exact szT) (by rw [Trd.len37, Trd.len37]) (Trd.one _) ?_
            intro w9 hCw9 hkw9 hsw9
            simp only [Act.put]
            refine wpList_nil ?_
            obtain ⟨g14, hg14⟩ : ∃ a, wa.heap.size = a := ⟨_, rfl⟩
            rw [hg14] at hNa hCw9 hkw9 ⊢
            have zka := ka.size
            have kw9 : Kept v5w w9 := (ka.trans kb).trans' hkw9 (by omega)
            have HX14 := Lib.hid (blk_range hCw9)
            clear hNa hCw9 hkw9 hsw9 kb ka zka hg14
            have HW7 := Lib.hid (range_kept R7_5.out kw9)
            have HW13 := Lib.hid (range_kept R13_5.out kw9)
            have kz9 := kk5.trans kw9
            clear T_5 R7_5 R13_5 kk5 kw9
            obtain ⟨c1, hc1⟩ : ∃ c, decide ((other : Int) = (n : Int)) = c := ⟨_, rfl⟩
            obtain ⟨c2, hc2⟩ : ∃ c, decide ((anI x.roles 8 : Int) ≠ (0 : Int)) = c := ⟨_, rfl⟩
            obtain ⟨c3, hc3⟩ : ∃ c, (decide ((anI x.roles 4 : Int) ≠ (0 : Int)) && decide ((y.firm : Int) = (x.firm : Int))) = c := ⟨_, rfl⟩
            obtain ⟨c4, hc4⟩ : ∃ c, ((decide ((anI x.roles 2 : Int) ≠ (0 : Int)) && decide ((y.firm : Int) = (x.firm : Int))) && decide ((y.desk : Int) = (x.desk : Int))) = c := ⟨_, rfl⟩
            obtain ⟨c5, hc5⟩ : ∃ c, (decide ((anI x.roles 4 : Int) ≠ (0 : Int)) && decide ((anI (shI G y.firm) 1 : Int) = (1 : Int))) = c := ⟨_, rfl⟩
            have HV6 : Hid (okV ((((c1 || c2) || c3) || c4) || c5) = V) := by show _ = _; rw [← HV5.out]; unfold cancelB; rw [HQ.out, hc1, hc2, hc3, hc4, hc5]
            have HC1 := Lib.hid hc1
            have HC2 := Lib.hid hc2
            have HC3 := Lib.hid hc3
            have HC4 := Lib.hid hc4
            have HC5 := Lib.hid hc5
            clear HV5 hc1 hc2 hc3 hc4 hc5
            go_upto_region 20 with fail
            refine wp_text 4 [.eq (.int .i64 other), .eq (.int .i64 n), .eq (.bool c1), .eq (.bool c1)] rfl (by kernel_rfl) ?_ ?_
            · refine sv 1 rfl rfl rfl (fun a u hE hD hk => exec_move (.tmp 5) _ rfl (hE 5 (.int .i64 other) (by kernel_rfl) (by kernel_rfl))) ?_
              refine sv 2 rfl rfl rfl (fun a u hE hD hk => exec_move (.tmp 2) _ rfl (hE 2 (.int .i64 n) (by kernel_rfl) (by kernel_rfl))) ?_
              refine fsteps_cons 3 rfl (fun a u hE hD hk => f_as (show ((decide ((other : Int) = (n : Int))) : Bool) = c1 from HC1.out) (f_val (o := ⟨some 82, _, _, _, _, _⟩) (.bool (decide ((other : Int) = (n : Int)))) rfl (wanted_none rfl _) (exec_eqn (p := other) (q := n) rfl (hD 0 80 (by kernel_rfl)) (hD 1 81 (by kernel_rfl))) rfl)) ?_
              refine sv 4 rfl rfl rfl (fun a u hE hD hk => exec_assign (.tmp 82) _ rfl (hD 2 82 (by kernel_rfl))) ?_
              exact fsteps_nil
            intro gv v21w hV kv21
            rw [show dstsOf _ 4 = [80, 81, 82, 79] by kernel_rfl]
            simp only [List.foldl_cons, List.foldl_nil, List.setIfInBounds_toArray, List.set_cons_succ, List.set_cons_zero, List.drop_succ_cons, List.drop_zero]
            rw [show gv 79 = .bool c1 from hV 3 79 (by kernel_rfl)]
            clear hV
            refine wpList_nil ?_
            have R7_21 := Lib.hid (range_kept HW7.out kv21)
            have R13_21 := Lib.hid (range_kept HW13.out kv21)
            have R14_21 := Lib.hid (range_kept HX14.out kv21)
            have kk21 := kz9.trans kv21
            clear HW7 HW13 HX14 kv21 kz9
            cases c1 with
            | true =>
              have HV7 : Hid (V = 0) := by show _ = _; rw [← HV6.out]; simp [okV]
              go_wp2
              go_ret
              exact ⟨by rw [HV7.out]; rfl, kk21⟩
            | false =>
              go_upto_region 21 with fail
              refine wp_text 5 [.eq (.pointer (some ⟨g13, 2, none⟩)), .eq (.int .i64 x.roles), .eq (.int .i64 (anI x.roles 8)), .eq (.bool c2), .eq (.bool c2)] rfl (by kernel_rfl) ?_ ?_
              · refine sv 1 rfl rfl rfl (fun a u hE hD hk => exec_fldo 35 2 2 (.tmp 13) (g13) (0) (2) rfl (hE 13 (.pointer (some ⟨g13, 0, none⟩)) (by kernel_rfl) (by kernel_rfl)) (by kernel_rfl) rfl) ?_
                refine sv 2 rfl rfl rfl (fun a u hE hD hk => exec_loadi 3 Tryd.underlying3 (.tmp 84) ⟨g13, 2, none⟩ (.int .i64 x.roles) rfl (hD 0 84 (by kernel_rfl)) ((range_kept (R13_21.out) hk) 2 _ rfl)) ?_
                refine sv 3 rfl rfl rfl (fun a u hE hD hk => exec_andI (.tmp 85) (.const (.int .i64 8)) _ _ x.roles 8 rfl (hD 1 85 (by kernel_rfl)) rfl) ?_
                refine fsteps_cons 4 rfl (fun a u hE hD hk => f_as (show ((decide (((anI x.roles 8) : Int) ≠ (0 : Int))) : Bool) = c2 from HC2.out) (f_val (o := ⟨some 87, _, _, _, _, _⟩) (.bool (decide (((anI x.roles 8) : Int) ≠ (0 : Int)))) rfl (wanted_none rfl _) (exec_nen (p := (anI x.roles 8)) (q := 0) rfl (hD 2 86 (by kernel_rfl)) rfl) rfl)) ?_
                refine sv 5 rfl rfl rfl (fun a u hE hD hk => exec_assign (.tmp 87) _ rfl (hD 3 87 (by kernel_rfl))) ?_
                exact fsteps_nil
              intro gv v22w hV kv22
              rw [show dstsOf _ 5 = [84, 85, 86, 87, 83] by kernel_rfl]
              simp only [List.foldl_cons, List.foldl_nil, List.setIfInBounds_toArray, List.set_cons_succ, List.set_cons_zero, List.drop_succ_cons, List.drop_zero]
              rw [show gv 83 = .bool c2 from hV 4 83 (by kernel_rfl)]
              clear hV
              refine wpList_nil ?_
              have R7_22 := Lib.hid (range_kept R7_21.out kv22)
              have R13_22 := Lib.hid (range_kept R13_21.out kv22)
              have R14_22 := Lib.hid (range_kept R14_21.out kv22)
              have kk22 := kk21.trans kv22
              clear R7_21 R13_21 R14_21 kv22 kk21
              cases c2 with
              | true =>
                have HV7 : Hid (V = 0) := by show _ = _; rw [← HV6.out]; simp [okV]
                go_wp2
                go_ret
                exact ⟨by rw [HV7.out]; rfl, kk22⟩
              | false =>
                go_upto_region 22 with fail
                refine wp_text 12 [.eq (.pointer (some ⟨g13, 2, none⟩)), .eq (.int .i64 x.roles), .eq (.int .i64 (anI x.roles 4)), .eq (.bool (decide (((anI x.roles 4) : Int) ≠ (0 : Int)))), .eq (.bool (decide (((anI x.roles 4) : Int) ≠ (0 : Int)))), .cond (decide (((anI x.roles 4) : Int) ≠ (0 : Int))) (.eq (.pointer (some ⟨g14, 0, none⟩))), .cond (decide (((anI x.roles 4) : Int) ≠ (0 : Int))) (.eq (.int .i64 y.firm)), .cond (decide (((anI x.roles 4) : Int) ≠ (0 : Int))) (.eq (.pointer (some ⟨g13, 0, none⟩))), .cond (decide (((anI x.roles 4) : Int) ≠ (0 : Int))) (.eq (.int .i64 x.firm)), .cond (decide (((anI x.roles 4) : Int) ≠ (0 : Int))) (.eq (.bool (decide ((y.firm : Int) = (x.firm : Int))))), .eq (.bool c3), .eq (.bool c3)] rfl (by kernel_rfl) ?_ ?_
                · refine sv 1 rfl rfl rfl (fun a u hE hD hk => exec_fldo 35 2 2 (.tmp 13) (g13) (0) (2) rfl (hE 13 (.pointer (some ⟨g13, 0, none⟩)) (by kernel_rfl) (by kernel_rfl)) (by kernel_rfl) rfl) ?_
                  refine sv 2 rfl rfl rfl (fun a u hE hD hk => exec_loadi 3 Tryd.underlying3 (.tmp 89) ⟨g13, 2, none⟩ (.int .i64 x.roles) rfl (hD 0 89 (by kernel_rfl)) ((range_kept (R13_22.out) hk) 2 _ rfl)) ?_
                  refine sv 3 rfl rfl rfl (fun a u hE hD hk => exec_andI (.tmp 90) (.const (.int .i64 4)) _ _ x.roles 4 rfl (hD 1 90 (by kernel_rfl)) rfl) ?_
                  refine sv 4 rfl rfl rfl (fun a u hE hD hk => exec_nen (p := (anI x.roles 4)) (q := 0) rfl (hD 2 91 (by kernel_rfl)) rfl) ?_
                  refine sv 5 rfl rfl rfl (fun a u hE hD hk => exec_move (.tmp 92) _ rfl (hD 3 92 (by kernel_rfl))) ?_
                  refine fsteps_cons 6 rfl (fun a u hE hD hk => f_if ((decide (((anI x.roles 4) : Int) ≠ (0 : Int)))) rfl rfl rfl (hD 4 93 (by kernel_rfl)) (fun hb => f_val (o := ⟨some 94, _, _, _, _, _⟩) (.pointer (some ⟨g14, 0, none⟩)) rfl (wanted_b rfl rfl (hD 4 93 (by kernel_rfl)) (eq_true_of hb)) (exec_fldo 35 0 0 (.tmp 14) (g14) (0) (0) rfl (hE 14 (.pointer (some ⟨g14, 0, none⟩)) (by kernel_rfl) (by kernel_rfl)) (by kernel_rfl) rfl) rfl)) ?_
                  refine fsteps_cons 7 rfl (fun a u hE hD hk => f_if ((decide (((anI x.roles 4) : Int) ≠ (0 : Int)))) rfl rfl rfl (hD 4 93 (by kernel_rfl)) (fun hb => f_val (o := ⟨some 95, _, _, _, _, _⟩) (.int .i64 y.firm) rfl (wanted_b rfl rfl (hD 4 93 (by kernel_rfl)) (eq_true_of hb)) (exec_loadi 3 Tryd.underlying3 (.tmp 94) ⟨g14, 0, none⟩ (.int .i64 y.firm) rfl ((hD 5 94 (by kernel_rfl)).1 hb) ((range_kept (R14_22.out) hk) 0 _ rfl)) rfl)) ?_
                  refine fsteps_cons 8 rfl (fun a u hE hD hk => f_if ((decide (((anI x.roles 4) : Int) ≠ (0 : Int)))) rfl rfl rfl (hD 4 93 (by kernel_rfl)) (fun hb => f_val (o := ⟨some 96, _, _, _, _, _⟩) (.pointer (some ⟨g13, 0, none⟩)) rfl (wanted_b rfl rfl (hD 4 93 (by kernel_rfl)) (eq_true_of hb)) (exec_fldo 35 0 0 (.tmp 13) (g13) (0) (0) rfl (hE 13 (.pointer (some ⟨g13, 0, none⟩)) (by kernel_rfl) (by kernel_rfl)) (by kernel_rfl) rfl) rfl)) ?_
                  refine fsteps_cons 9 rfl (fun a u hE hD hk => f_if ((decide (((anI x.roles 4) : Int) ≠ (0 : Int)))) rfl rfl rfl (hD 4 93 (by kernel_rfl)) (fun hb => f_val (o := ⟨some 97, _, _, _, _, _⟩) (.int .i64 x.firm) rfl (wanted_b rfl rfl (hD 4 93 (by kernel_rfl)) (eq_true_of hb)) (exec_loadi 3 Tryd.underlying3 (.tmp 96) ⟨g13, 0, none⟩ (.int .i64 x.firm) rfl ((hD 7 96 (by kernel_rfl)).1 hb) ((range_kept (R13_22.out) hk) 0 _ rfl)) rfl)) ?_
                  refine fsteps_cons 10 rfl (fun a u hE hD hk => f_if ((decide (((anI x.roles 4) : Int) ≠ (0 : Int)))) rfl rfl rfl (hD 4 93 (by kernel_rfl)) (fun hb => f_val (o := ⟨some 98, _, _, _, _, _⟩) (.bool (decide ((y.firm : Int) = (x.firm : Int)))) rfl (wanted_b rfl rfl (hD 4 93 (by kernel_rfl)) (eq_true_of hb)) (exec_eqn (p := y.firm) (q := x.firm) rfl ((hD 6 95 (by kernel_rfl)).1 hb) ((hD 8 97 (by kernel_rfl)).1 hb)) rfl)) ?_
                  refine fsteps_cons 11 rfl (fun a u hE hD hk => f_as (show (((decide (((anI x.roles 4) : Int) ≠ (0 : Int))) && (decide ((y.firm : Int) = (x.firm : Int)))) : Bool) = c3 from HC3.out) (f_val (o := ⟨some 99, _, _, _, _, _⟩) (.bool ((decide (((anI x.roles 4) : Int) ≠ (0 : Int))) && (decide ((y.firm : Int) = (x.firm : Int))))) rfl (wanted_none rfl _) (exec_pickand (.tmp 93) (.tmp 98) (.const (.bool false)) ((decide (((anI x.roles 4) : Int) ≠ (0 : Int)))) ((decide ((y.firm : Int) = (x.firm : Int)))) rfl (hD 4 93 (by kernel_rfl)) (fun hb2 => ((hD 9 98 (by kernel_rfl)).1 hb2)) rfl) rfl)) ?_
                  refine sv 12 rfl rfl rfl (fun a u hE hD hk => exec_assign (.tmp 99) _ rfl (hD 10 99 (by kernel_rfl))) ?_
                  exact fsteps_nil
                intro gv v23w hV kv23
                rw [show dstsOf _ 12 = [89, 90, 91, 92, 93, 94, 95, 96, 97, 98, 99, 88] by kernel_rfl]
                simp only [List.foldl_cons, List.foldl_nil, List.setIfInBounds_toArray, List.set_cons_succ, List.set_cons_zero, List.drop_succ_cons, List.drop_zero]
                rw [show gv 88 = .bool c3 from hV 11 88 (by kernel_rfl)]
                clear hV
                refine wpList_nil ?_
                have R7_23 := Lib.hid (range_kept R7_22.out kv23)
                have R13_23 := Lib.hid (range_kept R13_22.out kv23)
                have R14_23 := Lib.hid (range_kept R14_22.out kv23)
                have kk23 := kk22.trans kv23
                clear R7_22 R13_22 R14_22 kv23 kk22
                cases c3 with
                | true =>
                  have HV7 : Hid (V = 0) := by show _ = _; rw [← HV6.out]; simp [okV]
                  go_wp2
                  go_ret
                  exact ⟨by rw [HV7.out]; rfl, kk23⟩
                | false =>
                  go_upto_region 23 with fail
                  refine wp_text 19 [.eq (.pointer (some ⟨g13, 2, none⟩)), .eq (.int .i64 x.roles), .eq (.int .i64 (anI x.roles 2)), .eq (.bool (decide (((anI x.roles 2) : Int) ≠ (0 : Int)))), .eq (.bool (decide (((anI x.roles 2) : Int) ≠ (0 : Int)))), .cond (decide (((anI x.roles 2) : Int) ≠ (0 : Int))) (.eq (.pointer (some ⟨g14, 0, none⟩))), .cond (decide (((anI x.roles 2) : Int) ≠ (0 : Int))) (.eq (.int .i64 y.firm)), .cond (decide (((anI x.roles 2) : Int) ≠ (0 : Int))) (.eq (.pointer (some ⟨g13, 0, none⟩))), .cond (decide (((anI x.roles 2) : Int) ≠ (0 : Int))) (.eq (.int .i64 x.firm)), .cond (decide (((anI x.roles 2) : Int) ≠ (0 : Int))) (.eq (.bool (decide ((y.firm : Int) = (x.firm : Int))))), .eq (.bool ((decide (((anI x.roles 2) : Int) ≠ (0 : Int))) && (decide ((y.firm : Int) = (x.firm : Int))))), .eq (.bool ((decide (((anI x.roles 2) : Int) ≠ (0 : Int))) && (decide ((y.firm : Int) = (x.firm : Int))))), .cond ((decide (((anI x.roles 2) : Int) ≠ (0 : Int))) && (decide ((y.firm : Int) = (x.firm : Int)))) (.eq (.pointer (some ⟨g14, 1, none⟩))), .cond ((decide (((anI x.roles 2) : Int) ≠ (0 : Int))) && (decide ((y.firm : Int) = (x.firm : Int)))) (.eq (.int .i64 y.desk)), .cond ((decide (((anI x.roles 2) : Int) ≠ (0 : Int))) && (decide ((y.firm : Int) = (x.firm : Int)))) (.eq (.pointer (some ⟨g13, 1, none⟩))), .cond ((decide (((anI x.roles 2) : Int) ≠ (0 : Int))) && (decide ((y.firm : Int) = (x.firm : Int)))) (.eq (.int .i64 x.desk)), .cond ((decide (((anI x.roles 2) : Int) ≠ (0 : Int))) && (decide ((y.firm : Int) = (x.firm : Int)))) (.eq (.bool (decide ((y.desk : Int) = (x.desk : Int))))), .eq (.bool c4), .eq (.bool c4)] rfl (by kernel_rfl) ?_ ?_
                  · refine sv 1 rfl rfl rfl (fun a u hE hD hk => exec_fldo 35 2 2 (.tmp 13) (g13) (0) (2) rfl (hE 13 (.pointer (some ⟨g13, 0, none⟩)) (by kernel_rfl) (by kernel_rfl)) (by kernel_rfl) rfl) ?_
                    refine sv 2 rfl rfl rfl (fun a u hE hD hk => exec_loadi 3 Tryd.underlying3 (.tmp 101) ⟨g13, 2, none⟩ (.int .i64 x.roles) rfl (hD 0 101 (by kernel_rfl)) ((range_kept (R13_23.out) hk) 2 _ rfl)) ?_
                    refine sv 3 rfl rfl rfl (fun a u hE hD hk => exec_andI (.tmp 102) (.const (.int .i64 2)) _ _ x.roles 2 rfl (hD 1 102 (by kernel_rfl)) rfl) ?_
                    refine sv 4 rfl rfl rfl (fun a u hE hD hk => exec_nen (p := (anI x.roles 2)) (q := 0) rfl (hD 2 103 (by kernel_rfl)) rfl) ?_
                    refine sv 5 rfl rfl rfl (fun a u hE hD hk => exec_move (.tmp 104) _ rfl (hD 3 104 (by kernel_rfl))) ?_
                    refine fsteps_cons 6 rfl (fun a u hE hD hk => f_if ((decide (((anI x.roles 2) : Int) ≠ (0 : Int)))) rfl rfl rfl (hD 4 105 (by kernel_rfl)) (fun hb => f_val (o := ⟨some 106, _, _, _, _, _⟩) (.pointer (some ⟨g14, 0, none⟩)) rfl (wanted_b rfl rfl (hD 4 105 (by kernel_rfl)) (eq_true_of hb)) (exec_fldo 35 0 0 (.tmp 14) (g14) (0) (0) rfl (hE 14 (.pointer (some ⟨g14, 0, none⟩)) (by kernel_rfl) (by kernel_rfl)) (by kernel_rfl) rfl) rfl)) ?_
                    refine fsteps_cons 7 rfl (fun a u hE hD hk => f_if ((decide (((anI x.roles 2) : Int) ≠ (0 : Int)))) rfl rfl rfl (hD 4 105 (by kernel_rfl)) (fun hb => f_val (o := ⟨some 107, _, _, _, _, _⟩) (.int .i64 y.firm) rfl (wanted_b rfl rfl (hD 4 105 (by kernel_rfl)) (eq_true_of hb)) (exec_loadi 3 Tryd.underlying3 (.tmp 106) ⟨g14, 0, none⟩ (.int .i64 y.firm) rfl ((hD 5 106 (by kernel_rfl)).1 hb) ((range_kept (R14_23.out) hk) 0 _ rfl)) rfl)) ?_
                    refine fsteps_cons 8 rfl (fun a u hE hD hk => f_if ((decide (((anI x.roles 2) : Int) ≠ (0 : Int)))) rfl rfl rfl (hD 4 105 (by kernel_rfl)) (fun hb => f_val (o := ⟨some 108, _, _, _, _, _⟩) (.pointer (some ⟨g13, 0, none⟩)) rfl (wanted_b rfl rfl (hD 4 105 (by kernel_rfl)) (eq_true_of hb)) (exec_fldo 35 0 0 (.tmp 13) (g13) (0) (0) rfl (hE 13 (.pointer (some ⟨g13, 0, none⟩)) (by kernel_rfl) (by kernel_rfl)) (by kernel_rfl) rfl) rfl)) ?_
                    refine fsteps_cons 9 rfl (fun a u hE hD hk => f_if ((decide (((anI x.roles 2) : Int) ≠ (0 : Int)))) rfl rfl rfl (hD 4 105 (by kernel_rfl)) (fun hb => f_val (o := ⟨some 109, _, _, _, _, _⟩) (.int .i64 x.firm) rfl (wanted_b rfl rfl (hD 4 105 (by kernel_rfl)) (eq_true_of hb)) (exec_loadi 3 Tryd.underlying3 (.tmp 108) ⟨g13, 0, none⟩ (.int .i64 x.firm) rfl ((hD 7 108 (by kernel_rfl)).1 hb) ((range_kept (R13_23.out) hk) 0 _ rfl)) rfl)) ?_
                    refine fsteps_cons 10 rfl (fun a u hE hD hk => f_if ((decide (((anI x.roles 2) : Int) ≠ (0 : Int)))) rfl rfl rfl (hD 4 105 (by kernel_rfl)) (fun hb => f_val (o := ⟨some 110, _, _, _, _, _⟩) (.bool (decide ((y.firm : Int) = (x.firm : Int)))) rfl (wanted_b rfl rfl (hD 4 105 (by kernel_rfl)) (eq_true_of hb)) (exec_eqn (p := y.firm) (q := x.firm) rfl ((hD 6 107 (by kernel_rfl)).1 hb) ((hD 8 109 (by kernel_rfl)).1 hb)) rfl)) ?_
                    refine sv 11 rfl rfl rfl (fun a u hE hD hk => exec_pickand (.tmp 105) (.tmp 110) (.const (.bool false)) ((decide (((anI x.roles 2) : Int) ≠ (0 : Int)))) ((decide ((y.firm : Int) = (x.firm : Int)))) rfl (hD 4 105 (by kernel_rfl)) (fun hb2 => ((hD 9 110 (by kernel_rfl)).1 hb2)) rfl) ?_
                    refine sv 12 rfl rfl rfl (fun a u hE hD hk => exec_move (.tmp 111) _ rfl (hD 10 111 (by kernel_rfl))) ?_
                    refine fsteps_cons 13 rfl (fun a u hE hD hk => f_if (((decide (((anI x.roles 2) : Int) ≠ (0 : Int))) && (decide ((y.firm : Int) = (x.firm : Int))))) rfl rfl rfl (hD 11 112 (by kernel_rfl)) (fun hb => f_val (o := ⟨some 113, _, _, _, _, _⟩) (.pointer (some ⟨g14, 1, none⟩)) rfl (wanted_b rfl rfl (hD 11 112 (by kernel_rfl)) (eq_true_of hb)) (exec_fldo 35 1 1 (.tmp 14) (g14) (0) (1) rfl (hE 14 (.pointer (some ⟨g14, 0, none⟩)) (by kernel_rfl) (by kernel_rfl)) (by kernel_rfl) rfl) rfl)) ?_
                    refine fsteps_cons 14 rfl (fun a u hE hD hk => f_if (((decide (((anI x.roles 2) : Int) ≠ (0 : Int))) && (decide ((y.firm : Int) = (x.firm : Int))))) rfl rfl rfl (hD 11 112 (by kernel_rfl)) (fun hb => f_val (o := ⟨some 114, _, _, _, _, _⟩) (.int .i64 y.desk) rfl (wanted_b rfl rfl (hD 11 112 (by kernel_rfl)) (eq_true_of hb)) (exec_loadi 3 Tryd.underlying3 (.tmp 113) ⟨g14, 1, none⟩ (.int .i64 y.desk) rfl ((hD 12 113 (by kernel_rfl)).1 hb) ((range_kept (R14_23.out) hk) 1 _ rfl)) rfl)) ?_
                    refine fsteps_cons 15 rfl (fun a u hE hD hk => f_if (((decide (((anI x.roles 2) : Int) ≠ (0 : Int))) && (decide ((y.firm : Int) = (x.firm : Int))))) rfl rfl rfl (hD 11 112 (by kernel_rfl)) (fun hb => f_val (o := ⟨some 115, _, _, _, _, _⟩) (.pointer (some ⟨g13, 1, none⟩)) rfl (wanted_b rfl rfl (hD 11 112 (by kernel_rfl)) (eq_true_of hb)) (exec_fldo 35 1 1 (.tmp 13) (g13) (0) (1) rfl (hE 13 (.pointer (some ⟨g13, 0, none⟩)) (by kernel_rfl) (by kernel_rfl)) (by kernel_rfl) rfl) rfl)) ?_
                    refine fsteps_cons 16 rfl (fun a u hE hD hk => f_if (((decide (((anI x.roles 2) : Int) ≠ (0 : Int))) && (decide ((y.firm : Int) = (x.firm : Int))))) rfl rfl rfl (hD 11 112 (by kernel_rfl)) (fun hb => f_val (o := ⟨some 116, _, _, _, _, _⟩) (.int .i64 x.desk) rfl (wanted_b rfl rfl (hD 11 112 (by kernel_rfl)) (eq_true_of hb)) (exec_loadi 3 Tryd.underlying3 (.tmp 115) ⟨g13, 1, none⟩ (.int .i64 x.desk) rfl ((hD 14 115 (by kernel_rfl)).1 hb) ((range_kept (R13_23.out) hk) 1 _ rfl)) rfl)) ?_
                    refine fsteps_cons 17 rfl (fun a u hE hD hk => f_if (((decide (((anI x.roles 2) : Int) ≠ (0 : Int))) && (decide ((y.firm : Int) = (x.firm : Int))))) rfl rfl rfl (hD 11 112 (by kernel_rfl)) (fun hb => f_val (o := ⟨some 117, _, _, _, _, _⟩) (.bool (decide ((y.desk : Int) = (x.desk : Int)))) rfl (wanted_b rfl rfl (hD 11 112 (by kernel_rfl)) (eq_true_of hb)) (exec_eqn (p := y.desk) (q := x.desk) rfl ((hD 13 114 (by kernel_rfl)).1 hb) ((hD 15 116 (by kernel_rfl)).1 hb)) rfl)) ?_
                    refine fsteps_cons 18 rfl (fun a u hE hD hk => f_as (show ((((decide (((anI x.roles 2) : Int) ≠ (0 : Int))) && (decide ((y.firm : Int) = (x.firm : Int)))) && (decide ((y.desk : Int) = (x.desk : Int)))) : Bool) = c4 from HC4.out) (f_val (o := ⟨some 118, _, _, _, _, _⟩) (.bool (((decide (((anI x.roles 2) : Int) ≠ (0 : Int))) && (decide ((y.firm : Int) = (x.firm : Int)))) && (decide ((y.desk : Int) = (x.desk : Int))))) rfl (wanted_none rfl _) (exec_pickand (.tmp 112) (.tmp 117) (.const (.bool false)) (((decide (((anI x.roles 2) : Int) ≠ (0 : Int))) && (decide ((y.firm : Int) = (x.firm : Int))))) ((decide ((y.desk : Int) = (x.desk : Int)))) rfl (hD 11 112 (by kernel_rfl)) (fun hb2 => ((hD 16 117 (by kernel_rfl)).1 hb2)) rfl) rfl)) ?_
                    refine sv 19 rfl rfl rfl (fun a u hE hD hk => exec_assign (.tmp 118) _ rfl (hD 17 118 (by kernel_rfl))) ?_
                    exact fsteps_nil
                  intro gv v24w hV kv24
                  rw [show dstsOf _ 19 = [101, 102, 103, 104, 105, 106, 107, 108, 109, 110, 111, 112, 113, 114, 115, 116, 117, 118, 100] by kernel_rfl]
                  simp only [List.foldl_cons, List.foldl_nil, List.setIfInBounds_toArray, List.set_cons_succ, List.set_cons_zero, List.drop_succ_cons, List.drop_zero]
                  rw [show gv 100 = .bool c4 from hV 18 100 (by kernel_rfl)]
                  clear hV
                  refine wpList_nil ?_
                  have R7_24 := Lib.hid (range_kept R7_23.out kv24)
                  have R13_24 := Lib.hid (range_kept R13_23.out kv24)
                  have R14_24 := Lib.hid (range_kept R14_23.out kv24)
                  have kk24 := kk23.trans kv24
                  clear R7_23 R13_23 R14_23 kv24 kk23
                  cases c4 with
                  | true =>
                    have HV7 : Hid (V = 0) := by show _ = _; rw [← HV6.out]; simp [okV]
                    go_wp2
                    go_ret
                    exact ⟨by rw [HV7.out]; rfl, kk24⟩
                  | false =>
                    go_upto_region 24 with fail
                    refine wp_free 17 [.eq (.pointer (some ⟨g13, 2, none⟩)), .eq (.int .i64 x.roles), .eq (.int .i64 (anI x.roles 4)), .eq (.bool (decide (((anI x.roles 4) : Int) ≠ (0 : Int)))), .eq (.bool (decide (((anI x.roles 4) : Int) ≠ (0 : Int)))), .cond (decide (((anI x.roles 4) : Int) ≠ (0 : Int))) (.eq (.pointer (some ⟨g13, 0, none⟩))), .cond (decide (((anI x.roles 4) : Int) ≠ (0 : Int))) (.eq (.int .i64 x.firm)), .cond (decide (((anI x.roles 4) : Int) ≠ (0 : Int))) (.eq (.pointer (some ⟨g7, 16, none⟩))), .cond (decide (((anI x.roles 4) : Int) ≠ (0 : Int))) (.eq (.pointer (some ⟨g7, 16 + i, none⟩))), .cond (decide (((anI x.roles 4) : Int) ≠ (0 : Int))) (.eq (.int .i64 G)), .cond (decide (((anI x.roles 4) : Int) ≠ (0 : Int))) (.eq (.pointer (some ⟨g14, 0, none⟩))), .cond (decide (((anI x.roles 4) : Int) ≠ (0 : Int))) (.eq (.int .i64 y.firm)), .cond (decide (((anI x.roles 4) : Int) ≠ (0 : Int))) (.eq (.int .i64 (shI G y.firm))), .cond (decide (((anI x.roles 4) : Int) ≠ (0 : Int))) (.eq (.int .i64 (anI (shI G y.firm) 1))), .cond (decide (((anI x.roles 4) : Int) ≠ (0 : Int))) (.eq (.bool (decide (((anI (shI G y.firm) 1) : Int) = (1 : Int))))), .eq (.bool c5), .eq (.bool c5)] (by kernel_rfl) rfl (by kernel_rfl) ?_ ?_
                    · refine sv 1 rfl rfl rfl (fun a u hE hD hk => exec_fldo 35 2 2 (.tmp 13) (g13) (0) (2) rfl (hE 13 (.pointer (some ⟨g13, 0, none⟩)) (by kernel_rfl) (by kernel_rfl)) (by kernel_rfl) rfl) ?_
                      refine sv 2 rfl rfl rfl (fun a u hE hD hk => exec_loadi 3 Tryd.underlying3 (.tmp 120) ⟨g13, 2, none⟩ (.int .i64 x.roles) rfl (hD 0 120 (by kernel_rfl)) ((range_kept (R13_24.out) hk) 2 _ rfl)) ?_
                      refine sv 3 rfl rfl rfl (fun a u hE hD hk => exec_andI (.tmp 121) (.const (.int .i64 4)) _ _ x.roles 4 rfl (hD 1 121 (by kernel_rfl)) rfl) ?_
                      refine sv 4 rfl rfl rfl (fun a u hE hD hk => exec_nen (p := (anI x.roles 4)) (q := 0) rfl (hD 2 122 (by kernel_rfl)) rfl) ?_
                      refine sv 5 rfl rfl rfl (fun a u hE hD hk => exec_move (.tmp 123) _ rfl (hD 3 123 (by kernel_rfl))) ?_
                      refine fsteps_cons 6 rfl (fun a u hE hD hk => f_if ((decide (((anI x.roles 4) : Int) ≠ (0 : Int)))) rfl rfl rfl (hD 4 124 (by kernel_rfl)) (fun hb => f_val (o := ⟨some 125, _, _, _, _, _⟩) (.pointer (some ⟨g13, 0, none⟩)) rfl (wanted_b rfl rfl (hD 4 124 (by kernel_rfl)) (eq_true_of hb)) (exec_fldo 35 0 0 (.tmp 13) (g13) (0) (0) rfl (hE 13 (.pointer (some ⟨g13, 0, none⟩)) (by kernel_rfl) (by kernel_rfl)) (by kernel_rfl) rfl) rfl)) ?_
                      refine fsteps_cons 7 rfl (fun a u hE hD hk => f_if ((decide (((anI x.roles 4) : Int) ≠ (0 : Int)))) rfl rfl rfl (hD 4 124 (by kernel_rfl)) (fun hb => f_val (o := ⟨some 126, _, _, _, _, _⟩) (.int .i64 x.firm) rfl (wanted_b rfl rfl (hD 4 124 (by kernel_rfl)) (eq_true_of hb)) (exec_loadi 3 Tryd.underlying3 (.tmp 125) ⟨g13, 0, none⟩ (.int .i64 x.firm) rfl ((hD 5 125 (by kernel_rfl)).1 hb) ((range_kept (R13_24.out) hk) 0 _ rfl)) rfl)) ?_
                      refine fsteps_cons 8 rfl (fun a u hE hD hk => f_if ((decide (((anI x.roles 4) : Int) ≠ (0 : Int)))) rfl rfl rfl (hD 4 124 (by kernel_rfl)) (fun hb => f_val (o := ⟨some 127, _, _, _, _, _⟩) (.pointer (some ⟨g7, 16, none⟩)) rfl (wanted_b rfl rfl (hD 4 124 (by kernel_rfl)) (eq_true_of hb)) (exec_fldo 29 2 16 (.tmp 7) (g7) (0) (16) rfl (hE 7 (.pointer (some ⟨g7, 0, none⟩)) (by kernel_rfl) (by kernel_rfl)) (by kernel_rfl) rfl) rfl)) ?_
                      refine fsteps_cons 9 rfl (fun a u hE hD hk => f_if ((decide (((anI x.roles 4) : Int) ≠ (0 : Int)))) rfl rfl rfl (hD 4 124 (by kernel_rfl)) (fun hb => f_val (o := ⟨some 128, _, _, _, _, _⟩) (.pointer (some ⟨g7, 16 + i, none⟩)) rfl (wanted_b rfl rfl (hD 4 124 (by kernel_rfl)) (eq_true_of hb)) (exec_ixC 27 3 8 (.tmp 127) (.tmp 126) g7 16 (16 + i) i x.firm rfl Tryd.underlying27 (by kernel_rfl) ((hD 7 127 (by kernel_rfl)).1 hb) ((hD 6 126 (by kernel_rfl)).1 hb) hxi hi rfl) rfl)) ?_
                      refine fsteps_cons 10 rfl (fun a u hE hD hk => f_if ((decide (((anI x.roles 4) : Int) ≠ (0 : Int)))) rfl rfl rfl (hD 4 124 (by kernel_rfl)) (fun hb => f_val (o := ⟨some 129, _, _, _, _, _⟩) (.int .i64 G) rfl (wanted_b rfl rfl (hD 4 124 (by kernel_rfl)) (eq_true_of hb)) (exec_loadi 3 Tryd.underlying3 (.tmp 128) ⟨g7, 16 + i, none⟩ (.int .i64 G) rfl ((hD 8 128 (by kernel_rfl)).1 hb) (by have h_ := range_kept R7_24.out hk (16 + i) _ HAG.out; rwa [Nat.zero_add] at h_)) rfl)) ?_
                      refine fsteps_cons 11 rfl (fun a u hE hD hk => f_if ((decide (((anI x.roles 4) : Int) ≠ (0 : Int)))) rfl rfl rfl (hD 4 124 (by kernel_rfl)) (fun hb => f_val (o := ⟨some 130, _, _, _, _, _⟩) (.pointer (some ⟨g14, 0, none⟩)) rfl (wanted_b rfl rfl (hD 4 124 (by kernel_rfl)) (eq_true_of hb)) (exec_fldo 35 0 0 (.tmp 14) (g14) (0) (0) rfl (hE 14 (.pointer (some ⟨g14, 0, none⟩)) (by kernel_rfl) (by kernel_rfl)) (by kernel_rfl) rfl) rfl)) ?_
                      refine fsteps_cons 12 rfl (fun a u hE hD hk => f_if ((decide (((anI x.roles 4) : Int) ≠ (0 : Int)))) rfl rfl rfl (hD 4 124 (by kernel_rfl)) (fun hb => f_val (o := ⟨some 131, _, _, _, _, _⟩) (.int .i64 y.firm) rfl (wanted_b rfl rfl (hD 4 124 (by kernel_rfl)) (eq_true_of hb)) (exec_loadi 3 Tryd.underlying3 (.tmp 130) ⟨g14, 0, none⟩ (.int .i64 y.firm) rfl ((hD 10 130 (by kernel_rfl)).1 hb) ((range_kept (R14_24.out) hk) 0 _ rfl)) rfl)) ?_
                      refine fsteps_cons 13 rfl (fun a u hE hD hk => f_if ((decide (((anI x.roles 4) : Int) ≠ (0 : Int)))) rfl rfl rfl (hD 4 124 (by kernel_rfl)) (fun hb => f_val (o := ⟨some 132, _, _, _, _, _⟩) (.int .i64 (shI G y.firm)) rfl (wanted_b rfl rfl (hD 4 124 (by kernel_rfl)) (eq_true_of hb)) (exec_shrI (.tmp 129) (.tmp 131) _ _ G y.firm rfl ((hD 9 129 (by kernel_rfl)).1 hb) ((hD 11 131 (by kernel_rfl)).1 hb) hfy.1) rfl)) ?_
                      refine fsteps_cons 14 rfl (fun a u hE hD hk => f_if ((decide (((anI x.roles 4) : Int) ≠ (0 : Int)))) rfl rfl rfl (hD 4 124 (by kernel_rfl)) (fun hb => f_val (o := ⟨some 133, _, _, _, _, _⟩) (.int .i64 (anI (shI G y.firm) 1)) rfl (wanted_b rfl rfl (hD 4 124 (by kernel_rfl)) (eq_true_of hb)) (exec_andI (.tmp 132) (.const (.int .i64 1)) _ _ (shI G y.firm) 1 rfl ((hD 12 132 (by kernel_rfl)).1 hb) rfl) rfl)) ?_
                      refine fsteps_cons 15 rfl (fun a u hE hD hk => f_if ((decide (((anI x.roles 4) : Int) ≠ (0 : Int)))) rfl rfl rfl (hD 4 124 (by kernel_rfl)) (fun hb => f_val (o := ⟨some 134, _, _, _, _, _⟩) (.bool (decide (((anI (shI G y.firm) 1) : Int) = (1 : Int)))) rfl (wanted_b rfl rfl (hD 4 124 (by kernel_rfl)) (eq_true_of hb)) (exec_eqn (p := (anI (shI G y.firm) 1)) (q := 1) rfl ((hD 13 133 (by kernel_rfl)).1 hb) rfl) rfl)) ?_
                      refine fsteps_cons 16 rfl (fun a u hE hD hk => f_as (show (((decide (((anI x.roles 4) : Int) ≠ (0 : Int))) && (decide (((anI (shI G y.firm) 1) : Int) = (1 : Int)))) : Bool) = c5 from HC5.out) (f_val (o := ⟨some 135, _, _, _, _, _⟩) (.bool ((decide (((anI x.roles 4) : Int) ≠ (0 : Int))) && (decide (((anI (shI G y.firm) 1) : Int) = (1 : Int))))) rfl (wanted_none rfl _) (exec_pickand (.tmp 124) (.tmp 134) (.const (.bool false)) ((decide (((anI x.roles 4) : Int) ≠ (0 : Int)))) ((decide (((anI (shI G y.firm) 1) : Int) = (1 : Int)))) rfl (hD 4 124 (by kernel_rfl)) (fun hb2 => ((hD 14 134 (by kernel_rfl)).1 hb2)) rfl) rfl)) ?_
                      refine sv 17 rfl rfl rfl (fun a u hE hD hk => exec_assign (.tmp 135) _ rfl (hD 15 135 (by kernel_rfl))) ?_
                      exact fsteps_nil
                    intro gv v25w hV kv25
                    rw [show dstsOf _ 17 = [120, 121, 122, 123, 124, 125, 126, 127, 128, 129, 130, 131, 132, 133, 134, 135, 119] by kernel_rfl]
                    simp only [List.foldl_cons, List.foldl_nil, List.setIfInBounds_toArray, List.set_cons_succ, List.set_cons_zero, List.drop_succ_cons, List.drop_zero]
                    rw [show gv 119 = .bool c5 from hV 16 119 (by kernel_rfl)]
                    clear hV
                    refine wpList_nil ?_
                    have R7_25 := Lib.hid (range_kept R7_24.out kv25)
                    have R13_25 := Lib.hid (range_kept R13_24.out kv25)
                    have R14_25 := Lib.hid (range_kept R14_24.out kv25)
                    have kk25 := kk24.trans kv25
                    clear R7_24 R13_24 R14_24 kv25 kk24
                    cases c5 with
                    | true =>
                      have HV7 : Hid (V = 0) := by show _ = _; rw [← HV6.out]; simp [okV]
                      go_wp2
                      go_ret
                      exact ⟨by rw [HV7.out]; rfl, kk25⟩
                    | false =>
                      have HV7 : Hid (V = 7) := by show _ = _; rw [← HV6.out]; rfl
                      go_wp2
                      go_ret
                      exact ⟨by rw [HV7.out]; rfl, kk25⟩
        · by_cases hd3 : d = 3
          · have HV4 : Hid ((if X.there other = true then okV (suspB x (X.get other) n other) else 6) = V) := by show _ = _; rw [← HV3.out, if_neg hd1, if_neg hd2, if_pos hd3]
            clear HV3
            go_upto_region 7 with fail
            refine wp_text 2 [.eq (.bool false), .eq (.bool false)] rfl (by kernel_rfl) ?_ ?_
            · refine fsteps_cons 1 rfl (fun a u hE hD hk => f_as (show ((decide ((d : Int) = (1 : Int))) : Bool) = false from decide_eq_false (by omega)) (f_val (o := ⟨some 44, _, _, _, _, _⟩) (.bool (decide ((d : Int) = (1 : Int)))) rfl (wanted_none rfl _) (exec_eqn (p := d) (q := 1) rfl (hE 42 (.int .i64 d) (by kernel_rfl) (by kernel_rfl)) rfl) rfl)) ?_
              refine sv 2 rfl rfl rfl (fun a u hE hD hk => exec_assign (.tmp 44) _ rfl (hD 0 44 (by kernel_rfl))) ?_
              exact fsteps_nil
            intro gv v3w hV kv3
            rw [show dstsOf _ 2 = [44, 43] by kernel_rfl]
            simp only [List.foldl_cons, List.foldl_nil, List.setIfInBounds_toArray, List.set_cons_succ, List.set_cons_zero, List.drop_succ_cons, List.drop_zero]
            rw [show gv 43 = .bool false from hV 1 43 (by kernel_rfl)]
            clear hV
            refine wpList_nil ?_
            have T_3 := Lib.hid (T_2.out.kept kv3)
            have R7_3 := Lib.hid (range_kept R7_2.out kv3)
            have R13_3 := Lib.hid (range_kept R13_2.out kv3)
            have kk3 := kk2.trans kv3
            clear T_2 R7_2 R13_2 kv3 kk2
            go_upto_region 15 with fail
            refine wp_text 2 [.eq (.bool false), .eq (.bool false)] rfl (by kernel_rfl) ?_ ?_
            · refine fsteps_cons 1 rfl (fun a u hE hD hk => f_as (show ((decide ((d : Int) = (2 : Int))) : Bool) = false from decide_eq_false (by omega)) (f_val (o := ⟨some 68, _, _, _, _, _⟩) (.bool (decide ((d : Int) = (2 : Int)))) rfl (wanted_none rfl _) (exec_eqn (p := d) (q := 2) rfl (hE 42 (.int .i64 d) (by kernel_rfl) (by kernel_rfl)) rfl) rfl)) ?_
              refine sv 2 rfl rfl rfl (fun a u hE hD hk => exec_assign (.tmp 68) _ rfl (hD 0 68 (by kernel_rfl))) ?_
              exact fsteps_nil
            intro gv v4w hV kv4
            rw [show dstsOf _ 2 = [68, 67] by kernel_rfl]
            simp only [List.foldl_cons, List.foldl_nil, List.setIfInBounds_toArray, List.set_cons_succ, List.set_cons_zero, List.drop_succ_cons, List.drop_zero]
            rw [show gv 67 = .bool false from hV 1 67 (by kernel_rfl)]
            clear hV
            refine wpList_nil ?_
            have T_4 := Lib.hid (T_3.out.kept kv4)
            have R7_4 := Lib.hid (range_kept R7_3.out kv4)
            have R13_4 := Lib.hid (range_kept R13_3.out kv4)
            have kk4 := kk3.trans kv4
            clear T_3 R7_3 R13_3 kv4 kk3
            go_upto_region 26 with fail
            refine wp_text 2 [.eq (.bool true), .eq (.bool true)] rfl (by kernel_rfl) ?_ ?_
            · refine fsteps_cons 1 rfl (fun a u hE hD hk => f_as (show ((decide ((d : Int) = (3 : Int))) : Bool) = true from decide_eq_true (by omega)) (f_val (o := ⟨some 137, _, _, _, _, _⟩) (.bool (decide ((d : Int) = (3 : Int)))) rfl (wanted_none rfl _) (exec_eqn (p := d) (q := 3) rfl (hE 42 (.int .i64 d) (by kernel_rfl) (by kernel_rfl)) rfl) rfl)) ?_
              refine sv 2 rfl rfl rfl (fun a u hE hD hk => exec_assign (.tmp 137) _ rfl (hD 0 137 (by kernel_rfl))) ?_
              exact fsteps_nil
            intro gv v5w hV kv5
            rw [show dstsOf _ 2 = [137, 136] by kernel_rfl]
            simp only [List.foldl_cons, List.foldl_nil, List.setIfInBounds_toArray, List.set_cons_succ, List.set_cons_zero, List.drop_succ_cons, List.drop_zero]
            rw [show gv 136 = .bool true from hV 1 136 (by kernel_rfl)]
            clear hV
            refine wpList_nil ?_
            have T_5 := Lib.hid (T_4.out.kept kv5)
            have R7_5 := Lib.hid (range_kept R7_4.out kv5)
            have R13_5 := Lib.hid (range_kept R13_4.out kv5)
            have kk5 := kk4.trans kv5
            clear T_4 R7_4 R13_4 kv5 kk4
            cases ho : X.there other with
            | false =>
              have HV5 : Hid (V = 6) := by show _ = _; rw [← HV4.out, if_neg (by rw [ho]; simp)]
              have HO := Lib.hid ho
              clear HV4 ho
              go_upto_region 27 with fail
              refine wp_text 4 [.eq (.pointer (some ⟨q, 0, none⟩)), .eq (.int .i64 other), .eq (.bool false), .eq (.bool true)] rfl (by kernel_rfl) ?_ ?_
              · refine sv 1 rfl rfl rfl (fun a u hE hD hk => exec_move (.tmp 0) _ rfl (hE 0 (.pointer (some ⟨q, 0, none⟩)) (by kernel_rfl) (by kernel_rfl))) ?_
                refine sv 2 rfl rfl rfl (fun a u hE hD hk => exec_move (.tmp 5) _ rfl (hE 5 (.int .i64 other) (by kernel_rfl) (by kernel_rfl))) ?_
                refine fsteps_cons 3 rfl (fun a u hE hD hk => f_call (o := ⟨some 140, _, _, _, _, _⟩) 24 #[.pointer (some ⟨q, 0, none⟩), .int .i64 other] rfl (wanted_none rfl _) (exec_call 24 _ [.tmp 138, .tmp 139] _ [.pointer (some ⟨q, 0, none⟩), .int .i64 other] Tryd.func24 (by kernel_rfl) (by kernel_rfl) rfl (show [a.eval (.tmp 138), a.eval (.tmp 139)] = [.pointer (some ⟨q, 0, none⟩), .int .i64 other] from (by rw [show a.eval (.tmp 138) = .pointer (some ⟨q, 0, none⟩) from (hD 0 138 (by kernel_rfl)), show a.eval (.tmp 139) = .int .i64 other from (hD 1 139 (by kernel_rfl))] <;> rfl)) u) (by rw [← HO.out]; exact rthere_any u q X other (T_5.out.kept hk))) ?_
                refine sv 4 rfl rfl rfl (fun a u hE hD hk => exec_not _ (.tmp 140) false rfl (hD 2 140 (by kernel_rfl))) ?_
                exact fsteps_nil
              intro gv v6w hV kv6
              rw [show dstsOf _ 4 = [138, 139, 140, 141] by kernel_rfl]
              simp only [List.foldl_cons, List.foldl_nil, List.setIfInBounds_toArray, List.set_cons_succ, List.set_cons_zero, List.drop_succ_cons, List.drop_zero]
              rw [show gv 141 = .bool true from hV 3 141 (by kernel_rfl)]
              clear hV
              refine wpList_nil ?_
              have T_6 := Lib.hid (T_5.out.kept kv6)
              have R7_6 := Lib.hid (range_kept R7_5.out kv6)
              have R13_6 := Lib.hid (range_kept R13_5.out kv6)
              have kk6 := kk5.trans kv6
              clear T_5 R7_5 R13_5 kv6 kk5
              go_wp2
              go_ret
              exact ⟨by rw [HV5.out]; rfl, kk6⟩
            | true =>
              obtain ⟨l, hl, hol⟩ := there_lt ho
              obtain ⟨y, hy⟩ : ∃ y, X.get other = y := ⟨_, rfl⟩
              have hfy := (HX.out.facts ho).1
              rw [hy] at hfy
              have HV5 : Hid (okV (suspB x y n other) = V) := by show _ = _; rw [← HV4.out, if_pos ho, hy]
              have HO := Lib.hid ho
              have HAY : Hid (X.at_ l = y) := by show _ = _; rw [← hy, hol, get_in (by rw [← hol]; exact ho)]
              have HOL := Lib.hid hol
              clear HV4 ho hy hol
              go_upto_region 27 with fail
              refine wp_text 4 [.eq (.pointer (some ⟨q, 0, none⟩)), .eq (.int .i64 other), .eq (.bool true), .eq (.bool false)] rfl (by kernel_rfl) ?_ ?_
              · refine sv 1 rfl rfl rfl (fun a u hE hD hk => exec_move (.tmp 0) _ rfl (hE 0 (.pointer (some ⟨q, 0, none⟩)) (by kernel_rfl) (by kernel_rfl))) ?_
                refine sv 2 rfl rfl rfl (fun a u hE hD hk => exec_move (.tmp 5) _ rfl (hE 5 (.int .i64 other) (by kernel_rfl) (by kernel_rfl))) ?_
                refine fsteps_cons 3 rfl (fun a u hE hD hk => f_call (o := ⟨some 140, _, _, _, _, _⟩) 24 #[.pointer (some ⟨q, 0, none⟩), .int .i64 other] rfl (wanted_none rfl _) (exec_call 24 _ [.tmp 138, .tmp 139] _ [.pointer (some ⟨q, 0, none⟩), .int .i64 other] Tryd.func24 (by kernel_rfl) (by kernel_rfl) rfl (show [a.eval (.tmp 138), a.eval (.tmp 139)] = [.pointer (some ⟨q, 0, none⟩), .int .i64 other] from (by rw [show a.eval (.tmp 138) = .pointer (some ⟨q, 0, none⟩) from (hD 0 138 (by kernel_rfl)), show a.eval (.tmp 139) = .int .i64 other from (hD 1 139 (by kernel_rfl))] <;> rfl)) u) (by rw [← HO.out]; exact rthere_any u q X other (T_5.out.kept hk))) ?_
                refine sv 4 rfl rfl rfl (fun a u hE hD hk => exec_not _ (.tmp 140) true rfl (hD 2 140 (by kernel_rfl))) ?_
                exact fsteps_nil
              intro gv v6w hV kv6
              rw [show dstsOf _ 4 = [138, 139, 140, 141] by kernel_rfl]
              simp only [List.foldl_cons, List.foldl_nil, List.setIfInBounds_toArray, List.set_cons_succ, List.set_cons_zero, List.drop_succ_cons, List.drop_zero]
              rw [show gv 141 = .bool false from hV 3 141 (by kernel_rfl)]
              clear hV
              refine wpList_nil ?_
              have T_6 := Lib.hid (T_5.out.kept kv6)
              have R7_6 := Lib.hid (range_kept R7_5.out kv6)
              have R13_6 := Lib.hid (range_kept R13_5.out kv6)
              have kk6 := kk5.trans kv6
              clear T_5 R7_5 R13_5 kv6 kk5
              obtain ⟨c1, hc1⟩ : ∃ c, (decide ((other : Int) ≠ (n : Int)) && (decide ((anI x.roles 8 : Int) ≠ (0 : Int)) || (decide ((anI x.roles 4 : Int) ≠ (0 : Int)) && decide ((y.firm : Int) = (x.firm : Int))))) = c := ⟨_, rfl⟩
              have HV6 : Hid (okV c1 = V) := by show _ = _; rw [← HV5.out]; unfold suspB; rw [hc1]
              have HC1 := Lib.hid hc1
              have HYR : Hid (v6w.rangeAt q (l * 37) y.cells) := by show World.rangeAt _ _ _ _; rw [← HAY.out]; exact trds_range T_6.out hl
              clear HV5 hc1
              go_upto_region 29 with fail
              refine wp_free 27 [.eq (.int .i64 other), .eq (.int .i64 n), .eq (.bool (decide ((other : Int) ≠ (n : Int)))), .eq (.bool (decide ((other : Int) ≠ (n : Int)))), .cond (decide ((other : Int) ≠ (n : Int))) (.eq (.pointer (some ⟨g13, 2, none⟩))), .cond (decide ((other : Int) ≠ (n : Int))) (.eq (.int .i64 x.roles)), .cond (decide ((other : Int) ≠ (n : Int))) (.eq (.int .i64 (anI x.roles 8))), .cond (decide ((other : Int) ≠ (n : Int))) (.eq (.bool (decide (((anI x.roles 8) : Int) ≠ (0 : Int))))), .cond (decide ((other : Int) ≠ (n : Int))) (.eq (.bool (decide (((anI x.roles 8) : Int) ≠ (0 : Int))))), .cond ((decide ((other : Int) ≠ (n : Int))) && (!(decide (((anI x.roles 8) : Int) ≠ (0 : Int))))) (.eq (.pointer (some ⟨g13, 2, none⟩))), .cond ((decide ((other : Int) ≠ (n : Int))) && (!(decide (((anI x.roles 8) : Int) ≠ (0 : Int))))) (.eq (.int .i64 x.roles)), .cond ((decide ((other : Int) ≠ (n : Int))) && (!(decide (((anI x.roles 8) : Int) ≠ (0 : Int))))) (.eq (.int .i64 (anI x.roles 4))), .cond ((decide ((other : Int) ≠ (n : Int))) && (!(decide (((anI x.roles 8) : Int) ≠ (0 : Int))))) (.eq (.bool (decide (((anI x.roles 4) : Int) ≠ (0 : Int))))), .cond ((decide ((other : Int) ≠ (n : Int))) && (!(decide (((anI x.roles 8) : Int) ≠ (0 : Int))))) (.eq (.bool (decide (((anI x.roles 4) : Int) ≠ (0 : Int))))), .cond (((decide ((other : Int) ≠ (n : Int))) && (!(decide (((anI x.roles 8) : Int) ≠ (0 : Int))))) && (decide (((anI x.roles 4) : Int) ≠ (0 : Int)))) (.eq (.pointer (some ⟨q, 0, none⟩))), .cond (((decide ((other : Int) ≠ (n : Int))) && (!(decide (((anI x.roles 8) : Int) ≠ (0 : Int))))) && (decide (((anI x.roles 4) : Int) ≠ (0 : Int)))) (.eq (.int .i64 other)), .cond (((decide ((other : Int) ≠ (n : Int))) && (!(decide (((anI x.roles 8) : Int) ≠ (0 : Int))))) && (decide (((anI x.roles 4) : Int) ≠ (0 : Int)))) (.eq (.pointer (some ⟨q, 0, none⟩))), .cond (((decide ((other : Int) ≠ (n : Int))) && (!(decide (((anI x.roles 8) : Int) ≠ (0 : Int))))) && (decide (((anI x.roles 4) : Int) ≠ (0 : Int)))) (.eq (.pointer (some ⟨q, 0, none⟩))), .cond (((decide ((other : Int) ≠ (n : Int))) && (!(decide (((anI x.roles 8) : Int) ≠ (0 : Int))))) && (decide (((anI x.roles 4) : Int) ≠ (0 : Int)))) (.eq (.pointer (some ⟨q, l * 37, none⟩))), .cond (((decide ((other : Int) ≠ (n : Int))) && (!(decide (((anI x.roles 8) : Int) ≠ (0 : Int))))) && (decide (((anI x.roles 4) : Int) ≠ (0 : Int)))) (.eq (.pointer (some ⟨q, l * 37, none⟩))), .cond (((decide ((other : Int) ≠ (n : Int))) && (!(decide (((anI x.roles 8) : Int) ≠ (0 : Int))))) && (decide (((anI x.roles 4) : Int) ≠ (0 : Int)))) (.eq (.int .i64 y.firm)), .cond (((decide ((other : Int) ≠ (n : Int))) && (!(decide (((anI x.roles 8) : Int) ≠ (0 : Int))))) && (decide (((anI x.roles 4) : Int) ≠ (0 : Int)))) (.eq (.pointer (some ⟨g13, 0, none⟩))), .cond (((decide ((other : Int) ≠ (n : Int))) && (!(decide (((anI x.roles 8) : Int) ≠ (0 : Int))))) && (decide (((anI x.roles 4) : Int) ≠ (0 : Int)))) (.eq (.int .i64 x.firm)), .cond (((decide ((other : Int) ≠ (n : Int))) && (!(decide (((anI x.roles 8) : Int) ≠ (0 : Int))))) && (decide (((anI x.roles 4) : Int) ≠ (0 : Int)))) (.eq (.bool (decide ((y.firm : Int) = (x.firm : Int))))), .cond ((decide ((other : Int) ≠ (n : Int))) && (!(decide (((anI x.roles 8) : Int) ≠ (0 : Int))))) (.eq (.bool ((decide (((anI x.roles 4) : Int) ≠ (0 : Int))) && (decide ((y.firm : Int) = (x.firm : Int)))))), .cond (decide ((other : Int) ≠ (n : Int))) (.eq (.bool ((decide (((anI x.roles 8) : Int) ≠ (0 : Int))) || ((decide (((anI x.roles 4) : Int) ≠ (0 : Int))) && (decide ((y.firm : Int) = (x.firm : Int))))))), .eq (.bool c1)] (by kernel_rfl) rfl (by kernel_rfl) ?_ ?_
              · refine sv 1 rfl rfl rfl (fun a u hE hD hk => exec_move (.tmp 5) _ rfl (hE 5 (.int .i64 other) (by kernel_rfl) (by kernel_rfl))) ?_
                refine sv 2 rfl rfl rfl (fun a u hE hD hk => exec_move (.tmp 2) _ rfl (hE 2 (.int .i64 n) (by kernel_rfl) (by kernel_rfl))) ?_
                refine sv 3 rfl rfl rfl (fun a u hE hD hk => exec_nen (p := other) (q := n) rfl (hD 0 142 (by kernel_rfl)) (hD 1 143 (by kernel_rfl))) ?_
                refine sv 4 rfl rfl rfl (fun a u hE hD hk => exec_move (.tmp 144) _ rfl (hD 2 144 (by kernel_rfl))) ?_
                refine fsteps_cons 5 rfl (fun a u hE hD hk => f_if ((decide ((other : Int) ≠ (n : Int)))) rfl rfl rfl (hD 3 145 (by kernel_rfl)) (fun hb => f_val (o := ⟨some 146, _, _, _, _, _⟩) (.pointer (some ⟨g13, 2, none⟩)) rfl (wanted_b rfl rfl (hD 3 145 (by kernel_rfl)) (eq_true_of hb)) (exec_fldo 35 2 2 (.tmp 13) (g13) (0) (2) rfl (hE 13 (.pointer (some ⟨g13, 0, none⟩)) (by kernel_rfl) (by kernel_rfl)) (by kernel_rfl) rfl) rfl)) ?_
                refine fsteps_cons 6 rfl (fun a u hE hD hk => f_if ((decide ((other : Int) ≠ (n : Int)))) rfl rfl rfl (hD 3 145 (by kernel_rfl)) (fun hb => f_val (o := ⟨some 147, _, _, _, _, _⟩) (.int .i64 x.roles) rfl (wanted_b rfl rfl (hD 3 145 (by kernel_rfl)) (eq_true_of hb)) (exec_loadi 3 Tryd.underlying3 (.tmp 146) ⟨g13, 2, none⟩ (.int .i64 x.roles) rfl ((hD 4 146 (by kernel_rfl)).1 hb) ((range_kept (R13_6.out) hk) 2 _ rfl)) rfl)) ?_
                refine fsteps_cons 7 rfl (fun a u hE hD hk => f_if ((decide ((other : Int) ≠ (n : Int)))) rfl rfl rfl (hD 3 145 (by kernel_rfl)) (fun hb => f_val (o := ⟨some 148, _, _, _, _, _⟩) (.int .i64 (anI x.roles 8)) rfl (wanted_b rfl rfl (hD 3 145 (by kernel_rfl)) (eq_true_of hb)) (exec_andI (.tmp 147) (.const (.int .i64 8)) _ _ x.roles 8 rfl ((hD 5 147 (by kernel_rfl)).1 hb) rfl) rfl)) ?_
                refine fsteps_cons 8 rfl (fun a u hE hD hk => f_if ((decide ((other : Int) ≠ (n : Int)))) rfl rfl rfl (hD 3 145 (by kernel_rfl)) (fun hb => f_val (o := ⟨some 149, _, _, _, _, _⟩) (.bool (decide (((anI x.roles 8) : Int) ≠ (0 : Int)))) rfl (wanted_b rfl rfl (hD 3 145 (by kernel_rfl)) (eq_true_of hb)) (exec_nen (p := (anI x.roles 8)) (q := 0) rfl ((hD 6 148 (by kernel_rfl)).1 hb) rfl) rfl)) ?_
                refine fsteps_cons 9 rfl (fun a u hE hD hk => f_if ((decide ((other : Int) ≠ (n : Int)))) rfl rfl rfl (hD 3 145 (by kernel_rfl)) (fun hb => f_val (o := ⟨some 150, _, _, _, _, _⟩) (.bool (decide (((anI x.roles 8) : Int) ≠ (0 : Int)))) rfl (wanted_b rfl rfl (hD 3 145 (by kernel_rfl)) (eq_true_of hb)) (exec_move (.tmp 149) _ rfl ((hD 7 149 (by kernel_rfl)).1 hb)) rfl)) ?_
                refine fsteps_cons 10 rfl (fun a u hE hD hk => f_unless2 (decide ((other : Int) ≠ (n : Int))) ((decide (((anI x.roles 8) : Int) ≠ (0 : Int)))) rfl rfl rfl (hD 8 150 (by kernel_rfl)) (fun hb => f_val (o := ⟨some 151, _, _, _, _, _⟩) (.pointer (some ⟨g13, 2, none⟩)) rfl (wanted_b rfl rfl ((hD 8 150 (by kernel_rfl)).1 (and_l hb)) (eq_false_of (and_r hb))) (exec_fldo 35 2 2 (.tmp 13) (g13) (0) (2) rfl (hE 13 (.pointer (some ⟨g13, 0, none⟩)) (by kernel_rfl) (by kernel_rfl)) (by kernel_rfl) rfl) rfl)) ?_
                refine fsteps_cons 11 rfl (fun a u hE hD hk => f_unless2 (decide ((other : Int) ≠ (n : Int))) ((decide (((anI x.roles 8) : Int) ≠ (0 : Int)))) rfl rfl rfl (hD 8 150 (by kernel_rfl)) (fun hb => f_val (o := ⟨some 152, _, _, _, _, _⟩) (.int .i64 x.roles) rfl (wanted_b rfl rfl ((hD 8 150 (by kernel_rfl)).1 (and_l hb)) (eq_false_of (and_r hb))) (exec_loadi 3 Tryd.underlying3 (.tmp 151) ⟨g13, 2, none⟩ (.int .i64 x.roles) rfl ((hD 9 151 (by kernel_rfl)).1 hb) ((range_kept (R13_6.out) hk) 2 _ rfl)) rfl)) ?_
                refine fsteps_cons 12 rfl (fun a u hE hD hk => f_unless2 (decide ((other : Int) ≠ (n : Int))) ((decide (((anI x.roles 8) : Int) ≠ (0 : Int)))) rfl rfl rfl (hD 8 150 (by kernel_rfl)) (fun hb => f_val (o := ⟨some 153, _, _, _, _, _⟩) (.int .i64 (anI x.roles 4)) rfl (wanted_b rfl rfl ((hD 8 150 (by kernel_rfl)).1 (and_l hb)) (eq_false_of (and_r hb))) (exec_andI (.tmp 152) (.const (.int .i64 4)) _ _ x.roles 4 rfl ((hD 10 152 (by kernel_rfl)).1 hb) rfl) rfl)) ?_
                refine fsteps_cons 13 rfl (fun a u hE hD hk => f_unless2 (decide ((other : Int) ≠ (n : Int))) ((decide (((anI x.roles 8) : Int) ≠ (0 : Int)))) rfl rfl rfl (hD 8 150 (by kernel_rfl)) (fun hb => f_val (o := ⟨some 154, _, _, _, _, _⟩) (.bool (decide (((anI x.roles 4) : Int) ≠ (0 : Int)))) rfl (wanted_b rfl rfl ((hD 8 150 (by kernel_rfl)).1 (and_l hb)) (eq_false_of (and_r hb))) (exec_nen (p := (anI x.roles 4)) (q := 0) rfl ((hD 11 153 (by kernel_rfl)).1 hb) rfl) rfl)) ?_
                refine fsteps_cons 14 rfl (fun a u hE hD hk => f_unless2 (decide ((other : Int) ≠ (n : Int))) ((decide (((anI x.roles 8) : Int) ≠ (0 : Int)))) rfl rfl rfl (hD 8 150 (by kernel_rfl)) (fun hb => f_val (o := ⟨some 155, _, _, _, _, _⟩) (.bool (decide (((anI x.roles 4) : Int) ≠ (0 : Int)))) rfl (wanted_b rfl rfl ((hD 8 150 (by kernel_rfl)).1 (and_l hb)) (eq_false_of (and_r hb))) (exec_move (.tmp 154) _ rfl ((hD 12 154 (by kernel_rfl)).1 hb)) rfl)) ?_
                refine fsteps_cons 15 rfl (fun a u hE hD hk => f_if2 ((decide ((other : Int) ≠ (n : Int))) && (!(decide (((anI x.roles 8) : Int) ≠ (0 : Int))))) ((decide (((anI x.roles 4) : Int) ≠ (0 : Int)))) rfl rfl rfl (hD 13 155 (by kernel_rfl)) (fun hb => f_val (o := ⟨some 156, _, _, _, _, _⟩) (.pointer (some ⟨q, 0, none⟩)) rfl (wanted_b rfl rfl ((hD 13 155 (by kernel_rfl)).1 (and_l hb)) (eq_true_of (and_r hb))) (exec_move (.tmp 0) _ rfl (hE 0 (.pointer (some ⟨q, 0, none⟩)) (by kernel_rfl) (by kernel_rfl))) rfl)) ?_
                refine fsteps_cons 16 rfl (fun a u hE hD hk => f_if2 ((decide ((other : Int) ≠ (n : Int))) && (!(decide (((anI x.roles 8) : Int) ≠ (0 : Int))))) ((decide (((anI x.roles 4) : Int) ≠ (0 : Int)))) rfl rfl rfl (hD 13 155 (by kernel_rfl)) (fun hb => f_val (o := ⟨some 157, _, _, _, _, _⟩) (.int .i64 other) rfl (wanted_b rfl rfl ((hD 13 155 (by kernel_rfl)).1 (and_l hb)) (eq_true_of (and_r hb))) (exec_move (.tmp 5) _ rfl (hE 5 (.int .i64 other) (by kernel_rfl) (by kernel_rfl))) rfl)) ?_
                refine fsteps_cons 17 rfl (fun a u hE hD hk => f_if2 ((decide ((other : Int) ≠ (n : Int))) && (!(decide (((anI x.roles 8) : Int) ≠ (0 : Int))))) ((decide (((anI x.roles 4) : Int) ≠ (0 : Int)))) rfl rfl rfl (hD 13 155 (by kernel_rfl)) (fun hb => f_val (o := ⟨some 158, _, _, _, _, _⟩) (.pointer (some ⟨q, 0, none⟩)) rfl (wanted_b rfl rfl ((hD 13 155 (by kernel_rfl)).1 (and_l hb)) (eq_true_of (and_r hb))) (exec_nilp (.tmp 156) ⟨q, 0, none⟩ rfl ((hD 14 156 (by kernel_rfl)).1 hb)) rfl)) ?_
                refine fsteps_cons 18 rfl (fun a u hE hD hk => f_if2 ((decide ((other : Int) ≠ (n : Int))) && (!(decide (((anI x.roles 8) : Int) ≠ (0 : Int))))) ((decide (((anI x.roles 4) : Int) ≠ (0 : Int)))) rfl rfl rfl (hD 13 155 (by kernel_rfl)) (fun hb => f_val (o := ⟨some 159, _, _, _, _, _⟩) (.pointer (some ⟨q, 0, none⟩)) rfl (wanted_b rfl rfl ((hD 13 155 (by kernel_rfl)).1 (and_l hb)) (eq_true_of (and_r hb))) (exec_fldo 60 0 0 (.tmp 158) (q) (0) (0) rfl ((hD 16 158 (by kernel_rfl)).1 hb) (by kernel_rfl) rfl) rfl)) ?_
                refine fsteps_cons 19 rfl (fun a u hE hD hk => f_if2 ((decide ((other : Int) ≠ (n : Int))) && (!(decide (((anI x.roles 8) : Int) ≠ (0 : Int))))) ((decide (((anI x.roles 4) : Int) ≠ (0 : Int)))) rfl rfl rfl (hD 13 155 (by kernel_rfl)) (fun hb => f_val (o := ⟨some 160, _, _, _, _, _⟩) (.pointer (some ⟨q, l * 37, none⟩)) rfl (wanted_b rfl rfl ((hD 13 155 (by kernel_rfl)).1 (and_l hb)) (eq_true_of (and_r hb))) (exec_ixA (.tmp 159) (.tmp 157) q l other rfl ((hD 17 159 (by kernel_rfl)).1 hb) ((hD 15 157 (by kernel_rfl)).1 hb) HOL.out hl) rfl)) ?_
                refine fsteps_cons 20 rfl (fun a u hE hD hk => f_if2 ((decide ((other : Int) ≠ (n : Int))) && (!(decide (((anI x.roles 8) : Int) ≠ (0 : Int))))) ((decide (((anI x.roles 4) : Int) ≠ (0 : Int)))) rfl rfl rfl (hD 13 155 (by kernel_rfl)) (fun hb => f_val (o := ⟨some 161, _, _, _, _, _⟩) (.pointer (some ⟨q, l * 37, none⟩)) rfl (wanted_b rfl rfl ((hD 13 155 (by kernel_rfl)).1 (and_l hb)) (eq_true_of (and_r hb))) (exec_fldo 35 0 0 (.tmp 160) (q) (l * 37) (l * 37) rfl ((hD 18 160 (by kernel_rfl)).1 hb) (by kernel_rfl) rfl) rfl)) ?_
                refine fsteps_cons 21 rfl (fun a u hE hD hk => f_if2 ((decide ((other : Int) ≠ (n : Int))) && (!(decide (((anI x.roles 8) : Int) ≠ (0 : Int))))) ((decide (((anI x.roles 4) : Int) ≠ (0 : Int)))) rfl rfl rfl (hD 13 155 (by kernel_rfl)) (fun hb => f_val (o := ⟨some 162, _, _, _, _, _⟩) (.int .i64 y.firm) rfl (wanted_b rfl rfl ((hD 13 155 (by kernel_rfl)).1 (and_l hb)) (eq_true_of (and_r hb))) (exec_loadi 3 Tryd.underlying3 (.tmp 161) ⟨q, l * 37, none⟩ (.int .i64 y.firm) rfl ((hD 19 161 (by kernel_rfl)).1 hb) ((range_kept (HYR.out) hk) 0 _ rfl)) rfl)) ?_
                refine fsteps_cons 22 rfl (fun a u hE hD hk => f_if2 ((decide ((other : Int) ≠ (n : Int))) && (!(decide (((anI x.roles 8) : Int) ≠ (0 : Int))))) ((decide (((anI x.roles 4) : Int) ≠ (0 : Int)))) rfl rfl rfl (hD 13 155 (by kernel_rfl)) (fun hb => f_val (o := ⟨some 163, _, _, _, _, _⟩) (.pointer (some ⟨g13, 0, none⟩)) rfl (wanted_b rfl rfl ((hD 13 155 (by kernel_rfl)).1 (and_l hb)) (eq_true_of (and_r hb))) (exec_fldo 35 0 0 (.tmp 13) (g13) (0) (0) rfl (hE 13 (.pointer (some ⟨g13, 0, none⟩)) (by kernel_rfl) (by kernel_rfl)) (by kernel_rfl) rfl) rfl)) ?_
                refine fsteps_cons 23 rfl (fun a u hE hD hk => f_if2 ((decide ((other : Int) ≠ (n : Int))) && (!(decide (((anI x.roles 8) : Int) ≠ (0 : Int))))) ((decide (((anI x.roles 4) : Int) ≠ (0 : Int)))) rfl rfl rfl (hD 13 155 (by kernel_rfl)) (fun hb => f_val (o := ⟨some 164, _, _, _, _, _⟩) (.int .i64 x.firm) rfl (wanted_b rfl rfl ((hD 13 155 (by kernel_rfl)).1 (and_l hb)) (eq_true_of (and_r hb))) (exec_loadi 3 Tryd.underlying3 (.tmp 163) ⟨g13, 0, none⟩ (.int .i64 x.firm) rfl ((hD 21 163 (by kernel_rfl)).1 hb) ((range_kept (R13_6.out) hk) 0 _ rfl)) rfl)) ?_
                refine fsteps_cons 24 rfl (fun a u hE hD hk => f_if2 ((decide ((other : Int) ≠ (n : Int))) && (!(decide (((anI x.roles 8) : Int) ≠ (0 : Int))))) ((decide (((anI x.roles 4) : Int) ≠ (0 : Int)))) rfl rfl rfl (hD 13 155 (by kernel_rfl)) (fun hb => f_val (o := ⟨some 165, _, _, _, _, _⟩) (.bool (decide ((y.firm : Int) = (x.firm : Int)))) rfl (wanted_b rfl rfl ((hD 13 155 (by kernel_rfl)).1 (and_l hb)) (eq_true_of (and_r hb))) (exec_eqn (p := y.firm) (q := x.firm) rfl ((hD 20 162 (by kernel_rfl)).1 hb) ((hD 22 164 (by kernel_rfl)).1 hb)) rfl)) ?_
                refine fsteps_cons 25 rfl (fun a u hE hD hk => f_unless2 (decide ((other : Int) ≠ (n : Int))) ((decide (((anI x.roles 8) : Int) ≠ (0 : Int)))) rfl rfl rfl (hD 8 150 (by kernel_rfl)) (fun hb => f_val (o := ⟨some 166, _, _, _, _, _⟩) (.bool ((decide (((anI x.roles 4) : Int) ≠ (0 : Int))) && (decide ((y.firm : Int) = (x.firm : Int))))) rfl (wanted_b rfl rfl ((hD 8 150 (by kernel_rfl)).1 (and_l hb)) (eq_false_of (and_r hb))) (exec_pickand (.tmp 155) (.tmp 165) (.const (.bool false)) ((decide (((anI x.roles 4) : Int) ≠ (0 : Int)))) ((decide ((y.firm : Int) = (x.firm : Int)))) rfl ((hD 13 155 (by kernel_rfl)).1 hb) (fun hb2 => ((hD 23 165 (by kernel_rfl)).1 (and_mk hb hb2))) rfl) rfl)) ?_
                refine fsteps_cons 26 rfl (fun a u hE hD hk => f_if ((decide ((other : Int) ≠ (n : Int)))) rfl rfl rfl (hD 3 145 (by kernel_rfl)) (fun hb => f_val (o := ⟨some 167, _, _, _, _, _⟩) (.bool ((decide (((anI x.roles 8) : Int) ≠ (0 : Int))) || ((decide (((anI x.roles 4) : Int) ≠ (0 : Int))) && (decide ((y.firm : Int) = (x.firm : Int)))))) rfl (wanted_b rfl rfl (hD 3 145 (by kernel_rfl)) (eq_true_of hb)) (exec_pickor (.tmp 150) (.const (.bool true)) (.tmp 166) ((decide (((anI x.roles 8) : Int) ≠ (0 : Int)))) (((decide (((anI x.roles 4) : Int) ≠ (0 : Int))) && (decide ((y.firm : Int) = (x.firm : Int))))) rfl ((hD 8 150 (by kernel_rfl)).1 hb) rfl (fun hb2 => ((hD 24 166 (by kernel_rfl)).1 (and_mk hb hb2)))) rfl)) ?_
                refine fsteps_cons 27 rfl (fun a u hE hD hk => f_as (show (((decide ((other : Int) ≠ (n : Int))) && ((decide (((anI x.roles 8) : Int) ≠ (0 : Int))) || ((decide (((anI x.roles 4) : Int) ≠ (0 : Int))) && (decide ((y.firm : Int) = (x.firm : Int)))))) : Bool) = c1 from HC1.out) (f_val (o := ⟨some 168, _, _, _, _, _⟩) (.bool ((decide ((other : Int) ≠ (n : Int))) && ((decide (((anI x.roles 8) : Int) ≠ (0 : Int))) || ((decide (((anI x.roles 4) : Int) ≠ (0 : Int))) && (decide ((y.firm : Int) = (x.firm : Int))))))) rfl (wanted_none rfl _) (exec_pickand (.tmp 145) (.tmp 167) (.const (.bool false)) ((decide ((other : Int) ≠ (n : Int)))) (((decide (((anI x.roles 8) : Int) ≠ (0 : Int))) || ((decide (((anI x.roles 4) : Int) ≠ (0 : Int))) && (decide ((y.firm : Int) = (x.firm : Int)))))) rfl (hD 3 145 (by kernel_rfl)) (fun hb2 => ((hD 25 167 (by kernel_rfl)).1 hb2)) rfl) rfl)) ?_
                exact fsteps_nil
              intro gv v7w hV kv7
              rw [show dstsOf _ 27 = [142, 143, 144, 145, 146, 147, 148, 149, 150, 151, 152, 153, 154, 155, 156, 157, 158, 159, 160, 161, 162, 163, 164, 165, 166, 167, 168] by kernel_rfl]
              simp only [List.foldl_cons, List.foldl_nil, List.setIfInBounds_toArray, List.set_cons_succ, List.set_cons_zero, List.drop_succ_cons, List.drop_zero]
              rw [show gv 168 = .bool c1 from hV 26 168 (by kernel_rfl)]
              clear hV
              refine wpList_nil ?_
              have T_7 := Lib.hid (T_6.out.kept kv7)
              have R7_7 := Lib.hid (range_kept R7_6.out kv7)
              have R13_7 := Lib.hid (range_kept R13_6.out kv7)
              have kk7 := kk6.trans kv7
              clear T_6 R7_6 R13_6 kv7 kk6
              cases c1 with
              | true =>
                have HV7 : Hid (V = 0) := by show _ = _; rw [← HV6.out]; rfl
                go_wp2
                go_ret
                exact ⟨by rw [HV7.out]; rfl, kk7⟩
              | false =>
                have HV7 : Hid (V = 7) := by show _ = _; rw [← HV6.out]; rfl
                go_wp2
                go_ret
                exact ⟨by rw [HV7.out]; rfl, kk7⟩
          · by_cases hd4 : d = 4
            · obtain ⟨c1, hc1⟩ : ∃ c, decide ((anI x.roles 8 : Int) ≠ (0 : Int)) = c := ⟨_, rfl⟩
              have HV4 : Hid (okV c1 = V) := by show _ = _; rw [← HV3.out, if_neg hd1, if_neg hd2, if_neg hd3, if_pos hd4, hc1]
              have HC1 := Lib.hid hc1
              clear HV3 hc1
              go_upto_region 7 with fail
              refine wp_text 2 [.eq (.bool false), .eq (.bool false)] rfl (by kernel_rfl) ?_ ?_
              · refine fsteps_cons 1 rfl (fun a u hE hD hk => f_as (show ((decide ((d : Int) = (1 : Int))) : Bool) = false from decide_eq_false (by omega)) (f_val (o := ⟨some 44, _, _, _, _, _⟩) (.bool (decide ((d : Int) = (1 : Int)))) rfl (wanted_none rfl _) (exec_eqn (p := d) (q := 1) rfl (hE 42 (.int .i64 d) (by kernel_rfl) (by kernel_rfl)) rfl) rfl)) ?_
                refine sv 2 rfl rfl rfl (fun a u hE hD hk => exec_assign (.tmp 44) _ rfl (hD 0 44 (by kernel_rfl))) ?_
                exact fsteps_nil
              intro gv v3w hV kv3
              rw [show dstsOf _ 2 = [44, 43] by kernel_rfl]
              simp only [List.foldl_cons, List.foldl_nil, List.setIfInBounds_toArray, List.set_cons_succ, List.set_cons_zero, List.drop_succ_cons, List.drop_zero]
              rw [show gv 43 = .bool false from hV 1 43 (by kernel_rfl)]
              clear hV
              refine wpList_nil ?_
              have T_3 := Lib.hid (T_2.out.kept kv3)
              have R7_3 := Lib.hid (range_kept R7_2.out kv3)
              have R13_3 := Lib.hid (range_kept R13_2.out kv3)
              have kk3 := kk2.trans kv3
              clear T_2 R7_2 R13_2 kv3 kk2
              go_upto_region 15 with fail
              refine wp_text 2 [.eq (.bool false), .eq (.bool false)] rfl (by kernel_rfl) ?_ ?_
              · refine fsteps_cons 1 rfl (fun a u hE hD hk => f_as (show ((decide ((d : Int) = (2 : Int))) : Bool) = false from decide_eq_false (by omega)) (f_val (o := ⟨some 68, _, _, _, _, _⟩) (.bool (decide ((d : Int) = (2 : Int)))) rfl (wanted_none rfl _) (exec_eqn (p := d) (q := 2) rfl (hE 42 (.int .i64 d) (by kernel_rfl) (by kernel_rfl)) rfl) rfl)) ?_
                refine sv 2 rfl rfl rfl (fun a u hE hD hk => exec_assign (.tmp 68) _ rfl (hD 0 68 (by kernel_rfl))) ?_
                exact fsteps_nil
              intro gv v4w hV kv4
              rw [show dstsOf _ 2 = [68, 67] by kernel_rfl]
              simp only [List.foldl_cons, List.foldl_nil, List.setIfInBounds_toArray, List.set_cons_succ, List.set_cons_zero, List.drop_succ_cons, List.drop_zero]
              rw [show gv 67 = .bool false from hV 1 67 (by kernel_rfl)]
              clear hV
              refine wpList_nil ?_
              have T_4 := Lib.hid (T_3.out.kept kv4)
              have R7_4 := Lib.hid (range_kept R7_3.out kv4)
              have R13_4 := Lib.hid (range_kept R13_3.out kv4)
              have kk4 := kk3.trans kv4
              clear T_3 R7_3 R13_3 kv4 kk3
              go_upto_region 26 with fail
              refine wp_text 2 [.eq (.bool false), .eq (.bool false)] rfl (by kernel_rfl) ?_ ?_
              · refine fsteps_cons 1 rfl (fun a u hE hD hk => f_as (show ((decide ((d : Int) = (3 : Int))) : Bool) = false from decide_eq_false (by omega)) (f_val (o := ⟨some 137, _, _, _, _, _⟩) (.bool (decide ((d : Int) = (3 : Int)))) rfl (wanted_none rfl _) (exec_eqn (p := d) (q := 3) rfl (hE 42 (.int .i64 d) (by kernel_rfl) (by kernel_rfl)) rfl) rfl)) ?_
                refine sv 2 rfl rfl rfl (fun a u hE hD hk => exec_assign (.tmp 137) _ rfl (hD 0 137 (by kernel_rfl))) ?_
                exact fsteps_nil
              intro gv v5w hV kv5
              rw [show dstsOf _ 2 = [137, 136] by kernel_rfl]
              simp only [List.foldl_cons, List.foldl_nil, List.setIfInBounds_toArray, List.set_cons_succ, List.set_cons_zero, List.drop_succ_cons, List.drop_zero]
              rw [show gv 136 = .bool false from hV 1 136 (by kernel_rfl)]
              clear hV
              refine wpList_nil ?_
              have T_5 := Lib.hid (T_4.out.kept kv5)
              have R7_5 := Lib.hid (range_kept R7_4.out kv5)
              have R13_5 := Lib.hid (range_kept R13_4.out kv5)
              have kk5 := kk4.trans kv5
              clear T_4 R7_4 R13_4 kv5 kk4
              go_upto_region 32 with fail
              refine wp_text 2 [.eq (.bool true), .eq (.bool true)] rfl (by kernel_rfl) ?_ ?_
              · refine fsteps_cons 1 rfl (fun a u hE hD hk => f_as (show ((decide ((d : Int) = (4 : Int))) : Bool) = true from decide_eq_true (by omega)) (f_val (o := ⟨some 170, _, _, _, _, _⟩) (.bool (decide ((d : Int) = (4 : Int)))) rfl (wanted_none rfl _) (exec_eqn (p := d) (q := 4) rfl (hE 42 (.int .i64 d) (by kernel_rfl) (by kernel_rfl)) rfl) rfl)) ?_
                refine sv 2 rfl rfl rfl (fun a u hE hD hk => exec_assign (.tmp 170) _ rfl (hD 0 170 (by kernel_rfl))) ?_
                exact fsteps_nil
              intro gv v6w hV kv6
              rw [show dstsOf _ 2 = [170, 169] by kernel_rfl]
              simp only [List.foldl_cons, List.foldl_nil, List.setIfInBounds_toArray, List.set_cons_succ, List.set_cons_zero, List.drop_succ_cons, List.drop_zero]
              rw [show gv 169 = .bool true from hV 1 169 (by kernel_rfl)]
              clear hV
              refine wpList_nil ?_
              have T_6 := Lib.hid (T_5.out.kept kv6)
              have R7_6 := Lib.hid (range_kept R7_5.out kv6)
              have R13_6 := Lib.hid (range_kept R13_5.out kv6)
              have kk6 := kk5.trans kv6
              clear T_5 R7_5 R13_5 kv6 kk5
              go_upto_region 33 with fail
              refine wp_text 4 [.eq (.pointer (some ⟨g13, 2, none⟩)), .eq (.int .i64 x.roles), .eq (.int .i64 (anI x.roles 8)), .eq (.bool c1)] rfl (by kernel_rfl) ?_ ?_
              · refine sv 1 rfl rfl rfl (fun a u hE hD hk => exec_fldo 35 2 2 (.tmp 13) (g13) (0) (2) rfl (hE 13 (.pointer (some ⟨g13, 0, none⟩)) (by kernel_rfl) (by kernel_rfl)) (by kernel_rfl) rfl) ?_
                refine sv 2 rfl rfl rfl (fun a u hE hD hk => exec_loadi 3 Tryd.underlying3 (.tmp 171) ⟨g13, 2, none⟩ (.int .i64 x.roles) rfl (hD 0 171 (by kernel_rfl)) ((range_kept (R13_6.out) hk) 2 _ rfl)) ?_
                refine sv 3 rfl rfl rfl (fun a u hE hD hk => exec_andI (.tmp 172) (.const (.int .i64 8)) _ _ x.roles 8 rfl (hD 1 172 (by kernel_rfl)) rfl) ?_
                refine fsteps_cons 4 rfl (fun a u hE hD hk => f_as (show ((decide (((anI x.roles 8) : Int) ≠ (0 : Int))) : Bool) = c1 from HC1.out) (f_val (o := ⟨some 174, _, _, _, _, _⟩) (.bool (decide (((anI x.roles 8) : Int) ≠ (0 : Int)))) rfl (wanted_none rfl _) (exec_nen (p := (anI x.roles 8)) (q := 0) rfl (hD 2 173 (by kernel_rfl)) rfl) rfl)) ?_
                exact fsteps_nil
              intro gv v7w hV kv7
              rw [show dstsOf _ 4 = [171, 172, 173, 174] by kernel_rfl]
              simp only [List.foldl_cons, List.foldl_nil, List.setIfInBounds_toArray, List.set_cons_succ, List.set_cons_zero, List.drop_succ_cons, List.drop_zero]
              rw [show gv 174 = .bool c1 from hV 3 174 (by kernel_rfl)]
              clear hV
              refine wpList_nil ?_
              have T_7 := Lib.hid (T_6.out.kept kv7)
              have R7_7 := Lib.hid (range_kept R7_6.out kv7)
              have R13_7 := Lib.hid (range_kept R13_6.out kv7)
              have kk7 := kk6.trans kv7
              clear T_6 R7_6 R13_6 kv7 kk6
              cases c1 with
              | true =>
                have HV5 : Hid (V = 0) := by show _ = _; rw [← HV4.out]; rfl
                go_wp2
                go_ret
                exact ⟨by rw [HV5.out]; rfl, kk7⟩
              | false =>
                have HV5 : Hid (V = 7) := by show _ = _; rw [← HV4.out]; rfl
                go_wp2
                go_ret
                exact ⟨by rw [HV5.out]; rfl, kk7⟩
            · have HV4 : Hid (V = 1) := by show _ = _; rw [← HV3.out, if_neg hd1, if_neg hd2, if_neg hd3, if_neg hd4]
              go_upto_region 7 with fail
              refine wp_text 2 [.eq (.bool false), .eq (.bool false)] rfl (by kernel_rfl) ?_ ?_
              · refine fsteps_cons 1 rfl (fun a u hE hD hk => f_as (show ((decide ((d : Int) = (1 : Int))) : Bool) = false from decide_eq_false (by omega)) (f_val (o := ⟨some 44, _, _, _, _, _⟩) (.bool (decide ((d : Int) = (1 : Int)))) rfl (wanted_none rfl _) (exec_eqn (p := d) (q := 1) rfl (hE 42 (.int .i64 d) (by kernel_rfl) (by kernel_rfl)) rfl) rfl)) ?_
                refine sv 2 rfl rfl rfl (fun a u hE hD hk => exec_assign (.tmp 44) _ rfl (hD 0 44 (by kernel_rfl))) ?_
                exact fsteps_nil
              intro gv v3w hV kv3
              rw [show dstsOf _ 2 = [44, 43] by kernel_rfl]
              simp only [List.foldl_cons, List.foldl_nil, List.setIfInBounds_toArray, List.set_cons_succ, List.set_cons_zero, List.drop_succ_cons, List.drop_zero]
              rw [show gv 43 = .bool false from hV 1 43 (by kernel_rfl)]
              clear hV
              refine wpList_nil ?_
              have T_3 := Lib.hid (T_2.out.kept kv3)
              have R7_3 := Lib.hid (range_kept R7_2.out kv3)
              have R13_3 := Lib.hid (range_kept R13_2.out kv3)
              have kk3 := kk2.trans kv3
              clear T_2 R7_2 R13_2 kv3 kk2
              go_upto_region 15 with fail
              refine wp_text 2 [.eq (.bool false), .eq (.bool false)] rfl (by kernel_rfl) ?_ ?_
              · refine fsteps_cons 1 rfl (fun a u hE hD hk => f_as (show ((decide ((d : Int) = (2 : Int))) : Bool) = false from decide_eq_false (by omega)) (f_val (o := ⟨some 68, _, _, _, _, _⟩) (.bool (decide ((d : Int) = (2 : Int)))) rfl (wanted_none rfl _) (exec_eqn (p := d) (q := 2) rfl (hE 42 (.int .i64 d) (by kernel_rfl) (by kernel_rfl)) rfl) rfl)) ?_
                refine sv 2 rfl rfl rfl (fun a u hE hD hk => exec_assign (.tmp 68) _ rfl (hD 0 68 (by kernel_rfl))) ?_
                exact fsteps_nil
              intro gv v4w hV kv4
              rw [show dstsOf _ 2 = [68, 67] by kernel_rfl]
              simp only [List.foldl_cons, List.foldl_nil, List.setIfInBounds_toArray, List.set_cons_succ, List.set_cons_zero, List.drop_succ_cons, List.drop_zero]
              rw [show gv 67 = .bool false from hV 1 67 (by kernel_rfl)]
              clear hV
              refine wpList_nil ?_
              have T_4 := Lib.hid (T_3.out.kept kv4)
              have R7_4 := Lib.hid (range_kept R7_3.out kv4)
              have R13_4 := Lib.hid (range_kept R13_3.out kv4)
              have kk4 := kk3.trans kv4
              clear T_3 R7_3 R13_3 kv4 kk3
              go_upto_region 26 with fail
              refine wp_text 2 [.eq (.bool false), .eq (.bool false)] rfl (by kernel_rfl) ?_ ?_
              · refine fsteps_cons 1 rfl (fun a u hE hD hk => f_as (show ((decide ((d : Int) = (3 : Int))) : Bool) = false from decide_eq_false (by omega)) (f_val (o := ⟨some 137, _, _, _, _, _⟩) (.bool (decide ((d : Int) = (3 : Int)))) rfl (wanted_none rfl _) (exec_eqn (p := d) (q := 3) rfl (hE 42 (.int .i64 d) (by kernel_rfl) (by kernel_rfl)) rfl) rfl)) ?_
                refine sv 2 rfl rfl rfl (fun a u hE hD hk => exec_assign (.tmp 137) _ rfl (hD 0 137 (by kernel_rfl))) ?_
                exact fsteps_nil
              intro gv v5w hV kv5
              rw [show dstsOf _ 2 = [137, 136] by kernel_rfl]
              simp only [List.foldl_cons, List.foldl_nil, List.setIfInBounds_toArray, List.set_cons_succ, List.set_cons_zero, List.drop_succ_cons, List.drop_zero]
              rw [show gv 136 = .bool false from hV 1 136 (by kernel_rfl)]
              clear hV
              refine wpList_nil ?_
              have T_5 := Lib.hid (T_4.out.kept kv5)
              have R7_5 := Lib.hid (range_kept R7_4.out kv5)
              have R13_5 := Lib.hid (range_kept R13_4.out kv5)
              have kk5 := kk4.trans kv5
              clear T_4 R7_4 R13_4 kv5 kk4
              go_upto_region 32 with fail
              refine wp_text 2 [.eq (.bool false), .eq (.bool false)] rfl (by kernel_rfl) ?_ ?_
              · refine fsteps_cons 1 rfl (fun a u hE hD hk => f_as (show ((decide ((d : Int) = (4 : Int))) : Bool) = false from decide_eq_false (by omega)) (f_val (o := ⟨some 170, _, _, _, _, _⟩) (.bool (decide ((d : Int) = (4 : Int)))) rfl (wanted_none rfl _) (exec_eqn (p := d) (q := 4) rfl (hE 42 (.int .i64 d) (by kernel_rfl) (by kernel_rfl)) rfl) rfl)) ?_
                refine sv 2 rfl rfl rfl (fun a u hE hD hk => exec_assign (.tmp 170) _ rfl (hD 0 170 (by kernel_rfl))) ?_
                exact fsteps_nil
              intro gv v6w hV kv6
              rw [show dstsOf _ 2 = [170, 169] by kernel_rfl]
              simp only [List.foldl_cons, List.foldl_nil, List.setIfInBounds_toArray, List.set_cons_succ, List.set_cons_zero, List.drop_succ_cons, List.drop_zero]
              rw [show gv 169 = .bool false from hV 1 169 (by kernel_rfl)]
              clear hV
              refine wpList_nil ?_
              have T_6 := Lib.hid (T_5.out.kept kv6)
              have R7_6 := Lib.hid (range_kept R7_5.out kv6)
              have R13_6 := Lib.hid (range_kept R13_5.out kv6)
              have kk6 := kk5.trans kv6
              clear T_5 R7_5 R13_5 kv6 kk5
              go_wp2
              go_ret
              exact ⟨by rw [HV4.out]; rfl, kk6⟩
end Go.Proofs.YtfoamgljfdnloaaDoor
