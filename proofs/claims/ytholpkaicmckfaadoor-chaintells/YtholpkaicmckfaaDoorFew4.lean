/-
  The contract of jobberlaw4.few: the first eight records, forty bytes of each, in memory of the call's own. No condition.
-/
import Derived.Test.YtholpkaicmckfaaDoorExec
namespace Go.Proofs.YtholpkaicmckfaaDoor
open Go.RowKit
set_option linter.unusedVariables false

/-- slice values, each in a block of bytes of its own, that read as these -/
def RowsE (w : World) (base : Nat) (vs : List Value) (L : List (List UInt8)) : Prop := vs.length = L.length ∧ ∀ (i : Nat) (v : Value) (xs : List UInt8), vs[i]? = some v → L[i]? = some xs → ∃ g c, v = .slice (some ⟨g, 0, none⟩) xs.length c ∧ base ≤ g ∧ Row8 w g c xs
theorem RowsE.nil (w : World) (base : Nat) : RowsE w base [] [] := ⟨rfl, fun i v xs h => by simp at h⟩
theorem RowsE.keep {S : Nat → Prop} {w w' : World} {base : Nat} {vs : List Value} {L : List (List UInt8)} (h : RowsE w base vs L) (hk : Keep S w w') (hn : ∀ g c xs, Row8 w g c xs → ¬ S g) : RowsE w' base vs L :=
  ⟨h.1, fun i v xs h1 h2 => by
    obtain ⟨g, c, e, hb, hr⟩ := h.2 i v xs h1 h2
    exact ⟨g, c, e, hb, hr.keep hk (hn g c xs hr)⟩⟩
theorem RowsE.kept {w w' : World} {base : Nat} {vs : List Value} {L : List (List UInt8)} (h : RowsE w base vs L) (hk : Kept w w') : RowsE w' base vs L := h.keep hk (fun _ _ _ _ h => h)
theorem RowsE.low {w : World} {base base' : Nat} {vs : List Value} {L : List (List UInt8)} (h : RowsE w base vs L) (hb : base' ≤ base) : RowsE w base' vs L :=
  ⟨h.1, fun i v xs h1 h2 => by
    obtain ⟨g, c, e, hb', hr⟩ := h.2 i v xs h1 h2
    exact ⟨g, c, e, Nat.le_trans hb hb', hr⟩⟩
theorem RowsE.set_ {w : World} {base g c : Nat} {vs : List Value} {L : List (List UInt8)} {xs : List UInt8} (h : RowsE w base vs L) (i : Nat) (hb : base ≤ g) (hv : Row8 w g c xs) : RowsE w base (vs.set i (.slice (some ⟨g, 0, none⟩) xs.length c)) (L.set i xs) := by
  refine ⟨by simp [h.1], fun j u ys h1 h2 => ?_⟩
  by_cases e : i = j
  · subst e
    by_cases hi : i < vs.length
    · rw [List.getElem?_set_self hi] at h1
      rw [List.getElem?_set_self (by rw [← h.1]; exact hi)] at h2
      injection h1 with h1
      injection h2 with h2
      subst h1 h2
      exact ⟨g, c, rfl, hb, hv⟩
    · rw [List.getElem?_eq_none (by simp; omega)] at h1
      cases h1
  · rw [List.getElem?_set_ne e] at h1 h2
    exact h.2 j u ys h1 h2
theorem RowsE.snoc {w : World} {base g c : Nat} {vs : List Value} {L : List (List UInt8)} {xs : List UInt8} (h : RowsE w base vs L) (hb : base ≤ g) (hv : Row8 w g c xs) : RowsE w base (vs ++ [.slice (some ⟨g, 0, none⟩) xs.length c]) (L ++ [xs]) := by
  refine ⟨by simp [h.1], fun i u ys h1 h2 => ?_⟩
  by_cases hi : i < vs.length
  · rw [List.getElem?_append_left hi] at h1
    rw [List.getElem?_append_left (by rw [← h.1]; exact hi)] at h2
    exact h.2 i u ys h1 h2
  · rw [List.getElem?_append_right (by omega)] at h1
    rw [List.getElem?_append_right (by rw [← h.1]; omega), ← h.1] at h2
    cases hq : i - vs.length with
    | zero =>
      rw [hq] at h1 h2
      simp at h1 h2
      subst h1 h2
      exact ⟨g, c, rfl, hb, hv⟩
    | succ j => rw [hq] at h1; simp at h1
theorem Row8.bytes {w : World} {g c : Nat} {xs : List UInt8} (h : Row8 w g c xs) : Bytes w (.slice (some ⟨g, 0, none⟩) xs.length c) xs :=
  ⟨_, _, c, rfl, rfl, h.r8, h.le, by obtain ⟨_, _, _, h⟩ := h; exact h, fun h => by cases h⟩
/-- a row of slices and a block of bytes are two -/
theorem own_ne {w : World} {base n c g g' c' : Nat} {cs : List Value} {xs : List UInt8} (h : OwnG w base 22 1 (some ⟨g, 0, none⟩) n c cs) (h' : Row8 w g' c' xs) : g' ≠ g := by
  rintro rfl
  rcases h.2 with ⟨e, _⟩ | ⟨g0, cap, cur, e, _, hh, _⟩
  · cases e
  · injection e with e
    injection e with e
    injection e with e
    subst e
    obtain ⟨_, hb, _⟩ := h'
    unfold Blk at hb
    rw [hb] at hh
    injection hh with hh
    injection hh with _ ht _
    exact absurd ht (by decide)
/-- such a row reads as the records -/
theorem recs_of_own {w : World} {base n c : Nat} {A : Option Addr} {vs : List Value} {L : List (List UInt8)} (h : OwnG w base 22 1 A n c vs) (hr : RowsE w base vs L) : Recs w A L := by
  intro i xs hx
  have hi := (List.getElem?_eq_some_iff.1 hx).1
  have hn := h.len
  rw [hr.1, Nat.mul_one] at hn
  obtain ⟨g, rfl, _, _⟩ := h.some_ (by omega)
  have hiv : i < vs.length := by rw [hr.1]; exact hi
  have hv : vs[i]? = some vs[i] := List.getElem?_eq_getElem hiv
  obtain ⟨g', c', e, _, hrow⟩ := hr.2 i _ xs hv hx
  refine ⟨g, 0, vs[i], rfl, ?_, ?_⟩
  · rw [Nat.zero_add, h.cell i (by omega), hv]
  · rw [e]
    exact hrow.bytes

def fewOf (l : List (List UInt8)) : List (List UInt8) := (l.take 8).map (·.take 40)
theorem fewOf_length (l : List (List UInt8)) : (fewOf l).length ≤ 8 := by simp [fewOf]; omega
theorem fewOf_each (l : List (List UInt8)) (x : List UInt8) (h : x ∈ fewOf l) : x.length ≤ 40 := by
  simp only [fewOf, List.mem_map] at h
  obtain ⟨y, _, rfl⟩ := h
  rw [List.length_take]
  omega
theorem few_next (l : List (List UInt8)) (i : Nat) (x : List UInt8) (h8 : i < 8) (h : l[i]? = some x) : fewOf (l.take (i + 1)) = fewOf (l.take i) ++ [x.take 40] := by
  unfold fewOf
  rw [List.take_take, List.take_take, Nat.min_eq_right (by omega), Nat.min_eq_right (by omega), List.take_add_one, h]
  simp
theorem few_all (l : List (List UInt8)) (i : Nat) (h : l.length ≤ i ∨ 8 ≤ i) : fewOf (l.take i) = fewOf l := by
  unfold fewOf
  rw [List.take_take]
  by_cases h8 : 8 ≤ i
  · rw [Nat.min_eq_left h8]
  · rw [Nat.min_eq_right (by omega), List.take_of_length_le (by omega), List.take_of_length_le (show l.length ≤ 8 by omega)]

/-- what few hands back -/
def FewIn (w w' : World) (L : List (List UInt8)) (v : Value) : Prop := ∃ A c vs, v = .slice A L.length c ∧ OwnG w' w.heap.size 22 1 A L.length c vs ∧ RowsE w' w.heap.size vs L ∧ Kept w w'

theorem infoSl : (Tryd.prog.info? 22).map (fun i => (i.zero, i.size, i.bytes)) = some (some (.slice none 0 0), 1, 24) := by kernel_rfl
theorem infoSl2 : (Tryd.prog.info? 22).map (fun i => (i.zero, i.size)) = some (some (.slice none 0 0), 1) := by kernel_rfl

set_option maxRecDepth 100000 in
set_option maxHeartbeats 1600000 in
theorem few_any (v : Value) (l : List (List UInt8)) (w : World) (hv : RecV w v l) :
    Calls Tryd.prog 11 #[v] w fun e w' => ∃ u, e = .returned u ∧ FewIn w w' (fewOf l) u := by
  obtain ⟨E, nl, cl, rfl, hll, hE, hnl, hcl⟩ := hv
  unfold maxLen at hcl
  have HE := Lib.hid hE
  clear hE
  obtain ⟨base, hbase⟩ : ∃ base, base = w.heap.size := ⟨_, rfl⟩
  have hb0 : base ≤ w.heap.size := by omega
  have HBS := Lib.hid hbase
  clear hbase
  go_enter Tryd.func11, Tryd.ntmps11
  go_wp2_with fail
  go_loopw [3, 4] (fun v q wr => ∃ (i : Nat) (A : Option Addr) (c : Nat) (vs : List Value), i ≤ 8 ∧ i ≤ nl ∧ v = .slice A i c ∧ q = .int .i64 i ∧ Hid (OwnG wr base 22 1 A i c vs) ∧ Hid (RowsE wr base vs (fewOf (l.take i))) ∧ Kept w wr) (fun _ q _ => 8 - (intOf q).toNat)
  case atStart => exact ⟨0, none, 0, [], Nat.zero_le _, Nat.zero_le _, rfl, rfl, OwnG.nil _ _ _ _, RowsE.nil _ _, Kept.refl _⟩
  case round =>
    obtain ⟨i, A, c, vs, hi8, hil, rfl, rfl, HO, HW, hkr⟩ := hrel
    by_cases h1 : i < nl
    · by_cases h2 : i < 8
      · obtain ⟨bb, oo, u, rfl, hcu, hbu⟩ := HE.out i _ (List.getElem?_eq_getElem (by rw [hll.out]; exact h1))
        obtain ⟨P, np, cp, rfl, hlp, hRp, hncp, hcp, hPn⟩ := hbu
        have hcpm := hcp
        unfold maxLen at hcp
        obtain ⟨m, hm⟩ : ∃ m, m = min np 40 := ⟨_, rfl⟩
        have hm1 : m ≤ 40 := by omega
        have hm2 : m ≤ np := by omega
        obtain ⟨ps, hps⟩ : ∃ ps, ps = (l[i]'(by rw [hll.out]; exact h1)).take 40 := ⟨_, rfl⟩
        have HF : Hid (fewOf (l.take (i + 1)) = fewOf (l.take i) ++ [ps]) := by
          show _ = _
          rw [few_next l i _ h2 (List.getElem?_eq_getElem (by rw [hll.out]; exact h1)), hps]
        have hlm : Hid (ps.length = m) := by show _ = _; rw [hps, List.length_take, hlp.out]; omega
        have hRm : R8 w P ps := by rw [hps]; exact hRp.take2 40
        have hmin : Hid ((if (40 : Int) < (np : Int) then (40 : Int) else (np : Int)) = (m : Int)) := by show _ = _; split <;> omega
        have HC : Hid (w.cell? ⟨bb, oo + i * 1, none⟩ = some (.slice P np cp)) := by show _ = _; rw [Nat.mul_one]; exact hcu
        have HR := Lib.hid hRm
        have HPn := Lib.hid hPn
        clear hps hRp hRm hm hcu hlp hPn
        go_wp2_with fail
        refine wp_sched (fun u => Kept w u) [(0, 0), (2, 0), (3, 0), (4, 0), (5, 0), (6, 0), (7, 0), (8, 0), (9, 0), (10, 0), (11, 0), (12, 0), (1, 1), (13, 1), (14, 1), (15, 1), (16, 0)] (by kernel_rfl) (by kernel_rfl) (Keep.drew hkr) ?_
        refine s_val (o := ⟨some 15, _, _, _, _, _⟩) (.slice A i c) rfl (by kernel_rfl) (fun u hu => exec_move (.tmp 3) (.slice A i c) rfl (by kernel_rfl)) ?_
        simp only [Act.put, List.setIfInBounds_toArray, List.set_cons_succ, List.set_cons_zero]
        refine s_val (o := ⟨some 17, _, _, _, _, _⟩) (.slice (some ⟨bb, oo, none⟩) nl cl) rfl (by kernel_rfl) (fun u hu => exec_move (.tmp 0) (.slice (some ⟨bb, oo, none⟩) nl cl) rfl (by kernel_rfl)) ?_
        simp only [Act.put, List.setIfInBounds_toArray, List.set_cons_succ, List.set_cons_zero]
        refine s_val (o := ⟨some 18, _, _, _, _, _⟩) (.int .i64 (i : Int)) rfl (by kernel_rfl) (fun u hu => exec_move (.tmp 4) (.int .i64 (i : Int)) rfl (by kernel_rfl)) ?_
        simp only [Act.put, List.setIfInBounds_toArray, List.set_cons_succ, List.set_cons_zero]
        refine s_val (o := ⟨some 19, _, _, _, _, _⟩) (.pointer (some ⟨bb, oo + i * 1, none⟩)) rfl (by kernel_rfl) (fun u hu => exec_index 23 22 1 (.tmp 17) (.tmp 18) (bb) (oo) (nl) (cl) (i) rfl Tryd.underlying23 sl_size (by kernel_rfl) (by kernel_rfl) (by omega)) ?_
        simp only [Act.put, List.setIfInBounds_toArray, List.set_cons_succ, List.set_cons_zero]
        refine s_val (o := ⟨some 20, _, _, _, _, _⟩) (.slice P np cp) rfl (by kernel_rfl) (fun u hu => exec_load_sl (.tmp 19) ⟨bb, oo + i * 1, none⟩ (.slice P np cp) rfl (by kernel_rfl) (Kept.cell hu HC.out)) ?_
        simp only [Act.put, List.setIfInBounds_toArray, List.set_cons_succ, List.set_cons_zero]
        refine s_val (o := ⟨some 21, _, _, _, _, _⟩) (.slice (some ⟨bb, oo, none⟩) nl cl) rfl (by kernel_rfl) (fun u hu => exec_move (.tmp 0) (.slice (some ⟨bb, oo, none⟩) nl cl) rfl (by kernel_rfl)) ?_
        simp only [Act.put, List.setIfInBounds_toArray, List.set_cons_succ, List.set_cons_zero]
        refine s_val (o := ⟨some 22, _, _, _, _, _⟩) (.int .i64 (i : Int)) rfl (by kernel_rfl) (fun u hu => exec_move (.tmp 4) (.int .i64 (i : Int)) rfl (by kernel_rfl)) ?_
        simp only [Act.put, List.setIfInBounds_toArray, List.set_cons_succ, List.set_cons_zero]
        refine s_val (o := ⟨some 23, _, _, _, _, _⟩) (.pointer (some ⟨bb, oo + i * 1, none⟩)) rfl (by kernel_rfl) (fun u hu => exec_index 23 22 1 (.tmp 21) (.tmp 22) (bb) (oo) (nl) (cl) (i) rfl Tryd.underlying23 sl_size (by kernel_rfl) (by kernel_rfl) (by omega)) ?_
        simp only [Act.put, List.setIfInBounds_toArray, List.set_cons_succ, List.set_cons_zero]
        refine s_val (o := ⟨some 24, _, _, _, _, _⟩) (.slice P np cp) rfl (by kernel_rfl) (fun u hu => exec_load_sl (.tmp 23) ⟨bb, oo + i * 1, none⟩ (.slice P np cp) rfl (by kernel_rfl) (Kept.cell hu HC.out)) ?_
        simp only [Act.put, List.setIfInBounds_toArray, List.set_cons_succ, List.set_cons_zero]
        refine s_val (o := ⟨some 25, _, _, _, _, _⟩) (.int .i64 ((np : Nat) : Int)) rfl (by kernel_rfl) (fun u hu => exec_len (.tmp 24) _ _ Tryd.underlying22 (P) (np) (cp) rfl (by kernel_rfl)) ?_
        simp only [Act.put, List.setIfInBounds_toArray, List.set_cons_succ, List.set_cons_zero]
        refine s_val (o := ⟨some 26, _, _, _, _, _⟩) (.int .i64 (m : Int)) rfl (by kernel_rfl) (fun u hu => exec_min (.tmp 25) (.const (.int .i64 40)) _ (np : Int) 40 (m : Int) rfl (by kernel_rfl) (by kernel_rfl) hmin.out) ?_
        simp only [Act.put, List.setIfInBounds_toArray, List.set_cons_succ, List.set_cons_zero]
        refine s_val (o := ⟨some 27, _, _, _, _, _⟩) (.slice P m cp) rfl (by kernel_rfl) (fun u hu => exec_upto 22 5 1 (.tmp 20) (.tmp 26) P np cp m rfl Tryd.underlying22 info8s (by kernel_rfl) (by kernel_rfl) (by omega)) ?_
        simp only [Act.put, List.setIfInBounds_toArray, List.set_cons_succ, List.set_cons_zero]
        refine s_turn (o := ⟨some 16, _, _, _, _, _⟩) _ _ rfl (by kernel_rfl) (exec_none 22 5 1 rfl Tryd.underlying22 info8s) (Keep.alloc (Keep.drew hkr) _) ?_
        have R1 : Row8 (wr.drew.alloc (.cells #[] 5)) wr.drew.heap.size 0 [] := row8_new wr.drew [] (by simp)
        have k1 : Kept wr (wr.drew.alloc (.cells #[] 5)) := Keep.alloc (Keep.drew (Keep.refl _ wr)) _
        have g1l : wr.heap.size ≤ wr.drew.heap.size := Nat.le_refl _
        generalize wr.drew.alloc (.cells #[] 5) = w1 at R1 k1 ⊢
        generalize wr.drew.heap.size = g1 at R1 g1l ⊢
        have hkw1 := hkr.trans k1
        have hszr := hkr.size
        have hsz1 := k1.size
        simp only [Act.put, List.setIfInBounds_toArray, List.set_cons_succ, List.set_cons_zero]
        refine s_oper (o := ⟨some 28, _, _, _, _, _⟩) rfl (by kernel_rfl) fun K hK => ?_
        refine op_append8 w1 (.tmp 16) (.tmp 27) rfl base g1 0 0 [] (by kernel_rfl) rfl R1 (by omega) P m cp ps (by kernel_rfl) hlm.out (HR.out.kept hkw1) HPn.out (by omega) ?_
        intro w2 g2 c2 R2 hg2 k2
        have hkw2 : Kept w w2 := Kept.trans' hkw1 k2 (by omega)
        have k12 : Kept wr w2 := Kept.trans' k1 k2 (by omega)
        have HO2 := Lib.hid (HO.out.kept k12)
        have HW2 := Lib.hid (HW.out.kept k12)
        rw [List.nil_append] at R2
        refine hK _ _ hkw2 ?_
        simp only [Act.put, List.setIfInBounds_toArray, List.set_cons_succ, List.set_cons_zero]
        refine s_turn (o := ⟨some 29, _, _, _, _, _⟩) _ _ rfl (by kernel_rfl) (exec_one 23 22 (.tmp 28) (.slice (some ⟨g2, 0, none⟩) (0 + m) c2) (.slice none 0 0) rfl Tryd.underlying23 infoSl2 rfl (by kernel_rfl)) (Keep.alloc hkw2 _) ?_
        have B3 := heap_alloc_new w2 (.cells #[.slice (some ⟨g2, 0, none⟩) (0 + m) c2] 22)
        have k3 : Kept w2 (w2.alloc (.cells #[.slice (some ⟨g2, 0, none⟩) (0 + m) c2] 22)) := Keep.alloc (Keep.refl _ w2) _
        generalize w2.alloc (.cells #[.slice (some ⟨g2, 0, none⟩) (0 + m) c2] 22) = w3 at B3 k3 ⊢
        generalize w2.heap.size = g3 at B3 ⊢
        have N3 := World.news_of_block B3
        have hkw3 := hkw2.trans k3
        have HO3 := Lib.hid (HO2.out.kept k3)
        have HW3 := Lib.hid (HW2.out.kept k3)
        have R3 := R2.kept k3
        have hb3 : base ≤ w3.heap.size := by have := hkw3.size; omega
        simp only [Act.put, List.setIfInBounds_toArray, List.set_cons_succ, List.set_cons_zero]
        refine s_oper (o := ⟨some 30, _, _, _, _, _⟩) rfl (by kernel_rfl) fun K hK => ?_
        refine op_append_g w3 (.tmp 15) (.tmp 29) 23 22 rfl (.slice none 0 0) 1 24 Tryd.underlying23 infoSl rfl (by omega) base i c A vs (by kernel_rfl) HO3.out hb3 ⟨g3, 0, none⟩ 1 1 [.slice (some ⟨g2, 0, none⟩) (0 + m) c2] (by kernel_rfl) rfl N3 (by simp [Value.oneCell']) (by unfold maxLen; omega) (by omega) ?_
        intro w4 A4 c4 O4 k4
        have hkw4 : Kept w w4 := Keep.trans hkw3 k4 (fun j hj ⟨ad, e, h⟩ => by obtain ⟨g, rfl, hb, _⟩ := HO3.out.at_ ad e; have := HBS.out; simp at h; omega)
        refine hK _ _ hkw4 ?_
        simp only [Act.put, List.setIfInBounds_toArray, List.set_cons_succ, List.set_cons_zero]
        refine s_val (o := ⟨some 3, _, _, _, _, _⟩) (.slice A4 (i + 1) c4) rfl (by kernel_rfl) (fun u hu => exec_assign (.tmp 30) (.slice A4 (i + 1) c4) rfl (by kernel_rfl)) ?_
        simp only [Act.put, List.setIfInBounds_toArray, List.set_cons_succ, List.set_cons_zero]
        refine s_done ?_
        have W4 : RowsE w4 base (vs ++ [.slice (some ⟨g2, 0, none⟩) (0 + m) c2]) (fewOf (l.take (i + 1))) := by
          have hne : ∀ g c xs, Row8 w3 g c xs → ¬ ∃ ad, A = some ad ∧ ad.block = g := fun g c' xs hr ⟨ad, e, h⟩ => by
            obtain ⟨g', rfl, _, _⟩ := HO3.out.at_ ad e
            subst e
            exact own_ne HO3.out hr h.symm
          have R4 := R3.keep k4 (hne _ _ _ R3)
          have := (HW3.out.keep k4 hne).snoc hg2 R4
          rw [HF.out, Nat.zero_add, ← hlm.out]
          exact this
        have HO4 := Lib.hid O4
        have HW4 := Lib.hid W4
        clear O4 W4 HO HW HO2 HW2 HO3 HW3 HF HC hkw1 hkw2 hkw3 R1 R2 R3 B3 N3 k1 k2 k3 k4 k12 hmin HR HPn hlm hkr
        go_wp2
        exact ⟨⟨i + 1, A4, c4, _, by omega, by omega, rfl, by go_num, HO4, HW4, hkw4⟩, by simp [intOf]; omega⟩
      · have hd8 : decide ((i : Int) < 8) = false := by simp; omega
        have HF : Hid (fewOf (l.take i) = fewOf l) := few_all l i (.inr (by omega))
        have HL : Hid (i = (fewOf l).length) := by
          show _ = _
          have := HO.out.len
          rw [HW.out.1, HF.out] at this
          omega
        go_wp2
        go_ret
        have h1 := HO.out
        have h2 := HW.out
        rw [HF.out] at h2
        rw [HBS.out] at h1 h2
        refine ⟨_, rfl, A, c, vs, ?_, ?_, h2, hkr⟩
        · rw [← HL.out]; rfl
        · rw [← HL.out]; exact h1
    · have hdl : decide ((i : Int) < (nl : Int)) = false := by simp; omega
      have HF : Hid (fewOf (l.take i) = fewOf l) := few_all l i (.inl (by rw [hll.out]; omega))
      have HL : Hid (i = (fewOf l).length) := by
        show _ = _
        have := HO.out.len
        rw [HW.out.1, HF.out] at this
        omega
      go_wp2
      go_ret
      have h1 := HO.out
      have h2 := HW.out
      rw [HF.out] at h2
      rw [HBS.out] at h1 h2
      refine ⟨_, rfl, A, c, vs, ?_, ?_, h2, hkr⟩
      · rw [← HL.out]; rfl
      · rw [← HL.out]; exact h1
end Go.Proofs.YtholpkaicmckfaaDoor
