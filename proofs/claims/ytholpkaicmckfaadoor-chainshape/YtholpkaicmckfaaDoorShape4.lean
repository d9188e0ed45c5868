/-
  The walk of jobberlaw4.ChainShape. No condition but the tables' contents.
-/
import Derived.Test.YtholpkaicmckfaaDoorLast4
namespace Go.Proofs.YtholpkaicmckfaaDoor
open Go.RowKit
set_option linter.unusedVariables false

theorem recs_snoc {w : World} {base n c : Nat} {A : Option Addr} {vs : List Value} {v : Value} {L : List (List UInt8)} {xs : List UInt8} (h : OwnG w base 22 1 A (n + 1) c (vs ++ [v])) (hr : RowsE w base vs L) (hb : Bytes w v xs) : Recs w A (L ++ [xs]) := by
  intro i ys hy
  have hn := h.len
  rw [List.length_append, List.length_singleton, hr.1, Nat.mul_one] at hn
  have hi := (List.getElem?_eq_some_iff.1 hy).1
  rw [List.length_append, List.length_singleton] at hi
  obtain ⟨g, rfl, _, _⟩ := h.some_ (by omega)
  by_cases e : i < L.length
  · rw [List.getElem?_append_left e] at hy
    have hiv : i < vs.length := by rw [hr.1]; exact e
    have hv : vs[i]? = some vs[i] := List.getElem?_eq_getElem hiv
    obtain ⟨g', c', e', _, hrow⟩ := hr.2 i _ ys hv hy
    refine ⟨g, 0, vs[i], rfl, ?_, ?_⟩
    · rw [Nat.zero_add, h.cell i (by omega), List.getElem?_append_left hiv, hv]
    · rw [e']
      exact hrow.bytes
  · have hi' : i = L.length := by omega
    subst hi'
    rw [List.getElem?_append_right (Nat.le_refl _), Nat.sub_self] at hy
    simp at hy
    subst hy
    refine ⟨g, 0, v, rfl, ?_, hb⟩
    rw [Nat.zero_add, h.cell _ (by omega), List.getElem?_append_right (by rw [hr.1]; exact Nat.le_refl _), hr.1, Nat.sub_self]
    rfl
theorem links_more (X : List (List UInt8)) (p : List UInt8) : (linksOf (X ++ [p])).take X.length = linksOf X := by
  rw [← linksOf_take]
  simp
theorem ahead_more (X : List (List UInt8)) (p : List UInt8) : aheadOf (X ++ [p]) (X.length + 1) = linkOf (aheadOf X X.length) p := by
  rw [aheadOf_succ _ _ p (by simp)]
  unfold aheadOf
  simp
theorem exec_slice_sum {a : Act} {o : Oper} {u : World} (x : Operand) (g : Nat) (hop : o.op = .slice 30 x none none none) (hx : a.eval x = .pointer (some ⟨g, 0, none⟩)) : (execOp a.eval o).run Tryd.prog u = .ok (.value (.slice (some ⟨g, 0, none⟩) 32 32)) u := by
  unfold execOp
  simp only [hop, hx, Option.map_none, Sem.run_bind, slice_sum, Result.andThen_ok, Sem.run_pure]
theorem exec_to32 {a : Act} {o : Oper} {u : World} (x : Operand) (n : Nat) (hop : o.op = .convert 3 41 x) (hx : a.eval x = .int .i64 (n : Int)) (hn : n < 4294967296) : (execOp a.eval o).run Tryd.prog u = .ok (.value (.int .u32 (n : Int))) u := by
  unfold execOp
  simp only [hop, hx]
  have hw : IntKind.u32.wrap (n : Int) = (n : Int) := by rw [IntKind.wrap_u32]; omega
  simp [go_sem, hw]

set_option maxRecDepth 100000 in
set_option maxHeartbeats 6400000 in
theorem chainShape_any (vl vp : Value) (l : List (List UInt8)) (p0 : List UInt8) (w : World) (hG : Glob w) (hl : RecV w vl l) (hp : Bytes w vp p0) :
    Calls Tryd.prog 7 #[vl, vp] w fun e w' => e = .returned (.bool true) ∧ Kept w w' := by
  have HV := Lib.hid hl
  obtain ⟨Ap, np, cp, rfl, hlp, hRp, hncp, hcp, hAp⟩ := hp
  have hcpm := hcp
  unfold maxLen at hcp
  obtain ⟨m, hm⟩ : ∃ m, m = min np 60 := ⟨_, rfl⟩
  have hm1 : m ≤ 60 := by omega
  have hm2 : m ≤ np := by omega
  have hmin : (if (60 : Int) < (np : Int) then (60 : Int) else (np : Int)) = (m : Int) := by split <;> omega
  obtain ⟨ps, hps⟩ : ∃ ps, ps = p0.take m := ⟨_, rfl⟩
  have hlm : Hid (ps.length = m) := by show _ = _; rw [hps, List.length_take, hlp.out]; omega
  have HP : Hid (Bytes w (.slice Ap m cp) ps) := ⟨Ap, m, cp, rfl, hlm, by rw [hps]; exact hRp.take2 m, by omega, hcpm, hAp⟩
  clear hl hlp hRp hAp hps hm
  go_enter Tryd.func7, Tryd.ntmps7
  go_wp2_with fail
  refine (few_any vl l w HV.out).mono ?_
  rintro e w1 ⟨u, rfl, A1, c1, vs1, rfl, own1, rows1, hk1⟩
  have hX8 := fewOf_length l
  have HXe := Lib.hid (fewOf_each l)
  have hcap1 := own1.cap
  have HRX1 := Lib.hid (recs_of_own own1 rows1)
  clear own1 rows1
  go_wp2_with fail
  have HVX1 : Hid (RecV w1 (.slice A1 (fewOf l).length c1) (fewOf l)) := ⟨A1, _, c1, rfl, rfl, HRX1.out, hcap1.1, hcap1.2.1⟩
  have HG1 := Lib.hid (hG.kept hk1)
  refine (links_any _ (fewOf l) w1 HG1.out HVX1.out (by omega) (fun x hx => by have := HXe.out x hx; omega)).mono ?_
  rintro e w2 ⟨u, rfl, gx, rfl, hgx, hbx, hk2⟩
  have hkw2 := hk1.trans hk2
  have HSx2 := Lib.hid (sums_of_blk hbx (linksOf_each (fewOf l)))
  clear hbx HRX1
  go_wp2_with fail
  refine (few_any vl l w2 (HV.out.kept hkw2)).mono ?_
  rintro e w3 ⟨u, rfl, A3, c3, vs3, rfl, own3, rows3, hk3⟩
  have HO3 := Lib.hid own3
  have HW3 := Lib.hid rows3
  clear own3 rows3
  have hlX : Hid ((fewOf l).length = (fewOf l).length) := rfl
  generalize fewOf l = X at hX8 HXe hcap1 HVX1 HSx2 HO3 HW3 hlX ⊢
  have HSx3 := Lib.hid (HSx2.out.kept hk3)
  have HLm := Lib.hid (links_more X ps)
  have HAm := Lib.hid (ahead_more X ps)
  have HAl := Lib.hid (aheadOf_length X X.length (Nat.le_refl _))
  have HAz : Hid (X.length = 0 → cells8 (aheadOf X X.length) = z32) := fun h => by rw [h]; rfl
  have HSy0 : Hid ((linksOf (X ++ [ps]))[X.length]? = some (aheadOf (X ++ [ps]) (X.length + 1))) := linksOf_ahead _ _ (by simp)
  have HSx0 : Hid (0 < X.length → (linksOf X)[X.length - 1]? = some (aheadOf X X.length)) := fun h => by
    rw [linksOf_ahead X (X.length - 1) (by omega), show X.length - 1 + 1 = X.length by omega]
  generalize hn : X.length = n at hX8 hcap1 HVX1 HSx2 HO3 hlX HLm HAm HAl HAz HSy0 HSx0 ⊢
  replace hlX : Hid (X.length = n) := hn
  have hkw3 := hkw2.trans hk3
  have HVX2 := Lib.hid (HVX1.out.kept hk2)
  have hb3 : w2.heap.size ≤ w3.heap.size := hk3.size
  have k4 : Kept w3 (w3.alloc (.cells #[.slice Ap m cp] 22)) := Keep.alloc (Keep.refl _ w3) _
  have HO4 := Lib.hid (HO3.out.kept k4)
  have HW4 := Lib.hid (HW3.out.kept k4)
  have N4 : Hid (∀ j u, [Value.slice Ap m cp][j]? = some u → (w3.alloc (.cells #[.slice Ap m cp] 22)).cell? ((⟨w3.heap.size, 0, none⟩ : Addr).add j) = some u) := World.news_of_block (heap_alloc_new w3 _)
  have hb4 : Hid (w2.heap.size ≤ (w3.alloc (.cells #[.slice Ap m cp] 22)).heap.size) := Nat.le_trans hb3 k4.size
  clear hn HVX1 HO3 HW3 hmin
  go_wp2_with ((with_reducible show wpList _ _ _ _ _ _); (first
    | ((with_reducible refine wpl_append_g (o := ⟨some 22, _, _, _, _, _⟩) _ ?hw5 (.tmp 19) (.tmp 21) 23 22 ?ho5 (.slice none 0 0) 1 24 Tryd.underlying23 infoSl ?hz5 (by omega) w2.heap.size n c3 A3 vs3 ?hs5 HO4.out hb4.out ⟨w3.heap.size, 0, none⟩ 1 1 [.slice Ap m cp] ?hx5 ?hl5 N4.out ?h15 ?hm5 ?hb5 ?_); (case hw5 => rfl); (case ho5 => rfl); (case hz5 => rfl); (case hs5 => rfl); (case hx5 => rfl); (case hl5 => rfl); (case h15 => simp [Value.oneCell']); (case hm5 => unfold maxLen; omega); (case hb5 => omega); intro w5 A5 c5 O5 k5)))
  have hkw5 : Kept w2 w5 := Keep.trans (hk3.trans k4) k5 (fun j hj ⟨ad, e, h⟩ => by obtain ⟨g, rfl, hb, _⟩ := HO4.out.at_ ad e; simp at h; omega)
  have k35 : Keep (fun b => ∃ ad, A3 = some ad ∧ ad.block = b) w3 w5 := Keep.trans (Keep.mono k4 (fun _ _ h => h.elim)) k5 (fun _ _ h => h)
  have hne : ∀ g c xs, Row8 (w3.alloc (.cells #[.slice Ap m cp] 22)) g c xs → ¬ ∃ ad, A3 = some ad ∧ ad.block = g := fun g c' xs hr ⟨ad, e, h⟩ => by
    obtain ⟨g', rfl, _, _⟩ := HO4.out.at_ ad e
    subst e
    exact own_ne HO4.out hr h.symm
  have W5 := HW4.out.keep k5 hne
  have hkwz := hkw2.trans hkw5
  have HP5 := Lib.hid (HP.out.kept hkwz)
  have HR5 := Lib.hid (recs_snoc O5 W5 HP5.out)
  have hcap5 := O5.cap
  have HVX5 := Lib.hid (HVX2.out.kept hkw5)
  have HSx5 := Lib.hid (HSx2.out.kept hkw5)
  have hlY : Hid ((X ++ [ps]).length = n + 1) := by show _ = _; rw [List.length_append, hlX.out]; rfl
  have HVY5 : Hid (RecV w5 (.slice A5 (n + 1) c5) (X ++ [ps])) := ⟨A5, n + 1, c5, rfl, hlY, HR5.out, hcap5.1, hcap5.2.1⟩
  have HG5 := Lib.hid (hG.kept hkwz)
  have HYe : Hid (∀ x ∈ X ++ [ps], x.length ≤ 60) := fun x hx => by
    rcases List.mem_append.1 hx with h | h
    · have := HXe.out x h
      omega
    · simp at h
      rw [h, hlm.out]
      exact hm1
  obtain ⟨Y, hY⟩ : ∃ Y, Y = X ++ [ps] := ⟨_, rfl⟩
  rw [← hY] at HLm HAm HSy0 HR5 hlY HVY5 HYe
  clear hY W5 hne k35 O5 k5 HO4 HW4 N4 hb4 k4 hkw5 hk3 hkw3 hk1 hk2 hkw2 HSx2 HSx3 HVX2 HR5 HG1
  refine (links_any _ Y w5 HG5.out HVY5.out (by have := hlY.out; omega) (fun x hx => by have := HYe.out x hx; omega)).mono ?_
  rintro e w6 ⟨u, rfl, gy, rfl, hgy, hby, p6⟩
  rw [hlY.out]
  have HSy6 := Lib.hid (sums_of_blk hby (linksOf_each Y))
  have HSx6 := Lib.hid (HSx5.out.kept p6)
  have HVX6 := Lib.hid (HVX5.out.kept p6)
  have HP6 := Lib.hid (HP5.out.kept p6)
  have q6 := hkwz.trans p6
  have HG6 := Lib.hid (HG5.out.kept p6)
  have HLx := Lib.hid ((linksOf_length X).trans hlX.out)
  have HLy : Hid (((linksOf Y).take n).length = n) := by show _ = _; rw [HLm.out]; exact HLx.out
  clear hby p6 hkwz HSx5 HVX5 HP5 HG5
  go_wp2_with fail
  refine (sameS_any _ _ n n (n + 1) n ((linksOf Y).take n) (linksOf X) w6 (HSy6.out.take n) HSx6.out HLy HLx (by omega) (by omega)).mono ?_
  rintro e w7 ⟨rfl, p7⟩
  rw [decide_eq_true HLm.out]
  have HSy7 := Lib.hid (HSy6.out.kept p7)
  have HSx7 := Lib.hid (HSx6.out.kept p7)
  have HP7 := Lib.hid (HP6.out.kept p7)
  have q7 := q6.trans p7
  have HG7 := Lib.hid (HG6.out.kept p7)
  obtain ⟨P, hP⟩ : ∃ P, P = aheadOf X n := ⟨_, rfl⟩
  obtain ⟨S, hS⟩ : ∃ S, S = aheadOf Y (n + 1) := ⟨_, rfl⟩
  rw [← hP] at HAl HAz HAm HSx0
  rw [← hS] at HAm HSy0
  have HSS : Hid (∀ t, t = linkOf P ps → t = S) := fun t h => by rw [h, HAm.out]
  have HTT : Hid (∀ t, t = shaOf ((P ++ be m 4) ++ ps) → t = S) := fun t h => by rw [h, HAm.out, linkOf, List.append_assoc, hlm.out]
  obtain ⟨hSl, gy', ey, hry⟩ := HSy7.out n S HSy0.out
  injection ey with ey
  injection ey with ey
  subst ey
  have HSl := Lib.hid hSl
  have HRy := Lib.hid hry
  have hiP := size_arr P HAl.out
  have hzP := zlen_arr P HAl.out
  clear hP hS hSl hry p7 q6 HSx6 HSy6 HP6 HG6 HAm HSy0 HLm HLy
  by_cases hn0 : 0 < n
  · obtain ⟨_, gx', ex, hrx⟩ := HSx7.out (n - 1) P (HSx0.out hn0)
    injection ex with ex
    injection ex with ex
    subst ex
    have HRx := Lib.hid hrx
    clear hrx HAz HSx0
    go_wp2_with ((with_reducible show wpList _ _ _ _ _ _); (first
      | ((with_reducible refine wpl_alloc (o := ⟨some 8, _, _, _, _, _⟩) _ rfl 30 rfl z32 sum_zero ?_); intro w8 hb8 hs8 hk8; clear hs8; have HRx8 : Hid (w8.rangeAt gx ((n - 1) * 32) (cells8 P)) := fun j v hv => hk8.cell (HRx.out j v hv))
      | ((with_reducible refine wpList_load_mid (op := ⟨some 54, _, _, _, _, _⟩) rfl 30 (.tmp 53) rfl gx ((n - 1) * 32) ?hx (cells8 P) _ HRx8.out Tryd.underlying30 ?hd hiP.out ?_); (case hx => rfl); (case hd => rfl))
      | ((with_reducible refine wpl_store_row (o := ⟨none, _, _, _, _, _⟩) _ rfl 30 (.tmp 8) (.tmp 54) rfl w7.heap.size (cells8 P) ?hp ?hv 30 z32 hb8 hiP.out hzP.out (cells8_one _) ?_); (case hp => rfl); (case hv => rfl); intro w9 hb9 hk9 hs9; clear hs9)))
    have k7z : Kept w7 w9 := Kept.trans' hk8 hk9 (by omega)
    have hkz := q7.trans k7z
    have hbz := hb9
    clear hb8 hb9 hk8 hk9 q7 HRx HRx8 HSx7 HSy7
    have HGz := Lib.hid (hG.kept hkz)
    have HPz := Lib.hid (HP7.out.kept k7z)
    have HRz : Hid (w9.rangeAt gy (0 + n * 32) (cells8 S)) := fun j v hv => by rw [Nat.zero_add]; exact k7z.cell (HRy.out j v hv)
    obtain ⟨Aq, nq, cq, eq, hlq, hRq, h1q, h2q, h3q⟩ := HPz.out
    injection eq with e1 e2 e3
    subst e1 e2 e3
    have HRq := Lib.hid hRq
    have H3q := Lib.hid h3q
    clear hRq h3q
    generalize w9 = wz at hkz hbz HGz HPz HRz HRq ⊢
    refine wp_sched (fun u => Kept wz u) [(0, 0), (1, 0), (2, 0), (3, 0), (4, 0), (5, 0), (6, 0), (7, 1), (8, 0), (9, 0), (10, 0), (11, 0), (13, 0), (14, 0), (15, 0), (16, 0), (18, 0), (12, 1), (17, 1), (19, 1), (20, 1), (21, 0), (22, 0), (23, 0), (24, 1), (25, 0), (26, 0)] (by kernel_rfl) (by kernel_rfl) ((Keep.drew (Kept.refl wz) : Kept wz wz.drew)) ?_
    refine s_val (o := ⟨some 55, _, _, _, _, _⟩) (.slice (some ⟨gy, 0, none⟩) (n + 1) (n + 1)) rfl (by kernel_rfl) (fun u hu => exec_move (.tmp 7) (.slice (some ⟨gy, 0, none⟩) (n + 1) (n + 1)) rfl (by kernel_rfl)) ?_
    simp only [Act.put, List.setIfInBounds_toArray, List.set_cons_succ, List.set_cons_zero]
    refine s_val (o := ⟨some 56, _, _, _, _, _⟩) (.slice A1 n c1) rfl (by kernel_rfl) (fun u hu => exec_move (.tmp 5) (.slice A1 n c1) rfl (by kernel_rfl)) ?_
    simp only [Act.put, List.setIfInBounds_toArray, List.set_cons_succ, List.set_cons_zero]
    refine s_val (o := ⟨some 57, _, _, _, _, _⟩) (.int .i64 ((n : Nat) : Int)) rfl (by kernel_rfl) (fun u hu => exec_len (.tmp 56) _ _ Tryd.underlying23 (A1) (n) (c1) rfl (by kernel_rfl)) ?_
    simp only [Act.put, List.setIfInBounds_toArray, List.set_cons_succ, List.set_cons_zero]
    refine s_val (o := ⟨some 58, _, _, _, _, _⟩) (.pointer (some ⟨gy, 0 + n * 32, none⟩)) rfl (by kernel_rfl) (fun u hu => exec_index 24 30 32 (.tmp 55) (.tmp 57) (gy) (0) ((n + 1)) ((n + 1)) (n) rfl Tryd.underlying24 sum_size (by kernel_rfl) (by kernel_rfl) (by omega)) ?_
    simp only [Act.put, List.setIfInBounds_toArray, List.set_cons_succ, List.set_cons_zero]
    refine s_val (o := ⟨some 59, _, _, _, _, _⟩) (.agg (cells8 S).toArray) rfl (by kernel_rfl) (fun u hu => exec_load_mid (.tmp 58) gy (0 + n * 32) S rfl (by kernel_rfl) (fun j v hv => Kept.cell hu (HRz.out j v hv)) HSl.out) ?_
    simp only [Act.put, List.setIfInBounds_toArray, List.set_cons_succ, List.set_cons_zero]
    refine s_val (o := ⟨some 60, _, _, _, _, _⟩) (.agg (cells8 P).toArray) rfl (by kernel_rfl) (fun u hu => exec_load_row 30 (.tmp 8) w7.heap.size 32 30 5 (cells8 P) rfl (by kernel_rfl) (hbz.kept hu) Tryd.underlying30 hiP.out) ?_
    simp only [Act.put, List.setIfInBounds_toArray, List.set_cons_succ, List.set_cons_zero]
    refine s_val (o := ⟨some 61, _, _, _, _, _⟩) (.slice Ap m cp) rfl (by kernel_rfl) (fun u hu => exec_move (.tmp 1) (.slice Ap m cp) rfl (by kernel_rfl)) ?_
    simp only [Act.put, List.setIfInBounds_toArray, List.set_cons_succ, List.set_cons_zero]
    refine s_call (o := ⟨some 62, _, _, _, _, _⟩) 14 #[.agg (cells8 P).toArray, .slice Ap m cp] rfl (by kernel_rfl) (exec_call 14 _ [.tmp 60, .tmp 61] _ _ Tryd.func14 (by kernel_rfl) (by kernel_rfl) rfl (by kernel_rfl)) ?_
    refine (link_any P ps _ wz.drew (HGz.out.kept (Keep.drew (Kept.refl wz))) HAl.out (HPz.out.kept (Keep.drew (Kept.refl wz))) (by rw [hlm.out]; omega)).mono ?_
    rintro e v1 ⟨rfl, p1⟩
    rw [HSS.out _ rfl]
    have r1 : Kept wz v1 := Kept.trans (Keep.drew (Kept.refl wz)) p1
    refine ⟨_, rfl, r1, ?_⟩
    simp only [Act.put, List.setIfInBounds_toArray, List.set_cons_succ, List.set_cons_zero]
    refine s_val (o := ⟨some 63, _, _, _, _, _⟩) (.bool true) rfl (by kernel_rfl) (fun u hu => (by rw [exec_eql8 (.tmp 59) (.tmp 62) _ S S rfl (by kernel_rfl) (by kernel_rfl) HSl.out HSl.out, decide_eq_true rfl])) ?_
    simp only [Act.put, List.setIfInBounds_toArray, List.set_cons_succ, List.set_cons_zero]
    refine s_val (o := ⟨some 64, _, _, _, _, _⟩) (.bool true) rfl (by kernel_rfl) (fun u hu => exec_move (.tmp 63) (.bool true) rfl (by kernel_rfl)) ?_
    simp only [Act.put, List.setIfInBounds_toArray, List.set_cons_succ, List.set_cons_zero]
    refine s_val (o := ⟨some 65, _, _, _, _, _⟩) (.agg (cells8 P).toArray) rfl (by kernel_rfl) (fun u hu => exec_load_row 30 (.tmp 8) w7.heap.size 32 30 5 (cells8 P) rfl (by kernel_rfl) (hbz.kept hu) Tryd.underlying30 hiP.out) ?_
    simp only [Act.put, List.setIfInBounds_toArray, List.set_cons_succ, List.set_cons_zero]
    refine s_val (o := ⟨some 66, _, _, _, _, _⟩) (.slice Ap m cp) rfl (by kernel_rfl) (fun u hu => exec_move (.tmp 1) (.slice Ap m cp) rfl (by kernel_rfl)) ?_
    simp only [Act.put, List.setIfInBounds_toArray, List.set_cons_succ, List.set_cons_zero]
    refine s_val (o := ⟨some 68, _, _, _, _, _⟩) (.slice (some ⟨w7.heap.size, 0, none⟩) 32 32) rfl (by kernel_rfl) (fun u hu => exec_slice_sum (.tmp 8) w7.heap.size rfl (by kernel_rfl)) ?_
    simp only [Act.put, List.setIfInBounds_toArray, List.set_cons_succ, List.set_cons_zero]
    refine s_val (o := ⟨some 69, _, _, _, _, _⟩) (.slice Ap m cp) rfl (by kernel_rfl) (fun u hu => exec_move (.tmp 1) (.slice Ap m cp) rfl (by kernel_rfl)) ?_
    simp only [Act.put, List.setIfInBounds_toArray, List.set_cons_succ, List.set_cons_zero]
    refine s_val (o := ⟨some 70, _, _, _, _, _⟩) (.int .i64 ((m : Nat) : Int)) rfl (by kernel_rfl) (fun u hu => exec_len (.tmp 69) _ _ Tryd.underlying22 (Ap) (m) (cp) rfl (by kernel_rfl)) ?_
    simp only [Act.put, List.setIfInBounds_toArray, List.set_cons_succ, List.set_cons_zero]
    refine s_val (o := ⟨some 71, _, _, _, _, _⟩) (.int .u32 (m : Int)) rfl (by kernel_rfl) (fun u hu => exec_to32 (.tmp 70) m rfl (by kernel_rfl) (by omega)) ?_
    simp only [Act.put, List.setIfInBounds_toArray, List.set_cons_succ, List.set_cons_zero]
    refine s_val (o := ⟨some 73, _, _, _, _, _⟩) (.slice Ap m cp) rfl (by kernel_rfl) (fun u hu => exec_move (.tmp 1) (.slice Ap m cp) rfl (by kernel_rfl)) ?_
    simp only [Act.put, List.setIfInBounds_toArray, List.set_cons_succ, List.set_cons_zero]
    refine s_call (o := ⟨some 67, _, _, _, _, _⟩) 14 #[.agg (cells8 P).toArray, .slice Ap m cp] rfl (by kernel_rfl) (exec_call 14 _ [.tmp 65, .tmp 66] _ _ Tryd.func14 (by kernel_rfl) (by kernel_rfl) rfl (by kernel_rfl)) ?_
    refine (link_any P ps _ v1 (HGz.out.kept r1) HAl.out (HPz.out.kept r1) (by rw [hlm.out]; omega)).mono ?_
    rintro e v2 ⟨rfl, p2⟩
    rw [HSS.out _ rfl]
    have r2 := r1.trans p2
    refine ⟨_, rfl, r2, ?_⟩
    simp only [Act.put, List.setIfInBounds_toArray, List.set_cons_succ, List.set_cons_zero]
    refine s_call (o := ⟨some 72, _, _, _, _, _⟩) 21 #[.slice (some ⟨w7.heap.size, 0, none⟩) 32 32, .int .u32 (m : Int)] rfl (by kernel_rfl) (exec_call 21 _ [.tmp 68, .tmp 71] _ _ Tryd.func21 (by kernel_rfl) (by kernel_rfl) rfl (by kernel_rfl)) ?_
    refine (u32_any (some ⟨w7.heap.size, 0, none⟩) 32 32 P (m : Int) v2 (hbz.kept r2).r8 (by omega) HAl (by omega) (by omega)).mono ?_
    rintro e v3 ⟨g3, d3, rfl, hg3, hrow3, p3⟩
    rw [Int.toNat_natCast] at hrow3
    have r3 := r2.trans p3
    have hl3 : Hid ((P ++ be m 4).length = 32 + 4) := by show _ = _; rw [List.length_append, be_length, HAl.out]
    have hz2 := r2.size
    refine ⟨_, rfl, r3, ?_⟩
    simp only [Act.put, List.setIfInBounds_toArray, List.set_cons_succ, List.set_cons_zero]
    refine s_oper (o := ⟨some 74, _, _, _, _, _⟩) rfl (by kernel_rfl) fun K hK => ?_
    refine op_append8 v3 (.tmp 72) (.tmp 73) rfl v2.heap.size g3 d3 (32 + 4) (P ++ be m 4) (by kernel_rfl) hl3.out hrow3 hg3 Ap m cp ps (by kernel_rfl) hlm.out (HRq.out.kept r3) H3q.out (by omega) ?_
    intro v4 g4 c4 hrow4 hg4 p4
    have r4 : Kept wz v4 := Kept.trans' r3 p4 (by omega)
    refine hK _ _ r4 ?_
    simp only [Act.put, List.setIfInBounds_toArray, List.set_cons_succ, List.set_cons_zero]
    refine s_call (o := ⟨some 75, _, _, _, _, _⟩) 20 #[.slice (some ⟨g4, 0, none⟩) (32 + 4 + m) c4] rfl (by kernel_rfl) (exec_call 20 _ [.tmp 74] _ _ Tryd.func20 (by kernel_rfl) (by kernel_rfl) rfl (by kernel_rfl)) ?_
    refine (sum_any _ ((P ++ be m 4) ++ ps) v4 (HGz.out.kept r4) (Bytes.at_ hrow4.r8 (by show _ = _; rw [List.length_append, hl3.out, hlm.out]) (by have := hrow4.le; rw [List.length_append, hl3.out, hlm.out] at this; exact this) (by obtain ⟨_, _, _, h⟩ := hrow4; exact h)) (by rw [List.length_append, hl3.out, hlm.out]; omega)).mono ?_
    rintro e v5 ⟨rfl, p5⟩
    rw [HTT.out _ rfl]
    have r5 := r4.trans p5
    refine ⟨_, rfl, r5, ?_⟩
    simp only [Act.put, List.setIfInBounds_toArray, List.set_cons_succ, List.set_cons_zero]
    refine s_val (o := ⟨some 76, _, _, _, _, _⟩) (.bool true) rfl (by kernel_rfl) (fun u hu => (by rw [exec_eql8 (.tmp 67) (.tmp 75) _ S S rfl (by kernel_rfl) (by kernel_rfl) HSl.out HSl.out, decide_eq_true rfl])) ?_
    simp only [Act.put, List.setIfInBounds_toArray, List.set_cons_succ, List.set_cons_zero]
    refine s_val (o := ⟨some 77, _, _, _, _, _⟩) (.bool true) rfl (by kernel_rfl) (fun u hu => exec_pick (.tmp 64) (.tmp 76) (.const (.bool false)) (.bool true) rfl (by kernel_rfl) (by kernel_rfl)) ?_
    simp only [Act.put, List.setIfInBounds_toArray, List.set_cons_succ, List.set_cons_zero]
    refine s_val (o := ⟨some 78, _, _, _, _, _⟩) (.bool true) rfl (by kernel_rfl) (fun u hu => exec_move (.tmp 77) (.bool true) rfl (by kernel_rfl)) ?_
    simp only [Act.put, List.setIfInBounds_toArray, List.set_cons_succ, List.set_cons_zero]
    refine s_call (o := ⟨some 79, _, _, _, _, _⟩) 3 #[] rfl (by kernel_rfl) (exec_call 3 _ [] _ _ Tryd.func3 (by kernel_rfl) (by kernel_rfl) rfl (by kernel_rfl)) ?_
    refine (chainRuns_any v5 (HGz.out.kept r5)).mono ?_
    rintro e v6 ⟨rfl, p6⟩
    have r6 := r5.trans p6
    refine ⟨_, rfl, r6, ?_⟩
    simp only [Act.put, List.setIfInBounds_toArray, List.set_cons_succ, List.set_cons_zero]
    refine s_val (o := ⟨some 80, _, _, _, _, _⟩) (.bool true) rfl (by kernel_rfl) (fun u hu => exec_pick (.tmp 78) (.tmp 79) (.const (.bool false)) (.bool true) rfl (by kernel_rfl) (by kernel_rfl)) ?_
    simp only [Act.put, List.setIfInBounds_toArray, List.set_cons_succ, List.set_cons_zero]
    refine s_val (o := ⟨some 4, _, _, _, _, _⟩) (.bool true) rfl (by kernel_rfl) (fun u hu => exec_assign (.tmp 80) (.bool true) rfl (by kernel_rfl)) ?_
    simp only [Act.put, List.setIfInBounds_toArray, List.set_cons_succ, List.set_cons_zero]
    refine s_done ?_
    have qz := hkz.trans r6
    clear hkz r1 r2 r3 r4 r5 r6 hrow3 hrow4
    go_wp2
    go_ret
    exact ⟨rfl, qz⟩
  · have hn0' : n ≤ 0 := by omega
    have HZ := Lib.hid (HAz.out (by omega))
    clear hn0 HAz HSx0
    go_wp2_with ((with_reducible show wpList _ _ _ _ _ _); (first
      | ((with_reducible refine wpl_alloc (o := ⟨some 8, _, _, _, _, _⟩) _ rfl 30 rfl z32 sum_zero ?_); intro w8 hb8 hs8 hk8; clear hs8)))
    have hbz : Blk w8 w7.heap.size 30 (cells8 P) := by rw [HZ.out]; exact hb8
    have k7z : Kept w7 w8 := hk8
    have hkz := q7.trans k7z
    clear hb8 hk8 q7 HSx7 HSy7 HZ
    have HGz := Lib.hid (hG.kept hkz)
    have HPz := Lib.hid (HP7.out.kept k7z)
    have HRz : Hid (w8.rangeAt gy (0 + n * 32) (cells8 S)) := fun j v hv => by rw [Nat.zero_add]; exact k7z.cell (HRy.out j v hv)
    obtain ⟨Aq, nq, cq, eq, hlq, hRq, h1q, h2q, h3q⟩ := HPz.out
    injection eq with e1 e2 e3
    subst e1 e2 e3
    have HRq := Lib.hid hRq
    have H3q := Lib.hid h3q
    clear hRq h3q
    generalize w8 = wz at hkz hbz HGz HPz HRz HRq ⊢
    refine wp_sched (fun u => Kept wz u) [(0, 0), (1, 0), (2, 0), (3, 0), (4, 0), (5, 0), (6, 0), (7, 1), (8, 0), (9, 0), (10, 0), (11, 0), (13, 0), (14, 0), (15, 0), (16, 0), (18, 0), (12, 1), (17, 1), (19, 1), (20, 1), (21, 0), (22, 0), (23, 0), (24, 1), (25, 0), (26, 0)] (by kernel_rfl) (by kernel_rfl) ((Keep.drew (Kept.refl wz) : Kept wz wz.drew)) ?_
    refine s_val (o := ⟨some 55, _, _, _, _, _⟩) (.slice (some ⟨gy, 0, none⟩) (n + 1) (n + 1)) rfl (by kernel_rfl) (fun u hu => exec_move (.tmp 7) (.slice (some ⟨gy, 0, none⟩) (n + 1) (n + 1)) rfl (by kernel_rfl)) ?_
    simp only [Act.put, List.setIfInBounds_toArray, List.set_cons_succ, List.set_cons_zero]
    refine s_val (o := ⟨some 56, _, _, _, _, _⟩) (.slice A1 n c1) rfl (by kernel_rfl) (fun u hu => exec_move (.tmp 5) (.slice A1 n c1) rfl (by kernel_rfl)) ?_
    simp only [Act.put, List.setIfInBounds_toArray, List.set_cons_succ, List.set_cons_zero]
    refine s_val (o := ⟨some 57, _, _, _, _, _⟩) (.int .i64 ((n : Nat) : Int)) rfl (by kernel_rfl) (fun u hu => exec_len (.tmp 56) _ _ Tryd.underlying23 (A1) (n) (c1) rfl (by kernel_rfl)) ?_
    simp only [Act.put, List.setIfInBounds_toArray, List.set_cons_succ, List.set_cons_zero]
    refine s_val (o := ⟨some 58, _, _, _, _, _⟩) (.pointer (some ⟨gy, 0 + n * 32, none⟩)) rfl (by kernel_rfl) (fun u hu => exec_index 24 30 32 (.tmp 55) (.tmp 57) (gy) (0) ((n + 1)) ((n + 1)) (n) rfl Tryd.underlying24 sum_size (by kernel_rfl) (by kernel_rfl) (by omega)) ?_
    simp only [Act.put, List.setIfInBounds_toArray, List.set_cons_succ, List.set_cons_zero]
    refine s_val (o := ⟨some 59, _, _, _, _, _⟩) (.agg (cells8 S).toArray) rfl (by kernel_rfl) (fun u hu => exec_load_mid (.tmp 58) gy (0 + n * 32) S rfl (by kernel_rfl) (fun j v hv => Kept.cell hu (HRz.out j v hv)) HSl.out) ?_
    simp only [Act.put, List.setIfInBounds_toArray, List.set_cons_succ, List.set_cons_zero]
    refine s_val (o := ⟨some 60, _, _, _, _, _⟩) (.agg (cells8 P).toArray) rfl (by kernel_rfl) (fun u hu => exec_load_row 30 (.tmp 8) w7.heap.size 32 30 5 (cells8 P) rfl (by kernel_rfl) (hbz.kept hu) Tryd.underlying30 hiP.out) ?_
    simp only [Act.put, List.setIfInBounds_toArray, List.set_cons_succ, List.set_cons_zero]
    refine s_val (o := ⟨some 61, _, _, _, _, _⟩) (.slice Ap m cp) rfl (by kernel_rfl) (fun u hu => exec_move (.tmp 1) (.slice Ap m cp) rfl (by kernel_rfl)) ?_
    simp only [Act.put, List.setIfInBounds_toArray, List.set_cons_succ, List.set_cons_zero]
    refine s_call (o := ⟨some 62, _, _, _, _, _⟩) 14 #[.agg (cells8 P).toArray, .slice Ap m cp] rfl (by kernel_rfl) (exec_call 14 _ [.tmp 60, .tmp 61] _ _ Tryd.func14 (by kernel_rfl) (by kernel_rfl) rfl (by kernel_rfl)) ?_
    refine (link_any P ps _ wz.drew (HGz.out.kept (Keep.drew (Kept.refl wz))) HAl.out (HPz.out.kept (Keep.drew (Kept.refl wz))) (by rw [hlm.out]; omega)).mono ?_
    rintro e v1 ⟨rfl, p1⟩
    rw [HSS.out _ rfl]
    have r1 : Kept wz v1 := Kept.trans (Keep.drew (Kept.refl wz)) p1
    refine ⟨_, rfl, r1, ?_⟩
    simp only [Act.put, List.setIfInBounds_toArray, List.set_cons_succ, List.set_cons_zero]
    refine s_val (o := ⟨some 63, _, _, _, _, _⟩) (.bool true) rfl (by kernel_rfl) (fun u hu => (by rw [exec_eql8 (.tmp 59) (.tmp 62) _ S S rfl (by kernel_rfl) (by kernel_rfl) HSl.out HSl.out, decide_eq_true rfl])) ?_
    simp only [Act.put, List.setIfInBounds_toArray, List.set_cons_succ, List.set_cons_zero]
    refine s_val (o := ⟨some 64, _, _, _, _, _⟩) (.bool true) rfl (by kernel_rfl) (fun u hu => exec_move (.tmp 63) (.bool true) rfl (by kernel_rfl)) ?_
    simp only [Act.put, List.setIfInBounds_toArray, List.set_cons_succ, List.set_cons_zero]
    refine s_val (o := ⟨some 65, _, _, _, _, _⟩) (.agg (cells8 P).toArray) rfl (by kernel_rfl) (fun u hu => exec_load_row 30 (.tmp 8) w7.heap.size 32 30 5 (cells8 P) rfl (by kernel_rfl) (hbz.kept hu) Tryd.underlying30 hiP.out) ?_
    simp only [Act.put, List.setIfInBounds_toArray, List.set_cons_succ, List.set_cons_zero]
    refine s_val (o := ⟨some 66, _, _, _, _, _⟩) (.slice Ap m cp) rfl (by kernel_rfl) (fun u hu => exec_move (.tmp 1) (.slice Ap m cp) rfl (by kernel_rfl)) ?_
    simp only [Act.put, List.setIfInBounds_toArray, List.set_cons_succ, List.set_cons_zero]
    refine s_val (o := ⟨some 68, _, _, _, _, _⟩) (.slice (some ⟨w7.heap.size, 0, none⟩) 32 32) rfl (by kernel_rfl) (fun u hu => exec_slice_sum (.tmp 8) w7.heap.size rfl (by kernel_rfl)) ?_
    simp only [Act.put, List.setIfInBounds_toArray, List.set_cons_succ, List.set_cons_zero]
    refine s_val (o := ⟨some 69, _, _, _, _, _⟩) (.slice Ap m cp) rfl (by kernel_rfl) (fun u hu => exec_move (.tmp 1) (.slice Ap m cp) rfl (by kernel_rfl)) ?_
    simp only [Act.put, List.setIfInBounds_toArray, List.set_cons_succ, List.set_cons_zero]
    refine s_val (o := ⟨some 70, _, _, _, _, _⟩) (.int .i64 ((m : Nat) : Int)) rfl (by kernel_rfl) (fun u hu => exec_len (.tmp 69) _ _ Tryd.underlying22 (Ap) (m) (cp) rfl (by kernel_rfl)) ?_
    simp only [Act.put, List.setIfInBounds_toArray, List.set_cons_succ, List.set_cons_zero]
    refine s_val (o := ⟨some 71, _, _, _, _, _⟩) (.int .u32 (m : Int)) rfl (by kernel_rfl) (fun u hu => exec_to32 (.tmp 70) m rfl (by kernel_rfl) (by omega)) ?_
    simp only [Act.put, List.setIfInBounds_toArray, List.set_cons_succ, List.set_cons_zero]
    refine s_val (o := ⟨some 73, _, _, _, _, _⟩) (.slice Ap m cp) rfl (by kernel_rfl) (fun u hu => exec_move (.tmp 1) (.slice Ap m cp) rfl (by kernel_rfl)) ?_
    simp only [Act.put, List.setIfInBounds_toArray, List.set_cons_succ, List.set_cons_zero]
    refine s_call (o := ⟨some 67, _, _, _, _, _⟩) 14 #[.agg (cells8 P).toArray, .slice Ap m cp] rfl (by kernel_rfl) (exec_call 14 _ [.tmp 65, .tmp 66] _ _ Tryd.func14 (by kernel_rfl) (by kernel_rfl) rfl (by kernel_rfl)) ?_
    refine (link_any P ps _ v1 (HGz.out.kept r1) HAl.out (HPz.out.kept r1) (by rw [hlm.out]; omega)).mono ?_
    rintro e v2 ⟨rfl, p2⟩
    rw [HSS.out _ rfl]
    have r2 := r1.trans p2
    refine ⟨_, rfl, r2, ?_⟩
    simp only [Act.put, List.setIfInBounds_toArray, List.set_cons_succ, List.set_cons_zero]
    refine s_call (o := ⟨some 72, _, _, _, _, _⟩) 21 #[.slice (some ⟨w7.heap.size, 0, none⟩) 32 32, .int .u32 (m : Int)] rfl (by kernel_rfl) (exec_call 21 _ [.tmp 68, .tmp 71] _ _ Tryd.func21 (by kernel_rfl) (by kernel_rfl) rfl (by kernel_rfl)) ?_
    refine (u32_any (some ⟨w7.heap.size, 0, none⟩) 32 32 P (m : Int) v2 (hbz.kept r2).r8 (by omega) HAl (by omega) (by omega)).mono ?_
    rintro e v3 ⟨g3, d3, rfl, hg3, hrow3, p3⟩
    rw [Int.toNat_natCast] at hrow3
    have r3 := r2.trans p3
    have hl3 : Hid ((P ++ be m 4).length = 32 + 4) := by show _ = _; rw [List.length_append, be_length, HAl.out]
    have hz2 := r2.size
    refine ⟨_, rfl, r3, ?_⟩
    simp only [Act.put, List.setIfInBounds_toArray, List.set_cons_succ, List.set_cons_zero]
    refine s_oper (o := ⟨some 74, _, _, _, _, _⟩) rfl (by kernel_rfl) fun K hK => ?_
    refine op_append8 v3 (.tmp 72) (.tmp 73) rfl v2.heap.size g3 d3 (32 + 4) (P ++ be m 4) (by kernel_rfl) hl3.out hrow3 hg3 Ap m cp ps (by kernel_rfl) hlm.out (HRq.out.kept r3) H3q.out (by omega) ?_
    intro v4 g4 c4 hrow4 hg4 p4
    have r4 : Kept wz v4 := Kept.trans' r3 p4 (by omega)
    refine hK _ _ r4 ?_
    simp only [Act.put, List.setIfInBounds_toArray, List.set_cons_succ, List.set_cons_zero]
    refine s_call (o := ⟨some 75, _, _, _, _, _⟩) 20 #[.slice (some ⟨g4, 0, none⟩) (32 + 4 + m) c4] rfl (by kernel_rfl) (exec_call 20 _ [.tmp 74] _ _ Tryd.func20 (by kernel_rfl) (by kernel_rfl) rfl (by kernel_rfl)) ?_
    refine (sum_any _ ((P ++ be m 4) ++ ps) v4 (HGz.out.kept r4) (Bytes.at_ hrow4.r8 (by show _ = _; rw [List.length_append, hl3.out, hlm.out]) (by have := hrow4.le; rw [List.length_append, hl3.out, hlm.out] at this; exact this) (by obtain ⟨_, _, _, h⟩ := hrow4; exact h)) (by rw [List.length_append, hl3.out, hlm.out]; omega)).mono ?_
    rintro e v5 ⟨rfl, p5⟩
    rw [HTT.out _ rfl]
    have r5 := r4.trans p5
    refine ⟨_, rfl, r5, ?_⟩
    simp only [Act.put, List.setIfInBounds_toArray, List.set_cons_succ, List.set_cons_zero]
    refine s_val (o := ⟨some 76, _, _, _, _, _⟩) (.bool true) rfl (by kernel_rfl) (fun u hu => (by rw [exec_eql8 (.tmp 67) (.tmp 75) _ S S rfl (by kernel_rfl) (by kernel_rfl) HSl.out HSl.out, decide_eq_true rfl])) ?_
    simp only [Act.put, List.setIfInBounds_toArray, List.set_cons_succ, List.set_cons_zero]
    refine s_val (o := ⟨some 77, _, _, _, _, _⟩) (.bool true) rfl (by kernel_rfl) (fun u hu => exec_pick (.tmp 64) (.tmp 76) (.const (.bool false)) (.bool true) rfl (by kernel_rfl) (by kernel_rfl)) ?_
    simp only [Act.put, List.setIfInBounds_toArray, List.set_cons_succ, List.set_cons_zero]
    refine s_val (o := ⟨some 78, _, _, _, _, _⟩) (.bool true) rfl (by kernel_rfl) (fun u hu => exec_move (.tmp 77) (.bool true) rfl (by kernel_rfl)) ?_
    simp only [Act.put, List.setIfInBounds_toArray, List.set_cons_succ, List.set_cons_zero]
    refine s_call (o := ⟨some 79, _, _, _, _, _⟩) 3 #[] rfl (by kernel_rfl) (exec_call 3 _ [] _ _ Tryd.func3 (by kernel_rfl) (by kernel_rfl) rfl (by kernel_rfl)) ?_
    refine (chainRuns_any v5 (HGz.out.kept r5)).mono ?_
    rintro e v6 ⟨rfl, p6⟩
    have r6 := r5.trans p6
    refine ⟨_, rfl, r6, ?_⟩
    simp only [Act.put, List.setIfInBounds_toArray, List.set_cons_succ, List.set_cons_zero]
    refine s_val (o := ⟨some 80, _, _, _, _, _⟩) (.bool true) rfl (by kernel_rfl) (fun u hu => exec_pick (.tmp 78) (.tmp 79) (.const (.bool false)) (.bool true) rfl (by kernel_rfl) (by kernel_rfl)) ?_
    simp only [Act.put, List.setIfInBounds_toArray, List.set_cons_succ, List.set_cons_zero]
    refine s_val (o := ⟨some 4, _, _, _, _, _⟩) (.bool true) rfl (by kernel_rfl) (fun u hu => exec_assign (.tmp 80) (.bool true) rfl (by kernel_rfl)) ?_
    simp only [Act.put, List.setIfInBounds_toArray, List.set_cons_succ, List.set_cons_zero]
    refine s_done ?_
    have qz := hkz.trans r6
    clear hkz r1 r2 r3 r4 r5 r6 hrow3 hrow4
    go_wp2
    go_ret
    exact ⟨rfl, qz⟩
end Go.Proofs.YtholpkaicmckfaaDoor
