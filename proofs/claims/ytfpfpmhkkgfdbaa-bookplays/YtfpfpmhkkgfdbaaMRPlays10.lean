/-
 BookPlays answers true: any orders, any changes: each outcome, each answer, the book. No condition.
-/
import Derived.Test.YtfpfpmhkkgfdbaaQR05
import Derived.Test.YtfpfpmhkkgfdbaaMRPq10
import Derived.Test.YtfpfpmhkkgfdbaaMRRuns10
import Derived.Deep.DeepCutAuto
import Derived.Deep.CutBlock
set_option linter.unusedVariables false
namespace Go.Proofs.Ytfpfpmhkkgfdbaa
open Go.RowKit
set_option maxRecDepth 100000
structure Duo (w0 wr : World) (p r : Nat) (F G : Nat → Prop) (B C : Bok) : Prop where
 x : Bk wr F p B
 y : RBk wr G r C
 fg : ∀ c, F c → ¬ G c
 f0 : ∀ c, F c → w0.heap.size ≤ c
 g0 : ∀ c, G c → w0.heap.size ≤ c
 k : Kept w0 wr
section
variable {w0 wr w' : World} {p r : Nat} {F F' G G' : Nat → Prop} {B B' C C' : Bok}
theorem Duo.kept (h : Duo w0 wr p r F G B C) (hk : Kept wr w') : Duo w0 w' p r F G B C := ⟨h.x.kept hk, h.y.kept hk, h.fg, h.f0, h.g0, h.k.trans hk⟩
theorem Duo.stepX (h : Duo w0 wr p r F G B C) (hx : Bk w' F' p B') (hg : Grow wr F F') (hk : Keep F wr w') : Duo w0 w' p r F' G B' C := by
 have hs := h.k.size
 refine ⟨hx, h.y.keep hk (fun c hc hF => h.fg c hF hc), fun c hF hG => ?_, fun c hF => ?_, h.g0, Keep.trans h.k hk (fun c hc hF => by have := h.f0 c hF; omega)⟩
 ·rcases hg c hF with h1 | h1
  ·exact h.fg c h1 hG
  ·have := h.y.lt c hG; omega
 ·rcases hg c hF with h1 | h1
  ·exact h.f0 c h1
  ·omega
theorem Duo.stepY (h : Duo w0 wr p r F G B C) (hy : RBk w' G' r C') (hg : Grow wr G G') (hk : Keep G wr w') : Duo w0 w' p r F G' B C' := by
 have hs := h.k.size
 refine ⟨h.x.keep hk (fun c hc hG => h.fg c hc hG), hy, fun c hF hG => ?_, h.f0, fun c hG => ?_, Keep.trans h.k hk (fun c hc hG => by have := h.g0 c hG; omega)⟩
 ·rcases hg c hG with h1 | h1
  ·exact h.fg c hF h1
  ·have := h.x.lt c hF; omega
 ·rcases hg c hG with h1 | h1
  ·exact h.g0 c h1
  ·omega
end
structure Aside (w : World) (F G : Nat → Prop) (g : Nat) (T : TypeId) (cs : List Value) : Prop where
 blk : Blk w g T cs
 nf : ¬ F g
 ng : ¬ G g
section
variable {w w' : World} {F F' G G' : Nat → Prop} {g : Nat} {T : TypeId} {cs : List Value}
theorem Aside.kept (h : Aside w F G g T cs) (hk : Kept w w') : Aside w' F G g T cs := ⟨h.blk.kept hk, h.nf, h.ng⟩
theorem Aside.stepX (h : Aside w F G g T cs) (hg : Grow w F F') (hk : Keep F w w') : Aside w' F' G g T cs := ⟨h.blk.keep hk h.nf, fun e => (hg g e).elim h.nf (fun e => by have := h.blk.lt; omega), h.ng⟩
theorem Aside.stepY (h : Aside w F G g T cs) (hg : Grow w G G') (hk : Keep G w w') : Aside w' F G' g T cs := ⟨h.blk.keep hk h.ng, h.nf, fun e => (hg g e).elim h.ng (fun e => by have := h.blk.lt; omega)⟩
end
theorem fills_few {B : Bok} {o : Ord} (h : Inv B) : (B.add o).1.f.length ≤ 1000000 + 48576 := by
 by_cases he : B.err o = 0
 ·have ha := add_is h he
  have h1 := ha.few
  have h2 := right_qty ha.rt
  rw [ha.oc]
  simp only
  omega
 ·rw [add_err he]
  simp
set_option maxRecDepth 100000 in
set_option maxHeartbeats 12800000 in
theorem bookPlays_any (v : Value) (l : List Pq) (w : World) (hl : Pqs w v l) : Calls Try.prog 4 #[v] w fun e w' => e = .returned (.bool true) ∧ Kept w w' := by
 have HA := Lib.hid hl
 obtain ⟨A, n, c, rfl, hn, hm⟩ : ∃ A n c, v = .slice A n c ∧ l.length = n ∧ n ≤ maxLen := by
  obtain ⟨A, n, c, h1, h2, _, h3, _⟩ := hl
  exact ⟨A, n, c, h1, h2, h3⟩
 clear hl
 unfold maxLen at hm
 have HN := Lib.hid hn
 clear hn
 go_enter Try.func4, Try.ntmps4
 go_upto_region 1 with fail
 refine wp_region_lit ?_
 refine l_call 14 #[] rfl (exec_call 14 _ [] _ _ Try.func14 (by kernel_rfl) (by kernel_rfl) rfl (by kernel_rfl) _) ?_
 refine (bnew_any w).mono ?_
 rintro r0 w1 ⟨p, F0, rfl, hL1, hG1, k1⟩
 refine ⟨_, rfl, ?_⟩
 simp only [Act.put, sA, sS, sZ]
 refine l_val (.agg (rbCells (.slice none 0 0) (.slice none 0 0) 0 0).toArray) rfl (exec_build 46 [] (rbCells (.slice none 0 0) (.slice none 0 0) 0 0) rfl (by kernel_rfl)) ?_
 simp only [Act.put, sA, sS, sZ]
 refine l_new (.pointer (some ⟨w1.heap.size, 0, none⟩)) (w1.alloc (.cells (rbCells (.slice none 0 0) (.slice none 0 0) 0 0).toArray 46)) rfl (exec_box 46 (.tmp 17) (rbCells (.slice none 0 0) (.slice none 0 0) 0 0) rfl (by kernel_rfl)) ?_
 have hB2 : Blk (w1.alloc (.cells (rbCells (.slice none 0 0) (.slice none 0 0) 0 0).toArray 46)) w1.heap.size 46 (rbCells (.slice none 0 0) (.slice none 0 0) 0 0) := Blk.new w1 _ _
 have k2 : Kept w1 (w1.alloc (.cells (rbCells (.slice none 0 0) (.slice none 0 0) 0 0).toArray 46)) := (Keep.refl _ w1).alloc _
 generalize w1.alloc (.cells (rbCells (.slice none 0 0) (.slice none 0 0) 0 0).toArray 46) = w2 at hB2 k2 ⊢
 obtain ⟨r, hr⟩ : ∃ r, r = w1.heap.size := ⟨_, rfl⟩
 rw [← hr] at hB2 ⊢
 simp only [Act.put, sA, sS, sZ]
 refine l_val (.pointer (some ⟨p, 0, none⟩)) rfl (exec_assign _ _ rfl (by kernel_rfl)) ?_
 simp only [Act.put, sA, sS, sZ]
 refine l_val (.pointer (some ⟨r, 0, none⟩)) rfl (exec_assign _ _ rfl (by kernel_rfl)) ?_
 simp only [Act.put, sA, sS, sZ]
 refine wpList_nil ?_
 have HD0 : Hid (Duo w w2 p r F0 (· = r) Bok.zero Bok.zero) := by
  refine ⟨hL1.kept k2, rbk_new hB2, fun c hc e => ?_, fun c hc => (hG1 c hc).elim (fun h => h.elim) id, fun c e => ?_, k1.trans k2⟩
  ·have e2 : c = r := e
   have := hL1.lt c hc
   omega
  ·have e2 : c = r := e
   have := k1.size
   omega
 clear hL1 hG1 k1 hB2 k2 hr
 go_wp2_with fail
 go_loopw [5] (fun t wr => ∃ (i : Nat) (F G : Nat → Prop) (B : Bok), t = .int .i64 (i : Int) ∧ i ≤ 60 ∧ i ≤ n ∧ Hid (Duo w wr p r F G B B) ∧ Hid (Inv B) ∧ Hid (B.no ≤ 1048576 * (i : Int))) (fun t _ => 60 - (intOf t).toNat)
 case atStart => exact ⟨0, F0, _, Bok.zero, rfl, by omega, by omega, HD0, Inv.zero, by show _ ≤ _; simp [Bok.zero]⟩
 case round =>
  obtain ⟨i, F, G, B, rfl, hi, hin, HD, HI, HNo⟩ := hrel
  by_cases hlt : i < n ∧ i < 60
  ·obtain ⟨hin', hi60⟩ := hlt
   have hil : i < l.length := by rw [HN.out]; exact hin'
   obtain ⟨q, hq⟩ : ∃ q, l[i]? = some q := ⟨_, List.getElem?_eq_getElem hil⟩
   obtain ⟨A', n', c', e1, _, _, _, h4⟩ := HA.out
   injection e1 with e1 e2 e3
   subst e1 e2 e3
   obtain ⟨gl, off, rfl, hr⟩ := h4 i q hq
   have HE := Lib.hid (range_kept hr HD.out.k)
   have HNB : Hid (B.no ≤ 1000000000000) := by show _ ≤ _; have := HNo.out; omega
   clear h4 hr hq hil
   go_upto_region 7 with fail
   refine wp_text 5 [.eq (.slice (some ⟨gl, off, none⟩) n c), iE (i : Int), pE gl (off + i * 20), .eq (q.v), .fresh wr.heap.size 50 zeroP.cells] rfl (by kernel_rfl) ?_ ?_
   ·refine mE 1 0 ?_
    refine mE 2 5 ?_
    refine sW 3 rfl (fun a u E D hk=>exec_ixo slP _ _ (gl) (off) n c i (off + i * 20) ((i : Int)) rfl (dD D 0) (dD D 1) (by first | rfl | omega) (hin') (by first | rfl | omega)) ?_
    refine sW 4 rfl (fun a u E D hk=>exec_ldS 50 _ _ (gl) (off + i * 20) (q.cells) rfl (dD D 2) (range_kept HE.out hk) Try.underlying50 (by rw [q.len20]; exact szP)) ?_
    refine nW 5 rfl (fun a u E D hk=>⟨_, _, exec_alc 50 zeroP.cells rfl zP, ⟨_, rfl, hk.size, Blk.new u _ _⟩, ((Keep.refl _ u).alloc _)⟩) ?_
    exact fz
   intro gv w3 hV k3
   rw [dq 5 [31,32,33,34,6]]
   simp only [F7]
   have hv6 : (.fresh wr.heap.size 50 zeroP.cells : Kn).p (gv 6) w3 := hV 4 6 (by kernel_rfl)
   generalize gv 6 = v6 at hv6 ⊢
   rw [gQ hV 3 34 q.v]
   clear hV
   obtain ⟨g6, rfl, hg6, hB6⟩ := hv6
   refine l_setS 50 g6 50 zeroP.cells q.cells _ _ rfl rfl (by kernel_rfl) (by kernel_rfl) hB6 (by rw [Pq.len20]; exact szP) (by rw [Pq.len20, Pq.len20]) (Pq.one _) ?_
   intro w4 hB4 hk4 hs4
   simp only [Act.put]
   refine wpList_nil ?_
   have k34 : Kept wr w4 := k3.trans' hk4 (by omega)
   have HD4 := Lib.hid (HD.out.kept k34)
   have HQ4 : Hid (Aside w4 F G g6 50 q.cells) := ⟨hB4, fun h => by have := HD.out.x.lt g6 h; omega, fun h => by have := HD.out.y.lt g6 h; omega⟩
   have HNi := HNo
   clear hB6 hB4 hk4 hs4 k3 k34 HD HE HNo
   have HNo := HNB
   clear HNB
   go_upto_region 9 with fail
   have HQR4 := Lib.hid (blk_range HQ4.out.blk)
   refine wp_text 2 [pE g6 0, iE q.k] rfl (by kernel_rfl) ?_ ?_
   ·refine fE 1 6 50 0 0 0 ?_
    refine sW 2 rfl (fun a u E D hk=>exec_loadi _ Try.underlying3 _ _ _ rfl (dD D 0) (range_int (range_kept HQR4.out hk) 0 _ rfl)) ?_
    exact fz
   intro gv w5 hV k5
   rw [dq 2 [35,36]]
   simp only [F7]
   rw [gQ hV 1 36 (.int .i64 q.k)]
   clear hV
   refine wpList_nil ?_
   have HD5 := Lib.hid (HD4.out.kept k5)
   have HQ5 := Lib.hid (HQ4.out.kept k5)
   clear HD4 HQ4 HQR4 k5
   go_upto_block 2 with fail
   go_cut [7, 9, 11, 37, 50, 78, 97] (fun ok _ _ _ _ _ _ wx => ok = .bool true ∧ ∃ F' G' B', Hid (Duo w wx p r F' G' B' B') ∧ Hid (Inv B') ∧ Hid (B'.no ≤ B.no + 1048576) ∧ Hid (Aside wx F' G' g6 50 q.cells))
   case first =>
    by_cases hk1 : q.k = 1
    ·skip
     go_upto_region 10 with fail
     refine wp_text 2 [bE true, bE true] rfl (by kernel_rfl) ?_ ?_
     ·refine aS 1 rfl (fun a u E D hk=>exec_eqn (p := q.k) (q := 1) rfl (eE E) rfl) (decide_eq_true (by omega)) ?_
      refine mD 2 38 0 ?_
      exact fz
     intro gv ws1 hV ks1
     rw [dq 2 [38,37]]
     simp only [F7]
     rw [gQ hV 1 37 (.bool true)]
     clear hV
     refine wpList_nil ?_
     have HDs := Lib.hid (HD5.out.kept ks1)
     have HQs := Lib.hid (HQ5.out.kept ks1)
     obtain ⟨ws, hws⟩ : ∃ y, y = ws1 := ⟨_, rfl⟩
     rw [← hws] at HDs HQs ⊢
     clear HD5 HQ5 hws ks1
     clear hk1
     obtain ⟨o, ho⟩ : ∃ o : Ord, q.n.o = o := ⟨_, rfl⟩
     have HOE := Lib.hid ho
     obtain ⟨x, hx⟩ : ∃ x, (B.add o).1 = x := ⟨_, rfl⟩
     have HX := Lib.hid hx
     have HFW : Hid (x.f.length ≤ 1048576) := by show _ ≤ _; rw [← hx]; exact fills_few HI.out
     clear ho hx
     have HDd := Lib.hid (HDs.out.kept (Keep.drew (Keep.refl _ ws)))
     have HQd := Lib.hid (HQs.out.kept (Keep.drew (Keep.refl _ ws)))
     clear HDs HQs
     go_upto_region 11 with fail
     refine wp_sched (fun u => Blk u g6 50 q.cells) [(0, 0), (1, 0), (2, 0), (5, 0), (6, 0), (7, 0), (3, 1), (4, 1), (8, 1), (9, 1), (10, 1), (11, 0)] (by kernel_rfl) (by kernel_rfl) (HQd.out.blk) ?_
     refine s_val (o := ⟨some 39, _, _, _, _, _⟩) (.pointer (some ⟨p, 0, none⟩)) rfl (by kernel_rfl) (fun u hu => exec_move (.tmp 3) (.pointer (some ⟨p, 0, none⟩)) rfl (by kernel_rfl)) ?_
     simp only [Act.put, sA, sS, sZ]
     refine s_val (o := ⟨some 40, _, _, _, _, _⟩) (.pointer (some ⟨g6, 4, none⟩)) rfl (by kernel_rfl) (fun u hu => exec_fldo 50 4 4 (.tmp 6) (g6) (0) (4) rfl (by kernel_rfl) (by kernel_rfl) rfl) ?_
     simp only [Act.put, sA, sS, sZ]
     refine s_val (o := ⟨some 41, _, _, _, _, _⟩) (q.n.v) rfl (by kernel_rfl) (fun u hu => exec_ldS 48 _ (.tmp 40) g6 4 q.n.cells rfl (by kernel_rfl) (show u.rangeAt g6 4 q.n.cells from pq_n (blk_range hu)) Try.underlying48 (by rw [Kq.len7]; exact szK)) ?_
     simp only [Act.put, sA, sS, sZ]
     refine s_val (o := ⟨some 44, _, _, _, _, _⟩) (.pointer (some ⟨r, 0, none⟩)) rfl (by kernel_rfl) (fun u hu => exec_move (.tmp 4) (.pointer (some ⟨r, 0, none⟩)) rfl (by kernel_rfl)) ?_
     simp only [Act.put, sA, sS, sZ]
     refine s_val (o := ⟨some 45, _, _, _, _, _⟩) (.pointer (some ⟨g6, 4, none⟩)) rfl (by kernel_rfl) (fun u hu => exec_fldo 50 4 4 (.tmp 6) (g6) (0) (4) rfl (by kernel_rfl) (by kernel_rfl) rfl) ?_
     simp only [Act.put, sA, sS, sZ]
     refine s_val (o := ⟨some 46, _, _, _, _, _⟩) (q.n.v) rfl (by kernel_rfl) (fun u hu => exec_ldS 48 _ (.tmp 45) g6 4 q.n.cells rfl (by kernel_rfl) (show u.rangeAt g6 4 q.n.cells from pq_n (blk_range hu)) Try.underlying48 (by rw [Kq.len7]; exact szK)) ?_
     simp only [Act.put, sA, sS, sZ]
     refine s_call (o := ⟨some 42, _, _, _, _, _⟩) 22 #[q.n.v] rfl (by kernel_rfl) (exec_call 22 _ [.tmp 41] _ _ Try.func22 (by kernel_rfl) (by kernel_rfl) rfl (by kernel_rfl)) ?_
     refine (korder_any q.n ws.drew).mono ?_
     rintro e wa ⟨vo, rfl, hvo, ko42⟩
     have hD1 := HDd.out.kept ko42
     have hQ1 := HQd.out.kept ko42
     refine ⟨o.v, by have h2 : vo = q.n.o.v := hvo; rw [h2, HOE.out], hQ1.blk, ?_⟩
     simp only [Act.put, sA, sS, sZ]
     refine s_call (o := ⟨some 43, _, _, _, _, _⟩) 15 #[.pointer (some ⟨p, 0, none⟩), o.v] rfl (by kernel_rfl) (exec_call 15 _ [.tmp 39, .tmp 42] _ _ Try.func15 (by kernel_rfl) (by kernel_rfl) rfl (by kernel_rfl)) ?_
     refine (badd_any wa F p B o hD1.x HI.out HNo.out).mono ?_
     rintro e wb ⟨F2, va, rfl, hb2, hsa, hoa, hg2, hk2⟩
     rw [HX.out] at hsa
     have hD2 := hD1.stepX hb2 hg2 hk2
     have hQ2 := hQ1.stepX hg2 hk2
     have hal : ∀ b, va.ownBlock = some b → ¬ G b := fun b hb h => by have := (hoa b hb).1; have := hD1.y.lt b h; omega
     refine ⟨x.v va, by rw [HX.out], hQ2.blk, ?_⟩
     simp only [Act.put, sA, sS, sZ]
     refine s_call (o := ⟨some 47, _, _, _, _, _⟩) 22 #[q.n.v] rfl (by kernel_rfl) (exec_call 22 _ [.tmp 46] _ _ Try.func22 (by kernel_rfl) (by kernel_rfl) rfl (by kernel_rfl)) ?_
     refine (korder_any q.n wb).mono ?_
     rintro e wd ⟨vo, rfl, hvo, ko47⟩
     have hD3 := hD2.kept ko47
     have hQ3 := hQ2.kept ko47
     refine ⟨o.v, by have h2 : vo = q.n.o.v := hvo; rw [h2, HOE.out], hQ3.blk, ?_⟩
     simp only [Act.put, sA, sS, sZ]
     refine s_call (o := ⟨some 48, _, _, _, _, _⟩) 23 #[.pointer (some ⟨r, 0, none⟩), o.v] rfl (by kernel_rfl) (exec_call 23 _ [.tmp 44, .tmp 47] _ _ Try.func23 (by kernel_rfl) (by kernel_rfl) rfl (by kernel_rfl)) ?_
     refine (rbadd_any wd G r B o hD3.y HI.out HNo.out).mono ?_
     rintro e we ⟨G2, vb, rfl, hb4, hsb, hob, hg4, hk4⟩
     rw [HX.out] at hsb
     have hDe := hD3.stepY hb4 hg4 hk4
     have hQe := hQ3.stepY hg4 hk4
     have hsa4 := (hsa.kept ko47).keep hk4 hal
     refine ⟨x.v vb, by rw [HX.out], hQe.blk, ?_⟩
     simp only [Act.put, sA, sS, sZ]
     refine s_call (o := ⟨some 49, _, _, _, _, _⟩) 21 #[x.v va, x.v vb] rfl (by kernel_rfl) (exec_call 21 _ [.tmp 43, .tmp 48] _ _ Try.func21 (by kernel_rfl) (by kernel_rfl) rfl (by kernel_rfl)) ?_
     refine (koutcome_any x va vb we hsa4 hsb (by have := HFW.out; omega)).mono ?_
     rintro e wf ⟨vo, rfl, hvo, kof⟩
     have hDe := hDe.kept kof
     have hQe := hQe.kept kof
     refine ⟨.bool true, by have h2 : vo = .bool true := hvo; rw [h2], hQe.blk, ?_⟩
     simp only [Act.put, sA, sS, sZ]
     refine s_val (o := ⟨some 7, _, _, _, _, _⟩) (.bool true) rfl (by kernel_rfl) (fun u hu => exec_assign (.tmp 49) (.bool true) rfl (by kernel_rfl)) ?_
     simp only [Act.put, sA, sS, sZ]
     refine s_done ?_
     have HDe := Lib.hid hDe
     have HQe := Lib.hid hQe
     have HIe := Lib.hid (inv_add (o := o) HI.out)
     clear HDd HQd HX HOE HFW hDe hQe
     go_wp2
     go_meet
     case rel => exact ⟨rfl, _, _, _, HDe, HIe.out.1, HIe.out.2.2, HQe⟩
    ·by_cases hk2 : q.k = 2
     ·skip
      go_upto_region 10 with fail
      refine wp_text 2 [bE false, bE false] rfl (by kernel_rfl) ?_ ?_
      ·refine aS 1 rfl (fun a u E D hk=>exec_eqn (p := q.k) (q := 1) rfl (eE E) rfl) (decide_eq_false (by omega)) ?_
       refine mD 2 38 0 ?_
       exact fz
      intro gv ws1 hV ks1
      rw [dq 2 [38,37]]
      simp only [F7]
      rw [gQ hV 1 37 (.bool false)]
      clear hV
      refine wpList_nil ?_
      go_upto_region 12 with fail
      refine wp_text 2 [bE true, bE true] rfl (by kernel_rfl) ?_ ?_
      ·refine aS 1 rfl (fun a u E D hk=>exec_eqn (p := q.k) (q := 2) rfl (eE E) rfl) (decide_eq_true (by omega)) ?_
       refine mD 2 51 0 ?_
       exact fz
      intro gv ws2 hV ks2
      rw [dq 2 [51,50]]
      simp only [F7]
      rw [gQ hV 1 50 (.bool true)]
      clear hV
      refine wpList_nil ?_
      have HDs := Lib.hid (HD5.out.kept (ks1.trans ks2))
      have HQs := Lib.hid (HQ5.out.kept (ks1.trans ks2))
      obtain ⟨ws, hws⟩ : ∃ y, y = ws2 := ⟨_, rfl⟩
      rw [← hws] at HDs HQs ⊢
      clear HD5 HQ5 hws ks1 ks2
      clear hk2
      obtain ⟨eo, eb, B2, hrm⟩ : ∃ eo eb B2, B.remove q.a q.b = (eo, eb, B2) := ⟨_, _, _, rfl⟩
      have HRM := Lib.hid hrm
      have HI2 : Hid (Inv B2 ∧ B2.no = B.no) := by have := inv_remove HI.out q.a q.b; rw [hrm] at this; exact this
      clear hrm
      go_upto_region 13 with fail
      have HQR13 := Lib.hid (blk_range HQs.out.blk)
      refine wp_text 5 [pE p 0, pE g6 1, iE q.a, pE g6 2, iE q.b] rfl (by kernel_rfl) ?_ ?_
      ·refine mE 1 3 ?_
       refine fE 2 6 50 1 1 0 ?_
       refine sW 3 rfl (fun a u E D hk=>exec_loadi _ Try.underlying3 _ _ _ rfl (dD D 1) (range_int (range_kept HQR13.out hk) 1 _ rfl)) ?_
       refine fE 4 6 50 2 2 0 ?_
       refine sW 5 rfl (fun a u E D hk=>exec_loadi _ Try.underlying3 _ _ _ rfl (dD D 3) (range_int (range_kept HQR13.out hk) 2 _ rfl)) ?_
       exact fz
      intro gv wh13 hV kh13
      rw [dq 5 [53,54,55,56,57]]
      simp only [F7]
      rw [gQ hV 0 53 (.pointer (some ⟨p, 0, none⟩))]
      rw [gQ hV 2 55 (.int .i64 q.a)]
      rw [gQ hV 4 57 (.int .i64 q.b)]
      clear hV
      refine l_call 24 #[.pointer (some ⟨p, 0, none⟩), .int .i64 q.a, .int .i64 q.b] rfl (exec_call 24 _ [.tmp 53, .tmp 55, .tmp 57] _ _ Try.func24 (by kernel_rfl) (by kernel_rfl) rfl (by kernel_rfl) _) ?_
      refine (bremove_any wh13 F p B q.a q.b (HDs.out.x.kept kh13) HI.out).mono ?_
      rintro e wi13 ⟨Fr, rfl, hb2, hg2, hk2⟩
      rw [HRM.out] at hb2
      have hD2 := (HDs.out.kept kh13).stepX hb2 hg2 hk2
      have hQ2 := (HQs.out.kept kh13).stepX hg2 hk2
      refine ⟨.tuple #[eo.v, .bool eb], by rw [HRM.out], ?_⟩
      simp only [Act.put, sA, sS, sZ]
      refine l_val (.tuple #[eo.v, .bool eb]) rfl (exec_move _ _ rfl (by kernel_rfl)) ?_
      simp only [Act.put, sA, sS, sZ]
      refine l_val (eo.v) rfl (exec_extract (.tmp 52) [eo.v, .bool eb] 0 (eo.v) rfl (by kernel_rfl) rfl) ?_
      simp only [Act.put, sA, sS, sZ]
      refine l_val (.bool eb) rfl (exec_extract (.tmp 52) [eo.v, .bool eb] 1 (.bool eb) rfl (by kernel_rfl) rfl) ?_
      simp only [Act.put, sA, sS, sZ]
      refine l_new (.pointer (some ⟨wi13.heap.size, 0, none⟩)) (wi13.alloc (.cells zeroO.cells.toArray 25)) rfl (exec_alc 25 zeroO.cells rfl zO) ?_
      have hNw := Blk.new wi13 25 zeroO.cells
      have kw4 : Kept wi13 (wi13.alloc (.cells zeroO.cells.toArray 25)) := (Keep.refl _ wi13).alloc _
      generalize wi13.alloc (.cells zeroO.cells.toArray 25) = wj13 at hNw kw4 ⊢
      simp only [Act.put, sA, sS, sZ]
      refine l_setS 25 wi13.heap.size 25 zeroO.cells eo.cells _ _ rfl rfl (by kernel_rfl) (by kernel_rfl) hNw (by rw [Ord.len9]; exact ord_size) (by rw [Ord.len9, Ord.len9]) (Ord.one1 _) ?_
      intro wk13 hB5 hk5 hs5
      simp only [Act.put]
      refine l_val (.bool eb) rfl (exec_assign _ _ rfl (by kernel_rfl)) ?_
      simp only [Act.put, sA, sS, sZ]
      refine wpList_nil ?_
      obtain ⟨b8, hb8⟩ : ∃ y, wi13.heap.size = y := ⟨_, rfl⟩
      rw [hb8] at hNw hB5 hk5 ⊢
      have ke13 : Kept wi13 wk13 := kw4.trans' hk5 (by omega)
      have HB8 := Lib.hid hB5
      have HDt := Lib.hid (hD2.kept ke13)
      have HQt := Lib.hid (hQ2.kept ke13)
      have lb8 := hB5.lt
      have hG8 : ¬ G b8 := fun h => by have h1 := HDs.out.y.lt b8 h; have h2 := kh13.size; have h3 := hk2.size; omega
      clear hNw hB5 hk5 hs5 kw4 hb2 hg2 hk2 hD2 hQ2 HDs HQs kh13 hb8
      go_upto_region 14 with fail
      have HQR14 := Lib.hid (blk_range HQt.out.blk)
      refine wp_text 5 [pE r 0, pE g6 1, iE q.a, pE g6 2, iE q.b] rfl (by kernel_rfl) ?_ ?_
      ·refine mE 1 4 ?_
       refine fE 2 6 50 1 1 0 ?_
       refine sW 3 rfl (fun a u E D hk=>exec_loadi _ Try.underlying3 _ _ _ rfl (dD D 1) (range_int (range_kept HQR14.out hk) 1 _ rfl)) ?_
       refine fE 4 6 50 2 2 0 ?_
       refine sW 5 rfl (fun a u E D hk=>exec_loadi _ Try.underlying3 _ _ _ rfl (dD D 3) (range_int (range_kept HQR14.out hk) 2 _ rfl)) ?_
       exact fz
      intro gv wh14 hV kh14
      rw [dq 5 [62,63,64,65,66]]
      simp only [F7]
      rw [gQ hV 0 62 (.pointer (some ⟨r, 0, none⟩))]
      rw [gQ hV 2 64 (.int .i64 q.a)]
      rw [gQ hV 4 66 (.int .i64 q.b)]
      clear hV
      refine l_call 25 #[.pointer (some ⟨r, 0, none⟩), .int .i64 q.a, .int .i64 q.b] rfl (exec_call 25 _ [.tmp 62, .tmp 64, .tmp 66] _ _ Try.func25 (by kernel_rfl) (by kernel_rfl) rfl (by kernel_rfl) _) ?_
      refine (rbremove_any wh14 G r B q.a q.b (HDt.out.y.kept kh14) HI.out).mono ?_
      rintro e wi14 ⟨Fr, rfl, hb2, hg2, hk2⟩
      rw [HRM.out] at hb2
      have hD2 := (HDt.out.kept kh14).stepY hb2 hg2 hk2
      have hQ2 := (HQt.out.kept kh14).stepY hg2 hk2
      refine ⟨.tuple #[eo.v, .bool eb], by rw [HRM.out], ?_⟩
      simp only [Act.put, sA, sS, sZ]
      refine l_val (.tuple #[eo.v, .bool eb]) rfl (exec_move _ _ rfl (by kernel_rfl)) ?_
      simp only [Act.put, sA, sS, sZ]
      refine l_val (eo.v) rfl (exec_extract (.tmp 61) [eo.v, .bool eb] 0 (eo.v) rfl (by kernel_rfl) rfl) ?_
      simp only [Act.put, sA, sS, sZ]
      refine l_val (.bool eb) rfl (exec_extract (.tmp 61) [eo.v, .bool eb] 1 (.bool eb) rfl (by kernel_rfl) rfl) ?_
      simp only [Act.put, sA, sS, sZ]
      refine l_new (.pointer (some ⟨wi14.heap.size, 0, none⟩)) (wi14.alloc (.cells zeroO.cells.toArray 25)) rfl (exec_alc 25 zeroO.cells rfl zO) ?_
      have hNw := Blk.new wi14 25 zeroO.cells
      have kw4 : Kept wi14 (wi14.alloc (.cells zeroO.cells.toArray 25)) := (Keep.refl _ wi14).alloc _
      generalize wi14.alloc (.cells zeroO.cells.toArray 25) = wj14 at hNw kw4 ⊢
      simp only [Act.put, sA, sS, sZ]
      refine l_setS 25 wi14.heap.size 25 zeroO.cells eo.cells _ _ rfl rfl (by kernel_rfl) (by kernel_rfl) hNw (by rw [Ord.len9]; exact ord_size) (by rw [Ord.len9, Ord.len9]) (Ord.one1 _) ?_
      intro wk14 hB5 hk5 hs5
      simp only [Act.put]
      refine l_val (.bool eb) rfl (exec_assign _ _ rfl (by kernel_rfl)) ?_
      simp only [Act.put, sA, sS, sZ]
      refine wpList_nil ?_
      obtain ⟨b10, hb10⟩ : ∃ y, wi14.heap.size = y := ⟨_, rfl⟩
      rw [hb10] at hNw hB5 hk5 ⊢
      have ke14 : Kept wi14 wk14 := kw4.trans' hk5 (by omega)
      have HB10 := Lib.hid hB5
      have HDe := Lib.hid (hD2.kept ke14)
      have HQe := Lib.hid (hQ2.kept ke14)
      have lb10 := hB5.lt
      have HB8e := Lib.hid (blk_range (((HB8.out.kept kh14).keep hk2 hG8).kept ke14))
      have HB10e := Lib.hid (blk_range HB10.out)
      clear hNw hB5 hk5 hs5 kw4 hb2 hg2 hk2 hD2 hQ2 HDt HQt kh14 hb10 HB8 HB10
      go_upto_region 15 with fail
      refine wp_text 9 [.eq (eo.v), .eq (eo.v), bE true, bE true, bE eb, bE eb, bE true, bE true, bE true] rfl (by kernel_rfl) ?_ ?_
      ·refine sW 1 rfl (fun a u E D hk=>exec_ldS 25 _ _ (b8) (0) (eo.cells) rfl (eE E) (range_kept HB8e.out hk) Try.underlying25 (by rw [eo.len9]; exact ord_size)) ?_
       refine sW 2 rfl (fun a u E D hk=>exec_ldS 25 _ _ (b10) (0) (eo.cells) rfl (eE E) (range_kept HB10e.out hk) Try.underlying25 (by rw [eo.len9]; exact ord_size)) ?_
       refine sW 3 rfl (fun a u E D hk=>exec_eqOb' true _ _ _ eo eo rfl (dD D 0) (dD D 1) (by simp)) ?_
       refine mD 4 72 2 ?_
       refine mE 5 9 ?_
       refine mE 6 11 ?_
       refine sW 7 rfl (fun a u E D hk=>exec_eqb _ _ _ eb eb true rfl (dD D 4) (dD D 5) (by cases eb <;> rfl)) ?_
       refine sW 8 rfl (fun a u E D hk=>exec_pick _ _ _ _ rfl (dD D 3) (dD D 6)) ?_
       refine mD 9 77 7 ?_
       exact fz
      intro gv wz hV kz
      rw [dq 9 [70,71,72,73,74,75,76,77,7]]
      simp only [F7]
      rw [gQ hV 8 7 (.bool true)]
      clear hV
      refine wpList_nil ?_
      have HDz := Lib.hid (HDe.out.kept kz)
      have HQz := Lib.hid (HQe.out.kept kz)
      clear HDe HQe kz HB8e HB10e
      go_wp2
      go_meet
      case rel => exact ⟨rfl, _, _, B2, HDz, HI2.out.1, by show _ ≤ _; rw [HI2.out.2]; omega, HQz⟩
     ·by_cases hk3 : q.k = 3
      ·skip
       go_upto_region 10 with fail
       refine wp_text 2 [bE false, bE false] rfl (by kernel_rfl) ?_ ?_
       ·refine aS 1 rfl (fun a u E D hk=>exec_eqn (p := q.k) (q := 1) rfl (eE E) rfl) (decide_eq_false (by omega)) ?_
        refine mD 2 38 0 ?_
        exact fz
       intro gv ws1 hV ks1
       rw [dq 2 [38,37]]
       simp only [F7]
       rw [gQ hV 1 37 (.bool false)]
       clear hV
       refine wpList_nil ?_
       go_upto_region 12 with fail
       refine wp_text 2 [bE false, bE false] rfl (by kernel_rfl) ?_ ?_
       ·refine aS 1 rfl (fun a u E D hk=>exec_eqn (p := q.k) (q := 2) rfl (eE E) rfl) (decide_eq_false (by omega)) ?_
        refine mD 2 51 0 ?_
        exact fz
       intro gv ws2 hV ks2
       rw [dq 2 [51,50]]
       simp only [F7]
       rw [gQ hV 1 50 (.bool false)]
       clear hV
       refine wpList_nil ?_
       go_upto_region 16 with fail
       refine wp_text 2 [bE true, bE true] rfl (by kernel_rfl) ?_ ?_
       ·refine aS 1 rfl (fun a u E D hk=>exec_eqn (p := q.k) (q := 3) rfl (eE E) rfl) (decide_eq_true (by omega)) ?_
        refine mD 2 79 0 ?_
        exact fz
       intro gv ws3 hV ks3
       rw [dq 2 [79,78]]
       simp only [F7]
       rw [gQ hV 1 78 (.bool true)]
       clear hV
       refine wpList_nil ?_
       have HDs := Lib.hid (HD5.out.kept ((ks1.trans ks2).trans ks3))
       have HQs := Lib.hid (HQ5.out.kept ((ks1.trans ks2).trans ks3))
       obtain ⟨ws, hws⟩ : ∃ y, y = ws3 := ⟨_, rfl⟩
       rw [← hws] at HDs HQs ⊢
       clear HD5 HQ5 hws ks1 ks2 ks3
       clear hk3
       obtain ⟨lb, B2, hls⟩ : ∃ lb B2, B.less q.a q.b q.c = (lb, B2) := ⟨_, _, rfl⟩
       have HLS := Lib.hid hls
       have HI2 : Hid (Inv B2 ∧ B2.no = B.no) := by have := inv_less HI.out q.a q.b q.c; rw [hls] at this; exact this
       clear hls
       have HDd := Lib.hid (HDs.out.kept (Keep.drew (Keep.refl _ ws)))
       have HQd := Lib.hid (HQs.out.kept (Keep.drew (Keep.refl _ ws)))
       clear HDs HQs
       go_upto_region 17 with fail
       refine wp_sched (fun u => Blk u g6 50 q.cells) [(0, 0), (1, 0), (2, 0), (3, 0), (4, 0), (5, 0), (6, 0), (8, 0), (9, 0), (10, 0), (11, 0), (12, 0), (13, 0), (14, 0), (7, 1), (15, 1), (16, 0), (17, 0)] (by kernel_rfl) (by kernel_rfl) (HQd.out.blk) ?_
       refine s_val (o := ⟨some 80, _, _, _, _, _⟩) (.pointer (some ⟨p, 0, none⟩)) rfl (by kernel_rfl) (fun u hu => exec_move (.tmp 3) (.pointer (some ⟨p, 0, none⟩)) rfl (by kernel_rfl)) ?_
       simp only [Act.put, sA, sS, sZ]
       refine s_val (o := ⟨some 81, _, _, _, _, _⟩) (.pointer (some ⟨g6, 1, none⟩)) rfl (by kernel_rfl) (fun u hu => exec_fldo 50 1 1 (.tmp 6) (g6) (0) (1) rfl (by kernel_rfl) (by kernel_rfl) rfl) ?_
       simp only [Act.put, sA, sS, sZ]
       refine s_val (o := ⟨some 82, _, _, _, _, _⟩) (.int .i64 q.a) rfl (by kernel_rfl) (fun u hu => exec_loadi 3 Try.underlying3 (.tmp 81) ⟨g6, 1, none⟩ (.int .i64 q.a) rfl (by kernel_rfl) (range_int (blk_range hu) 1 _ rfl)) ?_
       simp only [Act.put, sA, sS, sZ]
       refine s_val (o := ⟨some 83, _, _, _, _, _⟩) (.pointer (some ⟨g6, 2, none⟩)) rfl (by kernel_rfl) (fun u hu => exec_fldo 50 2 2 (.tmp 6) (g6) (0) (2) rfl (by kernel_rfl) (by kernel_rfl) rfl) ?_
       simp only [Act.put, sA, sS, sZ]
       refine s_val (o := ⟨some 84, _, _, _, _, _⟩) (.int .i64 q.b) rfl (by kernel_rfl) (fun u hu => exec_loadi 3 Try.underlying3 (.tmp 83) ⟨g6, 2, none⟩ (.int .i64 q.b) rfl (by kernel_rfl) (range_int (blk_range hu) 2 _ rfl)) ?_
       simp only [Act.put, sA, sS, sZ]
       refine s_val (o := ⟨some 85, _, _, _, _, _⟩) (.pointer (some ⟨g6, 3, none⟩)) rfl (by kernel_rfl) (fun u hu => exec_fldo 50 3 3 (.tmp 6) (g6) (0) (3) rfl (by kernel_rfl) (by kernel_rfl) rfl) ?_
       simp only [Act.put, sA, sS, sZ]
       refine s_val (o := ⟨some 86, _, _, _, _, _⟩) (.int .i64 q.c) rfl (by kernel_rfl) (fun u hu => exec_loadi 3 Try.underlying3 (.tmp 85) ⟨g6, 3, none⟩ (.int .i64 q.c) rfl (by kernel_rfl) (range_int (blk_range hu) 3 _ rfl)) ?_
       simp only [Act.put, sA, sS, sZ]
       refine s_val (o := ⟨some 88, _, _, _, _, _⟩) (.pointer (some ⟨r, 0, none⟩)) rfl (by kernel_rfl) (fun u hu => exec_move (.tmp 4) (.pointer (some ⟨r, 0, none⟩)) rfl (by kernel_rfl)) ?_
       simp only [Act.put, sA, sS, sZ]
       refine s_val (o := ⟨some 89, _, _, _, _, _⟩) (.pointer (some ⟨g6, 1, none⟩)) rfl (by kernel_rfl) (fun u hu => exec_fldo 50 1 1 (.tmp 6) (g6) (0) (1) rfl (by kernel_rfl) (by kernel_rfl) rfl) ?_
       simp only [Act.put, sA, sS, sZ]
       refine s_val (o := ⟨some 90, _, _, _, _, _⟩) (.int .i64 q.a) rfl (by kernel_rfl) (fun u hu => exec_loadi 3 Try.underlying3 (.tmp 89) ⟨g6, 1, none⟩ (.int .i64 q.a) rfl (by kernel_rfl) (range_int (blk_range hu) 1 _ rfl)) ?_
       simp only [Act.put, sA, sS, sZ]
       refine s_val (o := ⟨some 91, _, _, _, _, _⟩) (.pointer (some ⟨g6, 2, none⟩)) rfl (by kernel_rfl) (fun u hu => exec_fldo 50 2 2 (.tmp 6) (g6) (0) (2) rfl (by kernel_rfl) (by kernel_rfl) rfl) ?_
       simp only [Act.put, sA, sS, sZ]
       refine s_val (o := ⟨some 92, _, _, _, _, _⟩) (.int .i64 q.b) rfl (by kernel_rfl) (fun u hu => exec_loadi 3 Try.underlying3 (.tmp 91) ⟨g6, 2, none⟩ (.int .i64 q.b) rfl (by kernel_rfl) (range_int (blk_range hu) 2 _ rfl)) ?_
       simp only [Act.put, sA, sS, sZ]
       refine s_val (o := ⟨some 93, _, _, _, _, _⟩) (.pointer (some ⟨g6, 3, none⟩)) rfl (by kernel_rfl) (fun u hu => exec_fldo 50 3 3 (.tmp 6) (g6) (0) (3) rfl (by kernel_rfl) (by kernel_rfl) rfl) ?_
       simp only [Act.put, sA, sS, sZ]
       refine s_val (o := ⟨some 94, _, _, _, _, _⟩) (.int .i64 q.c) rfl (by kernel_rfl) (fun u hu => exec_loadi 3 Try.underlying3 (.tmp 93) ⟨g6, 3, none⟩ (.int .i64 q.c) rfl (by kernel_rfl) (range_int (blk_range hu) 3 _ rfl)) ?_
       simp only [Act.put, sA, sS, sZ]
       refine s_call (o := ⟨some 87, _, _, _, _, _⟩) 26 #[.pointer (some ⟨p, 0, none⟩), .int .i64 q.a, .int .i64 q.b, .int .i64 q.c] rfl (by kernel_rfl) (exec_call 26 _ [.tmp 80, .tmp 82, .tmp 84, .tmp 86] _ _ Try.func26 (by kernel_rfl) (by kernel_rfl) rfl (by kernel_rfl)) ?_
       refine (bless_any ws.drew F p B q.a q.b q.c HDd.out.x HI.out).mono ?_
       rintro e wb ⟨F2, rfl, hb2, hg2, hk2⟩
       rw [HLS.out] at hb2
       have hD2 := HDd.out.stepX hb2 hg2 hk2
       have hQ2 := HQd.out.stepX hg2 hk2
       refine ⟨.bool lb, by rw [HLS.out], hQ2.blk, ?_⟩
       simp only [Act.put, sA, sS, sZ]
       refine s_call (o := ⟨some 95, _, _, _, _, _⟩) 27 #[.pointer (some ⟨r, 0, none⟩), .int .i64 q.a, .int .i64 q.b, .int .i64 q.c] rfl (by kernel_rfl) (exec_call 27 _ [.tmp 88, .tmp 90, .tmp 92, .tmp 94] _ _ Try.func27 (by kernel_rfl) (by kernel_rfl) rfl (by kernel_rfl)) ?_
       refine (rbless_any wb G r B q.a q.b q.c hD2.y HI.out).mono ?_
       rintro e we ⟨G2, rfl, hb4, hg4, hk4⟩
       rw [HLS.out] at hb4
       have hDe := hD2.stepY hb4 hg4 hk4
       have hQe := hQ2.stepY hg4 hk4
       refine ⟨.bool lb, by rw [HLS.out], hQe.blk, ?_⟩
       simp only [Act.put, sA, sS, sZ]
       refine s_val (o := ⟨some 96, _, _, _, _, _⟩) (.bool true) rfl (by kernel_rfl) (fun u hu => exec_eqb (.tmp 87) (.tmp 95) _ lb lb true rfl (by kernel_rfl) (by kernel_rfl) (by cases lb <;> rfl)) ?_
       simp only [Act.put, sA, sS, sZ]
       refine s_val (o := ⟨some 7, _, _, _, _, _⟩) (.bool true) rfl (by kernel_rfl) (fun u hu => exec_assign (.tmp 96) (.bool true) rfl (by kernel_rfl)) ?_
       simp only [Act.put, sA, sS, sZ]
       refine s_done ?_
       have HDe := Lib.hid hDe
       have HQe := Lib.hid hQe
       clear HDd HQd hDe hQe
       go_wp2
       go_meet
       case rel => exact ⟨rfl, _, _, B2, HDe, HI2.out.1, by show _ ≤ _; rw [HI2.out.2]; omega, HQe⟩
      ·by_cases hk4 : q.k = 4
       ·skip
        go_upto_region 10 with fail
        refine wp_text 2 [bE false, bE false] rfl (by kernel_rfl) ?_ ?_
        ·refine aS 1 rfl (fun a u E D hk=>exec_eqn (p := q.k) (q := 1) rfl (eE E) rfl) (decide_eq_false (by omega)) ?_
         refine mD 2 38 0 ?_
         exact fz
        intro gv ws1 hV ks1
        rw [dq 2 [38,37]]
        simp only [F7]
        rw [gQ hV 1 37 (.bool false)]
        clear hV
        refine wpList_nil ?_
        go_upto_region 12 with fail
        refine wp_text 2 [bE false, bE false] rfl (by kernel_rfl) ?_ ?_
        ·refine aS 1 rfl (fun a u E D hk=>exec_eqn (p := q.k) (q := 2) rfl (eE E) rfl) (decide_eq_false (by omega)) ?_
         refine mD 2 51 0 ?_
         exact fz
        intro gv ws2 hV ks2
        rw [dq 2 [51,50]]
        simp only [F7]
        rw [gQ hV 1 50 (.bool false)]
        clear hV
        refine wpList_nil ?_
        go_upto_region 16 with fail
        refine wp_text 2 [bE false, bE false] rfl (by kernel_rfl) ?_ ?_
        ·refine aS 1 rfl (fun a u E D hk=>exec_eqn (p := q.k) (q := 3) rfl (eE E) rfl) (decide_eq_false (by omega)) ?_
         refine mD 2 79 0 ?_
         exact fz
        intro gv ws3 hV ks3
        rw [dq 2 [79,78]]
        simp only [F7]
        rw [gQ hV 1 78 (.bool false)]
        clear hV
        refine wpList_nil ?_
        go_upto_region 18 with fail
        refine wp_text 2 [bE true, bE true] rfl (by kernel_rfl) ?_ ?_
        ·refine aS 1 rfl (fun a u E D hk=>exec_eqn (p := q.k) (q := 4) rfl (eE E) rfl) (decide_eq_true (by omega)) ?_
         refine mD 2 98 0 ?_
         exact fz
        intro gv ws4 hV ks4
        rw [dq 2 [98,97]]
        simp only [F7]
        rw [gQ hV 1 97 (.bool true)]
        clear hV
        refine wpList_nil ?_
        have HDs := Lib.hid (HD5.out.kept (((ks1.trans ks2).trans ks3).trans ks4))
        have HQs := Lib.hid (HQ5.out.kept (((ks1.trans ks2).trans ks3).trans ks4))
        obtain ⟨ws, hws⟩ : ∃ y, y = ws4 := ⟨_, rfl⟩
        rw [← hws] at HDs HQs ⊢
        clear HD5 HQ5 hws ks1 ks2 ks3 ks4
        clear hk4
        obtain ⟨o, ho⟩ : ∃ o : Ord, q.raw = o := ⟨_, rfl⟩
        have HOE := Lib.hid ho
        obtain ⟨x, hx⟩ : ∃ x, (B.add o).1 = x := ⟨_, rfl⟩
        have HX := Lib.hid hx
        have HFW : Hid (x.f.length ≤ 1048576) := by show _ ≤ _; rw [← hx]; exact fills_few HI.out
        clear ho hx
        have HDd := Lib.hid (HDs.out.kept (Keep.drew (Keep.refl _ ws)))
        have HQd := Lib.hid (HQs.out.kept (Keep.drew (Keep.refl _ ws)))
        clear HDs HQs
        go_upto_region 19 with fail
        refine wp_sched (fun u => Blk u g6 50 q.cells) [(0, 0), (1, 0), (2, 0), (4, 0), (5, 0), (6, 0), (3, 1), (7, 1), (8, 1), (9, 0)] (by kernel_rfl) (by kernel_rfl) (HQd.out.blk) ?_
        refine s_val (o := ⟨some 99, _, _, _, _, _⟩) (.pointer (some ⟨p, 0, none⟩)) rfl (by kernel_rfl) (fun u hu => exec_move (.tmp 3) (.pointer (some ⟨p, 0, none⟩)) rfl (by kernel_rfl)) ?_
        simp only [Act.put, sA, sS, sZ]
        refine s_val (o := ⟨some 100, _, _, _, _, _⟩) (.pointer (some ⟨g6, 11, none⟩)) rfl (by kernel_rfl) (fun u hu => exec_fldo 50 5 11 (.tmp 6) (g6) (0) (11) rfl (by kernel_rfl) (by kernel_rfl) rfl) ?_
        simp only [Act.put, sA, sS, sZ]
        refine s_val (o := ⟨some 101, _, _, _, _, _⟩) (o.v) rfl (by kernel_rfl) (fun u hu => by rw [← HOE.out]; exact exec_ldS 25 _ (.tmp 100) g6 11 q.raw.cells rfl (by kernel_rfl) (show u.rangeAt g6 11 q.raw.cells from pq_raw (blk_range hu)) Try.underlying25 (by rw [Ord.len9]; exact ord_size)) ?_
        simp only [Act.put, sA, sS, sZ]
        refine s_val (o := ⟨some 103, _, _, _, _, _⟩) (.pointer (some ⟨r, 0, none⟩)) rfl (by kernel_rfl) (fun u hu => exec_move (.tmp 4) (.pointer (some ⟨r, 0, none⟩)) rfl (by kernel_rfl)) ?_
        simp only [Act.put, sA, sS, sZ]
        refine s_val (o := ⟨some 104, _, _, _, _, _⟩) (.pointer (some ⟨g6, 11, none⟩)) rfl (by kernel_rfl) (fun u hu => exec_fldo 50 5 11 (.tmp 6) (g6) (0) (11) rfl (by kernel_rfl) (by kernel_rfl) rfl) ?_
        simp only [Act.put, sA, sS, sZ]
        refine s_val (o := ⟨some 105, _, _, _, _, _⟩) (o.v) rfl (by kernel_rfl) (fun u hu => by rw [← HOE.out]; exact exec_ldS 25 _ (.tmp 104) g6 11 q.raw.cells rfl (by kernel_rfl) (show u.rangeAt g6 11 q.raw.cells from pq_raw (blk_range hu)) Try.underlying25 (by rw [Ord.len9]; exact ord_size)) ?_
        simp only [Act.put, sA, sS, sZ]
        refine s_call (o := ⟨some 102, _, _, _, _, _⟩) 15 #[.pointer (some ⟨p, 0, none⟩), o.v] rfl (by kernel_rfl) (exec_call 15 _ [.tmp 99, .tmp 101] _ _ Try.func15 (by kernel_rfl) (by kernel_rfl) rfl (by kernel_rfl)) ?_
        refine (badd_any ws.drew F p B o HDd.out.x HI.out HNo.out).mono ?_
        rintro e wb ⟨F2, va, rfl, hb2, hsa, hoa, hg2, hk2⟩
        rw [HX.out] at hsa
        have hD2 := HDd.out.stepX hb2 hg2 hk2
        have hQ2 := HQd.out.stepX hg2 hk2
        have hal : ∀ b, va.ownBlock = some b → ¬ G b := fun b hb h => by have := (hoa b hb).1; have := HDd.out.y.lt b h; omega
        refine ⟨x.v va, by rw [HX.out], hQ2.blk, ?_⟩
        simp only [Act.put, sA, sS, sZ]
        refine s_call (o := ⟨some 106, _, _, _, _, _⟩) 23 #[.pointer (some ⟨r, 0, none⟩), o.v] rfl (by kernel_rfl) (exec_call 23 _ [.tmp 103, .tmp 105] _ _ Try.func23 (by kernel_rfl) (by kernel_rfl) rfl (by kernel_rfl)) ?_
        refine (rbadd_any wb G r B o hD2.y HI.out HNo.out).mono ?_
        rintro e we ⟨G2, vb, rfl, hb4, hsb, hob, hg4, hk4⟩
        rw [HX.out] at hsb
        have hDe := hD2.stepY hb4 hg4 hk4
        have hQe := hQ2.stepY hg4 hk4
        have hsa4 := hsa.keep hk4 hal
        refine ⟨x.v vb, by rw [HX.out], hQe.blk, ?_⟩
        simp only [Act.put, sA, sS, sZ]
        refine s_call (o := ⟨some 107, _, _, _, _, _⟩) 21 #[x.v va, x.v vb] rfl (by kernel_rfl) (exec_call 21 _ [.tmp 102, .tmp 106] _ _ Try.func21 (by kernel_rfl) (by kernel_rfl) rfl (by kernel_rfl)) ?_
        refine (koutcome_any x va vb we hsa4 hsb (by have := HFW.out; omega)).mono ?_
        rintro e wf ⟨vo, rfl, hvo, kof⟩
        have hDe := hDe.kept kof
        have hQe := hQe.kept kof
        refine ⟨.bool true, by have h2 : vo = .bool true := hvo; rw [h2], hQe.blk, ?_⟩
        simp only [Act.put, sA, sS, sZ]
        refine s_val (o := ⟨some 7, _, _, _, _, _⟩) (.bool true) rfl (by kernel_rfl) (fun u hu => exec_assign (.tmp 107) (.bool true) rfl (by kernel_rfl)) ?_
        simp only [Act.put, sA, sS, sZ]
        refine s_done ?_
        have HDe := Lib.hid hDe
        have HQe := Lib.hid hQe
        have HIe := Lib.hid (inv_add (o := o) HI.out)
        clear HDd HQd HX HOE HFW hDe hQe
        go_wp2
        go_meet
        case rel => exact ⟨rfl, _, _, _, HDe, HIe.out.1, HIe.out.2.2, HQe⟩
       ·skip
        go_upto_region 10 with fail
        refine wp_text 2 [bE false, bE false] rfl (by kernel_rfl) ?_ ?_
        ·refine aS 1 rfl (fun a u E D hk=>exec_eqn (p := q.k) (q := 1) rfl (eE E) rfl) (decide_eq_false (by omega)) ?_
         refine mD 2 38 0 ?_
         exact fz
        intro gv ws1 hV ks1
        rw [dq 2 [38,37]]
        simp only [F7]
        rw [gQ hV 1 37 (.bool false)]
        clear hV
        refine wpList_nil ?_
        go_upto_region 12 with fail
        refine wp_text 2 [bE false, bE false] rfl (by kernel_rfl) ?_ ?_
        ·refine aS 1 rfl (fun a u E D hk=>exec_eqn (p := q.k) (q := 2) rfl (eE E) rfl) (decide_eq_false (by omega)) ?_
         refine mD 2 51 0 ?_
         exact fz
        intro gv ws2 hV ks2
        rw [dq 2 [51,50]]
        simp only [F7]
        rw [gQ hV 1 50 (.bool false)]
        clear hV
        refine wpList_nil ?_
        go_upto_region 16 with fail
        refine wp_text 2 [bE false, bE false] rfl (by kernel_rfl) ?_ ?_
        ·refine aS 1 rfl (fun a u E D hk=>exec_eqn (p := q.k) (q := 3) rfl (eE E) rfl) (decide_eq_false (by omega)) ?_
         refine mD 2 79 0 ?_
         exact fz
        intro gv ws3 hV ks3
        rw [dq 2 [79,78]]
        simp only [F7]
        rw [gQ hV 1 78 (.bool false)]
        clear hV
        refine wpList_nil ?_
        go_upto_region 18 with fail
        refine wp_text 2 [bE false, bE false] rfl (by kernel_rfl) ?_ ?_
        ·refine aS 1 rfl (fun a u E D hk=>exec_eqn (p := q.k) (q := 4) rfl (eE E) rfl) (decide_eq_false (by omega)) ?_
         refine mD 2 98 0 ?_
         exact fz
        intro gv ws4 hV ks4
        rw [dq 2 [98,97]]
        simp only [F7]
        rw [gQ hV 1 97 (.bool false)]
        clear hV
        refine wpList_nil ?_
        have HDs := Lib.hid (HD5.out.kept (((ks1.trans ks2).trans ks3).trans ks4))
        have HQs := Lib.hid (HQ5.out.kept (((ks1.trans ks2).trans ks3).trans ks4))
        obtain ⟨ws, hws⟩ : ∃ y, y = ws4 := ⟨_, rfl⟩
        rw [← hws] at HDs HQs ⊢
        clear HD5 HQ5 hws ks1 ks2 ks3 ks4
        go_wp2
        go_meet
        case rel => exact ⟨rfl, _, _, B, HDs, HI, by show _ ≤ _; omega, HQs⟩
   case rest =>
    obtain ⟨rfl, F1, G1, B1, HD1, HI1, HNo1, HQ1⟩ := hcut
    obtain ⟨w6, hw6⟩ : ∃ y, y = wc := ⟨_, rfl⟩
    subst hw6
    have HQR1 := Lib.hid (blk_range HQ1.out.blk)
    obtain ⟨fo, fb, hfd⟩ : ∃ fo fb, B1.find q.a q.b = (fo, fb) := ⟨_, _, rfl⟩
    have HFD := Lib.hid hfd
    clear hfd HD5 HQ5 HI
    go_upto_region 20 with fail
    refine wp_text 10 [pE p 0, pE g6 1, iE q.a, pE g6 2, iE q.b, .eq (.tuple #[fo.v, .bool fb]), .eq (.tuple #[fo.v, .bool fb]), .eq (fo.v), bE fb, .fresh w6.heap.size 25 zeroO.cells] rfl (by kernel_rfl) ?_ ?_
    ·refine mE 1 3 ?_
     refine fE 2 6 50 1 1 0 ?_
     refine sW 3 rfl (fun a u E D hk=>exec_loadi _ Try.underlying3 _ _ _ rfl (dD D 1) (range_int (range_kept HQR1.out hk) 1 _ rfl)) ?_
     refine fE 4 6 50 2 2 0 ?_
     refine sW 5 rfl (fun a u E D hk=>exec_loadi _ Try.underlying3 _ _ _ rfl (dD D 3) (range_int (range_kept HQR1.out hk) 2 _ rfl)) ?_
     refine cS 6 28 [.pointer (some ⟨p, 0, none⟩), .int .i64 q.a, .int .i64 q.b] rfl Try.func28 rfl (fun a u E D hk=>⟨ll (dD D 0) (ll (dD D 2) (ll (dD D 4) rfl)), (by have h := bfind_any u F1 p B1 q.a q.b (HD1.out.x.kept hk) HI1.out; rw [HFD.out] at h; exact h)⟩) ?_
     refine mD 7 114 5 ?_
     refine sW 8 rfl (fun a u E D hk=>exec_extract _ [fo.v, .bool fb] 0 (fo.v) rfl (dD D 6) rfl) ?_
     refine sW 9 rfl (fun a u E D hk=>exec_extract _ [fo.v, .bool fb] 1 (.bool fb) rfl (dD D 6) rfl) ?_
     refine nW 10 rfl (fun a u E D hk=>⟨_, _, exec_alc 25 zeroO.cells rfl zO, ⟨_, rfl, hk.size, Blk.new u _ _⟩, ((Keep.refl _ u).alloc _)⟩) ?_
     exact fz
    intro gv w7 hV k7
    rw [dq 10 [109,110,111,112,113,114,108,115,116,12]]
    simp only [F7]
    have hv12 : (.fresh w6.heap.size 25 zeroO.cells : Kn).p (gv 12) w7 := hV 9 12 (by kernel_rfl)
    generalize gv 12 = v12 at hv12 ⊢
    rw [gQ hV 7 115 fo.v]
    rw [gQ hV 8 116 (.bool fb)]
    clear hV
    obtain ⟨b12, rfl, hb12, hB12⟩ := hv12
    refine l_setS 25 b12 25 zeroO.cells fo.cells _ _ rfl rfl (by kernel_rfl) (by kernel_rfl) hB12 (by rw [Ord.len9]; exact ord_size) (by rw [Ord.len9, Ord.len9]) (Ord.one1 _) ?_
    intro w8 hB8 hk8 hs8
    simp only [Act.put]
    refine l_val (.bool fb) rfl (exec_assign _ _ rfl (by kernel_rfl)) ?_
    simp only [Act.put, sA, sS, sZ]
    refine wpList_nil ?_
    have k68 : Kept w6 w8 := k7.trans' hk8 (by omega)
    have HB8 := Lib.hid hB8
    have HQR8 := Lib.hid (range_kept HQR1.out k68)
    have l8 := hB8.lt
    clear hB12 hB8 hk8 hs8 k7
    go_upto_region 21 with fail
    refine wp_text 10 [pE r 0, pE g6 1, iE q.a, pE g6 2, iE q.b, .eq (.tuple #[fo.v, .bool fb]), .eq (.tuple #[fo.v, .bool fb]), .eq (fo.v), bE fb, .fresh w8.heap.size 25 zeroO.cells] rfl (by kernel_rfl) ?_ ?_
    ·refine mE 1 4 ?_
     refine fE 2 6 50 1 1 0 ?_
     refine sW 3 rfl (fun a u E D hk=>exec_loadi _ Try.underlying3 _ _ _ rfl (dD D 1) (range_int (range_kept HQR8.out hk) 1 _ rfl)) ?_
     refine fE 4 6 50 2 2 0 ?_
     refine sW 5 rfl (fun a u E D hk=>exec_loadi _ Try.underlying3 _ _ _ rfl (dD D 3) (range_int (range_kept HQR8.out hk) 2 _ rfl)) ?_
     refine cS 6 29 [.pointer (some ⟨r, 0, none⟩), .int .i64 q.a, .int .i64 q.b] rfl Try.func29 rfl (fun a u E D hk=>⟨ll (dD D 0) (ll (dD D 2) (ll (dD D 4) rfl)), (by have h := rbfind_any u G1 r B1 q.a q.b (HD1.out.y.kept (k68.trans hk)) HI1.out; rw [HFD.out] at h; exact h)⟩) ?_
     refine mD 7 123 5 ?_
     refine sW 8 rfl (fun a u E D hk=>exec_extract _ [fo.v, .bool fb] 0 (fo.v) rfl (dD D 6) rfl) ?_
     refine sW 9 rfl (fun a u E D hk=>exec_extract _ [fo.v, .bool fb] 1 (.bool fb) rfl (dD D 6) rfl) ?_
     refine nW 10 rfl (fun a u E D hk=>⟨_, _, exec_alc 25 zeroO.cells rfl zO, ⟨_, rfl, hk.size, Blk.new u _ _⟩, ((Keep.refl _ u).alloc _)⟩) ?_
     exact fz
    intro gv w9 hV k9
    rw [dq 10 [118,119,120,121,122,123,117,124,125,14]]
    simp only [F7]
    have hv14 : (.fresh w8.heap.size 25 zeroO.cells : Kn).p (gv 14) w9 := hV 9 14 (by kernel_rfl)
    generalize gv 14 = v14 at hv14 ⊢
    rw [gQ hV 7 124 fo.v]
    rw [gQ hV 8 125 (.bool fb)]
    clear hV
    obtain ⟨b14, rfl, hb14, hB14⟩ := hv14
    refine l_setS 25 b14 25 zeroO.cells fo.cells _ _ rfl rfl (by kernel_rfl) (by kernel_rfl) hB14 (by rw [Ord.len9]; exact ord_size) (by rw [Ord.len9, Ord.len9]) (Ord.one1 _) ?_
    intro w10 hB10 hk10 hs10
    simp only [Act.put]
    refine l_val (.bool fb) rfl (exec_assign _ _ rfl (by kernel_rfl)) ?_
    simp only [Act.put, sA, sS, sZ]
    refine wpList_nil ?_
    have k810 : Kept w8 w10 := k9.trans' hk10 (by omega)
    have HB10 := Lib.hid (blk_range hB10)
    have HB810 := Lib.hid (blk_range (HB8.out.kept k810))
    have k610 := k68.trans k810
    clear hB14 hB10 hk10 hs10 k9 HB8 k68 k810 HQR8 HQR1
    go_upto_region 22 with fail
    refine wp_text 18 [bE true, bE false, bE false, .eq (fo.v), .eq (fo.v), bE false, bE false, bE false, bE fb, bE fb, bE false, bE false, bE false, pE p 0, pE r 0, bE true, bE false, bE false] rfl (by kernel_rfl) ?_ ?_
    ·refine mE 1 7 ?_
     refine sW 2 rfl (fun a u E D hk=>exec_not _ _ true rfl (dD D 0)) ?_
     refine mD 3 127 1 ?_
     refine sW 4 rfl (fun a u E D hk=>exec_ldS 25 _ _ (b12) (0) (fo.cells) rfl (eE E) (range_kept HB810.out hk) Try.underlying25 (by rw [fo.len9]; exact ord_size)) ?_
     refine sW 5 rfl (fun a u E D hk=>exec_ldS 25 _ _ (b14) (0) (fo.cells) rfl (eE E) (range_kept HB10.out hk) Try.underlying25 (by rw [fo.len9]; exact ord_size)) ?_
     refine sW 6 rfl (fun a u E D hk=>exec_neOb false _ _ _ fo fo rfl (dD D 3) (dD D 4) (by simp)) ?_
     refine sW 7 rfl (fun a u E D hk=>exec_pickF _ _ _ _ rfl (dD D 2) (dD D 5)) ?_
     refine mD 8 132 6 ?_
     refine mE 9 13 ?_
     refine mE 10 15 ?_
     refine sW 11 rfl (fun a u E D hk=>exec_neb _ _ _ fb fb false rfl (dD D 8) (dD D 9) (by cases fb <;> rfl)) ?_
     refine sW 12 rfl (fun a u E D hk=>exec_pickF _ _ _ _ rfl (dD D 7) (dD D 10)) ?_
     refine mD 13 137 11 ?_
     refine mE 14 3 ?_
     refine mE 15 4 ?_
     refine cS 16 30 [.pointer (some ⟨p, 0, none⟩), .pointer (some ⟨r, 0, none⟩)] rfl Try.func30 rfl (fun a u E D hk=>⟨ll (dD D 13) (ll (dD D 14) rfl), bsame_any u F1 G1 p r B1 (HD1.out.x.kept (k610.trans hk)) (HD1.out.y.kept (k610.trans hk)) HI1.out⟩) ?_
     refine sW 17 rfl (fun a u E D hk=>exec_not _ _ true rfl (dD D 15)) ?_
     refine sW 18 rfl (fun a u E D hk=>exec_pickF _ _ _ _ rfl (dD D 12) (dD D 16)) ?_
     exact fz
    intro gv w11 hV k11
    rw [dq 18 [126,127,128,129,130,131,132,133,134,135,136,137,138,139,140,141,142,143]]
    simp only [F7]
    rw [gQ hV 17 143 (.bool false)]
    clear hV
    refine wpList_nil ?_
    have HD11 := Lib.hid (HD1.out.kept (k610.trans k11))
    have HNx : Hid (B1.no ≤ 1048576 * ((i + 1 : Nat) : Int)) := by
     show _ ≤ _
     have h1 := HNo1.out
     have h2 := HNi.out
     omega
    clear HD1 HQ1 k610 k11 HB10 HB810 HNo1
    go_wp2
    exact ⟨⟨i + 1, F1, G1, B1, by go_num, by omega, by omega, HD11, HI1, HNx⟩, by simp [intOf]; omega⟩
  ·have HD9 := HD
   clear HD
   by_cases h1 : i < n
   ·have h2 : ¬ i < 60 := by omega
    clear hlt
    go_wp2_with fail
    refine (bookRuns_any wr).mono ?_
    rintro e wz ⟨rfl, kz⟩
    go_wp2
    go_ret
    exact ⟨rfl, HD9.out.k.trans kz⟩
   ·clear hlt
    go_wp2_with fail
    refine (bookRuns_any wr).mono ?_
    rintro e wz ⟨rfl, kz⟩
    go_wp2
    go_ret
    exact ⟨rfl, HD9.out.k.trans kz⟩
end Go.Proofs.Ytfpfpmhkkgfdbaa
