/-
 Laws and contracts that the walks rest on, part 2. No condition.
-/
import Derived.Test.YtklohceombpleaaQA01
set_option linter.unusedVariables false
namespace Go.Proofs.Ytklohceombpleaa
open Go.RowKit
set_option maxRecDepth 100000
variable {pr : Int}
set_option maxRecDepth 100000 in
theorem drop_any (w : World) (F : Nat → Prop) (p : Nat) (e : Ent) (R : List Ent) (h : Lvl pr 96 98 w F p (e :: R)) :
  Calls Try.prog 105 #[.pointer (some ⟨p, 0, none⟩)] w fun r w' => r = .returned (.tuple #[]) ∧ Lvl pr 96 98 w' F p R ∧ Keep F w w' := by
 obtain ⟨h1, h2, v, hB, hS, h5⟩ := h
 obtain ⟨v', hrun, hown, hsl⟩ := slice_lS slE v (R.length + 1) 1 (by omega) _ w hS
 have HS2 : Hid (Sl w 98 10 v' R.length (ents R)) := by
  have := hsl w _ hS
  rw [show (ents (e :: R)).drop (1 * 10) = ents R from flat_drop Ent.cells 10 Ent.len10 (e :: R) 1] at this
  exact this
 have HB := Lib.hid hB
 have HR := Lib.hid hrun
 have H1 := Lib.hid h1
 have H2 := Lib.hid h2
 have H5 := Lib.hid h5
 have HO := Lib.hid hown
 clear hB hS h5 h1 h2 hrun hsl hown
 go_enter Try.func105, Try.ntmps105
 go_upto_region 0 with fail
 refine wEp 8 [pV p 0, pV p 0, pV p 0, pV p 1, v, v', pV p 0, pV p 1] [2,3,4,5,6,7,8,9] ?_ ?_
 ·refine mE 1 0 ?_
  refine mE 2 0 ?_
  refine nD 3 3 1 ?_
  refine fD 4 4 2 96 1 1 0 ?_
  refine sW 5 rfl (fun a u E D hk=>exec_ldv _ _ Try.underlying94 _ _ _ rfl (dD D 3) (by rw [(HB.out.kept hk).cell]; rfl)) ?_
  refine sW 6 rfl (fun a u E D hk=>exec_slcS slE _ (some (.const (.int .i64 1))) none none v v' rfl (dD D 4) (HR.out u)) ?_
  refine nD 7 2 0 ?_
  refine fD 8 8 6 96 1 1 0 ?_
  exact fz
 intro w1 k1
 simp only [F8]
 refine l_st1 94 p 1 96 _ v' _ _ rfl rfl (by kernel_rfl) (by kernel_rfl) (by kernel_rfl) (sl_cells HS2.out) (sl_onec HS2.out) (HB.out.kept k1) (by simp) ?_
 intro w3 hB3 hk3 hs3
 simp only [Act.put]
 refine wpList_nil ?_
 go_wp2
 go_end0
 have hsz := k1.size
 have hkF : Keep F w w3 := (Keep.mono (T := F) k1 (fun _ _ h => h.elim)).trans hk3 (fun b _ hb => by subst hb; exact H1.out)
 refine ⟨rfl, ⟨H1.out, fun b hb => ?_, v', by simpa using hB3, ?_, fun b hb => H5.out b (by rw [← HO.out]; exact hb)⟩, hkF⟩
 ·have := H2.out b hb; omega
 ·refine (HS2.out.kept k1).keep hk3 (fun b hb e => ?_)
  subst e
  exact (H5.out b (by rw [← HO.out]; exact hb)).2 rfl
set_option maxRecDepth 100000 in
theorem anew_any (w : World) (F : Nat → Prop) (p : Nat) (e : Ent) (R : List Ent) (h : Lvl pr 96 98 w F p (e :: R)) (hn : R.length ≤ 100000000) :
  Calls Try.prog 106 #[.pointer (some ⟨p, 0, none⟩)] w fun r w' => ∃ F', r = .returned (.tuple #[]) ∧ Lvl pr 96 98 w' F' p (R ++ [Ent.of e.o]) ∧ Grow w F F' ∧ Keep F w w' := by
 have HL := Lib.hid h
 obtain ⟨h1, h2, v, hB, hS, h5⟩ := h
 obtain ⟨g, off, c, rfl⟩ := hS.some_ (by simp)
 have HR : Hid (w.rangeAt g off e.cells) := hS.rng 0 e rfl
 have HB := Lib.hid hB
 have H2 := Lib.hid h2
 clear hB hS h5 h1 h2
 go_enter Try.func106, Try.ntmps106
 go_upto_region 0 with fail
 refine wp_text 8 [pE p 0, pE p 0, pE p 1, .eq (.slice (some ⟨g, off, none⟩) (R.length + 1) c), pE g off, pE g off, .eq (e.o.v), .fresh w.heap.size 24 zeroO.cells] rfl (by kernel_rfl) ?_ ?_
 ·refine mE 1 0 ?_
  refine nD 2 3 0 ?_
  refine fD 3 4 1 96 1 1 0 ?_
  refine sW 4 rfl (fun a u E D hk=>exec_ldv _ _ Try.underlying94 _ _ _ rfl (dD D 2) (by rw [(HB.out.kept hk).cell]; rfl)) ?_
  refine sW 5 rfl (fun a u E D hk=>exec_ixo slE _ _ (g) (off) (R.length + 1) c 0 (off) (0) rfl (dD D 3) rfl (by first | rfl | omega) ((by omega)) (by first | rfl | omega)) ?_
  refine fD 6 7 4 98 0 0 off ?_
  refine sD 7 8 5 e.o.cells Try.underlying24 (fun u hk=>ent_ord (range_kept HR.out hk)) (by rw [e.o.len9]; exact ord_size) ?_
  refine nW 8 rfl (fun a u E D hk=>⟨_, _, exec_alc 24 zeroO.cells rfl zO, ⟨_, rfl, hk.size, Blk.new u _ _⟩, ((Keep.refl _ u).alloc _)⟩) ?_
  exact fz
 intro gv w1 hV k1
 rw [dq 8 [3,4,5,6,7,8,9,2]]
 simp only [Fz7]
 have hv2 : (.fresh w.heap.size 24 zeroO.cells : Kn).p (gv 2) w1 := hV 7 2 (by kernel_rfl)
 generalize gv 2 = v2 at hv2 ⊢
 rw [gQ hV 6 9 e.o.v]
 clear hV
 obtain ⟨b2, rfl, hb2, hB2⟩ := hv2
 refine l_setS 24 b2 24 zeroO.cells e.o.cells _ _ rfl rfl (by kernel_rfl) (by kernel_rfl) hB2 (by rw [Ord.len9]; exact ord_size) (by rw [Ord.len9, Ord.len9]) (Ord.one1 _) ?_
 intro w2 hB3 hk3 hs3
 simp only [Act.put]
 refine wpList_nil ?_
 have kw2 : Kept w w2 := k1.trans' hk3 (by omega)
 have HL2 := Lib.hid (HL.out.kept kw2)
 have HB3 := Lib.hid (hB3)
 clear HL HR HB hB2 hB3 hk3 hs3 k1
 go_upto_region 1 with fail
 refine wp_region_lit ?_
 refine l_val (.pointer (some ⟨p, 0, none⟩)) rfl (exec_move _ _ rfl (by kernel_rfl)) ?_
 simp only [Act.put, sA, sS, sZ]
 refine l_call 105 #[.pointer (some ⟨p, 0, none⟩)] rfl (exec_call 105 _ [.tmp 10] _ _ Try.func105 (by kernel_rfl) (by kernel_rfl) rfl (by kernel_rfl) _) ?_
 refine (drop_any w2 F p e R HL2.out).mono ?_
 rintro r w3 ⟨rfl, hL3, hk3⟩
 refine ⟨_, rfl, ?_⟩
 simp only [Act.put, sA, sS, sZ]
 refine wpList_nil ?_
 have hnF : ¬ F b2 := fun hb => by have := H2.out b2 hb; omega
 have HB4 := Lib.hid (blk_range (HB3.out.keep hk3 hnF))
 have HL3 := Lib.hid hL3
 clear hL3 HL2 HB3
 go_upto_region 2 with fail
 refine wEp 2 [pV p 0, e.o.v] [12,13] ?_ ?_
 ·refine mE 1 0 ?_
  refine sE 2 2 b2 0 e.o.cells Try.underlying24 (fun u hk=>range_kept HB4.out hk) (by rw [e.o.len9]; exact ord_size) ?_
  exact fz
 intro w4 k4
 simp only [F8]
 refine l_call 93 #[.pointer (some ⟨p, 0, none⟩), e.o.v] rfl (exec_call 93 _ [.tmp 12, .tmp 13] _ _ Try.func93 (by kernel_rfl) (by kernel_rfl) rfl (by kernel_rfl) _) ?_
 refine (add_any w4 F p R e.o (HL3.out.kept k4) hn).mono ?_
 rintro r w5 ⟨F', rfl, hL5, hg5, hk5⟩
 refine ⟨_, rfl, ?_⟩
 simp only [Act.put, sA, sS, sZ]
 refine wpList_nil ?_
 go_wp2
 go_end0
 have s1 := kw2.size
 have s2 := hk3.size
 have s3 := k4.size
 refine ⟨F', rfl, hL5, fun b hb => (hg5 b hb).imp id (fun h => by omega), (((Keep.mono (T := F) kw2 (fun _ _ h => h.elim)).trans hk3 (fun _ _ h => h)).kept k4).trans hk5 (fun _ _ h => h)⟩
def HitIn (pr : Int) (w : World) (F : Nat → Prop) (p : Nat) (e : Ent) (q : Int) (R : List Ent) (r : Ending) (w' : World) : Prop :=
 ∃ F', r = .returned (Ent.mk e.o (mn q e.n)).v ∧ Lvl pr 96 98 w' F' p (nextM e (mn q e.n) R) ∧ Grow w F F' ∧ Keep F w w'
set_option maxRecDepth 100000 in
set_option maxHeartbeats 1600000 in
theorem hit_all (w : World) (F : Nat → Prop) (p : Nat) (e : Ent) (q : Int) (R : List Ent) (h : Lvl pr 96 98 w F p (e :: R)) (hX : Good (e :: R)) (hq : 0 < q) (hc : e.o.qty - mn q e.n = 0) : Calls Try.prog 96 #[.pointer (some ⟨p, 0, none⟩), .int .i64 q] w (HitIn pr w F p e q R) := by
 have hb := hX.bound (e := e) (by simp)
 have hlen : R.length ≤ 100000000 := by have := hX.len; simp at this; omega
 have hm1 := mn_le q e.n
 have hm2 := mn_pos q e.n hq (by omega)
 have HHI : Hid (∀ r w', (∃ F', r = .returned (Ent.mk e.o (mn q e.n)).v ∧ Lvl pr 96 98 w' F' p (nextM e (mn q e.n) R) ∧ Grow w F F' ∧ Keep F w w') → HitIn pr w F p e q R r w') := fun r w' h => h
 obtain ⟨n, hn⟩ : ∃ n, mn q e.n = n := ⟨_, rfl⟩
 rw [hn] at hm1 hm2 HHI hc
 have HN : Hid ((if e.n < q then e.n else q) = n) := hn
 clear hn hX
 obtain ⟨h1, h2, v, hB, hS, h5⟩ := h
 obtain ⟨g, off, c, rfl⟩ := hS.some_ (by simp)
 have HR : Hid (w.rangeAt g off e.cells) := hS.rng 0 e rfl
 have HB := Lib.hid hB
 have HS := Lib.hid hS
 have H1 := Lib.hid h1
 have H2 := Lib.hid h2
 have H5 := Lib.hid h5
 have hgp : g ≠ p := (h5 g rfl).2
 have hgF : Hid (F g) := (h5 g rfl).1
 have hgl : g < w.heap.size := h2 g hgF.out
 have hpl : p < w.heap.size := h2 p h1
 clear hB hS h5 h1 h2
 go_enter Try.func96, Try.ntmps96
 go_upto_region 0 with fail
 refine wp_text 1 [.fresh w.heap.size 26 zeroE.cells] rfl (by kernel_rfl) ?_ ?_
 ·refine nW 1 rfl (fun a u E D hk=>⟨_, _, exec_alc 26 zeroE.cells rfl zH, ⟨_, rfl, hk.size, Blk.new u _ _⟩, ((Keep.refl _ u).alloc _)⟩) ?_
  exact fz
 intro gv w0 hV k0
 rw [dq 1 [4]]
 simp only [Fz7]
 have hv4 : (.fresh w.heap.size 26 zeroE.cells : Kn).p (gv 4) w0 := hV 0 4 (by kernel_rfl)
 generalize gv 4 = v4 at hv4 ⊢
 clear hV
 obtain ⟨r, rfl, hr, hRB⟩ := hv4
 refine wpList_nil ?_
 have s0 := k0.size
 have hrl := hRB.lt
 have HB0 := Lib.hid (HB.out.kept k0)
 go_upto_region 1 with fail
 refine wE 6 [pV p 0, pV p 0, pV p 1, .slice (some ⟨g, off, none⟩) (R.length + 1) c, pV g off, pV g off] [7,8,9,10,11,5] ?_ ?_
 ·refine mE 1 0 ?_
  refine nD 2 7 0 ?_
  refine fD 3 8 1 96 1 1 0 ?_
  refine sW 4 rfl (fun a u E D hk=>exec_ldv _ _ Try.underlying94 _ _ _ rfl (dD D 2) (by rw [(HB0.out.kept hk).cell]; rfl)) ?_
  refine sW 5 rfl (fun a u E D hk=>exec_ixo slE _ _ (g) (off) (R.length + 1) c 0 (off) (0) rfl (dD D 3) rfl (by first | rfl | omega) ((by omega)) (by first | rfl | omega)) ?_
  refine mD 6 11 4 ?_
  exact fz
 intro w1 k1
 simp only [F8]
 have kw1 := k0.trans k1
 have s1 := k1.size
 have HR1 := Lib.hid (range_kept HR.out kw1)
 have HRB := Lib.hid (hRB.kept k1)
 clear HR HB0 hRB k0 k1
 go_upto_region 2 with fail
 refine wp_free 12 [pE g off, pE g off, pE g off, .eq (e.o.v), iE q, pE g off, pE g off, pE g (off + 9), iE e.n, iE n, .eq ((Ent.mk e.o (n)).v), .fresh w1.heap.size 26 zeroE.cells] (by kernel_rfl) rfl (by kernel_rfl) ?_ ?_
 ·refine mE 1 5 ?_
  refine nD 2 12 0 ?_
  refine fD 3 13 1 98 0 0 off ?_
  refine sD 4 14 2 e.o.cells Try.underlying24 (fun u hk=>ent_ord (range_kept HR1.out hk)) (by rw [e.o.len9]; exact ord_size) ?_
  refine mE 5 1 ?_
  refine mE 6 5 ?_
  refine nD 7 17 5 ?_
  refine fD 8 18 6 98 1 9 off ?_
  refine lD 9 19 7 Try.underlying3 (fun u hk=>range_int (range_kept HR1.out hk) 9 _ rfl) ?_
  refine sW 10 rfl (fun a u E D hk=>exec_min _ _ _ q e.n n rfl (dD D 4) (dD D 8) HN.out) ?_
  refine sW 11 rfl (fun a u E D hk=>exec_bent 26 builtH _ _ (e.o) (n) rfl (dD D 3) (dD D 9)) ?_
  refine nW 12 rfl (fun a u E D hk=>⟨_, _, exec_alc 26 zeroE.cells rfl zH, ⟨_, rfl, hk.size, Blk.new u _ _⟩, ((Keep.refl _ u).alloc _)⟩) ?_
  exact fz
 intro gv w2 hV k2
 rw [dq 12 [12,13,14,15,16,17,18,19,20,21,22,6]]
 simp only [Fz7]
 have hv6 : (.fresh w1.heap.size 26 zeroE.cells : Kn).p (gv 6) w2 := hV 11 6 (by kernel_rfl)
 generalize gv 6 = v6 at hv6 ⊢
 rw [gQ hV 10 22 ((Ent.mk e.o (n)).v)]
 clear hV
 obtain ⟨h6, rfl, hh6, hB6⟩ := hv6
 refine l_setS 26 h6 26 zeroE.cells (Ent.mk e.o n).cells _ _ rfl rfl (by kernel_rfl) (by kernel_rfl) hB6 (by rw [Ent.len10]; exact szH) (by rw [Ent.len10, Ent.len10]) (Ent.one _) ?_
 intro w3 hB7 hk3 hs3
 simp only [Act.put]
 refine wpList_nil ?_
 have kw3 : Kept w w3 := (kw1.trans k2).trans' hk3 (by omega)
 have s3 := kw3.size
 have h6l := hB7.lt
 have s2 := k2.size
 have HR3 := Lib.hid (range_keep (range_kept HR1.out k2) hk3 (by omega))
 have HRB3 := Lib.hid ((HRB.out.kept k2).keep hk3 (by omega))
 have HH3 := Lib.hid hB7
 have HHR := Lib.hid (blk_range hB7)
 have HS3 := Lib.hid (HS.out.kept kw3)
 have HB3 := Lib.hid (HB.out.kept kw3)
 clear HR1 HRB HS HB hB6 hB7 hk3 k2 hs3
 clear kw1
 go_upto_region 3 with fail
 refine wGp 11 [pV g off, pV g off, pV g off, pV g (off + 6), iV e.o.qty, pV h6 9, iV ((Ent.mk e.o n).n), iV (e.o.qty - n), pV g off, pV g off, pV g (off + 6)] [23,24,25,26,27,28,29,30,31,32,33] ?_ ?_
 ·refine mE 1 5 ?_
  refine nD 2 23 0 ?_
  refine fD 3 24 1 98 0 0 off ?_
  refine fD 4 25 2 24 6 6 off ?_
  refine lD 5 26 3 Try.underlying3 (fun u hk=>range_int (range_kept HR3.out hk) 6 _ rfl) ?_
  refine fE 6 6 26 1 9 0 ?_
  refine lD 7 28 5 Try.underlying3 (fun u hk=>range_int (range_kept HHR.out hk) 9 _ rfl) ?_
  refine sW 8 rfl (fun a u E D hk=>exec_subn (e.o.qty - n) rfl (dD D 4) (dD D 6) rfl (by omega) (by omega)) ?_
  refine nD 9 23 0 ?_
  refine fD 10 31 8 98 0 0 off ?_
  refine fD 11 32 9 24 6 6 off ?_
  exact fz
 intro w4 k4
 simp only [F8]
 refine l_rowi 98 g off (R.length + 1) c 0 6 (e :: R) e ⟨e.o.q (e.o.qty - n), e.n⟩ (e.o.qty - n) ⟨g, off + 6, none⟩ _ _ rfl rfl (by kernel_rfl) (by kernel_rfl) rfl (HS3.out.kept k4) rfl rfl (by omega) rfl ?_
 intro w5 hS5 hk5 hs5
 simp only [Act.put]
 refine wpList_nil ?_
 have s4 := k4.size
 have K5 : Keep (· = g) w3 w5 := (Keep.mono (T := (· = g)) k4 (fun _ _ h => h.elim)).trans hk5 (fun _ _ h => h)
 have HS5 : Hid (Sl w5 98 10 (.slice (some ⟨g, off, none⟩) (R.length + 1) c) (R.length + 1) (ents (⟨e.o.q (e.o.qty - n), e.n⟩ :: R))) := hS5
 have HR5 : Hid (w5.rangeAt g off (Ent.mk (e.o.q (e.o.qty - n)) e.n).cells) := HS5.out.rng 0 _ rfl
 have HHR5 := Lib.hid (range_keep HHR.out K5 (by omega))
 clear hS5 hk5 k4 HR3
 go_upto_region 4 with fail
 refine wGp 9 [pV g off, pV g off, pV g (off + 9), iV ((Ent.mk (e.o.q (e.o.qty - n)) e.n).n), pV h6 9, iV ((Ent.mk e.o n).n), iV (e.n - n), pV g off, pV g (off + 9)] [34,35,36,37,38,39,40,41,42] ?_ ?_
 ·refine mE 1 5 ?_
  refine nD 2 34 0 ?_
  refine fD 3 35 1 98 1 9 off ?_
  refine lD 4 36 2 Try.underlying3 (fun u hk=>range_int (range_kept HR5.out hk) 9 _ rfl) ?_
  refine fE 5 6 26 1 9 0 ?_
  refine lD 6 38 4 Try.underlying3 (fun u hk=>range_int (range_kept HHR5.out hk) 9 _ rfl) ?_
  refine sW 7 rfl (fun a u E D hk=>exec_subn (e.n - n) rfl (dD D 3) (dD D 5) rfl (by omega) (by omega)) ?_
  refine nD 8 34 0 ?_
  refine fD 9 41 7 98 1 9 off ?_
  exact fz
 intro w6 k6
 simp only [F8]
 refine l_rowi 98 g off (R.length + 1) c 0 9 (⟨e.o.q (e.o.qty - n), e.n⟩ :: R) ⟨e.o.q (e.o.qty - n), e.n⟩ (e.sub n) (e.n - n) ⟨g, off + 9, none⟩ _ _ rfl rfl (by kernel_rfl) (by kernel_rfl) rfl (HS5.out.kept k6) rfl rfl (by omega) rfl ?_
 intro w7 hS7 hk7 hs7
 simp only [Act.put]
 refine wpList_nil ?_
 have s6 := k6.size
 have K7 : Keep (· = g) w3 w7 := (K5.kept k6).trans hk7 (fun _ _ h => h)
 have HS7 : Hid (Sl w7 98 10 (.slice (some ⟨g, off, none⟩) (R.length + 1) c) (R.length + 1) (ents (e.sub n :: R))) := hS7
 have HR7 : Hid (w7.rangeAt g off (e.sub n).cells) := HS7.out.rng 0 _ rfl
 have HL7 : Hid (Lvl pr 96 98 w7 F p (e.sub n :: R)) := ⟨H1.out, fun b hb => by have := H2.out b hb; omega, _, HB3.out.keep K7 (fun e => hgp e.symm), HS7.out, H5.out⟩
 have HH7 := Lib.hid (HH3.out.keep K7 (by omega))
 have HRB7 := Lib.hid (HRB3.out.keep K7 (by omega))
 have KF7 : Keep F w w7 := (Keep.mono (T := F) kw3 (fun _ _ h => h.elim)).trans K7 (fun b _ hb => by subst hb; exact hgF.out)
 clear hS7 hk7 k6 K5 HS5 HR5 HHR5 HHR HS3 HB3 HH3 HRB3 K7 HS7 kw3 HN
 go_upto_region 5 with fail
 refine wE 6 [pV g off, pV g off, pV g off, pV g (off + 6), iV ((e.sub n).o.qty), bV true] [43,44,45,46,47,48] ?_ ?_
 ·refine mE 1 5 ?_
  refine nD 2 43 0 ?_
  refine fD 3 44 1 98 0 0 off ?_
  refine fD 4 45 2 24 6 6 off ?_
  refine lD 5 46 3 Try.underlying3 (fun u hk=>range_int (range_kept HR7.out hk) 6 _ rfl) ?_
  refine aS 6 rfl (fun a u E D hk=>exec_eqn rfl (dD D 4) rfl) (decide_eq_true hc) ?_
  exact fz
 intro w8 k8
 simp only [F8]
 have s8 := k8.size
 have HR8 := Lib.hid (range_kept HR7.out k8)
 have HL8 := Lib.hid (HL7.out.kept k8)
 have HH8 := Lib.hid (HH7.out.kept k8)
 have HRB8 := Lib.hid (HRB7.out.kept k8)
 have KF8 := KF7.kept k8
 clear HR7 HL7 HH7 HRB7 KF7 k8
 have HL9 := HL8
 have HH9 := HH8
 have HRB9 := HRB8
 have KF9 := KF8
 obtain ⟨w9, hw9⟩ : ∃ w9, w9 = w8 := ⟨_, rfl⟩
 subst hw9
 have s9 : w9.heap.size ≤ w9.heap.size := Nat.le_refl _
 clear HR8 HL8 HH8 HRB8 KF8
 go_upto_region 6 with fail
 refine wp_region_lit ?_
 refine l_val (.pointer (some ⟨p, 0, none⟩)) rfl (exec_move _ _ rfl (by kernel_rfl)) ?_
 simp only [Act.put, sA, sS, sZ]
 refine l_call 105 #[.pointer (some ⟨p, 0, none⟩)] rfl (exec_call 105 _ [.tmp 49] _ _ Try.func105 (by kernel_rfl) (by kernel_rfl) rfl (by kernel_rfl) _) ?_
 refine (drop_any w9 F p (e.sub n) R HL9.out).mono ?_
 rintro r0 w10 ⟨rfl, hL10, hk10⟩
 refine ⟨_, rfl, ?_⟩
 simp only [Act.put, sA, sS, sZ]
 refine wpList_nil ?_
 have hG10 : Grow w9 F F := Grow.refl _ _
 have hrF : ¬ F r := fun hb => by have := H2.out r hb; omega
 have hhF : ¬ F h6 := fun hb => by have := H2.out h6 hb; omega
 have s10 := hk10.size
 have HH10 := Lib.hid (blk_range (HH9.out.keep hk10 hhF))
 have HRB10 := Lib.hid (HRB9.out.keep hk10 hrF)
 have KF10 : Keep F w w10 := KF9.trans hk10 (fun _ _ h => h)
 have HL10 := Lib.hid hL10
 have HG10 := Lib.hid hG10
 clear hL10 HH9 HRB9 KF9 HL9 hG10
 go_upto_region 9 with fail
 refine wEp 1 [(Ent.mk e.o n).v] [58] ?_ ?_
 ·refine sE 1 6 h6 0 ((Ent.mk e.o n).cells) Try.underlying26 (fun u hk=>range_kept HH10.out hk) (by rw [(Ent.mk e.o n).len10]; exact szH) ?_
  exact fz
 intro w11 k11
 simp only [F8]
 refine l_setS 26 r 26 zeroE.cells (Ent.mk e.o n).cells _ _ rfl rfl (by kernel_rfl) (by kernel_rfl) (HRB10.out.kept k11) (by rw [Ent.len10]; exact szH) (by rw [Ent.len10, Ent.len10]) (Ent.one _) ?_
 intro w12 hB12 hk12 hs12
 simp only [Act.put]
 refine wpList_nil ?_
 go_wp2
 refine bodyPost_ret (results_cell (p := 4) rfl _ _ r _ (Ent.mk e.o n).cells rfl hB12 Try.underlying26 (by rw [Ent.len10]; exact szH)) rfl ?_
 refine HHI.out _ _ ⟨F, rfl, ?_, fun b hb => (HG10.out b hb).imp id (fun h => by omega), (KF10.kept k11).trans hk12 (fun b hb e => by subst e; omega)⟩
 have hrF : ¬ F r := fun hb => by
  rcases HG10.out r hb with h | h
  ·exact hrF h
  ·omega
 have hL := (HL10.out.kept k11).keep hk12 (fun b hb e => hrF (by rw [← e]; exact hb))
 rw [show nextM e n R = R by unfold nextM; rw [if_pos hc]]
 exact hL
set_option maxRecDepth 100000 in
set_option maxHeartbeats 1600000 in
theorem hit_anew (w : World) (F : Nat → Prop) (p : Nat) (e : Ent) (q : Int) (R : List Ent) (h : Lvl pr 96 98 w F p (e :: R)) (hX : Good (e :: R)) (hq : 0 < q) (hc : e.o.qty - mn q e.n ≠ 0) (hd : e.n - mn q e.n = 0) : Calls Try.prog 96 #[.pointer (some ⟨p, 0, none⟩), .int .i64 q] w (HitIn pr w F p e q R) := by
 have hb := hX.bound (e := e) (by simp)
 have hlen : R.length ≤ 100000000 := by have := hX.len; simp at this; omega
 have hm1 := mn_le q e.n
 have hm2 := mn_pos q e.n hq (by omega)
 have HHI : Hid (∀ r w', (∃ F', r = .returned (Ent.mk e.o (mn q e.n)).v ∧ Lvl pr 96 98 w' F' p (nextM e (mn q e.n) R) ∧ Grow w F F' ∧ Keep F w w') → HitIn pr w F p e q R r w') := fun r w' h => h
 obtain ⟨n, hn⟩ : ∃ n, mn q e.n = n := ⟨_, rfl⟩
 rw [hn] at hm1 hm2 HHI hc hd
 have HN : Hid ((if e.n < q then e.n else q) = n) := hn
 clear hn hX
 obtain ⟨h1, h2, v, hB, hS, h5⟩ := h
 obtain ⟨g, off, c, rfl⟩ := hS.some_ (by simp)
 have HR : Hid (w.rangeAt g off e.cells) := hS.rng 0 e rfl
 have HB := Lib.hid hB
 have HS := Lib.hid hS
 have H1 := Lib.hid h1
 have H2 := Lib.hid h2
 have H5 := Lib.hid h5
 have hgp : g ≠ p := (h5 g rfl).2
 have hgF : Hid (F g) := (h5 g rfl).1
 have hgl : g < w.heap.size := h2 g hgF.out
 have hpl : p < w.heap.size := h2 p h1
 clear hB hS h5 h1 h2
 go_enter Try.func96, Try.ntmps96
 go_upto_region 0 with fail
 refine wp_text 1 [.fresh w.heap.size 26 zeroE.cells] rfl (by kernel_rfl) ?_ ?_
 ·refine nW 1 rfl (fun a u E D hk=>⟨_, _, exec_alc 26 zeroE.cells rfl zH, ⟨_, rfl, hk.size, Blk.new u _ _⟩, ((Keep.refl _ u).alloc _)⟩) ?_
  exact fz
 intro gv w0 hV k0
 rw [dq 1 [4]]
 simp only [Fz7]
 have hv4 : (.fresh w.heap.size 26 zeroE.cells : Kn).p (gv 4) w0 := hV 0 4 (by kernel_rfl)
 generalize gv 4 = v4 at hv4 ⊢
 clear hV
 obtain ⟨r, rfl, hr, hRB⟩ := hv4
 refine wpList_nil ?_
 have s0 := k0.size
 have hrl := hRB.lt
 have HB0 := Lib.hid (HB.out.kept k0)
 go_upto_region 1 with fail
 refine wE 6 [pV p 0, pV p 0, pV p 1, .slice (some ⟨g, off, none⟩) (R.length + 1) c, pV g off, pV g off] [7,8,9,10,11,5] ?_ ?_
 ·refine mE 1 0 ?_
  refine nD 2 7 0 ?_
  refine fD 3 8 1 96 1 1 0 ?_
  refine sW 4 rfl (fun a u E D hk=>exec_ldv _ _ Try.underlying94 _ _ _ rfl (dD D 2) (by rw [(HB0.out.kept hk).cell]; rfl)) ?_
  refine sW 5 rfl (fun a u E D hk=>exec_ixo slE _ _ (g) (off) (R.length + 1) c 0 (off) (0) rfl (dD D 3) rfl (by first | rfl | omega) ((by omega)) (by first | rfl | omega)) ?_
  refine mD 6 11 4 ?_
  exact fz
 intro w1 k1
 simp only [F8]
 have kw1 := k0.trans k1
 have s1 := k1.size
 have HR1 := Lib.hid (range_kept HR.out kw1)
 have HRB := Lib.hid (hRB.kept k1)
 clear HR HB0 hRB k0 k1
 go_upto_region 2 with fail
 refine wp_free 12 [pE g off, pE g off, pE g off, .eq (e.o.v), iE q, pE g off, pE g off, pE g (off + 9), iE e.n, iE n, .eq ((Ent.mk e.o (n)).v), .fresh w1.heap.size 26 zeroE.cells] (by kernel_rfl) rfl (by kernel_rfl) ?_ ?_
 ·refine mE 1 5 ?_
  refine nD 2 12 0 ?_
  refine fD 3 13 1 98 0 0 off ?_
  refine sD 4 14 2 e.o.cells Try.underlying24 (fun u hk=>ent_ord (range_kept HR1.out hk)) (by rw [e.o.len9]; exact ord_size) ?_
  refine mE 5 1 ?_
  refine mE 6 5 ?_
  refine nD 7 17 5 ?_
  refine fD 8 18 6 98 1 9 off ?_
  refine lD 9 19 7 Try.underlying3 (fun u hk=>range_int (range_kept HR1.out hk) 9 _ rfl) ?_
  refine sW 10 rfl (fun a u E D hk=>exec_min _ _ _ q e.n n rfl (dD D 4) (dD D 8) HN.out) ?_
  refine sW 11 rfl (fun a u E D hk=>exec_bent 26 builtH _ _ (e.o) (n) rfl (dD D 3) (dD D 9)) ?_
  refine nW 12 rfl (fun a u E D hk=>⟨_, _, exec_alc 26 zeroE.cells rfl zH, ⟨_, rfl, hk.size, Blk.new u _ _⟩, ((Keep.refl _ u).alloc _)⟩) ?_
  exact fz
 intro gv w2 hV k2
 rw [dq 12 [12,13,14,15,16,17,18,19,20,21,22,6]]
 simp only [Fz7]
 have hv6 : (.fresh w1.heap.size 26 zeroE.cells : Kn).p (gv 6) w2 := hV 11 6 (by kernel_rfl)
 generalize gv 6 = v6 at hv6 ⊢
 rw [gQ hV 10 22 ((Ent.mk e.o (n)).v)]
 clear hV
 obtain ⟨h6, rfl, hh6, hB6⟩ := hv6
 refine l_setS 26 h6 26 zeroE.cells (Ent.mk e.o n).cells _ _ rfl rfl (by kernel_rfl) (by kernel_rfl) hB6 (by rw [Ent.len10]; exact szH) (by rw [Ent.len10, Ent.len10]) (Ent.one _) ?_
 intro w3 hB7 hk3 hs3
 simp only [Act.put]
 refine wpList_nil ?_
 have kw3 : Kept w w3 := (kw1.trans k2).trans' hk3 (by omega)
 have s3 := kw3.size
 have h6l := hB7.lt
 have s2 := k2.size
 have HR3 := Lib.hid (range_keep (range_kept HR1.out k2) hk3 (by omega))
 have HRB3 := Lib.hid ((HRB.out.kept k2).keep hk3 (by omega))
 have HH3 := Lib.hid hB7
 have HHR := Lib.hid (blk_range hB7)
 have HS3 := Lib.hid (HS.out.kept kw3)
 have HB3 := Lib.hid (HB.out.kept kw3)
 clear HR1 HRB HS HB hB6 hB7 hk3 k2 hs3
 clear kw1
 go_upto_region 3 with fail
 refine wGp 11 [pV g off, pV g off, pV g off, pV g (off + 6), iV e.o.qty, pV h6 9, iV ((Ent.mk e.o n).n), iV (e.o.qty - n), pV g off, pV g off, pV g (off + 6)] [23,24,25,26,27,28,29,30,31,32,33] ?_ ?_
 ·refine mE 1 5 ?_
  refine nD 2 23 0 ?_
  refine fD 3 24 1 98 0 0 off ?_
  refine fD 4 25 2 24 6 6 off ?_
  refine lD 5 26 3 Try.underlying3 (fun u hk=>range_int (range_kept HR3.out hk) 6 _ rfl) ?_
  refine fE 6 6 26 1 9 0 ?_
  refine lD 7 28 5 Try.underlying3 (fun u hk=>range_int (range_kept HHR.out hk) 9 _ rfl) ?_
  refine sW 8 rfl (fun a u E D hk=>exec_subn (e.o.qty - n) rfl (dD D 4) (dD D 6) rfl (by omega) (by omega)) ?_
  refine nD 9 23 0 ?_
  refine fD 10 31 8 98 0 0 off ?_
  refine fD 11 32 9 24 6 6 off ?_
  exact fz
 intro w4 k4
 simp only [F8]
 refine l_rowi 98 g off (R.length + 1) c 0 6 (e :: R) e ⟨e.o.q (e.o.qty - n), e.n⟩ (e.o.qty - n) ⟨g, off + 6, none⟩ _ _ rfl rfl (by kernel_rfl) (by kernel_rfl) rfl (HS3.out.kept k4) rfl rfl (by omega) rfl ?_
 intro w5 hS5 hk5 hs5
 simp only [Act.put]
 refine wpList_nil ?_
 have s4 := k4.size
 have K5 : Keep (· = g) w3 w5 := (Keep.mono (T := (· = g)) k4 (fun _ _ h => h.elim)).trans hk5 (fun _ _ h => h)
 have HS5 : Hid (Sl w5 98 10 (.slice (some ⟨g, off, none⟩) (R.length + 1) c) (R.length + 1) (ents (⟨e.o.q (e.o.qty - n), e.n⟩ :: R))) := hS5
 have HR5 : Hid (w5.rangeAt g off (Ent.mk (e.o.q (e.o.qty - n)) e.n).cells) := HS5.out.rng 0 _ rfl
 have HHR5 := Lib.hid (range_keep HHR.out K5 (by omega))
 clear hS5 hk5 k4 HR3
 go_upto_region 4 with fail
 refine wGp 9 [pV g off, pV g off, pV g (off + 9), iV ((Ent.mk (e.o.q (e.o.qty - n)) e.n).n), pV h6 9, iV ((Ent.mk e.o n).n), iV (e.n - n), pV g off, pV g (off + 9)] [34,35,36,37,38,39,40,41,42] ?_ ?_
 ·refine mE 1 5 ?_
  refine nD 2 34 0 ?_
  refine fD 3 35 1 98 1 9 off ?_
  refine lD 4 36 2 Try.underlying3 (fun u hk=>range_int (range_kept HR5.out hk) 9 _ rfl) ?_
  refine fE 5 6 26 1 9 0 ?_
  refine lD 6 38 4 Try.underlying3 (fun u hk=>range_int (range_kept HHR5.out hk) 9 _ rfl) ?_
  refine sW 7 rfl (fun a u E D hk=>exec_subn (e.n - n) rfl (dD D 3) (dD D 5) rfl (by omega) (by omega)) ?_
  refine nD 8 34 0 ?_
  refine fD 9 41 7 98 1 9 off ?_
  exact fz
 intro w6 k6
 simp only [F8]
 refine l_rowi 98 g off (R.length + 1) c 0 9 (⟨e.o.q (e.o.qty - n), e.n⟩ :: R) ⟨e.o.q (e.o.qty - n), e.n⟩ (e.sub n) (e.n - n) ⟨g, off + 9, none⟩ _ _ rfl rfl (by kernel_rfl) (by kernel_rfl) rfl (HS5.out.kept k6) rfl rfl (by omega) rfl ?_
 intro w7 hS7 hk7 hs7
 simp only [Act.put]
 refine wpList_nil ?_
 have s6 := k6.size
 have K7 : Keep (· = g) w3 w7 := (K5.kept k6).trans hk7 (fun _ _ h => h)
 have HS7 : Hid (Sl w7 98 10 (.slice (some ⟨g, off, none⟩) (R.length + 1) c) (R.length + 1) (ents (e.sub n :: R))) := hS7
 have HR7 : Hid (w7.rangeAt g off (e.sub n).cells) := HS7.out.rng 0 _ rfl
 have HL7 : Hid (Lvl pr 96 98 w7 F p (e.sub n :: R)) := ⟨H1.out, fun b hb => by have := H2.out b hb; omega, _, HB3.out.keep K7 (fun e => hgp e.symm), HS7.out, H5.out⟩
 have HH7 := Lib.hid (HH3.out.keep K7 (by omega))
 have HRB7 := Lib.hid (HRB3.out.keep K7 (by omega))
 have KF7 : Keep F w w7 := (Keep.mono (T := F) kw3 (fun _ _ h => h.elim)).trans K7 (fun b _ hb => by subst hb; exact hgF.out)
 clear hS7 hk7 k6 K5 HS5 HR5 HHR5 HHR HS3 HB3 HH3 HRB3 K7 HS7 kw3 HN
 go_upto_region 5 with fail
 refine wE 6 [pV g off, pV g off, pV g off, pV g (off + 6), iV ((e.sub n).o.qty), bV false] [43,44,45,46,47,48] ?_ ?_
 ·refine mE 1 5 ?_
  refine nD 2 43 0 ?_
  refine fD 3 44 1 98 0 0 off ?_
  refine fD 4 45 2 24 6 6 off ?_
  refine lD 5 46 3 Try.underlying3 (fun u hk=>range_int (range_kept HR7.out hk) 6 _ rfl) ?_
  refine aS 6 rfl (fun a u E D hk=>exec_eqn rfl (dD D 4) rfl) (decide_eq_false hc) ?_
  exact fz
 intro w8 k8
 simp only [F8]
 have s8 := k8.size
 have HR8 := Lib.hid (range_kept HR7.out k8)
 have HL8 := Lib.hid (HL7.out.kept k8)
 have HH8 := Lib.hid (HH7.out.kept k8)
 have HRB8 := Lib.hid (HRB7.out.kept k8)
 have KF8 := KF7.kept k8
 clear HR7 HL7 HH7 HRB7 KF7 k8
 go_upto_region 7 with fail
 refine wE 5 [pV g off, pV g off, pV g (off + 9), iV ((e.sub n).n), bV true] [51,52,53,54,55] ?_ ?_
 ·refine mE 1 5 ?_
  refine nD 2 51 0 ?_
  refine fD 3 52 1 98 1 9 off ?_
  refine lD 4 53 2 Try.underlying3 (fun u hk=>range_int (range_kept HR8.out hk) 9 _ rfl) ?_
  refine aS 5 rfl (fun a u E D hk=>exec_eqn rfl (dD D 3) rfl) (decide_eq_true hd) ?_
  exact fz
 intro w9 k9
 simp only [F8]
 have s9 := k9.size
 have HL9 := Lib.hid (HL8.out.kept k9)
 have HH9 := Lib.hid (HH8.out.kept k9)
 have HRB9 := Lib.hid (HRB8.out.kept k9)
 have KF9 := KF8.kept k9
 clear HR8 HL8 HH8 HRB8 KF8 k9
 go_upto_region 8 with fail
 refine wp_region_lit ?_
 refine l_val (.pointer (some ⟨p, 0, none⟩)) rfl (exec_move _ _ rfl (by kernel_rfl)) ?_
 simp only [Act.put, sA, sS, sZ]
 refine l_call 106 #[.pointer (some ⟨p, 0, none⟩)] rfl (exec_call 106 _ [.tmp 56] _ _ Try.func106 (by kernel_rfl) (by kernel_rfl) rfl (by kernel_rfl) _) ?_
 refine (anew_any w9 F p (e.sub n) R HL9.out hlen).mono ?_
 rintro r0 w10 ⟨F', rfl, hL10, hG10, hk10⟩
 refine ⟨_, rfl, ?_⟩
 simp only [Act.put, sA, sS, sZ]
 refine wpList_nil ?_
 have hrF : ¬ F r := fun hb => by have := H2.out r hb; omega
 have hhF : ¬ F h6 := fun hb => by have := H2.out h6 hb; omega
 have s10 := hk10.size
 have HH10 := Lib.hid (blk_range (HH9.out.keep hk10 hhF))
 have HRB10 := Lib.hid (HRB9.out.keep hk10 hrF)
 have KF10 : Keep F w w10 := KF9.trans hk10 (fun _ _ h => h)
 have HL10 := Lib.hid hL10
 have HG10 := Lib.hid hG10
 clear hL10 HH9 HRB9 KF9 HL9 hG10
 go_upto_region 9 with fail
 refine wEp 1 [(Ent.mk e.o n).v] [58] ?_ ?_
 ·refine sE 1 6 h6 0 ((Ent.mk e.o n).cells) Try.underlying26 (fun u hk=>range_kept HH10.out hk) (by rw [(Ent.mk e.o n).len10]; exact szH) ?_
  exact fz
 intro w11 k11
 simp only [F8]
 refine l_setS 26 r 26 zeroE.cells (Ent.mk e.o n).cells _ _ rfl rfl (by kernel_rfl) (by kernel_rfl) (HRB10.out.kept k11) (by rw [Ent.len10]; exact szH) (by rw [Ent.len10, Ent.len10]) (Ent.one _) ?_
 intro w12 hB12 hk12 hs12
 simp only [Act.put]
 refine wpList_nil ?_
 go_wp2
 refine bodyPost_ret (results_cell (p := 4) rfl _ _ r _ (Ent.mk e.o n).cells rfl hB12 Try.underlying26 (by rw [Ent.len10]; exact szH)) rfl ?_
 refine HHI.out _ _ ⟨F', rfl, ?_, fun b hb => (HG10.out b hb).imp id (fun h => by omega), (KF10.kept k11).trans hk12 (fun b hb e => by subst e; omega)⟩
 have hrF' : ¬ F' r := fun hb => by
  rcases HG10.out r hb with h | h
  ·exact hrF h
  ·omega
 have hL := (HL10.out.kept k11).keep hk12 (fun b hb e => hrF' (by rw [← e]; exact hb))
 rw [show nextM e n R = R ++ [Ent.of (e.sub n).o] by unfold nextM; rw [if_neg hc, if_pos hd]]
 exact hL
set_option maxRecDepth 100000 in
set_option maxHeartbeats 1600000 in
theorem hit_part (w : World) (F : Nat → Prop) (p : Nat) (e : Ent) (q : Int) (R : List Ent) (h : Lvl pr 96 98 w F p (e :: R)) (hX : Good (e :: R)) (hq : 0 < q) (hc : e.o.qty - mn q e.n ≠ 0) (hd : e.n - mn q e.n ≠ 0) : Calls Try.prog 96 #[.pointer (some ⟨p, 0, none⟩), .int .i64 q] w (HitIn pr w F p e q R) := by
 have hb := hX.bound (e := e) (by simp)
 have hlen : R.length ≤ 100000000 := by have := hX.len; simp at this; omega
 have hm1 := mn_le q e.n
 have hm2 := mn_pos q e.n hq (by omega)
 have HHI : Hid (∀ r w', (∃ F', r = .returned (Ent.mk e.o (mn q e.n)).v ∧ Lvl pr 96 98 w' F' p (nextM e (mn q e.n) R) ∧ Grow w F F' ∧ Keep F w w') → HitIn pr w F p e q R r w') := fun r w' h => h
 obtain ⟨n, hn⟩ : ∃ n, mn q e.n = n := ⟨_, rfl⟩
 rw [hn] at hm1 hm2 HHI hc hd
 have HN : Hid ((if e.n < q then e.n else q) = n) := hn
 clear hn hX
 obtain ⟨h1, h2, v, hB, hS, h5⟩ := h
 obtain ⟨g, off, c, rfl⟩ := hS.some_ (by simp)
 have HR : Hid (w.rangeAt g off e.cells) := hS.rng 0 e rfl
 have HB := Lib.hid hB
 have HS := Lib.hid hS
 have H1 := Lib.hid h1
 have H2 := Lib.hid h2
 have H5 := Lib.hid h5
 have hgp : g ≠ p := (h5 g rfl).2
 have hgF : Hid (F g) := (h5 g rfl).1
 have hgl : g < w.heap.size := h2 g hgF.out
 have hpl : p < w.heap.size := h2 p h1
 clear hB hS h5 h1 h2
 go_enter Try.func96, Try.ntmps96
 go_upto_region 0 with fail
 refine wp_text 1 [.fresh w.heap.size 26 zeroE.cells] rfl (by kernel_rfl) ?_ ?_
 ·refine nW 1 rfl (fun a u E D hk=>⟨_, _, exec_alc 26 zeroE.cells rfl zH, ⟨_, rfl, hk.size, Blk.new u _ _⟩, ((Keep.refl _ u).alloc _)⟩) ?_
  exact fz
 intro gv w0 hV k0
 rw [dq 1 [4]]
 simp only [Fz7]
 have hv4 : (.fresh w.heap.size 26 zeroE.cells : Kn).p (gv 4) w0 := hV 0 4 (by kernel_rfl)
 generalize gv 4 = v4 at hv4 ⊢
 clear hV
 obtain ⟨r, rfl, hr, hRB⟩ := hv4
 refine wpList_nil ?_
 have s0 := k0.size
 have hrl := hRB.lt
 have HB0 := Lib.hid (HB.out.kept k0)
 go_upto_region 1 with fail
 refine wE 6 [pV p 0, pV p 0, pV p 1, .slice (some ⟨g, off, none⟩) (R.length + 1) c, pV g off, pV g off] [7,8,9,10,11,5] ?_ ?_
 ·refine mE 1 0 ?_
  refine nD 2 7 0 ?_
  refine fD 3 8 1 96 1 1 0 ?_
  refine sW 4 rfl (fun a u E D hk=>exec_ldv _ _ Try.underlying94 _ _ _ rfl (dD D 2) (by rw [(HB0.out.kept hk).cell]; rfl)) ?_
  refine sW 5 rfl (fun a u E D hk=>exec_ixo slE _ _ (g) (off) (R.length + 1) c 0 (off) (0) rfl (dD D 3) rfl (by first | rfl | omega) ((by omega)) (by first | rfl | omega)) ?_
  refine mD 6 11 4 ?_
  exact fz
 intro w1 k1
 simp only [F8]
 have kw1 := k0.trans k1
 have s1 := k1.size
 have HR1 := Lib.hid (range_kept HR.out kw1)
 have HRB := Lib.hid (hRB.kept k1)
 clear HR HB0 hRB k0 k1
 go_upto_region 2 with fail
 refine wp_free 12 [pE g off, pE g off, pE g off, .eq (e.o.v), iE q, pE g off, pE g off, pE g (off + 9), iE e.n, iE n, .eq ((Ent.mk e.o (n)).v), .fresh w1.heap.size 26 zeroE.cells] (by kernel_rfl) rfl (by kernel_rfl) ?_ ?_
 ·refine mE 1 5 ?_
  refine nD 2 12 0 ?_
  refine fD 3 13 1 98 0 0 off ?_
  refine sD 4 14 2 e.o.cells Try.underlying24 (fun u hk=>ent_ord (range_kept HR1.out hk)) (by rw [e.o.len9]; exact ord_size) ?_
  refine mE 5 1 ?_
  refine mE 6 5 ?_
  refine nD 7 17 5 ?_
  refine fD 8 18 6 98 1 9 off ?_
  refine lD 9 19 7 Try.underlying3 (fun u hk=>range_int (range_kept HR1.out hk) 9 _ rfl) ?_
  refine sW 10 rfl (fun a u E D hk=>exec_min _ _ _ q e.n n rfl (dD D 4) (dD D 8) HN.out) ?_
  refine sW 11 rfl (fun a u E D hk=>exec_bent 26 builtH _ _ (e.o) (n) rfl (dD D 3) (dD D 9)) ?_
  refine nW 12 rfl (fun a u E D hk=>⟨_, _, exec_alc 26 zeroE.cells rfl zH, ⟨_, rfl, hk.size, Blk.new u _ _⟩, ((Keep.refl _ u).alloc _)⟩) ?_
  exact fz
 intro gv w2 hV k2
 rw [dq 12 [12,13,14,15,16,17,18,19,20,21,22,6]]
 simp only [Fz7]
 have hv6 : (.fresh w1.heap.size 26 zeroE.cells : Kn).p (gv 6) w2 := hV 11 6 (by kernel_rfl)
 generalize gv 6 = v6 at hv6 ⊢
 rw [gQ hV 10 22 ((Ent.mk e.o (n)).v)]
 clear hV
 obtain ⟨h6, rfl, hh6, hB6⟩ := hv6
 refine l_setS 26 h6 26 zeroE.cells (Ent.mk e.o n).cells _ _ rfl rfl (by kernel_rfl) (by kernel_rfl) hB6 (by rw [Ent.len10]; exact szH) (by rw [Ent.len10, Ent.len10]) (Ent.one _) ?_
 intro w3 hB7 hk3 hs3
 simp only [Act.put]
 refine wpList_nil ?_
 have kw3 : Kept w w3 := (kw1.trans k2).trans' hk3 (by omega)
 have s3 := kw3.size
 have h6l := hB7.lt
 have s2 := k2.size
 have HR3 := Lib.hid (range_keep (range_kept HR1.out k2) hk3 (by omega))
 have HRB3 := Lib.hid ((HRB.out.kept k2).keep hk3 (by omega))
 have HH3 := Lib.hid hB7
 have HHR := Lib.hid (blk_range hB7)
 have HS3 := Lib.hid (HS.out.kept kw3)
 have HB3 := Lib.hid (HB.out.kept kw3)
 clear HR1 HRB HS HB hB6 hB7 hk3 k2 hs3
 clear kw1
 go_upto_region 3 with fail
 refine wGp 11 [pV g off, pV g off, pV g off, pV g (off + 6), iV e.o.qty, pV h6 9, iV ((Ent.mk e.o n).n), iV (e.o.qty - n), pV g off, pV g off, pV g (off + 6)] [23,24,25,26,27,28,29,30,31,32,33] ?_ ?_
 ·refine mE 1 5 ?_
  refine nD 2 23 0 ?_
  refine fD 3 24 1 98 0 0 off ?_
  refine fD 4 25 2 24 6 6 off ?_
  refine lD 5 26 3 Try.underlying3 (fun u hk=>range_int (range_kept HR3.out hk) 6 _ rfl) ?_
  refine fE 6 6 26 1 9 0 ?_
  refine lD 7 28 5 Try.underlying3 (fun u hk=>range_int (range_kept HHR.out hk) 9 _ rfl) ?_
  refine sW 8 rfl (fun a u E D hk=>exec_subn (e.o.qty - n) rfl (dD D 4) (dD D 6) rfl (by omega) (by omega)) ?_
  refine nD 9 23 0 ?_
  refine fD 10 31 8 98 0 0 off ?_
  refine fD 11 32 9 24 6 6 off ?_
  exact fz
 intro w4 k4
 simp only [F8]
 refine l_rowi 98 g off (R.length + 1) c 0 6 (e :: R) e ⟨e.o.q (e.o.qty - n), e.n⟩ (e.o.qty - n) ⟨g, off + 6, none⟩ _ _ rfl rfl (by kernel_rfl) (by kernel_rfl) rfl (HS3.out.kept k4) rfl rfl (by omega) rfl ?_
 intro w5 hS5 hk5 hs5
 simp only [Act.put]
 refine wpList_nil ?_
 have s4 := k4.size
 have K5 : Keep (· = g) w3 w5 := (Keep.mono (T := (· = g)) k4 (fun _ _ h => h.elim)).trans hk5 (fun _ _ h => h)
 have HS5 : Hid (Sl w5 98 10 (.slice (some ⟨g, off, none⟩) (R.length + 1) c) (R.length + 1) (ents (⟨e.o.q (e.o.qty - n), e.n⟩ :: R))) := hS5
 have HR5 : Hid (w5.rangeAt g off (Ent.mk (e.o.q (e.o.qty - n)) e.n).cells) := HS5.out.rng 0 _ rfl
 have HHR5 := Lib.hid (range_keep HHR.out K5 (by omega))
 clear hS5 hk5 k4 HR3
 go_upto_region 4 with fail
 refine wGp 9 [pV g off, pV g off, pV g (off + 9), iV ((Ent.mk (e.o.q (e.o.qty - n)) e.n).n), pV h6 9, iV ((Ent.mk e.o n).n), iV (e.n - n), pV g off, pV g (off + 9)] [34,35,36,37,38,39,40,41,42] ?_ ?_
 ·refine mE 1 5 ?_
  refine nD 2 34 0 ?_
  refine fD 3 35 1 98 1 9 off ?_
  refine lD 4 36 2 Try.underlying3 (fun u hk=>range_int (range_kept HR5.out hk) 9 _ rfl) ?_
  refine fE 5 6 26 1 9 0 ?_
  refine lD 6 38 4 Try.underlying3 (fun u hk=>range_int (range_kept HHR5.out hk) 9 _ rfl) ?_
  refine sW 7 rfl (fun a u E D hk=>exec_subn (e.n - n) rfl (dD D 3) (dD D 5) rfl (by omega) (by omega)) ?_
  refine nD 8 34 0 ?_
  refine fD 9 41 7 98 1 9 off ?_
  exact fz
 intro w6 k6
 simp only [F8]
 refine l_rowi 98 g off (R.length + 1) c 0 9 (⟨e.o.q (e.o.qty - n), e.n⟩ :: R) ⟨e.o.q (e.o.qty - n), e.n⟩ (e.sub n) (e.n - n) ⟨g, off + 9, none⟩ _ _ rfl rfl (by kernel_rfl) (by kernel_rfl) rfl (HS5.out.kept k6) rfl rfl (by omega) rfl ?_
 intro w7 hS7 hk7 hs7
 simp only [Act.put]
 refine wpList_nil ?_
 have s6 := k6.size
 have K7 : Keep (· = g) w3 w7 := (K5.kept k6).trans hk7 (fun _ _ h => h)
 have HS7 : Hid (Sl w7 98 10 (.slice (some ⟨g, off, none⟩) (R.length + 1) c) (R.length + 1) (ents (e.sub n :: R))) := hS7
 have HR7 : Hid (w7.rangeAt g off (e.sub n).cells) := HS7.out.rng 0 _ rfl
 have HL7 : Hid (Lvl pr 96 98 w7 F p (e.sub n :: R)) := ⟨H1.out, fun b hb => by have := H2.out b hb; omega, _, HB3.out.keep K7 (fun e => hgp e.symm), HS7.out, H5.out⟩
 have HH7 := Lib.hid (HH3.out.keep K7 (by omega))
 have HRB7 := Lib.hid (HRB3.out.keep K7 (by omega))
 have KF7 : Keep F w w7 := (Keep.mono (T := F) kw3 (fun _ _ h => h.elim)).trans K7 (fun b _ hb => by subst hb; exact hgF.out)
 clear hS7 hk7 k6 K5 HS5 HR5 HHR5 HHR HS3 HB3 HH3 HRB3 K7 HS7 kw3 HN
 go_upto_region 5 with fail
 refine wE 6 [pV g off, pV g off, pV g off, pV g (off + 6), iV ((e.sub n).o.qty), bV false] [43,44,45,46,47,48] ?_ ?_
 ·refine mE 1 5 ?_
  refine nD 2 43 0 ?_
  refine fD 3 44 1 98 0 0 off ?_
  refine fD 4 45 2 24 6 6 off ?_
  refine lD 5 46 3 Try.underlying3 (fun u hk=>range_int (range_kept HR7.out hk) 6 _ rfl) ?_
  refine aS 6 rfl (fun a u E D hk=>exec_eqn rfl (dD D 4) rfl) (decide_eq_false hc) ?_
  exact fz
 intro w8 k8
 simp only [F8]
 have s8 := k8.size
 have HR8 := Lib.hid (range_kept HR7.out k8)
 have HL8 := Lib.hid (HL7.out.kept k8)
 have HH8 := Lib.hid (HH7.out.kept k8)
 have HRB8 := Lib.hid (HRB7.out.kept k8)
 have KF8 := KF7.kept k8
 clear HR7 HL7 HH7 HRB7 KF7 k8
 go_upto_region 7 with fail
 refine wE 5 [pV g off, pV g off, pV g (off + 9), iV ((e.sub n).n), bV false] [51,52,53,54,55] ?_ ?_
 ·refine mE 1 5 ?_
  refine nD 2 51 0 ?_
  refine fD 3 52 1 98 1 9 off ?_
  refine lD 4 53 2 Try.underlying3 (fun u hk=>range_int (range_kept HR8.out hk) 9 _ rfl) ?_
  refine aS 5 rfl (fun a u E D hk=>exec_eqn rfl (dD D 3) rfl) (decide_eq_false hd) ?_
  exact fz
 intro w9 k9
 simp only [F8]
 have s9 := k9.size
 have HL9 := Lib.hid (HL8.out.kept k9)
 have HH9 := Lib.hid (HH8.out.kept k9)
 have HRB9 := Lib.hid (HRB8.out.kept k9)
 have KF9 := KF8.kept k9
 clear HR8 HL8 HH8 HRB8 KF8 k9
 obtain ⟨w10, hw10⟩ : ∃ w10, w10 = w9 := ⟨_, rfl⟩
 subst hw10
 have hk10 : Keep F w10 w10 := Keep.refl _ _
 have hL10 := HL9.out
 have hG10 : Grow w10 F F := Grow.refl _ _
 have hrF : ¬ F r := fun hb => by have := H2.out r hb; omega
 have hhF : ¬ F h6 := fun hb => by have := H2.out h6 hb; omega
 have s10 := hk10.size
 have HH10 := Lib.hid (blk_range (HH9.out.keep hk10 hhF))
 have HRB10 := Lib.hid (HRB9.out.keep hk10 hrF)
 have KF10 : Keep F w w10 := KF9.trans hk10 (fun _ _ h => h)
 have HL10 := Lib.hid hL10
 have HG10 := Lib.hid hG10
 clear hL10 HH9 HRB9 KF9 HL9 hG10
 go_upto_region 9 with fail
 refine wEp 1 [(Ent.mk e.o n).v] [58] ?_ ?_
 ·refine sE 1 6 h6 0 ((Ent.mk e.o n).cells) Try.underlying26 (fun u hk=>range_kept HH10.out hk) (by rw [(Ent.mk e.o n).len10]; exact szH) ?_
  exact fz
 intro w11 k11
 simp only [F8]
 refine l_setS 26 r 26 zeroE.cells (Ent.mk e.o n).cells _ _ rfl rfl (by kernel_rfl) (by kernel_rfl) (HRB10.out.kept k11) (by rw [Ent.len10]; exact szH) (by rw [Ent.len10, Ent.len10]) (Ent.one _) ?_
 intro w12 hB12 hk12 hs12
 simp only [Act.put]
 refine wpList_nil ?_
 go_wp2
 refine bodyPost_ret (results_cell (p := 4) rfl _ _ r _ (Ent.mk e.o n).cells rfl hB12 Try.underlying26 (by rw [Ent.len10]; exact szH)) rfl ?_
 refine HHI.out _ _ ⟨F, rfl, ?_, fun b hb => (HG10.out b hb).imp id (fun h => by omega), (KF10.kept k11).trans hk12 (fun b hb e => by subst e; omega)⟩
 have hrF : ¬ F r := fun hb => by
  rcases HG10.out r hb with h | h
  ·exact hrF h
  ·omega
 have hL := (HL10.out.kept k11).keep hk12 (fun b hb e => hrF (by rw [← e]; exact hb))
 rw [show nextM e n R = e.sub n :: R by unfold nextM; rw [if_neg hc, if_neg hd]]
 exact hL
theorem hitFirst_any (w : World) (F : Nat → Prop) (p : Nat) (e : Ent) (q : Int) (R : List Ent) (h : Lvl pr 96 98 w F p (e :: R)) (hX : Good (e :: R)) (hq : 0 < q) : Calls Try.prog 96 #[.pointer (some ⟨p, 0, none⟩), .int .i64 q] w (HitIn pr w F p e q R) := by
 by_cases hc : e.o.qty - mn q e.n = 0
 ·exact hit_all w F p e q R h hX hq hc
 ·by_cases hd : e.n - mn q e.n = 0
  ·exact hit_anew w F p e q R h hX hq hc hd
  ·exact hit_part w F p e q R h hX hq hc hd
end Go.Proofs.Ytklohceombpleaa
namespace Go.Proofs.Ytklohceombpleaa
open Go.RowKit
set_option maxRecDepth 100000
set_option maxRecDepth 100000 in
set_option maxHeartbeats 800000 in
theorem sameH_any (va vb : Value) (na nb : Nat) (A B : List Ent) (w : World) (ha : Sl w 26 10 va A.length (ents A)) (hb : Sl w 26 10 vb B.length (ents B)) (hna : A.length ≤ 1000000000) (hnb : B.length ≤ 1000000000) : Gives 9 #[va, vb] w (.eq (.bool (decide (A = B)))) := by
 refine gives_eq ?_
 obtain ⟨n, hn⟩ : ∃ n, A.length = n := ⟨_, rfl⟩
 obtain ⟨m, hm⟩ : ∃ m, B.length = m := ⟨_, rfl⟩
 rw [hn] at ha hna
 rw [hm] at hb hnb
 have HA := Lib.hid ha
 have HB := Lib.hid hb
 have HN := Lib.hid hn
 have HM := Lib.hid hm
 obtain ⟨_, A1, c1, rfl, _⟩ := ha
 obtain ⟨_, A2, c2, rfl, _⟩ := hb
 clear hn hm
 by_cases hnm : n = m
 ·subst hnm
  go_enter Try.func9, Try.ntmps9
  go_wp2_with fail
  go_loopw [5] (fun v wr => ∃ i : Nat, i ≤ n ∧ v = .int .i64 i ∧ Kept w wr ∧ Hid (A.take i = B.take i)) (fun v _ => n - (intOf v).toNat)
  case atStart => exact ⟨0, Nat.zero_le _, rfl, Kept.refl _, rfl⟩
  case round =>
   obtain ⟨i, hi, rfl, hkr, HT⟩ := hrel
   by_cases hlt : i < n
   ·have hia : i < A.length := by rw [HN.out]; omega
    have hib : i < B.length := by rw [HM.out]; omega
    obtain ⟨ea, hea⟩ : ∃ e, A[i]? = some e := ⟨_, List.getElem?_eq_getElem hia⟩
    obtain ⟨eb, heb⟩ : ∃ e, B[i]? = some e := ⟨_, List.getElem?_eq_getElem hib⟩
    obtain ⟨g1, o1, _, e1⟩ := HA.out.some_ (by omega)
    injection e1 with e1 _ e1'
    subst e1 e1'
    obtain ⟨g2, o2, _, e2⟩ := HB.out.some_ (by omega)
    injection e2 with e2 _ e2'
    subst e2 e2'
    have HE1 : Hid (wr.rangeAt g1 (o1 + i * 10) ea.cells) := range_kept (HA.out.rng i ea hea) hkr
    have HE2 : Hid (wr.rangeAt g2 (o2 + i * 10) eb.cells) := range_kept (HB.out.rng i eb heb) hkr
    have HEQ : Hid (A[i]? = B[i]? ↔ ea = eb) := by
     show _ ↔ _
     rw [hea, heb]
     simp
    clear hia hib hea heb
    by_cases hx : ea = eb
    ·skip
     go_upto_region 6 with fail
     refine wGp 8 [.slice (some ⟨g1, o1, none⟩) n c1, iV (i : Int), pV g1 (o1 + i * 10), ea.v, .slice (some ⟨g2, o2, none⟩) n c2, iV (i : Int), pV g2 (o2 + i * 10), eb.v] [17,18,19,20,21,22,23,24] ?_ ?_
     ·refine mE 1 0 ?_
      refine mE 2 5 ?_
      refine sW 3 rfl (fun a u E D hk=>exec_ixo slH _ _ (g1) (o1) n c1 i (o1 + i * 10) ((i : Int)) rfl (dD D 0) (dD D 1) (by first | rfl | omega) (hlt) (by first | rfl | omega)) ?_
      refine sD 4 19 2 ea.cells Try.underlying26 (fun u hk=>range_kept HE1.out hk) (by rw [ea.len10]; exact szH) ?_
      refine mE 5 1 ?_
      refine mE 6 5 ?_
      refine sW 7 rfl (fun a u E D hk=>exec_ixo slH _ _ (g2) (o2) n c2 i (o2 + i * 10) ((i : Int)) rfl (dD D 4) (dD D 5) (by first | rfl | omega) (hlt) (by first | rfl | omega)) ?_
      refine sD 8 23 6 eb.cells Try.underlying26 (fun u hk=>range_kept HE2.out hk) (by rw [eb.len10]; exact szH) ?_
      exact fz
     intro w1 k1
     simp only [F8]
     refine l_val (.bool false) rfl (exec_neHb false (.tmp 20) (.tmp 24) _ ea eb rfl (by kernel_rfl) (by kernel_rfl) (by rw [hx]; simp)) ?_
     simp only [Act.put, sA, sS, sZ]
     refine wpList_nil ?_
     have HT2 := Lib.hid (take_next HT.out (HEQ.out.2 hx))
     have hk3 := hkr.trans k1
     clear hkr hx k1
     go_wp2
     exact ⟨⟨i + 1, by omega, by go_num, hk3, HT2⟩, by simp [intOf]; omega⟩
    ·skip
     go_upto_region 6 with fail
     refine wGp 8 [.slice (some ⟨g1, o1, none⟩) n c1, iV (i : Int), pV g1 (o1 + i * 10), ea.v, .slice (some ⟨g2, o2, none⟩) n c2, iV (i : Int), pV g2 (o2 + i * 10), eb.v] [17,18,19,20,21,22,23,24] ?_ ?_
     ·refine mE 1 0 ?_
      refine mE 2 5 ?_
      refine sW 3 rfl (fun a u E D hk=>exec_ixo slH _ _ (g1) (o1) n c1 i (o1 + i * 10) ((i : Int)) rfl (dD D 0) (dD D 1) (by first | rfl | omega) (hlt) (by first | rfl | omega)) ?_
      refine sD 4 19 2 ea.cells Try.underlying26 (fun u hk=>range_kept HE1.out hk) (by rw [ea.len10]; exact szH) ?_
      refine mE 5 1 ?_
      refine mE 6 5 ?_
      refine sW 7 rfl (fun a u E D hk=>exec_ixo slH _ _ (g2) (o2) n c2 i (o2 + i * 10) ((i : Int)) rfl (dD D 4) (dD D 5) (by first | rfl | omega) (hlt) (by first | rfl | omega)) ?_
      refine sD 8 23 6 eb.cells Try.underlying26 (fun u hk=>range_kept HE2.out hk) (by rw [eb.len10]; exact szH) ?_
      exact fz
     intro w1 k1
     simp only [F8]
     refine l_val (.bool true) rfl (exec_neHb true (.tmp 20) (.tmp 24) _ ea eb rfl (by kernel_rfl) (by kernel_rfl) (by simp [hx])) ?_
     simp only [Act.put, sA, sS, sZ]
     refine wpList_nil ?_
     have HF : Hid (A ≠ B) := fun h => hx (HEQ.out.1 (by rw [h]))
     have hk3 := hkr.trans k1
     clear hkr hx k1
     go_wp2
     go_ret
     exact ⟨ret_bool (decide_eq_false HF.out).symm, hk3⟩
   ·go_wp2
    go_ret
    exact ⟨ret_bool (decide_eq_true (take_whole HT.out (by have := HN.out; omega) (by have := HM.out; omega))).symm, hkr⟩
 ·have hne : ((n : Int) != (m : Int)) = true := by rw [bne_iff_ne]; omega
  have HF : Hid (A ≠ B) := fun h => hnm (by have h1 := HN.out; have h2 := HM.out; rw [h] at h1; omega)
  clear hnm
  go_enter Try.func9, Try.ntmps9
  go_wp2
  go_ret
  exact ⟨ret_bool (decide_eq_false HF.out).symm, Kept.refl _⟩
set_option maxRecDepth 100000 in
set_option maxHeartbeats 800000 in
theorem sameO_any (va vb : Value) (na nb : Nat) (A B : List Ord) (w : World) (ha : Sl w 24 9 va A.length (ords A)) (hb : Sl w 24 9 vb B.length (ords B)) (hna : A.length ≤ 1000000000) (hnb : B.length ≤ 1000000000) : Gives 19 #[va, vb] w (.eq (.bool (decide (A = B)))) := by
 refine gives_eq ?_
 obtain ⟨n, hn⟩ : ∃ n, A.length = n := ⟨_, rfl⟩
 obtain ⟨m, hm⟩ : ∃ m, B.length = m := ⟨_, rfl⟩
 rw [hn] at ha hna
 rw [hm] at hb hnb
 have HA := Lib.hid ha
 have HB := Lib.hid hb
 have HN := Lib.hid hn
 have HM := Lib.hid hm
 obtain ⟨_, A1, c1, rfl, _⟩ := ha
 obtain ⟨_, A2, c2, rfl, _⟩ := hb
 clear hn hm
 by_cases hnm : n = m
 ·subst hnm
  go_enter Try.func19, Try.ntmps19
  go_wp2_with fail
  go_loopw [5] (fun v wr => ∃ i : Nat, i ≤ n ∧ v = .int .i64 i ∧ Kept w wr ∧ Hid (A.take i = B.take i)) (fun v _ => n - (intOf v).toNat)
  case atStart => exact ⟨0, Nat.zero_le _, rfl, Kept.refl _, rfl⟩
  case round =>
   obtain ⟨i, hi, rfl, hkr, HT⟩ := hrel
   by_cases hlt : i < n
   ·have hia : i < A.length := by rw [HN.out]; omega
    have hib : i < B.length := by rw [HM.out]; omega
    obtain ⟨ea, hea⟩ : ∃ e, A[i]? = some e := ⟨_, List.getElem?_eq_getElem hia⟩
    obtain ⟨eb, heb⟩ : ∃ e, B[i]? = some e := ⟨_, List.getElem?_eq_getElem hib⟩
    obtain ⟨g1, o1, _, e1⟩ := HA.out.some_ (by omega)
    injection e1 with e1 _ e1'
    subst e1 e1'
    obtain ⟨g2, o2, _, e2⟩ := HB.out.some_ (by omega)
    injection e2 with e2 _ e2'
    subst e2 e2'
    have HE1 : Hid (wr.rangeAt g1 (o1 + i * 9) ea.cells) := range_kept (HA.out.rngO i ea hea) hkr
    have HE2 : Hid (wr.rangeAt g2 (o2 + i * 9) eb.cells) := range_kept (HB.out.rngO i eb heb) hkr
    have HEQ : Hid (A[i]? = B[i]? ↔ ea = eb) := by
     show _ ↔ _
     rw [hea, heb]
     simp
    clear hia hib hea heb
    by_cases hx : ea = eb
    ·skip
     go_upto_region 6 with fail
     refine wGp 8 [.slice (some ⟨g1, o1, none⟩) n c1, iV (i : Int), pV g1 (o1 + i * 9), ea.v, .slice (some ⟨g2, o2, none⟩) n c2, iV (i : Int), pV g2 (o2 + i * 9), eb.v] [17,18,19,20,21,22,23,24] ?_ ?_
     ·refine mE 1 0 ?_
      refine mE 2 5 ?_
      refine sW 3 rfl (fun a u E D hk=>exec_ixo slO _ _ (g1) (o1) n c1 i (o1 + i * 9) ((i : Int)) rfl (dD D 0) (dD D 1) (by first | rfl | omega) (hlt) (by first | rfl | omega)) ?_
      refine sD 4 19 2 ea.cells Try.underlying24 (fun u hk=>range_kept HE1.out hk) (by rw [ea.len9]; exact ord_size) ?_
      refine mE 5 1 ?_
      refine mE 6 5 ?_
      refine sW 7 rfl (fun a u E D hk=>exec_ixo slO _ _ (g2) (o2) n c2 i (o2 + i * 9) ((i : Int)) rfl (dD D 4) (dD D 5) (by first | rfl | omega) (hlt) (by first | rfl | omega)) ?_
      refine sD 8 23 6 eb.cells Try.underlying24 (fun u hk=>range_kept HE2.out hk) (by rw [eb.len9]; exact ord_size) ?_
      exact fz
     intro w1 k1
     simp only [F8]
     refine l_val (.bool false) rfl (exec_neOb false (.tmp 20) (.tmp 24) _ ea eb rfl (by kernel_rfl) (by kernel_rfl) (by rw [hx]; simp)) ?_
     simp only [Act.put, sA, sS, sZ]
     refine wpList_nil ?_
     have HT2 := Lib.hid (take_next HT.out (HEQ.out.2 hx))
     have hk3 := hkr.trans k1
     clear hkr hx k1
     go_wp2
     exact ⟨⟨i + 1, by omega, by go_num, hk3, HT2⟩, by simp [intOf]; omega⟩
    ·skip
     go_upto_region 6 with fail
     refine wGp 8 [.slice (some ⟨g1, o1, none⟩) n c1, iV (i : Int), pV g1 (o1 + i * 9), ea.v, .slice (some ⟨g2, o2, none⟩) n c2, iV (i : Int), pV g2 (o2 + i * 9), eb.v] [17,18,19,20,21,22,23,24] ?_ ?_
     ·refine mE 1 0 ?_
      refine mE 2 5 ?_
      refine sW 3 rfl (fun a u E D hk=>exec_ixo slO _ _ (g1) (o1) n c1 i (o1 + i * 9) ((i : Int)) rfl (dD D 0) (dD D 1) (by first | rfl | omega) (hlt) (by first | rfl | omega)) ?_
      refine sD 4 19 2 ea.cells Try.underlying24 (fun u hk=>range_kept HE1.out hk) (by rw [ea.len9]; exact ord_size) ?_
      refine mE 5 1 ?_
      refine mE 6 5 ?_
      refine sW 7 rfl (fun a u E D hk=>exec_ixo slO _ _ (g2) (o2) n c2 i (o2 + i * 9) ((i : Int)) rfl (dD D 4) (dD D 5) (by first | rfl | omega) (hlt) (by first | rfl | omega)) ?_
      refine sD 8 23 6 eb.cells Try.underlying24 (fun u hk=>range_kept HE2.out hk) (by rw [eb.len9]; exact ord_size) ?_
      exact fz
     intro w1 k1
     simp only [F8]
     refine l_val (.bool true) rfl (exec_neOb true (.tmp 20) (.tmp 24) _ ea eb rfl (by kernel_rfl) (by kernel_rfl) (by simp [hx])) ?_
     simp only [Act.put, sA, sS, sZ]
     refine wpList_nil ?_
     have HF : Hid (A ≠ B) := fun h => hx (HEQ.out.1 (by rw [h]))
     have hk3 := hkr.trans k1
     clear hkr hx k1
     go_wp2
     go_ret
     exact ⟨ret_bool (decide_eq_false HF.out).symm, hk3⟩
   ·go_wp2
    go_ret
    exact ⟨ret_bool (decide_eq_true (take_whole HT.out (by have := HN.out; omega) (by have := HM.out; omega))).symm, hkr⟩
 ·have hne : ((n : Int) != (m : Int)) = true := by rw [bne_iff_ne]; omega
  have HF : Hid (A ≠ B) := fun h => hnm (by have h1 := HN.out; have h2 := HM.out; rw [h] at h1; omega)
  clear hnm
  go_enter Try.func19, Try.ntmps19
  go_wp2
  go_ret
  exact ⟨ret_bool (decide_eq_false HF.out).symm, Kept.refl _⟩
end Go.Proofs.Ytklohceombpleaa
namespace Go.Proofs.Ytklohceombpleaa
open Go.RowKit
set_option maxRecDepth 100000
variable {pr : Int}
theorem seenM_le {X : List Ent} (h : ∀ e ∈ X, e.ok) (i : Nat) (e : Ent) (he : X[i]? = some e) : 0 ≤ seenM (X.take i) ∧ seenM (X.take i) + e.n = seenM (X.take (i + 1)) ∧ seenM (X.take (i + 1)) ≤ wholeM X ∧ 1 ≤ e.n := by
 have h1 := whole_ge (X := X.take i) (fun x hx => h x (List.mem_of_mem_take hx))
 have h2 := whole_ge (X := X.drop (i + 1)) (fun x hx => h x (List.mem_of_mem_drop hx))
 have h3 := whole_ge (X := X.take (i + 1)) (fun x hx => h x (List.mem_of_mem_take hx))
 have h4 := h e (List.mem_of_getElem? he)
 unfold Ent.ok at h4
 have h5 : wholeM X = wholeM (X.take (i + 1)) + wholeM (X.drop (i + 1)) := by rw [← wholeM_append, List.take_append_drop]
 have h6 : seenM (X.take (i + 1)) = seenM (X.take i) + e.n := by
  rw [List.take_add_one, he, seenM_append]
  simp [seenM, sumI]
 omega
theorem wholeM_le {X : List Ent} (h : ∀ e ∈ X, e.ok) (i : Nat) (e : Ent) (he : X[i]? = some e) : 0 ≤ wholeM (X.take i) ∧ wholeM (X.take i) + e.o.qty = wholeM (X.take (i + 1)) ∧ wholeM (X.take (i + 1)) ≤ wholeM X ∧ 1 ≤ e.o.qty := by
 have h1 := whole_ge (X := X.take i) (fun x hx => h x (List.mem_of_mem_take hx))
 have h2 := whole_ge (X := X.drop (i + 1)) (fun x hx => h x (List.mem_of_mem_drop hx))
 have h3 := whole_ge (X := X.take (i + 1)) (fun x hx => h x (List.mem_of_mem_take hx))
 have h4 := h e (List.mem_of_getElem? he)
 unfold Ent.ok at h4
 have h5 : wholeM X = wholeM (X.take (i + 1)) + wholeM (X.drop (i + 1)) := by rw [← wholeM_append, List.take_append_drop]
 have h6 : wholeM (X.take (i + 1)) = wholeM (X.take i) + e.o.qty := by
  rw [List.take_add_one, he, wholeM_append]
  simp [wholeM, sumI]
 omega
set_option maxRecDepth 100000 in
set_option maxHeartbeats 800000 in
theorem seen_any (w : World) (F : Nat → Prop) (p : Nat) (X : List Ent) (h : Lvl pr 96 98 w F p X) (hX : Good X) : Gives 103 #[.pointer (some ⟨p, 0, none⟩)] w (.eq (.int .i64 (seenM X))) := by
 refine gives_eq ?_
 obtain ⟨h1, h2, v, hB, hS, h5⟩ := h
 have hlen := hX.len
 have HB := Lib.hid hB
 have HS := Lib.hid hS
 have HX := Lib.hid hX
 clear hB hS h5 h1 h2 hX
 obtain ⟨n, hn⟩ : ∃ n, X.length = n := ⟨_, rfl⟩
 rw [hn] at HS hlen
 have HN := Lib.hid hn
 go_enter Try.func103, Try.ntmps103
 go_upto_region 2 with fail
 refine wE 6 [pV p 0, pV p 0, pV p 1, v, iV (n : Int), iV 0] [6,7,8,9,10,11] ?_ ?_
 ·refine mE 1 0 ?_
  refine nD 2 6 0 ?_
  refine fD 3 7 1 96 1 1 0 ?_
  refine sW 4 rfl (fun a u E D hk=>exec_ldv _ _ Try.underlying94 _ _ _ rfl (dD D 2) (by rw [(HB.out.kept hk).cell]; rfl)) ?_
  refine sW 5 rfl (fun a u E D hk=>exec_lenS _ slE _ _ _ _ rfl (dD D 3) HS.out) ?_
  refine sW 6 rfl (fun a u E D hk=>exec_move _ _ rfl rfl) ?_
  exact fz
 intro w0 k0
 simp only [F8]
 go_wp2_with fail
 go_loopw [3, 11] (fun t q wr => ∃ (i : Nat) (s : Int), i ≤ n ∧ q = .int .i64 i ∧ t = .int .i64 s ∧ Hid (s = seenM (X.take i)) ∧ Kept w wr) (fun _ q _ => n - (intOf q).toNat)
 case atStart => exact ⟨0, 0, Nat.zero_le _, rfl, rfl, by show _ = _; rw [List.take_zero]; rfl, k0⟩
 case round =>
  obtain ⟨i, s, hi, rfl, rfl, HSM, hkr⟩ := hrel
  by_cases hlt : i < n
  ·skip
   obtain ⟨g, off, c, rfl⟩ := HS.out.some_ (by omega)
   obtain ⟨e, he⟩ : ∃ e, X[i]? = some e := ⟨X[i]'(by omega), List.getElem?_eq_getElem (by omega)⟩
   have HE : Hid (wr.rangeAt g (off + i * 10) e.cells) := range_kept (HS.out.rng i e he) hkr
   have HEI := Lib.hid he
   clear he
   go_upto_region 4 with fail
   refine wp_text 3 [pE g (off + i * 10), .eq (e.v), .fresh wr.heap.size 98 zeroE.cells] rfl (by kernel_rfl) ?_ ?_
   ·refine sW 1 rfl (fun a u E D hk=>exec_ixo slE _ _ (g) (off) n c i (off + i * 10) ((i : Int)) rfl (eE E) (eE E) (by first | rfl | omega) (hlt) (by first | rfl | omega)) ?_
    refine sD 2 13 0 e.cells Try.underlying98 (fun u hk=>range_kept HE.out hk) (by rw [e.len10]; exact szE) ?_
    refine nW 3 rfl (fun a u E D hk=>⟨_, _, exec_alc 98 zeroE.cells rfl zE, ⟨_, rfl, hk.size, Blk.new u _ _⟩, ((Keep.refl _ u).alloc _)⟩) ?_
    exact fz
   intro gv w1 hV k1
   rw [dq 3 [13,14,5]]
   simp only [Fz7]
   have hv5 : (.fresh wr.heap.size 98 zeroE.cells : Kn).p (gv 5) w1 := hV 2 5 (by kernel_rfl)
   generalize gv 5 = v5 at hv5 ⊢
   rw [gQ hV 1 14 e.v]
   clear hV
   obtain ⟨b5, rfl, hb5, hB5⟩ := hv5
   refine l_setS 98 b5 98 zeroE.cells e.cells _ _ rfl rfl (by kernel_rfl) (by kernel_rfl) hB5 (by rw [Ent.len10]; exact szE) (by rw [Ent.len10, Ent.len10]) (Ent.one _) ?_
   intro w2 hB6 hk2 hs2
   simp only [Act.put]
   refine wpList_nil ?_
   have kw2 : Kept wr w2 := k1.trans' hk2 (by omega)
   have HB6 := Lib.hid (blk_range hB6)
   clear hB5 hB6 hk2 HE k1
   obtain ⟨q1, q2, q3, q4⟩ := seenM_le HX.out.ok i e HEI.out
   have q5 := HX.out.few
   rw [← HSM.out] at q1 q2
   have hr1 : 0 ≤ s := q1
   have hr2 : s + e.n ≤ 100000000 := by omega
   have hr3 : 1 ≤ e.n := q4
   have Q2 := Lib.hid q2
   clear q1 q2 q3 q4 q5 HSM
   go_upto_region 5 with fail
   refine wEp 4 [iV s, pV b5 9, iV e.n, iV ((s : Int) + (e.n : Int))] [15,16,17,18] ?_ ?_
   ·refine mE 1 3 ?_
    refine fE 2 5 98 1 9 0 ?_
    refine lD 3 16 1 Try.underlying3 (fun u hk=>range_int (range_kept HB6.out hk) 9 _ rfl) ?_
    refine sW 4 rfl (fun a u E D hk=>exec_addn (p := (s)) (q := (e.n)) ((s : Int) + (e.n : Int)) rfl (dD D 0) (dD D 2) rfl (by omega) (by omega)) ?_
    exact fz
   intro w3 k3
   simp only [F8]
   refine l_val (.int .i64 ((s : Int) + (e.n : Int))) rfl (exec_assign _ _ rfl (by kernel_rfl)) ?_
   simp only [Act.put, sA, sS, sZ]
   refine wpList_nil ?_
   have kw3 := (hkr.trans kw2).trans k3
   clear hr1 hr2 hr3
   go_wp2
   exact ⟨⟨i + 1, s + e.n, by omega, by go_num, rfl, Q2.out, kw3⟩, by simp [intOf]; omega⟩
  ·have HF : Hid (s = seenM X) := by
    show _ = _
    rw [HSM.out, List.take_of_length_le (by rw [HN.out]; omega)]
   clear HSM
   go_wp2
   go_ret
   exact ⟨by rw [← HF.out]; rfl, hkr⟩
set_option maxRecDepth 100000 in
set_option maxHeartbeats 800000 in
theorem whole_any (w : World) (F : Nat → Prop) (p : Nat) (X : List Ent) (h : Lvl pr 96 98 w F p X) (hX : Good X) : Gives 102 #[.pointer (some ⟨p, 0, none⟩)] w (.eq (.int .i64 (wholeM X))) := by
 refine gives_eq ?_
 obtain ⟨h1, h2, v, hB, hS, h5⟩ := h
 have hlen := hX.len
 have HB := Lib.hid hB
 have HS := Lib.hid hS
 have HX := Lib.hid hX
 clear hB hS h5 h1 h2 hX
 obtain ⟨n, hn⟩ : ∃ n, X.length = n := ⟨_, rfl⟩
 rw [hn] at HS hlen
 have HN := Lib.hid hn
 go_enter Try.func102, Try.ntmps102
 go_upto_region 2 with fail
 refine wE 6 [pV p 0, pV p 0, pV p 1, v, iV (n : Int), iV 0] [6,7,8,9,10,11] ?_ ?_
 ·refine mE 1 0 ?_
  refine nD 2 6 0 ?_
  refine fD 3 7 1 96 1 1 0 ?_
  refine sW 4 rfl (fun a u E D hk=>exec_ldv _ _ Try.underlying94 _ _ _ rfl (dD D 2) (by rw [(HB.out.kept hk).cell]; rfl)) ?_
  refine sW 5 rfl (fun a u E D hk=>exec_lenS _ slE _ _ _ _ rfl (dD D 3) HS.out) ?_
  refine sW 6 rfl (fun a u E D hk=>exec_move _ _ rfl rfl) ?_
  exact fz
 intro w0 k0
 simp only [F8]
 go_wp2_with fail
 go_loopw [3, 11] (fun t q wr => ∃ (i : Nat) (s : Int), i ≤ n ∧ q = .int .i64 i ∧ t = .int .i64 s ∧ Hid (s = wholeM (X.take i)) ∧ Kept w wr) (fun _ q _ => n - (intOf q).toNat)
 case atStart => exact ⟨0, 0, Nat.zero_le _, rfl, rfl, by show _ = _; rw [List.take_zero]; rfl, k0⟩
 case round =>
  obtain ⟨i, s, hi, rfl, rfl, HSM, hkr⟩ := hrel
  by_cases hlt : i < n
  ·skip
   obtain ⟨g, off, c, rfl⟩ := HS.out.some_ (by omega)
   obtain ⟨e, he⟩ : ∃ e, X[i]? = some e := ⟨X[i]'(by omega), List.getElem?_eq_getElem (by omega)⟩
   have HE : Hid (wr.rangeAt g (off + i * 10) e.cells) := range_kept (HS.out.rng i e he) hkr
   have HEI := Lib.hid he
   clear he
   go_upto_region 4 with fail
   refine wp_text 3 [pE g (off + i * 10), .eq (e.v), .fresh wr.heap.size 98 zeroE.cells] rfl (by kernel_rfl) ?_ ?_
   ·refine sW 1 rfl (fun a u E D hk=>exec_ixo slE _ _ (g) (off) n c i (off + i * 10) ((i : Int)) rfl (eE E) (eE E) (by first | rfl | omega) (hlt) (by first | rfl | omega)) ?_
    refine sD 2 13 0 e.cells Try.underlying98 (fun u hk=>range_kept HE.out hk) (by rw [e.len10]; exact szE) ?_
    refine nW 3 rfl (fun a u E D hk=>⟨_, _, exec_alc 98 zeroE.cells rfl zE, ⟨_, rfl, hk.size, Blk.new u _ _⟩, ((Keep.refl _ u).alloc _)⟩) ?_
    exact fz
   intro gv w1 hV k1
   rw [dq 3 [13,14,5]]
   simp only [Fz7]
   have hv5 : (.fresh wr.heap.size 98 zeroE.cells : Kn).p (gv 5) w1 := hV 2 5 (by kernel_rfl)
   generalize gv 5 = v5 at hv5 ⊢
   rw [gQ hV 1 14 e.v]
   clear hV
   obtain ⟨b5, rfl, hb5, hB5⟩ := hv5
   refine l_setS 98 b5 98 zeroE.cells e.cells _ _ rfl rfl (by kernel_rfl) (by kernel_rfl) hB5 (by rw [Ent.len10]; exact szE) (by rw [Ent.len10, Ent.len10]) (Ent.one _) ?_
   intro w2 hB6 hk2 hs2
   simp only [Act.put]
   refine wpList_nil ?_
   have kw2 : Kept wr w2 := k1.trans' hk2 (by omega)
   have HB6 := Lib.hid (blk_range hB6)
   clear hB5 hB6 hk2 HE k1
   obtain ⟨q1, q2, q3, q4⟩ := wholeM_le HX.out.ok i e HEI.out
   have q5 := HX.out.few
   rw [← HSM.out] at q1 q2
   have hr1 : 0 ≤ s := q1
   have hr2 : s + e.o.qty ≤ 100000000 := by omega
   have hr3 : 1 ≤ e.o.qty := q4
   have Q2 := Lib.hid q2
   clear q1 q2 q3 q4 q5 HSM
   go_upto_region 5 with fail
   refine wEp 5 [iV s, pV b5 0, pV b5 6, iV e.o.qty, iV ((s : Int) + (e.o.qty : Int))] [15,16,17,18,19] ?_ ?_
   ·refine mE 1 3 ?_
    refine fE 2 5 98 0 0 0 ?_
    refine fD 3 16 1 24 6 6 0 ?_
    refine lD 4 17 2 Try.underlying3 (fun u hk=>range_int (range_kept HB6.out hk) 6 _ rfl) ?_
    refine sW 5 rfl (fun a u E D hk=>exec_addn (p := (s)) (q := (e.o.qty)) ((s : Int) + (e.o.qty : Int)) rfl (dD D 0) (dD D 3) rfl (by omega) (by omega)) ?_
    exact fz
   intro w3 k3
   simp only [F8]
   refine l_val (.int .i64 ((s : Int) + (e.o.qty : Int))) rfl (exec_assign _ _ rfl (by kernel_rfl)) ?_
   simp only [Act.put, sA, sS, sZ]
   refine wpList_nil ?_
   have kw3 := (hkr.trans kw2).trans k3
   clear hr1 hr2 hr3
   go_wp2
   exact ⟨⟨i + 1, s + e.o.qty, by omega, by go_num, rfl, Q2.out, kw3⟩, by simp [intOf]; omega⟩
  ·have HF : Hid (s = wholeM X) := by
    show _ = _
    rw [HSM.out, List.take_of_length_le (by rw [HN.out]; omega)]
   clear HSM
   go_wp2
   go_ret
   exact ⟨by rw [← HF.out]; rfl, hkr⟩
set_option maxRecDepth 100000 in
set_option maxHeartbeats 800000 in
theorem orders_any (w : World) (F : Nat → Prop) (p : Nat) (X : List Ent) (h : Lvl pr 96 98 w F p X) (hX : Good X) : Gives 54 #[.pointer (some ⟨p, 0, none⟩)] w (.sl w.heap.size 24 9 X.length (ords (X.map (·.o)))) := by
 obtain ⟨h1, h2, v, hB, hS, h5⟩ := h
 have hlen := hX.len
 have HB := Lib.hid hB
 have HS := Lib.hid hS
 have HX := Lib.hid hX
 clear hB hS h5 h1 h2 hX
 obtain ⟨n, hn⟩ : ∃ n, X.length = n := ⟨_, rfl⟩
 rw [hn] at HS hlen
 have HN := Lib.hid hn
 go_enter Try.func54, Try.ntmps54
 go_upto_region 2 with fail
 refine wE 6 [pV p 0, pV p 0, pV p 1, v, iV (n : Int), iV 0] [6,7,8,9,10,11] ?_ ?_
 ·refine mE 1 0 ?_
  refine nD 2 6 0 ?_
  refine fD 3 7 1 96 1 1 0 ?_
  refine sW 4 rfl (fun a u E D hk=>exec_ldv _ _ Try.underlying94 _ _ _ rfl (dD D 2) (by rw [(HB.out.kept hk).cell]; rfl)) ?_
  refine sW 5 rfl (fun a u E D hk=>exec_lenS _ slE _ _ _ _ rfl (dD D 3) HS.out) ?_
  refine sW 6 rfl (fun a u E D hk=>exec_move _ _ rfl rfl) ?_
  exact fz
 intro w0 k0
 simp only [F8]
 go_wp2_with fail
 go_loopw [3, 11] (fun t q wr => ∃ (i : Nat), i ≤ n ∧ q = .int .i64 i ∧ Hid ((Kn.sl w.heap.size 24 9 i (ords ((X.take i).map (·.o)))).p t wr) ∧ Kept w wr) (fun _ q _ => n - (intOf q).toNat)
 case atStart => exact ⟨0, Nat.zero_le _, rfl, ⟨by rw [List.take_zero]; exact Sl.nil _ _ _, fun b hb => by simp [Value.ownBlock] at hb⟩, k0⟩
 case round =>
  obtain ⟨i, hi, rfl, HV, hkr⟩ := hrel
  by_cases hlt : i < n
  ·skip
   obtain ⟨g, off, c, rfl⟩ := HS.out.some_ (by omega)
   obtain ⟨e, he⟩ : ∃ e, X[i]? = some e := ⟨X[i]'(by omega), List.getElem?_eq_getElem (by omega)⟩
   have HE : Hid (wr.rangeAt g (off + i * 10) e.cells) := range_kept (HS.out.rng i e he) hkr
   have HEI := Lib.hid he
   clear he
   go_upto_region 4 with fail
   refine wp_text 3 [pE g (off + i * 10), .eq (e.v), .fresh wr.heap.size 98 zeroE.cells] rfl (by kernel_rfl) ?_ ?_
   ·refine sW 1 rfl (fun a u E D hk=>exec_ixo slE _ _ (g) (off) n c i (off + i * 10) ((i : Int)) rfl (eE E) (eE E) (by first | rfl | omega) (hlt) (by first | rfl | omega)) ?_
    refine sD 2 13 0 e.cells Try.underlying98 (fun u hk=>range_kept HE.out hk) (by rw [e.len10]; exact szE) ?_
    refine nW 3 rfl (fun a u E D hk=>⟨_, _, exec_alc 98 zeroE.cells rfl zE, ⟨_, rfl, hk.size, Blk.new u _ _⟩, ((Keep.refl _ u).alloc _)⟩) ?_
    exact fz
   intro gv w1 hV k1
   rw [dq 3 [13,14,5]]
   simp only [Fz7]
   have hv5 : (.fresh wr.heap.size 98 zeroE.cells : Kn).p (gv 5) w1 := hV 2 5 (by kernel_rfl)
   generalize gv 5 = v5 at hv5 ⊢
   rw [gQ hV 1 14 e.v]
   clear hV
   obtain ⟨b5, rfl, hb5, hB5⟩ := hv5
   refine l_setS 98 b5 98 zeroE.cells e.cells _ _ rfl rfl (by kernel_rfl) (by kernel_rfl) hB5 (by rw [Ent.len10]; exact szE) (by rw [Ent.len10, Ent.len10]) (Ent.one _) ?_
   intro w2 hB6 hk2 hs2
   simp only [Act.put]
   refine wpList_nil ?_
   have kw2 : Kept wr w2 := k1.trans' hk2 (by omega)
   have HB6 := Lib.hid (blk_range hB6)
   clear hB5 hB6 hk2 HE k1
   obtain ⟨v3, hv3⟩ : ∃ v3, v3 = u3 := ⟨_, rfl⟩
   subst hv3
   have HV2 := Lib.hid (HV.out.1.kept kw2)
   have HV3 := Lib.hid HV.out.2
   have s2 := kw2.size
   have s1 := hkr.size
   clear HV
   go_upto_region 5 with fail
   refine wp_text 4 [.eq (v3), pE b5 0, .eq (e.o.v), .sl w2.heap.size 24 9 1 e.o.cells] rfl (by kernel_rfl) ?_ ?_
   ·refine mE 1 3 ?_
    refine fE 2 5 98 0 0 0 ?_
    refine sD 3 16 1 e.o.cells Try.underlying24 (fun u hk=>ent_ord (range_kept HB6.out hk)) (by rw [e.o.len9]; exact ord_size) ?_
    refine nW 4 rfl (fun a u E D hk=>⟨_, _, exec_oneS slO _ e.o.cells (by omega) rfl (dD D 2) (e.o.len9), (sl_one u 24 9 _ w2.heap.size (e.o.len9) (by omega) hk.size), ((Keep.refl _ u).alloc _)⟩) ?_
    exact fz
   intro gv w3 hV k3
   rw [dq 4 [15,16,17,18]]
   simp only [Fz7]
   rw [gQ hV 0 15 v3]
   have hv18 : (.sl w2.heap.size 24 9 1 e.o.cells : Kn).p (gv 18) w3 := hV 3 18 (by kernel_rfl)
   generalize gv 18 = v18 at hv18 ⊢
   clear hV
   have s3 := k3.size
   obtain ⟨v4, w4, hr4, hs4, hk4, ho4⟩ := run_append_sl slO _ w3 v3 v18 i 1 _ _ (HV2.out.kept k3) hv18.1 (Ord.one1 _) (by unfold maxLen; omega) (by omega)
   refine l_new v4 w4 rfl (exec_appS slO (.tmp 15) (.tmp 18) v3 v18 rfl (by kernel_rfl) (by kernel_rfl) v4 w4 hr4) ?_
   simp only [Act.put, sA, sS, sZ]
   refine l_val (v4) rfl (exec_assign _ _ rfl (by kernel_rfl)) ?_
   simp only [Act.put, sA, sS, sZ]
   refine wpList_nil ?_
   have kw4 : Kept w w4 := by
    refine Keep.trans ((hkr.trans kw2).trans k3) hk4 (fun b hb hb' => ?_)
    have := HV3.out b hb'
    omega
   have HV4 : Hid ((Kn.sl w.heap.size 24 9 (i + 1) (ords ((X.take (i + 1)).map (·.o)))).p v4 w4) := by
    refine ⟨?_, fun b hb => ?_⟩
    ·rw [List.take_add_one, HEI.out, Option.toList_some, List.map_append, List.map_cons, List.map_nil, ords_snoc]
     exact hs4
    ·rcases ho4 b hb with h | h
     ·exact HV3.out b h
     ·omega
   clear hs4 hk4 ho4 HV2 HV3 hv18 hr4
   go_wp2
   exact ⟨⟨i + 1, by omega, by go_num, HV4, kw4⟩, by simp [intOf]; omega⟩
  ·obtain ⟨v3, hv3⟩ : ∃ v3, v3 = u3 := ⟨_, rfl⟩
   subst hv3
   have HF : Hid ((Kn.sl w.heap.size 24 9 X.length (ords (X.map (·.o)))).p v3 wr) := by
    have := HV.out
    rw [show i = n by omega, List.take_of_length_le (by rw [HN.out]; omega)] at this
    rw [HN.out]
    exact this
   clear HV
   go_wp2
   go_ret
   exact ⟨v3, rfl, HF.out, hkr⟩
end Go.Proofs.Ytklohceombpleaa
namespace Go.Proofs.Ytklohceombpleaa
open Go.RowKit
set_option maxRecDepth 100000
variable {pr : Int}
def TakeIn (pr : Int) (T E : TypeId) (w : World) (F : Nat → Prop) (p : Nat) (X : List Ent) (t : List Ent × Bool × List Ent) (r : Ending) (w' : World) : Prop :=
 ∃ F' v, r = .returned (.tuple #[v, .bool t.2.1]) ∧ Lvl pr T E w' F' p t.2.2 ∧ Sl w' 26 10 v t.1.length (ents t.1) ∧ (∀ b, v.ownBlock = some b → w.heap.size ≤ b ∧ ¬ F' b) ∧ Grow w F F' ∧ Keep F w w'
theorem take_done {firm q q' : Int} {X X' H : List Ent} {t : List Ent × Bool × List Ent} (h : takeM firm q X = (H ++ (takeM firm q' X').1, (takeM firm q' X').2)) {b : Bool} (ht : takeM firm q' X' = ([], b, X')) : takeM firm q X = (H, b, X') := by
 rw [h, ht]
 simp
theorem take_next_ {firm q q' : Int} {X R H : List Ent} {e : Ent} (h : takeM firm q X = (H ++ (takeM firm q' (e :: R)).1, (takeM firm q' (e :: R)).2)) (h0 : 0 < q') (hn : 0 < e.n) (hf : e.o.firm ≠ firm) :
  takeM firm q X = ((H ++ [⟨e.o, mn q' e.n⟩]) ++ (takeM firm (q' - mn q' e.n) (nextM e (mn q' e.n) R)).1, (takeM firm (q' - mn q' e.n) (nextM e (mn q' e.n) R)).2) := by
 rw [h, takeM_go firm q' e R h0 hn hf]
 simp
set_option maxRecDepth 100000 in
set_option maxHeartbeats 1600000 in
theorem take_any (w : World) (F : Nat → Prop) (p : Nat) (X : List Ent) (firm q : Int) (h : Lvl pr 96 98 w F p X) (hX : Good X) (hq : q ≤ 9223372036854775807) :
  Calls Try.prog 89 #[.pointer (some ⟨p, 0, none⟩), .int .i64 firm, .int .i64 q] w (TakeIn pr 96 98 w F p X (takeM firm q X)) := by
 have HL0 := Lib.hid h
 have HX0 := Lib.hid hX
 clear h hX
 go_enter Try.func89, Try.ntmps89
 go_wp2_with fail
 go_loopw [2, 8] (fun t h wr => ∃ (q' : Int) (H X' : List Ent) (F' : Nat → Prop), t = .int .i64 q' ∧ q' ≤ 9223372036854775807 ∧ Hid (Sl wr 26 10 h H.length (ents H)) ∧ Hid (∀ b, h.ownBlock = some b → w.heap.size ≤ b ∧ ¬ F' b) ∧ Hid (Lvl pr 96 98 wr F' p X') ∧ Hid (Good X') ∧ Hid (Grow w F F') ∧ Keep F w wr ∧ Hid ((H.length : Int) + wholeM X' ≤ wholeM X) ∧ Hid (takeM firm q X = (H ++ (takeM firm q' X').1, (takeM firm q' X').2))) (fun t _ _ => (intOf t).toNat)
 case atStart => exact ⟨q, [], X, F, rfl, hq, Sl.nil _ _ _, fun b hb => (by simp [Value.ownBlock] at hb), HL0.out, HX0.out, Grow.refl _ _, Keep.refl _ _, by show _ ≤ _; simp, by show _ = _; simp⟩
 case round =>
  obtain ⟨q', H, X', F', rfl, hq', HV, HO, HL, HX, HG, hkF, HW, HT⟩ := hrel
  obtain ⟨v8, hv8⟩ : ∃ v8, v8 = u8 := ⟨_, rfl⟩
  subst hv8
  by_cases hq0 : 0 < q'
  ·cases X' with
   | nil =>
    obtain ⟨h1, h2, v, hB, hS, h5⟩ := HL.out
    obtain ⟨m, hm⟩ : ∃ m, ([] : List Ent).length = m := ⟨_, rfl⟩
    rw [hm] at hS
    have HB := Lib.hid hB
    have HS := Lib.hid hS
    have hpl := h2 p h1
    clear hB hS h1 h2 h5
    have HD := Lib.hid (take_done (t := takeM firm q X) HT.out (takeM_nil firm q'))
    have hm0 : m = 0 := by simpa using hm.symm
    clear HT
    go_upto_region 2 with fail
    refine wE 10 [iV q', bV true, bV true, pV p 0, pV p 0, pV p 1, v, iV (m : Int), bV false, bV false] [10,11,12,13,14,15,16,17,18,19] ?_ ?_
    ·refine mE 1 2 ?_
     refine aS 2 rfl (fun a u E D hk=>exec_gtn rfl (dD D 0) rfl) (decide_eq_true hq0) ?_
     refine mD 3 11 1 ?_
     refine mE 4 0 ?_
     refine nD 5 13 3 ?_
     refine fD 6 14 4 96 1 1 0 ?_
     refine sW 7 rfl (fun a u E D hk=>exec_ldv _ _ Try.underlying94 _ _ _ rfl (dD D 5) (by rw [(HB.out.kept hk).cell]; rfl)) ?_
     refine sW 8 rfl (fun a u E D hk=>exec_lenS _ slE _ _ _ _ rfl (dD D 6) HS.out) ?_
     refine aS 9 rfl (fun a u E D hk=>exec_gtn rfl (dD D 7) rfl) (decide_eq_false (by omega)) ?_
     refine pT 10 12 18 2 8 ?_
     exact fz
    intro w1 k1
    simp only [F8]
    have kF1 := hkF.kept k1
    have s1 := k1.size
    go_wp2
    go_ret2
    refine ⟨F', v8, ?_, ?_, ?_, HO.out, HG.out, kF1⟩
    ·rw [HD.out]; rfl
    ·rw [HD.out]; exact HL.out.kept k1
    ·rw [HD.out]; exact HV.out.kept k1
   | cons e R =>
    obtain ⟨h1, h2, v, hB, hS, h5⟩ := HL.out
    obtain ⟨m, hm⟩ : ∃ m, (e :: R).length = m := ⟨_, rfl⟩
    rw [hm] at hS
    have HB := Lib.hid hB
    have HS := Lib.hid hS
    have hpl := h2 p h1
    clear hB hS h1 h2 h5
    have hm0 : 0 < m := by rw [← hm]; simp
    obtain ⟨g, off, c, rfl⟩ := HS.out.some_ hm0
    have HE : Hid (wr.rangeAt g off e.cells) := HS.out.rng 0 e rfl
    have hb := HX.out.bound (e := e) (by simp)
    go_upto_region 2 with fail
    refine wE 10 [iV q', bV true, bV true, pV p 0, pV p 0, pV p 1, .slice (some ⟨g, off, none⟩) m c, iV (m : Int), bV true, bV true] [10,11,12,13,14,15,16,17,18,19] ?_ ?_
    ·refine mE 1 2 ?_
     refine aS 2 rfl (fun a u E D hk=>exec_gtn rfl (dD D 0) rfl) (decide_eq_true hq0) ?_
     refine mD 3 11 1 ?_
     refine mE 4 0 ?_
     refine nD 5 13 3 ?_
     refine fD 6 14 4 96 1 1 0 ?_
     refine sW 7 rfl (fun a u E D hk=>exec_ldv _ _ Try.underlying94 _ _ _ rfl (dD D 5) (by rw [(HB.out.kept hk).cell]; rfl)) ?_
     refine sW 8 rfl (fun a u E D hk=>exec_len _ _ _ slE.und (some ⟨g, off, none⟩) m c rfl (dD D 6)) ?_
     refine aS 9 rfl (fun a u E D hk=>exec_gtn rfl (dD D 7) rfl) (decide_eq_true (by omega)) ?_
     refine pT 10 12 18 2 8 ?_
     exact fz
    intro w1 k1
    simp only [F8]
    have kF1 := hkF.kept k1
    have s1 := k1.size
    have HB1 := Lib.hid (HB.out.kept k1)
    have HE1 := Lib.hid (range_kept HE.out k1)
    clear HB HE HS
    by_cases hf : e.o.firm = firm
    ·have HD := Lib.hid (take_done (t := takeM firm q X) HT.out (takeM_own firm q' e R hq0 (by omega) hf))
     clear HT
     go_upto_region 3 with fail
     refine wE 10 [pV p 0, pV p 0, pV p 1, .slice (some ⟨g, off, none⟩) m c, pV g off, pV g off, pV g (off + 2), iV e.o.firm, iV firm, bV true] [20,21,22,23,24,25,26,27,28,29] ?_ ?_
     ·refine mE 1 0 ?_
      refine nD 2 20 0 ?_
      refine fD 3 21 1 96 1 1 0 ?_
      refine sW 4 rfl (fun a u E D hk=>exec_ldv _ _ Try.underlying94 _ _ _ rfl (dD D 2) (by rw [(HB1.out.kept hk).cell]; rfl)) ?_
      refine sW 5 rfl (fun a u E D hk=>exec_ixo slE _ _ (g) (off) m c 0 (off) (0) rfl (dD D 3) rfl (by first | rfl | omega) ((by omega)) (by first | rfl | omega)) ?_
      refine fD 6 24 4 98 0 0 off ?_
      refine fD 7 25 5 24 2 2 off ?_
      refine lD 8 26 6 Try.underlying3 (fun u hk=>range_int (range_kept HE1.out hk) 2 _ rfl) ?_
      refine mE 9 1 ?_
      refine aS 10 rfl (fun a u E D hk=>exec_eqn rfl (dD D 7) (dD D 8)) (decide_eq_true hf) ?_
      exact fz
     intro w2 k2
     simp only [F8]
     have kF2 := kF1.kept k2
     go_wp2
     go_ret2
     refine ⟨F', v8, ?_, ?_, ?_, HO.out, HG.out, kF2⟩
     ·rw [HD.out]; rfl
     ·rw [HD.out]; exact HL.out.kept (k1.trans k2)
     ·rw [HD.out]; exact HV.out.kept (k1.trans k2)
    ·have HD := Lib.hid (take_next_ HT.out hq0 (by omega) hf)
     clear HT
     go_upto_region 3 with fail
     refine wE 10 [pV p 0, pV p 0, pV p 1, .slice (some ⟨g, off, none⟩) m c, pV g off, pV g off, pV g (off + 2), iV e.o.firm, iV firm, bV false] [20,21,22,23,24,25,26,27,28,29] ?_ ?_
     ·refine mE 1 0 ?_
      refine nD 2 20 0 ?_
      refine fD 3 21 1 96 1 1 0 ?_
      refine sW 4 rfl (fun a u E D hk=>exec_ldv _ _ Try.underlying94 _ _ _ rfl (dD D 2) (by rw [(HB1.out.kept hk).cell]; rfl)) ?_
      refine sW 5 rfl (fun a u E D hk=>exec_ixo slE _ _ (g) (off) m c 0 (off) (0) rfl (dD D 3) rfl (by first | rfl | omega) ((by omega)) (by first | rfl | omega)) ?_
      refine fD 6 24 4 98 0 0 off ?_
      refine fD 7 25 5 24 2 2 off ?_
      refine lD 8 26 6 Try.underlying3 (fun u hk=>range_int (range_kept HE1.out hk) 2 _ rfl) ?_
      refine mE 9 1 ?_
      refine aS 10 rfl (fun a u E D hk=>exec_eqn rfl (dD D 7) (dD D 8)) (decide_eq_false hf) ?_
      exact fz
     intro w2 k2
     simp only [F8]
     have k12 := k1.trans k2
     have kF2 := kF1.kept k2
     have s2 := k2.size
     have s0 := hkF.size
     have hmn1 := mn_le q' e.n
     have hmn2 := mn_pos q' e.n hq0 (by omega)
     have HLN : Hid (H.length ≤ 99999999) := by
      show _ ≤ _
      have h1 := HW.out
      have h2 := HX0.out.few
      have h3 := whole_ge HX.out.ok
      simp only [List.length_cons] at h3
      omega
     have HL2 := Lib.hid (HL.out.kept k12)
     have HV2 := Lib.hid (HV.out.kept k12)
     have HVL : Hid (∀ b, v8.ownBlock = some b → b < w2.heap.size) := fun b hb => (HV.out.kept k12).lt hb
     clear HB1 HE1 k1 k2 k12 HL HV kF1
     go_upto_region 5 with fail
     refine wp_region_lit ?_
     refine l_val (.pointer (some ⟨p, 0, none⟩)) rfl (exec_move _ _ rfl (by kernel_rfl)) ?_
     simp only [Act.put, sA, sS, sZ]
     refine l_val (.int .i64 q') rfl (exec_move _ _ rfl (by kernel_rfl)) ?_
     simp only [Act.put, sA, sS, sZ]
     refine l_call 96 #[.pointer (some ⟨p, 0, none⟩), .int .i64 q'] rfl (exec_call 96 _ [.tmp 31, .tmp 32] _ _ Try.func96 (by kernel_rfl) (by kernel_rfl) rfl (by kernel_rfl) _) ?_
     refine (hitFirst_any w2 F' p e q' R HL2.out HX.out hq0).mono ?_
     rintro r w3 ⟨F2, rfl, hL3, hG3, hk3⟩
     refine ⟨_, rfl, ?_⟩
     simp only [Act.put, sA, sS, sZ]
     refine l_alloc 26 zeroE.cells rfl rfl zH ?_
     intro w4 hB4 z4 k4
     obtain ⟨b9, hb9⟩ : ∃ b, b = w3.heap.size := ⟨_, rfl⟩
     rw [← hb9] at hB4 ⊢
     simp only [Act.put, sA, sS, sZ]
     refine l_setS 26 b9 26 zeroE.cells (Ent.mk e.o (mn q' e.n)).cells _ _ rfl rfl (by kernel_rfl) (by kernel_rfl) hB4 (by rw [Ent.len10]; exact szH) (by rw [Ent.len10, Ent.len10]) (Ent.one _) ?_
     intro w5 hB5 hk5 hs5
     simp only [Act.put]
     refine wpList_nil ?_
     have k45 : Kept w3 w5 := k4.trans' hk5 (by omega)
     have s3 := hk3.size
     have s5 := k45.size
     have HG5 : Hid (Grow w F F2) := Grow.trans HG.out hG3 (by omega)
     have kF5 : Keep F w w5 := (Grow.keep HG.out kF2 hk3).kept k45
     have HL5 := Lib.hid (hL3.kept k45)
     have HV5 := Lib.hid ((HV2.out.keep hk3 (fun b hb hF => (HO.out b hb).2 hF)).kept k45)
     have HO5 : Hid (∀ b, v8.ownBlock = some b → w.heap.size ≤ b ∧ ¬ F2 b) := fun b hb => ⟨(HO.out b hb).1, fun h => by
      rcases hG3 b h with h | h
      ·exact (HO.out b hb).2 h
      ·have := HV2.out.lt hb; omega⟩
     have HF2 : Hid (∀ b, F2 b → b < w3.heap.size) := hL3.2.1
     have HBR := Lib.hid (blk_range hB5)
     have hb9l := hB5.lt
     clear hL3 hG3 hk3 hB4 hB5 k4 hk5 HL2 HV2 HO HG kF2
     go_upto_region 6 with fail
     refine wp_text 3 [.eq (v8), .eq ((Ent.mk e.o (mn q' e.n)).v), .sl w5.heap.size 26 10 1 (Ent.mk e.o (mn q' e.n)).cells] rfl (by kernel_rfl) ?_ ?_
     ·refine mE 1 8 ?_
      refine sE 2 9 b9 0 ((Ent.mk e.o (mn q' e.n)).cells) Try.underlying26 (fun u hk=>range_kept HBR.out hk) (by rw [(Ent.mk e.o (mn q' e.n)).len10]; exact szH) ?_
      refine nW 3 rfl (fun a u E D hk=>⟨_, _, exec_oneS slH _ (Ent.mk e.o (mn q' e.n)).cells (by omega) rfl (dD D 1) ((Ent.mk e.o (mn q' e.n)).len10), (sl_one u 26 10 _ w5.heap.size ((Ent.mk e.o (mn q' e.n)).len10) (by omega) hk.size), ((Keep.refl _ u).alloc _)⟩) ?_
      exact fz
     intro gv w6 hV k6
     rw [dq 3 [34,35,36]]
     simp only [Fz7]
     rw [gQ hV 0 34 v8]
     have hv36 : (.sl w5.heap.size 26 10 1 (Ent.mk e.o (mn q' e.n)).cells : Kn).p (gv 36) w6 := hV 2 36 (by kernel_rfl)
     generalize gv 36 = v36 at hv36 ⊢
     clear hV
     have hln := HLN.out
     obtain ⟨v7, w7, hr7, hs7, hk7, ho7⟩ := run_append_sl slH _ w6 v8 v36 H.length 1 _ _ (HV5.out.kept k6) hv36.1 (Ent.one _) (by unfold maxLen; omega) (by omega)
     refine l_new v7 w7 rfl (exec_appS slH (.tmp 34) (.tmp 36) v8 v36 rfl (by kernel_rfl) (by kernel_rfl) v7 w7 hr7) ?_
     simp only [Act.put, sA, sS, sZ]
     refine l_val (v7) rfl (exec_assign _ _ rfl (by kernel_rfl)) ?_
     simp only [Act.put, sA, sS, sZ]
     refine wpList_nil ?_
     have s6 := k6.size
     have s7 := hk7.size
     have K7 : Keep (fun b => v8.ownBlock = some b) w5 w7 := (Keep.mono (T := fun b => v8.ownBlock = some b) k6 (fun _ _ h => h.elim)).trans hk7 (fun _ _ h => h)
     have HL7 := Lib.hid (HL5.out.keep K7 (fun b hb hv => (HO5.out b hv).2 hb))
     have kF7 : Keep F w w7 := kF5.trans K7 (fun b hb hv => by have := (HO5.out b hv).1; omega)
     have HO7 : Hid (∀ b, v7.ownBlock = some b → w.heap.size ≤ b ∧ ¬ F2 b) := fun b hb => by
      rcases ho7 b hb with h | h
      ·exact HO5.out b h
      ·exact ⟨by omega, fun hF => by have := HF2.out b hF; omega⟩
     have HV7 : Hid (Sl w7 26 10 v7 (H ++ [Ent.mk e.o (mn q' e.n)]).length (ents (H ++ [Ent.mk e.o (mn q' e.n)]))) := by
      show Sl _ _ _ _ _ _
      rw [List.length_append, ents_snoc]
      exact hs7
     have hb9n : ¬ v8.ownBlock = some b9 := fun h => by have := HVL.out b9 h; omega
     have HBR7 := Lib.hid (range_keep HBR.out K7 hb9n)
     clear hs7 hk7 ho7 hr7 hv36 HL5 HO5 HV5 HBR k6 K7 hb9n
     go_upto_region 7 with fail
     refine wEp 4 [iV q', pV b9 9, iV ((Ent.mk e.o (mn q' e.n)).n), iV (q' - mn q' e.n)] [38,39,40,41] ?_ ?_
     ·refine mE 1 2 ?_
      refine fE 2 9 26 1 9 0 ?_
      refine lD 3 39 1 Try.underlying3 (fun u hk=>range_int (range_kept HBR7.out hk) 9 _ rfl) ?_
      refine sW 4 rfl (fun a u E D hk=>exec_subn (q' - mn q' e.n) rfl (dD D 0) (dD D 2) rfl (by omega) (by omega)) ?_
      exact fz
     intro w8 k8
     simp only [F8]
     refine l_val (.int .i64 (q' - mn q' e.n)) rfl (exec_assign _ _ rfl (by kernel_rfl)) ?_
     simp only [Act.put, sA, sS, sZ]
     refine wpList_nil ?_
     have HW8 : Hid (((H ++ [Ent.mk e.o (mn q' e.n)]).length : Int) + wholeM (nextM e (mn q' e.n) R) ≤ wholeM X) := by
      show _ ≤ _
      have h1 := HW.out
      rw [next_whole, List.length_append]
      rw [wholeM_cons] at h1
      simp only [List.length_cons, List.length_nil]
      omega
     have HX8 := Lib.hid (next_good HX.out (n := mn q' e.n) (by omega) hmn1.2)
     have HL8 := Lib.hid (HL7.out.kept k8)
     have HV8 := Lib.hid (HV7.out.kept k8)
     have kF8 := kF7.kept k8
     clear HW HX HL7 HV7 kF7 k8 hln
     go_wp2
     exact ⟨⟨q' - mn q' e.n, H ++ [Ent.mk e.o (mn q' e.n)], nextM e (mn q' e.n) R, F2, rfl, by omega, HV8, HO7, HL8, HX8, HG5, kF8, HW8, HD⟩, by simp [intOf]; omega⟩
  ·skip
   obtain ⟨h1, h2, v, hB, hS, h5⟩ := HL.out
   obtain ⟨m, hm⟩ : ∃ m, X'.length = m := ⟨_, rfl⟩
   rw [hm] at hS
   have HB := Lib.hid hB
   have HS := Lib.hid hS
   have hpl := h2 p h1
   clear hB hS h1 h2 h5
   have HD := Lib.hid (take_done (t := takeM firm q X) HT.out (takeM_zero firm q' X' (by omega)))
   clear HT
   go_upto_region 2 with fail
   refine wE 10 [iV q', bV false, bV false, undef, undef, undef, undef, undef, undef, bV false] [10,11,12,13,14,15,16,17,18,19] ?_ ?_
   ·refine mE 1 2 ?_
    refine aS 2 rfl (fun a u E D hk=>exec_gtn rfl (dD D 0) rfl) (decide_eq_false hq0) ?_
    refine mD 3 11 1 ?_
    refine kS 4 2 ?_
    refine kS 5 2 ?_
    refine kS 6 2 ?_
    refine kS 7 2 ?_
    refine kS 8 2 ?_
    refine kS 9 2 ?_
    refine pF 10 12 2 ?_
    exact fz
   intro w1 k1
   simp only [F8]
   have kF1 := hkF.kept k1
   have s1 := k1.size
   go_wp2
   go_ret2
   refine ⟨F', v8, ?_, ?_, ?_, HO.out, HG.out, kF1⟩
   ·rw [HD.out]; rfl
   ·rw [HD.out]; exact HL.out.kept k1
   ·rw [HD.out]; exact HV.out.kept k1
end Go.Proofs.Ytklohceombpleaa
namespace Go.Proofs.Ytklohceombpleaa
open Go.RowKit
set_option maxRecDepth 100000
variable {pr : Int}
def caps (g1 g2 : Nat) : List Value := [.pointer (some ⟨g1, 0, none⟩), .pointer (some ⟨g2, 0, none⟩)]
def clo (g1 g2 : Nat) : Value := .func (.func 84) #[] (caps g1 g2).toArray
section
variable {a : Act} {o : Oper} {u : World}
theorem exec_callv (f : Nat) (fn : Func) (x : Operand) (xs : List Operand) (ts : Array TypeId) (args caps : List Value) (hf : Try.prog.funcs[f]? = some fn) (hn : (fn.name == "runtime.NumGoroutine") = false) (hb : fn.body.isNone = false) (hop : o.op = .call { callee := .value x, args := xs.toArray, argTypes := ts }) (hv : a.eval x = .func (.func f) #[] caps.toArray) (hx : xs.map a.eval = args) :
  (execOp a.eval o).run Try.prog u = .ok (.enter f (args ++ caps).toArray) u := by
 have hc : (callFunc f (args ++ caps).toArray).run Try.prog u = .ok (.enter f (args ++ caps).toArray) u := by
  have hn' : ¬ fn.name = "runtime.NumGoroutine" := by simpa using hn
  have hb' : ¬ fn.body = none := by
   intro h
   rw [h] at hb
   cases hb
  simp [callFunc, hf, hn', hb']
 unfold execOp
 simp only [hop, resolve, invoke, hv, List.map_toArray, hx, Sem.run_bind]
 simp [Deferred.ofValue, hc]
theorem exec_mkf (x y : Operand) (g1 g2 : Nat) (hop : o.op = .makeFunc (.func 84) #[] #[x, y]) (hx : a.eval x = .pointer (some ⟨g1, 0, none⟩)) (hy : a.eval y = .pointer (some ⟨g2, 0, none⟩)) : (execOp a.eval o).run Try.prog u = .ok (.value (clo g1 g2)) u := by
 unfold execOp
 simp only [hop, Instr.makeFunc, List.map_toArray, List.map_cons, List.map_nil, hx, hy]
 rfl
end
set_option maxRecDepth 100000 in
theorem is_any (e : Ent) (t i : Int) (g1 g2 : Nat) (w : World) (h1 : Blk w g1 3 [.int .i64 t]) (h2 : Blk w g2 3 [.int .i64 i]) : Gives 84 #[e.v, .pointer (some ⟨g1, 0, none⟩), .pointer (some ⟨g2, 0, none⟩)] w (.eq (.bool (e.is t i))) := by
 refine gives_eq ?_
 have H1 := Lib.hid h1
 have H2 := Lib.hid h2
 clear h1 h2
 go_enter Try.func84, Try.ntmps84
 go_upto_region 0 with fail
 refine wp_text 2 [.fresh w.heap.size 98 (e.cells), bE false] rfl (by kernel_rfl) ?_ ?_
 ·refine nW 1 rfl (fun a u E D hk=>⟨_, _, exec_box 98 _ (e.cells) rfl (eE E), ⟨_, rfl, hk.size, Blk.new u _ _⟩, ((Keep.refl _ u).alloc _)⟩) ?_
  refine sW 2 rfl (fun a u E D hk=>exec_assign _ _ rfl rfl) ?_
  exact fz
 intro gv w1 hV k1
 rw [dq 2 [3,4]]
 simp only [Fz7]
 have hv3 : (.fresh w.heap.size 98 (e.cells) : Kn).p (gv 3) w1 := hV 0 3 (by kernel_rfl)
 generalize gv 3 = v3 at hv3 ⊢
 clear hV
 obtain ⟨g, rfl, hg, hB⟩ := hv3
 refine wpList_nil ?_
 have HB := Lib.hid (blk_range hB)
 have H11 := Lib.hid (H1.out.kept k1)
 have H21 := Lib.hid (H2.out.kept k1)
 clear hB H1 H2
 go_upto_region 1 with fail
 refine wT 13 [pE g 0, pE g 0, iE e.o.tr, iE t, bE (decide ((e.o.tr : Int) = (t : Int))), bE (decide ((e.o.tr : Int) = (t : Int))), .cond (decide ((e.o.tr : Int) = (t : Int))) (pE g 0), .cond (decide ((e.o.tr : Int) = (t : Int))) (pE g 1), .cond (decide ((e.o.tr : Int) = (t : Int))) (iE e.o.id), .cond (decide ((e.o.tr : Int) = (t : Int))) (iE i), .cond (decide ((e.o.tr : Int) = (t : Int))) (bE (decide ((e.o.id : Int) = (i : Int)))), bE ((decide ((e.o.tr : Int) = (t : Int))) && (decide ((e.o.id : Int) = (i : Int)))), bE ((decide ((e.o.tr : Int) = (t : Int))) && (decide ((e.o.id : Int) = (i : Int))))] [5,6,7,8,9,10,11,12,13,14,15,16,4] ?_ ?_
 ·refine fE 1 3 98 0 0 0 ?_
  refine fD 2 5 0 24 0 0 0 ?_
  refine lD 3 6 1 Try.underlying3 (fun u hk=>range_int (range_kept HB.out hk) 0 _ rfl) ?_
  refine sW 4 rfl (fun a u E D hk=>exec_loadi 3 Try.underlying3 _ ⟨g1, 0, none⟩ (.int .i64 t) rfl (eE E) (by rw [(H11.out.kept hk).cell]; rfl)) ?_
  refine sW 5 rfl (fun a u E D hk=>exec_eqn rfl (dD D 2) (dD D 3)) ?_
  refine mD 6 9 4 ?_
  refine iC 7 5 rfl (fun a u E D hk hb=>exec_fldo 98 0 0 _ (g) (0) (0) rfl (eE E) (by kernel_rfl) rfl) ?_
  refine iC 8 5 rfl (fun a u E D hk hb=>exec_fldo 24 1 1 _ (g) (0) (1) rfl ((D 6 11 (by kernel_rfl)).1 hb) (by kernel_rfl) rfl) ?_
  refine iC 9 5 rfl (fun a u E D hk hb=>exec_loadi _ Try.underlying3 _ _ _ rfl ((D 7 12 (by kernel_rfl)).1 hb) (range_int (range_kept HB.out hk) 1 _ rfl)) ?_
  refine iC 10 5 rfl (fun a u E D hk hb=>exec_loadi 3 Try.underlying3 _ ⟨g2, 0, none⟩ (.int .i64 i) rfl (eE E) (by rw [(H21.out.kept hk).cell]; rfl)) ?_
  refine iC 11 5 rfl (fun a u E D hk hb=>exec_eqn rfl ((D 8 13 (by kernel_rfl)).1 hb) ((D 9 14 (by kernel_rfl)).1 hb)) ?_
  refine sW 12 rfl (fun a u E D hk=>exec_pickand _ _ _ ((decide ((e.o.tr : Int) = (t : Int)))) ((decide ((e.o.id : Int) = (i : Int)))) rfl (dD D 5) (fun hb2 => ((D 10 15 (by kernel_rfl)).1 hb2)) rfl) ?_
  refine mD 13 16 11 ?_
  exact fz
 intro gv w2 hV k2
 simp only [Fz7]
 rw [gQ hV 12 4 (.bool ((decide ((e.o.tr : Int) = (t : Int))) && (decide ((e.o.id : Int) = (i : Int)))))]
 clear hV
 go_wp2
 go_ret
 exact ⟨rfl, k1.trans k2⟩
set_option maxRecDepth 100000 in
set_option maxHeartbeats 800000 in
theorem index_any (v : Value) (X : List Ent) (t i : Int) (g1 g2 : Nat) (w : World) (hS : Sl w 98 10 v X.length (ents X)) (hlen : X.length ≤ 100000000) (h1 : Blk w g1 3 [.int .i64 t]) (h2 : Blk w g2 3 [.int .i64 i]) :
  Gives 83 #[v, clo g1 g2] w (.eq (.int .i64 (placeM t i X))) := by
 refine gives_eq ?_
 obtain ⟨n, hn⟩ : ∃ n, X.length = n := ⟨_, rfl⟩
 rw [hn] at hS hlen
 have HN := Lib.hid hn
 have HS := Lib.hid hS
 have H1 := Lib.hid h1
 have H2 := Lib.hid h2
 clear hS h1 h2 hn
 go_enter Try.func83, Try.ntmps83
 go_upto_region 1 with fail
 refine wE 3 [v, iV (n : Int), iV 0] [6,7,8] ?_ ?_
 ·refine mE 1 0 ?_
  refine sW 2 rfl (fun a u E D hk=>exec_lenS _ slE _ _ _ _ rfl (dD D 0) HS.out) ?_
  refine sW 3 rfl (fun a u E D hk=>exec_move _ _ rfl rfl) ?_
  exact fz
 intro w0 k0
 simp only [F8]
 go_wp2_with fail
 go_loopw [8] (fun q wr => ∃ (k : Nat), k ≤ n ∧ q = .int .i64 (k : Int) ∧ Hid (∀ (j : Nat) (x : Ent), j < k → X[j]? = some x → x.is t i = false) ∧ Kept w wr) (fun q _ => n - (intOf q).toNat)
 case atStart => exact ⟨0, Nat.zero_le _, rfl, fun j x hj => (by omega), k0⟩
 case round =>
  obtain ⟨k, hk, rfl, HM, hkr⟩ := hrel
  by_cases hlt : k < n
  ·obtain ⟨g, off, c, rfl⟩ := HS.out.some_ (by omega)
   obtain ⟨e, he⟩ : ∃ e, X[k]? = some e := ⟨X[k]'(by rw [HN.out]; exact hlt), List.getElem?_eq_getElem (by rw [HN.out]; exact hlt)⟩
   have HE : Hid (wr.rangeAt g (off + k * 10) e.cells) := range_kept (HS.out.rng k e he) hkr
   have H1r := Lib.hid (H1.out.kept hkr)
   have H2r := Lib.hid (H2.out.kept hkr)
   have HEI := Lib.hid he
   clear he
   by_cases hm : e.is t i = true
   ·have HP : Hid (placeM t i X = (k : Int)) := by
     show _ = _
     have h1 := idx_of HM.out HEI.out hm
     unfold placeM
     rw [h1, if_pos (by rw [HN.out]; exact hlt)]
    go_upto_region 4 with fail
    refine wE 6 [clo g1 g2, .slice (some ⟨g, off, none⟩) n c, iV (k : Int), pV g (off + k * 10), e.v, bV true] [11,12,13,14,15,16] ?_ ?_
    ·refine mE 1 1 ?_
     refine mE 2 0 ?_
     refine mE 3 5 ?_
     refine sW 4 rfl (fun a u E D hk=>exec_ixo slE _ _ (g) (off) n c k (off + k * 10) ((k : Int)) rfl (dD D 1) (dD D 2) (by first | rfl | omega) (hlt) (by first | rfl | omega)) ?_
     refine sD 5 14 3 e.cells Try.underlying98 (fun u hk=>range_kept HE.out hk) (by rw [e.len10]; exact szE) ?_
     refine fsteps_cons 6 rfl (fun a u hE hD hk => f_call 84 #[e.v, .pointer (some ⟨g1, 0, none⟩), .pointer (some ⟨g2, 0, none⟩)] rfl (wanted_none rfl _) (exec_callv 84 _ (.tmp 11) [.tmp 15] _ [e.v] (caps g1 g2) Try.func84 (by kernel_rfl) (by kernel_rfl) rfl (dD hD 0) (show [a.eval (.tmp 15)] = [e.v] by rw [show a.eval (.tmp 15) = e.v from (dD hD 4)])) (by rw [← hm]; exact is_any e t i g1 g2 u (H1r.out.kept hk) (H2r.out.kept hk))) ?_
     exact fz
    intro w1 k1
    simp only [F8]
    have kw1 := hkr.trans k1
    clear hkr k1 hm
    go_wp2
    go_ret
    exact ⟨by rw [HP.out]; rfl, kw1⟩
   ·have hm' : e.is t i = false := by simpa using hm
    have HM2 : Hid (∀ (j : Nat) (x : Ent), j < k + 1 → X[j]? = some x → x.is t i = false) := by
     intro j x hj hx
     by_cases hjk : j = k
     ·subst hjk
      rw [HEI.out] at hx
      injection hx with hx
      rw [← hx]
      exact hm'
     ·exact HM.out j x (by omega) hx
    clear hm
    go_upto_region 4 with fail
    refine wE 6 [clo g1 g2, .slice (some ⟨g, off, none⟩) n c, iV (k : Int), pV g (off + k * 10), e.v, bV false] [11,12,13,14,15,16] ?_ ?_
    ·refine mE 1 1 ?_
     refine mE 2 0 ?_
     refine mE 3 5 ?_
     refine sW 4 rfl (fun a u E D hk=>exec_ixo slE _ _ (g) (off) n c k (off + k * 10) ((k : Int)) rfl (dD D 1) (dD D 2) (by first | rfl | omega) (hlt) (by first | rfl | omega)) ?_
     refine sD 5 14 3 e.cells Try.underlying98 (fun u hk=>range_kept HE.out hk) (by rw [e.len10]; exact szE) ?_
     refine fsteps_cons 6 rfl (fun a u hE hD hk => f_call 84 #[e.v, .pointer (some ⟨g1, 0, none⟩), .pointer (some ⟨g2, 0, none⟩)] rfl (wanted_none rfl _) (exec_callv 84 _ (.tmp 11) [.tmp 15] _ [e.v] (caps g1 g2) Try.func84 (by kernel_rfl) (by kernel_rfl) rfl (dD hD 0) (show [a.eval (.tmp 15)] = [e.v] by rw [show a.eval (.tmp 15) = e.v from (dD hD 4)])) (by rw [← hm']; exact is_any e t i g1 g2 u (H1r.out.kept hk) (H2r.out.kept hk))) ?_
     exact fz
    intro w1 k1
    simp only [F8]
    have kw1 := hkr.trans k1
    clear hkr k1 hm'
    go_wp2
    exact ⟨⟨k + 1, by omega, by go_num, HM2, kw1⟩, by simp [intOf]; omega⟩
  ·have HP : Hid (placeM t i X = -1) := by
    show _ = _
    have h1 : idxM t i X = X.length := idx_none (fun j x hj hx => HM.out j x (by rw [HN.out] at hj; omega) hx)
    unfold placeM
    rw [h1, if_neg (by omega)]
   clear HM
   go_wp2
   go_ret
   exact ⟨by rw [HP.out]; rfl, hkr⟩
set_option maxRecDepth 100000 in
set_option maxHeartbeats 800000 in
theorem place_any (w : World) (F : Nat → Prop) (p : Nat) (X : List Ent) (t i : Int) (h : Lvl pr 96 98 w F p X) (hlen : X.length ≤ 100000000) : Gives 73 #[.pointer (some ⟨p, 0, none⟩), .int .i64 t, .int .i64 i] w (.eq (.int .i64 (placeM t i X))) := by
 refine gives_eq ?_
 obtain ⟨h1, h2, v, hB, hS, h5⟩ := h
 have HB := Lib.hid hB
 have HS := Lib.hid hS
 clear hB hS h5 h1 h2
 go_enter Try.func73, Try.ntmps73
 go_upto_region 0 with fail
 refine wp_text 3 [.fresh w.heap.size 3 ([.int .i64 t]), .fresh w.heap.size 3 ([.int .i64 i]), iE 0] rfl (by kernel_rfl) ?_ ?_
 ·refine nW 1 rfl (fun a u E D hk=>⟨_, _, exec_boxi 3 _ (.int .i64 t) rfl (eE E) rfl, ⟨_, rfl, hk.size, Blk.new u _ _⟩, ((Keep.refl _ u).alloc _)⟩) ?_
  refine nW 2 rfl (fun a u E D hk=>⟨_, _, exec_boxi 3 _ (.int .i64 i) rfl (eE E) rfl, ⟨_, rfl, hk.size, Blk.new u _ _⟩, ((Keep.refl _ u).alloc _)⟩) ?_
  refine sW 3 rfl (fun a u E D hk=>exec_assign _ _ rfl rfl) ?_
  exact fz
 intro gv w1 hV k1
 rw [dq 3 [4,5,6]]
 simp only [Fz7]
 have hv4 : (.fresh w.heap.size 3 ([.int .i64 t]) : Kn).p (gv 4) w1 := hV 0 4 (by kernel_rfl)
 generalize gv 4 = v4 at hv4 ⊢
 have hv5 : (.fresh w.heap.size 3 ([.int .i64 i]) : Kn).p (gv 5) w1 := hV 1 5 (by kernel_rfl)
 generalize gv 5 = v5 at hv5 ⊢
 clear hV
 obtain ⟨g1, rfl, hg1, hB1⟩ := hv4
 obtain ⟨g2, rfl, hg2, hB2⟩ := hv5
 refine wpList_nil ?_
 have HB1 := Lib.hid hB1
 have HB2 := Lib.hid hB2
 have HBL := Lib.hid (HB.out.kept k1)
 have HS1 := Lib.hid (HS.out.kept k1)
 clear hB1 hB2 HB HS
 go_upto_region 1 with fail
 refine wEp 6 [pV p 0, pV p 0, pV p 1, v, clo g1 g2, iV (placeM t i X)] [7,8,9,10,11,12] ?_ ?_
 ·refine mE 1 0 ?_
  refine nD 2 7 0 ?_
  refine fD 3 8 1 96 1 1 0 ?_
  refine sW 4 rfl (fun a u E D hk=>exec_ldv _ _ Try.underlying94 _ _ _ rfl (dD D 2) (by rw [(HBL.out.kept hk).cell]; rfl)) ?_
  refine sW 5 rfl (fun a u E D hk=>exec_mkf _ _ g1 g2 rfl (eE E) (eE E)) ?_
  refine cS 6 83 [v, clo g1 g2] rfl Try.func83 rfl (fun a u E D hk=>⟨ll (dD D 3) (ll (dD D 4) rfl), index_any v X t i g1 g2 u (HS1.out.kept hk) hlen (HB1.out.kept hk) (HB2.out.kept hk)⟩) ?_
  exact fz
 intro w2 k2
 simp only [F8]
 refine l_val (.int .i64 (placeM t i X)) rfl (exec_assign _ _ rfl (by kernel_rfl)) ?_
 simp only [Act.put, sA, sS, sZ]
 refine wpList_nil ?_
 go_wp2
 go_ret
 exact ⟨rfl, k1.trans k2⟩
set_option maxRecDepth 100000 in
set_option maxHeartbeats 800000 in
theorem less_none (w : World) (F : Nat → Prop) (p : Nat) (X : List Ent) (t i q : Int) (h : Lvl pr 96 98 w F p X) (hlen : X.length ≤ 100000000) (hc : ¬ idxM t i X < X.length) : Calls Try.prog 65 #[.pointer (some ⟨p, 0, none⟩), .int .i64 t, .int .i64 i, .int .i64 q] w fun r w' => r = .returned (.bool (lessM t i q X).1) ∧ Lvl pr 96 98 w' F p (lessM t i q X).2 ∧ Keep F w w' ∧ ((lessM t i q X).1 = false → Kept w w') := by
 have HR : Hid (lessM t i q X = (false, X)) := by
  show _ = _
  unfold lessM
  rw [List.getElem?_eq_none (by omega)]
 have HPL : Hid (placeM t i X = -1) := by show _ = _; unfold placeM; rw [if_neg hc]
 have HL0 := Lib.hid h
 clear h hc
 go_enter Try.func65, Try.ntmps65
 go_upto_region 1 with fail
 refine wEp 4 [pV p 0, iV t, iV i, iV (-1)] [11,12,13,14] ?_ ?_
 ·refine mE 1 0 ?_
  refine mE 2 1 ?_
  refine mE 3 2 ?_
  refine cS 4 73 [.pointer (some ⟨p, 0, none⟩), .int .i64 t, .int .i64 i] rfl Try.func73 rfl (fun a u E D hk=>⟨ll (dD D 0) (ll (dD D 1) (ll (dD D 2) rfl)), (by rw [← HPL.out]; exact place_any u F p X t i (HL0.out.kept hk) hlen)⟩) ?_
  exact fz
 intro w1 k1
 simp only [F8]
 refine l_val (.int .i64 (-1)) rfl (exec_assign _ _ rfl (by kernel_rfl)) ?_
 simp only [Act.put, sA, sS, sZ]
 refine wpList_nil ?_
 go_upto_region 2 with fail
 refine wE 19 [iV (-1), bV true, bV true, undef, undef, bV true, bV true, undef, undef, undef, undef, undef, undef, undef, undef, undef, undef, undef, bV true] [15,16,17,18,19,20,21,22,23,24,25,26,27,28,29,30,31,32,33] ?_ ?_
 ·refine mE 1 9 ?_
  refine aS 2 rfl (fun a u E D hk=>exec_ltn rfl (dD D 0) rfl) rfl ?_
  refine mD 3 16 1 ?_
  refine kS 4 2 ?_
  refine kS 5 2 ?_
  refine sW 6 rfl (fun a u E D hk=>exec_pick _ _ _ _ rfl (dD D 2) rfl) ?_
  refine mD 7 20 5 ?_
  refine kS 8 6 ?_
  refine kS 9 6 ?_
  refine kS 10 6 ?_
  refine kS 11 6 ?_
  refine kS 12 6 ?_
  refine kS 13 6 ?_
  refine kS 14 6 ?_
  refine kS 15 6 ?_
  refine kS 16 6 ?_
  refine kS 17 6 ?_
  refine kS 18 6 ?_
  refine sW 19 rfl (fun a u E D hk=>exec_pick _ _ _ _ rfl (dD D 6) rfl) ?_
  exact fz
 intro w2 k2
 simp only [F8]
 go_wp2
 go_ret
 exact ⟨by rw [HR.out]; rfl, by rw [HR.out]; exact HL0.out.kept (k1.trans k2), (Keep.mono (T := F) (k1.trans k2) (fun _ _ h => h.elim)), fun _ => k1.trans k2⟩
set_option maxRecDepth 100000 in
set_option maxHeartbeats 800000 in
theorem less_low (w : World) (F : Nat → Prop) (p : Nat) (X : List Ent) (t i q : Int) (h : Lvl pr 96 98 w F p X) (hlen : X.length ≤ 100000000) (e : Ent) (he : X[idxM t i X]? = some e) (hq : ¬ 1 ≤ q) : Calls Try.prog 65 #[.pointer (some ⟨p, 0, none⟩), .int .i64 t, .int .i64 i, .int .i64 q] w fun r w' => r = .returned (.bool (lessM t i q X).1) ∧ Lvl pr 96 98 w' F p (lessM t i q X).2 ∧ Keep F w w' ∧ ((lessM t i q X).1 = false → Kept w w') := by
 have HR : Hid (lessM t i q X = (false, X)) := by
  show _ = _
  unfold lessM
  rw [he]
  simp only
  rw [if_neg (fun h => hq h.1)]
 obtain ⟨k, hkk⟩ : ∃ k, idxM t i X = k := ⟨_, rfl⟩
 rw [hkk] at he
 obtain ⟨n, hn⟩ : ∃ n, X.length = n := ⟨_, rfl⟩
 have hkn : k < n := by rw [← hn]; exact (List.getElem?_eq_some_iff.1 he).1
 have HPL : Hid (placeM t i X = (k : Int)) := by show _ = _; unfold placeM; rw [hkk, if_pos (by rw [hn]; exact hkn)]
 have hn1 : n ≤ 100000000 := by omega
 have HL0 := Lib.hid h
 obtain ⟨h1, h2, v, hB, hS, h5⟩ := h
 rw [hn] at hS
 obtain ⟨g, off, c, rfl⟩ := hS.some_ (by omega)
 have HE : Hid (w.rangeAt g (off + k * 10) e.cells) := hS.rng k e he
 have HB := Lib.hid hB
 have HS := Lib.hid hS
 have H1 := Lib.hid h1
 have H2 := Lib.hid h2
 have H5 := Lib.hid h5
 have HEI := Lib.hid he
 have HN := Lib.hid hn
 clear hB hS h5 h1 h2 he hn
 go_enter Try.func65, Try.ntmps65
 go_upto_region 1 with fail
 refine wEp 4 [pV p 0, iV t, iV i, iV (k : Int)] [11,12,13,14] ?_ ?_
 ·refine mE 1 0 ?_
  refine mE 2 1 ?_
  refine mE 3 2 ?_
  refine cS 4 73 [.pointer (some ⟨p, 0, none⟩), .int .i64 t, .int .i64 i] rfl Try.func73 rfl (fun a u E D hk=>⟨ll (dD D 0) (ll (dD D 1) (ll (dD D 2) rfl)), (by rw [← HPL.out]; exact place_any u F p X t i (HL0.out.kept hk) hlen)⟩) ?_
  exact fz
 intro w1 k1
 simp only [F8]
 refine l_val (.int .i64 (k : Int)) rfl (exec_assign _ _ rfl (by kernel_rfl)) ?_
 simp only [Act.put, sA, sS, sZ]
 refine wpList_nil ?_
 have HB1 := Lib.hid (HB.out.kept k1)
 have HE1 := Lib.hid (range_kept HE.out k1)
 go_upto_region 2 with fail
 refine wE 19 [iV (k : Int), bV false, bV false, iV q, bV true, bV true, bV true, undef, undef, undef, undef, undef, undef, undef, undef, undef, undef, undef, bV true] [15,16,17,18,19,20,21,22,23,24,25,26,27,28,29,30,31,32,33] ?_ ?_
 ·refine mE 1 9 ?_
  refine aS 2 rfl (fun a u E D hk=>exec_ltn rfl (dD D 0) rfl) (decide_eq_false (by omega)) ?_
  refine mD 3 16 1 ?_
  refine mE 4 3 ?_
  refine aS 5 rfl (fun a u E D hk=>exec_ltn rfl (dD D 3) rfl) (decide_eq_true (by omega)) ?_
  refine sW 6 rfl (fun a u E D hk=>exec_pickF _ _ _ _ rfl (dD D 2) (dD D 4)) ?_
  refine mD 7 20 5 ?_
  refine kS 8 6 ?_
  refine kS 9 6 ?_
  refine kS 10 6 ?_
  refine kS 11 6 ?_
  refine kS 12 6 ?_
  refine kS 13 6 ?_
  refine kS 14 6 ?_
  refine kS 15 6 ?_
  refine kS 16 6 ?_
  refine kS 17 6 ?_
  refine kS 18 6 ?_
  refine sW 19 rfl (fun a u E D hk=>exec_pick _ _ _ _ rfl (dD D 6) rfl) ?_
  exact fz
 intro w2 k2
 simp only [F8]
 go_wp2
 go_ret
 exact ⟨by rw [HR.out]; rfl, by rw [HR.out]; exact HL0.out.kept (k1.trans k2), (Keep.mono (T := F) (k1.trans k2) (fun _ _ h => h.elim)), fun _ => k1.trans k2⟩
set_option maxRecDepth 100000 in
set_option maxHeartbeats 800000 in
theorem less_high (w : World) (F : Nat → Prop) (p : Nat) (X : List Ent) (t i q : Int) (h : Lvl pr 96 98 w F p X) (hlen : X.length ≤ 100000000) (e : Ent) (he : X[idxM t i X]? = some e) (hq : 1 ≤ q) (hq2 : ¬ q ≤ e.o.qty) : Calls Try.prog 65 #[.pointer (some ⟨p, 0, none⟩), .int .i64 t, .int .i64 i, .int .i64 q] w fun r w' => r = .returned (.bool (lessM t i q X).1) ∧ Lvl pr 96 98 w' F p (lessM t i q X).2 ∧ Keep F w w' ∧ ((lessM t i q X).1 = false → Kept w w') := by
 have HR : Hid (lessM t i q X = (false, X)) := by
  show _ = _
  unfold lessM
  rw [he]
  simp only
  rw [if_neg (fun h => hq2 h.2)]
 obtain ⟨k, hkk⟩ : ∃ k, idxM t i X = k := ⟨_, rfl⟩
 rw [hkk] at he
 obtain ⟨n, hn⟩ : ∃ n, X.length = n := ⟨_, rfl⟩
 have hkn : k < n := by rw [← hn]; exact (List.getElem?_eq_some_iff.1 he).1
 have HPL : Hid (placeM t i X = (k : Int)) := by show _ = _; unfold placeM; rw [hkk, if_pos (by rw [hn]; exact hkn)]
 have hn1 : n ≤ 100000000 := by omega
 have HL0 := Lib.hid h
 obtain ⟨h1, h2, v, hB, hS, h5⟩ := h
 rw [hn] at hS
 obtain ⟨g, off, c, rfl⟩ := hS.some_ (by omega)
 have HE : Hid (w.rangeAt g (off + k * 10) e.cells) := hS.rng k e he
 have HB := Lib.hid hB
 have HS := Lib.hid hS
 have H1 := Lib.hid h1
 have H2 := Lib.hid h2
 have H5 := Lib.hid h5
 have HEI := Lib.hid he
 have HN := Lib.hid hn
 clear hB hS h5 h1 h2 he hn
 go_enter Try.func65, Try.ntmps65
 go_upto_region 1 with fail
 refine wEp 4 [pV p 0, iV t, iV i, iV (k : Int)] [11,12,13,14] ?_ ?_
 ·refine mE 1 0 ?_
  refine mE 2 1 ?_
  refine mE 3 2 ?_
  refine cS 4 73 [.pointer (some ⟨p, 0, none⟩), .int .i64 t, .int .i64 i] rfl Try.func73 rfl (fun a u E D hk=>⟨ll (dD D 0) (ll (dD D 1) (ll (dD D 2) rfl)), (by rw [← HPL.out]; exact place_any u F p X t i (HL0.out.kept hk) hlen)⟩) ?_
  exact fz
 intro w1 k1
 simp only [F8]
 refine l_val (.int .i64 (k : Int)) rfl (exec_assign _ _ rfl (by kernel_rfl)) ?_
 simp only [Act.put, sA, sS, sZ]
 refine wpList_nil ?_
 have HB1 := Lib.hid (HB.out.kept k1)
 have HE1 := Lib.hid (range_kept HE.out k1)
 go_upto_region 2 with fail
 refine wE 19 [iV (k : Int), bV false, bV false, iV q, bV false, bV false, bV false, iV q, pV p 0, pV p 0, pV p 1, .slice (some ⟨g, off, none⟩) n c, iV (k : Int), pV g (off + k * 10), pV g (off + k * 10), pV g (off + k * 10 + 6), iV e.o.qty, bV true, bV true] [15,16,17,18,19,20,21,22,23,24,25,26,27,28,29,30,31,32,33] ?_ ?_
 ·refine mE 1 9 ?_
  refine aS 2 rfl (fun a u E D hk=>exec_ltn rfl (dD D 0) rfl) (decide_eq_false (by omega)) ?_
  refine mD 3 16 1 ?_
  refine mE 4 3 ?_
  refine aS 5 rfl (fun a u E D hk=>exec_ltn rfl (dD D 3) rfl) (decide_eq_false (by omega)) ?_
  refine sW 6 rfl (fun a u E D hk=>exec_pickF _ _ _ _ rfl (dD D 2) (dD D 4)) ?_
  refine mD 7 20 5 ?_
  refine mE 8 3 ?_
  refine mE 9 0 ?_
  refine nD 10 23 8 ?_
  refine fD 11 24 9 96 1 1 0 ?_
  refine sW 12 rfl (fun a u E D hk=>exec_ldv _ _ Try.underlying94 _ _ _ rfl (dD D 10) (by rw [(HB1.out.kept hk).cell]; rfl)) ?_
  refine mE 13 9 ?_
  refine sW 14 rfl (fun a u E D hk=>exec_ixo slE _ _ (g) (off) n c k (off + k * 10) ((k : Int)) rfl (dD D 11) (dD D 12) (by first | rfl | omega) (hkn) (by first | rfl | omega)) ?_
  refine fD 15 28 13 98 0 0 (off + k * 10) ?_
  refine fD 16 29 14 24 6 6 (off + k * 10) ?_
  refine lD 17 30 15 Try.underlying3 (fun u hk=>range_int (range_kept HE1.out hk) 6 _ rfl) ?_
  refine aS 18 rfl (fun a u E D hk=>exec_gtn rfl (dD D 7) (dD D 16)) (decide_eq_true (by omega)) ?_
  refine sW 19 rfl (fun a u E D hk=>exec_pickF _ _ _ _ rfl (dD D 6) (dD D 17)) ?_
  exact fz
 intro w2 k2
 simp only [F8]
 go_wp2
 go_ret
 exact ⟨by rw [HR.out]; rfl, by rw [HR.out]; exact HL0.out.kept (k1.trans k2), (Keep.mono (T := F) (k1.trans k2) (fun _ _ h => h.elim)), fun _ => k1.trans k2⟩
set_option maxRecDepth 100000 in
set_option maxHeartbeats 800000 in
theorem less_yes (w : World) (F : Nat → Prop) (p : Nat) (X : List Ent) (t i q : Int) (h : Lvl pr 96 98 w F p X) (hlen : X.length ≤ 100000000) (e : Ent) (he : X[idxM t i X]? = some e) (hq : 1 ≤ q) (hq2 : q ≤ e.o.qty) : Calls Try.prog 65 #[.pointer (some ⟨p, 0, none⟩), .int .i64 t, .int .i64 i, .int .i64 q] w fun r w' => r = .returned (.bool (lessM t i q X).1) ∧ Lvl pr 96 98 w' F p (lessM t i q X).2 ∧ Keep F w w' ∧ ((lessM t i q X).1 = false → Kept w w') := by
 have HR : Hid (lessM t i q X = (true, X.set (idxM t i X) ⟨e.o.q q, mn e.n q⟩)) := by
  show _ = _
  unfold lessM
  rw [he]
  simp only
  rw [if_pos ⟨hq, hq2⟩]
 obtain ⟨k, hkk⟩ : ∃ k, idxM t i X = k := ⟨_, rfl⟩
 rw [hkk] at he HR
 obtain ⟨n, hn⟩ : ∃ n, X.length = n := ⟨_, rfl⟩
 have hkn : k < n := by rw [← hn]; exact (List.getElem?_eq_some_iff.1 he).1
 have HPL : Hid (placeM t i X = (k : Int)) := by show _ = _; unfold placeM; rw [hkk, if_pos (by rw [hn]; exact hkn)]
 have hn1 : n ≤ 100000000 := by omega
 have HL0 := Lib.hid h
 obtain ⟨h1, h2, v, hB, hS, h5⟩ := h
 rw [hn] at hS
 obtain ⟨g, off, c, rfl⟩ := hS.some_ (by omega)
 have HE : Hid (w.rangeAt g (off + k * 10) e.cells) := hS.rng k e he
 have HB := Lib.hid hB
 have HS := Lib.hid hS
 have H1 := Lib.hid h1
 have H2 := Lib.hid h2
 have H5 := Lib.hid h5
 have HEI := Lib.hid he
 have HN := Lib.hid hn
 clear hB hS h5 h1 h2 he hn
 have hgp : g ≠ p := (H5.out g rfl).2
 go_enter Try.func65, Try.ntmps65
 go_upto_region 1 with fail
 refine wEp 4 [pV p 0, iV t, iV i, iV (k : Int)] [11,12,13,14] ?_ ?_
 ·refine mE 1 0 ?_
  refine mE 2 1 ?_
  refine mE 3 2 ?_
  refine cS 4 73 [.pointer (some ⟨p, 0, none⟩), .int .i64 t, .int .i64 i] rfl Try.func73 rfl (fun a u E D hk=>⟨ll (dD D 0) (ll (dD D 1) (ll (dD D 2) rfl)), (by rw [← HPL.out]; exact place_any u F p X t i (HL0.out.kept hk) hlen)⟩) ?_
  exact fz
 intro w1 k1
 simp only [F8]
 refine l_val (.int .i64 (k : Int)) rfl (exec_assign _ _ rfl (by kernel_rfl)) ?_
 simp only [Act.put, sA, sS, sZ]
 refine wpList_nil ?_
 have HB1 := Lib.hid (HB.out.kept k1)
 have HE1 := Lib.hid (range_kept HE.out k1)
 go_upto_region 2 with fail
 refine wE 19 [iV (k : Int), bV false, bV false, iV q, bV false, bV false, bV false, iV q, pV p 0, pV p 0, pV p 1, .slice (some ⟨g, off, none⟩) n c, iV (k : Int), pV g (off + k * 10), pV g (off + k * 10), pV g (off + k * 10 + 6), iV e.o.qty, bV false, bV false] [15,16,17,18,19,20,21,22,23,24,25,26,27,28,29,30,31,32,33] ?_ ?_
 ·refine mE 1 9 ?_
  refine aS 2 rfl (fun a u E D hk=>exec_ltn rfl (dD D 0) rfl) (decide_eq_false (by omega)) ?_
  refine mD 3 16 1 ?_
  refine mE 4 3 ?_
  refine aS 5 rfl (fun a u E D hk=>exec_ltn rfl (dD D 3) rfl) (decide_eq_false (by omega)) ?_
  refine sW 6 rfl (fun a u E D hk=>exec_pickF _ _ _ _ rfl (dD D 2) (dD D 4)) ?_
  refine mD 7 20 5 ?_
  refine mE 8 3 ?_
  refine mE 9 0 ?_
  refine nD 10 23 8 ?_
  refine fD 11 24 9 96 1 1 0 ?_
  refine sW 12 rfl (fun a u E D hk=>exec_ldv _ _ Try.underlying94 _ _ _ rfl (dD D 10) (by rw [(HB1.out.kept hk).cell]; rfl)) ?_
  refine mE 13 9 ?_
  refine sW 14 rfl (fun a u E D hk=>exec_ixo slE _ _ (g) (off) n c k (off + k * 10) ((k : Int)) rfl (dD D 11) (dD D 12) (by first | rfl | omega) (hkn) (by first | rfl | omega)) ?_
  refine fD 15 28 13 98 0 0 (off + k * 10) ?_
  refine fD 16 29 14 24 6 6 (off + k * 10) ?_
  refine lD 17 30 15 Try.underlying3 (fun u hk=>range_int (range_kept HE1.out hk) 6 _ rfl) ?_
  refine aS 18 rfl (fun a u E D hk=>exec_gtn rfl (dD D 7) (dD D 16)) (decide_eq_false (by omega)) ?_
  refine sW 19 rfl (fun a u E D hk=>exec_pickF _ _ _ _ rfl (dD D 6) (dD D 17)) ?_
  exact fz
 intro w2 k2
 simp only [F8]
 have k12 := k1.trans k2
 have HB2 := Lib.hid (HB.out.kept k12)
 clear HB1 HE1 k1 k2 HE
 go_upto_region 4 with fail
 refine wE 7 [pV p 0, pV p 0, pV p 1, .slice (some ⟨g, off, none⟩) n c, iV (k : Int), pV g (off + k * 10), pV g (off + k * 10)] [34,35,36,37,38,39,10] ?_ ?_
 ·refine mE 1 0 ?_
  refine nD 2 34 0 ?_
  refine fD 3 35 1 96 1 1 0 ?_
  refine sW 4 rfl (fun a u E D hk=>exec_ldv _ _ Try.underlying94 _ _ _ rfl (dD D 2) (by rw [(HB2.out.kept hk).cell]; rfl)) ?_
  refine mE 5 9 ?_
  refine sW 6 rfl (fun a u E D hk=>exec_ixo slE _ _ (g) (off) n c k (off + k * 10) ((k : Int)) rfl (dD D 3) (dD D 4) (by first | rfl | omega) (hkn) (by first | rfl | omega)) ?_
  refine mD 7 39 5 ?_
  exact fz
 intro w3 k3
 simp only [F8]
 have kw3 := k12.trans k3
 have HS3 := Lib.hid (HS.out.kept kw3)
 have HB3 := Lib.hid (HB.out.kept kw3)
 have z3 := kw3.size
 clear HS HB HB2 k12 k3
 go_upto_region 5 with fail
 refine wEp 5 [pV g (off + k * 10), iV q, pV g (off + k * 10), pV g (off + k * 10), pV g (off + k * 10 + 6)] [40,41,42,43,44] ?_ ?_
 ·refine mE 1 10 ?_
  refine mE 2 3 ?_
  refine nD 3 40 0 ?_
  refine fD 4 42 2 98 0 0 (off + k * 10) ?_
  refine fD 5 43 3 24 6 6 (off + k * 10) ?_
  exact fz
 intro w4 k4
 simp only [F8]
 refine l_rowi 98 g off n c k 6 X e ⟨e.o.q q, e.n⟩ q ⟨g, off + k * 10 + 6, none⟩ _ _ rfl rfl (by kernel_rfl) (by kernel_rfl) (by rw [Nat.add_assoc]) (HS3.out.kept k4) HN.out.symm HEI.out (by omega) rfl ?_
 intro w5 hS5 hk5 hs5
 simp only [Act.put]
 refine wpList_nil ?_
 have HE5I : Hid ((X.set k ⟨e.o.q q, e.n⟩)[k]? = some ⟨e.o.q q, e.n⟩) := by
  show _ = _
  rw [List.getElem?_set_self (by rw [HN.out]; exact hkn)]
 have HS5 := Lib.hid hS5
 have HE5 : Hid (w5.rangeAt g (off + k * 10) (Ent.mk (e.o.q q) e.n).cells) := hS5.rng k _ HE5I.out
 have z5 : w.heap.size ≤ w5.heap.size := by have := k4.size; omega
 have K5 : Keep (· = g) w w5 := (Keep.mono (T := (· = g)) (kw3.trans k4) (fun _ _ h => h.elim)).trans hk5 (fun _ _ h => h)
 have HB5 := Lib.hid ((HB3.out.kept k4).keep hk5 (fun e => hgp e.symm))
 clear hS5 hk5 k4 kw3 HS3 HB3
 go_upto_region 6 with fail
 refine wEp 9 [pV g (off + k * 10), pV g (off + k * 10), pV g (off + k * 10), pV g (off + k * 10 + 9), iV ((Ent.mk (e.o.q q) e.n).n), iV q, iV (mn e.n q), pV g (off + k * 10), pV g (off + k * 10 + 9)] [45,46,47,48,49,50,51,52,53] ?_ ?_
 ·refine mE 1 10 ?_
  refine mE 2 10 ?_
  refine nD 3 46 1 ?_
  refine fD 4 47 2 98 1 9 (off + k * 10) ?_
  refine lD 5 48 3 Try.underlying3 (fun u hk=>range_int (range_kept HE5.out hk) 9 _ rfl) ?_
  refine mE 6 3 ?_
  refine sW 7 rfl (fun a u E D hk=>exec_min _ _ _ e.n q (mn e.n q) rfl (dD D 4) (dD D 5) rfl) ?_
  refine nD 8 45 0 ?_
  refine fD 9 52 7 98 1 9 (off + k * 10) ?_
  exact fz
 intro w6 k6
 simp only [F8]
 refine l_rowi 98 g off n c k 9 (X.set k ⟨e.o.q q, e.n⟩) ⟨e.o.q q, e.n⟩ ⟨e.o.q q, mn e.n q⟩ (mn e.n q) ⟨g, off + k * 10 + 9, none⟩ _ _ rfl rfl (by kernel_rfl) (by kernel_rfl) (by rw [Nat.add_assoc]) (HS5.out.kept k6) (by rw [List.length_set]; exact HN.out.symm) HE5I.out (by omega) rfl ?_
 intro w7 hS7 hk7 hs7
 simp only [Act.put]
 refine wpList_nil ?_
 go_wp2
 go_ret
 have z7 := k6.size
 have K7 : Keep (· = g) w w7 := (K5.kept k6).trans hk7 (fun _ _ h => h)
 have hgF := (H5.out g rfl).1
 refine ⟨by rw [HR.out]; rfl, ?_, K7.mono (fun b _ hb => by subst hb; exact hgF), fun h => by rw [HR.out] at h; cases h⟩
 rw [HR.out]
 refine ⟨H1.out, fun b hb => by have := H2.out b hb; omega, _, (HB5.out.kept k6).keep hk7 (fun e => hgp e.symm), ?_, H5.out⟩
 rw [List.length_set, HN.out]
 rw [List.set_set] at hS7
 exact hS7
theorem less_any (w : World) (F : Nat → Prop) (p : Nat) (X : List Ent) (t i q : Int) (h : Lvl pr 96 98 w F p X) (hlen : X.length ≤ 100000000) : Calls Try.prog 65 #[.pointer (some ⟨p, 0, none⟩), .int .i64 t, .int .i64 i, .int .i64 q] w fun r w' => r = .returned (.bool (lessM t i q X).1) ∧ Lvl pr 96 98 w' F p (lessM t i q X).2 ∧ Keep F w w' ∧ ((lessM t i q X).1 = false → Kept w w') := by
 cases he : X[idxM t i X]? with
 | none => exact less_none w F p X t i q h hlen (fun h => by rw [List.getElem?_eq_getElem h] at he; cases he)
 | some e =>
  by_cases hq : 1 ≤ q
  ·by_cases hq2 : q ≤ e.o.qty
   ·exact less_yes w F p X t i q h hlen e he hq hq2
   ·exact less_high w F p X t i q h hlen e he hq hq2
  ·exact less_low w F p X t i q h hlen e he hq
end Go.Proofs.Ytklohceombpleaa
namespace Go.Proofs.Ytklohceombpleaa
open Go.RowKit
set_option maxRecDepth 100000
variable {pr : Int}
theorem Sl.shrink {w : World} {T : TypeId} {k n c m : Nat} {A : Option Addr} {cs : List Value} (h : Sl w T k (.slice A n c) n cs) (hm : m ≤ n) : Sl w T k (.slice A m c) m (cs.take (m * k)) := by
 obtain ⟨hl1, A', c', e', h1, h2, h3, h4⟩ := h
 injection e' with e1 e2 e3
 subst e1 e3
 have hlk : m * k ≤ n * k := Nat.mul_le_mul_right k hm
 refine ⟨by rw [List.length_take, hl1]; omega, _, c, rfl, by omega, h2, h3, fun ad had => ?_⟩
 obtain ⟨g, off, cur, rfl, hB, h5, h6⟩ := h4 ad had
 refine ⟨g, off, cur, rfl, hB, h5, ?_⟩
 rw [← h6, List.take_take, Nat.min_eq_left hlk]
section
variable {a : Act} {o : Oper} {u : World} {t T : TypeId} {k bytes : Nat}
theorem exec_slcL (ht : SlT t T k bytes) (x y : Operand) (v vr : Value) (L : Int) (hop : o.op = .slice t x (some y) none none) (hx : a.eval x = v) (hy : a.eval y = .int .i64 L) (h : (Instr.slice t v (some (.int .i64 L)) none none).run Try.prog u = .ok vr u) : (execOp a.eval o).run Try.prog u = .ok (.value vr) u :=
 exec_slcS ht x (some y) none none v vr hop hx (by simp only [Option.map_some, Option.map_none, hy]; exact h)
theorem exec_slcH (ht : SlT t T k bytes) (x y : Operand) (v vr : Value) (L : Int) (hop : o.op = .slice t x none (some y) none) (hx : a.eval x = v) (hy : a.eval y = .int .i64 L) (h : (Instr.slice t v none (some (.int .i64 L)) none).run Try.prog u = .ok vr u) : (execOp a.eval o).run Try.prog u = .ok (.value vr) u :=
 exec_slcS ht x none (some y) none v vr hop hx (by simp only [Option.map_some, Option.map_none, hy]; exact h)
theorem exec_slcLH (ht : SlT t T k bytes) (x y z : Operand) (v vr : Value) (L H : Int) (hop : o.op = .slice t x (some y) (some z) none) (hx : a.eval x = v) (hy : a.eval y = .int .i64 L) (hz : a.eval z = .int .i64 H) (h : (Instr.slice t v (some (.int .i64 L)) (some (.int .i64 H)) none).run Try.prog u = .ok vr u) : (execOp a.eval o).run Try.prog u = .ok (.value vr) u :=
 exec_slcS ht x (some y) (some z) none v vr hop hx (by simp only [Option.map_some, Option.map_none, hy, hz]; exact h)
theorem exec_slcLHM (ht : SlT t T k bytes) (x y z m : Operand) (v vr : Value) (L H M : Int) (hop : o.op = .slice t x (some y) (some z) (some m)) (hx : a.eval x = v) (hy : a.eval y = .int .i64 L) (hz : a.eval z = .int .i64 H) (hm : a.eval m = .int .i64 M) (h : (Instr.slice t v (some (.int .i64 L)) (some (.int .i64 H)) (some (.int .i64 M))).run Try.prog u = .ok vr u) : (execOp a.eval o).run Try.prog u = .ok (.value vr) u :=
 exec_slcS ht x (some y) (some z) (some m) v vr hop hx (by simp only [Option.map_some, hy, hz, hm]; exact h)
theorem run_lhm (ht : SlT t T k bytes) (A : Option Addr) (n c l h : Nat) (h1 : l ≤ h) (h2 : h ≤ n) (h3 : n ≤ c) : ∃ v, ∀ u, (Instr.slice t (.slice A n c) (some (.int .i64 (l : Int))) (some (.int .i64 (h : Int))) (some (.int .i64 (n : Int)))).run Try.prog u = .ok v u := by
 obtain ⟨z, hz, hz2, _⟩ := ht.info
 obtain ⟨i0, hi, hz0, hz1, hzb⟩ := info_parts hz
 have hr := fun u => run_slice_lhm (P := Try.prog) (w := u) t A n c (by rw [ht.elem]; exact ht.und) .i64 .i64 .i64 (l : Int) (h : Int) (n : Int) (by omega) (by omega) (by omega) (by omega)
 refine ⟨sliced A l h n k, fun u => ?_⟩
 rw [hr, ht.elem]
 simp [sizeOf, typeInfo, hi, hz1]
theorem run_lh (ht : SlT t T k bytes) (g off n c l h : Nat) (h1 : l < h) (h3 : h ≤ c) (u : World) : (Instr.slice t (.slice (some ⟨g, off, none⟩) n c) (some (.int .i64 (l : Int))) (some (.int .i64 (h : Int))) none).run Try.prog u = .ok (.slice (some ⟨g, off + l * k, none⟩) (h - l) (c - l)) u := by
 obtain ⟨z, hz, hz2, _⟩ := ht.info
 obtain ⟨i0, hi, hz0, hz1, hzb⟩ := info_parts hz
 rw [run_slice_lh (P := Try.prog) (w := u) t (some ⟨g, off, none⟩) n c (by rw [ht.elem]; exact ht.und) .i64 .i64 (l : Int) (h : Int) (by omega) (by omega) (by omega), ht.elem]
 have : ¬ c = l := by omega
 simp [sizeOf, typeInfo, hi, hz1, sliced, this, Addr.add_mid]
theorem exec_clr1 (ht : SlT t T k bytes) (z : List Value) (hz0 : ∀ w, (zeroValue T).run Try.prog w = .ok (.agg z.toArray) w) (hzl : z.length = k) (hz1 : ∀ u ∈ z, u.oneCell' = true) (x : Operand) (g off c : Nat) (hop : o.op = .call { callee := .builtin .clear, args := #[x], argTypes := #[t] }) (hx : a.eval x = .slice (some ⟨g, off, none⟩) 1 c) (hth : u.there g off k) :
  (execOp a.eval o).run Try.prog u = .ok (.value (.tuple #[])) (u.setCells g off z) := by
 have hzc : (Builtin.zeroCells z.toArray 1).toList = z := by
  have hp := ht.pos
  apply List.ext_getElem
  ·simp [Builtin.zeroCells]
  ·intro i h1 h2
   simp [Builtin.zeroCells] at h1 ⊢
   simp [Nat.mod_eq_of_lt h1, h1]
 have hst := run_storeCells_cells (P := Try.prog) g off z 0 u (fun j hj => by simpa using (hth j (by omega)).1) (fun j hj => by simpa using (hth j (by omega)).2) hz1
 simp only [Nat.add_zero] at hst
 have hr : (Builtin.clear_ #[t] o.type #[.slice (some ⟨g, off, none⟩) 1 c]).run Try.prog u = .ok (.tuple #[]) (u.setCells g off z) := by
  simp [Builtin.clear_, run_underlying ht.und, hz0, Value.cells, hzc, hst]
 unfold execOp
 simp only [hop, resolve, invoke, builtin, Sem.run_bind, Sem.run_pure, Result.andThen_ok, List.map_toArray, List.map_cons, List.map_nil, hx, hr]
end
theorem zeroVE (w : World) : (zeroValue 98).run Try.prog w = .ok (.agg zeroE.cells.toArray) w := by kernel_rfl
theorem append_in (g off n c k : Nat) (X : List Ent) (v2 : Value) (w : World) (hS : Sl w 98 10 (.slice (some ⟨g, off, none⟩) n c) n (ents X)) (hn : X.length = n) (hkn : k < n) (hnc : n ≤ c) (h2 : Sl w 98 10 v2 (n - (k + 1)) (ents (X.drop (k + 1)))) (ho : v2.ownBlock = some g) (ty : TypeId) :
  (Builtin.append_ #[94, 94] ty #[.slice (some ⟨g, off, none⟩) k c, v2]).run Try.prog w = .ok (.slice (some ⟨g, off, none⟩) (n - 1) c) (w.setCells g (off + k * 10) (ents (X.drop (k + 1)))) := by
 obtain ⟨z, hz, hz2, _⟩ := slE.info
 obtain ⟨i0, hi, hz0, hz1, hzb⟩ := info_parts hz
 have hl : (ents (X.drop (k + 1))).length = (n - (k + 1)) * 10 := by rw [ents_len, List.length_drop, hn]
 obtain ⟨_, _, _, ht⟩ := hS.setCells (k * 10) (ents (X.drop (k + 1))) (by rw [hl]; omega)
 obtain ⟨hl2, A, d, rfl, _, _, _, h4⟩ := h2
 cases A with
 | none => simp [Value.ownBlock] at ho
 | some ad =>
  obtain ⟨g2, off2, cur2, rfl, hB2, hle2, htk2⟩ := h4 _ rfl
  have hr := run_append_room_cells (P := Try.prog) w 94 ty 98 i0 slE.und hi g off k c ⟨g2, off2, none⟩ (n - (k + 1)) d (ents (X.drop (k + 1))) (by rw [hz1, hl]) (fun j u hu => by rw [Addr.add_mid]; exact seg_cell hB2 htk2 j u hu) (ents_one _) (by omega)
   (fun j hj => by rw [hz1]; exact (ht j hj).1) (fun j hj => by rw [hz1]; exact (ht j hj).2)
  rw [hr, hz1, show k + (n - (k + 1)) = n - 1 by omega]
set_option maxRecDepth 100000 in
set_option maxHeartbeats 1600000 in
theorem delete_any (g off n c k : Nat) (X : List Ent) (w : World) (hS : Sl w 98 10 (.slice (some ⟨g, off, none⟩) n c) n (ents X)) (hn : X.length = n) (hkn : k < n) (hlen : n ≤ 100000000) :
  Calls Try.prog 74 #[.slice (some ⟨g, off, none⟩) n c, .int .i64 (k : Int), .int .i64 ((k : Int) + 1)] w fun r w' => r = .returned (.slice (some ⟨g, off, none⟩) (n - 1) c) ∧ Sl w' 98 10 (.slice (some ⟨g, off, none⟩) (n - 1) c) (n - 1) (ents (X.eraseIdx k)) ∧ Keep (· = g) w w' := by
 have hnc : n ≤ c := by obtain ⟨_, A, c', e', h1, _⟩ := hS; injection e' with _ _ e3; subst e3; exact h1
 obtain ⟨vx, hvx⟩ := run_lhm slE (some ⟨g, off, none⟩) n c k (k + 1) (by omega) (by omega) hnc
 obtain ⟨v1, hv1, ho1, hs1⟩ := slice_hS slE _ n k (by omega) _ w hS
 obtain ⟨v2, hv2, ho2, hs2⟩ := slice_lS slE _ n (k + 1) (by omega) _ w hS
 have e1 : v1 = .slice (some ⟨g, off, none⟩) k c := by
  obtain ⟨z, hz, hz2, _⟩ := slE.info
  obtain ⟨i0, hi, hz0, hz1, hzb⟩ := info_parts hz
  have := hv1 w
  rw [run_slice_h (P := Try.prog) (w := w) 94 (some ⟨g, off, none⟩) n c (by rw [slE.elem]; exact slE.und) .i64 (k : Int) (by omega) (by omega), slE.elem] at this
  simp [sizeOf, typeInfo, hi, hz1, sliced, Addr.add] at this
  exact this.symm
 subst e1
 have HX2 : Hid (∀ w, Sl w 98 10 (.slice (some ⟨g, off, none⟩) n c) n (ents X) → Sl w 98 10 v2 (n - (k + 1)) (ents (X.drop (k + 1)))) := fun w h => by
  have := hs2 w _ h
  rw [show (ents X).drop ((k + 1) * 10) = ents (X.drop (k + 1)) from flat_drop Ent.cells 10 Ent.len10 X (k + 1)] at this
  exact this
 have HVX := Lib.hid hvx
 have HV1 := Lib.hid hv1
 have HV2 := Lib.hid hv2
 have HO2 := Lib.hid ho2
 have HS := Lib.hid hS
 have HN := Lib.hid hn
 have hcast : ((k + 1 : Nat) : Int) = (k : Int) + 1 := by omega
 rw [hcast] at HVX HV2
 clear hvx hv1 hv2 ho1 ho2 hs1 hs2 hS hn
 have hne : ((k : Int) == (k : Int) + 1) = false := by simp; omega
 go_enter Try.func74, Try.ntmps74
 go_upto_region 1 with fail
 refine wE 6 [.slice (some ⟨g, off, none⟩) n c, iV (k : Int), iV ((k : Int) + 1), .slice (some ⟨g, off, none⟩) n c, iV (n : Int), vx] [8,9,10,11,12,13] ?_ ?_
 ·refine mE 1 0 ?_
  refine mE 2 1 ?_
  refine mE 3 2 ?_
  refine mE 4 0 ?_
  refine sW 5 rfl (fun a u E D hk=>exec_len _ _ _ slE.und (some ⟨g, off, none⟩) n c rfl (dD D 3)) ?_
  refine sW 6 rfl (fun a u E D hk=>exec_slcLHM slE _ _ _ _ _ vx _ _ _ rfl (dD D 0) (dD D 1) (dD D 2) (dD D 4) (HVX.out u)) ?_
  exact fz
 intro w1 k1
 simp only [F8]
 go_upto_region 2 with fail
 refine wE 3 [iV (k : Int), iV ((k : Int) + 1), bV false] [14,15,16] ?_ ?_
 ·refine mE 1 1 ?_
  refine mE 2 2 ?_
  refine aS 3 rfl (fun a u E D hk=>exec_eqn rfl (dD D 0) (dD D 1)) (decide_eq_false (by omega)) ?_
  exact fz
 intro w2 k2
 simp only [F8]
 clear hne
 go_upto_region 4 with fail
 refine wE 3 [.slice (some ⟨g, off, none⟩) n c, iV (n : Int), iV (n : Int)] [18,19,7] ?_ ?_
 ·refine mE 1 0 ?_
  refine sW 2 rfl (fun a u E D hk=>exec_len _ _ _ slE.und (some ⟨g, off, none⟩) n c rfl (dD D 0)) ?_
  refine mD 3 19 1 ?_
  exact fz
 intro w3 k3
 simp only [F8]
 have kw3 := (k1.trans k2).trans k3
 clear k1 k2 k3
 go_upto_region 5 with fail
 refine wGp 6 [.slice (some ⟨g, off, none⟩) n c, iV (k : Int), .slice (some ⟨g, off, none⟩) k c, .slice (some ⟨g, off, none⟩) n c, iV ((k : Int) + 1), v2] [20,21,22,23,24,25] ?_ ?_
 ·refine mE 1 0 ?_
  refine mE 2 1 ?_
  refine sW 3 rfl (fun a u E D hk=>exec_slcH slE _ _ _ _ _ rfl (dD D 0) (dD D 1) (HV1.out u)) ?_
  refine mE 4 0 ?_
  refine mE 5 2 ?_
  refine sW 6 rfl (fun a u E D hk=>exec_slcL slE _ _ _ v2 _ rfl (dD D 3) (dD D 4) (HV2.out u)) ?_
  exact fz
 intro w4 k4
 simp only [F8]
 have kw4 := kw3.trans k4
 have hS4 := HS.out.kept kw4
 have hX4 := HX2.out w4 hS4
 have hr4 : ∀ ty, (Builtin.append_ #[94, 94] ty #[.slice (some ⟨g, off, none⟩) k c, v2]).run Try.prog w4 = .ok (.slice (some ⟨g, off, none⟩) (n - 1) c) (w4.setCells g (off + k * 10) (ents (X.drop (k + 1)))) := fun ty => append_in g off n c k X v2 w4 hS4 HN.out hkn hnc hX4 (by rw [HO2.out]; rfl) ty
 refine l_new (.slice (some ⟨g, off, none⟩) (n - 1) c) (w4.setCells g (off + k * 10) (ents (X.drop (k + 1)))) rfl (exec_appS slE (.tmp 22) (.tmp 25) (.slice (some ⟨g, off, none⟩) k c) v2 rfl (by kernel_rfl) (by kernel_rfl) _ _ (hr4 _)) ?_
 simp only [Act.put, sA, sS, sZ]
 refine l_val (.slice (some ⟨g, off, none⟩) (n - 1) c) rfl (exec_assign _ _ rfl (by kernel_rfl)) ?_
 simp only [Act.put, List.setIfInBounds_toArray, List.set_cons_zero]
 refine wpList_nil ?_
 have hlenE : (ents (X.drop (k + 1))).length = (n - (k + 1)) * 10 := by rw [ents_len, List.length_drop, HN.out]
 obtain ⟨hS5, hk5, hz5, _⟩ := hS4.setCells (k * 10) (ents (X.drop (k + 1))) (by rw [hlenE]; omega)
 have HS5 : Hid (Sl (w4.setCells g (off + k * 10) (ents (X.drop (k + 1)))) 98 10 (.slice (some ⟨g, off, none⟩) n c) n (ents (X.eraseIdx k ++ X.drop (n - 1)))) := by
  rw [show (ents X).take (k * 10) = ents (X.take k) from flat_take Ent.cells 10 Ent.len10 X k, hlenE, show k * 10 + (n - (k + 1)) * 10 = (n - 1) * 10 by omega, show (ents X).drop ((n - 1) * 10) = ents (X.drop (n - 1)) from flat_drop Ent.cells 10 Ent.len10 X (n - 1)] at hS5
  show Sl _ _ _ _ _ _
  rw [List.eraseIdx_eq_take_drop_succ]
  unfold ents at hS5 ⊢
  rw [List.flatMap_append, List.flatMap_append]
  exact hS5
 have K5 : Keep (· = g) w (w4.setCells g (off + k * 10) (ents (X.drop (k + 1)))) := (Keep.mono (T := (· = g)) kw4 (fun _ _ h => h.elim)).trans hk5 (fun _ _ h => h)
 generalize w4.setCells g (off + k * 10) (ents (X.drop (k + 1))) = w5 at HS5 K5 ⊢
 clear hr4 hX4 hS4 hS5 hk5 hz5 kw4 kw3 k4 HX2 HV1 HV2 HVX HO2 HS hlenE
 obtain ⟨m, hm⟩ : ∃ m, n - 1 = m := ⟨_, rfl⟩
 have hmn : n = m + 1 := by omega
 rw [hm] at HS5 ⊢
 go_upto_region 6 with fail
 refine wEp 5 [.slice (some ⟨g, off, none⟩) m c, .slice (some ⟨g, off, none⟩) m c, iV (m : Int), iV (n : Int), .slice (some ⟨g, off + m * 10, none⟩) (n - m) (c - m)] [27,28,29,30,31] ?_ ?_
 ·refine mE 1 0 ?_
  refine mE 2 0 ?_
  refine sW 3 rfl (fun a u E D hk=>exec_len _ _ _ slE.und (some ⟨g, off, none⟩) m c rfl (dD D 1)) ?_
  refine mE 4 7 ?_
  refine sW 5 rfl (fun a u E D hk=>exec_slcLH slE _ _ _ _ _ _ _ rfl (dD D 0) (dD D 2) (dD D 3) (run_lh slE g off m c m n (by omega) (by omega) u)) ?_
  exact fz
 intro w6 k6
 simp only [F8]
 obtain ⟨hS6, hk6, hz6, ht6⟩ := (HS5.out.kept k6).setCells (m * 10) zeroE.cells (by rw [Ent.len10]; omega)
 rw [Ent.len10] at ht6
 have h1 : n - m = 1 := by omega
 refine l_new (.tuple #[]) (w6.setCells g (off + m * 10) zeroE.cells) rfl (exec_clr1 slE zeroE.cells zeroVE zeroE.len10 zeroE.one (.tmp 31) g (off + m * 10) (c - m) rfl (by rw [← h1]; kernel_rfl) ht6) ?_
 simp only [Act.put]
 refine wpList_nil ?_
 have hS7 : Sl (w6.setCells g (off + m * 10) zeroE.cells) 98 10 (.slice (some ⟨g, off, none⟩) m c) m (ents (X.eraseIdx k)) := by
  have h2 := hS6.shrink (m := m) (by omega)
  have h3 : (X.eraseIdx k).length = m := by rw [List.length_eraseIdx, if_pos (by rw [HN.out]; exact hkn), HN.out]; omega
  rw [List.append_assoc, List.take_append_of_le_length (by rw [List.length_take, ents_len, List.length_append, h3]; omega), List.take_take, Nat.min_self] at h2
  have h4 : (ents (X.eraseIdx k ++ X.drop m)).take (m * 10) = ents (X.eraseIdx k) := by
   rw [show (ents (X.eraseIdx k ++ X.drop m)).take (m * 10) = ents ((X.eraseIdx k ++ X.drop m).take m) from flat_take Ent.cells 10 Ent.len10 _ m, List.take_append_of_le_length (by omega), List.take_of_length_le (by omega)]
  rw [h4] at h2
  exact h2
 have HS7 := Lib.hid hS7
 have K7 : Keep (· = g) w (w6.setCells g (off + m * 10) zeroE.cells) := (K5.kept k6).trans hk6 (fun _ _ h => h)
 generalize w6.setCells g (off + m * 10) zeroE.cells = w7 at HS7 K7 ⊢
 clear hS6 hS7 hk6 hz6 ht6 K5 HS5 k6
 go_wp2
 go_ret
 rw [hm]
 exact ⟨rfl, HS7.out, K7⟩
set_option maxRecDepth 100000 in
set_option maxHeartbeats 800000 in
theorem remove_none (w : World) (F : Nat → Prop) (p : Nat) (X : List Ent) (t i : Int) (h : Lvl pr 96 98 w F p X) (hlen : X.length ≤ 100000000) (hc : ¬ idxM t i X < X.length) : Calls Try.prog 66 #[.pointer (some ⟨p, 0, none⟩), .int .i64 t, .int .i64 i] w fun r w' => r = .returned (.tuple #[(removeM t i X).1.v, .bool (removeM t i X).2.1]) ∧ Lvl pr 96 98 w' F p (removeM t i X).2.2 ∧ Keep F w w' ∧ ((removeM t i X).2.1 = false → Kept w w') := by
 have HR : Hid (removeM t i X = (zeroO, false, X)) := by
  show _ = _
  unfold removeM
  rw [List.getElem?_eq_none (by omega)]
 have HPL : Hid (placeM t i X = -1) := by show _ = _; unfold placeM; rw [if_neg hc]
 have HL := Lib.hid h
 clear h hc
 go_enter Try.func66, Try.ntmps66
 go_upto_region 0 with fail
 refine wp_text 2 [.fresh w.heap.size 24 zeroO.cells, bE false] rfl (by kernel_rfl) ?_ ?_
 ·refine nW 1 rfl (fun a u E D hk=>⟨_, _, exec_alc 24 zeroO.cells rfl zO, ⟨_, rfl, hk.size, Blk.new u _ _⟩, ((Keep.refl _ u).alloc _)⟩) ?_
  refine sW 2 rfl (fun a u E D hk=>exec_assign _ _ rfl rfl) ?_
  exact fz
 intro gv w0 hV k0
 rw [dq 2 [6,7]]
 simp only [Fz7]
 have hv6 : (.fresh w.heap.size 24 zeroO.cells : Kn).p (gv 6) w0 := hV 0 6 (by kernel_rfl)
 generalize gv 6 = v6 at hv6 ⊢
 rw [gQ hV 1 7 (.bool false)]
 clear hV
 obtain ⟨b6, rfl, hb6, hB6⟩ := hv6
 refine wpList_nil ?_
 have HL0 := Lib.hid (HL.out.kept k0)
 have HB6 := Lib.hid hB6
 have l6 := hB6.lt
 clear hB6
 go_upto_region 1 with fail
 refine wEp 4 [pV p 0, iV t, iV i, iV (-1)] [10,11,12,13] ?_ ?_
 ·refine mE 1 0 ?_
  refine mE 2 1 ?_
  refine mE 3 2 ?_
  refine cS 4 73 [.pointer (some ⟨p, 0, none⟩), .int .i64 t, .int .i64 i] rfl Try.func73 rfl (fun a u E D hk=>⟨ll (dD D 0) (ll (dD D 1) (ll (dD D 2) rfl)), (by rw [← HPL.out]; exact place_any u F p X t i (HL0.out.kept hk) hlen)⟩) ?_
  exact fz
 intro w1 k1
 simp only [F8]
 refine l_val (.int .i64 (-1)) rfl (exec_assign _ _ rfl (by kernel_rfl)) ?_
 simp only [Act.put, sA, sS, sZ]
 refine wpList_nil ?_
 have HB61 := Lib.hid (HB6.out.kept k1)
 have kw1 := k0.trans k1
 have z1 := k1.size
 clear HB6 HL0
 go_upto_region 3 with fail
 refine wEp 1 [zeroO.v] [16] ?_ ?_
 ·refine sW 1 rfl (fun a u E D hk=>exec_build 24 [] zeroO.cells rfl (by kernel_rfl)) ?_
  exact fz
 intro w2 k2
 simp only [F8]
 refine l_setS 24 b6 24 zeroO.cells zeroO.cells _ _ rfl rfl (by kernel_rfl) (by kernel_rfl) (HB61.out.kept k2) (by rw [Ord.len9]; exact ord_size) rfl (Ord.one1 _) ?_
 intro w3 hB3 hk3 hs3
 simp only [Act.put]
 refine l_val (.bool false) rfl (exec_assign _ _ rfl (by kernel_rfl)) ?_
 simp only [Act.put, sA, sS, sZ]
 refine wpList_nil ?_
 go_wp2
 refine bodyPost_ret (results_cell2 (p := 6) (q := 7) rfl _ _ b6 _ zeroO.cells false rfl rfl hB3 Try.underlying24 (by rw [Ord.len9]; exact ord_size)) rfl ?_
 have kw3 : Kept w w3 := (kw1.trans k2).trans' hk3 (by omega)
 exact ⟨by rw [HR.out]; rfl, by rw [HR.out]; exact HL.out.kept kw3, Keep.mono (T := F) kw3 (fun _ _ h => h.elim), fun _ => kw3⟩
set_option maxRecDepth 100000 in
set_option maxHeartbeats 800000 in
theorem remove_yes (w : World) (F : Nat → Prop) (p : Nat) (X : List Ent) (t i : Int) (h : Lvl pr 96 98 w F p X) (hlen : X.length ≤ 100000000) (e : Ent) (he : X[idxM t i X]? = some e) : Calls Try.prog 66 #[.pointer (some ⟨p, 0, none⟩), .int .i64 t, .int .i64 i] w fun r w' => r = .returned (.tuple #[(removeM t i X).1.v, .bool (removeM t i X).2.1]) ∧ Lvl pr 96 98 w' F p (removeM t i X).2.2 ∧ Keep F w w' ∧ ((removeM t i X).2.1 = false → Kept w w') := by
 have HR : Hid (removeM t i X = (e.o, true, X.eraseIdx (idxM t i X))) := by
  show _ = _
  unfold removeM
  rw [he]
 obtain ⟨k, hkk⟩ : ∃ k, idxM t i X = k := ⟨_, rfl⟩
 rw [hkk] at he HR
 obtain ⟨n, hn⟩ : ∃ n, X.length = n := ⟨_, rfl⟩
 have hkn : k < n := by rw [← hn]; exact (List.getElem?_eq_some_iff.1 he).1
 have HPL : Hid (placeM t i X = (k : Int)) := by show _ = _; unfold placeM; rw [hkk, if_pos (by rw [hn]; exact hkn)]
 have hn1 : n ≤ 100000000 := by omega
 have HL := Lib.hid h
 obtain ⟨h1, h2, v, hB, hS, h5⟩ := h
 rw [hn] at hS
 obtain ⟨g, off, c, rfl⟩ := hS.some_ (by omega)
 have HE : Hid (w.rangeAt g (off + k * 10) e.cells) := hS.rng k e he
 have HB := Lib.hid hB
 have HS := Lib.hid hS
 have H1 := Lib.hid h1
 have H2 := Lib.hid h2
 have H5 := Lib.hid h5
 have HN := Lib.hid hn
 have hgp : g ≠ p := (h5 g rfl).2
 have hgl : g < w.heap.size := h2 g (h5 g rfl).1
 have hpl : p < w.heap.size := h2 p h1
 clear hB hS h5 h1 h2 he hn
 go_enter Try.func66, Try.ntmps66
 go_upto_region 0 with fail
 refine wp_text 2 [.fresh w.heap.size 24 zeroO.cells, bE false] rfl (by kernel_rfl) ?_ ?_
 ·refine nW 1 rfl (fun a u E D hk=>⟨_, _, exec_alc 24 zeroO.cells rfl zO, ⟨_, rfl, hk.size, Blk.new u _ _⟩, ((Keep.refl _ u).alloc _)⟩) ?_
  refine sW 2 rfl (fun a u E D hk=>exec_assign _ _ rfl rfl) ?_
  exact fz
 intro gv w0 hV k0
 rw [dq 2 [6,7]]
 simp only [Fz7]
 have hv6 : (.fresh w.heap.size 24 zeroO.cells : Kn).p (gv 6) w0 := hV 0 6 (by kernel_rfl)
 generalize gv 6 = v6 at hv6 ⊢
 rw [gQ hV 1 7 (.bool false)]
 clear hV
 obtain ⟨b6, rfl, hb6, hB6⟩ := hv6
 refine wpList_nil ?_
 have HL0 := Lib.hid (HL.out.kept k0)
 have HB6 := Lib.hid hB6
 have l6 := hB6.lt
 clear hB6
 go_upto_region 1 with fail
 refine wEp 4 [pV p 0, iV t, iV i, iV (k : Int)] [10,11,12,13] ?_ ?_
 ·refine mE 1 0 ?_
  refine mE 2 1 ?_
  refine mE 3 2 ?_
  refine cS 4 73 [.pointer (some ⟨p, 0, none⟩), .int .i64 t, .int .i64 i] rfl Try.func73 rfl (fun a u E D hk=>⟨ll (dD D 0) (ll (dD D 1) (ll (dD D 2) rfl)), (by rw [← HPL.out]; exact place_any u F p X t i (HL0.out.kept hk) hlen)⟩) ?_
  exact fz
 intro w1 k1
 simp only [F8]
 refine l_val (.int .i64 (k : Int)) rfl (exec_assign _ _ rfl (by kernel_rfl)) ?_
 simp only [Act.put, sA, sS, sZ]
 refine wpList_nil ?_
 have HB61 := Lib.hid (HB6.out.kept k1)
 have kw1 := k0.trans k1
 have z1 := k1.size
 clear HB6 HL0
 have HB1 := Lib.hid (HB.out.kept kw1)
 have HE1 := Lib.hid (range_kept HE.out kw1)
 have z0 := kw1.size
 go_upto_region 4 with fail
 refine wp_text 9 [pE p 0, pE p 0, pE p 1, .eq (.slice (some ⟨g, off, none⟩) n c), iE (k : Int), pE g (off + k * 10), pE g (off + k * 10), .eq (e.o.v), .fresh w1.heap.size 24 zeroO.cells] rfl (by kernel_rfl) ?_ ?_
 ·refine mE 1 0 ?_
  refine nD 2 17 0 ?_
  refine fD 3 18 1 96 1 1 0 ?_
  refine sW 4 rfl (fun a u E D hk=>exec_ldv _ _ Try.underlying94 _ _ _ rfl (dD D 2) (by rw [(HB1.out.kept hk).cell]; rfl)) ?_
  refine mE 5 8 ?_
  refine sW 6 rfl (fun a u E D hk=>exec_ixo slE _ _ (g) (off) n c k (off + k * 10) ((k : Int)) rfl (dD D 3) (dD D 4) (by first | rfl | omega) (hkn) (by first | rfl | omega)) ?_
  refine fD 7 22 5 98 0 0 (off + k * 10) ?_
  refine sD 8 23 6 e.o.cells Try.underlying24 (fun u hk=>ent_ord (range_kept HE1.out hk)) (by rw [e.o.len9]; exact ord_size) ?_
  refine nW 9 rfl (fun a u E D hk=>⟨_, _, exec_alc 24 zeroO.cells rfl zO, ⟨_, rfl, hk.size, Blk.new u _ _⟩, ((Keep.refl _ u).alloc _)⟩) ?_
  exact fz
 intro gv w2 hV k2
 rw [dq 9 [17,18,19,20,21,22,23,24,9]]
 simp only [Fz7]
 have hv9 : (.fresh w1.heap.size 24 zeroO.cells : Kn).p (gv 9) w2 := hV 8 9 (by kernel_rfl)
 generalize gv 9 = v9 at hv9 ⊢
 rw [gQ hV 7 24 e.o.v]
 clear hV
 obtain ⟨b9, rfl, hb9, hB9⟩ := hv9
 refine l_setS 24 b9 24 zeroO.cells e.o.cells _ _ rfl rfl (by kernel_rfl) (by kernel_rfl) hB9 (by rw [Ord.len9]; exact ord_size) (by rw [Ord.len9, Ord.len9]) (Ord.one1 _) ?_
 intro w3 hC3 hk3 hs3
 simp only [Act.put]
 refine wpList_nil ?_
 have k13 : Kept w1 w3 := k2.trans' hk3 (by omega)
 have kw3 := kw1.trans k13
 have HB3 := Lib.hid (HB.out.kept kw3)
 have HS3 := Lib.hid (HS.out.kept kw3)
 have HC3 := Lib.hid hC3
 have HB63 := Lib.hid (HB61.out.kept k13)
 have l9 := hC3.lt
 have z3 := k13.size
 clear hB9 hC3 hk3 k2 HB1 HE1 HE HB HS kw1 HB61 k13 hs3
 go_upto_region 5 with fail
 refine wEp 8 [pV p 0, pV p 0, pV p 0, pV p 1, .slice (some ⟨g, off, none⟩) n c, iV (k : Int), iV (k : Int), iV ((k : Int) + 1)] [25,26,27,28,29,30,31,32] ?_ ?_
 ·refine mE 1 0 ?_
  refine mE 2 0 ?_
  refine nD 3 26 1 ?_
  refine fD 4 27 2 96 1 1 0 ?_
  refine sW 5 rfl (fun a u E D hk=>exec_ldv _ _ Try.underlying94 _ _ _ rfl (dD D 3) (by rw [(HB3.out.kept hk).cell]; rfl)) ?_
  refine mE 6 8 ?_
  refine mE 7 8 ?_
  refine sW 8 rfl (fun a u E D hk=>exec_addn ((k : Int) + 1) rfl (dD D 6) rfl rfl (by omega) (by omega)) ?_
  exact fz
 intro w4 k4
 simp only [F8]
 refine l_call 74 #[.slice (some ⟨g, off, none⟩) n c, .int .i64 (k : Int), .int .i64 ((k : Int) + 1)] rfl (exec_call 74 _ [.tmp 29, .tmp 30, .tmp 32] _ _ Try.func74 (by kernel_rfl) (by kernel_rfl) rfl (by kernel_rfl) _) ?_
 refine (delete_any g off n c k X w4 (HS3.out.kept k4) HN.out hkn hn1).mono ?_
 rintro r w5 ⟨rfl, hS5, hk5⟩
 refine ⟨_, rfl, ?_⟩
 simp only [Act.put, sA, sS, sZ]
 refine l_val (.pointer (some ⟨p, 0, none⟩)) rfl (exec_nilp (.tmp 25) ⟨p, 0, none⟩ rfl (by kernel_rfl)) ?_
 simp only [Act.put, sA, sS, sZ]
 refine l_val (.pointer (some ⟨p, 1, none⟩)) rfl (exec_fldo 96 1 1 (.tmp 34) (p) (0) (1) rfl (by kernel_rfl) (by kernel_rfl) rfl) ?_
 simp only [Act.put, sA, sS, sZ]
 refine l_st1 94 p 1 96 _ (.slice (some ⟨g, off, none⟩) (n - 1) c) _ _ rfl rfl (by kernel_rfl) (by kernel_rfl) (by kernel_rfl) rfl rfl ((HB3.out.kept k4).keep hk5 (fun e => hgp e.symm)) (by simp) ?_
 intro w6 hB6' hk6 hs6
 simp only [Act.put]
 refine wpList_nil ?_
 have z4 := k4.size
 have z5 := hk5.size
 have K5 : Keep (· = g) w w5 := (Keep.mono (T := (· = g)) (kw3.trans k4) (fun _ _ h => h.elim)).trans hk5 (fun _ _ h => h)
 have hgF := (H5.out g rfl).1
 have K6 : Keep F w w6 := (Keep.mono (T := F) K5 (fun b _ hb => by subst hb; exact hgF)).trans hk6 (fun b _ hb => by subst hb; exact H1.out)
 have HLE : Hid ((X.eraseIdx k).length = n - 1) := by show _ = _; rw [List.length_eraseIdx, if_pos (by rw [HN.out]; exact hkn), HN.out]
 have HL6 : Hid (Lvl pr 96 98 w6 F p (X.eraseIdx k)) := ⟨H1.out, fun b hb => by have := H2.out b hb; omega, _, hB6', by rw [HLE.out]; exact hS5.keep hk6 (fun b hb e => by simp [Value.ownBlock] at hb; omega), H5.out⟩
 have HC6 := Lib.hid (blk_range (((HC3.out.kept k4).keep hk5 (by omega)).keep hk6 (by omega)))
 have HB66 := Lib.hid (((HB63.out.kept k4).keep hk5 (by omega)).keep hk6 (by omega))
 clear hS5 hk5 hB6' hk6 K5 HB3 HS3 HC3 HB63 k4 kw3
 go_upto_region 6 with fail
 refine wEp 1 [e.o.v] [36] ?_ ?_
 ·refine sE 1 9 b9 0 e.o.cells Try.underlying24 (fun u hk=>range_kept HC6.out hk) (by rw [e.o.len9]; exact ord_size) ?_
  exact fz
 intro w7 k7
 simp only [F8]
 refine l_setS 24 b6 24 zeroO.cells e.o.cells _ _ rfl rfl (by kernel_rfl) (by kernel_rfl) (HB66.out.kept k7) (by rw [Ord.len9]; exact ord_size) (by rw [Ord.len9, Ord.len9]) (Ord.one1 _) ?_
 intro w8 hB8 hk8 hs8
 simp only [Act.put]
 refine l_val (.bool true) rfl (exec_assign _ _ rfl (by kernel_rfl)) ?_
 simp only [Act.put, sA, sS, sZ]
 refine wpList_nil ?_
 go_wp2
 refine bodyPost_ret (results_cell2 (p := 6) (q := 7) rfl _ _ b6 _ e.o.cells true rfl rfl hB8 Try.underlying24 (by rw [Ord.len9]; exact ord_size)) rfl ?_
 have hbF : ¬ F b6 := fun h => by have := H2.out b6 h; omega
 refine ⟨by rw [HR.out]; rfl, by rw [HR.out]; exact (HL6.out.kept k7).keep hk8 (fun b hb e => hbF (by rw [← e]; exact hb)), (K6.kept k7).trans hk8 (fun b hb e => by subst e; omega), fun h => by rw [HR.out] at h; cases h⟩
theorem remove_any (w : World) (F : Nat → Prop) (p : Nat) (X : List Ent) (t i : Int) (h : Lvl pr 96 98 w F p X) (hlen : X.length ≤ 100000000) : Calls Try.prog 66 #[.pointer (some ⟨p, 0, none⟩), .int .i64 t, .int .i64 i] w fun r w' => r = .returned (.tuple #[(removeM t i X).1.v, .bool (removeM t i X).2.1]) ∧ Lvl pr 96 98 w' F p (removeM t i X).2.2 ∧ Keep F w w' ∧ ((removeM t i X).2.1 = false → Kept w w') := by
 cases he : X[idxM t i X]? with
 | none => exact remove_none w F p X t i h hlen (fun h => by rw [List.getElem?_eq_getElem h] at he; cases he)
 | some e => exact remove_yes w F p X t i h hlen e he
end Go.Proofs.Ytklohceombpleaa
namespace Go.Proofs.Ytklohceombpleaa
open Go.RowKit
set_option maxRecDepth 100000
abbrev Zs := List (Nat × Lev)
def ptrs (Z : Zs) : List Value := Z.map fun z => .pointer (some ⟨z.1, 0, none⟩)
def levs (Z : Zs) : List Lev := Z.map (·.2)
theorem ptrs_len (Z : Zs) : (ptrs Z).length = Z.length := by simp [ptrs]
theorem ptrs_one (Z : Zs) : ∀ u ∈ ptrs Z, u.oneCell' = true := by
 intro u hu
 obtain ⟨z, _, rfl⟩ := List.mem_map.1 hu
 rfl
theorem ptrs_append (A B : Zs) : ptrs (A ++ B) = ptrs A ++ ptrs B := by simp [ptrs]
theorem levs_append (A B : Zs) : levs (A ++ B) = levs A ++ levs B := by simp [levs]
theorem levs_cons (z : Nat × Lev) (B : Zs) : levs (z :: B) = z.2 :: levs B := rfl
theorem levs_len (Z : Zs) : (levs Z).length = Z.length := by simp [levs]
structure WayZ (T E P : TypeId) (w : World) (F : Nat → Prop) (v : Value) (Z : Zs) (G : Nat → Nat → Prop) : Prop where
 sl : Sl w P 1 v Z.length (ptrs Z)
 lv : ∀ z ∈ Z, Lvl z.2.1 T E w (G z.1) z.1 z.2.2
 ap : Z.Pairwise fun x y => ∀ b, G x.1 b → ¬ G y.1 b
 in_ : ∀ z ∈ Z, ∀ b, G z.1 b → F b
 own : ∀ b, v.ownBlock = some b → F b ∧ ∀ z ∈ Z, ¬ G z.1 b
 lt : ∀ b, F b → b < w.heap.size
def Way (T E P : TypeId) (w : World) (F : Nat → Prop) (v : Value) (L : List Lev) : Prop := ∃ Z G, levs Z = L ∧ WayZ T E P w F v Z G
section
variable {T E P : TypeId} {w w' : World} {F : Nat → Prop} {v : Value} {Z : Zs} {G : Nat → Nat → Prop}
theorem WayZ.keep {S : Nat → Prop} (h : WayZ T E P w F v Z G) (hk : Keep S w w') (hn : ∀ b, F b → ¬ S b) : WayZ T E P w' F v Z G :=
 ⟨h.sl.keep hk (fun b hb => hn b (h.own b hb).1), fun z hz => (h.lv z hz).keep hk (fun b hb => hn b (h.in_ z hz b hb)), h.ap, h.in_, h.own, fun b hb => Nat.lt_of_lt_of_le (h.lt b hb) hk.size⟩
theorem WayZ.kept (h : WayZ T E P w F v Z G) (hk : Kept w w') : WayZ T E P w' F v Z G := h.keep hk (fun _ _ h => h)
theorem Way.keep {S : Nat → Prop} {L : List Lev} (h : Way T E P w F v L) (hk : Keep S w w') (hn : ∀ b, F b → ¬ S b) : Way T E P w' F v L := by
 obtain ⟨Z, G, e, h⟩ := h
 exact ⟨Z, G, e, h.keep hk hn⟩
theorem Way.kept {L : List Lev} (h : Way T E P w F v L) (hk : Kept w w') : Way T E P w' F v L := h.keep hk (fun _ _ h => h)
theorem Way.lt {L : List Lev} (h : Way T E P w F v L) : ∀ b, F b → b < w.heap.size := by
 obtain ⟨Z, G, e, h⟩ := h
 exact h.lt
theorem WayZ.nil (w : World) : WayZ T E P w (fun _ => False) (.slice none 0 0) [] G := ⟨Sl.nil _ _ _, by simp, List.Pairwise.nil, by simp, fun b hb => by simp [Value.ownBlock] at hb, fun b h => h.elim⟩
theorem Way.nil (w : World) : Way T E P w (fun _ => False) (.slice none 0 0) [] := ⟨[], fun _ _ => False, rfl, WayZ.nil w⟩
theorem WayZ.cell {gs os n c : Nat} (h : WayZ T E P w F (.slice (some ⟨gs, os, none⟩) n c) Z G) {i : Nat} {z : Nat × Lev} (hz : Z[i]? = some z) : w.cell? ⟨gs, os + i * 1, none⟩ = some (.pointer (some ⟨z.1, 0, none⟩)) := by
 obtain ⟨hl, A, c', e', h1, h2, h3, h4⟩ := h.sl
 injection e' with e1 e2 e3
 subst e1 e3
 obtain ⟨g', off', cur, e, hB, h5, h6⟩ := h4 _ rfl
 injection e with e1 e2
 subst e1 e2
 rw [Nat.mul_one]
 exact seg_cell hB h6 i _ (by rw [ptrs, List.getElem?_map, hz]; rfl)
theorem WayZ.some_ (h : WayZ T E P w F v Z G) (hn : 0 < Z.length) : ∃ g off c, v = .slice (some ⟨g, off, none⟩) Z.length c := h.sl.some_ hn
theorem WayZ.apart {A R : Zs} {z : Nat × Lev} (h : WayZ T E P w F v (A ++ z :: R) G) : ∀ x ∈ A ++ R, ∀ b, G x.1 b → ¬ G z.1 b := by
 have h1 := h.ap
 rw [List.pairwise_append, List.pairwise_cons] at h1
 obtain ⟨_, ⟨h2, _⟩, h3⟩ := h1
 intro x hx b hb hz
 rcases List.mem_append.1 hx with hx | hx
 ·exact h3 x hx z (by simp) b hb hz
 ·exact h2 x hx b hz hb
theorem WayZ.ne_ {A R : Zs} {z : Nat × Lev} (h : WayZ T E P w F v (A ++ z :: R) G) : ∀ x ∈ A ++ R, x.1 ≠ z.1 := fun x hx e => by
 have h1 := (h.lv x (by rcases List.mem_append.1 hx with hx | hx <;> simp [hx])).1
 exact h.apart x hx x.1 h1 (by rw [e]; exact (h.lv z (by simp)).1)
theorem WayZ.turn {A R : Zs} {q : Nat} {pr : Int} {X X' : List Ent} {F1 : Nat → Prop} (h : WayZ T E P w F v (A ++ (q, pr, X) :: R) G) (hk : Keep (G q) w w') (h1 : Lvl pr T E w' F1 q X') (hg : Grow w (G q) F1) :
  ∃ F' G', WayZ T E P w' F' v (A ++ (q, pr, X') :: R) G' ∧ Grow w F F' ∧ Keep F w w' ∧ (∀ b, F b → F' b) := by
 have hq := h.lv (q, pr, X) (by simp)
 have hap := h.apart
 have hne := h.ne_
 simp only at hap hne
 have hin : ∀ b, G q b → F b := h.in_ (q, pr, X) (by simp)
 have hmem : ∀ x ∈ A ++ R, x ∈ A ++ (q, pr, X) :: R := fun x hx => by rcases List.mem_append.1 hx with hx | hx <;> simp [hx]
 have hnew : ∀ x ∈ A ++ R, ∀ b, G x.1 b → ¬ F1 b := fun x hx b hb hF => by
  rcases hg b hF with h' | h'
  ·exact hap x hx b hb h'
  ·have := h.lt b (h.in_ x (hmem x hx) b hb); omega
 refine ⟨fun b => F b ∨ F1 b, fun p b => if p = q then F1 b else G p b, ⟨?_, ?_, ?_, ?_, ?_, ?_⟩, ?_, hk.mono (fun b _ hb => hin b hb), fun b hb => .inl hb⟩
 ·have e : ptrs (A ++ (q, pr, X') :: R) = ptrs (A ++ (q, pr, X) :: R) := by simp [ptrs]
  have e2 : (A ++ (q, pr, X') :: R).length = (A ++ (q, pr, X) :: R).length := by simp
  rw [e, e2]
  exact h.sl.keep hk (fun b hb => (h.own b hb).2 (q, pr, X) (by simp))
 ·intro x hx
  by_cases hxe : x = (q, pr, X')
  ·subst hxe
   simp only [if_true]
   exact h1
  ·have hx' : x ∈ A ++ R := by
    rcases List.mem_append.1 hx with hx | hx
    ·simp [hx]
    ·rcases List.mem_cons.1 hx with hx | hx
     ·exact absurd hx hxe
     ·simp [hx]
   simp only [if_neg (hne x hx')]
   exact (h.lv x (hmem x hx')).keep hk (hap x hx')
 ·have h2 := h.ap
  rw [List.pairwise_append, List.pairwise_cons] at h2 ⊢
  obtain ⟨p1, ⟨p2, p3⟩, p4⟩ := h2
  have hA : ∀ x ∈ A, x.1 ≠ q := fun x hx => hne x (by simp [hx])
  have hR : ∀ x ∈ R, x.1 ≠ q := fun x hx => hne x (by simp [hx])
  refine ⟨?_, ⟨?_, ?_⟩, ?_⟩
  ·refine p1.imp_of_mem ?_
   intro x y hx hy hxy
   simp only [if_neg (hA x hx), if_neg (hA y hy)]
   exact hxy
  ·intro x hx b
   simp only [if_true, if_neg (hR x hx)]
   intro hb hb'
   exact hnew x (by simp [hx]) b hb' hb
  ·refine p3.imp_of_mem ?_
   intro x y hx hy hxy
   simp only [if_neg (hR x hx), if_neg (hR y hy)]
   exact hxy
  ·intro x hx y hy b
   simp only [if_neg (hA x hx)]
   rcases List.mem_cons.1 hy with rfl | hy
   ·simp only [if_true]
    exact hnew x (by simp [hx]) b
   ·simp only [if_neg (hR y hy)]
    exact p4 x hx y (by simp [hy]) b
 ·intro x hx b hb
  by_cases hxq : x.1 = q
  ·simp only [if_pos hxq] at hb
   exact .inr hb
  ·simp only [if_neg hxq] at hb
   have hx' : x ∈ A ++ R := by
    rcases List.mem_append.1 hx with hx | hx
    ·simp [hx]
    ·rcases List.mem_cons.1 hx with hx | hx
     ·exact absurd (by rw [hx]) hxq
     ·simp [hx]
   exact .inl (h.in_ x (hmem x hx') b hb)
 ·intro b hb
  refine ⟨.inl (h.own b hb).1, fun x hx hx' => ?_⟩
  by_cases hxq : x.1 = q
  ·simp only [if_pos hxq] at hx'
   rcases hg b hx' with h' | h'
   ·exact (h.own b hb).2 (q, pr, X) (by simp) h'
   ·have := h.sl.lt hb; omega
  ·simp only [if_neg hxq] at hx'
   have hx2 : x ∈ A ++ R := by
    rcases List.mem_append.1 hx with hx | hx
    ·simp [hx]
    ·rcases List.mem_cons.1 hx with hx | hx
     ·exact absurd (by rw [hx]) hxq
     ·simp [hx]
   exact (h.own b hb).2 x (hmem x hx2) hx'
 ·intro b hb
  rcases hb with hb | hb
  ·exact Nat.lt_of_lt_of_le (h.lt b hb) hk.size
  ·exact h1.2.1 b hb
 ·intro b hb
  rcases hb with hb | hb
  ·exact .inl hb
  ·exact (hg b hb).imp (hin b) id
theorem WayZ.fewer {Z' : Zs} {v' : Value} (h : WayZ T E P w F v Z G) (hs : Z'.Sublist Z) (hk : Keep (fun b => v.ownBlock = some b) w w') (hv : Sl w' P 1 v' Z'.length (ptrs Z')) (ho : ∀ b, v'.ownBlock = some b → v.ownBlock = some b ∨ w.heap.size ≤ b) :
  ∃ F', WayZ T E P w' F' v' Z' G ∧ Grow w F F' ∧ Keep F w w' ∧ ∀ b, F b → F' b := by
 refine ⟨fun b => F b ∨ v'.ownBlock = some b, ⟨hv, fun z hz => (h.lv z (hs.subset hz)).keep hk (fun b hb hb' => (h.own b hb').2 z (hs.subset hz) hb), h.ap.sublist hs, fun z hz b hb => .inl (h.in_ z (hs.subset hz) b hb), fun b hb => ⟨.inr hb, fun z hz hz' => ?_⟩, fun b hb => ?_⟩, fun b hb => ?_, hk.mono (fun b _ hb => (h.own b hb).1), fun b hb => .inl hb⟩
 ·rcases ho b hb with h' | h'
  ·exact (h.own b h').2 z (hs.subset hz) hz'
  ·have := h.lt b (h.in_ z (hs.subset hz) b hz'); omega
 ·rcases hb with hb | hb
  ·exact Nat.lt_of_lt_of_le (h.lt b hb) hk.size
  ·exact hv.lt hb
 ·rcases hb with hb | hb
  ·exact .inl hb
  ·rcases ho b hb with h' | h'
   ·exact .inl (h.own b h').1
   ·exact .inr h'
theorem WayZ.more {A R : Zs} {v' : Value} {q : Nat} {pr : Int} {F1 : Nat → Prop} (h : WayZ T E P w F v (A ++ R) G) (hk : Keep (fun b => v.ownBlock = some b) w w') (hv : Sl w' P 1 v' (A.length + 1 + R.length) (ptrs (A ++ (q, pr, []) :: R))) (ho : ∀ b, v'.ownBlock = some b → (v.ownBlock = some b ∨ w.heap.size ≤ b) ∧ ¬ F1 b)
  (h1 : Lvl pr T E w' F1 q []) (hn : ∀ b, F1 b → w.heap.size ≤ b) :
  ∃ F' G', WayZ T E P w' F' v' (A ++ (q, pr, []) :: R) G' ∧ Grow w F F' ∧ Keep F w w' ∧ ∀ b, F b → F' b := by
 have hmq : ∀ x ∈ A ++ R, x.1 ≠ q := fun x hx e => by
  have h2 := h.lt x.1 (h.in_ x hx _ (h.lv x hx).1)
  have h3 := hn q h1.1
  omega
 have hmem : ∀ x ∈ A ++ (q, pr, ([] : List Ent)) :: R, x = (q, pr, []) ∨ x ∈ A ++ R := fun x hx => by
  rcases List.mem_append.1 hx with hx | hx
  ·exact .inr (by simp [hx])
  ·rcases List.mem_cons.1 hx with hx | hx
   ·exact .inl hx
   ·exact .inr (by simp [hx])
 have hdis : ∀ x ∈ A ++ R, ∀ b, G x.1 b → ¬ F1 b := fun x hx b hb hF => by
  have h2 := h.lt b (h.in_ x hx b hb)
  have h3 := hn b hF
  omega
 refine ⟨fun b => F b ∨ v'.ownBlock = some b ∨ F1 b, fun p b => if p = q then F1 b else G p b, ⟨?_, ?_, ?_, ?_, ?_, ?_⟩, ?_, hk.mono (fun b _ hb => (h.own b hb).1), fun b hb => .inl hb⟩
 ·rw [show (A ++ (q, pr, ([] : List Ent)) :: R).length = A.length + 1 + R.length by simp; omega]
  exact hv
 ·intro x hx
  rcases hmem x hx with rfl | hx
  ·simp only [if_true]
   exact h1
  ·simp only [if_neg (hmq x hx)]
   exact (h.lv x hx).keep hk (fun b hb hb' => (h.own b hb').2 x hx hb)
 ·have h2 := h.ap
  rw [List.pairwise_append] at h2
  rw [List.pairwise_append, List.pairwise_cons]
  obtain ⟨p1, p3, p4⟩ := h2
  have hA : ∀ x ∈ A, x.1 ≠ q := fun x hx => hmq x (by simp [hx])
  have hR : ∀ x ∈ R, x.1 ≠ q := fun x hx => hmq x (by simp [hx])
  refine ⟨?_, ⟨?_, ?_⟩, ?_⟩
  ·refine p1.imp_of_mem ?_
   intro x y hx hy hxy
   simp only [if_neg (hA x hx), if_neg (hA y hy)]
   exact hxy
  ·intro x hx b
   simp only [if_true, if_neg (hR x hx)]
   intro hb hb'
   exact hdis x (by simp [hx]) b hb' hb
  ·refine p3.imp_of_mem ?_
   intro x y hx hy hxy
   simp only [if_neg (hR x hx), if_neg (hR y hy)]
   exact hxy
  ·intro x hx y hy b
   simp only [if_neg (hA x hx)]
   rcases List.mem_cons.1 hy with rfl | hy
   ·simp only [if_true]
    exact hdis x (by simp [hx]) b
   ·simp only [if_neg (hR y hy)]
    exact p4 x hx y hy b
 ·intro x hx b hb
  rcases hmem x hx with rfl | hx
  ·simp only [if_true] at hb
   exact .inr (.inr hb)
  ·simp only [if_neg (hmq x hx)] at hb
   exact .inl (h.in_ x hx b hb)
 ·intro b hb
  refine ⟨.inr (.inl hb), fun x hx hx' => ?_⟩
  rcases hmem x hx with rfl | hx
  ·simp only [if_true] at hx'
   exact (ho b hb).2 hx'
  ·simp only [if_neg (hmq x hx)] at hx'
   rcases (ho b hb).1 with h' | h'
   ·exact (h.own b h').2 x hx hx'
   ·have := h.lt b (h.in_ x hx b hx'); omega
 ·intro b hb
  rcases hb with hb | hb | hb
  ·exact Nat.lt_of_lt_of_le (h.lt b hb) hk.size
  ·exact hv.lt hb
  ·exact h1.2.1 b hb
 ·intro b hb
  rcases hb with hb | hb | hb
  ·exact .inl hb
  ·rcases (ho b hb).1 with h' | h'
   ·exact .inl (h.own b h').1
   ·exact .inr h'
  ·exact .inr (hn b hb)
end
theorem slQ : SlT 68 89 1 8 := ⟨Try.underlying68, by kernel_rfl, ⟨.pointer none, by kernel_rfl, rfl, by intro u hu; simp [Value.cells] at hu; subst hu; rfl⟩, by omega⟩
section
variable {a : Act} {o : Oper} {u : World}
theorem exec_ldp (t e : TypeId) (hu : Try.prog.underlying t = some (.pointer e)) (x : Operand) (ad : Addr) (v : Value) (hop : o.op = .load t x) (hx : a.eval x = .pointer (some ad)) (hc : u.cell? ad = some v) :
  (execOp a.eval o).run Try.prog u = .ok (.value v) u := by
 unfold execOp
 simp only [hop, hx, Instr.loadAt, Instr.sureAddr, Sem.run_bind, Sem.run_pure, Result.andThen_ok]
 simp [loadVar, isAgg, run_underlying hu, Sem.run_bind, hc, go_sem]
theorem exec_oneP {t T : TypeId} {bytes : Nat} (ht : SlT t T 1 bytes) (x : Operand) (p : Nat) (hop : o.op = .buildSlice t 1 #[(0, x)]) (hx : a.eval x = .pointer (some ⟨p, 0, none⟩)) :
  (execOp a.eval o).run Try.prog u = .ok (.value (.slice (some ⟨u.heap.size, 0, none⟩) 1 1)) (u.alloc (.cells [.pointer (some ⟨p, 0, none⟩)].toArray T)) := by
 obtain ⟨z, hz, hz2, _⟩ := ht.info
 obtain ⟨i0, hi, hz0, hz1, hzb⟩ := info_parts hz
 unfold execOp
 simp only [hop, List.map_toArray, List.map_cons, List.map_nil, hx]
 simp [Instr.buildSlice, run_underlying ht.und, sizeOf, typeInfo, zeroValue, hi, hz0, hz1, Sem.run_bind, Value.cells, go_sem]
end
def Lad (w : World) (F : Nat → Prop) (g off : Nat) (s : Int) (L : List Lev) : Prop := ∃ v, w.cell? ⟨g, off, none⟩ = some (.int .i64 s) ∧ w.cell? ⟨g, off + 1, none⟩ = some v ∧ Way 96 98 89 w F v L
theorem Lad.kept {w w' : World} {F : Nat → Prop} {g off : Nat} {s : Int} {L : List Lev} (h : Lad w F g off s L) (hk : Kept w w') : Lad w' F g off s L := by
 obtain ⟨v, h1, h2, h3⟩ := h
 exact ⟨v, hk.cell h1, hk.cell h2, h3.kept hk⟩
structure LvsOk (L : List Lev) : Prop where
 good : ∀ l ∈ L, Good l.2
 few : (entL L).length ≤ 64
 len : L.length ≤ 64
 whole : wholeL L ≤ 67108864
theorem Sid.len {s : Int} : ∀ {L : List Lev}, Sid s L → L.length ≤ (entL L).length
 | [], _ => by simp
 | l :: L, h => by
  have h1 := h.tail.len
  have h2 := List.length_pos_iff.2 (h.ne l (by simp))
  rw [entL_cons, List.length_append, List.length_cons]
  omega
theorem Sid.ok {s : Int} {L : List Lev} (h : Sid s L) : LvsOk L := ⟨fun l hl => (h.good hl).1, h.few, Nat.le_trans h.len h.few, (wholeL_le h).2⟩
theorem levs_at {Z : Zs} {i : Nat} {z : Nat × Lev} (h : Z[i]? = some z) : (levs Z)[i]? = some z.2 := by rw [levs, List.getElem?_map, h]; rfl
theorem levs_mem {Z : Zs} {z : Nat × Lev} (h : z ∈ Z) : z.2 ∈ levs Z := List.mem_map.2 ⟨z, h, rfl⟩
theorem entL_take {L : List Lev} {i : Nat} {l : Lev} (h : L[i]? = some l) : entL (L.take (i + 1)) = entL (L.take i) ++ l.2 := by
 rw [List.take_add_one, h, entL_append]
 simp [entL]
theorem entL_part (L : List Lev) (i : Nat) : (entL (L.take i)).length ≤ (entL L).length := by
 have : entL L = entL (L.take i) ++ entL (L.drop i) := by rw [← entL_append, List.take_append_drop]
 rw [this, List.length_append]
 omega
set_option maxHeartbeats 800000 in
theorem count_any (w : World) (F : Nat → Prop) (g off : Nat) (s : Int) (L : List Lev) (h : Lad w F g off s L) (hL : LvsOk L) : Gives 85 #[.pointer (some ⟨g, off, none⟩)] w (.eq (.int .i64 ((entL L).length : Int))) := by
 refine gives_eq ?_
 obtain ⟨v, hs0, hv0, Z, G, eL, hW⟩ := h
 have hn64 : Z.length ≤ 64 := by have := hL.len; rw [← eL, levs_len] at this; exact this
 have HS := Lib.hid hs0
 have HV := Lib.hid hv0
 have HW := Lib.hid hW
 have HL := Lib.hid hL
 have EL := Lib.hid eL
 obtain ⟨n, hn⟩ : ∃ n, Z.length = n := ⟨_, rfl⟩
 have HSL := Lib.hid hW.sl
 rw [hn] at HSL hn64
 have HN := Lib.hid hn
 clear hs0 hv0 hW hL eL hn
 go_enter Try.func85, Try.ntmps85
 go_upto_region 2 with fail
 refine wE 6 [pV g off, pV g off, pV g (off + 1), v, iV (n : Int), iV 0] [6,7,8,9,10,11] ?_ ?_
 ·refine mE 1 0 ?_
  refine nD 2 6 0 ?_
  refine fD 3 7 1 70 1 1 off ?_
  refine sW 4 rfl (fun a u E D hk=>exec_ldv _ _ Try.underlying68 _ _ _ rfl (dD D 2) (Kept.cell hk (HV.out))) ?_
  refine sW 5 rfl (fun a u E D hk=>exec_lenS _ slQ _ _ _ _ rfl (dD D 3) HSL.out) ?_
  refine sW 6 rfl (fun a u E D hk=>exec_move _ _ rfl rfl) ?_
  exact fz
 intro w0 k0
 simp only [F8]
 go_wp2_with fail
 go_loopw [3, 11] (fun t q wr => ∃ (i : Nat) (m : Nat), i ≤ n ∧ q = .int .i64 i ∧ t = .int .i64 (m : Int) ∧ Hid (m = (entL (L.take i)).length) ∧ Kept w wr) (fun _ q _ => n - (intOf q).toNat)
 case atStart => exact ⟨0, 0, Nat.zero_le _, rfl, rfl, by show _ = _; rw [List.take_zero]; rfl, k0⟩
 case round =>
  obtain ⟨i, m, hi, rfl, rfl, HM, hkr⟩ := hrel
  by_cases hlt : i < n
  ·skip
   obtain ⟨gs, os, c, rfl⟩ := HSL.out.some_ (by omega)
   obtain ⟨z, hz⟩ : ∃ z, Z[i]? = some z := ⟨Z[i]'(by rw [HN.out]; omega), List.getElem?_eq_getElem (by rw [HN.out]; omega)⟩
   obtain ⟨q, pr, X⟩ := z
   have hcell := (HW.out.kept hkr).cell hz
   have HC := Lib.hid hcell
   have HZ := Lib.hid hz
   have HLV := Lib.hid ((HW.out.kept hkr).lv (q, pr, X) (List.mem_of_getElem? hz))
   have HG : Hid (Good X) := HL.out.good (pr, X) (by rw [← EL.out]; exact levs_mem (List.mem_of_getElem? hz))
   have HA : Hid (L[i]? = some (pr, X)) := by show _ = _; rw [← EL.out]; exact levs_at hz
   clear hcell hz
   go_upto_region 4 with fail
   refine wE 3 [pV gs (os + i * 1), pV q 0, pV q 0] [13,14,5] ?_ ?_
   ·refine sW 1 rfl (fun a u E D hk=>exec_ixo slQ _ _ (gs) (os) n c i (os + i * 1) ((i : Int)) rfl (eE E) (eE E) (by first | rfl | omega) (hlt) (by first | rfl | omega)) ?_
    refine sW 2 rfl (fun a u E D hk=>exec_ldp _ _ Try.underlying89 _ _ _ rfl (dD D 0) (Kept.cell hk (HC.out))) ?_
    refine mD 3 14 1 ?_
    exact fz
   intro w1 k1
   simp only [F8]
   have kw1 := hkr.trans k1
   have HLV1 := Lib.hid (HLV.out.kept k1)
   clear HC HLV k1
   have hm1 : m + X.length ≤ 64 := by
    have h1 := entL_part L (i + 1)
    rw [entL_take HA.out, List.length_append, ← HM.out] at h1
    simp only at h1
    have := HL.out.few
    omega
   have HM1 : Hid (m + X.length = (entL (L.take (i + 1))).length) := by
    show _ = _
    rw [entL_take HA.out, List.length_append, ← HM.out]
   obtain ⟨x, hx⟩ : ∃ x, X.length = x := ⟨_, rfl⟩
   have HX := Lib.hid hx
   rw [hx] at hm1 HM1
   clear HM hx
   go_upto_region 5 with fail
   refine wEp 4 [iV (m : Int), pV q 0, iV (x : Int), iV (((m : Int) : Int) + ((x : Int) : Int))] [15,16,17,18] ?_ ?_
   ·refine mE 1 3 ?_
    refine mE 2 5 ?_
    refine cS 3 75 [.pointer (some ⟨q, 0, none⟩)] rfl Try.func75 rfl (fun a u E D hk=>⟨ll (dD D 1) rfl, (by have h := len_any u _ q X (HLV1.out.kept hk); rw [HX.out] at h; exact h)⟩) ?_
    refine sW 4 rfl (fun a u E D hk=>exec_addn (p := ((m : Int))) (q := ((x : Int))) (((m : Int) : Int) + ((x : Int) : Int)) rfl (dD D 0) (dD D 2) rfl (by omega) (by omega)) ?_
    exact fz
   intro w2 k2
   simp only [F8]
   refine l_val (.int .i64 (((m : Int) : Int) + ((x : Int) : Int))) rfl (exec_assign _ _ rfl (by kernel_rfl)) ?_
   simp only [Act.put, sA, sS, sZ]
   refine wpList_nil ?_
   have kw2 := kw1.trans k2
   clear HLV1 k2
   go_wp2
   exact ⟨⟨i + 1, m + x, by omega, by go_num, by go_num, HM1, kw2⟩, by simp [intOf]; omega⟩
  ·have HF : Hid (m = (entL L).length) := by
    show _ = _
    rw [HM.out, List.take_of_length_le (by rw [← EL.out, levs_len, HN.out]; omega)]
   clear HM
   go_wp2
   go_ret
   exact ⟨by rw [← HF.out]; rfl, hkr⟩
set_option maxHeartbeats 800000 in
theorem lorders_any (w : World) (F : Nat → Prop) (g off : Nat) (s : Int) (L : List Lev) (h : Lad w F g off s L) (hL : LvsOk L) : Gives 38 #[.pointer (some ⟨g, off, none⟩)] w (.sl w.heap.size 24 9 (ordsL L).length (ords (ordsL L))) := by
 obtain ⟨v, hs0, hv0, Z, G, eL, hW⟩ := h
 have hn64 : Z.length ≤ 64 := by have := hL.len; rw [← eL, levs_len] at this; exact this
 have HS := Lib.hid hs0
 have HV := Lib.hid hv0
 have HW := Lib.hid hW
 have HL := Lib.hid hL
 have EL := Lib.hid eL
 obtain ⟨n, hn⟩ : ∃ n, Z.length = n := ⟨_, rfl⟩
 have HSL := Lib.hid hW.sl
 rw [hn] at HSL hn64
 have HN := Lib.hid hn
 clear hs0 hv0 hW hL eL hn
 go_enter Try.func38, Try.ntmps38
 go_upto_region 2 with fail
 refine wE 6 [pV g off, pV g off, pV g (off + 1), v, iV (n : Int), iV 0] [6,7,8,9,10,11] ?_ ?_
 ·refine mE 1 0 ?_
  refine nD 2 6 0 ?_
  refine fD 3 7 1 70 1 1 off ?_
  refine sW 4 rfl (fun a u E D hk=>exec_ldv _ _ Try.underlying68 _ _ _ rfl (dD D 2) (Kept.cell hk (HV.out))) ?_
  refine sW 5 rfl (fun a u E D hk=>exec_lenS _ slQ _ _ _ _ rfl (dD D 3) HSL.out) ?_
  refine sW 6 rfl (fun a u E D hk=>exec_move _ _ rfl rfl) ?_
  exact fz
 intro w0 k0
 simp only [F8]
 go_wp2_with fail
 go_loopw [3, 11] (fun t q wr => ∃ (i : Nat), i ≤ n ∧ q = .int .i64 i ∧ Hid ((Kn.sl w.heap.size 24 9 (ordsL (L.take i)).length (ords (ordsL (L.take i)))).p t wr) ∧ Kept w wr) (fun _ q _ => n - (intOf q).toNat)
 case atStart => exact ⟨0, Nat.zero_le _, rfl, ⟨by rw [List.take_zero]; exact Sl.nil _ _ _, fun b hb => by simp [Value.ownBlock] at hb⟩, k0⟩
 case round =>
  obtain ⟨i, hi, rfl, HV2, hkr⟩ := hrel
  obtain ⟨v3, hv3⟩ : ∃ v3, v3 = u3 := ⟨_, rfl⟩
  subst hv3
  by_cases hlt : i < n
  ·skip
   obtain ⟨gs, os, c, rfl⟩ := HSL.out.some_ (by omega)
   obtain ⟨z, hz⟩ : ∃ z, Z[i]? = some z := ⟨Z[i]'(by rw [HN.out]; omega), List.getElem?_eq_getElem (by rw [HN.out]; omega)⟩
   obtain ⟨q, pr, X⟩ := z
   have hcell := (HW.out.kept hkr).cell hz
   have HC := Lib.hid hcell
   have HZ := Lib.hid hz
   have HLV := Lib.hid ((HW.out.kept hkr).lv (q, pr, X) (List.mem_of_getElem? hz))
   have HG : Hid (Good X) := HL.out.good (pr, X) (by rw [← EL.out]; exact levs_mem (List.mem_of_getElem? hz))
   have HA : Hid (L[i]? = some (pr, X)) := by show _ = _; rw [← EL.out]; exact levs_at hz
   clear hcell hz
   go_upto_region 4 with fail
   refine wE 3 [pV gs (os + i * 1), pV q 0, pV q 0] [13,14,5] ?_ ?_
   ·refine sW 1 rfl (fun a u E D hk=>exec_ixo slQ _ _ (gs) (os) n c i (os + i * 1) ((i : Int)) rfl (eE E) (eE E) (by first | rfl | omega) (hlt) (by first | rfl | omega)) ?_
    refine sW 2 rfl (fun a u E D hk=>exec_ldp _ _ Try.underlying89 _ _ _ rfl (dD D 0) (Kept.cell hk (HC.out))) ?_
    refine mD 3 14 1 ?_
    exact fz
   intro w1 k1
   simp only [F8]
   have kw1 := hkr.trans k1
   have HLV1 := Lib.hid (HLV.out.kept k1)
   have k1K := k1
   clear HC HLV k1
   have HM1 : Hid ((ordsL (L.take i)).length + X.length ≤ 64) := by
    show _ ≤ _
    have h1 := entL_part L (i + 1)
    rw [entL_take HA.out, List.length_append] at h1
    simp only at h1
    have := HL.out.few
    rw [ordsL_len]
    omega
   have HV4 := Lib.hid (HV2.out.1.kept k1K)
   have HO4 := Lib.hid HV2.out.2
   have s0 := kw1.size
   clear HV2 k1K
   go_upto_region 5 with fail
   refine wp_text 3 [.eq (v3), pE q 0, .sl w1.heap.size 24 9 X.length (ords (X.map (·.o)))] rfl (by kernel_rfl) ?_ ?_
   ·refine mE 1 3 ?_
    refine mE 2 5 ?_
    refine cS 3 54 [.pointer (some ⟨q, 0, none⟩)] rfl Try.func54 rfl (fun a u E D hk=>⟨ll (dD D 1) rfl, (orders_any u _ q X (HLV1.out.kept hk) HG.out).mono (fun e w' ⟨v, h1, h2, h3⟩ => ⟨v, h1, ⟨h2.1, fun b hb => Nat.le_trans hk.size (h2.2 b hb)⟩, h3⟩)⟩) ?_
    exact fz
   intro gv w2 hV k2
   rw [dq 3 [15,16,17]]
   simp only [Fz7]
   rw [gQ hV 0 15 v3]
   have hv17 : (.sl w1.heap.size 24 9 X.length (ords (X.map (·.o))) : Kn).p (gv 17) w2 := hV 2 17 (by kernel_rfl)
   generalize gv 17 = v17 at hv17 ⊢
   clear hV
   have s2 := k2.size
   have hm1 := HM1.out
   obtain ⟨v4, w4, hr4, hs4, hk4, ho4⟩ := run_append_sl slO _ w2 v3 v17 (ordsL (L.take i)).length X.length _ _ (HV4.out.kept k2) hv17.1 (ords_one _) (by unfold maxLen; omega) (by omega)
   refine l_new v4 w4 rfl (exec_appS slO (.tmp 15) (.tmp 17) v3 v17 rfl (by kernel_rfl) (by kernel_rfl) v4 w4 hr4) ?_
   simp only [Act.put, sA, sS, sZ]
   refine l_val (v4) rfl (exec_assign _ _ rfl (by kernel_rfl)) ?_
   simp only [Act.put, sA, sS, sZ]
   refine wpList_nil ?_
   have kw4 : Kept w w4 := by
    refine Keep.trans (kw1.trans k2) hk4 (fun b hb hb' => ?_)
    have := HO4.out b hb'
    omega
   have HV5 : Hid ((Kn.sl w.heap.size 24 9 (ordsL (L.take (i + 1))).length (ords (ordsL (L.take (i + 1))))).p v4 w4) := by
    refine ⟨?_, fun b hb => ?_⟩
    ·have e : ordsL (L.take (i + 1)) = ordsL (L.take i) ++ X.map (·.o) := by
      unfold ordsL
      rw [entL_take HA.out, List.map_append]
     rw [e, List.length_append, List.length_map]
     unfold ords at hs4 ⊢
     rw [List.flatMap_append]
     exact hs4
    ·rcases ho4 b hb with h | h
     ·exact HO4.out b h
     ·omega
   clear hs4 hk4 ho4 HV4 HO4 hv17 hr4 hm1
   go_wp2
   exact ⟨⟨i + 1, by omega, by go_num, HV5, kw4⟩, by simp [intOf]; omega⟩
  ·have HF : Hid ((Kn.sl w.heap.size 24 9 (ordsL L).length (ords (ordsL L))).p v3 wr) := by
    have := HV2.out
    rw [List.take_of_length_le (by rw [← EL.out, levs_len, HN.out]; omega)] at this
    exact this
   clear HV2
   go_wp2
   go_ret
   exact ⟨v3, rfl, HF.out, hkr⟩
theorem tmod_lo (n m : Int) (hm : 0 < m) : -m < n.tmod m ∧ n.tmod m < m := ⟨Int.neg_lt_of_neg_lt (by have := Int.tmod_lt_of_pos (-n) hm; rwa [Int.neg_tmod] at this), Int.tmod_lt_of_pos n hm⟩
theorem tmod_emod (n m : Int) (hm : 0 < m) : n % m = if n.tmod m < 0 then n.tmod m + m else n.tmod m := by
 have h1 := Int.emod_nonneg n (show m ≠ 0 by omega)
 have h2 := Int.emod_lt_of_pos n hm
 obtain ⟨h3, h4⟩ := tmod_lo n m hm
 have e1 := Int.mul_ediv_add_emod n m
 have e2 := Int.mul_tdiv_add_tmod n m
 have e3 : n % m - n.tmod m = m * (n.tdiv m - n / m) := by rw [Int.mul_sub]; omega
 generalize n.tdiv m - n / m = q at e3
 have hq1 : m * q < m * 2 := by omega
 have hq2 : m * (-1) < m * q := by omega
 have hq3 := Int.lt_of_mul_lt_mul_left hq1 (by omega)
 have hq4 := Int.lt_of_mul_lt_mul_left hq2 (by omega)
 have hq : q = 0 ∨ q = 1 := by omega
 rcases hq with rfl | rfl
 ·rw [if_neg (by omega)]; omega
 ·rw [if_pos (by omega)]; omega
set_option maxHeartbeats 400000 in
theorem within_any (n lo hi : Int) (w : World) (h0 : 0 ≤ lo) (h1 : lo ≤ hi) (h2 : hi ≤ 1099511627776) :
  Calls Try.prog 16 #[.int .i64 n, .int .i64 lo, .int .i64 hi] w fun e w' => e = .returned (.int .i64 (lo + n % (hi - lo + 1))) ∧ w = w' := by
 obtain ⟨m1, m2⟩ := tmod_lo n (hi - lo + 1) (by omega)
 have E := Lib.hid (tmod_emod n (hi - lo + 1) (by omega))
 have hz : ((hi - lo + 1) == 0) = false := by simp; omega
 go_enter Try.func16, Try.ntmps16
 go_wp2
 ·go_ret
  refine ⟨ret_int ?_, rfl⟩
  rw [E.out, if_pos (by assumption)]
  omega
 ·go_ret
  refine ⟨ret_int ?_, rfl⟩
  rw [E.out, if_neg (by omega)]
def two (p : Int × Int) : Value := .tuple #[.int .i64 p.1, .int .i64 p.2]
set_option maxRecDepth 100000 in
set_option maxHeartbeats 800000 in
theorem owithin_any (n lo hi : Int) (w : World) : Gives 63 #[.int .i64 n, .int .i64 lo, .int .i64 hi] w (.eq (.bool (rng n lo hi))) := by
 refine gives_eq ?_
 unfold rng
 by_cases h : lo ≤ n
 ·have h1 : decide (lo ≤ n) = true := by simpa using h
  rw [h1]
  go_enter Try.func63, Try.ntmps63
  go_wp2
  go_ret
  exact ⟨ret_bool (by simp), Kept.refl w⟩
 ·have h1 : decide (lo ≤ n) = false := by simpa using h
  rw [h1]
  go_enter Try.func63, Try.ntmps63
  go_wp2
  go_ret
  exact ⟨ret_bool (by simp), Kept.refl w⟩
set_option maxRecDepth 100000 in
set_option maxHeartbeats 800000 in
theorem better_any (side x y : Int) (w : World) : Gives 78 #[.int .i64 side, .int .i64 x, .int .i64 y] w (.eq (.bool (bet side x y))) := by
 refine gives_eq ?_
 unfold bet
 by_cases h : side = 1
 ·have h1 : ((side : Int) == 1) = true := by simpa using h
  rw [if_pos h]; clear h
  go_enter Try.func78, Try.ntmps78
  go_wp2
  go_ret
  exact ⟨ret_bool (by simp), Kept.refl w⟩
 ·have h1 : ((side : Int) == 1) = false := by simpa using h
  rw [if_neg h]; clear h
  go_enter Try.func78, Try.ntmps78
  go_wp2
  go_ret
  exact ⟨ret_bool (by simp), Kept.refl w⟩
set_option maxRecDepth 100000 in
set_option maxHeartbeats 800000 in
theorem reaches_any (side x y : Int) (w : World) : Gives 70 #[.int .i64 side, .int .i64 x, .int .i64 y] w (.eq (.bool (!bet side y x))) := by
 unfold Gives
 go_enter Try.func70, Try.ntmps70
 go_upto_region 1 with fail
 refine wEp 5 [iV side, iV y, iV x, bV (bet side y x), bV (!(bet side y x))] [7,8,9,10,11] ?_ ?_
 ·refine mE 1 0 ?_
  refine mE 2 2 ?_
  refine mE 3 1 ?_
  refine cS 4 78 [.int .i64 side, .int .i64 y, .int .i64 x] rfl Try.func78 rfl (fun a u E D hk=>⟨ll (dD D 0) (ll (dD D 1) (ll (dD D 2) rfl)), better_any _ _ _ u⟩) ?_
  refine sW 5 rfl (fun a u E D hk=>exec_not _ _ (bet side y x) rfl (dD D 3)) ?_
  exact fz
 intro w1 k1
 simp only [F8]
 go_wp2
 go_ret
 exact ⟨_, rfl, rfl, k1⟩
set_option maxRecDepth 100000 in
set_option maxHeartbeats 800000 in
theorem isOwned_any (c : Ord) (w : World) : Gives 47 #[c.v] w (.eq (.bool c.owned)) := by
 unfold Gives Ord.v
 have HT : Hid True := trivial
 have HB0 : Hid (Blk (w.alloc (.cells c.cells.toArray 24)) w.heap.size 24 c.cells) := Blk.new w _ _
 have kw0 : Kept w (w.alloc (.cells c.cells.toArray 24)) := (Keep.refl _ w).alloc _
 go_enter Try.func47, Try.ntmps47
 go_upto_region 1 with fail
 generalize w.alloc (.cells c.cells.toArray 24) = w0 at HB0 kw0 ⊢
 generalize w.heap.size = g at HB0 ⊢
 refine wp_text 13 [pE g 0, iE c.tr, bE (rng c.tr 0 31), bE (rng c.tr 0 31), .cond (rng c.tr 0 31) (pE g 2), .cond (rng c.tr 0 31) (iE c.firm), .cond (rng c.tr 0 31) (bE (rng c.firm 0 7)), bE ((rng c.tr 0 31) && (rng c.firm 0 7)), bE ((rng c.tr 0 31) && (rng c.firm 0 7)), .cond ((rng c.tr 0 31) && (rng c.firm 0 7)) (pE g 1), .cond ((rng c.tr 0 31) && (rng c.firm 0 7)) (iE c.id), .cond ((rng c.tr 0 31) && (rng c.firm 0 7)) (bE (rng c.id 0 1073741824)), bE (((rng c.tr 0 31) && (rng c.firm 0 7)) && (rng c.id 0 1073741824))] rfl (by kernel_rfl) ?_ ?_
 ·refine sW 1 rfl (fun a u E D hk=>exec_fld 24 0 0 _ (g) rfl (eE E) (by kernel_rfl)) ?_
  refine lD 2 3 0 Try.underlying3 (fun u hk=>(HB0.out.kept hk).fld 0 _ rfl) ?_
  refine cS 3 63 [.int .i64 c.tr, .int .i64 0, .int .i64 31] rfl Try.func63 rfl (fun a u E D hk=>⟨ll (dD D 1) (ll rfl (ll rfl rfl)), owithin_any _ _ _ u⟩) ?_
  refine mD 4 5 2 ?_
  refine iC 5 3 rfl (fun a u E D hk hb=>exec_fld 24 2 2 _ (g) rfl (eE E) (by kernel_rfl)) ?_
  refine iC 6 3 rfl (fun a u E D hk hb=>exec_loadi _ Try.underlying3 _ _ _ rfl ((D 4 7 (by kernel_rfl)).1 hb) ((HB0.out.kept hk).fld 2 _ rfl)) ?_
  refine fsteps_cons 7 rfl (fun a u hE hD hk => f_if _ rfl rfl rfl (dD hD 3) (fun hb => f_call 63 #[.int .i64 c.firm, .int .i64 0, .int .i64 7] rfl (wanted_b rfl rfl (dD hD 3) (eq_true_of hb)) (exec_call 63 _ [.tmp 8, .const (.int .i64 0), .const (.int .i64 7)] _ [.int .i64 c.firm, .int .i64 0, .int .i64 7] Try.func63 (by kernel_rfl) (by kernel_rfl) rfl (show [a.eval (.tmp 8), a.eval (.const (.int .i64 0)), a.eval (.const (.int .i64 7))] = [.int .i64 c.firm, .int .i64 0, .int .i64 7] from (by rw [show a.eval (.tmp 8) = .int .i64 c.firm from ((hD 5 8 (by kernel_rfl)).1 hb)] <;> rfl)) u) (owithin_any _ _ _ u))) ?_
  refine sW 8 rfl (fun a u E D hk=>exec_pickand _ _ _ ((rng c.tr 0 31)) ((rng c.firm 0 7)) rfl (dD D 3) (fun hb2 => ((D 6 9 (by kernel_rfl)).1 hb2)) rfl) ?_
  refine mD 9 10 7 ?_
  refine iC 10 8 rfl (fun a u E D hk hb=>exec_fld 24 1 1 _ (g) rfl (eE E) (by kernel_rfl)) ?_
  refine iC 11 8 rfl (fun a u E D hk hb=>exec_loadi _ Try.underlying3 _ _ _ rfl ((D 9 12 (by kernel_rfl)).1 hb) ((HB0.out.kept hk).fld 1 _ rfl)) ?_
  refine fsteps_cons 12 rfl (fun a u hE hD hk => f_if _ rfl rfl rfl (dD hD 8) (fun hb => f_call 63 #[.int .i64 c.id, .int .i64 0, .int .i64 1073741824] rfl (wanted_b rfl rfl (dD hD 8) (eq_true_of hb)) (exec_call 63 _ [.tmp 13, .const (.int .i64 0), .const (.int .i64 1073741824)] _ [.int .i64 c.id, .int .i64 0, .int .i64 1073741824] Try.func63 (by kernel_rfl) (by kernel_rfl) rfl (show [a.eval (.tmp 13), a.eval (.const (.int .i64 0)), a.eval (.const (.int .i64 1073741824))] = [.int .i64 c.id, .int .i64 0, .int .i64 1073741824] from (by rw [show a.eval (.tmp 13) = .int .i64 c.id from ((hD 10 13 (by kernel_rfl)).1 hb)] <;> rfl)) u) (owithin_any _ _ _ u))) ?_
  refine sW 13 rfl (fun a u E D hk=>exec_pickand _ _ _ (((rng c.tr 0 31) && (rng c.firm 0 7))) ((rng c.id 0 1073741824)) rfl (dD D 8) (fun hb2 => ((D 11 14 (by kernel_rfl)).1 hb2)) rfl) ?_
  exact fz
 intro gv w1 hV k1
 rw [dq 13 [3,4,5,6,7,8,9,10,11,12,13,14,15]]
 simp only [Fz7]
 rw [gQ hV 12 15 (.bool (((rng c.tr 0 31) && (rng c.firm 0 7)) && (rng c.id 0 1073741824)))]
 clear hV
 go_wp2
 go_ret
 exact ⟨_, rfl, rfl, kw0.trans k1⟩
set_option maxRecDepth 100000 in
set_option maxHeartbeats 800000 in
theorem isOfApi_any (c : Ord) (w : World) : Gives 48 #[c.v] w (.eq (.bool c.ofApi)) := by
 unfold Gives Ord.v
 have HT : Hid True := trivial
 have HB0 : Hid (Blk (w.alloc (.cells c.cells.toArray 24)) w.heap.size 24 c.cells) := Blk.new w _ _
 have kw0 : Kept w (w.alloc (.cells c.cells.toArray 24)) := (Keep.refl _ w).alloc _
 go_enter Try.func48, Try.ntmps48
 go_upto_region 1 with fail
 generalize w.alloc (.cells c.cells.toArray 24) = w0 at HB0 kw0 ⊢
 generalize w.heap.size = g at HB0 ⊢
 refine wp_text 8 [pE g 3, iE c.side, bE (rng c.side 1 2), bE (rng c.side 1 2), .cond (rng c.side 1 2) (pE g 4), .cond (rng c.side 1 2) (iE c.k), .cond (rng c.side 1 2) (bE (rng c.k 1 5)), bE ((rng c.side 1 2) && (rng c.k 1 5))] rfl (by kernel_rfl) ?_ ?_
 ·refine sW 1 rfl (fun a u E D hk=>exec_fld 24 3 3 _ (g) rfl (eE E) (by kernel_rfl)) ?_
  refine lD 2 3 0 Try.underlying3 (fun u hk=>(HB0.out.kept hk).fld 3 _ rfl) ?_
  refine cS 3 63 [.int .i64 c.side, .int .i64 1, .int .i64 2] rfl Try.func63 rfl (fun a u E D hk=>⟨ll (dD D 1) (ll rfl (ll rfl rfl)), owithin_any _ _ _ u⟩) ?_
  refine mD 4 5 2 ?_
  refine iC 5 3 rfl (fun a u E D hk hb=>exec_fld 24 4 4 _ (g) rfl (eE E) (by kernel_rfl)) ?_
  refine iC 6 3 rfl (fun a u E D hk hb=>exec_loadi _ Try.underlying3 _ _ _ rfl ((D 4 7 (by kernel_rfl)).1 hb) ((HB0.out.kept hk).fld 4 _ rfl)) ?_
  refine fsteps_cons 7 rfl (fun a u hE hD hk => f_if _ rfl rfl rfl (dD hD 3) (fun hb => f_call 63 #[.int .i64 c.k, .int .i64 1, .int .i64 5] rfl (wanted_b rfl rfl (dD hD 3) (eq_true_of hb)) (exec_call 63 _ [.tmp 8, .const (.int .i64 1), .const (.int .i64 5)] _ [.int .i64 c.k, .int .i64 1, .int .i64 5] Try.func63 (by kernel_rfl) (by kernel_rfl) rfl (show [a.eval (.tmp 8), a.eval (.const (.int .i64 1)), a.eval (.const (.int .i64 5))] = [.int .i64 c.k, .int .i64 1, .int .i64 5] from (by rw [show a.eval (.tmp 8) = .int .i64 c.k from ((hD 5 8 (by kernel_rfl)).1 hb)] <;> rfl)) u) (owithin_any _ _ _ u))) ?_
  refine sW 8 rfl (fun a u E D hk=>exec_pickand _ _ _ ((rng c.side 1 2)) ((rng c.k 1 5)) rfl (dD D 3) (fun hb2 => ((D 6 9 (by kernel_rfl)).1 hb2)) rfl) ?_
  exact fz
 intro gv w1 hV k1
 rw [dq 8 [3,4,5,6,7,8,9,10]]
 simp only [Fz7]
 rw [gQ hV 7 10 (.bool ((rng c.side 1 2) && (rng c.k 1 5)))]
 clear hV
 go_wp2
 go_ret
 exact ⟨_, rfl, rfl, kw0.trans k1⟩
set_option maxRecDepth 100000 in
set_option maxHeartbeats 800000 in
theorem mostShown_t (c : Ord) (hb1 : (decide (c.k = 1) || decide (c.k = 5)) = true) (w : World) : Gives 64 #[c.v] w (.eq (.int .i64 c.qty)) := by
 unfold Gives Ord.v
 have HT : Hid True := trivial
 have HB0 : Hid (Blk (w.alloc (.cells c.cells.toArray 24)) w.heap.size 24 c.cells) := Blk.new w _ _
 have kw0 : Kept w (w.alloc (.cells c.cells.toArray 24)) := (Keep.refl _ w).alloc _
 go_enter Try.func64, Try.ntmps64
 go_upto_region 1 with fail
 generalize w.alloc (.cells c.cells.toArray 24) = w0 at HB0 kw0 ⊢
 generalize w.heap.size = g at HB0 ⊢
 refine wT 8 [pE g 4, iE c.k, bE (decide ((c.k : Int) = (1 : Int))), bE (decide ((c.k : Int) = (1 : Int))), .cond (!(decide ((c.k : Int) = (1 : Int)))) (pE g 4), .cond (!(decide ((c.k : Int) = (1 : Int)))) (iE c.k), .cond (!(decide ((c.k : Int) = (1 : Int)))) (bE (decide ((c.k : Int) = (5 : Int)))), bE true] [3,4,5,6,7,8,9,10] ?_ ?_
 ·refine sW 1 rfl (fun a u E D hk=>exec_fld 24 4 4 _ (g) rfl (eE E) (by kernel_rfl)) ?_
  refine lD 2 3 0 Try.underlying3 (fun u hk=>(HB0.out.kept hk).fld 4 _ rfl) ?_
  refine sW 3 rfl (fun a u E D hk=>exec_eqn rfl (dD D 1) rfl) ?_
  refine mD 4 5 2 ?_
  refine uC 5 3 rfl (fun a u E D hk hb=>exec_fld 24 4 4 _ (g) rfl (eE E) (by kernel_rfl)) ?_
  refine uC 6 3 rfl (fun a u E D hk hb=>exec_loadi _ Try.underlying3 _ _ _ rfl ((D 4 7 (by kernel_rfl)).1 hb) ((HB0.out.kept hk).fld 4 _ rfl)) ?_
  refine uC 7 3 rfl (fun a u E D hk hb=>exec_eqn rfl ((D 5 8 (by kernel_rfl)).1 hb) rfl) ?_
  refine aS 8 rfl (fun a u E D hk=>exec_pickor _ _ _ ((decide ((c.k : Int) = (1 : Int)))) ((decide ((c.k : Int) = (5 : Int)))) rfl (dD D 3) rfl (fun hb2 => ((D 6 9 (by kernel_rfl)).1 hb2))) hb1 ?_
  exact fz
 intro gv w1 hV k1
 simp only [Fz7]
 rw [gQ hV 7 10 (.bool true)]
 clear hV
 have HB1 := Lib.hid (HB0.out.kept k1)
 have kw1 := kw0.trans k1
 clear k1 kw0
 go_upto_region 2 with fail
 refine wEp 2 [pV g 6, iV c.qty] [11,12] ?_ ?_
 ·refine sW 1 rfl (fun a u E D hk=>exec_fld 24 6 6 _ (g) rfl (eE E) (by kernel_rfl)) ?_
  refine lD 2 11 0 Try.underlying3 (fun u hk=>(HB1.out.kept hk).fld 6 _ rfl) ?_
  exact fz
 intro w2 k2
 simp only [F8]
 have HB2 := Lib.hid (HB1.out.kept k2)
 have kw2 := kw1.trans k2
 clear k2 kw1
 go_wp2
 go_ret
 exact ⟨_, rfl, rfl, kw2⟩
set_option maxRecDepth 100000 in
set_option maxHeartbeats 800000 in
theorem mostShown_f (c : Ord) (hb1 : (decide (c.k = 1) || decide (c.k = 5)) = false) (w : World) : Gives 64 #[c.v] w (.eq (.int .i64 0)) := by
 unfold Gives Ord.v
 have HT : Hid True := trivial
 have HB0 : Hid (Blk (w.alloc (.cells c.cells.toArray 24)) w.heap.size 24 c.cells) := Blk.new w _ _
 have kw0 : Kept w (w.alloc (.cells c.cells.toArray 24)) := (Keep.refl _ w).alloc _
 go_enter Try.func64, Try.ntmps64
 go_upto_region 1 with fail
 generalize w.alloc (.cells c.cells.toArray 24) = w0 at HB0 kw0 ⊢
 generalize w.heap.size = g at HB0 ⊢
 refine wT 8 [pE g 4, iE c.k, bE (decide ((c.k : Int) = (1 : Int))), bE (decide ((c.k : Int) = (1 : Int))), .cond (!(decide ((c.k : Int) = (1 : Int)))) (pE g 4), .cond (!(decide ((c.k : Int) = (1 : Int)))) (iE c.k), .cond (!(decide ((c.k : Int) = (1 : Int)))) (bE (decide ((c.k : Int) = (5 : Int)))), bE false] [3,4,5,6,7,8,9,10] ?_ ?_
 ·refine sW 1 rfl (fun a u E D hk=>exec_fld 24 4 4 _ (g) rfl (eE E) (by kernel_rfl)) ?_
  refine lD 2 3 0 Try.underlying3 (fun u hk=>(HB0.out.kept hk).fld 4 _ rfl) ?_
  refine sW 3 rfl (fun a u E D hk=>exec_eqn rfl (dD D 1) rfl) ?_
  refine mD 4 5 2 ?_
  refine uC 5 3 rfl (fun a u E D hk hb=>exec_fld 24 4 4 _ (g) rfl (eE E) (by kernel_rfl)) ?_
  refine uC 6 3 rfl (fun a u E D hk hb=>exec_loadi _ Try.underlying3 _ _ _ rfl ((D 4 7 (by kernel_rfl)).1 hb) ((HB0.out.kept hk).fld 4 _ rfl)) ?_
  refine uC 7 3 rfl (fun a u E D hk hb=>exec_eqn rfl ((D 5 8 (by kernel_rfl)).1 hb) rfl) ?_
  refine aS 8 rfl (fun a u E D hk=>exec_pickor _ _ _ ((decide ((c.k : Int) = (1 : Int)))) ((decide ((c.k : Int) = (5 : Int)))) rfl (dD D 3) rfl (fun hb2 => ((D 6 9 (by kernel_rfl)).1 hb2))) hb1 ?_
  exact fz
 intro gv w1 hV k1
 simp only [Fz7]
 rw [gQ hV 7 10 (.bool false)]
 clear hV
 have HB1 := Lib.hid (HB0.out.kept k1)
 have kw1 := kw0.trans k1
 clear k1 kw0
 go_wp2
 go_ret
 exact ⟨_, rfl, rfl, kw1⟩
theorem mostShown_any (c : Ord) (w : World) : Gives 64 #[c.v] w (.eq (.int .i64 c.shown)) := by
 unfold Ord.shown
 by_cases h : c.k = 1 ∨ c.k = 5
 ·rw [if_pos h]
  exact mostShown_t c (by simpa using h) w
 ·rw [if_neg h]
  exact mostShown_f c (by simpa using h) w
set_option maxRecDepth 100000 in
set_option maxHeartbeats 800000 in
theorem hasPrices_s (c : Ord) (hS : rng c.stop 0 1048576 = false) (w : World) : Gives 49 #[c.v] w (.eq (.bool false)) := by
 unfold Gives Ord.v
 have HT : Hid True := trivial
 have HB0 : Hid (Blk (w.alloc (.cells c.cells.toArray 24)) w.heap.size 24 c.cells) := Blk.new w _ _
 have kw0 : Kept w (w.alloc (.cells c.cells.toArray 24)) := (Keep.refl _ w).alloc _
 go_enter Try.func49, Try.ntmps49
 go_upto_region 1 with fail
 generalize w.alloc (.cells c.cells.toArray 24) = w0 at HB0 kw0 ⊢
 generalize w.heap.size = g at HB0 ⊢
 refine wE 4 [pV g 8, iV c.stop, bV (rng c.stop 0 1048576), bV true] [3,4,5,6] ?_ ?_
 ·refine sW 1 rfl (fun a u E D hk=>exec_fld 24 8 8 _ (g) rfl (eE E) (by kernel_rfl)) ?_
  refine lD 2 3 0 Try.underlying3 (fun u hk=>(HB0.out.kept hk).fld 8 _ rfl) ?_
  refine cS 3 63 [.int .i64 c.stop, .int .i64 0, .int .i64 1048576] rfl Try.func63 rfl (fun a u E D hk=>⟨ll (dD D 1) (ll rfl (ll rfl rfl)), owithin_any _ _ _ u⟩) ?_
  refine aS 4 rfl (fun a u E D hk=>exec_not _ _ (rng c.stop 0 1048576) rfl (dD D 2)) (by rw [hS]; rfl) ?_
  exact fz
 intro w1 k1
 simp only [F8]
 have HB1 := Lib.hid (HB0.out.kept k1)
 have kw1 := kw0.trans k1
 clear k1 kw0
 go_wp2
 go_ret
 exact ⟨_, rfl, rfl, kw1⟩
set_option maxRecDepth 100000 in
set_option maxHeartbeats 800000 in
theorem hasPrices_m (c : Ord) (hS : rng c.stop 0 1048576 = true) (hK : decide (c.k = 2) = true) (w : World) : Gives 49 #[c.v] w (.eq (.bool (decide (c.price = 0)))) := by
 unfold Gives Ord.v
 have HT : Hid True := trivial
 have HB0 : Hid (Blk (w.alloc (.cells c.cells.toArray 24)) w.heap.size 24 c.cells) := Blk.new w _ _
 have kw0 : Kept w (w.alloc (.cells c.cells.toArray 24)) := (Keep.refl _ w).alloc _
 go_enter Try.func49, Try.ntmps49
 go_upto_region 1 with fail
 generalize w.alloc (.cells c.cells.toArray 24) = w0 at HB0 kw0 ⊢
 generalize w.heap.size = g at HB0 ⊢
 refine wE 4 [pV g 8, iV c.stop, bV (rng c.stop 0 1048576), bV false] [3,4,5,6] ?_ ?_
 ·refine sW 1 rfl (fun a u E D hk=>exec_fld 24 8 8 _ (g) rfl (eE E) (by kernel_rfl)) ?_
  refine lD 2 3 0 Try.underlying3 (fun u hk=>(HB0.out.kept hk).fld 8 _ rfl) ?_
  refine cS 3 63 [.int .i64 c.stop, .int .i64 0, .int .i64 1048576] rfl Try.func63 rfl (fun a u E D hk=>⟨ll (dD D 1) (ll rfl (ll rfl rfl)), owithin_any _ _ _ u⟩) ?_
  refine aS 4 rfl (fun a u E D hk=>exec_not _ _ (rng c.stop 0 1048576) rfl (dD D 2)) (by rw [hS]; rfl) ?_
  exact fz
 intro w1 k1
 simp only [F8]
 have HB1 := Lib.hid (HB0.out.kept k1)
 have kw1 := kw0.trans k1
 clear k1 kw0
 go_upto_region 3 with fail
 refine wE 3 [pV g 4, iV c.k, bV true] [7,8,9] ?_ ?_
 ·refine sW 1 rfl (fun a u E D hk=>exec_fld 24 4 4 _ (g) rfl (eE E) (by kernel_rfl)) ?_
  refine lD 2 7 0 Try.underlying3 (fun u hk=>(HB1.out.kept hk).fld 4 _ rfl) ?_
  refine aS 3 rfl (fun a u E D hk=>exec_eqn rfl (dD D 1) rfl) hK ?_
  exact fz
 intro w2 k2
 simp only [F8]
 have HB2 := Lib.hid (HB1.out.kept k2)
 have kw2 := kw1.trans k2
 clear k2 kw1
 go_upto_region 4 with fail
 refine wEp 3 [pV g 5, iV c.price, bV (decide ((c.price : Int) = (0 : Int)))] [10,11,12] ?_ ?_
 ·refine sW 1 rfl (fun a u E D hk=>exec_fld 24 5 5 _ (g) rfl (eE E) (by kernel_rfl)) ?_
  refine lD 2 10 0 Try.underlying3 (fun u hk=>(HB2.out.kept hk).fld 5 _ rfl) ?_
  refine sW 3 rfl (fun a u E D hk=>exec_eqn rfl (dD D 1) rfl) ?_
  exact fz
 intro w3 k3
 simp only [F8]
 have HB3 := Lib.hid (HB2.out.kept k3)
 have kw3 := kw2.trans k3
 clear k3 kw2
 go_wp2
 go_ret
 exact ⟨_, rfl, rfl, kw3⟩
set_option maxRecDepth 100000 in
set_option maxHeartbeats 800000 in
theorem hasPrices_o (c : Ord) (hS : rng c.stop 0 1048576 = true) (hK : decide (c.k = 2) = false) (w : World) : Gives 49 #[c.v] w (.eq (.bool (rng c.price 1 1048576))) := by
 unfold Gives Ord.v
 have HT : Hid True := trivial
 have HB0 : Hid (Blk (w.alloc (.cells c.cells.toArray 24)) w.heap.size 24 c.cells) := Blk.new w _ _
 have kw0 : Kept w (w.alloc (.cells c.cells.toArray 24)) := (Keep.refl _ w).alloc _
 go_enter Try.func49, Try.ntmps49
 go_upto_region 1 with fail
 generalize w.alloc (.cells c.cells.toArray 24) = w0 at HB0 kw0 ⊢
 generalize w.heap.size = g at HB0 ⊢
 refine wE 4 [pV g 8, iV c.stop, bV (rng c.stop 0 1048576), bV false] [3,4,5,6] ?_ ?_
 ·refine sW 1 rfl (fun a u E D hk=>exec_fld 24 8 8 _ (g) rfl (eE E) (by kernel_rfl)) ?_
  refine lD 2 3 0 Try.underlying3 (fun u hk=>(HB0.out.kept hk).fld 8 _ rfl) ?_
  refine cS 3 63 [.int .i64 c.stop, .int .i64 0, .int .i64 1048576] rfl Try.func63 rfl (fun a u E D hk=>⟨ll (dD D 1) (ll rfl (ll rfl rfl)), owithin_any _ _ _ u⟩) ?_
  refine aS 4 rfl (fun a u E D hk=>exec_not _ _ (rng c.stop 0 1048576) rfl (dD D 2)) (by rw [hS]; rfl) ?_
  exact fz
 intro w1 k1
 simp only [F8]
 have HB1 := Lib.hid (HB0.out.kept k1)
 have kw1 := kw0.trans k1
 clear k1 kw0
 go_upto_region 3 with fail
 refine wE 3 [pV g 4, iV c.k, bV false] [7,8,9] ?_ ?_
 ·refine sW 1 rfl (fun a u E D hk=>exec_fld 24 4 4 _ (g) rfl (eE E) (by kernel_rfl)) ?_
  refine lD 2 7 0 Try.underlying3 (fun u hk=>(HB1.out.kept hk).fld 4 _ rfl) ?_
  refine aS 3 rfl (fun a u E D hk=>exec_eqn rfl (dD D 1) rfl) hK ?_
  exact fz
 intro w2 k2
 simp only [F8]
 have HB2 := Lib.hid (HB1.out.kept k2)
 have kw2 := kw1.trans k2
 clear k2 kw1
 go_upto_region 5 with fail
 refine wEp 3 [pV g 5, iV c.price, bV (rng c.price 1 1048576)] [13,14,15] ?_ ?_
 ·refine sW 1 rfl (fun a u E D hk=>exec_fld 24 5 5 _ (g) rfl (eE E) (by kernel_rfl)) ?_
  refine lD 2 13 0 Try.underlying3 (fun u hk=>(HB2.out.kept hk).fld 5 _ rfl) ?_
  refine cS 3 63 [.int .i64 c.price, .int .i64 1, .int .i64 1048576] rfl Try.func63 rfl (fun a u E D hk=>⟨ll (dD D 1) (ll rfl (ll rfl rfl)), owithin_any _ _ _ u⟩) ?_
  exact fz
 intro w3 k3
 simp only [F8]
 have HB3 := Lib.hid (HB2.out.kept k3)
 have kw3 := kw2.trans k3
 clear k3 kw2
 go_wp2
 go_ret
 exact ⟨_, rfl, rfl, kw3⟩
theorem hasPrices_any (c : Ord) (w : World) : Gives 49 #[c.v] w (.eq (.bool c.prices)) := by
 unfold Ord.prices
 cases hS : rng c.stop 0 1048576 with
 | false => exact hasPrices_s c hS w
 | true =>
  by_cases hK : c.k = 2
  ·rw [if_pos hK]
   exact hasPrices_m c hS (by simpa using hK) w
  ·rw [if_neg hK]
   exact hasPrices_o c hS (by simpa using hK) w
set_option maxRecDepth 100000 in
set_option maxHeartbeats 800000 in
theorem hasQuantities_any (c : Ord) (w : World) : Gives 50 #[c.v] w (.eq (.bool c.amounts)) := by
 unfold Gives Ord.v
 have HT : Hid True := trivial
 have HB0 : Hid (Blk (w.alloc (.cells c.cells.toArray 24)) w.heap.size 24 c.cells) := Blk.new w _ _
 have kw0 : Kept w (w.alloc (.cells c.cells.toArray 24)) := (Keep.refl _ w).alloc _
 go_enter Try.func50, Try.ntmps50
 go_upto_region 1 with fail
 generalize w.alloc (.cells c.cells.toArray 24) = w0 at HB0 kw0 ⊢
 generalize w.heap.size = g at HB0 ⊢
 refine wp_free 10 [pE g 6, iE c.qty, bE (rng c.qty 1 1048576), bE (rng c.qty 1 1048576), .cond (rng c.qty 1 1048576) (pE g 7), .cond (rng c.qty 1 1048576) (iE c.shw), .cond (rng c.qty 1 1048576) (.eq (c.v)), .cond (rng c.qty 1 1048576) (iE c.shown), .cond (rng c.qty 1 1048576) (bE (rng c.shw 0 c.shown)), bE ((rng c.qty 1 1048576) && (rng c.shw 0 c.shown))] (by kernel_rfl) rfl (by kernel_rfl) ?_ ?_
 ·refine sW 1 rfl (fun a u E D hk=>exec_fld 24 6 6 _ (g) rfl (eE E) (by kernel_rfl)) ?_
  refine lD 2 3 0 Try.underlying3 (fun u hk=>(HB0.out.kept hk).fld 6 _ rfl) ?_
  refine cS 3 63 [.int .i64 c.qty, .int .i64 1, .int .i64 1048576] rfl Try.func63 rfl (fun a u E D hk=>⟨ll (dD D 1) (ll rfl (ll rfl rfl)), owithin_any _ _ _ u⟩) ?_
  refine mD 4 5 2 ?_
  refine iC 5 3 rfl (fun a u E D hk hb=>exec_fld 24 7 7 _ (g) rfl (eE E) (by kernel_rfl)) ?_
  refine iC 6 3 rfl (fun a u E D hk hb=>exec_loadi _ Try.underlying3 _ _ _ rfl ((D 4 7 (by kernel_rfl)).1 hb) ((HB0.out.kept hk).fld 7 _ rfl)) ?_
  refine iC 7 3 rfl (fun a u E D hk hb=>exec_loadS 24 _ (g) _ c.cells _ rfl (eE E) (HB0.out.kept hk) Try.underlying24 (by rw [Ord.cells_len _ HT.out]; exact ord_size)) ?_
  refine fsteps_cons 8 rfl (fun a u hE hD hk => f_if _ rfl rfl rfl (dD hD 3) (fun hb => f_call 64 #[c.v] rfl (wanted_b rfl rfl (dD hD 3) (eq_true_of hb)) (exec_call 64 _ [.tmp 9] _ [c.v] Try.func64 (by kernel_rfl) (by kernel_rfl) rfl (show [a.eval (.tmp 9)] = [c.v] from (by rw [show a.eval (.tmp 9) = c.v from ((hD 6 9 (by kernel_rfl)).1 hb)] <;> rfl)) u) (mostShown_any c u))) ?_
  refine fsteps_cons 9 rfl (fun a u hE hD hk => f_if _ rfl rfl rfl (dD hD 3) (fun hb => f_call 63 #[.int .i64 c.shw, .int .i64 0, .int .i64 c.shown] rfl (wanted_b rfl rfl (dD hD 3) (eq_true_of hb)) (exec_call 63 _ [.tmp 8, .const (.int .i64 0), .tmp 10] _ [.int .i64 c.shw, .int .i64 0, .int .i64 c.shown] Try.func63 (by kernel_rfl) (by kernel_rfl) rfl (show [a.eval (.tmp 8), a.eval (.const (.int .i64 0)), a.eval (.tmp 10)] = [.int .i64 c.shw, .int .i64 0, .int .i64 c.shown] from (by rw [show a.eval (.tmp 8) = .int .i64 c.shw from ((hD 5 8 (by kernel_rfl)).1 hb), show a.eval (.tmp 10) = .int .i64 c.shown from ((hD 7 10 (by kernel_rfl)).1 hb)] <;> rfl)) u) (owithin_any _ _ _ u))) ?_
  refine sW 10 rfl (fun a u E D hk=>exec_pickand _ _ _ ((rng c.qty 1 1048576)) ((rng c.shw 0 c.shown)) rfl (dD D 3) (fun hb2 => ((D 8 11 (by kernel_rfl)).1 hb2)) rfl) ?_
  exact fz
 intro gv w1 hV k1
 rw [dq 10 [3,4,5,6,7,8,9,10,11,12]]
 simp only [Fz7]
 rw [gQ hV 9 12 (.bool ((rng c.qty 1 1048576) && (rng c.shw 0 c.shown)))]
 clear hV
 have HB1 := Lib.hid (HB0.out.kept k1)
 have kw1 := kw0.trans k1
 clear k1 kw0
 go_wp2
 go_ret
 exact ⟨_, rfl, rfl, kw1⟩
set_option maxRecDepth 100000 in
set_option maxHeartbeats 800000 in
theorem right_t (c : Ord) (hR : c.right = true) (w : World) : Gives 32 #[c.v] w (.eq (.int .i64 0)) := by
 unfold Gives Ord.v
 have HT : Hid True := trivial
 have HB0 : Hid (Blk (w.alloc (.cells c.cells.toArray 24)) w.heap.size 24 c.cells) := Blk.new w _ _
 have kw0 : Kept w (w.alloc (.cells c.cells.toArray 24)) := (Keep.refl _ w).alloc _
 go_enter Try.func32, Try.ntmps32
 go_upto_region 1 with fail
 generalize w.alloc (.cells c.cells.toArray 24) = w0 at HB0 kw0 ⊢
 generalize w.heap.size = g at HB0 ⊢
 refine wT 14 [.eq (c.v), bE c.owned, bE c.owned, .cond c.owned (.eq (c.v)), .cond c.owned (bE c.ofApi), bE (c.owned && c.ofApi), bE (c.owned && c.ofApi), .cond (c.owned && c.ofApi) (.eq (c.v)), .cond (c.owned && c.ofApi) (bE c.prices), bE ((c.owned && c.ofApi) && c.prices), bE ((c.owned && c.ofApi) && c.prices), .cond ((c.owned && c.ofApi) && c.prices) (.eq (c.v)), .cond ((c.owned && c.ofApi) && c.prices) (bE c.amounts), bE true] [3,4,5,6,7,8,9,10,11,12,13,14,15,16] ?_ ?_
 ·refine sW 1 rfl (fun a u E D hk=>exec_loadS 24 _ (g) _ c.cells _ rfl (eE E) (HB0.out.kept hk) Try.underlying24 (by rw [Ord.cells_len _ HT.out]; exact ord_size)) ?_
  refine cS 2 47 [c.v] rfl Try.func47 rfl (fun a u E D hk=>⟨ll (dD D 0) rfl, isOwned_any c u⟩) ?_
  refine mD 3 4 1 ?_
  refine iC 4 2 rfl (fun a u E D hk hb=>exec_loadS 24 _ (g) _ c.cells _ rfl (eE E) (HB0.out.kept hk) Try.underlying24 (by rw [Ord.cells_len _ HT.out]; exact ord_size)) ?_
  refine fsteps_cons 5 rfl (fun a u hE hD hk => f_if _ rfl rfl rfl (dD hD 2) (fun hb => f_call 48 #[c.v] rfl (wanted_b rfl rfl (dD hD 2) (eq_true_of hb)) (exec_call 48 _ [.tmp 6] _ [c.v] Try.func48 (by kernel_rfl) (by kernel_rfl) rfl (show [a.eval (.tmp 6)] = [c.v] from (by rw [show a.eval (.tmp 6) = c.v from ((hD 3 6 (by kernel_rfl)).1 hb)] <;> rfl)) u) (isOfApi_any c u))) ?_
  refine sW 6 rfl (fun a u E D hk=>exec_pickand _ _ _ (c.owned) (c.ofApi) rfl (dD D 2) (fun hb2 => ((D 4 7 (by kernel_rfl)).1 hb2)) rfl) ?_
  refine mD 7 8 5 ?_
  refine iC 8 6 rfl (fun a u E D hk hb=>exec_loadS 24 _ (g) _ c.cells _ rfl (eE E) (HB0.out.kept hk) Try.underlying24 (by rw [Ord.cells_len _ HT.out]; exact ord_size)) ?_
  refine fsteps_cons 9 rfl (fun a u hE hD hk => f_if _ rfl rfl rfl (dD hD 6) (fun hb => f_call 49 #[c.v] rfl (wanted_b rfl rfl (dD hD 6) (eq_true_of hb)) (exec_call 49 _ [.tmp 10] _ [c.v] Try.func49 (by kernel_rfl) (by kernel_rfl) rfl (show [a.eval (.tmp 10)] = [c.v] from (by rw [show a.eval (.tmp 10) = c.v from ((hD 7 10 (by kernel_rfl)).1 hb)] <;> rfl)) u) (hasPrices_any c u))) ?_
  refine sW 10 rfl (fun a u E D hk=>exec_pickand _ _ _ ((c.owned && c.ofApi)) (c.prices) rfl (dD D 6) (fun hb2 => ((D 8 11 (by kernel_rfl)).1 hb2)) rfl) ?_
  refine mD 11 12 9 ?_
  refine iC 12 10 rfl (fun a u E D hk hb=>exec_loadS 24 _ (g) _ c.cells _ rfl (eE E) (HB0.out.kept hk) Try.underlying24 (by rw [Ord.cells_len _ HT.out]; exact ord_size)) ?_
  refine fsteps_cons 13 rfl (fun a u hE hD hk => f_if _ rfl rfl rfl (dD hD 10) (fun hb => f_call 50 #[c.v] rfl (wanted_b rfl rfl (dD hD 10) (eq_true_of hb)) (exec_call 50 _ [.tmp 14] _ [c.v] Try.func50 (by kernel_rfl) (by kernel_rfl) rfl (show [a.eval (.tmp 14)] = [c.v] from (by rw [show a.eval (.tmp 14) = c.v from ((hD 11 14 (by kernel_rfl)).1 hb)] <;> rfl)) u) (hasQuantities_any c u))) ?_
  refine aS 14 rfl (fun a u E D hk=>exec_pickand _ _ _ (((c.owned && c.ofApi) && c.prices)) (c.amounts) rfl (dD D 10) (fun hb2 => ((D 12 15 (by kernel_rfl)).1 hb2)) rfl) hR ?_
  exact fz
 intro gv w1 hV k1
 simp only [Fz7]
 rw [gQ hV 13 16 (.bool true)]
 clear hV
 have HB1 := Lib.hid (HB0.out.kept k1)
 have kw1 := kw0.trans k1
 clear k1 kw0
 go_wp2
 go_ret
 exact ⟨_, rfl, rfl, kw1⟩
set_option maxRecDepth 100000 in
set_option maxHeartbeats 800000 in
theorem right_f (c : Ord) (hR : c.right = false) (w : World) : Gives 32 #[c.v] w (.eq (.int .i64 1)) := by
 unfold Gives Ord.v
 have HT : Hid True := trivial
 have HB0 : Hid (Blk (w.alloc (.cells c.cells.toArray 24)) w.heap.size 24 c.cells) := Blk.new w _ _
 have kw0 : Kept w (w.alloc (.cells c.cells.toArray 24)) := (Keep.refl _ w).alloc _
 go_enter Try.func32, Try.ntmps32
 go_upto_region 1 with fail
 generalize w.alloc (.cells c.cells.toArray 24) = w0 at HB0 kw0 ⊢
 generalize w.heap.size = g at HB0 ⊢
 refine wT 14 [.eq (c.v), bE c.owned, bE c.owned, .cond c.owned (.eq (c.v)), .cond c.owned (bE c.ofApi), bE (c.owned && c.ofApi), bE (c.owned && c.ofApi), .cond (c.owned && c.ofApi) (.eq (c.v)), .cond (c.owned && c.ofApi) (bE c.prices), bE ((c.owned && c.ofApi) && c.prices), bE ((c.owned && c.ofApi) && c.prices), .cond ((c.owned && c.ofApi) && c.prices) (.eq (c.v)), .cond ((c.owned && c.ofApi) && c.prices) (bE c.amounts), bE false] [3,4,5,6,7,8,9,10,11,12,13,14,15,16] ?_ ?_
 ·refine sW 1 rfl (fun a u E D hk=>exec_loadS 24 _ (g) _ c.cells _ rfl (eE E) (HB0.out.kept hk) Try.underlying24 (by rw [Ord.cells_len _ HT.out]; exact ord_size)) ?_
  refine cS 2 47 [c.v] rfl Try.func47 rfl (fun a u E D hk=>⟨ll (dD D 0) rfl, isOwned_any c u⟩) ?_
  refine mD 3 4 1 ?_
  refine iC 4 2 rfl (fun a u E D hk hb=>exec_loadS 24 _ (g) _ c.cells _ rfl (eE E) (HB0.out.kept hk) Try.underlying24 (by rw [Ord.cells_len _ HT.out]; exact ord_size)) ?_
  refine fsteps_cons 5 rfl (fun a u hE hD hk => f_if _ rfl rfl rfl (dD hD 2) (fun hb => f_call 48 #[c.v] rfl (wanted_b rfl rfl (dD hD 2) (eq_true_of hb)) (exec_call 48 _ [.tmp 6] _ [c.v] Try.func48 (by kernel_rfl) (by kernel_rfl) rfl (show [a.eval (.tmp 6)] = [c.v] from (by rw [show a.eval (.tmp 6) = c.v from ((hD 3 6 (by kernel_rfl)).1 hb)] <;> rfl)) u) (isOfApi_any c u))) ?_
  refine sW 6 rfl (fun a u E D hk=>exec_pickand _ _ _ (c.owned) (c.ofApi) rfl (dD D 2) (fun hb2 => ((D 4 7 (by kernel_rfl)).1 hb2)) rfl) ?_
  refine mD 7 8 5 ?_
  refine iC 8 6 rfl (fun a u E D hk hb=>exec_loadS 24 _ (g) _ c.cells _ rfl (eE E) (HB0.out.kept hk) Try.underlying24 (by rw [Ord.cells_len _ HT.out]; exact ord_size)) ?_
  refine fsteps_cons 9 rfl (fun a u hE hD hk => f_if _ rfl rfl rfl (dD hD 6) (fun hb => f_call 49 #[c.v] rfl (wanted_b rfl rfl (dD hD 6) (eq_true_of hb)) (exec_call 49 _ [.tmp 10] _ [c.v] Try.func49 (by kernel_rfl) (by kernel_rfl) rfl (show [a.eval (.tmp 10)] = [c.v] from (by rw [show a.eval (.tmp 10) = c.v from ((hD 7 10 (by kernel_rfl)).1 hb)] <;> rfl)) u) (hasPrices_any c u))) ?_
  refine sW 10 rfl (fun a u E D hk=>exec_pickand _ _ _ ((c.owned && c.ofApi)) (c.prices) rfl (dD D 6) (fun hb2 => ((D 8 11 (by kernel_rfl)).1 hb2)) rfl) ?_
  refine mD 11 12 9 ?_
  refine iC 12 10 rfl (fun a u E D hk hb=>exec_loadS 24 _ (g) _ c.cells _ rfl (eE E) (HB0.out.kept hk) Try.underlying24 (by rw [Ord.cells_len _ HT.out]; exact ord_size)) ?_
  refine fsteps_cons 13 rfl (fun a u hE hD hk => f_if _ rfl rfl rfl (dD hD 10) (fun hb => f_call 50 #[c.v] rfl (wanted_b rfl rfl (dD hD 10) (eq_true_of hb)) (exec_call 50 _ [.tmp 14] _ [c.v] Try.func50 (by kernel_rfl) (by kernel_rfl) rfl (show [a.eval (.tmp 14)] = [c.v] from (by rw [show a.eval (.tmp 14) = c.v from ((hD 11 14 (by kernel_rfl)).1 hb)] <;> rfl)) u) (hasQuantities_any c u))) ?_
  refine aS 14 rfl (fun a u E D hk=>exec_pickand _ _ _ (((c.owned && c.ofApi) && c.prices)) (c.amounts) rfl (dD D 10) (fun hb2 => ((D 12 15 (by kernel_rfl)).1 hb2)) rfl) hR ?_
  exact fz
 intro gv w1 hV k1
 simp only [Fz7]
 rw [gQ hV 13 16 (.bool false)]
 clear hV
 have HB1 := Lib.hid (HB0.out.kept k1)
 have kw1 := kw0.trans k1
 clear k1 kw0
 go_wp2
 go_ret
 exact ⟨_, rfl, rfl, kw1⟩
theorem ordRight_any (c : Ord) (w : World) : Gives 32 #[c.v] w (.eq (.int .i64 c.err)) := by
 unfold Ord.err
 cases h : c.right with
 | true => exact right_t c h w
 | false => exact right_f c h w
set_option maxRecDepth 100000 in
set_option maxHeartbeats 800000 in
theorem crosses_m (c : Ord) (x : Int) (hK : decide (c.k = 2) = true) (w : World) : Gives 94 #[c.v, .int .i64 x] w (.eq (.bool true)) := by
 unfold Gives Ord.v
 have HT : Hid True := trivial
 have HB0 : Hid (Blk (w.alloc (.cells c.cells.toArray 24)) w.heap.size 24 c.cells) := Blk.new w _ _
 have kw0 : Kept w (w.alloc (.cells c.cells.toArray 24)) := (Keep.refl _ w).alloc _
 go_enter Try.func94, Try.ntmps94
 go_upto_region 1 with fail
 generalize w.alloc (.cells c.cells.toArray 24) = w0 at HB0 kw0 ⊢
 generalize w.heap.size = g at HB0 ⊢
 refine wE 3 [pV g 4, iV c.k, bV true] [5,6,7] ?_ ?_
 ·refine sW 1 rfl (fun a u E D hk=>exec_fld 24 4 4 _ (g) rfl (eE E) (by kernel_rfl)) ?_
  refine lD 2 5 0 Try.underlying3 (fun u hk=>(HB0.out.kept hk).fld 4 _ rfl) ?_
  refine aS 3 rfl (fun a u E D hk=>exec_eqn rfl (dD D 1) rfl) hK ?_
  exact fz
 intro w1 k1
 simp only [F8]
 have HB1 := Lib.hid (HB0.out.kept k1)
 have kw1 := kw0.trans k1
 clear k1 kw0
 go_wp2
 go_ret
 exact ⟨_, rfl, rfl, kw1⟩
set_option maxRecDepth 100000 in
set_option maxHeartbeats 800000 in
theorem crosses_o (c : Ord) (x : Int) (hK : decide (c.k = 2) = false) (w : World) : Gives 94 #[c.v, .int .i64 x] w (.eq (.bool (!bet c.side x c.price))) := by
 unfold Gives Ord.v
 have HT : Hid True := trivial
 have HB0 : Hid (Blk (w.alloc (.cells c.cells.toArray 24)) w.heap.size 24 c.cells) := Blk.new w _ _
 have kw0 : Kept w (w.alloc (.cells c.cells.toArray 24)) := (Keep.refl _ w).alloc _
 go_enter Try.func94, Try.ntmps94
 go_upto_region 1 with fail
 generalize w.alloc (.cells c.cells.toArray 24) = w0 at HB0 kw0 ⊢
 generalize w.heap.size = g at HB0 ⊢
 refine wE 3 [pV g 4, iV c.k, bV false] [5,6,7] ?_ ?_
 ·refine sW 1 rfl (fun a u E D hk=>exec_fld 24 4 4 _ (g) rfl (eE E) (by kernel_rfl)) ?_
  refine lD 2 5 0 Try.underlying3 (fun u hk=>(HB0.out.kept hk).fld 4 _ rfl) ?_
  refine aS 3 rfl (fun a u E D hk=>exec_eqn rfl (dD D 1) rfl) hK ?_
  exact fz
 intro w1 k1
 simp only [F8]
 have HB1 := Lib.hid (HB0.out.kept k1)
 have kw1 := kw0.trans k1
 clear k1 kw0
 go_upto_region 3 with fail
 refine wEp 6 [pV g 3, iV c.side, pV g 5, iV c.price, iV x, bV (!bet c.side x c.price)] [8,9,10,11,12,13] ?_ ?_
 ·refine sW 1 rfl (fun a u E D hk=>exec_fld 24 3 3 _ (g) rfl (eE E) (by kernel_rfl)) ?_
  refine lD 2 8 0 Try.underlying3 (fun u hk=>(HB1.out.kept hk).fld 3 _ rfl) ?_
  refine sW 3 rfl (fun a u E D hk=>exec_fld 24 5 5 _ (g) rfl (eE E) (by kernel_rfl)) ?_
  refine lD 4 10 2 Try.underlying3 (fun u hk=>(HB1.out.kept hk).fld 5 _ rfl) ?_
  refine mE 5 1 ?_
  refine cS 6 70 [.int .i64 c.side, .int .i64 c.price, .int .i64 x] rfl Try.func70 rfl (fun a u E D hk=>⟨ll (dD D 1) (ll (dD D 3) (ll (dD D 4) rfl)), reaches_any _ _ _ u⟩) ?_
  exact fz
 intro w2 k2
 simp only [F8]
 have HB2 := Lib.hid (HB1.out.kept k2)
 have kw2 := kw1.trans k2
 clear k2 kw1
 go_wp2
 go_ret
 exact ⟨_, rfl, rfl, kw2⟩
theorem crosses_any (c : Ord) (x : Int) (w : World) : Gives 94 #[c.v, .int .i64 x] w (.eq (.bool (c.crosses x))) := by
 unfold Ord.crosses
 cases hK : decide (c.k = 2) with
 | true => exact crosses_m c x hK w
 | false => exact crosses_o c x hK w
set_option maxRecDepth 100000 in
set_option maxHeartbeats 800000 in
theorem hit_any (c : Ord) (x : Int) (w : World) : Gives 58 #[c.v, .int .i64 x] w (.eq (.bool (c.hit x))) := by
 unfold Gives Ord.v
 have HT : Hid True := trivial
 have HB0 : Hid (Blk (w.alloc (.cells c.cells.toArray 24)) w.heap.size 24 c.cells) := Blk.new w _ _
 have kw0 : Kept w (w.alloc (.cells c.cells.toArray 24)) := (Keep.refl _ w).alloc _
 go_enter Try.func58, Try.ntmps58
 go_upto_region 1 with fail
 generalize w.alloc (.cells c.cells.toArray 24) = w0 at HB0 kw0 ⊢
 generalize w.heap.size = g at HB0 ⊢
 refine wp_text 15 [pE g 8, iE c.stop, bE (decide ((0 : Int) < (c.stop : Int))), bE (decide ((0 : Int) < (c.stop : Int))), .cond (decide ((0 : Int) < (c.stop : Int))) (iE x), .cond (decide ((0 : Int) < (c.stop : Int))) (bE (decide ((0 : Int) < (x : Int)))), bE ((decide ((0 : Int) < (c.stop : Int))) && (decide ((0 : Int) < (x : Int)))), bE ((decide ((0 : Int) < (c.stop : Int))) && (decide ((0 : Int) < (x : Int)))), .cond ((decide ((0 : Int) < (c.stop : Int))) && (decide ((0 : Int) < (x : Int)))) (pE g 3), .cond ((decide ((0 : Int) < (c.stop : Int))) && (decide ((0 : Int) < (x : Int)))) (iE c.side), .cond ((decide ((0 : Int) < (c.stop : Int))) && (decide ((0 : Int) < (x : Int)))) (iE x), .cond ((decide ((0 : Int) < (c.stop : Int))) && (decide ((0 : Int) < (x : Int)))) (pE g 8), .cond ((decide ((0 : Int) < (c.stop : Int))) && (decide ((0 : Int) < (x : Int)))) (iE c.stop), .cond ((decide ((0 : Int) < (c.stop : Int))) && (decide ((0 : Int) < (x : Int)))) (bE (!bet c.side c.stop x)), bE (((decide ((0 : Int) < (c.stop : Int))) && (decide ((0 : Int) < (x : Int)))) && (!bet c.side c.stop x))] rfl (by kernel_rfl) ?_ ?_
 ·refine sW 1 rfl (fun a u E D hk=>exec_fld 24 8 8 _ (g) rfl (eE E) (by kernel_rfl)) ?_
  refine lD 2 5 0 Try.underlying3 (fun u hk=>(HB0.out.kept hk).fld 8 _ rfl) ?_
  refine sW 3 rfl (fun a u E D hk=>exec_gtn rfl (dD D 1) rfl) ?_
  refine mD 4 7 2 ?_
  refine iC 5 3 rfl (fun a u E D hk hb=>exec_move _ (.int .i64 x) rfl (eE E)) ?_
  refine iC 6 3 rfl (fun a u E D hk hb=>exec_gtn rfl ((D 4 9 (by kernel_rfl)).1 hb) rfl) ?_
  refine sW 7 rfl (fun a u E D hk=>exec_pickand _ _ _ ((decide ((0 : Int) < (c.stop : Int)))) ((decide ((0 : Int) < (x : Int)))) rfl (dD D 3) (fun hb2 => ((D 5 10 (by kernel_rfl)).1 hb2)) rfl) ?_
  refine mD 8 11 6 ?_
  refine iC 9 7 rfl (fun a u E D hk hb=>exec_fld 24 3 3 _ (g) rfl (eE E) (by kernel_rfl)) ?_
  refine iC 10 7 rfl (fun a u E D hk hb=>exec_loadi _ Try.underlying3 _ _ _ rfl ((D 8 13 (by kernel_rfl)).1 hb) ((HB0.out.kept hk).fld 3 _ rfl)) ?_
  refine iC 11 7 rfl (fun a u E D hk hb=>exec_move _ (.int .i64 x) rfl (eE E)) ?_
  refine iC 12 7 rfl (fun a u E D hk hb=>exec_fld 24 8 8 _ (g) rfl (eE E) (by kernel_rfl)) ?_
  refine iC 13 7 rfl (fun a u E D hk hb=>exec_loadi _ Try.underlying3 _ _ _ rfl ((D 11 16 (by kernel_rfl)).1 hb) ((HB0.out.kept hk).fld 8 _ rfl)) ?_
  refine fsteps_cons 14 rfl (fun a u hE hD hk => f_if _ rfl rfl rfl (dD hD 7) (fun hb => f_call 70 #[.int .i64 c.side, .int .i64 x, .int .i64 c.stop] rfl (wanted_b rfl rfl (dD hD 7) (eq_true_of hb)) (exec_call 70 _ [.tmp 14, .tmp 15, .tmp 17] _ [.int .i64 c.side, .int .i64 x, .int .i64 c.stop] Try.func70 (by kernel_rfl) (by kernel_rfl) rfl (show [a.eval (.tmp 14), a.eval (.tmp 15), a.eval (.tmp 17)] = [.int .i64 c.side, .int .i64 x, .int .i64 c.stop] from (by rw [show a.eval (.tmp 14) = .int .i64 c.side from ((hD 9 14 (by kernel_rfl)).1 hb), show a.eval (.tmp 15) = .int .i64 x from ((hD 10 15 (by kernel_rfl)).1 hb), show a.eval (.tmp 17) = .int .i64 c.stop from ((hD 12 17 (by kernel_rfl)).1 hb)] <;> rfl)) u) (reaches_any _ _ _ u))) ?_
  refine sW 15 rfl (fun a u E D hk=>exec_pickand _ _ _ (((decide ((0 : Int) < (c.stop : Int))) && (decide ((0 : Int) < (x : Int))))) ((!bet c.side c.stop x)) rfl (dD D 7) (fun hb2 => ((D 13 18 (by kernel_rfl)).1 hb2)) rfl) ?_
  exact fz
 intro gv w1 hV k1
 rw [dq 15 [5,6,7,8,9,10,11,12,13,14,15,16,17,18,19]]
 simp only [Fz7]
 rw [gQ hV 14 19 (.bool (((decide ((0 : Int) < (c.stop : Int))) && (decide ((0 : Int) < (x : Int)))) && (!bet c.side c.stop x)))]
 clear hV
 have HB1 := Lib.hid (HB0.out.kept k1)
 have kw1 := kw0.trans k1
 clear k1 kw0
 go_wp2
 go_ret
 exact ⟨_, rfl, rfl, kw1⟩
def bkCells (v1 v2 : Value) (last no : Int) : List Value := [.int .i64 1, v1, .int .i64 2, v2, .int .i64 last, .int .i64 no]
def Bk (w : World) (F : Nat → Prop) (p : Nat) (B : Bok) : Prop := F p ∧ (∀ b, F b → b < w.heap.size) ∧ ∃ v1 v2 F1 F2, Blk w p 72 (bkCells v1 v2 B.last B.no) ∧ Way 96 98 89 w F1 v1 B.buys ∧ Way 96 98 89 w F2 v2 B.sells ∧ (∀ b, F1 b → F b ∧ b ≠ p ∧ ¬ F2 b) ∧ (∀ b, F2 b → F b ∧ b ≠ p)
theorem Bk.keep {S F : Nat → Prop} {w w' : World} {p : Nat} {B : Bok} (h : Bk w F p B) (hk : Keep S w w') (hn : ∀ b, F b → ¬ S b) : Bk w' F p B := by
 obtain ⟨h1, h2, v1, v2, F1, F2, hB, hW1, hW2, h3, h4⟩ := h
 exact ⟨h1, fun b hb => Nat.lt_of_lt_of_le (h2 b hb) hk.size, v1, v2, F1, F2, hB.keep hk (hn p h1), hW1.keep hk (fun b hb => hn b (h3 b hb).1), hW2.keep hk (fun b hb => hn b (h4 b hb).1), h3, h4⟩
theorem Bk.kept {F : Nat → Prop} {w w' : World} {p : Nat} {B : Bok} (h : Bk w F p B) (hk : Kept w w') : Bk w' F p B := h.keep hk (fun _ _ h => h)
theorem Bk.lt {F : Nat → Prop} {w : World} {p : Nat} {B : Bok} (h : Bk w F p B) : ∀ b, F b → b < w.heap.size := h.2.1
def offS (s : Int) : Nat := if s = 1 then 0 else 2
theorem Bk.lad {F : Nat → Prop} {w : World} {p : Nat} {B : Bok} (h : Bk w F p B) {s : Int} (hs : s = 1 ∨ s = 2) : ∃ F', Lad w F' p (offS s) s (B.sd s) := by
 obtain ⟨h1, h2, v1, v2, F1, F2, hB, hW1, hW2, h3, h4⟩ := h
 rcases hs with rfl | rfl
 ·exact ⟨F1, v1, hB.cell 0, hB.cell 1, hW1⟩
 ·exact ⟨F2, v2, hB.cell 2, hB.cell 3, hW2⟩
def Kn.lad (s : Int) (L : List Lev) : Kn := ⟨fun v w => ∃ F g off s', v = .pointer (some ⟨g, off, none⟩) ∧ Lad w F g off s' L ∧ (s' = s ∨ L = []), fun _ _ _ ⟨F, g, off, s', h1, h2, h3⟩ hk => ⟨F, g, off, s', h1, h2.kept hk, h3⟩⟩
theorem gives_base {f : Nat} {args : Array Value} {u : World} {T : TypeId} {k n base : Nat} {cs : List Value} (h : Gives f args u (.sl u.heap.size T k n cs)) (hb : base ≤ u.heap.size) : Gives f args u (.sl base T k n cs) :=
 h.mono fun e w' ⟨v, h1, h2, h3⟩ => ⟨v, h1, ⟨h2.1, fun b hb' => Nat.le_trans hb (h2.2 b hb')⟩, h3⟩
theorem LvsOk.nil : LvsOk [] := ⟨by simp, by simp [entL], by simp, by simp [wholeL, entL, wholeM, sumI]⟩
theorem Inv.ok {B : Bok} (h : Inv B) (s : Int) : LvsOk (B.sd s) := by
 unfold Bok.sd
 split
 ·exact h.two.mine.ok
 ·split
  ·exact h.two.theirs.ok
  ·exact LvsOk.nil
def lad0 : List Value := [.int .i64 0, .slice none 0 0]
def lad1 (s : Int) : List Value := [.int .i64 s, .slice none 0 0]
theorem built_lad0 : Try.prog.built 70 [] = some lad0.toArray := by kernel_rfl
theorem built_lad1 (s : Int) : Try.prog.built 70 [(0, .int .i64 s)] = some (lad1 s).toArray := by kernel_rfl
theorem built_bk : Try.prog.built 72 [(0, .agg (lad1 1).toArray), (1, .agg (lad1 2).toArray)] = some (bkCells (.slice none 0 0) (.slice none 0 0) 0 0).toArray := by kernel_rfl
theorem bnew_any (w : World) : Calls Try.prog 44 #[] w fun e w' => ∃ p F, e = .returned (.pointer (some ⟨p, 0, none⟩)) ∧ Bk w' F p Bok.zero ∧ Grow w (fun _ => False) F ∧ Kept w w' := by
 go_enter Try.func44, Try.ntmps44
 go_upto_region 1 with fail
 refine wp_text 4 [.eq (.agg (lad1 1).toArray), .eq (.agg (lad1 2).toArray), .eq (.agg (bkCells (.slice none 0 0) (.slice none 0 0) 0 0).toArray), .fresh w.heap.size 72 (bkCells (.slice none 0 0) (.slice none 0 0) 0 0)] rfl (by kernel_rfl) ?_ ?_
 ·refine sW 1 rfl (fun a u E D hk=>exec_build 70 [(0, .const (.int .i64 1))] (lad1 1) rfl (built_lad1 1)) ?_
  refine sW 2 rfl (fun a u E D hk=>exec_build 70 [(0, .const (.int .i64 2))] (lad1 2) rfl (built_lad1 2)) ?_
  refine sW 3 rfl (fun a u E D hk=>exec_build 72 [(0, .tmp 1), (1, .tmp 2)] (bkCells (.slice none 0 0) (.slice none 0 0) 0 0) rfl (by simp only [List.map_cons, List.map_nil]; rw [show a.eval (.tmp 1) = .agg (lad1 1).toArray from (dD D 0), show a.eval (.tmp 2) = .agg (lad1 2).toArray from (dD D 1)]; exact built_bk)) ?_
  refine nW 4 rfl (fun a u E D hk=>⟨_, _, exec_box 72 _ (bkCells (.slice none 0 0) (.slice none 0 0) 0 0) rfl (dD D 2), ⟨_, rfl, hk.size, Blk.new u _ _⟩, ((Keep.refl _ u).alloc _)⟩) ?_
  exact fz
 intro gv w1 hV k1
 rw [dq 4 [1,2,3,4]]
 simp only [Fz7]
 have hv4 : (.fresh w.heap.size 72 (bkCells (.slice none 0 0) (.slice none 0 0) 0 0) : Kn).p (gv 4) w1 := hV 3 4 (by kernel_rfl)
 generalize gv 4 = v4 at hv4 ⊢
 clear hV
 obtain ⟨g, rfl, hg, hB⟩ := hv4
 refine l_val (.pointer (some ⟨g, 0, none⟩)) rfl (exec_assign _ _ rfl (by kernel_rfl)) ?_
 simp only [Act.put, List.setIfInBounds_toArray, List.set_cons_zero]
 refine wpList_nil ?_
 go_wp2
 go_ret
 exact ⟨g, (· = g), rfl, ⟨rfl, fun b hb => by subst hb; exact hB.lt, _, _, _, _, hB, Way.nil _, Way.nil _, fun b hb => hb.elim, fun b hb => hb.elim⟩, fun b hb => .inr (by omega), k1⟩
theorem blast_any (w : World) (F : Nat → Prop) (p : Nat) (B : Bok) (h : Bk w F p B) : Gives 59 #[.pointer (some ⟨p, 0, none⟩)] w (.eq (.int .i64 B.last)) := by
 refine gives_eq ?_
 obtain ⟨h1, h2, v1, v2, F1, F2, hB, _⟩ := h
 have HB := Lib.hid hB
 clear hB h1 h2
 go_enter Try.func59, Try.ntmps59
 go_upto_region 1 with fail
 refine wE 5 [pV p 0, pV p 0, pV p 4, iV B.last, iV B.last] [3,4,5,6,2] ?_ ?_
 ·refine mE 1 0 ?_
  refine nD 2 3 0 ?_
  refine fD 3 4 1 72 2 4 0 ?_
  refine lD 4 5 2 Try.underlying3 (fun u hk=>Kept.cell hk (HB.out.cell 4)) ?_
  refine mD 5 6 3 ?_
  exact fz
 intro w1 k1
 simp only [F8]
 go_wp2
 go_ret
 exact ⟨rfl, k1⟩
theorem bno_any (w : World) (F : Nat → Prop) (p : Nat) (B : Bok) (h : Bk w F p B) : Gives 14 #[.pointer (some ⟨p, 0, none⟩)] w (.eq (.int .i64 B.no)) := by
 refine gives_eq ?_
 obtain ⟨h1, h2, v1, v2, F1, F2, hB, _⟩ := h
 have HB := Lib.hid hB
 clear hB h1 h2
 go_enter Try.func14, Try.ntmps14
 go_upto_region 1 with fail
 refine wE 5 [pV p 0, pV p 0, pV p 5, iV B.no, iV B.no] [3,4,5,6,2] ?_ ?_
 ·refine mE 1 0 ?_
  refine nD 2 3 0 ?_
  refine fD 3 4 1 72 3 5 0 ?_
  refine lD 4 5 2 Try.underlying3 (fun u hk=>Kept.cell hk (HB.out.cell 5)) ?_
  refine mD 5 6 3 ?_
  exact fz
 intro w1 k1
 simp only [F8]
 go_wp2
 go_ret
 exact ⟨rfl, k1⟩
set_option maxHeartbeats 800000 in
theorem of_any (w : World) (F : Nat → Prop) (p : Nat) (B : Bok) (s : Int) (h : Bk w F p B) : Gives 37 #[.pointer (some ⟨p, 0, none⟩), .int .i64 s] w (.lad s (B.sd s)) := by
 have HB := Lib.hid h
 clear h
 by_cases hs1 : s = 1
 ·have HR : Hid (∀ u, Kept w u → (Kn.lad s (B.sd s)).p (.pointer (some ⟨p, 0, none⟩)) u) := fun u k => by
   obtain ⟨F', hL⟩ := (HB.out.kept k).lad (.inl hs1)
   rw [hs1] at hL ⊢
   exact ⟨F', p, 0, 1, rfl, hL, .inl rfl⟩
  go_enter Try.func37, Try.ntmps37
  go_upto_region 1 with fail
  refine wE 1 [iV s] [5] ?_ ?_
  ·refine mE 1 1 ?_
   exact fz
  intro w1 k1
  simp only [F8]
  go_upto_region 2 with fail
  refine wE 2 [bV true, bV true] [7,6] ?_ ?_
  ·refine aS 1 rfl (fun a u E D hk=>exec_eqn (p := s) (q := 1) rfl (eE E) rfl) (decide_eq_true hs1) ?_
   refine mD 2 7 0 ?_
   exact fz
  intro w2 k2
  simp only [F8]
  go_upto_region 3 with fail
  refine wE 4 [pV p 0, pV p 0, pV p 0, pV p 0] [8,9,10,4] ?_ ?_
  ·refine mE 1 0 ?_
   refine nD 2 8 0 ?_
   refine fD 3 9 1 72 0 0 0 ?_
   refine mD 4 10 2 ?_
   exact fz
  intro w3 k3
  simp only [F8]
  have kw := (k1.trans k2).trans k3
  clear k1 k2 k3 hs1
  go_wp2
  go_ret
  exact ⟨_, rfl, HR.out _ kw, kw⟩
 ·by_cases hs2 : s = 2
  ·have HR : Hid (∀ u, Kept w u → (Kn.lad s (B.sd s)).p (.pointer (some ⟨p, 2, none⟩)) u) := fun u k => by
    obtain ⟨F', hL⟩ := (HB.out.kept k).lad (.inr hs2)
    rw [hs2] at hL ⊢
    exact ⟨F', p, 2, 2, rfl, hL, .inl rfl⟩
   go_enter Try.func37, Try.ntmps37
   go_upto_region 1 with fail
   refine wE 1 [iV s] [5] ?_ ?_
   ·refine mE 1 1 ?_
    exact fz
   intro w1 k1
   simp only [F8]
   go_upto_region 2 with fail
   refine wE 2 [bV false, bV false] [7,6] ?_ ?_
   ·refine aS 1 rfl (fun a u E D hk=>exec_eqn (p := s) (q := 1) rfl (eE E) rfl) (decide_eq_false hs1) ?_
    refine mD 2 7 0 ?_
    exact fz
   intro w2 k2
   simp only [F8]
   go_upto_region 4 with fail
   refine wE 2 [bV true, bV true] [12,11] ?_ ?_
   ·refine aS 1 rfl (fun a u E D hk=>exec_eqn (p := s) (q := 2) rfl (eE E) rfl) (decide_eq_true hs2) ?_
    refine mD 2 12 0 ?_
    exact fz
   intro w3 k3
   simp only [F8]
   go_upto_region 5 with fail
   refine wE 4 [pV p 0, pV p 0, pV p 2, pV p 2] [13,14,15,4] ?_ ?_
   ·refine mE 1 0 ?_
    refine nD 2 13 0 ?_
    refine fD 3 14 1 72 1 2 0 ?_
    refine mD 4 15 2 ?_
    exact fz
   intro w4 k4
   simp only [F8]
   have kw := ((k1.trans k2).trans k3).trans k4
   clear k1 k2 k3 k4 hs1 hs2
   go_wp2
   go_ret
   exact ⟨_, rfl, HR.out _ kw, kw⟩
  ·have HR : Hid (B.sd s = []) := by show _ = _; unfold Bok.sd; rw [if_neg hs1, if_neg hs2]
   go_enter Try.func37, Try.ntmps37
   go_upto_region 1 with fail
   refine wE 1 [iV s] [5] ?_ ?_
   ·refine mE 1 1 ?_
    exact fz
   intro w1 k1
   simp only [F8]
   go_upto_region 2 with fail
   refine wE 2 [bV false, bV false] [7,6] ?_ ?_
   ·refine aS 1 rfl (fun a u E D hk=>exec_eqn (p := s) (q := 1) rfl (eE E) rfl) (decide_eq_false hs1) ?_
    refine mD 2 7 0 ?_
    exact fz
   intro w2 k2
   simp only [F8]
   go_upto_region 4 with fail
   refine wE 2 [bV false, bV false] [12,11] ?_ ?_
   ·refine aS 1 rfl (fun a u E D hk=>exec_eqn (p := s) (q := 2) rfl (eE E) rfl) (decide_eq_false hs2) ?_
    refine mD 2 12 0 ?_
    exact fz
   intro w3 k3
   simp only [F8]
   go_upto_region 6 with fail
   refine wp_text 2 [.eq (.agg lad0.toArray), .fresh w3.heap.size 70 lad0] rfl (by kernel_rfl) ?_ ?_
   ·refine sW 1 rfl (fun a u E D hk=>exec_build 70 [] lad0 rfl built_lad0) ?_
    refine nW 2 rfl (fun a u E D hk=>⟨_, _, exec_box 70 _ lad0 rfl (dD D 0), ⟨_, rfl, hk.size, Blk.new u _ _⟩, ((Keep.refl _ u).alloc _)⟩) ?_
    exact fz
   intro gv w4 hV k4
   rw [dq 2 [16,17]]
   simp only [Fz7]
   have hv17 : (.fresh w3.heap.size 70 lad0 : Kn).p (gv 17) w4 := hV 1 17 (by kernel_rfl)
   generalize gv 17 = v17 at hv17 ⊢
   clear hV
   obtain ⟨g, rfl, hg, hB⟩ := hv17
   refine l_val (.pointer (some ⟨g, 0, none⟩)) rfl (exec_assign _ _ rfl (by kernel_rfl)) ?_
   simp only [Act.put, sA, sS, sZ]
   refine wpList_nil ?_
   have kw := ((k1.trans k2).trans k3).trans k4
   clear k1 k2 k3 k4 hs1 hs2
   go_wp2
   go_ret
   exact ⟨_, rfl, ⟨fun _ => False, g, 0, 0, rfl, ⟨.slice none 0 0, hB.cell 0, hB.cell 1, by rw [HR.out]; exact Way.nil _⟩, .inr HR.out⟩, kw⟩
theorem borders_any (w : World) (F : Nat → Prop) (p : Nat) (B : Bok) (s : Int) (h : Bk w F p B) (hI : Inv B) : Gives 22 #[.pointer (some ⟨p, 0, none⟩), .int .i64 s] w (.sl w.heap.size 24 9 (ordsL (B.sd s)).length (ords (ordsL (B.sd s)))) := by
 have HB := Lib.hid h
 have HI := Lib.hid hI
 clear h hI
 go_enter Try.func22, Try.ntmps22
 go_upto_region 1 with fail
 refine wT 5 [pE p 0, iE s, .lad s (B.sd s), .sl w.heap.size 24 9 (ordsL (B.sd s)).length (ords (ordsL (B.sd s))), .sl w.heap.size 24 9 (ordsL (B.sd s)).length (ords (ordsL (B.sd s)))] [5,6,7,8,4] ?_ ?_
 ·refine mE 1 0 ?_
  refine mE 2 1 ?_
  refine cS 3 37 [.pointer (some ⟨p, 0, none⟩), .int .i64 s] rfl Try.func37 rfl (fun a u E D hk=>⟨ll (dD D 0) (ll (dD D 1) rfl), of_any u F p B s (HB.out.kept hk)⟩) ?_
  refine fsteps_cons 4 rfl (fun a u hE hD hk => f_call 38 #[a.eval (.tmp 7)] rfl (wanted_none rfl _) (exec_call 38 _ [.tmp 7] _ [a.eval (.tmp 7)] Try.func38 (by kernel_rfl) (by kernel_rfl) rfl rfl u) ((by obtain ⟨F', g, off, s', e, hL, hs⟩ := (hD 2 7 (by kernel_rfl)); rw [e]; exact gives_base (lorders_any u F' g off s' _ hL (HI.out.ok s)) hk.size))) ?_
  refine fsteps_cons 5 rfl (fun a u hE hD hk => f_val _ rfl (wanted_none rfl _) (exec_assign (.tmp 8) _ rfl rfl) (dD hD 3)) ?_
  exact fz
 intro gv w1 hV k1
 simp only [Fz7]
 have hv4 : (.sl w.heap.size 24 9 (ordsL (B.sd s)).length (ords (ordsL (B.sd s))) : Kn).p (gv 4) w1 := hV 4 4 (by kernel_rfl)
 generalize gv 4 = v4 at hv4 ⊢
 clear hV
 go_wp2
 go_ret
 exact ⟨_, rfl, hv4, k1⟩
theorem blen_any (w : World) (F : Nat → Prop) (p : Nat) (B : Bok) (h : Bk w F p B) (hI : Inv B) : Gives 77 #[.pointer (some ⟨p, 0, none⟩)] w (.eq (.int .i64 (B.len : Int))) := by
 refine gives_eq ?_
 have HB := Lib.hid h
 have HI := Lib.hid hI
 have hb := hI.two.mine.few
 have hs := hI.two.theirs.few
 have HLN : Hid (((entL B.buys).length : Int) + ((entL B.sells).length : Int) = (B.len : Int)) := by
  show _ = _
  unfold Bok.len Bok.all
  rw [List.length_append]
  omega
 obtain ⟨x, hx⟩ : ∃ x, (entL B.buys).length = x := ⟨_, rfl⟩
 obtain ⟨y, hy⟩ : ∃ y, (entL B.sells).length = y := ⟨_, rfl⟩
 have HX := Lib.hid hx
 have HY := Lib.hid hy
 rw [hx] at hb HLN
 rw [hy] at hs HLN
 clear h hI hx hy
 go_enter Try.func77, Try.ntmps77
 go_upto_region 1 with fail
 refine wGp 9 [pV p 0, pV p 0, pV p 0, iV (x : Int), pV p 0, pV p 0, pV p 2, iV (y : Int), iV (((x : Int) : Int) + ((y : Int) : Int))] [3,4,5,6,7,8,9,10,11] ?_ ?_
 ·refine mE 1 0 ?_
  refine nD 2 3 0 ?_
  refine fD 3 4 1 72 0 0 0 ?_
  refine cS 4 85 [.pointer (some ⟨p, 0, none⟩)] rfl Try.func85 rfl (fun a u E D hk=>⟨ll (dD D 2) rfl, (by obtain ⟨F', hL⟩ := (HB.out.kept hk).lad (.inl rfl : (1 : Int) = 1 ∨ (1 : Int) = 2); have hc := count_any u F' p 0 1 _ hL (HI.out.ok 1); rw [show (entL (B.sd 1)).length = x from HX.out] at hc; exact hc)⟩) ?_
  refine mE 5 0 ?_
  refine nD 6 7 4 ?_
  refine fD 7 8 5 72 1 2 0 ?_
  refine cS 8 85 [.pointer (some ⟨p, 2, none⟩)] rfl Try.func85 rfl (fun a u E D hk=>⟨ll (dD D 6) rfl, (by obtain ⟨F', hL⟩ := (HB.out.kept hk).lad (.inr rfl : (2 : Int) = 1 ∨ (2 : Int) = 2); have hc := count_any u F' p 2 2 _ hL (HI.out.ok 2); rw [show (entL (B.sd 2)).length = y from HY.out] at hc; exact hc)⟩) ?_
  refine sW 9 rfl (fun a u E D hk=>exec_addn (p := ((x : Int))) (q := ((y : Int))) (((x : Int) : Int) + ((y : Int) : Int)) rfl (dD D 3) (dD D 7) rfl (by omega) (by omega)) ?_
  exact fz
 intro w1 k1
 simp only [F8]
 refine l_val (.int .i64 (((x : Int) : Int) + ((y : Int) : Int))) rfl (exec_assign _ _ rfl (by kernel_rfl)) ?_
 simp only [Act.put, sA, sS, sZ]
 refine wpList_nil ?_
 go_wp2
 go_ret
 exact ⟨by rw [← HLN.out]; rfl, k1⟩
def sideCs (s : Int) (v u : Value) (last no : Int) : List Value := if s = 1 then bkCells v u last no else bkCells u v last no
theorem sideCs_len (s : Int) (v u : Value) (last no : Int) : (sideCs s v u last no).length = 6 := by unfold sideCs; split <;> rfl
theorem sideCs_side {s : Int} (hs : s = 1 ∨ s = 2) (v u : Value) (last no : Int) : (sideCs s v u last no)[offS s]? = some (.int .i64 s) := by rcases hs with rfl | rfl <;> rfl
theorem sideCs_get (s : Int) (v u : Value) (last no : Int) : (sideCs s v u last no)[offS s + 1]? = some v := by unfold sideCs offS; split <;> rfl
theorem sideCs_set (s : Int) (v v' u : Value) (last no : Int) : (sideCs s v u last no).set (offS s + 1) v' = sideCs s v' u last no := by unfold sideCs offS; split <;> rfl
theorem sideCs_last (s : Int) (v u : Value) (last no x : Int) : (sideCs s v u last no).set 4 (.int .i64 x) = sideCs s v u x no := by unfold sideCs; split <;> rfl
theorem sideCs_no (s : Int) (v u : Value) (last no x : Int) : (sideCs s v u last no).set 5 (.int .i64 x) = sideCs s v u last x := by unfold sideCs; split <;> rfl
theorem offS_le (s : Int) : offS s + 1 ≤ 3 := by unfold offS; split <;> omega
def Bok.to (B : Bok) (s : Int) (L : List Lev) (last no : Int) : Bok := { B.put s L with last := last, no := no }
theorem Bok.to_self {B : Bok} {s : Int} (hs : s = 1 ∨ s = 2) : B.to s (B.sd s) B.last B.no = B := by rcases hs with rfl | rfl <;> rfl
theorem Bok.to_to {B : Bok} {s : Int} (hs : s = 1 ∨ s = 2) (L M : List Lev) (l n l' n' : Int) : (B.to s L l n).to s M l' n' = B.to s M l' n' := by rcases hs with rfl | rfl <;> rfl
theorem Bok.to_sd {B : Bok} {s : Int} (hs : s = 1 ∨ s = 2) (L : List Lev) (l n : Int) : (B.to s L l n).sd s = L := by rcases hs with rfl | rfl <;> rfl
def Rejoin (w : World) (F : Nat → Prop) (p : Nat) (B : Bok) (s : Int) (u : Value) (Fs : Nat → Prop) : Prop :=
 ∀ (w' : World) (v' : Value) (L' : List Lev) (Fs' : Nat → Prop) (last no : Int), Keep (fun b => Fs b ∨ b = p) w w' → Blk w' p 72 (sideCs s v' u last no) → Way 96 98 89 w' Fs' v' L' → Grow w Fs Fs' → ∃ F', Bk w' F' p (B.to s L' last no) ∧ Grow w F F' ∧ Keep F w w' ∧ ∀ b, F b → F' b
theorem Bk.open_ {w : World} {F : Nat → Prop} {p : Nat} {B : Bok} (h : Bk w F p B) {s : Int} (hs : s = 1 ∨ s = 2) :
  ∃ v u Z G Fs, levs Z = B.sd s ∧ WayZ 96 98 89 w Fs v Z G ∧ Blk w p 72 (sideCs s v u B.last B.no) ∧ (∀ b, Fs b → F b ∧ b ≠ p) ∧ F p ∧ (∀ b, F b → b < w.heap.size) ∧ Rejoin w F p B s u Fs := by
 obtain ⟨h1, h2, v1, v2, F1, F2, hB, hW1, hW2, h3, h4⟩ := h
 have hpl := h2 p h1
 rcases hs with rfl | rfl
 ·obtain ⟨Z, G, e, hz⟩ := hW1
  refine ⟨v1, v2, Z, G, F1, e, hz, hB, fun b hb => ⟨(h3 b hb).1, (h3 b hb).2.1⟩, h1, h2, ?_⟩
  intro w' v' L' Fs' last no hk hB' hW' hG
  have hlt := hW'.lt
  have hkF : Keep F w w' := hk.mono (fun b _ hb => hb.elim (fun h => (h3 b h).1) (fun h => by subst h; exact h1))
  refine ⟨fun b => F b ∨ Fs' b, ⟨.inl h1, fun b hb => hb.elim (fun h => Nat.lt_of_lt_of_le (h2 b h) hk.size) (hlt b), v', v2, Fs', F2, hB', hW', hW2.keep hk (fun b hb h => h.elim (fun h => (h3 b h).2.2 hb) (fun h => (h4 b hb).2 h)), fun b hb => ?_, fun b hb => ⟨.inl (h4 b hb).1, (h4 b hb).2⟩⟩, fun b hb => hb.elim .inl (fun h => (hG b h).imp (fun h => (h3 b h).1) id), hkF, fun b hb => .inl hb⟩
  refine ⟨.inr hb, ?_, ?_⟩
  ·rcases hG b hb with h | h
   ·exact (h3 b h).2.1
   ·omega
  ·rcases hG b hb with h | h
   ·exact (h3 b h).2.2
   ·intro h'
    have := h2 b (h4 b h').1
    omega
 ·obtain ⟨Z, G, e, hz⟩ := hW2
  refine ⟨v2, v1, Z, G, F2, e, hz, hB, h4, h1, h2, ?_⟩
  intro w' v' L' Fs' last no hk hB' hW' hG
  have hlt := hW'.lt
  have hkF : Keep F w w' := hk.mono (fun b _ hb => hb.elim (fun h => (h4 b h).1) (fun h => by subst h; exact h1))
  refine ⟨fun b => F b ∨ Fs' b, ⟨.inl h1, fun b hb => hb.elim (fun h => Nat.lt_of_lt_of_le (h2 b h) hk.size) (hlt b), v1, v', F1, Fs', hB', hW1.keep hk (fun b hb h => h.elim (fun h => (h3 b hb).2.2 h) (fun h => (h3 b hb).2.1 h)), hW', fun b hb => ⟨.inl (h3 b hb).1, (h3 b hb).2.1, fun h' => ?_⟩, fun b hb => ⟨.inr hb, ?_⟩⟩, fun b hb => hb.elim .inl (fun h => (hG b h).imp (fun h => (h4 b h).1) id), hkF, fun b hb => .inl hb⟩
  ·rcases hG b h' with h | h
   ·exact (h3 b hb).2.2 h
   ·have := h2 b (h3 b hb).1
    omega
  ·rcases hG b hb with h | h
   ·exact (h4 b h).2
   ·omega
theorem ptrs_drop (X : Zs) (i : Nat) : (ptrs X).drop (i * 1) = ptrs (X.drop i) := by rw [Nat.mul_one, ptrs, ptrs, List.map_drop]
theorem ptrs_take (X : Zs) (i : Nat) : (ptrs X).take (i * 1) = ptrs (X.take i) := by rw [Nat.mul_one, ptrs, ptrs, List.map_take]
theorem ptrs_len1 (X : Zs) : (ptrs X).length = X.length * 1 := by rw [ptrs_len, Nat.mul_one]
def zP1 : List Value := [.pointer none]
theorem zP1_len : zP1.length = 1 := rfl
theorem zP1_one : ∀ u ∈ zP1, u.oneCell' = true := by intro u hu; simp [zP1] at hu; subst hu; rfl
theorem zeroVP (w : World) : (zeroValue 89).run Try.prog w = .ok (.pointer none) w := by kernel_rfl
theorem exec_clrP {a : Act} {o : Oper} {u : World} {t T : TypeId} {bytes : Nat} (ht : SlT t T 1 bytes) (hz0 : ∀ w, (zeroValue T).run Try.prog w = .ok (.pointer none) w) (x : Operand) (g off c : Nat) (hop : o.op = .call { callee := .builtin .clear, args := #[x], argTypes := #[t] }) (hx : a.eval x = .slice (some ⟨g, off, none⟩) 1 c) (hth : u.there g off 1) :
  (execOp a.eval o).run Try.prog u = .ok (.value (.tuple #[])) (u.setCells g off zP1) := by
 have hzc : (Builtin.zeroCells #[Value.pointer none] 1).toList = zP1 := by simp [Builtin.zeroCells, zP1]
 have hst := run_storeCells_cells (P := Try.prog) g off zP1 0 u (fun j hj => by simpa using (hth j (by simpa [zP1] using hj)).1) (fun j hj => by simpa using (hth j (by simpa [zP1] using hj)).2) zP1_one
 simp only [Nat.add_zero] at hst
 have hr : (Builtin.clear_ #[t] o.type #[.slice (some ⟨g, off, none⟩) 1 c]).run Try.prog u = .ok (.tuple #[]) (u.setCells g off zP1) := by
  simp [Builtin.clear_, run_underlying ht.und, hz0, Value.cells, hzc, hst]
 unfold execOp
 simp only [hop, resolve, invoke, builtin, Sem.run_bind, Sem.run_pure, Result.andThen_ok, List.map_toArray, List.map_cons, List.map_nil, hx, hr]
theorem append_inP (g off n c k : Nat) (X : Zs) (v2 : Value) (w : World) (hS : Sl w 89 1 (.slice (some ⟨g, off, none⟩) n c) n (ptrs X)) (hn : X.length = n) (hkn : k < n) (hnc : n ≤ c) (h2 : Sl w 89 1 v2 (n - (k + 1)) (ptrs (X.drop (k + 1)))) (ho : v2.ownBlock = some g) (ty : TypeId) :
  (Builtin.append_ #[68, 68] ty #[.slice (some ⟨g, off, none⟩) k c, v2]).run Try.prog w = .ok (.slice (some ⟨g, off, none⟩) (n - 1) c) (w.setCells g (off + k * 1) (ptrs (X.drop (k + 1)))) := by
 obtain ⟨z, hz, hz2, _⟩ := slQ.info
 obtain ⟨i0, hi, hz0, hz1, hzb⟩ := info_parts hz
 have hl : (ptrs (X.drop (k + 1))).length = (n - (k + 1)) * 1 := by rw [ptrs_len1, List.length_drop, hn]
 obtain ⟨_, _, _, ht⟩ := hS.setCells (k * 1) (ptrs (X.drop (k + 1))) (by rw [hl]; omega)
 obtain ⟨hl2, A, d, rfl, _, _, _, h4⟩ := h2
 cases A with
 | none => simp [Value.ownBlock] at ho
 | some ad =>
  obtain ⟨g2, off2, cur2, rfl, hB2, hle2, htk2⟩ := h4 _ rfl
  have hr := run_append_room_cells (P := Try.prog) w 68 ty 89 i0 slQ.und hi g off k c ⟨g2, off2, none⟩ (n - (k + 1)) d (ptrs (X.drop (k + 1))) (by rw [hz1, hl]) (fun j u hu => by rw [Addr.add_mid]; exact seg_cell hB2 htk2 j u hu) (ptrs_one _) (by omega)
   (fun j hj => by rw [hz1]; exact (ht j hj).1) (fun j hj => by rw [hz1]; exact (ht j hj).2)
  rw [hr, hz1, show k + (n - (k + 1)) = n - 1 by omega]
set_option maxRecDepth 100000 in
set_option maxHeartbeats 1600000 in
theorem ldelete_any (g off n c k : Nat) (X : Zs) (w : World) (hS : Sl w 89 1 (.slice (some ⟨g, off, none⟩) n c) n (ptrs X)) (hn : X.length = n) (hkn : k < n) (hlen : n ≤ 100000000) :
  Calls Try.prog 76 #[.slice (some ⟨g, off, none⟩) n c, .int .i64 (k : Int), .int .i64 ((k : Int) + 1)] w fun r w' => r = .returned (.slice (some ⟨g, off, none⟩) (n - 1) c) ∧ Sl w' 89 1 (.slice (some ⟨g, off, none⟩) (n - 1) c) (n - 1) (ptrs (X.eraseIdx k)) ∧ Keep (· = g) w w' := by
 have hnc : n ≤ c := by obtain ⟨_, A, c', e', h1, _⟩ := hS; injection e' with _ _ e3; subst e3; exact h1
 obtain ⟨vx, hvx⟩ := run_lhm slQ (some ⟨g, off, none⟩) n c k (k + 1) (by omega) (by omega) hnc
 obtain ⟨v1, hv1, ho1, hs1⟩ := slice_hS slQ _ n k (by omega) _ w hS
 obtain ⟨v2, hv2, ho2, hs2⟩ := slice_lS slQ _ n (k + 1) (by omega) _ w hS
 have e1 : v1 = .slice (some ⟨g, off, none⟩) k c := by
  obtain ⟨z, hz, hz2, _⟩ := slQ.info
  obtain ⟨i0, hi, hz0, hz1, hzb⟩ := info_parts hz
  have := hv1 w
  rw [run_slice_h (P := Try.prog) (w := w) 68 (some ⟨g, off, none⟩) n c (by rw [slQ.elem]; exact slQ.und) .i64 (k : Int) (by omega) (by omega), slQ.elem] at this
  simp [sizeOf, typeInfo, hi, hz1, sliced, Addr.add] at this
  exact this.symm
 subst e1
 have HX2 : Hid (∀ w, Sl w 89 1 (.slice (some ⟨g, off, none⟩) n c) n (ptrs X) → Sl w 89 1 v2 (n - (k + 1)) (ptrs (X.drop (k + 1)))) := fun w h => by
  have := hs2 w _ h
  rw [show (ptrs X).drop ((k + 1) * 1) = ptrs (X.drop (k + 1)) from ptrs_drop X (k + 1)] at this
  exact this
 have HVX := Lib.hid hvx
 have HV1 := Lib.hid hv1
 have HV2 := Lib.hid hv2
 have HO2 := Lib.hid ho2
 have HS := Lib.hid hS
 have HN := Lib.hid hn
 have hcast : ((k + 1 : Nat) : Int) = (k : Int) + 1 := by omega
 rw [hcast] at HVX HV2
 clear hvx hv1 hv2 ho1 ho2 hs1 hs2 hS hn
 have hne : ((k : Int) == (k : Int) + 1) = false := by simp; omega
 go_enter Try.func76, Try.ntmps76
 go_upto_region 1 with fail
 refine wE 6 [.slice (some ⟨g, off, none⟩) n c, iV (k : Int), iV ((k : Int) + 1), .slice (some ⟨g, off, none⟩) n c, iV (n : Int), vx] [8,9,10,11,12,13] ?_ ?_
 ·refine mE 1 0 ?_
  refine mE 2 1 ?_
  refine mE 3 2 ?_
  refine mE 4 0 ?_
  refine sW 5 rfl (fun a u E D hk=>exec_len _ _ _ slQ.und (some ⟨g, off, none⟩) n c rfl (dD D 3)) ?_
  refine sW 6 rfl (fun a u E D hk=>exec_slcLHM slQ _ _ _ _ _ vx _ _ _ rfl (dD D 0) (dD D 1) (dD D 2) (dD D 4) (HVX.out u)) ?_
  exact fz
 intro w1 k1
 simp only [F8]
 go_upto_region 2 with fail
 refine wE 3 [iV (k : Int), iV ((k : Int) + 1), bV false] [14,15,16] ?_ ?_
 ·refine mE 1 1 ?_
  refine mE 2 2 ?_
  refine aS 3 rfl (fun a u E D hk=>exec_eqn rfl (dD D 0) (dD D 1)) (decide_eq_false (by omega)) ?_
  exact fz
 intro w2 k2
 simp only [F8]
 clear hne
 go_upto_region 4 with fail
 refine wE 3 [.slice (some ⟨g, off, none⟩) n c, iV (n : Int), iV (n : Int)] [18,19,7] ?_ ?_
 ·refine mE 1 0 ?_
  refine sW 2 rfl (fun a u E D hk=>exec_len _ _ _ slQ.und (some ⟨g, off, none⟩) n c rfl (dD D 0)) ?_
  refine mD 3 19 1 ?_
  exact fz
 intro w3 k3
 simp only [F8]
 have kw3 := (k1.trans k2).trans k3
 clear k1 k2 k3
 go_upto_region 5 with fail
 refine wGp 6 [.slice (some ⟨g, off, none⟩) n c, iV (k : Int), .slice (some ⟨g, off, none⟩) k c, .slice (some ⟨g, off, none⟩) n c, iV ((k : Int) + 1), v2] [20,21,22,23,24,25] ?_ ?_
 ·refine mE 1 0 ?_
  refine mE 2 1 ?_
  refine sW 3 rfl (fun a u E D hk=>exec_slcH slQ _ _ _ _ _ rfl (dD D 0) (dD D 1) (HV1.out u)) ?_
  refine mE 4 0 ?_
  refine mE 5 2 ?_
  refine sW 6 rfl (fun a u E D hk=>exec_slcL slQ _ _ _ v2 _ rfl (dD D 3) (dD D 4) (HV2.out u)) ?_
  exact fz
 intro w4 k4
 simp only [F8]
 have kw4 := kw3.trans k4
 have hS4 := HS.out.kept kw4
 have hX4 := HX2.out w4 hS4
 have hr4 : ∀ ty, (Builtin.append_ #[68, 68] ty #[.slice (some ⟨g, off, none⟩) k c, v2]).run Try.prog w4 = .ok (.slice (some ⟨g, off, none⟩) (n - 1) c) (w4.setCells g (off + k * 1) (ptrs (X.drop (k + 1)))) := fun ty => append_inP g off n c k X v2 w4 hS4 HN.out hkn hnc hX4 (by rw [HO2.out]; rfl) ty
 refine l_new (.slice (some ⟨g, off, none⟩) (n - 1) c) (w4.setCells g (off + k * 1) (ptrs (X.drop (k + 1)))) rfl (exec_appS slQ (.tmp 22) (.tmp 25) (.slice (some ⟨g, off, none⟩) k c) v2 rfl (by kernel_rfl) (by kernel_rfl) _ _ (hr4 _)) ?_
 simp only [Act.put, sA, sS, sZ]
 refine l_val (.slice (some ⟨g, off, none⟩) (n - 1) c) rfl (exec_assign _ _ rfl (by kernel_rfl)) ?_
 simp only [Act.put, List.setIfInBounds_toArray, List.set_cons_zero]
 refine wpList_nil ?_
 have hlenE : (ptrs (X.drop (k + 1))).length = (n - (k + 1)) * 1 := by rw [ptrs_len1, List.length_drop, HN.out]
 obtain ⟨hS5, hk5, hz5, _⟩ := hS4.setCells (k * 1) (ptrs (X.drop (k + 1))) (by rw [hlenE]; omega)
 have HS5 : Hid (Sl (w4.setCells g (off + k * 1) (ptrs (X.drop (k + 1)))) 89 1 (.slice (some ⟨g, off, none⟩) n c) n (ptrs (X.eraseIdx k ++ X.drop (n - 1)))) := by
  rw [show (ptrs X).take (k * 1) = ptrs (X.take k) from ptrs_take X k, hlenE, show k * 1 + (n - (k + 1)) * 1 = (n - 1) * 1 by omega, show (ptrs X).drop ((n - 1) * 1) = ptrs (X.drop (n - 1)) from ptrs_drop X (n - 1)] at hS5
  show Sl _ _ _ _ _ _
  rw [List.eraseIdx_eq_take_drop_succ]
  rw [ptrs_append, ptrs_append]
  exact hS5
 have K5 : Keep (· = g) w (w4.setCells g (off + k * 1) (ptrs (X.drop (k + 1)))) := (Keep.mono (T := (· = g)) kw4 (fun _ _ h => h.elim)).trans hk5 (fun _ _ h => h)
 generalize w4.setCells g (off + k * 1) (ptrs (X.drop (k + 1))) = w5 at HS5 K5 ⊢
 clear hr4 hX4 hS4 hS5 hk5 hz5 kw4 kw3 k4 HX2 HV1 HV2 HVX HO2 HS hlenE
 obtain ⟨m, hm⟩ : ∃ m, n - 1 = m := ⟨_, rfl⟩
 have hmn : n = m + 1 := by omega
 rw [hm] at HS5 ⊢
 go_upto_region 6 with fail
 refine wEp 5 [.slice (some ⟨g, off, none⟩) m c, .slice (some ⟨g, off, none⟩) m c, iV (m : Int), iV (n : Int), .slice (some ⟨g, off + m * 1, none⟩) (n - m) (c - m)] [27,28,29,30,31] ?_ ?_
 ·refine mE 1 0 ?_
  refine mE 2 0 ?_
  refine sW 3 rfl (fun a u E D hk=>exec_len _ _ _ slQ.und (some ⟨g, off, none⟩) m c rfl (dD D 1)) ?_
  refine mE 4 7 ?_
  refine sW 5 rfl (fun a u E D hk=>exec_slcLH slQ _ _ _ _ _ _ _ rfl (dD D 0) (dD D 2) (dD D 3) (run_lh slQ g off m c m n (by omega) (by omega) u)) ?_
  exact fz
 intro w6 k6
 simp only [F8]
 obtain ⟨hS6, hk6, hz6, ht6⟩ := (HS5.out.kept k6).setCells (m * 1) zP1 (by rw [zP1_len]; omega)
 rw [zP1_len] at ht6
 have h1 : n - m = 1 := by omega
 refine l_new (.tuple #[]) (w6.setCells g (off + m * 1) zP1) rfl (exec_clrP slQ zeroVP (.tmp 31) g (off + m * 1) (c - m) rfl (by rw [← h1]; kernel_rfl) ht6) ?_
 simp only [Act.put]
 refine wpList_nil ?_
 have hS7 : Sl (w6.setCells g (off + m * 1) zP1) 89 1 (.slice (some ⟨g, off, none⟩) m c) m (ptrs (X.eraseIdx k)) := by
  have h2 := hS6.shrink (m := m) (by omega)
  have h3 : (X.eraseIdx k).length = m := by rw [List.length_eraseIdx, if_pos (by rw [HN.out]; exact hkn), HN.out]; omega
  rw [List.append_assoc, List.take_append_of_le_length (by rw [List.length_take, ptrs_len1, List.length_append, h3]; omega), List.take_take, Nat.min_self] at h2
  have h4 : (ptrs (X.eraseIdx k ++ X.drop m)).take (m * 1) = ptrs (X.eraseIdx k) := by
   rw [show (ptrs (X.eraseIdx k ++ X.drop m)).take (m * 1) = ptrs ((X.eraseIdx k ++ X.drop m).take m) from ptrs_take _ m, List.take_append_of_le_length (by omega), List.take_of_length_le (by omega)]
  rw [h4] at h2
  exact h2
 have HS7 := Lib.hid hS7
 have K7 : Keep (· = g) w (w6.setCells g (off + m * 1) zP1) := (K5.kept k6).trans hk6 (fun _ _ h => h)
 generalize w6.setCells g (off + m * 1) zP1 = w7 at HS7 K7 ⊢
 clear hS6 hS7 hk6 hz6 ht6 K5 HS5 k6
 go_wp2
 go_ret
 rw [hm]
 exact ⟨rfl, HS7.out, K7⟩
def dropE (A R : List Lev) (l : Lev) : List Lev := if l.2.isEmpty = true then A ++ R else A ++ l :: R
set_option maxRecDepth 100000 in
set_option maxHeartbeats 1600000 in
theorem drop_if_any (w : World) (F : Nat → Prop) (p : Nat) (B : Bok) (s : Int) (A R : List Lev) (l : Lev) (i : Nat) (h : Bk w F p B) (hs : s = 1 ∨ s = 2) (hL : B.sd s = A ++ l :: R) (hi : A.length = i) (hn : A.length + 1 + R.length ≤ 1000) (hX : l.2.length ≤ 100000000) :
  Calls Try.prog 67 #[.pointer (some ⟨p, offS s, none⟩), .int .i64 (i : Int)] w fun r w' => ∃ F', r = .returned (.tuple #[]) ∧ Bk w' F' p (B.to s (dropE A R l) B.last B.no) ∧ Grow w F F' ∧ Keep F w w' ∧ ∀ b, F b → F' b := by
 obtain ⟨v, u0, Z, G, Fs, eL, hW, hB, hFs, hp, hlt, hJ⟩ := h.open_ hs
 have HJ := Lib.hid hJ
 have HK := Lib.hid h
 obtain ⟨n, hnZ⟩ : ∃ n, Z.length = n := ⟨_, rfl⟩
 have hlen : A.length + 1 + R.length = n := by
  rw [← hnZ, ← levs_len, eL, hL]
  simp
  omega
 have hin : i < n := by omega
 obtain ⟨gs, os, c, rfl⟩ := hW.some_ (by omega)
 rw [hnZ] at hW hB
 obtain ⟨z, hz⟩ : ∃ z, Z[i]? = some z := ⟨Z[i]'(by omega), List.getElem?_eq_getElem (by omega)⟩
 have hzl : z.2 = l := by
  have h1 := levs_at hz
  rw [eL, hL, ← hi, List.getElem?_append_right (Nat.le_refl _), Nat.sub_self] at h1
  simpa using h1.symm
 obtain ⟨q, pr, X⟩ := z
 subst hzl
 have hnZ1 : n ≤ 1000 := by omega
 have HZR : Hid (levs (Z.eraseIdx i) = A ++ R) := by
  show _ = _
  have e0 : levs (Z.eraseIdx i) = (levs Z).eraseIdx i := by simp [levs, List.eraseIdx_eq_take_drop_succ, List.map_take, List.map_drop]
  rw [e0, eL, hL, ← hi, List.eraseIdx_append_of_length_le (Nat.le_refl _), Nat.sub_self]
  rfl
 have HV : Hid (w.cell? ⟨p, offS s + 1, none⟩ = some (.slice (some ⟨gs, os, none⟩) n c)) := by
  show _ = _
  rw [hB.cell]
  exact sideCs_get s _ _ _ _
 have HC := Lib.hid (hW.cell hz)
 have HLV := Lib.hid (hW.lv (q, pr, X) (List.mem_of_getElem? hz))
 have HB := Lib.hid hB
 have HW := Lib.hid hW
 have HSL := Lib.hid hW.sl
 rw [hnZ] at HSL
 have HN := Lib.hid hnZ
 have HL := Lib.hid hL
 have HFs := Lib.hid hFs
 have hgs : Fs gs := (hW.own gs rfl).1
 have hgp : gs ≠ p := (hFs gs hgs).2
 have hpl := hlt p hp
 have hgl := hlt gs (hFs gs hgs).1
 have ho3 := offS_le s
 clear hW hB eL hJ hz hFs hL h hlt hlen hi hn hnZ
 obtain ⟨x, hx⟩ : ∃ x, X.length = x := ⟨_, rfl⟩
 have HX := Lib.hid hx
 have hX : x ≤ 100000000 := by rw [← hx]; exact hX
 clear hx
 by_cases hx0 : x = 0
 ·have HE : Hid (dropE A R (pr, X) = A ++ R) := by
   show _ = _
   unfold dropE
   rw [if_pos (by simp only [List.isEmpty_iff]; exact List.eq_nil_of_length_eq_zero (by rw [HX.out]; exact hx0))]
  go_enter Try.func67, Try.ntmps67
  go_upto_region 0 with fail
  refine wE 9 [pV p (offS s), pV p (offS s), pV p (offS s + 1), .slice (some ⟨gs, os, none⟩) n c, iV (i : Int), pV gs (os + i * 1), pV q 0, iV (x : Int), bV true] [4,5,6,7,8,9,10,11,12] ?_ ?_
  ·refine mE 1 0 ?_
   refine nD 2 4 0 ?_
   refine fD 3 5 1 70 1 1 (offS s) ?_
   refine sW 4 rfl (fun a u E D hk=>exec_ldv _ _ Try.underlying68 _ _ _ rfl (dD D 2) (Kept.cell hk (HV.out))) ?_
   refine mE 5 1 ?_
   refine sW 6 rfl (fun a u E D hk=>exec_ixo slQ _ _ (gs) (os) n c i (os + i * 1) ((i : Int)) rfl (dD D 3) (dD D 4) (by first | rfl | omega) (hin) (by first | rfl | omega)) ?_
   refine sW 7 rfl (fun a u E D hk=>exec_ldp _ _ Try.underlying89 _ _ _ rfl (dD D 5) (Kept.cell hk (HC.out))) ?_
   refine cS 8 75 [.pointer (some ⟨q, 0, none⟩)] rfl Try.func75 rfl (fun a u E D hk=>⟨ll (dD D 6) rfl, (by rw [← HX.out]; exact len_any u _ q X (HLV.out.kept hk))⟩) ?_
   refine aS 9 rfl (fun a u E D hk=>exec_eqn rfl (dD D 7) rfl) (decide_eq_true (by omega)) ?_
   exact fz
  intro w1 k1
  simp only [F8]
  have HB1 := Lib.hid (HB.out.kept k1)
  have HV1 := Lib.hid (k1.cell HV.out)
  have HS1 := Lib.hid (HSL.out.kept k1)
  have HW1 := Lib.hid (HW.out.kept k1)
  clear HB HV HC HLV HSL
  go_upto_region 1 with fail
  refine wEp 8 [pV p (offS s), pV p (offS s), pV p (offS s), pV p (offS s + 1), .slice (some ⟨gs, os, none⟩) n c, iV (i : Int), iV (i : Int), iV (((i : Int) : Int) + (1 : Int))] [13,14,15,16,17,18,19,20] ?_ ?_
  ·refine mE 1 0 ?_
   refine mE 2 0 ?_
   refine nD 3 14 1 ?_
   refine fD 4 15 2 70 1 1 (offS s) ?_
   refine sW 5 rfl (fun a u E D hk=>exec_ldv _ _ Try.underlying68 _ _ _ rfl (dD D 3) (Kept.cell hk (HV1.out))) ?_
   refine mE 6 1 ?_
   refine mE 7 1 ?_
   refine sW 8 rfl (fun a u E D hk=>exec_addn (p := ((i : Int))) (q := (1)) (((i : Int) : Int) + (1 : Int)) rfl (dD D 6) rfl rfl (by omega) (by omega)) ?_
   exact fz
  intro w2 k2
  simp only [F8]
  refine l_call 76 #[.slice (some ⟨gs, os, none⟩) n c, .int .i64 (i : Int), .int .i64 (((i : Int) : Int) + (1 : Int))] rfl (exec_call 76 _ [.tmp 17, .tmp 18, .tmp 20] _ _ Try.func76 (by kernel_rfl) (by kernel_rfl) rfl (by kernel_rfl) _) ?_
  refine (ldelete_any gs os n c i Z w2 (HS1.out.kept k2) HN.out hin (by omega)).mono ?_
  rintro r w3 ⟨rfl, hS3, hk3⟩
  refine ⟨_, rfl, ?_⟩
  simp only [Act.put, sA, sS, sZ]
  refine l_val (.pointer (some ⟨p, offS s, none⟩)) rfl (exec_nilp (.tmp 13) ⟨p, offS s, none⟩ rfl (by kernel_rfl)) ?_
  simp only [Act.put, sA, sS, sZ]
  refine l_val (.pointer (some ⟨p, offS s + 1, none⟩)) rfl (exec_fldo 70 1 1 (.tmp 22) (p) (offS s) (offS s + 1) rfl (by kernel_rfl) (by kernel_rfl) rfl) ?_
  simp only [Act.put, sA, sS, sZ]
  refine l_st1 68 p (offS s + 1) 72 _ (.slice (some ⟨gs, os, none⟩) (n - 1) c) _ _ rfl rfl (by kernel_rfl) (by kernel_rfl) (by kernel_rfl) rfl rfl ((HB1.out.kept k2).keep hk3 (fun e => hgp e.symm)) (by rw [sideCs_len]; omega) ?_
  intro w4 hB4 hk4 hs4
  simp only [Act.put]
  refine wpList_nil ?_
  rw [sideCs_set] at hB4
  have k12 := k1.trans k2
  have K4 : Keep (fun b => Fs b ∨ b = p) w w4 := (((Keep.mono (T := fun b => Fs b ∨ b = p) k12 (fun _ _ h => h.elim)).trans hk3 (fun b _ hb => by subst hb; exact .inl hgs))).trans hk4 (fun b _ hb => by subst hb; exact .inr rfl)
  have hlZ : (Z.eraseIdx i).length = n - 1 := by rw [List.length_eraseIdx, if_pos (by rw [HN.out]; exact hin), HN.out]
  obtain ⟨Fs', hW', hG', hk', _⟩ := (HW.out.kept k12).fewer (w' := w3) (v' := .slice (some ⟨gs, os, none⟩) (n - 1) c) (Z' := Z.eraseIdx i) (List.eraseIdx_sublist Z i)
   (hk3.mono (fun b _ hb => by subst hb; rfl)) (by rw [hlZ]; exact hS3) (fun b hb => .inl hb)
  have hG2 := hG'.wide k12.size
  have hW4 := hW'.keep hk4 (fun b hb e => by
   subst e
   rcases hG2 b hb with h | h
   ·exact (HFs.out b h).2 rfl
   ·omega)
  obtain ⟨F', q1, q2, q3, q4⟩ := HJ.out w4 _ _ _ _ _ K4 hB4 ⟨_, _, HZR.out, hW4⟩ hG2
  go_wp2
  go_end0
  exact ⟨rfl, F', by rw [HE.out]; exact q1, q2, q3, q4⟩
 ·have HE : Hid (B.to s (dropE A R (pr, X)) B.last B.no = B) := by
   show _ = _
   unfold dropE
   rw [if_neg (fun h => hx0 (by have h' : X = [] := List.isEmpty_iff.1 h; rw [← HX.out, h']; rfl)), ← HL.out, Bok.to_self hs]
  go_enter Try.func67, Try.ntmps67
  go_upto_region 0 with fail
  refine wE 9 [pV p (offS s), pV p (offS s), pV p (offS s + 1), .slice (some ⟨gs, os, none⟩) n c, iV (i : Int), pV gs (os + i * 1), pV q 0, iV (x : Int), bV false] [4,5,6,7,8,9,10,11,12] ?_ ?_
  ·refine mE 1 0 ?_
   refine nD 2 4 0 ?_
   refine fD 3 5 1 70 1 1 (offS s) ?_
   refine sW 4 rfl (fun a u E D hk=>exec_ldv _ _ Try.underlying68 _ _ _ rfl (dD D 2) (Kept.cell hk (HV.out))) ?_
   refine mE 5 1 ?_
   refine sW 6 rfl (fun a u E D hk=>exec_ixo slQ _ _ (gs) (os) n c i (os + i * 1) ((i : Int)) rfl (dD D 3) (dD D 4) (by first | rfl | omega) (hin) (by first | rfl | omega)) ?_
   refine sW 7 rfl (fun a u E D hk=>exec_ldp _ _ Try.underlying89 _ _ _ rfl (dD D 5) (Kept.cell hk (HC.out))) ?_
   refine cS 8 75 [.pointer (some ⟨q, 0, none⟩)] rfl Try.func75 rfl (fun a u E D hk=>⟨ll (dD D 6) rfl, (by rw [← HX.out]; exact len_any u _ q X (HLV.out.kept hk))⟩) ?_
   refine aS 9 rfl (fun a u E D hk=>exec_eqn rfl (dD D 7) rfl) (decide_eq_false (by omega)) ?_
   exact fz
  intro w1 k1
  simp only [F8]
  have hk1 := HK.out.kept k1
  go_wp2
  go_end0
  exact ⟨rfl, F, by rw [HE.out]; exact hk1, Grow.refl _ _, Keep.mono (T := F) k1 (fun _ _ h => h.elim), fun _ h => h⟩
theorem Blk.shape {w : World} {g : Nat} {t : TypeId} {cs : List Value} (h : Blk w g t cs) : w.shape? g = some (t, cs.length) := by
 unfold Blk at h
 unfold World.shape?
 rw [h]
 simp
theorem Sl.longer {w : World} {T : TypeId} {k n c m g off : Nat} {cs : List Value} (h : Sl w T k (.slice (some ⟨g, off, none⟩) n c) n cs) (hm : m ≤ c) (hn : n ≤ m) : ∃ ds, ds.length = m * k ∧ Sl w T k (.slice (some ⟨g, off, none⟩) m c) m ds ∧ ds.take (n * k) = cs := by
 obtain ⟨hl1, A', c', e', h1, h2, h3, h4⟩ := h
 injection e' with e1 e2 e3
 subst e1 e3
 obtain ⟨g', off', cur, e, hB, h5, h6⟩ := h4 _ rfl
 injection e with e1 e2
 subst e1 e2
 have hmc : m * k ≤ c * k := Nat.mul_le_mul_right k hm
 have hnm : n * k ≤ m * k := Nat.mul_le_mul_right k hn
 refine ⟨(cur.drop off).take (m * k), by rw [List.length_take, List.length_drop]; omega, ⟨by rw [List.length_take, List.length_drop]; omega, _, c, rfl, hm, h2, fun h => (by cases h), fun ad had => ?_⟩, by rw [List.take_take, Nat.min_eq_left hnm]; exact h6⟩
 injection had with had
 subst had
 exact ⟨g, off, cur, rfl, hB, h5, rfl⟩
theorem Sl.cap {w : World} {T : TypeId} {k n c : Nat} {A : Option Addr} {cs : List Value} (h : Sl w T k (.slice A n c) n cs) : n ≤ c ∧ c ≤ maxLen ∧ (A = none → c = 0) := by
 obtain ⟨_, A', c', e', h1, h2, h3, _⟩ := h
 injection e' with e1 e2 e3
 subst e1 e3
 exact ⟨h1, h2, h3⟩
theorem Sl.slice_ {w : World} {T : TypeId} {k n : Nat} {v : Value} {cs : List Value} (h : Sl w T k v n cs) : ∃ A c, v = .slice A n c := by
 obtain ⟨_, A, c, e, _⟩ := h
 exact ⟨A, c, e⟩
theorem zeros_len {z : Value} {k : Nat} (hz : z.cells.size = k) (m : Nat) : (Builtin.zeroCells z.cells m).toList.length = m * k := by simp [Builtin.zeroCells, hz]
theorem run_append_zeros {t tn T : TypeId} {k bytes : Nat} (ht : SlT t T k bytes) (htn : Try.prog.underlying tn = some (.int .i64)) (ty : TypeId) (w : World) (A : Option Addr) (n c m : Nat) (cs : List Value) (h : Sl w T k (.slice A n c) n cs) (hm : 0 < m) (hc : c < n + m) (h63 : n + m ≤ maxLen) (hlim : (n + m) * bytes ≤ 140737488355328) (hpos : 0 < bytes) :
  ∃ g' c' w' zs, (Builtin.append_ #[t, tn] ty #[.slice A n c, .int .i64 (m : Int)]).run Try.prog w = .ok (.slice (some ⟨g', 0, none⟩) (n + m) c') w' ∧ Sl w' T k (.slice (some ⟨g', 0, none⟩) (n + m) c') (n + m) (cs ++ zs) ∧ zs.length = m * k ∧ Kept w w' ∧ w.heap.size ≤ g' := by
 obtain ⟨z, hz, hz2, _⟩ := ht.info
 obtain ⟨i0, hi, hz0, hz1, hzb⟩ := info_parts hz
 obtain ⟨hl, A', c2, e', h1, h2, h3, h4⟩ := h
 injection e' with e1 e2 e3
 subst e1 e3
 have hold : (Builtin.firstCells i0.size n (.slice A n c)).run Try.prog w.drew = .ok cs.toArray w.drew := by
  cases A with
  | none =>
   have := h3 rfl
   have hn0 : n = 0 := by omega
   subst hn0
   have : cs = [] := List.eq_nil_of_length_eq_zero (by omega)
   subst this
   exact run_firstCells_none w.drew i0.size 0 0 c
  | some ad =>
   obtain ⟨g, off, cur, rfl, hB, h5, h6⟩ := h4 _ rfl
   exact run_firstCells_some w.drew i0.size n ⟨g, off, none⟩ n c cs (by rw [hz1]; exact hl) (fun j v hj => by rw [Addr.add_lit]; exact seg_cell hB h6 j v hj)
 have hmb : m * bytes ≤ (n + m) * bytes := Nat.mul_le_mul_right _ (by omega)
 have hr := Lib.run_append_grow_zeros (P := Try.prog) w t tn ty T i0 z .i64 .i64 ht.und htn hi hz0 A n c cs hold m hm (by rw [hz1]; exact ht.pos) hc (by unfold maxLen at h63; omega) (by rw [hzb]; omega) (by rw [hzb]; exact growslice_fits hc hlim)
 have hge := grownCap_ge w (n + m) c T
 have hle := grownCap_le_maxLen w (n + m) c T h63
 generalize grownCap w (n + m) c T = G at hr hge hle
 refine ⟨w.heap.size, G, _, (Builtin.zeroCells z.cells m).toList, hr, ⟨by rw [List.length_append, hl, zeros_len hz2, Nat.add_mul], _, G, rfl, hge, hle, fun h => (by cases h), fun ad had => ?_⟩, zeros_len hz2 m, ((Keep.refl _ w).drew).alloc _, Nat.le_refl _⟩
 injection had with had
 subst had
 refine ⟨w.heap.size, 0, (cs.toArray ++ Builtin.zeroCells z.cells m ++ Builtin.zeroCells z.cells (G - (n + m))).toList, rfl, ?_, ?_, ?_⟩
 ·have := Blk.new w.drew T (cs.toArray ++ Builtin.zeroCells z.cells m ++ Builtin.zeroCells z.cells (G - (n + m))).toList
  rw [Array.toArray_toList] at this
  exact this
 ·simp only [Array.toList_append, List.length_append, zeros_len hz2, hl, Nat.zero_add, ← Nat.add_mul]
  exact Nat.mul_le_mul_right k (by omega)
 ·rw [List.drop_zero, Array.toList_append, Array.toList_append, List.take_append_of_le_length (by simp only [List.length_append, zeros_len hz2, hl, ← Nat.add_mul]; exact Nat.le_refl _), List.take_of_length_le (by simp only [List.length_append, zeros_len hz2, hl, ← Nat.add_mul]; exact Nat.le_refl _)]
section
variable {a : Act} {o : Oper} {u : World} {t T : TypeId} {k bytes : Nat}
theorem exec_appZ (ht : SlT t T k bytes) (tn : TypeId) (s x : Operand) (v : Value) (m : Int) (hop : o.op = Op.call { callee := Callee.builtin Builtin.append, args := #[s, x], argTypes := #[t, tn] }) (hs : a.eval s = v) (hx : a.eval x = .int .i64 m) (v' : Value) (u' : World)
  (h : (Builtin.append_ #[t, tn] o.type #[v, .int .i64 m]).run Try.prog u = .ok v' u') : (execOp a.eval o).run Try.prog u = .ok (.value v') u' := by
 unfold execOp
 simp only [hop, resolve, invoke, builtin, Sem.run_bind, Sem.run_pure, Result.andThen_ok, List.map_toArray, List.map_cons, List.map_nil, hs, hx, h]
theorem exec_capS (x : Operand) (A : Option Addr) (n c : Nat) (ht : Try.prog.underlying t = some (.slice T)) (hop : o.op = .call { callee := .builtin .cap, args := #[x], argTypes := #[t] }) (hx : a.eval x = .slice A n c) : (execOp a.eval o).run Try.prog u = .ok (.value (.int .i64 (c : Int))) u := by
 unfold execOp
 simp only [hop, resolve, invoke, builtin, Sem.run_bind, Sem.run_pure, Result.andThen_ok, List.map_toArray, List.map_cons, List.map_nil, hx]
 simp [Builtin.cap_, run_underlying ht, go_sem]
theorem run_h (ht : SlT t T k bytes) (A : Option Addr) (n c h : Nat) (h3 : h ≤ c) (hA : A = none → c = 0) (u : World) : (Instr.slice t (.slice A n c) none (some (.int .i64 (h : Int))) none).run Try.prog u = .ok (.slice A h c) u := by
 obtain ⟨z, hz, hz2, _⟩ := ht.info
 obtain ⟨i0, hi, hz0, hz1, hzb⟩ := info_parts hz
 rw [run_slice_h (P := Try.prog) (w := u) t A n c (by rw [ht.elem]; exact ht.und) .i64 (h : Int) (by omega) (by omega), ht.elem]
 cases A with
 | none => simp [sizeOf, typeInfo, hi, hz1, sliced]
 | some ad => simp [sizeOf, typeInfo, hi, hz1, sliced, Addr.add]
theorem run_l (ht : SlT t T k bytes) (g off n c l : Nat) (h1 : l ≤ n) (h3 : l < c) (u : World) : (Instr.slice t (.slice (some ⟨g, off, none⟩) n c) (some (.int .i64 (l : Int))) none none).run Try.prog u = .ok (.slice (some ⟨g, off + l * k, none⟩) (n - l) (c - l)) u := by
 obtain ⟨z, hz, hz2, _⟩ := ht.info
 obtain ⟨i0, hi, hz0, hz1, hzb⟩ := info_parts hz
 rw [run_slice_l (P := Try.prog) (w := u) t (some ⟨g, off, none⟩) n c (by rw [ht.elem]; exact ht.und) .i64 (l : Int) (by omega) (by omega), ht.elem]
 have : ¬ c = l := by omega
 simp [sizeOf, typeInfo, hi, hz1, sliced, this, Addr.add_mid]
theorem exec_cpyS (d x : Operand) (v y : Value) (hop : o.op = Op.call { callee := Callee.builtin Builtin.copy, args := #[d, x], argTypes := #[t, t] }) (hd : a.eval d = v) (hx : a.eval x = y) (v' : Value) (u' : World)
  (h : (Builtin.copy_ #[t, t] o.type #[v, y]).run Try.prog u = .ok v' u') : (execOp a.eval o).run Try.prog u = .ok (.value v') u' := by
 unfold execOp
 simp only [hop, resolve, invoke, builtin, Sem.run_bind, Sem.run_pure, Result.andThen_ok, List.map_toArray, List.map_cons, List.map_nil, hd, hx, h]
theorem run_copy_sl (ht : SlT t T 1 bytes) (ty : TypeId) (g off n c i l d : Nat) (cs ds : List Value) (w : World) (h : Sl w T 1 (.slice (some ⟨g, off, none⟩) n c) n cs) (g2 off2 l2 c2 : Nat) (hd : w.rangeAt g2 off2 ds) (hl : ds.length = Nat.min l2 l) (hi : i + ds.length ≤ n) (h1 : ∀ u ∈ ds, u.oneCell' = true) :
  (Builtin.copy_ #[t, t] ty #[.slice (some ⟨g, off + i, none⟩) l d, .slice (some ⟨g2, off2, none⟩) l2 c2]).run Try.prog w = .ok (goInt ds.length) (w.setCells g (off + i) ds) ∧
  Sl (w.setCells g (off + i) ds) T 1 (.slice (some ⟨g, off, none⟩) n c) n (cs.take i ++ ds ++ cs.drop (i + ds.length)) ∧ Keep (· = g) w (w.setCells g (off + i) ds) := by
 obtain ⟨z, hz, hz2, _⟩ := ht.info
 obtain ⟨i0, hi0, hz0, hz1, hzb⟩ := info_parts hz
 obtain ⟨q1, q2, q3, q4⟩ := h.setCells i ds (by omega)
 refine ⟨?_, q1, q2⟩
 exact run_copy_cells w t t ty T g (off + i) l d ⟨g2, off2, none⟩ l2 c2 ds ht.und (by rw [hi0]; simp [hz1]) hl (fun j v hj => by rw [Addr.add_lit]; exact hd j v hj) (fun j hj => (q4 j hj).1) (fun j hj => (q4 j hj).2) h1
end
theorem exec_ovl {a : Act} {o : Oper} {u : World} (x y : Operand) (ts : Array TypeId) (g1 off1 l1 c1 g2 off2 l2 c2 : Nat) (T1 T2 : TypeId) (cs1 cs2 : List Value) (hop : o.op = .call { callee := .value (.func 107), args := #[x, y], argTypes := ts }) (hx : a.eval x = .slice (some ⟨g1, off1, none⟩) l1 c1) (hy : a.eval y = .slice (some ⟨g2, off2, none⟩) l2 c2)
  (h1 : Blk u g1 T1 cs1) (h2 : Blk u g2 T2 cs2) (hne : g1 ≠ g2) (h0 : cs2.length ≠ 0) : (execOp a.eval o).run Try.prog u = .ok (.value (.bool false)) u := by
 have hz : ∀ w, (Go.sizeOf 89).run Try.prog w = .ok 1 w := by
  intro w
  obtain ⟨z, hz, hz2, _⟩ := slQ.info
  obtain ⟨i0, hi, hz0, hz1, hzb⟩ := info_parts hz
  simp [Go.sizeOf, typeInfo, hi, hz1]
 have hov : (callFunc 107 #[.slice (some ⟨g1, off1, none⟩) l1 c1, .slice (some ⟨g2, off2, none⟩) l2 c2]).run Try.prog u = .ok (.value (.bool false)) u := by
  rw [run_callFunc_extern Try.func107 (by kernel_rfl) (by kernel_rfl) (by kernel_rfl) (e := Extern.SlicesOverlaps.overlaps #[68, 68] #[4]) (by kernel_rfl),
   Lib.run_overlaps_apart u 68 4 89 slQ.und 1 hz ⟨g1, off1, none⟩ ⟨g2, off2, none⟩ l1 c1 l2 c2 hne T1 T2 cs1.length cs2.length h1.shape h2.shape h0 (h1.frozen _) (h1.frozen _)]
  rfl
 have e : a.eval (.func 107) = .func (.func 107) #[] #[] := rfl
 unfold execOp
 simp only [hop, resolve, invoke, e, List.map_toArray, List.map_cons, List.map_nil, hx, hy, Sem.run_bind]
 simp [Deferred.ofValue, hov]
def insP (Z : Zs) (i : Nat) (q : Nat) : List Value := (ptrs Z).take i ++ [.pointer (some ⟨q, 0, none⟩)] ++ (ptrs Z).drop i
def InsIn (w : World) (v : Value) (n : Nat) (Z : Zs) (i q : Nat) (r : Ending) (w' : World) : Prop := ∃ v', r = .returned v' ∧ Sl w' 89 1 v' (n + 1) (insP Z i q) ∧ Keep (fun b => v.ownBlock = some b) w w' ∧ ∀ b, v'.ownBlock = some b → v.ownBlock = some b ∨ w.heap.size ≤ b
set_option maxRecDepth 100000 in
set_option maxHeartbeats 1600000 in
theorem linsert_end (w : World) (v : Value) (n : Nat) (Z : Zs) (g1 q : Nat) (hS : Sl w 89 1 v n (ptrs Z)) (hn : n ≤ 1000) (h1 : Blk w g1 89 [.pointer (some ⟨q, 0, none⟩)]) :
  Calls Try.prog 98 #[v, .int .i64 (n : Int), .slice (some ⟨g1, 0, none⟩) 1 1] w (InsIn w v n Z n q) := by
 obtain ⟨vx, hvx, _, _⟩ := slice_lS slQ v n n (Nat.le_refl _) _ w hS
 have HVX := Lib.hid hvx
 have HS := Lib.hid hS
 have H1 := Lib.hid h1
 have HX : Hid (∀ u, Kept w u → Sl u 89 1 (.slice (some ⟨g1, 0, none⟩) 1 1) 1 [.pointer (some ⟨q, 0, none⟩)]) := fun u k => ⟨rfl, _, 1, rfl, Nat.le_refl _, by decide, fun h => (by cases h), fun ad had => (by
  injection had with had
  subst had
  exact ⟨g1, 0, _, rfl, h1.kept k, by simp, rfl⟩)⟩
 clear hvx hS h1
 go_enter Try.func98, Try.ntmps98
 go_upto_region 1 with fail
 refine wE 3 [v, iV (n : Int), vx] [10,11,12] ?_ ?_
 ·refine mE 1 0 ?_
  refine mE 2 1 ?_
  refine sW 3 rfl (fun a u E D hk=>exec_slcL slQ _ _ v vx _ rfl (dD D 0) (dD D 1) (HVX.out u)) ?_
  exact fz
 intro wa ka
 simp only [F8]
 have HSa := Lib.hid (HS.out.kept ka)
 go_upto_region 2 with fail
 refine wE 3 [.slice (some ⟨g1, 0, none⟩) 1 1, iV (1 : Int), iV (1 : Int)] [13,14,7] ?_ ?_
 ·refine mE 1 2 ?_
  refine sW 2 rfl (fun a u E D hk=>exec_len _ _ _ slQ.und (some ⟨g1, 0, none⟩) 1 1 rfl (dD D 0)) ?_
  refine mD 3 14 1 ?_
  exact fz
 intro wb kb
 simp only [F8]
 have HSb := Lib.hid (HSa.out.kept kb)
 have kab := ka.trans kb
 clear ka kb HSa HVX
 go_upto_region 5 with fail
 refine wE 3 [v, iV (n : Int), iV (n : Int)] [18,19,8] ?_ ?_
 ·refine mE 1 0 ?_
  refine sW 2 rfl (fun a u E D hk=>exec_lenS _ slQ _ _ _ _ rfl (dD D 0) HSb.out) ?_
  refine mD 3 19 1 ?_
  exact fz
 intro wc kc
 simp only [F8]
 have kac := kab.trans kc
 have HSc := Lib.hid (HS.out.kept kac)
 clear kab kc HSb
 go_upto_region 6 with fail
 refine wE 3 [iV (n : Int), iV (n : Int), bV true] [20,21,22] ?_ ?_
 ·refine mE 1 1 ?_
  refine mE 2 8 ?_
  refine aS 3 rfl (fun a u E D hk=>exec_eqn rfl (dD D 0) (dD D 1)) (decide_eq_true rfl) ?_
  exact fz
 intro wd kd
 simp only [F8]
 have kad := kac.trans kd
 have HSd := Lib.hid (HS.out.kept kad)
 clear kac kd HSc
 go_upto_region 7 with fail
 refine wEp 2 [v, .slice (some ⟨g1, 0, none⟩) 1 1] [23,24] ?_ ?_
 ·refine mE 1 0 ?_
  refine mE 2 2 ?_
  exact fz
 intro we ke
 simp only [F8]
 have kae := kad.trans ke
 obtain ⟨v4, w4, hr4, hs4, hk4, ho4⟩ := run_append_sl slQ 68 we v (.slice (some ⟨g1, 0, none⟩) 1 1) n 1 _ _ (HSd.out.kept ke) (HX.out _ kae) (by intro u hu; simp at hu; subst hu; rfl) (by unfold maxLen; omega) (by omega)
 refine l_new v4 w4 rfl (exec_appS slQ (.tmp 23) (.tmp 24) v (.slice (some ⟨g1, 0, none⟩) 1 1) rfl (by kernel_rfl) (by kernel_rfl) v4 w4 hr4) ?_
 simp only [Act.put, sA, sS, sZ]
 refine l_val (v4) rfl (exec_assign _ _ rfl (by kernel_rfl)) ?_
 simp only [Act.put, sA, sS, sZ]
 refine wpList_nil ?_
 have zz := kae.size
 have HR : Hid (InsIn w v n Z n q (.returned v4) w4) := by
  refine ⟨v4, rfl, ?_, (Keep.mono (T := fun b => v.ownBlock = some b) kae (fun _ _ h => h.elim)).trans hk4 (fun _ _ h => h), fun b hb => (ho4 b hb).imp id (fun h => by omega)⟩
  have hl : (ptrs Z).length = n := by have := HS.out.len; omega
  unfold insP
  rw [List.take_of_length_le (by omega), List.drop_of_length_le (by omega), List.append_nil]
  exact hs4
 clear hs4 hk4 ho4
 go_wp2
 go_ret
 exact HR.out
set_option maxRecDepth 100000 in
set_option maxHeartbeats 1600000 in
theorem linsert_grow (w : World) (v : Value) (n i : Nat) (Z : Zs) (g1 q : Nat) (hS : Sl w 89 1 v n (ptrs Z)) (hn : n ≤ 1000) (hi : i < n) (h1 : Blk w g1 89 [.pointer (some ⟨q, 0, none⟩)]) (hne : ∀ b, v.ownBlock = some b → b ≠ g1) (hc : ∀ A c, v = .slice A n c → c < n + 1) :
  Calls Try.prog 98 #[v, .int .i64 (i : Int), .slice (some ⟨g1, 0, none⟩) 1 1] w (InsIn w v n Z i q) := by
 have hv0 := hS.some_ (by omega : 0 < n)
 obtain ⟨g, off, c, rfl⟩ := hv0
 obtain ⟨hnc, hcm, _⟩ := hS.cap
 have hcm' : c ≤ 9223372036854775807 := by unfold maxLen at hcm; omega
 have hgg : g ≠ g1 := fun e => hne g rfl e
 have hroom := hc _ _ rfl
 have HS := Lib.hid hS
 clear hc
 have H1 := Lib.hid h1
 have hl : (ptrs Z).length = n := by have := hS.len; omega
 clear hS h1 hne
 go_enter Try.func98, Try.ntmps98
 go_upto_region 1 with fail
 refine wE 3 [.slice (some ⟨g, off, none⟩) n c, iV (i : Int), .slice (some ⟨g, off + i * 1, none⟩) (n - i) (c - i)] [10,11,12] ?_ ?_
 ·refine mE 1 0 ?_
  refine mE 2 1 ?_
  refine sW 3 rfl (fun a u E D hk=>exec_slcL slQ _ _ _ _ _ rfl (dD D 0) (dD D 1) (run_l slQ g off n c i (by omega) (by omega) u)) ?_
  exact fz
 intro wa ka
 simp only [F8]
 go_upto_region 2 with fail
 refine wE 3 [.slice (some ⟨g1, 0, none⟩) 1 1, iV (1 : Int), iV (1 : Int)] [13,14,7] ?_ ?_
 ·refine mE 1 2 ?_
  refine sW 2 rfl (fun a u E D hk=>exec_len _ _ _ slQ.und (some ⟨g1, 0, none⟩) 1 1 rfl (dD D 0)) ?_
  refine mD 3 14 1 ?_
  exact fz
 intro wb kb
 simp only [F8]
 have kab := ka.trans kb
 clear ka kb
 go_upto_region 5 with fail
 refine wE 3 [.slice (some ⟨g, off, none⟩) n c, iV (n : Int), iV (n : Int)] [18,19,8] ?_ ?_
 ·refine mE 1 0 ?_
  refine sW 2 rfl (fun a u E D hk=>exec_len _ _ _ slQ.und (some ⟨g, off, none⟩) n c rfl (dD D 0)) ?_
  refine mD 3 19 1 ?_
  exact fz
 intro wc kc
 simp only [F8]
 have kac := kab.trans kc
 clear kab kc
 go_upto_region 6 with fail
 refine wE 3 [iV (i : Int), iV (n : Int), bV false] [20,21,22] ?_ ?_
 ·refine mE 1 1 ?_
  refine mE 2 8 ?_
  refine aS 3 rfl (fun a u E D hk=>exec_eqn rfl (dD D 0) (dD D 1)) (decide_eq_false (by omega)) ?_
  exact fz
 intro wd kd
 simp only [F8]
 have kad := kac.trans kd
 clear kac kd
 go_upto_region 8 with fail
 refine wE 6 [iV (n : Int), iV 1, iV (((n : Int) : Int) + (1 : Int)), .slice (some ⟨g, off, none⟩) n c, iV (c : Int), bV true] [26,27,28,29,30,31] ?_ ?_
 ·refine mE 1 8 ?_
  refine mE 2 7 ?_
  refine sW 3 rfl (fun a u E D hk=>exec_addn (p := ((n : Int))) (q := (1)) (((n : Int) : Int) + (1 : Int)) rfl (dD D 0) (dD D 1) rfl (by omega) (by omega)) ?_
  refine mE 4 0 ?_
  refine sW 5 rfl (fun a u E D hk=>exec_capS _ (some ⟨g, off, none⟩) n c slQ.und rfl (dD D 3)) ?_
  refine aS 6 rfl (fun a u E D hk=>exec_gtn rfl (dD D 2) (dD D 4)) (decide_eq_true (by omega)) ?_
  exact fz
 intro we ke
 simp only [F8]
 have kae := kad.trans ke
 clear kad ke
 have HSe := Lib.hid (HS.out.kept kae)
 have H1e := Lib.hid (H1.out.kept kae)
 have hgl : g < w.heap.size := HS.out.lt rfl
 have hcast : (n : Int) + 1 - (i : Int) = ((n + 1 - i : Nat) : Int) := by omega
 go_upto_region 9 with fail
 refine wEp 8 [.slice (some ⟨g, off, none⟩) n c, iV (i : Int), .slice (some ⟨g, off, none⟩) i c, iV (n : Int), iV 1, iV (((n : Int) : Int) + (1 : Int)), iV (i : Int), iV ((n + 1 - i : Nat) : Int)] [32,33,34,35,36,37,38,39] ?_ ?_
 ·refine mE 1 0 ?_
  refine mE 2 1 ?_
  refine sW 3 rfl (fun a u E D hk=>exec_slcH slQ _ _ _ _ _ rfl (dD D 0) (dD D 1) (run_h slQ (some ⟨g, off, none⟩) n c i (by omega) (fun h => by cases h) u)) ?_
  refine mE 4 8 ?_
  refine mE 5 7 ?_
  refine sW 6 rfl (fun a u E D hk=>exec_addn (p := ((n : Int))) (q := (1)) (((n : Int) : Int) + (1 : Int)) rfl (dD D 3) (dD D 4) rfl (by omega) (by omega)) ?_
  refine mE 7 1 ?_
  refine sW 8 rfl (fun a u E D hk=>exec_subn ((n + 1 - i : Nat) : Int) (p := (n : Int) + 1) (q := (i : Int)) rfl (dD D 5) (dD D 6) hcast (by omega) (by omega)) ?_
  exact fz
 intro wf kf
 simp only [F8]
 have kaf := kae.trans kf
 obtain ⟨gn, cn, wg, zs, hrz, hsz, hzl, hkz, hgn⟩ := run_append_zeros slQ Try.underlying3 68 wf (some ⟨g, off, none⟩) i c (n + 1 - i) _ ((HSe.out.kept kf).shrink (m := i) (by omega)) (by omega) (by omega) (by unfold maxLen; omega) (by omega) (by omega)
 have hrz2 : ∀ ty, (Builtin.append_ #[68, 3] ty #[.slice (some ⟨g, off, none⟩) i c, .int .i64 ((n + 1 - i : Nat) : Int)]).run Try.prog wf = .ok (.slice (some ⟨gn, 0, none⟩) (n + 1) cn) wg := fun ty => by rw [show i + (n + 1 - i) = n + 1 by omega] at hrz; exact hrz
 refine l_new _ wg rfl (exec_appZ slQ 3 (.tmp 34) (.tmp 39) _ _ rfl (by kernel_rfl) (by kernel_rfl) _ wg (hrz2 _)) ?_
 simp only [Act.put, sA, sS, sZ]
 refine l_val (.slice (some ⟨gn, 0, none⟩) (n + 1) cn) rfl (exec_assign _ _ rfl (by kernel_rfl)) ?_
 simp only [Act.put, sA, sS, sZ]
 refine wpList_nil ?_
 rw [show i + (n + 1 - i) = n + 1 by omega] at hsz
 have kag := kaf.trans hkz
 have HSg := Lib.hid hsz
 have H1g := Lib.hid (H1.out.kept kag)
 have HS0 := Lib.hid (HS.out.kept kag)
 have zf := kaf.size
 have zg := hkz.size
 have hcn := HSg.out.cap.1
 have hzl1 : zs.length = n + 1 - i := by omega
 have hgn1 : gn ≠ g1 := fun e => by have := (H1.out.lt); omega
 have hgng : gn ≠ g := by omega
 clear hsz hrz hrz2 hkz H1e HSe kf hzl
 have hti : ((ptrs Z).take (i * 1)).length = i := by rw [List.length_take]; omega
 go_upto_region 10 with fail
 refine wEp 4 [.slice (some ⟨gn, 0, none⟩) (n + 1) cn, iV (i : Int), .slice (some ⟨gn, 0 + i * 1, none⟩) (n + 1 - i) (cn - i), .slice (some ⟨g1, 0, none⟩) 1 1] [41,42,43,44] ?_ ?_
 ·refine mE 1 9 ?_
  refine mE 2 1 ?_
  refine sW 3 rfl (fun a u E D hk=>exec_slcL slQ _ _ _ _ _ rfl (dD D 0) (dD D 1) (run_l slQ gn 0 (n + 1) cn i (by omega) (by omega) u)) ?_
  refine mE 4 2 ?_
  exact fz
 intro wh kh
 simp only [F8]
 have hcpy := run_copy_sl slQ 3 gn 0 (n + 1) cn i (n + 1 - i) (cn - i) _ [.pointer (some ⟨q, 0, none⟩)] wh (HSg.out.kept kh) g1 0 1 1 (blk_range (H1g.out.kept kh)) (by simp [Nat.min_def]; omega) (by simp; omega) (by intro u hu; simp at hu; subst hu; rfl)
 rw [show 0 + i = 0 + i * 1 by omega] at hcpy
 obtain ⟨hcr, hcs, hck⟩ := hcpy
 refine l_new (goInt 1) _ rfl (exec_cpyS (.tmp 43) (.tmp 44) _ _ rfl (by kernel_rfl) (by kernel_rfl) _ _ hcr) ?_
 simp only [Act.put, sA, sS, sZ]
 refine wpList_nil ?_
 generalize wh.setCells gn (0 + i * 1) [.pointer (some ⟨q, 0, none⟩)] = wi at hcs hck ⊢
 have e1 : ((ptrs Z).take (i * 1) ++ zs).take i = (ptrs Z).take i := by rw [List.take_append_of_le_length (by omega), List.take_of_length_le (by omega), Nat.mul_one]
 have e2 : ((ptrs Z).take (i * 1) ++ zs).drop (i + [Value.pointer (some ⟨q, 0, none⟩)].length) = zs.drop 1 := by
  rw [List.drop_append, List.drop_of_length_le (by simp; omega), List.nil_append, hti]
  congr 1
  simp
 rw [e1, e2] at hcs
 have HSi := Lib.hid hcs
 have HS0i := Lib.hid ((HS0.out.kept kh).keep hck (fun b hb e => by simp [Value.ownBlock] at hb; omega))
 have K1 : Keep (· = gn) wg wi := Keep.any kh hck
 have hgi : gn ≠ g := hgng
 clear hcs hck hcr kh HSg H1g HS0 e1 e2
 obtain ⟨dd, hdd⟩ : ∃ dd, (ptrs Z).drop i = dd := ⟨_, rfl⟩
 have hdl : dd.length = n - i := by rw [← hdd, List.length_drop]; omega
 have HDR : Hid (∀ u, Sl u 89 1 (.slice (some ⟨g, off, none⟩) n c) n (ptrs Z) → u.rangeAt g (off + i * 1) dd) := fun u h => by
  obtain ⟨_, A, c', e', _, _, _, h4⟩ := h
  injection e' with e1 e2 e3
  subst e1 e3
  obtain ⟨g', off', cur, e, hB, h5, h6⟩ := h4 _ rfl
  injection e with e1 e2
  subst e1 e2
  have := range_drop (seg_cell hB h6) i
  rw [hdd] at this
  rw [Nat.mul_one]
  exact this
 go_upto_region 11 with fail
 refine wGp 8 [.slice (some ⟨gn, 0, none⟩) (n + 1) cn, iV (i : Int), iV 1, iV ((i + 1 : Nat) : Int), .slice (some ⟨gn, 0 + (i + 1) * 1, none⟩) (n + 1 - (i + 1)) (cn - (i + 1)), .slice (some ⟨g, off, none⟩) n c, iV (i : Int), .slice (some ⟨g, off + i * 1, none⟩) (n - i) (c - i)] [46,47,48,49,50,51,52,53] ?_ ?_
 ·refine mE 1 9 ?_
  refine mE 2 1 ?_
  refine mE 3 7 ?_
  refine sW 4 rfl (fun a u E D hk=>exec_addn ((i + 1 : Nat) : Int) (p := (i : Int)) (q := 1) rfl (dD D 1) (dD D 2) (by omega) (by omega) (by omega)) ?_
  refine sW 5 rfl (fun a u E D hk=>exec_slcL slQ _ _ _ _ _ rfl (dD D 0) (dD D 3) (run_l slQ gn 0 (n + 1) cn (i + 1) (by omega) (by omega) u)) ?_
  refine mE 6 0 ?_
  refine mE 7 1 ?_
  refine sW 8 rfl (fun a u E D hk=>exec_slcL slQ _ _ _ _ _ rfl (dD D 5) (dD D 6) (run_l slQ g off n c i (by omega) (by omega) u)) ?_
  exact fz
 intro wj kj
 simp only [F8]
 have hcpy := run_copy_sl slQ 3 gn 0 (n + 1) cn (i + 1) (n + 1 - (i + 1)) (cn - (i + 1)) _ dd wj (HSi.out.kept kj) g (off + i * 1) (n - i) (c - i) (HDR.out wj (HS0i.out.kept kj)) (by rw [hdl]; simp only [Nat.min_def]; split <;> omega) (by omega) (fun u hu => ptrs_one Z u (by rw [← hdd] at hu; exact List.mem_of_mem_drop hu))
 rw [show 0 + (i + 1) = 0 + (i + 1) * 1 by omega] at hcpy
 obtain ⟨hcr, hcs, hck⟩ := hcpy
 refine l_new (goInt dd.length) _ rfl (exec_cpyS (.tmp 50) (.tmp 53) _ _ rfl (by kernel_rfl) (by kernel_rfl) _ _ hcr) ?_
 simp only [Act.put, sA, sS, sZ]
 refine wpList_nil ?_
 generalize wj.setCells gn (0 + (i + 1) * 1) dd = wk at hcs hck ⊢
 have hti2 : ((ptrs Z).take i).length = i := by rw [List.length_take]; omega
 have HR : Hid (InsIn w (.slice (some ⟨g, off, none⟩) n c) n Z i q (.returned (.slice (some ⟨gn, 0, none⟩) (n + 1) cn)) wk) := by
  refine ⟨_, rfl, ?_, ?_, fun b hb => .inr (by simp [Value.ownBlock] at hb; omega)⟩
  ·have e3 : ((ptrs Z).take i ++ [Value.pointer (some ⟨q, 0, none⟩)] ++ zs.drop 1).take (i + 1) = (ptrs Z).take i ++ [Value.pointer (some ⟨q, 0, none⟩)] := by
    rw [List.take_append_of_le_length (by simp only [List.length_append, hti2, List.length_cons, List.length_nil]; omega), List.take_of_length_le (by simp only [List.length_append, hti2, List.length_cons, List.length_nil]; omega)]
   have e4 : ((ptrs Z).take i ++ [Value.pointer (some ⟨q, 0, none⟩)] ++ zs.drop 1).drop (i + 1 + dd.length) = [] := by
    rw [List.drop_of_length_le]
    simp only [List.length_append, hti2, List.length_drop, List.length_cons, List.length_nil]
    omega
   rw [e3, e4, List.append_nil] at hcs
   unfold insP
   rw [hdd]
   exact hcs
  ·have k2 : Keep (· = gn) wg wk := (K1.kept kj).trans hck (fun _ _ h => h)
   exact (Keep.mono (T := fun b => (Value.slice (some ⟨g, off, none⟩) n c).ownBlock = some b) kag (fun _ _ h => h.elim)).trans k2 (fun b hb h => by omega)
 clear hcs hck hcr
 go_wp2
 go_ret
 exact HR.out
set_option maxRecDepth 100000 in
set_option maxHeartbeats 1600000 in
theorem linsert_room (w : World) (v : Value) (n i : Nat) (Z : Zs) (g1 q : Nat) (hS : Sl w 89 1 v n (ptrs Z)) (hn : n ≤ 1000) (hi : i < n) (h1 : Blk w g1 89 [.pointer (some ⟨q, 0, none⟩)]) (hne : ∀ b, v.ownBlock = some b → b ≠ g1) (hc : ∀ A c, v = .slice A n c → n + 1 ≤ c) :
  Calls Try.prog 98 #[v, .int .i64 (i : Int), .slice (some ⟨g1, 0, none⟩) 1 1] w (InsIn w v n Z i q) := by
 have hv0 := hS.some_ (by omega : 0 < n)
 obtain ⟨g, off, c, rfl⟩ := hv0
 obtain ⟨hnc, hcm, _⟩ := hS.cap
 have hcm' : c ≤ 9223372036854775807 := by unfold maxLen at hcm; omega
 have hgg : g ≠ g1 := fun e => hne g rfl e
 have hroom := hc _ _ rfl
 have HS := Lib.hid hS
 clear hc
 have H1 := Lib.hid h1
 have hl : (ptrs Z).length = n := by have := hS.len; omega
 clear hS h1 hne
 go_enter Try.func98, Try.ntmps98
 go_upto_region 1 with fail
 refine wE 3 [.slice (some ⟨g, off, none⟩) n c, iV (i : Int), .slice (some ⟨g, off + i * 1, none⟩) (n - i) (c - i)] [10,11,12] ?_ ?_
 ·refine mE 1 0 ?_
  refine mE 2 1 ?_
  refine sW 3 rfl (fun a u E D hk=>exec_slcL slQ _ _ _ _ _ rfl (dD D 0) (dD D 1) (run_l slQ g off n c i (by omega) (by omega) u)) ?_
  exact fz
 intro wa ka
 simp only [F8]
 go_upto_region 2 with fail
 refine wE 3 [.slice (some ⟨g1, 0, none⟩) 1 1, iV (1 : Int), iV (1 : Int)] [13,14,7] ?_ ?_
 ·refine mE 1 2 ?_
  refine sW 2 rfl (fun a u E D hk=>exec_len _ _ _ slQ.und (some ⟨g1, 0, none⟩) 1 1 rfl (dD D 0)) ?_
  refine mD 3 14 1 ?_
  exact fz
 intro wb kb
 simp only [F8]
 have kab := ka.trans kb
 clear ka kb
 go_upto_region 5 with fail
 refine wE 3 [.slice (some ⟨g, off, none⟩) n c, iV (n : Int), iV (n : Int)] [18,19,8] ?_ ?_
 ·refine mE 1 0 ?_
  refine sW 2 rfl (fun a u E D hk=>exec_len _ _ _ slQ.und (some ⟨g, off, none⟩) n c rfl (dD D 0)) ?_
  refine mD 3 19 1 ?_
  exact fz
 intro wc kc
 simp only [F8]
 have kac := kab.trans kc
 clear kab kc
 go_upto_region 6 with fail
 refine wE 3 [iV (i : Int), iV (n : Int), bV false] [20,21,22] ?_ ?_
 ·refine mE 1 1 ?_
  refine mE 2 8 ?_
  refine aS 3 rfl (fun a u E D hk=>exec_eqn rfl (dD D 0) (dD D 1)) (decide_eq_false (by omega)) ?_
  exact fz
 intro wd kd
 simp only [F8]
 have kad := kac.trans kd
 clear kac kd
 go_upto_region 8 with fail
 refine wE 6 [iV (n : Int), iV 1, iV (((n : Int) : Int) + (1 : Int)), .slice (some ⟨g, off, none⟩) n c, iV (c : Int), bV false] [26,27,28,29,30,31] ?_ ?_
 ·refine mE 1 8 ?_
  refine mE 2 7 ?_
  refine sW 3 rfl (fun a u E D hk=>exec_addn (p := ((n : Int))) (q := (1)) (((n : Int) : Int) + (1 : Int)) rfl (dD D 0) (dD D 1) rfl (by omega) (by omega)) ?_
  refine mE 4 0 ?_
  refine sW 5 rfl (fun a u E D hk=>exec_capS _ (some ⟨g, off, none⟩) n c slQ.und rfl (dD D 3)) ?_
  refine aS 6 rfl (fun a u E D hk=>exec_gtn rfl (dD D 2) (dD D 4)) (decide_eq_false (by omega)) ?_
  exact fz
 intro we ke
 simp only [F8]
 have kae := kad.trans ke
 clear kad ke
 have HSe := Lib.hid (HS.out.kept kae)
 have H1e := Lib.hid (H1.out.kept kae)
 have hgl : g < w.heap.size := HS.out.lt rfl
 obtain ⟨ds, hdsl, hS1, hds⟩ := HSe.out.longer (m := n + 1) hroom (by omega)
 have HSL := Lib.hid hS1
 have HDS := Lib.hid hds
 have hcur : ∃ T cs, Blk we g T cs ∧ cs.length ≠ 0 := by
  obtain ⟨_, A, c', e', _, _, _, h4⟩ := hS1
  injection e' with e1 e2 e3
  subst e1 e3
  obtain ⟨g', off', cur, e, hB, h5, h6⟩ := h4 _ rfl
  injection e with e1 e2
  subst e1 e2
  exact ⟨_, cur, hB, by omega⟩
 obtain ⟨TG, cg, hBg, hcg0⟩ := hcur
 have HBG := Lib.hid hBg
 have hdsl : ds.length = n + 1 := by omega
 clear hS1 hds HSe hBg
 go_upto_region 13 with fail
 refine wEp 5 [.slice (some ⟨g, off, none⟩) n c, iV (n : Int), iV 1, iV ((n + 1 : Nat) : Int), .slice (some ⟨g, off, none⟩) (n + 1) c] [56,57,58,59,60] ?_ ?_
 ·refine mE 1 0 ?_
  refine mE 2 8 ?_
  refine mE 3 7 ?_
  refine sW 4 rfl (fun a u E D hk=>exec_addn ((n + 1 : Nat) : Int) (p := (n : Int)) (q := 1) rfl (dD D 1) (dD D 2) (by omega) (by omega) (by omega)) ?_
  refine sW 5 rfl (fun a u E D hk=>exec_slcH slQ _ _ _ _ _ rfl (dD D 0) (dD D 3) (run_h slQ (some ⟨g, off, none⟩) n c (n + 1) (by omega) (fun h => by cases h) u)) ?_
  exact fz
 intro wf kf
 simp only [F8]
 refine l_val (.slice (some ⟨g, off, none⟩) (n + 1) c) rfl (exec_assign _ _ rfl (by kernel_rfl)) ?_
 simp only [Act.put, List.setIfInBounds_toArray, List.set_cons_zero]
 refine wpList_nil ?_
 have kaf := kae.trans kf
 have HSf := Lib.hid (HSL.out.kept kf)
 have HBf := Lib.hid (HBG.out.kept kf)
 have H1f := Lib.hid (H1.out.kept kaf)
 clear HSL HBG H1e kf
 obtain ⟨m, hm⟩ : ∃ m, n + 1 = m := ⟨_, rfl⟩
 rw [hm] at HSf hdsl ⊢
 go_upto_region 14 with fail
 refine wEp 7 [.slice (some ⟨g1, 0, none⟩) 1 1, .slice (some ⟨g, off, none⟩) m c, iV (i : Int), iV 1, iV ((i + 1 : Nat) : Int), .slice (some ⟨g, off + (i + 1) * 1, none⟩) (m - (i + 1)) (c - (i + 1)), bV false] [61,62,63,64,65,66,67] ?_ ?_
 ·refine mE 1 2 ?_
  refine mE 2 0 ?_
  refine mE 3 1 ?_
  refine mE 4 7 ?_
  refine sW 5 rfl (fun a u E D hk=>exec_addn ((i + 1 : Nat) : Int) (p := (i : Int)) (q := 1) rfl (dD D 2) (dD D 3) (by omega) (by omega) (by omega)) ?_
  refine sW 6 rfl (fun a u E D hk=>exec_slcL slQ _ _ _ _ _ rfl (dD D 1) (dD D 4) (run_l slQ g off m c (i + 1) (by omega) (by omega) u)) ?_
  refine sW 7 rfl (fun a u E D hk=>exec_ovl _ _ _ g1 0 1 1 g (off + (i + 1) * 1) (m - (i + 1)) (c - (i + 1)) _ _ _ _ rfl (dD D 0) (dD D 5) (H1f.out.kept hk) (HBf.out.kept hk) (fun e => hgg e.symm) hcg0) ?_
  exact fz
 intro wg kg
 simp only [F8]
 refine l_val (.bool true) rfl (exec_not _ (.tmp 67) false rfl (by kernel_rfl)) ?_
 simp only [Act.put, sA, sS, sZ]
 refine wpList_nil ?_
 have kag := kaf.trans kg
 have HSg := Lib.hid (HSf.out.kept kg)
 have H1g := Lib.hid (H1.out.kept kag)
 clear HSf HBf H1f kg
 obtain ⟨dd, hdd⟩ : ∃ dd, (ptrs Z).drop i = dd := ⟨_, rfl⟩
 have hdl : dd.length = n - i := by rw [← hdd, List.length_drop]; omega
 have HD1 : Hid ((ds.drop i).take (n - i) = dd) := by
  show _ = _
  rw [← hdd, ← HDS.out, List.drop_take, Nat.mul_one]
 have HDT : Hid (ds.take i = (ptrs Z).take i) := by
  show _ = _
  rw [← HDS.out, List.take_take, Nat.min_eq_left (by omega)]
 have HDR : Hid (∀ u, Sl u 89 1 (.slice (some ⟨g, off, none⟩) m c) m ds → u.rangeAt g (off + i * 1) dd) := fun u h => by
  obtain ⟨_, A, c', e', _, _, _, h4⟩ := h
  injection e' with e1 e2 e3
  subst e1 e3
  obtain ⟨g', off', cur, e, hB, h5, h6⟩ := h4 _ rfl
  injection e with e1 e2
  subst e1 e2
  have := range_take (range_drop (seg_cell hB h6) i) (n - i)
  rw [HD1.out] at this
  rw [Nat.mul_one]
  exact this
 go_upto_region 15 with fail
 refine wGp 8 [.slice (some ⟨g, off, none⟩) m c, iV (i : Int), iV 1, iV ((i + 1 : Nat) : Int), .slice (some ⟨g, off + (i + 1) * 1, none⟩) (m - (i + 1)) (c - (i + 1)), .slice (some ⟨g, off, none⟩) m c, iV (i : Int), .slice (some ⟨g, off + i * 1, none⟩) (m - i) (c - i)] [69,70,71,72,73,74,75,76] ?_ ?_
 ·refine mE 1 0 ?_
  refine mE 2 1 ?_
  refine mE 3 7 ?_
  refine sW 4 rfl (fun a u E D hk=>exec_addn ((i + 1 : Nat) : Int) (p := (i : Int)) (q := 1) rfl (dD D 1) (dD D 2) (by omega) (by omega) (by omega)) ?_
  refine sW 5 rfl (fun a u E D hk=>exec_slcL slQ _ _ _ _ _ rfl (dD D 0) (dD D 3) (run_l slQ g off m c (i + 1) (by omega) (by omega) u)) ?_
  refine mE 6 0 ?_
  refine mE 7 1 ?_
  refine sW 8 rfl (fun a u E D hk=>exec_slcL slQ _ _ _ _ _ rfl (dD D 5) (dD D 6) (run_l slQ g off m c i (by omega) (by omega) u)) ?_
  exact fz
 intro wj kj
 simp only [F8]
 have hcpy := run_copy_sl slQ 3 g off m c (i + 1) (m - (i + 1)) (c - (i + 1)) _ dd wj (HSg.out.kept kj) g (off + i * 1) (m - i) (c - i) (HDR.out wj (HSg.out.kept kj)) (by rw [hdl]; simp only [Nat.min_def]; split <;> omega) (by omega) (fun u hu => ptrs_one Z u (by rw [← hdd] at hu; exact List.mem_of_mem_drop hu))
 rw [show off + (i + 1) = off + (i + 1) * 1 by omega] at hcpy
 obtain ⟨hcr, hcs, hck⟩ := hcpy
 refine l_new (goInt dd.length) _ rfl (exec_cpyS (.tmp 73) (.tmp 76) _ _ rfl (by kernel_rfl) (by kernel_rfl) _ _ hcr) ?_
 simp only [Act.put, sA, sS, sZ]
 refine wpList_nil ?_
 generalize wj.setCells g (off + (i + 1) * 1) dd = wk at hcs hck ⊢
 have HSk := Lib.hid hcs
 have H1k := Lib.hid ((H1g.out.kept kj).keep hck (fun e => hgg e.symm))
 have K1 : Keep (· = g) wg wk := Keep.any kj hck
 clear hcs hck hcr kj HSg H1g
 go_upto_region 16 with fail
 refine wEp 4 [.slice (some ⟨g, off, none⟩) m c, iV (i : Int), .slice (some ⟨g, off + i * 1, none⟩) (m - i) (c - i), .slice (some ⟨g1, 0, none⟩) 1 1] [78,79,80,81] ?_ ?_
 ·refine mE 1 0 ?_
  refine mE 2 1 ?_
  refine sW 3 rfl (fun a u E D hk=>exec_slcL slQ _ _ _ _ _ rfl (dD D 0) (dD D 1) (run_l slQ g off m c i (by omega) (by omega) u)) ?_
  refine mE 4 2 ?_
  exact fz
 intro wh kh
 simp only [F8]
 have hcpy := run_copy_sl slQ 3 g off m c i (m - i) (c - i) _ [.pointer (some ⟨q, 0, none⟩)] wh (HSk.out.kept kh) g1 0 1 1 (blk_range (H1k.out.kept kh)) (by simp [Nat.min_def]; omega) (by simp; omega) (by intro u hu; simp at hu; subst hu; rfl)
 rw [show off + i = off + i * 1 by omega] at hcpy
 obtain ⟨hcr, hcs, hck⟩ := hcpy
 refine l_new (goInt 1) _ rfl (exec_cpyS (.tmp 80) (.tmp 81) _ _ rfl (by kernel_rfl) (by kernel_rfl) _ _ hcr) ?_
 simp only [Act.put, sA, sS, sZ]
 refine wpList_nil ?_
 generalize wh.setCells g (off + i * 1) [.pointer (some ⟨q, 0, none⟩)] = wi at hcs hck ⊢
 have HR : Hid (InsIn w (.slice (some ⟨g, off, none⟩) n c) n Z i q (.returned (.slice (some ⟨g, off, none⟩) m c)) wi) := by
  refine ⟨_, rfl, ?_, ?_, fun b hb => .inl hb⟩
  ·have hti : (ds.take (i + 1)).length = i + 1 := by rw [List.length_take]; omega
   have e3 : (ds.take (i + 1) ++ dd ++ ds.drop (i + 1 + dd.length)).take i = (ptrs Z).take i := by
    rw [List.append_assoc, List.take_append_of_le_length (by omega), List.take_take, Nat.min_eq_left (by omega)]
    exact HDT.out
   have e4 : (ds.take (i + 1) ++ dd ++ ds.drop (i + 1 + dd.length)).drop (i + [Value.pointer (some ⟨q, 0, none⟩)].length) = dd := by
    rw [show ds.drop (i + 1 + dd.length) = [] from List.drop_of_length_le (by omega), List.append_nil, List.drop_append, List.drop_of_length_le (by simp; omega), List.nil_append, hti]
    simp
   rw [e3, e4, ← hm] at hcs
   unfold insP
   rw [hdd, ← hm]
   exact hcs
  ·have k2 : Keep (· = g) wg wi := (K1.kept kh).trans hck (fun _ _ h => h)
   exact (Keep.mono (T := fun b => (Value.slice (some ⟨g, off, none⟩) n c).ownBlock = some b) kag (fun _ _ h => h.elim)).trans k2 (fun b hb h => by subst h; rfl)
 clear hcs hck hcr
 go_wp2
 go_ret
 exact HR.out
theorem linsert_any (w : World) (v : Value) (n i : Nat) (Z : Zs) (g1 q : Nat) (hS : Sl w 89 1 v n (ptrs Z)) (hn : n ≤ 1000) (hi : i ≤ n) (h1 : Blk w g1 89 [.pointer (some ⟨q, 0, none⟩)]) (hne : ∀ b, v.ownBlock = some b → b ≠ g1) :
  Calls Try.prog 98 #[v, .int .i64 (i : Int), .slice (some ⟨g1, 0, none⟩) 1 1] w (InsIn w v n Z i q) := by
 by_cases h : i = n
 ·subst h
  exact linsert_end w v i Z g1 q hS hn h1
 ·obtain ⟨A, c, rfl⟩ := hS.slice_
  by_cases hc : n + 1 ≤ c
  ·exact linsert_room w _ n i Z g1 q hS hn (by omega) h1 hne (fun A' c' e => by injection e with _ _ e3; omega)
  ·exact linsert_grow w _ n i Z g1 q hS hn (by omega) h1 hne (fun A' c' e => by injection e with _ _ e3; omega)
end Go.Proofs.Ytklohceombpleaa
