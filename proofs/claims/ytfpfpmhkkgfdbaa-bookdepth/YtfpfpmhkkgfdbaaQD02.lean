/-
 Laws and contracts that the walks rest on, part 2. No condition.
-/
import Derived.Test.YtfpfpmhkkgfdbaaQD01
set_option linter.unusedVariables false
namespace Go.Proofs.Ytfpfpmhkkgfdbaa
open Go.RowKit
set_option maxRecDepth 100000
variable {pr : Int}
set_option maxRecDepth 100000 in
theorem drop_any (w : World) (F : Nat → Prop) (p : Nat) (e : Ent) (R : List Ent) (h : Lvl pr 110 112 w F p (e :: R)) :
  Calls Try.prog 104 #[.pointer (some ⟨p, 0, none⟩)] w fun r w' => r = .returned (.tuple #[]) ∧ Lvl pr 110 112 w' F p R ∧ Keep F w w' := by
 obtain ⟨h1, h2, v, hB, hS, h5⟩ := h
 obtain ⟨v', hrun, hown, hsl⟩ := slice_lS slE v (R.length + 1) 1 (by omega) _ w hS
 have HS2 : Hid (Sl w 112 10 v' R.length (ents R)) := by
  have := hsl w _ hS
  rw [show (ents (e :: R)).drop (1 * 10) = ents R from flat_drop Ent.cells 10 Ent.len10 (e :: R) 1] at this
  exact this
 have HB := Lib.hid hB
 have HR := Lib.hid hrun
 have H1 := Lib.hid h1
 have H2 := Lib.hid h2
 have H5 := Lib.hid h5
 have HO := Lib.hid hown
 clear hB hS h5 h1 h2 hrun hsl hown
 go_enter Try.func104, Try.ntmps104
 go_upto_region 0 with fail
 refine wp_text 8 [.eq (.pointer (some ⟨p, 0, none⟩)), .eq (.pointer (some ⟨p, 0, none⟩)), .eq (.pointer (some ⟨p, 0, none⟩)), .eq (.pointer (some ⟨p, 1, none⟩)), .eq (v), .eq (v'), .eq (.pointer (some ⟨p, 0, none⟩)), .eq (.pointer (some ⟨p, 1, none⟩))] rfl (by kernel_rfl) ?_ ?_
 ·refine sv 1 rfl rfl rfl (fun a u hE hD hk => exec_move (.tmp 0) _ rfl (hE 0 (.pointer (some ⟨p, 0, none⟩)) (by kernel_rfl) (by kernel_rfl))) ?_
  refine sv 2 rfl rfl rfl (fun a u hE hD hk => exec_move (.tmp 0) _ rfl (hE 0 (.pointer (some ⟨p, 0, none⟩)) (by kernel_rfl) (by kernel_rfl))) ?_
  refine sv 3 rfl rfl rfl (fun a u hE hD hk => exec_nilp (.tmp 3) ⟨p, 0, none⟩ rfl (hD 1 3 (by kernel_rfl))) ?_
  refine sv 4 rfl rfl rfl (fun a u hE hD hk => exec_fldo 110 1 1 (.tmp 4) (p) (0) (1) rfl (hD 2 4 (by kernel_rfl)) (by kernel_rfl) rfl) ?_
  refine sv 5 rfl rfl rfl (fun a u hE hD hk => exec_ldv 108 _ Try.underlying108 (.tmp 5) ⟨p, 1, none⟩ (v) rfl (hD 3 5 (by kernel_rfl)) (by rw [(HB.out.kept hk).cell]; rfl)) ?_
  refine sv 6 rfl rfl rfl (fun a u hE hD hk => exec_slcS slE (.tmp 6) (some (.const (.int .i64 1))) none none v v' rfl (hD 4 6 (by kernel_rfl)) (HR.out u)) ?_
  refine sv 7 rfl rfl rfl (fun a u hE hD hk => exec_nilp (.tmp 2) ⟨p, 0, none⟩ rfl (hD 0 2 (by kernel_rfl))) ?_
  refine sv 8 rfl rfl rfl (fun a u hE hD hk => exec_fldo 110 1 1 (.tmp 8) (p) (0) (1) rfl (hD 6 8 (by kernel_rfl)) (by kernel_rfl) rfl) ?_
  exact fsteps_nil
 intro gv w1 hV k1
 rw [show dstsOf _ 8 = [2, 3, 4, 5, 6, 7, 8, 9] by kernel_rfl]
 simp only [fC, fN, sA, sS, sZ, dS, dZ]
 rw [show gv 9 = .pointer (some ⟨p, 1, none⟩) from hV 7 9 (by kernel_rfl)]
 rw [show gv 7 = v' from hV 5 7 (by kernel_rfl)]
 clear hV
 refine l_st1 (o := ⟨none, _, _, _, _, _⟩) 108 p 1 110 _ v' (.tmp 9) (.tmp 7) rfl rfl (by kernel_rfl) (by kernel_rfl) (by kernel_rfl) (sl_cells HS2.out) (sl_onec HS2.out) (HB.out.kept k1) (by simp) ?_
 intro w3 hB3 hk3 hs3
 simp only [Act.put]
 refine wpList_nil ?_
 go_wp2
 go_end0
 have hsz := k1.size
 have hkF : Keep F w w3 := (Keep.mono (T := F) k1 (fun _ _ h => h.elim)).trans hk3 (fun b _ hb => by subst hb; exact H1.out)
 refine ⟨rfl, ⟨H1.out, fun b hb => ?_, v', by simpa using hB3, ?_, fun b hb => H5.out b (by rw [← HO.out]; exact hb)⟩, hkF⟩
 ·have := H2.out b hb; omega
 ·refine (HS2.out.kept k1).keep hk3 (fun b hb e => ?_)
  subst e
  exact (H5.out b (by rw [← HO.out]; exact hb)).2 rfl
set_option maxRecDepth 100000 in
theorem anew_any (w : World) (F : Nat → Prop) (p : Nat) (e : Ent) (R : List Ent) (h : Lvl pr 110 112 w F p (e :: R)) (hn : R.length ≤ 100000000) :
  Calls Try.prog 105 #[.pointer (some ⟨p, 0, none⟩)] w fun r w' => ∃ F', r = .returned (.tuple #[]) ∧ Lvl pr 110 112 w' F' p (R ++ [Ent.of e.o]) ∧ Grow w F F' ∧ Keep F w w' := by
 have HL := Lib.hid h
 obtain ⟨h1, h2, v, hB, hS, h5⟩ := h
 obtain ⟨g, off, c, rfl⟩ := hS.some_ (by simp)
 have HR : Hid (w.rangeAt g off e.cells) := hS.rng 0 e rfl
 have HB := Lib.hid hB
 have H2 := Lib.hid h2
 clear hB hS h5 h1 h2
 go_enter Try.func105, Try.ntmps105
 go_upto_region 0 with fail
 refine wp_text 8 [.eq (.pointer (some ⟨p, 0, none⟩)), .eq (.pointer (some ⟨p, 0, none⟩)), .eq (.pointer (some ⟨p, 1, none⟩)), .eq (.slice (some ⟨g, off, none⟩) (R.length + 1) c), .eq (.pointer (some ⟨g, off, none⟩)), .eq (.pointer (some ⟨g, off, none⟩)), .eq (e.o.v), .fresh w.heap.size 25 zeroO.cells] rfl (by kernel_rfl) ?_ ?_
 ·refine sv 1 rfl rfl rfl (fun a u hE hD hk => exec_move (.tmp 0) _ rfl (hE 0 (.pointer (some ⟨p, 0, none⟩)) (by kernel_rfl) (by kernel_rfl))) ?_
  refine sv 2 rfl rfl rfl (fun a u hE hD hk => exec_nilp (.tmp 3) ⟨p, 0, none⟩ rfl (hD 0 3 (by kernel_rfl))) ?_
  refine sv 3 rfl rfl rfl (fun a u hE hD hk => exec_fldo 110 1 1 (.tmp 4) (p) (0) (1) rfl (hD 1 4 (by kernel_rfl)) (by kernel_rfl) rfl) ?_
  refine sv 4 rfl rfl rfl (fun a u hE hD hk => exec_ldv 108 _ Try.underlying108 (.tmp 5) ⟨p, 1, none⟩ (.slice (some ⟨g, off, none⟩) (R.length + 1) c) rfl (hD 2 5 (by kernel_rfl)) (by rw [(HB.out.kept hk).cell]; rfl)) ?_
  refine sv 5 rfl rfl rfl (fun a u hE hD hk => exec_ixo slE (.tmp 6) (.const (.int .i64 0)) (g) (off) (R.length + 1) c 0 (off) (0) rfl (hD 3 6 (by kernel_rfl)) rfl (by first | rfl | omega) ((by omega)) (by first | rfl | omega)) ?_
  refine sv 6 rfl rfl rfl (fun a u hE hD hk => exec_fldo 112 0 0 (.tmp 7) (g) (off) (off) rfl (hD 4 7 (by kernel_rfl)) (by kernel_rfl) rfl) ?_
  refine sv 7 rfl rfl rfl (fun a u hE hD hk => exec_ldS 25 _ (.tmp 8) (g) (off) (e.o.cells) rfl (hD 5 8 (by kernel_rfl)) (ent_ord (range_kept HR.out hk)) Try.underlying25 (by rw [e.o.len9]; exact ord_size)) ?_
  refine fsteps_cons 8 rfl (fun a u hE hD hk => f_new (o := ⟨some 2, _, _, _, _, _⟩) (.pointer (some ⟨u.heap.size, 0, none⟩)) _ rfl (wanted_none rfl _) (exec_alc 25 zeroO.cells rfl zO) ⟨_, rfl, hk.size, Blk.new u _ _⟩ ((Keep.refl _ u).alloc _)) ?_
  exact fsteps_nil
 intro gv w1 hV k1
 rw [show dstsOf _ 8 = [3, 4, 5, 6, 7, 8, 9, 2] by kernel_rfl]
 simp only [fC, fN, sA, sS, sZ, dS, dZ]
 have hv2 : (.fresh w.heap.size 25 zeroO.cells : Kn).p (gv 2) w1 := hV 7 2 (by kernel_rfl)
 generalize gv 2 = v2 at hv2 ⊢
 rw [show gv 9 = e.o.v from hV 6 9 (by kernel_rfl)]
 clear hV
 obtain ⟨b2, rfl, hb2, hB2⟩ := hv2
 refine l_setS (o := ⟨none, _, _, _, _, _⟩) 25 b2 25 zeroO.cells e.o.cells (.tmp 2) (.tmp 9) rfl rfl (by kernel_rfl) (by kernel_rfl) hB2 (by rw [Ord.len9]; exact ord_size) (by rw [Ord.len9, Ord.len9]) (Ord.one1 _) ?_
 intro w2 hB3 hk3 hs3
 simp only [Act.put]
 refine wpList_nil ?_
 have kw2 : Kept w w2 := k1.trans' hk3 (by omega)
 have HL2 := Lib.hid (HL.out.kept kw2)
 have HB3 := Lib.hid (hB3)
 clear HL HR HB hB2 hB3 hk3 hs3 k1
 go_upto_region 1 with fail
 refine wp_region_lit ?_
 refine l_val (o := ⟨some 10, _, _, _, _, _⟩) (.pointer (some ⟨p, 0, none⟩)) rfl (exec_move (.tmp 0) (.pointer (some ⟨p, 0, none⟩)) rfl (by kernel_rfl)) ?_
 simp only [Act.put, sA, sS, sZ]
 refine l_call (o := ⟨some 11, _, _, _, _, _⟩) 104 #[.pointer (some ⟨p, 0, none⟩)] rfl (exec_call 104 _ [.tmp 10] _ _ Try.func104 (by kernel_rfl) (by kernel_rfl) rfl (by kernel_rfl) _) ?_
 refine (drop_any w2 F p e R HL2.out).mono ?_
 rintro r w3 ⟨rfl, hL3, hk3⟩
 refine ⟨_, rfl, ?_⟩
 simp only [Act.put, sA, sS, sZ]
 refine wpList_nil ?_
 have hnF : ¬ F b2 := fun hb => by have := H2.out b2 hb; omega
 have HB4 := Lib.hid (blk_range (HB3.out.keep hk3 hnF))
 have HL3 := Lib.hid hL3
 clear hL3 HL2 HB3
 go_upto_region 2 with fail
 refine wp_text 2 [.eq (.pointer (some ⟨p, 0, none⟩)), .eq (e.o.v)] rfl (by kernel_rfl) ?_ ?_
 ·refine sv 1 rfl rfl rfl (fun a u hE hD hk => exec_move (.tmp 0) _ rfl (hE 0 (.pointer (some ⟨p, 0, none⟩)) (by kernel_rfl) (by kernel_rfl))) ?_
  refine sv 2 rfl rfl rfl (fun a u hE hD hk => exec_ldS 25 _ (.tmp 2) (b2) (0) (e.o.cells) rfl (hE 2 (.pointer (some ⟨b2, 0, none⟩)) (by kernel_rfl) (by kernel_rfl)) (range_kept HB4.out hk) Try.underlying25 (by rw [e.o.len9]; exact ord_size)) ?_
  exact fsteps_nil
 intro gv w4 hV k4
 rw [show dstsOf _ 2 = [12, 13] by kernel_rfl]
 simp only [fC, fN, sA, sS, sZ, dS, dZ]
 rw [show gv 12 = .pointer (some ⟨p, 0, none⟩) from hV 0 12 (by kernel_rfl)]
 rw [show gv 13 = e.o.v from hV 1 13 (by kernel_rfl)]
 clear hV
 refine l_call (o := ⟨some 14, _, _, _, _, _⟩) 71 #[.pointer (some ⟨p, 0, none⟩), e.o.v] rfl (exec_call 71 _ [.tmp 12, .tmp 13] _ _ Try.func71 (by kernel_rfl) (by kernel_rfl) rfl (by kernel_rfl) _) ?_
 refine (add_any w4 F p R e.o (HL3.out.kept k4) hn).mono ?_
 rintro r w5 ⟨F', rfl, hL5, hg5, hk5⟩
 refine ⟨_, rfl, ?_⟩
 simp only [Act.put, sA, sS, sZ]
 refine wpList_nil ?_
 go_wp2
 go_end0
 have s1 := kw2.size
 have s2 := hk3.size
 have s3 := k4.size
 refine ⟨F', rfl, hL5, fun b hb => (hg5 b hb).imp id (fun h => by omega), (((Keep.mono (T := F) kw2 (fun _ _ h => h.elim)).trans hk3 (fun _ _ h => h)).kept k4).trans hk5 (fun _ _ h => h)⟩
def HitIn (pr : Int) (w : World) (F : Nat → Prop) (p : Nat) (e : Ent) (q : Int) (R : List Ent) (r : Ending) (w' : World) : Prop :=
 ∃ F', r = .returned (Ent.mk e.o (mn q e.n)).v ∧ Lvl pr 110 112 w' F' p (nextM e (mn q e.n) R) ∧ Grow w F F' ∧ Keep F w w'
set_option maxRecDepth 100000 in
set_option maxHeartbeats 1600000 in
theorem hit_all (w : World) (F : Nat → Prop) (p : Nat) (e : Ent) (q : Int) (R : List Ent) (h : Lvl pr 110 112 w F p (e :: R)) (hX : Good (e :: R)) (hq : 0 < q) (hc : e.o.qty - mn q e.n = 0) : Calls Try.prog 89 #[.pointer (some ⟨p, 0, none⟩), .int .i64 q] w (HitIn pr w F p e q R) := by
 have hb := hX.bound (e := e) (by simp)
 have hlen : R.length ≤ 100000000 := by have := hX.len; simp at this; omega
 have hm1 := mn_le q e.n
 have hm2 := mn_pos q e.n hq (by omega)
 have HHI : Hid (∀ r w', (∃ F', r = .returned (Ent.mk e.o (mn q e.n)).v ∧ Lvl pr 110 112 w' F' p (nextM e (mn q e.n) R) ∧ Grow w F F' ∧ Keep F w w') → HitIn pr w F p e q R r w') := fun r w' h => h
 obtain ⟨n, hn⟩ : ∃ n, mn q e.n = n := ⟨_, rfl⟩
 rw [hn] at hm1 hm2 HHI hc
 have HN : Hid ((if e.n < q then e.n else q) = n) := hn
 clear hn hX
 obtain ⟨h1, h2, v, hB, hS, h5⟩ := h
 obtain ⟨g, off, c, rfl⟩ := hS.some_ (by simp)
 have HR : Hid (w.rangeAt g off e.cells) := hS.rng 0 e rfl
 have HB := Lib.hid hB
 have HS := Lib.hid hS
 have H1 := Lib.hid h1
 have H2 := Lib.hid h2
 have H5 := Lib.hid h5
 have hgp : g ≠ p := (h5 g rfl).2
 have hgF : Hid (F g) := (h5 g rfl).1
 have hgl : g < w.heap.size := h2 g hgF.out
 have hpl : p < w.heap.size := h2 p h1
 clear hB hS h5 h1 h2
 go_enter Try.func89, Try.ntmps89
 go_upto_region 0 with fail
 refine wp_text 1 [.fresh w.heap.size 39 zeroE.cells] rfl (by kernel_rfl) ?_ ?_
 ·refine fsteps_cons 1 rfl (fun a u hE hD hk => f_new (o := ⟨some 4, _, _, _, _, _⟩) (.pointer (some ⟨u.heap.size, 0, none⟩)) _ rfl (wanted_none rfl _) (exec_alc 39 zeroE.cells rfl zH) ⟨_, rfl, hk.size, Blk.new u _ _⟩ ((Keep.refl _ u).alloc _)) ?_
  exact fsteps_nil
 intro gv w0 hV k0
 rw [show dstsOf _ 1 = [4] by kernel_rfl]
 simp only [fC, fN, sA, sS, sZ, dS, dZ]
 have hv4 : (.fresh w.heap.size 39 zeroE.cells : Kn).p (gv 4) w0 := hV 0 4 (by kernel_rfl)
 generalize gv 4 = v4 at hv4 ⊢
 clear hV
 obtain ⟨r, rfl, hr, hRB⟩ := hv4
 refine wpList_nil ?_
 have s0 := k0.size
 have hrl := hRB.lt
 have HB0 := Lib.hid (HB.out.kept k0)
 go_upto_region 1 with fail
 refine wp_text 6 [.eq (.pointer (some ⟨p, 0, none⟩)), .eq (.pointer (some ⟨p, 0, none⟩)), .eq (.pointer (some ⟨p, 1, none⟩)), .eq (.slice (some ⟨g, off, none⟩) (R.length + 1) c), .eq (.pointer (some ⟨g, off, none⟩)), .eq (.pointer (some ⟨g, off, none⟩))] rfl (by kernel_rfl) ?_ ?_
 ·refine sv 1 rfl rfl rfl (fun a u hE hD hk => exec_move (.tmp 0) _ rfl (hE 0 (.pointer (some ⟨p, 0, none⟩)) (by kernel_rfl) (by kernel_rfl))) ?_
  refine sv 2 rfl rfl rfl (fun a u hE hD hk => exec_nilp (.tmp 7) ⟨p, 0, none⟩ rfl (hD 0 7 (by kernel_rfl))) ?_
  refine sv 3 rfl rfl rfl (fun a u hE hD hk => exec_fldo 110 1 1 (.tmp 8) (p) (0) (1) rfl (hD 1 8 (by kernel_rfl)) (by kernel_rfl) rfl) ?_
  refine sv 4 rfl rfl rfl (fun a u hE hD hk => exec_ldv 108 _ Try.underlying108 (.tmp 9) ⟨p, 1, none⟩ (.slice (some ⟨g, off, none⟩) (R.length + 1) c) rfl (hD 2 9 (by kernel_rfl)) (by rw [(HB0.out.kept hk).cell]; rfl)) ?_
  refine sv 5 rfl rfl rfl (fun a u hE hD hk => exec_ixo slE (.tmp 10) (.const (.int .i64 0)) (g) (off) (R.length + 1) c 0 (off) (0) rfl (hD 3 10 (by kernel_rfl)) rfl (by first | rfl | omega) ((by omega)) (by first | rfl | omega)) ?_
  refine sv 6 rfl rfl rfl (fun a u hE hD hk => exec_assign (.tmp 11) _ rfl (hD 4 11 (by kernel_rfl))) ?_
  exact fsteps_nil
 intro gv w1 hV k1
 rw [show dstsOf _ 6 = [7, 8, 9, 10, 11, 5] by kernel_rfl]
 simp only [fC, fN, sA, sS, sZ, dS, dZ]
 rw [show gv 5 = .pointer (some ⟨g, off, none⟩) from hV 5 5 (by kernel_rfl)]
 clear hV
 refine wpList_nil ?_
 have kw1 := k0.trans k1
 have s1 := k1.size
 have HR1 := Lib.hid (range_kept HR.out kw1)
 have HRB := Lib.hid (hRB.kept k1)
 clear HR HB0 hRB k0 k1
 go_upto_region 2 with fail
 refine wp_free 12 [.eq (.pointer (some ⟨g, off, none⟩)), .eq (.pointer (some ⟨g, off, none⟩)), .eq (.pointer (some ⟨g, off, none⟩)), .eq (e.o.v), .eq (.int .i64 q), .eq (.pointer (some ⟨g, off, none⟩)), .eq (.pointer (some ⟨g, off, none⟩)), .eq (.pointer (some ⟨g, off + 9, none⟩)), .eq (.int .i64 e.n), .eq (.int .i64 n), .eq ((Ent.mk e.o (n)).v), .fresh w1.heap.size 39 zeroE.cells] (by kernel_rfl) rfl (by kernel_rfl) ?_ ?_
 ·refine sv 1 rfl rfl rfl (fun a u hE hD hk => exec_move (.tmp 5) _ rfl (hE 5 (.pointer (some ⟨g, off, none⟩)) (by kernel_rfl) (by kernel_rfl))) ?_
  refine sv 2 rfl rfl rfl (fun a u hE hD hk => exec_nilp (.tmp 12) ⟨g, off, none⟩ rfl (hD 0 12 (by kernel_rfl))) ?_
  refine sv 3 rfl rfl rfl (fun a u hE hD hk => exec_fldo 112 0 0 (.tmp 13) (g) (off) (off) rfl (hD 1 13 (by kernel_rfl)) (by kernel_rfl) rfl) ?_
  refine sv 4 rfl rfl rfl (fun a u hE hD hk => exec_ldS 25 _ (.tmp 14) (g) (off) (e.o.cells) rfl (hD 2 14 (by kernel_rfl)) (ent_ord (range_kept HR1.out hk)) Try.underlying25 (by rw [e.o.len9]; exact ord_size)) ?_
  refine sv 5 rfl rfl rfl (fun a u hE hD hk => exec_move (.tmp 1) _ rfl (hE 1 (.int .i64 q) (by kernel_rfl) (by kernel_rfl))) ?_
  refine sv 6 rfl rfl rfl (fun a u hE hD hk => exec_move (.tmp 5) _ rfl (hE 5 (.pointer (some ⟨g, off, none⟩)) (by kernel_rfl) (by kernel_rfl))) ?_
  refine sv 7 rfl rfl rfl (fun a u hE hD hk => exec_nilp (.tmp 17) ⟨g, off, none⟩ rfl (hD 5 17 (by kernel_rfl))) ?_
  refine sv 8 rfl rfl rfl (fun a u hE hD hk => exec_fldo 112 1 9 (.tmp 18) (g) (off) (off + 9) rfl (hD 6 18 (by kernel_rfl)) (by kernel_rfl) rfl) ?_
  refine sv 9 rfl rfl rfl (fun a u hE hD hk => exec_loadi 3 Try.underlying3 (.tmp 19) ⟨g, off + 9, none⟩ (.int .i64 e.n) rfl (hD 7 19 (by kernel_rfl)) (range_int (range_kept HR1.out hk) 9 _ rfl)) ?_
  refine sv 10 rfl rfl rfl (fun a u hE hD hk => exec_min (.tmp 16) (.tmp 20) _ q e.n n rfl (hD 4 16 (by kernel_rfl)) (hD 8 20 (by kernel_rfl)) HN.out) ?_
  refine sv 11 rfl rfl rfl (fun a u hE hD hk => exec_bent 39 builtH (.tmp 15) (.tmp 21) (e.o) (n) rfl (hD 3 15 (by kernel_rfl)) (hD 9 21 (by kernel_rfl))) ?_
  refine fsteps_cons 12 rfl (fun a u hE hD hk => f_new (o := ⟨some 6, _, _, _, _, _⟩) (.pointer (some ⟨u.heap.size, 0, none⟩)) _ rfl (wanted_none rfl _) (exec_alc 39 zeroE.cells rfl zH) ⟨_, rfl, hk.size, Blk.new u _ _⟩ ((Keep.refl _ u).alloc _)) ?_
  exact fsteps_nil
 intro gv w2 hV k2
 rw [show dstsOf _ 12 = [12, 13, 14, 15, 16, 17, 18, 19, 20, 21, 22, 6] by kernel_rfl]
 simp only [fC, fN, sA, sS, sZ, dS, dZ]
 have hv6 : (.fresh w1.heap.size 39 zeroE.cells : Kn).p (gv 6) w2 := hV 11 6 (by kernel_rfl)
 generalize gv 6 = v6 at hv6 ⊢
 rw [show gv 22 = (Ent.mk e.o (n)).v from hV 10 22 (by kernel_rfl)]
 clear hV
 obtain ⟨h6, rfl, hh6, hB6⟩ := hv6
 refine l_setS (o := ⟨none, _, _, _, _, _⟩) 39 h6 39 zeroE.cells (Ent.mk e.o n).cells (.tmp 6) (.tmp 22) rfl rfl (by kernel_rfl) (by kernel_rfl) hB6 (by rw [Ent.len10]; exact szH) (by rw [Ent.len10, Ent.len10]) (Ent.one _) ?_
 intro w3 hB7 hk3 hs3
 simp only [Act.put]
 refine wpList_nil ?_
 have kw3 : Kept w w3 := (kw1.trans k2).trans' hk3 (by omega)
 have s3 := kw3.size
 have h6l := hB7.lt
 have s2 := k2.size
 have HR3 := Lib.hid (range_keep (range_kept HR1.out k2) hk3 (by omega))
 have HRB3 := Lib.hid ((HRB.out.kept k2).keep hk3 (by omega))
 have HH3 := Lib.hid hB7
 have HHR := Lib.hid (blk_range hB7)
 have HS3 := Lib.hid (HS.out.kept kw3)
 have HB3 := Lib.hid (HB.out.kept kw3)
 clear HR1 HRB HS HB hB6 hB7 hk3 k2 hs3
 clear kw1
 go_upto_region 3 with fail
 refine wp_free 11 [.eq (.pointer (some ⟨g, off, none⟩)), .eq (.pointer (some ⟨g, off, none⟩)), .eq (.pointer (some ⟨g, off, none⟩)), .eq (.pointer (some ⟨g, off + 6, none⟩)), .eq (.int .i64 e.o.qty), .eq (.pointer (some ⟨h6, 9, none⟩)), .eq (.int .i64 (Ent.mk e.o n).n), .eq (.int .i64 (e.o.qty - n)), .eq (.pointer (some ⟨g, off, none⟩)), .eq (.pointer (some ⟨g, off, none⟩)), .eq (.pointer (some ⟨g, off + 6, none⟩))] (by kernel_rfl) rfl (by kernel_rfl) ?_ ?_
 ·refine sv 1 rfl rfl rfl (fun a u hE hD hk => exec_move (.tmp 5) _ rfl (hE 5 (.pointer (some ⟨g, off, none⟩)) (by kernel_rfl) (by kernel_rfl))) ?_
  refine sv 2 rfl rfl rfl (fun a u hE hD hk => exec_nilp (.tmp 23) ⟨g, off, none⟩ rfl (hD 0 23 (by kernel_rfl))) ?_
  refine sv 3 rfl rfl rfl (fun a u hE hD hk => exec_fldo 112 0 0 (.tmp 24) (g) (off) (off) rfl (hD 1 24 (by kernel_rfl)) (by kernel_rfl) rfl) ?_
  refine sv 4 rfl rfl rfl (fun a u hE hD hk => exec_fldo 25 6 6 (.tmp 25) (g) (off) (off + 6) rfl (hD 2 25 (by kernel_rfl)) (by kernel_rfl) rfl) ?_
  refine sv 5 rfl rfl rfl (fun a u hE hD hk => exec_loadi 3 Try.underlying3 (.tmp 26) ⟨g, off + 6, none⟩ (.int .i64 e.o.qty) rfl (hD 3 26 (by kernel_rfl)) (range_int (range_kept HR3.out hk) 6 _ rfl)) ?_
  refine sv 6 rfl rfl rfl (fun a u hE hD hk => exec_fldo 39 1 9 (.tmp 6) (h6) (0) (9) rfl (hE 6 (.pointer (some ⟨h6, 0, none⟩)) (by kernel_rfl) (by kernel_rfl)) (by kernel_rfl) rfl) ?_
  refine sv 7 rfl rfl rfl (fun a u hE hD hk => exec_loadi 3 Try.underlying3 (.tmp 28) ⟨h6, 9, none⟩ (.int .i64 (Ent.mk e.o n).n) rfl (hD 5 28 (by kernel_rfl)) (range_int (range_kept HHR.out hk) 9 _ rfl)) ?_
  refine sv 8 rfl rfl rfl (fun a u hE hD hk => exec_subn (e.o.qty - n) rfl (hD 4 27 (by kernel_rfl)) (hD 6 29 (by kernel_rfl)) rfl (by omega) (by omega)) ?_
  refine sv 9 rfl rfl rfl (fun a u hE hD hk => exec_nilp (.tmp 23) ⟨g, off, none⟩ rfl (hD 0 23 (by kernel_rfl))) ?_
  refine sv 10 rfl rfl rfl (fun a u hE hD hk => exec_fldo 112 0 0 (.tmp 31) (g) (off) (off) rfl (hD 8 31 (by kernel_rfl)) (by kernel_rfl) rfl) ?_
  refine sv 11 rfl rfl rfl (fun a u hE hD hk => exec_fldo 25 6 6 (.tmp 32) (g) (off) (off + 6) rfl (hD 9 32 (by kernel_rfl)) (by kernel_rfl) rfl) ?_
  exact fsteps_nil
 intro gv w4 hV k4
 rw [show dstsOf _ 11 = [23, 24, 25, 26, 27, 28, 29, 30, 31, 32, 33] by kernel_rfl]
 simp only [fC, fN, sA, sS, sZ, dS, dZ]
 rw [show gv 33 = .pointer (some ⟨g, off + 6, none⟩) from hV 10 33 (by kernel_rfl)]
 rw [show gv 30 = .int .i64 (e.o.qty - n) from hV 7 30 (by kernel_rfl)]
 clear hV
 refine l_rowi (o := ⟨none, _, _, _, _, _⟩) 112 g off (R.length + 1) c 0 6 (e :: R) e ⟨e.o.q (e.o.qty - n), e.n⟩ (e.o.qty - n) ⟨g, off + 6, none⟩ (.tmp 33) (.tmp 30) rfl rfl (by kernel_rfl) (by kernel_rfl) rfl (HS3.out.kept k4) rfl rfl (by omega) rfl ?_
 intro w5 hS5 hk5 hs5
 simp only [Act.put]
 refine wpList_nil ?_
 have s4 := k4.size
 have K5 : Keep (· = g) w3 w5 := (Keep.mono (T := (· = g)) k4 (fun _ _ h => h.elim)).trans hk5 (fun _ _ h => h)
 have HS5 : Hid (Sl w5 112 10 (.slice (some ⟨g, off, none⟩) (R.length + 1) c) (R.length + 1) (ents (⟨e.o.q (e.o.qty - n), e.n⟩ :: R))) := hS5
 have HR5 : Hid (w5.rangeAt g off (Ent.mk (e.o.q (e.o.qty - n)) e.n).cells) := HS5.out.rng 0 _ rfl
 have HHR5 := Lib.hid (range_keep HHR.out K5 (by omega))
 clear hS5 hk5 k4 HR3
 go_upto_region 4 with fail
 refine wp_free 9 [.eq (.pointer (some ⟨g, off, none⟩)), .eq (.pointer (some ⟨g, off, none⟩)), .eq (.pointer (some ⟨g, off + 9, none⟩)), .eq (.int .i64 (Ent.mk (e.o.q (e.o.qty - n)) e.n).n), .eq (.pointer (some ⟨h6, 9, none⟩)), .eq (.int .i64 (Ent.mk e.o n).n), .eq (.int .i64 (e.n - n)), .eq (.pointer (some ⟨g, off, none⟩)), .eq (.pointer (some ⟨g, off + 9, none⟩))] (by kernel_rfl) rfl (by kernel_rfl) ?_ ?_
 ·refine sv 1 rfl rfl rfl (fun a u hE hD hk => exec_move (.tmp 5) _ rfl (hE 5 (.pointer (some ⟨g, off, none⟩)) (by kernel_rfl) (by kernel_rfl))) ?_
  refine sv 2 rfl rfl rfl (fun a u hE hD hk => exec_nilp (.tmp 34) ⟨g, off, none⟩ rfl (hD 0 34 (by kernel_rfl))) ?_
  refine sv 3 rfl rfl rfl (fun a u hE hD hk => exec_fldo 112 1 9 (.tmp 35) (g) (off) (off + 9) rfl (hD 1 35 (by kernel_rfl)) (by kernel_rfl) rfl) ?_
  refine sv 4 rfl rfl rfl (fun a u hE hD hk => exec_loadi 3 Try.underlying3 (.tmp 36) ⟨g, off + 9, none⟩ (.int .i64 (Ent.mk (e.o.q (e.o.qty - n)) e.n).n) rfl (hD 2 36 (by kernel_rfl)) (range_int (range_kept HR5.out hk) 9 _ rfl)) ?_
  refine sv 5 rfl rfl rfl (fun a u hE hD hk => exec_fldo 39 1 9 (.tmp 6) (h6) (0) (9) rfl (hE 6 (.pointer (some ⟨h6, 0, none⟩)) (by kernel_rfl) (by kernel_rfl)) (by kernel_rfl) rfl) ?_
  refine sv 6 rfl rfl rfl (fun a u hE hD hk => exec_loadi 3 Try.underlying3 (.tmp 38) ⟨h6, 9, none⟩ (.int .i64 (Ent.mk e.o n).n) rfl (hD 4 38 (by kernel_rfl)) (range_int (range_kept HHR5.out hk) 9 _ rfl)) ?_
  refine sv 7 rfl rfl rfl (fun a u hE hD hk => exec_subn (e.n - n) rfl (hD 3 37 (by kernel_rfl)) (hD 5 39 (by kernel_rfl)) rfl (by omega) (by omega)) ?_
  refine sv 8 rfl rfl rfl (fun a u hE hD hk => exec_nilp (.tmp 34) ⟨g, off, none⟩ rfl (hD 0 34 (by kernel_rfl))) ?_
  refine sv 9 rfl rfl rfl (fun a u hE hD hk => exec_fldo 112 1 9 (.tmp 41) (g) (off) (off + 9) rfl (hD 7 41 (by kernel_rfl)) (by kernel_rfl) rfl) ?_
  exact fsteps_nil
 intro gv w6 hV k6
 rw [show dstsOf _ 9 = [34, 35, 36, 37, 38, 39, 40, 41, 42] by kernel_rfl]
 simp only [fC, fN, sA, sS, sZ, dS, dZ]
 rw [show gv 42 = .pointer (some ⟨g, off + 9, none⟩) from hV 8 42 (by kernel_rfl)]
 rw [show gv 40 = .int .i64 (e.n - n) from hV 6 40 (by kernel_rfl)]
 clear hV
 refine l_rowi (o := ⟨none, _, _, _, _, _⟩) 112 g off (R.length + 1) c 0 9 (⟨e.o.q (e.o.qty - n), e.n⟩ :: R) ⟨e.o.q (e.o.qty - n), e.n⟩ (e.sub n) (e.n - n) ⟨g, off + 9, none⟩ (.tmp 42) (.tmp 40) rfl rfl (by kernel_rfl) (by kernel_rfl) rfl (HS5.out.kept k6) rfl rfl (by omega) rfl ?_
 intro w7 hS7 hk7 hs7
 simp only [Act.put]
 refine wpList_nil ?_
 have s6 := k6.size
 have K7 : Keep (· = g) w3 w7 := (K5.kept k6).trans hk7 (fun _ _ h => h)
 have HS7 : Hid (Sl w7 112 10 (.slice (some ⟨g, off, none⟩) (R.length + 1) c) (R.length + 1) (ents (e.sub n :: R))) := hS7
 have HR7 : Hid (w7.rangeAt g off (e.sub n).cells) := HS7.out.rng 0 _ rfl
 have HL7 : Hid (Lvl pr 110 112 w7 F p (e.sub n :: R)) := ⟨H1.out, fun b hb => by have := H2.out b hb; omega, _, HB3.out.keep K7 (fun e => hgp e.symm), HS7.out, H5.out⟩
 have HH7 := Lib.hid (HH3.out.keep K7 (by omega))
 have HRB7 := Lib.hid (HRB3.out.keep K7 (by omega))
 have KF7 : Keep F w w7 := (Keep.mono (T := F) kw3 (fun _ _ h => h.elim)).trans K7 (fun b _ hb => by subst hb; exact hgF.out)
 clear hS7 hk7 k6 K5 HS5 HR5 HHR5 HHR HS3 HB3 HH3 HRB3 K7 HS7 kw3 HN
 go_upto_region 5 with fail
 refine wp_text 6 [.eq (.pointer (some ⟨g, off, none⟩)), .eq (.pointer (some ⟨g, off, none⟩)), .eq (.pointer (some ⟨g, off, none⟩)), .eq (.pointer (some ⟨g, off + 6, none⟩)), .eq (.int .i64 (e.sub n).o.qty), .eq (.bool true)] rfl (by kernel_rfl) ?_ ?_
 ·refine sv 1 rfl rfl rfl (fun a u hE hD hk => exec_move (.tmp 5) _ rfl (hE 5 (.pointer (some ⟨g, off, none⟩)) (by kernel_rfl) (by kernel_rfl))) ?_
  refine sv 2 rfl rfl rfl (fun a u hE hD hk => exec_nilp (.tmp 43) ⟨g, off, none⟩ rfl (hD 0 43 (by kernel_rfl))) ?_
  refine sv 3 rfl rfl rfl (fun a u hE hD hk => exec_fldo 112 0 0 (.tmp 44) (g) (off) (off) rfl (hD 1 44 (by kernel_rfl)) (by kernel_rfl) rfl) ?_
  refine sv 4 rfl rfl rfl (fun a u hE hD hk => exec_fldo 25 6 6 (.tmp 45) (g) (off) (off + 6) rfl (hD 2 45 (by kernel_rfl)) (by kernel_rfl) rfl) ?_
  refine sv 5 rfl rfl rfl (fun a u hE hD hk => exec_loadi 3 Try.underlying3 (.tmp 46) ⟨g, off + 6, none⟩ (.int .i64 (e.sub n).o.qty) rfl (hD 3 46 (by kernel_rfl)) (range_int (range_kept HR7.out hk) 6 _ rfl)) ?_
  refine fsteps_cons 6 rfl (fun a u hE hD hk => f_as (show ((decide (((e.sub n).o.qty : Int) = (0 : Int))) : Bool) = true from decide_eq_true hc) (f_val (o := ⟨some 48, _, _, _, _, _⟩) (.bool (decide (((e.sub n).o.qty : Int) = (0 : Int)))) rfl (wanted_none rfl _) (exec_eqn (p := (e.sub n).o.qty) (q := 0) rfl (hD 4 47 (by kernel_rfl)) rfl) rfl)) ?_
  exact fsteps_nil
 intro gv w8 hV k8
 rw [show dstsOf _ 6 = [43, 44, 45, 46, 47, 48] by kernel_rfl]
 simp only [fC, fN, sA, sS, sZ, dS, dZ]
 rw [show gv 48 = .bool true from hV 5 48 (by kernel_rfl)]
 clear hV
 refine wpList_nil ?_
 have s8 := k8.size
 have HR8 := Lib.hid (range_kept HR7.out k8)
 have HL8 := Lib.hid (HL7.out.kept k8)
 have HH8 := Lib.hid (HH7.out.kept k8)
 have HRB8 := Lib.hid (HRB7.out.kept k8)
 have KF8 := KF7.kept k8
 clear HR7 HL7 HH7 HRB7 KF7 k8
 have HL9 := HL8
 have HH9 := HH8
 have HRB9 := HRB8
 have KF9 := KF8
 obtain ⟨w9, hw9⟩ : ∃ w9, w9 = w8 := ⟨_, rfl⟩
 subst hw9
 have s9 : w9.heap.size ≤ w9.heap.size := Nat.le_refl _
 clear HR8 HL8 HH8 HRB8 KF8
 go_upto_region 6 with fail
 refine wp_region_lit ?_
 refine l_val (o := ⟨some 49, _, _, _, _, _⟩) (.pointer (some ⟨p, 0, none⟩)) rfl (exec_move (.tmp 0) (.pointer (some ⟨p, 0, none⟩)) rfl (by kernel_rfl)) ?_
 simp only [Act.put, sA, sS, sZ]
 refine l_call (o := ⟨some 50, _, _, _, _, _⟩) 104 #[.pointer (some ⟨p, 0, none⟩)] rfl (exec_call 104 _ [.tmp 49] _ _ Try.func104 (by kernel_rfl) (by kernel_rfl) rfl (by kernel_rfl) _) ?_
 refine (drop_any w9 F p (e.sub n) R HL9.out).mono ?_
 rintro r0 w10 ⟨rfl, hL10, hk10⟩
 refine ⟨_, rfl, ?_⟩
 simp only [Act.put, sA, sS, sZ]
 refine wpList_nil ?_
 have hG10 : Grow w9 F F := Grow.refl _ _
 have hrF : ¬ F r := fun hb => by have := H2.out r hb; omega
 have hhF : ¬ F h6 := fun hb => by have := H2.out h6 hb; omega
 have s10 := hk10.size
 have HH10 := Lib.hid (blk_range (HH9.out.keep hk10 hhF))
 have HRB10 := Lib.hid (HRB9.out.keep hk10 hrF)
 have KF10 : Keep F w w10 := KF9.trans hk10 (fun _ _ h => h)
 have HL10 := Lib.hid hL10
 have HG10 := Lib.hid hG10
 clear hL10 HH9 HRB9 KF9 HL9 hG10
 go_upto_region 9 with fail
 refine wp_text 1 [.eq ((Ent.mk e.o n).v)] rfl (by kernel_rfl) ?_ ?_
 ·refine sv 1 rfl rfl rfl (fun a u hE hD hk => exec_ldS 39 _ (.tmp 6) (h6) (0) ((Ent.mk e.o n).cells) rfl (hE 6 (.pointer (some ⟨h6, 0, none⟩)) (by kernel_rfl) (by kernel_rfl)) (range_kept HH10.out hk) Try.underlying39 (by rw [(Ent.mk e.o n).len10]; exact szH)) ?_
  exact fsteps_nil
 intro gv w11 hV k11
 rw [show dstsOf _ 1 = [58] by kernel_rfl]
 simp only [fC, fN, sA, sS, sZ, dS, dZ]
 rw [show gv 58 = (Ent.mk e.o n).v from hV 0 58 (by kernel_rfl)]
 clear hV
 refine l_setS (o := ⟨none, _, _, _, _, _⟩) 39 r 39 zeroE.cells (Ent.mk e.o n).cells (.tmp 4) (.tmp 58) rfl rfl (by kernel_rfl) (by kernel_rfl) (HRB10.out.kept k11) (by rw [Ent.len10]; exact szH) (by rw [Ent.len10, Ent.len10]) (Ent.one _) ?_
 intro w12 hB12 hk12 hs12
 simp only [Act.put]
 refine wpList_nil ?_
 go_wp2
 refine bodyPost_ret (results_cell (p := 4) rfl _ _ r _ (Ent.mk e.o n).cells rfl hB12 Try.underlying39 (by rw [Ent.len10]; exact szH)) rfl ?_
 refine HHI.out _ _ ⟨F, rfl, ?_, fun b hb => (HG10.out b hb).imp id (fun h => by omega), (KF10.kept k11).trans hk12 (fun b hb e => by subst e; omega)⟩
 have hrF : ¬ F r := fun hb => by
  rcases HG10.out r hb with h | h
  ·exact hrF h
  ·omega
 have hL := (HL10.out.kept k11).keep hk12 (fun b hb e => hrF (by rw [← e]; exact hb))
 rw [show nextM e n R = R by unfold nextM; rw [if_pos hc]]
 exact hL
set_option maxRecDepth 100000 in
set_option maxHeartbeats 1600000 in
theorem hit_anew (w : World) (F : Nat → Prop) (p : Nat) (e : Ent) (q : Int) (R : List Ent) (h : Lvl pr 110 112 w F p (e :: R)) (hX : Good (e :: R)) (hq : 0 < q) (hc : e.o.qty - mn q e.n ≠ 0) (hd : e.n - mn q e.n = 0) : Calls Try.prog 89 #[.pointer (some ⟨p, 0, none⟩), .int .i64 q] w (HitIn pr w F p e q R) := by
 have hb := hX.bound (e := e) (by simp)
 have hlen : R.length ≤ 100000000 := by have := hX.len; simp at this; omega
 have hm1 := mn_le q e.n
 have hm2 := mn_pos q e.n hq (by omega)
 have HHI : Hid (∀ r w', (∃ F', r = .returned (Ent.mk e.o (mn q e.n)).v ∧ Lvl pr 110 112 w' F' p (nextM e (mn q e.n) R) ∧ Grow w F F' ∧ Keep F w w') → HitIn pr w F p e q R r w') := fun r w' h => h
 obtain ⟨n, hn⟩ : ∃ n, mn q e.n = n := ⟨_, rfl⟩
 rw [hn] at hm1 hm2 HHI hc hd
 have HN : Hid ((if e.n < q then e.n else q) = n) := hn
 clear hn hX
 obtain ⟨h1, h2, v, hB, hS, h5⟩ := h
 obtain ⟨g, off, c, rfl⟩ := hS.some_ (by simp)
 have HR : Hid (w.rangeAt g off e.cells) := hS.rng 0 e rfl
 have HB := Lib.hid hB
 have HS := Lib.hid hS
 have H1 := Lib.hid h1
 have H2 := Lib.hid h2
 have H5 := Lib.hid h5
 have hgp : g ≠ p := (h5 g rfl).2
 have hgF : Hid (F g) := (h5 g rfl).1
 have hgl : g < w.heap.size := h2 g hgF.out
 have hpl : p < w.heap.size := h2 p h1
 clear hB hS h5 h1 h2
 go_enter Try.func89, Try.ntmps89
 go_upto_region 0 with fail
 refine wp_text 1 [.fresh w.heap.size 39 zeroE.cells] rfl (by kernel_rfl) ?_ ?_
 ·refine fsteps_cons 1 rfl (fun a u hE hD hk => f_new (o := ⟨some 4, _, _, _, _, _⟩) (.pointer (some ⟨u.heap.size, 0, none⟩)) _ rfl (wanted_none rfl _) (exec_alc 39 zeroE.cells rfl zH) ⟨_, rfl, hk.size, Blk.new u _ _⟩ ((Keep.refl _ u).alloc _)) ?_
  exact fsteps_nil
 intro gv w0 hV k0
 rw [show dstsOf _ 1 = [4] by kernel_rfl]
 simp only [fC, fN, sA, sS, sZ, dS, dZ]
 have hv4 : (.fresh w.heap.size 39 zeroE.cells : Kn).p (gv 4) w0 := hV 0 4 (by kernel_rfl)
 generalize gv 4 = v4 at hv4 ⊢
 clear hV
 obtain ⟨r, rfl, hr, hRB⟩ := hv4
 refine wpList_nil ?_
 have s0 := k0.size
 have hrl := hRB.lt
 have HB0 := Lib.hid (HB.out.kept k0)
 go_upto_region 1 with fail
 refine wp_text 6 [.eq (.pointer (some ⟨p, 0, none⟩)), .eq (.pointer (some ⟨p, 0, none⟩)), .eq (.pointer (some ⟨p, 1, none⟩)), .eq (.slice (some ⟨g, off, none⟩) (R.length + 1) c), .eq (.pointer (some ⟨g, off, none⟩)), .eq (.pointer (some ⟨g, off, none⟩))] rfl (by kernel_rfl) ?_ ?_
 ·refine sv 1 rfl rfl rfl (fun a u hE hD hk => exec_move (.tmp 0) _ rfl (hE 0 (.pointer (some ⟨p, 0, none⟩)) (by kernel_rfl) (by kernel_rfl))) ?_
  refine sv 2 rfl rfl rfl (fun a u hE hD hk => exec_nilp (.tmp 7) ⟨p, 0, none⟩ rfl (hD 0 7 (by kernel_rfl))) ?_
  refine sv 3 rfl rfl rfl (fun a u hE hD hk => exec_fldo 110 1 1 (.tmp 8) (p) (0) (1) rfl (hD 1 8 (by kernel_rfl)) (by kernel_rfl) rfl) ?_
  refine sv 4 rfl rfl rfl (fun a u hE hD hk => exec_ldv 108 _ Try.underlying108 (.tmp 9) ⟨p, 1, none⟩ (.slice (some ⟨g, off, none⟩) (R.length + 1) c) rfl (hD 2 9 (by kernel_rfl)) (by rw [(HB0.out.kept hk).cell]; rfl)) ?_
  refine sv 5 rfl rfl rfl (fun a u hE hD hk => exec_ixo slE (.tmp 10) (.const (.int .i64 0)) (g) (off) (R.length + 1) c 0 (off) (0) rfl (hD 3 10 (by kernel_rfl)) rfl (by first | rfl | omega) ((by omega)) (by first | rfl | omega)) ?_
  refine sv 6 rfl rfl rfl (fun a u hE hD hk => exec_assign (.tmp 11) _ rfl (hD 4 11 (by kernel_rfl))) ?_
  exact fsteps_nil
 intro gv w1 hV k1
 rw [show dstsOf _ 6 = [7, 8, 9, 10, 11, 5] by kernel_rfl]
 simp only [fC, fN, sA, sS, sZ, dS, dZ]
 rw [show gv 5 = .pointer (some ⟨g, off, none⟩) from hV 5 5 (by kernel_rfl)]
 clear hV
 refine wpList_nil ?_
 have kw1 := k0.trans k1
 have s1 := k1.size
 have HR1 := Lib.hid (range_kept HR.out kw1)
 have HRB := Lib.hid (hRB.kept k1)
 clear HR HB0 hRB k0 k1
 go_upto_region 2 with fail
 refine wp_free 12 [.eq (.pointer (some ⟨g, off, none⟩)), .eq (.pointer (some ⟨g, off, none⟩)), .eq (.pointer (some ⟨g, off, none⟩)), .eq (e.o.v), .eq (.int .i64 q), .eq (.pointer (some ⟨g, off, none⟩)), .eq (.pointer (some ⟨g, off, none⟩)), .eq (.pointer (some ⟨g, off + 9, none⟩)), .eq (.int .i64 e.n), .eq (.int .i64 n), .eq ((Ent.mk e.o (n)).v), .fresh w1.heap.size 39 zeroE.cells] (by kernel_rfl) rfl (by kernel_rfl) ?_ ?_
 ·refine sv 1 rfl rfl rfl (fun a u hE hD hk => exec_move (.tmp 5) _ rfl (hE 5 (.pointer (some ⟨g, off, none⟩)) (by kernel_rfl) (by kernel_rfl))) ?_
  refine sv 2 rfl rfl rfl (fun a u hE hD hk => exec_nilp (.tmp 12) ⟨g, off, none⟩ rfl (hD 0 12 (by kernel_rfl))) ?_
  refine sv 3 rfl rfl rfl (fun a u hE hD hk => exec_fldo 112 0 0 (.tmp 13) (g) (off) (off) rfl (hD 1 13 (by kernel_rfl)) (by kernel_rfl) rfl) ?_
  refine sv 4 rfl rfl rfl (fun a u hE hD hk => exec_ldS 25 _ (.tmp 14) (g) (off) (e.o.cells) rfl (hD 2 14 (by kernel_rfl)) (ent_ord (range_kept HR1.out hk)) Try.underlying25 (by rw [e.o.len9]; exact ord_size)) ?_
  refine sv 5 rfl rfl rfl (fun a u hE hD hk => exec_move (.tmp 1) _ rfl (hE 1 (.int .i64 q) (by kernel_rfl) (by kernel_rfl))) ?_
  refine sv 6 rfl rfl rfl (fun a u hE hD hk => exec_move (.tmp 5) _ rfl (hE 5 (.pointer (some ⟨g, off, none⟩)) (by kernel_rfl) (by kernel_rfl))) ?_
  refine sv 7 rfl rfl rfl (fun a u hE hD hk => exec_nilp (.tmp 17) ⟨g, off, none⟩ rfl (hD 5 17 (by kernel_rfl))) ?_
  refine sv 8 rfl rfl rfl (fun a u hE hD hk => exec_fldo 112 1 9 (.tmp 18) (g) (off) (off + 9) rfl (hD 6 18 (by kernel_rfl)) (by kernel_rfl) rfl) ?_
  refine sv 9 rfl rfl rfl (fun a u hE hD hk => exec_loadi 3 Try.underlying3 (.tmp 19) ⟨g, off + 9, none⟩ (.int .i64 e.n) rfl (hD 7 19 (by kernel_rfl)) (range_int (range_kept HR1.out hk) 9 _ rfl)) ?_
  refine sv 10 rfl rfl rfl (fun a u hE hD hk => exec_min (.tmp 16) (.tmp 20) _ q e.n n rfl (hD 4 16 (by kernel_rfl)) (hD 8 20 (by kernel_rfl)) HN.out) ?_
  refine sv 11 rfl rfl rfl (fun a u hE hD hk => exec_bent 39 builtH (.tmp 15) (.tmp 21) (e.o) (n) rfl (hD 3 15 (by kernel_rfl)) (hD 9 21 (by kernel_rfl))) ?_
  refine fsteps_cons 12 rfl (fun a u hE hD hk => f_new (o := ⟨some 6, _, _, _, _, _⟩) (.pointer (some ⟨u.heap.size, 0, none⟩)) _ rfl (wanted_none rfl _) (exec_alc 39 zeroE.cells rfl zH) ⟨_, rfl, hk.size, Blk.new u _ _⟩ ((Keep.refl _ u).alloc _)) ?_
  exact fsteps_nil
 intro gv w2 hV k2
 rw [show dstsOf _ 12 = [12, 13, 14, 15, 16, 17, 18, 19, 20, 21, 22, 6] by kernel_rfl]
 simp only [fC, fN, sA, sS, sZ, dS, dZ]
 have hv6 : (.fresh w1.heap.size 39 zeroE.cells : Kn).p (gv 6) w2 := hV 11 6 (by kernel_rfl)
 generalize gv 6 = v6 at hv6 ⊢
 rw [show gv 22 = (Ent.mk e.o (n)).v from hV 10 22 (by kernel_rfl)]
 clear hV
 obtain ⟨h6, rfl, hh6, hB6⟩ := hv6
 refine l_setS (o := ⟨none, _, _, _, _, _⟩) 39 h6 39 zeroE.cells (Ent.mk e.o n).cells (.tmp 6) (.tmp 22) rfl rfl (by kernel_rfl) (by kernel_rfl) hB6 (by rw [Ent.len10]; exact szH) (by rw [Ent.len10, Ent.len10]) (Ent.one _) ?_
 intro w3 hB7 hk3 hs3
 simp only [Act.put]
 refine wpList_nil ?_
 have kw3 : Kept w w3 := (kw1.trans k2).trans' hk3 (by omega)
 have s3 := kw3.size
 have h6l := hB7.lt
 have s2 := k2.size
 have HR3 := Lib.hid (range_keep (range_kept HR1.out k2) hk3 (by omega))
 have HRB3 := Lib.hid ((HRB.out.kept k2).keep hk3 (by omega))
 have HH3 := Lib.hid hB7
 have HHR := Lib.hid (blk_range hB7)
 have HS3 := Lib.hid (HS.out.kept kw3)
 have HB3 := Lib.hid (HB.out.kept kw3)
 clear HR1 HRB HS HB hB6 hB7 hk3 k2 hs3
 clear kw1
 go_upto_region 3 with fail
 refine wp_free 11 [.eq (.pointer (some ⟨g, off, none⟩)), .eq (.pointer (some ⟨g, off, none⟩)), .eq (.pointer (some ⟨g, off, none⟩)), .eq (.pointer (some ⟨g, off + 6, none⟩)), .eq (.int .i64 e.o.qty), .eq (.pointer (some ⟨h6, 9, none⟩)), .eq (.int .i64 (Ent.mk e.o n).n), .eq (.int .i64 (e.o.qty - n)), .eq (.pointer (some ⟨g, off, none⟩)), .eq (.pointer (some ⟨g, off, none⟩)), .eq (.pointer (some ⟨g, off + 6, none⟩))] (by kernel_rfl) rfl (by kernel_rfl) ?_ ?_
 ·refine sv 1 rfl rfl rfl (fun a u hE hD hk => exec_move (.tmp 5) _ rfl (hE 5 (.pointer (some ⟨g, off, none⟩)) (by kernel_rfl) (by kernel_rfl))) ?_
  refine sv 2 rfl rfl rfl (fun a u hE hD hk => exec_nilp (.tmp 23) ⟨g, off, none⟩ rfl (hD 0 23 (by kernel_rfl))) ?_
  refine sv 3 rfl rfl rfl (fun a u hE hD hk => exec_fldo 112 0 0 (.tmp 24) (g) (off) (off) rfl (hD 1 24 (by kernel_rfl)) (by kernel_rfl) rfl) ?_
  refine sv 4 rfl rfl rfl (fun a u hE hD hk => exec_fldo 25 6 6 (.tmp 25) (g) (off) (off + 6) rfl (hD 2 25 (by kernel_rfl)) (by kernel_rfl) rfl) ?_
  refine sv 5 rfl rfl rfl (fun a u hE hD hk => exec_loadi 3 Try.underlying3 (.tmp 26) ⟨g, off + 6, none⟩ (.int .i64 e.o.qty) rfl (hD 3 26 (by kernel_rfl)) (range_int (range_kept HR3.out hk) 6 _ rfl)) ?_
  refine sv 6 rfl rfl rfl (fun a u hE hD hk => exec_fldo 39 1 9 (.tmp 6) (h6) (0) (9) rfl (hE 6 (.pointer (some ⟨h6, 0, none⟩)) (by kernel_rfl) (by kernel_rfl)) (by kernel_rfl) rfl) ?_
  refine sv 7 rfl rfl rfl (fun a u hE hD hk => exec_loadi 3 Try.underlying3 (.tmp 28) ⟨h6, 9, none⟩ (.int .i64 (Ent.mk e.o n).n) rfl (hD 5 28 (by kernel_rfl)) (range_int (range_kept HHR.out hk) 9 _ rfl)) ?_
  refine sv 8 rfl rfl rfl (fun a u hE hD hk => exec_subn (e.o.qty - n) rfl (hD 4 27 (by kernel_rfl)) (hD 6 29 (by kernel_rfl)) rfl (by omega) (by omega)) ?_
  refine sv 9 rfl rfl rfl (fun a u hE hD hk => exec_nilp (.tmp 23) ⟨g, off, none⟩ rfl (hD 0 23 (by kernel_rfl))) ?_
  refine sv 10 rfl rfl rfl (fun a u hE hD hk => exec_fldo 112 0 0 (.tmp 31) (g) (off) (off) rfl (hD 8 31 (by kernel_rfl)) (by kernel_rfl) rfl) ?_
  refine sv 11 rfl rfl rfl (fun a u hE hD hk => exec_fldo 25 6 6 (.tmp 32) (g) (off) (off + 6) rfl (hD 9 32 (by kernel_rfl)) (by kernel_rfl) rfl) ?_
  exact fsteps_nil
 intro gv w4 hV k4
 rw [show dstsOf _ 11 = [23, 24, 25, 26, 27, 28, 29, 30, 31, 32, 33] by kernel_rfl]
 simp only [fC, fN, sA, sS, sZ, dS, dZ]
 rw [show gv 33 = .pointer (some ⟨g, off + 6, none⟩) from hV 10 33 (by kernel_rfl)]
 rw [show gv 30 = .int .i64 (e.o.qty - n) from hV 7 30 (by kernel_rfl)]
 clear hV
 refine l_rowi (o := ⟨none, _, _, _, _, _⟩) 112 g off (R.length + 1) c 0 6 (e :: R) e ⟨e.o.q (e.o.qty - n), e.n⟩ (e.o.qty - n) ⟨g, off + 6, none⟩ (.tmp 33) (.tmp 30) rfl rfl (by kernel_rfl) (by kernel_rfl) rfl (HS3.out.kept k4) rfl rfl (by omega) rfl ?_
 intro w5 hS5 hk5 hs5
 simp only [Act.put]
 refine wpList_nil ?_
 have s4 := k4.size
 have K5 : Keep (· = g) w3 w5 := (Keep.mono (T := (· = g)) k4 (fun _ _ h => h.elim)).trans hk5 (fun _ _ h => h)
 have HS5 : Hid (Sl w5 112 10 (.slice (some ⟨g, off, none⟩) (R.length + 1) c) (R.length + 1) (ents (⟨e.o.q (e.o.qty - n), e.n⟩ :: R))) := hS5
 have HR5 : Hid (w5.rangeAt g off (Ent.mk (e.o.q (e.o.qty - n)) e.n).cells) := HS5.out.rng 0 _ rfl
 have HHR5 := Lib.hid (range_keep HHR.out K5 (by omega))
 clear hS5 hk5 k4 HR3
 go_upto_region 4 with fail
 refine wp_free 9 [.eq (.pointer (some ⟨g, off, none⟩)), .eq (.pointer (some ⟨g, off, none⟩)), .eq (.pointer (some ⟨g, off + 9, none⟩)), .eq (.int .i64 (Ent.mk (e.o.q (e.o.qty - n)) e.n).n), .eq (.pointer (some ⟨h6, 9, none⟩)), .eq (.int .i64 (Ent.mk e.o n).n), .eq (.int .i64 (e.n - n)), .eq (.pointer (some ⟨g, off, none⟩)), .eq (.pointer (some ⟨g, off + 9, none⟩))] (by kernel_rfl) rfl (by kernel_rfl) ?_ ?_
 ·refine sv 1 rfl rfl rfl (fun a u hE hD hk => exec_move (.tmp 5) _ rfl (hE 5 (.pointer (some ⟨g, off, none⟩)) (by kernel_rfl) (by kernel_rfl))) ?_
  refine sv 2 rfl rfl rfl (fun a u hE hD hk => exec_nilp (.tmp 34) ⟨g, off, none⟩ rfl (hD 0 34 (by kernel_rfl))) ?_
  refine sv 3 rfl rfl rfl (fun a u hE hD hk => exec_fldo 112 1 9 (.tmp 35) (g) (off) (off + 9) rfl (hD 1 35 (by kernel_rfl)) (by kernel_rfl) rfl) ?_
  refine sv 4 rfl rfl rfl (fun a u hE hD hk => exec_loadi 3 Try.underlying3 (.tmp 36) ⟨g, off + 9, none⟩ (.int .i64 (Ent.mk (e.o.q (e.o.qty - n)) e.n).n) rfl (hD 2 36 (by kernel_rfl)) (range_int (range_kept HR5.out hk) 9 _ rfl)) ?_
  refine sv 5 rfl rfl rfl (fun a u hE hD hk => exec_fldo 39 1 9 (.tmp 6) (h6) (0) (9) rfl (hE 6 (.pointer (some ⟨h6, 0, none⟩)) (by kernel_rfl) (by kernel_rfl)) (by kernel_rfl) rfl) ?_
  refine sv 6 rfl rfl rfl (fun a u hE hD hk => exec_loadi 3 Try.underlying3 (.tmp 38) ⟨h6, 9, none⟩ (.int .i64 (Ent.mk e.o n).n) rfl (hD 4 38 (by kernel_rfl)) (range_int (range_kept HHR5.out hk) 9 _ rfl)) ?_
  refine sv 7 rfl rfl rfl (fun a u hE hD hk => exec_subn (e.n - n) rfl (hD 3 37 (by kernel_rfl)) (hD 5 39 (by kernel_rfl)) rfl (by omega) (by omega)) ?_
  refine sv 8 rfl rfl rfl (fun a u hE hD hk => exec_nilp (.tmp 34) ⟨g, off, none⟩ rfl (hD 0 34 (by kernel_rfl))) ?_
  refine sv 9 rfl rfl rfl (fun a u hE hD hk => exec_fldo 112 1 9 (.tmp 41) (g) (off) (off + 9) rfl (hD 7 41 (by kernel_rfl)) (by kernel_rfl) rfl) ?_
  exact fsteps_nil
 intro gv w6 hV k6
 rw [show dstsOf _ 9 = [34, 35, 36, 37, 38, 39, 40, 41, 42] by kernel_rfl]
 simp only [fC, fN, sA, sS, sZ, dS, dZ]
 rw [show gv 42 = .pointer (some ⟨g, off + 9, none⟩) from hV 8 42 (by kernel_rfl)]
 rw [show gv 40 = .int .i64 (e.n - n) from hV 6 40 (by kernel_rfl)]
 clear hV
 refine l_rowi (o := ⟨none, _, _, _, _, _⟩) 112 g off (R.length + 1) c 0 9 (⟨e.o.q (e.o.qty - n), e.n⟩ :: R) ⟨e.o.q (e.o.qty - n), e.n⟩ (e.sub n) (e.n - n) ⟨g, off + 9, none⟩ (.tmp 42) (.tmp 40) rfl rfl (by kernel_rfl) (by kernel_rfl) rfl (HS5.out.kept k6) rfl rfl (by omega) rfl ?_
 intro w7 hS7 hk7 hs7
 simp only [Act.put]
 refine wpList_nil ?_
 have s6 := k6.size
 have K7 : Keep (· = g) w3 w7 := (K5.kept k6).trans hk7 (fun _ _ h => h)
 have HS7 : Hid (Sl w7 112 10 (.slice (some ⟨g, off, none⟩) (R.length + 1) c) (R.length + 1) (ents (e.sub n :: R))) := hS7
 have HR7 : Hid (w7.rangeAt g off (e.sub n).cells) := HS7.out.rng 0 _ rfl
 have HL7 : Hid (Lvl pr 110 112 w7 F p (e.sub n :: R)) := ⟨H1.out, fun b hb => by have := H2.out b hb; omega, _, HB3.out.keep K7 (fun e => hgp e.symm), HS7.out, H5.out⟩
 have HH7 := Lib.hid (HH3.out.keep K7 (by omega))
 have HRB7 := Lib.hid (HRB3.out.keep K7 (by omega))
 have KF7 : Keep F w w7 := (Keep.mono (T := F) kw3 (fun _ _ h => h.elim)).trans K7 (fun b _ hb => by subst hb; exact hgF.out)
 clear hS7 hk7 k6 K5 HS5 HR5 HHR5 HHR HS3 HB3 HH3 HRB3 K7 HS7 kw3 HN
 go_upto_region 5 with fail
 refine wp_text 6 [.eq (.pointer (some ⟨g, off, none⟩)), .eq (.pointer (some ⟨g, off, none⟩)), .eq (.pointer (some ⟨g, off, none⟩)), .eq (.pointer (some ⟨g, off + 6, none⟩)), .eq (.int .i64 (e.sub n).o.qty), .eq (.bool false)] rfl (by kernel_rfl) ?_ ?_
 ·refine sv 1 rfl rfl rfl (fun a u hE hD hk => exec_move (.tmp 5) _ rfl (hE 5 (.pointer (some ⟨g, off, none⟩)) (by kernel_rfl) (by kernel_rfl))) ?_
  refine sv 2 rfl rfl rfl (fun a u hE hD hk => exec_nilp (.tmp 43) ⟨g, off, none⟩ rfl (hD 0 43 (by kernel_rfl))) ?_
  refine sv 3 rfl rfl rfl (fun a u hE hD hk => exec_fldo 112 0 0 (.tmp 44) (g) (off) (off) rfl (hD 1 44 (by kernel_rfl)) (by kernel_rfl) rfl) ?_
  refine sv 4 rfl rfl rfl (fun a u hE hD hk => exec_fldo 25 6 6 (.tmp 45) (g) (off) (off + 6) rfl (hD 2 45 (by kernel_rfl)) (by kernel_rfl) rfl) ?_
  refine sv 5 rfl rfl rfl (fun a u hE hD hk => exec_loadi 3 Try.underlying3 (.tmp 46) ⟨g, off + 6, none⟩ (.int .i64 (e.sub n).o.qty) rfl (hD 3 46 (by kernel_rfl)) (range_int (range_kept HR7.out hk) 6 _ rfl)) ?_
  refine fsteps_cons 6 rfl (fun a u hE hD hk => f_as (show ((decide (((e.sub n).o.qty : Int) = (0 : Int))) : Bool) = false from decide_eq_false hc) (f_val (o := ⟨some 48, _, _, _, _, _⟩) (.bool (decide (((e.sub n).o.qty : Int) = (0 : Int)))) rfl (wanted_none rfl _) (exec_eqn (p := (e.sub n).o.qty) (q := 0) rfl (hD 4 47 (by kernel_rfl)) rfl) rfl)) ?_
  exact fsteps_nil
 intro gv w8 hV k8
 rw [show dstsOf _ 6 = [43, 44, 45, 46, 47, 48] by kernel_rfl]
 simp only [fC, fN, sA, sS, sZ, dS, dZ]
 rw [show gv 48 = .bool false from hV 5 48 (by kernel_rfl)]
 clear hV
 refine wpList_nil ?_
 have s8 := k8.size
 have HR8 := Lib.hid (range_kept HR7.out k8)
 have HL8 := Lib.hid (HL7.out.kept k8)
 have HH8 := Lib.hid (HH7.out.kept k8)
 have HRB8 := Lib.hid (HRB7.out.kept k8)
 have KF8 := KF7.kept k8
 clear HR7 HL7 HH7 HRB7 KF7 k8
 go_upto_region 7 with fail
 refine wp_text 5 [.eq (.pointer (some ⟨g, off, none⟩)), .eq (.pointer (some ⟨g, off, none⟩)), .eq (.pointer (some ⟨g, off + 9, none⟩)), .eq (.int .i64 (e.sub n).n), .eq (.bool true)] rfl (by kernel_rfl) ?_ ?_
 ·refine sv 1 rfl rfl rfl (fun a u hE hD hk => exec_move (.tmp 5) _ rfl (hE 5 (.pointer (some ⟨g, off, none⟩)) (by kernel_rfl) (by kernel_rfl))) ?_
  refine sv 2 rfl rfl rfl (fun a u hE hD hk => exec_nilp (.tmp 51) ⟨g, off, none⟩ rfl (hD 0 51 (by kernel_rfl))) ?_
  refine sv 3 rfl rfl rfl (fun a u hE hD hk => exec_fldo 112 1 9 (.tmp 52) (g) (off) (off + 9) rfl (hD 1 52 (by kernel_rfl)) (by kernel_rfl) rfl) ?_
  refine sv 4 rfl rfl rfl (fun a u hE hD hk => exec_loadi 3 Try.underlying3 (.tmp 53) ⟨g, off + 9, none⟩ (.int .i64 (e.sub n).n) rfl (hD 2 53 (by kernel_rfl)) (range_int (range_kept HR8.out hk) 9 _ rfl)) ?_
  refine fsteps_cons 5 rfl (fun a u hE hD hk => f_as (show ((decide (((e.sub n).n : Int) = (0 : Int))) : Bool) = true from decide_eq_true hd) (f_val (o := ⟨some 55, _, _, _, _, _⟩) (.bool (decide (((e.sub n).n : Int) = (0 : Int)))) rfl (wanted_none rfl _) (exec_eqn (p := (e.sub n).n) (q := 0) rfl (hD 3 54 (by kernel_rfl)) rfl) rfl)) ?_
  exact fsteps_nil
 intro gv w9 hV k9
 rw [show dstsOf _ 5 = [51, 52, 53, 54, 55] by kernel_rfl]
 simp only [fC, fN, sA, sS, sZ, dS, dZ]
 rw [show gv 55 = .bool true from hV 4 55 (by kernel_rfl)]
 clear hV
 refine wpList_nil ?_
 have s9 := k9.size
 have HL9 := Lib.hid (HL8.out.kept k9)
 have HH9 := Lib.hid (HH8.out.kept k9)
 have HRB9 := Lib.hid (HRB8.out.kept k9)
 have KF9 := KF8.kept k9
 clear HR8 HL8 HH8 HRB8 KF8 k9
 go_upto_region 8 with fail
 refine wp_region_lit ?_
 refine l_val (o := ⟨some 56, _, _, _, _, _⟩) (.pointer (some ⟨p, 0, none⟩)) rfl (exec_move (.tmp 0) (.pointer (some ⟨p, 0, none⟩)) rfl (by kernel_rfl)) ?_
 simp only [Act.put, sA, sS, sZ]
 refine l_call (o := ⟨some 57, _, _, _, _, _⟩) 105 #[.pointer (some ⟨p, 0, none⟩)] rfl (exec_call 105 _ [.tmp 56] _ _ Try.func105 (by kernel_rfl) (by kernel_rfl) rfl (by kernel_rfl) _) ?_
 refine (anew_any w9 F p (e.sub n) R HL9.out hlen).mono ?_
 rintro r0 w10 ⟨F', rfl, hL10, hG10, hk10⟩
 refine ⟨_, rfl, ?_⟩
 simp only [Act.put, sA, sS, sZ]
 refine wpList_nil ?_
 have hrF : ¬ F r := fun hb => by have := H2.out r hb; omega
 have hhF : ¬ F h6 := fun hb => by have := H2.out h6 hb; omega
 have s10 := hk10.size
 have HH10 := Lib.hid (blk_range (HH9.out.keep hk10 hhF))
 have HRB10 := Lib.hid (HRB9.out.keep hk10 hrF)
 have KF10 : Keep F w w10 := KF9.trans hk10 (fun _ _ h => h)
 have HL10 := Lib.hid hL10
 have HG10 := Lib.hid hG10
 clear hL10 HH9 HRB9 KF9 HL9 hG10
 go_upto_region 9 with fail
 refine wp_text 1 [.eq ((Ent.mk e.o n).v)] rfl (by kernel_rfl) ?_ ?_
 ·refine sv 1 rfl rfl rfl (fun a u hE hD hk => exec_ldS 39 _ (.tmp 6) (h6) (0) ((Ent.mk e.o n).cells) rfl (hE 6 (.pointer (some ⟨h6, 0, none⟩)) (by kernel_rfl) (by kernel_rfl)) (range_kept HH10.out hk) Try.underlying39 (by rw [(Ent.mk e.o n).len10]; exact szH)) ?_
  exact fsteps_nil
 intro gv w11 hV k11
 rw [show dstsOf _ 1 = [58] by kernel_rfl]
 simp only [fC, fN, sA, sS, sZ, dS, dZ]
 rw [show gv 58 = (Ent.mk e.o n).v from hV 0 58 (by kernel_rfl)]
 clear hV
 refine l_setS (o := ⟨none, _, _, _, _, _⟩) 39 r 39 zeroE.cells (Ent.mk e.o n).cells (.tmp 4) (.tmp 58) rfl rfl (by kernel_rfl) (by kernel_rfl) (HRB10.out.kept k11) (by rw [Ent.len10]; exact szH) (by rw [Ent.len10, Ent.len10]) (Ent.one _) ?_
 intro w12 hB12 hk12 hs12
 simp only [Act.put]
 refine wpList_nil ?_
 go_wp2
 refine bodyPost_ret (results_cell (p := 4) rfl _ _ r _ (Ent.mk e.o n).cells rfl hB12 Try.underlying39 (by rw [Ent.len10]; exact szH)) rfl ?_
 refine HHI.out _ _ ⟨F', rfl, ?_, fun b hb => (HG10.out b hb).imp id (fun h => by omega), (KF10.kept k11).trans hk12 (fun b hb e => by subst e; omega)⟩
 have hrF' : ¬ F' r := fun hb => by
  rcases HG10.out r hb with h | h
  ·exact hrF h
  ·omega
 have hL := (HL10.out.kept k11).keep hk12 (fun b hb e => hrF' (by rw [← e]; exact hb))
 rw [show nextM e n R = R ++ [Ent.of (e.sub n).o] by unfold nextM; rw [if_neg hc, if_pos hd]]
 exact hL
set_option maxRecDepth 100000 in
set_option maxHeartbeats 1600000 in
theorem hit_part (w : World) (F : Nat → Prop) (p : Nat) (e : Ent) (q : Int) (R : List Ent) (h : Lvl pr 110 112 w F p (e :: R)) (hX : Good (e :: R)) (hq : 0 < q) (hc : e.o.qty - mn q e.n ≠ 0) (hd : e.n - mn q e.n ≠ 0) : Calls Try.prog 89 #[.pointer (some ⟨p, 0, none⟩), .int .i64 q] w (HitIn pr w F p e q R) := by
 have hb := hX.bound (e := e) (by simp)
 have hlen : R.length ≤ 100000000 := by have := hX.len; simp at this; omega
 have hm1 := mn_le q e.n
 have hm2 := mn_pos q e.n hq (by omega)
 have HHI : Hid (∀ r w', (∃ F', r = .returned (Ent.mk e.o (mn q e.n)).v ∧ Lvl pr 110 112 w' F' p (nextM e (mn q e.n) R) ∧ Grow w F F' ∧ Keep F w w') → HitIn pr w F p e q R r w') := fun r w' h => h
 obtain ⟨n, hn⟩ : ∃ n, mn q e.n = n := ⟨_, rfl⟩
 rw [hn] at hm1 hm2 HHI hc hd
 have HN : Hid ((if e.n < q then e.n else q) = n) := hn
 clear hn hX
 obtain ⟨h1, h2, v, hB, hS, h5⟩ := h
 obtain ⟨g, off, c, rfl⟩ := hS.some_ (by simp)
 have HR : Hid (w.rangeAt g off e.cells) := hS.rng 0 e rfl
 have HB := Lib.hid hB
 have HS := Lib.hid hS
 have H1 := Lib.hid h1
 have H2 := Lib.hid h2
 have H5 := Lib.hid h5
 have hgp : g ≠ p := (h5 g rfl).2
 have hgF : Hid (F g) := (h5 g rfl).1
 have hgl : g < w.heap.size := h2 g hgF.out
 have hpl : p < w.heap.size := h2 p h1
 clear hB hS h5 h1 h2
 go_enter Try.func89, Try.ntmps89
 go_upto_region 0 with fail
 refine wp_text 1 [.fresh w.heap.size 39 zeroE.cells] rfl (by kernel_rfl) ?_ ?_
 ·refine fsteps_cons 1 rfl (fun a u hE hD hk => f_new (o := ⟨some 4, _, _, _, _, _⟩) (.pointer (some ⟨u.heap.size, 0, none⟩)) _ rfl (wanted_none rfl _) (exec_alc 39 zeroE.cells rfl zH) ⟨_, rfl, hk.size, Blk.new u _ _⟩ ((Keep.refl _ u).alloc _)) ?_
  exact fsteps_nil
 intro gv w0 hV k0
 rw [show dstsOf _ 1 = [4] by kernel_rfl]
 simp only [fC, fN, sA, sS, sZ, dS, dZ]
 have hv4 : (.fresh w.heap.size 39 zeroE.cells : Kn).p (gv 4) w0 := hV 0 4 (by kernel_rfl)
 generalize gv 4 = v4 at hv4 ⊢
 clear hV
 obtain ⟨r, rfl, hr, hRB⟩ := hv4
 refine wpList_nil ?_
 have s0 := k0.size
 have hrl := hRB.lt
 have HB0 := Lib.hid (HB.out.kept k0)
 go_upto_region 1 with fail
 refine wp_text 6 [.eq (.pointer (some ⟨p, 0, none⟩)), .eq (.pointer (some ⟨p, 0, none⟩)), .eq (.pointer (some ⟨p, 1, none⟩)), .eq (.slice (some ⟨g, off, none⟩) (R.length + 1) c), .eq (.pointer (some ⟨g, off, none⟩)), .eq (.pointer (some ⟨g, off, none⟩))] rfl (by kernel_rfl) ?_ ?_
 ·refine sv 1 rfl rfl rfl (fun a u hE hD hk => exec_move (.tmp 0) _ rfl (hE 0 (.pointer (some ⟨p, 0, none⟩)) (by kernel_rfl) (by kernel_rfl))) ?_
  refine sv 2 rfl rfl rfl (fun a u hE hD hk => exec_nilp (.tmp 7) ⟨p, 0, none⟩ rfl (hD 0 7 (by kernel_rfl))) ?_
  refine sv 3 rfl rfl rfl (fun a u hE hD hk => exec_fldo 110 1 1 (.tmp 8) (p) (0) (1) rfl (hD 1 8 (by kernel_rfl)) (by kernel_rfl) rfl) ?_
  refine sv 4 rfl rfl rfl (fun a u hE hD hk => exec_ldv 108 _ Try.underlying108 (.tmp 9) ⟨p, 1, none⟩ (.slice (some ⟨g, off, none⟩) (R.length + 1) c) rfl (hD 2 9 (by kernel_rfl)) (by rw [(HB0.out.kept hk).cell]; rfl)) ?_
  refine sv 5 rfl rfl rfl (fun a u hE hD hk => exec_ixo slE (.tmp 10) (.const (.int .i64 0)) (g) (off) (R.length + 1) c 0 (off) (0) rfl (hD 3 10 (by kernel_rfl)) rfl (by first | rfl | omega) ((by omega)) (by first | rfl | omega)) ?_
  refine sv 6 rfl rfl rfl (fun a u hE hD hk => exec_assign (.tmp 11) _ rfl (hD 4 11 (by kernel_rfl))) ?_
  exact fsteps_nil
 intro gv w1 hV k1
 rw [show dstsOf _ 6 = [7, 8, 9, 10, 11, 5] by kernel_rfl]
 simp only [fC, fN, sA, sS, sZ, dS, dZ]
 rw [show gv 5 = .pointer (some ⟨g, off, none⟩) from hV 5 5 (by kernel_rfl)]
 clear hV
 refine wpList_nil ?_
 have kw1 := k0.trans k1
 have s1 := k1.size
 have HR1 := Lib.hid (range_kept HR.out kw1)
 have HRB := Lib.hid (hRB.kept k1)
 clear HR HB0 hRB k0 k1
 go_upto_region 2 with fail
 refine wp_free 12 [.eq (.pointer (some ⟨g, off, none⟩)), .eq (.pointer (some ⟨g, off, none⟩)), .eq (.pointer (some ⟨g, off, none⟩)), .eq (e.o.v), .eq (.int .i64 q), .eq (.pointer (some ⟨g, off, none⟩)), .eq (.pointer (some ⟨g, off, none⟩)), .eq (.pointer (some ⟨g, off + 9, none⟩)), .eq (.int .i64 e.n), .eq (.int .i64 n), .eq ((Ent.mk e.o (n)).v), .fresh w1.heap.size 39 zeroE.cells] (by kernel_rfl) rfl (by kernel_rfl) ?_ ?_
 ·refine sv 1 rfl rfl rfl (fun a u hE hD hk => exec_move (.tmp 5) _ rfl (hE 5 (.pointer (some ⟨g, off, none⟩)) (by kernel_rfl) (by kernel_rfl))) ?_
  refine sv 2 rfl rfl rfl (fun a u hE hD hk => exec_nilp (.tmp 12) ⟨g, off, none⟩ rfl (hD 0 12 (by kernel_rfl))) ?_
  refine sv 3 rfl rfl rfl (fun a u hE hD hk => exec_fldo 112 0 0 (.tmp 13) (g) (off) (off) rfl (hD 1 13 (by kernel_rfl)) (by kernel_rfl) rfl) ?_
  refine sv 4 rfl rfl rfl (fun a u hE hD hk => exec_ldS 25 _ (.tmp 14) (g) (off) (e.o.cells) rfl (hD 2 14 (by kernel_rfl)) (ent_ord (range_kept HR1.out hk)) Try.underlying25 (by rw [e.o.len9]; exact ord_size)) ?_
  refine sv 5 rfl rfl rfl (fun a u hE hD hk => exec_move (.tmp 1) _ rfl (hE 1 (.int .i64 q) (by kernel_rfl) (by kernel_rfl))) ?_
  refine sv 6 rfl rfl rfl (fun a u hE hD hk => exec_move (.tmp 5) _ rfl (hE 5 (.pointer (some ⟨g, off, none⟩)) (by kernel_rfl) (by kernel_rfl))) ?_
  refine sv 7 rfl rfl rfl (fun a u hE hD hk => exec_nilp (.tmp 17) ⟨g, off, none⟩ rfl (hD 5 17 (by kernel_rfl))) ?_
  refine sv 8 rfl rfl rfl (fun a u hE hD hk => exec_fldo 112 1 9 (.tmp 18) (g) (off) (off + 9) rfl (hD 6 18 (by kernel_rfl)) (by kernel_rfl) rfl) ?_
  refine sv 9 rfl rfl rfl (fun a u hE hD hk => exec_loadi 3 Try.underlying3 (.tmp 19) ⟨g, off + 9, none⟩ (.int .i64 e.n) rfl (hD 7 19 (by kernel_rfl)) (range_int (range_kept HR1.out hk) 9 _ rfl)) ?_
  refine sv 10 rfl rfl rfl (fun a u hE hD hk => exec_min (.tmp 16) (.tmp 20) _ q e.n n rfl (hD 4 16 (by kernel_rfl)) (hD 8 20 (by kernel_rfl)) HN.out) ?_
  refine sv 11 rfl rfl rfl (fun a u hE hD hk => exec_bent 39 builtH (.tmp 15) (.tmp 21) (e.o) (n) rfl (hD 3 15 (by kernel_rfl)) (hD 9 21 (by kernel_rfl))) ?_
  refine fsteps_cons 12 rfl (fun a u hE hD hk => f_new (o := ⟨some 6, _, _, _, _, _⟩) (.pointer (some ⟨u.heap.size, 0, none⟩)) _ rfl (wanted_none rfl _) (exec_alc 39 zeroE.cells rfl zH) ⟨_, rfl, hk.size, Blk.new u _ _⟩ ((Keep.refl _ u).alloc _)) ?_
  exact fsteps_nil
 intro gv w2 hV k2
 rw [show dstsOf _ 12 = [12, 13, 14, 15, 16, 17, 18, 19, 20, 21, 22, 6] by kernel_rfl]
 simp only [fC, fN, sA, sS, sZ, dS, dZ]
 have hv6 : (.fresh w1.heap.size 39 zeroE.cells : Kn).p (gv 6) w2 := hV 11 6 (by kernel_rfl)
 generalize gv 6 = v6 at hv6 ⊢
 rw [show gv 22 = (Ent.mk e.o (n)).v from hV 10 22 (by kernel_rfl)]
 clear hV
 obtain ⟨h6, rfl, hh6, hB6⟩ := hv6
 refine l_setS (o := ⟨none, _, _, _, _, _⟩) 39 h6 39 zeroE.cells (Ent.mk e.o n).cells (.tmp 6) (.tmp 22) rfl rfl (by kernel_rfl) (by kernel_rfl) hB6 (by rw [Ent.len10]; exact szH) (by rw [Ent.len10, Ent.len10]) (Ent.one _) ?_
 intro w3 hB7 hk3 hs3
 simp only [Act.put]
 refine wpList_nil ?_
 have kw3 : Kept w w3 := (kw1.trans k2).trans' hk3 (by omega)
 have s3 := kw3.size
 have h6l := hB7.lt
 have s2 := k2.size
 have HR3 := Lib.hid (range_keep (range_kept HR1.out k2) hk3 (by omega))
 have HRB3 := Lib.hid ((HRB.out.kept k2).keep hk3 (by omega))
 have HH3 := Lib.hid hB7
 have HHR := Lib.hid (blk_range hB7)
 have HS3 := Lib.hid (HS.out.kept kw3)
 have HB3 := Lib.hid (HB.out.kept kw3)
 clear HR1 HRB HS HB hB6 hB7 hk3 k2 hs3
 clear kw1
 go_upto_region 3 with fail
 refine wp_free 11 [.eq (.pointer (some ⟨g, off, none⟩)), .eq (.pointer (some ⟨g, off, none⟩)), .eq (.pointer (some ⟨g, off, none⟩)), .eq (.pointer (some ⟨g, off + 6, none⟩)), .eq (.int .i64 e.o.qty), .eq (.pointer (some ⟨h6, 9, none⟩)), .eq (.int .i64 (Ent.mk e.o n).n), .eq (.int .i64 (e.o.qty - n)), .eq (.pointer (some ⟨g, off, none⟩)), .eq (.pointer (some ⟨g, off, none⟩)), .eq (.pointer (some ⟨g, off + 6, none⟩))] (by kernel_rfl) rfl (by kernel_rfl) ?_ ?_
 ·refine sv 1 rfl rfl rfl (fun a u hE hD hk => exec_move (.tmp 5) _ rfl (hE 5 (.pointer (some ⟨g, off, none⟩)) (by kernel_rfl) (by kernel_rfl))) ?_
  refine sv 2 rfl rfl rfl (fun a u hE hD hk => exec_nilp (.tmp 23) ⟨g, off, none⟩ rfl (hD 0 23 (by kernel_rfl))) ?_
  refine sv 3 rfl rfl rfl (fun a u hE hD hk => exec_fldo 112 0 0 (.tmp 24) (g) (off) (off) rfl (hD 1 24 (by kernel_rfl)) (by kernel_rfl) rfl) ?_
  refine sv 4 rfl rfl rfl (fun a u hE hD hk => exec_fldo 25 6 6 (.tmp 25) (g) (off) (off + 6) rfl (hD 2 25 (by kernel_rfl)) (by kernel_rfl) rfl) ?_
  refine sv 5 rfl rfl rfl (fun a u hE hD hk => exec_loadi 3 Try.underlying3 (.tmp 26) ⟨g, off + 6, none⟩ (.int .i64 e.o.qty) rfl (hD 3 26 (by kernel_rfl)) (range_int (range_kept HR3.out hk) 6 _ rfl)) ?_
  refine sv 6 rfl rfl rfl (fun a u hE hD hk => exec_fldo 39 1 9 (.tmp 6) (h6) (0) (9) rfl (hE 6 (.pointer (some ⟨h6, 0, none⟩)) (by kernel_rfl) (by kernel_rfl)) (by kernel_rfl) rfl) ?_
  refine sv 7 rfl rfl rfl (fun a u hE hD hk => exec_loadi 3 Try.underlying3 (.tmp 28) ⟨h6, 9, none⟩ (.int .i64 (Ent.mk e.o n).n) rfl (hD 5 28 (by kernel_rfl)) (range_int (range_kept HHR.out hk) 9 _ rfl)) ?_
  refine sv 8 rfl rfl rfl (fun a u hE hD hk => exec_subn (e.o.qty - n) rfl (hD 4 27 (by kernel_rfl)) (hD 6 29 (by kernel_rfl)) rfl (by omega) (by omega)) ?_
  refine sv 9 rfl rfl rfl (fun a u hE hD hk => exec_nilp (.tmp 23) ⟨g, off, none⟩ rfl (hD 0 23 (by kernel_rfl))) ?_
  refine sv 10 rfl rfl rfl (fun a u hE hD hk => exec_fldo 112 0 0 (.tmp 31) (g) (off) (off) rfl (hD 8 31 (by kernel_rfl)) (by kernel_rfl) rfl) ?_
  refine sv 11 rfl rfl rfl (fun a u hE hD hk => exec_fldo 25 6 6 (.tmp 32) (g) (off) (off + 6) rfl (hD 9 32 (by kernel_rfl)) (by kernel_rfl) rfl) ?_
  exact fsteps_nil
 intro gv w4 hV k4
 rw [show dstsOf _ 11 = [23, 24, 25, 26, 27, 28, 29, 30, 31, 32, 33] by kernel_rfl]
 simp only [fC, fN, sA, sS, sZ, dS, dZ]
 rw [show gv 33 = .pointer (some ⟨g, off + 6, none⟩) from hV 10 33 (by kernel_rfl)]
 rw [show gv 30 = .int .i64 (e.o.qty - n) from hV 7 30 (by kernel_rfl)]
 clear hV
 refine l_rowi (o := ⟨none, _, _, _, _, _⟩) 112 g off (R.length + 1) c 0 6 (e :: R) e ⟨e.o.q (e.o.qty - n), e.n⟩ (e.o.qty - n) ⟨g, off + 6, none⟩ (.tmp 33) (.tmp 30) rfl rfl (by kernel_rfl) (by kernel_rfl) rfl (HS3.out.kept k4) rfl rfl (by omega) rfl ?_
 intro w5 hS5 hk5 hs5
 simp only [Act.put]
 refine wpList_nil ?_
 have s4 := k4.size
 have K5 : Keep (· = g) w3 w5 := (Keep.mono (T := (· = g)) k4 (fun _ _ h => h.elim)).trans hk5 (fun _ _ h => h)
 have HS5 : Hid (Sl w5 112 10 (.slice (some ⟨g, off, none⟩) (R.length + 1) c) (R.length + 1) (ents (⟨e.o.q (e.o.qty - n), e.n⟩ :: R))) := hS5
 have HR5 : Hid (w5.rangeAt g off (Ent.mk (e.o.q (e.o.qty - n)) e.n).cells) := HS5.out.rng 0 _ rfl
 have HHR5 := Lib.hid (range_keep HHR.out K5 (by omega))
 clear hS5 hk5 k4 HR3
 go_upto_region 4 with fail
 refine wp_free 9 [.eq (.pointer (some ⟨g, off, none⟩)), .eq (.pointer (some ⟨g, off, none⟩)), .eq (.pointer (some ⟨g, off + 9, none⟩)), .eq (.int .i64 (Ent.mk (e.o.q (e.o.qty - n)) e.n).n), .eq (.pointer (some ⟨h6, 9, none⟩)), .eq (.int .i64 (Ent.mk e.o n).n), .eq (.int .i64 (e.n - n)), .eq (.pointer (some ⟨g, off, none⟩)), .eq (.pointer (some ⟨g, off + 9, none⟩))] (by kernel_rfl) rfl (by kernel_rfl) ?_ ?_
 ·refine sv 1 rfl rfl rfl (fun a u hE hD hk => exec_move (.tmp 5) _ rfl (hE 5 (.pointer (some ⟨g, off, none⟩)) (by kernel_rfl) (by kernel_rfl))) ?_
  refine sv 2 rfl rfl rfl (fun a u hE hD hk => exec_nilp (.tmp 34) ⟨g, off, none⟩ rfl (hD 0 34 (by kernel_rfl))) ?_
  refine sv 3 rfl rfl rfl (fun a u hE hD hk => exec_fldo 112 1 9 (.tmp 35) (g) (off) (off + 9) rfl (hD 1 35 (by kernel_rfl)) (by kernel_rfl) rfl) ?_
  refine sv 4 rfl rfl rfl (fun a u hE hD hk => exec_loadi 3 Try.underlying3 (.tmp 36) ⟨g, off + 9, none⟩ (.int .i64 (Ent.mk (e.o.q (e.o.qty - n)) e.n).n) rfl (hD 2 36 (by kernel_rfl)) (range_int (range_kept HR5.out hk) 9 _ rfl)) ?_
  refine sv 5 rfl rfl rfl (fun a u hE hD hk => exec_fldo 39 1 9 (.tmp 6) (h6) (0) (9) rfl (hE 6 (.pointer (some ⟨h6, 0, none⟩)) (by kernel_rfl) (by kernel_rfl)) (by kernel_rfl) rfl) ?_
  refine sv 6 rfl rfl rfl (fun a u hE hD hk => exec_loadi 3 Try.underlying3 (.tmp 38) ⟨h6, 9, none⟩ (.int .i64 (Ent.mk e.o n).n) rfl (hD 4 38 (by kernel_rfl)) (range_int (range_kept HHR5.out hk) 9 _ rfl)) ?_
  refine sv 7 rfl rfl rfl (fun a u hE hD hk => exec_subn (e.n - n) rfl (hD 3 37 (by kernel_rfl)) (hD 5 39 (by kernel_rfl)) rfl (by omega) (by omega)) ?_
  refine sv 8 rfl rfl rfl (fun a u hE hD hk => exec_nilp (.tmp 34) ⟨g, off, none⟩ rfl (hD 0 34 (by kernel_rfl))) ?_
  refine sv 9 rfl rfl rfl (fun a u hE hD hk => exec_fldo 112 1 9 (.tmp 41) (g) (off) (off + 9) rfl (hD 7 41 (by kernel_rfl)) (by kernel_rfl) rfl) ?_
  exact fsteps_nil
 intro gv w6 hV k6
 rw [show dstsOf _ 9 = [34, 35, 36, 37, 38, 39, 40, 41, 42] by kernel_rfl]
 simp only [fC, fN, sA, sS, sZ, dS, dZ]
 rw [show gv 42 = .pointer (some ⟨g, off + 9, none⟩) from hV 8 42 (by kernel_rfl)]
 rw [show gv 40 = .int .i64 (e.n - n) from hV 6 40 (by kernel_rfl)]
 clear hV
 refine l_rowi (o := ⟨none, _, _, _, _, _⟩) 112 g off (R.length + 1) c 0 9 (⟨e.o.q (e.o.qty - n), e.n⟩ :: R) ⟨e.o.q (e.o.qty - n), e.n⟩ (e.sub n) (e.n - n) ⟨g, off + 9, none⟩ (.tmp 42) (.tmp 40) rfl rfl (by kernel_rfl) (by kernel_rfl) rfl (HS5.out.kept k6) rfl rfl (by omega) rfl ?_
 intro w7 hS7 hk7 hs7
 simp only [Act.put]
 refine wpList_nil ?_
 have s6 := k6.size
 have K7 : Keep (· = g) w3 w7 := (K5.kept k6).trans hk7 (fun _ _ h => h)
 have HS7 : Hid (Sl w7 112 10 (.slice (some ⟨g, off, none⟩) (R.length + 1) c) (R.length + 1) (ents (e.sub n :: R))) := hS7
 have HR7 : Hid (w7.rangeAt g off (e.sub n).cells) := HS7.out.rng 0 _ rfl
 have HL7 : Hid (Lvl pr 110 112 w7 F p (e.sub n :: R)) := ⟨H1.out, fun b hb => by have := H2.out b hb; omega, _, HB3.out.keep K7 (fun e => hgp e.symm), HS7.out, H5.out⟩
 have HH7 := Lib.hid (HH3.out.keep K7 (by omega))
 have HRB7 := Lib.hid (HRB3.out.keep K7 (by omega))
 have KF7 : Keep F w w7 := (Keep.mono (T := F) kw3 (fun _ _ h => h.elim)).trans K7 (fun b _ hb => by subst hb; exact hgF.out)
 clear hS7 hk7 k6 K5 HS5 HR5 HHR5 HHR HS3 HB3 HH3 HRB3 K7 HS7 kw3 HN
 go_upto_region 5 with fail
 refine wp_text 6 [.eq (.pointer (some ⟨g, off, none⟩)), .eq (.pointer (some ⟨g, off, none⟩)), .eq (.pointer (some ⟨g, off, none⟩)), .eq (.pointer (some ⟨g, off + 6, none⟩)), .eq (.int .i64 (e.sub n).o.qty), .eq (.bool false)] rfl (by kernel_rfl) ?_ ?_
 ·refine sv 1 rfl rfl rfl (fun a u hE hD hk => exec_move (.tmp 5) _ rfl (hE 5 (.pointer (some ⟨g, off, none⟩)) (by kernel_rfl) (by kernel_rfl))) ?_
  refine sv 2 rfl rfl rfl (fun a u hE hD hk => exec_nilp (.tmp 43) ⟨g, off, none⟩ rfl (hD 0 43 (by kernel_rfl))) ?_
  refine sv 3 rfl rfl rfl (fun a u hE hD hk => exec_fldo 112 0 0 (.tmp 44) (g) (off) (off) rfl (hD 1 44 (by kernel_rfl)) (by kernel_rfl) rfl) ?_
  refine sv 4 rfl rfl rfl (fun a u hE hD hk => exec_fldo 25 6 6 (.tmp 45) (g) (off) (off + 6) rfl (hD 2 45 (by kernel_rfl)) (by kernel_rfl) rfl) ?_
  refine sv 5 rfl rfl rfl (fun a u hE hD hk => exec_loadi 3 Try.underlying3 (.tmp 46) ⟨g, off + 6, none⟩ (.int .i64 (e.sub n).o.qty) rfl (hD 3 46 (by kernel_rfl)) (range_int (range_kept HR7.out hk) 6 _ rfl)) ?_
  refine fsteps_cons 6 rfl (fun a u hE hD hk => f_as (show ((decide (((e.sub n).o.qty : Int) = (0 : Int))) : Bool) = false from decide_eq_false hc) (f_val (o := ⟨some 48, _, _, _, _, _⟩) (.bool (decide (((e.sub n).o.qty : Int) = (0 : Int)))) rfl (wanted_none rfl _) (exec_eqn (p := (e.sub n).o.qty) (q := 0) rfl (hD 4 47 (by kernel_rfl)) rfl) rfl)) ?_
  exact fsteps_nil
 intro gv w8 hV k8
 rw [show dstsOf _ 6 = [43, 44, 45, 46, 47, 48] by kernel_rfl]
 simp only [fC, fN, sA, sS, sZ, dS, dZ]
 rw [show gv 48 = .bool false from hV 5 48 (by kernel_rfl)]
 clear hV
 refine wpList_nil ?_
 have s8 := k8.size
 have HR8 := Lib.hid (range_kept HR7.out k8)
 have HL8 := Lib.hid (HL7.out.kept k8)
 have HH8 := Lib.hid (HH7.out.kept k8)
 have HRB8 := Lib.hid (HRB7.out.kept k8)
 have KF8 := KF7.kept k8
 clear HR7 HL7 HH7 HRB7 KF7 k8
 go_upto_region 7 with fail
 refine wp_text 5 [.eq (.pointer (some ⟨g, off, none⟩)), .eq (.pointer (some ⟨g, off, none⟩)), .eq (.pointer (some ⟨g, off + 9, none⟩)), .eq (.int .i64 (e.sub n).n), .eq (.bool false)] rfl (by kernel_rfl) ?_ ?_
 ·refine sv 1 rfl rfl rfl (fun a u hE hD hk => exec_move (.tmp 5) _ rfl (hE 5 (.pointer (some ⟨g, off, none⟩)) (by kernel_rfl) (by kernel_rfl))) ?_
  refine sv 2 rfl rfl rfl (fun a u hE hD hk => exec_nilp (.tmp 51) ⟨g, off, none⟩ rfl (hD 0 51 (by kernel_rfl))) ?_
  refine sv 3 rfl rfl rfl (fun a u hE hD hk => exec_fldo 112 1 9 (.tmp 52) (g) (off) (off + 9) rfl (hD 1 52 (by kernel_rfl)) (by kernel_rfl) rfl) ?_
  refine sv 4 rfl rfl rfl (fun a u hE hD hk => exec_loadi 3 Try.underlying3 (.tmp 53) ⟨g, off + 9, none⟩ (.int .i64 (e.sub n).n) rfl (hD 2 53 (by kernel_rfl)) (range_int (range_kept HR8.out hk) 9 _ rfl)) ?_
  refine fsteps_cons 5 rfl (fun a u hE hD hk => f_as (show ((decide (((e.sub n).n : Int) = (0 : Int))) : Bool) = false from decide_eq_false hd) (f_val (o := ⟨some 55, _, _, _, _, _⟩) (.bool (decide (((e.sub n).n : Int) = (0 : Int)))) rfl (wanted_none rfl _) (exec_eqn (p := (e.sub n).n) (q := 0) rfl (hD 3 54 (by kernel_rfl)) rfl) rfl)) ?_
  exact fsteps_nil
 intro gv w9 hV k9
 rw [show dstsOf _ 5 = [51, 52, 53, 54, 55] by kernel_rfl]
 simp only [fC, fN, sA, sS, sZ, dS, dZ]
 rw [show gv 55 = .bool false from hV 4 55 (by kernel_rfl)]
 clear hV
 refine wpList_nil ?_
 have s9 := k9.size
 have HL9 := Lib.hid (HL8.out.kept k9)
 have HH9 := Lib.hid (HH8.out.kept k9)
 have HRB9 := Lib.hid (HRB8.out.kept k9)
 have KF9 := KF8.kept k9
 clear HR8 HL8 HH8 HRB8 KF8 k9
 obtain ⟨w10, hw10⟩ : ∃ w10, w10 = w9 := ⟨_, rfl⟩
 subst hw10
 have hk10 : Keep F w10 w10 := Keep.refl _ _
 have hL10 := HL9.out
 have hG10 : Grow w10 F F := Grow.refl _ _
 have hrF : ¬ F r := fun hb => by have := H2.out r hb; omega
 have hhF : ¬ F h6 := fun hb => by have := H2.out h6 hb; omega
 have s10 := hk10.size
 have HH10 := Lib.hid (blk_range (HH9.out.keep hk10 hhF))
 have HRB10 := Lib.hid (HRB9.out.keep hk10 hrF)
 have KF10 : Keep F w w10 := KF9.trans hk10 (fun _ _ h => h)
 have HL10 := Lib.hid hL10
 have HG10 := Lib.hid hG10
 clear hL10 HH9 HRB9 KF9 HL9 hG10
 go_upto_region 9 with fail
 refine wp_text 1 [.eq ((Ent.mk e.o n).v)] rfl (by kernel_rfl) ?_ ?_
 ·refine sv 1 rfl rfl rfl (fun a u hE hD hk => exec_ldS 39 _ (.tmp 6) (h6) (0) ((Ent.mk e.o n).cells) rfl (hE 6 (.pointer (some ⟨h6, 0, none⟩)) (by kernel_rfl) (by kernel_rfl)) (range_kept HH10.out hk) Try.underlying39 (by rw [(Ent.mk e.o n).len10]; exact szH)) ?_
  exact fsteps_nil
 intro gv w11 hV k11
 rw [show dstsOf _ 1 = [58] by kernel_rfl]
 simp only [fC, fN, sA, sS, sZ, dS, dZ]
 rw [show gv 58 = (Ent.mk e.o n).v from hV 0 58 (by kernel_rfl)]
 clear hV
 refine l_setS (o := ⟨none, _, _, _, _, _⟩) 39 r 39 zeroE.cells (Ent.mk e.o n).cells (.tmp 4) (.tmp 58) rfl rfl (by kernel_rfl) (by kernel_rfl) (HRB10.out.kept k11) (by rw [Ent.len10]; exact szH) (by rw [Ent.len10, Ent.len10]) (Ent.one _) ?_
 intro w12 hB12 hk12 hs12
 simp only [Act.put]
 refine wpList_nil ?_
 go_wp2
 refine bodyPost_ret (results_cell (p := 4) rfl _ _ r _ (Ent.mk e.o n).cells rfl hB12 Try.underlying39 (by rw [Ent.len10]; exact szH)) rfl ?_
 refine HHI.out _ _ ⟨F, rfl, ?_, fun b hb => (HG10.out b hb).imp id (fun h => by omega), (KF10.kept k11).trans hk12 (fun b hb e => by subst e; omega)⟩
 have hrF : ¬ F r := fun hb => by
  rcases HG10.out r hb with h | h
  ·exact hrF h
  ·omega
 have hL := (HL10.out.kept k11).keep hk12 (fun b hb e => hrF (by rw [← e]; exact hb))
 rw [show nextM e n R = e.sub n :: R by unfold nextM; rw [if_neg hc, if_neg hd]]
 exact hL
theorem hit_any (w : World) (F : Nat → Prop) (p : Nat) (e : Ent) (q : Int) (R : List Ent) (h : Lvl pr 110 112 w F p (e :: R)) (hX : Good (e :: R)) (hq : 0 < q) : Calls Try.prog 89 #[.pointer (some ⟨p, 0, none⟩), .int .i64 q] w (HitIn pr w F p e q R) := by
 by_cases hc : e.o.qty - mn q e.n = 0
 ·exact hit_all w F p e q R h hX hq hc
 ·by_cases hd : e.n - mn q e.n = 0
  ·exact hit_anew w F p e q R h hX hq hc hd
  ·exact hit_part w F p e q R h hX hq hc hd
end Go.Proofs.Ytfpfpmhkkgfdbaa
namespace Go.Proofs.Ytfpfpmhkkgfdbaa
open Go.RowKit
set_option maxRecDepth 100000
set_option maxRecDepth 100000 in
set_option maxHeartbeats 800000 in
theorem sameH_any (va vb : Value) (na nb : Nat) (A B : List Ent) (w : World) (ha : Sl w 39 10 va A.length (ents A)) (hb : Sl w 39 10 vb B.length (ents B)) (hna : A.length ≤ 1000000000) (hnb : B.length ≤ 1000000000) : Gives 20 #[va, vb] w (.eq (.bool (decide (A = B)))) := by
 refine gives_eq ?_
 obtain ⟨n, hn⟩ : ∃ n, A.length = n := ⟨_, rfl⟩
 obtain ⟨m, hm⟩ : ∃ m, B.length = m := ⟨_, rfl⟩
 rw [hn] at ha hna
 rw [hm] at hb hnb
 have HA := Lib.hid ha
 have HB := Lib.hid hb
 have HN := Lib.hid hn
 have HM := Lib.hid hm
 obtain ⟨_, A1, c1, rfl, _⟩ := ha
 obtain ⟨_, A2, c2, rfl, _⟩ := hb
 clear hn hm
 by_cases hnm : n = m
 ·subst hnm
  go_enter Try.func20, Try.ntmps20
  go_wp2_with fail
  go_loopw [5] (fun v wr => ∃ i : Nat, i ≤ n ∧ v = .int .i64 i ∧ Kept w wr ∧ Hid (A.take i = B.take i)) (fun v _ => n - (intOf v).toNat)
  case atStart => exact ⟨0, Nat.zero_le _, rfl, Kept.refl _, rfl⟩
  case round =>
   obtain ⟨i, hi, rfl, hkr, HT⟩ := hrel
   by_cases hlt : i < n
   ·have hia : i < A.length := by rw [HN.out]; omega
    have hib : i < B.length := by rw [HM.out]; omega
    obtain ⟨ea, hea⟩ : ∃ e, A[i]? = some e := ⟨_, List.getElem?_eq_getElem hia⟩
    obtain ⟨eb, heb⟩ : ∃ e, B[i]? = some e := ⟨_, List.getElem?_eq_getElem hib⟩
    obtain ⟨g1, o1, _, e1⟩ := HA.out.some_ (by omega)
    injection e1 with e1 _ e1'
    subst e1 e1'
    obtain ⟨g2, o2, _, e2⟩ := HB.out.some_ (by omega)
    injection e2 with e2 _ e2'
    subst e2 e2'
    have HE1 : Hid (wr.rangeAt g1 (o1 + i * 10) ea.cells) := range_kept (HA.out.rng i ea hea) hkr
    have HE2 : Hid (wr.rangeAt g2 (o2 + i * 10) eb.cells) := range_kept (HB.out.rng i eb heb) hkr
    have HEQ : Hid (A[i]? = B[i]? ↔ ea = eb) := by
     show _ ↔ _
     rw [hea, heb]
     simp
    clear hia hib hea heb
    by_cases hx : ea = eb
    ·skip
     go_upto_region 6 with fail
     refine wp_free 8 [.eq (.slice (some ⟨g1, o1, none⟩) n c1), .eq (.int .i64 (i : Int)), .eq (.pointer (some ⟨g1, o1 + i * 10, none⟩)), .eq (ea.v), .eq (.slice (some ⟨g2, o2, none⟩) n c2), .eq (.int .i64 (i : Int)), .eq (.pointer (some ⟨g2, o2 + i * 10, none⟩)), .eq (eb.v)] (by kernel_rfl) rfl (by kernel_rfl) ?_ ?_
     ·refine sv 1 rfl rfl rfl (fun a u hE hD hk => exec_move (.tmp 0) _ rfl (hE 0 (.slice (some ⟨g1, o1, none⟩) n c1) (by kernel_rfl) (by kernel_rfl))) ?_
      refine sv 2 rfl rfl rfl (fun a u hE hD hk => exec_move (.tmp 5) _ rfl (hE 5 (.int .i64 (i : Int)) (by kernel_rfl) (by kernel_rfl))) ?_
      refine sv 3 rfl rfl rfl (fun a u hE hD hk => exec_ixo slH (.tmp 17) (.tmp 18) (g1) (o1) n c1 i (o1 + i * 10) ((i : Int)) rfl (hD 0 17 (by kernel_rfl)) (hD 1 18 (by kernel_rfl)) (by first | rfl | omega) (hlt) (by first | rfl | omega)) ?_
      refine sv 4 rfl rfl rfl (fun a u hE hD hk => exec_ldS 39 _ (.tmp 19) (g1) (o1 + i * 10) (ea.cells) rfl (hD 2 19 (by kernel_rfl)) (range_kept HE1.out hk) Try.underlying39 (by rw [ea.len10]; exact szH)) ?_
      refine sv 5 rfl rfl rfl (fun a u hE hD hk => exec_move (.tmp 1) _ rfl (hE 1 (.slice (some ⟨g2, o2, none⟩) n c2) (by kernel_rfl) (by kernel_rfl))) ?_
      refine sv 6 rfl rfl rfl (fun a u hE hD hk => exec_move (.tmp 5) _ rfl (hE 5 (.int .i64 (i : Int)) (by kernel_rfl) (by kernel_rfl))) ?_
      refine sv 7 rfl rfl rfl (fun a u hE hD hk => exec_ixo slH (.tmp 21) (.tmp 22) (g2) (o2) n c2 i (o2 + i * 10) ((i : Int)) rfl (hD 4 21 (by kernel_rfl)) (hD 5 22 (by kernel_rfl)) (by first | rfl | omega) (hlt) (by first | rfl | omega)) ?_
      refine sv 8 rfl rfl rfl (fun a u hE hD hk => exec_ldS 39 _ (.tmp 23) (g2) (o2 + i * 10) (eb.cells) rfl (hD 6 23 (by kernel_rfl)) (range_kept HE2.out hk) Try.underlying39 (by rw [eb.len10]; exact szH)) ?_
      exact fsteps_nil
     intro gv w1 hV k1
     rw [show dstsOf _ 8 = [17, 18, 19, 20, 21, 22, 23, 24] by kernel_rfl]
     simp only [fC, fN, sA, sS, sZ, dS, dZ]
     rw [show gv 20 = ea.v from hV 3 20 (by kernel_rfl)]
     rw [show gv 24 = eb.v from hV 7 24 (by kernel_rfl)]
     clear hV
     refine l_val (o := ⟨some 25, _, _, _, _, _⟩) (.bool false) rfl (exec_neHb false (.tmp 20) (.tmp 24) _ ea eb rfl (by kernel_rfl) (by kernel_rfl) (by rw [hx]; simp)) ?_
     simp only [Act.put, sA, sS, sZ]
     refine wpList_nil ?_
     have HT2 := Lib.hid (take_next HT.out (HEQ.out.2 hx))
     have hk3 := hkr.trans k1
     clear hkr hx k1
     go_wp2
     exact ⟨⟨i + 1, by omega, by go_num, hk3, HT2⟩, by simp [intOf]; omega⟩
    ·skip
     go_upto_region 6 with fail
     refine wp_free 8 [.eq (.slice (some ⟨g1, o1, none⟩) n c1), .eq (.int .i64 (i : Int)), .eq (.pointer (some ⟨g1, o1 + i * 10, none⟩)), .eq (ea.v), .eq (.slice (some ⟨g2, o2, none⟩) n c2), .eq (.int .i64 (i : Int)), .eq (.pointer (some ⟨g2, o2 + i * 10, none⟩)), .eq (eb.v)] (by kernel_rfl) rfl (by kernel_rfl) ?_ ?_
     ·refine sv 1 rfl rfl rfl (fun a u hE hD hk => exec_move (.tmp 0) _ rfl (hE 0 (.slice (some ⟨g1, o1, none⟩) n c1) (by kernel_rfl) (by kernel_rfl))) ?_
      refine sv 2 rfl rfl rfl (fun a u hE hD hk => exec_move (.tmp 5) _ rfl (hE 5 (.int .i64 (i : Int)) (by kernel_rfl) (by kernel_rfl))) ?_
      refine sv 3 rfl rfl rfl (fun a u hE hD hk => exec_ixo slH (.tmp 17) (.tmp 18) (g1) (o1) n c1 i (o1 + i * 10) ((i : Int)) rfl (hD 0 17 (by kernel_rfl)) (hD 1 18 (by kernel_rfl)) (by first | rfl | omega) (hlt) (by first | rfl | omega)) ?_
      refine sv 4 rfl rfl rfl (fun a u hE hD hk => exec_ldS 39 _ (.tmp 19) (g1) (o1 + i * 10) (ea.cells) rfl (hD 2 19 (by kernel_rfl)) (range_kept HE1.out hk) Try.underlying39 (by rw [ea.len10]; exact szH)) ?_
      refine sv 5 rfl rfl rfl (fun a u hE hD hk => exec_move (.tmp 1) _ rfl (hE 1 (.slice (some ⟨g2, o2, none⟩) n c2) (by kernel_rfl) (by kernel_rfl))) ?_
      refine sv 6 rfl rfl rfl (fun a u hE hD hk => exec_move (.tmp 5) _ rfl (hE 5 (.int .i64 (i : Int)) (by kernel_rfl) (by kernel_rfl))) ?_
      refine sv 7 rfl rfl rfl (fun a u hE hD hk => exec_ixo slH (.tmp 21) (.tmp 22) (g2) (o2) n c2 i (o2 + i * 10) ((i : Int)) rfl (hD 4 21 (by kernel_rfl)) (hD 5 22 (by kernel_rfl)) (by first | rfl | omega) (hlt) (by first | rfl | omega)) ?_
      refine sv 8 rfl rfl rfl (fun a u hE hD hk => exec_ldS 39 _ (.tmp 23) (g2) (o2 + i * 10) (eb.cells) rfl (hD 6 23 (by kernel_rfl)) (range_kept HE2.out hk) Try.underlying39 (by rw [eb.len10]; exact szH)) ?_
      exact fsteps_nil
     intro gv w1 hV k1
     rw [show dstsOf _ 8 = [17, 18, 19, 20, 21, 22, 23, 24] by kernel_rfl]
     simp only [fC, fN, sA, sS, sZ, dS, dZ]
     rw [show gv 20 = ea.v from hV 3 20 (by kernel_rfl)]
     rw [show gv 24 = eb.v from hV 7 24 (by kernel_rfl)]
     clear hV
     refine l_val (o := ⟨some 25, _, _, _, _, _⟩) (.bool true) rfl (exec_neHb true (.tmp 20) (.tmp 24) _ ea eb rfl (by kernel_rfl) (by kernel_rfl) (by simp [hx])) ?_
     simp only [Act.put, sA, sS, sZ]
     refine wpList_nil ?_
     have HF : Hid (A ≠ B) := fun h => hx (HEQ.out.1 (by rw [h]))
     have hk3 := hkr.trans k1
     clear hkr hx k1
     go_wp2
     go_ret
     exact ⟨ret_bool (decide_eq_false HF.out).symm, hk3⟩
   ·go_wp2
    go_ret
    exact ⟨ret_bool (decide_eq_true (take_whole HT.out (by have := HN.out; omega) (by have := HM.out; omega))).symm, hkr⟩
 ·have hne : ((n : Int) != (m : Int)) = true := by rw [bne_iff_ne]; omega
  have HF : Hid (A ≠ B) := fun h => hnm (by have h1 := HN.out; have h2 := HM.out; rw [h] at h1; omega)
  clear hnm
  go_enter Try.func20, Try.ntmps20
  go_wp2
  go_ret
  exact ⟨ret_bool (decide_eq_false HF.out).symm, Kept.refl _⟩
end Go.Proofs.Ytfpfpmhkkgfdbaa
namespace Go.Proofs.Ytfpfpmhkkgfdbaa
open Go.RowKit
set_option maxRecDepth 100000
variable {pr : Int}
theorem seenM_le {X : List Ent} (h : ∀ e ∈ X, e.ok) (i : Nat) (e : Ent) (he : X[i]? = some e) : 0 ≤ seenM (X.take i) ∧ seenM (X.take i) + e.n = seenM (X.take (i + 1)) ∧ seenM (X.take (i + 1)) ≤ wholeM X ∧ 1 ≤ e.n := by
 have h1 := whole_ge (X := X.take i) (fun x hx => h x (List.mem_of_mem_take hx))
 have h2 := whole_ge (X := X.drop (i + 1)) (fun x hx => h x (List.mem_of_mem_drop hx))
 have h3 := whole_ge (X := X.take (i + 1)) (fun x hx => h x (List.mem_of_mem_take hx))
 have h4 := h e (List.mem_of_getElem? he)
 unfold Ent.ok at h4
 have h5 : wholeM X = wholeM (X.take (i + 1)) + wholeM (X.drop (i + 1)) := by rw [← wholeM_append, List.take_append_drop]
 have h6 : seenM (X.take (i + 1)) = seenM (X.take i) + e.n := by
  rw [List.take_add_one, he, seenM_append]
  simp [seenM, sumI]
 omega
theorem wholeM_le {X : List Ent} (h : ∀ e ∈ X, e.ok) (i : Nat) (e : Ent) (he : X[i]? = some e) : 0 ≤ wholeM (X.take i) ∧ wholeM (X.take i) + e.o.qty = wholeM (X.take (i + 1)) ∧ wholeM (X.take (i + 1)) ≤ wholeM X ∧ 1 ≤ e.o.qty := by
 have h1 := whole_ge (X := X.take i) (fun x hx => h x (List.mem_of_mem_take hx))
 have h2 := whole_ge (X := X.drop (i + 1)) (fun x hx => h x (List.mem_of_mem_drop hx))
 have h3 := whole_ge (X := X.take (i + 1)) (fun x hx => h x (List.mem_of_mem_take hx))
 have h4 := h e (List.mem_of_getElem? he)
 unfold Ent.ok at h4
 have h5 : wholeM X = wholeM (X.take (i + 1)) + wholeM (X.drop (i + 1)) := by rw [← wholeM_append, List.take_append_drop]
 have h6 : wholeM (X.take (i + 1)) = wholeM (X.take i) + e.o.qty := by
  rw [List.take_add_one, he, wholeM_append]
  simp [wholeM, sumI]
 omega
set_option maxRecDepth 100000 in
set_option maxHeartbeats 800000 in
theorem seen_any (w : World) (F : Nat → Prop) (p : Nat) (X : List Ent) (h : Lvl pr 110 112 w F p X) (hX : Good X) : Gives 72 #[.pointer (some ⟨p, 0, none⟩)] w (.eq (.int .i64 (seenM X))) := by
 refine gives_eq ?_
 obtain ⟨h1, h2, v, hB, hS, h5⟩ := h
 have hlen := hX.len
 have HB := Lib.hid hB
 have HS := Lib.hid hS
 have HX := Lib.hid hX
 clear hB hS h5 h1 h2 hX
 obtain ⟨n, hn⟩ : ∃ n, X.length = n := ⟨_, rfl⟩
 rw [hn] at HS hlen
 have HN := Lib.hid hn
 go_enter Try.func72, Try.ntmps72
 go_upto_region 2 with fail
 refine wp_text 6 [.eq (.pointer (some ⟨p, 0, none⟩)), .eq (.pointer (some ⟨p, 0, none⟩)), .eq (.pointer (some ⟨p, 1, none⟩)), .eq (v), .eq (.int .i64 (n : Int)), .eq (.int .i64 0)] rfl (by kernel_rfl) ?_ ?_
 ·refine sv 1 rfl rfl rfl (fun a u hE hD hk => exec_move (.tmp 0) _ rfl (hE 0 (.pointer (some ⟨p, 0, none⟩)) (by kernel_rfl) (by kernel_rfl))) ?_
  refine sv 2 rfl rfl rfl (fun a u hE hD hk => exec_nilp (.tmp 6) ⟨p, 0, none⟩ rfl (hD 0 6 (by kernel_rfl))) ?_
  refine sv 3 rfl rfl rfl (fun a u hE hD hk => exec_fldo 110 1 1 (.tmp 7) (p) (0) (1) rfl (hD 1 7 (by kernel_rfl)) (by kernel_rfl) rfl) ?_
  refine sv 4 rfl rfl rfl (fun a u hE hD hk => exec_ldv 108 _ Try.underlying108 (.tmp 8) ⟨p, 1, none⟩ (v) rfl (hD 2 8 (by kernel_rfl)) (by rw [(HB.out.kept hk).cell]; rfl)) ?_
  refine sv 5 rfl rfl rfl (fun a u hE hD hk => exec_lenS (.tmp 9) slE (v) (n) _ _ rfl (hD 3 9 (by kernel_rfl)) HS.out) ?_
  refine sv 6 rfl rfl rfl (fun a u hE hD hk => exec_move (.const (.int .i64 0)) _ rfl rfl) ?_
  exact fsteps_nil
 intro gv w0 hV k0
 rw [show dstsOf _ 6 = [6, 7, 8, 9, 10, 11] by kernel_rfl]
 simp only [fC, fN, sA, sS, sZ, dS, dZ]
 rw [show gv 9 = v from hV 3 9 (by kernel_rfl)]
 rw [show gv 10 = .int .i64 (n : Int) from hV 4 10 (by kernel_rfl)]
 rw [show gv 11 = .int .i64 0 from hV 5 11 (by kernel_rfl)]
 clear hV
 refine wpList_nil ?_
 go_wp2_with fail
 go_loopw [3, 11] (fun t q wr => ∃ (i : Nat) (s : Int), i ≤ n ∧ q = .int .i64 i ∧ t = .int .i64 s ∧ Hid (s = seenM (X.take i)) ∧ Kept w wr) (fun _ q _ => n - (intOf q).toNat)
 case atStart => exact ⟨0, 0, Nat.zero_le _, rfl, rfl, by show _ = _; rw [List.take_zero]; rfl, k0⟩
 case round =>
  obtain ⟨i, s, hi, rfl, rfl, HSM, hkr⟩ := hrel
  by_cases hlt : i < n
  ·skip
   obtain ⟨g, off, c, rfl⟩ := HS.out.some_ (by omega)
   obtain ⟨e, he⟩ : ∃ e, X[i]? = some e := ⟨X[i]'(by omega), List.getElem?_eq_getElem (by omega)⟩
   have HE : Hid (wr.rangeAt g (off + i * 10) e.cells) := range_kept (HS.out.rng i e he) hkr
   have HEI := Lib.hid he
   clear he
   go_upto_region 4 with fail
   refine wp_text 3 [.eq (.pointer (some ⟨g, off + i * 10, none⟩)), .eq (e.v), .fresh wr.heap.size 112 zeroE.cells] rfl (by kernel_rfl) ?_ ?_
   ·refine sv 1 rfl rfl rfl (fun a u hE hD hk => exec_ixo slE (.tmp 9) (.tmp 11) (g) (off) n c i (off + i * 10) ((i : Int)) rfl (hE 9 (.slice (some ⟨g, off, none⟩) n c) (by kernel_rfl) (by kernel_rfl)) (hE 11 (.int .i64 (i : Int)) (by kernel_rfl) (by kernel_rfl)) (by first | rfl | omega) (hlt) (by first | rfl | omega)) ?_
    refine sv 2 rfl rfl rfl (fun a u hE hD hk => exec_ldS 112 _ (.tmp 13) (g) (off + i * 10) (e.cells) rfl (hD 0 13 (by kernel_rfl)) (range_kept HE.out hk) Try.underlying112 (by rw [e.len10]; exact szE)) ?_
    refine fsteps_cons 3 rfl (fun a u hE hD hk => f_new (o := ⟨some 5, _, _, _, _, _⟩) (.pointer (some ⟨u.heap.size, 0, none⟩)) _ rfl (wanted_none rfl _) (exec_alc 112 zeroE.cells rfl zE) ⟨_, rfl, hk.size, Blk.new u _ _⟩ ((Keep.refl _ u).alloc _)) ?_
    exact fsteps_nil
   intro gv w1 hV k1
   rw [show dstsOf _ 3 = [13, 14, 5] by kernel_rfl]
   simp only [fC, fN, sA, sS, sZ, dS, dZ]
   have hv5 : (.fresh wr.heap.size 112 zeroE.cells : Kn).p (gv 5) w1 := hV 2 5 (by kernel_rfl)
   generalize gv 5 = v5 at hv5 ⊢
   rw [show gv 14 = e.v from hV 1 14 (by kernel_rfl)]
   clear hV
   obtain ⟨b5, rfl, hb5, hB5⟩ := hv5
   refine l_setS (o := ⟨none, _, _, _, _, _⟩) 112 b5 112 zeroE.cells e.cells (.tmp 5) (.tmp 14) rfl rfl (by kernel_rfl) (by kernel_rfl) hB5 (by rw [Ent.len10]; exact szE) (by rw [Ent.len10, Ent.len10]) (Ent.one _) ?_
   intro w2 hB6 hk2 hs2
   simp only [Act.put]
   refine wpList_nil ?_
   have kw2 : Kept wr w2 := k1.trans' hk2 (by omega)
   have HB6 := Lib.hid (blk_range hB6)
   clear hB5 hB6 hk2 HE k1
   obtain ⟨q1, q2, q3, q4⟩ := seenM_le HX.out.ok i e HEI.out
   have q5 := HX.out.few
   rw [← HSM.out] at q1 q2
   have hr1 : 0 ≤ s := q1
   have hr2 : s + e.n ≤ 100000000 := by omega
   have hr3 : 1 ≤ e.n := q4
   have Q2 := Lib.hid q2
   clear q1 q2 q3 q4 q5 HSM
   go_upto_region 5 with fail
   refine wp_text 4 [.eq (.int .i64 s), .eq (.pointer (some ⟨b5, 9, none⟩)), .eq (.int .i64 e.n), .eq (.int .i64 ((s : Int) + (e.n : Int)))] rfl (by kernel_rfl) ?_ ?_
   ·refine sv 1 rfl rfl rfl (fun a u hE hD hk => exec_move (.tmp 3) _ rfl (hE 3 (.int .i64 s) (by kernel_rfl) (by kernel_rfl))) ?_
    refine sv 2 rfl rfl rfl (fun a u hE hD hk => exec_fldo 112 1 9 (.tmp 5) (b5) (0) (9) rfl (hE 5 (.pointer (some ⟨b5, 0, none⟩)) (by kernel_rfl) (by kernel_rfl)) (by kernel_rfl) rfl) ?_
    refine sv 3 rfl rfl rfl (fun a u hE hD hk => exec_loadi 3 Try.underlying3 (.tmp 16) ⟨b5, 9, none⟩ (.int .i64 e.n) rfl (hD 1 16 (by kernel_rfl)) (range_int (range_kept HB6.out hk) 9 _ rfl)) ?_
    refine sv 4 rfl rfl rfl (fun a u hE hD hk => exec_addn (p := (s)) (q := (e.n)) ((s : Int) + (e.n : Int)) rfl (hD 0 15 (by kernel_rfl)) (hD 2 17 (by kernel_rfl)) rfl (by omega) (by omega)) ?_
    exact fsteps_nil
   intro gv w3 hV k3
   rw [show dstsOf _ 4 = [15, 16, 17, 18] by kernel_rfl]
   simp only [fC, fN, sA, sS, sZ, dS, dZ]
   rw [show gv 18 = .int .i64 ((s : Int) + (e.n : Int)) from hV 3 18 (by kernel_rfl)]
   clear hV
   refine l_val (o := ⟨some 3, _, _, _, _, _⟩) (.int .i64 ((s : Int) + (e.n : Int))) rfl (exec_assign (.tmp 18) (.int .i64 ((s : Int) + (e.n : Int))) rfl (by kernel_rfl)) ?_
   simp only [Act.put, sA, sS, sZ]
   refine wpList_nil ?_
   have kw3 := (hkr.trans kw2).trans k3
   clear hr1 hr2 hr3
   go_wp2
   exact ⟨⟨i + 1, s + e.n, by omega, by go_num, rfl, Q2.out, kw3⟩, by simp [intOf]; omega⟩
  ·have HF : Hid (s = seenM X) := by
    show _ = _
    rw [HSM.out, List.take_of_length_le (by rw [HN.out]; omega)]
   clear HSM
   go_wp2
   go_ret
   exact ⟨by rw [← HF.out]; rfl, hkr⟩
set_option maxRecDepth 100000 in
set_option maxHeartbeats 800000 in
theorem whole_any (w : World) (F : Nat → Prop) (p : Nat) (X : List Ent) (h : Lvl pr 110 112 w F p X) (hX : Good X) : Gives 102 #[.pointer (some ⟨p, 0, none⟩)] w (.eq (.int .i64 (wholeM X))) := by
 refine gives_eq ?_
 obtain ⟨h1, h2, v, hB, hS, h5⟩ := h
 have hlen := hX.len
 have HB := Lib.hid hB
 have HS := Lib.hid hS
 have HX := Lib.hid hX
 clear hB hS h5 h1 h2 hX
 obtain ⟨n, hn⟩ : ∃ n, X.length = n := ⟨_, rfl⟩
 rw [hn] at HS hlen
 have HN := Lib.hid hn
 go_enter Try.func102, Try.ntmps102
 go_upto_region 2 with fail
 refine wp_text 6 [.eq (.pointer (some ⟨p, 0, none⟩)), .eq (.pointer (some ⟨p, 0, none⟩)), .eq (.pointer (some ⟨p, 1, none⟩)), .eq (v), .eq (.int .i64 (n : Int)), .eq (.int .i64 0)] rfl (by kernel_rfl) ?_ ?_
 ·refine sv 1 rfl rfl rfl (fun a u hE hD hk => exec_move (.tmp 0) _ rfl (hE 0 (.pointer (some ⟨p, 0, none⟩)) (by kernel_rfl) (by kernel_rfl))) ?_
  refine sv 2 rfl rfl rfl (fun a u hE hD hk => exec_nilp (.tmp 6) ⟨p, 0, none⟩ rfl (hD 0 6 (by kernel_rfl))) ?_
  refine sv 3 rfl rfl rfl (fun a u hE hD hk => exec_fldo 110 1 1 (.tmp 7) (p) (0) (1) rfl (hD 1 7 (by kernel_rfl)) (by kernel_rfl) rfl) ?_
  refine sv 4 rfl rfl rfl (fun a u hE hD hk => exec_ldv 108 _ Try.underlying108 (.tmp 8) ⟨p, 1, none⟩ (v) rfl (hD 2 8 (by kernel_rfl)) (by rw [(HB.out.kept hk).cell]; rfl)) ?_
  refine sv 5 rfl rfl rfl (fun a u hE hD hk => exec_lenS (.tmp 9) slE (v) (n) _ _ rfl (hD 3 9 (by kernel_rfl)) HS.out) ?_
  refine sv 6 rfl rfl rfl (fun a u hE hD hk => exec_move (.const (.int .i64 0)) _ rfl rfl) ?_
  exact fsteps_nil
 intro gv w0 hV k0
 rw [show dstsOf _ 6 = [6, 7, 8, 9, 10, 11] by kernel_rfl]
 simp only [fC, fN, sA, sS, sZ, dS, dZ]
 rw [show gv 9 = v from hV 3 9 (by kernel_rfl)]
 rw [show gv 10 = .int .i64 (n : Int) from hV 4 10 (by kernel_rfl)]
 rw [show gv 11 = .int .i64 0 from hV 5 11 (by kernel_rfl)]
 clear hV
 refine wpList_nil ?_
 go_wp2_with fail
 go_loopw [3, 11] (fun t q wr => ∃ (i : Nat) (s : Int), i ≤ n ∧ q = .int .i64 i ∧ t = .int .i64 s ∧ Hid (s = wholeM (X.take i)) ∧ Kept w wr) (fun _ q _ => n - (intOf q).toNat)
 case atStart => exact ⟨0, 0, Nat.zero_le _, rfl, rfl, by show _ = _; rw [List.take_zero]; rfl, k0⟩
 case round =>
  obtain ⟨i, s, hi, rfl, rfl, HSM, hkr⟩ := hrel
  by_cases hlt : i < n
  ·skip
   obtain ⟨g, off, c, rfl⟩ := HS.out.some_ (by omega)
   obtain ⟨e, he⟩ : ∃ e, X[i]? = some e := ⟨X[i]'(by omega), List.getElem?_eq_getElem (by omega)⟩
   have HE : Hid (wr.rangeAt g (off + i * 10) e.cells) := range_kept (HS.out.rng i e he) hkr
   have HEI := Lib.hid he
   clear he
   go_upto_region 4 with fail
   refine wp_text 3 [.eq (.pointer (some ⟨g, off + i * 10, none⟩)), .eq (e.v), .fresh wr.heap.size 112 zeroE.cells] rfl (by kernel_rfl) ?_ ?_
   ·refine sv 1 rfl rfl rfl (fun a u hE hD hk => exec_ixo slE (.tmp 9) (.tmp 11) (g) (off) n c i (off + i * 10) ((i : Int)) rfl (hE 9 (.slice (some ⟨g, off, none⟩) n c) (by kernel_rfl) (by kernel_rfl)) (hE 11 (.int .i64 (i : Int)) (by kernel_rfl) (by kernel_rfl)) (by first | rfl | omega) (hlt) (by first | rfl | omega)) ?_
    refine sv 2 rfl rfl rfl (fun a u hE hD hk => exec_ldS 112 _ (.tmp 13) (g) (off + i * 10) (e.cells) rfl (hD 0 13 (by kernel_rfl)) (range_kept HE.out hk) Try.underlying112 (by rw [e.len10]; exact szE)) ?_
    refine fsteps_cons 3 rfl (fun a u hE hD hk => f_new (o := ⟨some 5, _, _, _, _, _⟩) (.pointer (some ⟨u.heap.size, 0, none⟩)) _ rfl (wanted_none rfl _) (exec_alc 112 zeroE.cells rfl zE) ⟨_, rfl, hk.size, Blk.new u _ _⟩ ((Keep.refl _ u).alloc _)) ?_
    exact fsteps_nil
   intro gv w1 hV k1
   rw [show dstsOf _ 3 = [13, 14, 5] by kernel_rfl]
   simp only [fC, fN, sA, sS, sZ, dS, dZ]
   have hv5 : (.fresh wr.heap.size 112 zeroE.cells : Kn).p (gv 5) w1 := hV 2 5 (by kernel_rfl)
   generalize gv 5 = v5 at hv5 ⊢
   rw [show gv 14 = e.v from hV 1 14 (by kernel_rfl)]
   clear hV
   obtain ⟨b5, rfl, hb5, hB5⟩ := hv5
   refine l_setS (o := ⟨none, _, _, _, _, _⟩) 112 b5 112 zeroE.cells e.cells (.tmp 5) (.tmp 14) rfl rfl (by kernel_rfl) (by kernel_rfl) hB5 (by rw [Ent.len10]; exact szE) (by rw [Ent.len10, Ent.len10]) (Ent.one _) ?_
   intro w2 hB6 hk2 hs2
   simp only [Act.put]
   refine wpList_nil ?_
   have kw2 : Kept wr w2 := k1.trans' hk2 (by omega)
   have HB6 := Lib.hid (blk_range hB6)
   clear hB5 hB6 hk2 HE k1
   obtain ⟨q1, q2, q3, q4⟩ := wholeM_le HX.out.ok i e HEI.out
   have q5 := HX.out.few
   rw [← HSM.out] at q1 q2
   have hr1 : 0 ≤ s := q1
   have hr2 : s + e.o.qty ≤ 100000000 := by omega
   have hr3 : 1 ≤ e.o.qty := q4
   have Q2 := Lib.hid q2
   clear q1 q2 q3 q4 q5 HSM
   go_upto_region 5 with fail
   refine wp_text 5 [.eq (.int .i64 s), .eq (.pointer (some ⟨b5, 0, none⟩)), .eq (.pointer (some ⟨b5, 6, none⟩)), .eq (.int .i64 e.o.qty), .eq (.int .i64 ((s : Int) + (e.o.qty : Int)))] rfl (by kernel_rfl) ?_ ?_
   ·refine sv 1 rfl rfl rfl (fun a u hE hD hk => exec_move (.tmp 3) _ rfl (hE 3 (.int .i64 s) (by kernel_rfl) (by kernel_rfl))) ?_
    refine sv 2 rfl rfl rfl (fun a u hE hD hk => exec_fldo 112 0 0 (.tmp 5) (b5) (0) (0) rfl (hE 5 (.pointer (some ⟨b5, 0, none⟩)) (by kernel_rfl) (by kernel_rfl)) (by kernel_rfl) rfl) ?_
    refine sv 3 rfl rfl rfl (fun a u hE hD hk => exec_fldo 25 6 6 (.tmp 16) (b5) (0) (6) rfl (hD 1 16 (by kernel_rfl)) (by kernel_rfl) rfl) ?_
    refine sv 4 rfl rfl rfl (fun a u hE hD hk => exec_loadi 3 Try.underlying3 (.tmp 17) ⟨b5, 6, none⟩ (.int .i64 e.o.qty) rfl (hD 2 17 (by kernel_rfl)) (range_int (range_kept HB6.out hk) 6 _ rfl)) ?_
    refine sv 5 rfl rfl rfl (fun a u hE hD hk => exec_addn (p := (s)) (q := (e.o.qty)) ((s : Int) + (e.o.qty : Int)) rfl (hD 0 15 (by kernel_rfl)) (hD 3 18 (by kernel_rfl)) rfl (by omega) (by omega)) ?_
    exact fsteps_nil
   intro gv w3 hV k3
   rw [show dstsOf _ 5 = [15, 16, 17, 18, 19] by kernel_rfl]
   simp only [fC, fN, sA, sS, sZ, dS, dZ]
   rw [show gv 19 = .int .i64 ((s : Int) + (e.o.qty : Int)) from hV 4 19 (by kernel_rfl)]
   clear hV
   refine l_val (o := ⟨some 3, _, _, _, _, _⟩) (.int .i64 ((s : Int) + (e.o.qty : Int))) rfl (exec_assign (.tmp 19) (.int .i64 ((s : Int) + (e.o.qty : Int))) rfl (by kernel_rfl)) ?_
   simp only [Act.put, sA, sS, sZ]
   refine wpList_nil ?_
   have kw3 := (hkr.trans kw2).trans k3
   clear hr1 hr2 hr3
   go_wp2
   exact ⟨⟨i + 1, s + e.o.qty, by omega, by go_num, rfl, Q2.out, kw3⟩, by simp [intOf]; omega⟩
  ·have HF : Hid (s = wholeM X) := by
    show _ = _
    rw [HSM.out, List.take_of_length_le (by rw [HN.out]; omega)]
   clear HSM
   go_wp2
   go_ret
   exact ⟨by rw [← HF.out]; rfl, hkr⟩
set_option maxRecDepth 100000 in
set_option maxHeartbeats 800000 in
theorem orders_any (w : World) (F : Nat → Prop) (p : Nat) (X : List Ent) (h : Lvl pr 110 112 w F p X) (hX : Good X) : Gives 80 #[.pointer (some ⟨p, 0, none⟩)] w (.sl w.heap.size 25 9 X.length (ords (X.map (·.o)))) := by
 obtain ⟨h1, h2, v, hB, hS, h5⟩ := h
 have hlen := hX.len
 have HB := Lib.hid hB
 have HS := Lib.hid hS
 have HX := Lib.hid hX
 clear hB hS h5 h1 h2 hX
 obtain ⟨n, hn⟩ : ∃ n, X.length = n := ⟨_, rfl⟩
 rw [hn] at HS hlen
 have HN := Lib.hid hn
 go_enter Try.func80, Try.ntmps80
 go_upto_region 2 with fail
 refine wp_text 6 [.eq (.pointer (some ⟨p, 0, none⟩)), .eq (.pointer (some ⟨p, 0, none⟩)), .eq (.pointer (some ⟨p, 1, none⟩)), .eq (v), .eq (.int .i64 (n : Int)), .eq (.int .i64 0)] rfl (by kernel_rfl) ?_ ?_
 ·refine sv 1 rfl rfl rfl (fun a u hE hD hk => exec_move (.tmp 0) _ rfl (hE 0 (.pointer (some ⟨p, 0, none⟩)) (by kernel_rfl) (by kernel_rfl))) ?_
  refine sv 2 rfl rfl rfl (fun a u hE hD hk => exec_nilp (.tmp 6) ⟨p, 0, none⟩ rfl (hD 0 6 (by kernel_rfl))) ?_
  refine sv 3 rfl rfl rfl (fun a u hE hD hk => exec_fldo 110 1 1 (.tmp 7) (p) (0) (1) rfl (hD 1 7 (by kernel_rfl)) (by kernel_rfl) rfl) ?_
  refine sv 4 rfl rfl rfl (fun a u hE hD hk => exec_ldv 108 _ Try.underlying108 (.tmp 8) ⟨p, 1, none⟩ (v) rfl (hD 2 8 (by kernel_rfl)) (by rw [(HB.out.kept hk).cell]; rfl)) ?_
  refine sv 5 rfl rfl rfl (fun a u hE hD hk => exec_lenS (.tmp 9) slE (v) (n) _ _ rfl (hD 3 9 (by kernel_rfl)) HS.out) ?_
  refine sv 6 rfl rfl rfl (fun a u hE hD hk => exec_move (.const (.int .i64 0)) _ rfl rfl) ?_
  exact fsteps_nil
 intro gv w0 hV k0
 rw [show dstsOf _ 6 = [6, 7, 8, 9, 10, 11] by kernel_rfl]
 simp only [fC, fN, sA, sS, sZ, dS, dZ]
 rw [show gv 9 = v from hV 3 9 (by kernel_rfl)]
 rw [show gv 10 = .int .i64 (n : Int) from hV 4 10 (by kernel_rfl)]
 rw [show gv 11 = .int .i64 0 from hV 5 11 (by kernel_rfl)]
 clear hV
 refine wpList_nil ?_
 go_wp2_with fail
 go_loopw [3, 11] (fun t q wr => ∃ (i : Nat), i ≤ n ∧ q = .int .i64 i ∧ Hid ((Kn.sl w.heap.size 25 9 i (ords ((X.take i).map (·.o)))).p t wr) ∧ Kept w wr) (fun _ q _ => n - (intOf q).toNat)
 case atStart => exact ⟨0, Nat.zero_le _, rfl, ⟨by rw [List.take_zero]; exact Sl.nil _ _ _, fun b hb => by simp [Value.ownBlock] at hb⟩, k0⟩
 case round =>
  obtain ⟨i, hi, rfl, HV, hkr⟩ := hrel
  by_cases hlt : i < n
  ·skip
   obtain ⟨g, off, c, rfl⟩ := HS.out.some_ (by omega)
   obtain ⟨e, he⟩ : ∃ e, X[i]? = some e := ⟨X[i]'(by omega), List.getElem?_eq_getElem (by omega)⟩
   have HE : Hid (wr.rangeAt g (off + i * 10) e.cells) := range_kept (HS.out.rng i e he) hkr
   have HEI := Lib.hid he
   clear he
   go_upto_region 4 with fail
   refine wp_text 3 [.eq (.pointer (some ⟨g, off + i * 10, none⟩)), .eq (e.v), .fresh wr.heap.size 112 zeroE.cells] rfl (by kernel_rfl) ?_ ?_
   ·refine sv 1 rfl rfl rfl (fun a u hE hD hk => exec_ixo slE (.tmp 9) (.tmp 11) (g) (off) n c i (off + i * 10) ((i : Int)) rfl (hE 9 (.slice (some ⟨g, off, none⟩) n c) (by kernel_rfl) (by kernel_rfl)) (hE 11 (.int .i64 (i : Int)) (by kernel_rfl) (by kernel_rfl)) (by first | rfl | omega) (hlt) (by first | rfl | omega)) ?_
    refine sv 2 rfl rfl rfl (fun a u hE hD hk => exec_ldS 112 _ (.tmp 13) (g) (off + i * 10) (e.cells) rfl (hD 0 13 (by kernel_rfl)) (range_kept HE.out hk) Try.underlying112 (by rw [e.len10]; exact szE)) ?_
    refine fsteps_cons 3 rfl (fun a u hE hD hk => f_new (o := ⟨some 5, _, _, _, _, _⟩) (.pointer (some ⟨u.heap.size, 0, none⟩)) _ rfl (wanted_none rfl _) (exec_alc 112 zeroE.cells rfl zE) ⟨_, rfl, hk.size, Blk.new u _ _⟩ ((Keep.refl _ u).alloc _)) ?_
    exact fsteps_nil
   intro gv w1 hV k1
   rw [show dstsOf _ 3 = [13, 14, 5] by kernel_rfl]
   simp only [fC, fN, sA, sS, sZ, dS, dZ]
   have hv5 : (.fresh wr.heap.size 112 zeroE.cells : Kn).p (gv 5) w1 := hV 2 5 (by kernel_rfl)
   generalize gv 5 = v5 at hv5 ⊢
   rw [show gv 14 = e.v from hV 1 14 (by kernel_rfl)]
   clear hV
   obtain ⟨b5, rfl, hb5, hB5⟩ := hv5
   refine l_setS (o := ⟨none, _, _, _, _, _⟩) 112 b5 112 zeroE.cells e.cells (.tmp 5) (.tmp 14) rfl rfl (by kernel_rfl) (by kernel_rfl) hB5 (by rw [Ent.len10]; exact szE) (by rw [Ent.len10, Ent.len10]) (Ent.one _) ?_
   intro w2 hB6 hk2 hs2
   simp only [Act.put]
   refine wpList_nil ?_
   have kw2 : Kept wr w2 := k1.trans' hk2 (by omega)
   have HB6 := Lib.hid (blk_range hB6)
   clear hB5 hB6 hk2 HE k1
   obtain ⟨v3, hv3⟩ : ∃ v3, v3 = u3 := ⟨_, rfl⟩
   subst hv3
   have HV2 := Lib.hid (HV.out.1.kept kw2)
   have HV3 := Lib.hid HV.out.2
   have s2 := kw2.size
   have s1 := hkr.size
   clear HV
   go_upto_region 5 with fail
   refine wp_text 4 [.eq (v3), .eq (.pointer (some ⟨b5, 0, none⟩)), .eq (e.o.v), .sl w2.heap.size 25 9 1 e.o.cells] rfl (by kernel_rfl) ?_ ?_
   ·refine sv 1 rfl rfl rfl (fun a u hE hD hk => exec_move (.tmp 3) _ rfl (hE 3 (v3) (by kernel_rfl) (by kernel_rfl))) ?_
    refine sv 2 rfl rfl rfl (fun a u hE hD hk => exec_fldo 112 0 0 (.tmp 5) (b5) (0) (0) rfl (hE 5 (.pointer (some ⟨b5, 0, none⟩)) (by kernel_rfl) (by kernel_rfl)) (by kernel_rfl) rfl) ?_
    refine sv 3 rfl rfl rfl (fun a u hE hD hk => exec_ldS 25 _ (.tmp 16) (b5) (0) (e.o.cells) rfl (hD 1 16 (by kernel_rfl)) (ent_ord (range_kept HB6.out hk)) Try.underlying25 (by rw [e.o.len9]; exact ord_size)) ?_
    refine fsteps_cons 4 rfl (fun a u hE hD hk => f_new (o := ⟨some 18, _, _, _, _, _⟩) (.slice (some ⟨u.heap.size, 0, none⟩) 1 1) _ rfl (wanted_none rfl _) (exec_oneS slO (.tmp 17) e.o.cells (by omega) rfl (hD 2 17 (by kernel_rfl)) (e.o.len9)) (sl_one u 25 9 _ w2.heap.size (e.o.len9) (by omega) hk.size) ((Keep.refl _ u).alloc _)) ?_
    exact fsteps_nil
   intro gv w3 hV k3
   rw [show dstsOf _ 4 = [15, 16, 17, 18] by kernel_rfl]
   simp only [fC, fN, sA, sS, sZ, dS, dZ]
   rw [show gv 15 = v3 from hV 0 15 (by kernel_rfl)]
   have hv18 : (.sl w2.heap.size 25 9 1 e.o.cells : Kn).p (gv 18) w3 := hV 3 18 (by kernel_rfl)
   generalize gv 18 = v18 at hv18 ⊢
   clear hV
   have s3 := k3.size
   obtain ⟨v4, w4, hr4, hs4, hk4, ho4⟩ := run_append_sl slO _ w3 v3 v18 i 1 _ _ (HV2.out.kept k3) hv18.1 (Ord.one1 _) (by unfold maxLen; omega) (by omega)
   refine l_new (o := ⟨some 19, _, _, _, _, _⟩) v4 w4 rfl (exec_appS slO (.tmp 15) (.tmp 18) v3 v18 rfl (by kernel_rfl) (by kernel_rfl) v4 w4 hr4) ?_
   simp only [Act.put, sA, sS, sZ]
   refine l_val (o := ⟨some 3, _, _, _, _, _⟩) (v4) rfl (exec_assign (.tmp 19) (v4) rfl (by kernel_rfl)) ?_
   simp only [Act.put, sA, sS, sZ]
   refine wpList_nil ?_
   have kw4 : Kept w w4 := by
    refine Keep.trans ((hkr.trans kw2).trans k3) hk4 (fun b hb hb' => ?_)
    have := HV3.out b hb'
    omega
   have HV4 : Hid ((Kn.sl w.heap.size 25 9 (i + 1) (ords ((X.take (i + 1)).map (·.o)))).p v4 w4) := by
    refine ⟨?_, fun b hb => ?_⟩
    ·rw [List.take_add_one, HEI.out, Option.toList_some, List.map_append, List.map_cons, List.map_nil, ords_snoc]
     exact hs4
    ·rcases ho4 b hb with h | h
     ·exact HV3.out b h
     ·omega
   clear hs4 hk4 ho4 HV2 HV3 hv18 hr4
   go_wp2
   exact ⟨⟨i + 1, by omega, by go_num, HV4, kw4⟩, by simp [intOf]; omega⟩
  ·obtain ⟨v3, hv3⟩ : ∃ v3, v3 = u3 := ⟨_, rfl⟩
   subst hv3
   have HF : Hid ((Kn.sl w.heap.size 25 9 X.length (ords (X.map (·.o)))).p v3 wr) := by
    have := HV.out
    rw [show i = n by omega, List.take_of_length_le (by rw [HN.out]; omega)] at this
    rw [HN.out]
    exact this
   clear HV
   go_wp2
   go_ret
   exact ⟨v3, rfl, HF.out, hkr⟩
end Go.Proofs.Ytfpfpmhkkgfdbaa
namespace Go.Proofs.Ytfpfpmhkkgfdbaa
open Go.RowKit
set_option maxRecDepth 100000
variable {pr : Int}
def TakeIn (pr : Int) (T E : TypeId) (w : World) (F : Nat → Prop) (p : Nat) (X : List Ent) (t : List Ent × Bool × List Ent) (r : Ending) (w' : World) : Prop :=
 ∃ F' v, r = .returned (.tuple #[v, .bool t.2.1]) ∧ Lvl pr T E w' F' p t.2.2 ∧ Sl w' 39 10 v t.1.length (ents t.1) ∧ (∀ b, v.ownBlock = some b → w.heap.size ≤ b ∧ ¬ F' b) ∧ Grow w F F' ∧ Keep F w w'
theorem take_done {firm q q' : Int} {X X' H : List Ent} {t : List Ent × Bool × List Ent} (h : takeM firm q X = (H ++ (takeM firm q' X').1, (takeM firm q' X').2)) {b : Bool} (ht : takeM firm q' X' = ([], b, X')) : takeM firm q X = (H, b, X') := by
 rw [h, ht]
 simp
theorem take_next_ {firm q q' : Int} {X R H : List Ent} {e : Ent} (h : takeM firm q X = (H ++ (takeM firm q' (e :: R)).1, (takeM firm q' (e :: R)).2)) (h0 : 0 < q') (hn : 0 < e.n) (hf : e.o.firm ≠ firm) :
  takeM firm q X = ((H ++ [⟨e.o, mn q' e.n⟩]) ++ (takeM firm (q' - mn q' e.n) (nextM e (mn q' e.n) R)).1, (takeM firm (q' - mn q' e.n) (nextM e (mn q' e.n) R)).2) := by
 rw [h, takeM_go firm q' e R h0 hn hf]
 simp
set_option maxRecDepth 100000 in
set_option maxHeartbeats 1600000 in
theorem take_any (w : World) (F : Nat → Prop) (p : Nat) (X : List Ent) (firm q : Int) (h : Lvl pr 110 112 w F p X) (hX : Good X) (hq : q ≤ 9223372036854775807) :
  Calls Try.prog 66 #[.pointer (some ⟨p, 0, none⟩), .int .i64 firm, .int .i64 q] w (TakeIn pr 110 112 w F p X (takeM firm q X)) := by
 have HL0 := Lib.hid h
 have HX0 := Lib.hid hX
 clear h hX
 go_enter Try.func66, Try.ntmps66
 go_wp2_with fail
 go_loopw [2, 8] (fun t h wr => ∃ (q' : Int) (H X' : List Ent) (F' : Nat → Prop), t = .int .i64 q' ∧ q' ≤ 9223372036854775807 ∧ Hid (Sl wr 39 10 h H.length (ents H)) ∧ Hid (∀ b, h.ownBlock = some b → w.heap.size ≤ b ∧ ¬ F' b) ∧ Hid (Lvl pr 110 112 wr F' p X') ∧ Hid (Good X') ∧ Hid (Grow w F F') ∧ Keep F w wr ∧ Hid ((H.length : Int) + wholeM X' ≤ wholeM X) ∧ Hid (takeM firm q X = (H ++ (takeM firm q' X').1, (takeM firm q' X').2))) (fun t _ _ => (intOf t).toNat)
 case atStart => exact ⟨q, [], X, F, rfl, hq, Sl.nil _ _ _, fun b hb => (by simp [Value.ownBlock] at hb), HL0.out, HX0.out, Grow.refl _ _, Keep.refl _ _, by show _ ≤ _; simp, by show _ = _; simp⟩
 case round =>
  obtain ⟨q', H, X', F', rfl, hq', HV, HO, HL, HX, HG, hkF, HW, HT⟩ := hrel
  obtain ⟨v8, hv8⟩ : ∃ v8, v8 = u8 := ⟨_, rfl⟩
  subst hv8
  by_cases hq0 : 0 < q'
  ·cases X' with
   | nil =>
    obtain ⟨h1, h2, v, hB, hS, h5⟩ := HL.out
    obtain ⟨m, hm⟩ : ∃ m, ([] : List Ent).length = m := ⟨_, rfl⟩
    rw [hm] at hS
    have HB := Lib.hid hB
    have HS := Lib.hid hS
    have hpl := h2 p h1
    clear hB hS h1 h2 h5
    have HD := Lib.hid (take_done (t := takeM firm q X) HT.out (takeM_nil firm q'))
    have hm0 : m = 0 := by simpa using hm.symm
    clear HT
    go_upto_region 2 with fail
    refine wp_text 10 [.eq (.int .i64 q'), .eq (.bool true), .eq (.bool true), .eq (.pointer (some ⟨p, 0, none⟩)), .eq (.pointer (some ⟨p, 0, none⟩)), .eq (.pointer (some ⟨p, 1, none⟩)), .eq (v), .eq (.int .i64 (m : Int)), .eq (.bool false), .eq (.bool false)] rfl (by kernel_rfl) ?_ ?_
    ·refine sv 1 rfl rfl rfl (fun a u hE hD hk => exec_move (.tmp 2) _ rfl (hE 2 (.int .i64 q') (by kernel_rfl) (by kernel_rfl))) ?_
     refine fsteps_cons 2 rfl (fun a u hE hD hk => f_as (show ((decide ((0 : Int) < (q' : Int))) : Bool) = true from decide_eq_true hq0) (f_val (o := ⟨some 11, _, _, _, _, _⟩) (.bool (decide ((0 : Int) < (q' : Int)))) rfl (wanted_none rfl _) (exec_gtn (p := (q')) (q := 0) rfl (hD 0 10 (by kernel_rfl)) rfl) rfl)) ?_
     refine sv 3 rfl rfl rfl (fun a u hE hD hk => exec_move (.tmp 11) _ rfl (hD 1 11 (by kernel_rfl))) ?_
     refine fsteps_cons 4 rfl (fun a u hE hD hk => f_val (o := ⟨some 13, _, _, _, _, _⟩) (.pointer (some ⟨p, 0, none⟩)) rfl (wanted_at (b := true) true rfl rfl (hD 2 12 (by kernel_rfl))) (exec_move (.tmp 0) _ rfl (hE 0 (.pointer (some ⟨p, 0, none⟩)) (by kernel_rfl) (by kernel_rfl))) rfl) ?_
     refine fsteps_cons 5 rfl (fun a u hE hD hk => f_val (o := ⟨some 14, _, _, _, _, _⟩) (.pointer (some ⟨p, 0, none⟩)) rfl (wanted_at (b := true) true rfl rfl (hD 2 12 (by kernel_rfl))) (exec_nilp (.tmp 13) ⟨p, 0, none⟩ rfl (hD 3 13 (by kernel_rfl))) rfl) ?_
     refine fsteps_cons 6 rfl (fun a u hE hD hk => f_val (o := ⟨some 15, _, _, _, _, _⟩) (.pointer (some ⟨p, 1, none⟩)) rfl (wanted_at (b := true) true rfl rfl (hD 2 12 (by kernel_rfl))) (exec_fldo 110 1 1 (.tmp 14) (p) (0) (1) rfl (hD 4 14 (by kernel_rfl)) (by kernel_rfl) rfl) rfl) ?_
     refine fsteps_cons 7 rfl (fun a u hE hD hk => f_val (o := ⟨some 16, _, _, _, _, _⟩) (v) rfl (wanted_at (b := true) true rfl rfl (hD 2 12 (by kernel_rfl))) (exec_ldv 108 _ Try.underlying108 (.tmp 15) ⟨p, 1, none⟩ (v) rfl (hD 5 15 (by kernel_rfl)) (by rw [(HB.out.kept hk).cell]; rfl)) rfl) ?_
     refine fsteps_cons 8 rfl (fun a u hE hD hk => f_val (o := ⟨some 17, _, _, _, _, _⟩) (.int .i64 (m : Int)) rfl (wanted_at (b := true) true rfl rfl (hD 2 12 (by kernel_rfl))) (exec_lenS (.tmp 16) slE (v) (m) _ _ rfl (hD 6 16 (by kernel_rfl)) HS.out) rfl) ?_
     refine fsteps_cons 9 rfl (fun a u hE hD hk => f_as (show ((decide ((0 : Int) < ((m : Int) : Int))) : Bool) = false from decide_eq_false (by omega)) (f_val (o := ⟨some 18, _, _, _, _, _⟩) (.bool (decide ((0 : Int) < ((m : Int) : Int)))) rfl (wanted_at (b := true) true rfl rfl (hD 2 12 (by kernel_rfl))) (exec_gtn (p := (m : Int)) (q := 0) rfl (hD 7 17 (by kernel_rfl)) rfl) rfl)) ?_
     refine sv 10 rfl rfl rfl (fun a u hE hD hk => exec_pick (.tmp 12) (.tmp 18) (.const (.bool false)) (.bool false) rfl (hD 2 12 (by kernel_rfl)) (hD 8 18 (by kernel_rfl))) ?_
     exact fsteps_nil
    intro gv w1 hV k1
    rw [show dstsOf _ 10 = [10, 11, 12, 13, 14, 15, 16, 17, 18, 19] by kernel_rfl]
    simp only [fC, fN, sA, sS, sZ, dS, dZ]
    rw [show gv 19 = .bool false from hV 9 19 (by kernel_rfl)]
    clear hV
    refine wpList_nil ?_
    have kF1 := hkF.kept k1
    have s1 := k1.size
    go_wp2
    go_ret2
    refine ⟨F', v8, ?_, ?_, ?_, HO.out, HG.out, kF1⟩
    ·rw [HD.out]; rfl
    ·rw [HD.out]; exact HL.out.kept k1
    ·rw [HD.out]; exact HV.out.kept k1
   | cons e R =>
    obtain ⟨h1, h2, v, hB, hS, h5⟩ := HL.out
    obtain ⟨m, hm⟩ : ∃ m, (e :: R).length = m := ⟨_, rfl⟩
    rw [hm] at hS
    have HB := Lib.hid hB
    have HS := Lib.hid hS
    have hpl := h2 p h1
    clear hB hS h1 h2 h5
    have hm0 : 0 < m := by rw [← hm]; simp
    obtain ⟨g, off, c, rfl⟩ := HS.out.some_ hm0
    have HE : Hid (wr.rangeAt g off e.cells) := HS.out.rng 0 e rfl
    have hb := HX.out.bound (e := e) (by simp)
    go_upto_region 2 with fail
    refine wp_text 10 [.eq (.int .i64 q'), .eq (.bool true), .eq (.bool true), .eq (.pointer (some ⟨p, 0, none⟩)), .eq (.pointer (some ⟨p, 0, none⟩)), .eq (.pointer (some ⟨p, 1, none⟩)), .eq (.slice (some ⟨g, off, none⟩) m c), .eq (.int .i64 (m : Int)), .eq (.bool true), .eq (.bool true)] rfl (by kernel_rfl) ?_ ?_
    ·refine sv 1 rfl rfl rfl (fun a u hE hD hk => exec_move (.tmp 2) _ rfl (hE 2 (.int .i64 q') (by kernel_rfl) (by kernel_rfl))) ?_
     refine fsteps_cons 2 rfl (fun a u hE hD hk => f_as (show ((decide ((0 : Int) < (q' : Int))) : Bool) = true from decide_eq_true hq0) (f_val (o := ⟨some 11, _, _, _, _, _⟩) (.bool (decide ((0 : Int) < (q' : Int)))) rfl (wanted_none rfl _) (exec_gtn (p := (q')) (q := 0) rfl (hD 0 10 (by kernel_rfl)) rfl) rfl)) ?_
     refine sv 3 rfl rfl rfl (fun a u hE hD hk => exec_move (.tmp 11) _ rfl (hD 1 11 (by kernel_rfl))) ?_
     refine fsteps_cons 4 rfl (fun a u hE hD hk => f_val (o := ⟨some 13, _, _, _, _, _⟩) (.pointer (some ⟨p, 0, none⟩)) rfl (wanted_at (b := true) true rfl rfl (hD 2 12 (by kernel_rfl))) (exec_move (.tmp 0) _ rfl (hE 0 (.pointer (some ⟨p, 0, none⟩)) (by kernel_rfl) (by kernel_rfl))) rfl) ?_
     refine fsteps_cons 5 rfl (fun a u hE hD hk => f_val (o := ⟨some 14, _, _, _, _, _⟩) (.pointer (some ⟨p, 0, none⟩)) rfl (wanted_at (b := true) true rfl rfl (hD 2 12 (by kernel_rfl))) (exec_nilp (.tmp 13) ⟨p, 0, none⟩ rfl (hD 3 13 (by kernel_rfl))) rfl) ?_
     refine fsteps_cons 6 rfl (fun a u hE hD hk => f_val (o := ⟨some 15, _, _, _, _, _⟩) (.pointer (some ⟨p, 1, none⟩)) rfl (wanted_at (b := true) true rfl rfl (hD 2 12 (by kernel_rfl))) (exec_fldo 110 1 1 (.tmp 14) (p) (0) (1) rfl (hD 4 14 (by kernel_rfl)) (by kernel_rfl) rfl) rfl) ?_
     refine fsteps_cons 7 rfl (fun a u hE hD hk => f_val (o := ⟨some 16, _, _, _, _, _⟩) (.slice (some ⟨g, off, none⟩) m c) rfl (wanted_at (b := true) true rfl rfl (hD 2 12 (by kernel_rfl))) (exec_ldv 108 _ Try.underlying108 (.tmp 15) ⟨p, 1, none⟩ (.slice (some ⟨g, off, none⟩) m c) rfl (hD 5 15 (by kernel_rfl)) (by rw [(HB.out.kept hk).cell]; rfl)) rfl) ?_
     refine fsteps_cons 8 rfl (fun a u hE hD hk => f_val (o := ⟨some 17, _, _, _, _, _⟩) (.int .i64 (m : Int)) rfl (wanted_at (b := true) true rfl rfl (hD 2 12 (by kernel_rfl))) (exec_len (.tmp 16) _ _ slE.und (some ⟨g, off, none⟩) m c rfl (hD 6 16 (by kernel_rfl))) rfl) ?_
     refine fsteps_cons 9 rfl (fun a u hE hD hk => f_as (show ((decide ((0 : Int) < ((m : Int) : Int))) : Bool) = true from decide_eq_true (by omega)) (f_val (o := ⟨some 18, _, _, _, _, _⟩) (.bool (decide ((0 : Int) < ((m : Int) : Int)))) rfl (wanted_at (b := true) true rfl rfl (hD 2 12 (by kernel_rfl))) (exec_gtn (p := (m : Int)) (q := 0) rfl (hD 7 17 (by kernel_rfl)) rfl) rfl)) ?_
     refine sv 10 rfl rfl rfl (fun a u hE hD hk => exec_pick (.tmp 12) (.tmp 18) (.const (.bool false)) (.bool true) rfl (hD 2 12 (by kernel_rfl)) (hD 8 18 (by kernel_rfl))) ?_
     exact fsteps_nil
    intro gv w1 hV k1
    rw [show dstsOf _ 10 = [10, 11, 12, 13, 14, 15, 16, 17, 18, 19] by kernel_rfl]
    simp only [fC, fN, sA, sS, sZ, dS, dZ]
    rw [show gv 19 = .bool true from hV 9 19 (by kernel_rfl)]
    clear hV
    refine wpList_nil ?_
    have kF1 := hkF.kept k1
    have s1 := k1.size
    have HB1 := Lib.hid (HB.out.kept k1)
    have HE1 := Lib.hid (range_kept HE.out k1)
    clear HB HE HS
    by_cases hf : e.o.firm = firm
    ·have HD := Lib.hid (take_done (t := takeM firm q X) HT.out (takeM_own firm q' e R hq0 (by omega) hf))
     clear HT
     go_upto_region 3 with fail
     refine wp_text 10 [.eq (.pointer (some ⟨p, 0, none⟩)), .eq (.pointer (some ⟨p, 0, none⟩)), .eq (.pointer (some ⟨p, 1, none⟩)), .eq (.slice (some ⟨g, off, none⟩) m c), .eq (.pointer (some ⟨g, off, none⟩)), .eq (.pointer (some ⟨g, off, none⟩)), .eq (.pointer (some ⟨g, off + 2, none⟩)), .eq (.int .i64 e.o.firm), .eq (.int .i64 firm), .eq (.bool true)] rfl (by kernel_rfl) ?_ ?_
     ·refine sv 1 rfl rfl rfl (fun a u hE hD hk => exec_move (.tmp 0) _ rfl (hE 0 (.pointer (some ⟨p, 0, none⟩)) (by kernel_rfl) (by kernel_rfl))) ?_
      refine sv 2 rfl rfl rfl (fun a u hE hD hk => exec_nilp (.tmp 20) ⟨p, 0, none⟩ rfl (hD 0 20 (by kernel_rfl))) ?_
      refine sv 3 rfl rfl rfl (fun a u hE hD hk => exec_fldo 110 1 1 (.tmp 21) (p) (0) (1) rfl (hD 1 21 (by kernel_rfl)) (by kernel_rfl) rfl) ?_
      refine sv 4 rfl rfl rfl (fun a u hE hD hk => exec_ldv 108 _ Try.underlying108 (.tmp 22) ⟨p, 1, none⟩ (.slice (some ⟨g, off, none⟩) m c) rfl (hD 2 22 (by kernel_rfl)) (by rw [(HB1.out.kept hk).cell]; rfl)) ?_
      refine sv 5 rfl rfl rfl (fun a u hE hD hk => exec_ixo slE (.tmp 23) (.const (.int .i64 0)) (g) (off) m c 0 (off) (0) rfl (hD 3 23 (by kernel_rfl)) rfl (by first | rfl | omega) ((by omega)) (by first | rfl | omega)) ?_
      refine sv 6 rfl rfl rfl (fun a u hE hD hk => exec_fldo 112 0 0 (.tmp 24) (g) (off) (off) rfl (hD 4 24 (by kernel_rfl)) (by kernel_rfl) rfl) ?_
      refine sv 7 rfl rfl rfl (fun a u hE hD hk => exec_fldo 25 2 2 (.tmp 25) (g) (off) (off + 2) rfl (hD 5 25 (by kernel_rfl)) (by kernel_rfl) rfl) ?_
      refine sv 8 rfl rfl rfl (fun a u hE hD hk => exec_loadi 3 Try.underlying3 (.tmp 26) ⟨g, off + 2, none⟩ (.int .i64 e.o.firm) rfl (hD 6 26 (by kernel_rfl)) (range_int (range_kept HE1.out hk) 2 _ rfl)) ?_
      refine sv 9 rfl rfl rfl (fun a u hE hD hk => exec_move (.tmp 1) _ rfl (hE 1 (.int .i64 firm) (by kernel_rfl) (by kernel_rfl))) ?_
      refine fsteps_cons 10 rfl (fun a u hE hD hk => f_as (show ((decide ((e.o.firm : Int) = (firm : Int))) : Bool) = true from decide_eq_true hf) (f_val (o := ⟨some 29, _, _, _, _, _⟩) (.bool (decide ((e.o.firm : Int) = (firm : Int)))) rfl (wanted_none rfl _) (exec_eqn (p := e.o.firm) (q := firm) rfl (hD 7 27 (by kernel_rfl)) (hD 8 28 (by kernel_rfl))) rfl)) ?_
      exact fsteps_nil
     intro gv w2 hV k2
     rw [show dstsOf _ 10 = [20, 21, 22, 23, 24, 25, 26, 27, 28, 29] by kernel_rfl]
     simp only [fC, fN, sA, sS, sZ, dS, dZ]
     rw [show gv 29 = .bool true from hV 9 29 (by kernel_rfl)]
     clear hV
     refine wpList_nil ?_
     have kF2 := kF1.kept k2
     go_wp2
     go_ret2
     refine ⟨F', v8, ?_, ?_, ?_, HO.out, HG.out, kF2⟩
     ·rw [HD.out]; rfl
     ·rw [HD.out]; exact HL.out.kept (k1.trans k2)
     ·rw [HD.out]; exact HV.out.kept (k1.trans k2)
    ·have HD := Lib.hid (take_next_ HT.out hq0 (by omega) hf)
     clear HT
     go_upto_region 3 with fail
     refine wp_text 10 [.eq (.pointer (some ⟨p, 0, none⟩)), .eq (.pointer (some ⟨p, 0, none⟩)), .eq (.pointer (some ⟨p, 1, none⟩)), .eq (.slice (some ⟨g, off, none⟩) m c), .eq (.pointer (some ⟨g, off, none⟩)), .eq (.pointer (some ⟨g, off, none⟩)), .eq (.pointer (some ⟨g, off + 2, none⟩)), .eq (.int .i64 e.o.firm), .eq (.int .i64 firm), .eq (.bool false)] rfl (by kernel_rfl) ?_ ?_
     ·refine sv 1 rfl rfl rfl (fun a u hE hD hk => exec_move (.tmp 0) _ rfl (hE 0 (.pointer (some ⟨p, 0, none⟩)) (by kernel_rfl) (by kernel_rfl))) ?_
      refine sv 2 rfl rfl rfl (fun a u hE hD hk => exec_nilp (.tmp 20) ⟨p, 0, none⟩ rfl (hD 0 20 (by kernel_rfl))) ?_
      refine sv 3 rfl rfl rfl (fun a u hE hD hk => exec_fldo 110 1 1 (.tmp 21) (p) (0) (1) rfl (hD 1 21 (by kernel_rfl)) (by kernel_rfl) rfl) ?_
      refine sv 4 rfl rfl rfl (fun a u hE hD hk => exec_ldv 108 _ Try.underlying108 (.tmp 22) ⟨p, 1, none⟩ (.slice (some ⟨g, off, none⟩) m c) rfl (hD 2 22 (by kernel_rfl)) (by rw [(HB1.out.kept hk).cell]; rfl)) ?_
      refine sv 5 rfl rfl rfl (fun a u hE hD hk => exec_ixo slE (.tmp 23) (.const (.int .i64 0)) (g) (off) m c 0 (off) (0) rfl (hD 3 23 (by kernel_rfl)) rfl (by first | rfl | omega) ((by omega)) (by first | rfl | omega)) ?_
      refine sv 6 rfl rfl rfl (fun a u hE hD hk => exec_fldo 112 0 0 (.tmp 24) (g) (off) (off) rfl (hD 4 24 (by kernel_rfl)) (by kernel_rfl) rfl) ?_
      refine sv 7 rfl rfl rfl (fun a u hE hD hk => exec_fldo 25 2 2 (.tmp 25) (g) (off) (off + 2) rfl (hD 5 25 (by kernel_rfl)) (by kernel_rfl) rfl) ?_
      refine sv 8 rfl rfl rfl (fun a u hE hD hk => exec_loadi 3 Try.underlying3 (.tmp 26) ⟨g, off + 2, none⟩ (.int .i64 e.o.firm) rfl (hD 6 26 (by kernel_rfl)) (range_int (range_kept HE1.out hk) 2 _ rfl)) ?_
      refine sv 9 rfl rfl rfl (fun a u hE hD hk => exec_move (.tmp 1) _ rfl (hE 1 (.int .i64 firm) (by kernel_rfl) (by kernel_rfl))) ?_
      refine fsteps_cons 10 rfl (fun a u hE hD hk => f_as (show ((decide ((e.o.firm : Int) = (firm : Int))) : Bool) = false from decide_eq_false hf) (f_val (o := ⟨some 29, _, _, _, _, _⟩) (.bool (decide ((e.o.firm : Int) = (firm : Int)))) rfl (wanted_none rfl _) (exec_eqn (p := e.o.firm) (q := firm) rfl (hD 7 27 (by kernel_rfl)) (hD 8 28 (by kernel_rfl))) rfl)) ?_
      exact fsteps_nil
     intro gv w2 hV k2
     rw [show dstsOf _ 10 = [20, 21, 22, 23, 24, 25, 26, 27, 28, 29] by kernel_rfl]
     simp only [fC, fN, sA, sS, sZ, dS, dZ]
     rw [show gv 29 = .bool false from hV 9 29 (by kernel_rfl)]
     clear hV
     refine wpList_nil ?_
     have k12 := k1.trans k2
     have kF2 := kF1.kept k2
     have s2 := k2.size
     have s0 := hkF.size
     have hmn1 := mn_le q' e.n
     have hmn2 := mn_pos q' e.n hq0 (by omega)
     have HLN : Hid (H.length ≤ 99999999) := by
      show _ ≤ _
      have h1 := HW.out
      have h2 := HX0.out.few
      have h3 := whole_ge HX.out.ok
      simp only [List.length_cons] at h3
      omega
     have HL2 := Lib.hid (HL.out.kept k12)
     have HV2 := Lib.hid (HV.out.kept k12)
     have HVL : Hid (∀ b, v8.ownBlock = some b → b < w2.heap.size) := fun b hb => (HV.out.kept k12).lt hb
     clear HB1 HE1 k1 k2 k12 HL HV kF1
     go_upto_region 5 with fail
     refine wp_region_lit ?_
     refine l_val (o := ⟨some 31, _, _, _, _, _⟩) (.pointer (some ⟨p, 0, none⟩)) rfl (exec_move (.tmp 0) (.pointer (some ⟨p, 0, none⟩)) rfl (by kernel_rfl)) ?_
     simp only [Act.put, sA, sS, sZ]
     refine l_val (o := ⟨some 32, _, _, _, _, _⟩) (.int .i64 q') rfl (exec_move (.tmp 2) (.int .i64 q') rfl (by kernel_rfl)) ?_
     simp only [Act.put, sA, sS, sZ]
     refine l_call (o := ⟨some 33, _, _, _, _, _⟩) 89 #[.pointer (some ⟨p, 0, none⟩), .int .i64 q'] rfl (exec_call 89 _ [.tmp 31, .tmp 32] _ _ Try.func89 (by kernel_rfl) (by kernel_rfl) rfl (by kernel_rfl) _) ?_
     refine (hit_any w2 F' p e q' R HL2.out HX.out hq0).mono ?_
     rintro r w3 ⟨F2, rfl, hL3, hG3, hk3⟩
     refine ⟨_, rfl, ?_⟩
     simp only [Act.put, sA, sS, sZ]
     refine l_alloc (o := ⟨some 9, _, _, _, _, _⟩) 39 zeroE.cells rfl rfl zH ?_
     intro w4 hB4 z4 k4
     obtain ⟨b9, hb9⟩ : ∃ b, b = w3.heap.size := ⟨_, rfl⟩
     rw [← hb9] at hB4 ⊢
     simp only [Act.put, sA, sS, sZ]
     refine l_setS (o := ⟨none, _, _, _, _, _⟩) 39 b9 39 zeroE.cells (Ent.mk e.o (mn q' e.n)).cells (.tmp 9) (.tmp 33) rfl rfl (by kernel_rfl) (by kernel_rfl) hB4 (by rw [Ent.len10]; exact szH) (by rw [Ent.len10, Ent.len10]) (Ent.one _) ?_
     intro w5 hB5 hk5 hs5
     simp only [Act.put]
     refine wpList_nil ?_
     have k45 : Kept w3 w5 := k4.trans' hk5 (by omega)
     have s3 := hk3.size
     have s5 := k45.size
     have HG5 : Hid (Grow w F F2) := Grow.trans HG.out hG3 (by omega)
     have kF5 : Keep F w w5 := (Grow.keep HG.out kF2 hk3).kept k45
     have HL5 := Lib.hid (hL3.kept k45)
     have HV5 := Lib.hid ((HV2.out.keep hk3 (fun b hb hF => (HO.out b hb).2 hF)).kept k45)
     have HO5 : Hid (∀ b, v8.ownBlock = some b → w.heap.size ≤ b ∧ ¬ F2 b) := fun b hb => ⟨(HO.out b hb).1, fun h => by
      rcases hG3 b h with h | h
      ·exact (HO.out b hb).2 h
      ·have := HV2.out.lt hb; omega⟩
     have HF2 : Hid (∀ b, F2 b → b < w3.heap.size) := hL3.2.1
     have HBR := Lib.hid (blk_range hB5)
     have hb9l := hB5.lt
     clear hL3 hG3 hk3 hB4 hB5 k4 hk5 HL2 HV2 HO HG kF2
     go_upto_region 6 with fail
     refine wp_text 3 [.eq (v8), .eq ((Ent.mk e.o (mn q' e.n)).v), .sl w5.heap.size 39 10 1 (Ent.mk e.o (mn q' e.n)).cells] rfl (by kernel_rfl) ?_ ?_
     ·refine sv 1 rfl rfl rfl (fun a u hE hD hk => exec_move (.tmp 8) _ rfl (hE 8 (v8) (by kernel_rfl) (by kernel_rfl))) ?_
      refine sv 2 rfl rfl rfl (fun a u hE hD hk => exec_ldS 39 _ (.tmp 9) (b9) (0) ((Ent.mk e.o (mn q' e.n)).cells) rfl (hE 9 (.pointer (some ⟨b9, 0, none⟩)) (by kernel_rfl) (by kernel_rfl)) (range_kept HBR.out hk) Try.underlying39 (by rw [(Ent.mk e.o (mn q' e.n)).len10]; exact szH)) ?_
      refine fsteps_cons 3 rfl (fun a u hE hD hk => f_new (o := ⟨some 36, _, _, _, _, _⟩) (.slice (some ⟨u.heap.size, 0, none⟩) 1 1) _ rfl (wanted_none rfl _) (exec_oneS slH (.tmp 35) (Ent.mk e.o (mn q' e.n)).cells (by omega) rfl (hD 1 35 (by kernel_rfl)) ((Ent.mk e.o (mn q' e.n)).len10)) (sl_one u 39 10 _ w5.heap.size ((Ent.mk e.o (mn q' e.n)).len10) (by omega) hk.size) ((Keep.refl _ u).alloc _)) ?_
      exact fsteps_nil
     intro gv w6 hV k6
     rw [show dstsOf _ 3 = [34, 35, 36] by kernel_rfl]
     simp only [fC, fN, sA, sS, sZ, dS, dZ]
     rw [show gv 34 = v8 from hV 0 34 (by kernel_rfl)]
     have hv36 : (.sl w5.heap.size 39 10 1 (Ent.mk e.o (mn q' e.n)).cells : Kn).p (gv 36) w6 := hV 2 36 (by kernel_rfl)
     generalize gv 36 = v36 at hv36 ⊢
     clear hV
     have hln := HLN.out
     obtain ⟨v7, w7, hr7, hs7, hk7, ho7⟩ := run_append_sl slH _ w6 v8 v36 H.length 1 _ _ (HV5.out.kept k6) hv36.1 (Ent.one _) (by unfold maxLen; omega) (by omega)
     refine l_new (o := ⟨some 37, _, _, _, _, _⟩) v7 w7 rfl (exec_appS slH (.tmp 34) (.tmp 36) v8 v36 rfl (by kernel_rfl) (by kernel_rfl) v7 w7 hr7) ?_
     simp only [Act.put, sA, sS, sZ]
     refine l_val (o := ⟨some 8, _, _, _, _, _⟩) (v7) rfl (exec_assign (.tmp 37) (v7) rfl (by kernel_rfl)) ?_
     simp only [Act.put, sA, sS, sZ]
     refine wpList_nil ?_
     have s6 := k6.size
     have s7 := hk7.size
     have K7 : Keep (fun b => v8.ownBlock = some b) w5 w7 := (Keep.mono (T := fun b => v8.ownBlock = some b) k6 (fun _ _ h => h.elim)).trans hk7 (fun _ _ h => h)
     have HL7 := Lib.hid (HL5.out.keep K7 (fun b hb hv => (HO5.out b hv).2 hb))
     have kF7 : Keep F w w7 := kF5.trans K7 (fun b hb hv => by have := (HO5.out b hv).1; omega)
     have HO7 : Hid (∀ b, v7.ownBlock = some b → w.heap.size ≤ b ∧ ¬ F2 b) := fun b hb => by
      rcases ho7 b hb with h | h
      ·exact HO5.out b h
      ·exact ⟨by omega, fun hF => by have := HF2.out b hF; omega⟩
     have HV7 : Hid (Sl w7 39 10 v7 (H ++ [Ent.mk e.o (mn q' e.n)]).length (ents (H ++ [Ent.mk e.o (mn q' e.n)]))) := by
      show Sl _ _ _ _ _ _
      rw [List.length_append, ents_snoc]
      exact hs7
     have hb9n : ¬ v8.ownBlock = some b9 := fun h => by have := HVL.out b9 h; omega
     have HBR7 := Lib.hid (range_keep HBR.out K7 hb9n)
     clear hs7 hk7 ho7 hr7 hv36 HL5 HO5 HV5 HBR k6 K7 hb9n
     go_upto_region 7 with fail
     refine wp_text 4 [.eq (.int .i64 q'), .eq (.pointer (some ⟨b9, 9, none⟩)), .eq (.int .i64 (Ent.mk e.o (mn q' e.n)).n), .eq (.int .i64 (q' - mn q' e.n))] rfl (by kernel_rfl) ?_ ?_
     ·refine sv 1 rfl rfl rfl (fun a u hE hD hk => exec_move (.tmp 2) _ rfl (hE 2 (.int .i64 q') (by kernel_rfl) (by kernel_rfl))) ?_
      refine sv 2 rfl rfl rfl (fun a u hE hD hk => exec_fldo 39 1 9 (.tmp 9) (b9) (0) (9) rfl (hE 9 (.pointer (some ⟨b9, 0, none⟩)) (by kernel_rfl) (by kernel_rfl)) (by kernel_rfl) rfl) ?_
      refine sv 3 rfl rfl rfl (fun a u hE hD hk => exec_loadi 3 Try.underlying3 (.tmp 39) ⟨b9, 9, none⟩ (.int .i64 (Ent.mk e.o (mn q' e.n)).n) rfl (hD 1 39 (by kernel_rfl)) (range_int (range_kept HBR7.out hk) 9 _ rfl)) ?_
      refine sv 4 rfl rfl rfl (fun a u hE hD hk => exec_subn (q' - mn q' e.n) rfl (hD 0 38 (by kernel_rfl)) (hD 2 40 (by kernel_rfl)) rfl (by omega) (by omega)) ?_
      exact fsteps_nil
     intro gv w8 hV k8
     rw [show dstsOf _ 4 = [38, 39, 40, 41] by kernel_rfl]
     simp only [fC, fN, sA, sS, sZ, dS, dZ]
     rw [show gv 41 = .int .i64 (q' - mn q' e.n) from hV 3 41 (by kernel_rfl)]
     clear hV
     refine l_val (o := ⟨some 2, _, _, _, _, _⟩) (.int .i64 (q' - mn q' e.n)) rfl (exec_assign (.tmp 41) (.int .i64 (q' - mn q' e.n)) rfl (by kernel_rfl)) ?_
     simp only [Act.put, sA, sS, sZ]
     refine wpList_nil ?_
     have HW8 : Hid (((H ++ [Ent.mk e.o (mn q' e.n)]).length : Int) + wholeM (nextM e (mn q' e.n) R) ≤ wholeM X) := by
      show _ ≤ _
      have h1 := HW.out
      rw [next_whole, List.length_append]
      rw [wholeM_cons] at h1
      simp only [List.length_cons, List.length_nil]
      omega
     have HX8 := Lib.hid (next_good HX.out (n := mn q' e.n) (by omega) hmn1.2)
     have HL8 := Lib.hid (HL7.out.kept k8)
     have HV8 := Lib.hid (HV7.out.kept k8)
     have kF8 := kF7.kept k8
     clear HW HX HL7 HV7 kF7 k8 hln
     go_wp2
     exact ⟨⟨q' - mn q' e.n, H ++ [Ent.mk e.o (mn q' e.n)], nextM e (mn q' e.n) R, F2, rfl, by omega, HV8, HO7, HL8, HX8, HG5, kF8, HW8, HD⟩, by simp [intOf]; omega⟩
  ·skip
   obtain ⟨h1, h2, v, hB, hS, h5⟩ := HL.out
   obtain ⟨m, hm⟩ : ∃ m, X'.length = m := ⟨_, rfl⟩
   rw [hm] at hS
   have HB := Lib.hid hB
   have HS := Lib.hid hS
   have hpl := h2 p h1
   clear hB hS h1 h2 h5
   have HD := Lib.hid (take_done (t := takeM firm q X) HT.out (takeM_zero firm q' X' (by omega)))
   clear HT
   go_upto_region 2 with fail
   refine wp_text 10 [.eq (.int .i64 q'), .eq (.bool false), .eq (.bool false), .eq undef, .eq undef, .eq undef, .eq undef, .eq undef, .eq undef, .eq (.bool false)] rfl (by kernel_rfl) ?_ ?_
   ·refine sv 1 rfl rfl rfl (fun a u hE hD hk => exec_move (.tmp 2) _ rfl (hE 2 (.int .i64 q') (by kernel_rfl) (by kernel_rfl))) ?_
    refine fsteps_cons 2 rfl (fun a u hE hD hk => f_as (show ((decide ((0 : Int) < (q' : Int))) : Bool) = false from decide_eq_false hq0) (f_val (o := ⟨some 11, _, _, _, _, _⟩) (.bool (decide ((0 : Int) < (q' : Int)))) rfl (wanted_none rfl _) (exec_gtn (p := (q')) (q := 0) rfl (hD 0 10 (by kernel_rfl)) rfl) rfl)) ?_
    refine sv 3 rfl rfl rfl (fun a u hE hD hk => exec_move (.tmp 11) _ rfl (hD 1 11 (by kernel_rfl))) ?_
    refine fsteps_cons 4 rfl (fun a u hE hD hk => f_skip (o := ⟨some 13, _, _, _, _, _⟩) rfl (wanted_at (b := true) false rfl rfl (hD 2 12 (by kernel_rfl))) rfl) ?_
    refine fsteps_cons 5 rfl (fun a u hE hD hk => f_skip (o := ⟨some 14, _, _, _, _, _⟩) rfl (wanted_at (b := true) false rfl rfl (hD 2 12 (by kernel_rfl))) rfl) ?_
    refine fsteps_cons 6 rfl (fun a u hE hD hk => f_skip (o := ⟨some 15, _, _, _, _, _⟩) rfl (wanted_at (b := true) false rfl rfl (hD 2 12 (by kernel_rfl))) rfl) ?_
    refine fsteps_cons 7 rfl (fun a u hE hD hk => f_skip (o := ⟨some 16, _, _, _, _, _⟩) rfl (wanted_at (b := true) false rfl rfl (hD 2 12 (by kernel_rfl))) rfl) ?_
    refine fsteps_cons 8 rfl (fun a u hE hD hk => f_skip (o := ⟨some 17, _, _, _, _, _⟩) rfl (wanted_at (b := true) false rfl rfl (hD 2 12 (by kernel_rfl))) rfl) ?_
    refine fsteps_cons 9 rfl (fun a u hE hD hk => f_skip (o := ⟨some 18, _, _, _, _, _⟩) rfl (wanted_at (b := true) false rfl rfl (hD 2 12 (by kernel_rfl))) rfl) ?_
    refine sv 10 rfl rfl rfl (fun a u hE hD hk => exec_pickF (.tmp 12) (.tmp 18) (.const (.bool false)) (.bool false) rfl (hD 2 12 (by kernel_rfl)) rfl) ?_
    exact fsteps_nil
   intro gv w1 hV k1
   rw [show dstsOf _ 10 = [10, 11, 12, 13, 14, 15, 16, 17, 18, 19] by kernel_rfl]
   simp only [fC, fN, sA, sS, sZ, dS, dZ]
   rw [show gv 19 = .bool false from hV 9 19 (by kernel_rfl)]
   clear hV
   refine wpList_nil ?_
   have kF1 := hkF.kept k1
   have s1 := k1.size
   go_wp2
   go_ret2
   refine ⟨F', v8, ?_, ?_, ?_, HO.out, HG.out, kF1⟩
   ·rw [HD.out]; rfl
   ·rw [HD.out]; exact HL.out.kept k1
   ·rw [HD.out]; exact HV.out.kept k1
end Go.Proofs.Ytfpfpmhkkgfdbaa
namespace Go.Proofs.Ytfpfpmhkkgfdbaa
open Go.RowKit
set_option maxRecDepth 100000
variable {pr : Int}
def caps (g1 g2 : Nat) : List Value := [.pointer (some ⟨g1, 0, none⟩), .pointer (some ⟨g2, 0, none⟩)]
section
variable {a : Act} {o : Oper} {u : World}
theorem exec_callv (f : Nat) (fn : Func) (x : Operand) (xs : List Operand) (ts : Array TypeId) (args caps : List Value) (hf : Try.prog.funcs[f]? = some fn) (hn : (fn.name == "runtime.NumGoroutine") = false) (hb : fn.body.isNone = false) (hop : o.op = .call { callee := .value x, args := xs.toArray, argTypes := ts }) (hv : a.eval x = .func (.func f) #[] caps.toArray) (hx : xs.map a.eval = args) :
  (execOp a.eval o).run Try.prog u = .ok (.enter f (args ++ caps).toArray) u := by
 have hc : (callFunc f (args ++ caps).toArray).run Try.prog u = .ok (.enter f (args ++ caps).toArray) u := by
  have hn' : ¬ fn.name = "runtime.NumGoroutine" := by simpa using hn
  have hb' : ¬ fn.body = none := by
   intro h
   rw [h] at hb
   cases hb
  simp [callFunc, hf, hn', hb']
 unfold execOp
 simp only [hop, resolve, invoke, hv, List.map_toArray, hx, Sem.run_bind]
 simp [Deferred.ofValue, hc]
end
end Go.Proofs.Ytfpfpmhkkgfdbaa
namespace Go.Proofs.Ytfpfpmhkkgfdbaa
open Go.RowKit
set_option maxRecDepth 100000
variable {pr : Int}
theorem Sl.shrink {w : World} {T : TypeId} {k n c m : Nat} {A : Option Addr} {cs : List Value} (h : Sl w T k (.slice A n c) n cs) (hm : m ≤ n) : Sl w T k (.slice A m c) m (cs.take (m * k)) := by
 obtain ⟨hl1, A', c', e', h1, h2, h3, h4⟩ := h
 injection e' with e1 e2 e3
 subst e1 e3
 have hlk : m * k ≤ n * k := Nat.mul_le_mul_right k hm
 refine ⟨by rw [List.length_take, hl1]; omega, _, c, rfl, by omega, h2, h3, fun ad had => ?_⟩
 obtain ⟨g, off, cur, rfl, hB, h5, h6⟩ := h4 ad had
 refine ⟨g, off, cur, rfl, hB, h5, ?_⟩
 rw [← h6, List.take_take, Nat.min_eq_left hlk]
section
variable {a : Act} {o : Oper} {u : World} {t T : TypeId} {k bytes : Nat}
theorem exec_slcL (ht : SlT t T k bytes) (x y : Operand) (v vr : Value) (L : Int) (hop : o.op = .slice t x (some y) none none) (hx : a.eval x = v) (hy : a.eval y = .int .i64 L) (h : (Instr.slice t v (some (.int .i64 L)) none none).run Try.prog u = .ok vr u) : (execOp a.eval o).run Try.prog u = .ok (.value vr) u :=
 exec_slcS ht x (some y) none none v vr hop hx (by simp only [Option.map_some, Option.map_none, hy]; exact h)
theorem exec_slcH (ht : SlT t T k bytes) (x y : Operand) (v vr : Value) (L : Int) (hop : o.op = .slice t x none (some y) none) (hx : a.eval x = v) (hy : a.eval y = .int .i64 L) (h : (Instr.slice t v none (some (.int .i64 L)) none).run Try.prog u = .ok vr u) : (execOp a.eval o).run Try.prog u = .ok (.value vr) u :=
 exec_slcS ht x none (some y) none v vr hop hx (by simp only [Option.map_some, Option.map_none, hy]; exact h)
theorem exec_slcLH (ht : SlT t T k bytes) (x y z : Operand) (v vr : Value) (L H : Int) (hop : o.op = .slice t x (some y) (some z) none) (hx : a.eval x = v) (hy : a.eval y = .int .i64 L) (hz : a.eval z = .int .i64 H) (h : (Instr.slice t v (some (.int .i64 L)) (some (.int .i64 H)) none).run Try.prog u = .ok vr u) : (execOp a.eval o).run Try.prog u = .ok (.value vr) u :=
 exec_slcS ht x (some y) (some z) none v vr hop hx (by simp only [Option.map_some, Option.map_none, hy, hz]; exact h)
theorem exec_slcLHM (ht : SlT t T k bytes) (x y z m : Operand) (v vr : Value) (L H M : Int) (hop : o.op = .slice t x (some y) (some z) (some m)) (hx : a.eval x = v) (hy : a.eval y = .int .i64 L) (hz : a.eval z = .int .i64 H) (hm : a.eval m = .int .i64 M) (h : (Instr.slice t v (some (.int .i64 L)) (some (.int .i64 H)) (some (.int .i64 M))).run Try.prog u = .ok vr u) : (execOp a.eval o).run Try.prog u = .ok (.value vr) u :=
 exec_slcS ht x (some y) (some z) (some m) v vr hop hx (by simp only [Option.map_some, hy, hz, hm]; exact h)
theorem run_lhm (ht : SlT t T k bytes) (A : Option Addr) (n c l h : Nat) (h1 : l ≤ h) (h2 : h ≤ n) (h3 : n ≤ c) : ∃ v, ∀ u, (Instr.slice t (.slice A n c) (some (.int .i64 (l : Int))) (some (.int .i64 (h : Int))) (some (.int .i64 (n : Int)))).run Try.prog u = .ok v u := by
 obtain ⟨z, hz, hz2, _⟩ := ht.info
 obtain ⟨i0, hi, hz0, hz1, hzb⟩ := info_parts hz
 have hr := fun u => run_slice_lhm (P := Try.prog) (w := u) t A n c (by rw [ht.elem]; exact ht.und) .i64 .i64 .i64 (l : Int) (h : Int) (n : Int) (by omega) (by omega) (by omega) (by omega)
 refine ⟨sliced A l h n k, fun u => ?_⟩
 rw [hr, ht.elem]
 simp [sizeOf, typeInfo, hi, hz1]
theorem run_lh (ht : SlT t T k bytes) (g off n c l h : Nat) (h1 : l < h) (h3 : h ≤ c) (u : World) : (Instr.slice t (.slice (some ⟨g, off, none⟩) n c) (some (.int .i64 (l : Int))) (some (.int .i64 (h : Int))) none).run Try.prog u = .ok (.slice (some ⟨g, off + l * k, none⟩) (h - l) (c - l)) u := by
 obtain ⟨z, hz, hz2, _⟩ := ht.info
 obtain ⟨i0, hi, hz0, hz1, hzb⟩ := info_parts hz
 rw [run_slice_lh (P := Try.prog) (w := u) t (some ⟨g, off, none⟩) n c (by rw [ht.elem]; exact ht.und) .i64 .i64 (l : Int) (h : Int) (by omega) (by omega) (by omega), ht.elem]
 have : ¬ c = l := by omega
 simp [sizeOf, typeInfo, hi, hz1, sliced, this, Addr.add_mid]
end
end Go.Proofs.Ytfpfpmhkkgfdbaa
namespace Go.Proofs.Ytfpfpmhkkgfdbaa
open Go.RowKit
set_option maxRecDepth 100000
abbrev Zs := List (Nat × Lev)
def ptrs (Z : Zs) : List Value := Z.map fun z => .pointer (some ⟨z.1, 0, none⟩)
def levs (Z : Zs) : List Lev := Z.map (·.2)
theorem ptrs_len (Z : Zs) : (ptrs Z).length = Z.length := by simp [ptrs]
theorem ptrs_one (Z : Zs) : ∀ u ∈ ptrs Z, u.oneCell' = true := by
 intro u hu
 obtain ⟨z, _, rfl⟩ := List.mem_map.1 hu
 rfl
theorem ptrs_append (A B : Zs) : ptrs (A ++ B) = ptrs A ++ ptrs B := by simp [ptrs]
theorem levs_append (A B : Zs) : levs (A ++ B) = levs A ++ levs B := by simp [levs]
theorem levs_cons (z : Nat × Lev) (B : Zs) : levs (z :: B) = z.2 :: levs B := rfl
theorem levs_len (Z : Zs) : (levs Z).length = Z.length := by simp [levs]
structure WayZ (T E P : TypeId) (w : World) (F : Nat → Prop) (v : Value) (Z : Zs) (G : Nat → Nat → Prop) : Prop where
 sl : Sl w P 1 v Z.length (ptrs Z)
 lv : ∀ z ∈ Z, Lvl z.2.1 T E w (G z.1) z.1 z.2.2
 ap : Z.Pairwise fun x y => ∀ b, G x.1 b → ¬ G y.1 b
 in_ : ∀ z ∈ Z, ∀ b, G z.1 b → F b
 own : ∀ b, v.ownBlock = some b → F b ∧ ∀ z ∈ Z, ¬ G z.1 b
 lt : ∀ b, F b → b < w.heap.size
def Way (T E P : TypeId) (w : World) (F : Nat → Prop) (v : Value) (L : List Lev) : Prop := ∃ Z G, levs Z = L ∧ WayZ T E P w F v Z G
section
variable {T E P : TypeId} {w w' : World} {F : Nat → Prop} {v : Value} {Z : Zs} {G : Nat → Nat → Prop}
theorem WayZ.keep {S : Nat → Prop} (h : WayZ T E P w F v Z G) (hk : Keep S w w') (hn : ∀ b, F b → ¬ S b) : WayZ T E P w' F v Z G :=
 ⟨h.sl.keep hk (fun b hb => hn b (h.own b hb).1), fun z hz => (h.lv z hz).keep hk (fun b hb => hn b (h.in_ z hz b hb)), h.ap, h.in_, h.own, fun b hb => Nat.lt_of_lt_of_le (h.lt b hb) hk.size⟩
theorem WayZ.kept (h : WayZ T E P w F v Z G) (hk : Kept w w') : WayZ T E P w' F v Z G := h.keep hk (fun _ _ h => h)
theorem Way.keep {S : Nat → Prop} {L : List Lev} (h : Way T E P w F v L) (hk : Keep S w w') (hn : ∀ b, F b → ¬ S b) : Way T E P w' F v L := by
 obtain ⟨Z, G, e, h⟩ := h
 exact ⟨Z, G, e, h.keep hk hn⟩
theorem Way.kept {L : List Lev} (h : Way T E P w F v L) (hk : Kept w w') : Way T E P w' F v L := h.keep hk (fun _ _ h => h)
theorem Way.lt {L : List Lev} (h : Way T E P w F v L) : ∀ b, F b → b < w.heap.size := by
 obtain ⟨Z, G, e, h⟩ := h
 exact h.lt
theorem WayZ.nil (w : World) : WayZ T E P w (fun _ => False) (.slice none 0 0) [] G := ⟨Sl.nil _ _ _, by simp, List.Pairwise.nil, by simp, fun b hb => by simp [Value.ownBlock] at hb, fun b h => h.elim⟩
theorem Way.nil (w : World) : Way T E P w (fun _ => False) (.slice none 0 0) [] := ⟨[], fun _ _ => False, rfl, WayZ.nil w⟩
theorem WayZ.wide {F' : Nat → Prop} (h : WayZ T E P w F v Z G) (h1 : ∀ b, F b → F' b) (h2 : ∀ b, F' b → b < w.heap.size) : WayZ T E P w F' v Z G :=
 ⟨h.sl, h.lv, h.ap, fun z hz b hb => h1 b (h.in_ z hz b hb), fun b hb => ⟨h1 b (h.own b hb).1, (h.own b hb).2⟩, h2⟩
theorem WayZ.cell {gs os n c : Nat} (h : WayZ T E P w F (.slice (some ⟨gs, os, none⟩) n c) Z G) {i : Nat} {z : Nat × Lev} (hz : Z[i]? = some z) : w.cell? ⟨gs, os + i * 1, none⟩ = some (.pointer (some ⟨z.1, 0, none⟩)) := by
 obtain ⟨hl, A, c', e', h1, h2, h3, h4⟩ := h.sl
 injection e' with e1 e2 e3
 subst e1 e3
 obtain ⟨g', off', cur, e, hB, h5, h6⟩ := h4 _ rfl
 injection e with e1 e2
 subst e1 e2
 rw [Nat.mul_one]
 exact seg_cell hB h6 i _ (by rw [ptrs, List.getElem?_map, hz]; rfl)
theorem WayZ.some_ (h : WayZ T E P w F v Z G) (hn : 0 < Z.length) : ∃ g off c, v = .slice (some ⟨g, off, none⟩) Z.length c := h.sl.some_ hn
theorem WayZ.apart {A R : Zs} {z : Nat × Lev} (h : WayZ T E P w F v (A ++ z :: R) G) : ∀ x ∈ A ++ R, ∀ b, G x.1 b → ¬ G z.1 b := by
 have h1 := h.ap
 rw [List.pairwise_append, List.pairwise_cons] at h1
 obtain ⟨_, ⟨h2, _⟩, h3⟩ := h1
 intro x hx b hb hz
 rcases List.mem_append.1 hx with hx | hx
 ·exact h3 x hx z (by simp) b hb hz
 ·exact h2 x hx b hz hb
theorem WayZ.ne_ {A R : Zs} {z : Nat × Lev} (h : WayZ T E P w F v (A ++ z :: R) G) : ∀ x ∈ A ++ R, x.1 ≠ z.1 := fun x hx e => by
 have h1 := (h.lv x (by rcases List.mem_append.1 hx with hx | hx <;> simp [hx])).1
 exact h.apart x hx x.1 h1 (by rw [e]; exact (h.lv z (by simp)).1)
theorem WayZ.turn {A R : Zs} {q : Nat} {pr : Int} {X X' : List Ent} {F1 : Nat → Prop} (h : WayZ T E P w F v (A ++ (q, pr, X) :: R) G) (hk : Keep (G q) w w') (h1 : Lvl pr T E w' F1 q X') (hg : Grow w (G q) F1) :
  ∃ F' G', WayZ T E P w' F' v (A ++ (q, pr, X') :: R) G' ∧ Grow w F F' ∧ Keep F w w' ∧ (∀ b, F b → F' b) := by
 have hq := h.lv (q, pr, X) (by simp)
 have hap := h.apart
 have hne := h.ne_
 simp only at hap hne
 have hin : ∀ b, G q b → F b := h.in_ (q, pr, X) (by simp)
 have hmem : ∀ x ∈ A ++ R, x ∈ A ++ (q, pr, X) :: R := fun x hx => by rcases List.mem_append.1 hx with hx | hx <;> simp [hx]
 have hnew : ∀ x ∈ A ++ R, ∀ b, G x.1 b → ¬ F1 b := fun x hx b hb hF => by
  rcases hg b hF with h' | h'
  ·exact hap x hx b hb h'
  ·have := h.lt b (h.in_ x (hmem x hx) b hb); omega
 refine ⟨fun b => F b ∨ F1 b, fun p b => if p = q then F1 b else G p b, ⟨?_, ?_, ?_, ?_, ?_, ?_⟩, ?_, hk.mono (fun b _ hb => hin b hb), fun b hb => .inl hb⟩
 ·have e : ptrs (A ++ (q, pr, X') :: R) = ptrs (A ++ (q, pr, X) :: R) := by simp [ptrs]
  have e2 : (A ++ (q, pr, X') :: R).length = (A ++ (q, pr, X) :: R).length := by simp
  rw [e, e2]
  exact h.sl.keep hk (fun b hb => (h.own b hb).2 (q, pr, X) (by simp))
 ·intro x hx
  by_cases hxe : x = (q, pr, X')
  ·subst hxe
   simp only [if_true]
   exact h1
  ·have hx' : x ∈ A ++ R := by
    rcases List.mem_append.1 hx with hx | hx
    ·simp [hx]
    ·rcases List.mem_cons.1 hx with hx | hx
     ·exact absurd hx hxe
     ·simp [hx]
   simp only [if_neg (hne x hx')]
   exact (h.lv x (hmem x hx')).keep hk (hap x hx')
 ·have h2 := h.ap
  rw [List.pairwise_append, List.pairwise_cons] at h2 ⊢
  obtain ⟨p1, ⟨p2, p3⟩, p4⟩ := h2
  have hA : ∀ x ∈ A, x.1 ≠ q := fun x hx => hne x (by simp [hx])
  have hR : ∀ x ∈ R, x.1 ≠ q := fun x hx => hne x (by simp [hx])
  refine ⟨?_, ⟨?_, ?_⟩, ?_⟩
  ·refine p1.imp_of_mem ?_
   intro x y hx hy hxy
   simp only [if_neg (hA x hx), if_neg (hA y hy)]
   exact hxy
  ·intro x hx b
   simp only [if_true, if_neg (hR x hx)]
   intro hb hb'
   exact hnew x (by simp [hx]) b hb' hb
  ·refine p3.imp_of_mem ?_
   intro x y hx hy hxy
   simp only [if_neg (hR x hx), if_neg (hR y hy)]
   exact hxy
  ·intro x hx y hy b
   simp only [if_neg (hA x hx)]
   rcases List.mem_cons.1 hy with rfl | hy
   ·simp only [if_true]
    exact hnew x (by simp [hx]) b
   ·simp only [if_neg (hR y hy)]
    exact p4 x hx y (by simp [hy]) b
 ·intro x hx b hb
  by_cases hxq : x.1 = q
  ·simp only [if_pos hxq] at hb
   exact .inr hb
  ·simp only [if_neg hxq] at hb
   have hx' : x ∈ A ++ R := by
    rcases List.mem_append.1 hx with hx | hx
    ·simp [hx]
    ·rcases List.mem_cons.1 hx with hx | hx
     ·exact absurd (by rw [hx]) hxq
     ·simp [hx]
   exact .inl (h.in_ x (hmem x hx') b hb)
 ·intro b hb
  refine ⟨.inl (h.own b hb).1, fun x hx hx' => ?_⟩
  by_cases hxq : x.1 = q
  ·simp only [if_pos hxq] at hx'
   rcases hg b hx' with h' | h'
   ·exact (h.own b hb).2 (q, pr, X) (by simp) h'
   ·have := h.sl.lt hb; omega
  ·simp only [if_neg hxq] at hx'
   have hx2 : x ∈ A ++ R := by
    rcases List.mem_append.1 hx with hx | hx
    ·simp [hx]
    ·rcases List.mem_cons.1 hx with hx | hx
     ·exact absurd (by rw [hx]) hxq
     ·simp [hx]
   exact (h.own b hb).2 x (hmem x hx2) hx'
 ·intro b hb
  rcases hb with hb | hb
  ·exact Nat.lt_of_lt_of_le (h.lt b hb) hk.size
  ·exact h1.2.1 b hb
 ·intro b hb
  rcases hb with hb | hb
  ·exact .inl hb
  ·exact (hg b hb).imp (hin b) id
theorem WayZ.fewer {Z' : Zs} {v' : Value} (h : WayZ T E P w F v Z G) (hs : Z'.Sublist Z) (hk : Keep (fun b => v.ownBlock = some b) w w') (hv : Sl w' P 1 v' Z'.length (ptrs Z')) (ho : ∀ b, v'.ownBlock = some b → v.ownBlock = some b ∨ w.heap.size ≤ b) :
  ∃ F', WayZ T E P w' F' v' Z' G ∧ Grow w F F' ∧ Keep F w w' ∧ ∀ b, F b → F' b := by
 refine ⟨fun b => F b ∨ v'.ownBlock = some b, ⟨hv, fun z hz => (h.lv z (hs.subset hz)).keep hk (fun b hb hb' => (h.own b hb').2 z (hs.subset hz) hb), h.ap.sublist hs, fun z hz b hb => .inl (h.in_ z (hs.subset hz) b hb), fun b hb => ⟨.inr hb, fun z hz hz' => ?_⟩, fun b hb => ?_⟩, fun b hb => ?_, hk.mono (fun b _ hb => (h.own b hb).1), fun b hb => .inl hb⟩
 ·rcases ho b hb with h' | h'
  ·exact (h.own b h').2 z (hs.subset hz) hz'
  ·have := h.lt b (h.in_ z (hs.subset hz) b hz'); omega
 ·rcases hb with hb | hb
  ·exact Nat.lt_of_lt_of_le (h.lt b hb) hk.size
  ·exact hv.lt hb
 ·rcases hb with hb | hb
  ·exact .inl hb
  ·rcases ho b hb with h' | h'
   ·exact .inl (h.own b h').1
   ·exact .inr h'
theorem WayZ.more {A R : Zs} {v' : Value} {q : Nat} {pr : Int} {F1 : Nat → Prop} (h : WayZ T E P w F v (A ++ R) G) (hk : Keep (fun b => v.ownBlock = some b) w w') (hv : Sl w' P 1 v' (A.length + 1 + R.length) (ptrs (A ++ (q, pr, []) :: R))) (ho : ∀ b, v'.ownBlock = some b → (v.ownBlock = some b ∨ w.heap.size ≤ b) ∧ ¬ F1 b)
  (h1 : Lvl pr T E w' F1 q []) (hn : ∀ b, F1 b → w.heap.size ≤ b) :
  ∃ F' G', WayZ T E P w' F' v' (A ++ (q, pr, []) :: R) G' ∧ Grow w F F' ∧ Keep F w w' ∧ ∀ b, F b → F' b := by
 have hmq : ∀ x ∈ A ++ R, x.1 ≠ q := fun x hx e => by
  have h2 := h.lt x.1 (h.in_ x hx _ (h.lv x hx).1)
  have h3 := hn q h1.1
  omega
 have hmem : ∀ x ∈ A ++ (q, pr, ([] : List Ent)) :: R, x = (q, pr, []) ∨ x ∈ A ++ R := fun x hx => by
  rcases List.mem_append.1 hx with hx | hx
  ·exact .inr (by simp [hx])
  ·rcases List.mem_cons.1 hx with hx | hx
   ·exact .inl hx
   ·exact .inr (by simp [hx])
 have hdis : ∀ x ∈ A ++ R, ∀ b, G x.1 b → ¬ F1 b := fun x hx b hb hF => by
  have h2 := h.lt b (h.in_ x hx b hb)
  have h3 := hn b hF
  omega
 refine ⟨fun b => F b ∨ v'.ownBlock = some b ∨ F1 b, fun p b => if p = q then F1 b else G p b, ⟨?_, ?_, ?_, ?_, ?_, ?_⟩, ?_, hk.mono (fun b _ hb => (h.own b hb).1), fun b hb => .inl hb⟩
 ·rw [show (A ++ (q, pr, ([] : List Ent)) :: R).length = A.length + 1 + R.length by simp; omega]
  exact hv
 ·intro x hx
  rcases hmem x hx with rfl | hx
  ·simp only [if_true]
   exact h1
  ·simp only [if_neg (hmq x hx)]
   exact (h.lv x hx).keep hk (fun b hb hb' => (h.own b hb').2 x hx hb)
 ·have h2 := h.ap
  rw [List.pairwise_append] at h2
  rw [List.pairwise_append, List.pairwise_cons]
  obtain ⟨p1, p3, p4⟩ := h2
  have hA : ∀ x ∈ A, x.1 ≠ q := fun x hx => hmq x (by simp [hx])
  have hR : ∀ x ∈ R, x.1 ≠ q := fun x hx => hmq x (by simp [hx])
  refine ⟨?_, ⟨?_, ?_⟩, ?_⟩
  ·refine p1.imp_of_mem ?_
   intro x y hx hy hxy
   simp only [if_neg (hA x hx), if_neg (hA y hy)]
   exact hxy
  ·intro x hx b
   simp only [if_true, if_neg (hR x hx)]
   intro hb hb'
   exact hdis x (by simp [hx]) b hb' hb
  ·refine p3.imp_of_mem ?_
   intro x y hx hy hxy
   simp only [if_neg (hR x hx), if_neg (hR y hy)]
   exact hxy
  ·intro x hx y hy b
   simp only [if_neg (hA x hx)]
   rcases List.mem_cons.1 hy with rfl | hy
   ·simp only [if_true]
    exact hdis x (by simp [hx]) b
   ·simp only [if_neg (hR y hy)]
    exact p4 x hx y hy b
 ·intro x hx b hb
  rcases hmem x hx with rfl | hx
  ·simp only [if_true] at hb
   exact .inr (.inr hb)
  ·simp only [if_neg (hmq x hx)] at hb
   exact .inl (h.in_ x hx b hb)
 ·intro b hb
  refine ⟨.inr (.inl hb), fun x hx hx' => ?_⟩
  rcases hmem x hx with rfl | hx
  ·simp only [if_true] at hx'
   exact (ho b hb).2 hx'
  ·simp only [if_neg (hmq x hx)] at hx'
   rcases (ho b hb).1 with h' | h'
   ·exact (h.own b h').2 x hx hx'
   ·have := h.lt b (h.in_ x hx b hx'); omega
 ·intro b hb
  rcases hb with hb | hb | hb
  ·exact Nat.lt_of_lt_of_le (h.lt b hb) hk.size
  ·exact hv.lt hb
  ·exact h1.2.1 b hb
 ·intro b hb
  rcases hb with hb | hb | hb
  ·exact .inl hb
  ·rcases (ho b hb).1 with h' | h'
   ·exact .inl (h.own b h').1
   ·exact .inr h'
  ·exact .inr (hn b hb)
end
theorem slQ : SlT 71 97 1 8 := ⟨Try.underlying71, by kernel_rfl, ⟨.pointer none, by kernel_rfl, rfl, by intro u hu; simp [Value.cells] at hu; subst hu; rfl⟩, by omega⟩
section
variable {a : Act} {o : Oper} {u : World}
theorem exec_ldp (t e : TypeId) (hu : Try.prog.underlying t = some (.pointer e)) (x : Operand) (ad : Addr) (v : Value) (hop : o.op = .load t x) (hx : a.eval x = .pointer (some ad)) (hc : u.cell? ad = some v) :
  (execOp a.eval o).run Try.prog u = .ok (.value v) u := by
 unfold execOp
 simp only [hop, hx, Instr.loadAt, Instr.sureAddr, Sem.run_bind, Sem.run_pure, Result.andThen_ok]
 simp [loadVar, isAgg, run_underlying hu, Sem.run_bind, hc, go_sem]
theorem exec_oneP {t T : TypeId} {bytes : Nat} (ht : SlT t T 1 bytes) (x : Operand) (p : Nat) (hop : o.op = .buildSlice t 1 #[(0, x)]) (hx : a.eval x = .pointer (some ⟨p, 0, none⟩)) :
  (execOp a.eval o).run Try.prog u = .ok (.value (.slice (some ⟨u.heap.size, 0, none⟩) 1 1)) (u.alloc (.cells [.pointer (some ⟨p, 0, none⟩)].toArray T)) := by
 obtain ⟨z, hz, hz2, _⟩ := ht.info
 obtain ⟨i0, hi, hz0, hz1, hzb⟩ := info_parts hz
 unfold execOp
 simp only [hop, List.map_toArray, List.map_cons, List.map_nil, hx]
 simp [Instr.buildSlice, run_underlying ht.und, sizeOf, typeInfo, zeroValue, hi, hz0, hz1, Sem.run_bind, Value.cells, go_sem]
end
end Go.Proofs.Ytfpfpmhkkgfdbaa
namespace Go.Proofs.Ytfpfpmhkkgfdbaa
open Go.RowKit
set_option maxRecDepth 100000
def Lad (w : World) (F : Nat → Prop) (g off : Nat) (s : Int) (L : List Lev) : Prop := ∃ v, w.cell? ⟨g, off, none⟩ = some (.int .i64 s) ∧ w.cell? ⟨g, off + 1, none⟩ = some v ∧ Way 110 112 97 w F v L
theorem Lad.kept {w w' : World} {F : Nat → Prop} {g off : Nat} {s : Int} {L : List Lev} (h : Lad w F g off s L) (hk : Kept w w') : Lad w' F g off s L := by
 obtain ⟨v, h1, h2, h3⟩ := h
 exact ⟨v, hk.cell h1, hk.cell h2, h3.kept hk⟩
structure LvsOk (L : List Lev) : Prop where
 good : ∀ l ∈ L, Good l.2
 few : (entL L).length ≤ 64
 len : L.length ≤ 64
 whole : wholeL L ≤ 67108864
theorem Sid.len {s : Int} : ∀ {L : List Lev}, Sid s L → L.length ≤ (entL L).length
 | [], _ => by simp
 | l :: L, h => by
  have h1 := h.tail.len
  have h2 := List.length_pos_iff.2 (h.ne l (by simp))
  rw [entL_cons, List.length_append, List.length_cons]
  omega
theorem Sid.ok {s : Int} {L : List Lev} (h : Sid s L) : LvsOk L := ⟨fun l hl => (h.good hl).1, h.few, Nat.le_trans h.len h.few, (wholeL_le h).2⟩
theorem levs_at {Z : Zs} {i : Nat} {z : Nat × Lev} (h : Z[i]? = some z) : (levs Z)[i]? = some z.2 := by rw [levs, List.getElem?_map, h]; rfl
theorem levs_mem {Z : Zs} {z : Nat × Lev} (h : z ∈ Z) : z.2 ∈ levs Z := List.mem_map.2 ⟨z, h, rfl⟩
theorem entL_take {L : List Lev} {i : Nat} {l : Lev} (h : L[i]? = some l) : entL (L.take (i + 1)) = entL (L.take i) ++ l.2 := by
 rw [List.take_add_one, h, entL_append]
 simp [entL]
theorem entL_part (L : List Lev) (i : Nat) : (entL (L.take i)).length ≤ (entL L).length := by
 have : entL L = entL (L.take i) ++ entL (L.drop i) := by rw [← entL_append, List.take_append_drop]
 rw [this, List.length_append]
 omega
set_option maxHeartbeats 800000 in
theorem count_any (w : World) (F : Nat → Prop) (g off : Nat) (s : Int) (L : List Lev) (h : Lad w F g off s L) (hL : LvsOk L) : Gives 60 #[.pointer (some ⟨g, off, none⟩)] w (.eq (.int .i64 ((entL L).length : Int))) := by
 refine gives_eq ?_
 obtain ⟨v, hs0, hv0, Z, G, eL, hW⟩ := h
 have hn64 : Z.length ≤ 64 := by have := hL.len; rw [← eL, levs_len] at this; exact this
 have HS := Lib.hid hs0
 have HV := Lib.hid hv0
 have HW := Lib.hid hW
 have HL := Lib.hid hL
 have EL := Lib.hid eL
 obtain ⟨n, hn⟩ : ∃ n, Z.length = n := ⟨_, rfl⟩
 have HSL := Lib.hid hW.sl
 rw [hn] at HSL hn64
 have HN := Lib.hid hn
 clear hs0 hv0 hW hL eL hn
 go_enter Try.func60, Try.ntmps60
 go_upto_region 2 with fail
 refine wp_text 6 [.eq (.pointer (some ⟨g, off, none⟩)), .eq (.pointer (some ⟨g, off, none⟩)), .eq (.pointer (some ⟨g, off + 1, none⟩)), .eq (v), .eq (.int .i64 (n : Int)), .eq (.int .i64 0)] rfl (by kernel_rfl) ?_ ?_
 ·refine sv 1 rfl rfl rfl (fun a u hE hD hk => exec_move (.tmp 0) _ rfl (hE 0 (.pointer (some ⟨g, off, none⟩)) (by kernel_rfl) (by kernel_rfl))) ?_
  refine sv 2 rfl rfl rfl (fun a u hE hD hk => exec_nilp (.tmp 6) ⟨g, off, none⟩ rfl (hD 0 6 (by kernel_rfl))) ?_
  refine sv 3 rfl rfl rfl (fun a u hE hD hk => exec_fldo 73 1 1 (.tmp 7) (g) (off) (off + 1) rfl (hD 1 7 (by kernel_rfl)) (by kernel_rfl) rfl) ?_
  refine sv 4 rfl rfl rfl (fun a u hE hD hk => exec_ldv 71 _ Try.underlying71 (.tmp 8) ⟨g, off + 1, none⟩ (v) rfl (hD 2 8 (by kernel_rfl)) (Kept.cell hk (HV.out))) ?_
  refine sv 5 rfl rfl rfl (fun a u hE hD hk => exec_lenS (.tmp 9) slQ (v) (n) _ _ rfl (hD 3 9 (by kernel_rfl)) HSL.out) ?_
  refine sv 6 rfl rfl rfl (fun a u hE hD hk => exec_move (.const (.int .i64 0)) _ rfl rfl) ?_
  exact fsteps_nil
 intro gv w0 hV k0
 rw [show dstsOf _ 6 = [6, 7, 8, 9, 10, 11] by kernel_rfl]
 simp only [fC, fN, sA, sS, sZ, dS, dZ]
 rw [show gv 9 = v from hV 3 9 (by kernel_rfl)]
 rw [show gv 10 = .int .i64 (n : Int) from hV 4 10 (by kernel_rfl)]
 rw [show gv 11 = .int .i64 0 from hV 5 11 (by kernel_rfl)]
 clear hV
 refine wpList_nil ?_
 go_wp2_with fail
 go_loopw [3, 11] (fun t q wr => ∃ (i : Nat) (m : Nat), i ≤ n ∧ q = .int .i64 i ∧ t = .int .i64 (m : Int) ∧ Hid (m = (entL (L.take i)).length) ∧ Kept w wr) (fun _ q _ => n - (intOf q).toNat)
 case atStart => exact ⟨0, 0, Nat.zero_le _, rfl, rfl, by show _ = _; rw [List.take_zero]; rfl, k0⟩
 case round =>
  obtain ⟨i, m, hi, rfl, rfl, HM, hkr⟩ := hrel
  by_cases hlt : i < n
  ·skip
   obtain ⟨gs, os, c, rfl⟩ := HSL.out.some_ (by omega)
   obtain ⟨z, hz⟩ : ∃ z, Z[i]? = some z := ⟨Z[i]'(by rw [HN.out]; omega), List.getElem?_eq_getElem (by rw [HN.out]; omega)⟩
   obtain ⟨q, pr, X⟩ := z
   have hcell := (HW.out.kept hkr).cell hz
   have HC := Lib.hid hcell
   have HZ := Lib.hid hz
   have HLV := Lib.hid ((HW.out.kept hkr).lv (q, pr, X) (List.mem_of_getElem? hz))
   have HG : Hid (Good X) := HL.out.good (pr, X) (by rw [← EL.out]; exact levs_mem (List.mem_of_getElem? hz))
   have HA : Hid (L[i]? = some (pr, X)) := by show _ = _; rw [← EL.out]; exact levs_at hz
   clear hcell hz
   go_upto_region 4 with fail
   refine wp_text 3 [.eq (.pointer (some ⟨gs, os + i * 1, none⟩)), .eq (.pointer (some ⟨q, 0, none⟩)), .eq (.pointer (some ⟨q, 0, none⟩))] rfl (by kernel_rfl) ?_ ?_
   ·refine sv 1 rfl rfl rfl (fun a u hE hD hk => exec_ixo slQ (.tmp 9) (.tmp 11) (gs) (os) n c i (os + i * 1) ((i : Int)) rfl (hE 9 (.slice (some ⟨gs, os, none⟩) n c) (by kernel_rfl) (by kernel_rfl)) (hE 11 (.int .i64 (i : Int)) (by kernel_rfl) (by kernel_rfl)) (by first | rfl | omega) (hlt) (by first | rfl | omega)) ?_
    refine sv 2 rfl rfl rfl (fun a u hE hD hk => exec_ldp 97 _ Try.underlying97 (.tmp 13) ⟨gs, os + i * 1, none⟩ (.pointer (some ⟨q, 0, none⟩)) rfl (hD 0 13 (by kernel_rfl)) (Kept.cell hk (HC.out))) ?_
    refine sv 3 rfl rfl rfl (fun a u hE hD hk => exec_assign (.tmp 14) _ rfl (hD 1 14 (by kernel_rfl))) ?_
    exact fsteps_nil
   intro gv w1 hV k1
   rw [show dstsOf _ 3 = [13, 14, 5] by kernel_rfl]
   simp only [fC, fN, sA, sS, sZ, dS, dZ]
   rw [show gv 5 = .pointer (some ⟨q, 0, none⟩) from hV 2 5 (by kernel_rfl)]
   clear hV
   refine wpList_nil ?_
   have kw1 := hkr.trans k1
   have HLV1 := Lib.hid (HLV.out.kept k1)
   clear HC HLV k1
   have hm1 : m + X.length ≤ 64 := by
    have h1 := entL_part L (i + 1)
    rw [entL_take HA.out, List.length_append, ← HM.out] at h1
    simp only at h1
    have := HL.out.few
    omega
   have HM1 : Hid (m + X.length = (entL (L.take (i + 1))).length) := by
    show _ = _
    rw [entL_take HA.out, List.length_append, ← HM.out]
   obtain ⟨x, hx⟩ : ∃ x, X.length = x := ⟨_, rfl⟩
   have HX := Lib.hid hx
   rw [hx] at hm1 HM1
   clear HM hx
   go_upto_region 5 with fail
   refine wp_text 4 [.eq (.int .i64 (m : Int)), .eq (.pointer (some ⟨q, 0, none⟩)), .eq (.int .i64 (x : Int)), .eq (.int .i64 (((m : Int) : Int) + ((x : Int) : Int)))] rfl (by kernel_rfl) ?_ ?_
   ·refine sv 1 rfl rfl rfl (fun a u hE hD hk => exec_move (.tmp 3) _ rfl (hE 3 (.int .i64 (m : Int)) (by kernel_rfl) (by kernel_rfl))) ?_
    refine sv 2 rfl rfl rfl (fun a u hE hD hk => exec_move (.tmp 5) _ rfl (hE 5 (.pointer (some ⟨q, 0, none⟩)) (by kernel_rfl) (by kernel_rfl))) ?_
    refine fsteps_cons 3 rfl (fun a u hE hD hk => f_call (o := ⟨some 17, _, _, _, _, _⟩) 83 #[.pointer (some ⟨q, 0, none⟩)] rfl (wanted_none rfl _) (exec_call 83 _ [.tmp 16] _ [.pointer (some ⟨q, 0, none⟩)] Try.func83 (by kernel_rfl) (by kernel_rfl) rfl (show [a.eval (.tmp 16)] = [.pointer (some ⟨q, 0, none⟩)] from (by rw [show a.eval (.tmp 16) = .pointer (some ⟨q, 0, none⟩) from (hD 1 16 (by kernel_rfl))] <;> rfl)) u) ((by have h := len_any u _ q X (HLV1.out.kept hk); rw [HX.out] at h; exact h))) ?_
    refine sv 4 rfl rfl rfl (fun a u hE hD hk => exec_addn (p := ((m : Int))) (q := ((x : Int))) (((m : Int) : Int) + ((x : Int) : Int)) rfl (hD 0 15 (by kernel_rfl)) (hD 2 17 (by kernel_rfl)) rfl (by omega) (by omega)) ?_
    exact fsteps_nil
   intro gv w2 hV k2
   rw [show dstsOf _ 4 = [15, 16, 17, 18] by kernel_rfl]
   simp only [fC, fN, sA, sS, sZ, dS, dZ]
   rw [show gv 18 = .int .i64 (((m : Int) : Int) + ((x : Int) : Int)) from hV 3 18 (by kernel_rfl)]
   clear hV
   refine l_val (o := ⟨some 3, _, _, _, _, _⟩) (.int .i64 (((m : Int) : Int) + ((x : Int) : Int))) rfl (exec_assign (.tmp 18) (.int .i64 (((m : Int) : Int) + ((x : Int) : Int))) rfl (by kernel_rfl)) ?_
   simp only [Act.put, sA, sS, sZ]
   refine wpList_nil ?_
   have kw2 := kw1.trans k2
   clear HLV1 k2
   go_wp2
   exact ⟨⟨i + 1, m + x, by omega, by go_num, by go_num, HM1, kw2⟩, by simp [intOf]; omega⟩
  ·have HF : Hid (m = (entL L).length) := by
    show _ = _
    rw [HM.out, List.take_of_length_le (by rw [← EL.out, levs_len, HN.out]; omega)]
   clear HM
   go_wp2
   go_ret
   exact ⟨by rw [← HF.out]; rfl, hkr⟩
set_option maxHeartbeats 800000 in
theorem lorders_any (w : World) (F : Nat → Prop) (g off : Nat) (s : Int) (L : List Lev) (h : Lad w F g off s L) (hL : LvsOk L) : Gives 57 #[.pointer (some ⟨g, off, none⟩)] w (.sl w.heap.size 25 9 (ordsL L).length (ords (ordsL L))) := by
 obtain ⟨v, hs0, hv0, Z, G, eL, hW⟩ := h
 have hn64 : Z.length ≤ 64 := by have := hL.len; rw [← eL, levs_len] at this; exact this
 have HS := Lib.hid hs0
 have HV := Lib.hid hv0
 have HW := Lib.hid hW
 have HL := Lib.hid hL
 have EL := Lib.hid eL
 obtain ⟨n, hn⟩ : ∃ n, Z.length = n := ⟨_, rfl⟩
 have HSL := Lib.hid hW.sl
 rw [hn] at HSL hn64
 have HN := Lib.hid hn
 clear hs0 hv0 hW hL eL hn
 go_enter Try.func57, Try.ntmps57
 go_upto_region 2 with fail
 refine wp_text 6 [.eq (.pointer (some ⟨g, off, none⟩)), .eq (.pointer (some ⟨g, off, none⟩)), .eq (.pointer (some ⟨g, off + 1, none⟩)), .eq (v), .eq (.int .i64 (n : Int)), .eq (.int .i64 0)] rfl (by kernel_rfl) ?_ ?_
 ·refine sv 1 rfl rfl rfl (fun a u hE hD hk => exec_move (.tmp 0) _ rfl (hE 0 (.pointer (some ⟨g, off, none⟩)) (by kernel_rfl) (by kernel_rfl))) ?_
  refine sv 2 rfl rfl rfl (fun a u hE hD hk => exec_nilp (.tmp 6) ⟨g, off, none⟩ rfl (hD 0 6 (by kernel_rfl))) ?_
  refine sv 3 rfl rfl rfl (fun a u hE hD hk => exec_fldo 73 1 1 (.tmp 7) (g) (off) (off + 1) rfl (hD 1 7 (by kernel_rfl)) (by kernel_rfl) rfl) ?_
  refine sv 4 rfl rfl rfl (fun a u hE hD hk => exec_ldv 71 _ Try.underlying71 (.tmp 8) ⟨g, off + 1, none⟩ (v) rfl (hD 2 8 (by kernel_rfl)) (Kept.cell hk (HV.out))) ?_
  refine sv 5 rfl rfl rfl (fun a u hE hD hk => exec_lenS (.tmp 9) slQ (v) (n) _ _ rfl (hD 3 9 (by kernel_rfl)) HSL.out) ?_
  refine sv 6 rfl rfl rfl (fun a u hE hD hk => exec_move (.const (.int .i64 0)) _ rfl rfl) ?_
  exact fsteps_nil
 intro gv w0 hV k0
 rw [show dstsOf _ 6 = [6, 7, 8, 9, 10, 11] by kernel_rfl]
 simp only [fC, fN, sA, sS, sZ, dS, dZ]
 rw [show gv 9 = v from hV 3 9 (by kernel_rfl)]
 rw [show gv 10 = .int .i64 (n : Int) from hV 4 10 (by kernel_rfl)]
 rw [show gv 11 = .int .i64 0 from hV 5 11 (by kernel_rfl)]
 clear hV
 refine wpList_nil ?_
 go_wp2_with fail
 go_loopw [3, 11] (fun t q wr => ∃ (i : Nat), i ≤ n ∧ q = .int .i64 i ∧ Hid ((Kn.sl w.heap.size 25 9 (ordsL (L.take i)).length (ords (ordsL (L.take i)))).p t wr) ∧ Kept w wr) (fun _ q _ => n - (intOf q).toNat)
 case atStart => exact ⟨0, Nat.zero_le _, rfl, ⟨by rw [List.take_zero]; exact Sl.nil _ _ _, fun b hb => by simp [Value.ownBlock] at hb⟩, k0⟩
 case round =>
  obtain ⟨i, hi, rfl, HV2, hkr⟩ := hrel
  obtain ⟨v3, hv3⟩ : ∃ v3, v3 = u3 := ⟨_, rfl⟩
  subst hv3
  by_cases hlt : i < n
  ·skip
   obtain ⟨gs, os, c, rfl⟩ := HSL.out.some_ (by omega)
   obtain ⟨z, hz⟩ : ∃ z, Z[i]? = some z := ⟨Z[i]'(by rw [HN.out]; omega), List.getElem?_eq_getElem (by rw [HN.out]; omega)⟩
   obtain ⟨q, pr, X⟩ := z
   have hcell := (HW.out.kept hkr).cell hz
   have HC := Lib.hid hcell
   have HZ := Lib.hid hz
   have HLV := Lib.hid ((HW.out.kept hkr).lv (q, pr, X) (List.mem_of_getElem? hz))
   have HG : Hid (Good X) := HL.out.good (pr, X) (by rw [← EL.out]; exact levs_mem (List.mem_of_getElem? hz))
   have HA : Hid (L[i]? = some (pr, X)) := by show _ = _; rw [← EL.out]; exact levs_at hz
   clear hcell hz
   go_upto_region 4 with fail
   refine wp_text 3 [.eq (.pointer (some ⟨gs, os + i * 1, none⟩)), .eq (.pointer (some ⟨q, 0, none⟩)), .eq (.pointer (some ⟨q, 0, none⟩))] rfl (by kernel_rfl) ?_ ?_
   ·refine sv 1 rfl rfl rfl (fun a u hE hD hk => exec_ixo slQ (.tmp 9) (.tmp 11) (gs) (os) n c i (os + i * 1) ((i : Int)) rfl (hE 9 (.slice (some ⟨gs, os, none⟩) n c) (by kernel_rfl) (by kernel_rfl)) (hE 11 (.int .i64 (i : Int)) (by kernel_rfl) (by kernel_rfl)) (by first | rfl | omega) (hlt) (by first | rfl | omega)) ?_
    refine sv 2 rfl rfl rfl (fun a u hE hD hk => exec_ldp 97 _ Try.underlying97 (.tmp 13) ⟨gs, os + i * 1, none⟩ (.pointer (some ⟨q, 0, none⟩)) rfl (hD 0 13 (by kernel_rfl)) (Kept.cell hk (HC.out))) ?_
    refine sv 3 rfl rfl rfl (fun a u hE hD hk => exec_assign (.tmp 14) _ rfl (hD 1 14 (by kernel_rfl))) ?_
    exact fsteps_nil
   intro gv w1 hV k1
   rw [show dstsOf _ 3 = [13, 14, 5] by kernel_rfl]
   simp only [fC, fN, sA, sS, sZ, dS, dZ]
   rw [show gv 5 = .pointer (some ⟨q, 0, none⟩) from hV 2 5 (by kernel_rfl)]
   clear hV
   refine wpList_nil ?_
   have kw1 := hkr.trans k1
   have HLV1 := Lib.hid (HLV.out.kept k1)
   have k1K := k1
   clear HC HLV k1
   have HM1 : Hid ((ordsL (L.take i)).length + X.length ≤ 64) := by
    show _ ≤ _
    have h1 := entL_part L (i + 1)
    rw [entL_take HA.out, List.length_append] at h1
    simp only at h1
    have := HL.out.few
    rw [ordsL_len]
    omega
   have HV4 := Lib.hid (HV2.out.1.kept k1K)
   have HO4 := Lib.hid HV2.out.2
   have s0 := kw1.size
   clear HV2 k1K
   go_upto_region 5 with fail
   refine wp_text 3 [.eq (v3), .eq (.pointer (some ⟨q, 0, none⟩)), .sl w1.heap.size 25 9 X.length (ords (X.map (·.o)))] rfl (by kernel_rfl) ?_ ?_
   ·refine sv 1 rfl rfl rfl (fun a u hE hD hk => exec_move (.tmp 3) _ rfl (hE 3 (v3) (by kernel_rfl) (by kernel_rfl))) ?_
    refine sv 2 rfl rfl rfl (fun a u hE hD hk => exec_move (.tmp 5) _ rfl (hE 5 (.pointer (some ⟨q, 0, none⟩)) (by kernel_rfl) (by kernel_rfl))) ?_
    refine fsteps_cons 3 rfl (fun a u hE hD hk => f_call (o := ⟨some 17, _, _, _, _, _⟩) 80 #[.pointer (some ⟨q, 0, none⟩)] rfl (wanted_none rfl _) (exec_call 80 _ [.tmp 16] _ [.pointer (some ⟨q, 0, none⟩)] Try.func80 (by kernel_rfl) (by kernel_rfl) rfl (show [a.eval (.tmp 16)] = [.pointer (some ⟨q, 0, none⟩)] from (by rw [show a.eval (.tmp 16) = .pointer (some ⟨q, 0, none⟩) from (hD 1 16 (by kernel_rfl))] <;> rfl)) u) ((orders_any u _ q X (HLV1.out.kept hk) HG.out).mono (fun e w' ⟨v, h1, h2, h3⟩ => ⟨v, h1, ⟨h2.1, fun b hb => Nat.le_trans hk.size (h2.2 b hb)⟩, h3⟩))) ?_
    exact fsteps_nil
   intro gv w2 hV k2
   rw [show dstsOf _ 3 = [15, 16, 17] by kernel_rfl]
   simp only [fC, fN, sA, sS, sZ, dS, dZ]
   rw [show gv 15 = v3 from hV 0 15 (by kernel_rfl)]
   have hv17 : (.sl w1.heap.size 25 9 X.length (ords (X.map (·.o))) : Kn).p (gv 17) w2 := hV 2 17 (by kernel_rfl)
   generalize gv 17 = v17 at hv17 ⊢
   clear hV
   have s2 := k2.size
   have hm1 := HM1.out
   obtain ⟨v4, w4, hr4, hs4, hk4, ho4⟩ := run_append_sl slO _ w2 v3 v17 (ordsL (L.take i)).length X.length _ _ (HV4.out.kept k2) hv17.1 (ords_one _) (by unfold maxLen; omega) (by omega)
   refine l_new (o := ⟨some 18, _, _, _, _, _⟩) v4 w4 rfl (exec_appS slO (.tmp 15) (.tmp 17) v3 v17 rfl (by kernel_rfl) (by kernel_rfl) v4 w4 hr4) ?_
   simp only [Act.put, sA, sS, sZ]
   refine l_val (o := ⟨some 3, _, _, _, _, _⟩) (v4) rfl (exec_assign (.tmp 18) (v4) rfl (by kernel_rfl)) ?_
   simp only [Act.put, sA, sS, sZ]
   refine wpList_nil ?_
   have kw4 : Kept w w4 := by
    refine Keep.trans (kw1.trans k2) hk4 (fun b hb hb' => ?_)
    have := HO4.out b hb'
    omega
   have HV5 : Hid ((Kn.sl w.heap.size 25 9 (ordsL (L.take (i + 1))).length (ords (ordsL (L.take (i + 1))))).p v4 w4) := by
    refine ⟨?_, fun b hb => ?_⟩
    ·have e : ordsL (L.take (i + 1)) = ordsL (L.take i) ++ X.map (·.o) := by
      unfold ordsL
      rw [entL_take HA.out, List.map_append]
     rw [e, List.length_append, List.length_map]
     unfold ords at hs4 ⊢
     rw [List.flatMap_append]
     exact hs4
    ·rcases ho4 b hb with h | h
     ·exact HO4.out b h
     ·omega
   clear hs4 hk4 ho4 HV4 HO4 hv17 hr4 hm1
   go_wp2
   exact ⟨⟨i + 1, by omega, by go_num, HV5, kw4⟩, by simp [intOf]; omega⟩
  ·have HF : Hid ((Kn.sl w.heap.size 25 9 (ordsL L).length (ords (ordsL L))).p v3 wr) := by
    have := HV2.out
    rw [List.take_of_length_le (by rw [← EL.out, levs_len, HN.out]; omega)] at this
    exact this
   clear HV2
   go_wp2
   go_ret
   exact ⟨v3, rfl, HF.out, hkr⟩
theorem built_lo (x y : Int) : Try.prog.built 25 [(3, .int .i64 x), (5, .int .i64 y)] = some (Ord.mk 0 0 0 x 0 y 0 0 0).cells.toArray := by kernel_rfl
theorem exec_blo {a : Act} {o : Oper} {u : World} (x y : Operand) (p q : Int) (hop : o.op = .build 25 #[(3, x), (5, y)]) (hx : a.eval x = .int .i64 p) (hy : a.eval y = .int .i64 q) : (execOp a.eval o).run Try.prog u = .ok (.value (Ord.mk 0 0 0 p 0 q 0 0 0).v) u :=
 exec_build _ [(3, x), (5, y)] (Ord.mk 0 0 0 p 0 q 0 0 0).cells hop (by simp only [List.map_cons, List.map_nil, hx, hy]; exact built_lo p q)
set_option maxHeartbeats 800000 in
theorem ldepth_any (w : World) (F : Nat → Prop) (g off : Nat) (s : Int) (L : List Lev) (h : Lad w F g off s L) (hL : LvsOk L) : Gives 44 #[.pointer (some ⟨g, off, none⟩)] w (.sl w.heap.size 39 10 (depthL s L).length (ents (depthL s L))) := by
 obtain ⟨v, hs0, hv0, Z, G, eL, hW⟩ := h
 have hn64 : Z.length ≤ 64 := by have := hL.len; rw [← eL, levs_len] at this; exact this
 have HS := Lib.hid hs0
 have HV := Lib.hid hv0
 have HW := Lib.hid hW
 have HL := Lib.hid hL
 have EL := Lib.hid eL
 obtain ⟨n, hn⟩ : ∃ n, Z.length = n := ⟨_, rfl⟩
 have HSL := Lib.hid hW.sl
 rw [hn] at HSL hn64
 have HN := Lib.hid hn
 clear hs0 hv0 hW hL eL hn
 go_enter Try.func44, Try.ntmps44
 go_upto_region 2 with fail
 refine wp_text 6 [.eq (.pointer (some ⟨g, off, none⟩)), .eq (.pointer (some ⟨g, off, none⟩)), .eq (.pointer (some ⟨g, off + 1, none⟩)), .eq (v), .eq (.int .i64 (n : Int)), .eq (.int .i64 0)] rfl (by kernel_rfl) ?_ ?_
 ·refine sv 1 rfl rfl rfl (fun a u hE hD hk => exec_move (.tmp 0) _ rfl (hE 0 (.pointer (some ⟨g, off, none⟩)) (by kernel_rfl) (by kernel_rfl))) ?_
  refine sv 2 rfl rfl rfl (fun a u hE hD hk => exec_nilp (.tmp 6) ⟨g, off, none⟩ rfl (hD 0 6 (by kernel_rfl))) ?_
  refine sv 3 rfl rfl rfl (fun a u hE hD hk => exec_fldo 73 1 1 (.tmp 7) (g) (off) (off + 1) rfl (hD 1 7 (by kernel_rfl)) (by kernel_rfl) rfl) ?_
  refine sv 4 rfl rfl rfl (fun a u hE hD hk => exec_ldv 71 _ Try.underlying71 (.tmp 8) ⟨g, off + 1, none⟩ (v) rfl (hD 2 8 (by kernel_rfl)) (Kept.cell hk (HV.out))) ?_
  refine sv 5 rfl rfl rfl (fun a u hE hD hk => exec_lenS (.tmp 9) slQ (v) (n) _ _ rfl (hD 3 9 (by kernel_rfl)) HSL.out) ?_
  refine sv 6 rfl rfl rfl (fun a u hE hD hk => exec_move (.const (.int .i64 0)) _ rfl rfl) ?_
  exact fsteps_nil
 intro gv w0 hV k0
 rw [show dstsOf _ 6 = [6, 7, 8, 9, 10, 11] by kernel_rfl]
 simp only [fC, fN, sA, sS, sZ, dS, dZ]
 rw [show gv 9 = v from hV 3 9 (by kernel_rfl)]
 rw [show gv 10 = .int .i64 (n : Int) from hV 4 10 (by kernel_rfl)]
 rw [show gv 11 = .int .i64 0 from hV 5 11 (by kernel_rfl)]
 clear hV
 refine wpList_nil ?_
 go_wp2_with fail
 go_loopw [3, 11] (fun t q wr => ∃ (i : Nat), i ≤ n ∧ q = .int .i64 i ∧ Hid ((Kn.sl w.heap.size 39 10 i (ents (depthL s (L.take i)))).p t wr) ∧ Kept w wr) (fun _ q _ => n - (intOf q).toNat)
 case atStart => exact ⟨0, Nat.zero_le _, rfl, ⟨by rw [List.take_zero]; exact Sl.nil _ _ _, fun b hb => by simp [Value.ownBlock] at hb⟩, k0⟩
 case round =>
  obtain ⟨i, hi, rfl, HV2, hkr⟩ := hrel
  obtain ⟨v3, hv3⟩ : ∃ v3, v3 = u3 := ⟨_, rfl⟩
  subst hv3
  by_cases hlt : i < n
  ·skip
   obtain ⟨gs, os, c, rfl⟩ := HSL.out.some_ (by omega)
   obtain ⟨z, hz⟩ : ∃ z, Z[i]? = some z := ⟨Z[i]'(by rw [HN.out]; omega), List.getElem?_eq_getElem (by rw [HN.out]; omega)⟩
   obtain ⟨q, pr, X⟩ := z
   have hcell := (HW.out.kept hkr).cell hz
   have HC := Lib.hid hcell
   have HZ := Lib.hid hz
   have HLV := Lib.hid ((HW.out.kept hkr).lv (q, pr, X) (List.mem_of_getElem? hz))
   have HG : Hid (Good X) := HL.out.good (pr, X) (by rw [← EL.out]; exact levs_mem (List.mem_of_getElem? hz))
   have HA : Hid (L[i]? = some (pr, X)) := by show _ = _; rw [← EL.out]; exact levs_at hz
   clear hcell hz
   go_upto_region 4 with fail
   refine wp_text 3 [.eq (.pointer (some ⟨gs, os + i * 1, none⟩)), .eq (.pointer (some ⟨q, 0, none⟩)), .eq (.pointer (some ⟨q, 0, none⟩))] rfl (by kernel_rfl) ?_ ?_
   ·refine sv 1 rfl rfl rfl (fun a u hE hD hk => exec_ixo slQ (.tmp 9) (.tmp 11) (gs) (os) n c i (os + i * 1) ((i : Int)) rfl (hE 9 (.slice (some ⟨gs, os, none⟩) n c) (by kernel_rfl) (by kernel_rfl)) (hE 11 (.int .i64 (i : Int)) (by kernel_rfl) (by kernel_rfl)) (by first | rfl | omega) (hlt) (by first | rfl | omega)) ?_
    refine sv 2 rfl rfl rfl (fun a u hE hD hk => exec_ldp 97 _ Try.underlying97 (.tmp 13) ⟨gs, os + i * 1, none⟩ (.pointer (some ⟨q, 0, none⟩)) rfl (hD 0 13 (by kernel_rfl)) (Kept.cell hk (HC.out))) ?_
    refine sv 3 rfl rfl rfl (fun a u hE hD hk => exec_assign (.tmp 14) _ rfl (hD 1 14 (by kernel_rfl))) ?_
    exact fsteps_nil
   intro gv w1 hV k1
   rw [show dstsOf _ 3 = [13, 14, 5] by kernel_rfl]
   simp only [fC, fN, sA, sS, sZ, dS, dZ]
   rw [show gv 5 = .pointer (some ⟨q, 0, none⟩) from hV 2 5 (by kernel_rfl)]
   clear hV
   refine wpList_nil ?_
   have kw1 := hkr.trans k1
   have HLV1 := Lib.hid (HLV.out.kept k1)
   have k1K := k1
   clear HC HLV k1
   have HV4 := Lib.hid (HV2.out.1.kept k1K)
   have HO4 := Lib.hid HV2.out.2
   have HS1 := Lib.hid (kw1.cell HS.out)
   have s0 := kw1.size
   clear HV2 k1K
   go_upto_region 5 with fail
   refine wp_free 12 [.eq (v3), .eq (.pointer (some ⟨g, off, none⟩)), .eq (.pointer (some ⟨g, off, none⟩)), .eq (.pointer (some ⟨g, off, none⟩)), .eq (.int .i64 s), .eq (.pointer (some ⟨q, 0, none⟩)), .eq (.int .i64 pr), .eq ((Ord.mk 0 0 0 s 0 pr 0 0 0).v), .eq (.pointer (some ⟨q, 0, none⟩)), .eq (.int .i64 (seenM X)), .eq ((Ent.mk (Ord.mk 0 0 0 s 0 pr 0 0 0) ((seenM X))).v), .sl w1.heap.size 39 10 1 (Ent.mk (Ord.mk 0 0 0 s 0 pr 0 0 0) ((seenM X))).cells] (by kernel_rfl) rfl (by kernel_rfl) ?_ ?_
   ·refine sv 1 rfl rfl rfl (fun a u hE hD hk => exec_move (.tmp 3) _ rfl (hE 3 (v3) (by kernel_rfl) (by kernel_rfl))) ?_
    refine sv 2 rfl rfl rfl (fun a u hE hD hk => exec_move (.tmp 0) _ rfl (hE 0 (.pointer (some ⟨g, off, none⟩)) (by kernel_rfl) (by kernel_rfl))) ?_
    refine sv 3 rfl rfl rfl (fun a u hE hD hk => exec_nilp (.tmp 16) ⟨g, off, none⟩ rfl (hD 1 16 (by kernel_rfl))) ?_
    refine sv 4 rfl rfl rfl (fun a u hE hD hk => exec_fldo 73 0 0 (.tmp 17) (g) (off) (off) rfl (hD 2 17 (by kernel_rfl)) (by kernel_rfl) rfl) ?_
    refine sv 5 rfl rfl rfl (fun a u hE hD hk => exec_loadi 3 Try.underlying3 (.tmp 18) ⟨g, off, none⟩ (.int .i64 s) rfl (hD 3 18 (by kernel_rfl)) (Kept.cell hk (HS1.out))) ?_
    refine sv 6 rfl rfl rfl (fun a u hE hD hk => exec_move (.tmp 5) _ rfl (hE 5 (.pointer (some ⟨q, 0, none⟩)) (by kernel_rfl) (by kernel_rfl))) ?_
    refine fsteps_cons 7 rfl (fun a u hE hD hk => f_call (o := ⟨some 21, _, _, _, _, _⟩) 68 #[.pointer (some ⟨q, 0, none⟩)] rfl (wanted_none rfl _) (exec_call 68 _ [.tmp 20] _ [.pointer (some ⟨q, 0, none⟩)] Try.func68 (by kernel_rfl) (by kernel_rfl) rfl (show [a.eval (.tmp 20)] = [.pointer (some ⟨q, 0, none⟩)] from (by rw [show a.eval (.tmp 20) = .pointer (some ⟨q, 0, none⟩) from (hD 5 20 (by kernel_rfl))] <;> rfl)) u) (price_any u _ q X (HLV1.out.kept hk))) ?_
    refine sv 8 rfl rfl rfl (fun a u hE hD hk => exec_blo (.tmp 19) (.tmp 21) s pr rfl (hD 4 19 (by kernel_rfl)) (hD 6 21 (by kernel_rfl))) ?_
    refine sv 9 rfl rfl rfl (fun a u hE hD hk => exec_move (.tmp 5) _ rfl (hE 5 (.pointer (some ⟨q, 0, none⟩)) (by kernel_rfl) (by kernel_rfl))) ?_
    refine fsteps_cons 10 rfl (fun a u hE hD hk => f_call (o := ⟨some 24, _, _, _, _, _⟩) 72 #[.pointer (some ⟨q, 0, none⟩)] rfl (wanted_none rfl _) (exec_call 72 _ [.tmp 23] _ [.pointer (some ⟨q, 0, none⟩)] Try.func72 (by kernel_rfl) (by kernel_rfl) rfl (show [a.eval (.tmp 23)] = [.pointer (some ⟨q, 0, none⟩)] from (by rw [show a.eval (.tmp 23) = .pointer (some ⟨q, 0, none⟩) from (hD 8 23 (by kernel_rfl))] <;> rfl)) u) (seen_any u _ q X (HLV1.out.kept hk) HG.out)) ?_
    refine sv 11 rfl rfl rfl (fun a u hE hD hk => exec_bent 39 builtH (.tmp 22) (.tmp 24) ((Ord.mk 0 0 0 s 0 pr 0 0 0)) ((seenM X)) rfl (hD 7 22 (by kernel_rfl)) (hD 9 24 (by kernel_rfl))) ?_
    refine fsteps_cons 12 rfl (fun a u hE hD hk => f_new (o := ⟨some 26, _, _, _, _, _⟩) (.slice (some ⟨u.heap.size, 0, none⟩) 1 1) _ rfl (wanted_none rfl _) (exec_oneS slH (.tmp 25) (Ent.mk (Ord.mk 0 0 0 s 0 pr 0 0 0) ((seenM X))).cells (by omega) rfl (hD 10 25 (by kernel_rfl)) ((Ent.mk (Ord.mk 0 0 0 s 0 pr 0 0 0) ((seenM X))).len10)) (sl_one u 39 10 _ w1.heap.size ((Ent.mk (Ord.mk 0 0 0 s 0 pr 0 0 0) ((seenM X))).len10) (by omega) hk.size) ((Keep.refl _ u).alloc _)) ?_
    exact fsteps_nil
   intro gv w2 hV k2
   rw [show dstsOf _ 12 = [15, 16, 17, 18, 19, 20, 21, 22, 23, 24, 25, 26] by kernel_rfl]
   simp only [fC, fN, sA, sS, sZ, dS, dZ]
   rw [show gv 15 = v3 from hV 0 15 (by kernel_rfl)]
   have hv26 : (.sl w1.heap.size 39 10 1 (Ent.mk (Ord.mk 0 0 0 s 0 pr 0 0 0) ((seenM X))).cells : Kn).p (gv 26) w2 := hV 11 26 (by kernel_rfl)
   generalize gv 26 = v26 at hv26 ⊢
   clear hV
   have s2 := k2.size
   obtain ⟨v4, w4, hr4, hs4, hk4, ho4⟩ := run_append_sl slH _ w2 v3 v26 i 1 _ _ (HV4.out.kept k2) hv26.1 (Ent.one _) (by unfold maxLen; omega) (by omega)
   refine l_new (o := ⟨some 27, _, _, _, _, _⟩) v4 w4 rfl (exec_appS slH (.tmp 15) (.tmp 26) v3 v26 rfl (by kernel_rfl) (by kernel_rfl) v4 w4 hr4) ?_
   simp only [Act.put, sA, sS, sZ]
   refine l_val (o := ⟨some 3, _, _, _, _, _⟩) (v4) rfl (exec_assign (.tmp 27) (v4) rfl (by kernel_rfl)) ?_
   simp only [Act.put, sA, sS, sZ]
   refine wpList_nil ?_
   have kw4 : Kept w w4 := by
    refine Keep.trans (kw1.trans k2) hk4 (fun b hb hb' => ?_)
    have := HO4.out b hb'
    omega
   have HV5 : Hid ((Kn.sl w.heap.size 39 10 (i + 1) (ents (depthL s (L.take (i + 1))))).p v4 w4) := by
    refine ⟨?_, fun b hb => ?_⟩
    ·have e : depthL s (L.take (i + 1)) = depthL s (L.take i) ++ [Ent.mk (Ord.mk 0 0 0 s 0 pr 0 0 0) (seenM X)] := by
      unfold depthL
      rw [List.take_add_one, HA.out, List.map_append]
      rfl
     rw [e, ents_snoc]
     exact hs4
    ·rcases ho4 b hb with h | h
     ·exact HO4.out b h
     ·omega
   clear hs4 hk4 ho4 HV4 HO4 hv26 hr4
   go_wp2
   exact ⟨⟨i + 1, by omega, by go_num, HV5, kw4⟩, by simp [intOf]; omega⟩
  ·have HF : Hid ((Kn.sl w.heap.size 39 10 (depthL s L).length (ents (depthL s L))).p v3 wr) := by
    have := HV2.out
    have e : i = (depthL s L).length := by unfold depthL; rw [List.length_map, ← EL.out, levs_len, HN.out]; omega
    rw [List.take_of_length_le (by rw [← EL.out, levs_len, HN.out]; omega), e] at this
    exact this
   clear HV2
   go_wp2
   go_ret
   exact ⟨v3, rfl, HF.out, hkr⟩
end Go.Proofs.Ytfpfpmhkkgfdbaa
namespace Go.Proofs.Ytfpfpmhkkgfdbaa
open Go.RowKit
set_option maxRecDepth 100000
theorem tmod_lo (n m : Int) (hm : 0 < m) : -m < n.tmod m ∧ n.tmod m < m := ⟨Int.neg_lt_of_neg_lt (by have := Int.tmod_lt_of_pos (-n) hm; rwa [Int.neg_tmod] at this), Int.tmod_lt_of_pos n hm⟩
theorem tmod_emod (n m : Int) (hm : 0 < m) : n % m = if n.tmod m < 0 then n.tmod m + m else n.tmod m := by
 have h1 := Int.emod_nonneg n (show m ≠ 0 by omega)
 have h2 := Int.emod_lt_of_pos n hm
 obtain ⟨h3, h4⟩ := tmod_lo n m hm
 have e1 := Int.mul_ediv_add_emod n m
 have e2 := Int.mul_tdiv_add_tmod n m
 have e3 : n % m - n.tmod m = m * (n.tdiv m - n / m) := by rw [Int.mul_sub]; omega
 generalize n.tdiv m - n / m = q at e3
 have hq1 : m * q < m * 2 := by omega
 have hq2 : m * (-1) < m * q := by omega
 have hq3 := Int.lt_of_mul_lt_mul_left hq1 (by omega)
 have hq4 := Int.lt_of_mul_lt_mul_left hq2 (by omega)
 have hq : q = 0 ∨ q = 1 := by omega
 rcases hq with rfl | rfl
 ·rw [if_neg (by omega)]; omega
 ·rw [if_pos (by omega)]; omega
set_option maxHeartbeats 400000 in
theorem within_any (n lo hi : Int) (w : World) (h0 : 0 ≤ lo) (h1 : lo ≤ hi) (h2 : hi ≤ 1099511627776) :
  Calls Try.prog 38 #[.int .i64 n, .int .i64 lo, .int .i64 hi] w fun e w' => e = .returned (.int .i64 (lo + n % (hi - lo + 1))) ∧ w = w' := by
 obtain ⟨m1, m2⟩ := tmod_lo n (hi - lo + 1) (by omega)
 have E := Lib.hid (tmod_emod n (hi - lo + 1) (by omega))
 have hz : ((hi - lo + 1) == 0) = false := by simp; omega
 go_enter Try.func38, Try.ntmps38
 go_wp2
 ·go_ret
  refine ⟨ret_int ?_, rfl⟩
  rw [E.out, if_pos (by assumption)]
  omega
 ·go_ret
  refine ⟨ret_int ?_, rfl⟩
  rw [E.out, if_neg (by omega)]
end Go.Proofs.Ytfpfpmhkkgfdbaa
namespace Go.Proofs.Ytfpfpmhkkgfdbaa
open Go.RowKit
set_option maxRecDepth 100000
def two (p : Int × Int) : Value := .tuple #[.int .i64 p.1, .int .i64 p.2]
end Go.Proofs.Ytfpfpmhkkgfdbaa
namespace Go.Proofs.Ytfpfpmhkkgfdbaa
open Go.RowKit
set_option maxRecDepth 100000
set_option maxRecDepth 100000 in
set_option maxHeartbeats 800000 in
theorem owithin_any (n lo hi : Int) (w : World) : Gives 98 #[.int .i64 n, .int .i64 lo, .int .i64 hi] w (.eq (.bool (rng n lo hi))) := by
 refine gives_eq ?_
 unfold rng
 by_cases h : lo ≤ n
 ·have h1 : decide (lo ≤ n) = true := by simpa using h
  rw [h1]
  go_enter Try.func98, Try.ntmps98
  go_wp2
  go_ret
  exact ⟨ret_bool (by simp), Kept.refl w⟩
 ·have h1 : decide (lo ≤ n) = false := by simpa using h
  rw [h1]
  go_enter Try.func98, Try.ntmps98
  go_wp2
  go_ret
  exact ⟨ret_bool (by simp), Kept.refl w⟩
set_option maxRecDepth 100000 in
set_option maxHeartbeats 800000 in
theorem better_any (side x y : Int) (w : World) : Gives 36 #[.int .i64 side, .int .i64 x, .int .i64 y] w (.eq (.bool (bet side x y))) := by
 refine gives_eq ?_
 unfold bet
 by_cases h : side = 1
 ·have h1 : ((side : Int) == 1) = true := by simpa using h
  rw [if_pos h]; clear h
  go_enter Try.func36, Try.ntmps36
  go_wp2
  go_ret
  exact ⟨ret_bool (by simp), Kept.refl w⟩
 ·have h1 : ((side : Int) == 1) = false := by simpa using h
  rw [if_neg h]; clear h
  go_enter Try.func36, Try.ntmps36
  go_wp2
  go_ret
  exact ⟨ret_bool (by simp), Kept.refl w⟩
set_option maxRecDepth 100000 in
set_option maxHeartbeats 800000 in
theorem reaches_any (side x y : Int) (w : World) : Gives 61 #[.int .i64 side, .int .i64 x, .int .i64 y] w (.eq (.bool (!bet side y x))) := by
 unfold Gives
 go_enter Try.func61, Try.ntmps61
 go_upto_region 1 with fail
 refine wp_text 5 [.eq (.int .i64 side), .eq (.int .i64 y), .eq (.int .i64 x), .eq (.bool (bet side y x)), .eq (.bool (!(bet side y x)))] rfl (by kernel_rfl) ?_ ?_
 ·refine fsteps_cons 1 rfl (fun a u hE hD hk => f_val (o := ⟨some 7, _, _, _, _, _⟩) (.int .i64 side) rfl (wanted_none rfl _) (exec_move (.tmp 0) (.int .i64 side) rfl (hE 0 (.int .i64 side) (by kernel_rfl) (by kernel_rfl))) rfl) ?_
  refine fsteps_cons 2 rfl (fun a u hE hD hk => f_val (o := ⟨some 8, _, _, _, _, _⟩) (.int .i64 y) rfl (wanted_none rfl _) (exec_move (.tmp 2) (.int .i64 y) rfl (hE 2 (.int .i64 y) (by kernel_rfl) (by kernel_rfl))) rfl) ?_
  refine fsteps_cons 3 rfl (fun a u hE hD hk => f_val (o := ⟨some 9, _, _, _, _, _⟩) (.int .i64 x) rfl (wanted_none rfl _) (exec_move (.tmp 1) (.int .i64 x) rfl (hE 1 (.int .i64 x) (by kernel_rfl) (by kernel_rfl))) rfl) ?_
  refine fsteps_cons 4 rfl (fun a u hE hD hk => f_call (o := ⟨some 10, _, _, _, _, _⟩) 36 #[.int .i64 side, .int .i64 y, .int .i64 x] rfl (wanted_none rfl _) (exec_call 36 _ [.tmp 7, .tmp 8, .tmp 9] _ [.int .i64 side, .int .i64 y, .int .i64 x] Try.func36 (by kernel_rfl) (by kernel_rfl) rfl (show [a.eval (.tmp 7), a.eval (.tmp 8), a.eval (.tmp 9)] = [.int .i64 side, .int .i64 y, .int .i64 x] from (by rw [show a.eval (.tmp 7) = .int .i64 side from (hD 0 7 (by kernel_rfl)), show a.eval (.tmp 8) = .int .i64 y from (hD 1 8 (by kernel_rfl)), show a.eval (.tmp 9) = .int .i64 x from (hD 2 9 (by kernel_rfl))] <;> rfl)) u) (better_any _ _ _ u)) ?_
  refine fsteps_cons 5 rfl (fun a u hE hD hk => f_val (o := ⟨some 11, _, _, _, _, _⟩) (.bool (!(bet side y x))) rfl (wanted_none rfl _) (exec_not _ (.tmp 10) (bet side y x) rfl (hD 3 10 (by kernel_rfl))) rfl) ?_
  exact fsteps_nil
 intro gv w1 hV k1
 rw [show dstsOf _ 5 = [7, 8, 9, 10, 11] by kernel_rfl]
 simp only [fC, fN, sA, sS, sZ, dS, dZ]
 rw [show gv 11 = .bool (!(bet side y x)) from hV 4 11 (by kernel_rfl)]
 clear hV
 go_wp2
 go_ret
 exact ⟨_, rfl, rfl, k1⟩
set_option maxRecDepth 100000 in
set_option maxHeartbeats 800000 in
theorem isOwned_any (c : Ord) (w : World) : Gives 84 #[c.v] w (.eq (.bool c.owned)) := by
 unfold Gives Ord.v
 have HT : Hid True := trivial
 have HB0 : Hid (Blk (w.alloc (.cells c.cells.toArray 25)) w.heap.size 25 c.cells) := Blk.new w _ _
 have kw0 : Kept w (w.alloc (.cells c.cells.toArray 25)) := (Keep.refl _ w).alloc _
 go_enter Try.func84, Try.ntmps84
 go_upto_region 1 with fail
 generalize w.alloc (.cells c.cells.toArray 25) = w0 at HB0 kw0 ⊢
 generalize w.heap.size = g at HB0 ⊢
 refine wp_text 13 [.eq (.pointer (some ⟨g, 0, none⟩)), .eq (.int .i64 c.tr), .eq (.bool (rng c.tr 0 31)), .eq (.bool (rng c.tr 0 31)), .cond (rng c.tr 0 31) (.eq (.pointer (some ⟨g, 2, none⟩))), .cond (rng c.tr 0 31) (.eq (.int .i64 c.firm)), .cond (rng c.tr 0 31) (.eq (.bool (rng c.firm 0 7))), .eq (.bool ((rng c.tr 0 31) && (rng c.firm 0 7))), .eq (.bool ((rng c.tr 0 31) && (rng c.firm 0 7))), .cond ((rng c.tr 0 31) && (rng c.firm 0 7)) (.eq (.pointer (some ⟨g, 1, none⟩))), .cond ((rng c.tr 0 31) && (rng c.firm 0 7)) (.eq (.int .i64 c.id)), .cond ((rng c.tr 0 31) && (rng c.firm 0 7)) (.eq (.bool (rng c.id 0 1073741824))), .eq (.bool (((rng c.tr 0 31) && (rng c.firm 0 7)) && (rng c.id 0 1073741824)))] rfl (by kernel_rfl) ?_ ?_
 ·refine fsteps_cons 1 rfl (fun a u hE hD hk => f_val (o := ⟨some 3, _, _, _, _, _⟩) (.pointer (some ⟨g, 0, none⟩)) rfl (wanted_none rfl _) (exec_fld 25 0 0 (.tmp 1) (g) rfl (hE 1 (.pointer (some ⟨g, 0, none⟩)) (by kernel_rfl) (by kernel_rfl)) (by kernel_rfl)) rfl) ?_
  refine fsteps_cons 2 rfl (fun a u hE hD hk => f_val (o := ⟨some 4, _, _, _, _, _⟩) (.int .i64 c.tr) rfl (wanted_none rfl _) (exec_loadi 3 Try.underlying3 (.tmp 3) ⟨g, 0, none⟩ (.int .i64 c.tr) rfl (hD 0 3 (by kernel_rfl)) ((HB0.out.kept hk).fld 0 _ rfl)) rfl) ?_
  refine fsteps_cons 3 rfl (fun a u hE hD hk => f_call (o := ⟨some 5, _, _, _, _, _⟩) 98 #[.int .i64 c.tr, .int .i64 0, .int .i64 31] rfl (wanted_none rfl _) (exec_call 98 _ [.tmp 4, .const (.int .i64 0), .const (.int .i64 31)] _ [.int .i64 c.tr, .int .i64 0, .int .i64 31] Try.func98 (by kernel_rfl) (by kernel_rfl) rfl (show [a.eval (.tmp 4), a.eval (.const (.int .i64 0)), a.eval (.const (.int .i64 31))] = [.int .i64 c.tr, .int .i64 0, .int .i64 31] from (by rw [show a.eval (.tmp 4) = .int .i64 c.tr from (hD 1 4 (by kernel_rfl))] <;> rfl)) u) (owithin_any _ _ _ u)) ?_
  refine fsteps_cons 4 rfl (fun a u hE hD hk => f_val (o := ⟨some 6, _, _, _, _, _⟩) (.bool (rng c.tr 0 31)) rfl (wanted_none rfl _) (exec_move (.tmp 5) (.bool (rng c.tr 0 31)) rfl (hD 2 5 (by kernel_rfl))) rfl) ?_
  refine fsteps_cons 5 rfl (fun a u hE hD hk => f_if ((rng c.tr 0 31)) rfl rfl rfl (hD 3 6 (by kernel_rfl)) (fun hb => f_val (o := ⟨some 7, _, _, _, _, _⟩) (.pointer (some ⟨g, 2, none⟩)) rfl (wanted_b rfl rfl (hD 3 6 (by kernel_rfl)) (eq_true_of hb)) (exec_fld 25 2 2 (.tmp 1) (g) rfl (hE 1 (.pointer (some ⟨g, 0, none⟩)) (by kernel_rfl) (by kernel_rfl)) (by kernel_rfl)) rfl)) ?_
  refine fsteps_cons 6 rfl (fun a u hE hD hk => f_if ((rng c.tr 0 31)) rfl rfl rfl (hD 3 6 (by kernel_rfl)) (fun hb => f_val (o := ⟨some 8, _, _, _, _, _⟩) (.int .i64 c.firm) rfl (wanted_b rfl rfl (hD 3 6 (by kernel_rfl)) (eq_true_of hb)) (exec_loadi 3 Try.underlying3 (.tmp 7) ⟨g, 2, none⟩ (.int .i64 c.firm) rfl ((hD 4 7 (by kernel_rfl)).1 hb) ((HB0.out.kept hk).fld 2 _ rfl)) rfl)) ?_
  refine fsteps_cons 7 rfl (fun a u hE hD hk => f_if ((rng c.tr 0 31)) rfl rfl rfl (hD 3 6 (by kernel_rfl)) (fun hb => f_call (o := ⟨some 9, _, _, _, _, _⟩) 98 #[.int .i64 c.firm, .int .i64 0, .int .i64 7] rfl (wanted_b rfl rfl (hD 3 6 (by kernel_rfl)) (eq_true_of hb)) (exec_call 98 _ [.tmp 8, .const (.int .i64 0), .const (.int .i64 7)] _ [.int .i64 c.firm, .int .i64 0, .int .i64 7] Try.func98 (by kernel_rfl) (by kernel_rfl) rfl (show [a.eval (.tmp 8), a.eval (.const (.int .i64 0)), a.eval (.const (.int .i64 7))] = [.int .i64 c.firm, .int .i64 0, .int .i64 7] from (by rw [show a.eval (.tmp 8) = .int .i64 c.firm from ((hD 5 8 (by kernel_rfl)).1 hb)] <;> rfl)) u) (owithin_any _ _ _ u))) ?_
  refine fsteps_cons 8 rfl (fun a u hE hD hk => f_val (o := ⟨some 10, _, _, _, _, _⟩) (.bool ((rng c.tr 0 31) && (rng c.firm 0 7))) rfl (wanted_none rfl _) (exec_pickand (.tmp 6) (.tmp 9) (.const (.bool false)) ((rng c.tr 0 31)) ((rng c.firm 0 7)) rfl (hD 3 6 (by kernel_rfl)) (fun hb2 => ((hD 6 9 (by kernel_rfl)).1 hb2)) rfl) rfl) ?_
  refine fsteps_cons 9 rfl (fun a u hE hD hk => f_val (o := ⟨some 11, _, _, _, _, _⟩) (.bool ((rng c.tr 0 31) && (rng c.firm 0 7))) rfl (wanted_none rfl _) (exec_move (.tmp 10) (.bool ((rng c.tr 0 31) && (rng c.firm 0 7))) rfl (hD 7 10 (by kernel_rfl))) rfl) ?_
  refine fsteps_cons 10 rfl (fun a u hE hD hk => f_if (((rng c.tr 0 31) && (rng c.firm 0 7))) rfl rfl rfl (hD 8 11 (by kernel_rfl)) (fun hb => f_val (o := ⟨some 12, _, _, _, _, _⟩) (.pointer (some ⟨g, 1, none⟩)) rfl (wanted_b rfl rfl (hD 8 11 (by kernel_rfl)) (eq_true_of hb)) (exec_fld 25 1 1 (.tmp 1) (g) rfl (hE 1 (.pointer (some ⟨g, 0, none⟩)) (by kernel_rfl) (by kernel_rfl)) (by kernel_rfl)) rfl)) ?_
  refine fsteps_cons 11 rfl (fun a u hE hD hk => f_if (((rng c.tr 0 31) && (rng c.firm 0 7))) rfl rfl rfl (hD 8 11 (by kernel_rfl)) (fun hb => f_val (o := ⟨some 13, _, _, _, _, _⟩) (.int .i64 c.id) rfl (wanted_b rfl rfl (hD 8 11 (by kernel_rfl)) (eq_true_of hb)) (exec_loadi 3 Try.underlying3 (.tmp 12) ⟨g, 1, none⟩ (.int .i64 c.id) rfl ((hD 9 12 (by kernel_rfl)).1 hb) ((HB0.out.kept hk).fld 1 _ rfl)) rfl)) ?_
  refine fsteps_cons 12 rfl (fun a u hE hD hk => f_if (((rng c.tr 0 31) && (rng c.firm 0 7))) rfl rfl rfl (hD 8 11 (by kernel_rfl)) (fun hb => f_call (o := ⟨some 14, _, _, _, _, _⟩) 98 #[.int .i64 c.id, .int .i64 0, .int .i64 1073741824] rfl (wanted_b rfl rfl (hD 8 11 (by kernel_rfl)) (eq_true_of hb)) (exec_call 98 _ [.tmp 13, .const (.int .i64 0), .const (.int .i64 1073741824)] _ [.int .i64 c.id, .int .i64 0, .int .i64 1073741824] Try.func98 (by kernel_rfl) (by kernel_rfl) rfl (show [a.eval (.tmp 13), a.eval (.const (.int .i64 0)), a.eval (.const (.int .i64 1073741824))] = [.int .i64 c.id, .int .i64 0, .int .i64 1073741824] from (by rw [show a.eval (.tmp 13) = .int .i64 c.id from ((hD 10 13 (by kernel_rfl)).1 hb)] <;> rfl)) u) (owithin_any _ _ _ u))) ?_
  refine fsteps_cons 13 rfl (fun a u hE hD hk => f_val (o := ⟨some 15, _, _, _, _, _⟩) (.bool (((rng c.tr 0 31) && (rng c.firm 0 7)) && (rng c.id 0 1073741824))) rfl (wanted_none rfl _) (exec_pickand (.tmp 11) (.tmp 14) (.const (.bool false)) (((rng c.tr 0 31) && (rng c.firm 0 7))) ((rng c.id 0 1073741824)) rfl (hD 8 11 (by kernel_rfl)) (fun hb2 => ((hD 11 14 (by kernel_rfl)).1 hb2)) rfl) rfl) ?_
  exact fsteps_nil
 intro gv w1 hV k1
 rw [show dstsOf _ 13 = [3, 4, 5, 6, 7, 8, 9, 10, 11, 12, 13, 14, 15] by kernel_rfl]
 simp only [fC, fN, sA, sS, sZ, dS, dZ]
 rw [show gv 15 = .bool (((rng c.tr 0 31) && (rng c.firm 0 7)) && (rng c.id 0 1073741824)) from hV 12 15 (by kernel_rfl)]
 clear hV
 go_wp2
 go_ret
 exact ⟨_, rfl, rfl, kw0.trans k1⟩
set_option maxRecDepth 100000 in
set_option maxHeartbeats 800000 in
theorem isOfApi_any (c : Ord) (w : World) : Gives 85 #[c.v] w (.eq (.bool c.ofApi)) := by
 unfold Gives Ord.v
 have HT : Hid True := trivial
 have HB0 : Hid (Blk (w.alloc (.cells c.cells.toArray 25)) w.heap.size 25 c.cells) := Blk.new w _ _
 have kw0 : Kept w (w.alloc (.cells c.cells.toArray 25)) := (Keep.refl _ w).alloc _
 go_enter Try.func85, Try.ntmps85
 go_upto_region 1 with fail
 generalize w.alloc (.cells c.cells.toArray 25) = w0 at HB0 kw0 ⊢
 generalize w.heap.size = g at HB0 ⊢
 refine wp_text 8 [.eq (.pointer (some ⟨g, 3, none⟩)), .eq (.int .i64 c.side), .eq (.bool (rng c.side 1 2)), .eq (.bool (rng c.side 1 2)), .cond (rng c.side 1 2) (.eq (.pointer (some ⟨g, 4, none⟩))), .cond (rng c.side 1 2) (.eq (.int .i64 c.k)), .cond (rng c.side 1 2) (.eq (.bool (rng c.k 1 5))), .eq (.bool ((rng c.side 1 2) && (rng c.k 1 5)))] rfl (by kernel_rfl) ?_ ?_
 ·refine fsteps_cons 1 rfl (fun a u hE hD hk => f_val (o := ⟨some 3, _, _, _, _, _⟩) (.pointer (some ⟨g, 3, none⟩)) rfl (wanted_none rfl _) (exec_fld 25 3 3 (.tmp 1) (g) rfl (hE 1 (.pointer (some ⟨g, 0, none⟩)) (by kernel_rfl) (by kernel_rfl)) (by kernel_rfl)) rfl) ?_
  refine fsteps_cons 2 rfl (fun a u hE hD hk => f_val (o := ⟨some 4, _, _, _, _, _⟩) (.int .i64 c.side) rfl (wanted_none rfl _) (exec_loadi 3 Try.underlying3 (.tmp 3) ⟨g, 3, none⟩ (.int .i64 c.side) rfl (hD 0 3 (by kernel_rfl)) ((HB0.out.kept hk).fld 3 _ rfl)) rfl) ?_
  refine fsteps_cons 3 rfl (fun a u hE hD hk => f_call (o := ⟨some 5, _, _, _, _, _⟩) 98 #[.int .i64 c.side, .int .i64 1, .int .i64 2] rfl (wanted_none rfl _) (exec_call 98 _ [.tmp 4, .const (.int .i64 1), .const (.int .i64 2)] _ [.int .i64 c.side, .int .i64 1, .int .i64 2] Try.func98 (by kernel_rfl) (by kernel_rfl) rfl (show [a.eval (.tmp 4), a.eval (.const (.int .i64 1)), a.eval (.const (.int .i64 2))] = [.int .i64 c.side, .int .i64 1, .int .i64 2] from (by rw [show a.eval (.tmp 4) = .int .i64 c.side from (hD 1 4 (by kernel_rfl))] <;> rfl)) u) (owithin_any _ _ _ u)) ?_
  refine fsteps_cons 4 rfl (fun a u hE hD hk => f_val (o := ⟨some 6, _, _, _, _, _⟩) (.bool (rng c.side 1 2)) rfl (wanted_none rfl _) (exec_move (.tmp 5) (.bool (rng c.side 1 2)) rfl (hD 2 5 (by kernel_rfl))) rfl) ?_
  refine fsteps_cons 5 rfl (fun a u hE hD hk => f_if ((rng c.side 1 2)) rfl rfl rfl (hD 3 6 (by kernel_rfl)) (fun hb => f_val (o := ⟨some 7, _, _, _, _, _⟩) (.pointer (some ⟨g, 4, none⟩)) rfl (wanted_b rfl rfl (hD 3 6 (by kernel_rfl)) (eq_true_of hb)) (exec_fld 25 4 4 (.tmp 1) (g) rfl (hE 1 (.pointer (some ⟨g, 0, none⟩)) (by kernel_rfl) (by kernel_rfl)) (by kernel_rfl)) rfl)) ?_
  refine fsteps_cons 6 rfl (fun a u hE hD hk => f_if ((rng c.side 1 2)) rfl rfl rfl (hD 3 6 (by kernel_rfl)) (fun hb => f_val (o := ⟨some 8, _, _, _, _, _⟩) (.int .i64 c.k) rfl (wanted_b rfl rfl (hD 3 6 (by kernel_rfl)) (eq_true_of hb)) (exec_loadi 3 Try.underlying3 (.tmp 7) ⟨g, 4, none⟩ (.int .i64 c.k) rfl ((hD 4 7 (by kernel_rfl)).1 hb) ((HB0.out.kept hk).fld 4 _ rfl)) rfl)) ?_
  refine fsteps_cons 7 rfl (fun a u hE hD hk => f_if ((rng c.side 1 2)) rfl rfl rfl (hD 3 6 (by kernel_rfl)) (fun hb => f_call (o := ⟨some 9, _, _, _, _, _⟩) 98 #[.int .i64 c.k, .int .i64 1, .int .i64 5] rfl (wanted_b rfl rfl (hD 3 6 (by kernel_rfl)) (eq_true_of hb)) (exec_call 98 _ [.tmp 8, .const (.int .i64 1), .const (.int .i64 5)] _ [.int .i64 c.k, .int .i64 1, .int .i64 5] Try.func98 (by kernel_rfl) (by kernel_rfl) rfl (show [a.eval (.tmp 8), a.eval (.const (.int .i64 1)), a.eval (.const (.int .i64 5))] = [.int .i64 c.k, .int .i64 1, .int .i64 5] from (by rw [show a.eval (.tmp 8) = .int .i64 c.k from ((hD 5 8 (by kernel_rfl)).1 hb)] <;> rfl)) u) (owithin_any _ _ _ u))) ?_
  refine fsteps_cons 8 rfl (fun a u hE hD hk => f_val (o := ⟨some 10, _, _, _, _, _⟩) (.bool ((rng c.side 1 2) && (rng c.k 1 5))) rfl (wanted_none rfl _) (exec_pickand (.tmp 6) (.tmp 9) (.const (.bool false)) ((rng c.side 1 2)) ((rng c.k 1 5)) rfl (hD 3 6 (by kernel_rfl)) (fun hb2 => ((hD 6 9 (by kernel_rfl)).1 hb2)) rfl) rfl) ?_
  exact fsteps_nil
 intro gv w1 hV k1
 rw [show dstsOf _ 8 = [3, 4, 5, 6, 7, 8, 9, 10] by kernel_rfl]
 simp only [fC, fN, sA, sS, sZ, dS, dZ]
 rw [show gv 10 = .bool ((rng c.side 1 2) && (rng c.k 1 5)) from hV 7 10 (by kernel_rfl)]
 clear hV
 go_wp2
 go_ret
 exact ⟨_, rfl, rfl, kw0.trans k1⟩
set_option maxRecDepth 100000 in
set_option maxHeartbeats 800000 in
theorem mostShown_t (c : Ord) (hb1 : (decide (c.k = 1) || decide (c.k = 5)) = true) (w : World) : Gives 99 #[c.v] w (.eq (.int .i64 c.qty)) := by
 unfold Gives Ord.v
 have HT : Hid True := trivial
 have HB0 : Hid (Blk (w.alloc (.cells c.cells.toArray 25)) w.heap.size 25 c.cells) := Blk.new w _ _
 have kw0 : Kept w (w.alloc (.cells c.cells.toArray 25)) := (Keep.refl _ w).alloc _
 go_enter Try.func99, Try.ntmps99
 go_upto_region 1 with fail
 generalize w.alloc (.cells c.cells.toArray 25) = w0 at HB0 kw0 ⊢
 generalize w.heap.size = g at HB0 ⊢
 refine wp_text 8 [.eq (.pointer (some ⟨g, 4, none⟩)), .eq (.int .i64 c.k), .eq (.bool (decide ((c.k : Int) = (1 : Int)))), .eq (.bool (decide ((c.k : Int) = (1 : Int)))), .cond (!(decide ((c.k : Int) = (1 : Int)))) (.eq (.pointer (some ⟨g, 4, none⟩))), .cond (!(decide ((c.k : Int) = (1 : Int)))) (.eq (.int .i64 c.k)), .cond (!(decide ((c.k : Int) = (1 : Int)))) (.eq (.bool (decide ((c.k : Int) = (5 : Int))))), .eq (.bool true)] rfl (by kernel_rfl) ?_ ?_
 ·refine fsteps_cons 1 rfl (fun a u hE hD hk => f_val (o := ⟨some 3, _, _, _, _, _⟩) (.pointer (some ⟨g, 4, none⟩)) rfl (wanted_none rfl _) (exec_fld 25 4 4 (.tmp 1) (g) rfl (hE 1 (.pointer (some ⟨g, 0, none⟩)) (by kernel_rfl) (by kernel_rfl)) (by kernel_rfl)) rfl) ?_
  refine fsteps_cons 2 rfl (fun a u hE hD hk => f_val (o := ⟨some 4, _, _, _, _, _⟩) (.int .i64 c.k) rfl (wanted_none rfl _) (exec_loadi 3 Try.underlying3 (.tmp 3) ⟨g, 4, none⟩ (.int .i64 c.k) rfl (hD 0 3 (by kernel_rfl)) ((HB0.out.kept hk).fld 4 _ rfl)) rfl) ?_
  refine fsteps_cons 3 rfl (fun a u hE hD hk => f_val (o := ⟨some 5, _, _, _, _, _⟩) (.bool (decide ((c.k : Int) = (1 : Int)))) rfl (wanted_none rfl _) (exec_eqn (p := c.k) (q := 1) rfl (hD 1 4 (by kernel_rfl)) rfl) rfl) ?_
  refine fsteps_cons 4 rfl (fun a u hE hD hk => f_val (o := ⟨some 6, _, _, _, _, _⟩) (.bool (decide ((c.k : Int) = (1 : Int)))) rfl (wanted_none rfl _) (exec_move (.tmp 5) (.bool (decide ((c.k : Int) = (1 : Int)))) rfl (hD 2 5 (by kernel_rfl))) rfl) ?_
  refine fsteps_cons 5 rfl (fun a u hE hD hk => f_unless ((decide ((c.k : Int) = (1 : Int)))) rfl rfl rfl (hD 3 6 (by kernel_rfl)) (fun hb => f_val (o := ⟨some 7, _, _, _, _, _⟩) (.pointer (some ⟨g, 4, none⟩)) rfl (wanted_b rfl rfl (hD 3 6 (by kernel_rfl)) (eq_false_of hb)) (exec_fld 25 4 4 (.tmp 1) (g) rfl (hE 1 (.pointer (some ⟨g, 0, none⟩)) (by kernel_rfl) (by kernel_rfl)) (by kernel_rfl)) rfl)) ?_
  refine fsteps_cons 6 rfl (fun a u hE hD hk => f_unless ((decide ((c.k : Int) = (1 : Int)))) rfl rfl rfl (hD 3 6 (by kernel_rfl)) (fun hb => f_val (o := ⟨some 8, _, _, _, _, _⟩) (.int .i64 c.k) rfl (wanted_b rfl rfl (hD 3 6 (by kernel_rfl)) (eq_false_of hb)) (exec_loadi 3 Try.underlying3 (.tmp 7) ⟨g, 4, none⟩ (.int .i64 c.k) rfl ((hD 4 7 (by kernel_rfl)).1 hb) ((HB0.out.kept hk).fld 4 _ rfl)) rfl)) ?_
  refine fsteps_cons 7 rfl (fun a u hE hD hk => f_unless ((decide ((c.k : Int) = (1 : Int)))) rfl rfl rfl (hD 3 6 (by kernel_rfl)) (fun hb => f_val (o := ⟨some 9, _, _, _, _, _⟩) (.bool (decide ((c.k : Int) = (5 : Int)))) rfl (wanted_b rfl rfl (hD 3 6 (by kernel_rfl)) (eq_false_of hb)) (exec_eqn (p := c.k) (q := 5) rfl ((hD 5 8 (by kernel_rfl)).1 hb) rfl) rfl)) ?_
  refine fsteps_cons 8 rfl (fun a u hE hD hk => f_as (show (((decide ((c.k : Int) = (1 : Int))) || (decide ((c.k : Int) = (5 : Int)))) : Bool) = true from hb1) (f_val (o := ⟨some 10, _, _, _, _, _⟩) (.bool ((decide ((c.k : Int) = (1 : Int))) || (decide ((c.k : Int) = (5 : Int))))) rfl (wanted_none rfl _) (exec_pickor (.tmp 6) (.const (.bool true)) (.tmp 9) ((decide ((c.k : Int) = (1 : Int)))) ((decide ((c.k : Int) = (5 : Int)))) rfl (hD 3 6 (by kernel_rfl)) rfl (fun hb2 => ((hD 6 9 (by kernel_rfl)).1 hb2))) rfl)) ?_
  exact fsteps_nil
 intro gv w1 hV k1
 rw [show dstsOf _ 8 = [3, 4, 5, 6, 7, 8, 9, 10] by kernel_rfl]
 simp only [fC, fN, sA, sS, sZ, dS, dZ]
 rw [show gv 10 = .bool true from hV 7 10 (by kernel_rfl)]
 clear hV
 refine wpList_nil ?_
 have HB1 := Lib.hid (HB0.out.kept k1)
 have kw1 := kw0.trans k1
 clear k1 kw0
 go_upto_region 2 with fail
 refine wp_text 2 [.eq (.pointer (some ⟨g, 6, none⟩)), .eq (.int .i64 c.qty)] rfl (by kernel_rfl) ?_ ?_
 ·refine fsteps_cons 1 rfl (fun a u hE hD hk => f_val (o := ⟨some 11, _, _, _, _, _⟩) (.pointer (some ⟨g, 6, none⟩)) rfl (wanted_none rfl _) (exec_fld 25 6 6 (.tmp 1) (g) rfl (hE 1 (.pointer (some ⟨g, 0, none⟩)) (by kernel_rfl) (by kernel_rfl)) (by kernel_rfl)) rfl) ?_
  refine fsteps_cons 2 rfl (fun a u hE hD hk => f_val (o := ⟨some 12, _, _, _, _, _⟩) (.int .i64 c.qty) rfl (wanted_none rfl _) (exec_loadi 3 Try.underlying3 (.tmp 11) ⟨g, 6, none⟩ (.int .i64 c.qty) rfl (hD 0 11 (by kernel_rfl)) ((HB1.out.kept hk).fld 6 _ rfl)) rfl) ?_
  exact fsteps_nil
 intro gv w2 hV k2
 rw [show dstsOf _ 2 = [11, 12] by kernel_rfl]
 simp only [fC, fN, sA, sS, sZ, dS, dZ]
 rw [show gv 12 = .int .i64 c.qty from hV 1 12 (by kernel_rfl)]
 clear hV
 have HB2 := Lib.hid (HB1.out.kept k2)
 have kw2 := kw1.trans k2
 clear k2 kw1
 go_wp2
 go_ret
 exact ⟨_, rfl, rfl, kw2⟩
set_option maxRecDepth 100000 in
set_option maxHeartbeats 800000 in
theorem mostShown_f (c : Ord) (hb1 : (decide (c.k = 1) || decide (c.k = 5)) = false) (w : World) : Gives 99 #[c.v] w (.eq (.int .i64 0)) := by
 unfold Gives Ord.v
 have HT : Hid True := trivial
 have HB0 : Hid (Blk (w.alloc (.cells c.cells.toArray 25)) w.heap.size 25 c.cells) := Blk.new w _ _
 have kw0 : Kept w (w.alloc (.cells c.cells.toArray 25)) := (Keep.refl _ w).alloc _
 go_enter Try.func99, Try.ntmps99
 go_upto_region 1 with fail
 generalize w.alloc (.cells c.cells.toArray 25) = w0 at HB0 kw0 ⊢
 generalize w.heap.size = g at HB0 ⊢
 refine wp_text 8 [.eq (.pointer (some ⟨g, 4, none⟩)), .eq (.int .i64 c.k), .eq (.bool (decide ((c.k : Int) = (1 : Int)))), .eq (.bool (decide ((c.k : Int) = (1 : Int)))), .cond (!(decide ((c.k : Int) = (1 : Int)))) (.eq (.pointer (some ⟨g, 4, none⟩))), .cond (!(decide ((c.k : Int) = (1 : Int)))) (.eq (.int .i64 c.k)), .cond (!(decide ((c.k : Int) = (1 : Int)))) (.eq (.bool (decide ((c.k : Int) = (5 : Int))))), .eq (.bool false)] rfl (by kernel_rfl) ?_ ?_
 ·refine fsteps_cons 1 rfl (fun a u hE hD hk => f_val (o := ⟨some 3, _, _, _, _, _⟩) (.pointer (some ⟨g, 4, none⟩)) rfl (wanted_none rfl _) (exec_fld 25 4 4 (.tmp 1) (g) rfl (hE 1 (.pointer (some ⟨g, 0, none⟩)) (by kernel_rfl) (by kernel_rfl)) (by kernel_rfl)) rfl) ?_
  refine fsteps_cons 2 rfl (fun a u hE hD hk => f_val (o := ⟨some 4, _, _, _, _, _⟩) (.int .i64 c.k) rfl (wanted_none rfl _) (exec_loadi 3 Try.underlying3 (.tmp 3) ⟨g, 4, none⟩ (.int .i64 c.k) rfl (hD 0 3 (by kernel_rfl)) ((HB0.out.kept hk).fld 4 _ rfl)) rfl) ?_
  refine fsteps_cons 3 rfl (fun a u hE hD hk => f_val (o := ⟨some 5, _, _, _, _, _⟩) (.bool (decide ((c.k : Int) = (1 : Int)))) rfl (wanted_none rfl _) (exec_eqn (p := c.k) (q := 1) rfl (hD 1 4 (by kernel_rfl)) rfl) rfl) ?_
  refine fsteps_cons 4 rfl (fun a u hE hD hk => f_val (o := ⟨some 6, _, _, _, _, _⟩) (.bool (decide ((c.k : Int) = (1 : Int)))) rfl (wanted_none rfl _) (exec_move (.tmp 5) (.bool (decide ((c.k : Int) = (1 : Int)))) rfl (hD 2 5 (by kernel_rfl))) rfl) ?_
  refine fsteps_cons 5 rfl (fun a u hE hD hk => f_unless ((decide ((c.k : Int) = (1 : Int)))) rfl rfl rfl (hD 3 6 (by kernel_rfl)) (fun hb => f_val (o := ⟨some 7, _, _, _, _, _⟩) (.pointer (some ⟨g, 4, none⟩)) rfl (wanted_b rfl rfl (hD 3 6 (by kernel_rfl)) (eq_false_of hb)) (exec_fld 25 4 4 (.tmp 1) (g) rfl (hE 1 (.pointer (some ⟨g, 0, none⟩)) (by kernel_rfl) (by kernel_rfl)) (by kernel_rfl)) rfl)) ?_
  refine fsteps_cons 6 rfl (fun a u hE hD hk => f_unless ((decide ((c.k : Int) = (1 : Int)))) rfl rfl rfl (hD 3 6 (by kernel_rfl)) (fun hb => f_val (o := ⟨some 8, _, _, _, _, _⟩) (.int .i64 c.k) rfl (wanted_b rfl rfl (hD 3 6 (by kernel_rfl)) (eq_false_of hb)) (exec_loadi 3 Try.underlying3 (.tmp 7) ⟨g, 4, none⟩ (.int .i64 c.k) rfl ((hD 4 7 (by kernel_rfl)).1 hb) ((HB0.out.kept hk).fld 4 _ rfl)) rfl)) ?_
  refine fsteps_cons 7 rfl (fun a u hE hD hk => f_unless ((decide ((c.k : Int) = (1 : Int)))) rfl rfl rfl (hD 3 6 (by kernel_rfl)) (fun hb => f_val (o := ⟨some 9, _, _, _, _, _⟩) (.bool (decide ((c.k : Int) = (5 : Int)))) rfl (wanted_b rfl rfl (hD 3 6 (by kernel_rfl)) (eq_false_of hb)) (exec_eqn (p := c.k) (q := 5) rfl ((hD 5 8 (by kernel_rfl)).1 hb) rfl) rfl)) ?_
  refine fsteps_cons 8 rfl (fun a u hE hD hk => f_as (show (((decide ((c.k : Int) = (1 : Int))) || (decide ((c.k : Int) = (5 : Int)))) : Bool) = false from hb1) (f_val (o := ⟨some 10, _, _, _, _, _⟩) (.bool ((decide ((c.k : Int) = (1 : Int))) || (decide ((c.k : Int) = (5 : Int))))) rfl (wanted_none rfl _) (exec_pickor (.tmp 6) (.const (.bool true)) (.tmp 9) ((decide ((c.k : Int) = (1 : Int)))) ((decide ((c.k : Int) = (5 : Int)))) rfl (hD 3 6 (by kernel_rfl)) rfl (fun hb2 => ((hD 6 9 (by kernel_rfl)).1 hb2))) rfl)) ?_
  exact fsteps_nil
 intro gv w1 hV k1
 rw [show dstsOf _ 8 = [3, 4, 5, 6, 7, 8, 9, 10] by kernel_rfl]
 simp only [fC, fN, sA, sS, sZ, dS, dZ]
 rw [show gv 10 = .bool false from hV 7 10 (by kernel_rfl)]
 clear hV
 refine wpList_nil ?_
 have HB1 := Lib.hid (HB0.out.kept k1)
 have kw1 := kw0.trans k1
 clear k1 kw0
 go_wp2
 go_ret
 exact ⟨_, rfl, rfl, kw1⟩
theorem mostShown_any (c : Ord) (w : World) : Gives 99 #[c.v] w (.eq (.int .i64 c.shown)) := by
 unfold Ord.shown
 by_cases h : c.k = 1 ∨ c.k = 5
 ·rw [if_pos h]
  exact mostShown_t c (by simpa using h) w
 ·rw [if_neg h]
  exact mostShown_f c (by simpa using h) w
set_option maxRecDepth 100000 in
set_option maxHeartbeats 800000 in
theorem hasPrices_s (c : Ord) (hS : rng c.stop 0 1048576 = false) (w : World) : Gives 86 #[c.v] w (.eq (.bool false)) := by
 unfold Gives Ord.v
 have HT : Hid True := trivial
 have HB0 : Hid (Blk (w.alloc (.cells c.cells.toArray 25)) w.heap.size 25 c.cells) := Blk.new w _ _
 have kw0 : Kept w (w.alloc (.cells c.cells.toArray 25)) := (Keep.refl _ w).alloc _
 go_enter Try.func86, Try.ntmps86
 go_upto_region 1 with fail
 generalize w.alloc (.cells c.cells.toArray 25) = w0 at HB0 kw0 ⊢
 generalize w.heap.size = g at HB0 ⊢
 refine wp_text 4 [.eq (.pointer (some ⟨g, 8, none⟩)), .eq (.int .i64 c.stop), .eq (.bool (rng c.stop 0 1048576)), .eq (.bool true)] rfl (by kernel_rfl) ?_ ?_
 ·refine fsteps_cons 1 rfl (fun a u hE hD hk => f_val (o := ⟨some 3, _, _, _, _, _⟩) (.pointer (some ⟨g, 8, none⟩)) rfl (wanted_none rfl _) (exec_fld 25 8 8 (.tmp 1) (g) rfl (hE 1 (.pointer (some ⟨g, 0, none⟩)) (by kernel_rfl) (by kernel_rfl)) (by kernel_rfl)) rfl) ?_
  refine fsteps_cons 2 rfl (fun a u hE hD hk => f_val (o := ⟨some 4, _, _, _, _, _⟩) (.int .i64 c.stop) rfl (wanted_none rfl _) (exec_loadi 3 Try.underlying3 (.tmp 3) ⟨g, 8, none⟩ (.int .i64 c.stop) rfl (hD 0 3 (by kernel_rfl)) ((HB0.out.kept hk).fld 8 _ rfl)) rfl) ?_
  refine fsteps_cons 3 rfl (fun a u hE hD hk => f_call (o := ⟨some 5, _, _, _, _, _⟩) 98 #[.int .i64 c.stop, .int .i64 0, .int .i64 1048576] rfl (wanted_none rfl _) (exec_call 98 _ [.tmp 4, .const (.int .i64 0), .const (.int .i64 1048576)] _ [.int .i64 c.stop, .int .i64 0, .int .i64 1048576] Try.func98 (by kernel_rfl) (by kernel_rfl) rfl (show [a.eval (.tmp 4), a.eval (.const (.int .i64 0)), a.eval (.const (.int .i64 1048576))] = [.int .i64 c.stop, .int .i64 0, .int .i64 1048576] from (by rw [show a.eval (.tmp 4) = .int .i64 c.stop from (hD 1 4 (by kernel_rfl))] <;> rfl)) u) (owithin_any _ _ _ u)) ?_
  refine fsteps_cons 4 rfl (fun a u hE hD hk => f_as (show ((!(rng c.stop 0 1048576)) : Bool) = true from (by rw [hS]; rfl)) (f_val (o := ⟨some 6, _, _, _, _, _⟩) (.bool (!(rng c.stop 0 1048576))) rfl (wanted_none rfl _) (exec_not _ (.tmp 5) (rng c.stop 0 1048576) rfl (hD 2 5 (by kernel_rfl))) rfl)) ?_
  exact fsteps_nil
 intro gv w1 hV k1
 rw [show dstsOf _ 4 = [3, 4, 5, 6] by kernel_rfl]
 simp only [fC, fN, sA, sS, sZ, dS, dZ]
 rw [show gv 6 = .bool true from hV 3 6 (by kernel_rfl)]
 clear hV
 refine wpList_nil ?_
 have HB1 := Lib.hid (HB0.out.kept k1)
 have kw1 := kw0.trans k1
 clear k1 kw0
 go_wp2
 go_ret
 exact ⟨_, rfl, rfl, kw1⟩
set_option maxRecDepth 100000 in
set_option maxHeartbeats 800000 in
theorem hasPrices_m (c : Ord) (hS : rng c.stop 0 1048576 = true) (hK : decide (c.k = 2) = true) (w : World) : Gives 86 #[c.v] w (.eq (.bool (decide (c.price = 0)))) := by
 unfold Gives Ord.v
 have HT : Hid True := trivial
 have HB0 : Hid (Blk (w.alloc (.cells c.cells.toArray 25)) w.heap.size 25 c.cells) := Blk.new w _ _
 have kw0 : Kept w (w.alloc (.cells c.cells.toArray 25)) := (Keep.refl _ w).alloc _
 go_enter Try.func86, Try.ntmps86
 go_upto_region 1 with fail
 generalize w.alloc (.cells c.cells.toArray 25) = w0 at HB0 kw0 ⊢
 generalize w.heap.size = g at HB0 ⊢
 refine wp_text 4 [.eq (.pointer (some ⟨g, 8, none⟩)), .eq (.int .i64 c.stop), .eq (.bool (rng c.stop 0 1048576)), .eq (.bool false)] rfl (by kernel_rfl) ?_ ?_
 ·refine fsteps_cons 1 rfl (fun a u hE hD hk => f_val (o := ⟨some 3, _, _, _, _, _⟩) (.pointer (some ⟨g, 8, none⟩)) rfl (wanted_none rfl _) (exec_fld 25 8 8 (.tmp 1) (g) rfl (hE 1 (.pointer (some ⟨g, 0, none⟩)) (by kernel_rfl) (by kernel_rfl)) (by kernel_rfl)) rfl) ?_
  refine fsteps_cons 2 rfl (fun a u hE hD hk => f_val (o := ⟨some 4, _, _, _, _, _⟩) (.int .i64 c.stop) rfl (wanted_none rfl _) (exec_loadi 3 Try.underlying3 (.tmp 3) ⟨g, 8, none⟩ (.int .i64 c.stop) rfl (hD 0 3 (by kernel_rfl)) ((HB0.out.kept hk).fld 8 _ rfl)) rfl) ?_
  refine fsteps_cons 3 rfl (fun a u hE hD hk => f_call (o := ⟨some 5, _, _, _, _, _⟩) 98 #[.int .i64 c.stop, .int .i64 0, .int .i64 1048576] rfl (wanted_none rfl _) (exec_call 98 _ [.tmp 4, .const (.int .i64 0), .const (.int .i64 1048576)] _ [.int .i64 c.stop, .int .i64 0, .int .i64 1048576] Try.func98 (by kernel_rfl) (by kernel_rfl) rfl (show [a.eval (.tmp 4), a.eval (.const (.int .i64 0)), a.eval (.const (.int .i64 1048576))] = [.int .i64 c.stop, .int .i64 0, .int .i64 1048576] from (by rw [show a.eval (.tmp 4) = .int .i64 c.stop from (hD 1 4 (by kernel_rfl))] <;> rfl)) u) (owithin_any _ _ _ u)) ?_
  refine fsteps_cons 4 rfl (fun a u hE hD hk => f_as (show ((!(rng c.stop 0 1048576)) : Bool) = false from (by rw [hS]; rfl)) (f_val (o := ⟨some 6, _, _, _, _, _⟩) (.bool (!(rng c.stop 0 1048576))) rfl (wanted_none rfl _) (exec_not _ (.tmp 5) (rng c.stop 0 1048576) rfl (hD 2 5 (by kernel_rfl))) rfl)) ?_
  exact fsteps_nil
 intro gv w1 hV k1
 rw [show dstsOf _ 4 = [3, 4, 5, 6] by kernel_rfl]
 simp only [fC, fN, sA, sS, sZ, dS, dZ]
 rw [show gv 6 = .bool false from hV 3 6 (by kernel_rfl)]
 clear hV
 refine wpList_nil ?_
 have HB1 := Lib.hid (HB0.out.kept k1)
 have kw1 := kw0.trans k1
 clear k1 kw0
 go_upto_region 3 with fail
 refine wp_text 3 [.eq (.pointer (some ⟨g, 4, none⟩)), .eq (.int .i64 c.k), .eq (.bool true)] rfl (by kernel_rfl) ?_ ?_
 ·refine fsteps_cons 1 rfl (fun a u hE hD hk => f_val (o := ⟨some 7, _, _, _, _, _⟩) (.pointer (some ⟨g, 4, none⟩)) rfl (wanted_none rfl _) (exec_fld 25 4 4 (.tmp 1) (g) rfl (hE 1 (.pointer (some ⟨g, 0, none⟩)) (by kernel_rfl) (by kernel_rfl)) (by kernel_rfl)) rfl) ?_
  refine fsteps_cons 2 rfl (fun a u hE hD hk => f_val (o := ⟨some 8, _, _, _, _, _⟩) (.int .i64 c.k) rfl (wanted_none rfl _) (exec_loadi 3 Try.underlying3 (.tmp 7) ⟨g, 4, none⟩ (.int .i64 c.k) rfl (hD 0 7 (by kernel_rfl)) ((HB1.out.kept hk).fld 4 _ rfl)) rfl) ?_
  refine fsteps_cons 3 rfl (fun a u hE hD hk => f_as (show ((decide ((c.k : Int) = (2 : Int))) : Bool) = true from hK) (f_val (o := ⟨some 9, _, _, _, _, _⟩) (.bool (decide ((c.k : Int) = (2 : Int)))) rfl (wanted_none rfl _) (exec_eqn (p := c.k) (q := 2) rfl (hD 1 8 (by kernel_rfl)) rfl) rfl)) ?_
  exact fsteps_nil
 intro gv w2 hV k2
 rw [show dstsOf _ 3 = [7, 8, 9] by kernel_rfl]
 simp only [fC, fN, sA, sS, sZ, dS, dZ]
 rw [show gv 9 = .bool true from hV 2 9 (by kernel_rfl)]
 clear hV
 refine wpList_nil ?_
 have HB2 := Lib.hid (HB1.out.kept k2)
 have kw2 := kw1.trans k2
 clear k2 kw1
 go_upto_region 4 with fail
 refine wp_text 3 [.eq (.pointer (some ⟨g, 5, none⟩)), .eq (.int .i64 c.price), .eq (.bool (decide ((c.price : Int) = (0 : Int))))] rfl (by kernel_rfl) ?_ ?_
 ·refine fsteps_cons 1 rfl (fun a u hE hD hk => f_val (o := ⟨some 10, _, _, _, _, _⟩) (.pointer (some ⟨g, 5, none⟩)) rfl (wanted_none rfl _) (exec_fld 25 5 5 (.tmp 1) (g) rfl (hE 1 (.pointer (some ⟨g, 0, none⟩)) (by kernel_rfl) (by kernel_rfl)) (by kernel_rfl)) rfl) ?_
  refine fsteps_cons 2 rfl (fun a u hE hD hk => f_val (o := ⟨some 11, _, _, _, _, _⟩) (.int .i64 c.price) rfl (wanted_none rfl _) (exec_loadi 3 Try.underlying3 (.tmp 10) ⟨g, 5, none⟩ (.int .i64 c.price) rfl (hD 0 10 (by kernel_rfl)) ((HB2.out.kept hk).fld 5 _ rfl)) rfl) ?_
  refine fsteps_cons 3 rfl (fun a u hE hD hk => f_val (o := ⟨some 12, _, _, _, _, _⟩) (.bool (decide ((c.price : Int) = (0 : Int)))) rfl (wanted_none rfl _) (exec_eqn (p := c.price) (q := 0) rfl (hD 1 11 (by kernel_rfl)) rfl) rfl) ?_
  exact fsteps_nil
 intro gv w3 hV k3
 rw [show dstsOf _ 3 = [10, 11, 12] by kernel_rfl]
 simp only [fC, fN, sA, sS, sZ, dS, dZ]
 rw [show gv 12 = .bool (decide ((c.price : Int) = (0 : Int))) from hV 2 12 (by kernel_rfl)]
 clear hV
 have HB3 := Lib.hid (HB2.out.kept k3)
 have kw3 := kw2.trans k3
 clear k3 kw2
 go_wp2
 go_ret
 exact ⟨_, rfl, rfl, kw3⟩
set_option maxRecDepth 100000 in
set_option maxHeartbeats 800000 in
theorem hasPrices_o (c : Ord) (hS : rng c.stop 0 1048576 = true) (hK : decide (c.k = 2) = false) (w : World) : Gives 86 #[c.v] w (.eq (.bool (rng c.price 1 1048576))) := by
 unfold Gives Ord.v
 have HT : Hid True := trivial
 have HB0 : Hid (Blk (w.alloc (.cells c.cells.toArray 25)) w.heap.size 25 c.cells) := Blk.new w _ _
 have kw0 : Kept w (w.alloc (.cells c.cells.toArray 25)) := (Keep.refl _ w).alloc _
 go_enter Try.func86, Try.ntmps86
 go_upto_region 1 with fail
 generalize w.alloc (.cells c.cells.toArray 25) = w0 at HB0 kw0 ⊢
 generalize w.heap.size = g at HB0 ⊢
 refine wp_text 4 [.eq (.pointer (some ⟨g, 8, none⟩)), .eq (.int .i64 c.stop), .eq (.bool (rng c.stop 0 1048576)), .eq (.bool false)] rfl (by kernel_rfl) ?_ ?_
 ·refine fsteps_cons 1 rfl (fun a u hE hD hk => f_val (o := ⟨some 3, _, _, _, _, _⟩) (.pointer (some ⟨g, 8, none⟩)) rfl (wanted_none rfl _) (exec_fld 25 8 8 (.tmp 1) (g) rfl (hE 1 (.pointer (some ⟨g, 0, none⟩)) (by kernel_rfl) (by kernel_rfl)) (by kernel_rfl)) rfl) ?_
  refine fsteps_cons 2 rfl (fun a u hE hD hk => f_val (o := ⟨some 4, _, _, _, _, _⟩) (.int .i64 c.stop) rfl (wanted_none rfl _) (exec_loadi 3 Try.underlying3 (.tmp 3) ⟨g, 8, none⟩ (.int .i64 c.stop) rfl (hD 0 3 (by kernel_rfl)) ((HB0.out.kept hk).fld 8 _ rfl)) rfl) ?_
  refine fsteps_cons 3 rfl (fun a u hE hD hk => f_call (o := ⟨some 5, _, _, _, _, _⟩) 98 #[.int .i64 c.stop, .int .i64 0, .int .i64 1048576] rfl (wanted_none rfl _) (exec_call 98 _ [.tmp 4, .const (.int .i64 0), .const (.int .i64 1048576)] _ [.int .i64 c.stop, .int .i64 0, .int .i64 1048576] Try.func98 (by kernel_rfl) (by kernel_rfl) rfl (show [a.eval (.tmp 4), a.eval (.const (.int .i64 0)), a.eval (.const (.int .i64 1048576))] = [.int .i64 c.stop, .int .i64 0, .int .i64 1048576] from (by rw [show a.eval (.tmp 4) = .int .i64 c.stop from (hD 1 4 (by kernel_rfl))] <;> rfl)) u) (owithin_any _ _ _ u)) ?_
  refine fsteps_cons 4 rfl (fun a u hE hD hk => f_as (show ((!(rng c.stop 0 1048576)) : Bool) = false from (by rw [hS]; rfl)) (f_val (o := ⟨some 6, _, _, _, _, _⟩) (.bool (!(rng c.stop 0 1048576))) rfl (wanted_none rfl _) (exec_not _ (.tmp 5) (rng c.stop 0 1048576) rfl (hD 2 5 (by kernel_rfl))) rfl)) ?_
  exact fsteps_nil
 intro gv w1 hV k1
 rw [show dstsOf _ 4 = [3, 4, 5, 6] by kernel_rfl]
 simp only [fC, fN, sA, sS, sZ, dS, dZ]
 rw [show gv 6 = .bool false from hV 3 6 (by kernel_rfl)]
 clear hV
 refine wpList_nil ?_
 have HB1 := Lib.hid (HB0.out.kept k1)
 have kw1 := kw0.trans k1
 clear k1 kw0
 go_upto_region 3 with fail
 refine wp_text 3 [.eq (.pointer (some ⟨g, 4, none⟩)), .eq (.int .i64 c.k), .eq (.bool false)] rfl (by kernel_rfl) ?_ ?_
 ·refine fsteps_cons 1 rfl (fun a u hE hD hk => f_val (o := ⟨some 7, _, _, _, _, _⟩) (.pointer (some ⟨g, 4, none⟩)) rfl (wanted_none rfl _) (exec_fld 25 4 4 (.tmp 1) (g) rfl (hE 1 (.pointer (some ⟨g, 0, none⟩)) (by kernel_rfl) (by kernel_rfl)) (by kernel_rfl)) rfl) ?_
  refine fsteps_cons 2 rfl (fun a u hE hD hk => f_val (o := ⟨some 8, _, _, _, _, _⟩) (.int .i64 c.k) rfl (wanted_none rfl _) (exec_loadi 3 Try.underlying3 (.tmp 7) ⟨g, 4, none⟩ (.int .i64 c.k) rfl (hD 0 7 (by kernel_rfl)) ((HB1.out.kept hk).fld 4 _ rfl)) rfl) ?_
  refine fsteps_cons 3 rfl (fun a u hE hD hk => f_as (show ((decide ((c.k : Int) = (2 : Int))) : Bool) = false from hK) (f_val (o := ⟨some 9, _, _, _, _, _⟩) (.bool (decide ((c.k : Int) = (2 : Int)))) rfl (wanted_none rfl _) (exec_eqn (p := c.k) (q := 2) rfl (hD 1 8 (by kernel_rfl)) rfl) rfl)) ?_
  exact fsteps_nil
 intro gv w2 hV k2
 rw [show dstsOf _ 3 = [7, 8, 9] by kernel_rfl]
 simp only [fC, fN, sA, sS, sZ, dS, dZ]
 rw [show gv 9 = .bool false from hV 2 9 (by kernel_rfl)]
 clear hV
 refine wpList_nil ?_
 have HB2 := Lib.hid (HB1.out.kept k2)
 have kw2 := kw1.trans k2
 clear k2 kw1
 go_upto_region 5 with fail
 refine wp_text 3 [.eq (.pointer (some ⟨g, 5, none⟩)), .eq (.int .i64 c.price), .eq (.bool (rng c.price 1 1048576))] rfl (by kernel_rfl) ?_ ?_
 ·refine fsteps_cons 1 rfl (fun a u hE hD hk => f_val (o := ⟨some 13, _, _, _, _, _⟩) (.pointer (some ⟨g, 5, none⟩)) rfl (wanted_none rfl _) (exec_fld 25 5 5 (.tmp 1) (g) rfl (hE 1 (.pointer (some ⟨g, 0, none⟩)) (by kernel_rfl) (by kernel_rfl)) (by kernel_rfl)) rfl) ?_
  refine fsteps_cons 2 rfl (fun a u hE hD hk => f_val (o := ⟨some 14, _, _, _, _, _⟩) (.int .i64 c.price) rfl (wanted_none rfl _) (exec_loadi 3 Try.underlying3 (.tmp 13) ⟨g, 5, none⟩ (.int .i64 c.price) rfl (hD 0 13 (by kernel_rfl)) ((HB2.out.kept hk).fld 5 _ rfl)) rfl) ?_
  refine fsteps_cons 3 rfl (fun a u hE hD hk => f_call (o := ⟨some 15, _, _, _, _, _⟩) 98 #[.int .i64 c.price, .int .i64 1, .int .i64 1048576] rfl (wanted_none rfl _) (exec_call 98 _ [.tmp 14, .const (.int .i64 1), .const (.int .i64 1048576)] _ [.int .i64 c.price, .int .i64 1, .int .i64 1048576] Try.func98 (by kernel_rfl) (by kernel_rfl) rfl (show [a.eval (.tmp 14), a.eval (.const (.int .i64 1)), a.eval (.const (.int .i64 1048576))] = [.int .i64 c.price, .int .i64 1, .int .i64 1048576] from (by rw [show a.eval (.tmp 14) = .int .i64 c.price from (hD 1 14 (by kernel_rfl))] <;> rfl)) u) (owithin_any _ _ _ u)) ?_
  exact fsteps_nil
 intro gv w3 hV k3
 rw [show dstsOf _ 3 = [13, 14, 15] by kernel_rfl]
 simp only [fC, fN, sA, sS, sZ, dS, dZ]
 rw [show gv 15 = .bool (rng c.price 1 1048576) from hV 2 15 (by kernel_rfl)]
 clear hV
 have HB3 := Lib.hid (HB2.out.kept k3)
 have kw3 := kw2.trans k3
 clear k3 kw2
 go_wp2
 go_ret
 exact ⟨_, rfl, rfl, kw3⟩
theorem hasPrices_any (c : Ord) (w : World) : Gives 86 #[c.v] w (.eq (.bool c.prices)) := by
 unfold Ord.prices
 cases hS : rng c.stop 0 1048576 with
 | false => exact hasPrices_s c hS w
 | true =>
  by_cases hK : c.k = 2
  ·rw [if_pos hK]
   exact hasPrices_m c hS (by simpa using hK) w
  ·rw [if_neg hK]
   exact hasPrices_o c hS (by simpa using hK) w
set_option maxRecDepth 100000 in
set_option maxHeartbeats 800000 in
theorem hasQuantities_any (c : Ord) (w : World) : Gives 87 #[c.v] w (.eq (.bool c.amounts)) := by
 unfold Gives Ord.v
 have HT : Hid True := trivial
 have HB0 : Hid (Blk (w.alloc (.cells c.cells.toArray 25)) w.heap.size 25 c.cells) := Blk.new w _ _
 have kw0 : Kept w (w.alloc (.cells c.cells.toArray 25)) := (Keep.refl _ w).alloc _
 go_enter Try.func87, Try.ntmps87
 go_upto_region 1 with fail
 generalize w.alloc (.cells c.cells.toArray 25) = w0 at HB0 kw0 ⊢
 generalize w.heap.size = g at HB0 ⊢
 refine wp_free 10 [.eq (.pointer (some ⟨g, 6, none⟩)), .eq (.int .i64 c.qty), .eq (.bool (rng c.qty 1 1048576)), .eq (.bool (rng c.qty 1 1048576)), .cond (rng c.qty 1 1048576) (.eq (.pointer (some ⟨g, 7, none⟩))), .cond (rng c.qty 1 1048576) (.eq (.int .i64 c.shw)), .cond (rng c.qty 1 1048576) (.eq (c.v)), .cond (rng c.qty 1 1048576) (.eq (.int .i64 c.shown)), .cond (rng c.qty 1 1048576) (.eq (.bool (rng c.shw 0 c.shown))), .eq (.bool ((rng c.qty 1 1048576) && (rng c.shw 0 c.shown)))] (by kernel_rfl) rfl (by kernel_rfl) ?_ ?_
 ·refine fsteps_cons 1 rfl (fun a u hE hD hk => f_val (o := ⟨some 3, _, _, _, _, _⟩) (.pointer (some ⟨g, 6, none⟩)) rfl (wanted_none rfl _) (exec_fld 25 6 6 (.tmp 1) (g) rfl (hE 1 (.pointer (some ⟨g, 0, none⟩)) (by kernel_rfl) (by kernel_rfl)) (by kernel_rfl)) rfl) ?_
  refine fsteps_cons 2 rfl (fun a u hE hD hk => f_val (o := ⟨some 4, _, _, _, _, _⟩) (.int .i64 c.qty) rfl (wanted_none rfl _) (exec_loadi 3 Try.underlying3 (.tmp 3) ⟨g, 6, none⟩ (.int .i64 c.qty) rfl (hD 0 3 (by kernel_rfl)) ((HB0.out.kept hk).fld 6 _ rfl)) rfl) ?_
  refine fsteps_cons 3 rfl (fun a u hE hD hk => f_call (o := ⟨some 5, _, _, _, _, _⟩) 98 #[.int .i64 c.qty, .int .i64 1, .int .i64 1048576] rfl (wanted_none rfl _) (exec_call 98 _ [.tmp 4, .const (.int .i64 1), .const (.int .i64 1048576)] _ [.int .i64 c.qty, .int .i64 1, .int .i64 1048576] Try.func98 (by kernel_rfl) (by kernel_rfl) rfl (show [a.eval (.tmp 4), a.eval (.const (.int .i64 1)), a.eval (.const (.int .i64 1048576))] = [.int .i64 c.qty, .int .i64 1, .int .i64 1048576] from (by rw [show a.eval (.tmp 4) = .int .i64 c.qty from (hD 1 4 (by kernel_rfl))] <;> rfl)) u) (owithin_any _ _ _ u)) ?_
  refine fsteps_cons 4 rfl (fun a u hE hD hk => f_val (o := ⟨some 6, _, _, _, _, _⟩) (.bool (rng c.qty 1 1048576)) rfl (wanted_none rfl _) (exec_move (.tmp 5) (.bool (rng c.qty 1 1048576)) rfl (hD 2 5 (by kernel_rfl))) rfl) ?_
  refine fsteps_cons 5 rfl (fun a u hE hD hk => f_if ((rng c.qty 1 1048576)) rfl rfl rfl (hD 3 6 (by kernel_rfl)) (fun hb => f_val (o := ⟨some 7, _, _, _, _, _⟩) (.pointer (some ⟨g, 7, none⟩)) rfl (wanted_b rfl rfl (hD 3 6 (by kernel_rfl)) (eq_true_of hb)) (exec_fld 25 7 7 (.tmp 1) (g) rfl (hE 1 (.pointer (some ⟨g, 0, none⟩)) (by kernel_rfl) (by kernel_rfl)) (by kernel_rfl)) rfl)) ?_
  refine fsteps_cons 6 rfl (fun a u hE hD hk => f_if ((rng c.qty 1 1048576)) rfl rfl rfl (hD 3 6 (by kernel_rfl)) (fun hb => f_val (o := ⟨some 8, _, _, _, _, _⟩) (.int .i64 c.shw) rfl (wanted_b rfl rfl (hD 3 6 (by kernel_rfl)) (eq_true_of hb)) (exec_loadi 3 Try.underlying3 (.tmp 7) ⟨g, 7, none⟩ (.int .i64 c.shw) rfl ((hD 4 7 (by kernel_rfl)).1 hb) ((HB0.out.kept hk).fld 7 _ rfl)) rfl)) ?_
  refine fsteps_cons 7 rfl (fun a u hE hD hk => f_if ((rng c.qty 1 1048576)) rfl rfl rfl (hD 3 6 (by kernel_rfl)) (fun hb => f_val (o := ⟨some 9, _, _, _, _, _⟩) (c.v) rfl (wanted_b rfl rfl (hD 3 6 (by kernel_rfl)) (eq_true_of hb)) (exec_loadS 25 (.tmp 1) (g) _ c.cells _ rfl (hE 1 (.pointer (some ⟨g, 0, none⟩)) (by kernel_rfl) (by kernel_rfl)) (HB0.out.kept hk) Try.underlying25 (by rw [Ord.cells_len _ HT.out]; exact ord_size)) rfl)) ?_
  refine fsteps_cons 8 rfl (fun a u hE hD hk => f_if ((rng c.qty 1 1048576)) rfl rfl rfl (hD 3 6 (by kernel_rfl)) (fun hb => f_call (o := ⟨some 10, _, _, _, _, _⟩) 99 #[c.v] rfl (wanted_b rfl rfl (hD 3 6 (by kernel_rfl)) (eq_true_of hb)) (exec_call 99 _ [.tmp 9] _ [c.v] Try.func99 (by kernel_rfl) (by kernel_rfl) rfl (show [a.eval (.tmp 9)] = [c.v] from (by rw [show a.eval (.tmp 9) = c.v from ((hD 6 9 (by kernel_rfl)).1 hb)] <;> rfl)) u) (mostShown_any c u))) ?_
  refine fsteps_cons 9 rfl (fun a u hE hD hk => f_if ((rng c.qty 1 1048576)) rfl rfl rfl (hD 3 6 (by kernel_rfl)) (fun hb => f_call (o := ⟨some 11, _, _, _, _, _⟩) 98 #[.int .i64 c.shw, .int .i64 0, .int .i64 c.shown] rfl (wanted_b rfl rfl (hD 3 6 (by kernel_rfl)) (eq_true_of hb)) (exec_call 98 _ [.tmp 8, .const (.int .i64 0), .tmp 10] _ [.int .i64 c.shw, .int .i64 0, .int .i64 c.shown] Try.func98 (by kernel_rfl) (by kernel_rfl) rfl (show [a.eval (.tmp 8), a.eval (.const (.int .i64 0)), a.eval (.tmp 10)] = [.int .i64 c.shw, .int .i64 0, .int .i64 c.shown] from (by rw [show a.eval (.tmp 8) = .int .i64 c.shw from ((hD 5 8 (by kernel_rfl)).1 hb), show a.eval (.tmp 10) = .int .i64 c.shown from ((hD 7 10 (by kernel_rfl)).1 hb)] <;> rfl)) u) (owithin_any _ _ _ u))) ?_
  refine fsteps_cons 10 rfl (fun a u hE hD hk => f_val (o := ⟨some 12, _, _, _, _, _⟩) (.bool ((rng c.qty 1 1048576) && (rng c.shw 0 c.shown))) rfl (wanted_none rfl _) (exec_pickand (.tmp 6) (.tmp 11) (.const (.bool false)) ((rng c.qty 1 1048576)) ((rng c.shw 0 c.shown)) rfl (hD 3 6 (by kernel_rfl)) (fun hb2 => ((hD 8 11 (by kernel_rfl)).1 hb2)) rfl) rfl) ?_
  exact fsteps_nil
 intro gv w1 hV k1
 rw [show dstsOf _ 10 = [3, 4, 5, 6, 7, 8, 9, 10, 11, 12] by kernel_rfl]
 simp only [fC, fN, sA, sS, sZ, dS, dZ]
 rw [show gv 12 = .bool ((rng c.qty 1 1048576) && (rng c.shw 0 c.shown)) from hV 9 12 (by kernel_rfl)]
 clear hV
 have HB1 := Lib.hid (HB0.out.kept k1)
 have kw1 := kw0.trans k1
 clear k1 kw0
 go_wp2
 go_ret
 exact ⟨_, rfl, rfl, kw1⟩
set_option maxRecDepth 100000 in
set_option maxHeartbeats 800000 in
theorem right_t (c : Ord) (hR : c.right = true) (w : World) : Gives 62 #[c.v] w (.eq (.int .i64 0)) := by
 unfold Gives Ord.v
 have HT : Hid True := trivial
 have HB0 : Hid (Blk (w.alloc (.cells c.cells.toArray 25)) w.heap.size 25 c.cells) := Blk.new w _ _
 have kw0 : Kept w (w.alloc (.cells c.cells.toArray 25)) := (Keep.refl _ w).alloc _
 go_enter Try.func62, Try.ntmps62
 go_upto_region 1 with fail
 generalize w.alloc (.cells c.cells.toArray 25) = w0 at HB0 kw0 ⊢
 generalize w.heap.size = g at HB0 ⊢
 refine wp_text 14 [.eq (c.v), .eq (.bool c.owned), .eq (.bool c.owned), .cond c.owned (.eq (c.v)), .cond c.owned (.eq (.bool c.ofApi)), .eq (.bool (c.owned && c.ofApi)), .eq (.bool (c.owned && c.ofApi)), .cond (c.owned && c.ofApi) (.eq (c.v)), .cond (c.owned && c.ofApi) (.eq (.bool c.prices)), .eq (.bool ((c.owned && c.ofApi) && c.prices)), .eq (.bool ((c.owned && c.ofApi) && c.prices)), .cond ((c.owned && c.ofApi) && c.prices) (.eq (c.v)), .cond ((c.owned && c.ofApi) && c.prices) (.eq (.bool c.amounts)), .eq (.bool true)] rfl (by kernel_rfl) ?_ ?_
 ·refine fsteps_cons 1 rfl (fun a u hE hD hk => f_val (o := ⟨some 3, _, _, _, _, _⟩) (c.v) rfl (wanted_none rfl _) (exec_loadS 25 (.tmp 1) (g) _ c.cells _ rfl (hE 1 (.pointer (some ⟨g, 0, none⟩)) (by kernel_rfl) (by kernel_rfl)) (HB0.out.kept hk) Try.underlying25 (by rw [Ord.cells_len _ HT.out]; exact ord_size)) rfl) ?_
  refine fsteps_cons 2 rfl (fun a u hE hD hk => f_call (o := ⟨some 4, _, _, _, _, _⟩) 84 #[c.v] rfl (wanted_none rfl _) (exec_call 84 _ [.tmp 3] _ [c.v] Try.func84 (by kernel_rfl) (by kernel_rfl) rfl (show [a.eval (.tmp 3)] = [c.v] from (by rw [show a.eval (.tmp 3) = c.v from (hD 0 3 (by kernel_rfl))] <;> rfl)) u) (isOwned_any c u)) ?_
  refine fsteps_cons 3 rfl (fun a u hE hD hk => f_val (o := ⟨some 5, _, _, _, _, _⟩) (.bool c.owned) rfl (wanted_none rfl _) (exec_move (.tmp 4) (.bool c.owned) rfl (hD 1 4 (by kernel_rfl))) rfl) ?_
  refine fsteps_cons 4 rfl (fun a u hE hD hk => f_if (c.owned) rfl rfl rfl (hD 2 5 (by kernel_rfl)) (fun hb => f_val (o := ⟨some 6, _, _, _, _, _⟩) (c.v) rfl (wanted_b rfl rfl (hD 2 5 (by kernel_rfl)) (eq_true_of hb)) (exec_loadS 25 (.tmp 1) (g) _ c.cells _ rfl (hE 1 (.pointer (some ⟨g, 0, none⟩)) (by kernel_rfl) (by kernel_rfl)) (HB0.out.kept hk) Try.underlying25 (by rw [Ord.cells_len _ HT.out]; exact ord_size)) rfl)) ?_
  refine fsteps_cons 5 rfl (fun a u hE hD hk => f_if (c.owned) rfl rfl rfl (hD 2 5 (by kernel_rfl)) (fun hb => f_call (o := ⟨some 7, _, _, _, _, _⟩) 85 #[c.v] rfl (wanted_b rfl rfl (hD 2 5 (by kernel_rfl)) (eq_true_of hb)) (exec_call 85 _ [.tmp 6] _ [c.v] Try.func85 (by kernel_rfl) (by kernel_rfl) rfl (show [a.eval (.tmp 6)] = [c.v] from (by rw [show a.eval (.tmp 6) = c.v from ((hD 3 6 (by kernel_rfl)).1 hb)] <;> rfl)) u) (isOfApi_any c u))) ?_
  refine fsteps_cons 6 rfl (fun a u hE hD hk => f_val (o := ⟨some 8, _, _, _, _, _⟩) (.bool (c.owned && c.ofApi)) rfl (wanted_none rfl _) (exec_pickand (.tmp 5) (.tmp 7) (.const (.bool false)) (c.owned) (c.ofApi) rfl (hD 2 5 (by kernel_rfl)) (fun hb2 => ((hD 4 7 (by kernel_rfl)).1 hb2)) rfl) rfl) ?_
  refine fsteps_cons 7 rfl (fun a u hE hD hk => f_val (o := ⟨some 9, _, _, _, _, _⟩) (.bool (c.owned && c.ofApi)) rfl (wanted_none rfl _) (exec_move (.tmp 8) (.bool (c.owned && c.ofApi)) rfl (hD 5 8 (by kernel_rfl))) rfl) ?_
  refine fsteps_cons 8 rfl (fun a u hE hD hk => f_if ((c.owned && c.ofApi)) rfl rfl rfl (hD 6 9 (by kernel_rfl)) (fun hb => f_val (o := ⟨some 10, _, _, _, _, _⟩) (c.v) rfl (wanted_b rfl rfl (hD 6 9 (by kernel_rfl)) (eq_true_of hb)) (exec_loadS 25 (.tmp 1) (g) _ c.cells _ rfl (hE 1 (.pointer (some ⟨g, 0, none⟩)) (by kernel_rfl) (by kernel_rfl)) (HB0.out.kept hk) Try.underlying25 (by rw [Ord.cells_len _ HT.out]; exact ord_size)) rfl)) ?_
  refine fsteps_cons 9 rfl (fun a u hE hD hk => f_if ((c.owned && c.ofApi)) rfl rfl rfl (hD 6 9 (by kernel_rfl)) (fun hb => f_call (o := ⟨some 11, _, _, _, _, _⟩) 86 #[c.v] rfl (wanted_b rfl rfl (hD 6 9 (by kernel_rfl)) (eq_true_of hb)) (exec_call 86 _ [.tmp 10] _ [c.v] Try.func86 (by kernel_rfl) (by kernel_rfl) rfl (show [a.eval (.tmp 10)] = [c.v] from (by rw [show a.eval (.tmp 10) = c.v from ((hD 7 10 (by kernel_rfl)).1 hb)] <;> rfl)) u) (hasPrices_any c u))) ?_
  refine fsteps_cons 10 rfl (fun a u hE hD hk => f_val (o := ⟨some 12, _, _, _, _, _⟩) (.bool ((c.owned && c.ofApi) && c.prices)) rfl (wanted_none rfl _) (exec_pickand (.tmp 9) (.tmp 11) (.const (.bool false)) ((c.owned && c.ofApi)) (c.prices) rfl (hD 6 9 (by kernel_rfl)) (fun hb2 => ((hD 8 11 (by kernel_rfl)).1 hb2)) rfl) rfl) ?_
  refine fsteps_cons 11 rfl (fun a u hE hD hk => f_val (o := ⟨some 13, _, _, _, _, _⟩) (.bool ((c.owned && c.ofApi) && c.prices)) rfl (wanted_none rfl _) (exec_move (.tmp 12) (.bool ((c.owned && c.ofApi) && c.prices)) rfl (hD 9 12 (by kernel_rfl))) rfl) ?_
  refine fsteps_cons 12 rfl (fun a u hE hD hk => f_if (((c.owned && c.ofApi) && c.prices)) rfl rfl rfl (hD 10 13 (by kernel_rfl)) (fun hb => f_val (o := ⟨some 14, _, _, _, _, _⟩) (c.v) rfl (wanted_b rfl rfl (hD 10 13 (by kernel_rfl)) (eq_true_of hb)) (exec_loadS 25 (.tmp 1) (g) _ c.cells _ rfl (hE 1 (.pointer (some ⟨g, 0, none⟩)) (by kernel_rfl) (by kernel_rfl)) (HB0.out.kept hk) Try.underlying25 (by rw [Ord.cells_len _ HT.out]; exact ord_size)) rfl)) ?_
  refine fsteps_cons 13 rfl (fun a u hE hD hk => f_if (((c.owned && c.ofApi) && c.prices)) rfl rfl rfl (hD 10 13 (by kernel_rfl)) (fun hb => f_call (o := ⟨some 15, _, _, _, _, _⟩) 87 #[c.v] rfl (wanted_b rfl rfl (hD 10 13 (by kernel_rfl)) (eq_true_of hb)) (exec_call 87 _ [.tmp 14] _ [c.v] Try.func87 (by kernel_rfl) (by kernel_rfl) rfl (show [a.eval (.tmp 14)] = [c.v] from (by rw [show a.eval (.tmp 14) = c.v from ((hD 11 14 (by kernel_rfl)).1 hb)] <;> rfl)) u) (hasQuantities_any c u))) ?_
  refine fsteps_cons 14 rfl (fun a u hE hD hk => f_as (show ((((c.owned && c.ofApi) && c.prices) && c.amounts) : Bool) = true from hR) (f_val (o := ⟨some 16, _, _, _, _, _⟩) (.bool (((c.owned && c.ofApi) && c.prices) && c.amounts)) rfl (wanted_none rfl _) (exec_pickand (.tmp 13) (.tmp 15) (.const (.bool false)) (((c.owned && c.ofApi) && c.prices)) (c.amounts) rfl (hD 10 13 (by kernel_rfl)) (fun hb2 => ((hD 12 15 (by kernel_rfl)).1 hb2)) rfl) rfl)) ?_
  exact fsteps_nil
 intro gv w1 hV k1
 rw [show dstsOf _ 14 = [3, 4, 5, 6, 7, 8, 9, 10, 11, 12, 13, 14, 15, 16] by kernel_rfl]
 simp only [fC, fN, sA, sS, sZ, dS, dZ]
 rw [show gv 16 = .bool true from hV 13 16 (by kernel_rfl)]
 clear hV
 refine wpList_nil ?_
 have HB1 := Lib.hid (HB0.out.kept k1)
 have kw1 := kw0.trans k1
 clear k1 kw0
 go_wp2
 go_ret
 exact ⟨_, rfl, rfl, kw1⟩
set_option maxRecDepth 100000 in
set_option maxHeartbeats 800000 in
theorem right_f (c : Ord) (hR : c.right = false) (w : World) : Gives 62 #[c.v] w (.eq (.int .i64 1)) := by
 unfold Gives Ord.v
 have HT : Hid True := trivial
 have HB0 : Hid (Blk (w.alloc (.cells c.cells.toArray 25)) w.heap.size 25 c.cells) := Blk.new w _ _
 have kw0 : Kept w (w.alloc (.cells c.cells.toArray 25)) := (Keep.refl _ w).alloc _
 go_enter Try.func62, Try.ntmps62
 go_upto_region 1 with fail
 generalize w.alloc (.cells c.cells.toArray 25) = w0 at HB0 kw0 ⊢
 generalize w.heap.size = g at HB0 ⊢
 refine wp_text 14 [.eq (c.v), .eq (.bool c.owned), .eq (.bool c.owned), .cond c.owned (.eq (c.v)), .cond c.owned (.eq (.bool c.ofApi)), .eq (.bool (c.owned && c.ofApi)), .eq (.bool (c.owned && c.ofApi)), .cond (c.owned && c.ofApi) (.eq (c.v)), .cond (c.owned && c.ofApi) (.eq (.bool c.prices)), .eq (.bool ((c.owned && c.ofApi) && c.prices)), .eq (.bool ((c.owned && c.ofApi) && c.prices)), .cond ((c.owned && c.ofApi) && c.prices) (.eq (c.v)), .cond ((c.owned && c.ofApi) && c.prices) (.eq (.bool c.amounts)), .eq (.bool false)] rfl (by kernel_rfl) ?_ ?_
 ·refine fsteps_cons 1 rfl (fun a u hE hD hk => f_val (o := ⟨some 3, _, _, _, _, _⟩) (c.v) rfl (wanted_none rfl _) (exec_loadS 25 (.tmp 1) (g) _ c.cells _ rfl (hE 1 (.pointer (some ⟨g, 0, none⟩)) (by kernel_rfl) (by kernel_rfl)) (HB0.out.kept hk) Try.underlying25 (by rw [Ord.cells_len _ HT.out]; exact ord_size)) rfl) ?_
  refine fsteps_cons 2 rfl (fun a u hE hD hk => f_call (o := ⟨some 4, _, _, _, _, _⟩) 84 #[c.v] rfl (wanted_none rfl _) (exec_call 84 _ [.tmp 3] _ [c.v] Try.func84 (by kernel_rfl) (by kernel_rfl) rfl (show [a.eval (.tmp 3)] = [c.v] from (by rw [show a.eval (.tmp 3) = c.v from (hD 0 3 (by kernel_rfl))] <;> rfl)) u) (isOwned_any c u)) ?_
  refine fsteps_cons 3 rfl (fun a u hE hD hk => f_val (o := ⟨some 5, _, _, _, _, _⟩) (.bool c.owned) rfl (wanted_none rfl _) (exec_move (.tmp 4) (.bool c.owned) rfl (hD 1 4 (by kernel_rfl))) rfl) ?_
  refine fsteps_cons 4 rfl (fun a u hE hD hk => f_if (c.owned) rfl rfl rfl (hD 2 5 (by kernel_rfl)) (fun hb => f_val (o := ⟨some 6, _, _, _, _, _⟩) (c.v) rfl (wanted_b rfl rfl (hD 2 5 (by kernel_rfl)) (eq_true_of hb)) (exec_loadS 25 (.tmp 1) (g) _ c.cells _ rfl (hE 1 (.pointer (some ⟨g, 0, none⟩)) (by kernel_rfl) (by kernel_rfl)) (HB0.out.kept hk) Try.underlying25 (by rw [Ord.cells_len _ HT.out]; exact ord_size)) rfl)) ?_
  refine fsteps_cons 5 rfl (fun a u hE hD hk => f_if (c.owned) rfl rfl rfl (hD 2 5 (by kernel_rfl)) (fun hb => f_call (o := ⟨some 7, _, _, _, _, _⟩) 85 #[c.v] rfl (wanted_b rfl rfl (hD 2 5 (by kernel_rfl)) (eq_true_of hb)) (exec_call 85 _ [.tmp 6] _ [c.v] Try.func85 (by kernel_rfl) (by kernel_rfl) rfl (show [a.eval (.tmp 6)] = [c.v] from (by rw [show a.eval (.tmp 6) = c.v from ((hD 3 6 (by kernel_rfl)).1 hb)] <;> rfl)) u) (isOfApi_any c u))) ?_
  refine fsteps_cons 6 rfl (fun a u hE hD hk => f_val (o := ⟨some 8, _, _, _, _, _⟩) (.bool (c.owned && c.ofApi)) rfl (wanted_none rfl _) (exec_pickand (.tmp 5) (.tmp 7) (.const (.bool false)) (c.owned) (c.ofApi) rfl (hD 2 5 (by kernel_rfl)) (fun hb2 => ((hD 4 7 (by kernel_rfl)).1 hb2)) rfl) rfl) ?_
  refine fsteps_cons 7 rfl (fun a u hE hD hk => f_val (o := ⟨some 9, _, _, _, _, _⟩) (.bool (c.owned && c.ofApi)) rfl (wanted_none rfl _) (exec_move (.tmp 8) (.bool (c.owned && c.ofApi)) rfl (hD 5 8 (by kernel_rfl))) rfl) ?_
  refine fsteps_cons 8 rfl (fun a u hE hD hk => f_if ((c.owned && c.ofApi)) rfl rfl rfl (hD 6 9 (by kernel_rfl)) (fun hb => f_val (o := ⟨some 10, _, _, _, _, _⟩) (c.v) rfl (wanted_b rfl rfl (hD 6 9 (by kernel_rfl)) (eq_true_of hb)) (exec_loadS 25 (.tmp 1) (g) _ c.cells _ rfl (hE 1 (.pointer (some ⟨g, 0, none⟩)) (by kernel_rfl) (by kernel_rfl)) (HB0.out.kept hk) Try.underlying25 (by rw [Ord.cells_len _ HT.out]; exact ord_size)) rfl)) ?_
  refine fsteps_cons 9 rfl (fun a u hE hD hk => f_if ((c.owned && c.ofApi)) rfl rfl rfl (hD 6 9 (by kernel_rfl)) (fun hb => f_call (o := ⟨some 11, _, _, _, _, _⟩) 86 #[c.v] rfl (wanted_b rfl rfl (hD 6 9 (by kernel_rfl)) (eq_true_of hb)) (exec_call 86 _ [.tmp 10] _ [c.v] Try.func86 (by kernel_rfl) (by kernel_rfl) rfl (show [a.eval (.tmp 10)] = [c.v] from (by rw [show a.eval (.tmp 10) = c.v from ((hD 7 10 (by kernel_rfl)).1 hb)] <;> rfl)) u) (hasPrices_any c u))) ?_
  refine fsteps_cons 10 rfl (fun a u hE hD hk => f_val (o := ⟨some 12, _, _, _, _, _⟩) (.bool ((c.owned && c.ofApi) && c.prices)) rfl (wanted_none rfl _) (exec_pickand (.tmp 9) (.tmp 11) (.const (.bool false)) ((c.owned && c.ofApi)) (c.prices) rfl (hD 6 9 (by kernel_rfl)) (fun hb2 => ((hD 8 11 (by kernel_rfl)).1 hb2)) rfl) rfl) ?_
  refine fsteps_cons 11 rfl (fun a u hE hD hk => f_val (o := ⟨some 13, _, _, _, _, _⟩) (.bool ((c.owned && c.ofApi) && c.prices)) rfl (wanted_none rfl _) (exec_move (.tmp 12) (.bool ((c.owned && c.ofApi) && c.prices)) rfl (hD 9 12 (by kernel_rfl))) rfl) ?_
  refine fsteps_cons 12 rfl (fun a u hE hD hk => f_if (((c.owned && c.ofApi) && c.prices)) rfl rfl rfl (hD 10 13 (by kernel_rfl)) (fun hb => f_val (o := ⟨some 14, _, _, _, _, _⟩) (c.v) rfl (wanted_b rfl rfl (hD 10 13 (by kernel_rfl)) (eq_true_of hb)) (exec_loadS 25 (.tmp 1) (g) _ c.cells _ rfl (hE 1 (.pointer (some ⟨g, 0, none⟩)) (by kernel_rfl) (by kernel_rfl)) (HB0.out.kept hk) Try.underlying25 (by rw [Ord.cells_len _ HT.out]; exact ord_size)) rfl)) ?_
  refine fsteps_cons 13 rfl (fun a u hE hD hk => f_if (((c.owned && c.ofApi) && c.prices)) rfl rfl rfl (hD 10 13 (by kernel_rfl)) (fun hb => f_call (o := ⟨some 15, _, _, _, _, _⟩) 87 #[c.v] rfl (wanted_b rfl rfl (hD 10 13 (by kernel_rfl)) (eq_true_of hb)) (exec_call 87 _ [.tmp 14] _ [c.v] Try.func87 (by kernel_rfl) (by kernel_rfl) rfl (show [a.eval (.tmp 14)] = [c.v] from (by rw [show a.eval (.tmp 14) = c.v from ((hD 11 14 (by kernel_rfl)).1 hb)] <;> rfl)) u) (hasQuantities_any c u))) ?_
  refine fsteps_cons 14 rfl (fun a u hE hD hk => f_as (show ((((c.owned && c.ofApi) && c.prices) && c.amounts) : Bool) = false from hR) (f_val (o := ⟨some 16, _, _, _, _, _⟩) (.bool (((c.owned && c.ofApi) && c.prices) && c.amounts)) rfl (wanted_none rfl _) (exec_pickand (.tmp 13) (.tmp 15) (.const (.bool false)) (((c.owned && c.ofApi) && c.prices)) (c.amounts) rfl (hD 10 13 (by kernel_rfl)) (fun hb2 => ((hD 12 15 (by kernel_rfl)).1 hb2)) rfl) rfl)) ?_
  exact fsteps_nil
 intro gv w1 hV k1
 rw [show dstsOf _ 14 = [3, 4, 5, 6, 7, 8, 9, 10, 11, 12, 13, 14, 15, 16] by kernel_rfl]
 simp only [fC, fN, sA, sS, sZ, dS, dZ]
 rw [show gv 16 = .bool false from hV 13 16 (by kernel_rfl)]
 clear hV
 refine wpList_nil ?_
 have HB1 := Lib.hid (HB0.out.kept k1)
 have kw1 := kw0.trans k1
 clear k1 kw0
 go_wp2
 go_ret
 exact ⟨_, rfl, rfl, kw1⟩
theorem ordRight_any (c : Ord) (w : World) : Gives 62 #[c.v] w (.eq (.int .i64 c.err)) := by
 unfold Ord.err
 cases h : c.right with
 | true => exact right_t c h w
 | false => exact right_f c h w
set_option maxRecDepth 100000 in
set_option maxHeartbeats 800000 in
theorem crosses_m (c : Ord) (x : Int) (hK : decide (c.k = 2) = true) (w : World) : Gives 35 #[c.v, .int .i64 x] w (.eq (.bool true)) := by
 unfold Gives Ord.v
 have HT : Hid True := trivial
 have HB0 : Hid (Blk (w.alloc (.cells c.cells.toArray 25)) w.heap.size 25 c.cells) := Blk.new w _ _
 have kw0 : Kept w (w.alloc (.cells c.cells.toArray 25)) := (Keep.refl _ w).alloc _
 go_enter Try.func35, Try.ntmps35
 go_upto_region 1 with fail
 generalize w.alloc (.cells c.cells.toArray 25) = w0 at HB0 kw0 ⊢
 generalize w.heap.size = g at HB0 ⊢
 refine wp_text 3 [.eq (.pointer (some ⟨g, 4, none⟩)), .eq (.int .i64 c.k), .eq (.bool true)] rfl (by kernel_rfl) ?_ ?_
 ·refine fsteps_cons 1 rfl (fun a u hE hD hk => f_val (o := ⟨some 5, _, _, _, _, _⟩) (.pointer (some ⟨g, 4, none⟩)) rfl (wanted_none rfl _) (exec_fld 25 4 4 (.tmp 2) (g) rfl (hE 2 (.pointer (some ⟨g, 0, none⟩)) (by kernel_rfl) (by kernel_rfl)) (by kernel_rfl)) rfl) ?_
  refine fsteps_cons 2 rfl (fun a u hE hD hk => f_val (o := ⟨some 6, _, _, _, _, _⟩) (.int .i64 c.k) rfl (wanted_none rfl _) (exec_loadi 3 Try.underlying3 (.tmp 5) ⟨g, 4, none⟩ (.int .i64 c.k) rfl (hD 0 5 (by kernel_rfl)) ((HB0.out.kept hk).fld 4 _ rfl)) rfl) ?_
  refine fsteps_cons 3 rfl (fun a u hE hD hk => f_as (show ((decide ((c.k : Int) = (2 : Int))) : Bool) = true from hK) (f_val (o := ⟨some 7, _, _, _, _, _⟩) (.bool (decide ((c.k : Int) = (2 : Int)))) rfl (wanted_none rfl _) (exec_eqn (p := c.k) (q := 2) rfl (hD 1 6 (by kernel_rfl)) rfl) rfl)) ?_
  exact fsteps_nil
 intro gv w1 hV k1
 rw [show dstsOf _ 3 = [5, 6, 7] by kernel_rfl]
 simp only [fC, fN, sA, sS, sZ, dS, dZ]
 rw [show gv 7 = .bool true from hV 2 7 (by kernel_rfl)]
 clear hV
 refine wpList_nil ?_
 have HB1 := Lib.hid (HB0.out.kept k1)
 have kw1 := kw0.trans k1
 clear k1 kw0
 go_wp2
 go_ret
 exact ⟨_, rfl, rfl, kw1⟩
set_option maxRecDepth 100000 in
set_option maxHeartbeats 800000 in
theorem crosses_o (c : Ord) (x : Int) (hK : decide (c.k = 2) = false) (w : World) : Gives 35 #[c.v, .int .i64 x] w (.eq (.bool (!bet c.side x c.price))) := by
 unfold Gives Ord.v
 have HT : Hid True := trivial
 have HB0 : Hid (Blk (w.alloc (.cells c.cells.toArray 25)) w.heap.size 25 c.cells) := Blk.new w _ _
 have kw0 : Kept w (w.alloc (.cells c.cells.toArray 25)) := (Keep.refl _ w).alloc _
 go_enter Try.func35, Try.ntmps35
 go_upto_region 1 with fail
 generalize w.alloc (.cells c.cells.toArray 25) = w0 at HB0 kw0 ⊢
 generalize w.heap.size = g at HB0 ⊢
 refine wp_text 3 [.eq (.pointer (some ⟨g, 4, none⟩)), .eq (.int .i64 c.k), .eq (.bool false)] rfl (by kernel_rfl) ?_ ?_
 ·refine fsteps_cons 1 rfl (fun a u hE hD hk => f_val (o := ⟨some 5, _, _, _, _, _⟩) (.pointer (some ⟨g, 4, none⟩)) rfl (wanted_none rfl _) (exec_fld 25 4 4 (.tmp 2) (g) rfl (hE 2 (.pointer (some ⟨g, 0, none⟩)) (by kernel_rfl) (by kernel_rfl)) (by kernel_rfl)) rfl) ?_
  refine fsteps_cons 2 rfl (fun a u hE hD hk => f_val (o := ⟨some 6, _, _, _, _, _⟩) (.int .i64 c.k) rfl (wanted_none rfl _) (exec_loadi 3 Try.underlying3 (.tmp 5) ⟨g, 4, none⟩ (.int .i64 c.k) rfl (hD 0 5 (by kernel_rfl)) ((HB0.out.kept hk).fld 4 _ rfl)) rfl) ?_
  refine fsteps_cons 3 rfl (fun a u hE hD hk => f_as (show ((decide ((c.k : Int) = (2 : Int))) : Bool) = false from hK) (f_val (o := ⟨some 7, _, _, _, _, _⟩) (.bool (decide ((c.k : Int) = (2 : Int)))) rfl (wanted_none rfl _) (exec_eqn (p := c.k) (q := 2) rfl (hD 1 6 (by kernel_rfl)) rfl) rfl)) ?_
  exact fsteps_nil
 intro gv w1 hV k1
 rw [show dstsOf _ 3 = [5, 6, 7] by kernel_rfl]
 simp only [fC, fN, sA, sS, sZ, dS, dZ]
 rw [show gv 7 = .bool false from hV 2 7 (by kernel_rfl)]
 clear hV
 refine wpList_nil ?_
 have HB1 := Lib.hid (HB0.out.kept k1)
 have kw1 := kw0.trans k1
 clear k1 kw0
 go_upto_region 3 with fail
 refine wp_text 6 [.eq (.pointer (some ⟨g, 3, none⟩)), .eq (.int .i64 c.side), .eq (.pointer (some ⟨g, 5, none⟩)), .eq (.int .i64 c.price), .eq (.int .i64 x), .eq (.bool (!bet c.side x c.price))] rfl (by kernel_rfl) ?_ ?_
 ·refine fsteps_cons 1 rfl (fun a u hE hD hk => f_val (o := ⟨some 8, _, _, _, _, _⟩) (.pointer (some ⟨g, 3, none⟩)) rfl (wanted_none rfl _) (exec_fld 25 3 3 (.tmp 2) (g) rfl (hE 2 (.pointer (some ⟨g, 0, none⟩)) (by kernel_rfl) (by kernel_rfl)) (by kernel_rfl)) rfl) ?_
  refine fsteps_cons 2 rfl (fun a u hE hD hk => f_val (o := ⟨some 9, _, _, _, _, _⟩) (.int .i64 c.side) rfl (wanted_none rfl _) (exec_loadi 3 Try.underlying3 (.tmp 8) ⟨g, 3, none⟩ (.int .i64 c.side) rfl (hD 0 8 (by kernel_rfl)) ((HB1.out.kept hk).fld 3 _ rfl)) rfl) ?_
  refine fsteps_cons 3 rfl (fun a u hE hD hk => f_val (o := ⟨some 10, _, _, _, _, _⟩) (.pointer (some ⟨g, 5, none⟩)) rfl (wanted_none rfl _) (exec_fld 25 5 5 (.tmp 2) (g) rfl (hE 2 (.pointer (some ⟨g, 0, none⟩)) (by kernel_rfl) (by kernel_rfl)) (by kernel_rfl)) rfl) ?_
  refine fsteps_cons 4 rfl (fun a u hE hD hk => f_val (o := ⟨some 11, _, _, _, _, _⟩) (.int .i64 c.price) rfl (wanted_none rfl _) (exec_loadi 3 Try.underlying3 (.tmp 10) ⟨g, 5, none⟩ (.int .i64 c.price) rfl (hD 2 10 (by kernel_rfl)) ((HB1.out.kept hk).fld 5 _ rfl)) rfl) ?_
  refine fsteps_cons 5 rfl (fun a u hE hD hk => f_val (o := ⟨some 12, _, _, _, _, _⟩) (.int .i64 x) rfl (wanted_none rfl _) (exec_move (.tmp 1) (.int .i64 x) rfl (hE 1 (.int .i64 x) (by kernel_rfl) (by kernel_rfl))) rfl) ?_
  refine fsteps_cons 6 rfl (fun a u hE hD hk => f_call (o := ⟨some 13, _, _, _, _, _⟩) 61 #[.int .i64 c.side, .int .i64 c.price, .int .i64 x] rfl (wanted_none rfl _) (exec_call 61 _ [.tmp 9, .tmp 11, .tmp 12] _ [.int .i64 c.side, .int .i64 c.price, .int .i64 x] Try.func61 (by kernel_rfl) (by kernel_rfl) rfl (show [a.eval (.tmp 9), a.eval (.tmp 11), a.eval (.tmp 12)] = [.int .i64 c.side, .int .i64 c.price, .int .i64 x] from (by rw [show a.eval (.tmp 9) = .int .i64 c.side from (hD 1 9 (by kernel_rfl)), show a.eval (.tmp 11) = .int .i64 c.price from (hD 3 11 (by kernel_rfl)), show a.eval (.tmp 12) = .int .i64 x from (hD 4 12 (by kernel_rfl))] <;> rfl)) u) (reaches_any _ _ _ u)) ?_
  exact fsteps_nil
 intro gv w2 hV k2
 rw [show dstsOf _ 6 = [8, 9, 10, 11, 12, 13] by kernel_rfl]
 simp only [fC, fN, sA, sS, sZ, dS, dZ]
 rw [show gv 13 = .bool (!bet c.side x c.price) from hV 5 13 (by kernel_rfl)]
 clear hV
 have HB2 := Lib.hid (HB1.out.kept k2)
 have kw2 := kw1.trans k2
 clear k2 kw1
 go_wp2
 go_ret
 exact ⟨_, rfl, rfl, kw2⟩
theorem crosses_any (c : Ord) (x : Int) (w : World) : Gives 35 #[c.v, .int .i64 x] w (.eq (.bool (c.crosses x))) := by
 unfold Ord.crosses
 cases hK : decide (c.k = 2) with
 | true => exact crosses_m c x hK w
 | false => exact crosses_o c x hK w
end Go.Proofs.Ytfpfpmhkkgfdbaa
namespace Go.Proofs.Ytfpfpmhkkgfdbaa
open Go.RowKit
set_option maxRecDepth 100000
def bkCells (v1 v2 : Value) (last no : Int) : List Value := [.int .i64 1, v1, .int .i64 2, v2, .int .i64 last, .int .i64 no]
def Bk (w : World) (F : Nat → Prop) (p : Nat) (B : Bok) : Prop := F p ∧ (∀ b, F b → b < w.heap.size) ∧ ∃ v1 v2 F1 F2, Blk w p 75 (bkCells v1 v2 B.last B.no) ∧ Way 110 112 97 w F1 v1 B.buys ∧ Way 110 112 97 w F2 v2 B.sells ∧ (∀ b, F1 b → F b ∧ b ≠ p ∧ ¬ F2 b) ∧ (∀ b, F2 b → F b ∧ b ≠ p)
theorem Bk.keep {S F : Nat → Prop} {w w' : World} {p : Nat} {B : Bok} (h : Bk w F p B) (hk : Keep S w w') (hn : ∀ b, F b → ¬ S b) : Bk w' F p B := by
 obtain ⟨h1, h2, v1, v2, F1, F2, hB, hW1, hW2, h3, h4⟩ := h
 exact ⟨h1, fun b hb => Nat.lt_of_lt_of_le (h2 b hb) hk.size, v1, v2, F1, F2, hB.keep hk (hn p h1), hW1.keep hk (fun b hb => hn b (h3 b hb).1), hW2.keep hk (fun b hb => hn b (h4 b hb).1), h3, h4⟩
theorem Bk.kept {F : Nat → Prop} {w w' : World} {p : Nat} {B : Bok} (h : Bk w F p B) (hk : Kept w w') : Bk w' F p B := h.keep hk (fun _ _ h => h)
theorem Bk.lt {F : Nat → Prop} {w : World} {p : Nat} {B : Bok} (h : Bk w F p B) : ∀ b, F b → b < w.heap.size := h.2.1
def offS (s : Int) : Nat := if s = 1 then 0 else 2
theorem Bk.lad {F : Nat → Prop} {w : World} {p : Nat} {B : Bok} (h : Bk w F p B) {s : Int} (hs : s = 1 ∨ s = 2) : ∃ F', Lad w F' p (offS s) s (B.sd s) := by
 obtain ⟨h1, h2, v1, v2, F1, F2, hB, hW1, hW2, h3, h4⟩ := h
 rcases hs with rfl | rfl
 ·exact ⟨F1, v1, hB.cell 0, hB.cell 1, hW1⟩
 ·exact ⟨F2, v2, hB.cell 2, hB.cell 3, hW2⟩
def Kn.lad (s : Int) (L : List Lev) : Kn := ⟨fun v w => ∃ F g off s', v = .pointer (some ⟨g, off, none⟩) ∧ Lad w F g off s' L ∧ (s' = s ∨ L = []), fun _ _ _ ⟨F, g, off, s', h1, h2, h3⟩ hk => ⟨F, g, off, s', h1, h2.kept hk, h3⟩⟩
theorem gives_base {f : Nat} {args : Array Value} {u : World} {T : TypeId} {k n base : Nat} {cs : List Value} (h : Gives f args u (.sl u.heap.size T k n cs)) (hb : base ≤ u.heap.size) : Gives f args u (.sl base T k n cs) :=
 h.mono fun e w' ⟨v, h1, h2, h3⟩ => ⟨v, h1, ⟨h2.1, fun b hb' => Nat.le_trans hb (h2.2 b hb')⟩, h3⟩
theorem LvsOk.nil : LvsOk [] := ⟨by simp, by simp [entL], by simp, by simp [wholeL, entL, wholeM, sumI]⟩
theorem Inv.ok {B : Bok} (h : Inv B) (s : Int) : LvsOk (B.sd s) := by
 unfold Bok.sd
 split
 ·exact h.two.mine.ok
 ·split
  ·exact h.two.theirs.ok
  ·exact LvsOk.nil
def lad0 : List Value := [.int .i64 0, .slice none 0 0]
def lad1 (s : Int) : List Value := [.int .i64 s, .slice none 0 0]
theorem built_lad0 : Try.prog.built 73 [] = some lad0.toArray := by kernel_rfl
theorem built_lad1 (s : Int) : Try.prog.built 73 [(0, .int .i64 s)] = some (lad1 s).toArray := by kernel_rfl
theorem built_bk : Try.prog.built 75 [(0, .agg (lad1 1).toArray), (1, .agg (lad1 2).toArray)] = some (bkCells (.slice none 0 0) (.slice none 0 0) 0 0).toArray := by kernel_rfl
theorem depth_side {s s' : Int} {L : List Lev} (h : s' = s ∨ L = []) : depthL s' L = depthL s L := by
 rcases h with h | h
 ·rw [h]
 ·rw [h]; rfl
theorem bnew_any (w : World) : Calls Try.prog 14 #[] w fun e w' => ∃ p F, e = .returned (.pointer (some ⟨p, 0, none⟩)) ∧ Bk w' F p Bok.zero ∧ Grow w (fun _ => False) F ∧ Kept w w' := by
 go_enter Try.func14, Try.ntmps14
 go_upto_region 1 with fail
 refine wp_text 4 [.eq (.agg (lad1 1).toArray), .eq (.agg (lad1 2).toArray), .eq (.agg (bkCells (.slice none 0 0) (.slice none 0 0) 0 0).toArray), .fresh w.heap.size 75 (bkCells (.slice none 0 0) (.slice none 0 0) 0 0)] rfl (by kernel_rfl) ?_ ?_
 ·refine sv 1 rfl rfl rfl (fun a u hE hD hk => exec_build 73 [(0, .const (.int .i64 1))] (lad1 1) rfl (built_lad1 1)) ?_
  refine sv 2 rfl rfl rfl (fun a u hE hD hk => exec_build 73 [(0, .const (.int .i64 2))] (lad1 2) rfl (built_lad1 2)) ?_
  refine sv 3 rfl rfl rfl (fun a u hE hD hk => exec_build 75 [(0, .tmp 1), (1, .tmp 2)] (bkCells (.slice none 0 0) (.slice none 0 0) 0 0) rfl (by simp only [List.map_cons, List.map_nil]; rw [show a.eval (.tmp 1) = .agg (lad1 1).toArray from (hD 0 1 (by kernel_rfl)), show a.eval (.tmp 2) = .agg (lad1 2).toArray from (hD 1 2 (by kernel_rfl))]; exact built_bk)) ?_
  refine fsteps_cons 4 rfl (fun a u hE hD hk => f_new (o := ⟨some 4, _, _, _, _, _⟩) (.pointer (some ⟨u.heap.size, 0, none⟩)) _ rfl (wanted_none rfl _) (exec_box 75 (.tmp 3) (bkCells (.slice none 0 0) (.slice none 0 0) 0 0) rfl (hD 2 3 (by kernel_rfl))) ⟨_, rfl, hk.size, Blk.new u _ _⟩ ((Keep.refl _ u).alloc _)) ?_
  exact fsteps_nil
 intro gv w1 hV k1
 rw [show dstsOf _ 4 = [1, 2, 3, 4] by kernel_rfl]
 simp only [fC, fN, sA, sS, sZ, dS, dZ]
 have hv4 : (.fresh w.heap.size 75 (bkCells (.slice none 0 0) (.slice none 0 0) 0 0) : Kn).p (gv 4) w1 := hV 3 4 (by kernel_rfl)
 generalize gv 4 = v4 at hv4 ⊢
 clear hV
 obtain ⟨g, rfl, hg, hB⟩ := hv4
 refine l_val (o := ⟨some 0, _, _, _, _, _⟩) (.pointer (some ⟨g, 0, none⟩)) rfl (exec_assign (.tmp 4) (.pointer (some ⟨g, 0, none⟩)) rfl (by kernel_rfl)) ?_
 simp only [Act.put, List.setIfInBounds_toArray, List.set_cons_zero]
 refine wpList_nil ?_
 go_wp2
 go_ret
 exact ⟨g, (· = g), rfl, ⟨rfl, fun b hb => by subst hb; exact hB.lt, _, _, _, _, hB, Way.nil _, Way.nil _, fun b hb => hb.elim, fun b hb => hb.elim⟩, fun b hb => .inr (by omega), k1⟩
theorem blast_any (w : World) (F : Nat → Prop) (p : Nat) (B : Bok) (h : Bk w F p B) : Gives 18 #[.pointer (some ⟨p, 0, none⟩)] w (.eq (.int .i64 B.last)) := by
 refine gives_eq ?_
 obtain ⟨h1, h2, v1, v2, F1, F2, hB, _⟩ := h
 have HB := Lib.hid hB
 clear hB h1 h2
 go_enter Try.func18, Try.ntmps18
 go_upto_region 1 with fail
 refine wp_text 5 [.eq (.pointer (some ⟨p, 0, none⟩)), .eq (.pointer (some ⟨p, 0, none⟩)), .eq (.pointer (some ⟨p, 4, none⟩)), .eq (.int .i64 B.last), .eq (.int .i64 B.last)] rfl (by kernel_rfl) ?_ ?_
 ·refine sv 1 rfl rfl rfl (fun a u hE hD hk => exec_move (.tmp 0) _ rfl (hE 0 (.pointer (some ⟨p, 0, none⟩)) (by kernel_rfl) (by kernel_rfl))) ?_
  refine sv 2 rfl rfl rfl (fun a u hE hD hk => exec_nilp (.tmp 3) ⟨p, 0, none⟩ rfl (hD 0 3 (by kernel_rfl))) ?_
  refine sv 3 rfl rfl rfl (fun a u hE hD hk => exec_fldo 75 2 4 (.tmp 4) (p) (0) (4) rfl (hD 1 4 (by kernel_rfl)) (by kernel_rfl) rfl) ?_
  refine sv 4 rfl rfl rfl (fun a u hE hD hk => exec_loadi 3 Try.underlying3 (.tmp 5) ⟨p, 4, none⟩ (.int .i64 B.last) rfl (hD 2 5 (by kernel_rfl)) (Kept.cell hk (HB.out.cell 4))) ?_
  refine sv 5 rfl rfl rfl (fun a u hE hD hk => exec_assign (.tmp 6) _ rfl (hD 3 6 (by kernel_rfl))) ?_
  exact fsteps_nil
 intro gv w1 hV k1
 rw [show dstsOf _ 5 = [3, 4, 5, 6, 2] by kernel_rfl]
 simp only [fC, fN, sA, sS, sZ, dS, dZ]
 rw [show gv 2 = .int .i64 B.last from hV 4 2 (by kernel_rfl)]
 clear hV
 refine wpList_nil ?_
 go_wp2
 go_ret
 exact ⟨rfl, k1⟩
theorem bno_any (w : World) (F : Nat → Prop) (p : Nat) (B : Bok) (h : Bk w F p B) : Gives 19 #[.pointer (some ⟨p, 0, none⟩)] w (.eq (.int .i64 B.no)) := by
 refine gives_eq ?_
 obtain ⟨h1, h2, v1, v2, F1, F2, hB, _⟩ := h
 have HB := Lib.hid hB
 clear hB h1 h2
 go_enter Try.func19, Try.ntmps19
 go_upto_region 1 with fail
 refine wp_text 5 [.eq (.pointer (some ⟨p, 0, none⟩)), .eq (.pointer (some ⟨p, 0, none⟩)), .eq (.pointer (some ⟨p, 5, none⟩)), .eq (.int .i64 B.no), .eq (.int .i64 B.no)] rfl (by kernel_rfl) ?_ ?_
 ·refine sv 1 rfl rfl rfl (fun a u hE hD hk => exec_move (.tmp 0) _ rfl (hE 0 (.pointer (some ⟨p, 0, none⟩)) (by kernel_rfl) (by kernel_rfl))) ?_
  refine sv 2 rfl rfl rfl (fun a u hE hD hk => exec_nilp (.tmp 3) ⟨p, 0, none⟩ rfl (hD 0 3 (by kernel_rfl))) ?_
  refine sv 3 rfl rfl rfl (fun a u hE hD hk => exec_fldo 75 3 5 (.tmp 4) (p) (0) (5) rfl (hD 1 4 (by kernel_rfl)) (by kernel_rfl) rfl) ?_
  refine sv 4 rfl rfl rfl (fun a u hE hD hk => exec_loadi 3 Try.underlying3 (.tmp 5) ⟨p, 5, none⟩ (.int .i64 B.no) rfl (hD 2 5 (by kernel_rfl)) (Kept.cell hk (HB.out.cell 5))) ?_
  refine sv 5 rfl rfl rfl (fun a u hE hD hk => exec_assign (.tmp 6) _ rfl (hD 3 6 (by kernel_rfl))) ?_
  exact fsteps_nil
 intro gv w1 hV k1
 rw [show dstsOf _ 5 = [3, 4, 5, 6, 2] by kernel_rfl]
 simp only [fC, fN, sA, sS, sZ, dS, dZ]
 rw [show gv 2 = .int .i64 B.no from hV 4 2 (by kernel_rfl)]
 clear hV
 refine wpList_nil ?_
 go_wp2
 go_ret
 exact ⟨rfl, k1⟩
set_option maxHeartbeats 800000 in
theorem of_any (w : World) (F : Nat → Prop) (p : Nat) (B : Bok) (s : Int) (h : Bk w F p B) : Gives 43 #[.pointer (some ⟨p, 0, none⟩), .int .i64 s] w (.lad s (B.sd s)) := by
 have HB := Lib.hid h
 clear h
 by_cases hs1 : s = 1
 ·have HR : Hid (∀ u, Kept w u → (Kn.lad s (B.sd s)).p (.pointer (some ⟨p, 0, none⟩)) u) := fun u k => by
   obtain ⟨F', hL⟩ := (HB.out.kept k).lad (.inl hs1)
   rw [hs1] at hL ⊢
   exact ⟨F', p, 0, 1, rfl, hL, .inl rfl⟩
  go_enter Try.func43, Try.ntmps43
  go_upto_region 1 with fail
  refine wp_text 1 [.eq (.int .i64 s)] rfl (by kernel_rfl) ?_ ?_
  ·refine sv 1 rfl rfl rfl (fun a u hE hD hk => exec_move (.tmp 1) _ rfl (hE 1 (.int .i64 s) (by kernel_rfl) (by kernel_rfl))) ?_
   exact fsteps_nil
  intro gv w1 hV k1
  rw [show dstsOf _ 1 = [5] by kernel_rfl]
  simp only [fC, fN, sA, sS, sZ, dS, dZ]
  rw [show gv 5 = .int .i64 s from hV 0 5 (by kernel_rfl)]
  clear hV
  refine wpList_nil ?_
  go_upto_region 2 with fail
  refine wp_text 2 [.eq (.bool true), .eq (.bool true)] rfl (by kernel_rfl) ?_ ?_
  ·refine fsteps_cons 1 rfl (fun a u hE hD hk => f_as (show ((decide ((s : Int) = (1 : Int))) : Bool) = true from decide_eq_true hs1) (f_val (o := ⟨some 7, _, _, _, _, _⟩) (.bool (decide ((s : Int) = (1 : Int)))) rfl (wanted_none rfl _) (exec_eqn (p := s) (q := 1) rfl (hE 5 (.int .i64 s) (by kernel_rfl) (by kernel_rfl)) rfl) rfl)) ?_
   refine sv 2 rfl rfl rfl (fun a u hE hD hk => exec_assign (.tmp 7) _ rfl (hD 0 7 (by kernel_rfl))) ?_
   exact fsteps_nil
  intro gv w2 hV k2
  rw [show dstsOf _ 2 = [7, 6] by kernel_rfl]
  simp only [fC, fN, sA, sS, sZ, dS, dZ]
  rw [show gv 6 = .bool true from hV 1 6 (by kernel_rfl)]
  clear hV
  refine wpList_nil ?_
  go_upto_region 3 with fail
  refine wp_text 4 [.eq (.pointer (some ⟨p, 0, none⟩)), .eq (.pointer (some ⟨p, 0, none⟩)), .eq (.pointer (some ⟨p, 0, none⟩)), .eq (.pointer (some ⟨p, 0, none⟩))] rfl (by kernel_rfl) ?_ ?_
  ·refine sv 1 rfl rfl rfl (fun a u hE hD hk => exec_move (.tmp 0) _ rfl (hE 0 (.pointer (some ⟨p, 0, none⟩)) (by kernel_rfl) (by kernel_rfl))) ?_
   refine sv 2 rfl rfl rfl (fun a u hE hD hk => exec_nilp (.tmp 8) ⟨p, 0, none⟩ rfl (hD 0 8 (by kernel_rfl))) ?_
   refine sv 3 rfl rfl rfl (fun a u hE hD hk => exec_fldo 75 0 0 (.tmp 9) (p) (0) (0) rfl (hD 1 9 (by kernel_rfl)) (by kernel_rfl) rfl) ?_
   refine sv 4 rfl rfl rfl (fun a u hE hD hk => exec_assign (.tmp 10) _ rfl (hD 2 10 (by kernel_rfl))) ?_
   exact fsteps_nil
  intro gv w3 hV k3
  rw [show dstsOf _ 4 = [8, 9, 10, 4] by kernel_rfl]
  simp only [fC, fN, sA, sS, sZ, dS, dZ]
  rw [show gv 4 = .pointer (some ⟨p, 0, none⟩) from hV 3 4 (by kernel_rfl)]
  clear hV
  refine wpList_nil ?_
  have kw := (k1.trans k2).trans k3
  clear k1 k2 k3 hs1
  go_wp2
  go_ret
  exact ⟨_, rfl, HR.out _ kw, kw⟩
 ·by_cases hs2 : s = 2
  ·have HR : Hid (∀ u, Kept w u → (Kn.lad s (B.sd s)).p (.pointer (some ⟨p, 2, none⟩)) u) := fun u k => by
    obtain ⟨F', hL⟩ := (HB.out.kept k).lad (.inr hs2)
    rw [hs2] at hL ⊢
    exact ⟨F', p, 2, 2, rfl, hL, .inl rfl⟩
   go_enter Try.func43, Try.ntmps43
   go_upto_region 1 with fail
   refine wp_text 1 [.eq (.int .i64 s)] rfl (by kernel_rfl) ?_ ?_
   ·refine sv 1 rfl rfl rfl (fun a u hE hD hk => exec_move (.tmp 1) _ rfl (hE 1 (.int .i64 s) (by kernel_rfl) (by kernel_rfl))) ?_
    exact fsteps_nil
   intro gv w1 hV k1
   rw [show dstsOf _ 1 = [5] by kernel_rfl]
   simp only [fC, fN, sA, sS, sZ, dS, dZ]
   rw [show gv 5 = .int .i64 s from hV 0 5 (by kernel_rfl)]
   clear hV
   refine wpList_nil ?_
   go_upto_region 2 with fail
   refine wp_text 2 [.eq (.bool false), .eq (.bool false)] rfl (by kernel_rfl) ?_ ?_
   ·refine fsteps_cons 1 rfl (fun a u hE hD hk => f_as (show ((decide ((s : Int) = (1 : Int))) : Bool) = false from decide_eq_false hs1) (f_val (o := ⟨some 7, _, _, _, _, _⟩) (.bool (decide ((s : Int) = (1 : Int)))) rfl (wanted_none rfl _) (exec_eqn (p := s) (q := 1) rfl (hE 5 (.int .i64 s) (by kernel_rfl) (by kernel_rfl)) rfl) rfl)) ?_
    refine sv 2 rfl rfl rfl (fun a u hE hD hk => exec_assign (.tmp 7) _ rfl (hD 0 7 (by kernel_rfl))) ?_
    exact fsteps_nil
   intro gv w2 hV k2
   rw [show dstsOf _ 2 = [7, 6] by kernel_rfl]
   simp only [fC, fN, sA, sS, sZ, dS, dZ]
   rw [show gv 6 = .bool false from hV 1 6 (by kernel_rfl)]
   clear hV
   refine wpList_nil ?_
   go_upto_region 4 with fail
   refine wp_text 2 [.eq (.bool true), .eq (.bool true)] rfl (by kernel_rfl) ?_ ?_
   ·refine fsteps_cons 1 rfl (fun a u hE hD hk => f_as (show ((decide ((s : Int) = (2 : Int))) : Bool) = true from decide_eq_true hs2) (f_val (o := ⟨some 12, _, _, _, _, _⟩) (.bool (decide ((s : Int) = (2 : Int)))) rfl (wanted_none rfl _) (exec_eqn (p := s) (q := 2) rfl (hE 5 (.int .i64 s) (by kernel_rfl) (by kernel_rfl)) rfl) rfl)) ?_
    refine sv 2 rfl rfl rfl (fun a u hE hD hk => exec_assign (.tmp 12) _ rfl (hD 0 12 (by kernel_rfl))) ?_
    exact fsteps_nil
   intro gv w3 hV k3
   rw [show dstsOf _ 2 = [12, 11] by kernel_rfl]
   simp only [fC, fN, sA, sS, sZ, dS, dZ]
   rw [show gv 11 = .bool true from hV 1 11 (by kernel_rfl)]
   clear hV
   refine wpList_nil ?_
   go_upto_region 5 with fail
   refine wp_text 4 [.eq (.pointer (some ⟨p, 0, none⟩)), .eq (.pointer (some ⟨p, 0, none⟩)), .eq (.pointer (some ⟨p, 2, none⟩)), .eq (.pointer (some ⟨p, 2, none⟩))] rfl (by kernel_rfl) ?_ ?_
   ·refine sv 1 rfl rfl rfl (fun a u hE hD hk => exec_move (.tmp 0) _ rfl (hE 0 (.pointer (some ⟨p, 0, none⟩)) (by kernel_rfl) (by kernel_rfl))) ?_
    refine sv 2 rfl rfl rfl (fun a u hE hD hk => exec_nilp (.tmp 13) ⟨p, 0, none⟩ rfl (hD 0 13 (by kernel_rfl))) ?_
    refine sv 3 rfl rfl rfl (fun a u hE hD hk => exec_fldo 75 1 2 (.tmp 14) (p) (0) (2) rfl (hD 1 14 (by kernel_rfl)) (by kernel_rfl) rfl) ?_
    refine sv 4 rfl rfl rfl (fun a u hE hD hk => exec_assign (.tmp 15) _ rfl (hD 2 15 (by kernel_rfl))) ?_
    exact fsteps_nil
   intro gv w4 hV k4
   rw [show dstsOf _ 4 = [13, 14, 15, 4] by kernel_rfl]
   simp only [fC, fN, sA, sS, sZ, dS, dZ]
   rw [show gv 4 = .pointer (some ⟨p, 2, none⟩) from hV 3 4 (by kernel_rfl)]
   clear hV
   refine wpList_nil ?_
   have kw := ((k1.trans k2).trans k3).trans k4
   clear k1 k2 k3 k4 hs1 hs2
   go_wp2
   go_ret
   exact ⟨_, rfl, HR.out _ kw, kw⟩
  ·have HR : Hid (B.sd s = []) := by show _ = _; unfold Bok.sd; rw [if_neg hs1, if_neg hs2]
   go_enter Try.func43, Try.ntmps43
   go_upto_region 1 with fail
   refine wp_text 1 [.eq (.int .i64 s)] rfl (by kernel_rfl) ?_ ?_
   ·refine sv 1 rfl rfl rfl (fun a u hE hD hk => exec_move (.tmp 1) _ rfl (hE 1 (.int .i64 s) (by kernel_rfl) (by kernel_rfl))) ?_
    exact fsteps_nil
   intro gv w1 hV k1
   rw [show dstsOf _ 1 = [5] by kernel_rfl]
   simp only [fC, fN, sA, sS, sZ, dS, dZ]
   rw [show gv 5 = .int .i64 s from hV 0 5 (by kernel_rfl)]
   clear hV
   refine wpList_nil ?_
   go_upto_region 2 with fail
   refine wp_text 2 [.eq (.bool false), .eq (.bool false)] rfl (by kernel_rfl) ?_ ?_
   ·refine fsteps_cons 1 rfl (fun a u hE hD hk => f_as (show ((decide ((s : Int) = (1 : Int))) : Bool) = false from decide_eq_false hs1) (f_val (o := ⟨some 7, _, _, _, _, _⟩) (.bool (decide ((s : Int) = (1 : Int)))) rfl (wanted_none rfl _) (exec_eqn (p := s) (q := 1) rfl (hE 5 (.int .i64 s) (by kernel_rfl) (by kernel_rfl)) rfl) rfl)) ?_
    refine sv 2 rfl rfl rfl (fun a u hE hD hk => exec_assign (.tmp 7) _ rfl (hD 0 7 (by kernel_rfl))) ?_
    exact fsteps_nil
   intro gv w2 hV k2
   rw [show dstsOf _ 2 = [7, 6] by kernel_rfl]
   simp only [fC, fN, sA, sS, sZ, dS, dZ]
   rw [show gv 6 = .bool false from hV 1 6 (by kernel_rfl)]
   clear hV
   refine wpList_nil ?_
   go_upto_region 4 with fail
   refine wp_text 2 [.eq (.bool false), .eq (.bool false)] rfl (by kernel_rfl) ?_ ?_
   ·refine fsteps_cons 1 rfl (fun a u hE hD hk => f_as (show ((decide ((s : Int) = (2 : Int))) : Bool) = false from decide_eq_false hs2) (f_val (o := ⟨some 12, _, _, _, _, _⟩) (.bool (decide ((s : Int) = (2 : Int)))) rfl (wanted_none rfl _) (exec_eqn (p := s) (q := 2) rfl (hE 5 (.int .i64 s) (by kernel_rfl) (by kernel_rfl)) rfl) rfl)) ?_
    refine sv 2 rfl rfl rfl (fun a u hE hD hk => exec_assign (.tmp 12) _ rfl (hD 0 12 (by kernel_rfl))) ?_
    exact fsteps_nil
   intro gv w3 hV k3
   rw [show dstsOf _ 2 = [12, 11] by kernel_rfl]
   simp only [fC, fN, sA, sS, sZ, dS, dZ]
   rw [show gv 11 = .bool false from hV 1 11 (by kernel_rfl)]
   clear hV
   refine wpList_nil ?_
   go_upto_region 6 with fail
   refine wp_text 2 [.eq (.agg lad0.toArray), .fresh w3.heap.size 73 lad0] rfl (by kernel_rfl) ?_ ?_
   ·refine sv 1 rfl rfl rfl (fun a u hE hD hk => exec_build 73 [] lad0 rfl built_lad0) ?_
    refine fsteps_cons 2 rfl (fun a u hE hD hk => f_new (o := ⟨some 17, _, _, _, _, _⟩) (.pointer (some ⟨u.heap.size, 0, none⟩)) _ rfl (wanted_none rfl _) (exec_box 73 (.tmp 16) lad0 rfl (hD 0 16 (by kernel_rfl))) ⟨_, rfl, hk.size, Blk.new u _ _⟩ ((Keep.refl _ u).alloc _)) ?_
    exact fsteps_nil
   intro gv w4 hV k4
   rw [show dstsOf _ 2 = [16, 17] by kernel_rfl]
   simp only [fC, fN, sA, sS, sZ, dS, dZ]
   have hv17 : (.fresh w3.heap.size 73 lad0 : Kn).p (gv 17) w4 := hV 1 17 (by kernel_rfl)
   generalize gv 17 = v17 at hv17 ⊢
   clear hV
   obtain ⟨g, rfl, hg, hB⟩ := hv17
   refine l_val (o := ⟨some 4, _, _, _, _, _⟩) (.pointer (some ⟨g, 0, none⟩)) rfl (exec_assign (.tmp 17) (.pointer (some ⟨g, 0, none⟩)) rfl (by kernel_rfl)) ?_
   simp only [Act.put, sA, sS, sZ]
   refine wpList_nil ?_
   have kw := ((k1.trans k2).trans k3).trans k4
   clear k1 k2 k3 k4 hs1 hs2
   go_wp2
   go_ret
   exact ⟨_, rfl, ⟨fun _ => False, g, 0, 0, rfl, ⟨.slice none 0 0, hB.cell 0, hB.cell 1, by rw [HR.out]; exact Way.nil _⟩, .inr HR.out⟩, kw⟩
theorem borders_any (w : World) (F : Nat → Prop) (p : Nat) (B : Bok) (s : Int) (h : Bk w F p B) (hI : Inv B) : Gives 32 #[.pointer (some ⟨p, 0, none⟩), .int .i64 s] w (.sl w.heap.size 25 9 (ordsL (B.sd s)).length (ords (ordsL (B.sd s)))) := by
 have HB := Lib.hid h
 have HI := Lib.hid hI
 clear h hI
 go_enter Try.func32, Try.ntmps32
 go_upto_region 1 with fail
 refine wp_text 5 [.eq (.pointer (some ⟨p, 0, none⟩)), .eq (.int .i64 s), .lad s (B.sd s), .sl w.heap.size 25 9 (ordsL (B.sd s)).length (ords (ordsL (B.sd s))), .sl w.heap.size 25 9 (ordsL (B.sd s)).length (ords (ordsL (B.sd s)))] rfl (by kernel_rfl) ?_ ?_
 ·refine sv 1 rfl rfl rfl (fun a u hE hD hk => exec_move (.tmp 0) _ rfl (hE 0 (.pointer (some ⟨p, 0, none⟩)) (by kernel_rfl) (by kernel_rfl))) ?_
  refine sv 2 rfl rfl rfl (fun a u hE hD hk => exec_move (.tmp 1) _ rfl (hE 1 (.int .i64 s) (by kernel_rfl) (by kernel_rfl))) ?_
  refine fsteps_cons 3 rfl (fun a u hE hD hk => f_call (o := ⟨some 7, _, _, _, _, _⟩) 43 #[.pointer (some ⟨p, 0, none⟩), .int .i64 s] rfl (wanted_none rfl _) (exec_call 43 _ [.tmp 5, .tmp 6] _ [.pointer (some ⟨p, 0, none⟩), .int .i64 s] Try.func43 (by kernel_rfl) (by kernel_rfl) rfl (show [a.eval (.tmp 5), a.eval (.tmp 6)] = [.pointer (some ⟨p, 0, none⟩), .int .i64 s] from (by rw [show a.eval (.tmp 5) = .pointer (some ⟨p, 0, none⟩) from (hD 0 5 (by kernel_rfl)), show a.eval (.tmp 6) = .int .i64 s from (hD 1 6 (by kernel_rfl))] <;> rfl)) u) (of_any u F p B s (HB.out.kept hk))) ?_
  refine fsteps_cons 4 rfl (fun a u hE hD hk => f_call (o := ⟨some 8, _, _, _, _, _⟩) 57 #[a.eval (.tmp 7)] rfl (wanted_none rfl _) (exec_call 57 _ [.tmp 7] _ [a.eval (.tmp 7)] Try.func57 (by kernel_rfl) (by kernel_rfl) rfl rfl u) ((by obtain ⟨F', g, off, s', e, hL, hs⟩ := (hD 2 7 (by kernel_rfl)); rw [e]; exact gives_base (lorders_any u F' g off s' _ hL (HI.out.ok s)) hk.size))) ?_
  refine fsteps_cons 5 rfl (fun a u hE hD hk => f_val (o := ⟨some 4, _, _, _, _, _⟩) (a.eval (.tmp 8)) rfl (wanted_none rfl _) (exec_assign (.tmp 8) _ rfl rfl) (hD 3 8 (by kernel_rfl))) ?_
  exact fsteps_nil
 intro gv w1 hV k1
 rw [show dstsOf _ 5 = [5, 6, 7, 8, 4] by kernel_rfl]
 simp only [fC, fN, sA, sS, sZ, dS, dZ]
 have hv4 : (.sl w.heap.size 25 9 (ordsL (B.sd s)).length (ords (ordsL (B.sd s))) : Kn).p (gv 4) w1 := hV 4 4 (by kernel_rfl)
 generalize gv 4 = v4 at hv4 ⊢
 clear hV
 refine wpList_nil ?_
 go_wp2
 go_ret
 exact ⟨_, rfl, hv4, k1⟩
theorem bdepth_any (w : World) (F : Nat → Prop) (p : Nat) (B : Bok) (s : Int) (h : Bk w F p B) (hI : Inv B) : Gives 17 #[.pointer (some ⟨p, 0, none⟩), .int .i64 s] w (.sl w.heap.size 39 10 (depthL s (B.sd s)).length (ents (depthL s (B.sd s)))) := by
 have HB := Lib.hid h
 have HI := Lib.hid hI
 clear h hI
 go_enter Try.func17, Try.ntmps17
 go_upto_region 1 with fail
 refine wp_text 5 [.eq (.pointer (some ⟨p, 0, none⟩)), .eq (.int .i64 s), .lad s (B.sd s), .sl w.heap.size 39 10 (depthL s (B.sd s)).length (ents (depthL s (B.sd s))), .sl w.heap.size 39 10 (depthL s (B.sd s)).length (ents (depthL s (B.sd s)))] rfl (by kernel_rfl) ?_ ?_
 ·refine sv 1 rfl rfl rfl (fun a u hE hD hk => exec_move (.tmp 0) _ rfl (hE 0 (.pointer (some ⟨p, 0, none⟩)) (by kernel_rfl) (by kernel_rfl))) ?_
  refine sv 2 rfl rfl rfl (fun a u hE hD hk => exec_move (.tmp 1) _ rfl (hE 1 (.int .i64 s) (by kernel_rfl) (by kernel_rfl))) ?_
  refine fsteps_cons 3 rfl (fun a u hE hD hk => f_call (o := ⟨some 7, _, _, _, _, _⟩) 43 #[.pointer (some ⟨p, 0, none⟩), .int .i64 s] rfl (wanted_none rfl _) (exec_call 43 _ [.tmp 5, .tmp 6] _ [.pointer (some ⟨p, 0, none⟩), .int .i64 s] Try.func43 (by kernel_rfl) (by kernel_rfl) rfl (show [a.eval (.tmp 5), a.eval (.tmp 6)] = [.pointer (some ⟨p, 0, none⟩), .int .i64 s] from (by rw [show a.eval (.tmp 5) = .pointer (some ⟨p, 0, none⟩) from (hD 0 5 (by kernel_rfl)), show a.eval (.tmp 6) = .int .i64 s from (hD 1 6 (by kernel_rfl))] <;> rfl)) u) (of_any u F p B s (HB.out.kept hk))) ?_
  refine fsteps_cons 4 rfl (fun a u hE hD hk => f_call (o := ⟨some 8, _, _, _, _, _⟩) 44 #[a.eval (.tmp 7)] rfl (wanted_none rfl _) (exec_call 44 _ [.tmp 7] _ [a.eval (.tmp 7)] Try.func44 (by kernel_rfl) (by kernel_rfl) rfl rfl u) ((by obtain ⟨F', g, off, s', e, hL, hs⟩ := (hD 2 7 (by kernel_rfl)); rw [e]; have hd := gives_base (ldepth_any u F' g off s' _ hL (HI.out.ok s)) hk.size; rw [show depthL s' (B.sd s) = depthL s (B.sd s) from depth_side hs] at hd; exact hd))) ?_
  refine fsteps_cons 5 rfl (fun a u hE hD hk => f_val (o := ⟨some 4, _, _, _, _, _⟩) (a.eval (.tmp 8)) rfl (wanted_none rfl _) (exec_assign (.tmp 8) _ rfl rfl) (hD 3 8 (by kernel_rfl))) ?_
  exact fsteps_nil
 intro gv w1 hV k1
 rw [show dstsOf _ 5 = [5, 6, 7, 8, 4] by kernel_rfl]
 simp only [fC, fN, sA, sS, sZ, dS, dZ]
 have hv4 : (.sl w.heap.size 39 10 (depthL s (B.sd s)).length (ents (depthL s (B.sd s))) : Kn).p (gv 4) w1 := hV 4 4 (by kernel_rfl)
 generalize gv 4 = v4 at hv4 ⊢
 clear hV
 refine wpList_nil ?_
 go_wp2
 go_ret
 exact ⟨_, rfl, hv4, k1⟩
theorem blen_any (w : World) (F : Nat → Prop) (p : Nat) (B : Bok) (h : Bk w F p B) (hI : Inv B) : Gives 33 #[.pointer (some ⟨p, 0, none⟩)] w (.eq (.int .i64 (B.len : Int))) := by
 refine gives_eq ?_
 have HB := Lib.hid h
 have HI := Lib.hid hI
 have hb := hI.two.mine.few
 have hs := hI.two.theirs.few
 have HLN : Hid (((entL B.buys).length : Int) + ((entL B.sells).length : Int) = (B.len : Int)) := by
  show _ = _
  unfold Bok.len Bok.all
  rw [List.length_append]
  omega
 obtain ⟨x, hx⟩ : ∃ x, (entL B.buys).length = x := ⟨_, rfl⟩
 obtain ⟨y, hy⟩ : ∃ y, (entL B.sells).length = y := ⟨_, rfl⟩
 have HX := Lib.hid hx
 have HY := Lib.hid hy
 rw [hx] at hb HLN
 rw [hy] at hs HLN
 clear h hI hx hy
 go_enter Try.func33, Try.ntmps33
 go_upto_region 1 with fail
 refine wp_free 9 [.eq (.pointer (some ⟨p, 0, none⟩)), .eq (.pointer (some ⟨p, 0, none⟩)), .eq (.pointer (some ⟨p, 0, none⟩)), .eq (.int .i64 (x : Int)), .eq (.pointer (some ⟨p, 0, none⟩)), .eq (.pointer (some ⟨p, 0, none⟩)), .eq (.pointer (some ⟨p, 2, none⟩)), .eq (.int .i64 (y : Int)), .eq (.int .i64 (((x : Int) : Int) + ((y : Int) : Int)))] (by kernel_rfl) rfl (by kernel_rfl) ?_ ?_
 ·refine sv 1 rfl rfl rfl (fun a u hE hD hk => exec_move (.tmp 0) _ rfl (hE 0 (.pointer (some ⟨p, 0, none⟩)) (by kernel_rfl) (by kernel_rfl))) ?_
  refine sv 2 rfl rfl rfl (fun a u hE hD hk => exec_nilp (.tmp 3) ⟨p, 0, none⟩ rfl (hD 0 3 (by kernel_rfl))) ?_
  refine sv 3 rfl rfl rfl (fun a u hE hD hk => exec_fldo 75 0 0 (.tmp 4) (p) (0) (0) rfl (hD 1 4 (by kernel_rfl)) (by kernel_rfl) rfl) ?_
  refine fsteps_cons 4 rfl (fun a u hE hD hk => f_call (o := ⟨some 6, _, _, _, _, _⟩) 60 #[.pointer (some ⟨p, 0, none⟩)] rfl (wanted_none rfl _) (exec_call 60 _ [.tmp 5] _ [.pointer (some ⟨p, 0, none⟩)] Try.func60 (by kernel_rfl) (by kernel_rfl) rfl (show [a.eval (.tmp 5)] = [.pointer (some ⟨p, 0, none⟩)] from (by rw [show a.eval (.tmp 5) = .pointer (some ⟨p, 0, none⟩) from (hD 2 5 (by kernel_rfl))] <;> rfl)) u) ((by obtain ⟨F', hL⟩ := (HB.out.kept hk).lad (.inl rfl : (1 : Int) = 1 ∨ (1 : Int) = 2); have hc := count_any u F' p 0 1 _ hL (HI.out.ok 1); rw [show (entL (B.sd 1)).length = x from HX.out] at hc; exact hc))) ?_
  refine sv 5 rfl rfl rfl (fun a u hE hD hk => exec_move (.tmp 0) _ rfl (hE 0 (.pointer (some ⟨p, 0, none⟩)) (by kernel_rfl) (by kernel_rfl))) ?_
  refine sv 6 rfl rfl rfl (fun a u hE hD hk => exec_nilp (.tmp 7) ⟨p, 0, none⟩ rfl (hD 4 7 (by kernel_rfl))) ?_
  refine sv 7 rfl rfl rfl (fun a u hE hD hk => exec_fldo 75 1 2 (.tmp 8) (p) (0) (2) rfl (hD 5 8 (by kernel_rfl)) (by kernel_rfl) rfl) ?_
  refine fsteps_cons 8 rfl (fun a u hE hD hk => f_call (o := ⟨some 10, _, _, _, _, _⟩) 60 #[.pointer (some ⟨p, 2, none⟩)] rfl (wanted_none rfl _) (exec_call 60 _ [.tmp 9] _ [.pointer (some ⟨p, 2, none⟩)] Try.func60 (by kernel_rfl) (by kernel_rfl) rfl (show [a.eval (.tmp 9)] = [.pointer (some ⟨p, 2, none⟩)] from (by rw [show a.eval (.tmp 9) = .pointer (some ⟨p, 2, none⟩) from (hD 6 9 (by kernel_rfl))] <;> rfl)) u) ((by obtain ⟨F', hL⟩ := (HB.out.kept hk).lad (.inr rfl : (2 : Int) = 1 ∨ (2 : Int) = 2); have hc := count_any u F' p 2 2 _ hL (HI.out.ok 2); rw [show (entL (B.sd 2)).length = y from HY.out] at hc; exact hc))) ?_
  refine sv 9 rfl rfl rfl (fun a u hE hD hk => exec_addn (p := ((x : Int))) (q := ((y : Int))) (((x : Int) : Int) + ((y : Int) : Int)) rfl (hD 3 6 (by kernel_rfl)) (hD 7 10 (by kernel_rfl)) rfl (by omega) (by omega)) ?_
  exact fsteps_nil
 intro gv w1 hV k1
 rw [show dstsOf _ 9 = [3, 4, 5, 6, 7, 8, 9, 10, 11] by kernel_rfl]
 simp only [fC, fN, sA, sS, sZ, dS, dZ]
 rw [show gv 11 = .int .i64 (((x : Int) : Int) + ((y : Int) : Int)) from hV 8 11 (by kernel_rfl)]
 clear hV
 refine l_val (o := ⟨some 2, _, _, _, _, _⟩) (.int .i64 (((x : Int) : Int) + ((y : Int) : Int))) rfl (exec_assign (.tmp 11) (.int .i64 (((x : Int) : Int) + ((y : Int) : Int))) rfl (by kernel_rfl)) ?_
 simp only [Act.put, sA, sS, sZ]
 refine wpList_nil ?_
 go_wp2
 go_ret
 exact ⟨by rw [← HLN.out]; rfl, k1⟩
end Go.Proofs.Ytfpfpmhkkgfdbaa
