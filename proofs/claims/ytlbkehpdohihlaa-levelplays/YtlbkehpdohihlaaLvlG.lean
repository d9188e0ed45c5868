/-
  The contracts of package level's dropFirst, showFirstAnew, hitFirst. Condition: a level as it may be.
-/
import Derived.Test.YtlbkehpdohihlaaLvlF
namespace Go.Proofs.Ytlbkehpdohihlaa
open Go.RowKit
set_option linter.unusedVariables false

set_option maxRecDepth 100000 in
theorem drop_any (w : World) (F : Nat → Prop) (p : Nat) (e : Ent) (R : List Ent) (h : Lvl 58 61 w F p (e :: R)) :
    Calls Try.prog 36 #[.pointer (some ⟨p, 0, none⟩)] w fun r w' => r = .returned (.tuple #[]) ∧ Lvl 58 61 w' F p R ∧ Keep F w w' := by
  obtain ⟨h1, h2, v, hB, hS, h5⟩ := h
  obtain ⟨v', hrun, hown, hsl⟩ := slice_lS slE v (R.length + 1) 1 (by omega) _ w hS
  have HS2 : Hid (Sl w 61 10 v' R.length (ents R)) := by
    have := hsl w _ hS
    rw [show (ents (e :: R)).drop (1 * 10) = ents R from flat_drop Ent.cells 10 Ent.len10 (e :: R) 1] at this
    exact this
  have HB := Lib.hid hB
  have HR := Lib.hid hrun
  have H1 := Lib.hid h1
  have H2 := Lib.hid h2
  have H5 := Lib.hid h5
  have HO := Lib.hid hown
  clear hB hS h5 h1 h2 hrun hsl hown
  go_enter Try.func36, Try.ntmps36
  go_upto_region 0 with fail
  refine wp_text 8 [.eq (.pointer (some ⟨p, 0, none⟩)), .eq (.pointer (some ⟨p, 0, none⟩)), .eq (.pointer (some ⟨p, 0, none⟩)), .eq (.pointer (some ⟨p, 1, none⟩)), .eq (v), .eq (v'), .eq (.pointer (some ⟨p, 0, none⟩)), .eq (.pointer (some ⟨p, 1, none⟩))] rfl (by kernel_rfl) ?_ ?_
  · refine fsteps_cons 1 rfl (fun a u hE hD hk => f_val (o := ⟨some 2, _, _, _, _, _⟩) (.pointer (some ⟨p, 0, none⟩)) rfl (wanted_none rfl _) (exec_move (.tmp 0) (.pointer (some ⟨p, 0, none⟩)) rfl (hE 0 (.pointer (some ⟨p, 0, none⟩)) (by kernel_rfl) (by kernel_rfl))) rfl) ?_
    refine fsteps_cons 2 rfl (fun a u hE hD hk => f_val (o := ⟨some 3, _, _, _, _, _⟩) (.pointer (some ⟨p, 0, none⟩)) rfl (wanted_none rfl _) (exec_move (.tmp 0) (.pointer (some ⟨p, 0, none⟩)) rfl (hE 0 (.pointer (some ⟨p, 0, none⟩)) (by kernel_rfl) (by kernel_rfl))) rfl) ?_
    refine fsteps_cons 3 rfl (fun a u hE hD hk => f_val (o := ⟨some 4, _, _, _, _, _⟩) (.pointer (some ⟨p, 0, none⟩)) rfl (wanted_none rfl _) (exec_nilp (.tmp 3) ⟨p, 0, none⟩ rfl (hD 1 3 (by kernel_rfl))) rfl) ?_
    refine fsteps_cons 4 rfl (fun a u hE hD hk => f_val (o := ⟨some 5, _, _, _, _, _⟩) (.pointer (some ⟨p, 1, none⟩)) rfl (wanted_none rfl _) (exec_fldo 58 1 1 (.tmp 4) (p) (0) (1) rfl (hD 2 4 (by kernel_rfl)) (by kernel_rfl) rfl) rfl) ?_
    refine fsteps_cons 5 rfl (fun a u hE hD hk => f_val (o := ⟨some 6, _, _, _, _, _⟩) (v) rfl (wanted_none rfl _) (exec_ldv 56 _ Try.underlying56 (.tmp 5) ⟨p, 1, none⟩ (v) rfl (hD 3 5 (by kernel_rfl)) (by rw [(HB.out.kept hk).cell]; rfl)) rfl) ?_
    refine fsteps_cons 6 rfl (fun a u hE hD hk => f_val (o := ⟨some 7, _, _, _, _, _⟩) (v') rfl (wanted_none rfl _) (exec_slcS slE (.tmp 6) (some (.const (.int .i64 1))) none none v v' rfl (hD 4 6 (by kernel_rfl)) (HR.out u)) rfl) ?_
    refine fsteps_cons 7 rfl (fun a u hE hD hk => f_val (o := ⟨some 8, _, _, _, _, _⟩) (.pointer (some ⟨p, 0, none⟩)) rfl (wanted_none rfl _) (exec_nilp (.tmp 2) ⟨p, 0, none⟩ rfl (hD 0 2 (by kernel_rfl))) rfl) ?_
    refine fsteps_cons 8 rfl (fun a u hE hD hk => f_val (o := ⟨some 9, _, _, _, _, _⟩) (.pointer (some ⟨p, 1, none⟩)) rfl (wanted_none rfl _) (exec_fldo 58 1 1 (.tmp 8) (p) (0) (1) rfl (hD 6 8 (by kernel_rfl)) (by kernel_rfl) rfl) rfl) ?_
    exact fsteps_nil
  intro gv w1 hV k1
  rw [show dstsOf _ 8 = [2, 3, 4, 5, 6, 7, 8, 9] by kernel_rfl]
  simp only [List.foldl_cons, List.foldl_nil, List.setIfInBounds_toArray, List.set_cons_succ, List.set_cons_zero, List.drop_succ_cons, List.drop_zero]
  rw [show gv 9 = .pointer (some ⟨p, 1, none⟩) from hV 7 9 (by kernel_rfl)]
  rw [show gv 7 = v' from hV 5 7 (by kernel_rfl)]
  clear hV
  refine l_st1 (o := ⟨none, _, _, _, _, _⟩) 56 p 1 58 _ v' (.tmp 9) (.tmp 7) rfl rfl (by kernel_rfl) (by kernel_rfl) (by kernel_rfl) (sl_cells HS2.out) (sl_onec HS2.out) (HB.out.kept k1) (by simp) ?_
  intro w3 hB3 hk3 hs3
  simp only [Act.put]
  refine wpList_nil ?_
  go_wp2
  go_end0
  have hsz := k1.size
  have hkF : Keep F w w3 := (Keep.mono (T := F) k1 (fun _ _ h => h.elim)).trans hk3 (fun b _ hb => by subst hb; exact H1.out)
  refine ⟨rfl, ⟨H1.out, fun b hb => ?_, v', by simpa using hB3, ?_, fun b hb => H5.out b (by rw [← HO.out]; exact hb)⟩, hkF⟩
  · have := H2.out b hb; omega
  · refine (HS2.out.kept k1).keep hk3 (fun b hb e => ?_)
    subst e
    exact (H5.out b (by rw [← HO.out]; exact hb)).2 rfl

set_option maxRecDepth 100000 in
theorem anew_any (w : World) (F : Nat → Prop) (p : Nat) (e : Ent) (R : List Ent) (h : Lvl 58 61 w F p (e :: R)) (hn : R.length ≤ 100000) :
    Calls Try.prog 37 #[.pointer (some ⟨p, 0, none⟩)] w fun r w' => ∃ F', r = .returned (.tuple #[]) ∧ Lvl 58 61 w' F' p (R ++ [Ent.of e.o]) ∧ Grow w F F' ∧ Keep F w w' := by
  have HL := Lib.hid h
  obtain ⟨h1, h2, v, hB, hS, h5⟩ := h
  obtain ⟨g, off, c, rfl⟩ := hS.some_ (by simp)
  have HR : Hid (w.rangeAt g off e.cells) := hS.rng 0 e rfl
  have HB := Lib.hid hB
  have H2 := Lib.hid h2
  clear hB hS h5 h1 h2
  go_enter Try.func37, Try.ntmps37
  go_upto_region 0 with fail
  refine wp_text 8 [.eq (.pointer (some ⟨p, 0, none⟩)), .eq (.pointer (some ⟨p, 0, none⟩)), .eq (.pointer (some ⟨p, 1, none⟩)), .eq (.slice (some ⟨g, off, none⟩) (R.length + 1) c), .eq (.pointer (some ⟨g, off, none⟩)), .eq (.pointer (some ⟨g, off, none⟩)), .eq (e.o.v), .fresh w.heap.size 25 zeroO.cells] rfl (by kernel_rfl) ?_ ?_
  · refine fsteps_cons 1 rfl (fun a u hE hD hk => f_val (o := ⟨some 3, _, _, _, _, _⟩) (.pointer (some ⟨p, 0, none⟩)) rfl (wanted_none rfl _) (exec_move (.tmp 0) (.pointer (some ⟨p, 0, none⟩)) rfl (hE 0 (.pointer (some ⟨p, 0, none⟩)) (by kernel_rfl) (by kernel_rfl))) rfl) ?_
    refine fsteps_cons 2 rfl (fun a u hE hD hk => f_val (o := ⟨some 4, _, _, _, _, _⟩) (.pointer (some ⟨p, 0, none⟩)) rfl (wanted_none rfl _) (exec_nilp (.tmp 3) ⟨p, 0, none⟩ rfl (hD 0 3 (by kernel_rfl))) rfl) ?_
    refine fsteps_cons 3 rfl (fun a u hE hD hk => f_val (o := ⟨some 5, _, _, _, _, _⟩) (.pointer (some ⟨p, 1, none⟩)) rfl (wanted_none rfl _) (exec_fldo 58 1 1 (.tmp 4) (p) (0) (1) rfl (hD 1 4 (by kernel_rfl)) (by kernel_rfl) rfl) rfl) ?_
    refine fsteps_cons 4 rfl (fun a u hE hD hk => f_val (o := ⟨some 6, _, _, _, _, _⟩) (.slice (some ⟨g, off, none⟩) (R.length + 1) c) rfl (wanted_none rfl _) (exec_ldv 56 _ Try.underlying56 (.tmp 5) ⟨p, 1, none⟩ (.slice (some ⟨g, off, none⟩) (R.length + 1) c) rfl (hD 2 5 (by kernel_rfl)) (by rw [(HB.out.kept hk).cell]; rfl)) rfl) ?_
    refine fsteps_cons 5 rfl (fun a u hE hD hk => f_val (o := ⟨some 7, _, _, _, _, _⟩) (.pointer (some ⟨g, off, none⟩)) rfl (wanted_none rfl _) (exec_ixo slE (.tmp 6) (.const (.int .i64 0)) (g) (off) (R.length + 1) c 0 (off) (0) rfl (hD 3 6 (by kernel_rfl)) rfl (by first | rfl | omega) ((by omega)) (by first | rfl | omega)) rfl) ?_
    refine fsteps_cons 6 rfl (fun a u hE hD hk => f_val (o := ⟨some 8, _, _, _, _, _⟩) (.pointer (some ⟨g, off, none⟩)) rfl (wanted_none rfl _) (exec_fldo 61 0 0 (.tmp 7) (g) (off) (off) rfl (hD 4 7 (by kernel_rfl)) (by kernel_rfl) rfl) rfl) ?_
    refine fsteps_cons 7 rfl (fun a u hE hD hk => f_val (o := ⟨some 9, _, _, _, _, _⟩) (e.o.v) rfl (wanted_none rfl _) (exec_ldS 25 _ (.tmp 8) (g) (off) (e.o.cells) rfl (hD 5 8 (by kernel_rfl)) (ent_ord (range_kept HR.out hk)) Try.underlying25 (by rw [e.o.len9]; exact ord_size)) rfl) ?_
    refine fsteps_cons 8 rfl (fun a u hE hD hk => f_new (o := ⟨some 2, _, _, _, _, _⟩) (.pointer (some ⟨u.heap.size, 0, none⟩)) _ rfl (wanted_none rfl _) (exec_alc 25 zeroO.cells rfl zO) ⟨_, rfl, hk.size, Blk.new u _ _⟩ ((Keep.refl _ u).alloc _)) ?_
    exact fsteps_nil
  intro gv w1 hV k1
  rw [show dstsOf _ 8 = [3, 4, 5, 6, 7, 8, 9, 2] by kernel_rfl]
  simp only [List.foldl_cons, List.foldl_nil, List.setIfInBounds_toArray, List.set_cons_succ, List.set_cons_zero, List.drop_succ_cons, List.drop_zero]
  have hv2 : (.fresh w.heap.size 25 zeroO.cells : Kn).p (gv 2) w1 := hV 7 2 (by kernel_rfl)
  generalize gv 2 = v2 at hv2 ⊢
  rw [show gv 9 = e.o.v from hV 6 9 (by kernel_rfl)]
  clear hV
  obtain ⟨b2, rfl, hb2, hB2⟩ := hv2
  refine l_setS (o := ⟨none, _, _, _, _, _⟩) 25 b2 25 zeroO.cells e.o.cells (.tmp 2) (.tmp 9) rfl rfl (by kernel_rfl) (by kernel_rfl) hB2 (by rw [Ord.len9]; exact ord_size) (by rw [Ord.len9, Ord.len9]) (Ord.one1 _) ?_
  intro w2 hB3 hk3 hs3
  simp only [Act.put]
  refine wpList_nil ?_
  have kw2 : Kept w w2 := k1.trans' hk3 (by omega)
  have HL2 := Lib.hid (HL.out.kept kw2)
  have HB3 := Lib.hid (hB3)
  clear HL HR HB hB2 hB3 hk3 hs3 k1
  go_upto_region 1 with fail
  refine wp_region_lit ?_
  refine l_val (o := ⟨some 10, _, _, _, _, _⟩) (.pointer (some ⟨p, 0, none⟩)) rfl (exec_move (.tmp 0) (.pointer (some ⟨p, 0, none⟩)) rfl (by kernel_rfl)) ?_
  simp only [Act.put, List.setIfInBounds_toArray, List.set_cons_succ, List.set_cons_zero]
  refine l_call (o := ⟨some 11, _, _, _, _, _⟩) 36 #[.pointer (some ⟨p, 0, none⟩)] rfl (exec_call 36 _ [.tmp 10] _ _ Try.func36 (by kernel_rfl) (by kernel_rfl) rfl (by kernel_rfl) _) ?_
  refine (drop_any w2 F p e R HL2.out).mono ?_
  rintro r w3 ⟨rfl, hL3, hk3⟩
  refine ⟨_, rfl, ?_⟩
  simp only [Act.put, List.setIfInBounds_toArray, List.set_cons_succ, List.set_cons_zero]
  refine wpList_nil ?_
  have hnF : ¬ F b2 := fun hb => by have := H2.out b2 hb; omega
  have HB4 := Lib.hid (blk_range (HB3.out.keep hk3 hnF))
  have HL3 := Lib.hid hL3
  clear hL3 HL2 HB3
  go_upto_region 2 with fail
  refine wp_text 2 [.eq (.pointer (some ⟨p, 0, none⟩)), .eq (e.o.v)] rfl (by kernel_rfl) ?_ ?_
  · refine fsteps_cons 1 rfl (fun a u hE hD hk => f_val (o := ⟨some 12, _, _, _, _, _⟩) (.pointer (some ⟨p, 0, none⟩)) rfl (wanted_none rfl _) (exec_move (.tmp 0) (.pointer (some ⟨p, 0, none⟩)) rfl (hE 0 (.pointer (some ⟨p, 0, none⟩)) (by kernel_rfl) (by kernel_rfl))) rfl) ?_
    refine fsteps_cons 2 rfl (fun a u hE hD hk => f_val (o := ⟨some 13, _, _, _, _, _⟩) (e.o.v) rfl (wanted_none rfl _) (exec_ldS 25 _ (.tmp 2) (b2) (0) (e.o.cells) rfl (hE 2 (.pointer (some ⟨b2, 0, none⟩)) (by kernel_rfl) (by kernel_rfl)) (range_kept HB4.out hk) Try.underlying25 (by rw [e.o.len9]; exact ord_size)) rfl) ?_
    exact fsteps_nil
  intro gv w4 hV k4
  rw [show dstsOf _ 2 = [12, 13] by kernel_rfl]
  simp only [List.foldl_cons, List.foldl_nil, List.setIfInBounds_toArray, List.set_cons_succ, List.set_cons_zero, List.drop_succ_cons, List.drop_zero]
  rw [show gv 12 = .pointer (some ⟨p, 0, none⟩) from hV 0 12 (by kernel_rfl)]
  rw [show gv 13 = e.o.v from hV 1 13 (by kernel_rfl)]
  clear hV
  refine l_call (o := ⟨some 14, _, _, _, _, _⟩) 10 #[.pointer (some ⟨p, 0, none⟩), e.o.v] rfl (exec_call 10 _ [.tmp 12, .tmp 13] _ _ Try.func10 (by kernel_rfl) (by kernel_rfl) rfl (by kernel_rfl) _) ?_
  refine (add_any w4 F p R e.o (HL3.out.kept k4) hn).mono ?_
  rintro r w5 ⟨F', rfl, hL5, hg5, hk5⟩
  refine ⟨_, rfl, ?_⟩
  simp only [Act.put, List.setIfInBounds_toArray, List.set_cons_succ, List.set_cons_zero]
  refine wpList_nil ?_
  go_wp2
  go_end0
  have s1 := kw2.size
  have s2 := hk3.size
  have s3 := k4.size
  refine ⟨F', rfl, hL5, fun b hb => (hg5 b hb).imp id (fun h => by omega), (((Keep.mono (T := F) kw2 (fun _ _ h => h.elim)).trans hk3 (fun _ _ h => h)).kept k4).trans hk5 (fun _ _ h => h)⟩

/-- what hitFirst leaves -/
def HitIn (w : World) (F : Nat → Prop) (p : Nat) (e : Ent) (q : Int) (R : List Ent) (r : Ending) (w' : World) : Prop :=
  ∃ F', r = .returned (Ent.mk e.o (mn q e.n)).v ∧ Lvl 58 61 w' F' p (nextM e (mn q e.n) R) ∧ Grow w F F' ∧ Keep F w w'

set_option maxRecDepth 100000 in
set_option maxHeartbeats 1600000 in
theorem hit_all (w : World) (F : Nat → Prop) (p : Nat) (e : Ent) (q : Int) (R : List Ent) (h : Lvl 58 61 w F p (e :: R)) (hX : Good (e :: R)) (hq : 0 < q) (hc : e.o.qty - mn q e.n = 0) : Calls Try.prog 32 #[.pointer (some ⟨p, 0, none⟩), .int .i64 q] w (HitIn w F p e q R) := by
  have hb := hX.bound (e := e) (by simp)
  have hlen : R.length ≤ 100000 := by have := hX.len; simp at this; omega
  have hm1 := mn_le q e.n
  have hm2 := mn_pos q e.n hq (by omega)
  have HHI : Hid (∀ r w', (∃ F', r = .returned (Ent.mk e.o (mn q e.n)).v ∧ Lvl 58 61 w' F' p (nextM e (mn q e.n) R) ∧ Grow w F F' ∧ Keep F w w') → HitIn w F p e q R r w') := fun r w' h => h
  obtain ⟨n, hn⟩ : ∃ n, mn q e.n = n := ⟨_, rfl⟩
  rw [hn] at hm1 hm2 HHI hc
  have HN : Hid ((if e.n < q then e.n else q) = n) := hn
  clear hn hX
  obtain ⟨h1, h2, v, hB, hS, h5⟩ := h
  obtain ⟨g, off, c, rfl⟩ := hS.some_ (by simp)
  have HR : Hid (w.rangeAt g off e.cells) := hS.rng 0 e rfl
  have HB := Lib.hid hB
  have HS := Lib.hid hS
  have H1 := Lib.hid h1
  have H2 := Lib.hid h2
  have H5 := Lib.hid h5
  have hgp : g ≠ p := (h5 g rfl).2
  have hgF : Hid (F g) := (h5 g rfl).1
  have hgl : g < w.heap.size := h2 g hgF.out
  have hpl : p < w.heap.size := h2 p h1
  clear hB hS h5 h1 h2
  go_enter Try.func32, Try.ntmps32
  go_upto_region 0 with fail
  refine wp_text 1 [.fresh w.heap.size 35 zeroE.cells] rfl (by kernel_rfl) ?_ ?_
  · refine fsteps_cons 1 rfl (fun a u hE hD hk => f_new (o := ⟨some 4, _, _, _, _, _⟩) (.pointer (some ⟨u.heap.size, 0, none⟩)) _ rfl (wanted_none rfl _) (exec_alc 35 zeroE.cells rfl zH) ⟨_, rfl, hk.size, Blk.new u _ _⟩ ((Keep.refl _ u).alloc _)) ?_
    exact fsteps_nil
  intro gv w0 hV k0
  rw [show dstsOf _ 1 = [4] by kernel_rfl]
  simp only [List.foldl_cons, List.foldl_nil, List.setIfInBounds_toArray, List.set_cons_succ, List.set_cons_zero, List.drop_succ_cons, List.drop_zero]
  have hv4 : (.fresh w.heap.size 35 zeroE.cells : Kn).p (gv 4) w0 := hV 0 4 (by kernel_rfl)
  generalize gv 4 = v4 at hv4 ⊢
  clear hV
  obtain ⟨r, rfl, hr, hRB⟩ := hv4
  refine wpList_nil ?_
  have s0 := k0.size
  have hrl := hRB.lt
  have HB0 := Lib.hid (HB.out.kept k0)
  go_upto_region 1 with fail
  refine wp_text 6 [.eq (.pointer (some ⟨p, 0, none⟩)), .eq (.pointer (some ⟨p, 0, none⟩)), .eq (.pointer (some ⟨p, 1, none⟩)), .eq (.slice (some ⟨g, off, none⟩) (R.length + 1) c), .eq (.pointer (some ⟨g, off, none⟩)), .eq (.pointer (some ⟨g, off, none⟩))] rfl (by kernel_rfl) ?_ ?_
  · refine fsteps_cons 1 rfl (fun a u hE hD hk => f_val (o := ⟨some 7, _, _, _, _, _⟩) (.pointer (some ⟨p, 0, none⟩)) rfl (wanted_none rfl _) (exec_move (.tmp 0) (.pointer (some ⟨p, 0, none⟩)) rfl (hE 0 (.pointer (some ⟨p, 0, none⟩)) (by kernel_rfl) (by kernel_rfl))) rfl) ?_
    refine fsteps_cons 2 rfl (fun a u hE hD hk => f_val (o := ⟨some 8, _, _, _, _, _⟩) (.pointer (some ⟨p, 0, none⟩)) rfl (wanted_none rfl _) (exec_nilp (.tmp 7) ⟨p, 0, none⟩ rfl (hD 0 7 (by kernel_rfl))) rfl) ?_
    refine fsteps_cons 3 rfl (fun a u hE hD hk => f_val (o := ⟨some 9, _, _, _, _, _⟩) (.pointer (some ⟨p, 1, none⟩)) rfl (wanted_none rfl _) (exec_fldo 58 1 1 (.tmp 8) (p) (0) (1) rfl (hD 1 8 (by kernel_rfl)) (by kernel_rfl) rfl) rfl) ?_
    refine fsteps_cons 4 rfl (fun a u hE hD hk => f_val (o := ⟨some 10, _, _, _, _, _⟩) (.slice (some ⟨g, off, none⟩) (R.length + 1) c) rfl (wanted_none rfl _) (exec_ldv 56 _ Try.underlying56 (.tmp 9) ⟨p, 1, none⟩ (.slice (some ⟨g, off, none⟩) (R.length + 1) c) rfl (hD 2 9 (by kernel_rfl)) (by rw [(HB0.out.kept hk).cell]; rfl)) rfl) ?_
    refine fsteps_cons 5 rfl (fun a u hE hD hk => f_val (o := ⟨some 11, _, _, _, _, _⟩) (.pointer (some ⟨g, off, none⟩)) rfl (wanted_none rfl _) (exec_ixo slE (.tmp 10) (.const (.int .i64 0)) (g) (off) (R.length + 1) c 0 (off) (0) rfl (hD 3 10 (by kernel_rfl)) rfl (by first | rfl | omega) ((by omega)) (by first | rfl | omega)) rfl) ?_
    refine fsteps_cons 6 rfl (fun a u hE hD hk => f_val (o := ⟨some 5, _, _, _, _, _⟩) (.pointer (some ⟨g, off, none⟩)) rfl (wanted_none rfl _) (exec_assign (.tmp 11) (.pointer (some ⟨g, off, none⟩)) rfl (hD 4 11 (by kernel_rfl))) rfl) ?_
    exact fsteps_nil
  intro gv w1 hV k1
  rw [show dstsOf _ 6 = [7, 8, 9, 10, 11, 5] by kernel_rfl]
  simp only [List.foldl_cons, List.foldl_nil, List.setIfInBounds_toArray, List.set_cons_succ, List.set_cons_zero, List.drop_succ_cons, List.drop_zero]
  rw [show gv 5 = .pointer (some ⟨g, off, none⟩) from hV 5 5 (by kernel_rfl)]
  clear hV
  refine wpList_nil ?_
  have kw1 := k0.trans k1
  have s1 := k1.size
  have HR1 := Lib.hid (range_kept HR.out kw1)
  have HRB := Lib.hid (hRB.kept k1)
  clear HR HB0 hRB k0 k1
  go_upto_region 2 with fail
  refine wp_free 12 [.eq (.pointer (some ⟨g, off, none⟩)), .eq (.pointer (some ⟨g, off, none⟩)), .eq (.pointer (some ⟨g, off, none⟩)), .eq (e.o.v), .eq (.int .i64 q), .eq (.pointer (some ⟨g, off, none⟩)), .eq (.pointer (some ⟨g, off, none⟩)), .eq (.pointer (some ⟨g, off + 9, none⟩)), .eq (.int .i64 e.n), .eq (.int .i64 n), .eq ((Ent.mk e.o (n)).v), .fresh w1.heap.size 35 zeroE.cells] (by kernel_rfl) rfl (by kernel_rfl) ?_ ?_
  · refine fsteps_cons 1 rfl (fun a u hE hD hk => f_val (o := ⟨some 12, _, _, _, _, _⟩) (.pointer (some ⟨g, off, none⟩)) rfl (wanted_none rfl _) (exec_move (.tmp 5) (.pointer (some ⟨g, off, none⟩)) rfl (hE 5 (.pointer (some ⟨g, off, none⟩)) (by kernel_rfl) (by kernel_rfl))) rfl) ?_
    refine fsteps_cons 2 rfl (fun a u hE hD hk => f_val (o := ⟨some 13, _, _, _, _, _⟩) (.pointer (some ⟨g, off, none⟩)) rfl (wanted_none rfl _) (exec_nilp (.tmp 12) ⟨g, off, none⟩ rfl (hD 0 12 (by kernel_rfl))) rfl) ?_
    refine fsteps_cons 3 rfl (fun a u hE hD hk => f_val (o := ⟨some 14, _, _, _, _, _⟩) (.pointer (some ⟨g, off, none⟩)) rfl (wanted_none rfl _) (exec_fldo 61 0 0 (.tmp 13) (g) (off) (off) rfl (hD 1 13 (by kernel_rfl)) (by kernel_rfl) rfl) rfl) ?_
    refine fsteps_cons 4 rfl (fun a u hE hD hk => f_val (o := ⟨some 15, _, _, _, _, _⟩) (e.o.v) rfl (wanted_none rfl _) (exec_ldS 25 _ (.tmp 14) (g) (off) (e.o.cells) rfl (hD 2 14 (by kernel_rfl)) (ent_ord (range_kept HR1.out hk)) Try.underlying25 (by rw [e.o.len9]; exact ord_size)) rfl) ?_
    refine fsteps_cons 5 rfl (fun a u hE hD hk => f_val (o := ⟨some 16, _, _, _, _, _⟩) (.int .i64 q) rfl (wanted_none rfl _) (exec_move (.tmp 1) (.int .i64 q) rfl (hE 1 (.int .i64 q) (by kernel_rfl) (by kernel_rfl))) rfl) ?_
    refine fsteps_cons 6 rfl (fun a u hE hD hk => f_val (o := ⟨some 17, _, _, _, _, _⟩) (.pointer (some ⟨g, off, none⟩)) rfl (wanted_none rfl _) (exec_move (.tmp 5) (.pointer (some ⟨g, off, none⟩)) rfl (hE 5 (.pointer (some ⟨g, off, none⟩)) (by kernel_rfl) (by kernel_rfl))) rfl) ?_
    refine fsteps_cons 7 rfl (fun a u hE hD hk => f_val (o := ⟨some 18, _, _, _, _, _⟩) (.pointer (some ⟨g, off, none⟩)) rfl (wanted_none rfl _) (exec_nilp (.tmp 17) ⟨g, off, none⟩ rfl (hD 5 17 (by kernel_rfl))) rfl) ?_
    refine fsteps_cons 8 rfl (fun a u hE hD hk => f_val (o := ⟨some 19, _, _, _, _, _⟩) (.pointer (some ⟨g, off + 9, none⟩)) rfl (wanted_none rfl _) (exec_fldo 61 1 9 (.tmp 18) (g) (off) (off + 9) rfl (hD 6 18 (by kernel_rfl)) (by kernel_rfl) rfl) rfl) ?_
    refine fsteps_cons 9 rfl (fun a u hE hD hk => f_val (o := ⟨some 20, _, _, _, _, _⟩) (.int .i64 e.n) rfl (wanted_none rfl _) (exec_loadi 3 Try.underlying3 (.tmp 19) ⟨g, off + 9, none⟩ (.int .i64 e.n) rfl (hD 7 19 (by kernel_rfl)) (range_int (range_kept HR1.out hk) 9 _ rfl)) rfl) ?_
    refine fsteps_cons 10 rfl (fun a u hE hD hk => f_val (o := ⟨some 21, _, _, _, _, _⟩) (.int .i64 n) rfl (wanted_none rfl _) (exec_min (.tmp 16) (.tmp 20) _ q e.n n rfl (hD 4 16 (by kernel_rfl)) (hD 8 20 (by kernel_rfl)) HN.out) rfl) ?_
    refine fsteps_cons 11 rfl (fun a u hE hD hk => f_val (o := ⟨some 22, _, _, _, _, _⟩) ((Ent.mk e.o (n)).v) rfl (wanted_none rfl _) (exec_bent 35 builtH (.tmp 15) (.tmp 21) (e.o) (n) rfl (hD 3 15 (by kernel_rfl)) (hD 9 21 (by kernel_rfl))) rfl) ?_
    refine fsteps_cons 12 rfl (fun a u hE hD hk => f_new (o := ⟨some 6, _, _, _, _, _⟩) (.pointer (some ⟨u.heap.size, 0, none⟩)) _ rfl (wanted_none rfl _) (exec_alc 35 zeroE.cells rfl zH) ⟨_, rfl, hk.size, Blk.new u _ _⟩ ((Keep.refl _ u).alloc _)) ?_
    exact fsteps_nil
  intro gv w2 hV k2
  rw [show dstsOf _ 12 = [12, 13, 14, 15, 16, 17, 18, 19, 20, 21, 22, 6] by kernel_rfl]
  simp only [List.foldl_cons, List.foldl_nil, List.setIfInBounds_toArray, List.set_cons_succ, List.set_cons_zero, List.drop_succ_cons, List.drop_zero]
  have hv6 : (.fresh w1.heap.size 35 zeroE.cells : Kn).p (gv 6) w2 := hV 11 6 (by kernel_rfl)
  generalize gv 6 = v6 at hv6 ⊢
  rw [show gv 22 = (Ent.mk e.o (n)).v from hV 10 22 (by kernel_rfl)]
  clear hV
  obtain ⟨h6, rfl, hh6, hB6⟩ := hv6
  refine l_setS (o := ⟨none, _, _, _, _, _⟩) 35 h6 35 zeroE.cells (Ent.mk e.o n).cells (.tmp 6) (.tmp 22) rfl rfl (by kernel_rfl) (by kernel_rfl) hB6 (by rw [Ent.len10]; exact szH) (by rw [Ent.len10, Ent.len10]) (Ent.one _) ?_
  intro w3 hB7 hk3 hs3
  simp only [Act.put]
  refine wpList_nil ?_
  have kw3 : Kept w w3 := (kw1.trans k2).trans' hk3 (by omega)
  have s3 := kw3.size
  have h6l := hB7.lt
  have s2 := k2.size
  have HR3 := Lib.hid (range_keep (range_kept HR1.out k2) hk3 (by omega))
  have HRB3 := Lib.hid ((HRB.out.kept k2).keep hk3 (by omega))
  have HH3 := Lib.hid hB7
  have HHR := Lib.hid (blk_range hB7)
  have HS3 := Lib.hid (HS.out.kept kw3)
  have HB3 := Lib.hid (HB.out.kept kw3)
  clear HR1 HRB HS HB hB6 hB7 hk3 k2 hs3
  clear kw1
  go_upto_region 3 with fail
  refine wp_free 11 [.eq (.pointer (some ⟨g, off, none⟩)), .eq (.pointer (some ⟨g, off, none⟩)), .eq (.pointer (some ⟨g, off, none⟩)), .eq (.pointer (some ⟨g, off + 6, none⟩)), .eq (.int .i64 e.o.qty), .eq (.pointer (some ⟨h6, 9, none⟩)), .eq (.int .i64 (Ent.mk e.o n).n), .eq (.int .i64 (e.o.qty - n)), .eq (.pointer (some ⟨g, off, none⟩)), .eq (.pointer (some ⟨g, off, none⟩)), .eq (.pointer (some ⟨g, off + 6, none⟩))] (by kernel_rfl) rfl (by kernel_rfl) ?_ ?_
  · refine fsteps_cons 1 rfl (fun a u hE hD hk => f_val (o := ⟨some 23, _, _, _, _, _⟩) (.pointer (some ⟨g, off, none⟩)) rfl (wanted_none rfl _) (exec_move (.tmp 5) (.pointer (some ⟨g, off, none⟩)) rfl (hE 5 (.pointer (some ⟨g, off, none⟩)) (by kernel_rfl) (by kernel_rfl))) rfl) ?_
    refine fsteps_cons 2 rfl (fun a u hE hD hk => f_val (o := ⟨some 24, _, _, _, _, _⟩) (.pointer (some ⟨g, off, none⟩)) rfl (wanted_none rfl _) (exec_nilp (.tmp 23) ⟨g, off, none⟩ rfl (hD 0 23 (by kernel_rfl))) rfl) ?_
    refine fsteps_cons 3 rfl (fun a u hE hD hk => f_val (o := ⟨some 25, _, _, _, _, _⟩) (.pointer (some ⟨g, off, none⟩)) rfl (wanted_none rfl _) (exec_fldo 61 0 0 (.tmp 24) (g) (off) (off) rfl (hD 1 24 (by kernel_rfl)) (by kernel_rfl) rfl) rfl) ?_
    refine fsteps_cons 4 rfl (fun a u hE hD hk => f_val (o := ⟨some 26, _, _, _, _, _⟩) (.pointer (some ⟨g, off + 6, none⟩)) rfl (wanted_none rfl _) (exec_fldo 25 6 6 (.tmp 25) (g) (off) (off + 6) rfl (hD 2 25 (by kernel_rfl)) (by kernel_rfl) rfl) rfl) ?_
    refine fsteps_cons 5 rfl (fun a u hE hD hk => f_val (o := ⟨some 27, _, _, _, _, _⟩) (.int .i64 e.o.qty) rfl (wanted_none rfl _) (exec_loadi 3 Try.underlying3 (.tmp 26) ⟨g, off + 6, none⟩ (.int .i64 e.o.qty) rfl (hD 3 26 (by kernel_rfl)) (range_int (range_kept HR3.out hk) 6 _ rfl)) rfl) ?_
    refine fsteps_cons 6 rfl (fun a u hE hD hk => f_val (o := ⟨some 28, _, _, _, _, _⟩) (.pointer (some ⟨h6, 9, none⟩)) rfl (wanted_none rfl _) (exec_fldo 35 1 9 (.tmp 6) (h6) (0) (9) rfl (hE 6 (.pointer (some ⟨h6, 0, none⟩)) (by kernel_rfl) (by kernel_rfl)) (by kernel_rfl) rfl) rfl) ?_
    refine fsteps_cons 7 rfl (fun a u hE hD hk => f_val (o := ⟨some 29, _, _, _, _, _⟩) (.int .i64 (Ent.mk e.o n).n) rfl (wanted_none rfl _) (exec_loadi 3 Try.underlying3 (.tmp 28) ⟨h6, 9, none⟩ (.int .i64 (Ent.mk e.o n).n) rfl (hD 5 28 (by kernel_rfl)) (range_int (range_kept HHR.out hk) 9 _ rfl)) rfl) ?_
    refine fsteps_cons 8 rfl (fun a u hE hD hk => f_val (o := ⟨some 30, _, _, _, _, _⟩) (.int .i64 (e.o.qty - n)) rfl (wanted_none rfl _) (exec_subn (e.o.qty - n) rfl (hD 4 27 (by kernel_rfl)) (hD 6 29 (by kernel_rfl)) rfl (by omega) (by omega)) rfl) ?_
    refine fsteps_cons 9 rfl (fun a u hE hD hk => f_val (o := ⟨some 31, _, _, _, _, _⟩) (.pointer (some ⟨g, off, none⟩)) rfl (wanted_none rfl _) (exec_nilp (.tmp 23) ⟨g, off, none⟩ rfl (hD 0 23 (by kernel_rfl))) rfl) ?_
    refine fsteps_cons 10 rfl (fun a u hE hD hk => f_val (o := ⟨some 32, _, _, _, _, _⟩) (.pointer (some ⟨g, off, none⟩)) rfl (wanted_none rfl _) (exec_fldo 61 0 0 (.tmp 31) (g) (off) (off) rfl (hD 8 31 (by kernel_rfl)) (by kernel_rfl) rfl) rfl) ?_
    refine fsteps_cons 11 rfl (fun a u hE hD hk => f_val (o := ⟨some 33, _, _, _, _, _⟩) (.pointer (some ⟨g, off + 6, none⟩)) rfl (wanted_none rfl _) (exec_fldo 25 6 6 (.tmp 32) (g) (off) (off + 6) rfl (hD 9 32 (by kernel_rfl)) (by kernel_rfl) rfl) rfl) ?_
    exact fsteps_nil
  intro gv w4 hV k4
  rw [show dstsOf _ 11 = [23, 24, 25, 26, 27, 28, 29, 30, 31, 32, 33] by kernel_rfl]
  simp only [List.foldl_cons, List.foldl_nil, List.setIfInBounds_toArray, List.set_cons_succ, List.set_cons_zero, List.drop_succ_cons, List.drop_zero]
  rw [show gv 33 = .pointer (some ⟨g, off + 6, none⟩) from hV 10 33 (by kernel_rfl)]
  rw [show gv 30 = .int .i64 (e.o.qty - n) from hV 7 30 (by kernel_rfl)]
  clear hV
  refine l_rowi (o := ⟨none, _, _, _, _, _⟩) 61 g off (R.length + 1) c 0 6 (e :: R) e ⟨e.o.q (e.o.qty - n), e.n⟩ (e.o.qty - n) ⟨g, off + 6, none⟩ (.tmp 33) (.tmp 30) rfl rfl (by kernel_rfl) (by kernel_rfl) rfl (HS3.out.kept k4) rfl rfl (by omega) rfl ?_
  intro w5 hS5 hk5 hs5
  simp only [Act.put]
  refine wpList_nil ?_
  have s4 := k4.size
  have K5 : Keep (· = g) w3 w5 := (Keep.mono (T := (· = g)) k4 (fun _ _ h => h.elim)).trans hk5 (fun _ _ h => h)
  have HS5 : Hid (Sl w5 61 10 (.slice (some ⟨g, off, none⟩) (R.length + 1) c) (R.length + 1) (ents (⟨e.o.q (e.o.qty - n), e.n⟩ :: R))) := hS5
  have HR5 : Hid (w5.rangeAt g off (Ent.mk (e.o.q (e.o.qty - n)) e.n).cells) := HS5.out.rng 0 _ rfl
  have HHR5 := Lib.hid (range_keep HHR.out K5 (by omega))
  clear hS5 hk5 k4 HR3
  go_upto_region 4 with fail
  refine wp_free 9 [.eq (.pointer (some ⟨g, off, none⟩)), .eq (.pointer (some ⟨g, off, none⟩)), .eq (.pointer (some ⟨g, off + 9, none⟩)), .eq (.int .i64 (Ent.mk (e.o.q (e.o.qty - n)) e.n).n), .eq (.pointer (some ⟨h6, 9, none⟩)), .eq (.int .i64 (Ent.mk e.o n).n), .eq (.int .i64 (e.n - n)), .eq (.pointer (some ⟨g, off, none⟩)), .eq (.pointer (some ⟨g, off + 9, none⟩))] (by kernel_rfl) rfl (by kernel_rfl) ?_ ?_
  · refine fsteps_cons 1 rfl (fun a u hE hD hk => f_val (o := ⟨some 34, _, _, _, _, _⟩) (.pointer (some ⟨g, off, none⟩)) rfl (wanted_none rfl _) (exec_move (.tmp 5) (.pointer (some ⟨g, off, none⟩)) rfl (hE 5 (.pointer (some ⟨g, off, none⟩)) (by kernel_rfl) (by kernel_rfl))) rfl) ?_
    refine fsteps_cons 2 rfl (fun a u hE hD hk => f_val (o := ⟨some 35, _, _, _, _, _⟩) (.pointer (some ⟨g, off, none⟩)) rfl (wanted_none rfl _) (exec_nilp (.tmp 34) ⟨g, off, none⟩ rfl (hD 0 34 (by kernel_rfl))) rfl) ?_
    refine fsteps_cons 3 rfl (fun a u hE hD hk => f_val (o := ⟨some 36, _, _, _, _, _⟩) (.pointer (some ⟨g, off + 9, none⟩)) rfl (wanted_none rfl _) (exec_fldo 61 1 9 (.tmp 35) (g) (off) (off + 9) rfl (hD 1 35 (by kernel_rfl)) (by kernel_rfl) rfl) rfl) ?_
    refine fsteps_cons 4 rfl (fun a u hE hD hk => f_val (o := ⟨some 37, _, _, _, _, _⟩) (.int .i64 (Ent.mk (e.o.q (e.o.qty - n)) e.n).n) rfl (wanted_none rfl _) (exec_loadi 3 Try.underlying3 (.tmp 36) ⟨g, off + 9, none⟩ (.int .i64 (Ent.mk (e.o.q (e.o.qty - n)) e.n).n) rfl (hD 2 36 (by kernel_rfl)) (range_int (range_kept HR5.out hk) 9 _ rfl)) rfl) ?_
    refine fsteps_cons 5 rfl (fun a u hE hD hk => f_val (o := ⟨some 38, _, _, _, _, _⟩) (.pointer (some ⟨h6, 9, none⟩)) rfl (wanted_none rfl _) (exec_fldo 35 1 9 (.tmp 6) (h6) (0) (9) rfl (hE 6 (.pointer (some ⟨h6, 0, none⟩)) (by kernel_rfl) (by kernel_rfl)) (by kernel_rfl) rfl) rfl) ?_
    refine fsteps_cons 6 rfl (fun a u hE hD hk => f_val (o := ⟨some 39, _, _, _, _, _⟩) (.int .i64 (Ent.mk e.o n).n) rfl (wanted_none rfl _) (exec_loadi 3 Try.underlying3 (.tmp 38) ⟨h6, 9, none⟩ (.int .i64 (Ent.mk e.o n).n) rfl (hD 4 38 (by kernel_rfl)) (range_int (range_kept HHR5.out hk) 9 _ rfl)) rfl) ?_
    refine fsteps_cons 7 rfl (fun a u hE hD hk => f_val (o := ⟨some 40, _, _, _, _, _⟩) (.int .i64 (e.n - n)) rfl (wanted_none rfl _) (exec_subn (e.n - n) rfl (hD 3 37 (by kernel_rfl)) (hD 5 39 (by kernel_rfl)) rfl (by omega) (by omega)) rfl) ?_
    refine fsteps_cons 8 rfl (fun a u hE hD hk => f_val (o := ⟨some 41, _, _, _, _, _⟩) (.pointer (some ⟨g, off, none⟩)) rfl (wanted_none rfl _) (exec_nilp (.tmp 34) ⟨g, off, none⟩ rfl (hD 0 34 (by kernel_rfl))) rfl) ?_
    refine fsteps_cons 9 rfl (fun a u hE hD hk => f_val (o := ⟨some 42, _, _, _, _, _⟩) (.pointer (some ⟨g, off + 9, none⟩)) rfl (wanted_none rfl _) (exec_fldo 61 1 9 (.tmp 41) (g) (off) (off + 9) rfl (hD 7 41 (by kernel_rfl)) (by kernel_rfl) rfl) rfl) ?_
    exact fsteps_nil
  intro gv w6 hV k6
  rw [show dstsOf _ 9 = [34, 35, 36, 37, 38, 39, 40, 41, 42] by kernel_rfl]
  simp only [List.foldl_cons, List.foldl_nil, List.setIfInBounds_toArray, List.set_cons_succ, List.set_cons_zero, List.drop_succ_cons, List.drop_zero]
  rw [show gv 42 = .pointer (some ⟨g, off + 9, none⟩) from hV 8 42 (by kernel_rfl)]
  rw [show gv 40 = .int .i64 (e.n - n) from hV 6 40 (by kernel_rfl)]
  clear hV
  refine l_rowi (o := ⟨none, _, _, _, _, _⟩) 61 g off (R.length + 1) c 0 9 (⟨e.o.q (e.o.qty - n), e.n⟩ :: R) ⟨e.o.q (e.o.qty - n), e.n⟩ (e.sub n) (e.n - n) ⟨g, off + 9, none⟩ (.tmp 42) (.tmp 40) rfl rfl (by kernel_rfl) (by kernel_rfl) rfl (HS5.out.kept k6) rfl rfl (by omega) rfl ?_
  intro w7 hS7 hk7 hs7
  simp only [Act.put]
  refine wpList_nil ?_
  have s6 := k6.size
  have K7 : Keep (· = g) w3 w7 := (K5.kept k6).trans hk7 (fun _ _ h => h)
  have HS7 : Hid (Sl w7 61 10 (.slice (some ⟨g, off, none⟩) (R.length + 1) c) (R.length + 1) (ents (e.sub n :: R))) := hS7
  have HR7 : Hid (w7.rangeAt g off (e.sub n).cells) := HS7.out.rng 0 _ rfl
  have HL7 : Hid (Lvl 58 61 w7 F p (e.sub n :: R)) := ⟨H1.out, fun b hb => by have := H2.out b hb; omega, _, HB3.out.keep K7 (fun e => hgp e.symm), HS7.out, H5.out⟩
  have HH7 := Lib.hid (HH3.out.keep K7 (by omega))
  have HRB7 := Lib.hid (HRB3.out.keep K7 (by omega))
  have KF7 : Keep F w w7 := (Keep.mono (T := F) kw3 (fun _ _ h => h.elim)).trans K7 (fun b _ hb => by subst hb; exact hgF.out)
  clear hS7 hk7 k6 K5 HS5 HR5 HHR5 HHR HS3 HB3 HH3 HRB3 K7 HS7 kw3 HN
  go_upto_region 5 with fail
  refine wp_text 6 [.eq (.pointer (some ⟨g, off, none⟩)), .eq (.pointer (some ⟨g, off, none⟩)), .eq (.pointer (some ⟨g, off, none⟩)), .eq (.pointer (some ⟨g, off + 6, none⟩)), .eq (.int .i64 (e.sub n).o.qty), .eq (.bool true)] rfl (by kernel_rfl) ?_ ?_
  · refine fsteps_cons 1 rfl (fun a u hE hD hk => f_val (o := ⟨some 43, _, _, _, _, _⟩) (.pointer (some ⟨g, off, none⟩)) rfl (wanted_none rfl _) (exec_move (.tmp 5) (.pointer (some ⟨g, off, none⟩)) rfl (hE 5 (.pointer (some ⟨g, off, none⟩)) (by kernel_rfl) (by kernel_rfl))) rfl) ?_
    refine fsteps_cons 2 rfl (fun a u hE hD hk => f_val (o := ⟨some 44, _, _, _, _, _⟩) (.pointer (some ⟨g, off, none⟩)) rfl (wanted_none rfl _) (exec_nilp (.tmp 43) ⟨g, off, none⟩ rfl (hD 0 43 (by kernel_rfl))) rfl) ?_
    refine fsteps_cons 3 rfl (fun a u hE hD hk => f_val (o := ⟨some 45, _, _, _, _, _⟩) (.pointer (some ⟨g, off, none⟩)) rfl (wanted_none rfl _) (exec_fldo 61 0 0 (.tmp 44) (g) (off) (off) rfl (hD 1 44 (by kernel_rfl)) (by kernel_rfl) rfl) rfl) ?_
    refine fsteps_cons 4 rfl (fun a u hE hD hk => f_val (o := ⟨some 46, _, _, _, _, _⟩) (.pointer (some ⟨g, off + 6, none⟩)) rfl (wanted_none rfl _) (exec_fldo 25 6 6 (.tmp 45) (g) (off) (off + 6) rfl (hD 2 45 (by kernel_rfl)) (by kernel_rfl) rfl) rfl) ?_
    refine fsteps_cons 5 rfl (fun a u hE hD hk => f_val (o := ⟨some 47, _, _, _, _, _⟩) (.int .i64 (e.sub n).o.qty) rfl (wanted_none rfl _) (exec_loadi 3 Try.underlying3 (.tmp 46) ⟨g, off + 6, none⟩ (.int .i64 (e.sub n).o.qty) rfl (hD 3 46 (by kernel_rfl)) (range_int (range_kept HR7.out hk) 6 _ rfl)) rfl) ?_
    refine fsteps_cons 6 rfl (fun a u hE hD hk => f_as (show ((decide (((e.sub n).o.qty : Int) = (0 : Int))) : Bool) = true from decide_eq_true hc) (f_val (o := ⟨some 48, _, _, _, _, _⟩) (.bool (decide (((e.sub n).o.qty : Int) = (0 : Int)))) rfl (wanted_none rfl _) (exec_eqn (p := (e.sub n).o.qty) (q := 0) rfl (hD 4 47 (by kernel_rfl)) rfl) rfl)) ?_
    exact fsteps_nil
  intro gv w8 hV k8
  rw [show dstsOf _ 6 = [43, 44, 45, 46, 47, 48] by kernel_rfl]
  simp only [List.foldl_cons, List.foldl_nil, List.setIfInBounds_toArray, List.set_cons_succ, List.set_cons_zero, List.drop_succ_cons, List.drop_zero]
  rw [show gv 48 = .bool true from hV 5 48 (by kernel_rfl)]
  clear hV
  refine wpList_nil ?_
  have s8 := k8.size
  have HR8 := Lib.hid (range_kept HR7.out k8)
  have HL8 := Lib.hid (HL7.out.kept k8)
  have HH8 := Lib.hid (HH7.out.kept k8)
  have HRB8 := Lib.hid (HRB7.out.kept k8)
  have KF8 := KF7.kept k8
  clear HR7 HL7 HH7 HRB7 KF7 k8
  have HL9 := HL8
  have HH9 := HH8
  have HRB9 := HRB8
  have KF9 := KF8
  obtain ⟨w9, hw9⟩ : ∃ w9, w9 = w8 := ⟨_, rfl⟩
  subst hw9
  have s9 : w9.heap.size ≤ w9.heap.size := Nat.le_refl _
  clear HR8 HL8 HH8 HRB8 KF8
  go_upto_region 6 with fail
  refine wp_region_lit ?_
  refine l_val (o := ⟨some 49, _, _, _, _, _⟩) (.pointer (some ⟨p, 0, none⟩)) rfl (exec_move (.tmp 0) (.pointer (some ⟨p, 0, none⟩)) rfl (by kernel_rfl)) ?_
  simp only [Act.put, List.setIfInBounds_toArray, List.set_cons_succ, List.set_cons_zero]
  refine l_call (o := ⟨some 50, _, _, _, _, _⟩) 36 #[.pointer (some ⟨p, 0, none⟩)] rfl (exec_call 36 _ [.tmp 49] _ _ Try.func36 (by kernel_rfl) (by kernel_rfl) rfl (by kernel_rfl) _) ?_
  refine (drop_any w9 F p (e.sub n) R HL9.out).mono ?_
  rintro r0 w10 ⟨rfl, hL10, hk10⟩
  refine ⟨_, rfl, ?_⟩
  simp only [Act.put, List.setIfInBounds_toArray, List.set_cons_succ, List.set_cons_zero]
  refine wpList_nil ?_
  have hG10 : Grow w9 F F := Grow.refl _ _
  have hrF : ¬ F r := fun hb => by have := H2.out r hb; omega
  have hhF : ¬ F h6 := fun hb => by have := H2.out h6 hb; omega
  have s10 := hk10.size
  have HH10 := Lib.hid (blk_range (HH9.out.keep hk10 hhF))
  have HRB10 := Lib.hid (HRB9.out.keep hk10 hrF)
  have KF10 : Keep F w w10 := KF9.trans hk10 (fun _ _ h => h)
  have HL10 := Lib.hid hL10
  have HG10 := Lib.hid hG10
  clear hL10 HH9 HRB9 KF9 HL9 hG10
  go_upto_region 9 with fail
  refine wp_text 1 [.eq ((Ent.mk e.o n).v)] rfl (by kernel_rfl) ?_ ?_
  · refine fsteps_cons 1 rfl (fun a u hE hD hk => f_val (o := ⟨some 58, _, _, _, _, _⟩) ((Ent.mk e.o n).v) rfl (wanted_none rfl _) (exec_ldS 35 _ (.tmp 6) (h6) (0) ((Ent.mk e.o n).cells) rfl (hE 6 (.pointer (some ⟨h6, 0, none⟩)) (by kernel_rfl) (by kernel_rfl)) (range_kept HH10.out hk) Try.underlying35 (by rw [(Ent.mk e.o n).len10]; exact szH)) rfl) ?_
    exact fsteps_nil
  intro gv w11 hV k11
  rw [show dstsOf _ 1 = [58] by kernel_rfl]
  simp only [List.foldl_cons, List.foldl_nil, List.setIfInBounds_toArray, List.set_cons_succ, List.set_cons_zero, List.drop_succ_cons, List.drop_zero]
  rw [show gv 58 = (Ent.mk e.o n).v from hV 0 58 (by kernel_rfl)]
  clear hV
  refine l_setS (o := ⟨none, _, _, _, _, _⟩) 35 r 35 zeroE.cells (Ent.mk e.o n).cells (.tmp 4) (.tmp 58) rfl rfl (by kernel_rfl) (by kernel_rfl) (HRB10.out.kept k11) (by rw [Ent.len10]; exact szH) (by rw [Ent.len10, Ent.len10]) (Ent.one _) ?_
  intro w12 hB12 hk12 hs12
  simp only [Act.put]
  refine wpList_nil ?_
  go_wp2
  refine bodyPost_ret (results_cell (p := 4) rfl _ _ r _ (Ent.mk e.o n).cells rfl hB12 Try.underlying35 (by rw [Ent.len10]; exact szH)) rfl ?_
  refine HHI.out _ _ ⟨F, rfl, ?_, fun b hb => (HG10.out b hb).imp id (fun h => by omega), (KF10.kept k11).trans hk12 (fun b hb e => by subst e; omega)⟩
  have hrF : ¬ F r := fun hb => by
    rcases HG10.out r hb with h | h
    · exact hrF h
    · omega
  have hL := (HL10.out.kept k11).keep hk12 (fun b hb e => hrF (by rw [← e]; exact hb))
  rw [show nextM e n R = R by unfold nextM; rw [if_pos hc]]
  exact hL

set_option maxRecDepth 100000 in
set_option maxHeartbeats 1600000 in
theorem hit_anew (w : World) (F : Nat → Prop) (p : Nat) (e : Ent) (q : Int) (R : List Ent) (h : Lvl 58 61 w F p (e :: R)) (hX : Good (e :: R)) (hq : 0 < q) (hc : e.o.qty - mn q e.n ≠ 0) (hd : e.n - mn q e.n = 0) : Calls Try.prog 32 #[.pointer (some ⟨p, 0, none⟩), .int .i64 q] w (HitIn w F p e q R) := by
  have hb := hX.bound (e := e) (by simp)
  have hlen : R.length ≤ 100000 := by have := hX.len; simp at this; omega
  have hm1 := mn_le q e.n
  have hm2 := mn_pos q e.n hq (by omega)
  have HHI : Hid (∀ r w', (∃ F', r = .returned (Ent.mk e.o (mn q e.n)).v ∧ Lvl 58 61 w' F' p (nextM e (mn q e.n) R) ∧ Grow w F F' ∧ Keep F w w') → HitIn w F p e q R r w') := fun r w' h => h
  obtain ⟨n, hn⟩ : ∃ n, mn q e.n = n := ⟨_, rfl⟩
  rw [hn] at hm1 hm2 HHI hc hd
  have HN : Hid ((if e.n < q then e.n else q) = n) := hn
  clear hn hX
  obtain ⟨h1, h2, v, hB, hS, h5⟩ := h
  obtain ⟨g, off, c, rfl⟩ := hS.some_ (by simp)
  have HR : Hid (w.rangeAt g off e.cells) := hS.rng 0 e rfl
  have HB := Lib.hid hB
  have HS := Lib.hid hS
  have H1 := Lib.hid h1
  have H2 := Lib.hid h2
  have H5 := Lib.hid h5
  have hgp : g ≠ p := (h5 g rfl).2
  have hgF : Hid (F g) := (h5 g rfl).1
  have hgl : g < w.heap.size := h2 g hgF.out
  have hpl : p < w.heap.size := h2 p h1
  clear hB hS h5 h1 h2
  go_enter Try.func32, Try.ntmps32
  go_upto_region 0 with fail
  refine wp_text 1 [.fresh w.heap.size 35 zeroE.cells] rfl (by kernel_rfl) ?_ ?_
  · refine fsteps_cons 1 rfl (fun a u hE hD hk => f_new (o := ⟨some 4, _, _, _, _, _⟩) (.pointer (some ⟨u.heap.size, 0, none⟩)) _ rfl (wanted_none rfl _) (exec_alc 35 zeroE.cells rfl zH) ⟨_, rfl, hk.size, Blk.new u _ _⟩ ((Keep.refl _ u).alloc _)) ?_
    exact fsteps_nil
  intro gv w0 hV k0
  rw [show dstsOf _ 1 = [4] by kernel_rfl]
  simp only [List.foldl_cons, List.foldl_nil, List.setIfInBounds_toArray, List.set_cons_succ, List.set_cons_zero, List.drop_succ_cons, List.drop_zero]
  have hv4 : (.fresh w.heap.size 35 zeroE.cells : Kn).p (gv 4) w0 := hV 0 4 (by kernel_rfl)
  generalize gv 4 = v4 at hv4 ⊢
  clear hV
  obtain ⟨r, rfl, hr, hRB⟩ := hv4
  refine wpList_nil ?_
  have s0 := k0.size
  have hrl := hRB.lt
  have HB0 := Lib.hid (HB.out.kept k0)
  go_upto_region 1 with fail
  refine wp_text 6 [.eq (.pointer (some ⟨p, 0, none⟩)), .eq (.pointer (some ⟨p, 0, none⟩)), .eq (.pointer (some ⟨p, 1, none⟩)), .eq (.slice (some ⟨g, off, none⟩) (R.length + 1) c), .eq (.pointer (some ⟨g, off, none⟩)), .eq (.pointer (some ⟨g, off, none⟩))] rfl (by kernel_rfl) ?_ ?_
  · refine fsteps_cons 1 rfl (fun a u hE hD hk => f_val (o := ⟨some 7, _, _, _, _, _⟩) (.pointer (some ⟨p, 0, none⟩)) rfl (wanted_none rfl _) (exec_move (.tmp 0) (.pointer (some ⟨p, 0, none⟩)) rfl (hE 0 (.pointer (some ⟨p, 0, none⟩)) (by kernel_rfl) (by kernel_rfl))) rfl) ?_
    refine fsteps_cons 2 rfl (fun a u hE hD hk => f_val (o := ⟨some 8, _, _, _, _, _⟩) (.pointer (some ⟨p, 0, none⟩)) rfl (wanted_none rfl _) (exec_nilp (.tmp 7) ⟨p, 0, none⟩ rfl (hD 0 7 (by kernel_rfl))) rfl) ?_
    refine fsteps_cons 3 rfl (fun a u hE hD hk => f_val (o := ⟨some 9, _, _, _, _, _⟩) (.pointer (some ⟨p, 1, none⟩)) rfl (wanted_none rfl _) (exec_fldo 58 1 1 (.tmp 8) (p) (0) (1) rfl (hD 1 8 (by kernel_rfl)) (by kernel_rfl) rfl) rfl) ?_
    refine fsteps_cons 4 rfl (fun a u hE hD hk => f_val (o := ⟨some 10, _, _, _, _, _⟩) (.slice (some ⟨g, off, none⟩) (R.length + 1) c) rfl (wanted_none rfl _) (exec_ldv 56 _ Try.underlying56 (.tmp 9) ⟨p, 1, none⟩ (.slice (some ⟨g, off, none⟩) (R.length + 1) c) rfl (hD 2 9 (by kernel_rfl)) (by rw [(HB0.out.kept hk).cell]; rfl)) rfl) ?_
    refine fsteps_cons 5 rfl (fun a u hE hD hk => f_val (o := ⟨some 11, _, _, _, _, _⟩) (.pointer (some ⟨g, off, none⟩)) rfl (wanted_none rfl _) (exec_ixo slE (.tmp 10) (.const (.int .i64 0)) (g) (off) (R.length + 1) c 0 (off) (0) rfl (hD 3 10 (by kernel_rfl)) rfl (by first | rfl | omega) ((by omega)) (by first | rfl | omega)) rfl) ?_
    refine fsteps_cons 6 rfl (fun a u hE hD hk => f_val (o := ⟨some 5, _, _, _, _, _⟩) (.pointer (some ⟨g, off, none⟩)) rfl (wanted_none rfl _) (exec_assign (.tmp 11) (.pointer (some ⟨g, off, none⟩)) rfl (hD 4 11 (by kernel_rfl))) rfl) ?_
    exact fsteps_nil
  intro gv w1 hV k1
  rw [show dstsOf _ 6 = [7, 8, 9, 10, 11, 5] by kernel_rfl]
  simp only [List.foldl_cons, List.foldl_nil, List.setIfInBounds_toArray, List.set_cons_succ, List.set_cons_zero, List.drop_succ_cons, List.drop_zero]
  rw [show gv 5 = .pointer (some ⟨g, off, none⟩) from hV 5 5 (by kernel_rfl)]
  clear hV
  refine wpList_nil ?_
  have kw1 := k0.trans k1
  have s1 := k1.size
  have HR1 := Lib.hid (range_kept HR.out kw1)
  have HRB := Lib.hid (hRB.kept k1)
  clear HR HB0 hRB k0 k1
  go_upto_region 2 with fail
  refine wp_free 12 [.eq (.pointer (some ⟨g, off, none⟩)), .eq (.pointer (some ⟨g, off, none⟩)), .eq (.pointer (some ⟨g, off, none⟩)), .eq (e.o.v), .eq (.int .i64 q), .eq (.pointer (some ⟨g, off, none⟩)), .eq (.pointer (some ⟨g, off, none⟩)), .eq (.pointer (some ⟨g, off + 9, none⟩)), .eq (.int .i64 e.n), .eq (.int .i64 n), .eq ((Ent.mk e.o (n)).v), .fresh w1.heap.size 35 zeroE.cells] (by kernel_rfl) rfl (by kernel_rfl) ?_ ?_
  · refine fsteps_cons 1 rfl (fun a u hE hD hk => f_val (o := ⟨some 12, _, _, _, _, _⟩) (.pointer (some ⟨g, off, none⟩)) rfl (wanted_none rfl _) (exec_move (.tmp 5) (.pointer (some ⟨g, off, none⟩)) rfl (hE 5 (.pointer (some ⟨g, off, none⟩)) (by kernel_rfl) (by kernel_rfl))) rfl) ?_
    refine fsteps_cons 2 rfl (fun a u hE hD hk => f_val (o := ⟨some 13, _, _, _, _, _⟩) (.pointer (some ⟨g, off, none⟩)) rfl (wanted_none rfl _) (exec_nilp (.tmp 12) ⟨g, off, none⟩ rfl (hD 0 12 (by kernel_rfl))) rfl) ?_
    refine fsteps_cons 3 rfl (fun a u hE hD hk => f_val (o := ⟨some 14, _, _, _, _, _⟩) (.pointer (some ⟨g, off, none⟩)) rfl (wanted_none rfl _) (exec_fldo 61 0 0 (.tmp 13) (g) (off) (off) rfl (hD 1 13 (by kernel_rfl)) (by kernel_rfl) rfl) rfl) ?_
    refine fsteps_cons 4 rfl (fun a u hE hD hk => f_val (o := ⟨some 15, _, _, _, _, _⟩) (e.o.v) rfl (wanted_none rfl _) (exec_ldS 25 _ (.tmp 14) (g) (off) (e.o.cells) rfl (hD 2 14 (by kernel_rfl)) (ent_ord (range_kept HR1.out hk)) Try.underlying25 (by rw [e.o.len9]; exact ord_size)) rfl) ?_
    refine fsteps_cons 5 rfl (fun a u hE hD hk => f_val (o := ⟨some 16, _, _, _, _, _⟩) (.int .i64 q) rfl (wanted_none rfl _) (exec_move (.tmp 1) (.int .i64 q) rfl (hE 1 (.int .i64 q) (by kernel_rfl) (by kernel_rfl))) rfl) ?_
    refine fsteps_cons 6 rfl (fun a u hE hD hk => f_val (o := ⟨some 17, _, _, _, _, _⟩) (.pointer (some ⟨g, off, none⟩)) rfl (wanted_none rfl _) (exec_move (.tmp 5) (.pointer (some ⟨g, off, none⟩)) rfl (hE 5 (.pointer (some ⟨g, off, none⟩)) (by kernel_rfl) (by kernel_rfl))) rfl) ?_
    refine fsteps_cons 7 rfl (fun a u hE hD hk => f_val (o := ⟨some 18, _, _, _, _, _⟩) (.pointer (some ⟨g, off, none⟩)) rfl (wanted_none rfl _) (exec_nilp (.tmp 17) ⟨g, off, none⟩ rfl (hD 5 17 (by kernel_rfl))) rfl) ?_
    refine fsteps_cons 8 rfl (fun a u hE hD hk => f_val (o := ⟨some 19, _, _, _, _, _⟩) (.pointer (some ⟨g, off + 9, none⟩)) rfl (wanted_none rfl _) (exec_fldo 61 1 9 (.tmp 18) (g) (off) (off + 9) rfl (hD 6 18 (by kernel_rfl)) (by kernel_rfl) rfl) rfl) ?_
    refine fsteps_cons 9 rfl (fun a u hE hD hk => f_val (o := ⟨some 20, _, _, _, _, _⟩) (.int .i64 e.n) rfl (wanted_none rfl _) (exec_loadi 3 Try.underlying3 (.tmp 19) ⟨g, off + 9, none⟩ (.int .i64 e.n) rfl (hD 7 19 (by kernel_rfl)) (range_int (range_kept HR1.out hk) 9 _ rfl)) rfl) ?_
    refine fsteps_cons 10 rfl (fun a u hE hD hk => f_val (o := ⟨some 21, _, _, _, _, _⟩) (.int .i64 n) rfl (wanted_none rfl _) (exec_min (.tmp 16) (.tmp 20) _ q e.n n rfl (hD 4 16 (by kernel_rfl)) (hD 8 20 (by kernel_rfl)) HN.out) rfl) ?_
    refine fsteps_cons 11 rfl (fun a u hE hD hk => f_val (o := ⟨some 22, _, _, _, _, _⟩) ((Ent.mk e.o (n)).v) rfl (wanted_none rfl _) (exec_bent 35 builtH (.tmp 15) (.tmp 21) (e.o) (n) rfl (hD 3 15 (by kernel_rfl)) (hD 9 21 (by kernel_rfl))) rfl) ?_
    refine fsteps_cons 12 rfl (fun a u hE hD hk => f_new (o := ⟨some 6, _, _, _, _, _⟩) (.pointer (some ⟨u.heap.size, 0, none⟩)) _ rfl (wanted_none rfl _) (exec_alc 35 zeroE.cells rfl zH) ⟨_, rfl, hk.size, Blk.new u _ _⟩ ((Keep.refl _ u).alloc _)) ?_
    exact fsteps_nil
  intro gv w2 hV k2
  rw [show dstsOf _ 12 = [12, 13, 14, 15, 16, 17, 18, 19, 20, 21, 22, 6] by kernel_rfl]
  simp only [List.foldl_cons, List.foldl_nil, List.setIfInBounds_toArray, List.set_cons_succ, List.set_cons_zero, List.drop_succ_cons, List.drop_zero]
  have hv6 : (.fresh w1.heap.size 35 zeroE.cells : Kn).p (gv 6) w2 := hV 11 6 (by kernel_rfl)
  generalize gv 6 = v6 at hv6 ⊢
  rw [show gv 22 = (Ent.mk e.o (n)).v from hV 10 22 (by kernel_rfl)]
  clear hV
  obtain ⟨h6, rfl, hh6, hB6⟩ := hv6
  refine l_setS (o := ⟨none, _, _, _, _, _⟩) 35 h6 35 zeroE.cells (Ent.mk e.o n).cells (.tmp 6) (.tmp 22) rfl rfl (by kernel_rfl) (by kernel_rfl) hB6 (by rw [Ent.len10]; exact szH) (by rw [Ent.len10, Ent.len10]) (Ent.one _) ?_
  intro w3 hB7 hk3 hs3
  simp only [Act.put]
  refine wpList_nil ?_
  have kw3 : Kept w w3 := (kw1.trans k2).trans' hk3 (by omega)
  have s3 := kw3.size
  have h6l := hB7.lt
  have s2 := k2.size
  have HR3 := Lib.hid (range_keep (range_kept HR1.out k2) hk3 (by omega))
  have HRB3 := Lib.hid ((HRB.out.kept k2).keep hk3 (by omega))
  have HH3 := Lib.hid hB7
  have HHR := Lib.hid (blk_range hB7)
  have HS3 := Lib.hid (HS.out.kept kw3)
  have HB3 := Lib.hid (HB.out.kept kw3)
  clear HR1 HRB HS HB hB6 hB7 hk3 k2 hs3
  clear kw1
  go_upto_region 3 with fail
  refine wp_free 11 [.eq (.pointer (some ⟨g, off, none⟩)), .eq (.pointer (some ⟨g, off, none⟩)), .eq (.pointer (some ⟨g, off, none⟩)), .eq (.pointer (some ⟨g, off + 6, none⟩)), .eq (.int .i64 e.o.qty), .eq (.pointer (some ⟨h6, 9, none⟩)), .eq (.int .i64 (Ent.mk e.o n).n), .eq (.int .i64 (e.o.qty - n)), .eq (.pointer (some ⟨g, off, none⟩)), .eq (.pointer (some ⟨g, off, none⟩)), .eq (.pointer (some ⟨g, off + 6, none⟩))] (by kernel_rfl) rfl (by kernel_rfl) ?_ ?_
  · refine fsteps_cons 1 rfl (fun a u hE hD hk => f_val (o := ⟨some 23, _, _, _, _, _⟩) (.pointer (some ⟨g, off, none⟩)) rfl (wanted_none rfl _) (exec_move (.tmp 5) (.pointer (some ⟨g, off, none⟩)) rfl (hE 5 (.pointer (some ⟨g, off, none⟩)) (by kernel_rfl) (by kernel_rfl))) rfl) ?_
    refine fsteps_cons 2 rfl (fun a u hE hD hk => f_val (o := ⟨some 24, _, _, _, _, _⟩) (.pointer (some ⟨g, off, none⟩)) rfl (wanted_none rfl _) (exec_nilp (.tmp 23) ⟨g, off, none⟩ rfl (hD 0 23 (by kernel_rfl))) rfl) ?_
    refine fsteps_cons 3 rfl (fun a u hE hD hk => f_val (o := ⟨some 25, _, _, _, _, _⟩) (.pointer (some ⟨g, off, none⟩)) rfl (wanted_none rfl _) (exec_fldo 61 0 0 (.tmp 24) (g) (off) (off) rfl (hD 1 24 (by kernel_rfl)) (by kernel_rfl) rfl) rfl) ?_
    refine fsteps_cons 4 rfl (fun a u hE hD hk => f_val (o := ⟨some 26, _, _, _, _, _⟩) (.pointer (some ⟨g, off + 6, none⟩)) rfl (wanted_none rfl _) (exec_fldo 25 6 6 (.tmp 25) (g) (off) (off + 6) rfl (hD 2 25 (by kernel_rfl)) (by kernel_rfl) rfl) rfl) ?_
    refine fsteps_cons 5 rfl (fun a u hE hD hk => f_val (o := ⟨some 27, _, _, _, _, _⟩) (.int .i64 e.o.qty) rfl (wanted_none rfl _) (exec_loadi 3 Try.underlying3 (.tmp 26) ⟨g, off + 6, none⟩ (.int .i64 e.o.qty) rfl (hD 3 26 (by kernel_rfl)) (range_int (range_kept HR3.out hk) 6 _ rfl)) rfl) ?_
    refine fsteps_cons 6 rfl (fun a u hE hD hk => f_val (o := ⟨some 28, _, _, _, _, _⟩) (.pointer (some ⟨h6, 9, none⟩)) rfl (wanted_none rfl _) (exec_fldo 35 1 9 (.tmp 6) (h6) (0) (9) rfl (hE 6 (.pointer (some ⟨h6, 0, none⟩)) (by kernel_rfl) (by kernel_rfl)) (by kernel_rfl) rfl) rfl) ?_
    refine fsteps_cons 7 rfl (fun a u hE hD hk => f_val (o := ⟨some 29, _, _, _, _, _⟩) (.int .i64 (Ent.mk e.o n).n) rfl (wanted_none rfl _) (exec_loadi 3 Try.underlying3 (.tmp 28) ⟨h6, 9, none⟩ (.int .i64 (Ent.mk e.o n).n) rfl (hD 5 28 (by kernel_rfl)) (range_int (range_kept HHR.out hk) 9 _ rfl)) rfl) ?_
    refine fsteps_cons 8 rfl (fun a u hE hD hk => f_val (o := ⟨some 30, _, _, _, _, _⟩) (.int .i64 (e.o.qty - n)) rfl (wanted_none rfl _) (exec_subn (e.o.qty - n) rfl (hD 4 27 (by kernel_rfl)) (hD 6 29 (by kernel_rfl)) rfl (by omega) (by omega)) rfl) ?_
    refine fsteps_cons 9 rfl (fun a u hE hD hk => f_val (o := ⟨some 31, _, _, _, _, _⟩) (.pointer (some ⟨g, off, none⟩)) rfl (wanted_none rfl _) (exec_nilp (.tmp 23) ⟨g, off, none⟩ rfl (hD 0 23 (by kernel_rfl))) rfl) ?_
    refine fsteps_cons 10 rfl (fun a u hE hD hk => f_val (o := ⟨some 32, _, _, _, _, _⟩) (.pointer (some ⟨g, off, none⟩)) rfl (wanted_none rfl _) (exec_fldo 61 0 0 (.tmp 31) (g) (off) (off) rfl (hD 8 31 (by kernel_rfl)) (by kernel_rfl) rfl) rfl) ?_
    refine fsteps_cons 11 rfl (fun a u hE hD hk => f_val (o := ⟨some 33, _, _, _, _, _⟩) (.pointer (some ⟨g, off + 6, none⟩)) rfl (wanted_none rfl _) (exec_fldo 25 6 6 (.tmp 32) (g) (off) (off + 6) rfl (hD 9 32 (by kernel_rfl)) (by kernel_rfl) rfl) rfl) ?_
    exact fsteps_nil
  intro gv w4 hV k4
  rw [show dstsOf _ 11 = [23, 24, 25, 26, 27, 28, 29, 30, 31, 32, 33] by kernel_rfl]
  simp only [List.foldl_cons, List.foldl_nil, List.setIfInBounds_toArray, List.set_cons_succ, List.set_cons_zero, List.drop_succ_cons, List.drop_zero]
  rw [show gv 33 = .pointer (some ⟨g, off + 6, none⟩) from hV 10 33 (by kernel_rfl)]
  rw [show gv 30 = .int .i64 (e.o.qty - n) from hV 7 30 (by kernel_rfl)]
  clear hV
  refine l_rowi (o := ⟨none, _, _, _, _, _⟩) 61 g off (R.length + 1) c 0 6 (e :: R) e ⟨e.o.q (e.o.qty - n), e.n⟩ (e.o.qty - n) ⟨g, off + 6, none⟩ (.tmp 33) (.tmp 30) rfl rfl (by kernel_rfl) (by kernel_rfl) rfl (HS3.out.kept k4) rfl rfl (by omega) rfl ?_
  intro w5 hS5 hk5 hs5
  simp only [Act.put]
  refine wpList_nil ?_
  have s4 := k4.size
  have K5 : Keep (· = g) w3 w5 := (Keep.mono (T := (· = g)) k4 (fun _ _ h => h.elim)).trans hk5 (fun _ _ h => h)
  have HS5 : Hid (Sl w5 61 10 (.slice (some ⟨g, off, none⟩) (R.length + 1) c) (R.length + 1) (ents (⟨e.o.q (e.o.qty - n), e.n⟩ :: R))) := hS5
  have HR5 : Hid (w5.rangeAt g off (Ent.mk (e.o.q (e.o.qty - n)) e.n).cells) := HS5.out.rng 0 _ rfl
  have HHR5 := Lib.hid (range_keep HHR.out K5 (by omega))
  clear hS5 hk5 k4 HR3
  go_upto_region 4 with fail
  refine wp_free 9 [.eq (.pointer (some ⟨g, off, none⟩)), .eq (.pointer (some ⟨g, off, none⟩)), .eq (.pointer (some ⟨g, off + 9, none⟩)), .eq (.int .i64 (Ent.mk (e.o.q (e.o.qty - n)) e.n).n), .eq (.pointer (some ⟨h6, 9, none⟩)), .eq (.int .i64 (Ent.mk e.o n).n), .eq (.int .i64 (e.n - n)), .eq (.pointer (some ⟨g, off, none⟩)), .eq (.pointer (some ⟨g, off + 9, none⟩))] (by kernel_rfl) rfl (by kernel_rfl) ?_ ?_
  · refine fsteps_cons 1 rfl (fun a u hE hD hk => f_val (o := ⟨some 34, _, _, _, _, _⟩) (.pointer (some ⟨g, off, none⟩)) rfl (wanted_none rfl _) (exec_move (.tmp 5) (.pointer (some ⟨g, off, none⟩)) rfl (hE 5 (.pointer (some ⟨g, off, none⟩)) (by kernel_rfl) (by kernel_rfl))) rfl) ?_
    refine fsteps_cons 2 rfl (fun a u hE hD hk => f_val (o := ⟨some 35, _, _, _, _, _⟩) (.pointer (some ⟨g, off, none⟩)) rfl (wanted_none rfl _) (exec_nilp (.tmp 34) ⟨g, off, none⟩ rfl (hD 0 34 (by kernel_rfl))) rfl) ?_
    refine fsteps_cons 3 rfl (fun a u hE hD hk => f_val (o := ⟨some 36, _, _, _, _, _⟩) (.pointer (some ⟨g, off + 9, none⟩)) rfl (wanted_none rfl _) (exec_fldo 61 1 9 (.tmp 35) (g) (off) (off + 9) rfl (hD 1 35 (by kernel_rfl)) (by kernel_rfl) rfl) rfl) ?_
    refine fsteps_cons 4 rfl (fun a u hE hD hk => f_val (o := ⟨some 37, _, _, _, _, _⟩) (.int .i64 (Ent.mk (e.o.q (e.o.qty - n)) e.n).n) rfl (wanted_none rfl _) (exec_loadi 3 Try.underlying3 (.tmp 36) ⟨g, off + 9, none⟩ (.int .i64 (Ent.mk (e.o.q (e.o.qty - n)) e.n).n) rfl (hD 2 36 (by kernel_rfl)) (range_int (range_kept HR5.out hk) 9 _ rfl)) rfl) ?_
    refine fsteps_cons 5 rfl (fun a u hE hD hk => f_val (o := ⟨some 38, _, _, _, _, _⟩) (.pointer (some ⟨h6, 9, none⟩)) rfl (wanted_none rfl _) (exec_fldo 35 1 9 (.tmp 6) (h6) (0) (9) rfl (hE 6 (.pointer (some ⟨h6, 0, none⟩)) (by kernel_rfl) (by kernel_rfl)) (by kernel_rfl) rfl) rfl) ?_
    refine fsteps_cons 6 rfl (fun a u hE hD hk => f_val (o := ⟨some 39, _, _, _, _, _⟩) (.int .i64 (Ent.mk e.o n).n) rfl (wanted_none rfl _) (exec_loadi 3 Try.underlying3 (.tmp 38) ⟨h6, 9, none⟩ (.int .i64 (Ent.mk e.o n).n) rfl (hD 4 38 (by kernel_rfl)) (range_int (range_kept HHR5.out hk) 9 _ rfl)) rfl) ?_
    refine fsteps_cons 7 rfl (fun a u hE hD hk => f_val (o := ⟨some 40, _, _, _, _, _⟩) (.int .i64 (e.n - n)) rfl (wanted_none rfl _) (exec_subn (e.n - n) rfl (hD 3 37 (by kernel_rfl)) (hD 5 39 (by kernel_rfl)) rfl (by omega) (by omega)) rfl) ?_
    refine fsteps_cons 8 rfl (fun a u hE hD hk => f_val (o := ⟨some 41, _, _, _, _, _⟩) (.pointer (some ⟨g, off, none⟩)) rfl (wanted_none rfl _) (exec_nilp (.tmp 34) ⟨g, off, none⟩ rfl (hD 0 34 (by kernel_rfl))) rfl) ?_
    refine fsteps_cons 9 rfl (fun a u hE hD hk => f_val (o := ⟨some 42, _, _, _, _, _⟩) (.pointer (some ⟨g, off + 9, none⟩)) rfl (wanted_none rfl _) (exec_fldo 61 1 9 (.tmp 41) (g) (off) (off + 9) rfl (hD 7 41 (by kernel_rfl)) (by kernel_rfl) rfl) rfl) ?_
    exact fsteps_nil
  intro gv w6 hV k6
  rw [show dstsOf _ 9 = [34, 35, 36, 37, 38, 39, 40, 41, 42] by kernel_rfl]
  simp only [List.foldl_cons, List.foldl_nil, List.setIfInBounds_toArray, List.set_cons_succ, List.set_cons_zero, List.drop_succ_cons, List.drop_zero]
  rw [show gv 42 = .pointer (some ⟨g, off + 9, none⟩) from hV 8 42 (by kernel_rfl)]
  rw [show gv 40 = .int .i64 (e.n - n) from hV 6 40 (by kernel_rfl)]
  clear hV
  refine l_rowi (o := ⟨none, _, _, _, _, _⟩) 61 g off (R.length + 1) c 0 9 (⟨e.o.q (e.o.qty - n), e.n⟩ :: R) ⟨e.o.q (e.o.qty - n), e.n⟩ (e.sub n) (e.n - n) ⟨g, off + 9, none⟩ (.tmp 42) (.tmp 40) rfl rfl (by kernel_rfl) (by kernel_rfl) rfl (HS5.out.kept k6) rfl rfl (by omega) rfl ?_
  intro w7 hS7 hk7 hs7
  simp only [Act.put]
  refine wpList_nil ?_
  have s6 := k6.size
  have K7 : Keep (· = g) w3 w7 := (K5.kept k6).trans hk7 (fun _ _ h => h)
  have HS7 : Hid (Sl w7 61 10 (.slice (some ⟨g, off, none⟩) (R.length + 1) c) (R.length + 1) (ents (e.sub n :: R))) := hS7
  have HR7 : Hid (w7.rangeAt g off (e.sub n).cells) := HS7.out.rng 0 _ rfl
  have HL7 : Hid (Lvl 58 61 w7 F p (e.sub n :: R)) := ⟨H1.out, fun b hb => by have := H2.out b hb; omega, _, HB3.out.keep K7 (fun e => hgp e.symm), HS7.out, H5.out⟩
  have HH7 := Lib.hid (HH3.out.keep K7 (by omega))
  have HRB7 := Lib.hid (HRB3.out.keep K7 (by omega))
  have KF7 : Keep F w w7 := (Keep.mono (T := F) kw3 (fun _ _ h => h.elim)).trans K7 (fun b _ hb => by subst hb; exact hgF.out)
  clear hS7 hk7 k6 K5 HS5 HR5 HHR5 HHR HS3 HB3 HH3 HRB3 K7 HS7 kw3 HN
  go_upto_region 5 with fail
  refine wp_text 6 [.eq (.pointer (some ⟨g, off, none⟩)), .eq (.pointer (some ⟨g, off, none⟩)), .eq (.pointer (some ⟨g, off, none⟩)), .eq (.pointer (some ⟨g, off + 6, none⟩)), .eq (.int .i64 (e.sub n).o.qty), .eq (.bool false)] rfl (by kernel_rfl) ?_ ?_
  · refine fsteps_cons 1 rfl (fun a u hE hD hk => f_val (o := ⟨some 43, _, _, _, _, _⟩) (.pointer (some ⟨g, off, none⟩)) rfl (wanted_none rfl _) (exec_move (.tmp 5) (.pointer (some ⟨g, off, none⟩)) rfl (hE 5 (.pointer (some ⟨g, off, none⟩)) (by kernel_rfl) (by kernel_rfl))) rfl) ?_
    refine fsteps_cons 2 rfl (fun a u hE hD hk => f_val (o := ⟨some 44, _, _, _, _, _⟩) (.pointer (some ⟨g, off, none⟩)) rfl (wanted_none rfl _) (exec_nilp (.tmp 43) ⟨g, off, none⟩ rfl (hD 0 43 (by kernel_rfl))) rfl) ?_
    refine fsteps_cons 3 rfl (fun a u hE hD hk => f_val (o := ⟨some 45, _, _, _, _, _⟩) (.pointer (some ⟨g, off, none⟩)) rfl (wanted_none rfl _) (exec_fldo 61 0 0 (.tmp 44) (g) (off) (off) rfl (hD 1 44 (by kernel_rfl)) (by kernel_rfl) rfl) rfl) ?_
    refine fsteps_cons 4 rfl (fun a u hE hD hk => f_val (o := ⟨some 46, _, _, _, _, _⟩) (.pointer (some ⟨g, off + 6, none⟩)) rfl (wanted_none rfl _) (exec_fldo 25 6 6 (.tmp 45) (g) (off) (off + 6) rfl (hD 2 45 (by kernel_rfl)) (by kernel_rfl) rfl) rfl) ?_
    refine fsteps_cons 5 rfl (fun a u hE hD hk => f_val (o := ⟨some 47, _, _, _, _, _⟩) (.int .i64 (e.sub n).o.qty) rfl (wanted_none rfl _) (exec_loadi 3 Try.underlying3 (.tmp 46) ⟨g, off + 6, none⟩ (.int .i64 (e.sub n).o.qty) rfl (hD 3 46 (by kernel_rfl)) (range_int (range_kept HR7.out hk) 6 _ rfl)) rfl) ?_
    refine fsteps_cons 6 rfl (fun a u hE hD hk => f_as (show ((decide (((e.sub n).o.qty : Int) = (0 : Int))) : Bool) = false from decide_eq_false hc) (f_val (o := ⟨some 48, _, _, _, _, _⟩) (.bool (decide (((e.sub n).o.qty : Int) = (0 : Int)))) rfl (wanted_none rfl _) (exec_eqn (p := (e.sub n).o.qty) (q := 0) rfl (hD 4 47 (by kernel_rfl)) rfl) rfl)) ?_
    exact fsteps_nil
  intro gv w8 hV k8
  rw [show dstsOf _ 6 = [43, 44, 45, 46, 47, 48] by kernel_rfl]
  simp only [List.foldl_cons, List.foldl_nil, List.setIfInBounds_toArray, List.set_cons_succ, List.set_cons_zero, List.drop_succ_cons, List.drop_zero]
  rw [show gv 48 = .bool false from hV 5 48 (by kernel_rfl)]
  clear hV
  refine wpList_nil ?_
  have s8 := k8.size
  have HR8 := Lib.hid (range_kept HR7.out k8)
  have HL8 := Lib.hid (HL7.out.kept k8)
  have HH8 := Lib.hid (HH7.out.kept k8)
  have HRB8 := Lib.hid (HRB7.out.kept k8)
  have KF8 := KF7.kept k8
  clear HR7 HL7 HH7 HRB7 KF7 k8
  go_upto_region 7 with fail
  refine wp_text 5 [.eq (.pointer (some ⟨g, off, none⟩)), .eq (.pointer (some ⟨g, off, none⟩)), .eq (.pointer (some ⟨g, off + 9, none⟩)), .eq (.int .i64 (e.sub n).n), .eq (.bool true)] rfl (by kernel_rfl) ?_ ?_
  · refine fsteps_cons 1 rfl (fun a u hE hD hk => f_val (o := ⟨some 51, _, _, _, _, _⟩) (.pointer (some ⟨g, off, none⟩)) rfl (wanted_none rfl _) (exec_move (.tmp 5) (.pointer (some ⟨g, off, none⟩)) rfl (hE 5 (.pointer (some ⟨g, off, none⟩)) (by kernel_rfl) (by kernel_rfl))) rfl) ?_
    refine fsteps_cons 2 rfl (fun a u hE hD hk => f_val (o := ⟨some 52, _, _, _, _, _⟩) (.pointer (some ⟨g, off, none⟩)) rfl (wanted_none rfl _) (exec_nilp (.tmp 51) ⟨g, off, none⟩ rfl (hD 0 51 (by kernel_rfl))) rfl) ?_
    refine fsteps_cons 3 rfl (fun a u hE hD hk => f_val (o := ⟨some 53, _, _, _, _, _⟩) (.pointer (some ⟨g, off + 9, none⟩)) rfl (wanted_none rfl _) (exec_fldo 61 1 9 (.tmp 52) (g) (off) (off + 9) rfl (hD 1 52 (by kernel_rfl)) (by kernel_rfl) rfl) rfl) ?_
    refine fsteps_cons 4 rfl (fun a u hE hD hk => f_val (o := ⟨some 54, _, _, _, _, _⟩) (.int .i64 (e.sub n).n) rfl (wanted_none rfl _) (exec_loadi 3 Try.underlying3 (.tmp 53) ⟨g, off + 9, none⟩ (.int .i64 (e.sub n).n) rfl (hD 2 53 (by kernel_rfl)) (range_int (range_kept HR8.out hk) 9 _ rfl)) rfl) ?_
    refine fsteps_cons 5 rfl (fun a u hE hD hk => f_as (show ((decide (((e.sub n).n : Int) = (0 : Int))) : Bool) = true from decide_eq_true hd) (f_val (o := ⟨some 55, _, _, _, _, _⟩) (.bool (decide (((e.sub n).n : Int) = (0 : Int)))) rfl (wanted_none rfl _) (exec_eqn (p := (e.sub n).n) (q := 0) rfl (hD 3 54 (by kernel_rfl)) rfl) rfl)) ?_
    exact fsteps_nil
  intro gv w9 hV k9
  rw [show dstsOf _ 5 = [51, 52, 53, 54, 55] by kernel_rfl]
  simp only [List.foldl_cons, List.foldl_nil, List.setIfInBounds_toArray, List.set_cons_succ, List.set_cons_zero, List.drop_succ_cons, List.drop_zero]
  rw [show gv 55 = .bool true from hV 4 55 (by kernel_rfl)]
  clear hV
  refine wpList_nil ?_
  have s9 := k9.size
  have HL9 := Lib.hid (HL8.out.kept k9)
  have HH9 := Lib.hid (HH8.out.kept k9)
  have HRB9 := Lib.hid (HRB8.out.kept k9)
  have KF9 := KF8.kept k9
  clear HR8 HL8 HH8 HRB8 KF8 k9
  go_upto_region 8 with fail
  refine wp_region_lit ?_
  refine l_val (o := ⟨some 56, _, _, _, _, _⟩) (.pointer (some ⟨p, 0, none⟩)) rfl (exec_move (.tmp 0) (.pointer (some ⟨p, 0, none⟩)) rfl (by kernel_rfl)) ?_
  simp only [Act.put, List.setIfInBounds_toArray, List.set_cons_succ, List.set_cons_zero]
  refine l_call (o := ⟨some 57, _, _, _, _, _⟩) 37 #[.pointer (some ⟨p, 0, none⟩)] rfl (exec_call 37 _ [.tmp 56] _ _ Try.func37 (by kernel_rfl) (by kernel_rfl) rfl (by kernel_rfl) _) ?_
  refine (anew_any w9 F p (e.sub n) R HL9.out hlen).mono ?_
  rintro r0 w10 ⟨F', rfl, hL10, hG10, hk10⟩
  refine ⟨_, rfl, ?_⟩
  simp only [Act.put, List.setIfInBounds_toArray, List.set_cons_succ, List.set_cons_zero]
  refine wpList_nil ?_
  have hrF : ¬ F r := fun hb => by have := H2.out r hb; omega
  have hhF : ¬ F h6 := fun hb => by have := H2.out h6 hb; omega
  have s10 := hk10.size
  have HH10 := Lib.hid (blk_range (HH9.out.keep hk10 hhF))
  have HRB10 := Lib.hid (HRB9.out.keep hk10 hrF)
  have KF10 : Keep F w w10 := KF9.trans hk10 (fun _ _ h => h)
  have HL10 := Lib.hid hL10
  have HG10 := Lib.hid hG10
  clear hL10 HH9 HRB9 KF9 HL9 hG10
  go_upto_region 9 with fail
  refine wp_text 1 [.eq ((Ent.mk e.o n).v)] rfl (by kernel_rfl) ?_ ?_
  · refine fsteps_cons 1 rfl (fun a u hE hD hk => f_val (o := ⟨some 58, _, _, _, _, _⟩) ((Ent.mk e.o n).v) rfl (wanted_none rfl _) (exec_ldS 35 _ (.tmp 6) (h6) (0) ((Ent.mk e.o n).cells) rfl (hE 6 (.pointer (some ⟨h6, 0, none⟩)) (by kernel_rfl) (by kernel_rfl)) (range_kept HH10.out hk) Try.underlying35 (by rw [(Ent.mk e.o n).len10]; exact szH)) rfl) ?_
    exact fsteps_nil
  intro gv w11 hV k11
  rw [show dstsOf _ 1 = [58] by kernel_rfl]
  simp only [List.foldl_cons, List.foldl_nil, List.setIfInBounds_toArray, List.set_cons_succ, List.set_cons_zero, List.drop_succ_cons, List.drop_zero]
  rw [show gv 58 = (Ent.mk e.o n).v from hV 0 58 (by kernel_rfl)]
  clear hV
  refine l_setS (o := ⟨none, _, _, _, _, _⟩) 35 r 35 zeroE.cells (Ent.mk e.o n).cells (.tmp 4) (.tmp 58) rfl rfl (by kernel_rfl) (by kernel_rfl) (HRB10.out.kept k11) (by rw [Ent.len10]; exact szH) (by rw [Ent.len10, Ent.len10]) (Ent.one _) ?_
  intro w12 hB12 hk12 hs12
  simp only [Act.put]
  refine wpList_nil ?_
  go_wp2
  refine bodyPost_ret (results_cell (p := 4) rfl _ _ r _ (Ent.mk e.o n).cells rfl hB12 Try.underlying35 (by rw [Ent.len10]; exact szH)) rfl ?_
  refine HHI.out _ _ ⟨F', rfl, ?_, fun b hb => (HG10.out b hb).imp id (fun h => by omega), (KF10.kept k11).trans hk12 (fun b hb e => by subst e; omega)⟩
  have hrF' : ¬ F' r := fun hb => by
    rcases HG10.out r hb with h | h
    · exact hrF h
    · omega
  have hL := (HL10.out.kept k11).keep hk12 (fun b hb e => hrF' (by rw [← e]; exact hb))
  rw [show nextM e n R = R ++ [Ent.of (e.sub n).o] by unfold nextM; rw [if_neg hc, if_pos hd]]
  exact hL

set_option maxRecDepth 100000 in
set_option maxHeartbeats 1600000 in
theorem hit_part (w : World) (F : Nat → Prop) (p : Nat) (e : Ent) (q : Int) (R : List Ent) (h : Lvl 58 61 w F p (e :: R)) (hX : Good (e :: R)) (hq : 0 < q) (hc : e.o.qty - mn q e.n ≠ 0) (hd : e.n - mn q e.n ≠ 0) : Calls Try.prog 32 #[.pointer (some ⟨p, 0, none⟩), .int .i64 q] w (HitIn w F p e q R) := by
  have hb := hX.bound (e := e) (by simp)
  have hlen : R.length ≤ 100000 := by have := hX.len; simp at this; omega
  have hm1 := mn_le q e.n
  have hm2 := mn_pos q e.n hq (by omega)
  have HHI : Hid (∀ r w', (∃ F', r = .returned (Ent.mk e.o (mn q e.n)).v ∧ Lvl 58 61 w' F' p (nextM e (mn q e.n) R) ∧ Grow w F F' ∧ Keep F w w') → HitIn w F p e q R r w') := fun r w' h => h
  obtain ⟨n, hn⟩ : ∃ n, mn q e.n = n := ⟨_, rfl⟩
  rw [hn] at hm1 hm2 HHI hc hd
  have HN : Hid ((if e.n < q then e.n else q) = n) := hn
  clear hn hX
  obtain ⟨h1, h2, v, hB, hS, h5⟩ := h
  obtain ⟨g, off, c, rfl⟩ := hS.some_ (by simp)
  have HR : Hid (w.rangeAt g off e.cells) := hS.rng 0 e rfl
  have HB := Lib.hid hB
  have HS := Lib.hid hS
  have H1 := Lib.hid h1
  have H2 := Lib.hid h2
  have H5 := Lib.hid h5
  have hgp : g ≠ p := (h5 g rfl).2
  have hgF : Hid (F g) := (h5 g rfl).1
  have hgl : g < w.heap.size := h2 g hgF.out
  have hpl : p < w.heap.size := h2 p h1
  clear hB hS h5 h1 h2
  go_enter Try.func32, Try.ntmps32
  go_upto_region 0 with fail
  refine wp_text 1 [.fresh w.heap.size 35 zeroE.cells] rfl (by kernel_rfl) ?_ ?_
  · refine fsteps_cons 1 rfl (fun a u hE hD hk => f_new (o := ⟨some 4, _, _, _, _, _⟩) (.pointer (some ⟨u.heap.size, 0, none⟩)) _ rfl (wanted_none rfl _) (exec_alc 35 zeroE.cells rfl zH) ⟨_, rfl, hk.size, Blk.new u _ _⟩ ((Keep.refl _ u).alloc _)) ?_
    exact fsteps_nil
  intro gv w0 hV k0
  rw [show dstsOf _ 1 = [4] by kernel_rfl]
  simp only [List.foldl_cons, List.foldl_nil, List.setIfInBounds_toArray, List.set_cons_succ, List.set_cons_zero, List.drop_succ_cons, List.drop_zero]
  have hv4 : (.fresh w.heap.size 35 zeroE.cells : Kn).p (gv 4) w0 := hV 0 4 (by kernel_rfl)
  generalize gv 4 = v4 at hv4 ⊢
  clear hV
  obtain ⟨r, rfl, hr, hRB⟩ := hv4
  refine wpList_nil ?_
  have s0 := k0.size
  have hrl := hRB.lt
  have HB0 := Lib.hid (HB.out.kept k0)
  go_upto_region 1 with fail
  refine wp_text 6 [.eq (.pointer (some ⟨p, 0, none⟩)), .eq (.pointer (some ⟨p, 0, none⟩)), .eq (.pointer (some ⟨p, 1, none⟩)), .eq (.slice (some ⟨g, off, none⟩) (R.length + 1) c), .eq (.pointer (some ⟨g, off, none⟩)), .eq (.pointer (some ⟨g, off, none⟩))] rfl (by kernel_rfl) ?_ ?_
  · refine fsteps_cons 1 rfl (fun a u hE hD hk => f_val (o := ⟨some 7, _, _, _, _, _⟩) (.pointer (some ⟨p, 0, none⟩)) rfl (wanted_none rfl _) (exec_move (.tmp 0) (.pointer (some ⟨p, 0, none⟩)) rfl (hE 0 (.pointer (some ⟨p, 0, none⟩)) (by kernel_rfl) (by kernel_rfl))) rfl) ?_
    refine fsteps_cons 2 rfl (fun a u hE hD hk => f_val (o := ⟨some 8, _, _, _, _, _⟩) (.pointer (some ⟨p, 0, none⟩)) rfl (wanted_none rfl _) (exec_nilp (.tmp 7) ⟨p, 0, none⟩ rfl (hD 0 7 (by kernel_rfl))) rfl) ?_
    refine fsteps_cons 3 rfl (fun a u hE hD hk => f_val (o := ⟨some 9, _, _, _, _, _⟩) (.pointer (some ⟨p, 1, none⟩)) rfl (wanted_none rfl _) (exec_fldo 58 1 1 (.tmp 8) (p) (0) (1) rfl (hD 1 8 (by kernel_rfl)) (by kernel_rfl) rfl) rfl) ?_
    refine fsteps_cons 4 rfl (fun a u hE hD hk => f_val (o := ⟨some 10, _, _, _, _, _⟩) (.slice (some ⟨g, off, none⟩) (R.length + 1) c) rfl (wanted_none rfl _) (exec_ldv 56 _ Try.underlying56 (.tmp 9) ⟨p, 1, none⟩ (.slice (some ⟨g, off, none⟩) (R.length + 1) c) rfl (hD 2 9 (by kernel_rfl)) (by rw [(HB0.out.kept hk).cell]; rfl)) rfl) ?_
    refine fsteps_cons 5 rfl (fun a u hE hD hk => f_val (o := ⟨some 11, _, _, _, _, _⟩) (.pointer (some ⟨g, off, none⟩)) rfl (wanted_none rfl _) (exec_ixo slE (.tmp 10) (.const (.int .i64 0)) (g) (off) (R.length + 1) c 0 (off) (0) rfl (hD 3 10 (by kernel_rfl)) rfl (by first | rfl | omega) ((by omega)) (by first | rfl | omega)) rfl) ?_
    refine fsteps_cons 6 rfl (fun a u hE hD hk => f_val (o := ⟨some 5, _, _, _, _, _⟩) (.pointer (some ⟨g, off, none⟩)) rfl (wanted_none rfl _) (exec_assign (.tmp 11) (.pointer (some ⟨g, off, none⟩)) rfl (hD 4 11 (by kernel_rfl))) rfl) ?_
    exact fsteps_nil
  intro gv w1 hV k1
  rw [show dstsOf _ 6 = [7, 8, 9, 10, 11, 5] by kernel_rfl]
  simp only [List.foldl_cons, List.foldl_nil, List.setIfInBounds_toArray, List.set_cons_succ, List.set_cons_zero, List.drop_succ_cons, List.drop_zero]
  rw [show gv 5 = .pointer (some ⟨g, off, none⟩) from hV 5 5 (by kernel_rfl)]
  clear hV
  refine wpList_nil ?_
  have kw1 := k0.trans k1
  have s1 := k1.size
  have HR1 := Lib.hid (range_kept HR.out kw1)
  have HRB := Lib.hid (hRB.kept k1)
  clear HR HB0 hRB k0 k1
  go_upto_region 2 with fail
  refine wp_free 12 [.eq (.pointer (some ⟨g, off, none⟩)), .eq (.pointer (some ⟨g, off, none⟩)), .eq (.pointer (some ⟨g, off, none⟩)), .eq (e.o.v), .eq (.int .i64 q), .eq (.pointer (some ⟨g, off, none⟩)), .eq (.pointer (some ⟨g, off, none⟩)), .eq (.pointer (some ⟨g, off + 9, none⟩)), .eq (.int .i64 e.n), .eq (.int .i64 n), .eq ((Ent.mk e.o (n)).v), .fresh w1.heap.size 35 zeroE.cells] (by kernel_rfl) rfl (by kernel_rfl) ?_ ?_
  · refine fsteps_cons 1 rfl (fun a u hE hD hk => f_val (o := ⟨some 12, _, _, _, _, _⟩) (.pointer (some ⟨g, off, none⟩)) rfl (wanted_none rfl _) (exec_move (.tmp 5) (.pointer (some ⟨g, off, none⟩)) rfl (hE 5 (.pointer (some ⟨g, off, none⟩)) (by kernel_rfl) (by kernel_rfl))) rfl) ?_
    refine fsteps_cons 2 rfl (fun a u hE hD hk => f_val (o := ⟨some 13, _, _, _, _, _⟩) (.pointer (some ⟨g, off, none⟩)) rfl (wanted_none rfl _) (exec_nilp (.tmp 12) ⟨g, off, none⟩ rfl (hD 0 12 (by kernel_rfl))) rfl) ?_
    refine fsteps_cons 3 rfl (fun a u hE hD hk => f_val (o := ⟨some 14, _, _, _, _, _⟩) (.pointer (some ⟨g, off, none⟩)) rfl (wanted_none rfl _) (exec_fldo 61 0 0 (.tmp 13) (g) (off) (off) rfl (hD 1 13 (by kernel_rfl)) (by kernel_rfl) rfl) rfl) ?_
    refine fsteps_cons 4 rfl (fun a u hE hD hk => f_val (o := ⟨some 15, _, _, _, _, _⟩) (e.o.v) rfl (wanted_none rfl _) (exec_ldS 25 _ (.tmp 14) (g) (off) (e.o.cells) rfl (hD 2 14 (by kernel_rfl)) (ent_ord (range_kept HR1.out hk)) Try.underlying25 (by rw [e.o.len9]; exact ord_size)) rfl) ?_
    refine fsteps_cons 5 rfl (fun a u hE hD hk => f_val (o := ⟨some 16, _, _, _, _, _⟩) (.int .i64 q) rfl (wanted_none rfl _) (exec_move (.tmp 1) (.int .i64 q) rfl (hE 1 (.int .i64 q) (by kernel_rfl) (by kernel_rfl))) rfl) ?_
    refine fsteps_cons 6 rfl (fun a u hE hD hk => f_val (o := ⟨some 17, _, _, _, _, _⟩) (.pointer (some ⟨g, off, none⟩)) rfl (wanted_none rfl _) (exec_move (.tmp 5) (.pointer (some ⟨g, off, none⟩)) rfl (hE 5 (.pointer (some ⟨g, off, none⟩)) (by kernel_rfl) (by kernel_rfl))) rfl) ?_
    refine fsteps_cons 7 rfl (fun a u hE hD hk => f_val (o := ⟨some 18, _, _, _, _, _⟩) (.pointer (some ⟨g, off, none⟩)) rfl (wanted_none rfl _) (exec_nilp (.tmp 17) ⟨g, off, none⟩ rfl (hD 5 17 (by kernel_rfl))) rfl) ?_
    refine fsteps_cons 8 rfl (fun a u hE hD hk => f_val (o := ⟨some 19, _, _, _, _, _⟩) (.pointer (some ⟨g, off + 9, none⟩)) rfl (wanted_none rfl _) (exec_fldo 61 1 9 (.tmp 18) (g) (off) (off + 9) rfl (hD 6 18 (by kernel_rfl)) (by kernel_rfl) rfl) rfl) ?_
    refine fsteps_cons 9 rfl (fun a u hE hD hk => f_val (o := ⟨some 20, _, _, _, _, _⟩) (.int .i64 e.n) rfl (wanted_none rfl _) (exec_loadi 3 Try.underlying3 (.tmp 19) ⟨g, off + 9, none⟩ (.int .i64 e.n) rfl (hD 7 19 (by kernel_rfl)) (range_int (range_kept HR1.out hk) 9 _ rfl)) rfl) ?_
    refine fsteps_cons 10 rfl (fun a u hE hD hk => f_val (o := ⟨some 21, _, _, _, _, _⟩) (.int .i64 n) rfl (wanted_none rfl _) (exec_min (.tmp 16) (.tmp 20) _ q e.n n rfl (hD 4 16 (by kernel_rfl)) (hD 8 20 (by kernel_rfl)) HN.out) rfl) ?_
    refine fsteps_cons 11 rfl (fun a u hE hD hk => f_val (o := ⟨some 22, _, _, _, _, _⟩) ((Ent.mk e.o (n)).v) rfl (wanted_none rfl _) (exec_bent 35 builtH (.tmp 15) (.tmp 21) (e.o) (n) rfl (hD 3 15 (by kernel_rfl)) (hD 9 21 (by kernel_rfl))) rfl) ?_
    refine fsteps_cons 12 rfl (fun a u hE hD hk => f_new (o := ⟨some 6, _, _, _, _, _⟩) (.pointer (some ⟨u.heap.size, 0, none⟩)) _ rfl (wanted_none rfl _) (exec_alc 35 zeroE.cells rfl zH) ⟨_, rfl, hk.size, Blk.new u _ _⟩ ((Keep.refl _ u).alloc _)) ?_
    exact fsteps_nil
  intro gv w2 hV k2
  rw [show dstsOf _ 12 = [12, 13, 14, 15, 16, 17, 18, 19, 20, 21, 22, 6] by kernel_rfl]
  simp only [List.foldl_cons, List.foldl_nil, List.setIfInBounds_toArray, List.set_cons_succ, List.set_cons_zero, List.drop_succ_cons, List.drop_zero]
  have hv6 : (.fresh w1.heap.size 35 zeroE.cells : Kn).p (gv 6) w2 := hV 11 6 (by kernel_rfl)
  generalize gv 6 = v6 at hv6 ⊢
  rw [show gv 22 = (Ent.mk e.o (n)).v from hV 10 22 (by kernel_rfl)]
  clear hV
  obtain ⟨h6, rfl, hh6, hB6⟩ := hv6
  refine l_setS (o := ⟨none, _, _, _, _, _⟩) 35 h6 35 zeroE.cells (Ent.mk e.o n).cells (.tmp 6) (.tmp 22) rfl rfl (by kernel_rfl) (by kernel_rfl) hB6 (by rw [Ent.len10]; exact szH) (by rw [Ent.len10, Ent.len10]) (Ent.one _) ?_
  intro w3 hB7 hk3 hs3
  simp only [Act.put]
  refine wpList_nil ?_
  have kw3 : Kept w w3 := (kw1.trans k2).trans' hk3 (by omega)
  have s3 := kw3.size
  have h6l := hB7.lt
  have s2 := k2.size
  have HR3 := Lib.hid (range_keep (range_kept HR1.out k2) hk3 (by omega))
  have HRB3 := Lib.hid ((HRB.out.kept k2).keep hk3 (by omega))
  have HH3 := Lib.hid hB7
  have HHR := Lib.hid (blk_range hB7)
  have HS3 := Lib.hid (HS.out.kept kw3)
  have HB3 := Lib.hid (HB.out.kept kw3)
  clear HR1 HRB HS HB hB6 hB7 hk3 k2 hs3
  clear kw1
  go_upto_region 3 with fail
  refine wp_free 11 [.eq (.pointer (some ⟨g, off, none⟩)), .eq (.pointer (some ⟨g, off, none⟩)), .eq (.pointer (some ⟨g, off, none⟩)), .eq (.pointer (some ⟨g, off + 6, none⟩)), .eq (.int .i64 e.o.qty), .eq (.pointer (some ⟨h6, 9, none⟩)), .eq (.int .i64 (Ent.mk e.o n).n), .eq (.int .i64 (e.o.qty - n)), .eq (.pointer (some ⟨g, off, none⟩)), .eq (.pointer (some ⟨g, off, none⟩)), .eq (.pointer (some ⟨g, off + 6, none⟩))] (by kernel_rfl) rfl (by kernel_rfl) ?_ ?_
  · refine fsteps_cons 1 rfl (fun a u hE hD hk => f_val (o := ⟨some 23, _, _, _, _, _⟩) (.pointer (some ⟨g, off, none⟩)) rfl (wanted_none rfl _) (exec_move (.tmp 5) (.pointer (some ⟨g, off, none⟩)) rfl (hE 5 (.pointer (some ⟨g, off, none⟩)) (by kernel_rfl) (by kernel_rfl))) rfl) ?_
    refine fsteps_cons 2 rfl (fun a u hE hD hk => f_val (o := ⟨some 24, _, _, _, _, _⟩) (.pointer (some ⟨g, off, none⟩)) rfl (wanted_none rfl _) (exec_nilp (.tmp 23) ⟨g, off, none⟩ rfl (hD 0 23 (by kernel_rfl))) rfl) ?_
    refine fsteps_cons 3 rfl (fun a u hE hD hk => f_val (o := ⟨some 25, _, _, _, _, _⟩) (.pointer (some ⟨g, off, none⟩)) rfl (wanted_none rfl _) (exec_fldo 61 0 0 (.tmp 24) (g) (off) (off) rfl (hD 1 24 (by kernel_rfl)) (by kernel_rfl) rfl) rfl) ?_
    refine fsteps_cons 4 rfl (fun a u hE hD hk => f_val (o := ⟨some 26, _, _, _, _, _⟩) (.pointer (some ⟨g, off + 6, none⟩)) rfl (wanted_none rfl _) (exec_fldo 25 6 6 (.tmp 25) (g) (off) (off + 6) rfl (hD 2 25 (by kernel_rfl)) (by kernel_rfl) rfl) rfl) ?_
    refine fsteps_cons 5 rfl (fun a u hE hD hk => f_val (o := ⟨some 27, _, _, _, _, _⟩) (.int .i64 e.o.qty) rfl (wanted_none rfl _) (exec_loadi 3 Try.underlying3 (.tmp 26) ⟨g, off + 6, none⟩ (.int .i64 e.o.qty) rfl (hD 3 26 (by kernel_rfl)) (range_int (range_kept HR3.out hk) 6 _ rfl)) rfl) ?_
    refine fsteps_cons 6 rfl (fun a u hE hD hk => f_val (o := ⟨some 28, _, _, _, _, _⟩) (.pointer (some ⟨h6, 9, none⟩)) rfl (wanted_none rfl _) (exec_fldo 35 1 9 (.tmp 6) (h6) (0) (9) rfl (hE 6 (.pointer (some ⟨h6, 0, none⟩)) (by kernel_rfl) (by kernel_rfl)) (by kernel_rfl) rfl) rfl) ?_
    refine fsteps_cons 7 rfl (fun a u hE hD hk => f_val (o := ⟨some 29, _, _, _, _, _⟩) (.int .i64 (Ent.mk e.o n).n) rfl (wanted_none rfl _) (exec_loadi 3 Try.underlying3 (.tmp 28) ⟨h6, 9, none⟩ (.int .i64 (Ent.mk e.o n).n) rfl (hD 5 28 (by kernel_rfl)) (range_int (range_kept HHR.out hk) 9 _ rfl)) rfl) ?_
    refine fsteps_cons 8 rfl (fun a u hE hD hk => f_val (o := ⟨some 30, _, _, _, _, _⟩) (.int .i64 (e.o.qty - n)) rfl (wanted_none rfl _) (exec_subn (e.o.qty - n) rfl (hD 4 27 (by kernel_rfl)) (hD 6 29 (by kernel_rfl)) rfl (by omega) (by omega)) rfl) ?_
    refine fsteps_cons 9 rfl (fun a u hE hD hk => f_val (o := ⟨some 31, _, _, _, _, _⟩) (.pointer (some ⟨g, off, none⟩)) rfl (wanted_none rfl _) (exec_nilp (.tmp 23) ⟨g, off, none⟩ rfl (hD 0 23 (by kernel_rfl))) rfl) ?_
    refine fsteps_cons 10 rfl (fun a u hE hD hk => f_val (o := ⟨some 32, _, _, _, _, _⟩) (.pointer (some ⟨g, off, none⟩)) rfl (wanted_none rfl _) (exec_fldo 61 0 0 (.tmp 31) (g) (off) (off) rfl (hD 8 31 (by kernel_rfl)) (by kernel_rfl) rfl) rfl) ?_
    refine fsteps_cons 11 rfl (fun a u hE hD hk => f_val (o := ⟨some 33, _, _, _, _, _⟩) (.pointer (some ⟨g, off + 6, none⟩)) rfl (wanted_none rfl _) (exec_fldo 25 6 6 (.tmp 32) (g) (off) (off + 6) rfl (hD 9 32 (by kernel_rfl)) (by kernel_rfl) rfl) rfl) ?_
    exact fsteps_nil
  intro gv w4 hV k4
  rw [show dstsOf _ 11 = [23, 24, 25, 26, 27, 28, 29, 30, 31, 32, 33] by kernel_rfl]
  simp only [List.foldl_cons, List.foldl_nil, List.setIfInBounds_toArray, List.set_cons_succ, List.set_cons_zero, List.drop_succ_cons, List.drop_zero]
  rw [show gv 33 = .pointer (some ⟨g, off + 6, none⟩) from hV 10 33 (by kernel_rfl)]
  rw [show gv 30 = .int .i64 (e.o.qty - n) from hV 7 30 (by kernel_rfl)]
  clear hV
  refine l_rowi (o := ⟨none, _, _, _, _, _⟩) 61 g off (R.length + 1) c 0 6 (e :: R) e ⟨e.o.q (e.o.qty - n), e.n⟩ (e.o.qty - n) ⟨g, off + 6, none⟩ (.tmp 33) (.tmp 30) rfl rfl (by kernel_rfl) (by kernel_rfl) rfl (HS3.out.kept k4) rfl rfl (by omega) rfl ?_
  intro w5 hS5 hk5 hs5
  simp only [Act.put]
  refine wpList_nil ?_
  have s4 := k4.size
  have K5 : Keep (· = g) w3 w5 := (Keep.mono (T := (· = g)) k4 (fun _ _ h => h.elim)).trans hk5 (fun _ _ h => h)
  have HS5 : Hid (Sl w5 61 10 (.slice (some ⟨g, off, none⟩) (R.length + 1) c) (R.length + 1) (ents (⟨e.o.q (e.o.qty - n), e.n⟩ :: R))) := hS5
  have HR5 : Hid (w5.rangeAt g off (Ent.mk (e.o.q (e.o.qty - n)) e.n).cells) := HS5.out.rng 0 _ rfl
  have HHR5 := Lib.hid (range_keep HHR.out K5 (by omega))
  clear hS5 hk5 k4 HR3
  go_upto_region 4 with fail
  refine wp_free 9 [.eq (.pointer (some ⟨g, off, none⟩)), .eq (.pointer (some ⟨g, off, none⟩)), .eq (.pointer (some ⟨g, off + 9, none⟩)), .eq (.int .i64 (Ent.mk (e.o.q (e.o.qty - n)) e.n).n), .eq (.pointer (some ⟨h6, 9, none⟩)), .eq (.int .i64 (Ent.mk e.o n).n), .eq (.int .i64 (e.n - n)), .eq (.pointer (some ⟨g, off, none⟩)), .eq (.pointer (some ⟨g, off + 9, none⟩))] (by kernel_rfl) rfl (by kernel_rfl) ?_ ?_
  · refine fsteps_cons 1 rfl (fun a u hE hD hk => f_val (o := ⟨some 34, _, _, _, _, _⟩) (.pointer (some ⟨g, off, none⟩)) rfl (wanted_none rfl _) (exec_move (.tmp 5) (.pointer (some ⟨g, off, none⟩)) rfl (hE 5 (.pointer (some ⟨g, off, none⟩)) (by kernel_rfl) (by kernel_rfl))) rfl) ?_
    refine fsteps_cons 2 rfl (fun a u hE hD hk => f_val (o := ⟨some 35, _, _, _, _, _⟩) (.pointer (some ⟨g, off, none⟩)) rfl (wanted_none rfl _) (exec_nilp (.tmp 34) ⟨g, off, none⟩ rfl (hD 0 34 (by kernel_rfl))) rfl) ?_
    refine fsteps_cons 3 rfl (fun a u hE hD hk => f_val (o := ⟨some 36, _, _, _, _, _⟩) (.pointer (some ⟨g, off + 9, none⟩)) rfl (wanted_none rfl _) (exec_fldo 61 1 9 (.tmp 35) (g) (off) (off + 9) rfl (hD 1 35 (by kernel_rfl)) (by kernel_rfl) rfl) rfl) ?_
    refine fsteps_cons 4 rfl (fun a u hE hD hk => f_val (o := ⟨some 37, _, _, _, _, _⟩) (.int .i64 (Ent.mk (e.o.q (e.o.qty - n)) e.n).n) rfl (wanted_none rfl _) (exec_loadi 3 Try.underlying3 (.tmp 36) ⟨g, off + 9, none⟩ (.int .i64 (Ent.mk (e.o.q (e.o.qty - n)) e.n).n) rfl (hD 2 36 (by kernel_rfl)) (range_int (range_kept HR5.out hk) 9 _ rfl)) rfl) ?_
    refine fsteps_cons 5 rfl (fun a u hE hD hk => f_val (o := ⟨some 38, _, _, _, _, _⟩) (.pointer (some ⟨h6, 9, none⟩)) rfl (wanted_none rfl _) (exec_fldo 35 1 9 (.tmp 6) (h6) (0) (9) rfl (hE 6 (.pointer (some ⟨h6, 0, none⟩)) (by kernel_rfl) (by kernel_rfl)) (by kernel_rfl) rfl) rfl) ?_
    refine fsteps_cons 6 rfl (fun a u hE hD hk => f_val (o := ⟨some 39, _, _, _, _, _⟩) (.int .i64 (Ent.mk e.o n).n) rfl (wanted_none rfl _) (exec_loadi 3 Try.underlying3 (.tmp 38) ⟨h6, 9, none⟩ (.int .i64 (Ent.mk e.o n).n) rfl (hD 4 38 (by kernel_rfl)) (range_int (range_kept HHR5.out hk) 9 _ rfl)) rfl) ?_
    refine fsteps_cons 7 rfl (fun a u hE hD hk => f_val (o := ⟨some 40, _, _, _, _, _⟩) (.int .i64 (e.n - n)) rfl (wanted_none rfl _) (exec_subn (e.n - n) rfl (hD 3 37 (by kernel_rfl)) (hD 5 39 (by kernel_rfl)) rfl (by omega) (by omega)) rfl) ?_
    refine fsteps_cons 8 rfl (fun a u hE hD hk => f_val (o := ⟨some 41, _, _, _, _, _⟩) (.pointer (some ⟨g, off, none⟩)) rfl (wanted_none rfl _) (exec_nilp (.tmp 34) ⟨g, off, none⟩ rfl (hD 0 34 (by kernel_rfl))) rfl) ?_
    refine fsteps_cons 9 rfl (fun a u hE hD hk => f_val (o := ⟨some 42, _, _, _, _, _⟩) (.pointer (some ⟨g, off + 9, none⟩)) rfl (wanted_none rfl _) (exec_fldo 61 1 9 (.tmp 41) (g) (off) (off + 9) rfl (hD 7 41 (by kernel_rfl)) (by kernel_rfl) rfl) rfl) ?_
    exact fsteps_nil
  intro gv w6 hV k6
  rw [show dstsOf _ 9 = [34, 35, 36, 37, 38, 39, 40, 41, 42] by kernel_rfl]
  simp only [List.foldl_cons, List.foldl_nil, List.setIfInBounds_toArray, List.set_cons_succ, List.set_cons_zero, List.drop_succ_cons, List.drop_zero]
  rw [show gv 42 = .pointer (some ⟨g, off + 9, none⟩) from hV 8 42 (by kernel_rfl)]
  rw [show gv 40 = .int .i64 (e.n - n) from hV 6 40 (by kernel_rfl)]
  clear hV
  refine l_rowi (o := ⟨none, _, _, _, _, _⟩) 61 g off (R.length + 1) c 0 9 (⟨e.o.q (e.o.qty - n), e.n⟩ :: R) ⟨e.o.q (e.o.qty - n), e.n⟩ (e.sub n) (e.n - n) ⟨g, off + 9, none⟩ (.tmp 42) (.tmp 40) rfl rfl (by kernel_rfl) (by kernel_rfl) rfl (HS5.out.kept k6) rfl rfl (by omega) rfl ?_
  intro w7 hS7 hk7 hs7
  simp only [Act.put]
  refine wpList_nil ?_
  have s6 := k6.size
  have K7 : Keep (· = g) w3 w7 := (K5.kept k6).trans hk7 (fun _ _ h => h)
  have HS7 : Hid (Sl w7 61 10 (.slice (some ⟨g, off, none⟩) (R.length + 1) c) (R.length + 1) (ents (e.sub n :: R))) := hS7
  have HR7 : Hid (w7.rangeAt g off (e.sub n).cells) := HS7.out.rng 0 _ rfl
  have HL7 : Hid (Lvl 58 61 w7 F p (e.sub n :: R)) := ⟨H1.out, fun b hb => by have := H2.out b hb; omega, _, HB3.out.keep K7 (fun e => hgp e.symm), HS7.out, H5.out⟩
  have HH7 := Lib.hid (HH3.out.keep K7 (by omega))
  have HRB7 := Lib.hid (HRB3.out.keep K7 (by omega))
  have KF7 : Keep F w w7 := (Keep.mono (T := F) kw3 (fun _ _ h => h.elim)).trans K7 (fun b _ hb => by subst hb; exact hgF.out)
  clear hS7 hk7 k6 K5 HS5 HR5 HHR5 HHR HS3 HB3 HH3 HRB3 K7 HS7 kw3 HN
  go_upto_region 5 with fail
  refine wp_text 6 [.eq (.pointer (some ⟨g, off, none⟩)), .eq (.pointer (some ⟨g, off, none⟩)), .eq (.pointer (some ⟨g, off, none⟩)), .eq (.pointer (some ⟨g, off + 6, none⟩)), .eq (.int .i64 (e.sub n).o.qty), .eq (.bool false)] rfl (by kernel_rfl) ?_ ?_
  · refine fsteps_cons 1 rfl (fun a u hE hD hk => f_val (o := ⟨some 43, _, _, _, _, _⟩) (.pointer (some ⟨g, off, none⟩)) rfl (wanted_none rfl _) (exec_move (.tmp 5) (.pointer (some ⟨g, off, none⟩)) rfl (hE 5 (.pointer (some ⟨g, off, none⟩)) (by kernel_rfl) (by kernel_rfl))) rfl) ?_
    refine fsteps_cons 2 rfl (fun a u hE hD hk => f_val (o := ⟨some 44, _, _, _, _, _⟩) (.pointer (some ⟨g, off, none⟩)) rfl (wanted_none rfl _) (exec_nilp (.tmp 43) ⟨g, off, none⟩ rfl (hD 0 43 (by kernel_rfl))) rfl) ?_
    refine fsteps_cons 3 rfl (fun a u hE hD hk => f_val (o := ⟨some 45, _, _, _, _, _⟩) (.pointer (some ⟨g, off, none⟩)) rfl (wanted_none rfl _) (exec_fldo 61 0 0 (.tmp 44) (g) (off) (off) rfl (hD 1 44 (by kernel_rfl)) (by kernel_rfl) rfl) rfl) ?_
    refine fsteps_cons 4 rfl (fun a u hE hD hk => f_val (o := ⟨some 46, _, _, _, _, _⟩) (.pointer (some ⟨g, off + 6, none⟩)) rfl (wanted_none rfl _) (exec_fldo 25 6 6 (.tmp 45) (g) (off) (off + 6) rfl (hD 2 45 (by kernel_rfl)) (by kernel_rfl) rfl) rfl) ?_
    refine fsteps_cons 5 rfl (fun a u hE hD hk => f_val (o := ⟨some 47, _, _, _, _, _⟩) (.int .i64 (e.sub n).o.qty) rfl (wanted_none rfl _) (exec_loadi 3 Try.underlying3 (.tmp 46) ⟨g, off + 6, none⟩ (.int .i64 (e.sub n).o.qty) rfl (hD 3 46 (by kernel_rfl)) (range_int (range_kept HR7.out hk) 6 _ rfl)) rfl) ?_
    refine fsteps_cons 6 rfl (fun a u hE hD hk => f_as (show ((decide (((e.sub n).o.qty : Int) = (0 : Int))) : Bool) = false from decide_eq_false hc) (f_val (o := ⟨some 48, _, _, _, _, _⟩) (.bool (decide (((e.sub n).o.qty : Int) = (0 : Int)))) rfl (wanted_none rfl _) (exec_eqn (p := (e.sub n).o.qty) (q := 0) rfl (hD 4 47 (by kernel_rfl)) rfl) rfl)) ?_
    exact fsteps_nil
  intro gv w8 hV k8
  rw [show dstsOf _ 6 = [43, 44, 45, 46, 47, 48] by kernel_rfl]
  simp only [List.foldl_cons, List.foldl_nil, List.setIfInBounds_toArray, List.set_cons_succ, List.set_cons_zero, List.drop_succ_cons, List.drop_zero]
  rw [show gv 48 = .bool false from hV 5 48 (by kernel_rfl)]
  clear hV
  refine wpList_nil ?_
  have s8 := k8.size
  have HR8 := Lib.hid (range_kept HR7.out k8)
  have HL8 := Lib.hid (HL7.out.kept k8)
  have HH8 := Lib.hid (HH7.out.kept k8)
  have HRB8 := Lib.hid (HRB7.out.kept k8)
  have KF8 := KF7.kept k8
  clear HR7 HL7 HH7 HRB7 KF7 k8
  go_upto_region 7 with fail
  refine wp_text 5 [.eq (.pointer (some ⟨g, off, none⟩)), .eq (.pointer (some ⟨g, off, none⟩)), .eq (.pointer (some ⟨g, off + 9, none⟩)), .eq (.int .i64 (e.sub n).n), .eq (.bool false)] rfl (by kernel_rfl) ?_ ?_
  · refine fsteps_cons 1 rfl (fun a u hE hD hk => f_val (o := ⟨some 51, _, _, _, _, _⟩) (.pointer (some ⟨g, off, none⟩)) rfl (wanted_none rfl _) (exec_move (.tmp 5) (.pointer (some ⟨g, off, none⟩)) rfl (hE 5 (.pointer (some ⟨g, off, none⟩)) (by kernel_rfl) (by kernel_rfl))) rfl) ?_
    refine fsteps_cons 2 rfl (fun a u hE hD hk => f_val (o := ⟨some 52, _, _, _, _, _⟩) (.pointer (some ⟨g, off, none⟩)) rfl (wanted_none rfl _) (exec_nilp (.tmp 51) ⟨g, off, none⟩ rfl (hD 0 51 (by kernel_rfl))) rfl) ?_
    refine fsteps_cons 3 rfl (fun a u hE hD hk => f_val (o := ⟨some 53, _, _, _, _, _⟩) (.pointer (some ⟨g, off + 9, none⟩)) rfl (wanted_none rfl _) (exec_fldo 61 1 9 (.tmp 52) (g) (off) (off + 9) rfl (hD 1 52 (by kernel_rfl)) (by kernel_rfl) rfl) rfl) ?_
    refine fsteps_cons 4 rfl (fun a u hE hD hk => f_val (o := ⟨some 54, _, _, _, _, _⟩) (.int .i64 (e.sub n).n) rfl (wanted_none rfl _) (exec_loadi 3 Try.underlying3 (.tmp 53) ⟨g, off + 9, none⟩ (.int .i64 (e.sub n).n) rfl (hD 2 53 (by kernel_rfl)) (range_int (range_kept HR8.out hk) 9 _ rfl)) rfl) ?_
    refine fsteps_cons 5 rfl (fun a u hE hD hk => f_as (show ((decide (((e.sub n).n : Int) = (0 : Int))) : Bool) = false from decide_eq_false hd) (f_val (o := ⟨some 55, _, _, _, _, _⟩) (.bool (decide (((e.sub n).n : Int) = (0 : Int)))) rfl (wanted_none rfl _) (exec_eqn (p := (e.sub n).n) (q := 0) rfl (hD 3 54 (by kernel_rfl)) rfl) rfl)) ?_
    exact fsteps_nil
  intro gv w9 hV k9
  rw [show dstsOf _ 5 = [51, 52, 53, 54, 55] by kernel_rfl]
  simp only [List.foldl_cons, List.foldl_nil, List.setIfInBounds_toArray, List.set_cons_succ, List.set_cons_zero, List.drop_succ_cons, List.drop_zero]
  rw [show gv 55 = .bool false from hV 4 55 (by kernel_rfl)]
  clear hV
  refine wpList_nil ?_
  have s9 := k9.size
  have HL9 := Lib.hid (HL8.out.kept k9)
  have HH9 := Lib.hid (HH8.out.kept k9)
  have HRB9 := Lib.hid (HRB8.out.kept k9)
  have KF9 := KF8.kept k9
  clear HR8 HL8 HH8 HRB8 KF8 k9
  obtain ⟨w10, hw10⟩ : ∃ w10, w10 = w9 := ⟨_, rfl⟩
  subst hw10
  have hk10 : Keep F w10 w10 := Keep.refl _ _
  have hL10 := HL9.out
  have hG10 : Grow w10 F F := Grow.refl _ _
  have hrF : ¬ F r := fun hb => by have := H2.out r hb; omega
  have hhF : ¬ F h6 := fun hb => by have := H2.out h6 hb; omega
  have s10 := hk10.size
  have HH10 := Lib.hid (blk_range (HH9.out.keep hk10 hhF))
  have HRB10 := Lib.hid (HRB9.out.keep hk10 hrF)
  have KF10 : Keep F w w10 := KF9.trans hk10 (fun _ _ h => h)
  have HL10 := Lib.hid hL10
  have HG10 := Lib.hid hG10
  clear hL10 HH9 HRB9 KF9 HL9 hG10
  go_upto_region 9 with fail
  refine wp_text 1 [.eq ((Ent.mk e.o n).v)] rfl (by kernel_rfl) ?_ ?_
  · refine fsteps_cons 1 rfl (fun a u hE hD hk => f_val (o := ⟨some 58, _, _, _, _, _⟩) ((Ent.mk e.o n).v) rfl (wanted_none rfl _) (exec_ldS 35 _ (.tmp 6) (h6) (0) ((Ent.mk e.o n).cells) rfl (hE 6 (.pointer (some ⟨h6, 0, none⟩)) (by kernel_rfl) (by kernel_rfl)) (range_kept HH10.out hk) Try.underlying35 (by rw [(Ent.mk e.o n).len10]; exact szH)) rfl) ?_
    exact fsteps_nil
  intro gv w11 hV k11
  rw [show dstsOf _ 1 = [58] by kernel_rfl]
  simp only [List.foldl_cons, List.foldl_nil, List.setIfInBounds_toArray, List.set_cons_succ, List.set_cons_zero, List.drop_succ_cons, List.drop_zero]
  rw [show gv 58 = (Ent.mk e.o n).v from hV 0 58 (by kernel_rfl)]
  clear hV
  refine l_setS (o := ⟨none, _, _, _, _, _⟩) 35 r 35 zeroE.cells (Ent.mk e.o n).cells (.tmp 4) (.tmp 58) rfl rfl (by kernel_rfl) (by kernel_rfl) (HRB10.out.kept k11) (by rw [Ent.len10]; exact szH) (by rw [Ent.len10, Ent.len10]) (Ent.one _) ?_
  intro w12 hB12 hk12 hs12
  simp only [Act.put]
  refine wpList_nil ?_
  go_wp2
  refine bodyPost_ret (results_cell (p := 4) rfl _ _ r _ (Ent.mk e.o n).cells rfl hB12 Try.underlying35 (by rw [Ent.len10]; exact szH)) rfl ?_
  refine HHI.out _ _ ⟨F, rfl, ?_, fun b hb => (HG10.out b hb).imp id (fun h => by omega), (KF10.kept k11).trans hk12 (fun b hb e => by subst e; omega)⟩
  have hrF : ¬ F r := fun hb => by
    rcases HG10.out r hb with h | h
    · exact hrF h
    · omega
  have hL := (HL10.out.kept k11).keep hk12 (fun b hb e => hrF (by rw [← e]; exact hb))
  rw [show nextM e n R = e.sub n :: R by unfold nextM; rw [if_neg hc, if_neg hd]]
  exact hL

theorem hit_any (w : World) (F : Nat → Prop) (p : Nat) (e : Ent) (q : Int) (R : List Ent) (h : Lvl 58 61 w F p (e :: R)) (hX : Good (e :: R)) (hq : 0 < q) : Calls Try.prog 32 #[.pointer (some ⟨p, 0, none⟩), .int .i64 q] w (HitIn w F p e q R) := by
  by_cases hc : e.o.qty - mn q e.n = 0
  · exact hit_all w F p e q R h hX hq hc
  · by_cases hd : e.n - mn q e.n = 0
    · exact hit_anew w F p e q R h hX hq hc hd
    · exact hit_part w F p e q R h hX hq hc hd
end Go.Proofs.Ytlbkehpdohihlaa
