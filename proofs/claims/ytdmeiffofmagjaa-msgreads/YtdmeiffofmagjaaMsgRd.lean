/-
  The contract of package msg's read: a command out of a reader. Conditions: lengths.
-/
import Derived.Test.YtdmeiffofmagjaaMsgM
import Derived.Deep.DeepCutAuto
namespace Go.Proofs.Ytdmeiffofmagjaa
open Go.RowKit
set_option linter.unusedVariables false

/-- what read leaves -/
def ReadIn (w : World) (g b : Nat) (s : RS) (e : Ending) (w' : World) : Prop := e = .returned (.agg s.cmd.cells.toArray) ∧ Rd w' g b s.rest ∧ Keep (· = g) w w'

set_option maxRecDepth 100000 in
set_option maxHeartbeats 3200000 in
theorem read_1 (g b : Nat) (s0 : RS) (w : World) (HR : Hid (Rd w g b s0)) (HO0 : Hid s0.ok) (hkk : Hid (s0.kind = 1)) : Calls Try.prog 28 #[.pointer (some ⟨g, 0, none⟩)] w (ReadIn w g b s0) := by
  have hgl : Hid (g < w.heap.size) := HR.out.lt.1
  have hbl : Hid (b < w.heap.size) := HR.out.lt.2
  have kw : Keep (· = g) w w := Keep.refl _ w
  go_enter Try.func28, Try.ntmps28
  go_upto_region 0 with fail
  refine wp_region_lit ?_
  refine l_alloc (o := ⟨some 2, _, _, _, _, _⟩) 28 (Cmd.z 0).cells rfl rfl cmd_zero ?_
  intro w0 b0 z0 k0_
  simp only [Act.put, List.setIfInBounds_toArray, List.set_cons_succ, List.set_cons_zero]
  refine wpList_nil ?_
  have kw0 := kw.kept k0_
  have HR0 := Lib.hid (HR.out.kept k0_)
  clear kw HR
  obtain ⟨n0, hn⟩ : ∃ n0, n0 = w.heap.size := ⟨_, rfl⟩
  rw [← hn] at b0 ⊢
  have hn0 : Hid (w.heap.size ≤ n0) := by show _ ≤ _; omega
  have hl0 : Hid (n0 < w0.heap.size) := by show _ < _; omega
  have Bn00 : Hid (Blk w0 n0 28 (Cmd.z 0).cells) := b0
  clear hn b0 z0 k0_
  go_upto_region 1 with fail
  refine wp_region_lit ?_
  refine l_val (o := ⟨some 4, _, _, _, _, _⟩) (.pointer (some ⟨g, 0, none⟩)) rfl (exec_move (.tmp 0) (.pointer (some ⟨g, 0, none⟩)) rfl (by kernel_rfl)) ?_
  simp only [Act.put, List.setIfInBounds_toArray, List.set_cons_succ, List.set_cons_zero]
  refine l_call (o := ⟨some 5, _, _, _, _, _⟩) 43 #[.pointer (some ⟨g, 0, none⟩)] rfl (exec_call 43 _ [.tmp 4] _ _ Try.func43 (by kernel_rfl) (by kernel_rfl) rfl (by kernel_rfl) _) ?_
  refine (rdU8 g b s0 w0 HR0 HO0).mono ?_
  rintro e w1 ⟨x1, s1, Hx1, Hs1, rfl, HR1, HO1, k1⟩
  have Bn01 := Lib.hid (Bn00.out.keep k1 (by have := hn0.out; have := hgl.out; omega))
  have kw1 := kw0.trans k1 (fun i hi h => h)
  clear kw0
  refine ⟨_, rfl, ?_⟩
  simp only [Act.put, List.setIfInBounds_toArray, List.set_cons_succ, List.set_cons_zero]
  refine l_val (o := ⟨some 6, _, _, _, _, _⟩) ((Cmd.z x1).v) rfl (exec_build 28 _ (Cmd.z x1).cells rfl (by kernel_rfl)) ?_
  simp only [Act.put, List.setIfInBounds_toArray, List.set_cons_succ, List.set_cons_zero]
  refine l_alloc (o := ⟨some 3, _, _, _, _, _⟩) 28 (Cmd.z 0).cells rfl rfl cmd_zero ?_
  intro w2 b2 z2 k2
  obtain ⟨gc, hgc_⟩ : ∃ gc, gc = w1.heap.size := ⟨_, rfl⟩
  rw [← hgc_] at b2 ⊢
  have hnc : Hid (n0 < gc) := by show _ < _; have := hl0.out; have := Bn01.out.lt; omega
  have hgc : Hid (w.heap.size ≤ gc) := by show _ ≤ _; have := hnc.out; have := hn0.out; omega
  clear hgc_
  have Bn02 := Lib.hid (Bn01.out.kept k2)
  have HR2 := Lib.hid (HR1.out.kept k2)
  have kw2 := kw1.kept k2
  clear kw1
  simp only [Act.put, List.setIfInBounds_toArray, List.set_cons_succ, List.set_cons_zero]
  refine l_setS (o := ⟨none, _, _, _, _, _⟩) 28 gc 28 (Cmd.z 0).cells (Cmd.z x1).cells (.tmp 3) (.tmp 6) rfl rfl (by kernel_rfl) (by kernel_rfl) b2 cmd_size rfl (stc_one _ _) ?_
  intro w3 b3 k3 z3
  have Bgc3 : Hid (Blk w3 gc 28 (stc (Cmd.z x1).l zeros32)) := b3
  have Bn03 := Lib.hid (Bn02.out.keep k3 (by have := hn0.out; have := hgc.out; have := hnc.out; omega))
  have HR3 := Lib.hid (HR2.out.keep k3 (by have := hgl.out; have := hgc.out; omega) (by have := hbl.out; have := hgc.out; omega))
  have kw3 := kw2.trans k3 (fun i hi h => by have := hgc.out; omega)
  clear kw2
  simp only [Act.put]
  refine wpList_nil ?_
  obtain rfl : x1 = 1 := Hx1.out.trans hkk.out
  have hc : w3.cell? ⟨gc, 0, none⟩ = some (.int .i64 1) := Bgc3.out.fld 0 _ rfl
  go_upto_region 4 with fail
  refine wp_region_lit ?_
  refine l_val (o := ⟨some 11, _, _, _, _, _⟩) (.pointer (some ⟨g, 0, none⟩)) rfl (exec_move (.tmp 0) (.pointer (some ⟨g, 0, none⟩)) rfl (by kernel_rfl)) ?_
  simp only [Act.put, List.setIfInBounds_toArray, List.set_cons_succ, List.set_cons_zero]
  refine l_call (o := ⟨some 12, _, _, _, _, _⟩) 43 #[.pointer (some ⟨g, 0, none⟩)] rfl (exec_call 43 _ [.tmp 11] _ _ Try.func43 (by kernel_rfl) (by kernel_rfl) rfl (by kernel_rfl) _) ?_
  refine (rdU8 g b s1 w3 HR3 HO1).mono ?_
  rintro e w4 ⟨x2, s2, Hx2, Hs2, rfl, HR4, HO2, k4⟩
  have Bn04 := Lib.hid (Bn03.out.keep k4 (by have := hn0.out; have := hgl.out; omega))
  have Bgc4 := Lib.hid (Bgc3.out.keep k4 (by have := hgc.out; have := hgl.out; omega))
  have kw4 := kw3.trans k4 (fun i hi h => h)
  clear kw3
  refine ⟨_, rfl, ?_⟩
  simp only [Act.put, List.setIfInBounds_toArray, List.set_cons_succ, List.set_cons_zero]
  refine l_val (o := ⟨some 13, _, _, _, _, _⟩) (.pointer (some ⟨gc, 2, none⟩)) rfl (exec_fld 28 2 2 (.tmp 3) (gc) rfl (by kernel_rfl) (by kernel_rfl)) ?_
  simp only [Act.put, List.setIfInBounds_toArray, List.set_cons_succ, List.set_cons_zero]
  refine l_setf (o := ⟨none, _, _, _, _, _⟩) gc 2 28 (Cmd.z 1).l zeros32 x2 (.tmp 13) (.tmp 12) rfl rfl (by kernel_rfl) (by kernel_rfl) Bgc4.out (by simp [Cmd.l]) ?_
  intro w5 b5 k5 z5
  have Bgc5 : Hid (Blk w5 gc 28 (stc ((Cmd.z 1).l.set 2 x2) zeros32)) := b5
  have Bn05 := Lib.hid (Bn04.out.keep k5 (by have := hn0.out; have := hgc.out; have := hnc.out; omega))
  have HR5 := Lib.hid (HR4.out.keep k5 (by have := hgl.out; have := hgc.out; omega) (by have := hbl.out; have := hgc.out; omega))
  have kw5 := kw4.trans k5 (fun i hi h => by have := hgc.out; omega)
  clear kw4
  simp only [Act.put]
  refine wpList_nil ?_
  go_upto_region 19 with fail
  have hlen : (stc ((Cmd.z 1).l.set 2 x2) zeros32).length = 46 := by rw [stc_len]; rfl
  refine wp_region_lit ?_
  refine l_val (o := ⟨some 104, _, _, _, _, _⟩) (.agg (stc ((Cmd.z 1).l.set 2 x2) zeros32).toArray) rfl (exec_loadS 28 (.tmp 3) gc 28 (stc ((Cmd.z 1).l.set 2 x2) zeros32) _ rfl (by kernel_rfl) Bgc5.out Try.underlying28 (by rw [hlen]; exact cmd_size)) ?_
  simp only [Act.put, List.setIfInBounds_toArray, List.set_cons_succ, List.set_cons_zero]
  refine l_setS (o := ⟨none, _, _, _, _, _⟩) 28 n0 28 (Cmd.z 0).cells (stc ((Cmd.z 1).l.set 2 x2) zeros32) (.tmp 2) (.tmp 104) rfl rfl (by kernel_rfl) (by kernel_rfl) Bn05.out (by rw [hlen]; exact cmd_size) (by rw [hlen]; rfl) (stc_one _ _) ?_
  intro w6 b6 k6 z6
  have Bf : Hid (Blk w6 n0 28 (stc ((Cmd.z 1).l.set 2 x2) zeros32)) := b6
  have HR6 := Lib.hid (HR5.out.keep k6 (by have := hgl.out; have := hn0.out; omega) (by have := hbl.out; have := hn0.out; omega))
  have kw6 := kw5.trans k6 (fun i hi h => by have := hn0.out; omega)
  clear kw5
  simp only [Act.put]
  refine wpList_nil ?_
  go_wp2
  refine bodyPost_ret (results_cell_row (p := 2) (ty := 28) rfl _ _ n0 28 (stc ((Cmd.z 1).l.set 2 x2) zeros32).toArray (0, 0) _ rfl Bf.out Try.underlying28 rfl (by simpa [hlen] using cmd_size)) rfl ?_
  have f1 := Hs1.out
  have f2 := Hs2.out
  have e2 := Hx2.out
  have hcmd : stc ((Cmd.z 1).l.set 2 x2) zeros32 = s0.cmd.cells ∧ s0.rest = s2 := by
    unfold RS.cmd RS.rest
    rw [hkk.out]
    subst f1
    subst e2
    subst f2
    exact ⟨rfl, rfl⟩
  rw [hcmd.1]
  refine ⟨rfl, ?_, kw6⟩
  rw [hcmd.2]
  exact HR6.out

set_option maxRecDepth 100000 in
set_option maxHeartbeats 3200000 in
theorem read_2 (g b : Nat) (s0 : RS) (w : World) (HR : Hid (Rd w g b s0)) (HO0 : Hid s0.ok) (hkk : Hid (s0.kind = 2)) : Calls Try.prog 28 #[.pointer (some ⟨g, 0, none⟩)] w (ReadIn w g b s0) := by
  have hgl : Hid (g < w.heap.size) := HR.out.lt.1
  have hbl : Hid (b < w.heap.size) := HR.out.lt.2
  have kw : Keep (· = g) w w := Keep.refl _ w
  go_enter Try.func28, Try.ntmps28
  go_upto_region 0 with fail
  refine wp_region_lit ?_
  refine l_alloc (o := ⟨some 2, _, _, _, _, _⟩) 28 (Cmd.z 0).cells rfl rfl cmd_zero ?_
  intro w0 b0 z0 k0_
  simp only [Act.put, List.setIfInBounds_toArray, List.set_cons_succ, List.set_cons_zero]
  refine wpList_nil ?_
  have kw0 := kw.kept k0_
  have HR0 := Lib.hid (HR.out.kept k0_)
  clear kw HR
  obtain ⟨n0, hn⟩ : ∃ n0, n0 = w.heap.size := ⟨_, rfl⟩
  rw [← hn] at b0 ⊢
  have hn0 : Hid (w.heap.size ≤ n0) := by show _ ≤ _; omega
  have hl0 : Hid (n0 < w0.heap.size) := by show _ < _; omega
  have Bn00 : Hid (Blk w0 n0 28 (Cmd.z 0).cells) := b0
  clear hn b0 z0 k0_
  go_upto_region 1 with fail
  refine wp_region_lit ?_
  refine l_val (o := ⟨some 4, _, _, _, _, _⟩) (.pointer (some ⟨g, 0, none⟩)) rfl (exec_move (.tmp 0) (.pointer (some ⟨g, 0, none⟩)) rfl (by kernel_rfl)) ?_
  simp only [Act.put, List.setIfInBounds_toArray, List.set_cons_succ, List.set_cons_zero]
  refine l_call (o := ⟨some 5, _, _, _, _, _⟩) 43 #[.pointer (some ⟨g, 0, none⟩)] rfl (exec_call 43 _ [.tmp 4] _ _ Try.func43 (by kernel_rfl) (by kernel_rfl) rfl (by kernel_rfl) _) ?_
  refine (rdU8 g b s0 w0 HR0 HO0).mono ?_
  rintro e w1 ⟨x1, s1, Hx1, Hs1, rfl, HR1, HO1, k1⟩
  have Bn01 := Lib.hid (Bn00.out.keep k1 (by have := hn0.out; have := hgl.out; omega))
  have kw1 := kw0.trans k1 (fun i hi h => h)
  clear kw0
  refine ⟨_, rfl, ?_⟩
  simp only [Act.put, List.setIfInBounds_toArray, List.set_cons_succ, List.set_cons_zero]
  refine l_val (o := ⟨some 6, _, _, _, _, _⟩) ((Cmd.z x1).v) rfl (exec_build 28 _ (Cmd.z x1).cells rfl (by kernel_rfl)) ?_
  simp only [Act.put, List.setIfInBounds_toArray, List.set_cons_succ, List.set_cons_zero]
  refine l_alloc (o := ⟨some 3, _, _, _, _, _⟩) 28 (Cmd.z 0).cells rfl rfl cmd_zero ?_
  intro w2 b2 z2 k2
  obtain ⟨gc, hgc_⟩ : ∃ gc, gc = w1.heap.size := ⟨_, rfl⟩
  rw [← hgc_] at b2 ⊢
  have hnc : Hid (n0 < gc) := by show _ < _; have := hl0.out; have := Bn01.out.lt; omega
  have hgc : Hid (w.heap.size ≤ gc) := by show _ ≤ _; have := hnc.out; have := hn0.out; omega
  clear hgc_
  have Bn02 := Lib.hid (Bn01.out.kept k2)
  have HR2 := Lib.hid (HR1.out.kept k2)
  have kw2 := kw1.kept k2
  clear kw1
  simp only [Act.put, List.setIfInBounds_toArray, List.set_cons_succ, List.set_cons_zero]
  refine l_setS (o := ⟨none, _, _, _, _, _⟩) 28 gc 28 (Cmd.z 0).cells (Cmd.z x1).cells (.tmp 3) (.tmp 6) rfl rfl (by kernel_rfl) (by kernel_rfl) b2 cmd_size rfl (stc_one _ _) ?_
  intro w3 b3 k3 z3
  have Bgc3 : Hid (Blk w3 gc 28 (stc (Cmd.z x1).l zeros32)) := b3
  have Bn03 := Lib.hid (Bn02.out.keep k3 (by have := hn0.out; have := hgc.out; have := hnc.out; omega))
  have HR3 := Lib.hid (HR2.out.keep k3 (by have := hgl.out; have := hgc.out; omega) (by have := hbl.out; have := hgc.out; omega))
  have kw3 := kw2.trans k3 (fun i hi h => by have := hgc.out; omega)
  clear kw2
  simp only [Act.put]
  refine wpList_nil ?_
  obtain rfl : x1 = 2 := Hx1.out.trans hkk.out
  have hc : w3.cell? ⟨gc, 0, none⟩ = some (.int .i64 2) := Bgc3.out.fld 0 _ rfl
  go_upto_region 6 with fail
  refine wp_region_lit ?_
  refine l_val (o := ⟨some 16, _, _, _, _, _⟩) (.pointer (some ⟨g, 0, none⟩)) rfl (exec_move (.tmp 0) (.pointer (some ⟨g, 0, none⟩)) rfl (by kernel_rfl)) ?_
  simp only [Act.put, List.setIfInBounds_toArray, List.set_cons_succ, List.set_cons_zero]
  refine l_call (o := ⟨some 17, _, _, _, _, _⟩) 44 #[.pointer (some ⟨g, 0, none⟩)] rfl (exec_call 44 _ [.tmp 16] _ _ Try.func44 (by kernel_rfl) (by kernel_rfl) rfl (by kernel_rfl) _) ?_
  refine (rdSum g b s1 w3 HR3 HO1).mono ?_
  rintro e w4 ⟨x2, s2, Hx2, Hs2, ht2, rfl, HR4, HO2, k4⟩
  have Bn04 := Lib.hid (Bn03.out.keep k4 (by have := hn0.out; have := hgl.out; omega))
  have Bgc4 := Lib.hid (Bgc3.out.keep k4 (by have := hgc.out; have := hgl.out; omega))
  have kw4 := kw3.trans k4 (fun i hi h => h)
  clear kw3
  refine ⟨_, rfl, ?_⟩
  simp only [Act.put, List.setIfInBounds_toArray, List.set_cons_succ, List.set_cons_zero]
  refine l_val (o := ⟨some 18, _, _, _, _, _⟩) (.pointer (some ⟨gc, 14, none⟩)) rfl (exec_fld 28 14 14 (.tmp 3) (gc) rfl (by kernel_rfl) (by kernel_rfl)) ?_
  simp only [Act.put, List.setIfInBounds_toArray, List.set_cons_succ, List.set_cons_zero]
  refine l_setT (o := ⟨none, _, _, _, _, _⟩) gc 14 28 (Cmd.z 2).l zeros32 x2 (.tmp 18) (.tmp 17) rfl rfl (by kernel_rfl) (by kernel_rfl) Bgc4.out rfl rfl ht2 ?_
  intro w5 b5 k5
  have Bgc5 : Hid (Blk w5 gc 28 (stc (Cmd.z 2).l x2)) := b5
  have Bn05 := Lib.hid (Bn04.out.keep k5 (by have := hn0.out; have := hgc.out; have := hnc.out; omega))
  have HR5 := Lib.hid (HR4.out.keep k5 (by have := hgl.out; have := hgc.out; omega) (by have := hbl.out; have := hgc.out; omega))
  have kw5 := kw4.trans k5 (fun i hi h => by have := hgc.out; omega)
  clear kw4
  simp only [Act.put]
  refine wpList_nil ?_
  go_upto_region 19 with fail
  have hlen : (stc (Cmd.z 2).l x2).length = 46 := by rw [stc_len, ht2]; rfl
  refine wp_region_lit ?_
  refine l_val (o := ⟨some 104, _, _, _, _, _⟩) (.agg (stc (Cmd.z 2).l x2).toArray) rfl (exec_loadS 28 (.tmp 3) gc 28 (stc (Cmd.z 2).l x2) _ rfl (by kernel_rfl) Bgc5.out Try.underlying28 (by rw [hlen]; exact cmd_size)) ?_
  simp only [Act.put, List.setIfInBounds_toArray, List.set_cons_succ, List.set_cons_zero]
  refine l_setS (o := ⟨none, _, _, _, _, _⟩) 28 n0 28 (Cmd.z 0).cells (stc (Cmd.z 2).l x2) (.tmp 2) (.tmp 104) rfl rfl (by kernel_rfl) (by kernel_rfl) Bn05.out (by rw [hlen]; exact cmd_size) (by rw [hlen]; rfl) (stc_one _ _) ?_
  intro w6 b6 k6 z6
  have Bf : Hid (Blk w6 n0 28 (stc (Cmd.z 2).l x2)) := b6
  have HR6 := Lib.hid (HR5.out.keep k6 (by have := hgl.out; have := hn0.out; omega) (by have := hbl.out; have := hn0.out; omega))
  have kw6 := kw5.trans k6 (fun i hi h => by have := hn0.out; omega)
  clear kw5
  simp only [Act.put]
  refine wpList_nil ?_
  go_wp2
  refine bodyPost_ret (results_cell_row (p := 2) (ty := 28) rfl _ _ n0 28 (stc (Cmd.z 2).l x2).toArray (0, 0) _ rfl Bf.out Try.underlying28 rfl (by simpa [hlen] using cmd_size)) rfl ?_
  have f1 := Hs1.out
  have f2 := Hs2.out
  have e2 := Hx2.out
  have hcmd : stc (Cmd.z 2).l x2 = s0.cmd.cells ∧ s0.rest = s2 := by
    unfold RS.cmd RS.rest
    rw [hkk.out]
    subst f1
    subst e2
    subst f2
    exact ⟨rfl, rfl⟩
  rw [hcmd.1]
  refine ⟨rfl, ?_, kw6⟩
  rw [hcmd.2]
  exact HR6.out

set_option maxRecDepth 100000 in
set_option maxHeartbeats 3200000 in
theorem read_3 (g b : Nat) (s0 : RS) (w : World) (HR : Hid (Rd w g b s0)) (HO0 : Hid s0.ok) (hkk : Hid (s0.kind = 3)) : Calls Try.prog 28 #[.pointer (some ⟨g, 0, none⟩)] w (ReadIn w g b s0) := by
  have hgl : Hid (g < w.heap.size) := HR.out.lt.1
  have hbl : Hid (b < w.heap.size) := HR.out.lt.2
  have kw : Keep (· = g) w w := Keep.refl _ w
  go_enter Try.func28, Try.ntmps28
  go_upto_region 0 with fail
  refine wp_region_lit ?_
  refine l_alloc (o := ⟨some 2, _, _, _, _, _⟩) 28 (Cmd.z 0).cells rfl rfl cmd_zero ?_
  intro w0 b0 z0 k0_
  simp only [Act.put, List.setIfInBounds_toArray, List.set_cons_succ, List.set_cons_zero]
  refine wpList_nil ?_
  have kw0 := kw.kept k0_
  have HR0 := Lib.hid (HR.out.kept k0_)
  clear kw HR
  obtain ⟨n0, hn⟩ : ∃ n0, n0 = w.heap.size := ⟨_, rfl⟩
  rw [← hn] at b0 ⊢
  have hn0 : Hid (w.heap.size ≤ n0) := by show _ ≤ _; omega
  have hl0 : Hid (n0 < w0.heap.size) := by show _ < _; omega
  have Bn00 : Hid (Blk w0 n0 28 (Cmd.z 0).cells) := b0
  clear hn b0 z0 k0_
  go_upto_region 1 with fail
  refine wp_region_lit ?_
  refine l_val (o := ⟨some 4, _, _, _, _, _⟩) (.pointer (some ⟨g, 0, none⟩)) rfl (exec_move (.tmp 0) (.pointer (some ⟨g, 0, none⟩)) rfl (by kernel_rfl)) ?_
  simp only [Act.put, List.setIfInBounds_toArray, List.set_cons_succ, List.set_cons_zero]
  refine l_call (o := ⟨some 5, _, _, _, _, _⟩) 43 #[.pointer (some ⟨g, 0, none⟩)] rfl (exec_call 43 _ [.tmp 4] _ _ Try.func43 (by kernel_rfl) (by kernel_rfl) rfl (by kernel_rfl) _) ?_
  refine (rdU8 g b s0 w0 HR0 HO0).mono ?_
  rintro e w1 ⟨x1, s1, Hx1, Hs1, rfl, HR1, HO1, k1⟩
  have Bn01 := Lib.hid (Bn00.out.keep k1 (by have := hn0.out; have := hgl.out; omega))
  have kw1 := kw0.trans k1 (fun i hi h => h)
  clear kw0
  refine ⟨_, rfl, ?_⟩
  simp only [Act.put, List.setIfInBounds_toArray, List.set_cons_succ, List.set_cons_zero]
  refine l_val (o := ⟨some 6, _, _, _, _, _⟩) ((Cmd.z x1).v) rfl (exec_build 28 _ (Cmd.z x1).cells rfl (by kernel_rfl)) ?_
  simp only [Act.put, List.setIfInBounds_toArray, List.set_cons_succ, List.set_cons_zero]
  refine l_alloc (o := ⟨some 3, _, _, _, _, _⟩) 28 (Cmd.z 0).cells rfl rfl cmd_zero ?_
  intro w2 b2 z2 k2
  obtain ⟨gc, hgc_⟩ : ∃ gc, gc = w1.heap.size := ⟨_, rfl⟩
  rw [← hgc_] at b2 ⊢
  have hnc : Hid (n0 < gc) := by show _ < _; have := hl0.out; have := Bn01.out.lt; omega
  have hgc : Hid (w.heap.size ≤ gc) := by show _ ≤ _; have := hnc.out; have := hn0.out; omega
  clear hgc_
  have Bn02 := Lib.hid (Bn01.out.kept k2)
  have HR2 := Lib.hid (HR1.out.kept k2)
  have kw2 := kw1.kept k2
  clear kw1
  simp only [Act.put, List.setIfInBounds_toArray, List.set_cons_succ, List.set_cons_zero]
  refine l_setS (o := ⟨none, _, _, _, _, _⟩) 28 gc 28 (Cmd.z 0).cells (Cmd.z x1).cells (.tmp 3) (.tmp 6) rfl rfl (by kernel_rfl) (by kernel_rfl) b2 cmd_size rfl (stc_one _ _) ?_
  intro w3 b3 k3 z3
  have Bgc3 : Hid (Blk w3 gc 28 (stc (Cmd.z x1).l zeros32)) := b3
  have Bn03 := Lib.hid (Bn02.out.keep k3 (by have := hn0.out; have := hgc.out; have := hnc.out; omega))
  have HR3 := Lib.hid (HR2.out.keep k3 (by have := hgl.out; have := hgc.out; omega) (by have := hbl.out; have := hgc.out; omega))
  have kw3 := kw2.trans k3 (fun i hi h => by have := hgc.out; omega)
  clear kw2
  simp only [Act.put]
  refine wpList_nil ?_
  obtain rfl : x1 = 3 := Hx1.out.trans hkk.out
  have hc : w3.cell? ⟨gc, 0, none⟩ = some (.int .i64 3) := Bgc3.out.fld 0 _ rfl
  go_upto_region 8 with fail
  refine wp_region_lit ?_
  refine l_val (o := ⟨some 21, _, _, _, _, _⟩) (.pointer (some ⟨g, 0, none⟩)) rfl (exec_move (.tmp 0) (.pointer (some ⟨g, 0, none⟩)) rfl (by kernel_rfl)) ?_
  simp only [Act.put, List.setIfInBounds_toArray, List.set_cons_succ, List.set_cons_zero]
  refine l_call (o := ⟨some 22, _, _, _, _, _⟩) 45 #[.pointer (some ⟨g, 0, none⟩)] rfl (exec_call 45 _ [.tmp 21] _ _ Try.func45 (by kernel_rfl) (by kernel_rfl) rfl (by kernel_rfl) _) ?_
  refine (rdWord g b s1 w3 HR3 HO1).mono ?_
  rintro e w4 ⟨x2, s2, Hx2, Hs2, rfl, HR4, HO2, k4⟩
  have Bn04 := Lib.hid (Bn03.out.keep k4 (by have := hn0.out; have := hgl.out; omega))
  have Bgc4 := Lib.hid (Bgc3.out.keep k4 (by have := hgc.out; have := hgl.out; omega))
  have kw4 := kw3.trans k4 (fun i hi h => h)
  clear kw3
  refine ⟨_, rfl, ?_⟩
  simp only [Act.put, List.setIfInBounds_toArray, List.set_cons_succ, List.set_cons_zero]
  refine l_val (o := ⟨some 23, _, _, _, _, _⟩) (.pointer (some ⟨g, 0, none⟩)) rfl (exec_move (.tmp 0) (.pointer (some ⟨g, 0, none⟩)) rfl (by kernel_rfl)) ?_
  simp only [Act.put, List.setIfInBounds_toArray, List.set_cons_succ, List.set_cons_zero]
  refine l_call (o := ⟨some 24, _, _, _, _, _⟩) 43 #[.pointer (some ⟨g, 0, none⟩)] rfl (exec_call 43 _ [.tmp 23] _ _ Try.func43 (by kernel_rfl) (by kernel_rfl) rfl (by kernel_rfl) _) ?_
  refine (rdU8 g b s2 w4 HR4 HO2).mono ?_
  rintro e w5 ⟨x3, s3, Hx3, Hs3, rfl, HR5, HO3, k5⟩
  have Bn05 := Lib.hid (Bn04.out.keep k5 (by have := hn0.out; have := hgl.out; omega))
  have Bgc5 := Lib.hid (Bgc4.out.keep k5 (by have := hgc.out; have := hgl.out; omega))
  have kw5 := kw4.trans k5 (fun i hi h => h)
  clear kw4
  refine ⟨_, rfl, ?_⟩
  simp only [Act.put, List.setIfInBounds_toArray, List.set_cons_succ, List.set_cons_zero]
  refine l_val (o := ⟨some 25, _, _, _, _, _⟩) (.pointer (some ⟨g, 0, none⟩)) rfl (exec_move (.tmp 0) (.pointer (some ⟨g, 0, none⟩)) rfl (by kernel_rfl)) ?_
  simp only [Act.put, List.setIfInBounds_toArray, List.set_cons_succ, List.set_cons_zero]
  refine l_call (o := ⟨some 26, _, _, _, _, _⟩) 45 #[.pointer (some ⟨g, 0, none⟩)] rfl (exec_call 45 _ [.tmp 25] _ _ Try.func45 (by kernel_rfl) (by kernel_rfl) rfl (by kernel_rfl) _) ?_
  refine (rdWord g b s3 w5 HR5 HO3).mono ?_
  rintro e w6 ⟨x4, s4, Hx4, Hs4, rfl, HR6, HO4, k6⟩
  have Bn06 := Lib.hid (Bn05.out.keep k6 (by have := hn0.out; have := hgl.out; omega))
  have Bgc6 := Lib.hid (Bgc5.out.keep k6 (by have := hgc.out; have := hgl.out; omega))
  have kw6 := kw5.trans k6 (fun i hi h => h)
  clear kw5
  refine ⟨_, rfl, ?_⟩
  simp only [Act.put, List.setIfInBounds_toArray, List.set_cons_succ, List.set_cons_zero]
  refine l_val (o := ⟨some 27, _, _, _, _, _⟩) (.pointer (some ⟨gc, 1, none⟩)) rfl (exec_fld 28 1 1 (.tmp 3) (gc) rfl (by kernel_rfl) (by kernel_rfl)) ?_
  simp only [Act.put, List.setIfInBounds_toArray, List.set_cons_succ, List.set_cons_zero]
  refine l_setf (o := ⟨none, _, _, _, _, _⟩) gc 1 28 (Cmd.z 3).l zeros32 x2 (.tmp 27) (.tmp 22) rfl rfl (by kernel_rfl) (by kernel_rfl) Bgc6.out (by simp [Cmd.l]) ?_
  intro w7 b7 k7 z7
  have Bgc7 : Hid (Blk w7 gc 28 (stc ((Cmd.z 3).l.set 1 x2) zeros32)) := b7
  have Bn07 := Lib.hid (Bn06.out.keep k7 (by have := hn0.out; have := hgc.out; have := hnc.out; omega))
  have HR7 := Lib.hid (HR6.out.keep k7 (by have := hgl.out; have := hgc.out; omega) (by have := hbl.out; have := hgc.out; omega))
  have kw7 := kw6.trans k7 (fun i hi h => by have := hgc.out; omega)
  clear kw6
  simp only [Act.put]
  refine l_val (o := ⟨some 28, _, _, _, _, _⟩) (.pointer (some ⟨gc, 3, none⟩)) rfl (exec_fld 28 3 3 (.tmp 3) (gc) rfl (by kernel_rfl) (by kernel_rfl)) ?_
  simp only [Act.put, List.setIfInBounds_toArray, List.set_cons_succ, List.set_cons_zero]
  refine l_setf (o := ⟨none, _, _, _, _, _⟩) gc 3 28 ((Cmd.z 3).l.set 1 x2) zeros32 x3 (.tmp 28) (.tmp 24) rfl rfl (by kernel_rfl) (by kernel_rfl) Bgc7.out (by simp [Cmd.l]) ?_
  intro w8 b8 k8 z8
  have Bgc8 : Hid (Blk w8 gc 28 (stc (((Cmd.z 3).l.set 1 x2).set 3 x3) zeros32)) := b8
  have Bn08 := Lib.hid (Bn07.out.keep k8 (by have := hn0.out; have := hgc.out; have := hnc.out; omega))
  have HR8 := Lib.hid (HR7.out.keep k8 (by have := hgl.out; have := hgc.out; omega) (by have := hbl.out; have := hgc.out; omega))
  have kw8 := kw7.trans k8 (fun i hi h => by have := hgc.out; omega)
  clear kw7
  simp only [Act.put]
  refine l_val (o := ⟨some 29, _, _, _, _, _⟩) (.pointer (some ⟨gc, 4, none⟩)) rfl (exec_fld 28 4 4 (.tmp 3) (gc) rfl (by kernel_rfl) (by kernel_rfl)) ?_
  simp only [Act.put, List.setIfInBounds_toArray, List.set_cons_succ, List.set_cons_zero]
  refine l_setf (o := ⟨none, _, _, _, _, _⟩) gc 4 28 (((Cmd.z 3).l.set 1 x2).set 3 x3) zeros32 x4 (.tmp 29) (.tmp 26) rfl rfl (by kernel_rfl) (by kernel_rfl) Bgc8.out (by simp [Cmd.l]) ?_
  intro w9 b9 k9 z9
  have Bgc9 : Hid (Blk w9 gc 28 (stc ((((Cmd.z 3).l.set 1 x2).set 3 x3).set 4 x4) zeros32)) := b9
  have Bn09 := Lib.hid (Bn08.out.keep k9 (by have := hn0.out; have := hgc.out; have := hnc.out; omega))
  have HR9 := Lib.hid (HR8.out.keep k9 (by have := hgl.out; have := hgc.out; omega) (by have := hbl.out; have := hgc.out; omega))
  have kw9 := kw8.trans k9 (fun i hi h => by have := hgc.out; omega)
  clear kw8
  simp only [Act.put]
  refine wpList_nil ?_
  go_upto_region 9 with fail
  refine wp_region_lit ?_
  refine l_val (o := ⟨some 30, _, _, _, _, _⟩) (.pointer (some ⟨g, 0, none⟩)) rfl (exec_move (.tmp 0) (.pointer (some ⟨g, 0, none⟩)) rfl (by kernel_rfl)) ?_
  simp only [Act.put, List.setIfInBounds_toArray, List.set_cons_succ, List.set_cons_zero]
  refine l_call (o := ⟨some 31, _, _, _, _, _⟩) 43 #[.pointer (some ⟨g, 0, none⟩)] rfl (exec_call 43 _ [.tmp 30] _ _ Try.func43 (by kernel_rfl) (by kernel_rfl) rfl (by kernel_rfl) _) ?_
  refine (rdU8 g b s4 w9 HR9 HO4).mono ?_
  rintro e w10 ⟨x5, s5, Hx5, Hs5, rfl, HR10, HO5, k10⟩
  have Bn010 := Lib.hid (Bn09.out.keep k10 (by have := hn0.out; have := hgl.out; omega))
  have Bgc10 := Lib.hid (Bgc9.out.keep k10 (by have := hgc.out; have := hgl.out; omega))
  have kw10 := kw9.trans k10 (fun i hi h => h)
  clear kw9
  refine ⟨_, rfl, ?_⟩
  simp only [Act.put, List.setIfInBounds_toArray, List.set_cons_succ, List.set_cons_zero]
  refine l_val (o := ⟨some 32, _, _, _, _, _⟩) (.pointer (some ⟨g, 0, none⟩)) rfl (exec_move (.tmp 0) (.pointer (some ⟨g, 0, none⟩)) rfl (by kernel_rfl)) ?_
  simp only [Act.put, List.setIfInBounds_toArray, List.set_cons_succ, List.set_cons_zero]
  refine l_call (o := ⟨some 33, _, _, _, _, _⟩) 43 #[.pointer (some ⟨g, 0, none⟩)] rfl (exec_call 43 _ [.tmp 32] _ _ Try.func43 (by kernel_rfl) (by kernel_rfl) rfl (by kernel_rfl) _) ?_
  refine (rdU8 g b s5 w10 HR10 HO5).mono ?_
  rintro e w11 ⟨x6, s6, Hx6, Hs6, rfl, HR11, HO6, k11⟩
  have Bn011 := Lib.hid (Bn010.out.keep k11 (by have := hn0.out; have := hgl.out; omega))
  have Bgc11 := Lib.hid (Bgc10.out.keep k11 (by have := hgc.out; have := hgl.out; omega))
  have kw11 := kw10.trans k11 (fun i hi h => h)
  clear kw10
  refine ⟨_, rfl, ?_⟩
  simp only [Act.put, List.setIfInBounds_toArray, List.set_cons_succ, List.set_cons_zero]
  refine l_val (o := ⟨some 34, _, _, _, _, _⟩) (.pointer (some ⟨gc, 5, none⟩)) rfl (exec_fld 28 5 5 (.tmp 3) (gc) rfl (by kernel_rfl) (by kernel_rfl)) ?_
  simp only [Act.put, List.setIfInBounds_toArray, List.set_cons_succ, List.set_cons_zero]
  refine l_setf (o := ⟨none, _, _, _, _, _⟩) gc 5 28 ((((Cmd.z 3).l.set 1 x2).set 3 x3).set 4 x4) zeros32 x5 (.tmp 34) (.tmp 31) rfl rfl (by kernel_rfl) (by kernel_rfl) Bgc11.out (by simp [Cmd.l]) ?_
  intro w12 b12 k12 z12
  have Bgc12 : Hid (Blk w12 gc 28 (stc (((((Cmd.z 3).l.set 1 x2).set 3 x3).set 4 x4).set 5 x5) zeros32)) := b12
  have Bn012 := Lib.hid (Bn011.out.keep k12 (by have := hn0.out; have := hgc.out; have := hnc.out; omega))
  have HR12 := Lib.hid (HR11.out.keep k12 (by have := hgl.out; have := hgc.out; omega) (by have := hbl.out; have := hgc.out; omega))
  have kw12 := kw11.trans k12 (fun i hi h => by have := hgc.out; omega)
  clear kw11
  simp only [Act.put]
  refine l_val (o := ⟨some 35, _, _, _, _, _⟩) (.pointer (some ⟨gc, 6, none⟩)) rfl (exec_fld 28 6 6 (.tmp 3) (gc) rfl (by kernel_rfl) (by kernel_rfl)) ?_
  simp only [Act.put, List.setIfInBounds_toArray, List.set_cons_succ, List.set_cons_zero]
  refine l_setf (o := ⟨none, _, _, _, _, _⟩) gc 6 28 (((((Cmd.z 3).l.set 1 x2).set 3 x3).set 4 x4).set 5 x5) zeros32 x6 (.tmp 35) (.tmp 33) rfl rfl (by kernel_rfl) (by kernel_rfl) Bgc12.out (by simp [Cmd.l]) ?_
  intro w13 b13 k13 z13
  have Bgc13 : Hid (Blk w13 gc 28 (stc ((((((Cmd.z 3).l.set 1 x2).set 3 x3).set 4 x4).set 5 x5).set 6 x6) zeros32)) := b13
  have Bn013 := Lib.hid (Bn012.out.keep k13 (by have := hn0.out; have := hgc.out; have := hnc.out; omega))
  have HR13 := Lib.hid (HR12.out.keep k13 (by have := hgl.out; have := hgc.out; omega) (by have := hbl.out; have := hgc.out; omega))
  have kw13 := kw12.trans k13 (fun i hi h => by have := hgc.out; omega)
  clear kw12
  simp only [Act.put]
  refine wpList_nil ?_
  go_upto_region 10 with fail
  refine wp_region_lit ?_
  refine l_val (o := ⟨some 36, _, _, _, _, _⟩) (.pointer (some ⟨g, 0, none⟩)) rfl (exec_move (.tmp 0) (.pointer (some ⟨g, 0, none⟩)) rfl (by kernel_rfl)) ?_
  simp only [Act.put, List.setIfInBounds_toArray, List.set_cons_succ, List.set_cons_zero]
  refine l_call (o := ⟨some 37, _, _, _, _, _⟩) 45 #[.pointer (some ⟨g, 0, none⟩)] rfl (exec_call 45 _ [.tmp 36] _ _ Try.func45 (by kernel_rfl) (by kernel_rfl) rfl (by kernel_rfl) _) ?_
  refine (rdWord g b s6 w13 HR13 HO6).mono ?_
  rintro e w14 ⟨x7, s7, Hx7, Hs7, rfl, HR14, HO7, k14⟩
  have Bn014 := Lib.hid (Bn013.out.keep k14 (by have := hn0.out; have := hgl.out; omega))
  have Bgc14 := Lib.hid (Bgc13.out.keep k14 (by have := hgc.out; have := hgl.out; omega))
  have kw14 := kw13.trans k14 (fun i hi h => h)
  clear kw13
  refine ⟨_, rfl, ?_⟩
  simp only [Act.put, List.setIfInBounds_toArray, List.set_cons_succ, List.set_cons_zero]
  refine l_val (o := ⟨some 38, _, _, _, _, _⟩) (.pointer (some ⟨g, 0, none⟩)) rfl (exec_move (.tmp 0) (.pointer (some ⟨g, 0, none⟩)) rfl (by kernel_rfl)) ?_
  simp only [Act.put, List.setIfInBounds_toArray, List.set_cons_succ, List.set_cons_zero]
  refine l_call (o := ⟨some 39, _, _, _, _, _⟩) 45 #[.pointer (some ⟨g, 0, none⟩)] rfl (exec_call 45 _ [.tmp 38] _ _ Try.func45 (by kernel_rfl) (by kernel_rfl) rfl (by kernel_rfl) _) ?_
  refine (rdWord g b s7 w14 HR14 HO7).mono ?_
  rintro e w15 ⟨x8, s8, Hx8, Hs8, rfl, HR15, HO8, k15⟩
  have Bn015 := Lib.hid (Bn014.out.keep k15 (by have := hn0.out; have := hgl.out; omega))
  have Bgc15 := Lib.hid (Bgc14.out.keep k15 (by have := hgc.out; have := hgl.out; omega))
  have kw15 := kw14.trans k15 (fun i hi h => h)
  clear kw14
  refine ⟨_, rfl, ?_⟩
  simp only [Act.put, List.setIfInBounds_toArray, List.set_cons_succ, List.set_cons_zero]
  refine l_val (o := ⟨some 40, _, _, _, _, _⟩) (.pointer (some ⟨g, 0, none⟩)) rfl (exec_move (.tmp 0) (.pointer (some ⟨g, 0, none⟩)) rfl (by kernel_rfl)) ?_
  simp only [Act.put, List.setIfInBounds_toArray, List.set_cons_succ, List.set_cons_zero]
  refine l_call (o := ⟨some 41, _, _, _, _, _⟩) 45 #[.pointer (some ⟨g, 0, none⟩)] rfl (exec_call 45 _ [.tmp 40] _ _ Try.func45 (by kernel_rfl) (by kernel_rfl) rfl (by kernel_rfl) _) ?_
  refine (rdWord g b s8 w15 HR15 HO8).mono ?_
  rintro e w16 ⟨x9, s9, Hx9, Hs9, rfl, HR16, HO9, k16⟩
  have Bn016 := Lib.hid (Bn015.out.keep k16 (by have := hn0.out; have := hgl.out; omega))
  have Bgc16 := Lib.hid (Bgc15.out.keep k16 (by have := hgc.out; have := hgl.out; omega))
  have kw16 := kw15.trans k16 (fun i hi h => h)
  clear kw15
  refine ⟨_, rfl, ?_⟩
  simp only [Act.put, List.setIfInBounds_toArray, List.set_cons_succ, List.set_cons_zero]
  refine l_val (o := ⟨some 42, _, _, _, _, _⟩) (.pointer (some ⟨g, 0, none⟩)) rfl (exec_move (.tmp 0) (.pointer (some ⟨g, 0, none⟩)) rfl (by kernel_rfl)) ?_
  simp only [Act.put, List.setIfInBounds_toArray, List.set_cons_succ, List.set_cons_zero]
  refine l_call (o := ⟨some 43, _, _, _, _, _⟩) 45 #[.pointer (some ⟨g, 0, none⟩)] rfl (exec_call 45 _ [.tmp 42] _ _ Try.func45 (by kernel_rfl) (by kernel_rfl) rfl (by kernel_rfl) _) ?_
  refine (rdWord g b s9 w16 HR16 HO9).mono ?_
  rintro e w17 ⟨x10, s10, Hx10, Hs10, rfl, HR17, HO10, k17⟩
  have Bn017 := Lib.hid (Bn016.out.keep k17 (by have := hn0.out; have := hgl.out; omega))
  have Bgc17 := Lib.hid (Bgc16.out.keep k17 (by have := hgc.out; have := hgl.out; omega))
  have kw17 := kw16.trans k17 (fun i hi h => h)
  clear kw16
  refine ⟨_, rfl, ?_⟩
  simp only [Act.put, List.setIfInBounds_toArray, List.set_cons_succ, List.set_cons_zero]
  refine l_val (o := ⟨some 44, _, _, _, _, _⟩) (.pointer (some ⟨gc, 7, none⟩)) rfl (exec_fld 28 7 7 (.tmp 3) (gc) rfl (by kernel_rfl) (by kernel_rfl)) ?_
  simp only [Act.put, List.setIfInBounds_toArray, List.set_cons_succ, List.set_cons_zero]
  refine l_setf (o := ⟨none, _, _, _, _, _⟩) gc 7 28 ((((((Cmd.z 3).l.set 1 x2).set 3 x3).set 4 x4).set 5 x5).set 6 x6) zeros32 x7 (.tmp 44) (.tmp 37) rfl rfl (by kernel_rfl) (by kernel_rfl) Bgc17.out (by simp [Cmd.l]) ?_
  intro w18 b18 k18 z18
  have Bgc18 : Hid (Blk w18 gc 28 (stc (((((((Cmd.z 3).l.set 1 x2).set 3 x3).set 4 x4).set 5 x5).set 6 x6).set 7 x7) zeros32)) := b18
  have Bn018 := Lib.hid (Bn017.out.keep k18 (by have := hn0.out; have := hgc.out; have := hnc.out; omega))
  have HR18 := Lib.hid (HR17.out.keep k18 (by have := hgl.out; have := hgc.out; omega) (by have := hbl.out; have := hgc.out; omega))
  have kw18 := kw17.trans k18 (fun i hi h => by have := hgc.out; omega)
  clear kw17
  simp only [Act.put]
  refine l_val (o := ⟨some 45, _, _, _, _, _⟩) (.pointer (some ⟨gc, 8, none⟩)) rfl (exec_fld 28 8 8 (.tmp 3) (gc) rfl (by kernel_rfl) (by kernel_rfl)) ?_
  simp only [Act.put, List.setIfInBounds_toArray, List.set_cons_succ, List.set_cons_zero]
  refine l_setf (o := ⟨none, _, _, _, _, _⟩) gc 8 28 (((((((Cmd.z 3).l.set 1 x2).set 3 x3).set 4 x4).set 5 x5).set 6 x6).set 7 x7) zeros32 x8 (.tmp 45) (.tmp 39) rfl rfl (by kernel_rfl) (by kernel_rfl) Bgc18.out (by simp [Cmd.l]) ?_
  intro w19 b19 k19 z19
  have Bgc19 : Hid (Blk w19 gc 28 (stc ((((((((Cmd.z 3).l.set 1 x2).set 3 x3).set 4 x4).set 5 x5).set 6 x6).set 7 x7).set 8 x8) zeros32)) := b19
  have Bn019 := Lib.hid (Bn018.out.keep k19 (by have := hn0.out; have := hgc.out; have := hnc.out; omega))
  have HR19 := Lib.hid (HR18.out.keep k19 (by have := hgl.out; have := hgc.out; omega) (by have := hbl.out; have := hgc.out; omega))
  have kw19 := kw18.trans k19 (fun i hi h => by have := hgc.out; omega)
  clear kw18
  simp only [Act.put]
  refine l_val (o := ⟨some 46, _, _, _, _, _⟩) (.pointer (some ⟨gc, 9, none⟩)) rfl (exec_fld 28 9 9 (.tmp 3) (gc) rfl (by kernel_rfl) (by kernel_rfl)) ?_
  simp only [Act.put, List.setIfInBounds_toArray, List.set_cons_succ, List.set_cons_zero]
  refine l_setf (o := ⟨none, _, _, _, _, _⟩) gc 9 28 ((((((((Cmd.z 3).l.set 1 x2).set 3 x3).set 4 x4).set 5 x5).set 6 x6).set 7 x7).set 8 x8) zeros32 x9 (.tmp 46) (.tmp 41) rfl rfl (by kernel_rfl) (by kernel_rfl) Bgc19.out (by simp [Cmd.l]) ?_
  intro w20 b20 k20 z20
  have Bgc20 : Hid (Blk w20 gc 28 (stc (((((((((Cmd.z 3).l.set 1 x2).set 3 x3).set 4 x4).set 5 x5).set 6 x6).set 7 x7).set 8 x8).set 9 x9) zeros32)) := b20
  have Bn020 := Lib.hid (Bn019.out.keep k20 (by have := hn0.out; have := hgc.out; have := hnc.out; omega))
  have HR20 := Lib.hid (HR19.out.keep k20 (by have := hgl.out; have := hgc.out; omega) (by have := hbl.out; have := hgc.out; omega))
  have kw20 := kw19.trans k20 (fun i hi h => by have := hgc.out; omega)
  clear kw19
  simp only [Act.put]
  refine l_val (o := ⟨some 47, _, _, _, _, _⟩) (.pointer (some ⟨gc, 10, none⟩)) rfl (exec_fld 28 10 10 (.tmp 3) (gc) rfl (by kernel_rfl) (by kernel_rfl)) ?_
  simp only [Act.put, List.setIfInBounds_toArray, List.set_cons_succ, List.set_cons_zero]
  refine l_setf (o := ⟨none, _, _, _, _, _⟩) gc 10 28 (((((((((Cmd.z 3).l.set 1 x2).set 3 x3).set 4 x4).set 5 x5).set 6 x6).set 7 x7).set 8 x8).set 9 x9) zeros32 x10 (.tmp 47) (.tmp 43) rfl rfl (by kernel_rfl) (by kernel_rfl) Bgc20.out (by simp [Cmd.l]) ?_
  intro w21 b21 k21 z21
  have Bgc21 : Hid (Blk w21 gc 28 (stc ((((((((((Cmd.z 3).l.set 1 x2).set 3 x3).set 4 x4).set 5 x5).set 6 x6).set 7 x7).set 8 x8).set 9 x9).set 10 x10) zeros32)) := b21
  have Bn021 := Lib.hid (Bn020.out.keep k21 (by have := hn0.out; have := hgc.out; have := hnc.out; omega))
  have HR21 := Lib.hid (HR20.out.keep k21 (by have := hgl.out; have := hgc.out; omega) (by have := hbl.out; have := hgc.out; omega))
  have kw21 := kw20.trans k21 (fun i hi h => by have := hgc.out; omega)
  clear kw20
  simp only [Act.put]
  refine wpList_nil ?_
  go_upto_region 19 with fail
  have hlen : (stc ((((((((((Cmd.z 3).l.set 1 x2).set 3 x3).set 4 x4).set 5 x5).set 6 x6).set 7 x7).set 8 x8).set 9 x9).set 10 x10) zeros32).length = 46 := by rw [stc_len]; rfl
  refine wp_region_lit ?_
  refine l_val (o := ⟨some 104, _, _, _, _, _⟩) (.agg (stc ((((((((((Cmd.z 3).l.set 1 x2).set 3 x3).set 4 x4).set 5 x5).set 6 x6).set 7 x7).set 8 x8).set 9 x9).set 10 x10) zeros32).toArray) rfl (exec_loadS 28 (.tmp 3) gc 28 (stc ((((((((((Cmd.z 3).l.set 1 x2).set 3 x3).set 4 x4).set 5 x5).set 6 x6).set 7 x7).set 8 x8).set 9 x9).set 10 x10) zeros32) _ rfl (by kernel_rfl) Bgc21.out Try.underlying28 (by rw [hlen]; exact cmd_size)) ?_
  simp only [Act.put, List.setIfInBounds_toArray, List.set_cons_succ, List.set_cons_zero]
  refine l_setS (o := ⟨none, _, _, _, _, _⟩) 28 n0 28 (Cmd.z 0).cells (stc ((((((((((Cmd.z 3).l.set 1 x2).set 3 x3).set 4 x4).set 5 x5).set 6 x6).set 7 x7).set 8 x8).set 9 x9).set 10 x10) zeros32) (.tmp 2) (.tmp 104) rfl rfl (by kernel_rfl) (by kernel_rfl) Bn021.out (by rw [hlen]; exact cmd_size) (by rw [hlen]; rfl) (stc_one _ _) ?_
  intro w22 b22 k22 z22
  have Bf : Hid (Blk w22 n0 28 (stc ((((((((((Cmd.z 3).l.set 1 x2).set 3 x3).set 4 x4).set 5 x5).set 6 x6).set 7 x7).set 8 x8).set 9 x9).set 10 x10) zeros32)) := b22
  have HR22 := Lib.hid (HR21.out.keep k22 (by have := hgl.out; have := hn0.out; omega) (by have := hbl.out; have := hn0.out; omega))
  have kw22 := kw21.trans k22 (fun i hi h => by have := hn0.out; omega)
  clear kw21
  simp only [Act.put]
  refine wpList_nil ?_
  go_wp2
  refine bodyPost_ret (results_cell_row (p := 2) (ty := 28) rfl _ _ n0 28 (stc ((((((((((Cmd.z 3).l.set 1 x2).set 3 x3).set 4 x4).set 5 x5).set 6 x6).set 7 x7).set 8 x8).set 9 x9).set 10 x10) zeros32).toArray (0, 0) _ rfl Bf.out Try.underlying28 rfl (by simpa [hlen] using cmd_size)) rfl ?_
  have f1 := Hs1.out
  have f2 := Hs2.out
  have e2 := Hx2.out
  have f3 := Hs3.out
  have e3 := Hx3.out
  have f4 := Hs4.out
  have e4 := Hx4.out
  have f5 := Hs5.out
  have e5 := Hx5.out
  have f6 := Hs6.out
  have e6 := Hx6.out
  have f7 := Hs7.out
  have e7 := Hx7.out
  have f8 := Hs8.out
  have e8 := Hx8.out
  have f9 := Hs9.out
  have e9 := Hx9.out
  have f10 := Hs10.out
  have e10 := Hx10.out
  have hcmd : stc ((((((((((Cmd.z 3).l.set 1 x2).set 3 x3).set 4 x4).set 5 x5).set 6 x6).set 7 x7).set 8 x8).set 9 x9).set 10 x10) zeros32 = s0.cmd.cells ∧ s0.rest = s10 := by
    unfold RS.cmd RS.rest
    rw [hkk.out]
    subst f1
    subst e2
    subst f2
    subst e3
    subst f3
    subst e4
    subst f4
    subst e5
    subst f5
    subst e6
    subst f6
    subst e7
    subst f7
    subst e8
    subst f8
    subst e9
    subst f9
    subst e10
    subst f10
    exact ⟨rfl, rfl⟩
  rw [hcmd.1]
  refine ⟨rfl, ?_, kw22⟩
  rw [hcmd.2]
  exact HR22.out

set_option maxRecDepth 100000 in
set_option maxHeartbeats 3200000 in
theorem read_4 (g b : Nat) (s0 : RS) (w : World) (HR : Hid (Rd w g b s0)) (HO0 : Hid s0.ok) (hkk : Hid (s0.kind = 4)) : Calls Try.prog 28 #[.pointer (some ⟨g, 0, none⟩)] w (ReadIn w g b s0) := by
  have hgl : Hid (g < w.heap.size) := HR.out.lt.1
  have hbl : Hid (b < w.heap.size) := HR.out.lt.2
  have kw : Keep (· = g) w w := Keep.refl _ w
  go_enter Try.func28, Try.ntmps28
  go_upto_region 0 with fail
  refine wp_region_lit ?_
  refine l_alloc (o := ⟨some 2, _, _, _, _, _⟩) 28 (Cmd.z 0).cells rfl rfl cmd_zero ?_
  intro w0 b0 z0 k0_
  simp only [Act.put, List.setIfInBounds_toArray, List.set_cons_succ, List.set_cons_zero]
  refine wpList_nil ?_
  have kw0 := kw.kept k0_
  have HR0 := Lib.hid (HR.out.kept k0_)
  clear kw HR
  obtain ⟨n0, hn⟩ : ∃ n0, n0 = w.heap.size := ⟨_, rfl⟩
  rw [← hn] at b0 ⊢
  have hn0 : Hid (w.heap.size ≤ n0) := by show _ ≤ _; omega
  have hl0 : Hid (n0 < w0.heap.size) := by show _ < _; omega
  have Bn00 : Hid (Blk w0 n0 28 (Cmd.z 0).cells) := b0
  clear hn b0 z0 k0_
  go_upto_region 1 with fail
  refine wp_region_lit ?_
  refine l_val (o := ⟨some 4, _, _, _, _, _⟩) (.pointer (some ⟨g, 0, none⟩)) rfl (exec_move (.tmp 0) (.pointer (some ⟨g, 0, none⟩)) rfl (by kernel_rfl)) ?_
  simp only [Act.put, List.setIfInBounds_toArray, List.set_cons_succ, List.set_cons_zero]
  refine l_call (o := ⟨some 5, _, _, _, _, _⟩) 43 #[.pointer (some ⟨g, 0, none⟩)] rfl (exec_call 43 _ [.tmp 4] _ _ Try.func43 (by kernel_rfl) (by kernel_rfl) rfl (by kernel_rfl) _) ?_
  refine (rdU8 g b s0 w0 HR0 HO0).mono ?_
  rintro e w1 ⟨x1, s1, Hx1, Hs1, rfl, HR1, HO1, k1⟩
  have Bn01 := Lib.hid (Bn00.out.keep k1 (by have := hn0.out; have := hgl.out; omega))
  have kw1 := kw0.trans k1 (fun i hi h => h)
  clear kw0
  refine ⟨_, rfl, ?_⟩
  simp only [Act.put, List.setIfInBounds_toArray, List.set_cons_succ, List.set_cons_zero]
  refine l_val (o := ⟨some 6, _, _, _, _, _⟩) ((Cmd.z x1).v) rfl (exec_build 28 _ (Cmd.z x1).cells rfl (by kernel_rfl)) ?_
  simp only [Act.put, List.setIfInBounds_toArray, List.set_cons_succ, List.set_cons_zero]
  refine l_alloc (o := ⟨some 3, _, _, _, _, _⟩) 28 (Cmd.z 0).cells rfl rfl cmd_zero ?_
  intro w2 b2 z2 k2
  obtain ⟨gc, hgc_⟩ : ∃ gc, gc = w1.heap.size := ⟨_, rfl⟩
  rw [← hgc_] at b2 ⊢
  have hnc : Hid (n0 < gc) := by show _ < _; have := hl0.out; have := Bn01.out.lt; omega
  have hgc : Hid (w.heap.size ≤ gc) := by show _ ≤ _; have := hnc.out; have := hn0.out; omega
  clear hgc_
  have Bn02 := Lib.hid (Bn01.out.kept k2)
  have HR2 := Lib.hid (HR1.out.kept k2)
  have kw2 := kw1.kept k2
  clear kw1
  simp only [Act.put, List.setIfInBounds_toArray, List.set_cons_succ, List.set_cons_zero]
  refine l_setS (o := ⟨none, _, _, _, _, _⟩) 28 gc 28 (Cmd.z 0).cells (Cmd.z x1).cells (.tmp 3) (.tmp 6) rfl rfl (by kernel_rfl) (by kernel_rfl) b2 cmd_size rfl (stc_one _ _) ?_
  intro w3 b3 k3 z3
  have Bgc3 : Hid (Blk w3 gc 28 (stc (Cmd.z x1).l zeros32)) := b3
  have Bn03 := Lib.hid (Bn02.out.keep k3 (by have := hn0.out; have := hgc.out; have := hnc.out; omega))
  have HR3 := Lib.hid (HR2.out.keep k3 (by have := hgl.out; have := hgc.out; omega) (by have := hbl.out; have := hgc.out; omega))
  have kw3 := kw2.trans k3 (fun i hi h => by have := hgc.out; omega)
  clear kw2
  simp only [Act.put]
  refine wpList_nil ?_
  obtain rfl : x1 = 4 := Hx1.out.trans hkk.out
  have hc : w3.cell? ⟨gc, 0, none⟩ = some (.int .i64 4) := Bgc3.out.fld 0 _ rfl
  go_upto_region 12 with fail
  refine wp_region_lit ?_
  refine l_val (o := ⟨some 50, _, _, _, _, _⟩) (.pointer (some ⟨g, 0, none⟩)) rfl (exec_move (.tmp 0) (.pointer (some ⟨g, 0, none⟩)) rfl (by kernel_rfl)) ?_
  simp only [Act.put, List.setIfInBounds_toArray, List.set_cons_succ, List.set_cons_zero]
  refine l_call (o := ⟨some 51, _, _, _, _, _⟩) 45 #[.pointer (some ⟨g, 0, none⟩)] rfl (exec_call 45 _ [.tmp 50] _ _ Try.func45 (by kernel_rfl) (by kernel_rfl) rfl (by kernel_rfl) _) ?_
  refine (rdWord g b s1 w3 HR3 HO1).mono ?_
  rintro e w4 ⟨x2, s2, Hx2, Hs2, rfl, HR4, HO2, k4⟩
  have Bn04 := Lib.hid (Bn03.out.keep k4 (by have := hn0.out; have := hgl.out; omega))
  have Bgc4 := Lib.hid (Bgc3.out.keep k4 (by have := hgc.out; have := hgl.out; omega))
  have kw4 := kw3.trans k4 (fun i hi h => h)
  clear kw3
  refine ⟨_, rfl, ?_⟩
  simp only [Act.put, List.setIfInBounds_toArray, List.set_cons_succ, List.set_cons_zero]
  refine l_val (o := ⟨some 52, _, _, _, _, _⟩) (.pointer (some ⟨g, 0, none⟩)) rfl (exec_move (.tmp 0) (.pointer (some ⟨g, 0, none⟩)) rfl (by kernel_rfl)) ?_
  simp only [Act.put, List.setIfInBounds_toArray, List.set_cons_succ, List.set_cons_zero]
  refine l_call (o := ⟨some 53, _, _, _, _, _⟩) 43 #[.pointer (some ⟨g, 0, none⟩)] rfl (exec_call 43 _ [.tmp 52] _ _ Try.func43 (by kernel_rfl) (by kernel_rfl) rfl (by kernel_rfl) _) ?_
  refine (rdU8 g b s2 w4 HR4 HO2).mono ?_
  rintro e w5 ⟨x3, s3, Hx3, Hs3, rfl, HR5, HO3, k5⟩
  have Bn05 := Lib.hid (Bn04.out.keep k5 (by have := hn0.out; have := hgl.out; omega))
  have Bgc5 := Lib.hid (Bgc4.out.keep k5 (by have := hgc.out; have := hgl.out; omega))
  have kw5 := kw4.trans k5 (fun i hi h => h)
  clear kw4
  refine ⟨_, rfl, ?_⟩
  simp only [Act.put, List.setIfInBounds_toArray, List.set_cons_succ, List.set_cons_zero]
  refine l_val (o := ⟨some 54, _, _, _, _, _⟩) (.pointer (some ⟨g, 0, none⟩)) rfl (exec_move (.tmp 0) (.pointer (some ⟨g, 0, none⟩)) rfl (by kernel_rfl)) ?_
  simp only [Act.put, List.setIfInBounds_toArray, List.set_cons_succ, List.set_cons_zero]
  refine l_call (o := ⟨some 55, _, _, _, _, _⟩) 45 #[.pointer (some ⟨g, 0, none⟩)] rfl (exec_call 45 _ [.tmp 54] _ _ Try.func45 (by kernel_rfl) (by kernel_rfl) rfl (by kernel_rfl) _) ?_
  refine (rdWord g b s3 w5 HR5 HO3).mono ?_
  rintro e w6 ⟨x4, s4, Hx4, Hs4, rfl, HR6, HO4, k6⟩
  have Bn06 := Lib.hid (Bn05.out.keep k6 (by have := hn0.out; have := hgl.out; omega))
  have Bgc6 := Lib.hid (Bgc5.out.keep k6 (by have := hgc.out; have := hgl.out; omega))
  have kw6 := kw5.trans k6 (fun i hi h => h)
  clear kw5
  refine ⟨_, rfl, ?_⟩
  simp only [Act.put, List.setIfInBounds_toArray, List.set_cons_succ, List.set_cons_zero]
  refine l_val (o := ⟨some 56, _, _, _, _, _⟩) (.pointer (some ⟨g, 0, none⟩)) rfl (exec_move (.tmp 0) (.pointer (some ⟨g, 0, none⟩)) rfl (by kernel_rfl)) ?_
  simp only [Act.put, List.setIfInBounds_toArray, List.set_cons_succ, List.set_cons_zero]
  refine l_call (o := ⟨some 57, _, _, _, _, _⟩) 43 #[.pointer (some ⟨g, 0, none⟩)] rfl (exec_call 43 _ [.tmp 56] _ _ Try.func43 (by kernel_rfl) (by kernel_rfl) rfl (by kernel_rfl) _) ?_
  refine (rdU8 g b s4 w6 HR6 HO4).mono ?_
  rintro e w7 ⟨x5, s5, Hx5, Hs5, rfl, HR7, HO5, k7⟩
  have Bn07 := Lib.hid (Bn06.out.keep k7 (by have := hn0.out; have := hgl.out; omega))
  have Bgc7 := Lib.hid (Bgc6.out.keep k7 (by have := hgc.out; have := hgl.out; omega))
  have kw7 := kw6.trans k7 (fun i hi h => h)
  clear kw6
  refine ⟨_, rfl, ?_⟩
  simp only [Act.put, List.setIfInBounds_toArray, List.set_cons_succ, List.set_cons_zero]
  refine l_val (o := ⟨some 58, _, _, _, _, _⟩) (.pointer (some ⟨gc, 1, none⟩)) rfl (exec_fld 28 1 1 (.tmp 3) (gc) rfl (by kernel_rfl) (by kernel_rfl)) ?_
  simp only [Act.put, List.setIfInBounds_toArray, List.set_cons_succ, List.set_cons_zero]
  refine l_setf (o := ⟨none, _, _, _, _, _⟩) gc 1 28 (Cmd.z 4).l zeros32 x2 (.tmp 58) (.tmp 51) rfl rfl (by kernel_rfl) (by kernel_rfl) Bgc7.out (by simp [Cmd.l]) ?_
  intro w8 b8 k8 z8
  have Bgc8 : Hid (Blk w8 gc 28 (stc ((Cmd.z 4).l.set 1 x2) zeros32)) := b8
  have Bn08 := Lib.hid (Bn07.out.keep k8 (by have := hn0.out; have := hgc.out; have := hnc.out; omega))
  have HR8 := Lib.hid (HR7.out.keep k8 (by have := hgl.out; have := hgc.out; omega) (by have := hbl.out; have := hgc.out; omega))
  have kw8 := kw7.trans k8 (fun i hi h => by have := hgc.out; omega)
  clear kw7
  simp only [Act.put]
  refine l_val (o := ⟨some 59, _, _, _, _, _⟩) (.pointer (some ⟨gc, 3, none⟩)) rfl (exec_fld 28 3 3 (.tmp 3) (gc) rfl (by kernel_rfl) (by kernel_rfl)) ?_
  simp only [Act.put, List.setIfInBounds_toArray, List.set_cons_succ, List.set_cons_zero]
  refine l_setf (o := ⟨none, _, _, _, _, _⟩) gc 3 28 ((Cmd.z 4).l.set 1 x2) zeros32 x3 (.tmp 59) (.tmp 53) rfl rfl (by kernel_rfl) (by kernel_rfl) Bgc8.out (by simp [Cmd.l]) ?_
  intro w9 b9 k9 z9
  have Bgc9 : Hid (Blk w9 gc 28 (stc (((Cmd.z 4).l.set 1 x2).set 3 x3) zeros32)) := b9
  have Bn09 := Lib.hid (Bn08.out.keep k9 (by have := hn0.out; have := hgc.out; have := hnc.out; omega))
  have HR9 := Lib.hid (HR8.out.keep k9 (by have := hgl.out; have := hgc.out; omega) (by have := hbl.out; have := hgc.out; omega))
  have kw9 := kw8.trans k9 (fun i hi h => by have := hgc.out; omega)
  clear kw8
  simp only [Act.put]
  refine l_val (o := ⟨some 60, _, _, _, _, _⟩) (.pointer (some ⟨gc, 4, none⟩)) rfl (exec_fld 28 4 4 (.tmp 3) (gc) rfl (by kernel_rfl) (by kernel_rfl)) ?_
  simp only [Act.put, List.setIfInBounds_toArray, List.set_cons_succ, List.set_cons_zero]
  refine l_setf (o := ⟨none, _, _, _, _, _⟩) gc 4 28 (((Cmd.z 4).l.set 1 x2).set 3 x3) zeros32 x4 (.tmp 60) (.tmp 55) rfl rfl (by kernel_rfl) (by kernel_rfl) Bgc9.out (by simp [Cmd.l]) ?_
  intro w10 b10 k10 z10
  have Bgc10 : Hid (Blk w10 gc 28 (stc ((((Cmd.z 4).l.set 1 x2).set 3 x3).set 4 x4) zeros32)) := b10
  have Bn010 := Lib.hid (Bn09.out.keep k10 (by have := hn0.out; have := hgc.out; have := hnc.out; omega))
  have HR10 := Lib.hid (HR9.out.keep k10 (by have := hgl.out; have := hgc.out; omega) (by have := hbl.out; have := hgc.out; omega))
  have kw10 := kw9.trans k10 (fun i hi h => by have := hgc.out; omega)
  clear kw9
  simp only [Act.put]
  refine l_val (o := ⟨some 61, _, _, _, _, _⟩) (.pointer (some ⟨gc, 2, none⟩)) rfl (exec_fld 28 2 2 (.tmp 3) (gc) rfl (by kernel_rfl) (by kernel_rfl)) ?_
  simp only [Act.put, List.setIfInBounds_toArray, List.set_cons_succ, List.set_cons_zero]
  refine l_setf (o := ⟨none, _, _, _, _, _⟩) gc 2 28 ((((Cmd.z 4).l.set 1 x2).set 3 x3).set 4 x4) zeros32 x5 (.tmp 61) (.tmp 57) rfl rfl (by kernel_rfl) (by kernel_rfl) Bgc10.out (by simp [Cmd.l]) ?_
  intro w11 b11 k11 z11
  have Bgc11 : Hid (Blk w11 gc 28 (stc (((((Cmd.z 4).l.set 1 x2).set 3 x3).set 4 x4).set 2 x5) zeros32)) := b11
  have Bn011 := Lib.hid (Bn010.out.keep k11 (by have := hn0.out; have := hgc.out; have := hnc.out; omega))
  have HR11 := Lib.hid (HR10.out.keep k11 (by have := hgl.out; have := hgc.out; omega) (by have := hbl.out; have := hgc.out; omega))
  have kw11 := kw10.trans k11 (fun i hi h => by have := hgc.out; omega)
  clear kw10
  simp only [Act.put]
  refine wpList_nil ?_
  go_upto_region 19 with fail
  have hlen : (stc (((((Cmd.z 4).l.set 1 x2).set 3 x3).set 4 x4).set 2 x5) zeros32).length = 46 := by rw [stc_len]; rfl
  refine wp_region_lit ?_
  refine l_val (o := ⟨some 104, _, _, _, _, _⟩) (.agg (stc (((((Cmd.z 4).l.set 1 x2).set 3 x3).set 4 x4).set 2 x5) zeros32).toArray) rfl (exec_loadS 28 (.tmp 3) gc 28 (stc (((((Cmd.z 4).l.set 1 x2).set 3 x3).set 4 x4).set 2 x5) zeros32) _ rfl (by kernel_rfl) Bgc11.out Try.underlying28 (by rw [hlen]; exact cmd_size)) ?_
  simp only [Act.put, List.setIfInBounds_toArray, List.set_cons_succ, List.set_cons_zero]
  refine l_setS (o := ⟨none, _, _, _, _, _⟩) 28 n0 28 (Cmd.z 0).cells (stc (((((Cmd.z 4).l.set 1 x2).set 3 x3).set 4 x4).set 2 x5) zeros32) (.tmp 2) (.tmp 104) rfl rfl (by kernel_rfl) (by kernel_rfl) Bn011.out (by rw [hlen]; exact cmd_size) (by rw [hlen]; rfl) (stc_one _ _) ?_
  intro w12 b12 k12 z12
  have Bf : Hid (Blk w12 n0 28 (stc (((((Cmd.z 4).l.set 1 x2).set 3 x3).set 4 x4).set 2 x5) zeros32)) := b12
  have HR12 := Lib.hid (HR11.out.keep k12 (by have := hgl.out; have := hn0.out; omega) (by have := hbl.out; have := hn0.out; omega))
  have kw12 := kw11.trans k12 (fun i hi h => by have := hn0.out; omega)
  clear kw11
  simp only [Act.put]
  refine wpList_nil ?_
  go_wp2
  refine bodyPost_ret (results_cell_row (p := 2) (ty := 28) rfl _ _ n0 28 (stc (((((Cmd.z 4).l.set 1 x2).set 3 x3).set 4 x4).set 2 x5) zeros32).toArray (0, 0) _ rfl Bf.out Try.underlying28 rfl (by simpa [hlen] using cmd_size)) rfl ?_
  have f1 := Hs1.out
  have f2 := Hs2.out
  have e2 := Hx2.out
  have f3 := Hs3.out
  have e3 := Hx3.out
  have f4 := Hs4.out
  have e4 := Hx4.out
  have f5 := Hs5.out
  have e5 := Hx5.out
  have hcmd : stc (((((Cmd.z 4).l.set 1 x2).set 3 x3).set 4 x4).set 2 x5) zeros32 = s0.cmd.cells ∧ s0.rest = s5 := by
    unfold RS.cmd RS.rest
    rw [hkk.out]
    subst f1
    subst e2
    subst f2
    subst e3
    subst f3
    subst e4
    subst f4
    subst e5
    subst f5
    exact ⟨rfl, rfl⟩
  rw [hcmd.1]
  refine ⟨rfl, ?_, kw12⟩
  rw [hcmd.2]
  exact HR12.out

set_option maxRecDepth 100000 in
set_option maxHeartbeats 3200000 in
theorem read_5 (g b : Nat) (s0 : RS) (w : World) (HR : Hid (Rd w g b s0)) (HO0 : Hid s0.ok) (hkk : Hid (s0.kind = 5)) : Calls Try.prog 28 #[.pointer (some ⟨g, 0, none⟩)] w (ReadIn w g b s0) := by
  have hgl : Hid (g < w.heap.size) := HR.out.lt.1
  have hbl : Hid (b < w.heap.size) := HR.out.lt.2
  have kw : Keep (· = g) w w := Keep.refl _ w
  go_enter Try.func28, Try.ntmps28
  go_upto_region 0 with fail
  refine wp_region_lit ?_
  refine l_alloc (o := ⟨some 2, _, _, _, _, _⟩) 28 (Cmd.z 0).cells rfl rfl cmd_zero ?_
  intro w0 b0 z0 k0_
  simp only [Act.put, List.setIfInBounds_toArray, List.set_cons_succ, List.set_cons_zero]
  refine wpList_nil ?_
  have kw0 := kw.kept k0_
  have HR0 := Lib.hid (HR.out.kept k0_)
  clear kw HR
  obtain ⟨n0, hn⟩ : ∃ n0, n0 = w.heap.size := ⟨_, rfl⟩
  rw [← hn] at b0 ⊢
  have hn0 : Hid (w.heap.size ≤ n0) := by show _ ≤ _; omega
  have hl0 : Hid (n0 < w0.heap.size) := by show _ < _; omega
  have Bn00 : Hid (Blk w0 n0 28 (Cmd.z 0).cells) := b0
  clear hn b0 z0 k0_
  go_upto_region 1 with fail
  refine wp_region_lit ?_
  refine l_val (o := ⟨some 4, _, _, _, _, _⟩) (.pointer (some ⟨g, 0, none⟩)) rfl (exec_move (.tmp 0) (.pointer (some ⟨g, 0, none⟩)) rfl (by kernel_rfl)) ?_
  simp only [Act.put, List.setIfInBounds_toArray, List.set_cons_succ, List.set_cons_zero]
  refine l_call (o := ⟨some 5, _, _, _, _, _⟩) 43 #[.pointer (some ⟨g, 0, none⟩)] rfl (exec_call 43 _ [.tmp 4] _ _ Try.func43 (by kernel_rfl) (by kernel_rfl) rfl (by kernel_rfl) _) ?_
  refine (rdU8 g b s0 w0 HR0 HO0).mono ?_
  rintro e w1 ⟨x1, s1, Hx1, Hs1, rfl, HR1, HO1, k1⟩
  have Bn01 := Lib.hid (Bn00.out.keep k1 (by have := hn0.out; have := hgl.out; omega))
  have kw1 := kw0.trans k1 (fun i hi h => h)
  clear kw0
  refine ⟨_, rfl, ?_⟩
  simp only [Act.put, List.setIfInBounds_toArray, List.set_cons_succ, List.set_cons_zero]
  refine l_val (o := ⟨some 6, _, _, _, _, _⟩) ((Cmd.z x1).v) rfl (exec_build 28 _ (Cmd.z x1).cells rfl (by kernel_rfl)) ?_
  simp only [Act.put, List.setIfInBounds_toArray, List.set_cons_succ, List.set_cons_zero]
  refine l_alloc (o := ⟨some 3, _, _, _, _, _⟩) 28 (Cmd.z 0).cells rfl rfl cmd_zero ?_
  intro w2 b2 z2 k2
  obtain ⟨gc, hgc_⟩ : ∃ gc, gc = w1.heap.size := ⟨_, rfl⟩
  rw [← hgc_] at b2 ⊢
  have hnc : Hid (n0 < gc) := by show _ < _; have := hl0.out; have := Bn01.out.lt; omega
  have hgc : Hid (w.heap.size ≤ gc) := by show _ ≤ _; have := hnc.out; have := hn0.out; omega
  clear hgc_
  have Bn02 := Lib.hid (Bn01.out.kept k2)
  have HR2 := Lib.hid (HR1.out.kept k2)
  have kw2 := kw1.kept k2
  clear kw1
  simp only [Act.put, List.setIfInBounds_toArray, List.set_cons_succ, List.set_cons_zero]
  refine l_setS (o := ⟨none, _, _, _, _, _⟩) 28 gc 28 (Cmd.z 0).cells (Cmd.z x1).cells (.tmp 3) (.tmp 6) rfl rfl (by kernel_rfl) (by kernel_rfl) b2 cmd_size rfl (stc_one _ _) ?_
  intro w3 b3 k3 z3
  have Bgc3 : Hid (Blk w3 gc 28 (stc (Cmd.z x1).l zeros32)) := b3
  have Bn03 := Lib.hid (Bn02.out.keep k3 (by have := hn0.out; have := hgc.out; have := hnc.out; omega))
  have HR3 := Lib.hid (HR2.out.keep k3 (by have := hgl.out; have := hgc.out; omega) (by have := hbl.out; have := hgc.out; omega))
  have kw3 := kw2.trans k3 (fun i hi h => by have := hgc.out; omega)
  clear kw2
  simp only [Act.put]
  refine wpList_nil ?_
  obtain rfl : x1 = 5 := Hx1.out.trans hkk.out
  have hc : w3.cell? ⟨gc, 0, none⟩ = some (.int .i64 5) := Bgc3.out.fld 0 _ rfl
  go_upto_region 14 with fail
  refine wp_region_lit ?_
  refine l_val (o := ⟨some 64, _, _, _, _, _⟩) (.pointer (some ⟨g, 0, none⟩)) rfl (exec_move (.tmp 0) (.pointer (some ⟨g, 0, none⟩)) rfl (by kernel_rfl)) ?_
  simp only [Act.put, List.setIfInBounds_toArray, List.set_cons_succ, List.set_cons_zero]
  refine l_call (o := ⟨some 65, _, _, _, _, _⟩) 45 #[.pointer (some ⟨g, 0, none⟩)] rfl (exec_call 45 _ [.tmp 64] _ _ Try.func45 (by kernel_rfl) (by kernel_rfl) rfl (by kernel_rfl) _) ?_
  refine (rdWord g b s1 w3 HR3 HO1).mono ?_
  rintro e w4 ⟨x2, s2, Hx2, Hs2, rfl, HR4, HO2, k4⟩
  have Bn04 := Lib.hid (Bn03.out.keep k4 (by have := hn0.out; have := hgl.out; omega))
  have Bgc4 := Lib.hid (Bgc3.out.keep k4 (by have := hgc.out; have := hgl.out; omega))
  have kw4 := kw3.trans k4 (fun i hi h => h)
  clear kw3
  refine ⟨_, rfl, ?_⟩
  simp only [Act.put, List.setIfInBounds_toArray, List.set_cons_succ, List.set_cons_zero]
  refine l_val (o := ⟨some 66, _, _, _, _, _⟩) (.pointer (some ⟨g, 0, none⟩)) rfl (exec_move (.tmp 0) (.pointer (some ⟨g, 0, none⟩)) rfl (by kernel_rfl)) ?_
  simp only [Act.put, List.setIfInBounds_toArray, List.set_cons_succ, List.set_cons_zero]
  refine l_call (o := ⟨some 67, _, _, _, _, _⟩) 43 #[.pointer (some ⟨g, 0, none⟩)] rfl (exec_call 43 _ [.tmp 66] _ _ Try.func43 (by kernel_rfl) (by kernel_rfl) rfl (by kernel_rfl) _) ?_
  refine (rdU8 g b s2 w4 HR4 HO2).mono ?_
  rintro e w5 ⟨x3, s3, Hx3, Hs3, rfl, HR5, HO3, k5⟩
  have Bn05 := Lib.hid (Bn04.out.keep k5 (by have := hn0.out; have := hgl.out; omega))
  have Bgc5 := Lib.hid (Bgc4.out.keep k5 (by have := hgc.out; have := hgl.out; omega))
  have kw5 := kw4.trans k5 (fun i hi h => h)
  clear kw4
  refine ⟨_, rfl, ?_⟩
  simp only [Act.put, List.setIfInBounds_toArray, List.set_cons_succ, List.set_cons_zero]
  refine l_val (o := ⟨some 68, _, _, _, _, _⟩) (.pointer (some ⟨g, 0, none⟩)) rfl (exec_move (.tmp 0) (.pointer (some ⟨g, 0, none⟩)) rfl (by kernel_rfl)) ?_
  simp only [Act.put, List.setIfInBounds_toArray, List.set_cons_succ, List.set_cons_zero]
  refine l_call (o := ⟨some 69, _, _, _, _, _⟩) 45 #[.pointer (some ⟨g, 0, none⟩)] rfl (exec_call 45 _ [.tmp 68] _ _ Try.func45 (by kernel_rfl) (by kernel_rfl) rfl (by kernel_rfl) _) ?_
  refine (rdWord g b s3 w5 HR5 HO3).mono ?_
  rintro e w6 ⟨x4, s4, Hx4, Hs4, rfl, HR6, HO4, k6⟩
  have Bn06 := Lib.hid (Bn05.out.keep k6 (by have := hn0.out; have := hgl.out; omega))
  have Bgc6 := Lib.hid (Bgc5.out.keep k6 (by have := hgc.out; have := hgl.out; omega))
  have kw6 := kw5.trans k6 (fun i hi h => h)
  clear kw5
  refine ⟨_, rfl, ?_⟩
  simp only [Act.put, List.setIfInBounds_toArray, List.set_cons_succ, List.set_cons_zero]
  refine l_val (o := ⟨some 70, _, _, _, _, _⟩) (.pointer (some ⟨g, 0, none⟩)) rfl (exec_move (.tmp 0) (.pointer (some ⟨g, 0, none⟩)) rfl (by kernel_rfl)) ?_
  simp only [Act.put, List.setIfInBounds_toArray, List.set_cons_succ, List.set_cons_zero]
  refine l_call (o := ⟨some 71, _, _, _, _, _⟩) 45 #[.pointer (some ⟨g, 0, none⟩)] rfl (exec_call 45 _ [.tmp 70] _ _ Try.func45 (by kernel_rfl) (by kernel_rfl) rfl (by kernel_rfl) _) ?_
  refine (rdWord g b s4 w6 HR6 HO4).mono ?_
  rintro e w7 ⟨x5, s5, Hx5, Hs5, rfl, HR7, HO5, k7⟩
  have Bn07 := Lib.hid (Bn06.out.keep k7 (by have := hn0.out; have := hgl.out; omega))
  have Bgc7 := Lib.hid (Bgc6.out.keep k7 (by have := hgc.out; have := hgl.out; omega))
  have kw7 := kw6.trans k7 (fun i hi h => h)
  clear kw6
  refine ⟨_, rfl, ?_⟩
  simp only [Act.put, List.setIfInBounds_toArray, List.set_cons_succ, List.set_cons_zero]
  refine l_val (o := ⟨some 72, _, _, _, _, _⟩) (.pointer (some ⟨g, 0, none⟩)) rfl (exec_move (.tmp 0) (.pointer (some ⟨g, 0, none⟩)) rfl (by kernel_rfl)) ?_
  simp only [Act.put, List.setIfInBounds_toArray, List.set_cons_succ, List.set_cons_zero]
  refine l_call (o := ⟨some 73, _, _, _, _, _⟩) 45 #[.pointer (some ⟨g, 0, none⟩)] rfl (exec_call 45 _ [.tmp 72] _ _ Try.func45 (by kernel_rfl) (by kernel_rfl) rfl (by kernel_rfl) _) ?_
  refine (rdWord g b s5 w7 HR7 HO5).mono ?_
  rintro e w8 ⟨x6, s6, Hx6, Hs6, rfl, HR8, HO6, k8⟩
  have Bn08 := Lib.hid (Bn07.out.keep k8 (by have := hn0.out; have := hgl.out; omega))
  have Bgc8 := Lib.hid (Bgc7.out.keep k8 (by have := hgc.out; have := hgl.out; omega))
  have kw8 := kw7.trans k8 (fun i hi h => h)
  clear kw7
  refine ⟨_, rfl, ?_⟩
  simp only [Act.put, List.setIfInBounds_toArray, List.set_cons_succ, List.set_cons_zero]
  refine l_val (o := ⟨some 74, _, _, _, _, _⟩) (.pointer (some ⟨gc, 1, none⟩)) rfl (exec_fld 28 1 1 (.tmp 3) (gc) rfl (by kernel_rfl) (by kernel_rfl)) ?_
  simp only [Act.put, List.setIfInBounds_toArray, List.set_cons_succ, List.set_cons_zero]
  refine l_setf (o := ⟨none, _, _, _, _, _⟩) gc 1 28 (Cmd.z 5).l zeros32 x2 (.tmp 74) (.tmp 65) rfl rfl (by kernel_rfl) (by kernel_rfl) Bgc8.out (by simp [Cmd.l]) ?_
  intro w9 b9 k9 z9
  have Bgc9 : Hid (Blk w9 gc 28 (stc ((Cmd.z 5).l.set 1 x2) zeros32)) := b9
  have Bn09 := Lib.hid (Bn08.out.keep k9 (by have := hn0.out; have := hgc.out; have := hnc.out; omega))
  have HR9 := Lib.hid (HR8.out.keep k9 (by have := hgl.out; have := hgc.out; omega) (by have := hbl.out; have := hgc.out; omega))
  have kw9 := kw8.trans k9 (fun i hi h => by have := hgc.out; omega)
  clear kw8
  simp only [Act.put]
  refine l_val (o := ⟨some 75, _, _, _, _, _⟩) (.pointer (some ⟨gc, 3, none⟩)) rfl (exec_fld 28 3 3 (.tmp 3) (gc) rfl (by kernel_rfl) (by kernel_rfl)) ?_
  simp only [Act.put, List.setIfInBounds_toArray, List.set_cons_succ, List.set_cons_zero]
  refine l_setf (o := ⟨none, _, _, _, _, _⟩) gc 3 28 ((Cmd.z 5).l.set 1 x2) zeros32 x3 (.tmp 75) (.tmp 67) rfl rfl (by kernel_rfl) (by kernel_rfl) Bgc9.out (by simp [Cmd.l]) ?_
  intro w10 b10 k10 z10
  have Bgc10 : Hid (Blk w10 gc 28 (stc (((Cmd.z 5).l.set 1 x2).set 3 x3) zeros32)) := b10
  have Bn010 := Lib.hid (Bn09.out.keep k10 (by have := hn0.out; have := hgc.out; have := hnc.out; omega))
  have HR10 := Lib.hid (HR9.out.keep k10 (by have := hgl.out; have := hgc.out; omega) (by have := hbl.out; have := hgc.out; omega))
  have kw10 := kw9.trans k10 (fun i hi h => by have := hgc.out; omega)
  clear kw9
  simp only [Act.put]
  refine l_val (o := ⟨some 76, _, _, _, _, _⟩) (.pointer (some ⟨gc, 4, none⟩)) rfl (exec_fld 28 4 4 (.tmp 3) (gc) rfl (by kernel_rfl) (by kernel_rfl)) ?_
  simp only [Act.put, List.setIfInBounds_toArray, List.set_cons_succ, List.set_cons_zero]
  refine l_setf (o := ⟨none, _, _, _, _, _⟩) gc 4 28 (((Cmd.z 5).l.set 1 x2).set 3 x3) zeros32 x4 (.tmp 76) (.tmp 69) rfl rfl (by kernel_rfl) (by kernel_rfl) Bgc10.out (by simp [Cmd.l]) ?_
  intro w11 b11 k11 z11
  have Bgc11 : Hid (Blk w11 gc 28 (stc ((((Cmd.z 5).l.set 1 x2).set 3 x3).set 4 x4) zeros32)) := b11
  have Bn011 := Lib.hid (Bn010.out.keep k11 (by have := hn0.out; have := hgc.out; have := hnc.out; omega))
  have HR11 := Lib.hid (HR10.out.keep k11 (by have := hgl.out; have := hgc.out; omega) (by have := hbl.out; have := hgc.out; omega))
  have kw11 := kw10.trans k11 (fun i hi h => by have := hgc.out; omega)
  clear kw10
  simp only [Act.put]
  refine l_val (o := ⟨some 77, _, _, _, _, _⟩) (.pointer (some ⟨gc, 7, none⟩)) rfl (exec_fld 28 7 7 (.tmp 3) (gc) rfl (by kernel_rfl) (by kernel_rfl)) ?_
  simp only [Act.put, List.setIfInBounds_toArray, List.set_cons_succ, List.set_cons_zero]
  refine l_setf (o := ⟨none, _, _, _, _, _⟩) gc 7 28 ((((Cmd.z 5).l.set 1 x2).set 3 x3).set 4 x4) zeros32 x5 (.tmp 77) (.tmp 71) rfl rfl (by kernel_rfl) (by kernel_rfl) Bgc11.out (by simp [Cmd.l]) ?_
  intro w12 b12 k12 z12
  have Bgc12 : Hid (Blk w12 gc 28 (stc (((((Cmd.z 5).l.set 1 x2).set 3 x3).set 4 x4).set 7 x5) zeros32)) := b12
  have Bn012 := Lib.hid (Bn011.out.keep k12 (by have := hn0.out; have := hgc.out; have := hnc.out; omega))
  have HR12 := Lib.hid (HR11.out.keep k12 (by have := hgl.out; have := hgc.out; omega) (by have := hbl.out; have := hgc.out; omega))
  have kw12 := kw11.trans k12 (fun i hi h => by have := hgc.out; omega)
  clear kw11
  simp only [Act.put]
  refine l_val (o := ⟨some 78, _, _, _, _, _⟩) (.pointer (some ⟨gc, 8, none⟩)) rfl (exec_fld 28 8 8 (.tmp 3) (gc) rfl (by kernel_rfl) (by kernel_rfl)) ?_
  simp only [Act.put, List.setIfInBounds_toArray, List.set_cons_succ, List.set_cons_zero]
  refine l_setf (o := ⟨none, _, _, _, _, _⟩) gc 8 28 (((((Cmd.z 5).l.set 1 x2).set 3 x3).set 4 x4).set 7 x5) zeros32 x6 (.tmp 78) (.tmp 73) rfl rfl (by kernel_rfl) (by kernel_rfl) Bgc12.out (by simp [Cmd.l]) ?_
  intro w13 b13 k13 z13
  have Bgc13 : Hid (Blk w13 gc 28 (stc ((((((Cmd.z 5).l.set 1 x2).set 3 x3).set 4 x4).set 7 x5).set 8 x6) zeros32)) := b13
  have Bn013 := Lib.hid (Bn012.out.keep k13 (by have := hn0.out; have := hgc.out; have := hnc.out; omega))
  have HR13 := Lib.hid (HR12.out.keep k13 (by have := hgl.out; have := hgc.out; omega) (by have := hbl.out; have := hgc.out; omega))
  have kw13 := kw12.trans k13 (fun i hi h => by have := hgc.out; omega)
  clear kw12
  simp only [Act.put]
  refine wpList_nil ?_
  go_upto_region 19 with fail
  have hlen : (stc ((((((Cmd.z 5).l.set 1 x2).set 3 x3).set 4 x4).set 7 x5).set 8 x6) zeros32).length = 46 := by rw [stc_len]; rfl
  refine wp_region_lit ?_
  refine l_val (o := ⟨some 104, _, _, _, _, _⟩) (.agg (stc ((((((Cmd.z 5).l.set 1 x2).set 3 x3).set 4 x4).set 7 x5).set 8 x6) zeros32).toArray) rfl (exec_loadS 28 (.tmp 3) gc 28 (stc ((((((Cmd.z 5).l.set 1 x2).set 3 x3).set 4 x4).set 7 x5).set 8 x6) zeros32) _ rfl (by kernel_rfl) Bgc13.out Try.underlying28 (by rw [hlen]; exact cmd_size)) ?_
  simp only [Act.put, List.setIfInBounds_toArray, List.set_cons_succ, List.set_cons_zero]
  refine l_setS (o := ⟨none, _, _, _, _, _⟩) 28 n0 28 (Cmd.z 0).cells (stc ((((((Cmd.z 5).l.set 1 x2).set 3 x3).set 4 x4).set 7 x5).set 8 x6) zeros32) (.tmp 2) (.tmp 104) rfl rfl (by kernel_rfl) (by kernel_rfl) Bn013.out (by rw [hlen]; exact cmd_size) (by rw [hlen]; rfl) (stc_one _ _) ?_
  intro w14 b14 k14 z14
  have Bf : Hid (Blk w14 n0 28 (stc ((((((Cmd.z 5).l.set 1 x2).set 3 x3).set 4 x4).set 7 x5).set 8 x6) zeros32)) := b14
  have HR14 := Lib.hid (HR13.out.keep k14 (by have := hgl.out; have := hn0.out; omega) (by have := hbl.out; have := hn0.out; omega))
  have kw14 := kw13.trans k14 (fun i hi h => by have := hn0.out; omega)
  clear kw13
  simp only [Act.put]
  refine wpList_nil ?_
  go_wp2
  refine bodyPost_ret (results_cell_row (p := 2) (ty := 28) rfl _ _ n0 28 (stc ((((((Cmd.z 5).l.set 1 x2).set 3 x3).set 4 x4).set 7 x5).set 8 x6) zeros32).toArray (0, 0) _ rfl Bf.out Try.underlying28 rfl (by simpa [hlen] using cmd_size)) rfl ?_
  have f1 := Hs1.out
  have f2 := Hs2.out
  have e2 := Hx2.out
  have f3 := Hs3.out
  have e3 := Hx3.out
  have f4 := Hs4.out
  have e4 := Hx4.out
  have f5 := Hs5.out
  have e5 := Hx5.out
  have f6 := Hs6.out
  have e6 := Hx6.out
  have hcmd : stc ((((((Cmd.z 5).l.set 1 x2).set 3 x3).set 4 x4).set 7 x5).set 8 x6) zeros32 = s0.cmd.cells ∧ s0.rest = s6 := by
    unfold RS.cmd RS.rest
    rw [hkk.out]
    subst f1
    subst e2
    subst f2
    subst e3
    subst f3
    subst e4
    subst f4
    subst e5
    subst f5
    subst e6
    subst f6
    exact ⟨rfl, rfl⟩
  rw [hcmd.1]
  refine ⟨rfl, ?_, kw14⟩
  rw [hcmd.2]
  exact HR14.out

set_option maxRecDepth 100000 in
set_option maxHeartbeats 3200000 in
theorem read_6 (g b : Nat) (s0 : RS) (w : World) (HR : Hid (Rd w g b s0)) (HO0 : Hid s0.ok) (hkk : Hid (s0.kind = 6)) : Calls Try.prog 28 #[.pointer (some ⟨g, 0, none⟩)] w (ReadIn w g b s0) := by
  have hgl : Hid (g < w.heap.size) := HR.out.lt.1
  have hbl : Hid (b < w.heap.size) := HR.out.lt.2
  have kw : Keep (· = g) w w := Keep.refl _ w
  go_enter Try.func28, Try.ntmps28
  go_upto_region 0 with fail
  refine wp_region_lit ?_
  refine l_alloc (o := ⟨some 2, _, _, _, _, _⟩) 28 (Cmd.z 0).cells rfl rfl cmd_zero ?_
  intro w0 b0 z0 k0_
  simp only [Act.put, List.setIfInBounds_toArray, List.set_cons_succ, List.set_cons_zero]
  refine wpList_nil ?_
  have kw0 := kw.kept k0_
  have HR0 := Lib.hid (HR.out.kept k0_)
  clear kw HR
  obtain ⟨n0, hn⟩ : ∃ n0, n0 = w.heap.size := ⟨_, rfl⟩
  rw [← hn] at b0 ⊢
  have hn0 : Hid (w.heap.size ≤ n0) := by show _ ≤ _; omega
  have hl0 : Hid (n0 < w0.heap.size) := by show _ < _; omega
  have Bn00 : Hid (Blk w0 n0 28 (Cmd.z 0).cells) := b0
  clear hn b0 z0 k0_
  go_upto_region 1 with fail
  refine wp_region_lit ?_
  refine l_val (o := ⟨some 4, _, _, _, _, _⟩) (.pointer (some ⟨g, 0, none⟩)) rfl (exec_move (.tmp 0) (.pointer (some ⟨g, 0, none⟩)) rfl (by kernel_rfl)) ?_
  simp only [Act.put, List.setIfInBounds_toArray, List.set_cons_succ, List.set_cons_zero]
  refine l_call (o := ⟨some 5, _, _, _, _, _⟩) 43 #[.pointer (some ⟨g, 0, none⟩)] rfl (exec_call 43 _ [.tmp 4] _ _ Try.func43 (by kernel_rfl) (by kernel_rfl) rfl (by kernel_rfl) _) ?_
  refine (rdU8 g b s0 w0 HR0 HO0).mono ?_
  rintro e w1 ⟨x1, s1, Hx1, Hs1, rfl, HR1, HO1, k1⟩
  have Bn01 := Lib.hid (Bn00.out.keep k1 (by have := hn0.out; have := hgl.out; omega))
  have kw1 := kw0.trans k1 (fun i hi h => h)
  clear kw0
  refine ⟨_, rfl, ?_⟩
  simp only [Act.put, List.setIfInBounds_toArray, List.set_cons_succ, List.set_cons_zero]
  refine l_val (o := ⟨some 6, _, _, _, _, _⟩) ((Cmd.z x1).v) rfl (exec_build 28 _ (Cmd.z x1).cells rfl (by kernel_rfl)) ?_
  simp only [Act.put, List.setIfInBounds_toArray, List.set_cons_succ, List.set_cons_zero]
  refine l_alloc (o := ⟨some 3, _, _, _, _, _⟩) 28 (Cmd.z 0).cells rfl rfl cmd_zero ?_
  intro w2 b2 z2 k2
  obtain ⟨gc, hgc_⟩ : ∃ gc, gc = w1.heap.size := ⟨_, rfl⟩
  rw [← hgc_] at b2 ⊢
  have hnc : Hid (n0 < gc) := by show _ < _; have := hl0.out; have := Bn01.out.lt; omega
  have hgc : Hid (w.heap.size ≤ gc) := by show _ ≤ _; have := hnc.out; have := hn0.out; omega
  clear hgc_
  have Bn02 := Lib.hid (Bn01.out.kept k2)
  have HR2 := Lib.hid (HR1.out.kept k2)
  have kw2 := kw1.kept k2
  clear kw1
  simp only [Act.put, List.setIfInBounds_toArray, List.set_cons_succ, List.set_cons_zero]
  refine l_setS (o := ⟨none, _, _, _, _, _⟩) 28 gc 28 (Cmd.z 0).cells (Cmd.z x1).cells (.tmp 3) (.tmp 6) rfl rfl (by kernel_rfl) (by kernel_rfl) b2 cmd_size rfl (stc_one _ _) ?_
  intro w3 b3 k3 z3
  have Bgc3 : Hid (Blk w3 gc 28 (stc (Cmd.z x1).l zeros32)) := b3
  have Bn03 := Lib.hid (Bn02.out.keep k3 (by have := hn0.out; have := hgc.out; have := hnc.out; omega))
  have HR3 := Lib.hid (HR2.out.keep k3 (by have := hgl.out; have := hgc.out; omega) (by have := hbl.out; have := hgc.out; omega))
  have kw3 := kw2.trans k3 (fun i hi h => by have := hgc.out; omega)
  clear kw2
  simp only [Act.put]
  refine wpList_nil ?_
  obtain rfl : x1 = 6 := Hx1.out.trans hkk.out
  have hc : w3.cell? ⟨gc, 0, none⟩ = some (.int .i64 6) := Bgc3.out.fld 0 _ rfl
  go_upto_region 16 with fail
  refine wp_region_lit ?_
  refine l_val (o := ⟨some 81, _, _, _, _, _⟩) (.pointer (some ⟨g, 0, none⟩)) rfl (exec_move (.tmp 0) (.pointer (some ⟨g, 0, none⟩)) rfl (by kernel_rfl)) ?_
  simp only [Act.put, List.setIfInBounds_toArray, List.set_cons_succ, List.set_cons_zero]
  refine l_call (o := ⟨some 82, _, _, _, _, _⟩) 45 #[.pointer (some ⟨g, 0, none⟩)] rfl (exec_call 45 _ [.tmp 81] _ _ Try.func45 (by kernel_rfl) (by kernel_rfl) rfl (by kernel_rfl) _) ?_
  refine (rdWord g b s1 w3 HR3 HO1).mono ?_
  rintro e w4 ⟨x2, s2, Hx2, Hs2, rfl, HR4, HO2, k4⟩
  have Bn04 := Lib.hid (Bn03.out.keep k4 (by have := hn0.out; have := hgl.out; omega))
  have Bgc4 := Lib.hid (Bgc3.out.keep k4 (by have := hgc.out; have := hgl.out; omega))
  have kw4 := kw3.trans k4 (fun i hi h => h)
  clear kw3
  refine ⟨_, rfl, ?_⟩
  simp only [Act.put, List.setIfInBounds_toArray, List.set_cons_succ, List.set_cons_zero]
  refine l_val (o := ⟨some 83, _, _, _, _, _⟩) (.pointer (some ⟨g, 0, none⟩)) rfl (exec_move (.tmp 0) (.pointer (some ⟨g, 0, none⟩)) rfl (by kernel_rfl)) ?_
  simp only [Act.put, List.setIfInBounds_toArray, List.set_cons_succ, List.set_cons_zero]
  refine l_call (o := ⟨some 84, _, _, _, _, _⟩) 43 #[.pointer (some ⟨g, 0, none⟩)] rfl (exec_call 43 _ [.tmp 83] _ _ Try.func43 (by kernel_rfl) (by kernel_rfl) rfl (by kernel_rfl) _) ?_
  refine (rdU8 g b s2 w4 HR4 HO2).mono ?_
  rintro e w5 ⟨x3, s3, Hx3, Hs3, rfl, HR5, HO3, k5⟩
  have Bn05 := Lib.hid (Bn04.out.keep k5 (by have := hn0.out; have := hgl.out; omega))
  have Bgc5 := Lib.hid (Bgc4.out.keep k5 (by have := hgc.out; have := hgl.out; omega))
  have kw5 := kw4.trans k5 (fun i hi h => h)
  clear kw4
  refine ⟨_, rfl, ?_⟩
  simp only [Act.put, List.setIfInBounds_toArray, List.set_cons_succ, List.set_cons_zero]
  refine l_val (o := ⟨some 85, _, _, _, _, _⟩) (.pointer (some ⟨g, 0, none⟩)) rfl (exec_move (.tmp 0) (.pointer (some ⟨g, 0, none⟩)) rfl (by kernel_rfl)) ?_
  simp only [Act.put, List.setIfInBounds_toArray, List.set_cons_succ, List.set_cons_zero]
  refine l_call (o := ⟨some 86, _, _, _, _, _⟩) 43 #[.pointer (some ⟨g, 0, none⟩)] rfl (exec_call 43 _ [.tmp 85] _ _ Try.func43 (by kernel_rfl) (by kernel_rfl) rfl (by kernel_rfl) _) ?_
  refine (rdU8 g b s3 w5 HR5 HO3).mono ?_
  rintro e w6 ⟨x4, s4, Hx4, Hs4, rfl, HR6, HO4, k6⟩
  have Bn06 := Lib.hid (Bn05.out.keep k6 (by have := hn0.out; have := hgl.out; omega))
  have Bgc6 := Lib.hid (Bgc5.out.keep k6 (by have := hgc.out; have := hgl.out; omega))
  have kw6 := kw5.trans k6 (fun i hi h => h)
  clear kw5
  refine ⟨_, rfl, ?_⟩
  simp only [Act.put, List.setIfInBounds_toArray, List.set_cons_succ, List.set_cons_zero]
  refine l_val (o := ⟨some 87, _, _, _, _, _⟩) (.pointer (some ⟨gc, 1, none⟩)) rfl (exec_fld 28 1 1 (.tmp 3) (gc) rfl (by kernel_rfl) (by kernel_rfl)) ?_
  simp only [Act.put, List.setIfInBounds_toArray, List.set_cons_succ, List.set_cons_zero]
  refine l_setf (o := ⟨none, _, _, _, _, _⟩) gc 1 28 (Cmd.z 6).l zeros32 x2 (.tmp 87) (.tmp 82) rfl rfl (by kernel_rfl) (by kernel_rfl) Bgc6.out (by simp [Cmd.l]) ?_
  intro w7 b7 k7 z7
  have Bgc7 : Hid (Blk w7 gc 28 (stc ((Cmd.z 6).l.set 1 x2) zeros32)) := b7
  have Bn07 := Lib.hid (Bn06.out.keep k7 (by have := hn0.out; have := hgc.out; have := hnc.out; omega))
  have HR7 := Lib.hid (HR6.out.keep k7 (by have := hgl.out; have := hgc.out; omega) (by have := hbl.out; have := hgc.out; omega))
  have kw7 := kw6.trans k7 (fun i hi h => by have := hgc.out; omega)
  clear kw6
  simp only [Act.put]
  refine l_val (o := ⟨some 88, _, _, _, _, _⟩) (.pointer (some ⟨gc, 3, none⟩)) rfl (exec_fld 28 3 3 (.tmp 3) (gc) rfl (by kernel_rfl) (by kernel_rfl)) ?_
  simp only [Act.put, List.setIfInBounds_toArray, List.set_cons_succ, List.set_cons_zero]
  refine l_setf (o := ⟨none, _, _, _, _, _⟩) gc 3 28 ((Cmd.z 6).l.set 1 x2) zeros32 x3 (.tmp 88) (.tmp 84) rfl rfl (by kernel_rfl) (by kernel_rfl) Bgc7.out (by simp [Cmd.l]) ?_
  intro w8 b8 k8 z8
  have Bgc8 : Hid (Blk w8 gc 28 (stc (((Cmd.z 6).l.set 1 x2).set 3 x3) zeros32)) := b8
  have Bn08 := Lib.hid (Bn07.out.keep k8 (by have := hn0.out; have := hgc.out; have := hnc.out; omega))
  have HR8 := Lib.hid (HR7.out.keep k8 (by have := hgl.out; have := hgc.out; omega) (by have := hbl.out; have := hgc.out; omega))
  have kw8 := kw7.trans k8 (fun i hi h => by have := hgc.out; omega)
  clear kw7
  simp only [Act.put]
  refine l_val (o := ⟨some 89, _, _, _, _, _⟩) (.pointer (some ⟨gc, 11, none⟩)) rfl (exec_fld 28 11 11 (.tmp 3) (gc) rfl (by kernel_rfl) (by kernel_rfl)) ?_
  simp only [Act.put, List.setIfInBounds_toArray, List.set_cons_succ, List.set_cons_zero]
  refine l_setf (o := ⟨none, _, _, _, _, _⟩) gc 11 28 (((Cmd.z 6).l.set 1 x2).set 3 x3) zeros32 x4 (.tmp 89) (.tmp 86) rfl rfl (by kernel_rfl) (by kernel_rfl) Bgc8.out (by simp [Cmd.l]) ?_
  intro w9 b9 k9 z9
  have Bgc9 : Hid (Blk w9 gc 28 (stc ((((Cmd.z 6).l.set 1 x2).set 3 x3).set 11 x4) zeros32)) := b9
  have Bn09 := Lib.hid (Bn08.out.keep k9 (by have := hn0.out; have := hgc.out; have := hnc.out; omega))
  have HR9 := Lib.hid (HR8.out.keep k9 (by have := hgl.out; have := hgc.out; omega) (by have := hbl.out; have := hgc.out; omega))
  have kw9 := kw8.trans k9 (fun i hi h => by have := hgc.out; omega)
  clear kw8
  simp only [Act.put]
  refine wpList_nil ?_
  go_upto_region 19 with fail
  have hlen : (stc ((((Cmd.z 6).l.set 1 x2).set 3 x3).set 11 x4) zeros32).length = 46 := by rw [stc_len]; rfl
  refine wp_region_lit ?_
  refine l_val (o := ⟨some 104, _, _, _, _, _⟩) (.agg (stc ((((Cmd.z 6).l.set 1 x2).set 3 x3).set 11 x4) zeros32).toArray) rfl (exec_loadS 28 (.tmp 3) gc 28 (stc ((((Cmd.z 6).l.set 1 x2).set 3 x3).set 11 x4) zeros32) _ rfl (by kernel_rfl) Bgc9.out Try.underlying28 (by rw [hlen]; exact cmd_size)) ?_
  simp only [Act.put, List.setIfInBounds_toArray, List.set_cons_succ, List.set_cons_zero]
  refine l_setS (o := ⟨none, _, _, _, _, _⟩) 28 n0 28 (Cmd.z 0).cells (stc ((((Cmd.z 6).l.set 1 x2).set 3 x3).set 11 x4) zeros32) (.tmp 2) (.tmp 104) rfl rfl (by kernel_rfl) (by kernel_rfl) Bn09.out (by rw [hlen]; exact cmd_size) (by rw [hlen]; rfl) (stc_one _ _) ?_
  intro w10 b10 k10 z10
  have Bf : Hid (Blk w10 n0 28 (stc ((((Cmd.z 6).l.set 1 x2).set 3 x3).set 11 x4) zeros32)) := b10
  have HR10 := Lib.hid (HR9.out.keep k10 (by have := hgl.out; have := hn0.out; omega) (by have := hbl.out; have := hn0.out; omega))
  have kw10 := kw9.trans k10 (fun i hi h => by have := hn0.out; omega)
  clear kw9
  simp only [Act.put]
  refine wpList_nil ?_
  go_wp2
  refine bodyPost_ret (results_cell_row (p := 2) (ty := 28) rfl _ _ n0 28 (stc ((((Cmd.z 6).l.set 1 x2).set 3 x3).set 11 x4) zeros32).toArray (0, 0) _ rfl Bf.out Try.underlying28 rfl (by simpa [hlen] using cmd_size)) rfl ?_
  have f1 := Hs1.out
  have f2 := Hs2.out
  have e2 := Hx2.out
  have f3 := Hs3.out
  have e3 := Hx3.out
  have f4 := Hs4.out
  have e4 := Hx4.out
  have hcmd : stc ((((Cmd.z 6).l.set 1 x2).set 3 x3).set 11 x4) zeros32 = s0.cmd.cells ∧ s0.rest = s4 := by
    unfold RS.cmd RS.rest
    rw [hkk.out]
    subst f1
    subst e2
    subst f2
    subst e3
    subst f3
    subst e4
    subst f4
    exact ⟨rfl, rfl⟩
  rw [hcmd.1]
  refine ⟨rfl, ?_, kw10⟩
  rw [hcmd.2]
  exact HR10.out

set_option maxRecDepth 100000 in
set_option maxHeartbeats 3200000 in
theorem read_9 (g b : Nat) (s0 : RS) (w : World) (HR : Hid (Rd w g b s0)) (HO0 : Hid s0.ok) (hkk : Hid (s0.kind = 9)) : Calls Try.prog 28 #[.pointer (some ⟨g, 0, none⟩)] w (ReadIn w g b s0) := by
  have hgl : Hid (g < w.heap.size) := HR.out.lt.1
  have hbl : Hid (b < w.heap.size) := HR.out.lt.2
  have kw : Keep (· = g) w w := Keep.refl _ w
  go_enter Try.func28, Try.ntmps28
  go_upto_region 0 with fail
  refine wp_region_lit ?_
  refine l_alloc (o := ⟨some 2, _, _, _, _, _⟩) 28 (Cmd.z 0).cells rfl rfl cmd_zero ?_
  intro w0 b0 z0 k0_
  simp only [Act.put, List.setIfInBounds_toArray, List.set_cons_succ, List.set_cons_zero]
  refine wpList_nil ?_
  have kw0 := kw.kept k0_
  have HR0 := Lib.hid (HR.out.kept k0_)
  clear kw HR
  obtain ⟨n0, hn⟩ : ∃ n0, n0 = w.heap.size := ⟨_, rfl⟩
  rw [← hn] at b0 ⊢
  have hn0 : Hid (w.heap.size ≤ n0) := by show _ ≤ _; omega
  have hl0 : Hid (n0 < w0.heap.size) := by show _ < _; omega
  have Bn00 : Hid (Blk w0 n0 28 (Cmd.z 0).cells) := b0
  clear hn b0 z0 k0_
  go_upto_region 1 with fail
  refine wp_region_lit ?_
  refine l_val (o := ⟨some 4, _, _, _, _, _⟩) (.pointer (some ⟨g, 0, none⟩)) rfl (exec_move (.tmp 0) (.pointer (some ⟨g, 0, none⟩)) rfl (by kernel_rfl)) ?_
  simp only [Act.put, List.setIfInBounds_toArray, List.set_cons_succ, List.set_cons_zero]
  refine l_call (o := ⟨some 5, _, _, _, _, _⟩) 43 #[.pointer (some ⟨g, 0, none⟩)] rfl (exec_call 43 _ [.tmp 4] _ _ Try.func43 (by kernel_rfl) (by kernel_rfl) rfl (by kernel_rfl) _) ?_
  refine (rdU8 g b s0 w0 HR0 HO0).mono ?_
  rintro e w1 ⟨x1, s1, Hx1, Hs1, rfl, HR1, HO1, k1⟩
  have Bn01 := Lib.hid (Bn00.out.keep k1 (by have := hn0.out; have := hgl.out; omega))
  have kw1 := kw0.trans k1 (fun i hi h => h)
  clear kw0
  refine ⟨_, rfl, ?_⟩
  simp only [Act.put, List.setIfInBounds_toArray, List.set_cons_succ, List.set_cons_zero]
  refine l_val (o := ⟨some 6, _, _, _, _, _⟩) ((Cmd.z x1).v) rfl (exec_build 28 _ (Cmd.z x1).cells rfl (by kernel_rfl)) ?_
  simp only [Act.put, List.setIfInBounds_toArray, List.set_cons_succ, List.set_cons_zero]
  refine l_alloc (o := ⟨some 3, _, _, _, _, _⟩) 28 (Cmd.z 0).cells rfl rfl cmd_zero ?_
  intro w2 b2 z2 k2
  obtain ⟨gc, hgc_⟩ : ∃ gc, gc = w1.heap.size := ⟨_, rfl⟩
  rw [← hgc_] at b2 ⊢
  have hnc : Hid (n0 < gc) := by show _ < _; have := hl0.out; have := Bn01.out.lt; omega
  have hgc : Hid (w.heap.size ≤ gc) := by show _ ≤ _; have := hnc.out; have := hn0.out; omega
  clear hgc_
  have Bn02 := Lib.hid (Bn01.out.kept k2)
  have HR2 := Lib.hid (HR1.out.kept k2)
  have kw2 := kw1.kept k2
  clear kw1
  simp only [Act.put, List.setIfInBounds_toArray, List.set_cons_succ, List.set_cons_zero]
  refine l_setS (o := ⟨none, _, _, _, _, _⟩) 28 gc 28 (Cmd.z 0).cells (Cmd.z x1).cells (.tmp 3) (.tmp 6) rfl rfl (by kernel_rfl) (by kernel_rfl) b2 cmd_size rfl (stc_one _ _) ?_
  intro w3 b3 k3 z3
  have Bgc3 : Hid (Blk w3 gc 28 (stc (Cmd.z x1).l zeros32)) := b3
  have Bn03 := Lib.hid (Bn02.out.keep k3 (by have := hn0.out; have := hgc.out; have := hnc.out; omega))
  have HR3 := Lib.hid (HR2.out.keep k3 (by have := hgl.out; have := hgc.out; omega) (by have := hbl.out; have := hgc.out; omega))
  have kw3 := kw2.trans k3 (fun i hi h => by have := hgc.out; omega)
  clear kw2
  simp only [Act.put]
  refine wpList_nil ?_
  obtain rfl : x1 = 9 := Hx1.out.trans hkk.out
  have hc : w3.cell? ⟨gc, 0, none⟩ = some (.int .i64 9) := Bgc3.out.fld 0 _ rfl
  go_upto_region 18 with fail
  refine wp_region_lit ?_
  refine l_val (o := ⟨some 92, _, _, _, _, _⟩) (.pointer (some ⟨g, 0, none⟩)) rfl (exec_move (.tmp 0) (.pointer (some ⟨g, 0, none⟩)) rfl (by kernel_rfl)) ?_
  simp only [Act.put, List.setIfInBounds_toArray, List.set_cons_succ, List.set_cons_zero]
  refine l_call (o := ⟨some 93, _, _, _, _, _⟩) 45 #[.pointer (some ⟨g, 0, none⟩)] rfl (exec_call 45 _ [.tmp 92] _ _ Try.func45 (by kernel_rfl) (by kernel_rfl) rfl (by kernel_rfl) _) ?_
  refine (rdWord g b s1 w3 HR3 HO1).mono ?_
  rintro e w4 ⟨x2, s2, Hx2, Hs2, rfl, HR4, HO2, k4⟩
  have Bn04 := Lib.hid (Bn03.out.keep k4 (by have := hn0.out; have := hgl.out; omega))
  have Bgc4 := Lib.hid (Bgc3.out.keep k4 (by have := hgc.out; have := hgl.out; omega))
  have kw4 := kw3.trans k4 (fun i hi h => h)
  clear kw3
  refine ⟨_, rfl, ?_⟩
  simp only [Act.put, List.setIfInBounds_toArray, List.set_cons_succ, List.set_cons_zero]
  refine l_val (o := ⟨some 94, _, _, _, _, _⟩) (.pointer (some ⟨g, 0, none⟩)) rfl (exec_move (.tmp 0) (.pointer (some ⟨g, 0, none⟩)) rfl (by kernel_rfl)) ?_
  simp only [Act.put, List.setIfInBounds_toArray, List.set_cons_succ, List.set_cons_zero]
  refine l_call (o := ⟨some 95, _, _, _, _, _⟩) 43 #[.pointer (some ⟨g, 0, none⟩)] rfl (exec_call 43 _ [.tmp 94] _ _ Try.func43 (by kernel_rfl) (by kernel_rfl) rfl (by kernel_rfl) _) ?_
  refine (rdU8 g b s2 w4 HR4 HO2).mono ?_
  rintro e w5 ⟨x3, s3, Hx3, Hs3, rfl, HR5, HO3, k5⟩
  have Bn05 := Lib.hid (Bn04.out.keep k5 (by have := hn0.out; have := hgl.out; omega))
  have Bgc5 := Lib.hid (Bgc4.out.keep k5 (by have := hgc.out; have := hgl.out; omega))
  have kw5 := kw4.trans k5 (fun i hi h => h)
  clear kw4
  refine ⟨_, rfl, ?_⟩
  simp only [Act.put, List.setIfInBounds_toArray, List.set_cons_succ, List.set_cons_zero]
  refine l_val (o := ⟨some 96, _, _, _, _, _⟩) (.pointer (some ⟨g, 0, none⟩)) rfl (exec_move (.tmp 0) (.pointer (some ⟨g, 0, none⟩)) rfl (by kernel_rfl)) ?_
  simp only [Act.put, List.setIfInBounds_toArray, List.set_cons_succ, List.set_cons_zero]
  refine l_call (o := ⟨some 97, _, _, _, _, _⟩) 43 #[.pointer (some ⟨g, 0, none⟩)] rfl (exec_call 43 _ [.tmp 96] _ _ Try.func43 (by kernel_rfl) (by kernel_rfl) rfl (by kernel_rfl) _) ?_
  refine (rdU8 g b s3 w5 HR5 HO3).mono ?_
  rintro e w6 ⟨x4, s4, Hx4, Hs4, rfl, HR6, HO4, k6⟩
  have Bn06 := Lib.hid (Bn05.out.keep k6 (by have := hn0.out; have := hgl.out; omega))
  have Bgc6 := Lib.hid (Bgc5.out.keep k6 (by have := hgc.out; have := hgl.out; omega))
  have kw6 := kw5.trans k6 (fun i hi h => h)
  clear kw5
  refine ⟨_, rfl, ?_⟩
  simp only [Act.put, List.setIfInBounds_toArray, List.set_cons_succ, List.set_cons_zero]
  refine l_val (o := ⟨some 98, _, _, _, _, _⟩) (.pointer (some ⟨g, 0, none⟩)) rfl (exec_move (.tmp 0) (.pointer (some ⟨g, 0, none⟩)) rfl (by kernel_rfl)) ?_
  simp only [Act.put, List.setIfInBounds_toArray, List.set_cons_succ, List.set_cons_zero]
  refine l_call (o := ⟨some 99, _, _, _, _, _⟩) 43 #[.pointer (some ⟨g, 0, none⟩)] rfl (exec_call 43 _ [.tmp 98] _ _ Try.func43 (by kernel_rfl) (by kernel_rfl) rfl (by kernel_rfl) _) ?_
  refine (rdU8 g b s4 w6 HR6 HO4).mono ?_
  rintro e w7 ⟨x5, s5, Hx5, Hs5, rfl, HR7, HO5, k7⟩
  have Bn07 := Lib.hid (Bn06.out.keep k7 (by have := hn0.out; have := hgl.out; omega))
  have Bgc7 := Lib.hid (Bgc6.out.keep k7 (by have := hgc.out; have := hgl.out; omega))
  have kw7 := kw6.trans k7 (fun i hi h => h)
  clear kw6
  refine ⟨_, rfl, ?_⟩
  simp only [Act.put, List.setIfInBounds_toArray, List.set_cons_succ, List.set_cons_zero]
  refine l_val (o := ⟨some 100, _, _, _, _, _⟩) (.pointer (some ⟨gc, 1, none⟩)) rfl (exec_fld 28 1 1 (.tmp 3) (gc) rfl (by kernel_rfl) (by kernel_rfl)) ?_
  simp only [Act.put, List.setIfInBounds_toArray, List.set_cons_succ, List.set_cons_zero]
  refine l_setf (o := ⟨none, _, _, _, _, _⟩) gc 1 28 (Cmd.z 9).l zeros32 x2 (.tmp 100) (.tmp 93) rfl rfl (by kernel_rfl) (by kernel_rfl) Bgc7.out (by simp [Cmd.l]) ?_
  intro w8 b8 k8 z8
  have Bgc8 : Hid (Blk w8 gc 28 (stc ((Cmd.z 9).l.set 1 x2) zeros32)) := b8
  have Bn08 := Lib.hid (Bn07.out.keep k8 (by have := hn0.out; have := hgc.out; have := hnc.out; omega))
  have HR8 := Lib.hid (HR7.out.keep k8 (by have := hgl.out; have := hgc.out; omega) (by have := hbl.out; have := hgc.out; omega))
  have kw8 := kw7.trans k8 (fun i hi h => by have := hgc.out; omega)
  clear kw7
  simp only [Act.put]
  refine l_val (o := ⟨some 101, _, _, _, _, _⟩) (.pointer (some ⟨gc, 11, none⟩)) rfl (exec_fld 28 11 11 (.tmp 3) (gc) rfl (by kernel_rfl) (by kernel_rfl)) ?_
  simp only [Act.put, List.setIfInBounds_toArray, List.set_cons_succ, List.set_cons_zero]
  refine l_setf (o := ⟨none, _, _, _, _, _⟩) gc 11 28 ((Cmd.z 9).l.set 1 x2) zeros32 x3 (.tmp 101) (.tmp 95) rfl rfl (by kernel_rfl) (by kernel_rfl) Bgc8.out (by simp [Cmd.l]) ?_
  intro w9 b9 k9 z9
  have Bgc9 : Hid (Blk w9 gc 28 (stc (((Cmd.z 9).l.set 1 x2).set 11 x3) zeros32)) := b9
  have Bn09 := Lib.hid (Bn08.out.keep k9 (by have := hn0.out; have := hgc.out; have := hnc.out; omega))
  have HR9 := Lib.hid (HR8.out.keep k9 (by have := hgl.out; have := hgc.out; omega) (by have := hbl.out; have := hgc.out; omega))
  have kw9 := kw8.trans k9 (fun i hi h => by have := hgc.out; omega)
  clear kw8
  simp only [Act.put]
  refine l_val (o := ⟨some 102, _, _, _, _, _⟩) (.pointer (some ⟨gc, 12, none⟩)) rfl (exec_fld 28 12 12 (.tmp 3) (gc) rfl (by kernel_rfl) (by kernel_rfl)) ?_
  simp only [Act.put, List.setIfInBounds_toArray, List.set_cons_succ, List.set_cons_zero]
  refine l_setf (o := ⟨none, _, _, _, _, _⟩) gc 12 28 (((Cmd.z 9).l.set 1 x2).set 11 x3) zeros32 x4 (.tmp 102) (.tmp 97) rfl rfl (by kernel_rfl) (by kernel_rfl) Bgc9.out (by simp [Cmd.l]) ?_
  intro w10 b10 k10 z10
  have Bgc10 : Hid (Blk w10 gc 28 (stc ((((Cmd.z 9).l.set 1 x2).set 11 x3).set 12 x4) zeros32)) := b10
  have Bn010 := Lib.hid (Bn09.out.keep k10 (by have := hn0.out; have := hgc.out; have := hnc.out; omega))
  have HR10 := Lib.hid (HR9.out.keep k10 (by have := hgl.out; have := hgc.out; omega) (by have := hbl.out; have := hgc.out; omega))
  have kw10 := kw9.trans k10 (fun i hi h => by have := hgc.out; omega)
  clear kw9
  simp only [Act.put]
  refine l_val (o := ⟨some 103, _, _, _, _, _⟩) (.pointer (some ⟨gc, 13, none⟩)) rfl (exec_fld 28 13 13 (.tmp 3) (gc) rfl (by kernel_rfl) (by kernel_rfl)) ?_
  simp only [Act.put, List.setIfInBounds_toArray, List.set_cons_succ, List.set_cons_zero]
  refine l_setf (o := ⟨none, _, _, _, _, _⟩) gc 13 28 ((((Cmd.z 9).l.set 1 x2).set 11 x3).set 12 x4) zeros32 x5 (.tmp 103) (.tmp 99) rfl rfl (by kernel_rfl) (by kernel_rfl) Bgc10.out (by simp [Cmd.l]) ?_
  intro w11 b11 k11 z11
  have Bgc11 : Hid (Blk w11 gc 28 (stc (((((Cmd.z 9).l.set 1 x2).set 11 x3).set 12 x4).set 13 x5) zeros32)) := b11
  have Bn011 := Lib.hid (Bn010.out.keep k11 (by have := hn0.out; have := hgc.out; have := hnc.out; omega))
  have HR11 := Lib.hid (HR10.out.keep k11 (by have := hgl.out; have := hgc.out; omega) (by have := hbl.out; have := hgc.out; omega))
  have kw11 := kw10.trans k11 (fun i hi h => by have := hgc.out; omega)
  clear kw10
  simp only [Act.put]
  refine wpList_nil ?_
  go_upto_region 19 with fail
  have hlen : (stc (((((Cmd.z 9).l.set 1 x2).set 11 x3).set 12 x4).set 13 x5) zeros32).length = 46 := by rw [stc_len]; rfl
  refine wp_region_lit ?_
  refine l_val (o := ⟨some 104, _, _, _, _, _⟩) (.agg (stc (((((Cmd.z 9).l.set 1 x2).set 11 x3).set 12 x4).set 13 x5) zeros32).toArray) rfl (exec_loadS 28 (.tmp 3) gc 28 (stc (((((Cmd.z 9).l.set 1 x2).set 11 x3).set 12 x4).set 13 x5) zeros32) _ rfl (by kernel_rfl) Bgc11.out Try.underlying28 (by rw [hlen]; exact cmd_size)) ?_
  simp only [Act.put, List.setIfInBounds_toArray, List.set_cons_succ, List.set_cons_zero]
  refine l_setS (o := ⟨none, _, _, _, _, _⟩) 28 n0 28 (Cmd.z 0).cells (stc (((((Cmd.z 9).l.set 1 x2).set 11 x3).set 12 x4).set 13 x5) zeros32) (.tmp 2) (.tmp 104) rfl rfl (by kernel_rfl) (by kernel_rfl) Bn011.out (by rw [hlen]; exact cmd_size) (by rw [hlen]; rfl) (stc_one _ _) ?_
  intro w12 b12 k12 z12
  have Bf : Hid (Blk w12 n0 28 (stc (((((Cmd.z 9).l.set 1 x2).set 11 x3).set 12 x4).set 13 x5) zeros32)) := b12
  have HR12 := Lib.hid (HR11.out.keep k12 (by have := hgl.out; have := hn0.out; omega) (by have := hbl.out; have := hn0.out; omega))
  have kw12 := kw11.trans k12 (fun i hi h => by have := hn0.out; omega)
  clear kw11
  simp only [Act.put]
  refine wpList_nil ?_
  go_wp2
  refine bodyPost_ret (results_cell_row (p := 2) (ty := 28) rfl _ _ n0 28 (stc (((((Cmd.z 9).l.set 1 x2).set 11 x3).set 12 x4).set 13 x5) zeros32).toArray (0, 0) _ rfl Bf.out Try.underlying28 rfl (by simpa [hlen] using cmd_size)) rfl ?_
  have f1 := Hs1.out
  have f2 := Hs2.out
  have e2 := Hx2.out
  have f3 := Hs3.out
  have e3 := Hx3.out
  have f4 := Hs4.out
  have e4 := Hx4.out
  have f5 := Hs5.out
  have e5 := Hx5.out
  have hcmd : stc (((((Cmd.z 9).l.set 1 x2).set 11 x3).set 12 x4).set 13 x5) zeros32 = s0.cmd.cells ∧ s0.rest = s5 := by
    unfold RS.cmd RS.rest
    rw [hkk.out]
    subst f1
    subst e2
    subst f2
    subst e3
    subst f3
    subst e4
    subst f4
    subst e5
    subst f5
    exact ⟨rfl, rfl⟩
  rw [hcmd.1]
  refine ⟨rfl, ?_, kw12⟩
  rw [hcmd.2]
  exact HR12.out

set_option maxRecDepth 100000 in
set_option maxHeartbeats 3200000 in
theorem read_d (g b : Nat) (s0 : RS) (w : World) (HR : Hid (Rd w g b s0)) (HO0 : Hid s0.ok) (d1 : ((s0.kind : Int) == 1) = false) (d2 : ((s0.kind : Int) == 2) = false) (d3 : ((s0.kind : Int) == 3) = false) (d4 : ((s0.kind : Int) == 4) = false) (d5 : ((s0.kind : Int) == 5) = false) (d6 : ((s0.kind : Int) == 6) = false) (d9 : ((s0.kind : Int) == 9) = false) : Calls Try.prog 28 #[.pointer (some ⟨g, 0, none⟩)] w (ReadIn w g b s0) := by
  have hgl : Hid (g < w.heap.size) := HR.out.lt.1
  have hbl : Hid (b < w.heap.size) := HR.out.lt.2
  have kw : Keep (· = g) w w := Keep.refl _ w
  obtain ⟨k0, hk0⟩ : ∃ k0, k0 = s0.kind := ⟨_, rfl⟩
  rw [← hk0] at d1 d2 d3 d4 d5 d6 d9
  have HK := Lib.hid hk0
  clear hk0
  go_enter Try.func28, Try.ntmps28
  go_upto_region 0 with fail
  refine wp_region_lit ?_
  refine l_alloc (o := ⟨some 2, _, _, _, _, _⟩) 28 (Cmd.z 0).cells rfl rfl cmd_zero ?_
  intro w0 b0 z0 k0_
  simp only [Act.put, List.setIfInBounds_toArray, List.set_cons_succ, List.set_cons_zero]
  refine wpList_nil ?_
  have kw0 := kw.kept k0_
  have HR0 := Lib.hid (HR.out.kept k0_)
  clear kw HR
  obtain ⟨n0, hn⟩ : ∃ n0, n0 = w.heap.size := ⟨_, rfl⟩
  rw [← hn] at b0 ⊢
  have hn0 : Hid (w.heap.size ≤ n0) := by show _ ≤ _; omega
  have hl0 : Hid (n0 < w0.heap.size) := by show _ < _; omega
  have Bn00 : Hid (Blk w0 n0 28 (Cmd.z 0).cells) := b0
  clear hn b0 z0 k0_
  go_upto_region 1 with fail
  refine wp_region_lit ?_
  refine l_val (o := ⟨some 4, _, _, _, _, _⟩) (.pointer (some ⟨g, 0, none⟩)) rfl (exec_move (.tmp 0) (.pointer (some ⟨g, 0, none⟩)) rfl (by kernel_rfl)) ?_
  simp only [Act.put, List.setIfInBounds_toArray, List.set_cons_succ, List.set_cons_zero]
  refine l_call (o := ⟨some 5, _, _, _, _, _⟩) 43 #[.pointer (some ⟨g, 0, none⟩)] rfl (exec_call 43 _ [.tmp 4] _ _ Try.func43 (by kernel_rfl) (by kernel_rfl) rfl (by kernel_rfl) _) ?_
  refine (rdU8 g b s0 w0 HR0 HO0).mono ?_
  rintro e w1 ⟨x1, s1, Hx1, Hs1, rfl, HR1, HO1, k1⟩
  have Bn01 := Lib.hid (Bn00.out.keep k1 (by have := hn0.out; have := hgl.out; omega))
  have kw1 := kw0.trans k1 (fun i hi h => h)
  clear kw0
  refine ⟨_, rfl, ?_⟩
  simp only [Act.put, List.setIfInBounds_toArray, List.set_cons_succ, List.set_cons_zero]
  refine l_val (o := ⟨some 6, _, _, _, _, _⟩) ((Cmd.z x1).v) rfl (exec_build 28 _ (Cmd.z x1).cells rfl (by kernel_rfl)) ?_
  simp only [Act.put, List.setIfInBounds_toArray, List.set_cons_succ, List.set_cons_zero]
  refine l_alloc (o := ⟨some 3, _, _, _, _, _⟩) 28 (Cmd.z 0).cells rfl rfl cmd_zero ?_
  intro w2 b2 z2 k2
  obtain ⟨gc, hgc_⟩ : ∃ gc, gc = w1.heap.size := ⟨_, rfl⟩
  rw [← hgc_] at b2 ⊢
  have hnc : Hid (n0 < gc) := by show _ < _; have := hl0.out; have := Bn01.out.lt; omega
  have hgc : Hid (w.heap.size ≤ gc) := by show _ ≤ _; have := hnc.out; have := hn0.out; omega
  clear hgc_
  have Bn02 := Lib.hid (Bn01.out.kept k2)
  have HR2 := Lib.hid (HR1.out.kept k2)
  have kw2 := kw1.kept k2
  clear kw1
  simp only [Act.put, List.setIfInBounds_toArray, List.set_cons_succ, List.set_cons_zero]
  refine l_setS (o := ⟨none, _, _, _, _, _⟩) 28 gc 28 (Cmd.z 0).cells (Cmd.z x1).cells (.tmp 3) (.tmp 6) rfl rfl (by kernel_rfl) (by kernel_rfl) b2 cmd_size rfl (stc_one _ _) ?_
  intro w3 b3 k3 z3
  have Bgc3 : Hid (Blk w3 gc 28 (stc (Cmd.z x1).l zeros32)) := b3
  have Bn03 := Lib.hid (Bn02.out.keep k3 (by have := hn0.out; have := hgc.out; have := hnc.out; omega))
  have HR3 := Lib.hid (HR2.out.keep k3 (by have := hgl.out; have := hgc.out; omega) (by have := hbl.out; have := hgc.out; omega))
  have kw3 := kw2.trans k3 (fun i hi h => by have := hgc.out; omega)
  clear kw2
  simp only [Act.put]
  refine wpList_nil ?_
  obtain rfl : x1 = k0 := Hx1.out.trans HK.out.symm
  have hc : w3.cell? ⟨gc, 0, none⟩ = some (.int .i64 x1) := Bgc3.out.fld 0 _ rfl
  go_upto_region 19 with fail
  have hlen : (stc (Cmd.z x1).l zeros32).length = 46 := by rw [stc_len]; rfl
  refine wp_region_lit ?_
  refine l_val (o := ⟨some 104, _, _, _, _, _⟩) (.agg (stc (Cmd.z x1).l zeros32).toArray) rfl (exec_loadS 28 (.tmp 3) gc 28 (stc (Cmd.z x1).l zeros32) _ rfl (by kernel_rfl) Bgc3.out Try.underlying28 (by rw [hlen]; exact cmd_size)) ?_
  simp only [Act.put, List.setIfInBounds_toArray, List.set_cons_succ, List.set_cons_zero]
  refine l_setS (o := ⟨none, _, _, _, _, _⟩) 28 n0 28 (Cmd.z 0).cells (stc (Cmd.z x1).l zeros32) (.tmp 2) (.tmp 104) rfl rfl (by kernel_rfl) (by kernel_rfl) Bn03.out (by rw [hlen]; exact cmd_size) (by rw [hlen]; rfl) (stc_one _ _) ?_
  intro w4 b4 k4 z4
  have Bf : Hid (Blk w4 n0 28 (stc (Cmd.z x1).l zeros32)) := b4
  have HR4 := Lib.hid (HR3.out.keep k4 (by have := hgl.out; have := hn0.out; omega) (by have := hbl.out; have := hn0.out; omega))
  have kw4 := kw3.trans k4 (fun i hi h => by have := hn0.out; omega)
  clear kw3
  simp only [Act.put]
  refine wpList_nil ?_
  go_wp2
  refine bodyPost_ret (results_cell_row (p := 2) (ty := 28) rfl _ _ n0 28 (stc (Cmd.z x1).l zeros32).toArray (0, 0) _ rfl Bf.out Try.underlying28 rfl (by simpa [hlen] using cmd_size)) rfl ?_
  have f1 := Hs1.out
  have hcmd : stc (Cmd.z x1).l zeros32 = s0.cmd.cells ∧ s0.rest = s1 := by
    unfold RS.cmd RS.rest
    subst f1
    have hk := Hx1.out
    have hk2 : s0.kind = x1 := hk.symm
    rw [hk2]
    have E1 : x1 ≠ 1 := by simpa using d1
    have E2 : x1 ≠ 2 := by simpa using d2
    have E3 : x1 ≠ 3 := by simpa using d3
    have E4 : x1 ≠ 4 := by simpa using d4
    have E5 : x1 ≠ 5 := by simpa using d5
    have E6 : x1 ≠ 6 := by simpa using d6
    have E9 : x1 ≠ 9 := by simpa using d9
    have hp : plan x1 = [] := by simp [plan, E1, E2, E3, E4, E5, E6, E9]
    rw [hp]
    have ho : Cmd.of x1 [] = Cmd.z x1 := by simp [Cmd.of, E1, E2, E3, E4, E5, E6, E9]
    exact ⟨by show _ = (Cmd.of x1 []).cells; rw [ho]; rfl, rfl⟩
  rw [hcmd.1]
  refine ⟨rfl, ?_, kw4⟩
  rw [hcmd.2]
  exact HR4.out

theorem readc_any (g b : Nat) (s : RS) (w : World) (HR : Hid (Rd w g b s)) (HO : Hid s.ok) : Calls Try.prog 28 #[.pointer (some ⟨g, 0, none⟩)] w (ReadIn w g b s) := by
  by_cases h1 : s.kind = 1
  · exact read_1 g b s w HR HO h1
  by_cases h2 : s.kind = 2
  · exact read_2 g b s w HR HO h2
  by_cases h3 : s.kind = 3
  · exact read_3 g b s w HR HO h3
  by_cases h4 : s.kind = 4
  · exact read_4 g b s w HR HO h4
  by_cases h5 : s.kind = 5
  · exact read_5 g b s w HR HO h5
  by_cases h6 : s.kind = 6
  · exact read_6 g b s w HR HO h6
  by_cases h9 : s.kind = 9
  · exact read_9 g b s w HR HO h9
  exact read_d g b s w HR HO (by simpa using h1) (by simpa using h2) (by simpa using h3) (by simpa using h4) (by simpa using h5) (by simpa using h6) (by simpa using h9)
end Go.Proofs.Ytdmeiffofmagjaa
