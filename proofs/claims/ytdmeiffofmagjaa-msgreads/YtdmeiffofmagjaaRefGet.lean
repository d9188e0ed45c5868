/-
  The contract of the document's GetCmd: a command out of bytes. Conditions: lengths.
-/
import Derived.Test.YtdmeiffofmagjaaMsgRt
import Derived.Test.YtdmeiffofmagjaaRefRight
import Derived.Test.YtdmeiffofmagjaaRefRd6
namespace Go.Proofs.Ytdmeiffofmagjaa
open Go.RowKit
set_option linter.unusedVariables false

set_option maxRecDepth 100000 in
set_option maxHeartbeats 6400000 in
theorem getc_1 (v : Value) (xs : List UInt8) (s0 : RS) (HS : Hid (s0 = RS.new xs)) (w : World) (hv : Bytes w v xs) (hl : xs.length ≤ 1000) (hkk : Hid (s0.kind = 1)) : Calls Try.prog 19 #[v] w (GotIn w xs) := by
  obtain ⟨A, L, c, rfl, hL, hx, h1, hcm_, h3⟩ := hv
  have hcm : Hid (c ≤ maxLen) := hcm_
  have HX := Lib.hid hx
  have HO0 : Hid s0.ok := by rw [HS.out]; exact ⟨Nat.zero_le _, by show xs.length ≤ _; omega⟩
  have hA : Hid (∀ ad, A = some ad → xs ≠ [] → ad.block < w.heap.size) := fun ad e hn => R8.lt (by rw [← e]; exact HX.out) hn
  have hLc : Hid (L ≤ c) := h1
  have kw : Kept w w := Kept.refl w
  clear hx h1 h3 hl hcm_
  go_enter Try.func19, Try.ntmps19
  go_upto_region 0 with fail
  refine wp_region_lit ?_
  refine l_alloc (o := ⟨some 2, _, _, _, _, _⟩) 28 (Cmd.z 0).cells rfl rfl cmd_zero ?_
  intro wa ba za ka
  simp only [Act.put, List.setIfInBounds_toArray, List.set_cons_succ, List.set_cons_zero]
  refine l_val (o := ⟨some 3, _, _, _, _, _⟩) (.bool false) rfl (exec_assign (.const (.bool false)) (.bool false) rfl (by kernel_rfl)) ?_
  simp only [Act.put, List.setIfInBounds_toArray, List.set_cons_succ, List.set_cons_zero]
  refine wpList_nil ?_
  obtain ⟨n0, hn⟩ : ∃ n0, n0 = w.heap.size := ⟨_, rfl⟩
  rw [← hn] at ba ⊢
  have hn0 : Hid (w.heap.size ≤ n0) := by show _ ≤ _; omega
  have hl0 : Hid (n0 < wa.heap.size) := by show _ < _; omega
  have Ba : Hid (Blk wa n0 28 (Cmd.z 0).cells) := ba
  clear hn ba za
  go_upto_region 1 with fail
  refine wp_region_lit ?_
  refine l_val (o := ⟨some 6, _, _, _, _, _⟩) (.slice A L c) rfl (exec_move (.tmp 0) (.slice A L c) rfl (by kernel_rfl)) ?_
  simp only [Act.put, List.setIfInBounds_toArray, List.set_cons_succ, List.set_cons_zero]
  refine l_val (o := ⟨some 7, _, _, _, _, _⟩) (.agg #[.slice A L c, .int .i64 0, .bool false]) rfl (exec_build 58 _ [.slice A L c, .int .i64 0, .bool false] rfl (by kernel_rfl)) ?_
  simp only [Act.put, List.setIfInBounds_toArray, List.set_cons_succ, List.set_cons_zero]
  refine l_new (o := ⟨some 8, _, _, _, _, _⟩) (.pointer (some ⟨wa.heap.size, 0, none⟩)) (wa.alloc (.cells ([.slice A L c, .int .i64 0, .bool false] : List Value).toArray 58)) rfl (exec_box 58 (.tmp 7) [.slice A L c, .int .i64 0, .bool false] rfl (by kernel_rfl)) ?_
  simp only [Act.put, List.setIfInBounds_toArray, List.set_cons_succ, List.set_cons_zero]
  refine l_val (o := ⟨some 4, _, _, _, _, _⟩) (.pointer (some ⟨wa.heap.size, 0, none⟩)) rfl (exec_assign (.tmp 8) (.pointer (some ⟨wa.heap.size, 0, none⟩)) rfl (by kernel_rfl)) ?_
  simp only [Act.put, List.setIfInBounds_toArray, List.set_cons_succ, List.set_cons_zero]
  refine wpList_nil ?_
  have k0_ : Kept wa (wa.alloc (.cells ([.slice A L c, .int .i64 0, .bool false] : List Value).toArray 58)) := (Keep.refl _ wa).alloc _
  have b0 := Blk.new wa 58 [.slice A L c, .int .i64 0, .bool false]
  generalize wa.alloc (.cells ([.slice A L c, .int .i64 0, .bool false] : List Value).toArray 58) = w0 at k0_ b0 ⊢
  obtain ⟨g, hg⟩ : ∃ g, g = wa.heap.size := ⟨_, rfl⟩
  rw [← hg] at b0 ⊢
  have hgn : Hid (n0 < g) := by show _ < _; have := hl0.out; omega
  have hbig : Hid (w.heap.size ≤ g) := by show _ ≤ _; have := hgn.out; have := hn0.out; omega
  have kw0 := (kw.trans ka).trans k0_
  have Bn00 := Lib.hid (Ba.out.kept k0_)
  have HR0 : Hid (FRd w0 g A L c s0) := by
    rw [HS.out]
    exact ⟨hL, b0, (HX.out.kept ka).kept k0_, fun ad e hn => by have := hA.out ad e hn; have := hbig.out; omega, hLc.out⟩
  have HX0 : Hid (s0.xs = xs) := by rw [HS.out]; rfl
  clear hg b0 k0_ ka kw hl0 Ba
  go_upto_region 2 with fail
  refine wp_region_lit ?_
  refine l_val (o := ⟨some 9, _, _, _, _, _⟩) (.pointer (some ⟨g, 0, none⟩)) rfl (exec_move (.tmp 4) (.pointer (some ⟨g, 0, none⟩)) rfl (by kernel_rfl)) ?_
  simp only [Act.put, List.setIfInBounds_toArray, List.set_cons_succ, List.set_cons_zero]
  refine l_call (o := ⟨some 10, _, _, _, _, _⟩) 34 #[.pointer (some ⟨g, 0, none⟩)] rfl (exec_call 34 _ [.tmp 9] _ _ Try.func34 (by kernel_rfl) (by kernel_rfl) rfl (by kernel_rfl) _) ?_
  refine (fdU8 g L c A s0 w0 HR0 HO0 hcm).mono ?_
  rintro e w1 ⟨x1, s1, Hx1, Hs1, HY1, rfl, HR1, HO1, k1⟩
  have HX1 := Lib.hid (HY1.out.trans HX0.out)
  have Bn01 := Lib.hid (Bn00.out.keep k1 (by have := hn0.out; have := hgn.out; omega))
  have kw1 : Kept w w1 := Keep.trans kw0 k1 (fun i hi h => by have := hbig.out; omega)
  clear kw0
  refine ⟨_, rfl, ?_⟩
  simp only [Act.put, List.setIfInBounds_toArray, List.set_cons_succ, List.set_cons_zero]
  refine l_val (o := ⟨some 11, _, _, _, _, _⟩) ((Cmd.z x1).v) rfl (exec_build 28 _ (Cmd.z x1).cells rfl (by kernel_rfl)) ?_
  simp only [Act.put, List.setIfInBounds_toArray, List.set_cons_succ, List.set_cons_zero]
  refine l_alloc (o := ⟨some 5, _, _, _, _, _⟩) 28 (Cmd.z 0).cells rfl rfl cmd_zero ?_
  intro w2 b2 z2 k2
  obtain ⟨gc, hgc_⟩ : ∃ gc, gc = w1.heap.size := ⟨_, rfl⟩
  rw [← hgc_] at b2 ⊢
  have hgg : Hid (n0 < g ∧ g < gc) := ⟨hgn.out, by have := HR1.out.2.1.lt; omega⟩
  have hnc : Hid (n0 < gc) := by show _ < _; have := hgg.out; omega
  have hgc : Hid (w.heap.size ≤ gc) := by show _ ≤ _; have := hnc.out; have := hn0.out; omega
  clear hgc_ hgn
  have hgn := hgg
  clear hgg
  have Bn02 := Lib.hid (Bn01.out.kept k2)
  have HR2 := Lib.hid (HR1.out.kept k2)
  have kw2 : Kept w w2 := Keep.kept kw1 k2
  clear kw1
  simp only [Act.put, List.setIfInBounds_toArray, List.set_cons_succ, List.set_cons_zero]
  refine l_setS (o := ⟨none, _, _, _, _, _⟩) 28 gc 28 (Cmd.z 0).cells (Cmd.z x1).cells (.tmp 5) (.tmp 11) rfl rfl (by kernel_rfl) (by kernel_rfl) b2 cmd_size rfl (stc_one _ _) ?_
  intro w3 b3 k3 z3
  have Bgc3 : Hid (Blk w3 gc 28 (stc (Cmd.z x1).l zeros32)) := b3
  have Bn03 := Lib.hid (Bn02.out.keep k3 (by have := hn0.out; have := hgc.out; have := hnc.out; omega))
  have HR3 := Lib.hid (HR2.out.off k3 (by have := hbig.out; have := hgc.out; have := hgn.out; omega) HX1.out (fun ad e hn => by have := hA.out ad e hn; have := hgc.out; omega))
  have kw3 : Kept w w3 := Keep.trans kw2 k3 (fun i hi h => by have := hgc.out; omega)
  clear kw2
  simp only [Act.put]
  refine wpList_nil ?_
  obtain rfl : x1 = 1 := Hx1.out.trans hkk.out
  have hc : w3.cell? ⟨gc, 0, none⟩ = some (.int .i64 1) := Bgc3.out.fld 0 _ rfl
  go_upto_region 5 with fail
  refine wp_region_lit ?_
  refine l_val (o := ⟨some 16, _, _, _, _, _⟩) (.pointer (some ⟨g, 0, none⟩)) rfl (exec_move (.tmp 4) (.pointer (some ⟨g, 0, none⟩)) rfl (by kernel_rfl)) ?_
  simp only [Act.put, List.setIfInBounds_toArray, List.set_cons_succ, List.set_cons_zero]
  refine l_call (o := ⟨some 17, _, _, _, _, _⟩) 34 #[.pointer (some ⟨g, 0, none⟩)] rfl (exec_call 34 _ [.tmp 16] _ _ Try.func34 (by kernel_rfl) (by kernel_rfl) rfl (by kernel_rfl) _) ?_
  refine (fdU8 g L c A s1 w3 HR3 HO1 hcm).mono ?_
  rintro e w4 ⟨x2, s2, Hx2, Hs2, HY2, rfl, HR4, HO2, k4⟩
  have HX2 := Lib.hid (HY2.out.trans HX1.out)
  have Bn04 := Lib.hid (Bn03.out.keep k4 (by have := hn0.out; have := hgn.out; omega))
  have Bgc4 := Lib.hid (Bgc3.out.keep k4 (by have := hgc.out; have := hgn.out; omega))
  have kw4 : Kept w w4 := Keep.trans kw3 k4 (fun i hi h => by have := hbig.out; omega)
  clear kw3
  refine ⟨_, rfl, ?_⟩
  simp only [Act.put, List.setIfInBounds_toArray, List.set_cons_succ, List.set_cons_zero]
  refine l_val (o := ⟨some 18, _, _, _, _, _⟩) (.pointer (some ⟨gc, 2, none⟩)) rfl (exec_fld 28 2 2 (.tmp 5) (gc) rfl (by kernel_rfl) (by kernel_rfl)) ?_
  simp only [Act.put, List.setIfInBounds_toArray, List.set_cons_succ, List.set_cons_zero]
  refine l_setf (o := ⟨none, _, _, _, _, _⟩) gc 2 28 (Cmd.z 1).l zeros32 x2 (.tmp 18) (.tmp 17) rfl rfl (by kernel_rfl) (by kernel_rfl) Bgc4.out (by simp [Cmd.l]) ?_
  intro w5 b5 k5 z5
  have Bgc5 : Hid (Blk w5 gc 28 (stc ((Cmd.z 1).l.set 2 x2) zeros32)) := b5
  have Bn05 := Lib.hid (Bn04.out.keep k5 (by have := hn0.out; have := hgc.out; have := hnc.out; omega))
  have HR5 := Lib.hid (HR4.out.off k5 (by have := hbig.out; have := hgc.out; have := hgn.out; omega) HX2.out (fun ad e hn => by have := hA.out ad e hn; have := hgc.out; omega))
  have kw5 : Kept w w5 := Keep.trans kw4 k5 (fun i hi h => by have := hgc.out; omega)
  clear kw4
  simp only [Act.put]
  refine wpList_nil ?_
  go_upto_region 19 with fail
  have f1 := Hs1.out
  have f2 := Hs2.out
  have e2 := Hx2.out
  have hcmd : stc ((Cmd.z 1).l.set 2 x2) zeros32 = s0.cmd.cells ∧ s0.rest = s2 := by
    unfold RS.cmd RS.rest
    rw [hkk.out]
    subst f1
    subst e2
    subst f2
    exact ⟨rfl, rfl⟩
  obtain ⟨d, hd⟩ : ∃ d, d = s0.cmd := ⟨_, rfl⟩
  have HC : Hid (Blk w5 gc 28 d.cells) := by rw [hd, ← hcmd.1]; exact Bgc5.out
  have HTd : Hid (d.tag.length = 32) := by rw [hd]; exact RS.cmd_tag _
  have HRf : Hid (FRd w5 g A L c s0.rest) := by rw [hcmd.2]; exact HR5.out
  have Hd := Lib.hid hd
  clear hd hcmd Bgc5 HR5 f1 f2 e2
  cases hF : s0.rest.fin with
  | false =>
    have HG : Hid (getB xs = (Cmd.z 0, false)) := by show _ = _; unfold getB; rw [← HS.out, hF]; rfl
    refine wp_text 7 [.eq (.pointer (some ⟨g, 0, none⟩)), .eq (.bool false), .eq (.bool true), .eq (.bool true), .eq undef, .eq undef, .eq undef] rfl (by kernel_rfl) ?_ ?_
    · refine fsteps_cons 1 rfl (fun a u hE hD hk => f_val (o := ⟨some 109, _, _, _, _, _⟩) (.pointer (some ⟨g, 0, none⟩)) rfl (wanted_none rfl _) (exec_move (.tmp 4) (.pointer (some ⟨g, 0, none⟩)) rfl (hE 4 (.pointer (some ⟨g, 0, none⟩)) (by kernel_rfl) (by kernel_rfl))) rfl) ?_
      refine fsteps_cons 2 rfl (fun a u hE hD hk => f_call (o := ⟨some 110, _, _, _, _, _⟩) 37 #[.pointer (some ⟨g, 0, none⟩)] rfl (wanted_none rfl _) (exec_call 37 _ [.tmp 109] _ [.pointer (some ⟨g, 0, none⟩)] Try.func37 (by kernel_rfl) (by kernel_rfl) rfl (show [a.eval (.tmp 109)] = [.pointer (some ⟨g, 0, none⟩)] from (by rw [show a.eval (.tmp 109) = .pointer (some ⟨g, 0, none⟩) from (hD 0 109 (by kernel_rfl))] <;> rfl)) u) ((gend_any g L c A s0.rest u (HRf.out.kept hk)).mono (fun e w' ⟨h1, k, h2⟩ => ⟨_, h1, by rw [hF]; rfl, by rw [h2]; exact kept_drewN u k⟩))) ?_
      refine fsteps_cons 3 rfl (fun a u hE hD hk => f_val (o := ⟨some 111, _, _, _, _, _⟩) (.bool true) rfl (wanted_none rfl _) (exec_not _ (.tmp 110) false rfl (hD 1 110 (by kernel_rfl))) rfl) ?_
      refine fsteps_cons 4 rfl (fun a u hE hD hk => f_val (o := ⟨some 112, _, _, _, _, _⟩) (.bool true) rfl (wanted_none rfl _) (exec_move (.tmp 111) (.bool true) rfl (hD 2 111 (by kernel_rfl))) rfl) ?_
      refine fsteps_cons 5 rfl (fun a u hE hD hk => f_skip (o := ⟨some 113, _, _, _, _, _⟩) rfl (wanted_at (b := false) true rfl rfl (hD 3 112 (by kernel_rfl))) rfl) ?_
      refine fsteps_cons 6 rfl (fun a u hE hD hk => f_skip (o := ⟨some 114, _, _, _, _, _⟩) rfl (wanted_at (b := false) true rfl rfl (hD 3 112 (by kernel_rfl))) rfl) ?_
      refine fsteps_cons 7 rfl (fun a u hE hD hk => f_skip (o := ⟨some 115, _, _, _, _, _⟩) rfl (wanted_at (b := false) true rfl rfl (hD 3 112 (by kernel_rfl))) rfl) ?_
      exact fsteps_nil
    intro gv wx hV kx
    rw [show dstsOf _ 7 = [109, 110, 111, 112, 113, 114, 115] by kernel_rfl]
    simp only [List.foldl_cons, List.foldl_nil, List.setIfInBounds_toArray, List.set_cons_succ, List.set_cons_zero, List.drop_succ_cons, List.drop_zero]
    rw [show gv 112 = .bool true from hV 3 112 (by kernel_rfl)]
    rw [show gv 115 = undef from hV 6 115 (by kernel_rfl)]
    clear hV
    have kwx := kw5.trans kx
    have Bx := Lib.hid (Bn05.out.kept kx)
    have Cx := Lib.hid (HC.out.kept kx)
    go_upto_region 20 with fail
    refine wp_region_lit ?_
    refine l_val (o := ⟨some 117, _, _, _, _, _⟩) ((Cmd.z 0).v) rfl (exec_build 28 [] (Cmd.z 0).cells rfl (by kernel_rfl)) ?_
    simp only [Act.put, List.setIfInBounds_toArray, List.set_cons_succ, List.set_cons_zero]
    refine l_setS (o := ⟨none, _, _, _, _, _⟩) 28 n0 28 (Cmd.z 0).cells (Cmd.z 0).cells (.tmp 2) (.tmp 117) rfl rfl (by kernel_rfl) (by kernel_rfl) Bx.out cmd_size rfl (stc_one _ _) ?_
    intro wy b_y ky zy
    have kwy : Kept w wy := Kept.trans' kwx ky (by have := hn0.out; omega)
    simp only [Act.put]
    refine l_val (o := ⟨some 3, _, _, _, _, _⟩) (.bool false) rfl (exec_assign (.const (.bool false)) (.bool false) rfl (by kernel_rfl)) ?_
    simp only [Act.put, List.setIfInBounds_toArray, List.set_cons_succ, List.set_cons_zero]
    refine wpList_nil ?_
    go_wp2
    refine bodyPost_ret (results_cmd (p := 2) (q := 3) rfl _ _ n0 _ (Cmd.z 0).cells false rfl rfl b_y rfl) rfl ?_
    refine ⟨?_, kwy⟩
    rw [HG.out]
    rfl
  | true =>
    cases hR : d.right with
    | false =>
      have HG : Hid (getB xs = (Cmd.z 0, false)) := by show _ = _; unfold getB; rw [← HS.out, hF, ← Hd.out, hR]; rfl
      refine wp_text 7 [.eq (.pointer (some ⟨g, 0, none⟩)), .eq (.bool true), .eq (.bool false), .eq (.bool false), .eq (d.v), .eq (.bool false), .eq (.bool true)] rfl (by kernel_rfl) ?_ ?_
      · refine fsteps_cons 1 rfl (fun a u hE hD hk => f_val (o := ⟨some 109, _, _, _, _, _⟩) (.pointer (some ⟨g, 0, none⟩)) rfl (wanted_none rfl _) (exec_move (.tmp 4) (.pointer (some ⟨g, 0, none⟩)) rfl (hE 4 (.pointer (some ⟨g, 0, none⟩)) (by kernel_rfl) (by kernel_rfl))) rfl) ?_
        refine fsteps_cons 2 rfl (fun a u hE hD hk => f_call (o := ⟨some 110, _, _, _, _, _⟩) 37 #[.pointer (some ⟨g, 0, none⟩)] rfl (wanted_none rfl _) (exec_call 37 _ [.tmp 109] _ [.pointer (some ⟨g, 0, none⟩)] Try.func37 (by kernel_rfl) (by kernel_rfl) rfl (show [a.eval (.tmp 109)] = [.pointer (some ⟨g, 0, none⟩)] from (by rw [show a.eval (.tmp 109) = .pointer (some ⟨g, 0, none⟩) from (hD 0 109 (by kernel_rfl))] <;> rfl)) u) ((gend_any g L c A s0.rest u (HRf.out.kept hk)).mono (fun e w' ⟨h1, k, h2⟩ => ⟨_, h1, by rw [hF]; rfl, by rw [h2]; exact kept_drewN u k⟩))) ?_
        refine fsteps_cons 3 rfl (fun a u hE hD hk => f_val (o := ⟨some 111, _, _, _, _, _⟩) (.bool false) rfl (wanted_none rfl _) (exec_not _ (.tmp 110) true rfl (hD 1 110 (by kernel_rfl))) rfl) ?_
        refine fsteps_cons 4 rfl (fun a u hE hD hk => f_val (o := ⟨some 112, _, _, _, _, _⟩) (.bool false) rfl (wanted_none rfl _) (exec_move (.tmp 111) (.bool false) rfl (hD 2 111 (by kernel_rfl))) rfl) ?_
        refine fsteps_cons 5 rfl (fun a u hE hD hk => f_val (o := ⟨some 113, _, _, _, _, _⟩) (d.v) rfl (wanted_at (b := false) false rfl rfl (hD 3 112 (by kernel_rfl))) (exec_loadS 28 (.tmp 5) (gc) _ d.cells _ rfl (hE 5 (.pointer (some ⟨gc, 0, none⟩)) (by kernel_rfl) (by kernel_rfl)) (HC.out.kept hk) Try.underlying28 (by rw [Cmd.cells_len _ HTd.out]; exact cmd_size)) rfl) ?_
        refine fsteps_cons 6 rfl (fun a u hE hD hk => f_call (o := ⟨some 114, _, _, _, _, _⟩) 14 #[d.v] rfl (wanted_at (b := false) false rfl rfl (hD 3 112 (by kernel_rfl))) (exec_call 14 _ [.tmp 113] _ [d.v] Try.func14 (by kernel_rfl) (by kernel_rfl) rfl (show [a.eval (.tmp 113)] = [d.v] from (by rw [show a.eval (.tmp 113) = d.v from (hD 4 113 (by kernel_rfl))] <;> rfl)) u) (right_is d false u HTd hR)) ?_
        refine fsteps_cons 7 rfl (fun a u hE hD hk => f_val (o := ⟨some 115, _, _, _, _, _⟩) (.bool true) rfl (wanted_at (b := false) false rfl rfl (hD 3 112 (by kernel_rfl))) (exec_not _ (.tmp 114) false rfl (hD 5 114 (by kernel_rfl))) rfl) ?_
        exact fsteps_nil
      intro gv wx hV kx
      rw [show dstsOf _ 7 = [109, 110, 111, 112, 113, 114, 115] by kernel_rfl]
      simp only [List.foldl_cons, List.foldl_nil, List.setIfInBounds_toArray, List.set_cons_succ, List.set_cons_zero, List.drop_succ_cons, List.drop_zero]
      rw [show gv 112 = .bool false from hV 3 112 (by kernel_rfl)]
      rw [show gv 115 = .bool true from hV 6 115 (by kernel_rfl)]
      clear hV
      have kwx := kw5.trans kx
      have Bx := Lib.hid (Bn05.out.kept kx)
      have Cx := Lib.hid (HC.out.kept kx)
      go_upto_region 20 with fail
      refine wp_region_lit ?_
      refine l_val (o := ⟨some 117, _, _, _, _, _⟩) ((Cmd.z 0).v) rfl (exec_build 28 [] (Cmd.z 0).cells rfl (by kernel_rfl)) ?_
      simp only [Act.put, List.setIfInBounds_toArray, List.set_cons_succ, List.set_cons_zero]
      refine l_setS (o := ⟨none, _, _, _, _, _⟩) 28 n0 28 (Cmd.z 0).cells (Cmd.z 0).cells (.tmp 2) (.tmp 117) rfl rfl (by kernel_rfl) (by kernel_rfl) Bx.out cmd_size rfl (stc_one _ _) ?_
      intro wy b_y ky zy
      have kwy : Kept w wy := Kept.trans' kwx ky (by have := hn0.out; omega)
      simp only [Act.put]
      refine l_val (o := ⟨some 3, _, _, _, _, _⟩) (.bool false) rfl (exec_assign (.const (.bool false)) (.bool false) rfl (by kernel_rfl)) ?_
      simp only [Act.put, List.setIfInBounds_toArray, List.set_cons_succ, List.set_cons_zero]
      refine wpList_nil ?_
      go_wp2
      refine bodyPost_ret (results_cmd (p := 2) (q := 3) rfl _ _ n0 _ (Cmd.z 0).cells false rfl rfl b_y rfl) rfl ?_
      refine ⟨?_, kwy⟩
      rw [HG.out]
      rfl
    | true =>
      have HG : Hid (getB xs = (d, true)) := by show _ = _; unfold getB; rw [← HS.out, hF, ← Hd.out, hR]; rfl
      refine wp_text 7 [.eq (.pointer (some ⟨g, 0, none⟩)), .eq (.bool true), .eq (.bool false), .eq (.bool false), .eq (d.v), .eq (.bool true), .eq (.bool false)] rfl (by kernel_rfl) ?_ ?_
      · refine fsteps_cons 1 rfl (fun a u hE hD hk => f_val (o := ⟨some 109, _, _, _, _, _⟩) (.pointer (some ⟨g, 0, none⟩)) rfl (wanted_none rfl _) (exec_move (.tmp 4) (.pointer (some ⟨g, 0, none⟩)) rfl (hE 4 (.pointer (some ⟨g, 0, none⟩)) (by kernel_rfl) (by kernel_rfl))) rfl) ?_
        refine fsteps_cons 2 rfl (fun a u hE hD hk => f_call (o := ⟨some 110, _, _, _, _, _⟩) 37 #[.pointer (some ⟨g, 0, none⟩)] rfl (wanted_none rfl _) (exec_call 37 _ [.tmp 109] _ [.pointer (some ⟨g, 0, none⟩)] Try.func37 (by kernel_rfl) (by kernel_rfl) rfl (show [a.eval (.tmp 109)] = [.pointer (some ⟨g, 0, none⟩)] from (by rw [show a.eval (.tmp 109) = .pointer (some ⟨g, 0, none⟩) from (hD 0 109 (by kernel_rfl))] <;> rfl)) u) ((gend_any g L c A s0.rest u (HRf.out.kept hk)).mono (fun e w' ⟨h1, k, h2⟩ => ⟨_, h1, by rw [hF]; rfl, by rw [h2]; exact kept_drewN u k⟩))) ?_
        refine fsteps_cons 3 rfl (fun a u hE hD hk => f_val (o := ⟨some 111, _, _, _, _, _⟩) (.bool false) rfl (wanted_none rfl _) (exec_not _ (.tmp 110) true rfl (hD 1 110 (by kernel_rfl))) rfl) ?_
        refine fsteps_cons 4 rfl (fun a u hE hD hk => f_val (o := ⟨some 112, _, _, _, _, _⟩) (.bool false) rfl (wanted_none rfl _) (exec_move (.tmp 111) (.bool false) rfl (hD 2 111 (by kernel_rfl))) rfl) ?_
        refine fsteps_cons 5 rfl (fun a u hE hD hk => f_val (o := ⟨some 113, _, _, _, _, _⟩) (d.v) rfl (wanted_at (b := false) false rfl rfl (hD 3 112 (by kernel_rfl))) (exec_loadS 28 (.tmp 5) (gc) _ d.cells _ rfl (hE 5 (.pointer (some ⟨gc, 0, none⟩)) (by kernel_rfl) (by kernel_rfl)) (HC.out.kept hk) Try.underlying28 (by rw [Cmd.cells_len _ HTd.out]; exact cmd_size)) rfl) ?_
        refine fsteps_cons 6 rfl (fun a u hE hD hk => f_call (o := ⟨some 114, _, _, _, _, _⟩) 14 #[d.v] rfl (wanted_at (b := false) false rfl rfl (hD 3 112 (by kernel_rfl))) (exec_call 14 _ [.tmp 113] _ [d.v] Try.func14 (by kernel_rfl) (by kernel_rfl) rfl (show [a.eval (.tmp 113)] = [d.v] from (by rw [show a.eval (.tmp 113) = d.v from (hD 4 113 (by kernel_rfl))] <;> rfl)) u) (right_is d true u HTd hR)) ?_
        refine fsteps_cons 7 rfl (fun a u hE hD hk => f_val (o := ⟨some 115, _, _, _, _, _⟩) (.bool false) rfl (wanted_at (b := false) false rfl rfl (hD 3 112 (by kernel_rfl))) (exec_not _ (.tmp 114) true rfl (hD 5 114 (by kernel_rfl))) rfl) ?_
        exact fsteps_nil
      intro gv wx hV kx
      rw [show dstsOf _ 7 = [109, 110, 111, 112, 113, 114, 115] by kernel_rfl]
      simp only [List.foldl_cons, List.foldl_nil, List.setIfInBounds_toArray, List.set_cons_succ, List.set_cons_zero, List.drop_succ_cons, List.drop_zero]
      rw [show gv 112 = .bool false from hV 3 112 (by kernel_rfl)]
      rw [show gv 115 = .bool false from hV 6 115 (by kernel_rfl)]
      clear hV
      have kwx := kw5.trans kx
      have Bx := Lib.hid (Bn05.out.kept kx)
      have Cx := Lib.hid (HC.out.kept kx)
      go_upto_region 21 with fail
      refine wp_region_lit ?_
      refine l_val (o := ⟨some 118, _, _, _, _, _⟩) (d.v) rfl (exec_loadS 28 (.tmp 5) gc 28 d.cells _ rfl (by kernel_rfl) Cx.out Try.underlying28 (by rw [Cmd.cells_len d HTd.out]; exact cmd_size)) ?_
      simp only [Act.put, List.setIfInBounds_toArray, List.set_cons_succ, List.set_cons_zero]
      refine l_setS (o := ⟨none, _, _, _, _, _⟩) 28 n0 28 (Cmd.z 0).cells d.cells (.tmp 2) (.tmp 118) rfl rfl (by kernel_rfl) (by kernel_rfl) Bx.out (by rw [Cmd.cells_len d HTd.out]; exact cmd_size) (by rw [Cmd.cells_len d HTd.out]; rfl) (stc_one _ _) ?_
      intro wy b_y ky zy
      have kwy : Kept w wy := Kept.trans' kwx ky (by have := hn0.out; omega)
      simp only [Act.put]
      refine l_val (o := ⟨some 3, _, _, _, _, _⟩) (.bool true) rfl (exec_assign (.const (.bool true)) (.bool true) rfl (by kernel_rfl)) ?_
      simp only [Act.put, List.setIfInBounds_toArray, List.set_cons_succ, List.set_cons_zero]
      refine wpList_nil ?_
      go_wp2
      refine bodyPost_ret (results_cmd (p := 2) (q := 3) rfl _ _ n0 _ d.cells true rfl rfl b_y (Cmd.cells_len d HTd.out)) rfl ?_
      refine ⟨?_, kwy⟩
      rw [HG.out]
      rfl

set_option maxRecDepth 100000 in
set_option maxHeartbeats 6400000 in
theorem getc_2 (v : Value) (xs : List UInt8) (s0 : RS) (HS : Hid (s0 = RS.new xs)) (w : World) (hv : Bytes w v xs) (hl : xs.length ≤ 1000) (hkk : Hid (s0.kind = 2)) : Calls Try.prog 19 #[v] w (GotIn w xs) := by
  obtain ⟨A, L, c, rfl, hL, hx, h1, hcm_, h3⟩ := hv
  have hcm : Hid (c ≤ maxLen) := hcm_
  have HX := Lib.hid hx
  have HO0 : Hid s0.ok := by rw [HS.out]; exact ⟨Nat.zero_le _, by show xs.length ≤ _; omega⟩
  have hA : Hid (∀ ad, A = some ad → xs ≠ [] → ad.block < w.heap.size) := fun ad e hn => R8.lt (by rw [← e]; exact HX.out) hn
  have hLc : Hid (L ≤ c) := h1
  have kw : Kept w w := Kept.refl w
  clear hx h1 h3 hl hcm_
  go_enter Try.func19, Try.ntmps19
  go_upto_region 0 with fail
  refine wp_region_lit ?_
  refine l_alloc (o := ⟨some 2, _, _, _, _, _⟩) 28 (Cmd.z 0).cells rfl rfl cmd_zero ?_
  intro wa ba za ka
  simp only [Act.put, List.setIfInBounds_toArray, List.set_cons_succ, List.set_cons_zero]
  refine l_val (o := ⟨some 3, _, _, _, _, _⟩) (.bool false) rfl (exec_assign (.const (.bool false)) (.bool false) rfl (by kernel_rfl)) ?_
  simp only [Act.put, List.setIfInBounds_toArray, List.set_cons_succ, List.set_cons_zero]
  refine wpList_nil ?_
  obtain ⟨n0, hn⟩ : ∃ n0, n0 = w.heap.size := ⟨_, rfl⟩
  rw [← hn] at ba ⊢
  have hn0 : Hid (w.heap.size ≤ n0) := by show _ ≤ _; omega
  have hl0 : Hid (n0 < wa.heap.size) := by show _ < _; omega
  have Ba : Hid (Blk wa n0 28 (Cmd.z 0).cells) := ba
  clear hn ba za
  go_upto_region 1 with fail
  refine wp_region_lit ?_
  refine l_val (o := ⟨some 6, _, _, _, _, _⟩) (.slice A L c) rfl (exec_move (.tmp 0) (.slice A L c) rfl (by kernel_rfl)) ?_
  simp only [Act.put, List.setIfInBounds_toArray, List.set_cons_succ, List.set_cons_zero]
  refine l_val (o := ⟨some 7, _, _, _, _, _⟩) (.agg #[.slice A L c, .int .i64 0, .bool false]) rfl (exec_build 58 _ [.slice A L c, .int .i64 0, .bool false] rfl (by kernel_rfl)) ?_
  simp only [Act.put, List.setIfInBounds_toArray, List.set_cons_succ, List.set_cons_zero]
  refine l_new (o := ⟨some 8, _, _, _, _, _⟩) (.pointer (some ⟨wa.heap.size, 0, none⟩)) (wa.alloc (.cells ([.slice A L c, .int .i64 0, .bool false] : List Value).toArray 58)) rfl (exec_box 58 (.tmp 7) [.slice A L c, .int .i64 0, .bool false] rfl (by kernel_rfl)) ?_
  simp only [Act.put, List.setIfInBounds_toArray, List.set_cons_succ, List.set_cons_zero]
  refine l_val (o := ⟨some 4, _, _, _, _, _⟩) (.pointer (some ⟨wa.heap.size, 0, none⟩)) rfl (exec_assign (.tmp 8) (.pointer (some ⟨wa.heap.size, 0, none⟩)) rfl (by kernel_rfl)) ?_
  simp only [Act.put, List.setIfInBounds_toArray, List.set_cons_succ, List.set_cons_zero]
  refine wpList_nil ?_
  have k0_ : Kept wa (wa.alloc (.cells ([.slice A L c, .int .i64 0, .bool false] : List Value).toArray 58)) := (Keep.refl _ wa).alloc _
  have b0 := Blk.new wa 58 [.slice A L c, .int .i64 0, .bool false]
  generalize wa.alloc (.cells ([.slice A L c, .int .i64 0, .bool false] : List Value).toArray 58) = w0 at k0_ b0 ⊢
  obtain ⟨g, hg⟩ : ∃ g, g = wa.heap.size := ⟨_, rfl⟩
  rw [← hg] at b0 ⊢
  have hgn : Hid (n0 < g) := by show _ < _; have := hl0.out; omega
  have hbig : Hid (w.heap.size ≤ g) := by show _ ≤ _; have := hgn.out; have := hn0.out; omega
  have kw0 := (kw.trans ka).trans k0_
  have Bn00 := Lib.hid (Ba.out.kept k0_)
  have HR0 : Hid (FRd w0 g A L c s0) := by
    rw [HS.out]
    exact ⟨hL, b0, (HX.out.kept ka).kept k0_, fun ad e hn => by have := hA.out ad e hn; have := hbig.out; omega, hLc.out⟩
  have HX0 : Hid (s0.xs = xs) := by rw [HS.out]; rfl
  clear hg b0 k0_ ka kw hl0 Ba
  go_upto_region 2 with fail
  refine wp_region_lit ?_
  refine l_val (o := ⟨some 9, _, _, _, _, _⟩) (.pointer (some ⟨g, 0, none⟩)) rfl (exec_move (.tmp 4) (.pointer (some ⟨g, 0, none⟩)) rfl (by kernel_rfl)) ?_
  simp only [Act.put, List.setIfInBounds_toArray, List.set_cons_succ, List.set_cons_zero]
  refine l_call (o := ⟨some 10, _, _, _, _, _⟩) 34 #[.pointer (some ⟨g, 0, none⟩)] rfl (exec_call 34 _ [.tmp 9] _ _ Try.func34 (by kernel_rfl) (by kernel_rfl) rfl (by kernel_rfl) _) ?_
  refine (fdU8 g L c A s0 w0 HR0 HO0 hcm).mono ?_
  rintro e w1 ⟨x1, s1, Hx1, Hs1, HY1, rfl, HR1, HO1, k1⟩
  have HX1 := Lib.hid (HY1.out.trans HX0.out)
  have Bn01 := Lib.hid (Bn00.out.keep k1 (by have := hn0.out; have := hgn.out; omega))
  have kw1 : Kept w w1 := Keep.trans kw0 k1 (fun i hi h => by have := hbig.out; omega)
  clear kw0
  refine ⟨_, rfl, ?_⟩
  simp only [Act.put, List.setIfInBounds_toArray, List.set_cons_succ, List.set_cons_zero]
  refine l_val (o := ⟨some 11, _, _, _, _, _⟩) ((Cmd.z x1).v) rfl (exec_build 28 _ (Cmd.z x1).cells rfl (by kernel_rfl)) ?_
  simp only [Act.put, List.setIfInBounds_toArray, List.set_cons_succ, List.set_cons_zero]
  refine l_alloc (o := ⟨some 5, _, _, _, _, _⟩) 28 (Cmd.z 0).cells rfl rfl cmd_zero ?_
  intro w2 b2 z2 k2
  obtain ⟨gc, hgc_⟩ : ∃ gc, gc = w1.heap.size := ⟨_, rfl⟩
  rw [← hgc_] at b2 ⊢
  have hgg : Hid (n0 < g ∧ g < gc) := ⟨hgn.out, by have := HR1.out.2.1.lt; omega⟩
  have hnc : Hid (n0 < gc) := by show _ < _; have := hgg.out; omega
  have hgc : Hid (w.heap.size ≤ gc) := by show _ ≤ _; have := hnc.out; have := hn0.out; omega
  clear hgc_ hgn
  have hgn := hgg
  clear hgg
  have Bn02 := Lib.hid (Bn01.out.kept k2)
  have HR2 := Lib.hid (HR1.out.kept k2)
  have kw2 : Kept w w2 := Keep.kept kw1 k2
  clear kw1
  simp only [Act.put, List.setIfInBounds_toArray, List.set_cons_succ, List.set_cons_zero]
  refine l_setS (o := ⟨none, _, _, _, _, _⟩) 28 gc 28 (Cmd.z 0).cells (Cmd.z x1).cells (.tmp 5) (.tmp 11) rfl rfl (by kernel_rfl) (by kernel_rfl) b2 cmd_size rfl (stc_one _ _) ?_
  intro w3 b3 k3 z3
  have Bgc3 : Hid (Blk w3 gc 28 (stc (Cmd.z x1).l zeros32)) := b3
  have Bn03 := Lib.hid (Bn02.out.keep k3 (by have := hn0.out; have := hgc.out; have := hnc.out; omega))
  have HR3 := Lib.hid (HR2.out.off k3 (by have := hbig.out; have := hgc.out; have := hgn.out; omega) HX1.out (fun ad e hn => by have := hA.out ad e hn; have := hgc.out; omega))
  have kw3 : Kept w w3 := Keep.trans kw2 k3 (fun i hi h => by have := hgc.out; omega)
  clear kw2
  simp only [Act.put]
  refine wpList_nil ?_
  obtain rfl : x1 = 2 := Hx1.out.trans hkk.out
  have hc : w3.cell? ⟨gc, 0, none⟩ = some (.int .i64 2) := Bgc3.out.fld 0 _ rfl
  go_upto_region 7 with fail
  refine wp_region_lit ?_
  refine l_val (o := ⟨some 21, _, _, _, _, _⟩) (.pointer (some ⟨g, 0, none⟩)) rfl (exec_move (.tmp 4) (.pointer (some ⟨g, 0, none⟩)) rfl (by kernel_rfl)) ?_
  simp only [Act.put, List.setIfInBounds_toArray, List.set_cons_succ, List.set_cons_zero]
  refine l_call (o := ⟨some 22, _, _, _, _, _⟩) 35 #[.pointer (some ⟨g, 0, none⟩)] rfl (exec_call 35 _ [.tmp 21] _ _ Try.func35 (by kernel_rfl) (by kernel_rfl) rfl (by kernel_rfl) _) ?_
  refine (fdSum g L c A s1 w3 HR3 HO1 hcm).mono ?_
  rintro e w4 ⟨x2, s2, Hx2, Hs2, HY2, ht2, rfl, HR4, HO2, k4⟩
  have HX2 := Lib.hid (HY2.out.trans HX1.out)
  have Bn04 := Lib.hid (Bn03.out.keep k4 (by have := hn0.out; have := hgn.out; omega))
  have Bgc4 := Lib.hid (Bgc3.out.keep k4 (by have := hgc.out; have := hgn.out; omega))
  have kw4 : Kept w w4 := Keep.trans kw3 k4 (fun i hi h => by have := hbig.out; omega)
  clear kw3
  refine ⟨_, rfl, ?_⟩
  simp only [Act.put, List.setIfInBounds_toArray, List.set_cons_succ, List.set_cons_zero]
  refine l_val (o := ⟨some 23, _, _, _, _, _⟩) (.pointer (some ⟨gc, 14, none⟩)) rfl (exec_fld 28 14 14 (.tmp 5) (gc) rfl (by kernel_rfl) (by kernel_rfl)) ?_
  simp only [Act.put, List.setIfInBounds_toArray, List.set_cons_succ, List.set_cons_zero]
  refine l_setT (o := ⟨none, _, _, _, _, _⟩) gc 14 28 (Cmd.z 2).l zeros32 x2 (.tmp 23) (.tmp 22) rfl rfl (by kernel_rfl) (by kernel_rfl) Bgc4.out rfl rfl ht2 ?_
  intro w5 b5 k5
  have Bgc5 : Hid (Blk w5 gc 28 (stc (Cmd.z 2).l x2)) := b5
  have Bn05 := Lib.hid (Bn04.out.keep k5 (by have := hn0.out; have := hgc.out; have := hnc.out; omega))
  have HR5 := Lib.hid (HR4.out.off k5 (by have := hbig.out; have := hgc.out; have := hgn.out; omega) HX2.out (fun ad e hn => by have := hA.out ad e hn; have := hgc.out; omega))
  have kw5 : Kept w w5 := Keep.trans kw4 k5 (fun i hi h => by have := hgc.out; omega)
  clear kw4
  simp only [Act.put]
  refine wpList_nil ?_
  go_upto_region 19 with fail
  have f1 := Hs1.out
  have f2 := Hs2.out
  have e2 := Hx2.out
  have hcmd : stc (Cmd.z 2).l x2 = s0.cmd.cells ∧ s0.rest = s2 := by
    unfold RS.cmd RS.rest
    rw [hkk.out]
    subst f1
    subst e2
    subst f2
    exact ⟨rfl, rfl⟩
  obtain ⟨d, hd⟩ : ∃ d, d = s0.cmd := ⟨_, rfl⟩
  have HC : Hid (Blk w5 gc 28 d.cells) := by rw [hd, ← hcmd.1]; exact Bgc5.out
  have HTd : Hid (d.tag.length = 32) := by rw [hd]; exact RS.cmd_tag _
  have HRf : Hid (FRd w5 g A L c s0.rest) := by rw [hcmd.2]; exact HR5.out
  have Hd := Lib.hid hd
  clear hd hcmd Bgc5 HR5 f1 f2 e2
  cases hF : s0.rest.fin with
  | false =>
    have HG : Hid (getB xs = (Cmd.z 0, false)) := by show _ = _; unfold getB; rw [← HS.out, hF]; rfl
    refine wp_text 7 [.eq (.pointer (some ⟨g, 0, none⟩)), .eq (.bool false), .eq (.bool true), .eq (.bool true), .eq undef, .eq undef, .eq undef] rfl (by kernel_rfl) ?_ ?_
    · refine fsteps_cons 1 rfl (fun a u hE hD hk => f_val (o := ⟨some 109, _, _, _, _, _⟩) (.pointer (some ⟨g, 0, none⟩)) rfl (wanted_none rfl _) (exec_move (.tmp 4) (.pointer (some ⟨g, 0, none⟩)) rfl (hE 4 (.pointer (some ⟨g, 0, none⟩)) (by kernel_rfl) (by kernel_rfl))) rfl) ?_
      refine fsteps_cons 2 rfl (fun a u hE hD hk => f_call (o := ⟨some 110, _, _, _, _, _⟩) 37 #[.pointer (some ⟨g, 0, none⟩)] rfl (wanted_none rfl _) (exec_call 37 _ [.tmp 109] _ [.pointer (some ⟨g, 0, none⟩)] Try.func37 (by kernel_rfl) (by kernel_rfl) rfl (show [a.eval (.tmp 109)] = [.pointer (some ⟨g, 0, none⟩)] from (by rw [show a.eval (.tmp 109) = .pointer (some ⟨g, 0, none⟩) from (hD 0 109 (by kernel_rfl))] <;> rfl)) u) ((gend_any g L c A s0.rest u (HRf.out.kept hk)).mono (fun e w' ⟨h1, k, h2⟩ => ⟨_, h1, by rw [hF]; rfl, by rw [h2]; exact kept_drewN u k⟩))) ?_
      refine fsteps_cons 3 rfl (fun a u hE hD hk => f_val (o := ⟨some 111, _, _, _, _, _⟩) (.bool true) rfl (wanted_none rfl _) (exec_not _ (.tmp 110) false rfl (hD 1 110 (by kernel_rfl))) rfl) ?_
      refine fsteps_cons 4 rfl (fun a u hE hD hk => f_val (o := ⟨some 112, _, _, _, _, _⟩) (.bool true) rfl (wanted_none rfl _) (exec_move (.tmp 111) (.bool true) rfl (hD 2 111 (by kernel_rfl))) rfl) ?_
      refine fsteps_cons 5 rfl (fun a u hE hD hk => f_skip (o := ⟨some 113, _, _, _, _, _⟩) rfl (wanted_at (b := false) true rfl rfl (hD 3 112 (by kernel_rfl))) rfl) ?_
      refine fsteps_cons 6 rfl (fun a u hE hD hk => f_skip (o := ⟨some 114, _, _, _, _, _⟩) rfl (wanted_at (b := false) true rfl rfl (hD 3 112 (by kernel_rfl))) rfl) ?_
      refine fsteps_cons 7 rfl (fun a u hE hD hk => f_skip (o := ⟨some 115, _, _, _, _, _⟩) rfl (wanted_at (b := false) true rfl rfl (hD 3 112 (by kernel_rfl))) rfl) ?_
      exact fsteps_nil
    intro gv wx hV kx
    rw [show dstsOf _ 7 = [109, 110, 111, 112, 113, 114, 115] by kernel_rfl]
    simp only [List.foldl_cons, List.foldl_nil, List.setIfInBounds_toArray, List.set_cons_succ, List.set_cons_zero, List.drop_succ_cons, List.drop_zero]
    rw [show gv 112 = .bool true from hV 3 112 (by kernel_rfl)]
    rw [show gv 115 = undef from hV 6 115 (by kernel_rfl)]
    clear hV
    have kwx := kw5.trans kx
    have Bx := Lib.hid (Bn05.out.kept kx)
    have Cx := Lib.hid (HC.out.kept kx)
    go_upto_region 20 with fail
    refine wp_region_lit ?_
    refine l_val (o := ⟨some 117, _, _, _, _, _⟩) ((Cmd.z 0).v) rfl (exec_build 28 [] (Cmd.z 0).cells rfl (by kernel_rfl)) ?_
    simp only [Act.put, List.setIfInBounds_toArray, List.set_cons_succ, List.set_cons_zero]
    refine l_setS (o := ⟨none, _, _, _, _, _⟩) 28 n0 28 (Cmd.z 0).cells (Cmd.z 0).cells (.tmp 2) (.tmp 117) rfl rfl (by kernel_rfl) (by kernel_rfl) Bx.out cmd_size rfl (stc_one _ _) ?_
    intro wy b_y ky zy
    have kwy : Kept w wy := Kept.trans' kwx ky (by have := hn0.out; omega)
    simp only [Act.put]
    refine l_val (o := ⟨some 3, _, _, _, _, _⟩) (.bool false) rfl (exec_assign (.const (.bool false)) (.bool false) rfl (by kernel_rfl)) ?_
    simp only [Act.put, List.setIfInBounds_toArray, List.set_cons_succ, List.set_cons_zero]
    refine wpList_nil ?_
    go_wp2
    refine bodyPost_ret (results_cmd (p := 2) (q := 3) rfl _ _ n0 _ (Cmd.z 0).cells false rfl rfl b_y rfl) rfl ?_
    refine ⟨?_, kwy⟩
    rw [HG.out]
    rfl
  | true =>
    cases hR : d.right with
    | false =>
      have HG : Hid (getB xs = (Cmd.z 0, false)) := by show _ = _; unfold getB; rw [← HS.out, hF, ← Hd.out, hR]; rfl
      refine wp_text 7 [.eq (.pointer (some ⟨g, 0, none⟩)), .eq (.bool true), .eq (.bool false), .eq (.bool false), .eq (d.v), .eq (.bool false), .eq (.bool true)] rfl (by kernel_rfl) ?_ ?_
      · refine fsteps_cons 1 rfl (fun a u hE hD hk => f_val (o := ⟨some 109, _, _, _, _, _⟩) (.pointer (some ⟨g, 0, none⟩)) rfl (wanted_none rfl _) (exec_move (.tmp 4) (.pointer (some ⟨g, 0, none⟩)) rfl (hE 4 (.pointer (some ⟨g, 0, none⟩)) (by kernel_rfl) (by kernel_rfl))) rfl) ?_
        refine fsteps_cons 2 rfl (fun a u hE hD hk => f_call (o := ⟨some 110, _, _, _, _, _⟩) 37 #[.pointer (some ⟨g, 0, none⟩)] rfl (wanted_none rfl _) (exec_call 37 _ [.tmp 109] _ [.pointer (some ⟨g, 0, none⟩)] Try.func37 (by kernel_rfl) (by kernel_rfl) rfl (show [a.eval (.tmp 109)] = [.pointer (some ⟨g, 0, none⟩)] from (by rw [show a.eval (.tmp 109) = .pointer (some ⟨g, 0, none⟩) from (hD 0 109 (by kernel_rfl))] <;> rfl)) u) ((gend_any g L c A s0.rest u (HRf.out.kept hk)).mono (fun e w' ⟨h1, k, h2⟩ => ⟨_, h1, by rw [hF]; rfl, by rw [h2]; exact kept_drewN u k⟩))) ?_
        refine fsteps_cons 3 rfl (fun a u hE hD hk => f_val (o := ⟨some 111, _, _, _, _, _⟩) (.bool false) rfl (wanted_none rfl _) (exec_not _ (.tmp 110) true rfl (hD 1 110 (by kernel_rfl))) rfl) ?_
        refine fsteps_cons 4 rfl (fun a u hE hD hk => f_val (o := ⟨some 112, _, _, _, _, _⟩) (.bool false) rfl (wanted_none rfl _) (exec_move (.tmp 111) (.bool false) rfl (hD 2 111 (by kernel_rfl))) rfl) ?_
        refine fsteps_cons 5 rfl (fun a u hE hD hk => f_val (o := ⟨some 113, _, _, _, _, _⟩) (d.v) rfl (wanted_at (b := false) false rfl rfl (hD 3 112 (by kernel_rfl))) (exec_loadS 28 (.tmp 5) (gc) _ d.cells _ rfl (hE 5 (.pointer (some ⟨gc, 0, none⟩)) (by kernel_rfl) (by kernel_rfl)) (HC.out.kept hk) Try.underlying28 (by rw [Cmd.cells_len _ HTd.out]; exact cmd_size)) rfl) ?_
        refine fsteps_cons 6 rfl (fun a u hE hD hk => f_call (o := ⟨some 114, _, _, _, _, _⟩) 14 #[d.v] rfl (wanted_at (b := false) false rfl rfl (hD 3 112 (by kernel_rfl))) (exec_call 14 _ [.tmp 113] _ [d.v] Try.func14 (by kernel_rfl) (by kernel_rfl) rfl (show [a.eval (.tmp 113)] = [d.v] from (by rw [show a.eval (.tmp 113) = d.v from (hD 4 113 (by kernel_rfl))] <;> rfl)) u) (right_is d false u HTd hR)) ?_
        refine fsteps_cons 7 rfl (fun a u hE hD hk => f_val (o := ⟨some 115, _, _, _, _, _⟩) (.bool true) rfl (wanted_at (b := false) false rfl rfl (hD 3 112 (by kernel_rfl))) (exec_not _ (.tmp 114) false rfl (hD 5 114 (by kernel_rfl))) rfl) ?_
        exact fsteps_nil
      intro gv wx hV kx
      rw [show dstsOf _ 7 = [109, 110, 111, 112, 113, 114, 115] by kernel_rfl]
      simp only [List.foldl_cons, List.foldl_nil, List.setIfInBounds_toArray, List.set_cons_succ, List.set_cons_zero, List.drop_succ_cons, List.drop_zero]
      rw [show gv 112 = .bool false from hV 3 112 (by kernel_rfl)]
      rw [show gv 115 = .bool true from hV 6 115 (by kernel_rfl)]
      clear hV
      have kwx := kw5.trans kx
      have Bx := Lib.hid (Bn05.out.kept kx)
      have Cx := Lib.hid (HC.out.kept kx)
      go_upto_region 20 with fail
      refine wp_region_lit ?_
      refine l_val (o := ⟨some 117, _, _, _, _, _⟩) ((Cmd.z 0).v) rfl (exec_build 28 [] (Cmd.z 0).cells rfl (by kernel_rfl)) ?_
      simp only [Act.put, List.setIfInBounds_toArray, List.set_cons_succ, List.set_cons_zero]
      refine l_setS (o := ⟨none, _, _, _, _, _⟩) 28 n0 28 (Cmd.z 0).cells (Cmd.z 0).cells (.tmp 2) (.tmp 117) rfl rfl (by kernel_rfl) (by kernel_rfl) Bx.out cmd_size rfl (stc_one _ _) ?_
      intro wy b_y ky zy
      have kwy : Kept w wy := Kept.trans' kwx ky (by have := hn0.out; omega)
      simp only [Act.put]
      refine l_val (o := ⟨some 3, _, _, _, _, _⟩) (.bool false) rfl (exec_assign (.const (.bool false)) (.bool false) rfl (by kernel_rfl)) ?_
      simp only [Act.put, List.setIfInBounds_toArray, List.set_cons_succ, List.set_cons_zero]
      refine wpList_nil ?_
      go_wp2
      refine bodyPost_ret (results_cmd (p := 2) (q := 3) rfl _ _ n0 _ (Cmd.z 0).cells false rfl rfl b_y rfl) rfl ?_
      refine ⟨?_, kwy⟩
      rw [HG.out]
      rfl
    | true =>
      have HG : Hid (getB xs = (d, true)) := by show _ = _; unfold getB; rw [← HS.out, hF, ← Hd.out, hR]; rfl
      refine wp_text 7 [.eq (.pointer (some ⟨g, 0, none⟩)), .eq (.bool true), .eq (.bool false), .eq (.bool false), .eq (d.v), .eq (.bool true), .eq (.bool false)] rfl (by kernel_rfl) ?_ ?_
      · refine fsteps_cons 1 rfl (fun a u hE hD hk => f_val (o := ⟨some 109, _, _, _, _, _⟩) (.pointer (some ⟨g, 0, none⟩)) rfl (wanted_none rfl _) (exec_move (.tmp 4) (.pointer (some ⟨g, 0, none⟩)) rfl (hE 4 (.pointer (some ⟨g, 0, none⟩)) (by kernel_rfl) (by kernel_rfl))) rfl) ?_
        refine fsteps_cons 2 rfl (fun a u hE hD hk => f_call (o := ⟨some 110, _, _, _, _, _⟩) 37 #[.pointer (some ⟨g, 0, none⟩)] rfl (wanted_none rfl _) (exec_call 37 _ [.tmp 109] _ [.pointer (some ⟨g, 0, none⟩)] Try.func37 (by kernel_rfl) (by kernel_rfl) rfl (show [a.eval (.tmp 109)] = [.pointer (some ⟨g, 0, none⟩)] from (by rw [show a.eval (.tmp 109) = .pointer (some ⟨g, 0, none⟩) from (hD 0 109 (by kernel_rfl))] <;> rfl)) u) ((gend_any g L c A s0.rest u (HRf.out.kept hk)).mono (fun e w' ⟨h1, k, h2⟩ => ⟨_, h1, by rw [hF]; rfl, by rw [h2]; exact kept_drewN u k⟩))) ?_
        refine fsteps_cons 3 rfl (fun a u hE hD hk => f_val (o := ⟨some 111, _, _, _, _, _⟩) (.bool false) rfl (wanted_none rfl _) (exec_not _ (.tmp 110) true rfl (hD 1 110 (by kernel_rfl))) rfl) ?_
        refine fsteps_cons 4 rfl (fun a u hE hD hk => f_val (o := ⟨some 112, _, _, _, _, _⟩) (.bool false) rfl (wanted_none rfl _) (exec_move (.tmp 111) (.bool false) rfl (hD 2 111 (by kernel_rfl))) rfl) ?_
        refine fsteps_cons 5 rfl (fun a u hE hD hk => f_val (o := ⟨some 113, _, _, _, _, _⟩) (d.v) rfl (wanted_at (b := false) false rfl rfl (hD 3 112 (by kernel_rfl))) (exec_loadS 28 (.tmp 5) (gc) _ d.cells _ rfl (hE 5 (.pointer (some ⟨gc, 0, none⟩)) (by kernel_rfl) (by kernel_rfl)) (HC.out.kept hk) Try.underlying28 (by rw [Cmd.cells_len _ HTd.out]; exact cmd_size)) rfl) ?_
        refine fsteps_cons 6 rfl (fun a u hE hD hk => f_call (o := ⟨some 114, _, _, _, _, _⟩) 14 #[d.v] rfl (wanted_at (b := false) false rfl rfl (hD 3 112 (by kernel_rfl))) (exec_call 14 _ [.tmp 113] _ [d.v] Try.func14 (by kernel_rfl) (by kernel_rfl) rfl (show [a.eval (.tmp 113)] = [d.v] from (by rw [show a.eval (.tmp 113) = d.v from (hD 4 113 (by kernel_rfl))] <;> rfl)) u) (right_is d true u HTd hR)) ?_
        refine fsteps_cons 7 rfl (fun a u hE hD hk => f_val (o := ⟨some 115, _, _, _, _, _⟩) (.bool false) rfl (wanted_at (b := false) false rfl rfl (hD 3 112 (by kernel_rfl))) (exec_not _ (.tmp 114) true rfl (hD 5 114 (by kernel_rfl))) rfl) ?_
        exact fsteps_nil
      intro gv wx hV kx
      rw [show dstsOf _ 7 = [109, 110, 111, 112, 113, 114, 115] by kernel_rfl]
      simp only [List.foldl_cons, List.foldl_nil, List.setIfInBounds_toArray, List.set_cons_succ, List.set_cons_zero, List.drop_succ_cons, List.drop_zero]
      rw [show gv 112 = .bool false from hV 3 112 (by kernel_rfl)]
      rw [show gv 115 = .bool false from hV 6 115 (by kernel_rfl)]
      clear hV
      have kwx := kw5.trans kx
      have Bx := Lib.hid (Bn05.out.kept kx)
      have Cx := Lib.hid (HC.out.kept kx)
      go_upto_region 21 with fail
      refine wp_region_lit ?_
      refine l_val (o := ⟨some 118, _, _, _, _, _⟩) (d.v) rfl (exec_loadS 28 (.tmp 5) gc 28 d.cells _ rfl (by kernel_rfl) Cx.out Try.underlying28 (by rw [Cmd.cells_len d HTd.out]; exact cmd_size)) ?_
      simp only [Act.put, List.setIfInBounds_toArray, List.set_cons_succ, List.set_cons_zero]
      refine l_setS (o := ⟨none, _, _, _, _, _⟩) 28 n0 28 (Cmd.z 0).cells d.cells (.tmp 2) (.tmp 118) rfl rfl (by kernel_rfl) (by kernel_rfl) Bx.out (by rw [Cmd.cells_len d HTd.out]; exact cmd_size) (by rw [Cmd.cells_len d HTd.out]; rfl) (stc_one _ _) ?_
      intro wy b_y ky zy
      have kwy : Kept w wy := Kept.trans' kwx ky (by have := hn0.out; omega)
      simp only [Act.put]
      refine l_val (o := ⟨some 3, _, _, _, _, _⟩) (.bool true) rfl (exec_assign (.const (.bool true)) (.bool true) rfl (by kernel_rfl)) ?_
      simp only [Act.put, List.setIfInBounds_toArray, List.set_cons_succ, List.set_cons_zero]
      refine wpList_nil ?_
      go_wp2
      refine bodyPost_ret (results_cmd (p := 2) (q := 3) rfl _ _ n0 _ d.cells true rfl rfl b_y (Cmd.cells_len d HTd.out)) rfl ?_
      refine ⟨?_, kwy⟩
      rw [HG.out]
      rfl

set_option maxRecDepth 100000 in
set_option maxHeartbeats 6400000 in
theorem getc_3 (v : Value) (xs : List UInt8) (s0 : RS) (HS : Hid (s0 = RS.new xs)) (w : World) (hv : Bytes w v xs) (hl : xs.length ≤ 1000) (hkk : Hid (s0.kind = 3)) : Calls Try.prog 19 #[v] w (GotIn w xs) := by
  obtain ⟨A, L, c, rfl, hL, hx, h1, hcm_, h3⟩ := hv
  have hcm : Hid (c ≤ maxLen) := hcm_
  have HX := Lib.hid hx
  have HO0 : Hid s0.ok := by rw [HS.out]; exact ⟨Nat.zero_le _, by show xs.length ≤ _; omega⟩
  have hA : Hid (∀ ad, A = some ad → xs ≠ [] → ad.block < w.heap.size) := fun ad e hn => R8.lt (by rw [← e]; exact HX.out) hn
  have hLc : Hid (L ≤ c) := h1
  have kw : Kept w w := Kept.refl w
  clear hx h1 h3 hl hcm_
  go_enter Try.func19, Try.ntmps19
  go_upto_region 0 with fail
  refine wp_region_lit ?_
  refine l_alloc (o := ⟨some 2, _, _, _, _, _⟩) 28 (Cmd.z 0).cells rfl rfl cmd_zero ?_
  intro wa ba za ka
  simp only [Act.put, List.setIfInBounds_toArray, List.set_cons_succ, List.set_cons_zero]
  refine l_val (o := ⟨some 3, _, _, _, _, _⟩) (.bool false) rfl (exec_assign (.const (.bool false)) (.bool false) rfl (by kernel_rfl)) ?_
  simp only [Act.put, List.setIfInBounds_toArray, List.set_cons_succ, List.set_cons_zero]
  refine wpList_nil ?_
  obtain ⟨n0, hn⟩ : ∃ n0, n0 = w.heap.size := ⟨_, rfl⟩
  rw [← hn] at ba ⊢
  have hn0 : Hid (w.heap.size ≤ n0) := by show _ ≤ _; omega
  have hl0 : Hid (n0 < wa.heap.size) := by show _ < _; omega
  have Ba : Hid (Blk wa n0 28 (Cmd.z 0).cells) := ba
  clear hn ba za
  go_upto_region 1 with fail
  refine wp_region_lit ?_
  refine l_val (o := ⟨some 6, _, _, _, _, _⟩) (.slice A L c) rfl (exec_move (.tmp 0) (.slice A L c) rfl (by kernel_rfl)) ?_
  simp only [Act.put, List.setIfInBounds_toArray, List.set_cons_succ, List.set_cons_zero]
  refine l_val (o := ⟨some 7, _, _, _, _, _⟩) (.agg #[.slice A L c, .int .i64 0, .bool false]) rfl (exec_build 58 _ [.slice A L c, .int .i64 0, .bool false] rfl (by kernel_rfl)) ?_
  simp only [Act.put, List.setIfInBounds_toArray, List.set_cons_succ, List.set_cons_zero]
  refine l_new (o := ⟨some 8, _, _, _, _, _⟩) (.pointer (some ⟨wa.heap.size, 0, none⟩)) (wa.alloc (.cells ([.slice A L c, .int .i64 0, .bool false] : List Value).toArray 58)) rfl (exec_box 58 (.tmp 7) [.slice A L c, .int .i64 0, .bool false] rfl (by kernel_rfl)) ?_
  simp only [Act.put, List.setIfInBounds_toArray, List.set_cons_succ, List.set_cons_zero]
  refine l_val (o := ⟨some 4, _, _, _, _, _⟩) (.pointer (some ⟨wa.heap.size, 0, none⟩)) rfl (exec_assign (.tmp 8) (.pointer (some ⟨wa.heap.size, 0, none⟩)) rfl (by kernel_rfl)) ?_
  simp only [Act.put, List.setIfInBounds_toArray, List.set_cons_succ, List.set_cons_zero]
  refine wpList_nil ?_
  have k0_ : Kept wa (wa.alloc (.cells ([.slice A L c, .int .i64 0, .bool false] : List Value).toArray 58)) := (Keep.refl _ wa).alloc _
  have b0 := Blk.new wa 58 [.slice A L c, .int .i64 0, .bool false]
  generalize wa.alloc (.cells ([.slice A L c, .int .i64 0, .bool false] : List Value).toArray 58) = w0 at k0_ b0 ⊢
  obtain ⟨g, hg⟩ : ∃ g, g = wa.heap.size := ⟨_, rfl⟩
  rw [← hg] at b0 ⊢
  have hgn : Hid (n0 < g) := by show _ < _; have := hl0.out; omega
  have hbig : Hid (w.heap.size ≤ g) := by show _ ≤ _; have := hgn.out; have := hn0.out; omega
  have kw0 := (kw.trans ka).trans k0_
  have Bn00 := Lib.hid (Ba.out.kept k0_)
  have HR0 : Hid (FRd w0 g A L c s0) := by
    rw [HS.out]
    exact ⟨hL, b0, (HX.out.kept ka).kept k0_, fun ad e hn => by have := hA.out ad e hn; have := hbig.out; omega, hLc.out⟩
  have HX0 : Hid (s0.xs = xs) := by rw [HS.out]; rfl
  clear hg b0 k0_ ka kw hl0 Ba
  go_upto_region 2 with fail
  refine wp_region_lit ?_
  refine l_val (o := ⟨some 9, _, _, _, _, _⟩) (.pointer (some ⟨g, 0, none⟩)) rfl (exec_move (.tmp 4) (.pointer (some ⟨g, 0, none⟩)) rfl (by kernel_rfl)) ?_
  simp only [Act.put, List.setIfInBounds_toArray, List.set_cons_succ, List.set_cons_zero]
  refine l_call (o := ⟨some 10, _, _, _, _, _⟩) 34 #[.pointer (some ⟨g, 0, none⟩)] rfl (exec_call 34 _ [.tmp 9] _ _ Try.func34 (by kernel_rfl) (by kernel_rfl) rfl (by kernel_rfl) _) ?_
  refine (fdU8 g L c A s0 w0 HR0 HO0 hcm).mono ?_
  rintro e w1 ⟨x1, s1, Hx1, Hs1, HY1, rfl, HR1, HO1, k1⟩
  have HX1 := Lib.hid (HY1.out.trans HX0.out)
  have Bn01 := Lib.hid (Bn00.out.keep k1 (by have := hn0.out; have := hgn.out; omega))
  have kw1 : Kept w w1 := Keep.trans kw0 k1 (fun i hi h => by have := hbig.out; omega)
  clear kw0
  refine ⟨_, rfl, ?_⟩
  simp only [Act.put, List.setIfInBounds_toArray, List.set_cons_succ, List.set_cons_zero]
  refine l_val (o := ⟨some 11, _, _, _, _, _⟩) ((Cmd.z x1).v) rfl (exec_build 28 _ (Cmd.z x1).cells rfl (by kernel_rfl)) ?_
  simp only [Act.put, List.setIfInBounds_toArray, List.set_cons_succ, List.set_cons_zero]
  refine l_alloc (o := ⟨some 5, _, _, _, _, _⟩) 28 (Cmd.z 0).cells rfl rfl cmd_zero ?_
  intro w2 b2 z2 k2
  obtain ⟨gc, hgc_⟩ : ∃ gc, gc = w1.heap.size := ⟨_, rfl⟩
  rw [← hgc_] at b2 ⊢
  have hgg : Hid (n0 < g ∧ g < gc) := ⟨hgn.out, by have := HR1.out.2.1.lt; omega⟩
  have hnc : Hid (n0 < gc) := by show _ < _; have := hgg.out; omega
  have hgc : Hid (w.heap.size ≤ gc) := by show _ ≤ _; have := hnc.out; have := hn0.out; omega
  clear hgc_ hgn
  have hgn := hgg
  clear hgg
  have Bn02 := Lib.hid (Bn01.out.kept k2)
  have HR2 := Lib.hid (HR1.out.kept k2)
  have kw2 : Kept w w2 := Keep.kept kw1 k2
  clear kw1
  simp only [Act.put, List.setIfInBounds_toArray, List.set_cons_succ, List.set_cons_zero]
  refine l_setS (o := ⟨none, _, _, _, _, _⟩) 28 gc 28 (Cmd.z 0).cells (Cmd.z x1).cells (.tmp 5) (.tmp 11) rfl rfl (by kernel_rfl) (by kernel_rfl) b2 cmd_size rfl (stc_one _ _) ?_
  intro w3 b3 k3 z3
  have Bgc3 : Hid (Blk w3 gc 28 (stc (Cmd.z x1).l zeros32)) := b3
  have Bn03 := Lib.hid (Bn02.out.keep k3 (by have := hn0.out; have := hgc.out; have := hnc.out; omega))
  have HR3 := Lib.hid (HR2.out.off k3 (by have := hbig.out; have := hgc.out; have := hgn.out; omega) HX1.out (fun ad e hn => by have := hA.out ad e hn; have := hgc.out; omega))
  have kw3 : Kept w w3 := Keep.trans kw2 k3 (fun i hi h => by have := hgc.out; omega)
  clear kw2
  simp only [Act.put]
  refine wpList_nil ?_
  obtain rfl : x1 = 3 := Hx1.out.trans hkk.out
  have hc : w3.cell? ⟨gc, 0, none⟩ = some (.int .i64 3) := Bgc3.out.fld 0 _ rfl
  go_upto_region 9 with fail
  refine wp_region_lit ?_
  refine l_val (o := ⟨some 26, _, _, _, _, _⟩) (.pointer (some ⟨g, 0, none⟩)) rfl (exec_move (.tmp 4) (.pointer (some ⟨g, 0, none⟩)) rfl (by kernel_rfl)) ?_
  simp only [Act.put, List.setIfInBounds_toArray, List.set_cons_succ, List.set_cons_zero]
  refine l_call (o := ⟨some 27, _, _, _, _, _⟩) 36 #[.pointer (some ⟨g, 0, none⟩)] rfl (exec_call 36 _ [.tmp 26] _ _ Try.func36 (by kernel_rfl) (by kernel_rfl) rfl (by kernel_rfl) _) ?_
  refine (fdNum g L c A s1 w3 HR3 HO1 hcm).mono ?_
  rintro e w4 ⟨x2, s2, Hx2, Hs2, HY2, rfl, HR4, HO2, k4⟩
  have HX2 := Lib.hid (HY2.out.trans HX1.out)
  have Bn04 := Lib.hid (Bn03.out.keep k4 (by have := hn0.out; have := hgn.out; omega))
  have Bgc4 := Lib.hid (Bgc3.out.keep k4 (by have := hgc.out; have := hgn.out; omega))
  have kw4 : Kept w w4 := Keep.trans kw3 k4 (fun i hi h => by have := hbig.out; omega)
  clear kw3
  refine ⟨_, rfl, ?_⟩
  simp only [Act.put, List.setIfInBounds_toArray, List.set_cons_succ, List.set_cons_zero]
  refine l_val (o := ⟨some 28, _, _, _, _, _⟩) (.pointer (some ⟨g, 0, none⟩)) rfl (exec_move (.tmp 4) (.pointer (some ⟨g, 0, none⟩)) rfl (by kernel_rfl)) ?_
  simp only [Act.put, List.setIfInBounds_toArray, List.set_cons_succ, List.set_cons_zero]
  refine l_call (o := ⟨some 29, _, _, _, _, _⟩) 34 #[.pointer (some ⟨g, 0, none⟩)] rfl (exec_call 34 _ [.tmp 28] _ _ Try.func34 (by kernel_rfl) (by kernel_rfl) rfl (by kernel_rfl) _) ?_
  refine (fdU8 g L c A s2 w4 HR4 HO2 hcm).mono ?_
  rintro e w5 ⟨x3, s3, Hx3, Hs3, HY3, rfl, HR5, HO3, k5⟩
  have HX3 := Lib.hid (HY3.out.trans HX2.out)
  have Bn05 := Lib.hid (Bn04.out.keep k5 (by have := hn0.out; have := hgn.out; omega))
  have Bgc5 := Lib.hid (Bgc4.out.keep k5 (by have := hgc.out; have := hgn.out; omega))
  have kw5 : Kept w w5 := Keep.trans kw4 k5 (fun i hi h => by have := hbig.out; omega)
  clear kw4
  refine ⟨_, rfl, ?_⟩
  simp only [Act.put, List.setIfInBounds_toArray, List.set_cons_succ, List.set_cons_zero]
  refine l_val (o := ⟨some 30, _, _, _, _, _⟩) (.pointer (some ⟨g, 0, none⟩)) rfl (exec_move (.tmp 4) (.pointer (some ⟨g, 0, none⟩)) rfl (by kernel_rfl)) ?_
  simp only [Act.put, List.setIfInBounds_toArray, List.set_cons_succ, List.set_cons_zero]
  refine l_call (o := ⟨some 31, _, _, _, _, _⟩) 36 #[.pointer (some ⟨g, 0, none⟩)] rfl (exec_call 36 _ [.tmp 30] _ _ Try.func36 (by kernel_rfl) (by kernel_rfl) rfl (by kernel_rfl) _) ?_
  refine (fdNum g L c A s3 w5 HR5 HO3 hcm).mono ?_
  rintro e w6 ⟨x4, s4, Hx4, Hs4, HY4, rfl, HR6, HO4, k6⟩
  have HX4 := Lib.hid (HY4.out.trans HX3.out)
  have Bn06 := Lib.hid (Bn05.out.keep k6 (by have := hn0.out; have := hgn.out; omega))
  have Bgc6 := Lib.hid (Bgc5.out.keep k6 (by have := hgc.out; have := hgn.out; omega))
  have kw6 : Kept w w6 := Keep.trans kw5 k6 (fun i hi h => by have := hbig.out; omega)
  clear kw5
  refine ⟨_, rfl, ?_⟩
  simp only [Act.put, List.setIfInBounds_toArray, List.set_cons_succ, List.set_cons_zero]
  refine l_val (o := ⟨some 32, _, _, _, _, _⟩) (.pointer (some ⟨g, 0, none⟩)) rfl (exec_move (.tmp 4) (.pointer (some ⟨g, 0, none⟩)) rfl (by kernel_rfl)) ?_
  simp only [Act.put, List.setIfInBounds_toArray, List.set_cons_succ, List.set_cons_zero]
  refine l_call (o := ⟨some 33, _, _, _, _, _⟩) 34 #[.pointer (some ⟨g, 0, none⟩)] rfl (exec_call 34 _ [.tmp 32] _ _ Try.func34 (by kernel_rfl) (by kernel_rfl) rfl (by kernel_rfl) _) ?_
  refine (fdU8 g L c A s4 w6 HR6 HO4 hcm).mono ?_
  rintro e w7 ⟨x5, s5, Hx5, Hs5, HY5, rfl, HR7, HO5, k7⟩
  have HX5 := Lib.hid (HY5.out.trans HX4.out)
  have Bn07 := Lib.hid (Bn06.out.keep k7 (by have := hn0.out; have := hgn.out; omega))
  have Bgc7 := Lib.hid (Bgc6.out.keep k7 (by have := hgc.out; have := hgn.out; omega))
  have kw7 : Kept w w7 := Keep.trans kw6 k7 (fun i hi h => by have := hbig.out; omega)
  clear kw6
  refine ⟨_, rfl, ?_⟩
  simp only [Act.put, List.setIfInBounds_toArray, List.set_cons_succ, List.set_cons_zero]
  refine l_val (o := ⟨some 34, _, _, _, _, _⟩) (.pointer (some ⟨g, 0, none⟩)) rfl (exec_move (.tmp 4) (.pointer (some ⟨g, 0, none⟩)) rfl (by kernel_rfl)) ?_
  simp only [Act.put, List.setIfInBounds_toArray, List.set_cons_succ, List.set_cons_zero]
  refine l_call (o := ⟨some 35, _, _, _, _, _⟩) 34 #[.pointer (some ⟨g, 0, none⟩)] rfl (exec_call 34 _ [.tmp 34] _ _ Try.func34 (by kernel_rfl) (by kernel_rfl) rfl (by kernel_rfl) _) ?_
  refine (fdU8 g L c A s5 w7 HR7 HO5 hcm).mono ?_
  rintro e w8 ⟨x6, s6, Hx6, Hs6, HY6, rfl, HR8, HO6, k8⟩
  have HX6 := Lib.hid (HY6.out.trans HX5.out)
  have Bn08 := Lib.hid (Bn07.out.keep k8 (by have := hn0.out; have := hgn.out; omega))
  have Bgc8 := Lib.hid (Bgc7.out.keep k8 (by have := hgc.out; have := hgn.out; omega))
  have kw8 : Kept w w8 := Keep.trans kw7 k8 (fun i hi h => by have := hbig.out; omega)
  clear kw7
  refine ⟨_, rfl, ?_⟩
  simp only [Act.put, List.setIfInBounds_toArray, List.set_cons_succ, List.set_cons_zero]
  refine l_val (o := ⟨some 36, _, _, _, _, _⟩) (.pointer (some ⟨gc, 1, none⟩)) rfl (exec_fld 28 1 1 (.tmp 5) (gc) rfl (by kernel_rfl) (by kernel_rfl)) ?_
  simp only [Act.put, List.setIfInBounds_toArray, List.set_cons_succ, List.set_cons_zero]
  refine l_setf (o := ⟨none, _, _, _, _, _⟩) gc 1 28 (Cmd.z 3).l zeros32 x2 (.tmp 36) (.tmp 27) rfl rfl (by kernel_rfl) (by kernel_rfl) Bgc8.out (by simp [Cmd.l]) ?_
  intro w9 b9 k9 z9
  have Bgc9 : Hid (Blk w9 gc 28 (stc ((Cmd.z 3).l.set 1 x2) zeros32)) := b9
  have Bn09 := Lib.hid (Bn08.out.keep k9 (by have := hn0.out; have := hgc.out; have := hnc.out; omega))
  have HR9 := Lib.hid (HR8.out.off k9 (by have := hbig.out; have := hgc.out; have := hgn.out; omega) HX6.out (fun ad e hn => by have := hA.out ad e hn; have := hgc.out; omega))
  have kw9 : Kept w w9 := Keep.trans kw8 k9 (fun i hi h => by have := hgc.out; omega)
  clear kw8
  simp only [Act.put]
  refine l_val (o := ⟨some 37, _, _, _, _, _⟩) (.pointer (some ⟨gc, 3, none⟩)) rfl (exec_fld 28 3 3 (.tmp 5) (gc) rfl (by kernel_rfl) (by kernel_rfl)) ?_
  simp only [Act.put, List.setIfInBounds_toArray, List.set_cons_succ, List.set_cons_zero]
  refine l_setf (o := ⟨none, _, _, _, _, _⟩) gc 3 28 ((Cmd.z 3).l.set 1 x2) zeros32 x3 (.tmp 37) (.tmp 29) rfl rfl (by kernel_rfl) (by kernel_rfl) Bgc9.out (by simp [Cmd.l]) ?_
  intro w10 b10 k10 z10
  have Bgc10 : Hid (Blk w10 gc 28 (stc (((Cmd.z 3).l.set 1 x2).set 3 x3) zeros32)) := b10
  have Bn010 := Lib.hid (Bn09.out.keep k10 (by have := hn0.out; have := hgc.out; have := hnc.out; omega))
  have HR10 := Lib.hid (HR9.out.off k10 (by have := hbig.out; have := hgc.out; have := hgn.out; omega) HX6.out (fun ad e hn => by have := hA.out ad e hn; have := hgc.out; omega))
  have kw10 : Kept w w10 := Keep.trans kw9 k10 (fun i hi h => by have := hgc.out; omega)
  clear kw9
  simp only [Act.put]
  refine l_val (o := ⟨some 38, _, _, _, _, _⟩) (.pointer (some ⟨gc, 4, none⟩)) rfl (exec_fld 28 4 4 (.tmp 5) (gc) rfl (by kernel_rfl) (by kernel_rfl)) ?_
  simp only [Act.put, List.setIfInBounds_toArray, List.set_cons_succ, List.set_cons_zero]
  refine l_setf (o := ⟨none, _, _, _, _, _⟩) gc 4 28 (((Cmd.z 3).l.set 1 x2).set 3 x3) zeros32 x4 (.tmp 38) (.tmp 31) rfl rfl (by kernel_rfl) (by kernel_rfl) Bgc10.out (by simp [Cmd.l]) ?_
  intro w11 b11 k11 z11
  have Bgc11 : Hid (Blk w11 gc 28 (stc ((((Cmd.z 3).l.set 1 x2).set 3 x3).set 4 x4) zeros32)) := b11
  have Bn011 := Lib.hid (Bn010.out.keep k11 (by have := hn0.out; have := hgc.out; have := hnc.out; omega))
  have HR11 := Lib.hid (HR10.out.off k11 (by have := hbig.out; have := hgc.out; have := hgn.out; omega) HX6.out (fun ad e hn => by have := hA.out ad e hn; have := hgc.out; omega))
  have kw11 : Kept w w11 := Keep.trans kw10 k11 (fun i hi h => by have := hgc.out; omega)
  clear kw10
  simp only [Act.put]
  refine l_val (o := ⟨some 39, _, _, _, _, _⟩) (.pointer (some ⟨gc, 5, none⟩)) rfl (exec_fld 28 5 5 (.tmp 5) (gc) rfl (by kernel_rfl) (by kernel_rfl)) ?_
  simp only [Act.put, List.setIfInBounds_toArray, List.set_cons_succ, List.set_cons_zero]
  refine l_setf (o := ⟨none, _, _, _, _, _⟩) gc 5 28 ((((Cmd.z 3).l.set 1 x2).set 3 x3).set 4 x4) zeros32 x5 (.tmp 39) (.tmp 33) rfl rfl (by kernel_rfl) (by kernel_rfl) Bgc11.out (by simp [Cmd.l]) ?_
  intro w12 b12 k12 z12
  have Bgc12 : Hid (Blk w12 gc 28 (stc (((((Cmd.z 3).l.set 1 x2).set 3 x3).set 4 x4).set 5 x5) zeros32)) := b12
  have Bn012 := Lib.hid (Bn011.out.keep k12 (by have := hn0.out; have := hgc.out; have := hnc.out; omega))
  have HR12 := Lib.hid (HR11.out.off k12 (by have := hbig.out; have := hgc.out; have := hgn.out; omega) HX6.out (fun ad e hn => by have := hA.out ad e hn; have := hgc.out; omega))
  have kw12 : Kept w w12 := Keep.trans kw11 k12 (fun i hi h => by have := hgc.out; omega)
  clear kw11
  simp only [Act.put]
  refine l_val (o := ⟨some 40, _, _, _, _, _⟩) (.pointer (some ⟨gc, 6, none⟩)) rfl (exec_fld 28 6 6 (.tmp 5) (gc) rfl (by kernel_rfl) (by kernel_rfl)) ?_
  simp only [Act.put, List.setIfInBounds_toArray, List.set_cons_succ, List.set_cons_zero]
  refine l_setf (o := ⟨none, _, _, _, _, _⟩) gc 6 28 (((((Cmd.z 3).l.set 1 x2).set 3 x3).set 4 x4).set 5 x5) zeros32 x6 (.tmp 40) (.tmp 35) rfl rfl (by kernel_rfl) (by kernel_rfl) Bgc12.out (by simp [Cmd.l]) ?_
  intro w13 b13 k13 z13
  have Bgc13 : Hid (Blk w13 gc 28 (stc ((((((Cmd.z 3).l.set 1 x2).set 3 x3).set 4 x4).set 5 x5).set 6 x6) zeros32)) := b13
  have Bn013 := Lib.hid (Bn012.out.keep k13 (by have := hn0.out; have := hgc.out; have := hnc.out; omega))
  have HR13 := Lib.hid (HR12.out.off k13 (by have := hbig.out; have := hgc.out; have := hgn.out; omega) HX6.out (fun ad e hn => by have := hA.out ad e hn; have := hgc.out; omega))
  have kw13 : Kept w w13 := Keep.trans kw12 k13 (fun i hi h => by have := hgc.out; omega)
  clear kw12
  simp only [Act.put]
  refine wpList_nil ?_
  go_upto_region 10 with fail
  refine wp_region_lit ?_
  refine l_val (o := ⟨some 41, _, _, _, _, _⟩) (.pointer (some ⟨g, 0, none⟩)) rfl (exec_move (.tmp 4) (.pointer (some ⟨g, 0, none⟩)) rfl (by kernel_rfl)) ?_
  simp only [Act.put, List.setIfInBounds_toArray, List.set_cons_succ, List.set_cons_zero]
  refine l_call (o := ⟨some 42, _, _, _, _, _⟩) 36 #[.pointer (some ⟨g, 0, none⟩)] rfl (exec_call 36 _ [.tmp 41] _ _ Try.func36 (by kernel_rfl) (by kernel_rfl) rfl (by kernel_rfl) _) ?_
  refine (fdNum g L c A s6 w13 HR13 HO6 hcm).mono ?_
  rintro e w14 ⟨x7, s7, Hx7, Hs7, HY7, rfl, HR14, HO7, k14⟩
  have HX7 := Lib.hid (HY7.out.trans HX6.out)
  have Bn014 := Lib.hid (Bn013.out.keep k14 (by have := hn0.out; have := hgn.out; omega))
  have Bgc14 := Lib.hid (Bgc13.out.keep k14 (by have := hgc.out; have := hgn.out; omega))
  have kw14 : Kept w w14 := Keep.trans kw13 k14 (fun i hi h => by have := hbig.out; omega)
  clear kw13
  refine ⟨_, rfl, ?_⟩
  simp only [Act.put, List.setIfInBounds_toArray, List.set_cons_succ, List.set_cons_zero]
  refine l_val (o := ⟨some 43, _, _, _, _, _⟩) (.pointer (some ⟨g, 0, none⟩)) rfl (exec_move (.tmp 4) (.pointer (some ⟨g, 0, none⟩)) rfl (by kernel_rfl)) ?_
  simp only [Act.put, List.setIfInBounds_toArray, List.set_cons_succ, List.set_cons_zero]
  refine l_call (o := ⟨some 44, _, _, _, _, _⟩) 36 #[.pointer (some ⟨g, 0, none⟩)] rfl (exec_call 36 _ [.tmp 43] _ _ Try.func36 (by kernel_rfl) (by kernel_rfl) rfl (by kernel_rfl) _) ?_
  refine (fdNum g L c A s7 w14 HR14 HO7 hcm).mono ?_
  rintro e w15 ⟨x8, s8, Hx8, Hs8, HY8, rfl, HR15, HO8, k15⟩
  have HX8 := Lib.hid (HY8.out.trans HX7.out)
  have Bn015 := Lib.hid (Bn014.out.keep k15 (by have := hn0.out; have := hgn.out; omega))
  have Bgc15 := Lib.hid (Bgc14.out.keep k15 (by have := hgc.out; have := hgn.out; omega))
  have kw15 : Kept w w15 := Keep.trans kw14 k15 (fun i hi h => by have := hbig.out; omega)
  clear kw14
  refine ⟨_, rfl, ?_⟩
  simp only [Act.put, List.setIfInBounds_toArray, List.set_cons_succ, List.set_cons_zero]
  refine l_val (o := ⟨some 45, _, _, _, _, _⟩) (.pointer (some ⟨g, 0, none⟩)) rfl (exec_move (.tmp 4) (.pointer (some ⟨g, 0, none⟩)) rfl (by kernel_rfl)) ?_
  simp only [Act.put, List.setIfInBounds_toArray, List.set_cons_succ, List.set_cons_zero]
  refine l_call (o := ⟨some 46, _, _, _, _, _⟩) 36 #[.pointer (some ⟨g, 0, none⟩)] rfl (exec_call 36 _ [.tmp 45] _ _ Try.func36 (by kernel_rfl) (by kernel_rfl) rfl (by kernel_rfl) _) ?_
  refine (fdNum g L c A s8 w15 HR15 HO8 hcm).mono ?_
  rintro e w16 ⟨x9, s9, Hx9, Hs9, HY9, rfl, HR16, HO9, k16⟩
  have HX9 := Lib.hid (HY9.out.trans HX8.out)
  have Bn016 := Lib.hid (Bn015.out.keep k16 (by have := hn0.out; have := hgn.out; omega))
  have Bgc16 := Lib.hid (Bgc15.out.keep k16 (by have := hgc.out; have := hgn.out; omega))
  have kw16 : Kept w w16 := Keep.trans kw15 k16 (fun i hi h => by have := hbig.out; omega)
  clear kw15
  refine ⟨_, rfl, ?_⟩
  simp only [Act.put, List.setIfInBounds_toArray, List.set_cons_succ, List.set_cons_zero]
  refine l_val (o := ⟨some 47, _, _, _, _, _⟩) (.pointer (some ⟨g, 0, none⟩)) rfl (exec_move (.tmp 4) (.pointer (some ⟨g, 0, none⟩)) rfl (by kernel_rfl)) ?_
  simp only [Act.put, List.setIfInBounds_toArray, List.set_cons_succ, List.set_cons_zero]
  refine l_call (o := ⟨some 48, _, _, _, _, _⟩) 36 #[.pointer (some ⟨g, 0, none⟩)] rfl (exec_call 36 _ [.tmp 47] _ _ Try.func36 (by kernel_rfl) (by kernel_rfl) rfl (by kernel_rfl) _) ?_
  refine (fdNum g L c A s9 w16 HR16 HO9 hcm).mono ?_
  rintro e w17 ⟨x10, s10, Hx10, Hs10, HY10, rfl, HR17, HO10, k17⟩
  have HX10 := Lib.hid (HY10.out.trans HX9.out)
  have Bn017 := Lib.hid (Bn016.out.keep k17 (by have := hn0.out; have := hgn.out; omega))
  have Bgc17 := Lib.hid (Bgc16.out.keep k17 (by have := hgc.out; have := hgn.out; omega))
  have kw17 : Kept w w17 := Keep.trans kw16 k17 (fun i hi h => by have := hbig.out; omega)
  clear kw16
  refine ⟨_, rfl, ?_⟩
  simp only [Act.put, List.setIfInBounds_toArray, List.set_cons_succ, List.set_cons_zero]
  refine l_val (o := ⟨some 49, _, _, _, _, _⟩) (.pointer (some ⟨gc, 7, none⟩)) rfl (exec_fld 28 7 7 (.tmp 5) (gc) rfl (by kernel_rfl) (by kernel_rfl)) ?_
  simp only [Act.put, List.setIfInBounds_toArray, List.set_cons_succ, List.set_cons_zero]
  refine l_setf (o := ⟨none, _, _, _, _, _⟩) gc 7 28 ((((((Cmd.z 3).l.set 1 x2).set 3 x3).set 4 x4).set 5 x5).set 6 x6) zeros32 x7 (.tmp 49) (.tmp 42) rfl rfl (by kernel_rfl) (by kernel_rfl) Bgc17.out (by simp [Cmd.l]) ?_
  intro w18 b18 k18 z18
  have Bgc18 : Hid (Blk w18 gc 28 (stc (((((((Cmd.z 3).l.set 1 x2).set 3 x3).set 4 x4).set 5 x5).set 6 x6).set 7 x7) zeros32)) := b18
  have Bn018 := Lib.hid (Bn017.out.keep k18 (by have := hn0.out; have := hgc.out; have := hnc.out; omega))
  have HR18 := Lib.hid (HR17.out.off k18 (by have := hbig.out; have := hgc.out; have := hgn.out; omega) HX10.out (fun ad e hn => by have := hA.out ad e hn; have := hgc.out; omega))
  have kw18 : Kept w w18 := Keep.trans kw17 k18 (fun i hi h => by have := hgc.out; omega)
  clear kw17
  simp only [Act.put]
  refine l_val (o := ⟨some 50, _, _, _, _, _⟩) (.pointer (some ⟨gc, 8, none⟩)) rfl (exec_fld 28 8 8 (.tmp 5) (gc) rfl (by kernel_rfl) (by kernel_rfl)) ?_
  simp only [Act.put, List.setIfInBounds_toArray, List.set_cons_succ, List.set_cons_zero]
  refine l_setf (o := ⟨none, _, _, _, _, _⟩) gc 8 28 (((((((Cmd.z 3).l.set 1 x2).set 3 x3).set 4 x4).set 5 x5).set 6 x6).set 7 x7) zeros32 x8 (.tmp 50) (.tmp 44) rfl rfl (by kernel_rfl) (by kernel_rfl) Bgc18.out (by simp [Cmd.l]) ?_
  intro w19 b19 k19 z19
  have Bgc19 : Hid (Blk w19 gc 28 (stc ((((((((Cmd.z 3).l.set 1 x2).set 3 x3).set 4 x4).set 5 x5).set 6 x6).set 7 x7).set 8 x8) zeros32)) := b19
  have Bn019 := Lib.hid (Bn018.out.keep k19 (by have := hn0.out; have := hgc.out; have := hnc.out; omega))
  have HR19 := Lib.hid (HR18.out.off k19 (by have := hbig.out; have := hgc.out; have := hgn.out; omega) HX10.out (fun ad e hn => by have := hA.out ad e hn; have := hgc.out; omega))
  have kw19 : Kept w w19 := Keep.trans kw18 k19 (fun i hi h => by have := hgc.out; omega)
  clear kw18
  simp only [Act.put]
  refine l_val (o := ⟨some 51, _, _, _, _, _⟩) (.pointer (some ⟨gc, 9, none⟩)) rfl (exec_fld 28 9 9 (.tmp 5) (gc) rfl (by kernel_rfl) (by kernel_rfl)) ?_
  simp only [Act.put, List.setIfInBounds_toArray, List.set_cons_succ, List.set_cons_zero]
  refine l_setf (o := ⟨none, _, _, _, _, _⟩) gc 9 28 ((((((((Cmd.z 3).l.set 1 x2).set 3 x3).set 4 x4).set 5 x5).set 6 x6).set 7 x7).set 8 x8) zeros32 x9 (.tmp 51) (.tmp 46) rfl rfl (by kernel_rfl) (by kernel_rfl) Bgc19.out (by simp [Cmd.l]) ?_
  intro w20 b20 k20 z20
  have Bgc20 : Hid (Blk w20 gc 28 (stc (((((((((Cmd.z 3).l.set 1 x2).set 3 x3).set 4 x4).set 5 x5).set 6 x6).set 7 x7).set 8 x8).set 9 x9) zeros32)) := b20
  have Bn020 := Lib.hid (Bn019.out.keep k20 (by have := hn0.out; have := hgc.out; have := hnc.out; omega))
  have HR20 := Lib.hid (HR19.out.off k20 (by have := hbig.out; have := hgc.out; have := hgn.out; omega) HX10.out (fun ad e hn => by have := hA.out ad e hn; have := hgc.out; omega))
  have kw20 : Kept w w20 := Keep.trans kw19 k20 (fun i hi h => by have := hgc.out; omega)
  clear kw19
  simp only [Act.put]
  refine l_val (o := ⟨some 52, _, _, _, _, _⟩) (.pointer (some ⟨gc, 10, none⟩)) rfl (exec_fld 28 10 10 (.tmp 5) (gc) rfl (by kernel_rfl) (by kernel_rfl)) ?_
  simp only [Act.put, List.setIfInBounds_toArray, List.set_cons_succ, List.set_cons_zero]
  refine l_setf (o := ⟨none, _, _, _, _, _⟩) gc 10 28 (((((((((Cmd.z 3).l.set 1 x2).set 3 x3).set 4 x4).set 5 x5).set 6 x6).set 7 x7).set 8 x8).set 9 x9) zeros32 x10 (.tmp 52) (.tmp 48) rfl rfl (by kernel_rfl) (by kernel_rfl) Bgc20.out (by simp [Cmd.l]) ?_
  intro w21 b21 k21 z21
  have Bgc21 : Hid (Blk w21 gc 28 (stc ((((((((((Cmd.z 3).l.set 1 x2).set 3 x3).set 4 x4).set 5 x5).set 6 x6).set 7 x7).set 8 x8).set 9 x9).set 10 x10) zeros32)) := b21
  have Bn021 := Lib.hid (Bn020.out.keep k21 (by have := hn0.out; have := hgc.out; have := hnc.out; omega))
  have HR21 := Lib.hid (HR20.out.off k21 (by have := hbig.out; have := hgc.out; have := hgn.out; omega) HX10.out (fun ad e hn => by have := hA.out ad e hn; have := hgc.out; omega))
  have kw21 : Kept w w21 := Keep.trans kw20 k21 (fun i hi h => by have := hgc.out; omega)
  clear kw20
  simp only [Act.put]
  refine wpList_nil ?_
  go_upto_region 19 with fail
  have f1 := Hs1.out
  have f2 := Hs2.out
  have e2 := Hx2.out
  have f3 := Hs3.out
  have e3 := Hx3.out
  have f4 := Hs4.out
  have e4 := Hx4.out
  have f5 := Hs5.out
  have e5 := Hx5.out
  have f6 := Hs6.out
  have e6 := Hx6.out
  have f7 := Hs7.out
  have e7 := Hx7.out
  have f8 := Hs8.out
  have e8 := Hx8.out
  have f9 := Hs9.out
  have e9 := Hx9.out
  have f10 := Hs10.out
  have e10 := Hx10.out
  have hcmd : stc ((((((((((Cmd.z 3).l.set 1 x2).set 3 x3).set 4 x4).set 5 x5).set 6 x6).set 7 x7).set 8 x8).set 9 x9).set 10 x10) zeros32 = s0.cmd.cells ∧ s0.rest = s10 := by
    unfold RS.cmd RS.rest
    rw [hkk.out]
    subst f1
    subst e2
    subst f2
    subst e3
    subst f3
    subst e4
    subst f4
    subst e5
    subst f5
    subst e6
    subst f6
    subst e7
    subst f7
    subst e8
    subst f8
    subst e9
    subst f9
    subst e10
    subst f10
    exact ⟨rfl, rfl⟩
  obtain ⟨d, hd⟩ : ∃ d, d = s0.cmd := ⟨_, rfl⟩
  have HC : Hid (Blk w21 gc 28 d.cells) := by rw [hd, ← hcmd.1]; exact Bgc21.out
  have HTd : Hid (d.tag.length = 32) := by rw [hd]; exact RS.cmd_tag _
  have HRf : Hid (FRd w21 g A L c s0.rest) := by rw [hcmd.2]; exact HR21.out
  have Hd := Lib.hid hd
  clear hd hcmd Bgc21 HR21 f1 f2 f3 f4 f5 f6 f7 f8 f9 f10 e2 e3 e4 e5 e6 e7 e8 e9 e10
  cases hF : s0.rest.fin with
  | false =>
    have HG : Hid (getB xs = (Cmd.z 0, false)) := by show _ = _; unfold getB; rw [← HS.out, hF]; rfl
    refine wp_text 7 [.eq (.pointer (some ⟨g, 0, none⟩)), .eq (.bool false), .eq (.bool true), .eq (.bool true), .eq undef, .eq undef, .eq undef] rfl (by kernel_rfl) ?_ ?_
    · refine fsteps_cons 1 rfl (fun a u hE hD hk => f_val (o := ⟨some 109, _, _, _, _, _⟩) (.pointer (some ⟨g, 0, none⟩)) rfl (wanted_none rfl _) (exec_move (.tmp 4) (.pointer (some ⟨g, 0, none⟩)) rfl (hE 4 (.pointer (some ⟨g, 0, none⟩)) (by kernel_rfl) (by kernel_rfl))) rfl) ?_
      refine fsteps_cons 2 rfl (fun a u hE hD hk => f_call (o := ⟨some 110, _, _, _, _, _⟩) 37 #[.pointer (some ⟨g, 0, none⟩)] rfl (wanted_none rfl _) (exec_call 37 _ [.tmp 109] _ [.pointer (some ⟨g, 0, none⟩)] Try.func37 (by kernel_rfl) (by kernel_rfl) rfl (show [a.eval (.tmp 109)] = [.pointer (some ⟨g, 0, none⟩)] from (by rw [show a.eval (.tmp 109) = .pointer (some ⟨g, 0, none⟩) from (hD 0 109 (by kernel_rfl))] <;> rfl)) u) ((gend_any g L c A s0.rest u (HRf.out.kept hk)).mono (fun e w' ⟨h1, k, h2⟩ => ⟨_, h1, by rw [hF]; rfl, by rw [h2]; exact kept_drewN u k⟩))) ?_
      refine fsteps_cons 3 rfl (fun a u hE hD hk => f_val (o := ⟨some 111, _, _, _, _, _⟩) (.bool true) rfl (wanted_none rfl _) (exec_not _ (.tmp 110) false rfl (hD 1 110 (by kernel_rfl))) rfl) ?_
      refine fsteps_cons 4 rfl (fun a u hE hD hk => f_val (o := ⟨some 112, _, _, _, _, _⟩) (.bool true) rfl (wanted_none rfl _) (exec_move (.tmp 111) (.bool true) rfl (hD 2 111 (by kernel_rfl))) rfl) ?_
      refine fsteps_cons 5 rfl (fun a u hE hD hk => f_skip (o := ⟨some 113, _, _, _, _, _⟩) rfl (wanted_at (b := false) true rfl rfl (hD 3 112 (by kernel_rfl))) rfl) ?_
      refine fsteps_cons 6 rfl (fun a u hE hD hk => f_skip (o := ⟨some 114, _, _, _, _, _⟩) rfl (wanted_at (b := false) true rfl rfl (hD 3 112 (by kernel_rfl))) rfl) ?_
      refine fsteps_cons 7 rfl (fun a u hE hD hk => f_skip (o := ⟨some 115, _, _, _, _, _⟩) rfl (wanted_at (b := false) true rfl rfl (hD 3 112 (by kernel_rfl))) rfl) ?_
      exact fsteps_nil
    intro gv wx hV kx
    rw [show dstsOf _ 7 = [109, 110, 111, 112, 113, 114, 115] by kernel_rfl]
    simp only [List.foldl_cons, List.foldl_nil, List.setIfInBounds_toArray, List.set_cons_succ, List.set_cons_zero, List.drop_succ_cons, List.drop_zero]
    rw [show gv 112 = .bool true from hV 3 112 (by kernel_rfl)]
    rw [show gv 115 = undef from hV 6 115 (by kernel_rfl)]
    clear hV
    have kwx := kw21.trans kx
    have Bx := Lib.hid (Bn021.out.kept kx)
    have Cx := Lib.hid (HC.out.kept kx)
    go_upto_region 20 with fail
    refine wp_region_lit ?_
    refine l_val (o := ⟨some 117, _, _, _, _, _⟩) ((Cmd.z 0).v) rfl (exec_build 28 [] (Cmd.z 0).cells rfl (by kernel_rfl)) ?_
    simp only [Act.put, List.setIfInBounds_toArray, List.set_cons_succ, List.set_cons_zero]
    refine l_setS (o := ⟨none, _, _, _, _, _⟩) 28 n0 28 (Cmd.z 0).cells (Cmd.z 0).cells (.tmp 2) (.tmp 117) rfl rfl (by kernel_rfl) (by kernel_rfl) Bx.out cmd_size rfl (stc_one _ _) ?_
    intro wy b_y ky zy
    have kwy : Kept w wy := Kept.trans' kwx ky (by have := hn0.out; omega)
    simp only [Act.put]
    refine l_val (o := ⟨some 3, _, _, _, _, _⟩) (.bool false) rfl (exec_assign (.const (.bool false)) (.bool false) rfl (by kernel_rfl)) ?_
    simp only [Act.put, List.setIfInBounds_toArray, List.set_cons_succ, List.set_cons_zero]
    refine wpList_nil ?_
    go_wp2
    refine bodyPost_ret (results_cmd (p := 2) (q := 3) rfl _ _ n0 _ (Cmd.z 0).cells false rfl rfl b_y rfl) rfl ?_
    refine ⟨?_, kwy⟩
    rw [HG.out]
    rfl
  | true =>
    cases hR : d.right with
    | false =>
      have HG : Hid (getB xs = (Cmd.z 0, false)) := by show _ = _; unfold getB; rw [← HS.out, hF, ← Hd.out, hR]; rfl
      refine wp_text 7 [.eq (.pointer (some ⟨g, 0, none⟩)), .eq (.bool true), .eq (.bool false), .eq (.bool false), .eq (d.v), .eq (.bool false), .eq (.bool true)] rfl (by kernel_rfl) ?_ ?_
      · refine fsteps_cons 1 rfl (fun a u hE hD hk => f_val (o := ⟨some 109, _, _, _, _, _⟩) (.pointer (some ⟨g, 0, none⟩)) rfl (wanted_none rfl _) (exec_move (.tmp 4) (.pointer (some ⟨g, 0, none⟩)) rfl (hE 4 (.pointer (some ⟨g, 0, none⟩)) (by kernel_rfl) (by kernel_rfl))) rfl) ?_
        refine fsteps_cons 2 rfl (fun a u hE hD hk => f_call (o := ⟨some 110, _, _, _, _, _⟩) 37 #[.pointer (some ⟨g, 0, none⟩)] rfl (wanted_none rfl _) (exec_call 37 _ [.tmp 109] _ [.pointer (some ⟨g, 0, none⟩)] Try.func37 (by kernel_rfl) (by kernel_rfl) rfl (show [a.eval (.tmp 109)] = [.pointer (some ⟨g, 0, none⟩)] from (by rw [show a.eval (.tmp 109) = .pointer (some ⟨g, 0, none⟩) from (hD 0 109 (by kernel_rfl))] <;> rfl)) u) ((gend_any g L c A s0.rest u (HRf.out.kept hk)).mono (fun e w' ⟨h1, k, h2⟩ => ⟨_, h1, by rw [hF]; rfl, by rw [h2]; exact kept_drewN u k⟩))) ?_
        refine fsteps_cons 3 rfl (fun a u hE hD hk => f_val (o := ⟨some 111, _, _, _, _, _⟩) (.bool false) rfl (wanted_none rfl _) (exec_not _ (.tmp 110) true rfl (hD 1 110 (by kernel_rfl))) rfl) ?_
        refine fsteps_cons 4 rfl (fun a u hE hD hk => f_val (o := ⟨some 112, _, _, _, _, _⟩) (.bool false) rfl (wanted_none rfl _) (exec_move (.tmp 111) (.bool false) rfl (hD 2 111 (by kernel_rfl))) rfl) ?_
        refine fsteps_cons 5 rfl (fun a u hE hD hk => f_val (o := ⟨some 113, _, _, _, _, _⟩) (d.v) rfl (wanted_at (b := false) false rfl rfl (hD 3 112 (by kernel_rfl))) (exec_loadS 28 (.tmp 5) (gc) _ d.cells _ rfl (hE 5 (.pointer (some ⟨gc, 0, none⟩)) (by kernel_rfl) (by kernel_rfl)) (HC.out.kept hk) Try.underlying28 (by rw [Cmd.cells_len _ HTd.out]; exact cmd_size)) rfl) ?_
        refine fsteps_cons 6 rfl (fun a u hE hD hk => f_call (o := ⟨some 114, _, _, _, _, _⟩) 14 #[d.v] rfl (wanted_at (b := false) false rfl rfl (hD 3 112 (by kernel_rfl))) (exec_call 14 _ [.tmp 113] _ [d.v] Try.func14 (by kernel_rfl) (by kernel_rfl) rfl (show [a.eval (.tmp 113)] = [d.v] from (by rw [show a.eval (.tmp 113) = d.v from (hD 4 113 (by kernel_rfl))] <;> rfl)) u) (right_is d false u HTd hR)) ?_
        refine fsteps_cons 7 rfl (fun a u hE hD hk => f_val (o := ⟨some 115, _, _, _, _, _⟩) (.bool true) rfl (wanted_at (b := false) false rfl rfl (hD 3 112 (by kernel_rfl))) (exec_not _ (.tmp 114) false rfl (hD 5 114 (by kernel_rfl))) rfl) ?_
        exact fsteps_nil
      intro gv wx hV kx
      rw [show dstsOf _ 7 = [109, 110, 111, 112, 113, 114, 115] by kernel_rfl]
      simp only [List.foldl_cons, List.foldl_nil, List.setIfInBounds_toArray, List.set_cons_succ, List.set_cons_zero, List.drop_succ_cons, List.drop_zero]
      rw [show gv 112 = .bool false from hV 3 112 (by kernel_rfl)]
      rw [show gv 115 = .bool true from hV 6 115 (by kernel_rfl)]
      clear hV
      have kwx := kw21.trans kx
      have Bx := Lib.hid (Bn021.out.kept kx)
      have Cx := Lib.hid (HC.out.kept kx)
      go_upto_region 20 with fail
      refine wp_region_lit ?_
      refine l_val (o := ⟨some 117, _, _, _, _, _⟩) ((Cmd.z 0).v) rfl (exec_build 28 [] (Cmd.z 0).cells rfl (by kernel_rfl)) ?_
      simp only [Act.put, List.setIfInBounds_toArray, List.set_cons_succ, List.set_cons_zero]
      refine l_setS (o := ⟨none, _, _, _, _, _⟩) 28 n0 28 (Cmd.z 0).cells (Cmd.z 0).cells (.tmp 2) (.tmp 117) rfl rfl (by kernel_rfl) (by kernel_rfl) Bx.out cmd_size rfl (stc_one _ _) ?_
      intro wy b_y ky zy
      have kwy : Kept w wy := Kept.trans' kwx ky (by have := hn0.out; omega)
      simp only [Act.put]
      refine l_val (o := ⟨some 3, _, _, _, _, _⟩) (.bool false) rfl (exec_assign (.const (.bool false)) (.bool false) rfl (by kernel_rfl)) ?_
      simp only [Act.put, List.setIfInBounds_toArray, List.set_cons_succ, List.set_cons_zero]
      refine wpList_nil ?_
      go_wp2
      refine bodyPost_ret (results_cmd (p := 2) (q := 3) rfl _ _ n0 _ (Cmd.z 0).cells false rfl rfl b_y rfl) rfl ?_
      refine ⟨?_, kwy⟩
      rw [HG.out]
      rfl
    | true =>
      have HG : Hid (getB xs = (d, true)) := by show _ = _; unfold getB; rw [← HS.out, hF, ← Hd.out, hR]; rfl
      refine wp_text 7 [.eq (.pointer (some ⟨g, 0, none⟩)), .eq (.bool true), .eq (.bool false), .eq (.bool false), .eq (d.v), .eq (.bool true), .eq (.bool false)] rfl (by kernel_rfl) ?_ ?_
      · refine fsteps_cons 1 rfl (fun a u hE hD hk => f_val (o := ⟨some 109, _, _, _, _, _⟩) (.pointer (some ⟨g, 0, none⟩)) rfl (wanted_none rfl _) (exec_move (.tmp 4) (.pointer (some ⟨g, 0, none⟩)) rfl (hE 4 (.pointer (some ⟨g, 0, none⟩)) (by kernel_rfl) (by kernel_rfl))) rfl) ?_
        refine fsteps_cons 2 rfl (fun a u hE hD hk => f_call (o := ⟨some 110, _, _, _, _, _⟩) 37 #[.pointer (some ⟨g, 0, none⟩)] rfl (wanted_none rfl _) (exec_call 37 _ [.tmp 109] _ [.pointer (some ⟨g, 0, none⟩)] Try.func37 (by kernel_rfl) (by kernel_rfl) rfl (show [a.eval (.tmp 109)] = [.pointer (some ⟨g, 0, none⟩)] from (by rw [show a.eval (.tmp 109) = .pointer (some ⟨g, 0, none⟩) from (hD 0 109 (by kernel_rfl))] <;> rfl)) u) ((gend_any g L c A s0.rest u (HRf.out.kept hk)).mono (fun e w' ⟨h1, k, h2⟩ => ⟨_, h1, by rw [hF]; rfl, by rw [h2]; exact kept_drewN u k⟩))) ?_
        refine fsteps_cons 3 rfl (fun a u hE hD hk => f_val (o := ⟨some 111, _, _, _, _, _⟩) (.bool false) rfl (wanted_none rfl _) (exec_not _ (.tmp 110) true rfl (hD 1 110 (by kernel_rfl))) rfl) ?_
        refine fsteps_cons 4 rfl (fun a u hE hD hk => f_val (o := ⟨some 112, _, _, _, _, _⟩) (.bool false) rfl (wanted_none rfl _) (exec_move (.tmp 111) (.bool false) rfl (hD 2 111 (by kernel_rfl))) rfl) ?_
        refine fsteps_cons 5 rfl (fun a u hE hD hk => f_val (o := ⟨some 113, _, _, _, _, _⟩) (d.v) rfl (wanted_at (b := false) false rfl rfl (hD 3 112 (by kernel_rfl))) (exec_loadS 28 (.tmp 5) (gc) _ d.cells _ rfl (hE 5 (.pointer (some ⟨gc, 0, none⟩)) (by kernel_rfl) (by kernel_rfl)) (HC.out.kept hk) Try.underlying28 (by rw [Cmd.cells_len _ HTd.out]; exact cmd_size)) rfl) ?_
        refine fsteps_cons 6 rfl (fun a u hE hD hk => f_call (o := ⟨some 114, _, _, _, _, _⟩) 14 #[d.v] rfl (wanted_at (b := false) false rfl rfl (hD 3 112 (by kernel_rfl))) (exec_call 14 _ [.tmp 113] _ [d.v] Try.func14 (by kernel_rfl) (by kernel_rfl) rfl (show [a.eval (.tmp 113)] = [d.v] from (by rw [show a.eval (.tmp 113) = d.v from (hD 4 113 (by kernel_rfl))] <;> rfl)) u) (right_is d true u HTd hR)) ?_
        refine fsteps_cons 7 rfl (fun a u hE hD hk => f_val (o := ⟨some 115, _, _, _, _, _⟩) (.bool false) rfl (wanted_at (b := false) false rfl rfl (hD 3 112 (by kernel_rfl))) (exec_not _ (.tmp 114) true rfl (hD 5 114 (by kernel_rfl))) rfl) ?_
        exact fsteps_nil
      intro gv wx hV kx
      rw [show dstsOf _ 7 = [109, 110, 111, 112, 113, 114, 115] by kernel_rfl]
      simp only [List.foldl_cons, List.foldl_nil, List.setIfInBounds_toArray, List.set_cons_succ, List.set_cons_zero, List.drop_succ_cons, List.drop_zero]
      rw [show gv 112 = .bool false from hV 3 112 (by kernel_rfl)]
      rw [show gv 115 = .bool false from hV 6 115 (by kernel_rfl)]
      clear hV
      have kwx := kw21.trans kx
      have Bx := Lib.hid (Bn021.out.kept kx)
      have Cx := Lib.hid (HC.out.kept kx)
      go_upto_region 21 with fail
      refine wp_region_lit ?_
      refine l_val (o := ⟨some 118, _, _, _, _, _⟩) (d.v) rfl (exec_loadS 28 (.tmp 5) gc 28 d.cells _ rfl (by kernel_rfl) Cx.out Try.underlying28 (by rw [Cmd.cells_len d HTd.out]; exact cmd_size)) ?_
      simp only [Act.put, List.setIfInBounds_toArray, List.set_cons_succ, List.set_cons_zero]
      refine l_setS (o := ⟨none, _, _, _, _, _⟩) 28 n0 28 (Cmd.z 0).cells d.cells (.tmp 2) (.tmp 118) rfl rfl (by kernel_rfl) (by kernel_rfl) Bx.out (by rw [Cmd.cells_len d HTd.out]; exact cmd_size) (by rw [Cmd.cells_len d HTd.out]; rfl) (stc_one _ _) ?_
      intro wy b_y ky zy
      have kwy : Kept w wy := Kept.trans' kwx ky (by have := hn0.out; omega)
      simp only [Act.put]
      refine l_val (o := ⟨some 3, _, _, _, _, _⟩) (.bool true) rfl (exec_assign (.const (.bool true)) (.bool true) rfl (by kernel_rfl)) ?_
      simp only [Act.put, List.setIfInBounds_toArray, List.set_cons_succ, List.set_cons_zero]
      refine wpList_nil ?_
      go_wp2
      refine bodyPost_ret (results_cmd (p := 2) (q := 3) rfl _ _ n0 _ d.cells true rfl rfl b_y (Cmd.cells_len d HTd.out)) rfl ?_
      refine ⟨?_, kwy⟩
      rw [HG.out]
      rfl

set_option maxRecDepth 100000 in
set_option maxHeartbeats 6400000 in
theorem getc_4 (v : Value) (xs : List UInt8) (s0 : RS) (HS : Hid (s0 = RS.new xs)) (w : World) (hv : Bytes w v xs) (hl : xs.length ≤ 1000) (hkk : Hid (s0.kind = 4)) : Calls Try.prog 19 #[v] w (GotIn w xs) := by
  obtain ⟨A, L, c, rfl, hL, hx, h1, hcm_, h3⟩ := hv
  have hcm : Hid (c ≤ maxLen) := hcm_
  have HX := Lib.hid hx
  have HO0 : Hid s0.ok := by rw [HS.out]; exact ⟨Nat.zero_le _, by show xs.length ≤ _; omega⟩
  have hA : Hid (∀ ad, A = some ad → xs ≠ [] → ad.block < w.heap.size) := fun ad e hn => R8.lt (by rw [← e]; exact HX.out) hn
  have hLc : Hid (L ≤ c) := h1
  have kw : Kept w w := Kept.refl w
  clear hx h1 h3 hl hcm_
  go_enter Try.func19, Try.ntmps19
  go_upto_region 0 with fail
  refine wp_region_lit ?_
  refine l_alloc (o := ⟨some 2, _, _, _, _, _⟩) 28 (Cmd.z 0).cells rfl rfl cmd_zero ?_
  intro wa ba za ka
  simp only [Act.put, List.setIfInBounds_toArray, List.set_cons_succ, List.set_cons_zero]
  refine l_val (o := ⟨some 3, _, _, _, _, _⟩) (.bool false) rfl (exec_assign (.const (.bool false)) (.bool false) rfl (by kernel_rfl)) ?_
  simp only [Act.put, List.setIfInBounds_toArray, List.set_cons_succ, List.set_cons_zero]
  refine wpList_nil ?_
  obtain ⟨n0, hn⟩ : ∃ n0, n0 = w.heap.size := ⟨_, rfl⟩
  rw [← hn] at ba ⊢
  have hn0 : Hid (w.heap.size ≤ n0) := by show _ ≤ _; omega
  have hl0 : Hid (n0 < wa.heap.size) := by show _ < _; omega
  have Ba : Hid (Blk wa n0 28 (Cmd.z 0).cells) := ba
  clear hn ba za
  go_upto_region 1 with fail
  refine wp_region_lit ?_
  refine l_val (o := ⟨some 6, _, _, _, _, _⟩) (.slice A L c) rfl (exec_move (.tmp 0) (.slice A L c) rfl (by kernel_rfl)) ?_
  simp only [Act.put, List.setIfInBounds_toArray, List.set_cons_succ, List.set_cons_zero]
  refine l_val (o := ⟨some 7, _, _, _, _, _⟩) (.agg #[.slice A L c, .int .i64 0, .bool false]) rfl (exec_build 58 _ [.slice A L c, .int .i64 0, .bool false] rfl (by kernel_rfl)) ?_
  simp only [Act.put, List.setIfInBounds_toArray, List.set_cons_succ, List.set_cons_zero]
  refine l_new (o := ⟨some 8, _, _, _, _, _⟩) (.pointer (some ⟨wa.heap.size, 0, none⟩)) (wa.alloc (.cells ([.slice A L c, .int .i64 0, .bool false] : List Value).toArray 58)) rfl (exec_box 58 (.tmp 7) [.slice A L c, .int .i64 0, .bool false] rfl (by kernel_rfl)) ?_
  simp only [Act.put, List.setIfInBounds_toArray, List.set_cons_succ, List.set_cons_zero]
  refine l_val (o := ⟨some 4, _, _, _, _, _⟩) (.pointer (some ⟨wa.heap.size, 0, none⟩)) rfl (exec_assign (.tmp 8) (.pointer (some ⟨wa.heap.size, 0, none⟩)) rfl (by kernel_rfl)) ?_
  simp only [Act.put, List.setIfInBounds_toArray, List.set_cons_succ, List.set_cons_zero]
  refine wpList_nil ?_
  have k0_ : Kept wa (wa.alloc (.cells ([.slice A L c, .int .i64 0, .bool false] : List Value).toArray 58)) := (Keep.refl _ wa).alloc _
  have b0 := Blk.new wa 58 [.slice A L c, .int .i64 0, .bool false]
  generalize wa.alloc (.cells ([.slice A L c, .int .i64 0, .bool false] : List Value).toArray 58) = w0 at k0_ b0 ⊢
  obtain ⟨g, hg⟩ : ∃ g, g = wa.heap.size := ⟨_, rfl⟩
  rw [← hg] at b0 ⊢
  have hgn : Hid (n0 < g) := by show _ < _; have := hl0.out; omega
  have hbig : Hid (w.heap.size ≤ g) := by show _ ≤ _; have := hgn.out; have := hn0.out; omega
  have kw0 := (kw.trans ka).trans k0_
  have Bn00 := Lib.hid (Ba.out.kept k0_)
  have HR0 : Hid (FRd w0 g A L c s0) := by
    rw [HS.out]
    exact ⟨hL, b0, (HX.out.kept ka).kept k0_, fun ad e hn => by have := hA.out ad e hn; have := hbig.out; omega, hLc.out⟩
  have HX0 : Hid (s0.xs = xs) := by rw [HS.out]; rfl
  clear hg b0 k0_ ka kw hl0 Ba
  go_upto_region 2 with fail
  refine wp_region_lit ?_
  refine l_val (o := ⟨some 9, _, _, _, _, _⟩) (.pointer (some ⟨g, 0, none⟩)) rfl (exec_move (.tmp 4) (.pointer (some ⟨g, 0, none⟩)) rfl (by kernel_rfl)) ?_
  simp only [Act.put, List.setIfInBounds_toArray, List.set_cons_succ, List.set_cons_zero]
  refine l_call (o := ⟨some 10, _, _, _, _, _⟩) 34 #[.pointer (some ⟨g, 0, none⟩)] rfl (exec_call 34 _ [.tmp 9] _ _ Try.func34 (by kernel_rfl) (by kernel_rfl) rfl (by kernel_rfl) _) ?_
  refine (fdU8 g L c A s0 w0 HR0 HO0 hcm).mono ?_
  rintro e w1 ⟨x1, s1, Hx1, Hs1, HY1, rfl, HR1, HO1, k1⟩
  have HX1 := Lib.hid (HY1.out.trans HX0.out)
  have Bn01 := Lib.hid (Bn00.out.keep k1 (by have := hn0.out; have := hgn.out; omega))
  have kw1 : Kept w w1 := Keep.trans kw0 k1 (fun i hi h => by have := hbig.out; omega)
  clear kw0
  refine ⟨_, rfl, ?_⟩
  simp only [Act.put, List.setIfInBounds_toArray, List.set_cons_succ, List.set_cons_zero]
  refine l_val (o := ⟨some 11, _, _, _, _, _⟩) ((Cmd.z x1).v) rfl (exec_build 28 _ (Cmd.z x1).cells rfl (by kernel_rfl)) ?_
  simp only [Act.put, List.setIfInBounds_toArray, List.set_cons_succ, List.set_cons_zero]
  refine l_alloc (o := ⟨some 5, _, _, _, _, _⟩) 28 (Cmd.z 0).cells rfl rfl cmd_zero ?_
  intro w2 b2 z2 k2
  obtain ⟨gc, hgc_⟩ : ∃ gc, gc = w1.heap.size := ⟨_, rfl⟩
  rw [← hgc_] at b2 ⊢
  have hgg : Hid (n0 < g ∧ g < gc) := ⟨hgn.out, by have := HR1.out.2.1.lt; omega⟩
  have hnc : Hid (n0 < gc) := by show _ < _; have := hgg.out; omega
  have hgc : Hid (w.heap.size ≤ gc) := by show _ ≤ _; have := hnc.out; have := hn0.out; omega
  clear hgc_ hgn
  have hgn := hgg
  clear hgg
  have Bn02 := Lib.hid (Bn01.out.kept k2)
  have HR2 := Lib.hid (HR1.out.kept k2)
  have kw2 : Kept w w2 := Keep.kept kw1 k2
  clear kw1
  simp only [Act.put, List.setIfInBounds_toArray, List.set_cons_succ, List.set_cons_zero]
  refine l_setS (o := ⟨none, _, _, _, _, _⟩) 28 gc 28 (Cmd.z 0).cells (Cmd.z x1).cells (.tmp 5) (.tmp 11) rfl rfl (by kernel_rfl) (by kernel_rfl) b2 cmd_size rfl (stc_one _ _) ?_
  intro w3 b3 k3 z3
  have Bgc3 : Hid (Blk w3 gc 28 (stc (Cmd.z x1).l zeros32)) := b3
  have Bn03 := Lib.hid (Bn02.out.keep k3 (by have := hn0.out; have := hgc.out; have := hnc.out; omega))
  have HR3 := Lib.hid (HR2.out.off k3 (by have := hbig.out; have := hgc.out; have := hgn.out; omega) HX1.out (fun ad e hn => by have := hA.out ad e hn; have := hgc.out; omega))
  have kw3 : Kept w w3 := Keep.trans kw2 k3 (fun i hi h => by have := hgc.out; omega)
  clear kw2
  simp only [Act.put]
  refine wpList_nil ?_
  obtain rfl : x1 = 4 := Hx1.out.trans hkk.out
  have hc : w3.cell? ⟨gc, 0, none⟩ = some (.int .i64 4) := Bgc3.out.fld 0 _ rfl
  go_upto_region 12 with fail
  refine wp_region_lit ?_
  refine l_val (o := ⟨some 55, _, _, _, _, _⟩) (.pointer (some ⟨g, 0, none⟩)) rfl (exec_move (.tmp 4) (.pointer (some ⟨g, 0, none⟩)) rfl (by kernel_rfl)) ?_
  simp only [Act.put, List.setIfInBounds_toArray, List.set_cons_succ, List.set_cons_zero]
  refine l_call (o := ⟨some 56, _, _, _, _, _⟩) 36 #[.pointer (some ⟨g, 0, none⟩)] rfl (exec_call 36 _ [.tmp 55] _ _ Try.func36 (by kernel_rfl) (by kernel_rfl) rfl (by kernel_rfl) _) ?_
  refine (fdNum g L c A s1 w3 HR3 HO1 hcm).mono ?_
  rintro e w4 ⟨x2, s2, Hx2, Hs2, HY2, rfl, HR4, HO2, k4⟩
  have HX2 := Lib.hid (HY2.out.trans HX1.out)
  have Bn04 := Lib.hid (Bn03.out.keep k4 (by have := hn0.out; have := hgn.out; omega))
  have Bgc4 := Lib.hid (Bgc3.out.keep k4 (by have := hgc.out; have := hgn.out; omega))
  have kw4 : Kept w w4 := Keep.trans kw3 k4 (fun i hi h => by have := hbig.out; omega)
  clear kw3
  refine ⟨_, rfl, ?_⟩
  simp only [Act.put, List.setIfInBounds_toArray, List.set_cons_succ, List.set_cons_zero]
  refine l_val (o := ⟨some 57, _, _, _, _, _⟩) (.pointer (some ⟨g, 0, none⟩)) rfl (exec_move (.tmp 4) (.pointer (some ⟨g, 0, none⟩)) rfl (by kernel_rfl)) ?_
  simp only [Act.put, List.setIfInBounds_toArray, List.set_cons_succ, List.set_cons_zero]
  refine l_call (o := ⟨some 58, _, _, _, _, _⟩) 34 #[.pointer (some ⟨g, 0, none⟩)] rfl (exec_call 34 _ [.tmp 57] _ _ Try.func34 (by kernel_rfl) (by kernel_rfl) rfl (by kernel_rfl) _) ?_
  refine (fdU8 g L c A s2 w4 HR4 HO2 hcm).mono ?_
  rintro e w5 ⟨x3, s3, Hx3, Hs3, HY3, rfl, HR5, HO3, k5⟩
  have HX3 := Lib.hid (HY3.out.trans HX2.out)
  have Bn05 := Lib.hid (Bn04.out.keep k5 (by have := hn0.out; have := hgn.out; omega))
  have Bgc5 := Lib.hid (Bgc4.out.keep k5 (by have := hgc.out; have := hgn.out; omega))
  have kw5 : Kept w w5 := Keep.trans kw4 k5 (fun i hi h => by have := hbig.out; omega)
  clear kw4
  refine ⟨_, rfl, ?_⟩
  simp only [Act.put, List.setIfInBounds_toArray, List.set_cons_succ, List.set_cons_zero]
  refine l_val (o := ⟨some 59, _, _, _, _, _⟩) (.pointer (some ⟨g, 0, none⟩)) rfl (exec_move (.tmp 4) (.pointer (some ⟨g, 0, none⟩)) rfl (by kernel_rfl)) ?_
  simp only [Act.put, List.setIfInBounds_toArray, List.set_cons_succ, List.set_cons_zero]
  refine l_call (o := ⟨some 60, _, _, _, _, _⟩) 36 #[.pointer (some ⟨g, 0, none⟩)] rfl (exec_call 36 _ [.tmp 59] _ _ Try.func36 (by kernel_rfl) (by kernel_rfl) rfl (by kernel_rfl) _) ?_
  refine (fdNum g L c A s3 w5 HR5 HO3 hcm).mono ?_
  rintro e w6 ⟨x4, s4, Hx4, Hs4, HY4, rfl, HR6, HO4, k6⟩
  have HX4 := Lib.hid (HY4.out.trans HX3.out)
  have Bn06 := Lib.hid (Bn05.out.keep k6 (by have := hn0.out; have := hgn.out; omega))
  have Bgc6 := Lib.hid (Bgc5.out.keep k6 (by have := hgc.out; have := hgn.out; omega))
  have kw6 : Kept w w6 := Keep.trans kw5 k6 (fun i hi h => by have := hbig.out; omega)
  clear kw5
  refine ⟨_, rfl, ?_⟩
  simp only [Act.put, List.setIfInBounds_toArray, List.set_cons_succ, List.set_cons_zero]
  refine l_val (o := ⟨some 61, _, _, _, _, _⟩) (.pointer (some ⟨g, 0, none⟩)) rfl (exec_move (.tmp 4) (.pointer (some ⟨g, 0, none⟩)) rfl (by kernel_rfl)) ?_
  simp only [Act.put, List.setIfInBounds_toArray, List.set_cons_succ, List.set_cons_zero]
  refine l_call (o := ⟨some 62, _, _, _, _, _⟩) 34 #[.pointer (some ⟨g, 0, none⟩)] rfl (exec_call 34 _ [.tmp 61] _ _ Try.func34 (by kernel_rfl) (by kernel_rfl) rfl (by kernel_rfl) _) ?_
  refine (fdU8 g L c A s4 w6 HR6 HO4 hcm).mono ?_
  rintro e w7 ⟨x5, s5, Hx5, Hs5, HY5, rfl, HR7, HO5, k7⟩
  have HX5 := Lib.hid (HY5.out.trans HX4.out)
  have Bn07 := Lib.hid (Bn06.out.keep k7 (by have := hn0.out; have := hgn.out; omega))
  have Bgc7 := Lib.hid (Bgc6.out.keep k7 (by have := hgc.out; have := hgn.out; omega))
  have kw7 : Kept w w7 := Keep.trans kw6 k7 (fun i hi h => by have := hbig.out; omega)
  clear kw6
  refine ⟨_, rfl, ?_⟩
  simp only [Act.put, List.setIfInBounds_toArray, List.set_cons_succ, List.set_cons_zero]
  refine l_val (o := ⟨some 63, _, _, _, _, _⟩) (.pointer (some ⟨gc, 1, none⟩)) rfl (exec_fld 28 1 1 (.tmp 5) (gc) rfl (by kernel_rfl) (by kernel_rfl)) ?_
  simp only [Act.put, List.setIfInBounds_toArray, List.set_cons_succ, List.set_cons_zero]
  refine l_setf (o := ⟨none, _, _, _, _, _⟩) gc 1 28 (Cmd.z 4).l zeros32 x2 (.tmp 63) (.tmp 56) rfl rfl (by kernel_rfl) (by kernel_rfl) Bgc7.out (by simp [Cmd.l]) ?_
  intro w8 b8 k8 z8
  have Bgc8 : Hid (Blk w8 gc 28 (stc ((Cmd.z 4).l.set 1 x2) zeros32)) := b8
  have Bn08 := Lib.hid (Bn07.out.keep k8 (by have := hn0.out; have := hgc.out; have := hnc.out; omega))
  have HR8 := Lib.hid (HR7.out.off k8 (by have := hbig.out; have := hgc.out; have := hgn.out; omega) HX5.out (fun ad e hn => by have := hA.out ad e hn; have := hgc.out; omega))
  have kw8 : Kept w w8 := Keep.trans kw7 k8 (fun i hi h => by have := hgc.out; omega)
  clear kw7
  simp only [Act.put]
  refine l_val (o := ⟨some 64, _, _, _, _, _⟩) (.pointer (some ⟨gc, 3, none⟩)) rfl (exec_fld 28 3 3 (.tmp 5) (gc) rfl (by kernel_rfl) (by kernel_rfl)) ?_
  simp only [Act.put, List.setIfInBounds_toArray, List.set_cons_succ, List.set_cons_zero]
  refine l_setf (o := ⟨none, _, _, _, _, _⟩) gc 3 28 ((Cmd.z 4).l.set 1 x2) zeros32 x3 (.tmp 64) (.tmp 58) rfl rfl (by kernel_rfl) (by kernel_rfl) Bgc8.out (by simp [Cmd.l]) ?_
  intro w9 b9 k9 z9
  have Bgc9 : Hid (Blk w9 gc 28 (stc (((Cmd.z 4).l.set 1 x2).set 3 x3) zeros32)) := b9
  have Bn09 := Lib.hid (Bn08.out.keep k9 (by have := hn0.out; have := hgc.out; have := hnc.out; omega))
  have HR9 := Lib.hid (HR8.out.off k9 (by have := hbig.out; have := hgc.out; have := hgn.out; omega) HX5.out (fun ad e hn => by have := hA.out ad e hn; have := hgc.out; omega))
  have kw9 : Kept w w9 := Keep.trans kw8 k9 (fun i hi h => by have := hgc.out; omega)
  clear kw8
  simp only [Act.put]
  refine l_val (o := ⟨some 65, _, _, _, _, _⟩) (.pointer (some ⟨gc, 4, none⟩)) rfl (exec_fld 28 4 4 (.tmp 5) (gc) rfl (by kernel_rfl) (by kernel_rfl)) ?_
  simp only [Act.put, List.setIfInBounds_toArray, List.set_cons_succ, List.set_cons_zero]
  refine l_setf (o := ⟨none, _, _, _, _, _⟩) gc 4 28 (((Cmd.z 4).l.set 1 x2).set 3 x3) zeros32 x4 (.tmp 65) (.tmp 60) rfl rfl (by kernel_rfl) (by kernel_rfl) Bgc9.out (by simp [Cmd.l]) ?_
  intro w10 b10 k10 z10
  have Bgc10 : Hid (Blk w10 gc 28 (stc ((((Cmd.z 4).l.set 1 x2).set 3 x3).set 4 x4) zeros32)) := b10
  have Bn010 := Lib.hid (Bn09.out.keep k10 (by have := hn0.out; have := hgc.out; have := hnc.out; omega))
  have HR10 := Lib.hid (HR9.out.off k10 (by have := hbig.out; have := hgc.out; have := hgn.out; omega) HX5.out (fun ad e hn => by have := hA.out ad e hn; have := hgc.out; omega))
  have kw10 : Kept w w10 := Keep.trans kw9 k10 (fun i hi h => by have := hgc.out; omega)
  clear kw9
  simp only [Act.put]
  refine l_val (o := ⟨some 66, _, _, _, _, _⟩) (.pointer (some ⟨gc, 2, none⟩)) rfl (exec_fld 28 2 2 (.tmp 5) (gc) rfl (by kernel_rfl) (by kernel_rfl)) ?_
  simp only [Act.put, List.setIfInBounds_toArray, List.set_cons_succ, List.set_cons_zero]
  refine l_setf (o := ⟨none, _, _, _, _, _⟩) gc 2 28 ((((Cmd.z 4).l.set 1 x2).set 3 x3).set 4 x4) zeros32 x5 (.tmp 66) (.tmp 62) rfl rfl (by kernel_rfl) (by kernel_rfl) Bgc10.out (by simp [Cmd.l]) ?_
  intro w11 b11 k11 z11
  have Bgc11 : Hid (Blk w11 gc 28 (stc (((((Cmd.z 4).l.set 1 x2).set 3 x3).set 4 x4).set 2 x5) zeros32)) := b11
  have Bn011 := Lib.hid (Bn010.out.keep k11 (by have := hn0.out; have := hgc.out; have := hnc.out; omega))
  have HR11 := Lib.hid (HR10.out.off k11 (by have := hbig.out; have := hgc.out; have := hgn.out; omega) HX5.out (fun ad e hn => by have := hA.out ad e hn; have := hgc.out; omega))
  have kw11 : Kept w w11 := Keep.trans kw10 k11 (fun i hi h => by have := hgc.out; omega)
  clear kw10
  simp only [Act.put]
  refine wpList_nil ?_
  go_upto_region 19 with fail
  have f1 := Hs1.out
  have f2 := Hs2.out
  have e2 := Hx2.out
  have f3 := Hs3.out
  have e3 := Hx3.out
  have f4 := Hs4.out
  have e4 := Hx4.out
  have f5 := Hs5.out
  have e5 := Hx5.out
  have hcmd : stc (((((Cmd.z 4).l.set 1 x2).set 3 x3).set 4 x4).set 2 x5) zeros32 = s0.cmd.cells ∧ s0.rest = s5 := by
    unfold RS.cmd RS.rest
    rw [hkk.out]
    subst f1
    subst e2
    subst f2
    subst e3
    subst f3
    subst e4
    subst f4
    subst e5
    subst f5
    exact ⟨rfl, rfl⟩
  obtain ⟨d, hd⟩ : ∃ d, d = s0.cmd := ⟨_, rfl⟩
  have HC : Hid (Blk w11 gc 28 d.cells) := by rw [hd, ← hcmd.1]; exact Bgc11.out
  have HTd : Hid (d.tag.length = 32) := by rw [hd]; exact RS.cmd_tag _
  have HRf : Hid (FRd w11 g A L c s0.rest) := by rw [hcmd.2]; exact HR11.out
  have Hd := Lib.hid hd
  clear hd hcmd Bgc11 HR11 f1 f2 f3 f4 f5 e2 e3 e4 e5
  cases hF : s0.rest.fin with
  | false =>
    have HG : Hid (getB xs = (Cmd.z 0, false)) := by show _ = _; unfold getB; rw [← HS.out, hF]; rfl
    refine wp_text 7 [.eq (.pointer (some ⟨g, 0, none⟩)), .eq (.bool false), .eq (.bool true), .eq (.bool true), .eq undef, .eq undef, .eq undef] rfl (by kernel_rfl) ?_ ?_
    · refine fsteps_cons 1 rfl (fun a u hE hD hk => f_val (o := ⟨some 109, _, _, _, _, _⟩) (.pointer (some ⟨g, 0, none⟩)) rfl (wanted_none rfl _) (exec_move (.tmp 4) (.pointer (some ⟨g, 0, none⟩)) rfl (hE 4 (.pointer (some ⟨g, 0, none⟩)) (by kernel_rfl) (by kernel_rfl))) rfl) ?_
      refine fsteps_cons 2 rfl (fun a u hE hD hk => f_call (o := ⟨some 110, _, _, _, _, _⟩) 37 #[.pointer (some ⟨g, 0, none⟩)] rfl (wanted_none rfl _) (exec_call 37 _ [.tmp 109] _ [.pointer (some ⟨g, 0, none⟩)] Try.func37 (by kernel_rfl) (by kernel_rfl) rfl (show [a.eval (.tmp 109)] = [.pointer (some ⟨g, 0, none⟩)] from (by rw [show a.eval (.tmp 109) = .pointer (some ⟨g, 0, none⟩) from (hD 0 109 (by kernel_rfl))] <;> rfl)) u) ((gend_any g L c A s0.rest u (HRf.out.kept hk)).mono (fun e w' ⟨h1, k, h2⟩ => ⟨_, h1, by rw [hF]; rfl, by rw [h2]; exact kept_drewN u k⟩))) ?_
      refine fsteps_cons 3 rfl (fun a u hE hD hk => f_val (o := ⟨some 111, _, _, _, _, _⟩) (.bool true) rfl (wanted_none rfl _) (exec_not _ (.tmp 110) false rfl (hD 1 110 (by kernel_rfl))) rfl) ?_
      refine fsteps_cons 4 rfl (fun a u hE hD hk => f_val (o := ⟨some 112, _, _, _, _, _⟩) (.bool true) rfl (wanted_none rfl _) (exec_move (.tmp 111) (.bool true) rfl (hD 2 111 (by kernel_rfl))) rfl) ?_
      refine fsteps_cons 5 rfl (fun a u hE hD hk => f_skip (o := ⟨some 113, _, _, _, _, _⟩) rfl (wanted_at (b := false) true rfl rfl (hD 3 112 (by kernel_rfl))) rfl) ?_
      refine fsteps_cons 6 rfl (fun a u hE hD hk => f_skip (o := ⟨some 114, _, _, _, _, _⟩) rfl (wanted_at (b := false) true rfl rfl (hD 3 112 (by kernel_rfl))) rfl) ?_
      refine fsteps_cons 7 rfl (fun a u hE hD hk => f_skip (o := ⟨some 115, _, _, _, _, _⟩) rfl (wanted_at (b := false) true rfl rfl (hD 3 112 (by kernel_rfl))) rfl) ?_
      exact fsteps_nil
    intro gv wx hV kx
    rw [show dstsOf _ 7 = [109, 110, 111, 112, 113, 114, 115] by kernel_rfl]
    simp only [List.foldl_cons, List.foldl_nil, List.setIfInBounds_toArray, List.set_cons_succ, List.set_cons_zero, List.drop_succ_cons, List.drop_zero]
    rw [show gv 112 = .bool true from hV 3 112 (by kernel_rfl)]
    rw [show gv 115 = undef from hV 6 115 (by kernel_rfl)]
    clear hV
    have kwx := kw11.trans kx
    have Bx := Lib.hid (Bn011.out.kept kx)
    have Cx := Lib.hid (HC.out.kept kx)
    go_upto_region 20 with fail
    refine wp_region_lit ?_
    refine l_val (o := ⟨some 117, _, _, _, _, _⟩) ((Cmd.z 0).v) rfl (exec_build 28 [] (Cmd.z 0).cells rfl (by kernel_rfl)) ?_
    simp only [Act.put, List.setIfInBounds_toArray, List.set_cons_succ, List.set_cons_zero]
    refine l_setS (o := ⟨none, _, _, _, _, _⟩) 28 n0 28 (Cmd.z 0).cells (Cmd.z 0).cells (.tmp 2) (.tmp 117) rfl rfl (by kernel_rfl) (by kernel_rfl) Bx.out cmd_size rfl (stc_one _ _) ?_
    intro wy b_y ky zy
    have kwy : Kept w wy := Kept.trans' kwx ky (by have := hn0.out; omega)
    simp only [Act.put]
    refine l_val (o := ⟨some 3, _, _, _, _, _⟩) (.bool false) rfl (exec_assign (.const (.bool false)) (.bool false) rfl (by kernel_rfl)) ?_
    simp only [Act.put, List.setIfInBounds_toArray, List.set_cons_succ, List.set_cons_zero]
    refine wpList_nil ?_
    go_wp2
    refine bodyPost_ret (results_cmd (p := 2) (q := 3) rfl _ _ n0 _ (Cmd.z 0).cells false rfl rfl b_y rfl) rfl ?_
    refine ⟨?_, kwy⟩
    rw [HG.out]
    rfl
  | true =>
    cases hR : d.right with
    | false =>
      have HG : Hid (getB xs = (Cmd.z 0, false)) := by show _ = _; unfold getB; rw [← HS.out, hF, ← Hd.out, hR]; rfl
      refine wp_text 7 [.eq (.pointer (some ⟨g, 0, none⟩)), .eq (.bool true), .eq (.bool false), .eq (.bool false), .eq (d.v), .eq (.bool false), .eq (.bool true)] rfl (by kernel_rfl) ?_ ?_
      · refine fsteps_cons 1 rfl (fun a u hE hD hk => f_val (o := ⟨some 109, _, _, _, _, _⟩) (.pointer (some ⟨g, 0, none⟩)) rfl (wanted_none rfl _) (exec_move (.tmp 4) (.pointer (some ⟨g, 0, none⟩)) rfl (hE 4 (.pointer (some ⟨g, 0, none⟩)) (by kernel_rfl) (by kernel_rfl))) rfl) ?_
        refine fsteps_cons 2 rfl (fun a u hE hD hk => f_call (o := ⟨some 110, _, _, _, _, _⟩) 37 #[.pointer (some ⟨g, 0, none⟩)] rfl (wanted_none rfl _) (exec_call 37 _ [.tmp 109] _ [.pointer (some ⟨g, 0, none⟩)] Try.func37 (by kernel_rfl) (by kernel_rfl) rfl (show [a.eval (.tmp 109)] = [.pointer (some ⟨g, 0, none⟩)] from (by rw [show a.eval (.tmp 109) = .pointer (some ⟨g, 0, none⟩) from (hD 0 109 (by kernel_rfl))] <;> rfl)) u) ((gend_any g L c A s0.rest u (HRf.out.kept hk)).mono (fun e w' ⟨h1, k, h2⟩ => ⟨_, h1, by rw [hF]; rfl, by rw [h2]; exact kept_drewN u k⟩))) ?_
        refine fsteps_cons 3 rfl (fun a u hE hD hk => f_val (o := ⟨some 111, _, _, _, _, _⟩) (.bool false) rfl (wanted_none rfl _) (exec_not _ (.tmp 110) true rfl (hD 1 110 (by kernel_rfl))) rfl) ?_
        refine fsteps_cons 4 rfl (fun a u hE hD hk => f_val (o := ⟨some 112, _, _, _, _, _⟩) (.bool false) rfl (wanted_none rfl _) (exec_move (.tmp 111) (.bool false) rfl (hD 2 111 (by kernel_rfl))) rfl) ?_
        refine fsteps_cons 5 rfl (fun a u hE hD hk => f_val (o := ⟨some 113, _, _, _, _, _⟩) (d.v) rfl (wanted_at (b := false) false rfl rfl (hD 3 112 (by kernel_rfl))) (exec_loadS 28 (.tmp 5) (gc) _ d.cells _ rfl (hE 5 (.pointer (some ⟨gc, 0, none⟩)) (by kernel_rfl) (by kernel_rfl)) (HC.out.kept hk) Try.underlying28 (by rw [Cmd.cells_len _ HTd.out]; exact cmd_size)) rfl) ?_
        refine fsteps_cons 6 rfl (fun a u hE hD hk => f_call (o := ⟨some 114, _, _, _, _, _⟩) 14 #[d.v] rfl (wanted_at (b := false) false rfl rfl (hD 3 112 (by kernel_rfl))) (exec_call 14 _ [.tmp 113] _ [d.v] Try.func14 (by kernel_rfl) (by kernel_rfl) rfl (show [a.eval (.tmp 113)] = [d.v] from (by rw [show a.eval (.tmp 113) = d.v from (hD 4 113 (by kernel_rfl))] <;> rfl)) u) (right_is d false u HTd hR)) ?_
        refine fsteps_cons 7 rfl (fun a u hE hD hk => f_val (o := ⟨some 115, _, _, _, _, _⟩) (.bool true) rfl (wanted_at (b := false) false rfl rfl (hD 3 112 (by kernel_rfl))) (exec_not _ (.tmp 114) false rfl (hD 5 114 (by kernel_rfl))) rfl) ?_
        exact fsteps_nil
      intro gv wx hV kx
      rw [show dstsOf _ 7 = [109, 110, 111, 112, 113, 114, 115] by kernel_rfl]
      simp only [List.foldl_cons, List.foldl_nil, List.setIfInBounds_toArray, List.set_cons_succ, List.set_cons_zero, List.drop_succ_cons, List.drop_zero]
      rw [show gv 112 = .bool false from hV 3 112 (by kernel_rfl)]
      rw [show gv 115 = .bool true from hV 6 115 (by kernel_rfl)]
      clear hV
      have kwx := kw11.trans kx
      have Bx := Lib.hid (Bn011.out.kept kx)
      have Cx := Lib.hid (HC.out.kept kx)
      go_upto_region 20 with fail
      refine wp_region_lit ?_
      refine l_val (o := ⟨some 117, _, _, _, _, _⟩) ((Cmd.z 0).v) rfl (exec_build 28 [] (Cmd.z 0).cells rfl (by kernel_rfl)) ?_
      simp only [Act.put, List.setIfInBounds_toArray, List.set_cons_succ, List.set_cons_zero]
      refine l_setS (o := ⟨none, _, _, _, _, _⟩) 28 n0 28 (Cmd.z 0).cells (Cmd.z 0).cells (.tmp 2) (.tmp 117) rfl rfl (by kernel_rfl) (by kernel_rfl) Bx.out cmd_size rfl (stc_one _ _) ?_
      intro wy b_y ky zy
      have kwy : Kept w wy := Kept.trans' kwx ky (by have := hn0.out; omega)
      simp only [Act.put]
      refine l_val (o := ⟨some 3, _, _, _, _, _⟩) (.bool false) rfl (exec_assign (.const (.bool false)) (.bool false) rfl (by kernel_rfl)) ?_
      simp only [Act.put, List.setIfInBounds_toArray, List.set_cons_succ, List.set_cons_zero]
      refine wpList_nil ?_
      go_wp2
      refine bodyPost_ret (results_cmd (p := 2) (q := 3) rfl _ _ n0 _ (Cmd.z 0).cells false rfl rfl b_y rfl) rfl ?_
      refine ⟨?_, kwy⟩
      rw [HG.out]
      rfl
    | true =>
      have HG : Hid (getB xs = (d, true)) := by show _ = _; unfold getB; rw [← HS.out, hF, ← Hd.out, hR]; rfl
      refine wp_text 7 [.eq (.pointer (some ⟨g, 0, none⟩)), .eq (.bool true), .eq (.bool false), .eq (.bool false), .eq (d.v), .eq (.bool true), .eq (.bool false)] rfl (by kernel_rfl) ?_ ?_
      · refine fsteps_cons 1 rfl (fun a u hE hD hk => f_val (o := ⟨some 109, _, _, _, _, _⟩) (.pointer (some ⟨g, 0, none⟩)) rfl (wanted_none rfl _) (exec_move (.tmp 4) (.pointer (some ⟨g, 0, none⟩)) rfl (hE 4 (.pointer (some ⟨g, 0, none⟩)) (by kernel_rfl) (by kernel_rfl))) rfl) ?_
        refine fsteps_cons 2 rfl (fun a u hE hD hk => f_call (o := ⟨some 110, _, _, _, _, _⟩) 37 #[.pointer (some ⟨g, 0, none⟩)] rfl (wanted_none rfl _) (exec_call 37 _ [.tmp 109] _ [.pointer (some ⟨g, 0, none⟩)] Try.func37 (by kernel_rfl) (by kernel_rfl) rfl (show [a.eval (.tmp 109)] = [.pointer (some ⟨g, 0, none⟩)] from (by rw [show a.eval (.tmp 109) = .pointer (some ⟨g, 0, none⟩) from (hD 0 109 (by kernel_rfl))] <;> rfl)) u) ((gend_any g L c A s0.rest u (HRf.out.kept hk)).mono (fun e w' ⟨h1, k, h2⟩ => ⟨_, h1, by rw [hF]; rfl, by rw [h2]; exact kept_drewN u k⟩))) ?_
        refine fsteps_cons 3 rfl (fun a u hE hD hk => f_val (o := ⟨some 111, _, _, _, _, _⟩) (.bool false) rfl (wanted_none rfl _) (exec_not _ (.tmp 110) true rfl (hD 1 110 (by kernel_rfl))) rfl) ?_
        refine fsteps_cons 4 rfl (fun a u hE hD hk => f_val (o := ⟨some 112, _, _, _, _, _⟩) (.bool false) rfl (wanted_none rfl _) (exec_move (.tmp 111) (.bool false) rfl (hD 2 111 (by kernel_rfl))) rfl) ?_
        refine fsteps_cons 5 rfl (fun a u hE hD hk => f_val (o := ⟨some 113, _, _, _, _, _⟩) (d.v) rfl (wanted_at (b := false) false rfl rfl (hD 3 112 (by kernel_rfl))) (exec_loadS 28 (.tmp 5) (gc) _ d.cells _ rfl (hE 5 (.pointer (some ⟨gc, 0, none⟩)) (by kernel_rfl) (by kernel_rfl)) (HC.out.kept hk) Try.underlying28 (by rw [Cmd.cells_len _ HTd.out]; exact cmd_size)) rfl) ?_
        refine fsteps_cons 6 rfl (fun a u hE hD hk => f_call (o := ⟨some 114, _, _, _, _, _⟩) 14 #[d.v] rfl (wanted_at (b := false) false rfl rfl (hD 3 112 (by kernel_rfl))) (exec_call 14 _ [.tmp 113] _ [d.v] Try.func14 (by kernel_rfl) (by kernel_rfl) rfl (show [a.eval (.tmp 113)] = [d.v] from (by rw [show a.eval (.tmp 113) = d.v from (hD 4 113 (by kernel_rfl))] <;> rfl)) u) (right_is d true u HTd hR)) ?_
        refine fsteps_cons 7 rfl (fun a u hE hD hk => f_val (o := ⟨some 115, _, _, _, _, _⟩) (.bool false) rfl (wanted_at (b := false) false rfl rfl (hD 3 112 (by kernel_rfl))) (exec_not _ (.tmp 114) true rfl (hD 5 114 (by kernel_rfl))) rfl) ?_
        exact fsteps_nil
      intro gv wx hV kx
      rw [show dstsOf _ 7 = [109, 110, 111, 112, 113, 114, 115] by kernel_rfl]
      simp only [List.foldl_cons, List.foldl_nil, List.setIfInBounds_toArray, List.set_cons_succ, List.set_cons_zero, List.drop_succ_cons, List.drop_zero]
      rw [show gv 112 = .bool false from hV 3 112 (by kernel_rfl)]
      rw [show gv 115 = .bool false from hV 6 115 (by kernel_rfl)]
      clear hV
      have kwx := kw11.trans kx
      have Bx := Lib.hid (Bn011.out.kept kx)
      have Cx := Lib.hid (HC.out.kept kx)
      go_upto_region 21 with fail
      refine wp_region_lit ?_
      refine l_val (o := ⟨some 118, _, _, _, _, _⟩) (d.v) rfl (exec_loadS 28 (.tmp 5) gc 28 d.cells _ rfl (by kernel_rfl) Cx.out Try.underlying28 (by rw [Cmd.cells_len d HTd.out]; exact cmd_size)) ?_
      simp only [Act.put, List.setIfInBounds_toArray, List.set_cons_succ, List.set_cons_zero]
      refine l_setS (o := ⟨none, _, _, _, _, _⟩) 28 n0 28 (Cmd.z 0).cells d.cells (.tmp 2) (.tmp 118) rfl rfl (by kernel_rfl) (by kernel_rfl) Bx.out (by rw [Cmd.cells_len d HTd.out]; exact cmd_size) (by rw [Cmd.cells_len d HTd.out]; rfl) (stc_one _ _) ?_
      intro wy b_y ky zy
      have kwy : Kept w wy := Kept.trans' kwx ky (by have := hn0.out; omega)
      simp only [Act.put]
      refine l_val (o := ⟨some 3, _, _, _, _, _⟩) (.bool true) rfl (exec_assign (.const (.bool true)) (.bool true) rfl (by kernel_rfl)) ?_
      simp only [Act.put, List.setIfInBounds_toArray, List.set_cons_succ, List.set_cons_zero]
      refine wpList_nil ?_
      go_wp2
      refine bodyPost_ret (results_cmd (p := 2) (q := 3) rfl _ _ n0 _ d.cells true rfl rfl b_y (Cmd.cells_len d HTd.out)) rfl ?_
      refine ⟨?_, kwy⟩
      rw [HG.out]
      rfl

set_option maxRecDepth 100000 in
set_option maxHeartbeats 6400000 in
theorem getc_5 (v : Value) (xs : List UInt8) (s0 : RS) (HS : Hid (s0 = RS.new xs)) (w : World) (hv : Bytes w v xs) (hl : xs.length ≤ 1000) (hkk : Hid (s0.kind = 5)) : Calls Try.prog 19 #[v] w (GotIn w xs) := by
  obtain ⟨A, L, c, rfl, hL, hx, h1, hcm_, h3⟩ := hv
  have hcm : Hid (c ≤ maxLen) := hcm_
  have HX := Lib.hid hx
  have HO0 : Hid s0.ok := by rw [HS.out]; exact ⟨Nat.zero_le _, by show xs.length ≤ _; omega⟩
  have hA : Hid (∀ ad, A = some ad → xs ≠ [] → ad.block < w.heap.size) := fun ad e hn => R8.lt (by rw [← e]; exact HX.out) hn
  have hLc : Hid (L ≤ c) := h1
  have kw : Kept w w := Kept.refl w
  clear hx h1 h3 hl hcm_
  go_enter Try.func19, Try.ntmps19
  go_upto_region 0 with fail
  refine wp_region_lit ?_
  refine l_alloc (o := ⟨some 2, _, _, _, _, _⟩) 28 (Cmd.z 0).cells rfl rfl cmd_zero ?_
  intro wa ba za ka
  simp only [Act.put, List.setIfInBounds_toArray, List.set_cons_succ, List.set_cons_zero]
  refine l_val (o := ⟨some 3, _, _, _, _, _⟩) (.bool false) rfl (exec_assign (.const (.bool false)) (.bool false) rfl (by kernel_rfl)) ?_
  simp only [Act.put, List.setIfInBounds_toArray, List.set_cons_succ, List.set_cons_zero]
  refine wpList_nil ?_
  obtain ⟨n0, hn⟩ : ∃ n0, n0 = w.heap.size := ⟨_, rfl⟩
  rw [← hn] at ba ⊢
  have hn0 : Hid (w.heap.size ≤ n0) := by show _ ≤ _; omega
  have hl0 : Hid (n0 < wa.heap.size) := by show _ < _; omega
  have Ba : Hid (Blk wa n0 28 (Cmd.z 0).cells) := ba
  clear hn ba za
  go_upto_region 1 with fail
  refine wp_region_lit ?_
  refine l_val (o := ⟨some 6, _, _, _, _, _⟩) (.slice A L c) rfl (exec_move (.tmp 0) (.slice A L c) rfl (by kernel_rfl)) ?_
  simp only [Act.put, List.setIfInBounds_toArray, List.set_cons_succ, List.set_cons_zero]
  refine l_val (o := ⟨some 7, _, _, _, _, _⟩) (.agg #[.slice A L c, .int .i64 0, .bool false]) rfl (exec_build 58 _ [.slice A L c, .int .i64 0, .bool false] rfl (by kernel_rfl)) ?_
  simp only [Act.put, List.setIfInBounds_toArray, List.set_cons_succ, List.set_cons_zero]
  refine l_new (o := ⟨some 8, _, _, _, _, _⟩) (.pointer (some ⟨wa.heap.size, 0, none⟩)) (wa.alloc (.cells ([.slice A L c, .int .i64 0, .bool false] : List Value).toArray 58)) rfl (exec_box 58 (.tmp 7) [.slice A L c, .int .i64 0, .bool false] rfl (by kernel_rfl)) ?_
  simp only [Act.put, List.setIfInBounds_toArray, List.set_cons_succ, List.set_cons_zero]
  refine l_val (o := ⟨some 4, _, _, _, _, _⟩) (.pointer (some ⟨wa.heap.size, 0, none⟩)) rfl (exec_assign (.tmp 8) (.pointer (some ⟨wa.heap.size, 0, none⟩)) rfl (by kernel_rfl)) ?_
  simp only [Act.put, List.setIfInBounds_toArray, List.set_cons_succ, List.set_cons_zero]
  refine wpList_nil ?_
  have k0_ : Kept wa (wa.alloc (.cells ([.slice A L c, .int .i64 0, .bool false] : List Value).toArray 58)) := (Keep.refl _ wa).alloc _
  have b0 := Blk.new wa 58 [.slice A L c, .int .i64 0, .bool false]
  generalize wa.alloc (.cells ([.slice A L c, .int .i64 0, .bool false] : List Value).toArray 58) = w0 at k0_ b0 ⊢
  obtain ⟨g, hg⟩ : ∃ g, g = wa.heap.size := ⟨_, rfl⟩
  rw [← hg] at b0 ⊢
  have hgn : Hid (n0 < g) := by show _ < _; have := hl0.out; omega
  have hbig : Hid (w.heap.size ≤ g) := by show _ ≤ _; have := hgn.out; have := hn0.out; omega
  have kw0 := (kw.trans ka).trans k0_
  have Bn00 := Lib.hid (Ba.out.kept k0_)
  have HR0 : Hid (FRd w0 g A L c s0) := by
    rw [HS.out]
    exact ⟨hL, b0, (HX.out.kept ka).kept k0_, fun ad e hn => by have := hA.out ad e hn; have := hbig.out; omega, hLc.out⟩
  have HX0 : Hid (s0.xs = xs) := by rw [HS.out]; rfl
  clear hg b0 k0_ ka kw hl0 Ba
  go_upto_region 2 with fail
  refine wp_region_lit ?_
  refine l_val (o := ⟨some 9, _, _, _, _, _⟩) (.pointer (some ⟨g, 0, none⟩)) rfl (exec_move (.tmp 4) (.pointer (some ⟨g, 0, none⟩)) rfl (by kernel_rfl)) ?_
  simp only [Act.put, List.setIfInBounds_toArray, List.set_cons_succ, List.set_cons_zero]
  refine l_call (o := ⟨some 10, _, _, _, _, _⟩) 34 #[.pointer (some ⟨g, 0, none⟩)] rfl (exec_call 34 _ [.tmp 9] _ _ Try.func34 (by kernel_rfl) (by kernel_rfl) rfl (by kernel_rfl) _) ?_
  refine (fdU8 g L c A s0 w0 HR0 HO0 hcm).mono ?_
  rintro e w1 ⟨x1, s1, Hx1, Hs1, HY1, rfl, HR1, HO1, k1⟩
  have HX1 := Lib.hid (HY1.out.trans HX0.out)
  have Bn01 := Lib.hid (Bn00.out.keep k1 (by have := hn0.out; have := hgn.out; omega))
  have kw1 : Kept w w1 := Keep.trans kw0 k1 (fun i hi h => by have := hbig.out; omega)
  clear kw0
  refine ⟨_, rfl, ?_⟩
  simp only [Act.put, List.setIfInBounds_toArray, List.set_cons_succ, List.set_cons_zero]
  refine l_val (o := ⟨some 11, _, _, _, _, _⟩) ((Cmd.z x1).v) rfl (exec_build 28 _ (Cmd.z x1).cells rfl (by kernel_rfl)) ?_
  simp only [Act.put, List.setIfInBounds_toArray, List.set_cons_succ, List.set_cons_zero]
  refine l_alloc (o := ⟨some 5, _, _, _, _, _⟩) 28 (Cmd.z 0).cells rfl rfl cmd_zero ?_
  intro w2 b2 z2 k2
  obtain ⟨gc, hgc_⟩ : ∃ gc, gc = w1.heap.size := ⟨_, rfl⟩
  rw [← hgc_] at b2 ⊢
  have hgg : Hid (n0 < g ∧ g < gc) := ⟨hgn.out, by have := HR1.out.2.1.lt; omega⟩
  have hnc : Hid (n0 < gc) := by show _ < _; have := hgg.out; omega
  have hgc : Hid (w.heap.size ≤ gc) := by show _ ≤ _; have := hnc.out; have := hn0.out; omega
  clear hgc_ hgn
  have hgn := hgg
  clear hgg
  have Bn02 := Lib.hid (Bn01.out.kept k2)
  have HR2 := Lib.hid (HR1.out.kept k2)
  have kw2 : Kept w w2 := Keep.kept kw1 k2
  clear kw1
  simp only [Act.put, List.setIfInBounds_toArray, List.set_cons_succ, List.set_cons_zero]
  refine l_setS (o := ⟨none, _, _, _, _, _⟩) 28 gc 28 (Cmd.z 0).cells (Cmd.z x1).cells (.tmp 5) (.tmp 11) rfl rfl (by kernel_rfl) (by kernel_rfl) b2 cmd_size rfl (stc_one _ _) ?_
  intro w3 b3 k3 z3
  have Bgc3 : Hid (Blk w3 gc 28 (stc (Cmd.z x1).l zeros32)) := b3
  have Bn03 := Lib.hid (Bn02.out.keep k3 (by have := hn0.out; have := hgc.out; have := hnc.out; omega))
  have HR3 := Lib.hid (HR2.out.off k3 (by have := hbig.out; have := hgc.out; have := hgn.out; omega) HX1.out (fun ad e hn => by have := hA.out ad e hn; have := hgc.out; omega))
  have kw3 : Kept w w3 := Keep.trans kw2 k3 (fun i hi h => by have := hgc.out; omega)
  clear kw2
  simp only [Act.put]
  refine wpList_nil ?_
  obtain rfl : x1 = 5 := Hx1.out.trans hkk.out
  have hc : w3.cell? ⟨gc, 0, none⟩ = some (.int .i64 5) := Bgc3.out.fld 0 _ rfl
  go_upto_region 14 with fail
  refine wp_region_lit ?_
  refine l_val (o := ⟨some 69, _, _, _, _, _⟩) (.pointer (some ⟨g, 0, none⟩)) rfl (exec_move (.tmp 4) (.pointer (some ⟨g, 0, none⟩)) rfl (by kernel_rfl)) ?_
  simp only [Act.put, List.setIfInBounds_toArray, List.set_cons_succ, List.set_cons_zero]
  refine l_call (o := ⟨some 70, _, _, _, _, _⟩) 36 #[.pointer (some ⟨g, 0, none⟩)] rfl (exec_call 36 _ [.tmp 69] _ _ Try.func36 (by kernel_rfl) (by kernel_rfl) rfl (by kernel_rfl) _) ?_
  refine (fdNum g L c A s1 w3 HR3 HO1 hcm).mono ?_
  rintro e w4 ⟨x2, s2, Hx2, Hs2, HY2, rfl, HR4, HO2, k4⟩
  have HX2 := Lib.hid (HY2.out.trans HX1.out)
  have Bn04 := Lib.hid (Bn03.out.keep k4 (by have := hn0.out; have := hgn.out; omega))
  have Bgc4 := Lib.hid (Bgc3.out.keep k4 (by have := hgc.out; have := hgn.out; omega))
  have kw4 : Kept w w4 := Keep.trans kw3 k4 (fun i hi h => by have := hbig.out; omega)
  clear kw3
  refine ⟨_, rfl, ?_⟩
  simp only [Act.put, List.setIfInBounds_toArray, List.set_cons_succ, List.set_cons_zero]
  refine l_val (o := ⟨some 71, _, _, _, _, _⟩) (.pointer (some ⟨g, 0, none⟩)) rfl (exec_move (.tmp 4) (.pointer (some ⟨g, 0, none⟩)) rfl (by kernel_rfl)) ?_
  simp only [Act.put, List.setIfInBounds_toArray, List.set_cons_succ, List.set_cons_zero]
  refine l_call (o := ⟨some 72, _, _, _, _, _⟩) 34 #[.pointer (some ⟨g, 0, none⟩)] rfl (exec_call 34 _ [.tmp 71] _ _ Try.func34 (by kernel_rfl) (by kernel_rfl) rfl (by kernel_rfl) _) ?_
  refine (fdU8 g L c A s2 w4 HR4 HO2 hcm).mono ?_
  rintro e w5 ⟨x3, s3, Hx3, Hs3, HY3, rfl, HR5, HO3, k5⟩
  have HX3 := Lib.hid (HY3.out.trans HX2.out)
  have Bn05 := Lib.hid (Bn04.out.keep k5 (by have := hn0.out; have := hgn.out; omega))
  have Bgc5 := Lib.hid (Bgc4.out.keep k5 (by have := hgc.out; have := hgn.out; omega))
  have kw5 : Kept w w5 := Keep.trans kw4 k5 (fun i hi h => by have := hbig.out; omega)
  clear kw4
  refine ⟨_, rfl, ?_⟩
  simp only [Act.put, List.setIfInBounds_toArray, List.set_cons_succ, List.set_cons_zero]
  refine l_val (o := ⟨some 73, _, _, _, _, _⟩) (.pointer (some ⟨g, 0, none⟩)) rfl (exec_move (.tmp 4) (.pointer (some ⟨g, 0, none⟩)) rfl (by kernel_rfl)) ?_
  simp only [Act.put, List.setIfInBounds_toArray, List.set_cons_succ, List.set_cons_zero]
  refine l_call (o := ⟨some 74, _, _, _, _, _⟩) 36 #[.pointer (some ⟨g, 0, none⟩)] rfl (exec_call 36 _ [.tmp 73] _ _ Try.func36 (by kernel_rfl) (by kernel_rfl) rfl (by kernel_rfl) _) ?_
  refine (fdNum g L c A s3 w5 HR5 HO3 hcm).mono ?_
  rintro e w6 ⟨x4, s4, Hx4, Hs4, HY4, rfl, HR6, HO4, k6⟩
  have HX4 := Lib.hid (HY4.out.trans HX3.out)
  have Bn06 := Lib.hid (Bn05.out.keep k6 (by have := hn0.out; have := hgn.out; omega))
  have Bgc6 := Lib.hid (Bgc5.out.keep k6 (by have := hgc.out; have := hgn.out; omega))
  have kw6 : Kept w w6 := Keep.trans kw5 k6 (fun i hi h => by have := hbig.out; omega)
  clear kw5
  refine ⟨_, rfl, ?_⟩
  simp only [Act.put, List.setIfInBounds_toArray, List.set_cons_succ, List.set_cons_zero]
  refine l_val (o := ⟨some 75, _, _, _, _, _⟩) (.pointer (some ⟨g, 0, none⟩)) rfl (exec_move (.tmp 4) (.pointer (some ⟨g, 0, none⟩)) rfl (by kernel_rfl)) ?_
  simp only [Act.put, List.setIfInBounds_toArray, List.set_cons_succ, List.set_cons_zero]
  refine l_call (o := ⟨some 76, _, _, _, _, _⟩) 36 #[.pointer (some ⟨g, 0, none⟩)] rfl (exec_call 36 _ [.tmp 75] _ _ Try.func36 (by kernel_rfl) (by kernel_rfl) rfl (by kernel_rfl) _) ?_
  refine (fdNum g L c A s4 w6 HR6 HO4 hcm).mono ?_
  rintro e w7 ⟨x5, s5, Hx5, Hs5, HY5, rfl, HR7, HO5, k7⟩
  have HX5 := Lib.hid (HY5.out.trans HX4.out)
  have Bn07 := Lib.hid (Bn06.out.keep k7 (by have := hn0.out; have := hgn.out; omega))
  have Bgc7 := Lib.hid (Bgc6.out.keep k7 (by have := hgc.out; have := hgn.out; omega))
  have kw7 : Kept w w7 := Keep.trans kw6 k7 (fun i hi h => by have := hbig.out; omega)
  clear kw6
  refine ⟨_, rfl, ?_⟩
  simp only [Act.put, List.setIfInBounds_toArray, List.set_cons_succ, List.set_cons_zero]
  refine l_val (o := ⟨some 77, _, _, _, _, _⟩) (.pointer (some ⟨g, 0, none⟩)) rfl (exec_move (.tmp 4) (.pointer (some ⟨g, 0, none⟩)) rfl (by kernel_rfl)) ?_
  simp only [Act.put, List.setIfInBounds_toArray, List.set_cons_succ, List.set_cons_zero]
  refine l_call (o := ⟨some 78, _, _, _, _, _⟩) 36 #[.pointer (some ⟨g, 0, none⟩)] rfl (exec_call 36 _ [.tmp 77] _ _ Try.func36 (by kernel_rfl) (by kernel_rfl) rfl (by kernel_rfl) _) ?_
  refine (fdNum g L c A s5 w7 HR7 HO5 hcm).mono ?_
  rintro e w8 ⟨x6, s6, Hx6, Hs6, HY6, rfl, HR8, HO6, k8⟩
  have HX6 := Lib.hid (HY6.out.trans HX5.out)
  have Bn08 := Lib.hid (Bn07.out.keep k8 (by have := hn0.out; have := hgn.out; omega))
  have Bgc8 := Lib.hid (Bgc7.out.keep k8 (by have := hgc.out; have := hgn.out; omega))
  have kw8 : Kept w w8 := Keep.trans kw7 k8 (fun i hi h => by have := hbig.out; omega)
  clear kw7
  refine ⟨_, rfl, ?_⟩
  simp only [Act.put, List.setIfInBounds_toArray, List.set_cons_succ, List.set_cons_zero]
  refine l_val (o := ⟨some 79, _, _, _, _, _⟩) (.pointer (some ⟨gc, 1, none⟩)) rfl (exec_fld 28 1 1 (.tmp 5) (gc) rfl (by kernel_rfl) (by kernel_rfl)) ?_
  simp only [Act.put, List.setIfInBounds_toArray, List.set_cons_succ, List.set_cons_zero]
  refine l_setf (o := ⟨none, _, _, _, _, _⟩) gc 1 28 (Cmd.z 5).l zeros32 x2 (.tmp 79) (.tmp 70) rfl rfl (by kernel_rfl) (by kernel_rfl) Bgc8.out (by simp [Cmd.l]) ?_
  intro w9 b9 k9 z9
  have Bgc9 : Hid (Blk w9 gc 28 (stc ((Cmd.z 5).l.set 1 x2) zeros32)) := b9
  have Bn09 := Lib.hid (Bn08.out.keep k9 (by have := hn0.out; have := hgc.out; have := hnc.out; omega))
  have HR9 := Lib.hid (HR8.out.off k9 (by have := hbig.out; have := hgc.out; have := hgn.out; omega) HX6.out (fun ad e hn => by have := hA.out ad e hn; have := hgc.out; omega))
  have kw9 : Kept w w9 := Keep.trans kw8 k9 (fun i hi h => by have := hgc.out; omega)
  clear kw8
  simp only [Act.put]
  refine l_val (o := ⟨some 80, _, _, _, _, _⟩) (.pointer (some ⟨gc, 3, none⟩)) rfl (exec_fld 28 3 3 (.tmp 5) (gc) rfl (by kernel_rfl) (by kernel_rfl)) ?_
  simp only [Act.put, List.setIfInBounds_toArray, List.set_cons_succ, List.set_cons_zero]
  refine l_setf (o := ⟨none, _, _, _, _, _⟩) gc 3 28 ((Cmd.z 5).l.set 1 x2) zeros32 x3 (.tmp 80) (.tmp 72) rfl rfl (by kernel_rfl) (by kernel_rfl) Bgc9.out (by simp [Cmd.l]) ?_
  intro w10 b10 k10 z10
  have Bgc10 : Hid (Blk w10 gc 28 (stc (((Cmd.z 5).l.set 1 x2).set 3 x3) zeros32)) := b10
  have Bn010 := Lib.hid (Bn09.out.keep k10 (by have := hn0.out; have := hgc.out; have := hnc.out; omega))
  have HR10 := Lib.hid (HR9.out.off k10 (by have := hbig.out; have := hgc.out; have := hgn.out; omega) HX6.out (fun ad e hn => by have := hA.out ad e hn; have := hgc.out; omega))
  have kw10 : Kept w w10 := Keep.trans kw9 k10 (fun i hi h => by have := hgc.out; omega)
  clear kw9
  simp only [Act.put]
  refine l_val (o := ⟨some 81, _, _, _, _, _⟩) (.pointer (some ⟨gc, 4, none⟩)) rfl (exec_fld 28 4 4 (.tmp 5) (gc) rfl (by kernel_rfl) (by kernel_rfl)) ?_
  simp only [Act.put, List.setIfInBounds_toArray, List.set_cons_succ, List.set_cons_zero]
  refine l_setf (o := ⟨none, _, _, _, _, _⟩) gc 4 28 (((Cmd.z 5).l.set 1 x2).set 3 x3) zeros32 x4 (.tmp 81) (.tmp 74) rfl rfl (by kernel_rfl) (by kernel_rfl) Bgc10.out (by simp [Cmd.l]) ?_
  intro w11 b11 k11 z11
  have Bgc11 : Hid (Blk w11 gc 28 (stc ((((Cmd.z 5).l.set 1 x2).set 3 x3).set 4 x4) zeros32)) := b11
  have Bn011 := Lib.hid (Bn010.out.keep k11 (by have := hn0.out; have := hgc.out; have := hnc.out; omega))
  have HR11 := Lib.hid (HR10.out.off k11 (by have := hbig.out; have := hgc.out; have := hgn.out; omega) HX6.out (fun ad e hn => by have := hA.out ad e hn; have := hgc.out; omega))
  have kw11 : Kept w w11 := Keep.trans kw10 k11 (fun i hi h => by have := hgc.out; omega)
  clear kw10
  simp only [Act.put]
  refine l_val (o := ⟨some 82, _, _, _, _, _⟩) (.pointer (some ⟨gc, 7, none⟩)) rfl (exec_fld 28 7 7 (.tmp 5) (gc) rfl (by kernel_rfl) (by kernel_rfl)) ?_
  simp only [Act.put, List.setIfInBounds_toArray, List.set_cons_succ, List.set_cons_zero]
  refine l_setf (o := ⟨none, _, _, _, _, _⟩) gc 7 28 ((((Cmd.z 5).l.set 1 x2).set 3 x3).set 4 x4) zeros32 x5 (.tmp 82) (.tmp 76) rfl rfl (by kernel_rfl) (by kernel_rfl) Bgc11.out (by simp [Cmd.l]) ?_
  intro w12 b12 k12 z12
  have Bgc12 : Hid (Blk w12 gc 28 (stc (((((Cmd.z 5).l.set 1 x2).set 3 x3).set 4 x4).set 7 x5) zeros32)) := b12
  have Bn012 := Lib.hid (Bn011.out.keep k12 (by have := hn0.out; have := hgc.out; have := hnc.out; omega))
  have HR12 := Lib.hid (HR11.out.off k12 (by have := hbig.out; have := hgc.out; have := hgn.out; omega) HX6.out (fun ad e hn => by have := hA.out ad e hn; have := hgc.out; omega))
  have kw12 : Kept w w12 := Keep.trans kw11 k12 (fun i hi h => by have := hgc.out; omega)
  clear kw11
  simp only [Act.put]
  refine l_val (o := ⟨some 83, _, _, _, _, _⟩) (.pointer (some ⟨gc, 8, none⟩)) rfl (exec_fld 28 8 8 (.tmp 5) (gc) rfl (by kernel_rfl) (by kernel_rfl)) ?_
  simp only [Act.put, List.setIfInBounds_toArray, List.set_cons_succ, List.set_cons_zero]
  refine l_setf (o := ⟨none, _, _, _, _, _⟩) gc 8 28 (((((Cmd.z 5).l.set 1 x2).set 3 x3).set 4 x4).set 7 x5) zeros32 x6 (.tmp 83) (.tmp 78) rfl rfl (by kernel_rfl) (by kernel_rfl) Bgc12.out (by simp [Cmd.l]) ?_
  intro w13 b13 k13 z13
  have Bgc13 : Hid (Blk w13 gc 28 (stc ((((((Cmd.z 5).l.set 1 x2).set 3 x3).set 4 x4).set 7 x5).set 8 x6) zeros32)) := b13
  have Bn013 := Lib.hid (Bn012.out.keep k13 (by have := hn0.out; have := hgc.out; have := hnc.out; omega))
  have HR13 := Lib.hid (HR12.out.off k13 (by have := hbig.out; have := hgc.out; have := hgn.out; omega) HX6.out (fun ad e hn => by have := hA.out ad e hn; have := hgc.out; omega))
  have kw13 : Kept w w13 := Keep.trans kw12 k13 (fun i hi h => by have := hgc.out; omega)
  clear kw12
  simp only [Act.put]
  refine wpList_nil ?_
  go_upto_region 19 with fail
  have f1 := Hs1.out
  have f2 := Hs2.out
  have e2 := Hx2.out
  have f3 := Hs3.out
  have e3 := Hx3.out
  have f4 := Hs4.out
  have e4 := Hx4.out
  have f5 := Hs5.out
  have e5 := Hx5.out
  have f6 := Hs6.out
  have e6 := Hx6.out
  have hcmd : stc ((((((Cmd.z 5).l.set 1 x2).set 3 x3).set 4 x4).set 7 x5).set 8 x6) zeros32 = s0.cmd.cells ∧ s0.rest = s6 := by
    unfold RS.cmd RS.rest
    rw [hkk.out]
    subst f1
    subst e2
    subst f2
    subst e3
    subst f3
    subst e4
    subst f4
    subst e5
    subst f5
    subst e6
    subst f6
    exact ⟨rfl, rfl⟩
  obtain ⟨d, hd⟩ : ∃ d, d = s0.cmd := ⟨_, rfl⟩
  have HC : Hid (Blk w13 gc 28 d.cells) := by rw [hd, ← hcmd.1]; exact Bgc13.out
  have HTd : Hid (d.tag.length = 32) := by rw [hd]; exact RS.cmd_tag _
  have HRf : Hid (FRd w13 g A L c s0.rest) := by rw [hcmd.2]; exact HR13.out
  have Hd := Lib.hid hd
  clear hd hcmd Bgc13 HR13 f1 f2 f3 f4 f5 f6 e2 e3 e4 e5 e6
  cases hF : s0.rest.fin with
  | false =>
    have HG : Hid (getB xs = (Cmd.z 0, false)) := by show _ = _; unfold getB; rw [← HS.out, hF]; rfl
    refine wp_text 7 [.eq (.pointer (some ⟨g, 0, none⟩)), .eq (.bool false), .eq (.bool true), .eq (.bool true), .eq undef, .eq undef, .eq undef] rfl (by kernel_rfl) ?_ ?_
    · refine fsteps_cons 1 rfl (fun a u hE hD hk => f_val (o := ⟨some 109, _, _, _, _, _⟩) (.pointer (some ⟨g, 0, none⟩)) rfl (wanted_none rfl _) (exec_move (.tmp 4) (.pointer (some ⟨g, 0, none⟩)) rfl (hE 4 (.pointer (some ⟨g, 0, none⟩)) (by kernel_rfl) (by kernel_rfl))) rfl) ?_
      refine fsteps_cons 2 rfl (fun a u hE hD hk => f_call (o := ⟨some 110, _, _, _, _, _⟩) 37 #[.pointer (some ⟨g, 0, none⟩)] rfl (wanted_none rfl _) (exec_call 37 _ [.tmp 109] _ [.pointer (some ⟨g, 0, none⟩)] Try.func37 (by kernel_rfl) (by kernel_rfl) rfl (show [a.eval (.tmp 109)] = [.pointer (some ⟨g, 0, none⟩)] from (by rw [show a.eval (.tmp 109) = .pointer (some ⟨g, 0, none⟩) from (hD 0 109 (by kernel_rfl))] <;> rfl)) u) ((gend_any g L c A s0.rest u (HRf.out.kept hk)).mono (fun e w' ⟨h1, k, h2⟩ => ⟨_, h1, by rw [hF]; rfl, by rw [h2]; exact kept_drewN u k⟩))) ?_
      refine fsteps_cons 3 rfl (fun a u hE hD hk => f_val (o := ⟨some 111, _, _, _, _, _⟩) (.bool true) rfl (wanted_none rfl _) (exec_not _ (.tmp 110) false rfl (hD 1 110 (by kernel_rfl))) rfl) ?_
      refine fsteps_cons 4 rfl (fun a u hE hD hk => f_val (o := ⟨some 112, _, _, _, _, _⟩) (.bool true) rfl (wanted_none rfl _) (exec_move (.tmp 111) (.bool true) rfl (hD 2 111 (by kernel_rfl))) rfl) ?_
      refine fsteps_cons 5 rfl (fun a u hE hD hk => f_skip (o := ⟨some 113, _, _, _, _, _⟩) rfl (wanted_at (b := false) true rfl rfl (hD 3 112 (by kernel_rfl))) rfl) ?_
      refine fsteps_cons 6 rfl (fun a u hE hD hk => f_skip (o := ⟨some 114, _, _, _, _, _⟩) rfl (wanted_at (b := false) true rfl rfl (hD 3 112 (by kernel_rfl))) rfl) ?_
      refine fsteps_cons 7 rfl (fun a u hE hD hk => f_skip (o := ⟨some 115, _, _, _, _, _⟩) rfl (wanted_at (b := false) true rfl rfl (hD 3 112 (by kernel_rfl))) rfl) ?_
      exact fsteps_nil
    intro gv wx hV kx
    rw [show dstsOf _ 7 = [109, 110, 111, 112, 113, 114, 115] by kernel_rfl]
    simp only [List.foldl_cons, List.foldl_nil, List.setIfInBounds_toArray, List.set_cons_succ, List.set_cons_zero, List.drop_succ_cons, List.drop_zero]
    rw [show gv 112 = .bool true from hV 3 112 (by kernel_rfl)]
    rw [show gv 115 = undef from hV 6 115 (by kernel_rfl)]
    clear hV
    have kwx := kw13.trans kx
    have Bx := Lib.hid (Bn013.out.kept kx)
    have Cx := Lib.hid (HC.out.kept kx)
    go_upto_region 20 with fail
    refine wp_region_lit ?_
    refine l_val (o := ⟨some 117, _, _, _, _, _⟩) ((Cmd.z 0).v) rfl (exec_build 28 [] (Cmd.z 0).cells rfl (by kernel_rfl)) ?_
    simp only [Act.put, List.setIfInBounds_toArray, List.set_cons_succ, List.set_cons_zero]
    refine l_setS (o := ⟨none, _, _, _, _, _⟩) 28 n0 28 (Cmd.z 0).cells (Cmd.z 0).cells (.tmp 2) (.tmp 117) rfl rfl (by kernel_rfl) (by kernel_rfl) Bx.out cmd_size rfl (stc_one _ _) ?_
    intro wy b_y ky zy
    have kwy : Kept w wy := Kept.trans' kwx ky (by have := hn0.out; omega)
    simp only [Act.put]
    refine l_val (o := ⟨some 3, _, _, _, _, _⟩) (.bool false) rfl (exec_assign (.const (.bool false)) (.bool false) rfl (by kernel_rfl)) ?_
    simp only [Act.put, List.setIfInBounds_toArray, List.set_cons_succ, List.set_cons_zero]
    refine wpList_nil ?_
    go_wp2
    refine bodyPost_ret (results_cmd (p := 2) (q := 3) rfl _ _ n0 _ (Cmd.z 0).cells false rfl rfl b_y rfl) rfl ?_
    refine ⟨?_, kwy⟩
    rw [HG.out]
    rfl
  | true =>
    cases hR : d.right with
    | false =>
      have HG : Hid (getB xs = (Cmd.z 0, false)) := by show _ = _; unfold getB; rw [← HS.out, hF, ← Hd.out, hR]; rfl
      refine wp_text 7 [.eq (.pointer (some ⟨g, 0, none⟩)), .eq (.bool true), .eq (.bool false), .eq (.bool false), .eq (d.v), .eq (.bool false), .eq (.bool true)] rfl (by kernel_rfl) ?_ ?_
      · refine fsteps_cons 1 rfl (fun a u hE hD hk => f_val (o := ⟨some 109, _, _, _, _, _⟩) (.pointer (some ⟨g, 0, none⟩)) rfl (wanted_none rfl _) (exec_move (.tmp 4) (.pointer (some ⟨g, 0, none⟩)) rfl (hE 4 (.pointer (some ⟨g, 0, none⟩)) (by kernel_rfl) (by kernel_rfl))) rfl) ?_
        refine fsteps_cons 2 rfl (fun a u hE hD hk => f_call (o := ⟨some 110, _, _, _, _, _⟩) 37 #[.pointer (some ⟨g, 0, none⟩)] rfl (wanted_none rfl _) (exec_call 37 _ [.tmp 109] _ [.pointer (some ⟨g, 0, none⟩)] Try.func37 (by kernel_rfl) (by kernel_rfl) rfl (show [a.eval (.tmp 109)] = [.pointer (some ⟨g, 0, none⟩)] from (by rw [show a.eval (.tmp 109) = .pointer (some ⟨g, 0, none⟩) from (hD 0 109 (by kernel_rfl))] <;> rfl)) u) ((gend_any g L c A s0.rest u (HRf.out.kept hk)).mono (fun e w' ⟨h1, k, h2⟩ => ⟨_, h1, by rw [hF]; rfl, by rw [h2]; exact kept_drewN u k⟩))) ?_
        refine fsteps_cons 3 rfl (fun a u hE hD hk => f_val (o := ⟨some 111, _, _, _, _, _⟩) (.bool false) rfl (wanted_none rfl _) (exec_not _ (.tmp 110) true rfl (hD 1 110 (by kernel_rfl))) rfl) ?_
        refine fsteps_cons 4 rfl (fun a u hE hD hk => f_val (o := ⟨some 112, _, _, _, _, _⟩) (.bool false) rfl (wanted_none rfl _) (exec_move (.tmp 111) (.bool false) rfl (hD 2 111 (by kernel_rfl))) rfl) ?_
        refine fsteps_cons 5 rfl (fun a u hE hD hk => f_val (o := ⟨some 113, _, _, _, _, _⟩) (d.v) rfl (wanted_at (b := false) false rfl rfl (hD 3 112 (by kernel_rfl))) (exec_loadS 28 (.tmp 5) (gc) _ d.cells _ rfl (hE 5 (.pointer (some ⟨gc, 0, none⟩)) (by kernel_rfl) (by kernel_rfl)) (HC.out.kept hk) Try.underlying28 (by rw [Cmd.cells_len _ HTd.out]; exact cmd_size)) rfl) ?_
        refine fsteps_cons 6 rfl (fun a u hE hD hk => f_call (o := ⟨some 114, _, _, _, _, _⟩) 14 #[d.v] rfl (wanted_at (b := false) false rfl rfl (hD 3 112 (by kernel_rfl))) (exec_call 14 _ [.tmp 113] _ [d.v] Try.func14 (by kernel_rfl) (by kernel_rfl) rfl (show [a.eval (.tmp 113)] = [d.v] from (by rw [show a.eval (.tmp 113) = d.v from (hD 4 113 (by kernel_rfl))] <;> rfl)) u) (right_is d false u HTd hR)) ?_
        refine fsteps_cons 7 rfl (fun a u hE hD hk => f_val (o := ⟨some 115, _, _, _, _, _⟩) (.bool true) rfl (wanted_at (b := false) false rfl rfl (hD 3 112 (by kernel_rfl))) (exec_not _ (.tmp 114) false rfl (hD 5 114 (by kernel_rfl))) rfl) ?_
        exact fsteps_nil
      intro gv wx hV kx
      rw [show dstsOf _ 7 = [109, 110, 111, 112, 113, 114, 115] by kernel_rfl]
      simp only [List.foldl_cons, List.foldl_nil, List.setIfInBounds_toArray, List.set_cons_succ, List.set_cons_zero, List.drop_succ_cons, List.drop_zero]
      rw [show gv 112 = .bool false from hV 3 112 (by kernel_rfl)]
      rw [show gv 115 = .bool true from hV 6 115 (by kernel_rfl)]
      clear hV
      have kwx := kw13.trans kx
      have Bx := Lib.hid (Bn013.out.kept kx)
      have Cx := Lib.hid (HC.out.kept kx)
      go_upto_region 20 with fail
      refine wp_region_lit ?_
      refine l_val (o := ⟨some 117, _, _, _, _, _⟩) ((Cmd.z 0).v) rfl (exec_build 28 [] (Cmd.z 0).cells rfl (by kernel_rfl)) ?_
      simp only [Act.put, List.setIfInBounds_toArray, List.set_cons_succ, List.set_cons_zero]
      refine l_setS (o := ⟨none, _, _, _, _, _⟩) 28 n0 28 (Cmd.z 0).cells (Cmd.z 0).cells (.tmp 2) (.tmp 117) rfl rfl (by kernel_rfl) (by kernel_rfl) Bx.out cmd_size rfl (stc_one _ _) ?_
      intro wy b_y ky zy
      have kwy : Kept w wy := Kept.trans' kwx ky (by have := hn0.out; omega)
      simp only [Act.put]
      refine l_val (o := ⟨some 3, _, _, _, _, _⟩) (.bool false) rfl (exec_assign (.const (.bool false)) (.bool false) rfl (by kernel_rfl)) ?_
      simp only [Act.put, List.setIfInBounds_toArray, List.set_cons_succ, List.set_cons_zero]
      refine wpList_nil ?_
      go_wp2
      refine bodyPost_ret (results_cmd (p := 2) (q := 3) rfl _ _ n0 _ (Cmd.z 0).cells false rfl rfl b_y rfl) rfl ?_
      refine ⟨?_, kwy⟩
      rw [HG.out]
      rfl
    | true =>
      have HG : Hid (getB xs = (d, true)) := by show _ = _; unfold getB; rw [← HS.out, hF, ← Hd.out, hR]; rfl
      refine wp_text 7 [.eq (.pointer (some ⟨g, 0, none⟩)), .eq (.bool true), .eq (.bool false), .eq (.bool false), .eq (d.v), .eq (.bool true), .eq (.bool false)] rfl (by kernel_rfl) ?_ ?_
      · refine fsteps_cons 1 rfl (fun a u hE hD hk => f_val (o := ⟨some 109, _, _, _, _, _⟩) (.pointer (some ⟨g, 0, none⟩)) rfl (wanted_none rfl _) (exec_move (.tmp 4) (.pointer (some ⟨g, 0, none⟩)) rfl (hE 4 (.pointer (some ⟨g, 0, none⟩)) (by kernel_rfl) (by kernel_rfl))) rfl) ?_
        refine fsteps_cons 2 rfl (fun a u hE hD hk => f_call (o := ⟨some 110, _, _, _, _, _⟩) 37 #[.pointer (some ⟨g, 0, none⟩)] rfl (wanted_none rfl _) (exec_call 37 _ [.tmp 109] _ [.pointer (some ⟨g, 0, none⟩)] Try.func37 (by kernel_rfl) (by kernel_rfl) rfl (show [a.eval (.tmp 109)] = [.pointer (some ⟨g, 0, none⟩)] from (by rw [show a.eval (.tmp 109) = .pointer (some ⟨g, 0, none⟩) from (hD 0 109 (by kernel_rfl))] <;> rfl)) u) ((gend_any g L c A s0.rest u (HRf.out.kept hk)).mono (fun e w' ⟨h1, k, h2⟩ => ⟨_, h1, by rw [hF]; rfl, by rw [h2]; exact kept_drewN u k⟩))) ?_
        refine fsteps_cons 3 rfl (fun a u hE hD hk => f_val (o := ⟨some 111, _, _, _, _, _⟩) (.bool false) rfl (wanted_none rfl _) (exec_not _ (.tmp 110) true rfl (hD 1 110 (by kernel_rfl))) rfl) ?_
        refine fsteps_cons 4 rfl (fun a u hE hD hk => f_val (o := ⟨some 112, _, _, _, _, _⟩) (.bool false) rfl (wanted_none rfl _) (exec_move (.tmp 111) (.bool false) rfl (hD 2 111 (by kernel_rfl))) rfl) ?_
        refine fsteps_cons 5 rfl (fun a u hE hD hk => f_val (o := ⟨some 113, _, _, _, _, _⟩) (d.v) rfl (wanted_at (b := false) false rfl rfl (hD 3 112 (by kernel_rfl))) (exec_loadS 28 (.tmp 5) (gc) _ d.cells _ rfl (hE 5 (.pointer (some ⟨gc, 0, none⟩)) (by kernel_rfl) (by kernel_rfl)) (HC.out.kept hk) Try.underlying28 (by rw [Cmd.cells_len _ HTd.out]; exact cmd_size)) rfl) ?_
        refine fsteps_cons 6 rfl (fun a u hE hD hk => f_call (o := ⟨some 114, _, _, _, _, _⟩) 14 #[d.v] rfl (wanted_at (b := false) false rfl rfl (hD 3 112 (by kernel_rfl))) (exec_call 14 _ [.tmp 113] _ [d.v] Try.func14 (by kernel_rfl) (by kernel_rfl) rfl (show [a.eval (.tmp 113)] = [d.v] from (by rw [show a.eval (.tmp 113) = d.v from (hD 4 113 (by kernel_rfl))] <;> rfl)) u) (right_is d true u HTd hR)) ?_
        refine fsteps_cons 7 rfl (fun a u hE hD hk => f_val (o := ⟨some 115, _, _, _, _, _⟩) (.bool false) rfl (wanted_at (b := false) false rfl rfl (hD 3 112 (by kernel_rfl))) (exec_not _ (.tmp 114) true rfl (hD 5 114 (by kernel_rfl))) rfl) ?_
        exact fsteps_nil
      intro gv wx hV kx
      rw [show dstsOf _ 7 = [109, 110, 111, 112, 113, 114, 115] by kernel_rfl]
      simp only [List.foldl_cons, List.foldl_nil, List.setIfInBounds_toArray, List.set_cons_succ, List.set_cons_zero, List.drop_succ_cons, List.drop_zero]
      rw [show gv 112 = .bool false from hV 3 112 (by kernel_rfl)]
      rw [show gv 115 = .bool false from hV 6 115 (by kernel_rfl)]
      clear hV
      have kwx := kw13.trans kx
      have Bx := Lib.hid (Bn013.out.kept kx)
      have Cx := Lib.hid (HC.out.kept kx)
      go_upto_region 21 with fail
      refine wp_region_lit ?_
      refine l_val (o := ⟨some 118, _, _, _, _, _⟩) (d.v) rfl (exec_loadS 28 (.tmp 5) gc 28 d.cells _ rfl (by kernel_rfl) Cx.out Try.underlying28 (by rw [Cmd.cells_len d HTd.out]; exact cmd_size)) ?_
      simp only [Act.put, List.setIfInBounds_toArray, List.set_cons_succ, List.set_cons_zero]
      refine l_setS (o := ⟨none, _, _, _, _, _⟩) 28 n0 28 (Cmd.z 0).cells d.cells (.tmp 2) (.tmp 118) rfl rfl (by kernel_rfl) (by kernel_rfl) Bx.out (by rw [Cmd.cells_len d HTd.out]; exact cmd_size) (by rw [Cmd.cells_len d HTd.out]; rfl) (stc_one _ _) ?_
      intro wy b_y ky zy
      have kwy : Kept w wy := Kept.trans' kwx ky (by have := hn0.out; omega)
      simp only [Act.put]
      refine l_val (o := ⟨some 3, _, _, _, _, _⟩) (.bool true) rfl (exec_assign (.const (.bool true)) (.bool true) rfl (by kernel_rfl)) ?_
      simp only [Act.put, List.setIfInBounds_toArray, List.set_cons_succ, List.set_cons_zero]
      refine wpList_nil ?_
      go_wp2
      refine bodyPost_ret (results_cmd (p := 2) (q := 3) rfl _ _ n0 _ d.cells true rfl rfl b_y (Cmd.cells_len d HTd.out)) rfl ?_
      refine ⟨?_, kwy⟩
      rw [HG.out]
      rfl

set_option maxRecDepth 100000 in
set_option maxHeartbeats 6400000 in
theorem getc_6 (v : Value) (xs : List UInt8) (s0 : RS) (HS : Hid (s0 = RS.new xs)) (w : World) (hv : Bytes w v xs) (hl : xs.length ≤ 1000) (hkk : Hid (s0.kind = 6)) : Calls Try.prog 19 #[v] w (GotIn w xs) := by
  obtain ⟨A, L, c, rfl, hL, hx, h1, hcm_, h3⟩ := hv
  have hcm : Hid (c ≤ maxLen) := hcm_
  have HX := Lib.hid hx
  have HO0 : Hid s0.ok := by rw [HS.out]; exact ⟨Nat.zero_le _, by show xs.length ≤ _; omega⟩
  have hA : Hid (∀ ad, A = some ad → xs ≠ [] → ad.block < w.heap.size) := fun ad e hn => R8.lt (by rw [← e]; exact HX.out) hn
  have hLc : Hid (L ≤ c) := h1
  have kw : Kept w w := Kept.refl w
  clear hx h1 h3 hl hcm_
  go_enter Try.func19, Try.ntmps19
  go_upto_region 0 with fail
  refine wp_region_lit ?_
  refine l_alloc (o := ⟨some 2, _, _, _, _, _⟩) 28 (Cmd.z 0).cells rfl rfl cmd_zero ?_
  intro wa ba za ka
  simp only [Act.put, List.setIfInBounds_toArray, List.set_cons_succ, List.set_cons_zero]
  refine l_val (o := ⟨some 3, _, _, _, _, _⟩) (.bool false) rfl (exec_assign (.const (.bool false)) (.bool false) rfl (by kernel_rfl)) ?_
  simp only [Act.put, List.setIfInBounds_toArray, List.set_cons_succ, List.set_cons_zero]
  refine wpList_nil ?_
  obtain ⟨n0, hn⟩ : ∃ n0, n0 = w.heap.size := ⟨_, rfl⟩
  rw [← hn] at ba ⊢
  have hn0 : Hid (w.heap.size ≤ n0) := by show _ ≤ _; omega
  have hl0 : Hid (n0 < wa.heap.size) := by show _ < _; omega
  have Ba : Hid (Blk wa n0 28 (Cmd.z 0).cells) := ba
  clear hn ba za
  go_upto_region 1 with fail
  refine wp_region_lit ?_
  refine l_val (o := ⟨some 6, _, _, _, _, _⟩) (.slice A L c) rfl (exec_move (.tmp 0) (.slice A L c) rfl (by kernel_rfl)) ?_
  simp only [Act.put, List.setIfInBounds_toArray, List.set_cons_succ, List.set_cons_zero]
  refine l_val (o := ⟨some 7, _, _, _, _, _⟩) (.agg #[.slice A L c, .int .i64 0, .bool false]) rfl (exec_build 58 _ [.slice A L c, .int .i64 0, .bool false] rfl (by kernel_rfl)) ?_
  simp only [Act.put, List.setIfInBounds_toArray, List.set_cons_succ, List.set_cons_zero]
  refine l_new (o := ⟨some 8, _, _, _, _, _⟩) (.pointer (some ⟨wa.heap.size, 0, none⟩)) (wa.alloc (.cells ([.slice A L c, .int .i64 0, .bool false] : List Value).toArray 58)) rfl (exec_box 58 (.tmp 7) [.slice A L c, .int .i64 0, .bool false] rfl (by kernel_rfl)) ?_
  simp only [Act.put, List.setIfInBounds_toArray, List.set_cons_succ, List.set_cons_zero]
  refine l_val (o := ⟨some 4, _, _, _, _, _⟩) (.pointer (some ⟨wa.heap.size, 0, none⟩)) rfl (exec_assign (.tmp 8) (.pointer (some ⟨wa.heap.size, 0, none⟩)) rfl (by kernel_rfl)) ?_
  simp only [Act.put, List.setIfInBounds_toArray, List.set_cons_succ, List.set_cons_zero]
  refine wpList_nil ?_
  have k0_ : Kept wa (wa.alloc (.cells ([.slice A L c, .int .i64 0, .bool false] : List Value).toArray 58)) := (Keep.refl _ wa).alloc _
  have b0 := Blk.new wa 58 [.slice A L c, .int .i64 0, .bool false]
  generalize wa.alloc (.cells ([.slice A L c, .int .i64 0, .bool false] : List Value).toArray 58) = w0 at k0_ b0 ⊢
  obtain ⟨g, hg⟩ : ∃ g, g = wa.heap.size := ⟨_, rfl⟩
  rw [← hg] at b0 ⊢
  have hgn : Hid (n0 < g) := by show _ < _; have := hl0.out; omega
  have hbig : Hid (w.heap.size ≤ g) := by show _ ≤ _; have := hgn.out; have := hn0.out; omega
  have kw0 := (kw.trans ka).trans k0_
  have Bn00 := Lib.hid (Ba.out.kept k0_)
  have HR0 : Hid (FRd w0 g A L c s0) := by
    rw [HS.out]
    exact ⟨hL, b0, (HX.out.kept ka).kept k0_, fun ad e hn => by have := hA.out ad e hn; have := hbig.out; omega, hLc.out⟩
  have HX0 : Hid (s0.xs = xs) := by rw [HS.out]; rfl
  clear hg b0 k0_ ka kw hl0 Ba
  go_upto_region 2 with fail
  refine wp_region_lit ?_
  refine l_val (o := ⟨some 9, _, _, _, _, _⟩) (.pointer (some ⟨g, 0, none⟩)) rfl (exec_move (.tmp 4) (.pointer (some ⟨g, 0, none⟩)) rfl (by kernel_rfl)) ?_
  simp only [Act.put, List.setIfInBounds_toArray, List.set_cons_succ, List.set_cons_zero]
  refine l_call (o := ⟨some 10, _, _, _, _, _⟩) 34 #[.pointer (some ⟨g, 0, none⟩)] rfl (exec_call 34 _ [.tmp 9] _ _ Try.func34 (by kernel_rfl) (by kernel_rfl) rfl (by kernel_rfl) _) ?_
  refine (fdU8 g L c A s0 w0 HR0 HO0 hcm).mono ?_
  rintro e w1 ⟨x1, s1, Hx1, Hs1, HY1, rfl, HR1, HO1, k1⟩
  have HX1 := Lib.hid (HY1.out.trans HX0.out)
  have Bn01 := Lib.hid (Bn00.out.keep k1 (by have := hn0.out; have := hgn.out; omega))
  have kw1 : Kept w w1 := Keep.trans kw0 k1 (fun i hi h => by have := hbig.out; omega)
  clear kw0
  refine ⟨_, rfl, ?_⟩
  simp only [Act.put, List.setIfInBounds_toArray, List.set_cons_succ, List.set_cons_zero]
  refine l_val (o := ⟨some 11, _, _, _, _, _⟩) ((Cmd.z x1).v) rfl (exec_build 28 _ (Cmd.z x1).cells rfl (by kernel_rfl)) ?_
  simp only [Act.put, List.setIfInBounds_toArray, List.set_cons_succ, List.set_cons_zero]
  refine l_alloc (o := ⟨some 5, _, _, _, _, _⟩) 28 (Cmd.z 0).cells rfl rfl cmd_zero ?_
  intro w2 b2 z2 k2
  obtain ⟨gc, hgc_⟩ : ∃ gc, gc = w1.heap.size := ⟨_, rfl⟩
  rw [← hgc_] at b2 ⊢
  have hgg : Hid (n0 < g ∧ g < gc) := ⟨hgn.out, by have := HR1.out.2.1.lt; omega⟩
  have hnc : Hid (n0 < gc) := by show _ < _; have := hgg.out; omega
  have hgc : Hid (w.heap.size ≤ gc) := by show _ ≤ _; have := hnc.out; have := hn0.out; omega
  clear hgc_ hgn
  have hgn := hgg
  clear hgg
  have Bn02 := Lib.hid (Bn01.out.kept k2)
  have HR2 := Lib.hid (HR1.out.kept k2)
  have kw2 : Kept w w2 := Keep.kept kw1 k2
  clear kw1
  simp only [Act.put, List.setIfInBounds_toArray, List.set_cons_succ, List.set_cons_zero]
  refine l_setS (o := ⟨none, _, _, _, _, _⟩) 28 gc 28 (Cmd.z 0).cells (Cmd.z x1).cells (.tmp 5) (.tmp 11) rfl rfl (by kernel_rfl) (by kernel_rfl) b2 cmd_size rfl (stc_one _ _) ?_
  intro w3 b3 k3 z3
  have Bgc3 : Hid (Blk w3 gc 28 (stc (Cmd.z x1).l zeros32)) := b3
  have Bn03 := Lib.hid (Bn02.out.keep k3 (by have := hn0.out; have := hgc.out; have := hnc.out; omega))
  have HR3 := Lib.hid (HR2.out.off k3 (by have := hbig.out; have := hgc.out; have := hgn.out; omega) HX1.out (fun ad e hn => by have := hA.out ad e hn; have := hgc.out; omega))
  have kw3 : Kept w w3 := Keep.trans kw2 k3 (fun i hi h => by have := hgc.out; omega)
  clear kw2
  simp only [Act.put]
  refine wpList_nil ?_
  obtain rfl : x1 = 6 := Hx1.out.trans hkk.out
  have hc : w3.cell? ⟨gc, 0, none⟩ = some (.int .i64 6) := Bgc3.out.fld 0 _ rfl
  go_upto_region 16 with fail
  refine wp_region_lit ?_
  refine l_val (o := ⟨some 86, _, _, _, _, _⟩) (.pointer (some ⟨g, 0, none⟩)) rfl (exec_move (.tmp 4) (.pointer (some ⟨g, 0, none⟩)) rfl (by kernel_rfl)) ?_
  simp only [Act.put, List.setIfInBounds_toArray, List.set_cons_succ, List.set_cons_zero]
  refine l_call (o := ⟨some 87, _, _, _, _, _⟩) 36 #[.pointer (some ⟨g, 0, none⟩)] rfl (exec_call 36 _ [.tmp 86] _ _ Try.func36 (by kernel_rfl) (by kernel_rfl) rfl (by kernel_rfl) _) ?_
  refine (fdNum g L c A s1 w3 HR3 HO1 hcm).mono ?_
  rintro e w4 ⟨x2, s2, Hx2, Hs2, HY2, rfl, HR4, HO2, k4⟩
  have HX2 := Lib.hid (HY2.out.trans HX1.out)
  have Bn04 := Lib.hid (Bn03.out.keep k4 (by have := hn0.out; have := hgn.out; omega))
  have Bgc4 := Lib.hid (Bgc3.out.keep k4 (by have := hgc.out; have := hgn.out; omega))
  have kw4 : Kept w w4 := Keep.trans kw3 k4 (fun i hi h => by have := hbig.out; omega)
  clear kw3
  refine ⟨_, rfl, ?_⟩
  simp only [Act.put, List.setIfInBounds_toArray, List.set_cons_succ, List.set_cons_zero]
  refine l_val (o := ⟨some 88, _, _, _, _, _⟩) (.pointer (some ⟨g, 0, none⟩)) rfl (exec_move (.tmp 4) (.pointer (some ⟨g, 0, none⟩)) rfl (by kernel_rfl)) ?_
  simp only [Act.put, List.setIfInBounds_toArray, List.set_cons_succ, List.set_cons_zero]
  refine l_call (o := ⟨some 89, _, _, _, _, _⟩) 34 #[.pointer (some ⟨g, 0, none⟩)] rfl (exec_call 34 _ [.tmp 88] _ _ Try.func34 (by kernel_rfl) (by kernel_rfl) rfl (by kernel_rfl) _) ?_
  refine (fdU8 g L c A s2 w4 HR4 HO2 hcm).mono ?_
  rintro e w5 ⟨x3, s3, Hx3, Hs3, HY3, rfl, HR5, HO3, k5⟩
  have HX3 := Lib.hid (HY3.out.trans HX2.out)
  have Bn05 := Lib.hid (Bn04.out.keep k5 (by have := hn0.out; have := hgn.out; omega))
  have Bgc5 := Lib.hid (Bgc4.out.keep k5 (by have := hgc.out; have := hgn.out; omega))
  have kw5 : Kept w w5 := Keep.trans kw4 k5 (fun i hi h => by have := hbig.out; omega)
  clear kw4
  refine ⟨_, rfl, ?_⟩
  simp only [Act.put, List.setIfInBounds_toArray, List.set_cons_succ, List.set_cons_zero]
  refine l_val (o := ⟨some 90, _, _, _, _, _⟩) (.pointer (some ⟨g, 0, none⟩)) rfl (exec_move (.tmp 4) (.pointer (some ⟨g, 0, none⟩)) rfl (by kernel_rfl)) ?_
  simp only [Act.put, List.setIfInBounds_toArray, List.set_cons_succ, List.set_cons_zero]
  refine l_call (o := ⟨some 91, _, _, _, _, _⟩) 34 #[.pointer (some ⟨g, 0, none⟩)] rfl (exec_call 34 _ [.tmp 90] _ _ Try.func34 (by kernel_rfl) (by kernel_rfl) rfl (by kernel_rfl) _) ?_
  refine (fdU8 g L c A s3 w5 HR5 HO3 hcm).mono ?_
  rintro e w6 ⟨x4, s4, Hx4, Hs4, HY4, rfl, HR6, HO4, k6⟩
  have HX4 := Lib.hid (HY4.out.trans HX3.out)
  have Bn06 := Lib.hid (Bn05.out.keep k6 (by have := hn0.out; have := hgn.out; omega))
  have Bgc6 := Lib.hid (Bgc5.out.keep k6 (by have := hgc.out; have := hgn.out; omega))
  have kw6 : Kept w w6 := Keep.trans kw5 k6 (fun i hi h => by have := hbig.out; omega)
  clear kw5
  refine ⟨_, rfl, ?_⟩
  simp only [Act.put, List.setIfInBounds_toArray, List.set_cons_succ, List.set_cons_zero]
  refine l_val (o := ⟨some 92, _, _, _, _, _⟩) (.pointer (some ⟨gc, 1, none⟩)) rfl (exec_fld 28 1 1 (.tmp 5) (gc) rfl (by kernel_rfl) (by kernel_rfl)) ?_
  simp only [Act.put, List.setIfInBounds_toArray, List.set_cons_succ, List.set_cons_zero]
  refine l_setf (o := ⟨none, _, _, _, _, _⟩) gc 1 28 (Cmd.z 6).l zeros32 x2 (.tmp 92) (.tmp 87) rfl rfl (by kernel_rfl) (by kernel_rfl) Bgc6.out (by simp [Cmd.l]) ?_
  intro w7 b7 k7 z7
  have Bgc7 : Hid (Blk w7 gc 28 (stc ((Cmd.z 6).l.set 1 x2) zeros32)) := b7
  have Bn07 := Lib.hid (Bn06.out.keep k7 (by have := hn0.out; have := hgc.out; have := hnc.out; omega))
  have HR7 := Lib.hid (HR6.out.off k7 (by have := hbig.out; have := hgc.out; have := hgn.out; omega) HX4.out (fun ad e hn => by have := hA.out ad e hn; have := hgc.out; omega))
  have kw7 : Kept w w7 := Keep.trans kw6 k7 (fun i hi h => by have := hgc.out; omega)
  clear kw6
  simp only [Act.put]
  refine l_val (o := ⟨some 93, _, _, _, _, _⟩) (.pointer (some ⟨gc, 3, none⟩)) rfl (exec_fld 28 3 3 (.tmp 5) (gc) rfl (by kernel_rfl) (by kernel_rfl)) ?_
  simp only [Act.put, List.setIfInBounds_toArray, List.set_cons_succ, List.set_cons_zero]
  refine l_setf (o := ⟨none, _, _, _, _, _⟩) gc 3 28 ((Cmd.z 6).l.set 1 x2) zeros32 x3 (.tmp 93) (.tmp 89) rfl rfl (by kernel_rfl) (by kernel_rfl) Bgc7.out (by simp [Cmd.l]) ?_
  intro w8 b8 k8 z8
  have Bgc8 : Hid (Blk w8 gc 28 (stc (((Cmd.z 6).l.set 1 x2).set 3 x3) zeros32)) := b8
  have Bn08 := Lib.hid (Bn07.out.keep k8 (by have := hn0.out; have := hgc.out; have := hnc.out; omega))
  have HR8 := Lib.hid (HR7.out.off k8 (by have := hbig.out; have := hgc.out; have := hgn.out; omega) HX4.out (fun ad e hn => by have := hA.out ad e hn; have := hgc.out; omega))
  have kw8 : Kept w w8 := Keep.trans kw7 k8 (fun i hi h => by have := hgc.out; omega)
  clear kw7
  simp only [Act.put]
  refine l_val (o := ⟨some 94, _, _, _, _, _⟩) (.pointer (some ⟨gc, 11, none⟩)) rfl (exec_fld 28 11 11 (.tmp 5) (gc) rfl (by kernel_rfl) (by kernel_rfl)) ?_
  simp only [Act.put, List.setIfInBounds_toArray, List.set_cons_succ, List.set_cons_zero]
  refine l_setf (o := ⟨none, _, _, _, _, _⟩) gc 11 28 (((Cmd.z 6).l.set 1 x2).set 3 x3) zeros32 x4 (.tmp 94) (.tmp 91) rfl rfl (by kernel_rfl) (by kernel_rfl) Bgc8.out (by simp [Cmd.l]) ?_
  intro w9 b9 k9 z9
  have Bgc9 : Hid (Blk w9 gc 28 (stc ((((Cmd.z 6).l.set 1 x2).set 3 x3).set 11 x4) zeros32)) := b9
  have Bn09 := Lib.hid (Bn08.out.keep k9 (by have := hn0.out; have := hgc.out; have := hnc.out; omega))
  have HR9 := Lib.hid (HR8.out.off k9 (by have := hbig.out; have := hgc.out; have := hgn.out; omega) HX4.out (fun ad e hn => by have := hA.out ad e hn; have := hgc.out; omega))
  have kw9 : Kept w w9 := Keep.trans kw8 k9 (fun i hi h => by have := hgc.out; omega)
  clear kw8
  simp only [Act.put]
  refine wpList_nil ?_
  go_upto_region 19 with fail
  have f1 := Hs1.out
  have f2 := Hs2.out
  have e2 := Hx2.out
  have f3 := Hs3.out
  have e3 := Hx3.out
  have f4 := Hs4.out
  have e4 := Hx4.out
  have hcmd : stc ((((Cmd.z 6).l.set 1 x2).set 3 x3).set 11 x4) zeros32 = s0.cmd.cells ∧ s0.rest = s4 := by
    unfold RS.cmd RS.rest
    rw [hkk.out]
    subst f1
    subst e2
    subst f2
    subst e3
    subst f3
    subst e4
    subst f4
    exact ⟨rfl, rfl⟩
  obtain ⟨d, hd⟩ : ∃ d, d = s0.cmd := ⟨_, rfl⟩
  have HC : Hid (Blk w9 gc 28 d.cells) := by rw [hd, ← hcmd.1]; exact Bgc9.out
  have HTd : Hid (d.tag.length = 32) := by rw [hd]; exact RS.cmd_tag _
  have HRf : Hid (FRd w9 g A L c s0.rest) := by rw [hcmd.2]; exact HR9.out
  have Hd := Lib.hid hd
  clear hd hcmd Bgc9 HR9 f1 f2 f3 f4 e2 e3 e4
  cases hF : s0.rest.fin with
  | false =>
    have HG : Hid (getB xs = (Cmd.z 0, false)) := by show _ = _; unfold getB; rw [← HS.out, hF]; rfl
    refine wp_text 7 [.eq (.pointer (some ⟨g, 0, none⟩)), .eq (.bool false), .eq (.bool true), .eq (.bool true), .eq undef, .eq undef, .eq undef] rfl (by kernel_rfl) ?_ ?_
    · refine fsteps_cons 1 rfl (fun a u hE hD hk => f_val (o := ⟨some 109, _, _, _, _, _⟩) (.pointer (some ⟨g, 0, none⟩)) rfl (wanted_none rfl _) (exec_move (.tmp 4) (.pointer (some ⟨g, 0, none⟩)) rfl (hE 4 (.pointer (some ⟨g, 0, none⟩)) (by kernel_rfl) (by kernel_rfl))) rfl) ?_
      refine fsteps_cons 2 rfl (fun a u hE hD hk => f_call (o := ⟨some 110, _, _, _, _, _⟩) 37 #[.pointer (some ⟨g, 0, none⟩)] rfl (wanted_none rfl _) (exec_call 37 _ [.tmp 109] _ [.pointer (some ⟨g, 0, none⟩)] Try.func37 (by kernel_rfl) (by kernel_rfl) rfl (show [a.eval (.tmp 109)] = [.pointer (some ⟨g, 0, none⟩)] from (by rw [show a.eval (.tmp 109) = .pointer (some ⟨g, 0, none⟩) from (hD 0 109 (by kernel_rfl))] <;> rfl)) u) ((gend_any g L c A s0.rest u (HRf.out.kept hk)).mono (fun e w' ⟨h1, k, h2⟩ => ⟨_, h1, by rw [hF]; rfl, by rw [h2]; exact kept_drewN u k⟩))) ?_
      refine fsteps_cons 3 rfl (fun a u hE hD hk => f_val (o := ⟨some 111, _, _, _, _, _⟩) (.bool true) rfl (wanted_none rfl _) (exec_not _ (.tmp 110) false rfl (hD 1 110 (by kernel_rfl))) rfl) ?_
      refine fsteps_cons 4 rfl (fun a u hE hD hk => f_val (o := ⟨some 112, _, _, _, _, _⟩) (.bool true) rfl (wanted_none rfl _) (exec_move (.tmp 111) (.bool true) rfl (hD 2 111 (by kernel_rfl))) rfl) ?_
      refine fsteps_cons 5 rfl (fun a u hE hD hk => f_skip (o := ⟨some 113, _, _, _, _, _⟩) rfl (wanted_at (b := false) true rfl rfl (hD 3 112 (by kernel_rfl))) rfl) ?_
      refine fsteps_cons 6 rfl (fun a u hE hD hk => f_skip (o := ⟨some 114, _, _, _, _, _⟩) rfl (wanted_at (b := false) true rfl rfl (hD 3 112 (by kernel_rfl))) rfl) ?_
      refine fsteps_cons 7 rfl (fun a u hE hD hk => f_skip (o := ⟨some 115, _, _, _, _, _⟩) rfl (wanted_at (b := false) true rfl rfl (hD 3 112 (by kernel_rfl))) rfl) ?_
      exact fsteps_nil
    intro gv wx hV kx
    rw [show dstsOf _ 7 = [109, 110, 111, 112, 113, 114, 115] by kernel_rfl]
    simp only [List.foldl_cons, List.foldl_nil, List.setIfInBounds_toArray, List.set_cons_succ, List.set_cons_zero, List.drop_succ_cons, List.drop_zero]
    rw [show gv 112 = .bool true from hV 3 112 (by kernel_rfl)]
    rw [show gv 115 = undef from hV 6 115 (by kernel_rfl)]
    clear hV
    have kwx := kw9.trans kx
    have Bx := Lib.hid (Bn09.out.kept kx)
    have Cx := Lib.hid (HC.out.kept kx)
    go_upto_region 20 with fail
    refine wp_region_lit ?_
    refine l_val (o := ⟨some 117, _, _, _, _, _⟩) ((Cmd.z 0).v) rfl (exec_build 28 [] (Cmd.z 0).cells rfl (by kernel_rfl)) ?_
    simp only [Act.put, List.setIfInBounds_toArray, List.set_cons_succ, List.set_cons_zero]
    refine l_setS (o := ⟨none, _, _, _, _, _⟩) 28 n0 28 (Cmd.z 0).cells (Cmd.z 0).cells (.tmp 2) (.tmp 117) rfl rfl (by kernel_rfl) (by kernel_rfl) Bx.out cmd_size rfl (stc_one _ _) ?_
    intro wy b_y ky zy
    have kwy : Kept w wy := Kept.trans' kwx ky (by have := hn0.out; omega)
    simp only [Act.put]
    refine l_val (o := ⟨some 3, _, _, _, _, _⟩) (.bool false) rfl (exec_assign (.const (.bool false)) (.bool false) rfl (by kernel_rfl)) ?_
    simp only [Act.put, List.setIfInBounds_toArray, List.set_cons_succ, List.set_cons_zero]
    refine wpList_nil ?_
    go_wp2
    refine bodyPost_ret (results_cmd (p := 2) (q := 3) rfl _ _ n0 _ (Cmd.z 0).cells false rfl rfl b_y rfl) rfl ?_
    refine ⟨?_, kwy⟩
    rw [HG.out]
    rfl
  | true =>
    cases hR : d.right with
    | false =>
      have HG : Hid (getB xs = (Cmd.z 0, false)) := by show _ = _; unfold getB; rw [← HS.out, hF, ← Hd.out, hR]; rfl
      refine wp_text 7 [.eq (.pointer (some ⟨g, 0, none⟩)), .eq (.bool true), .eq (.bool false), .eq (.bool false), .eq (d.v), .eq (.bool false), .eq (.bool true)] rfl (by kernel_rfl) ?_ ?_
      · refine fsteps_cons 1 rfl (fun a u hE hD hk => f_val (o := ⟨some 109, _, _, _, _, _⟩) (.pointer (some ⟨g, 0, none⟩)) rfl (wanted_none rfl _) (exec_move (.tmp 4) (.pointer (some ⟨g, 0, none⟩)) rfl (hE 4 (.pointer (some ⟨g, 0, none⟩)) (by kernel_rfl) (by kernel_rfl))) rfl) ?_
        refine fsteps_cons 2 rfl (fun a u hE hD hk => f_call (o := ⟨some 110, _, _, _, _, _⟩) 37 #[.pointer (some ⟨g, 0, none⟩)] rfl (wanted_none rfl _) (exec_call 37 _ [.tmp 109] _ [.pointer (some ⟨g, 0, none⟩)] Try.func37 (by kernel_rfl) (by kernel_rfl) rfl (show [a.eval (.tmp 109)] = [.pointer (some ⟨g, 0, none⟩)] from (by rw [show a.eval (.tmp 109) = .pointer (some ⟨g, 0, none⟩) from (hD 0 109 (by kernel_rfl))] <;> rfl)) u) ((gend_any g L c A s0.rest u (HRf.out.kept hk)).mono (fun e w' ⟨h1, k, h2⟩ => ⟨_, h1, by rw [hF]; rfl, by rw [h2]; exact kept_drewN u k⟩))) ?_
        refine fsteps_cons 3 rfl (fun a u hE hD hk => f_val (o := ⟨some 111, _, _, _, _, _⟩) (.bool false) rfl (wanted_none rfl _) (exec_not _ (.tmp 110) true rfl (hD 1 110 (by kernel_rfl))) rfl) ?_
        refine fsteps_cons 4 rfl (fun a u hE hD hk => f_val (o := ⟨some 112, _, _, _, _, _⟩) (.bool false) rfl (wanted_none rfl _) (exec_move (.tmp 111) (.bool false) rfl (hD 2 111 (by kernel_rfl))) rfl) ?_
        refine fsteps_cons 5 rfl (fun a u hE hD hk => f_val (o := ⟨some 113, _, _, _, _, _⟩) (d.v) rfl (wanted_at (b := false) false rfl rfl (hD 3 112 (by kernel_rfl))) (exec_loadS 28 (.tmp 5) (gc) _ d.cells _ rfl (hE 5 (.pointer (some ⟨gc, 0, none⟩)) (by kernel_rfl) (by kernel_rfl)) (HC.out.kept hk) Try.underlying28 (by rw [Cmd.cells_len _ HTd.out]; exact cmd_size)) rfl) ?_
        refine fsteps_cons 6 rfl (fun a u hE hD hk => f_call (o := ⟨some 114, _, _, _, _, _⟩) 14 #[d.v] rfl (wanted_at (b := false) false rfl rfl (hD 3 112 (by kernel_rfl))) (exec_call 14 _ [.tmp 113] _ [d.v] Try.func14 (by kernel_rfl) (by kernel_rfl) rfl (show [a.eval (.tmp 113)] = [d.v] from (by rw [show a.eval (.tmp 113) = d.v from (hD 4 113 (by kernel_rfl))] <;> rfl)) u) (right_is d false u HTd hR)) ?_
        refine fsteps_cons 7 rfl (fun a u hE hD hk => f_val (o := ⟨some 115, _, _, _, _, _⟩) (.bool true) rfl (wanted_at (b := false) false rfl rfl (hD 3 112 (by kernel_rfl))) (exec_not _ (.tmp 114) false rfl (hD 5 114 (by kernel_rfl))) rfl) ?_
        exact fsteps_nil
      intro gv wx hV kx
      rw [show dstsOf _ 7 = [109, 110, 111, 112, 113, 114, 115] by kernel_rfl]
      simp only [List.foldl_cons, List.foldl_nil, List.setIfInBounds_toArray, List.set_cons_succ, List.set_cons_zero, List.drop_succ_cons, List.drop_zero]
      rw [show gv 112 = .bool false from hV 3 112 (by kernel_rfl)]
      rw [show gv 115 = .bool true from hV 6 115 (by kernel_rfl)]
      clear hV
      have kwx := kw9.trans kx
      have Bx := Lib.hid (Bn09.out.kept kx)
      have Cx := Lib.hid (HC.out.kept kx)
      go_upto_region 20 with fail
      refine wp_region_lit ?_
      refine l_val (o := ⟨some 117, _, _, _, _, _⟩) ((Cmd.z 0).v) rfl (exec_build 28 [] (Cmd.z 0).cells rfl (by kernel_rfl)) ?_
      simp only [Act.put, List.setIfInBounds_toArray, List.set_cons_succ, List.set_cons_zero]
      refine l_setS (o := ⟨none, _, _, _, _, _⟩) 28 n0 28 (Cmd.z 0).cells (Cmd.z 0).cells (.tmp 2) (.tmp 117) rfl rfl (by kernel_rfl) (by kernel_rfl) Bx.out cmd_size rfl (stc_one _ _) ?_
      intro wy b_y ky zy
      have kwy : Kept w wy := Kept.trans' kwx ky (by have := hn0.out; omega)
      simp only [Act.put]
      refine l_val (o := ⟨some 3, _, _, _, _, _⟩) (.bool false) rfl (exec_assign (.const (.bool false)) (.bool false) rfl (by kernel_rfl)) ?_
      simp only [Act.put, List.setIfInBounds_toArray, List.set_cons_succ, List.set_cons_zero]
      refine wpList_nil ?_
      go_wp2
      refine bodyPost_ret (results_cmd (p := 2) (q := 3) rfl _ _ n0 _ (Cmd.z 0).cells false rfl rfl b_y rfl) rfl ?_
      refine ⟨?_, kwy⟩
      rw [HG.out]
      rfl
    | true =>
      have HG : Hid (getB xs = (d, true)) := by show _ = _; unfold getB; rw [← HS.out, hF, ← Hd.out, hR]; rfl
      refine wp_text 7 [.eq (.pointer (some ⟨g, 0, none⟩)), .eq (.bool true), .eq (.bool false), .eq (.bool false), .eq (d.v), .eq (.bool true), .eq (.bool false)] rfl (by kernel_rfl) ?_ ?_
      · refine fsteps_cons 1 rfl (fun a u hE hD hk => f_val (o := ⟨some 109, _, _, _, _, _⟩) (.pointer (some ⟨g, 0, none⟩)) rfl (wanted_none rfl _) (exec_move (.tmp 4) (.pointer (some ⟨g, 0, none⟩)) rfl (hE 4 (.pointer (some ⟨g, 0, none⟩)) (by kernel_rfl) (by kernel_rfl))) rfl) ?_
        refine fsteps_cons 2 rfl (fun a u hE hD hk => f_call (o := ⟨some 110, _, _, _, _, _⟩) 37 #[.pointer (some ⟨g, 0, none⟩)] rfl (wanted_none rfl _) (exec_call 37 _ [.tmp 109] _ [.pointer (some ⟨g, 0, none⟩)] Try.func37 (by kernel_rfl) (by kernel_rfl) rfl (show [a.eval (.tmp 109)] = [.pointer (some ⟨g, 0, none⟩)] from (by rw [show a.eval (.tmp 109) = .pointer (some ⟨g, 0, none⟩) from (hD 0 109 (by kernel_rfl))] <;> rfl)) u) ((gend_any g L c A s0.rest u (HRf.out.kept hk)).mono (fun e w' ⟨h1, k, h2⟩ => ⟨_, h1, by rw [hF]; rfl, by rw [h2]; exact kept_drewN u k⟩))) ?_
        refine fsteps_cons 3 rfl (fun a u hE hD hk => f_val (o := ⟨some 111, _, _, _, _, _⟩) (.bool false) rfl (wanted_none rfl _) (exec_not _ (.tmp 110) true rfl (hD 1 110 (by kernel_rfl))) rfl) ?_
        refine fsteps_cons 4 rfl (fun a u hE hD hk => f_val (o := ⟨some 112, _, _, _, _, _⟩) (.bool false) rfl (wanted_none rfl _) (exec_move (.tmp 111) (.bool false) rfl (hD 2 111 (by kernel_rfl))) rfl) ?_
        refine fsteps_cons 5 rfl (fun a u hE hD hk => f_val (o := ⟨some 113, _, _, _, _, _⟩) (d.v) rfl (wanted_at (b := false) false rfl rfl (hD 3 112 (by kernel_rfl))) (exec_loadS 28 (.tmp 5) (gc) _ d.cells _ rfl (hE 5 (.pointer (some ⟨gc, 0, none⟩)) (by kernel_rfl) (by kernel_rfl)) (HC.out.kept hk) Try.underlying28 (by rw [Cmd.cells_len _ HTd.out]; exact cmd_size)) rfl) ?_
        refine fsteps_cons 6 rfl (fun a u hE hD hk => f_call (o := ⟨some 114, _, _, _, _, _⟩) 14 #[d.v] rfl (wanted_at (b := false) false rfl rfl (hD 3 112 (by kernel_rfl))) (exec_call 14 _ [.tmp 113] _ [d.v] Try.func14 (by kernel_rfl) (by kernel_rfl) rfl (show [a.eval (.tmp 113)] = [d.v] from (by rw [show a.eval (.tmp 113) = d.v from (hD 4 113 (by kernel_rfl))] <;> rfl)) u) (right_is d true u HTd hR)) ?_
        refine fsteps_cons 7 rfl (fun a u hE hD hk => f_val (o := ⟨some 115, _, _, _, _, _⟩) (.bool false) rfl (wanted_at (b := false) false rfl rfl (hD 3 112 (by kernel_rfl))) (exec_not _ (.tmp 114) true rfl (hD 5 114 (by kernel_rfl))) rfl) ?_
        exact fsteps_nil
      intro gv wx hV kx
      rw [show dstsOf _ 7 = [109, 110, 111, 112, 113, 114, 115] by kernel_rfl]
      simp only [List.foldl_cons, List.foldl_nil, List.setIfInBounds_toArray, List.set_cons_succ, List.set_cons_zero, List.drop_succ_cons, List.drop_zero]
      rw [show gv 112 = .bool false from hV 3 112 (by kernel_rfl)]
      rw [show gv 115 = .bool false from hV 6 115 (by kernel_rfl)]
      clear hV
      have kwx := kw9.trans kx
      have Bx := Lib.hid (Bn09.out.kept kx)
      have Cx := Lib.hid (HC.out.kept kx)
      go_upto_region 21 with fail
      refine wp_region_lit ?_
      refine l_val (o := ⟨some 118, _, _, _, _, _⟩) (d.v) rfl (exec_loadS 28 (.tmp 5) gc 28 d.cells _ rfl (by kernel_rfl) Cx.out Try.underlying28 (by rw [Cmd.cells_len d HTd.out]; exact cmd_size)) ?_
      simp only [Act.put, List.setIfInBounds_toArray, List.set_cons_succ, List.set_cons_zero]
      refine l_setS (o := ⟨none, _, _, _, _, _⟩) 28 n0 28 (Cmd.z 0).cells d.cells (.tmp 2) (.tmp 118) rfl rfl (by kernel_rfl) (by kernel_rfl) Bx.out (by rw [Cmd.cells_len d HTd.out]; exact cmd_size) (by rw [Cmd.cells_len d HTd.out]; rfl) (stc_one _ _) ?_
      intro wy b_y ky zy
      have kwy : Kept w wy := Kept.trans' kwx ky (by have := hn0.out; omega)
      simp only [Act.put]
      refine l_val (o := ⟨some 3, _, _, _, _, _⟩) (.bool true) rfl (exec_assign (.const (.bool true)) (.bool true) rfl (by kernel_rfl)) ?_
      simp only [Act.put, List.setIfInBounds_toArray, List.set_cons_succ, List.set_cons_zero]
      refine wpList_nil ?_
      go_wp2
      refine bodyPost_ret (results_cmd (p := 2) (q := 3) rfl _ _ n0 _ d.cells true rfl rfl b_y (Cmd.cells_len d HTd.out)) rfl ?_
      refine ⟨?_, kwy⟩
      rw [HG.out]
      rfl

set_option maxRecDepth 100000 in
set_option maxHeartbeats 6400000 in
theorem getc_9 (v : Value) (xs : List UInt8) (s0 : RS) (HS : Hid (s0 = RS.new xs)) (w : World) (hv : Bytes w v xs) (hl : xs.length ≤ 1000) (hkk : Hid (s0.kind = 9)) : Calls Try.prog 19 #[v] w (GotIn w xs) := by
  obtain ⟨A, L, c, rfl, hL, hx, h1, hcm_, h3⟩ := hv
  have hcm : Hid (c ≤ maxLen) := hcm_
  have HX := Lib.hid hx
  have HO0 : Hid s0.ok := by rw [HS.out]; exact ⟨Nat.zero_le _, by show xs.length ≤ _; omega⟩
  have hA : Hid (∀ ad, A = some ad → xs ≠ [] → ad.block < w.heap.size) := fun ad e hn => R8.lt (by rw [← e]; exact HX.out) hn
  have hLc : Hid (L ≤ c) := h1
  have kw : Kept w w := Kept.refl w
  clear hx h1 h3 hl hcm_
  go_enter Try.func19, Try.ntmps19
  go_upto_region 0 with fail
  refine wp_region_lit ?_
  refine l_alloc (o := ⟨some 2, _, _, _, _, _⟩) 28 (Cmd.z 0).cells rfl rfl cmd_zero ?_
  intro wa ba za ka
  simp only [Act.put, List.setIfInBounds_toArray, List.set_cons_succ, List.set_cons_zero]
  refine l_val (o := ⟨some 3, _, _, _, _, _⟩) (.bool false) rfl (exec_assign (.const (.bool false)) (.bool false) rfl (by kernel_rfl)) ?_
  simp only [Act.put, List.setIfInBounds_toArray, List.set_cons_succ, List.set_cons_zero]
  refine wpList_nil ?_
  obtain ⟨n0, hn⟩ : ∃ n0, n0 = w.heap.size := ⟨_, rfl⟩
  rw [← hn] at ba ⊢
  have hn0 : Hid (w.heap.size ≤ n0) := by show _ ≤ _; omega
  have hl0 : Hid (n0 < wa.heap.size) := by show _ < _; omega
  have Ba : Hid (Blk wa n0 28 (Cmd.z 0).cells) := ba
  clear hn ba za
  go_upto_region 1 with fail
  refine wp_region_lit ?_
  refine l_val (o := ⟨some 6, _, _, _, _, _⟩) (.slice A L c) rfl (exec_move (.tmp 0) (.slice A L c) rfl (by kernel_rfl)) ?_
  simp only [Act.put, List.setIfInBounds_toArray, List.set_cons_succ, List.set_cons_zero]
  refine l_val (o := ⟨some 7, _, _, _, _, _⟩) (.agg #[.slice A L c, .int .i64 0, .bool false]) rfl (exec_build 58 _ [.slice A L c, .int .i64 0, .bool false] rfl (by kernel_rfl)) ?_
  simp only [Act.put, List.setIfInBounds_toArray, List.set_cons_succ, List.set_cons_zero]
  refine l_new (o := ⟨some 8, _, _, _, _, _⟩) (.pointer (some ⟨wa.heap.size, 0, none⟩)) (wa.alloc (.cells ([.slice A L c, .int .i64 0, .bool false] : List Value).toArray 58)) rfl (exec_box 58 (.tmp 7) [.slice A L c, .int .i64 0, .bool false] rfl (by kernel_rfl)) ?_
  simp only [Act.put, List.setIfInBounds_toArray, List.set_cons_succ, List.set_cons_zero]
  refine l_val (o := ⟨some 4, _, _, _, _, _⟩) (.pointer (some ⟨wa.heap.size, 0, none⟩)) rfl (exec_assign (.tmp 8) (.pointer (some ⟨wa.heap.size, 0, none⟩)) rfl (by kernel_rfl)) ?_
  simp only [Act.put, List.setIfInBounds_toArray, List.set_cons_succ, List.set_cons_zero]
  refine wpList_nil ?_
  have k0_ : Kept wa (wa.alloc (.cells ([.slice A L c, .int .i64 0, .bool false] : List Value).toArray 58)) := (Keep.refl _ wa).alloc _
  have b0 := Blk.new wa 58 [.slice A L c, .int .i64 0, .bool false]
  generalize wa.alloc (.cells ([.slice A L c, .int .i64 0, .bool false] : List Value).toArray 58) = w0 at k0_ b0 ⊢
  obtain ⟨g, hg⟩ : ∃ g, g = wa.heap.size := ⟨_, rfl⟩
  rw [← hg] at b0 ⊢
  have hgn : Hid (n0 < g) := by show _ < _; have := hl0.out; omega
  have hbig : Hid (w.heap.size ≤ g) := by show _ ≤ _; have := hgn.out; have := hn0.out; omega
  have kw0 := (kw.trans ka).trans k0_
  have Bn00 := Lib.hid (Ba.out.kept k0_)
  have HR0 : Hid (FRd w0 g A L c s0) := by
    rw [HS.out]
    exact ⟨hL, b0, (HX.out.kept ka).kept k0_, fun ad e hn => by have := hA.out ad e hn; have := hbig.out; omega, hLc.out⟩
  have HX0 : Hid (s0.xs = xs) := by rw [HS.out]; rfl
  clear hg b0 k0_ ka kw hl0 Ba
  go_upto_region 2 with fail
  refine wp_region_lit ?_
  refine l_val (o := ⟨some 9, _, _, _, _, _⟩) (.pointer (some ⟨g, 0, none⟩)) rfl (exec_move (.tmp 4) (.pointer (some ⟨g, 0, none⟩)) rfl (by kernel_rfl)) ?_
  simp only [Act.put, List.setIfInBounds_toArray, List.set_cons_succ, List.set_cons_zero]
  refine l_call (o := ⟨some 10, _, _, _, _, _⟩) 34 #[.pointer (some ⟨g, 0, none⟩)] rfl (exec_call 34 _ [.tmp 9] _ _ Try.func34 (by kernel_rfl) (by kernel_rfl) rfl (by kernel_rfl) _) ?_
  refine (fdU8 g L c A s0 w0 HR0 HO0 hcm).mono ?_
  rintro e w1 ⟨x1, s1, Hx1, Hs1, HY1, rfl, HR1, HO1, k1⟩
  have HX1 := Lib.hid (HY1.out.trans HX0.out)
  have Bn01 := Lib.hid (Bn00.out.keep k1 (by have := hn0.out; have := hgn.out; omega))
  have kw1 : Kept w w1 := Keep.trans kw0 k1 (fun i hi h => by have := hbig.out; omega)
  clear kw0
  refine ⟨_, rfl, ?_⟩
  simp only [Act.put, List.setIfInBounds_toArray, List.set_cons_succ, List.set_cons_zero]
  refine l_val (o := ⟨some 11, _, _, _, _, _⟩) ((Cmd.z x1).v) rfl (exec_build 28 _ (Cmd.z x1).cells rfl (by kernel_rfl)) ?_
  simp only [Act.put, List.setIfInBounds_toArray, List.set_cons_succ, List.set_cons_zero]
  refine l_alloc (o := ⟨some 5, _, _, _, _, _⟩) 28 (Cmd.z 0).cells rfl rfl cmd_zero ?_
  intro w2 b2 z2 k2
  obtain ⟨gc, hgc_⟩ : ∃ gc, gc = w1.heap.size := ⟨_, rfl⟩
  rw [← hgc_] at b2 ⊢
  have hgg : Hid (n0 < g ∧ g < gc) := ⟨hgn.out, by have := HR1.out.2.1.lt; omega⟩
  have hnc : Hid (n0 < gc) := by show _ < _; have := hgg.out; omega
  have hgc : Hid (w.heap.size ≤ gc) := by show _ ≤ _; have := hnc.out; have := hn0.out; omega
  clear hgc_ hgn
  have hgn := hgg
  clear hgg
  have Bn02 := Lib.hid (Bn01.out.kept k2)
  have HR2 := Lib.hid (HR1.out.kept k2)
  have kw2 : Kept w w2 := Keep.kept kw1 k2
  clear kw1
  simp only [Act.put, List.setIfInBounds_toArray, List.set_cons_succ, List.set_cons_zero]
  refine l_setS (o := ⟨none, _, _, _, _, _⟩) 28 gc 28 (Cmd.z 0).cells (Cmd.z x1).cells (.tmp 5) (.tmp 11) rfl rfl (by kernel_rfl) (by kernel_rfl) b2 cmd_size rfl (stc_one _ _) ?_
  intro w3 b3 k3 z3
  have Bgc3 : Hid (Blk w3 gc 28 (stc (Cmd.z x1).l zeros32)) := b3
  have Bn03 := Lib.hid (Bn02.out.keep k3 (by have := hn0.out; have := hgc.out; have := hnc.out; omega))
  have HR3 := Lib.hid (HR2.out.off k3 (by have := hbig.out; have := hgc.out; have := hgn.out; omega) HX1.out (fun ad e hn => by have := hA.out ad e hn; have := hgc.out; omega))
  have kw3 : Kept w w3 := Keep.trans kw2 k3 (fun i hi h => by have := hgc.out; omega)
  clear kw2
  simp only [Act.put]
  refine wpList_nil ?_
  obtain rfl : x1 = 9 := Hx1.out.trans hkk.out
  have hc : w3.cell? ⟨gc, 0, none⟩ = some (.int .i64 9) := Bgc3.out.fld 0 _ rfl
  go_upto_region 18 with fail
  refine wp_region_lit ?_
  refine l_val (o := ⟨some 97, _, _, _, _, _⟩) (.pointer (some ⟨g, 0, none⟩)) rfl (exec_move (.tmp 4) (.pointer (some ⟨g, 0, none⟩)) rfl (by kernel_rfl)) ?_
  simp only [Act.put, List.setIfInBounds_toArray, List.set_cons_succ, List.set_cons_zero]
  refine l_call (o := ⟨some 98, _, _, _, _, _⟩) 36 #[.pointer (some ⟨g, 0, none⟩)] rfl (exec_call 36 _ [.tmp 97] _ _ Try.func36 (by kernel_rfl) (by kernel_rfl) rfl (by kernel_rfl) _) ?_
  refine (fdNum g L c A s1 w3 HR3 HO1 hcm).mono ?_
  rintro e w4 ⟨x2, s2, Hx2, Hs2, HY2, rfl, HR4, HO2, k4⟩
  have HX2 := Lib.hid (HY2.out.trans HX1.out)
  have Bn04 := Lib.hid (Bn03.out.keep k4 (by have := hn0.out; have := hgn.out; omega))
  have Bgc4 := Lib.hid (Bgc3.out.keep k4 (by have := hgc.out; have := hgn.out; omega))
  have kw4 : Kept w w4 := Keep.trans kw3 k4 (fun i hi h => by have := hbig.out; omega)
  clear kw3
  refine ⟨_, rfl, ?_⟩
  simp only [Act.put, List.setIfInBounds_toArray, List.set_cons_succ, List.set_cons_zero]
  refine l_val (o := ⟨some 99, _, _, _, _, _⟩) (.pointer (some ⟨g, 0, none⟩)) rfl (exec_move (.tmp 4) (.pointer (some ⟨g, 0, none⟩)) rfl (by kernel_rfl)) ?_
  simp only [Act.put, List.setIfInBounds_toArray, List.set_cons_succ, List.set_cons_zero]
  refine l_call (o := ⟨some 100, _, _, _, _, _⟩) 34 #[.pointer (some ⟨g, 0, none⟩)] rfl (exec_call 34 _ [.tmp 99] _ _ Try.func34 (by kernel_rfl) (by kernel_rfl) rfl (by kernel_rfl) _) ?_
  refine (fdU8 g L c A s2 w4 HR4 HO2 hcm).mono ?_
  rintro e w5 ⟨x3, s3, Hx3, Hs3, HY3, rfl, HR5, HO3, k5⟩
  have HX3 := Lib.hid (HY3.out.trans HX2.out)
  have Bn05 := Lib.hid (Bn04.out.keep k5 (by have := hn0.out; have := hgn.out; omega))
  have Bgc5 := Lib.hid (Bgc4.out.keep k5 (by have := hgc.out; have := hgn.out; omega))
  have kw5 : Kept w w5 := Keep.trans kw4 k5 (fun i hi h => by have := hbig.out; omega)
  clear kw4
  refine ⟨_, rfl, ?_⟩
  simp only [Act.put, List.setIfInBounds_toArray, List.set_cons_succ, List.set_cons_zero]
  refine l_val (o := ⟨some 101, _, _, _, _, _⟩) (.pointer (some ⟨g, 0, none⟩)) rfl (exec_move (.tmp 4) (.pointer (some ⟨g, 0, none⟩)) rfl (by kernel_rfl)) ?_
  simp only [Act.put, List.setIfInBounds_toArray, List.set_cons_succ, List.set_cons_zero]
  refine l_call (o := ⟨some 102, _, _, _, _, _⟩) 34 #[.pointer (some ⟨g, 0, none⟩)] rfl (exec_call 34 _ [.tmp 101] _ _ Try.func34 (by kernel_rfl) (by kernel_rfl) rfl (by kernel_rfl) _) ?_
  refine (fdU8 g L c A s3 w5 HR5 HO3 hcm).mono ?_
  rintro e w6 ⟨x4, s4, Hx4, Hs4, HY4, rfl, HR6, HO4, k6⟩
  have HX4 := Lib.hid (HY4.out.trans HX3.out)
  have Bn06 := Lib.hid (Bn05.out.keep k6 (by have := hn0.out; have := hgn.out; omega))
  have Bgc6 := Lib.hid (Bgc5.out.keep k6 (by have := hgc.out; have := hgn.out; omega))
  have kw6 : Kept w w6 := Keep.trans kw5 k6 (fun i hi h => by have := hbig.out; omega)
  clear kw5
  refine ⟨_, rfl, ?_⟩
  simp only [Act.put, List.setIfInBounds_toArray, List.set_cons_succ, List.set_cons_zero]
  refine l_val (o := ⟨some 103, _, _, _, _, _⟩) (.pointer (some ⟨g, 0, none⟩)) rfl (exec_move (.tmp 4) (.pointer (some ⟨g, 0, none⟩)) rfl (by kernel_rfl)) ?_
  simp only [Act.put, List.setIfInBounds_toArray, List.set_cons_succ, List.set_cons_zero]
  refine l_call (o := ⟨some 104, _, _, _, _, _⟩) 34 #[.pointer (some ⟨g, 0, none⟩)] rfl (exec_call 34 _ [.tmp 103] _ _ Try.func34 (by kernel_rfl) (by kernel_rfl) rfl (by kernel_rfl) _) ?_
  refine (fdU8 g L c A s4 w6 HR6 HO4 hcm).mono ?_
  rintro e w7 ⟨x5, s5, Hx5, Hs5, HY5, rfl, HR7, HO5, k7⟩
  have HX5 := Lib.hid (HY5.out.trans HX4.out)
  have Bn07 := Lib.hid (Bn06.out.keep k7 (by have := hn0.out; have := hgn.out; omega))
  have Bgc7 := Lib.hid (Bgc6.out.keep k7 (by have := hgc.out; have := hgn.out; omega))
  have kw7 : Kept w w7 := Keep.trans kw6 k7 (fun i hi h => by have := hbig.out; omega)
  clear kw6
  refine ⟨_, rfl, ?_⟩
  simp only [Act.put, List.setIfInBounds_toArray, List.set_cons_succ, List.set_cons_zero]
  refine l_val (o := ⟨some 105, _, _, _, _, _⟩) (.pointer (some ⟨gc, 1, none⟩)) rfl (exec_fld 28 1 1 (.tmp 5) (gc) rfl (by kernel_rfl) (by kernel_rfl)) ?_
  simp only [Act.put, List.setIfInBounds_toArray, List.set_cons_succ, List.set_cons_zero]
  refine l_setf (o := ⟨none, _, _, _, _, _⟩) gc 1 28 (Cmd.z 9).l zeros32 x2 (.tmp 105) (.tmp 98) rfl rfl (by kernel_rfl) (by kernel_rfl) Bgc7.out (by simp [Cmd.l]) ?_
  intro w8 b8 k8 z8
  have Bgc8 : Hid (Blk w8 gc 28 (stc ((Cmd.z 9).l.set 1 x2) zeros32)) := b8
  have Bn08 := Lib.hid (Bn07.out.keep k8 (by have := hn0.out; have := hgc.out; have := hnc.out; omega))
  have HR8 := Lib.hid (HR7.out.off k8 (by have := hbig.out; have := hgc.out; have := hgn.out; omega) HX5.out (fun ad e hn => by have := hA.out ad e hn; have := hgc.out; omega))
  have kw8 : Kept w w8 := Keep.trans kw7 k8 (fun i hi h => by have := hgc.out; omega)
  clear kw7
  simp only [Act.put]
  refine l_val (o := ⟨some 106, _, _, _, _, _⟩) (.pointer (some ⟨gc, 11, none⟩)) rfl (exec_fld 28 11 11 (.tmp 5) (gc) rfl (by kernel_rfl) (by kernel_rfl)) ?_
  simp only [Act.put, List.setIfInBounds_toArray, List.set_cons_succ, List.set_cons_zero]
  refine l_setf (o := ⟨none, _, _, _, _, _⟩) gc 11 28 ((Cmd.z 9).l.set 1 x2) zeros32 x3 (.tmp 106) (.tmp 100) rfl rfl (by kernel_rfl) (by kernel_rfl) Bgc8.out (by simp [Cmd.l]) ?_
  intro w9 b9 k9 z9
  have Bgc9 : Hid (Blk w9 gc 28 (stc (((Cmd.z 9).l.set 1 x2).set 11 x3) zeros32)) := b9
  have Bn09 := Lib.hid (Bn08.out.keep k9 (by have := hn0.out; have := hgc.out; have := hnc.out; omega))
  have HR9 := Lib.hid (HR8.out.off k9 (by have := hbig.out; have := hgc.out; have := hgn.out; omega) HX5.out (fun ad e hn => by have := hA.out ad e hn; have := hgc.out; omega))
  have kw9 : Kept w w9 := Keep.trans kw8 k9 (fun i hi h => by have := hgc.out; omega)
  clear kw8
  simp only [Act.put]
  refine l_val (o := ⟨some 107, _, _, _, _, _⟩) (.pointer (some ⟨gc, 12, none⟩)) rfl (exec_fld 28 12 12 (.tmp 5) (gc) rfl (by kernel_rfl) (by kernel_rfl)) ?_
  simp only [Act.put, List.setIfInBounds_toArray, List.set_cons_succ, List.set_cons_zero]
  refine l_setf (o := ⟨none, _, _, _, _, _⟩) gc 12 28 (((Cmd.z 9).l.set 1 x2).set 11 x3) zeros32 x4 (.tmp 107) (.tmp 102) rfl rfl (by kernel_rfl) (by kernel_rfl) Bgc9.out (by simp [Cmd.l]) ?_
  intro w10 b10 k10 z10
  have Bgc10 : Hid (Blk w10 gc 28 (stc ((((Cmd.z 9).l.set 1 x2).set 11 x3).set 12 x4) zeros32)) := b10
  have Bn010 := Lib.hid (Bn09.out.keep k10 (by have := hn0.out; have := hgc.out; have := hnc.out; omega))
  have HR10 := Lib.hid (HR9.out.off k10 (by have := hbig.out; have := hgc.out; have := hgn.out; omega) HX5.out (fun ad e hn => by have := hA.out ad e hn; have := hgc.out; omega))
  have kw10 : Kept w w10 := Keep.trans kw9 k10 (fun i hi h => by have := hgc.out; omega)
  clear kw9
  simp only [Act.put]
  refine l_val (o := ⟨some 108, _, _, _, _, _⟩) (.pointer (some ⟨gc, 13, none⟩)) rfl (exec_fld 28 13 13 (.tmp 5) (gc) rfl (by kernel_rfl) (by kernel_rfl)) ?_
  simp only [Act.put, List.setIfInBounds_toArray, List.set_cons_succ, List.set_cons_zero]
  refine l_setf (o := ⟨none, _, _, _, _, _⟩) gc 13 28 ((((Cmd.z 9).l.set 1 x2).set 11 x3).set 12 x4) zeros32 x5 (.tmp 108) (.tmp 104) rfl rfl (by kernel_rfl) (by kernel_rfl) Bgc10.out (by simp [Cmd.l]) ?_
  intro w11 b11 k11 z11
  have Bgc11 : Hid (Blk w11 gc 28 (stc (((((Cmd.z 9).l.set 1 x2).set 11 x3).set 12 x4).set 13 x5) zeros32)) := b11
  have Bn011 := Lib.hid (Bn010.out.keep k11 (by have := hn0.out; have := hgc.out; have := hnc.out; omega))
  have HR11 := Lib.hid (HR10.out.off k11 (by have := hbig.out; have := hgc.out; have := hgn.out; omega) HX5.out (fun ad e hn => by have := hA.out ad e hn; have := hgc.out; omega))
  have kw11 : Kept w w11 := Keep.trans kw10 k11 (fun i hi h => by have := hgc.out; omega)
  clear kw10
  simp only [Act.put]
  refine wpList_nil ?_
  go_upto_region 19 with fail
  have f1 := Hs1.out
  have f2 := Hs2.out
  have e2 := Hx2.out
  have f3 := Hs3.out
  have e3 := Hx3.out
  have f4 := Hs4.out
  have e4 := Hx4.out
  have f5 := Hs5.out
  have e5 := Hx5.out
  have hcmd : stc (((((Cmd.z 9).l.set 1 x2).set 11 x3).set 12 x4).set 13 x5) zeros32 = s0.cmd.cells ∧ s0.rest = s5 := by
    unfold RS.cmd RS.rest
    rw [hkk.out]
    subst f1
    subst e2
    subst f2
    subst e3
    subst f3
    subst e4
    subst f4
    subst e5
    subst f5
    exact ⟨rfl, rfl⟩
  obtain ⟨d, hd⟩ : ∃ d, d = s0.cmd := ⟨_, rfl⟩
  have HC : Hid (Blk w11 gc 28 d.cells) := by rw [hd, ← hcmd.1]; exact Bgc11.out
  have HTd : Hid (d.tag.length = 32) := by rw [hd]; exact RS.cmd_tag _
  have HRf : Hid (FRd w11 g A L c s0.rest) := by rw [hcmd.2]; exact HR11.out
  have Hd := Lib.hid hd
  clear hd hcmd Bgc11 HR11 f1 f2 f3 f4 f5 e2 e3 e4 e5
  cases hF : s0.rest.fin with
  | false =>
    have HG : Hid (getB xs = (Cmd.z 0, false)) := by show _ = _; unfold getB; rw [← HS.out, hF]; rfl
    refine wp_text 7 [.eq (.pointer (some ⟨g, 0, none⟩)), .eq (.bool false), .eq (.bool true), .eq (.bool true), .eq undef, .eq undef, .eq undef] rfl (by kernel_rfl) ?_ ?_
    · refine fsteps_cons 1 rfl (fun a u hE hD hk => f_val (o := ⟨some 109, _, _, _, _, _⟩) (.pointer (some ⟨g, 0, none⟩)) rfl (wanted_none rfl _) (exec_move (.tmp 4) (.pointer (some ⟨g, 0, none⟩)) rfl (hE 4 (.pointer (some ⟨g, 0, none⟩)) (by kernel_rfl) (by kernel_rfl))) rfl) ?_
      refine fsteps_cons 2 rfl (fun a u hE hD hk => f_call (o := ⟨some 110, _, _, _, _, _⟩) 37 #[.pointer (some ⟨g, 0, none⟩)] rfl (wanted_none rfl _) (exec_call 37 _ [.tmp 109] _ [.pointer (some ⟨g, 0, none⟩)] Try.func37 (by kernel_rfl) (by kernel_rfl) rfl (show [a.eval (.tmp 109)] = [.pointer (some ⟨g, 0, none⟩)] from (by rw [show a.eval (.tmp 109) = .pointer (some ⟨g, 0, none⟩) from (hD 0 109 (by kernel_rfl))] <;> rfl)) u) ((gend_any g L c A s0.rest u (HRf.out.kept hk)).mono (fun e w' ⟨h1, k, h2⟩ => ⟨_, h1, by rw [hF]; rfl, by rw [h2]; exact kept_drewN u k⟩))) ?_
      refine fsteps_cons 3 rfl (fun a u hE hD hk => f_val (o := ⟨some 111, _, _, _, _, _⟩) (.bool true) rfl (wanted_none rfl _) (exec_not _ (.tmp 110) false rfl (hD 1 110 (by kernel_rfl))) rfl) ?_
      refine fsteps_cons 4 rfl (fun a u hE hD hk => f_val (o := ⟨some 112, _, _, _, _, _⟩) (.bool true) rfl (wanted_none rfl _) (exec_move (.tmp 111) (.bool true) rfl (hD 2 111 (by kernel_rfl))) rfl) ?_
      refine fsteps_cons 5 rfl (fun a u hE hD hk => f_skip (o := ⟨some 113, _, _, _, _, _⟩) rfl (wanted_at (b := false) true rfl rfl (hD 3 112 (by kernel_rfl))) rfl) ?_
      refine fsteps_cons 6 rfl (fun a u hE hD hk => f_skip (o := ⟨some 114, _, _, _, _, _⟩) rfl (wanted_at (b := false) true rfl rfl (hD 3 112 (by kernel_rfl))) rfl) ?_
      refine fsteps_cons 7 rfl (fun a u hE hD hk => f_skip (o := ⟨some 115, _, _, _, _, _⟩) rfl (wanted_at (b := false) true rfl rfl (hD 3 112 (by kernel_rfl))) rfl) ?_
      exact fsteps_nil
    intro gv wx hV kx
    rw [show dstsOf _ 7 = [109, 110, 111, 112, 113, 114, 115] by kernel_rfl]
    simp only [List.foldl_cons, List.foldl_nil, List.setIfInBounds_toArray, List.set_cons_succ, List.set_cons_zero, List.drop_succ_cons, List.drop_zero]
    rw [show gv 112 = .bool true from hV 3 112 (by kernel_rfl)]
    rw [show gv 115 = undef from hV 6 115 (by kernel_rfl)]
    clear hV
    have kwx := kw11.trans kx
    have Bx := Lib.hid (Bn011.out.kept kx)
    have Cx := Lib.hid (HC.out.kept kx)
    go_upto_region 20 with fail
    refine wp_region_lit ?_
    refine l_val (o := ⟨some 117, _, _, _, _, _⟩) ((Cmd.z 0).v) rfl (exec_build 28 [] (Cmd.z 0).cells rfl (by kernel_rfl)) ?_
    simp only [Act.put, List.setIfInBounds_toArray, List.set_cons_succ, List.set_cons_zero]
    refine l_setS (o := ⟨none, _, _, _, _, _⟩) 28 n0 28 (Cmd.z 0).cells (Cmd.z 0).cells (.tmp 2) (.tmp 117) rfl rfl (by kernel_rfl) (by kernel_rfl) Bx.out cmd_size rfl (stc_one _ _) ?_
    intro wy b_y ky zy
    have kwy : Kept w wy := Kept.trans' kwx ky (by have := hn0.out; omega)
    simp only [Act.put]
    refine l_val (o := ⟨some 3, _, _, _, _, _⟩) (.bool false) rfl (exec_assign (.const (.bool false)) (.bool false) rfl (by kernel_rfl)) ?_
    simp only [Act.put, List.setIfInBounds_toArray, List.set_cons_succ, List.set_cons_zero]
    refine wpList_nil ?_
    go_wp2
    refine bodyPost_ret (results_cmd (p := 2) (q := 3) rfl _ _ n0 _ (Cmd.z 0).cells false rfl rfl b_y rfl) rfl ?_
    refine ⟨?_, kwy⟩
    rw [HG.out]
    rfl
  | true =>
    cases hR : d.right with
    | false =>
      have HG : Hid (getB xs = (Cmd.z 0, false)) := by show _ = _; unfold getB; rw [← HS.out, hF, ← Hd.out, hR]; rfl
      refine wp_text 7 [.eq (.pointer (some ⟨g, 0, none⟩)), .eq (.bool true), .eq (.bool false), .eq (.bool false), .eq (d.v), .eq (.bool false), .eq (.bool true)] rfl (by kernel_rfl) ?_ ?_
      · refine fsteps_cons 1 rfl (fun a u hE hD hk => f_val (o := ⟨some 109, _, _, _, _, _⟩) (.pointer (some ⟨g, 0, none⟩)) rfl (wanted_none rfl _) (exec_move (.tmp 4) (.pointer (some ⟨g, 0, none⟩)) rfl (hE 4 (.pointer (some ⟨g, 0, none⟩)) (by kernel_rfl) (by kernel_rfl))) rfl) ?_
        refine fsteps_cons 2 rfl (fun a u hE hD hk => f_call (o := ⟨some 110, _, _, _, _, _⟩) 37 #[.pointer (some ⟨g, 0, none⟩)] rfl (wanted_none rfl _) (exec_call 37 _ [.tmp 109] _ [.pointer (some ⟨g, 0, none⟩)] Try.func37 (by kernel_rfl) (by kernel_rfl) rfl (show [a.eval (.tmp 109)] = [.pointer (some ⟨g, 0, none⟩)] from (by rw [show a.eval (.tmp 109) = .pointer (some ⟨g, 0, none⟩) from (hD 0 109 (by kernel_rfl))] <;> rfl)) u) ((gend_any g L c A s0.rest u (HRf.out.kept hk)).mono (fun e w' ⟨h1, k, h2⟩ => ⟨_, h1, by rw [hF]; rfl, by rw [h2]; exact kept_drewN u k⟩))) ?_
        refine fsteps_cons 3 rfl (fun a u hE hD hk => f_val (o := ⟨some 111, _, _, _, _, _⟩) (.bool false) rfl (wanted_none rfl _) (exec_not _ (.tmp 110) true rfl (hD 1 110 (by kernel_rfl))) rfl) ?_
        refine fsteps_cons 4 rfl (fun a u hE hD hk => f_val (o := ⟨some 112, _, _, _, _, _⟩) (.bool false) rfl (wanted_none rfl _) (exec_move (.tmp 111) (.bool false) rfl (hD 2 111 (by kernel_rfl))) rfl) ?_
        refine fsteps_cons 5 rfl (fun a u hE hD hk => f_val (o := ⟨some 113, _, _, _, _, _⟩) (d.v) rfl (wanted_at (b := false) false rfl rfl (hD 3 112 (by kernel_rfl))) (exec_loadS 28 (.tmp 5) (gc) _ d.cells _ rfl (hE 5 (.pointer (some ⟨gc, 0, none⟩)) (by kernel_rfl) (by kernel_rfl)) (HC.out.kept hk) Try.underlying28 (by rw [Cmd.cells_len _ HTd.out]; exact cmd_size)) rfl) ?_
        refine fsteps_cons 6 rfl (fun a u hE hD hk => f_call (o := ⟨some 114, _, _, _, _, _⟩) 14 #[d.v] rfl (wanted_at (b := false) false rfl rfl (hD 3 112 (by kernel_rfl))) (exec_call 14 _ [.tmp 113] _ [d.v] Try.func14 (by kernel_rfl) (by kernel_rfl) rfl (show [a.eval (.tmp 113)] = [d.v] from (by rw [show a.eval (.tmp 113) = d.v from (hD 4 113 (by kernel_rfl))] <;> rfl)) u) (right_is d false u HTd hR)) ?_
        refine fsteps_cons 7 rfl (fun a u hE hD hk => f_val (o := ⟨some 115, _, _, _, _, _⟩) (.bool true) rfl (wanted_at (b := false) false rfl rfl (hD 3 112 (by kernel_rfl))) (exec_not _ (.tmp 114) false rfl (hD 5 114 (by kernel_rfl))) rfl) ?_
        exact fsteps_nil
      intro gv wx hV kx
      rw [show dstsOf _ 7 = [109, 110, 111, 112, 113, 114, 115] by kernel_rfl]
      simp only [List.foldl_cons, List.foldl_nil, List.setIfInBounds_toArray, List.set_cons_succ, List.set_cons_zero, List.drop_succ_cons, List.drop_zero]
      rw [show gv 112 = .bool false from hV 3 112 (by kernel_rfl)]
      rw [show gv 115 = .bool true from hV 6 115 (by kernel_rfl)]
      clear hV
      have kwx := kw11.trans kx
      have Bx := Lib.hid (Bn011.out.kept kx)
      have Cx := Lib.hid (HC.out.kept kx)
      go_upto_region 20 with fail
      refine wp_region_lit ?_
      refine l_val (o := ⟨some 117, _, _, _, _, _⟩) ((Cmd.z 0).v) rfl (exec_build 28 [] (Cmd.z 0).cells rfl (by kernel_rfl)) ?_
      simp only [Act.put, List.setIfInBounds_toArray, List.set_cons_succ, List.set_cons_zero]
      refine l_setS (o := ⟨none, _, _, _, _, _⟩) 28 n0 28 (Cmd.z 0).cells (Cmd.z 0).cells (.tmp 2) (.tmp 117) rfl rfl (by kernel_rfl) (by kernel_rfl) Bx.out cmd_size rfl (stc_one _ _) ?_
      intro wy b_y ky zy
      have kwy : Kept w wy := Kept.trans' kwx ky (by have := hn0.out; omega)
      simp only [Act.put]
      refine l_val (o := ⟨some 3, _, _, _, _, _⟩) (.bool false) rfl (exec_assign (.const (.bool false)) (.bool false) rfl (by kernel_rfl)) ?_
      simp only [Act.put, List.setIfInBounds_toArray, List.set_cons_succ, List.set_cons_zero]
      refine wpList_nil ?_
      go_wp2
      refine bodyPost_ret (results_cmd (p := 2) (q := 3) rfl _ _ n0 _ (Cmd.z 0).cells false rfl rfl b_y rfl) rfl ?_
      refine ⟨?_, kwy⟩
      rw [HG.out]
      rfl
    | true =>
      have HG : Hid (getB xs = (d, true)) := by show _ = _; unfold getB; rw [← HS.out, hF, ← Hd.out, hR]; rfl
      refine wp_text 7 [.eq (.pointer (some ⟨g, 0, none⟩)), .eq (.bool true), .eq (.bool false), .eq (.bool false), .eq (d.v), .eq (.bool true), .eq (.bool false)] rfl (by kernel_rfl) ?_ ?_
      · refine fsteps_cons 1 rfl (fun a u hE hD hk => f_val (o := ⟨some 109, _, _, _, _, _⟩) (.pointer (some ⟨g, 0, none⟩)) rfl (wanted_none rfl _) (exec_move (.tmp 4) (.pointer (some ⟨g, 0, none⟩)) rfl (hE 4 (.pointer (some ⟨g, 0, none⟩)) (by kernel_rfl) (by kernel_rfl))) rfl) ?_
        refine fsteps_cons 2 rfl (fun a u hE hD hk => f_call (o := ⟨some 110, _, _, _, _, _⟩) 37 #[.pointer (some ⟨g, 0, none⟩)] rfl (wanted_none rfl _) (exec_call 37 _ [.tmp 109] _ [.pointer (some ⟨g, 0, none⟩)] Try.func37 (by kernel_rfl) (by kernel_rfl) rfl (show [a.eval (.tmp 109)] = [.pointer (some ⟨g, 0, none⟩)] from (by rw [show a.eval (.tmp 109) = .pointer (some ⟨g, 0, none⟩) from (hD 0 109 (by kernel_rfl))] <;> rfl)) u) ((gend_any g L c A s0.rest u (HRf.out.kept hk)).mono (fun e w' ⟨h1, k, h2⟩ => ⟨_, h1, by rw [hF]; rfl, by rw [h2]; exact kept_drewN u k⟩))) ?_
        refine fsteps_cons 3 rfl (fun a u hE hD hk => f_val (o := ⟨some 111, _, _, _, _, _⟩) (.bool false) rfl (wanted_none rfl _) (exec_not _ (.tmp 110) true rfl (hD 1 110 (by kernel_rfl))) rfl) ?_
        refine fsteps_cons 4 rfl (fun a u hE hD hk => f_val (o := ⟨some 112, _, _, _, _, _⟩) (.bool false) rfl (wanted_none rfl _) (exec_move (.tmp 111) (.bool false) rfl (hD 2 111 (by kernel_rfl))) rfl) ?_
        refine fsteps_cons 5 rfl (fun a u hE hD hk => f_val (o := ⟨some 113, _, _, _, _, _⟩) (d.v) rfl (wanted_at (b := false) false rfl rfl (hD 3 112 (by kernel_rfl))) (exec_loadS 28 (.tmp 5) (gc) _ d.cells _ rfl (hE 5 (.pointer (some ⟨gc, 0, none⟩)) (by kernel_rfl) (by kernel_rfl)) (HC.out.kept hk) Try.underlying28 (by rw [Cmd.cells_len _ HTd.out]; exact cmd_size)) rfl) ?_
        refine fsteps_cons 6 rfl (fun a u hE hD hk => f_call (o := ⟨some 114, _, _, _, _, _⟩) 14 #[d.v] rfl (wanted_at (b := false) false rfl rfl (hD 3 112 (by kernel_rfl))) (exec_call 14 _ [.tmp 113] _ [d.v] Try.func14 (by kernel_rfl) (by kernel_rfl) rfl (show [a.eval (.tmp 113)] = [d.v] from (by rw [show a.eval (.tmp 113) = d.v from (hD 4 113 (by kernel_rfl))] <;> rfl)) u) (right_is d true u HTd hR)) ?_
        refine fsteps_cons 7 rfl (fun a u hE hD hk => f_val (o := ⟨some 115, _, _, _, _, _⟩) (.bool false) rfl (wanted_at (b := false) false rfl rfl (hD 3 112 (by kernel_rfl))) (exec_not _ (.tmp 114) true rfl (hD 5 114 (by kernel_rfl))) rfl) ?_
        exact fsteps_nil
      intro gv wx hV kx
      rw [show dstsOf _ 7 = [109, 110, 111, 112, 113, 114, 115] by kernel_rfl]
      simp only [List.foldl_cons, List.foldl_nil, List.setIfInBounds_toArray, List.set_cons_succ, List.set_cons_zero, List.drop_succ_cons, List.drop_zero]
      rw [show gv 112 = .bool false from hV 3 112 (by kernel_rfl)]
      rw [show gv 115 = .bool false from hV 6 115 (by kernel_rfl)]
      clear hV
      have kwx := kw11.trans kx
      have Bx := Lib.hid (Bn011.out.kept kx)
      have Cx := Lib.hid (HC.out.kept kx)
      go_upto_region 21 with fail
      refine wp_region_lit ?_
      refine l_val (o := ⟨some 118, _, _, _, _, _⟩) (d.v) rfl (exec_loadS 28 (.tmp 5) gc 28 d.cells _ rfl (by kernel_rfl) Cx.out Try.underlying28 (by rw [Cmd.cells_len d HTd.out]; exact cmd_size)) ?_
      simp only [Act.put, List.setIfInBounds_toArray, List.set_cons_succ, List.set_cons_zero]
      refine l_setS (o := ⟨none, _, _, _, _, _⟩) 28 n0 28 (Cmd.z 0).cells d.cells (.tmp 2) (.tmp 118) rfl rfl (by kernel_rfl) (by kernel_rfl) Bx.out (by rw [Cmd.cells_len d HTd.out]; exact cmd_size) (by rw [Cmd.cells_len d HTd.out]; rfl) (stc_one _ _) ?_
      intro wy b_y ky zy
      have kwy : Kept w wy := Kept.trans' kwx ky (by have := hn0.out; omega)
      simp only [Act.put]
      refine l_val (o := ⟨some 3, _, _, _, _, _⟩) (.bool true) rfl (exec_assign (.const (.bool true)) (.bool true) rfl (by kernel_rfl)) ?_
      simp only [Act.put, List.setIfInBounds_toArray, List.set_cons_succ, List.set_cons_zero]
      refine wpList_nil ?_
      go_wp2
      refine bodyPost_ret (results_cmd (p := 2) (q := 3) rfl _ _ n0 _ d.cells true rfl rfl b_y (Cmd.cells_len d HTd.out)) rfl ?_
      refine ⟨?_, kwy⟩
      rw [HG.out]
      rfl

set_option maxRecDepth 100000 in
set_option maxHeartbeats 6400000 in
theorem getc_d (v : Value) (xs : List UInt8) (s0 : RS) (HS : Hid (s0 = RS.new xs)) (w : World) (hv : Bytes w v xs) (hl : xs.length ≤ 1000) (d1 : ((s0.kind : Int) == 1) = false) (d2 : ((s0.kind : Int) == 2) = false) (d3 : ((s0.kind : Int) == 3) = false) (d4 : ((s0.kind : Int) == 4) = false) (d5 : ((s0.kind : Int) == 5) = false) (d6 : ((s0.kind : Int) == 6) = false) (d9 : ((s0.kind : Int) == 9) = false) : Calls Try.prog 19 #[v] w (GotIn w xs) := by
  obtain ⟨A, L, c, rfl, hL, hx, h1, hcm_, h3⟩ := hv
  have hcm : Hid (c ≤ maxLen) := hcm_
  have HX := Lib.hid hx
  have HO0 : Hid s0.ok := by rw [HS.out]; exact ⟨Nat.zero_le _, by show xs.length ≤ _; omega⟩
  have hA : Hid (∀ ad, A = some ad → xs ≠ [] → ad.block < w.heap.size) := fun ad e hn => R8.lt (by rw [← e]; exact HX.out) hn
  have hLc : Hid (L ≤ c) := h1
  have kw : Kept w w := Kept.refl w
  clear hx h1 h3 hl hcm_
  obtain ⟨k0, hk0⟩ : ∃ k0, k0 = s0.kind := ⟨_, rfl⟩
  rw [← hk0] at d1 d2 d3 d4 d5 d6 d9
  have HK := Lib.hid hk0
  clear hk0
  go_enter Try.func19, Try.ntmps19
  go_upto_region 0 with fail
  refine wp_region_lit ?_
  refine l_alloc (o := ⟨some 2, _, _, _, _, _⟩) 28 (Cmd.z 0).cells rfl rfl cmd_zero ?_
  intro wa ba za ka
  simp only [Act.put, List.setIfInBounds_toArray, List.set_cons_succ, List.set_cons_zero]
  refine l_val (o := ⟨some 3, _, _, _, _, _⟩) (.bool false) rfl (exec_assign (.const (.bool false)) (.bool false) rfl (by kernel_rfl)) ?_
  simp only [Act.put, List.setIfInBounds_toArray, List.set_cons_succ, List.set_cons_zero]
  refine wpList_nil ?_
  obtain ⟨n0, hn⟩ : ∃ n0, n0 = w.heap.size := ⟨_, rfl⟩
  rw [← hn] at ba ⊢
  have hn0 : Hid (w.heap.size ≤ n0) := by show _ ≤ _; omega
  have hl0 : Hid (n0 < wa.heap.size) := by show _ < _; omega
  have Ba : Hid (Blk wa n0 28 (Cmd.z 0).cells) := ba
  clear hn ba za
  go_upto_region 1 with fail
  refine wp_region_lit ?_
  refine l_val (o := ⟨some 6, _, _, _, _, _⟩) (.slice A L c) rfl (exec_move (.tmp 0) (.slice A L c) rfl (by kernel_rfl)) ?_
  simp only [Act.put, List.setIfInBounds_toArray, List.set_cons_succ, List.set_cons_zero]
  refine l_val (o := ⟨some 7, _, _, _, _, _⟩) (.agg #[.slice A L c, .int .i64 0, .bool false]) rfl (exec_build 58 _ [.slice A L c, .int .i64 0, .bool false] rfl (by kernel_rfl)) ?_
  simp only [Act.put, List.setIfInBounds_toArray, List.set_cons_succ, List.set_cons_zero]
  refine l_new (o := ⟨some 8, _, _, _, _, _⟩) (.pointer (some ⟨wa.heap.size, 0, none⟩)) (wa.alloc (.cells ([.slice A L c, .int .i64 0, .bool false] : List Value).toArray 58)) rfl (exec_box 58 (.tmp 7) [.slice A L c, .int .i64 0, .bool false] rfl (by kernel_rfl)) ?_
  simp only [Act.put, List.setIfInBounds_toArray, List.set_cons_succ, List.set_cons_zero]
  refine l_val (o := ⟨some 4, _, _, _, _, _⟩) (.pointer (some ⟨wa.heap.size, 0, none⟩)) rfl (exec_assign (.tmp 8) (.pointer (some ⟨wa.heap.size, 0, none⟩)) rfl (by kernel_rfl)) ?_
  simp only [Act.put, List.setIfInBounds_toArray, List.set_cons_succ, List.set_cons_zero]
  refine wpList_nil ?_
  have k0_ : Kept wa (wa.alloc (.cells ([.slice A L c, .int .i64 0, .bool false] : List Value).toArray 58)) := (Keep.refl _ wa).alloc _
  have b0 := Blk.new wa 58 [.slice A L c, .int .i64 0, .bool false]
  generalize wa.alloc (.cells ([.slice A L c, .int .i64 0, .bool false] : List Value).toArray 58) = w0 at k0_ b0 ⊢
  obtain ⟨g, hg⟩ : ∃ g, g = wa.heap.size := ⟨_, rfl⟩
  rw [← hg] at b0 ⊢
  have hgn : Hid (n0 < g) := by show _ < _; have := hl0.out; omega
  have hbig : Hid (w.heap.size ≤ g) := by show _ ≤ _; have := hgn.out; have := hn0.out; omega
  have kw0 := (kw.trans ka).trans k0_
  have Bn00 := Lib.hid (Ba.out.kept k0_)
  have HR0 : Hid (FRd w0 g A L c s0) := by
    rw [HS.out]
    exact ⟨hL, b0, (HX.out.kept ka).kept k0_, fun ad e hn => by have := hA.out ad e hn; have := hbig.out; omega, hLc.out⟩
  have HX0 : Hid (s0.xs = xs) := by rw [HS.out]; rfl
  clear hg b0 k0_ ka kw hl0 Ba
  go_upto_region 2 with fail
  refine wp_region_lit ?_
  refine l_val (o := ⟨some 9, _, _, _, _, _⟩) (.pointer (some ⟨g, 0, none⟩)) rfl (exec_move (.tmp 4) (.pointer (some ⟨g, 0, none⟩)) rfl (by kernel_rfl)) ?_
  simp only [Act.put, List.setIfInBounds_toArray, List.set_cons_succ, List.set_cons_zero]
  refine l_call (o := ⟨some 10, _, _, _, _, _⟩) 34 #[.pointer (some ⟨g, 0, none⟩)] rfl (exec_call 34 _ [.tmp 9] _ _ Try.func34 (by kernel_rfl) (by kernel_rfl) rfl (by kernel_rfl) _) ?_
  refine (fdU8 g L c A s0 w0 HR0 HO0 hcm).mono ?_
  rintro e w1 ⟨x1, s1, Hx1, Hs1, HY1, rfl, HR1, HO1, k1⟩
  have HX1 := Lib.hid (HY1.out.trans HX0.out)
  have Bn01 := Lib.hid (Bn00.out.keep k1 (by have := hn0.out; have := hgn.out; omega))
  have kw1 : Kept w w1 := Keep.trans kw0 k1 (fun i hi h => by have := hbig.out; omega)
  clear kw0
  refine ⟨_, rfl, ?_⟩
  simp only [Act.put, List.setIfInBounds_toArray, List.set_cons_succ, List.set_cons_zero]
  refine l_val (o := ⟨some 11, _, _, _, _, _⟩) ((Cmd.z x1).v) rfl (exec_build 28 _ (Cmd.z x1).cells rfl (by kernel_rfl)) ?_
  simp only [Act.put, List.setIfInBounds_toArray, List.set_cons_succ, List.set_cons_zero]
  refine l_alloc (o := ⟨some 5, _, _, _, _, _⟩) 28 (Cmd.z 0).cells rfl rfl cmd_zero ?_
  intro w2 b2 z2 k2
  obtain ⟨gc, hgc_⟩ : ∃ gc, gc = w1.heap.size := ⟨_, rfl⟩
  rw [← hgc_] at b2 ⊢
  have hgg : Hid (n0 < g ∧ g < gc) := ⟨hgn.out, by have := HR1.out.2.1.lt; omega⟩
  have hnc : Hid (n0 < gc) := by show _ < _; have := hgg.out; omega
  have hgc : Hid (w.heap.size ≤ gc) := by show _ ≤ _; have := hnc.out; have := hn0.out; omega
  clear hgc_ hgn
  have hgn := hgg
  clear hgg
  have Bn02 := Lib.hid (Bn01.out.kept k2)
  have HR2 := Lib.hid (HR1.out.kept k2)
  have kw2 : Kept w w2 := Keep.kept kw1 k2
  clear kw1
  simp only [Act.put, List.setIfInBounds_toArray, List.set_cons_succ, List.set_cons_zero]
  refine l_setS (o := ⟨none, _, _, _, _, _⟩) 28 gc 28 (Cmd.z 0).cells (Cmd.z x1).cells (.tmp 5) (.tmp 11) rfl rfl (by kernel_rfl) (by kernel_rfl) b2 cmd_size rfl (stc_one _ _) ?_
  intro w3 b3 k3 z3
  have Bgc3 : Hid (Blk w3 gc 28 (stc (Cmd.z x1).l zeros32)) := b3
  have Bn03 := Lib.hid (Bn02.out.keep k3 (by have := hn0.out; have := hgc.out; have := hnc.out; omega))
  have HR3 := Lib.hid (HR2.out.off k3 (by have := hbig.out; have := hgc.out; have := hgn.out; omega) HX1.out (fun ad e hn => by have := hA.out ad e hn; have := hgc.out; omega))
  have kw3 : Kept w w3 := Keep.trans kw2 k3 (fun i hi h => by have := hgc.out; omega)
  clear kw2
  simp only [Act.put]
  refine wpList_nil ?_
  obtain rfl : x1 = k0 := Hx1.out.trans HK.out.symm
  have hc : w3.cell? ⟨gc, 0, none⟩ = some (.int .i64 x1) := Bgc3.out.fld 0 _ rfl
  go_upto_region 19 with fail
  have f1 := Hs1.out
  have hcmd : stc (Cmd.z x1).l zeros32 = s0.cmd.cells ∧ s0.rest = s1 := by
    unfold RS.cmd RS.rest
    subst f1
    have hk := Hx1.out
    have hk2 : s0.kind = x1 := hk.symm
    rw [hk2]
    have E1 : x1 ≠ 1 := by simpa using d1
    have E2 : x1 ≠ 2 := by simpa using d2
    have E3 : x1 ≠ 3 := by simpa using d3
    have E4 : x1 ≠ 4 := by simpa using d4
    have E5 : x1 ≠ 5 := by simpa using d5
    have E6 : x1 ≠ 6 := by simpa using d6
    have E9 : x1 ≠ 9 := by simpa using d9
    have hp : plan x1 = [] := by simp [plan, E1, E2, E3, E4, E5, E6, E9]
    rw [hp]
    have ho : Cmd.of x1 [] = Cmd.z x1 := by simp [Cmd.of, E1, E2, E3, E4, E5, E6, E9]
    exact ⟨by show _ = (Cmd.of x1 []).cells; rw [ho]; rfl, rfl⟩
  obtain ⟨d, hd⟩ : ∃ d, d = s0.cmd := ⟨_, rfl⟩
  have HC : Hid (Blk w3 gc 28 d.cells) := by rw [hd, ← hcmd.1]; exact Bgc3.out
  have HTd : Hid (d.tag.length = 32) := by rw [hd]; exact RS.cmd_tag _
  have HRf : Hid (FRd w3 g A L c s0.rest) := by rw [hcmd.2]; exact HR3.out
  have Hd := Lib.hid hd
  clear hd hcmd Bgc3 HR3 f1
  cases hF : s0.rest.fin with
  | false =>
    have HG : Hid (getB xs = (Cmd.z 0, false)) := by show _ = _; unfold getB; rw [← HS.out, hF]; rfl
    refine wp_text 7 [.eq (.pointer (some ⟨g, 0, none⟩)), .eq (.bool false), .eq (.bool true), .eq (.bool true), .eq undef, .eq undef, .eq undef] rfl (by kernel_rfl) ?_ ?_
    · refine fsteps_cons 1 rfl (fun a u hE hD hk => f_val (o := ⟨some 109, _, _, _, _, _⟩) (.pointer (some ⟨g, 0, none⟩)) rfl (wanted_none rfl _) (exec_move (.tmp 4) (.pointer (some ⟨g, 0, none⟩)) rfl (hE 4 (.pointer (some ⟨g, 0, none⟩)) (by kernel_rfl) (by kernel_rfl))) rfl) ?_
      refine fsteps_cons 2 rfl (fun a u hE hD hk => f_call (o := ⟨some 110, _, _, _, _, _⟩) 37 #[.pointer (some ⟨g, 0, none⟩)] rfl (wanted_none rfl _) (exec_call 37 _ [.tmp 109] _ [.pointer (some ⟨g, 0, none⟩)] Try.func37 (by kernel_rfl) (by kernel_rfl) rfl (show [a.eval (.tmp 109)] = [.pointer (some ⟨g, 0, none⟩)] from (by rw [show a.eval (.tmp 109) = .pointer (some ⟨g, 0, none⟩) from (hD 0 109 (by kernel_rfl))] <;> rfl)) u) ((gend_any g L c A s0.rest u (HRf.out.kept hk)).mono (fun e w' ⟨h1, k, h2⟩ => ⟨_, h1, by rw [hF]; rfl, by rw [h2]; exact kept_drewN u k⟩))) ?_
      refine fsteps_cons 3 rfl (fun a u hE hD hk => f_val (o := ⟨some 111, _, _, _, _, _⟩) (.bool true) rfl (wanted_none rfl _) (exec_not _ (.tmp 110) false rfl (hD 1 110 (by kernel_rfl))) rfl) ?_
      refine fsteps_cons 4 rfl (fun a u hE hD hk => f_val (o := ⟨some 112, _, _, _, _, _⟩) (.bool true) rfl (wanted_none rfl _) (exec_move (.tmp 111) (.bool true) rfl (hD 2 111 (by kernel_rfl))) rfl) ?_
      refine fsteps_cons 5 rfl (fun a u hE hD hk => f_skip (o := ⟨some 113, _, _, _, _, _⟩) rfl (wanted_at (b := false) true rfl rfl (hD 3 112 (by kernel_rfl))) rfl) ?_
      refine fsteps_cons 6 rfl (fun a u hE hD hk => f_skip (o := ⟨some 114, _, _, _, _, _⟩) rfl (wanted_at (b := false) true rfl rfl (hD 3 112 (by kernel_rfl))) rfl) ?_
      refine fsteps_cons 7 rfl (fun a u hE hD hk => f_skip (o := ⟨some 115, _, _, _, _, _⟩) rfl (wanted_at (b := false) true rfl rfl (hD 3 112 (by kernel_rfl))) rfl) ?_
      exact fsteps_nil
    intro gv wx hV kx
    rw [show dstsOf _ 7 = [109, 110, 111, 112, 113, 114, 115] by kernel_rfl]
    simp only [List.foldl_cons, List.foldl_nil, List.setIfInBounds_toArray, List.set_cons_succ, List.set_cons_zero, List.drop_succ_cons, List.drop_zero]
    rw [show gv 112 = .bool true from hV 3 112 (by kernel_rfl)]
    rw [show gv 115 = undef from hV 6 115 (by kernel_rfl)]
    clear hV
    have kwx := kw3.trans kx
    have Bx := Lib.hid (Bn03.out.kept kx)
    have Cx := Lib.hid (HC.out.kept kx)
    go_upto_region 20 with fail
    refine wp_region_lit ?_
    refine l_val (o := ⟨some 117, _, _, _, _, _⟩) ((Cmd.z 0).v) rfl (exec_build 28 [] (Cmd.z 0).cells rfl (by kernel_rfl)) ?_
    simp only [Act.put, List.setIfInBounds_toArray, List.set_cons_succ, List.set_cons_zero]
    refine l_setS (o := ⟨none, _, _, _, _, _⟩) 28 n0 28 (Cmd.z 0).cells (Cmd.z 0).cells (.tmp 2) (.tmp 117) rfl rfl (by kernel_rfl) (by kernel_rfl) Bx.out cmd_size rfl (stc_one _ _) ?_
    intro wy b_y ky zy
    have kwy : Kept w wy := Kept.trans' kwx ky (by have := hn0.out; omega)
    simp only [Act.put]
    refine l_val (o := ⟨some 3, _, _, _, _, _⟩) (.bool false) rfl (exec_assign (.const (.bool false)) (.bool false) rfl (by kernel_rfl)) ?_
    simp only [Act.put, List.setIfInBounds_toArray, List.set_cons_succ, List.set_cons_zero]
    refine wpList_nil ?_
    go_wp2
    refine bodyPost_ret (results_cmd (p := 2) (q := 3) rfl _ _ n0 _ (Cmd.z 0).cells false rfl rfl b_y rfl) rfl ?_
    refine ⟨?_, kwy⟩
    rw [HG.out]
    rfl
  | true =>
    cases hR : d.right with
    | false =>
      have HG : Hid (getB xs = (Cmd.z 0, false)) := by show _ = _; unfold getB; rw [← HS.out, hF, ← Hd.out, hR]; rfl
      refine wp_text 7 [.eq (.pointer (some ⟨g, 0, none⟩)), .eq (.bool true), .eq (.bool false), .eq (.bool false), .eq (d.v), .eq (.bool false), .eq (.bool true)] rfl (by kernel_rfl) ?_ ?_
      · refine fsteps_cons 1 rfl (fun a u hE hD hk => f_val (o := ⟨some 109, _, _, _, _, _⟩) (.pointer (some ⟨g, 0, none⟩)) rfl (wanted_none rfl _) (exec_move (.tmp 4) (.pointer (some ⟨g, 0, none⟩)) rfl (hE 4 (.pointer (some ⟨g, 0, none⟩)) (by kernel_rfl) (by kernel_rfl))) rfl) ?_
        refine fsteps_cons 2 rfl (fun a u hE hD hk => f_call (o := ⟨some 110, _, _, _, _, _⟩) 37 #[.pointer (some ⟨g, 0, none⟩)] rfl (wanted_none rfl _) (exec_call 37 _ [.tmp 109] _ [.pointer (some ⟨g, 0, none⟩)] Try.func37 (by kernel_rfl) (by kernel_rfl) rfl (show [a.eval (.tmp 109)] = [.pointer (some ⟨g, 0, none⟩)] from (by rw [show a.eval (.tmp 109) = .pointer (some ⟨g, 0, none⟩) from (hD 0 109 (by kernel_rfl))] <;> rfl)) u) ((gend_any g L c A s0.rest u (HRf.out.kept hk)).mono (fun e w' ⟨h1, k, h2⟩ => ⟨_, h1, by rw [hF]; rfl, by rw [h2]; exact kept_drewN u k⟩))) ?_
        refine fsteps_cons 3 rfl (fun a u hE hD hk => f_val (o := ⟨some 111, _, _, _, _, _⟩) (.bool false) rfl (wanted_none rfl _) (exec_not _ (.tmp 110) true rfl (hD 1 110 (by kernel_rfl))) rfl) ?_
        refine fsteps_cons 4 rfl (fun a u hE hD hk => f_val (o := ⟨some 112, _, _, _, _, _⟩) (.bool false) rfl (wanted_none rfl _) (exec_move (.tmp 111) (.bool false) rfl (hD 2 111 (by kernel_rfl))) rfl) ?_
        refine fsteps_cons 5 rfl (fun a u hE hD hk => f_val (o := ⟨some 113, _, _, _, _, _⟩) (d.v) rfl (wanted_at (b := false) false rfl rfl (hD 3 112 (by kernel_rfl))) (exec_loadS 28 (.tmp 5) (gc) _ d.cells _ rfl (hE 5 (.pointer (some ⟨gc, 0, none⟩)) (by kernel_rfl) (by kernel_rfl)) (HC.out.kept hk) Try.underlying28 (by rw [Cmd.cells_len _ HTd.out]; exact cmd_size)) rfl) ?_
        refine fsteps_cons 6 rfl (fun a u hE hD hk => f_call (o := ⟨some 114, _, _, _, _, _⟩) 14 #[d.v] rfl (wanted_at (b := false) false rfl rfl (hD 3 112 (by kernel_rfl))) (exec_call 14 _ [.tmp 113] _ [d.v] Try.func14 (by kernel_rfl) (by kernel_rfl) rfl (show [a.eval (.tmp 113)] = [d.v] from (by rw [show a.eval (.tmp 113) = d.v from (hD 4 113 (by kernel_rfl))] <;> rfl)) u) (right_is d false u HTd hR)) ?_
        refine fsteps_cons 7 rfl (fun a u hE hD hk => f_val (o := ⟨some 115, _, _, _, _, _⟩) (.bool true) rfl (wanted_at (b := false) false rfl rfl (hD 3 112 (by kernel_rfl))) (exec_not _ (.tmp 114) false rfl (hD 5 114 (by kernel_rfl))) rfl) ?_
        exact fsteps_nil
      intro gv wx hV kx
      rw [show dstsOf _ 7 = [109, 110, 111, 112, 113, 114, 115] by kernel_rfl]
      simp only [List.foldl_cons, List.foldl_nil, List.setIfInBounds_toArray, List.set_cons_succ, List.set_cons_zero, List.drop_succ_cons, List.drop_zero]
      rw [show gv 112 = .bool false from hV 3 112 (by kernel_rfl)]
      rw [show gv 115 = .bool true from hV 6 115 (by kernel_rfl)]
      clear hV
      have kwx := kw3.trans kx
      have Bx := Lib.hid (Bn03.out.kept kx)
      have Cx := Lib.hid (HC.out.kept kx)
      go_upto_region 20 with fail
      refine wp_region_lit ?_
      refine l_val (o := ⟨some 117, _, _, _, _, _⟩) ((Cmd.z 0).v) rfl (exec_build 28 [] (Cmd.z 0).cells rfl (by kernel_rfl)) ?_
      simp only [Act.put, List.setIfInBounds_toArray, List.set_cons_succ, List.set_cons_zero]
      refine l_setS (o := ⟨none, _, _, _, _, _⟩) 28 n0 28 (Cmd.z 0).cells (Cmd.z 0).cells (.tmp 2) (.tmp 117) rfl rfl (by kernel_rfl) (by kernel_rfl) Bx.out cmd_size rfl (stc_one _ _) ?_
      intro wy b_y ky zy
      have kwy : Kept w wy := Kept.trans' kwx ky (by have := hn0.out; omega)
      simp only [Act.put]
      refine l_val (o := ⟨some 3, _, _, _, _, _⟩) (.bool false) rfl (exec_assign (.const (.bool false)) (.bool false) rfl (by kernel_rfl)) ?_
      simp only [Act.put, List.setIfInBounds_toArray, List.set_cons_succ, List.set_cons_zero]
      refine wpList_nil ?_
      go_wp2
      refine bodyPost_ret (results_cmd (p := 2) (q := 3) rfl _ _ n0 _ (Cmd.z 0).cells false rfl rfl b_y rfl) rfl ?_
      refine ⟨?_, kwy⟩
      rw [HG.out]
      rfl
    | true =>
      have HG : Hid (getB xs = (d, true)) := by show _ = _; unfold getB; rw [← HS.out, hF, ← Hd.out, hR]; rfl
      refine wp_text 7 [.eq (.pointer (some ⟨g, 0, none⟩)), .eq (.bool true), .eq (.bool false), .eq (.bool false), .eq (d.v), .eq (.bool true), .eq (.bool false)] rfl (by kernel_rfl) ?_ ?_
      · refine fsteps_cons 1 rfl (fun a u hE hD hk => f_val (o := ⟨some 109, _, _, _, _, _⟩) (.pointer (some ⟨g, 0, none⟩)) rfl (wanted_none rfl _) (exec_move (.tmp 4) (.pointer (some ⟨g, 0, none⟩)) rfl (hE 4 (.pointer (some ⟨g, 0, none⟩)) (by kernel_rfl) (by kernel_rfl))) rfl) ?_
        refine fsteps_cons 2 rfl (fun a u hE hD hk => f_call (o := ⟨some 110, _, _, _, _, _⟩) 37 #[.pointer (some ⟨g, 0, none⟩)] rfl (wanted_none rfl _) (exec_call 37 _ [.tmp 109] _ [.pointer (some ⟨g, 0, none⟩)] Try.func37 (by kernel_rfl) (by kernel_rfl) rfl (show [a.eval (.tmp 109)] = [.pointer (some ⟨g, 0, none⟩)] from (by rw [show a.eval (.tmp 109) = .pointer (some ⟨g, 0, none⟩) from (hD 0 109 (by kernel_rfl))] <;> rfl)) u) ((gend_any g L c A s0.rest u (HRf.out.kept hk)).mono (fun e w' ⟨h1, k, h2⟩ => ⟨_, h1, by rw [hF]; rfl, by rw [h2]; exact kept_drewN u k⟩))) ?_
        refine fsteps_cons 3 rfl (fun a u hE hD hk => f_val (o := ⟨some 111, _, _, _, _, _⟩) (.bool false) rfl (wanted_none rfl _) (exec_not _ (.tmp 110) true rfl (hD 1 110 (by kernel_rfl))) rfl) ?_
        refine fsteps_cons 4 rfl (fun a u hE hD hk => f_val (o := ⟨some 112, _, _, _, _, _⟩) (.bool false) rfl (wanted_none rfl _) (exec_move (.tmp 111) (.bool false) rfl (hD 2 111 (by kernel_rfl))) rfl) ?_
        refine fsteps_cons 5 rfl (fun a u hE hD hk => f_val (o := ⟨some 113, _, _, _, _, _⟩) (d.v) rfl (wanted_at (b := false) false rfl rfl (hD 3 112 (by kernel_rfl))) (exec_loadS 28 (.tmp 5) (gc) _ d.cells _ rfl (hE 5 (.pointer (some ⟨gc, 0, none⟩)) (by kernel_rfl) (by kernel_rfl)) (HC.out.kept hk) Try.underlying28 (by rw [Cmd.cells_len _ HTd.out]; exact cmd_size)) rfl) ?_
        refine fsteps_cons 6 rfl (fun a u hE hD hk => f_call (o := ⟨some 114, _, _, _, _, _⟩) 14 #[d.v] rfl (wanted_at (b := false) false rfl rfl (hD 3 112 (by kernel_rfl))) (exec_call 14 _ [.tmp 113] _ [d.v] Try.func14 (by kernel_rfl) (by kernel_rfl) rfl (show [a.eval (.tmp 113)] = [d.v] from (by rw [show a.eval (.tmp 113) = d.v from (hD 4 113 (by kernel_rfl))] <;> rfl)) u) (right_is d true u HTd hR)) ?_
        refine fsteps_cons 7 rfl (fun a u hE hD hk => f_val (o := ⟨some 115, _, _, _, _, _⟩) (.bool false) rfl (wanted_at (b := false) false rfl rfl (hD 3 112 (by kernel_rfl))) (exec_not _ (.tmp 114) true rfl (hD 5 114 (by kernel_rfl))) rfl) ?_
        exact fsteps_nil
      intro gv wx hV kx
      rw [show dstsOf _ 7 = [109, 110, 111, 112, 113, 114, 115] by kernel_rfl]
      simp only [List.foldl_cons, List.foldl_nil, List.setIfInBounds_toArray, List.set_cons_succ, List.set_cons_zero, List.drop_succ_cons, List.drop_zero]
      rw [show gv 112 = .bool false from hV 3 112 (by kernel_rfl)]
      rw [show gv 115 = .bool false from hV 6 115 (by kernel_rfl)]
      clear hV
      have kwx := kw3.trans kx
      have Bx := Lib.hid (Bn03.out.kept kx)
      have Cx := Lib.hid (HC.out.kept kx)
      go_upto_region 21 with fail
      refine wp_region_lit ?_
      refine l_val (o := ⟨some 118, _, _, _, _, _⟩) (d.v) rfl (exec_loadS 28 (.tmp 5) gc 28 d.cells _ rfl (by kernel_rfl) Cx.out Try.underlying28 (by rw [Cmd.cells_len d HTd.out]; exact cmd_size)) ?_
      simp only [Act.put, List.setIfInBounds_toArray, List.set_cons_succ, List.set_cons_zero]
      refine l_setS (o := ⟨none, _, _, _, _, _⟩) 28 n0 28 (Cmd.z 0).cells d.cells (.tmp 2) (.tmp 118) rfl rfl (by kernel_rfl) (by kernel_rfl) Bx.out (by rw [Cmd.cells_len d HTd.out]; exact cmd_size) (by rw [Cmd.cells_len d HTd.out]; rfl) (stc_one _ _) ?_
      intro wy b_y ky zy
      have kwy : Kept w wy := Kept.trans' kwx ky (by have := hn0.out; omega)
      simp only [Act.put]
      refine l_val (o := ⟨some 3, _, _, _, _, _⟩) (.bool true) rfl (exec_assign (.const (.bool true)) (.bool true) rfl (by kernel_rfl)) ?_
      simp only [Act.put, List.setIfInBounds_toArray, List.set_cons_succ, List.set_cons_zero]
      refine wpList_nil ?_
      go_wp2
      refine bodyPost_ret (results_cmd (p := 2) (q := 3) rfl _ _ n0 _ d.cells true rfl rfl b_y (Cmd.cells_len d HTd.out)) rfl ?_
      refine ⟨?_, kwy⟩
      rw [HG.out]
      rfl

theorem getc_any (v : Value) (xs : List UInt8) (w : World) (hv : Bytes w v xs) (hl : xs.length ≤ 1000) : Calls Try.prog 19 #[v] w (GotIn w xs) := by
  by_cases h1 : (RS.new xs).kind = 1
  · exact getc_1 v xs _ rfl w hv hl h1
  by_cases h2 : (RS.new xs).kind = 2
  · exact getc_2 v xs _ rfl w hv hl h2
  by_cases h3 : (RS.new xs).kind = 3
  · exact getc_3 v xs _ rfl w hv hl h3
  by_cases h4 : (RS.new xs).kind = 4
  · exact getc_4 v xs _ rfl w hv hl h4
  by_cases h5 : (RS.new xs).kind = 5
  · exact getc_5 v xs _ rfl w hv hl h5
  by_cases h6 : (RS.new xs).kind = 6
  · exact getc_6 v xs _ rfl w hv hl h6
  by_cases h9 : (RS.new xs).kind = 9
  · exact getc_9 v xs _ rfl w hv hl h9
  exact getc_d v xs _ rfl w hv hl (by simpa using h1) (by simpa using h2) (by simpa using h3) (by simpa using h4) (by simpa using h5) (by simpa using h6) (by simpa using h9)
end Go.Proofs.Ytdmeiffofmagjaa
