/-
 Two rows of like outcomes beside each other. No condition.
-/
import Derived.Test.YtklohceombpleaaQA05
import Derived.Deep.DeepCutAuto
set_option linter.unusedVariables false
namespace Go.Proofs.Ytklohceombpleaa
open Go.RowKit
set_option maxRecDepth 100000
theorem outs_at {w : World} {base : Nat} {G : Nat → Prop} {v : Value} {L : List Ot} {Z : List (Ot × Value)} (h : Outs w base G v L Z) {i : Nat} {x : Ot} (hx : L[i]? = some x) : ∃ y, Z[i]? = some (x, y) := by
 rw [← h.eq, List.getElem?_map] at hx
 cases e : Z[i]? with
 | none => rw [e] at hx; cases hx
 | some z =>
  rw [e] at hx
  injection hx with hx
  obtain ⟨a, b⟩ := z
  exact ⟨b, by rw [← hx]⟩
set_option maxRecDepth 100000 in
set_option maxHeartbeats 1600000 in
theorem kouts_any (va vb : Value) (L : List Ot) (Za Zb : List (Ot × Value)) (w : World) (ba bb : Nat) (Ga Gb : Nat → Prop) (ha : Outs w ba Ga va L Za) (hb : Outs w bb Gb vb L Zb) (hl : ∀ x ∈ L, x.c.f.length ≤ 2000000) (hL : L.length ≤ 1000000) : Gives 25 #[va, vb] w (.eq (.bool true)) := by
 refine gives_eq ?_
 obtain ⟨n, hn⟩ : ∃ n, L.length = n := ⟨_, rfl⟩
 have HN := Lib.hid hn
 have HA := Lib.hid ha
 have HB := Lib.hid hb
 have HSA : Hid (Sl w 54 15 va n (outc Za)) := by show Sl _ _ _ _ _ _; rw [← hn, ← ha.len]; exact ha.sl
 have HSB : Hid (Sl w 54 15 vb n (outc Zb)) := by show Sl _ _ _ _ _ _; rw [← hn, ← hb.len]; exact hb.sl
 have HF := Lib.hid hl
 rw [hn] at hL
 clear ha hb hl hn
 go_enter Try.func25, Try.ntmps25
 go_upto_region 1 with fail
 refine wE 5 [va, iV (n : Int), vb, iV (n : Int), bV false] [6,7,8,9,10] ?_ ?_
 ·refine mE 1 0 ?_
  refine sW 2 rfl (fun a u E D hk=>exec_lenS _ slC _ _ _ _ rfl (dD D 0) (HSA.out.kept hk)) ?_
  refine mE 3 1 ?_
  refine sW 4 rfl (fun a u E D hk=>exec_lenS _ slC _ _ _ _ rfl (dD D 2) (HSB.out.kept hk)) ?_
  refine aS 5 rfl (fun a u E D hk=>exec_nen rfl (dD D 1) (dD D 3)) (by simp) ?_
  exact fz
 intro w0 k0
 simp only [F8]
 go_upto_region 3 with fail
 refine wE 3 [va, iV (n : Int), iV 0] [11,12,13] ?_ ?_
 ·refine mE 1 0 ?_
  refine sW 2 rfl (fun a u E D hk=>exec_lenS _ slC _ _ _ _ rfl (dD D 0) ((HSA.out.kept k0).kept hk)) ?_
  refine sW 3 rfl (fun a u E D hk=>exec_move _ _ rfl rfl) ?_
  exact fz
 intro w1 k1
 simp only [F8]
 have kw1 := k0.trans k1
 clear k0 k1
 go_wp2_with fail
 go_loopw [13] (fun q wr => ∃ (i : Nat), i ≤ n ∧ q = .int .i64 (i : Int) ∧ Kept w wr) (fun q _ => n - (intOf q).toNat)
 case atStart => exact ⟨0, Nat.zero_le _, rfl, kw1⟩
 case round =>
  obtain ⟨i, hi, rfl, hkr⟩ := hrel
  by_cases hlt : i < n
  ·obtain ⟨x, hx⟩ : ∃ x, L[i]? = some x := ⟨L[i]'(by rw [HN.out]; exact hlt), List.getElem?_eq_getElem (by rw [HN.out]; exact hlt)⟩
   obtain ⟨ya, hya⟩ := outs_at HA.out hx
   obtain ⟨yb, hyb⟩ := outs_at HB.out hx
   have hxl := HF.out x (List.mem_of_getElem? hx)
   obtain ⟨ga, oa, ca, rfl⟩ := HSA.out.some_ (by omega)
   obtain ⟨gb, ob, cb, rfl⟩ := HSB.out.some_ (by omega)
   have HEA : Hid (wr.rangeAt ga (oa + i * 15) (x.cells ya)) := range_kept (HSA.out.rngC i (x, ya) hya) hkr
   have HEB : Hid (wr.rangeAt gb (ob + i * 15) (x.cells yb)) := range_kept (HSB.out.rngC i (x, yb) hyb) hkr
   have HFA := Lib.hid ((HA.out.fl (x, ya) (List.mem_of_getElem? hya)).kept hkr)
   have HFB := Lib.hid ((HB.out.fl (x, yb) (List.mem_of_getElem? hyb)).kept hkr)
   clear hx hya hyb
   go_upto_region 5 with fail
   refine wE 2 [iV (i : Int), iV (i : Int)] [15,5] ?_ ?_
   ·refine mE 1 13 ?_
    refine mD 2 15 0 ?_
    exact fz
   intro wa ka
   simp only [F8]
   have HEA1 := Lib.hid (range_kept HEA.out ka)
   have HEB1 := Lib.hid (range_kept HEB.out ka)
   have HFA1 := Lib.hid (HFA.out.kept ka)
   have HFB1 := Lib.hid (HFB.out.kept ka)
   go_upto_region 6 with fail
   refine wG 10 [.slice (some ⟨ga, oa, none⟩) n ca, iV (i : Int), pV ga (oa + i * 15), x.v ya, .slice (some ⟨gb, ob, none⟩) n cb, iV (i : Int), pV gb (ob + i * 15), x.v yb, bV true, bV false] [16,17,18,19,20,21,22,23,24,25] ?_ ?_
   ·refine mE 1 0 ?_
    refine mE 2 5 ?_
    refine sW 3 rfl (fun a u E D hk=>exec_ixo slC _ _ (ga) (oa) n ca i (oa + i * 15) ((i : Int)) rfl (dD D 0) (dD D 1) (by first | rfl | omega) (hlt) (by first | rfl | omega)) ?_
    refine sD 4 18 2 (x.cells ya) Try.underlying54 (fun u hk=>range_kept (HEA1.out) hk) (by rw [Ot.len15]; exact szC) ?_
    refine mE 5 1 ?_
    refine mE 6 5 ?_
    refine sW 7 rfl (fun a u E D hk=>exec_ixo slC _ _ (gb) (ob) n cb i (ob + i * 15) ((i : Int)) rfl (dD D 4) (dD D 5) (by first | rfl | omega) (hlt) (by first | rfl | omega)) ?_
    refine sD 8 22 6 (x.cells yb) Try.underlying54 (fun u hk=>range_kept (HEB1.out) hk) (by rw [Ot.len15]; exact szC) ?_
    refine cS 9 43 [x.v ya, x.v yb] rfl Try.func43 rfl (fun a u E D hk=>⟨ll (dD D 3) (ll (dD D 7) rfl), koutT_any x ya yb u (HFA1.out.kept hk) (HFB1.out.kept hk) hxl⟩) ?_
    refine sW 10 rfl (fun a u E D hk=>exec_not _ _ true rfl (dD D 8)) ?_
    exact fz
   intro wb kb
   simp only [F8]
   have kk := (hkr.trans ka).trans kb
   clear ka kb hkr
   go_wp2
   exact ⟨⟨i + 1, by omega, by go_num, kk⟩, by simp [intOf]; omega⟩
  ·go_wp2
   go_ret
   exact ⟨rfl, hkr⟩
end Go.Proofs.Ytklohceombpleaa
