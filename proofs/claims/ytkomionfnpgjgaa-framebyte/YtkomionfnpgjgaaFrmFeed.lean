/-
  The contract of package frame's Feed: what comes out is what 'cut' says of the bytes that were left and those fed. Conditions: lengths far below 2^47.
-/
import Derived.Test.YtkomionfnpgjgaaFrmDf
import Derived.Test.YtkomionfnpgjgaaSlc
namespace Go.Proofs.Ytkomionfnpgjgaa
open Go.RowKit
set_option linter.unusedVariables false

/-- what Feed hands back, and leaves -/
def FedIn (t : TypeId) (w w' : World) (g : Nat) (v : Value) (L : List (List UInt8)) (bad : Bool) (left : List UInt8) : Prop :=
  ∃ A c vs, v = .slice A L.length c ∧ OwnG w' w.heap.size 26 1 A L.length c vs ∧ RowsE w' w.heap.size vs L ∧ DF t w' g bad left ∧ Keep (· = g) w w'
/-- on the way: the bodies so far, and what is still to be looked at -/
theorem cut_step {s r : List UInt8} {B : List (List UInt8)} (h : cut s = (B ++ (cut r).1, (cut r).2.1, (cut r).2.2)) (hb : ¬ (hdOf r < 1 ∨ 256 < hdOf r)) (hl : 2 + hdOf r ≤ r.length) :
    cut s = ((B ++ [(r.drop 2).take (hdOf r)]) ++ (cut (r.drop (2 + hdOf r))).1, (cut (r.drop (2 + hdOf r))).2.1, (cut (r.drop (2 + hdOf r))).2.2) := by
  rw [h, cut_go hb hl]
  simp
theorem cut_stop {s r r' : List UInt8} {B : List (List UInt8)} {x : Bool} (h : cut s = (B ++ (cut r).1, (cut r).2.1, (cut r).2.2)) (hr : cut r = ([], r', x)) : cut s = (B, r', x) := by
  rw [h, hr, List.append_nil]
theorem rows_len {w : World} {base k c : Nat} {A : Option Addr} {vs : List Value} {B : List (List UInt8)} (h : OwnG w base 26 1 A k c vs) (h' : RowsE w base vs B) : B.length = k := by
  have := h.len
  rw [h'.1] at this
  omega
/-- a row of slices and a block of another type are two -/
theorem own_type {t : TypeId} {w : World} {base g k c : Nat} {A : Option Addr} {vs cs : List Value} (hg : OwnG w base 26 1 A k c vs) (hb : Blk w g t cs) (ht : t ≠ 26) : ∀ ad, A = some ad → ¬ ad.block = g := by
  intro ad h1 h2
  obtain ⟨g', rfl, _, _⟩ := hg.at_ ad h1
  have h2 : g' = g := h2
  subst h2
  rcases hg.2 with ⟨e, _⟩ | ⟨g0, cap, cur, e, _, hh, _⟩
  · rw [h1] at e
    cases e
  · rw [h1] at e
    injection e with e
    injection e with e
    injection e with e
    subst e
    unfold Blk at hb
    rw [hb] at hh
    injection hh with hh
    injection hh with _ hh _
    exact ht hh
theorem fed_of {t : TypeId} {w wx w' : World} {g k c : Nat} {A : Option Addr} {vs cs : List Value} {B : List (List UInt8)} {bad : Bool} {left : List UInt8} (kx : Kept w wx) (kg : Keep (· = g) wx w') (hb : Blk wx g t cs) (ht : t ≠ 5 ∧ t ≠ 26)
    (hg : OwnG wx w.heap.size 26 1 A k c vs) (he : RowsE wx w.heap.size vs B) (hD : DF t w' g bad left) : FedIn t w w' g (.slice A k c) B bad left := by
  have e := rows_len hg he
  subst e
  refine ⟨A, c, vs, rfl, hg.keep kg (fun ad h1 h2 => ?_), he.keep kg (fun _ _ _ hr => row_ne hb hr ht.1), hD, Keep.trans (Keep.mono kx (fun _ _ h => h.elim)) kg (fun _ _ h => h)⟩
  exact own_type hg hb ht.2 ad h1 h2

set_option maxRecDepth 100000 in
set_option maxHeartbeats 1600000 in
theorem feed_good (g : Nat) (left b : List UInt8) (v : Value) (w : World) (h : DF 45 w g false left) (hv : Bytes w v b) (h1 : left.length ≤ 400000) (h2 : b.length ≤ 400000) :
    Calls Try.prog 10 #[.pointer (some ⟨g, 0, none⟩), v] w fun e w' => ∃ u, e = .returned u ∧ FedIn 45 w w' g u (cut (left ++ b)).1 (cut (left ++ b)).2.2 (cut (left ++ b)).2.1 := by
  obtain ⟨A0, n0, c0, hb, ho⟩ := h
  obtain ⟨V, nb, cb, rfl, hlb, hV, hnb, hcb, hVn⟩ := hv
  have q0 := hb.cell 0
  have q1 := hb.cell 1
  simp only [List.getElem?_cons_zero, List.getElem?_cons_succ] at q0 q1
  have hl0 : Hid (left.length = n0) := ho.len
  have hn0 : n0 ≤ 400000 := by have := hl0.out; omega
  have hnb' : nb ≤ 400000 := by have := hlb.out; omega
  obtain ⟨s, hs⟩ : ∃ s, s = left ++ b := ⟨_, rfl⟩
  have hsl : Hid (s.length = n0 + nb) := by show _ = _; rw [hs, List.length_append, hl0.out, hlb.out]
  have HS := Lib.hid hs
  have HB := Lib.hid hb
  have HO := Lib.hid ho
  have HV := Lib.hid hV
  have HVn := Lib.hid hVn
  rw [← hs]
  clear hs hb ho hV hVn h1 h2
  go_enter Try.func10, Try.ntmps10
  go_wp2_with fail
  refine (join_any A0 V n0 nb c0 cb left b w HO.out.r8 HV.out hl0 hlb HO.out.cap.2.2 HVn.out (by omega) (by omega)).mono ?_
  rintro e w1 ⟨g1, d1, rfl, hg1, R1, k1⟩
  rw [← HS.out] at R1
  have hc1 : n0 + nb ≤ d1 ∧ d1 ≤ maxLen := by
    have := R1.le
    rw [hsl.out] at this
    obtain ⟨_, _, _, h⟩ := R1
    exact ⟨this, h⟩
  obtain ⟨hc1, hc2⟩ := hc1
  obtain ⟨N, hN⟩ : ∃ N, N = n0 + nb := ⟨_, rfl⟩
  rw [← hN] at hc1 hsl
  have hNle : N ≤ 800000 := by omega
  rw [← hN]
  have HR1 := Lib.hid R1
  have HI : Hid (cut s = ([] ++ (cut s).1, (cut s).2.1, (cut s).2.2)) := rfl
  clear R1 hN HV HVn q0 q1
  go_wp2_with fail
  go_loopw [5, 6] (fun bs rs wr => ∃ (o m c' k c : Nat) (A : Option Addr) (vs : List Value) (B : List (List UInt8)) (r : List UInt8), rs = .slice (some ⟨g1, o, none⟩) m c' ∧ bs = .slice A k c ∧ m ≤ c' ∧ c' ≤ d1 ∧ k + m ≤ N ∧ Hid (r.length = m) ∧ Hid (R8 wr (some ⟨g1, o, none⟩) r) ∧ Hid (Row8 wr g1 d1 s) ∧ Hid (OwnG wr w.heap.size 26 1 A k c vs) ∧ Hid (RowsE wr w.heap.size vs B) ∧ Hid (cut s = (B ++ (cut r).1, (cut r).2.1, (cut r).2.2)) ∧ Kept w wr) (fun _ rs _ => lenS rs)
  case atStart => exact ⟨0, N, d1, 0, 0, none, [], [], s, rfl, rfl, hc1, Nat.le_refl _, by omega, hsl, HR1.out.r8, HR1, OwnG.nil _ _ _ _, RowsE.nil _ _, HI, k1⟩
  case round =>
    obtain ⟨o, m, c', k, c, A, vs, B, r, rfl, rfl, hmc, hcd, hkm, hlr, HX, HR, HG, HE, HC, kr⟩ := hrel
    clear HR1 HI HO
    by_cases hm2 : 2 ≤ m
    · go_wp2_with fail
      refine (length_any g1 o m c' r wr HX.out hlr (by omega) hm2).mono ?_
      rintro e wx ⟨rfl, n1, rfl⟩
      have kd : Kept wr (wr.drewN n1) := kept_drewN wr n1
      generalize wr.drewN n1 = wx at kd ⊢
      have kx := kr.trans kd
      have HX1 := Lib.hid (HX.out.kept kd)
      have HR1 := Lib.hid (HR.out.kept kd)
      have HG1 := Lib.hid (HG.out.kept kd)
      have HE1 := Lib.hid (HE.out.kept kd)
      clear HX HR HG HE kd kr
      obtain ⟨n, hn⟩ : ∃ n, n = hdOf r := ⟨_, rfl⟩
      rw [← hn]
      have hn65 : n < 65536 := by rw [hn]; exact hdOf_lt r
      have HN := Lib.hid hn
      clear hn
      go_wp2_with fail
      by_cases hval : 1 ≤ n ∧ n ≤ 256
      · refine (valid_any n true wx (decide_eq_true hval).symm).mono ?_
        rintro e wy ⟨rfl, rfl⟩
        obtain ⟨hv1, hv2⟩ := hval
        have hok : Hid (¬ (hdOf r < 1 ∨ 256 < hdOf r)) := by show ¬ _; rw [← HN.out]; omega
        by_cases hlt : m < 2 + n
        · have hd : decide ((m : Int) < 2 + (n : Int)) = true := by simp; omega
          have HQ := Lib.hid (cut_stop HC.out (cut_wait (by rw [hlr.out]; exact hm2) hok.out (by rw [hlr.out, ← HN.out]; exact hlt)))
          go_wp2_with fail
          refine (join_one _ m c' r wx HX1.out hlr (fun h => by cases h) (by omega)).mono ?_
          rintro e w2 ⟨g2, d2, rfl, hg2, R2, k2⟩
          have hbx := HB.out.kept (kx.trans k2)
          have q0 := hbx.cell 0
          have f0 := hbx.frozen 0
          simp only [List.getElem?_cons_zero] at q0
          have hset := hbx.set_ 0 (.slice (some ⟨g2, 0, none⟩) m d2)
          have kset : Keep (· = g) w2 (w2.setCell ⟨g, 0, none⟩ (.slice (some ⟨g2, 0, none⟩) m d2)) := Keep.setCell (Keep.refl (· = g) w2) (fun _ => rfl) _
          have R3 := R2.keep kset (row_ne hbx R2 (by decide))
          have HF := Lib.hid (fed_of (kx.trans k2) kset hbx (by decide) (HG1.out.kept k2) (HE1.out.kept k2) ⟨_, _, _, hset, .inr ⟨g2, rfl, Nat.zero_le _, hlr.out, R3⟩⟩)
          clear hset kset R3 R2 hbx k2
          go_wp2
          go_ret
          refine ⟨_, rfl, ?_⟩
          rw [HQ.out]
          exact HF.out
        · have hd : decide ((m : Int) < 2 + (n : Int)) = false := by simp; omega
          have HQ := Lib.hid (cut_step HC.out hok.out (by rw [hlr.out, ← HN.out]; omega))
          rw [← HN.out] at HQ
          obtain ⟨o1, hs1, hX1⟩ := slice_lh8 g1 o m c' 2 (2 + n) 2 (2 + (n : Int)) r rfl (by omega) (by omega) (by omega)
          obtain ⟨o2, hs2, hX2⟩ := slice_l8 g1 o m c' (2 + n) (2 + (n : Int)) r hlr.out (by omega) (by omega) hmc
          have e1 : 2 + n - 2 = n := by omega
          rw [e1] at hs1 hX1
          obtain ⟨bd, hbd⟩ : ∃ bd, bd = (r.drop 2).take n := ⟨_, rfl⟩
          obtain ⟨r2, hr2⟩ : ∃ r2, r2 = r.drop (2 + n) := ⟨_, rfl⟩
          obtain ⟨m2, hm2'⟩ : ∃ m2, m2 = m - (2 + n) := ⟨_, rfl⟩
          obtain ⟨cc, hcc⟩ : ∃ cc, cc = c' - (2 + n) := ⟨_, rfl⟩
          have hbl : Hid (bd.length = n) := by show _ = _; rw [hbd, List.length_take, List.length_drop, hlr.out]; omega
          have hrl : Hid (r2.length = m2) := by show _ = _; rw [hr2, List.length_drop, hlr.out, hm2']
          rw [← hm2', ← hcc] at hs2
          rw [← hbd] at hX1
          rw [← hr2] at hX2
          rw [← hbd, ← hr2] at HQ
          have a1 : m2 ≤ cc ∧ cc ≤ d1 ∧ k + 1 + m2 ≤ N ∧ m2 < m := by omega
          have HX2 := Lib.hid (hX2 wx HX1.out)
          have HX3 := Lib.hid (hX1 wx HX1.out)
          clear hbd hr2 hm2' hcc hX1 hX2 hok
          obtain ⟨a1, a2, a3, a4⟩ := a1
          go_wp2_with fail
          refine (join_one _ n _ bd wx HX3.out hbl (fun h => by cases h) (by omega)).mono ?_
          rintro e w3 ⟨g3, d3, rfl, hg3, R3, k3⟩
          have B4 := heap_alloc_new w3 (.cells #[.slice (some ⟨g3, 0, none⟩) n d3] 26)
          have k4 : Kept w3 (w3.alloc (.cells #[.slice (some ⟨g3, 0, none⟩) n d3] 26)) := Keep.alloc (Keep.refl _ w3) _
          have N4 := World.news_of_block B4
          have hkw4 := (kx.trans k3).trans k4
          have HG4 := Lib.hid ((HG1.out.kept k3).kept k4)
          have HE4 := Lib.hid ((HE1.out.kept k3).kept k4)
          have HR4 := Lib.hid ((HR1.out.kept k3).kept k4)
          have HX4 := Lib.hid ((HX2.out.kept k3).kept k4)
          have HR3 := Lib.hid (R3.kept k4)
          have hbs : Hid (w.heap.size ≤ (w3.alloc (.cells #[.slice (some ⟨g3, 0, none⟩) n d3] 26)).heap.size) := hkw4.size
          have hb3 : Hid (w.heap.size ≤ g3) := by show _ ≤ _; have := kx.size; omega
          clear k3 k4 R3 HG1 HE1 HR1 HX1 HX2 HX3 kx B4
          go_wp2_with (at_builtin; refine wpl_append_g _ rfl (.tmp 36) (.tmp 41) 24 26 rfl (.slice none 0 0) 1 24 Try.underlying24 infoSl rfl (by omega) w.heap.size k c A vs rfl HG4.out hbs.out ⟨w3.heap.size, 0, none⟩ 1 1 [.slice (some ⟨g3, 0, none⟩) n d3] rfl rfl N4 (by simp [Value.oneCell']) (by unfold maxLen; omega) (by omega) ?_)
          intro w5 A5 c5 O5 k5
          have hkw5 : Kept w w5 := Keep.trans hkw4 k5 (fun j hj ⟨ad, e, h⟩ => by obtain ⟨g', rfl, hb, _⟩ := HG4.out.at_ ad e; simp at h; omega)
          have hne : ∀ g' c' xs, Row8 (w3.alloc (.cells #[.slice (some ⟨g3, 0, none⟩) n d3] 26)) g' c' xs → ¬ ∃ ad, A = some ad ∧ ad.block = g' := fun g' c' xs hr ⟨ad, e, h⟩ => by
            obtain ⟨g0, rfl, _, _⟩ := HG4.out.at_ ad e
            subst e
            exact own_ne HG4.out hr h.symm
          have W5 := (HE4.out.keep k5 hne).snoc hb3.out (HR3.out.keep k5 (hne _ _ _ HR3.out))
          have R5 := Lib.hid (HR4.out.keep k5 (hne _ _ _ HR4.out))
          have X5 := Lib.hid (HX4.out.keep k5 (fun ad e _ => by injection e with e; subst e; exact hne _ _ _ HR4.out))
          rw [hbl.out] at W5
          have HW5 := Lib.hid W5
          have HO5 := Lib.hid O5
          clear W5 O5 hne HE4 HR3 HR4 HX4 HG4 hkw4 k5 N4 hbs hb3 HC
          go_wp2
          exact ⟨⟨o2, m2, cc, k + 1, c5, A5, _, _, r2, rfl, rfl, a1, a2, a3, hrl, X5, R5, HO5, HW5, HQ, hkw5⟩, by simp [lenS]; omega⟩
      · refine (valid_any n false wx (decide_eq_false hval).symm).mono ?_
        rintro e wy ⟨rfl, rfl⟩
        have HQ := Lib.hid (cut_stop HC.out (cut_bad (by rw [hlr.out]; exact hm2) (by rw [← HN.out]; omega)))
        have HBx := Lib.hid (HB.out.kept kx)
        go_wp2_with fail
        refine (spoil_any g n0 c0 A0 false wx HBx.out).mono ?_
        rintro e wz ⟨rfl, hD, kz⟩
        have HF := Lib.hid (fed_of kx kz HBx.out (by decide) HG1.out HE1.out hD)
        clear hD kz
        go_wp2
        go_ret
        refine ⟨_, rfl, ?_⟩
        rw [HQ.out]
        exact HF.out
    · have HQ := Lib.hid (cut_stop HC.out (cut_short (by rw [hlr.out]; omega)))
      go_wp2_with fail
      refine (join_one _ m c' r wr HX.out hlr (fun h => by cases h) (by omega)).mono ?_
      rintro e w2 ⟨g2, d2, rfl, hg2, R2, k2⟩
      have hbx := HB.out.kept (kr.trans k2)
      have q0 := hbx.cell 0
      have f0 := hbx.frozen 0
      simp only [List.getElem?_cons_zero] at q0
      have hset := hbx.set_ 0 (.slice (some ⟨g2, 0, none⟩) m d2)
      have kset : Keep (· = g) w2 (w2.setCell ⟨g, 0, none⟩ (.slice (some ⟨g2, 0, none⟩) m d2)) := Keep.setCell (Keep.refl (· = g) w2) (fun _ => rfl) _
      have R3 := R2.keep kset (row_ne hbx R2 (by decide))
      have HF := Lib.hid (fed_of (kr.trans k2) kset hbx (by decide) (HG.out.kept k2) (HE.out.kept k2) ⟨_, _, _, hset, .inr ⟨g2, rfl, Nat.zero_le _, hlr.out, R3⟩⟩)
      clear hset kset R3 R2 hbx k2
      go_wp2
      go_ret
      refine ⟨_, rfl, ?_⟩
      rw [HQ.out]
      exact HF.out

set_option maxHeartbeats 400000 in
theorem feed_any (g : Nat) (bad : Bool) (left b : List UInt8) (v : Value) (w : World) (h : DF 45 w g bad left) (hv : Bytes w v b) (h1 : left.length ≤ 400000) (h2 : b.length ≤ 400000) :
    Calls Try.prog 10 #[.pointer (some ⟨g, 0, none⟩), v] w fun e w' => ∃ u, e = .returned u ∧ FedIn 45 w w' g u (feedB bad left b) (feedX bad left b) (feedL bad left b) := by
  cases bad with
  | false => exact feed_good g left b v w h hv h1 h2
  | true =>
    have HD := Lib.hid h
    obtain ⟨A0, n0, c0, hb, ho⟩ := h
    obtain ⟨V, nb, cb, rfl, hlb, hV, hnb, hcb, hVn⟩ := hv
    have q1 := hb.cell 1
    simp only [List.getElem?_cons_zero, List.getElem?_cons_succ] at q1
    clear hb ho hV hVn
    go_enter Try.func10, Try.ntmps10
    go_wp2
    go_ret
    exact ⟨_, rfl, none, 0, [], rfl, OwnG.nil _ _ _ _, RowsE.nil _ _, HD.out, Keep.refl _ _⟩
end Go.Proofs.Ytkomionfnpgjgaa
