/-
 Laws and contracts that the walks rest on, part 5. No condition.
-/
import Derived.Test.YtfpfpmhkkgfdbaaQR04
set_option linter.unusedVariables false
namespace Go.Proofs.Ytfpfpmhkkgfdbaa
open Go.RowKit
set_option maxRecDepth 100000
def RRejoin4 (w : World) (F : Nat → Prop) (p : Nat) (B : Bok) (s : Int) (u : Value) (Fs : Nat → Prop) : Prop :=
 ∀ (w' : World) (v' : Value) (L' : List Lev) (Fs' : Nat → Prop) (last no : Int) (S : Nat → Prop), Keep S w w' → (∀ b, F b → S b → Fs b ∨ b = p) → Blk w' p 46 (rsd s v' u last no) → Way 86 95 87 w' Fs' v' L' → Grow w Fs Fs' → ∃ F', RBk w' F' p (B.to s L' last no) ∧ Grow w F F' ∧ ∀ b, F' b ↔ F b ∨ Fs' b
theorem RBk.open4 {w : World} {F : Nat → Prop} {p : Nat} {B : Bok} (h : RBk w F p B) {s : Int} (hs : s = 1 ∨ s = 2) :
  ∃ v u Z G Fs, levs Z = B.sd s ∧ WayZ 86 95 87 w Fs v Z G ∧ Blk w p 46 (rsd s v u B.last B.no) ∧ (∀ b, Fs b → F b ∧ b ≠ p) ∧ F p ∧ (∀ b, F b → b < w.heap.size) ∧ RRejoin4 w F p B s u Fs := by
 obtain ⟨h1, h2, v1, v2, F1, F2, hB, hW1, hW2, h3, h4⟩ := h
 have hpl := h2 p h1
 rcases hs with rfl | rfl
 ·obtain ⟨Z, G, e, hz⟩ := hW1
  refine ⟨v1, v2, Z, G, F1, e, hz, hB, fun b hb => ⟨(h3 b hb).1, (h3 b hb).2.1⟩, h1, h2, ?_⟩
  intro w' v' L' Fs' last no S hk hS hB' hW' hG
  have hlt := hW'.lt
  refine ⟨fun b => F b ∨ Fs' b, ⟨.inl h1, fun b hb => hb.elim (fun h => Nat.lt_of_lt_of_le (h2 b h) hk.size) (hlt b), v', v2, Fs', F2, hB', hW', hW2.keep hk (fun b hb h => (hS b (h4 b hb).1 h).elim (fun h => (h3 b h).2.2 hb) (fun h => (h4 b hb).2 h)), fun b hb => ?_, fun b hb => ⟨.inl (h4 b hb).1, (h4 b hb).2⟩⟩, fun b hb => hb.elim .inl (fun h => (hG b h).imp (fun h => (h3 b h).1) id), fun b => Iff.rfl⟩
  refine ⟨.inr hb, ?_, ?_⟩
  ·rcases hG b hb with h | h
   ·exact (h3 b h).2.1
   ·omega
  ·rcases hG b hb with h | h
   ·exact (h3 b h).2.2
   ·intro h'
    have := h2 b (h4 b h').1
    omega
 ·obtain ⟨Z, G, e, hz⟩ := hW2
  refine ⟨v2, v1, Z, G, F2, e, hz, hB, h4, h1, h2, ?_⟩
  intro w' v' L' Fs' last no S hk hS hB' hW' hG
  have hlt := hW'.lt
  refine ⟨fun b => F b ∨ Fs' b, ⟨.inl h1, fun b hb => hb.elim (fun h => Nat.lt_of_lt_of_le (h2 b h) hk.size) (hlt b), v1, v', F1, Fs', hB', hW1.keep hk (fun b hb h => (hS b (h3 b hb).1 h).elim (fun h => (h3 b hb).2.2 h) (fun h => (h3 b hb).2.1 h)), hW', fun b hb => ⟨.inl (h3 b hb).1, (h3 b hb).2.1, fun h' => ?_⟩, fun b hb => ⟨.inr hb, ?_⟩⟩, fun b hb => hb.elim .inl (fun h => (hG b h).imp (fun h => (h4 b h).1) id), fun b => Iff.rfl⟩
  ·rcases hG b h' with h | h
   ·exact (h3 b hb).2.2 h
   ·have := h2 b (h3 b hb).1
    omega
  ·rcases hG b hb with h | h
   ·exact (h4 b h).2
   ·omega
theorem rsd_last (s : Int) (v u : Value) (last no x : Int) : (rsd s v u last no).set 3 (.int .i64 x) = rsd s v u x no := by unfold rsd; split <;> rfl
theorem rsd_no (s : Int) (v u : Value) (last no x : Int) : (rsd s v u last no).set 4 (.int .i64 x) = rsd s v u last x := by unfold rsd; split <;> rfl
def mQ (g : Nat) (w : World) : Nat := match w.cell? ⟨g, 6, none⟩ with
 | some (.int _ l) => l.toNat
 | _ => 0
theorem mQ_is {w : World} {g : Nat} {o : Ord} {n : Int} {T : TypeId} (h : Blk w g T (o.q n).cells) : mQ g w = n.toNat := by
 unfold mQ
 rw [h.cell]
 rfl
def RMatchIn (w : World) (F : Nat → Prop) (p : Nat) (B : Bok) (o : Ord) (m : Mt) (r : Ending) (w' : World) : Prop :=
 ∃ F' vf, r = .returned (.tuple #[vf, .int .i64 m.left, .bool m.self]) ∧ RBk w' F' p (B.to (3 - o.side) m.L (lastOf B.last m.f) (B.no + m.f.length)) ∧ Sl w' 36 21 vf m.f.length (fls m.f) ∧ (∀ b, vf.ownBlock = some b → w.heap.size ≤ b ∧ ¬ F' b) ∧ Grow w F F' ∧ Keep F w w'
set_option maxRecDepth 100000 in
set_option maxHeartbeats 6400000 in
theorem rbmatch_any (w : World) (F : Nat → Prop) (p : Nat) (B : Bok) (o : Ord) (h : RBk w F p B) (hI : Inv B) (hs : o.side = 1 ∨ o.side = 2) (hq : 1 ≤ o.qty ∧ o.qty ≤ 1048576) (hn : B.no ≤ 1000000000000) :
  Calls Try.prog 50 #[.pointer (some ⟨p, 0, none⟩), o.v] w (RMatchIn w F p B o (B.matched o)) := by
 have hSid : Sid (3 - o.side) (B.sd (3 - o.side)) := (hI.side hs).theirs
 have hno0 := hI.no0
 have HSD := Lib.hid hSid
 have hFl := h.lt
 have HK := Lib.hid h
 have hpF := h.1
 obtain ⟨k, h12, hk⟩ : ∃ k : Nat, (k = 1 ∨ k = 2) ∧ 3 - o.side = (k : Int) := by
  rcases hs with hs | hs
  ·exact ⟨2, .inr rfl, by omega⟩
  ·exact ⟨1, .inl rfl, by omega⟩
 have hs12 : (k : Int) = 1 ∨ (k : Int) = 2 := by omega
 have HSE := Lib.hid hk
 rw [hk] at HSD
 clear hSid h hI hs
 go_enter Try.func50, Try.ntmps50
 go_upto_region 0 with fail
 refine wp_text 4 [.fresh w.heap.size 25 (o.cells), .eq (.slice none 0 0), iE 0, bE false] rfl (by kernel_rfl) ?_ ?_
 ·refine nW 1 rfl (fun a u E D hk=>⟨_, _, exec_box 25 _ (o.cells) rfl (eE E), ⟨_, rfl, hk.size, Blk.new u _ _⟩, ((Keep.refl _ u).alloc _)⟩) ?_
  refine sW 2 rfl (fun a u E D hk=>exec_assign _ _ rfl rfl) ?_
  refine sW 3 rfl (fun a u E D hk=>exec_assign _ _ rfl rfl) ?_
  refine sW 4 rfl (fun a u E D hk=>exec_assign _ _ rfl rfl) ?_
  exact fz
 intro gv w0 hV k0
 rw [dq 4 [3,4,5,6]]
 simp only [F7]
 have hv3 : (.fresh w.heap.size 25 (o.cells) : Kn).p (gv 3) w0 := hV 0 3 (by kernel_rfl)
 generalize gv 3 = v3 at hv3 ⊢
 rw [gQ hV 1 4 (.slice none 0 0)]
 rw [gQ hV 2 5 (.int .i64 0)]
 rw [gQ hV 3 6 (.bool false)]
 clear hV
 obtain ⟨g, rfl, hg, hB⟩ := hv3
 refine wpList_nil ?_
 have HOa := Lib.hid (blk_range hB)
 have HQa := Lib.hid hB
 have lg := hB.lt
 clear hB
 go_upto_region 1 with fail
 refine wp_text 4 [pE g 3, iE o.side, iE (k : Int), iE (k : Int)] rfl (by kernel_rfl) ?_ ?_
 ·refine fE 1 3 25 3 3 0 ?_
  refine sW 2 rfl (fun a u E D hk=>exec_loadi _ Try.underlying3 _ _ _ rfl (dD D 0) (range_int (range_kept HOa.out hk) 3 _ rfl)) ?_
  refine sW 3 rfl (fun a u E D hk=>exec_subn (k : Int) (p := (3 : Int)) (q := o.side) rfl rfl (dD D 1) (by omega) (by omega) (by omega)) ?_
  refine mD 4 16 2 ?_
  exact fz
 intro gv w1 hV kb
 rw [dq 4 [14,15,16,7]]
 simp only [F7]
 rw [gQ hV 3 7 (.int .i64 (k : Int))]
 clear hV
 refine wpList_nil ?_
 have k1 := k0.trans kb
 have HQ1 : Hid (Blk w1 g 25 (o.q o.qty).cells) := HQa.out.kept kb
 have HK1 := Lib.hid (HK.out.kept k1)
 have z1 := k1.size
 have zb := kb.size
 have hFl1 : ∀ b, F b → b < w1.heap.size := fun b hb => Nat.lt_of_lt_of_le (hFl b hb) z1
 have hgF : ¬ F g := fun e => by have := hFl g e; omega
 have hg1 : g < w1.heap.size := by omega
 have hpw := hFl p hpF
 clear HOa HQa HK k0 kb hk
 go_wp2_with fail
 go_loopw [8] (fun x wr => ∃ (L : List Lev) (last no left : Int) (fs : List Fl) (Fc : Nat → Prop), Hid (RBk wr Fc p (B.to (k : Int) L last no)) ∧ Hid (Blk wr g 25 (o.q left).cells) ∧ Hid (Sl wr 36 21 x fs.length (fls fs)) ∧ Hid (∀ b, x.ownBlock = some b → w1.heap.size ≤ b ∧ ¬ Fc b ∧ b ≠ g) ∧ Hid (Grow w1 F Fc) ∧ Keep (fun b => F b ∨ b = g) w1 wr ∧ Hid (Sid (k : Int) L) ∧ Hid (last = lastOf B.last fs ∧ no = B.no + fs.length) ∧ (0 ≤ left ∧ (fs.length : Int) + left ≤ o.qty) ∧ Hid (B.matched o = ⟨fs ++ (matchM o no left L).f, (matchM o no left L).left, (matchM o no left L).self, (matchM o no left L).L⟩)) (fun _ wr => mQ g wr)
 case atStart =>
  refine ⟨B.sd (k : Int), B.last, B.no, o.qty, [], F, by show RBk _ _ _ _; rw [Bok.to_self hs12]; exact HK1.out, HQ1.out, Sl.nil _ _ _, fun b hb => by simp [Value.ownBlock] at hb, Grow.refl _ _, Keep.refl _ _, HSD.out, ⟨rfl, by simp⟩, ⟨by omega, by simp⟩, ?_⟩
  show _ = _
  unfold Bok.matched
  rw [HSE.out]
  simp
 case round =>
  obtain ⟨wo, hwo⟩ : ∃ y, y = wr := ⟨_, rfl⟩
  subst hwo
  obtain ⟨L, last, no, left, fs, Fc, HBr, HQr, HVr, HVn, HGr, hkr, HSr, HLN, hlf, HM⟩ := hrel
  obtain ⟨vf, hvf⟩ : ∃ y, y = u8 := ⟨_, rfl⟩
  subst hvf
  have zr := hkr.size
  have HMO := Lib.hid (mQ_is HQr.out)
  have HL6 : Hid (wo.cell? ⟨g, 6, none⟩ = some (.int .i64 left)) := by show _ = _; rw [HQr.out.cell]; rfl
  by_cases hl0 : 0 < left
  ·obtain ⟨v, u0, Z, G, Fs, eL, hW, hB, hFs, hp, hlt, hJ⟩ := HBr.out.open4 hs12
   rw [Bok.to_sd hs12] at eL
   have HV := Lib.hid (rsd_cell h12 hB)
   have HSL0 := Lib.hid hW.sl
   cases L with
   | nil =>
    have hz0 : Z = [] := by simpa [levs] using eL
    obtain ⟨n, hn⟩ : ∃ n, Z.length = n := ⟨_, rfl⟩
    have HSL := HSL0
    rw [hn] at HSL
    have hn0 : n = 0 := by rw [← hn, hz0]; rfl
    have HFIN : Hid (B.matched o = ⟨fs, left, false, []⟩) := by show _ = _; rw [HM.out]; simp [matchM]
    clear HM eL hW hB hFs hp hlt hJ hn hz0 HSL0
    go_upto_region 3 with fail
    refine wp_text 13 [pE g 6, iE left, bE true, bE true, pE p 0, iE (k : Int), pE p 0, pE p 0, pE p (0 + k * 1), .eq (v), iE (n : Int), bE false, bE false] rfl (by kernel_rfl) ?_ ?_
    ·refine fE 1 3 25 6 6 0 ?_
     refine sW 2 rfl (fun a u E D hk=>exec_loadi _ Try.underlying3 _ _ _ rfl (dD D 0) (Kept.cell hk (HL6.out))) ?_
     refine aS 3 rfl (fun a u E D hk=>exec_gtn rfl (dD D 1) rfl) (decide_eq_true hl0) ?_
     refine mD 4 19 2 ?_
     refine mE 5 0 ?_
     refine mE 6 7 ?_
     refine nD 7 21 4 ?_
     refine fD 8 23 6 46 0 0 0 ?_
     refine sW 9 rfl (fun a u E D hk=>exec_elem 44 43 3 1 _ _ p 0 k rfl Try.underlying44 (by kernel_rfl) (dD D 7) (dD D 5) (by omega)) ?_
     refine sW 10 rfl (fun a u E D hk=>exec_ldv _ _ Try.underlying43 _ _ _ rfl (dD D 8) (Kept.cell hk (HV.out))) ?_
     refine sW 11 rfl (fun a u E D hk=>exec_lenS _ slQR _ _ _ _ rfl (dD D 9) HSL.out) ?_
     refine aS 12 rfl (fun a u E D hk=>exec_gtn rfl (dD D 10) rfl) (decide_eq_false (by omega)) ?_
     refine sW 13 rfl (fun a u E D hk=>exec_pick _ _ _ _ rfl (dD D 3) (dD D 11)) ?_
     exact fz
    intro gv wq hV kq
    rw [dq 13 [17,18,19,20,21,22,23,24,25,26,27,28,29]]
    simp only [F7]
    rw [gQ hV 12 29 (.bool false)]
    clear hV
    refine wpList_nil ?_
    have HLq := Lib.hid (kq.cell HL6.out)
    go_upto_region 19 with fail
    refine wp_free 6 [.eq (vf), pE g 6, iE left, .eq (vf), iE left, bE false] (by kernel_rfl) rfl (by kernel_rfl) ?_ ?_
    ·refine mE 1 8 ?_
     refine fE 2 3 25 6 6 0 ?_
     refine sW 3 rfl (fun a u E D hk=>exec_loadi _ Try.underlying3 _ _ _ rfl (dD D 1) (Kept.cell hk (HLq.out))) ?_
     refine mD 4 122 0 ?_
     refine mD 5 124 2 ?_
     refine sW 6 rfl (fun a u E D hk=>exec_assign _ _ rfl rfl) ?_
     exact fz
    intro gv wy hV ky
    rw [dq 6 [122,123,124,4,5,6]]
    simp only [F7]
    rw [gQ hV 3 4 vf]
    rw [gQ hV 4 5 (.int .i64 left)]
    rw [gQ hV 5 6 (.bool false)]
    clear hV
    refine wpList_nil ?_
    have kry := kq.trans ky
    have HEND : Hid (RMatchIn w F p B o (B.matched o) (.returned (.tuple #[vf, .int .i64 left, .bool false])) wy) := by
     show RMatchIn _ _ _ _ _ _ _ _
     rw [HFIN.out]
     unfold RMatchIn
     rw [HSE.out]
     have hl := HLN.out
     have hb := HBr.out.kept kry
     rw [hl.1, hl.2] at hb
     exact ⟨Fc, vf, rfl, hb, HVr.out.kept kry, fun b hb => ⟨by have := (HVn.out b hb).1; omega, (HVn.out b hb).2.1⟩, fun b hb => (HGr.out b hb).imp id (fun h => by omega), ((Keep.any k1 hkr).mono (fun b hb e => e.elim id (fun e => by omega))).kept kry⟩
    clear HBr HVr HVn HFIN
    go_wp2
    go_ret3
    exact HEND.out
   | cons l R =>
    obtain ⟨pr, X⟩ := l
    obtain ⟨z, ZR, hZ⟩ : ∃ z ZR, Z = z :: ZR := by
     cases Z with
     | nil => cases eL
     | cons z ZR => exact ⟨z, ZR, rfl⟩
    subst hZ
    obtain ⟨q, pr', X'⟩ := z
    rw [levs_cons] at eL
    obtain ⟨e1, eR⟩ := List.cons.inj eL
    simp only [Prod.mk.injEq] at e1
    obtain ⟨rfl, rfl⟩ := e1
    have HPC : Hid (wo.cell? ⟨q, 0, none⟩ = some (.int .i64 pr')) := by
     show _ = _
     obtain ⟨_, _, x, hx, _⟩ := hW.lv (q, pr', X') (by simp)
     rw [hx.cell]
     rfl
    obtain ⟨gs, os, c, rfl⟩ := hW.some_ (by simp)
    obtain ⟨n, hnn⟩ : ∃ n, List.length ((q, pr', X') :: ZR) = n := ⟨_, rfl⟩
    have hn0 : 0 < n := by rw [← hnn]; simp
    have HC : Hid (wo.cell? ⟨gs, os, none⟩ = some (.pointer (some ⟨q, 0, none⟩))) := by show _ = _; have := hW.cell (i := 0) (z := (q, pr', X')) rfl; simpa using this
    rw [hnn] at hW hB
    have HSL := HSL0
    rw [hnn] at HSL HV
    have HNZ : Hid (((q, pr', X') :: ZR).length = n) := hnn
    have HER := Lib.hid eR
    have HJ := Lib.hid hJ
    have HFs := Lib.hid hFs
    have HW := Lib.hid hW
    have HBB := Lib.hid hB
    have HLTF := Lib.hid hlt
    have hpFc := hp
    clear hW hB eL hJ hFs hlt hnn eR HSL0 hp
    go_upto_region 3 with fail
    refine wp_text 13 [pE g 6, iE left, bE true, bE true, pE p 0, iE (k : Int), pE p 0, pE p 0, pE p (0 + k * 1), .eq (.slice (some ⟨gs, os, none⟩) n c), iE (n : Int), bE true, bE true] rfl (by kernel_rfl) ?_ ?_
    ·refine fE 1 3 25 6 6 0 ?_
     refine sW 2 rfl (fun a u E D hk=>exec_loadi _ Try.underlying3 _ _ _ rfl (dD D 0) (Kept.cell hk (HL6.out))) ?_
     refine aS 3 rfl (fun a u E D hk=>exec_gtn rfl (dD D 1) rfl) (decide_eq_true hl0) ?_
     refine mD 4 19 2 ?_
     refine mE 5 0 ?_
     refine mE 6 7 ?_
     refine nD 7 21 4 ?_
     refine fD 8 23 6 46 0 0 0 ?_
     refine sW 9 rfl (fun a u E D hk=>exec_elem 44 43 3 1 _ _ p 0 k rfl Try.underlying44 (by kernel_rfl) (dD D 7) (dD D 5) (by omega)) ?_
     refine sW 10 rfl (fun a u E D hk=>exec_ldv _ _ Try.underlying43 _ _ _ rfl (dD D 8) (Kept.cell hk (HV.out))) ?_
     refine sW 11 rfl (fun a u E D hk=>exec_lenS _ slQR _ _ _ _ rfl (dD D 9) HSL.out) ?_
     refine aS 12 rfl (fun a u E D hk=>exec_gtn rfl (dD D 10) rfl) (decide_eq_true (by omega)) ?_
     refine sW 13 rfl (fun a u E D hk=>exec_pick _ _ _ _ rfl (dD D 3) (dD D 11)) ?_
     exact fz
    intro gv wq hV kq
    rw [dq 13 [17,18,19,20,21,22,23,24,25,26,27,28,29]]
    simp only [F7]
    rw [gQ hV 12 29 (.bool true)]
    clear hV
    refine wpList_nil ?_
    have HPCq := Lib.hid (kq.cell HPC.out)
    have HCq := Lib.hid (kq.cell HC.out)
    have HVq := Lib.hid (kq.cell HV.out)
    go_upto_region 4 with fail
    refine wp_text 9 [pE p 0, iE (k : Int), pE p 0, pE p 0, pE p (0 + k * 1), .eq (.slice (some ⟨gs, os, none⟩) n c), pE gs os, pE q 0, pE q 0] rfl (by kernel_rfl) ?_ ?_
    ·refine mE 1 0 ?_
     refine mE 2 7 ?_
     refine nD 3 30 0 ?_
     refine fD 4 32 2 46 0 0 0 ?_
     refine sW 5 rfl (fun a u E D hk=>exec_elem 44 43 3 1 _ _ p 0 k rfl Try.underlying44 (by kernel_rfl) (dD D 3) (dD D 1) (by omega)) ?_
     refine sW 6 rfl (fun a u E D hk=>exec_ldv _ _ Try.underlying43 _ _ _ rfl (dD D 4) (Kept.cell hk (HVq.out))) ?_
     refine sW 7 rfl (fun a u E D hk=>exec_ixo slQR _ _ (gs) (os) n c 0 (os) (0) rfl (dD D 5) rfl (by first | rfl | omega) ((by omega)) (by first | rfl | omega)) ?_
     refine sW 8 rfl (fun a u E D hk=>exec_ldp _ _ Try.underlying87 _ _ _ rfl (dD D 6) (Kept.cell hk (HCq.out))) ?_
     refine mD 9 37 7 ?_
     exact fz
    intro gv w2 hV k2
    rw [dq 9 [30,31,32,33,34,35,36,37,9]]
    simp only [F7]
    rw [gQ hV 8 9 (.pointer (some ⟨q, 0, none⟩))]
    clear hV
    refine wpList_nil ?_
    have kr2 := kq.trans k2
    have HO2 := Lib.hid (blk_range (HQr.out.kept kr2))
    have HPC2 := Lib.hid (k2.cell HPCq.out)
    clear HPCq HCq HVq k2
    cases hcr : o.crosses pr' with
    | false =>
     have HCR : Hid ((o.q left).crosses pr' = false) := hcr
     have HFIN : Hid (B.matched o = ⟨fs, left, false, (pr', X') :: R⟩) := by show _ = _; rw [HM.out, match_none (show o.meets ((pr', X') :: R) = false from hcr)]; simp
     clear HM hcr
     go_upto_region 5 with fail
     refine wp_free 7 [.eq ((o.q left).v), pE q 0, pE q 0, pE q 0, iE pr', bE false, bE true] (by kernel_rfl) rfl (by kernel_rfl) ?_ ?_
     ·refine sW 1 rfl (fun a u E D hk=>exec_ldS 25 _ _ (g) (0) ((o.q left).cells) rfl (eE E) (range_kept HO2.out hk) Try.underlying25 (by rw [(o.q left).len9]; exact ord_size)) ?_
      refine mE 2 9 ?_
      refine nD 3 39 1 ?_
      refine fD 4 40 2 86 0 0 0 ?_
      refine sW 5 rfl (fun a u E D hk=>exec_loadi _ Try.underlying3 _ _ _ rfl (dD D 3) (Kept.cell hk (HPC2.out))) ?_
      refine cS 6 48 [(o.q left).v, .int .i64 pr'] rfl Try.func48 rfl (fun a u E D hk=>⟨ll (dD D 0) (ll (dD D 4) rfl), (by have h := refCrosses_any (o.q left) pr' u; rw [HCR.out] at h; exact h)⟩) ?_
      refine sW 7 rfl (fun a u E D hk=>exec_not _ _ false rfl (dD D 5)) ?_
      exact fz
     intro gv w3 hV k3
     rw [dq 7 [38,39,40,41,42,43,44]]
     simp only [F7]
     rw [gQ hV 6 44 (.bool true)]
     clear hV
     refine wpList_nil ?_
     have kq0 := kq
     clear kq
     have kq := kr2.trans k3
     have HLq := Lib.hid (kq.cell HL6.out)
     go_upto_region 19 with fail
     refine wp_free 6 [.eq (vf), pE g 6, iE left, .eq (vf), iE left, bE false] (by kernel_rfl) rfl (by kernel_rfl) ?_ ?_
     ·refine mE 1 8 ?_
      refine fE 2 3 25 6 6 0 ?_
      refine sW 3 rfl (fun a u E D hk=>exec_loadi _ Try.underlying3 _ _ _ rfl (dD D 1) (Kept.cell hk (HLq.out))) ?_
      refine mD 4 122 0 ?_
      refine mD 5 124 2 ?_
      refine sW 6 rfl (fun a u E D hk=>exec_assign _ _ rfl rfl) ?_
      exact fz
     intro gv wy hV ky
     rw [dq 6 [122,123,124,4,5,6]]
     simp only [F7]
     rw [gQ hV 3 4 vf]
     rw [gQ hV 4 5 (.int .i64 left)]
     rw [gQ hV 5 6 (.bool false)]
     clear hV
     refine wpList_nil ?_
     have kry := kq.trans ky
     have HEND : Hid (RMatchIn w F p B o (B.matched o) (.returned (.tuple #[vf, .int .i64 left, .bool false])) wy) := by
      show RMatchIn _ _ _ _ _ _ _ _
      rw [HFIN.out]
      unfold RMatchIn
      rw [HSE.out]
      have hl := HLN.out
      have hb := HBr.out.kept kry
      rw [hl.1, hl.2] at hb
      exact ⟨Fc, vf, rfl, hb, HVr.out.kept kry, fun b hb => ⟨by have := (HVn.out b hb).1; omega, (HVn.out b hb).2.1⟩, fun b hb => (HGr.out b hb).imp id (fun h => by omega), ((Keep.any k1 hkr).mono (fun b hb e => e.elim id (fun e => by omega))).kept kry⟩
     clear HBr HVr HVn HFIN
     go_wp2
     go_ret3
     exact HEND.out
    | true =>
     have HCR : Hid ((o.q left).crosses pr' = true) := hcr
     have HRD := Lib.hid (match_round (no := no) HSr.out hl0 hcr)
     have HRI := Lib.hid (round_is (o := o) HSr.out hl0)
     have HGD := Lib.hid (HSr.out.good (l := (pr', X')) (by simp)).1
     clear hcr
     go_upto_region 5 with fail
     refine wp_free 7 [.eq ((o.q left).v), pE q 0, pE q 0, pE q 0, iE pr', bE true, bE false] (by kernel_rfl) rfl (by kernel_rfl) ?_ ?_
     ·refine sW 1 rfl (fun a u E D hk=>exec_ldS 25 _ _ (g) (0) ((o.q left).cells) rfl (eE E) (range_kept HO2.out hk) Try.underlying25 (by rw [(o.q left).len9]; exact ord_size)) ?_
      refine mE 2 9 ?_
      refine nD 3 39 1 ?_
      refine fD 4 40 2 86 0 0 0 ?_
      refine sW 5 rfl (fun a u E D hk=>exec_loadi _ Try.underlying3 _ _ _ rfl (dD D 3) (Kept.cell hk (HPC2.out))) ?_
      refine cS 6 48 [(o.q left).v, .int .i64 pr'] rfl Try.func48 rfl (fun a u E D hk=>⟨ll (dD D 0) (ll (dD D 4) rfl), (by have h := refCrosses_any (o.q left) pr' u; rw [HCR.out] at h; exact h)⟩) ?_
      refine sW 7 rfl (fun a u E D hk=>exec_not _ _ true rfl (dD D 5)) ?_
      exact fz
     intro gv w3 hV k3
     rw [dq 7 [38,39,40,41,42,43,44]]
     simp only [F7]
     rw [gQ hV 6 44 (.bool false)]
     clear hV
     refine wpList_nil ?_
     have kr3 := kr2.trans k3
     obtain ⟨t, ht⟩ : ∃ t, takeM o.firm left X' = t := ⟨_, rfl⟩
     obtain ⟨H, ow, X2⟩ := t
     rw [ht] at HRI
     have HTT := Lib.hid ht
     have HF3 : Hid (w3.cell? ⟨g, 2, none⟩ = some (.int .i64 o.firm)) := by show _ = _; rw [(HQr.out.kept kr3).cell]; rfl
     have HL3 := Lib.hid (kr3.cell HL6.out)
     have HW3 := Lib.hid (HW.out.kept kr3)
     clear ht HPC2 HO2 k3 kr2 HCR
     go_upto_region 6 with fail
     refine wp_text 5 [pE q 0, pE g 2, iE o.firm, pE g 6, iE left] rfl (by kernel_rfl) ?_ ?_
     ·refine mE 1 9 ?_
      refine fE 2 3 25 2 2 0 ?_
      refine sW 3 rfl (fun a u E D hk=>exec_loadi _ Try.underlying3 _ _ _ rfl (dD D 1) (Kept.cell hk (HF3.out))) ?_
      refine fE 4 3 25 6 6 0 ?_
      refine sW 5 rfl (fun a u E D hk=>exec_loadi _ Try.underlying3 _ _ _ rfl (dD D 3) (Kept.cell hk (HL3.out))) ?_
      exact fz
     intro gv wa hV ka
     rw [dq 5 [46,47,48,49,50]]
     simp only [F7]
     rw [gQ hV 0 46 (.pointer (some ⟨q, 0, none⟩))]
     rw [gQ hV 2 48 (.int .i64 o.firm)]
     rw [gQ hV 4 50 (.int .i64 left)]
     clear hV
     have hWa := HW3.out.kept ka
     have hLa := hWa.lv (q, pr', X') (by simp)
     refine l_call 74 #[.pointer (some ⟨q, 0, none⟩), .int .i64 o.firm, .int .i64 left] rfl (exec_call 74 _ [.tmp 46, .tmp 48, .tmp 50] _ _ Try.func74 (by kernel_rfl) (by kernel_rfl) rfl (by kernel_rfl) _) ?_
     refine (rtake_any wa _ q X' o.firm left hLa HGD.out (by omega)).mono ?_
     rintro r w4 ⟨F4, vh, rfl, hl4, hs4, hv4, hg4, hk4⟩
     rw [HTT.out] at hl4 hs4
     refine ⟨.tuple #[vh, .bool ow], by rw [HTT.out], ?_⟩
     simp only [Act.put, sA, sS, sZ]
     refine l_val (.tuple #[vh, .bool ow]) rfl (exec_move _ _ rfl (by kernel_rfl)) ?_
     simp only [Act.put, sA, sS, sZ]
     refine l_val (vh) rfl (exec_extract (.tmp 45) [vh, .bool ow] 0 (vh) rfl (by kernel_rfl) rfl) ?_
     simp only [Act.put, sA, sS, sZ]
     refine l_val (.bool ow) rfl (exec_extract (.tmp 45) [vh, .bool ow] 1 (.bool ow) rfl (by kernel_rfl) rfl) ?_
     simp only [Act.put, sA, sS, sZ]
     refine l_val (vh) rfl (exec_assign _ _ rfl (by kernel_rfl)) ?_
     simp only [Act.put, sA, sS, sZ]
     refine l_val (.bool ow) rfl (exec_assign _ _ rfl (by kernel_rfl)) ?_
     simp only [Act.put, sA, sS, sZ]
     refine wpList_nil ?_
     have k03 : Kept wo wa := kr3.trans ka
     have z3 := k03.size
     have hgFc : ¬ Fc g := fun e => (HGr.out g e).elim hgF (fun e => by omega)
     obtain ⟨Fs4, G4, hW4, hG4, hk4', _⟩ := WayZ.turn (A := []) (R := ZR) (q := q) (pr := pr') (X := X') hWa hk4 hl4 hg4
     have z4 := hk4.size
     have hFg : ¬ Fs g := fun e => hgFc (HFs.out g e).1
     have hFp : ¬ Fs p := fun e => (HFs.out p e).2 rfl
     have HQ4 := Lib.hid ((HQr.out.kept k03).keep hk4' hFg)
     have HP4 := Lib.hid ((HBB.out.kept k03).keep hk4' hFp)
     have HV4 := Lib.hid ((HVr.out.kept k03).keep hk4' (fun b hb e => (HVn.out b hb).2.1 (HFs.out b e).1))
     have hvl : ∀ b, vf.ownBlock = some b → b < wo.heap.size := fun b hb => HVr.out.lt hb
     have HVL := Lib.hid hvl
     have HW4 := Lib.hid hW4
     have HHV : Hid (∀ b, vh.ownBlock = some b → wa.heap.size ≤ b) := fun b hb => (hv4 b hb).1
     have HHL : Hid (∀ b, vh.ownBlock = some b → b < w4.heap.size) := fun b hb => hs4.lt hb
     have K4 : Keep Fs wo w4 := Keep.any k03 hk4'
     have HW4L : Hid (∀ b, Fs4 b → b < w4.heap.size) := hW4.lt
     have HG3 : Hid (∀ b, Fs4 b → Fs b ∨ wo.heap.size ≤ b) := fun b hb => (hG4 b hb).imp id (fun e => by omega)
     obtain ⟨nh, hnh⟩ : ∃ m, H.length = m := ⟨_, rfl⟩
     rw [hnh] at hs4
     have HS4 := Lib.hid hs4
     have HNH := Lib.hid hnh
     have hbn : 0 ≤ no ∧ no ≤ 2000000000000 := by have := HLN.out.2; omega
     have hsum := HRI.out.sum
     have hlen := HRI.out.len
     simp only at hsum hlen
     have hnh2 : (nh : Int) ≤ left := by rw [← hnh]; omega
     have HSUM := Lib.hid hsum
     have HPOS := Lib.hid HRI.out.pos
     have kwq := hkr
     have hgp : g ≠ p := fun e => hgF (by rw [e]; exact hpF)
     have hSn : ∀ b, Fs4 b → ¬ (b = g ∨ b = p ∨ vf.ownBlock = some b) := fun b hb e => by
      rcases e with e | e | e
      ·rcases HG3.out b hb with h | h
       ·exact hFg (by rw [← e]; exact h)
       ·omega
      ·rcases HG3.out b hb with h | h
       ·exact hFp (by rw [← e]; exact h)
       ·omega
      ·rcases HG3.out b hb with h | h
       ·exact (HVn.out b e).2.1 (HFs.out b h).1
       ·have := hvl b e; omega
     have HSN := Lib.hid hSn
     have hHH : ∀ b, vh.ownBlock = some b → b ≠ g ∧ b ≠ p ∧ vf.ownBlock ≠ some b := fun b hb => ⟨fun e => by have := HHV.out b hb; omega, fun e => by have := HHV.out b hb; omega, fun e => by have := HHV.out b hb; have := hvl b e; omega⟩
     have HHO := Lib.hid hHH
     clear hvl hW4 hs4 hv4 hg4 hk4 hl4 hG4 hk4' hWa hLa ka kr3 hnh hsum hlen hSn hHH HW3 HL3 HF3 HV HC HPC HSL HK1
     go_upto_region 7 with fail
     refine wp_text 3 [.eq (vh), iE (nh : Int), iE 0] rfl (by kernel_rfl) ?_ ?_
     ·refine mE 1 10 ?_
      refine sW 2 rfl (fun a u E D hk=>exec_lenS _ slH _ _ _ _ rfl (dD D 0) HS4.out) ?_
      refine sW 3 rfl (fun a u E D hk=>exec_move _ _ rfl rfl) ?_
      exact fz
     intro gv w5 hV k5
     rw [dq 3 [54,55,56]]
     simp only [F7]
     rw [gQ hV 0 54 vh]
     rw [gQ hV 1 55 (.int .i64 (nh : Int))]
     rw [gQ hV 2 56 (.int .i64 0)]
     clear hV
     refine wpList_nil ?_
     have z5 := k5.size
     have HQ5 := Lib.hid (HQ4.out.kept k5)
     have HP5 := Lib.hid (HP4.out.kept k5)
     have HV5 := Lib.hid (HV4.out.kept k5)
     have HS5 := Lib.hid (HS4.out.kept k5)
     have HW5 := Lib.hid (HW4.out.kept k5)
     have K5 := K4.kept k5
     clear HQ4 HP4 HV4 HS4 HW4 K4 k5
     go_wp2_with fail
     go_loopw [8, 56] (fun vv t wz => ∃ (i : Nat), i ≤ nh ∧ t = .int .i64 (i : Int) ∧ Hid (Blk wz g 25 (o.q ((Oc.mk o fs left false false 0).more pr' no (H.take i)).left).cells) ∧ Hid (Sl wz 36 21 vv ((Oc.mk o fs left false false 0).more pr' no (H.take i)).f.length (fls ((Oc.mk o fs left false false 0).more pr' no (H.take i)).f)) ∧ Hid (Blk wz p 46 (rsd (k : Int) (.slice (some ⟨gs, os, none⟩) n c) u0 (lastOf last (fillsOf o pr' no left (H.take i))) (no + (i : Int)))) ∧ Hid (∀ b, vv.ownBlock = some b → vf.ownBlock = some b ∨ w5.heap.size ≤ b) ∧ Keep (fun b => b = g ∨ b = p ∨ vf.ownBlock = some b) w5 wz) (fun _ t _ => nh - (intOf t).toNat)
     case atStart => exact ⟨0, Nat.zero_le _, rfl, by rw [List.take_zero, Oc.more_nil]; exact HQ5.out, by rw [List.take_zero, Oc.more_nil]; exact HV5.out, by rw [List.take_zero]; simp only [fillsOf, lastOf, Int.ofNat_zero, Int.add_zero]; exact HP5.out, fun b hb => .inl hb, Keep.refl _ _⟩
     case round =>
      obtain ⟨i, hi, rfl, HQz, HVz, HPz, HVG, hkz⟩ := hrel
      obtain ⟨vv, hvv⟩ : ∃ y, y = u8 := ⟨_, rfl⟩
      subst hvv
      obtain ⟨wz, hwz⟩ : ∃ y, y = wr := ⟨_, rfl⟩
      subst hwz
      have zz := hkz.size
      have HVZ : Hid (∀ b, vv.ownBlock = some b → b < wz.heap.size) := fun b hb => HVz.out.lt hb
      by_cases hlt : i < nh
      ·obtain ⟨gh, off, ch, rfl⟩ := HS5.out.some_ (by omega)
       obtain ⟨h, hh⟩ : ∃ h, H[i]? = some h := ⟨H[i]'(by rw [HNH.out]; omega), List.getElem?_eq_getElem (by rw [HNH.out]; omega)⟩
       have hgs := HHO.out gh rfl
       have HE : Hid (wz.rangeAt gh (off + i * 10) h.cells) := range_keep (HS5.out.rng i h hh) hkz (fun e => by
        rcases e with e | e | e
        ·exact hgs.1 e
        ·exact hgs.2.1 e
        ·exact hgs.2.2 e)
       have HTK : Hid (H.take (i + 1) = H.take i ++ [h]) := by show _ = _; rw [List.take_add_one, hh]; rfl
       have hh1 : 1 ≤ h.n := HPOS.out h (List.mem_of_getElem? hh)
       have hlb : seenM (H.take i) + h.n ≤ left ∧ 0 ≤ seenM (H.take i) := by
        have e1 : seenM H = seenM (H.take i) + h.n + seenM (H.drop (i + 1)) := by
         rw [← seenM_snoc, ← HTK.out, ← seenM_append, List.take_append_drop]
        have hnn : ∀ Y : List Ent, (∀ y ∈ Y, 1 ≤ y.n) → 0 ≤ seenM Y := fun Y => by
         induction Y with
         | nil => intro _; simp [seenM, sumI]
         | cons y Y ih => intro hy; rw [seenM_cons]; have := ih (fun z hz => hy z (by simp [hz])); have := hy y (by simp); omega
        have e2 := hnn (H.drop (i + 1)) (fun y hy => HPOS.out y (List.mem_of_mem_drop hy))
        have e3 := hnn (H.take i) (fun y hy => HPOS.out y (List.mem_of_mem_take hy))
        have e4 := HSUM.out
        omega
       clear hh
       obtain ⟨xi, hxi⟩ : ∃ xi, (Oc.mk o fs left false false 0).more pr' no (H.take i) = xi := ⟨_, rfl⟩
       obtain ⟨la, hla⟩ : ∃ la, lastOf last (fillsOf o pr' no left (H.take i)) = la := ⟨_, rfl⟩
       have hxl : xi.left = left - seenM (H.take i) := by rw [← hxi]; rfl
       have hxf : xi.f.length = fs.length + i := by rw [← hxi]; show (fs ++ _).length = _; rw [List.length_append, fillsOf_len, List.length_take, HNH.out]; omega
       have HNX : Hid ((Oc.mk o fs left false false 0).more pr' no (H.take (i + 1)) = { xi with f := xi.f ++ [⟨h.o, o.q xi.left, pr', h.n, no + i + 1⟩], left := xi.left - h.n }) := by
        show _ = _
        rw [← hxi, HTK.out]
        unfold Oc.more
        simp only
        rw [fillsOf_append, seenM_snoc, List.length_take, HNH.out, Nat.min_eq_left hi]
        simp only [fillsOf, List.append_assoc]
        congr 1
        omega
       have HNF : Hid (lastOf last (fillsOf o pr' no left (H.take (i + 1))) = pr') := by
        show _ = _
        rw [HTK.out, fillsOf_append]
        simp only [fillsOf]
        exact lastOf_snoc _ _ _
       rw [hxi] at HQz HVz
       rw [hla] at HPz
       have hlb2 : h.n ≤ xi.left ∧ xi.left ≤ 2000000 := by omega
       have hxfl : xi.f.length ≤ 4000001 := by omega
       have hni : 0 ≤ no + (i : Int) ∧ no + (i : Int) ≤ 3000000000000 := by omega
       have HVN2 : Hid (∀ b, vv.ownBlock = some b → b ≠ g ∧ b ≠ p) := fun b hb => by
        rcases HVG.out b hb with e | e
        ·exact ⟨(HVn.out b e).2.2, fun e' => (HVn.out b e).2.1 (by rw [e']; exact hpFc)⟩
        ·omega
       clear hxi hla hxl hlb hxf
       go_upto_region 9 with fail
       refine wp_text 3 [pE gh (off + i * 10), .eq (h.v), .fresh wz.heap.size 39 zeroE.cells] rfl (by kernel_rfl) ?_ ?_
       ·refine sW 1 rfl (fun a u E D hk=>exec_ixo slH _ _ (gh) (off) nh ch i (off + i * 10) ((i : Int)) rfl (eE E) (eE E) (by first | rfl | omega) (hlt) (by first | rfl | omega)) ?_
        refine sW 2 rfl (fun a u E D hk=>exec_ldS 39 _ _ (gh) (off + i * 10) (h.cells) rfl (dD D 0) (range_kept HE.out hk) Try.underlying39 (by rw [h.len10]; exact szH)) ?_
        refine nW 3 rfl (fun a u E D hk=>⟨_, _, exec_alc 39 zeroE.cells rfl zH, ⟨_, rfl, hk.size, Blk.new u _ _⟩, ((Keep.refl _ u).alloc _)⟩) ?_
        exact fz
       intro gv w6 hV k6
       rw [dq 3 [58,59,13]]
       simp only [F7]
       have hv13 : (.fresh wz.heap.size 39 zeroE.cells : Kn).p (gv 13) w6 := hV 2 13 (by kernel_rfl)
       generalize gv 13 = v13 at hv13 ⊢
       rw [gQ hV 1 59 h.v]
       clear hV
       obtain ⟨b13, rfl, hb13, hB13⟩ := hv13
       refine l_setS 39 b13 39 zeroE.cells h.cells _ _ rfl rfl (by kernel_rfl) (by kernel_rfl) hB13 (by rw [Ent.len10]; exact szH) (by rw [Ent.len10, Ent.len10]) (Ent.one _) ?_
       intro w7 hB7 hk7 hs7
       simp only [Act.put]
       refine wpList_nil ?_
       have k7 : Kept wz w7 := k6.trans' hk7 (by omega)
       have z7 := k7.size
       have HB7 := Lib.hid hB7
       have l7 := hB7.lt
       have HP7 := Lib.hid (HPz.out.kept k7)
       have HN7 : Hid (w7.cell? ⟨p, 4, none⟩ = some (.int .i64 (no + (i : Int)))) := by show _ = _; rw [HP7.out.cell]; unfold rsd; split <;> rfl
       have hpz : p < wz.heap.size := by omega
       have hgz : g < wz.heap.size := by omega
       clear hB13 hB7 hk7 hs7 k6 HE HPz
       go_upto_region 10 with fail
       refine wp_text 7 [pE p 0, pE p 0, pE p 4, iE (no + (i : Int)), iE (no + (i : Int) + 1), pE p 0, pE p 4] rfl (by kernel_rfl) ?_ ?_
       ·refine mE 1 0 ?_
        refine nD 2 60 0 ?_
        refine fD 3 61 1 46 2 4 0 ?_
        refine sW 4 rfl (fun a u E D hk=>exec_loadi _ Try.underlying3 _ _ _ rfl (dD D 2) (Kept.cell hk (HN7.out))) ?_
        refine sW 5 rfl (fun a u E D hk=>exec_addn (no + (i : Int) + 1) (p := no + (i : Int)) (q := 1) rfl (dD D 3) rfl rfl (by omega) (by omega)) ?_
        refine nD 6 60 0 ?_
        refine fD 7 65 5 46 2 4 0 ?_
        exact fz
       intro gv w8 hV k8
       rw [dq 7 [60,61,62,63,64,65,66]]
       simp only [F7]
       rw [gQ hV 6 66 (.pointer (some ⟨p, 4, none⟩))]
       rw [gQ hV 4 64 (.int .i64 (no + (i : Int) + 1))]
       clear hV
       refine l_st1 3 p 4 46 _ (.int .i64 (no + (i : Int) + 1)) _ _ rfl rfl (by kernel_rfl) (by kernel_rfl) (by kernel_rfl) rfl rfl (HP7.out.kept k8) (by rw [rsd_len h12]; omega) ?_
       intro w9 hP9 hk9 hs9
       simp only [Act.put]
       refine wpList_nil ?_
       rw [rsd_no] at hP9
       have kp9 : Keep (· = p) w7 w9 := Keep.any k8 hk9
       have HP9 := Lib.hid hP9
       obtain ⟨_, _, vq9, hq9, _, _⟩ := HW5.out.lv (q, pr', X2) (by simp)
       have hqz := hq9.keep hkz (HSN.out q ((HW5.out.in_ (q, pr', X2) (by simp)) q (HW5.out.lv (q, pr', X2) (by simp)).1))
       have hqp : q ≠ p := fun e => HSN.out q ((HW5.out.in_ (q, pr', X2) (by simp)) q (HW5.out.lv (q, pr', X2) (by simp)).1) (.inr (.inl e))
       have HQP := Lib.hid hqp
       have HC9 : Hid (w9.cell? ⟨q, 0, none⟩ = some (.int .i64 pr')) := by show _ = _; rw [((hqz.kept k7).keep kp9 hqp).cell]; rfl
       clear hP9 hk9 hs9 k8 HP7 HN7 hq9 hqz hqp
       go_upto_region 11 with fail
       refine wp_text 7 [pE p 0, pE q 0, pE q 0, pE q 0, iE pr', pE p 0, pE p 3] rfl (by kernel_rfl) ?_ ?_
       ·refine mE 1 0 ?_
        refine mE 2 9 ?_
        refine nD 3 68 1 ?_
        refine fD 4 69 2 86 0 0 0 ?_
        refine sW 5 rfl (fun a u E D hk=>exec_loadi _ Try.underlying3 _ _ _ rfl (dD D 3) (Kept.cell hk (HC9.out))) ?_
        refine nD 6 67 0 ?_
        refine fD 7 72 5 46 1 3 0 ?_
        exact fz
       intro gv w10 hV k10
       rw [dq 7 [67,68,69,70,71,72,73]]
       simp only [F7]
       rw [gQ hV 6 73 (.pointer (some ⟨p, 3, none⟩))]
       rw [gQ hV 4 71 (.int .i64 pr')]
       clear hV
       refine l_st1 3 p 3 46 _ (.int .i64 pr') _ _ rfl rfl (by kernel_rfl) (by kernel_rfl) (by kernel_rfl) rfl rfl (HP9.out.kept k10) (by rw [rsd_len h12]; omega) ?_
       intro w11 hP11 hk11 hs11
       simp only [Act.put]
       refine wpList_nil ?_
       rw [rsd_last] at hP11
       have kp11 : Keep (· = p) w7 w11 := (kp9.kept k10).trans hk11 (fun _ _ h => h)
       have z11 := kp11.size
       have HP11 := Lib.hid hP11
       have HQ11 := Lib.hid ((HQz.out.kept k7).keep kp11 hgp)
       have HV11 := Lib.hid ((HVz.out.kept k7).keep kp11 (fun b hb => (HVN2.out b hb).2))
       have HB11 := Lib.hid (HB7.out.keep kp11 (by omega))
       have HR11 := Lib.hid (blk_range HB11.out)
       have HO11 := Lib.hid (blk_range HQ11.out)
       have HC11 : Hid (w11.cell? ⟨q, 0, none⟩ = some (.int .i64 pr')) := Keep.cell hk11 (k10.cell HC9.out) HQP.out
       have HN11 : Hid (w11.cell? ⟨p, 4, none⟩ = some (.int .i64 (no + (i : Int) + 1))) := by show _ = _; rw [HP11.out.cell]; unfold rsd; split <;> rfl
       clear hP11 hk11 hs11 k10 kp9 HP9 HQz HVz HB7 HC9
       go_upto_region 12 with fail
       refine wp_free 16 [.eq (vv), pE b13 0, .eq (h.o.v), .eq ((o.q xi.left).v), pE q 0, pE q 0, pE q 0, iE pr', pE b13 9, iE h.n, pE p 0, pE p 0, pE p 4, iE (no + (i : Int) + 1), .eq ((Fl.mk h.o (o.q xi.left) pr' h.n (no + (i : Int) + 1)).v), .sl w11.heap.size 36 21 1 (Fl.mk h.o (o.q xi.left) pr' h.n (no + (i : Int) + 1)).cells] (by kernel_rfl) rfl (by kernel_rfl) ?_ ?_
       ·refine mE 1 8 ?_
        refine fE 2 13 39 0 0 0 ?_
        refine sW 3 rfl (fun a u E D hk=>exec_ldS 25 _ _ (b13) (0) (h.o.cells) rfl (dD D 1) (ent_ord (range_kept HR11.out hk)) Try.underlying25 (by rw [h.o.len9]; exact ord_size)) ?_
        refine sW 4 rfl (fun a u E D hk=>exec_ldS 25 _ _ (g) (0) ((o.q xi.left).cells) rfl (eE E) (range_kept HO11.out hk) Try.underlying25 (by rw [(o.q xi.left).len9]; exact ord_size)) ?_
        refine mE 5 9 ?_
        refine nD 6 78 4 ?_
        refine fD 7 79 5 86 0 0 0 ?_
        refine sW 8 rfl (fun a u E D hk=>exec_loadi _ Try.underlying3 _ _ _ rfl (dD D 6) (Kept.cell hk (HC11.out))) ?_
        refine fE 9 13 39 1 9 0 ?_
        refine sW 10 rfl (fun a u E D hk=>exec_loadi _ Try.underlying3 _ _ _ rfl (dD D 8) (range_int (range_kept HR11.out hk) 9 _ rfl)) ?_
        refine mE 11 0 ?_
        refine nD 12 84 10 ?_
        refine fD 13 85 11 46 2 4 0 ?_
        refine sW 14 rfl (fun a u E D hk=>exec_loadi _ Try.underlying3 _ _ _ rfl (dD D 12) (Kept.cell hk (HN11.out))) ?_
        refine sW 15 rfl (fun a u E D hk=>exec_bF _ _ _ _ _ h.o (o.q xi.left) pr' h.n (no + (i : Int) + 1) rfl (dD D 2) (dD D 3) (dD D 7) (dD D 9) (dD D 13)) ?_
        refine nW 16 rfl (fun a u E D hk=>⟨_, _, exec_oneS slF _ (Fl.mk h.o (o.q xi.left) pr' h.n (no + (i : Int) + 1)).cells (by omega) rfl (dD D 14) ((Fl.mk h.o (o.q xi.left) pr' h.n (no + (i : Int) + 1)).len21), (sl_one u 36 21 _ w11.heap.size ((Fl.mk h.o (o.q xi.left) pr' h.n (no + (i : Int) + 1)).len21) (by omega) hk.size), ((Keep.refl _ u).alloc _)⟩) ?_
        exact fz
       intro gv w12 hV k12
       rw [dq 16 [74,75,76,77,78,79,80,81,82,83,84,85,86,87,88,89]]
       simp only [F7]
       rw [gQ hV 0 74 vv]
       have hv89 : (.sl w11.heap.size 36 21 1 (Fl.mk h.o (o.q xi.left) pr' h.n (no + (i : Int) + 1)).cells : Kn).p (gv 89) w12 := hV 15 89 (by kernel_rfl)
       generalize gv 89 = v89 at hv89 ⊢
       clear hV
       obtain ⟨v13, w13, hr13, hs13, hk13, ho13⟩ := run_append_sl slF _ w12 vv v89 xi.f.length 1 (fls xi.f) (Fl.mk h.o (o.q xi.left) pr' h.n (no + (i : Int) + 1)).cells (HV11.out.kept k12) hv89.1 (Fl.one _) (by unfold maxLen; omega) (by omega)
       refine l_new v13 w13 rfl (exec_appS slF (.tmp 74) (.tmp 89) vv v89 rfl (by kernel_rfl) (by kernel_rfl) v13 w13 hr13) ?_
       simp only [Act.put, sA, sS, sZ]
       refine l_val (v13) rfl (exec_assign _ _ rfl (by kernel_rfl)) ?_
       simp only [Act.put, sA, sS, sZ]
       refine wpList_nil ?_
       have z12 := k12.size
       have z13 := hk13.size
       have k1113 : Keep (fun b => vv.ownBlock = some b) w11 w13 := Keep.any k12 hk13
       have HV13 := Lib.hid hs13
       have HVN13 : Hid (∀ b, v13.ownBlock = some b → b ≠ g ∧ b ≠ p) := fun b hb => by
        rcases ho13 b hb with e | e
        ·exact HVN2.out b e
        ·omega
       have HVG13 : Hid (∀ b, v13.ownBlock = some b → vf.ownBlock = some b ∨ w5.heap.size ≤ b) := fun b hb => by
        rcases ho13 b hb with e | e
        ·exact HVG.out b e
        ·exact .inr (by omega)
       have HQ13 := Lib.hid (HQ11.out.keep k1113 (fun e => (HVN2.out g e).1 rfl))
       have HP13 := Lib.hid (HP11.out.keep k1113 (fun e => (HVN2.out p e).2 rfl))
       have HN13 : Hid (w13.cell? ⟨b13, 9, none⟩ = some (.int .i64 h.n)) := range_int (blk_range (HB11.out.keep k1113 (fun e => by have := HVZ.out b13 e; omega))) 9 _ rfl
       have HL13 : Hid (w13.cell? ⟨g, 6, none⟩ = some (.int .i64 xi.left)) := by show _ = _; rw [HQ13.out.cell]; rfl
       have K13 : Keep (fun b => b = g ∨ b = p ∨ vf.ownBlock = some b) w5 w13 := by
        refine (Keep.trans (hkz.kept k7) kp11 (fun b _ e => .inr (.inl e))).trans k1113 (fun b hb e => ?_)
        rcases HVG.out b e with e | e
        ·exact .inr (.inr e)
        ·omega
       clear hs13 hk13 ho13 hr13 hv89 HQ11 HV11 HP11 HB11 HR11 HO11 HC11 HN11 k12 k1113 kp11 k7
       go_upto_region 13 with fail
       refine wp_text 6 [pE g 6, iE xi.left, pE b13 9, iE h.n, iE (xi.left - h.n), pE g 6] rfl (by kernel_rfl) ?_ ?_
       ·refine fE 1 3 25 6 6 0 ?_
        refine sW 2 rfl (fun a u E D hk=>exec_loadi _ Try.underlying3 _ _ _ rfl (dD D 0) (Kept.cell hk (HL13.out))) ?_
        refine fE 3 13 39 1 9 0 ?_
        refine sW 4 rfl (fun a u E D hk=>exec_loadi _ Try.underlying3 _ _ _ rfl (dD D 2) (Kept.cell hk (HN13.out))) ?_
        refine sW 5 rfl (fun a u E D hk=>exec_subn (xi.left - h.n) (p := xi.left) (q := h.n) rfl (dD D 1) (dD D 3) rfl (by omega) (by omega)) ?_
        refine fE 6 3 25 6 6 0 ?_
        exact fz
       intro gv w14 hV k14
       rw [dq 6 [91,92,93,94,95,96]]
       simp only [F7]
       rw [gQ hV 5 96 (.pointer (some ⟨g, 6, none⟩))]
       rw [gQ hV 4 95 (.int .i64 (xi.left - h.n))]
       clear hV
       refine l_st1 3 g 6 25 _ (.int .i64 (xi.left - h.n)) _ _ rfl rfl (by kernel_rfl) (by kernel_rfl) (by kernel_rfl) rfl rfl (HQ13.out.kept k14) (by rw [Ord.len9]; omega) ?_
       intro w15 hQ15 hk15 hs15
       simp only [Act.put]
       refine wpList_nil ?_
       have HQ15 : Hid (Blk w15 g 25 (o.q ((Oc.mk o fs left false false 0).more pr' no (H.take (i + 1))).left).cells) := by
        show Blk _ _ _ _
        rw [HNX.out]
        exact hQ15
       have HV15 : Hid (Sl w15 36 21 v13 ((Oc.mk o fs left false false 0).more pr' no (H.take (i + 1))).f.length (fls ((Oc.mk o fs left false false 0).more pr' no (H.take (i + 1))).f)) := by
        show Sl _ _ _ _ _ _
        rw [HNX.out]
        simp only
        rw [List.length_append, fls_snoc]
        exact (HV13.out.kept k14).keep hk15 (fun b hb e => (HVN13.out b hb).1 e)
       have HP15 : Hid (Blk w15 p 46 (rsd (k : Int) (.slice (some ⟨gs, os, none⟩) n c) u0 (lastOf last (fillsOf o pr' no left (H.take (i + 1)))) (no + ((i + 1 : Nat) : Int)))) := by
        show Blk _ _ _ _
        rw [HNF.out, show no + ((i + 1 : Nat) : Int) = no + (i : Int) + 1 by omega]
        exact (HP13.out.kept k14).keep hk15 (fun e => hgp e.symm)
       have K15 : Keep (fun b => b = g ∨ b = p ∨ vf.ownBlock = some b) w5 w15 := (K13.kept k14).trans hk15 (fun b _ e => .inl e)
       clear hQ15 hk15 hs15 HQ13 HV13 HP13 K13 k14 HN13 HL13 HNX HNF
       go_wp2
       exact ⟨⟨i + 1, by omega, by go_num, HQ15, HV15, HP15, HVG13, K15⟩, by simp [intOf]; omega⟩
      ·have hin : i = nh := by omega
       subst hin
       have HT : Hid (H.take i = H) := by show _ = _; exact List.take_of_length_le (by rw [HNH.out]; omega)
       rw [HT.out] at HQz HVz HPz
       obtain ⟨la, hla⟩ : ∃ la, lastOf last (fillsOf o pr' no left H) = la := ⟨_, rfl⟩
       have HLA := Lib.hid hla
       rw [hla] at HPz
       have HWz := Lib.hid (HW5.out.keep hkz HSN.out)
       have Kz : Keep (fun b => Fs b ∨ b = g ∨ b = p ∨ vf.ownBlock = some b) wo wz := (Keep.mono (T := fun b => Fs b ∨ b = g ∨ b = p ∨ vf.ownBlock = some b) K5 (fun _ _ e => .inl e)).trans hkz (fun b _ e => .inr e)
       have HLF : Hid ((Oc.mk o fs left false false 0).more pr' no H = ⟨o, fs ++ fillsOf o pr' no left H, left - seenM H, false, false, 0⟩) := rfl
       rw [HLF.out] at HQz HVz
       simp only at HQz HVz
       have HM10 : Hid (B.matched o = ⟨(fs ++ fillsOf o pr' no left H) ++ (if ow = true then Mt.mk [] (left - seenM H) true (dropE [] R (pr', X2)) else matchM o (no + H.length) (left - seenM H) (dropE [] R (pr', X2))).f, (if ow = true then Mt.mk [] (left - seenM H) true (dropE [] R (pr', X2)) else matchM o (no + H.length) (left - seenM H) (dropE [] R (pr', X2))).left, (if ow = true then Mt.mk [] (left - seenM H) true (dropE [] R (pr', X2)) else matchM o (no + H.length) (left - seenM H) (dropE [] R (pr', X2))).self, (if ow = true then Mt.mk [] (left - seenM H) true (dropE [] R (pr', X2)) else matchM o (no + H.length) (left - seenM H) (dropE [] R (pr', X2))).L⟩) := by
        show _ = _
        rw [HM.out, HRD.out]
        unfold roundM
        simp only
        rw [HTT.out]
        simp only [List.append_assoc]
       have HS10 := Lib.hid HRI.out.sid
       have HLN10 : Hid (la = lastOf B.last (fs ++ fillsOf o pr' no left H) ∧ no + (H.length : Int) = B.no + ((fs ++ fillsOf o pr' no left H).length : Nat)) := by
        refine ⟨by rw [lastOf_append, ← HLN.out.1, HLA.out], ?_⟩
        rw [List.length_append, fillsOf_len, HLN.out.2]
        omega
       have hlf10 : 0 ≤ left - seenM H ∧ (((fs ++ fillsOf o pr' no left H).length : Nat) : Int) + (left - seenM H) ≤ o.qty := by
        have h1 := HRI.out.sum
        have h2 := HRI.out.len
        rw [List.length_append, fillsOf_len]
        simp only at h1 h2
        omega
       obtain ⟨_, _, vq, hq0, hq1, _⟩ := HWz.out.lv (q, pr', X2) (by simp)
       have HQC := Lib.hid (hq0.cell 1)
       obtain ⟨m, hm⟩ : ∃ m, X2.length = m := ⟨_, rfl⟩
       simp only at hq1
       rw [hm] at hq1
       have HQS := Lib.hid hq1
       have hNH := HNH.out
       rw [← hNH] at HPz
       have HPV := Lib.hid (rsd_cell h12 HPz.out)
       clear hq0 hq1 HM HRD HT hla HW5 HQ5 HP5 HV5 HS5 hlt hkz
       by_cases hm0 : m = 0
       ·have hX2 : X2 = [] := List.eq_nil_of_length_eq_zero (by omega)
        go_upto_region 15 with fail
        refine wp_text 6 [pE q 0, pE q 0, pE q 1, .eq (vq), iE (m : Int), bE true] rfl (by kernel_rfl) ?_ ?_
        ·refine mE 1 9 ?_
         refine nD 2 98 0 ?_
         refine fD 3 99 1 86 1 1 0 ?_
         refine sW 4 rfl (fun a u E D hk=>exec_ldv _ _ Try.underlying84 _ _ _ rfl (dD D 2) (Kept.cell hk (HQC.out))) ?_
         refine sW 5 rfl (fun a u E D hk=>exec_lenS _ slR _ _ _ _ rfl (dD D 3) HQS.out) ?_
         refine aS 6 rfl (fun a u E D hk=>exec_eqn rfl (dD D 4) rfl) (decide_eq_true (by omega)) ?_
         exact fz
        intro gv w20 hV k20
        rw [dq 6 [98,99,100,101,102,103]]
        simp only [F7]
        rw [gQ hV 5 103 (.bool true)]
        clear hV
        refine wpList_nil ?_
        have HWw := HWz.out.kept k20
        have HSW : Hid (Sl w20 87 1 (.slice (some ⟨gs, os, none⟩) n c) n (ptrs ((q, pr', X2) :: ZR))) := by show Sl _ _ _ _ _ _; have := HWw.sl; rw [List.nil_append] at this; simp only [List.length_cons] at this; have e := HNZ.out; simp only [List.length_cons] at e; rw [e] at this; exact this
        have HPV20 := Lib.hid (k20.cell HPV.out)
        obtain ⟨vb, hvb, hob, hsb⟩ := slice_lS slQR _ n 1 (by omega) _ w20 HSW.out
        rw [show ((1 : Nat) : Int) = 1 from rfl] at hvb
        have HVB := Lib.hid hvb
        have hZl : ZR.length = n - 1 := by have e := HNZ.out; simp only [List.length_cons] at e; omega
        have HSB : Hid (∀ u, Kept w20 u → Sl u 87 1 vb (n - 1) (ptrs ZR)) := fun u hk => by
         have := hsb u _ (HSW.out.kept hk)
         rwa [ptrs_drop] at this
        have z20 := k20.size
        have hn64 : n ≤ 70 := by
         have h1 := HSr.out.ok.len
         have h2 : (levs ZR).length = R.length := by rw [HER.out]
         rw [levs_len] at h2
         simp only [List.length_cons] at h1
         omega
        clear hvb hob hsb HSW HPV
        go_upto_region 16 with fail
        refine wp_free 13 [pE p 0, iE (k : Int), .emp w20.heap.size 87, pE p 0, iE (k : Int), pE p 0, pE p 0, pE p (0 + k * 1), .eq (.slice (some ⟨gs, os, none⟩) n c), .eq (vb), .sl w20.heap.size 87 1 (n - 1) (ptrs ZR), pE p 0, pE p 0] (by kernel_rfl) rfl (by kernel_rfl) ?_ ?_
        ·refine mE 1 0 ?_
         refine mE 2 7 ?_
         refine nW 3 rfl (fun a u E D hk=>⟨_, _, exec_none 43 87 1 rfl slQR.und (by kernel_rfl), ⟨_, rfl, hk.size, Blk.new u _ _⟩, ((Keep.refl _ u).alloc _)⟩) ?_
         refine mE 4 0 ?_
         refine mE 5 7 ?_
         refine nD 6 107 3 ?_
         refine fD 7 109 5 46 0 0 0 ?_
         refine sW 8 rfl (fun a u E D hk=>exec_elem 44 43 3 1 _ _ p 0 k rfl Try.underlying44 (by kernel_rfl) (dD D 6) (dD D 4) (by omega)) ?_
         refine sW 9 rfl (fun a u E D hk=>exec_ldv _ _ Try.underlying43 _ _ _ rfl (dD D 7) (Kept.cell hk (HPV20.out))) ?_
         refine sW 10 rfl (fun a u E D hk=>exec_slcL slQR _ _ _ vb _ rfl (dD D 8) rfl (HVB.out u)) ?_
         refine fsteps_cons 11 rfl (fun a u hE hD hk => (by obtain ⟨v', u', hr, hp, hkk⟩ := run_append_emp slQR _ u (a.eval (.tmp 106)) vb (n - 1) w20.heap.size _ ((dD hD 2)) (HSB.out u hk) (ptrs_one _) (by omega) (by omega) hk.size; exact f_new v' u' rfl (wanted_none rfl _) (exec_appS slQR (.tmp 106) (.tmp 113) _ vb rfl rfl (dD hD 9) v' u' hr) hp hkk)) ?_
         refine nD 12 104 0 ?_
         refine fD 13 115 11 46 0 0 0 ?_
         exact fz
        intro gv w21 hV k21
        rw [dq 13 [104,105,106,107,108,109,110,111,112,113,114,115,116]]
        simp only [F7]
        rw [gQ hV 12 116 (.pointer (some ⟨p, 0, none⟩))]
        rw [gQ hV 1 105 (.int .i64 (k : Int))]
        have hv114 : (.sl w20.heap.size 87 1 (n - 1) (ptrs ZR) : Kn).p (gv 114) w21 := hV 10 114 (by kernel_rfl)
        generalize gv 114 = v114 at hv114 ⊢
        clear hV
        refine l_val (.pointer (some ⟨p, 0 + k * 1, none⟩)) rfl (exec_elem 44 43 3 1 (.tmp 116) (.tmp 105) p 0 k rfl Try.underlying44 (by kernel_rfl) rfl rfl (by omega)) ?_
        simp only [Act.put, sA, sS, sZ]
        refine l_st1 43 p (0 + k * 1) 46 _ v114 _ _ rfl rfl (by kernel_rfl) (by kernel_rfl) (by kernel_rfl) (sl_cells hv114.1) (sl_onec hv114.1) ((HPz.out.kept k20).kept k21) (by rw [rsd_len h12]; omega) ?_
        intro w22 hP22 hk22 hs22
        simp only [Act.put]
        refine wpList_nil ?_
        rw [rsd_set h12] at hP22
        have z21 := k21.size
        have z22 := hk22.size
        obtain ⟨FX, hWX, hgX, hkX, _⟩ := HWw.fewer (w' := w21) (Z' := ZR) (v' := v114) (by rw [List.nil_append]; exact List.sublist_cons_self _ _) (Keep.mono k21 (fun _ _ h => h.elim)) (by rw [hZl]; exact hv114.1) (fun b hb => .inr (hv114.2 b hb))
        have hpX : ¬ FX p := fun h => (hgX p h).elim (fun h => HSN.out p h (.inr (.inl rfl))) (fun h => by omega)
        have hgX2 : ¬ FX g := fun h => (hgX g h).elim (fun h => HSN.out g h (.inl rfl)) (fun h => by omega)
        have HWX : Hid (RWay w22 FX v114 (dropE [] R (pr', X2))) := by
         show Way _ _ _ _ _ _ _
         refine ⟨ZR, G4, ?_, hWX.keep hk22 (fun b hb e => hpX (by have e2 : b = p := e; rw [← e2]; exact hb))⟩
         rw [HER.out, hX2]
         rfl
        have HPX := Lib.hid hP22
        have kz2 : Keep (fun b => b = p) wz w22 := (Keep.mono (T := fun b => b = p) (k20.trans k21) (fun _ _ e => e.elim)).trans hk22 (fun _ _ e => e)
        have HQX := Lib.hid (HQz.out.keep kz2 hgp)
        have HVX := Lib.hid (HVz.out.keep kz2 (fun b hb e => by
         have e2 : b = p := e
         rcases HVG.out b hb with h | h
         ·exact (HVn.out b h).2.1 (by rw [e2]; exact hpFc)
         ·omega))
        have HGX : Hid (∀ b, FX b → Fs4 b ∨ wz.heap.size ≤ b) := fun b hb => (hgX b hb).imp id (fun h => by omega)
        have KX : Keep (fun b => Fs b ∨ b = g ∨ b = p ∨ vf.ownBlock = some b) wo w22 := Kz.trans kz2 (fun b _ e => .inr (.inr (.inl e)))
        clear hP22 hk22 hs22 hv114 hWX hgX hkX kz2 HWz HPz HQz HVz HVB HSB k21 HWw HQC HQS HPV20 k20
        obtain ⟨F10, hb10, hg10, hi10⟩ := HJ.out w22 _ _ _ _ _ _ KX (fun b hb e => by
         rcases e with e | e | e | e
         ·exact .inl e
         ·exact absurd (by rw [← e]; exact hb) hgFc
         ·exact .inr e
         ·exact absurd hb (HVn.out b e).2.1) HPX.out HWX.out (fun b hb => (HGX.out b hb).elim (fun h => HG3.out b h) (fun h => .inr (by omega)))
        rw [Bok.to_to hs12] at hb10
        have HB10 := Lib.hid hb10
        have HI10 := Lib.hid hi10
        have HVN10 : Hid (∀ b, vv.ownBlock = some b → w1.heap.size ≤ b ∧ ¬ F10 b ∧ b ≠ g) := fun b hb => by
         rcases HVG.out b hb with h | h
         ·refine ⟨(HVn.out b h).1, fun e => ?_, (HVn.out b h).2.2⟩
          have hvl := HVL.out b h
          rcases (HI10.out b).1 e with e | e
          ·exact (HVn.out b h).2.1 e
          ·rcases HGX.out b e with e | e
           ·rcases HG3.out b e with e | e
            ·exact (HVn.out b h).2.1 (HFs.out b e).1
            ·omega
           ·omega
         ·refine ⟨by omega, fun e => ?_, by omega⟩
          have hvz := HVZ.out b hb
          rcases (HI10.out b).1 e with e | e
          ·have := HLTF.out b e; omega
          ·rcases HGX.out b e with e | e
           ·have := HW4L.out b e; omega
           ·omega
        have HG10 : Hid (Grow w1 F F10) := fun b hb => by
         rcases (HI10.out b).1 hb with h | h
         ·exact HGr.out b h
         ·rcases HGX.out b h with h | h
          ·rcases HG3.out b h with h | h
           ·exact HGr.out b (HFs.out b h).1
           ·exact .inr (by omega)
          ·exact .inr (by omega)
        have K10 : Keep (fun b => F b ∨ b = g) w1 w22 := by
         refine Keep.trans kwq KX (fun b hb e => ?_)
         rcases e with e | e | e | e
         ·exact (HGr.out b (HFs.out b e).1).elim .inl (fun e => by omega)
         ·exact .inr e
         ·rw [e]; exact .inl hpF
         ·have := (HVn.out b e).1; omega
        have HME : Hid (ow = false → mQ g w22 < mQ g wo) := fun ho => by
         have h1 := HRI.out.prog
         have h2 := HRI.out.sum
         have e1 := mQ_is HQX.out
         have e2 := HMO.out
         simp only at h1 h2
         rw [ho] at h1
         simp at h1
         omega
        have zX2 := K10.size
        clear hb10 hg10 hi10 KX HPX HWX HGX HJ HBr HVr HVn HGr kwq
        cases how : ow with
        | true =>
         have HFIN : Hid (B.matched o = ⟨fs ++ fillsOf o pr' no left H, left - seenM H, true, dropE [] R (pr', X2)⟩) := by
          show _ = _
          rw [HM10.out, how]
          simp
         have HLX : Hid (w22.cell? ⟨g, 6, none⟩ = some (.int .i64 (left - seenM H))) := by show _ = _; rw [HQX.out.cell]; rfl
         clear HM10 how
         go_upto_region 18 with fail
         refine wp_free 6 [.eq (vv), pE g 6, iE (left - seenM H), .eq (vv), iE (left - seenM H), bE true] (by kernel_rfl) rfl (by kernel_rfl) ?_ ?_
         ·refine mE 1 8 ?_
          refine fE 2 3 25 6 6 0 ?_
          refine sW 3 rfl (fun a u E D hk=>exec_loadi _ Try.underlying3 _ _ _ rfl (dD D 1) (Kept.cell hk (HLX.out))) ?_
          refine mD 4 119 0 ?_
          refine mD 5 121 2 ?_
          refine sW 6 rfl (fun a u E D hk=>exec_assign _ _ rfl rfl) ?_
          exact fz
         intro gv wy hV ky
         rw [dq 6 [119,120,121,4,5,6]]
         simp only [F7]
         rw [gQ hV 3 4 vv]
         rw [gQ hV 4 5 (.int .i64 (left - seenM H))]
         rw [gQ hV 5 6 (.bool true)]
         clear hV
         refine wpList_nil ?_
         have HEND : Hid (RMatchIn w F p B o (B.matched o) (.returned (.tuple #[vv, .int .i64 (left - seenM H), .bool true])) wy) := by
          show RMatchIn _ _ _ _ _ _ _ _
          rw [HFIN.out]
          unfold RMatchIn
          rw [HSE.out]
          have hl := HLN10.out
          have hb := HB10.out.kept ky
          rw [hl.1, hl.2] at hb
          exact ⟨F10, vv, rfl, hb, HVX.out.kept ky, fun b hb => ⟨by have := (HVN10.out b hb).1; omega, (HVN10.out b hb).2.1⟩, fun b hb => (HG10.out b hb).imp id (fun h => by omega), ((Keep.any k1 K10).mono (fun b hb e => e.elim id (fun e => by omega))).kept ky⟩
         clear HB10 HVX HVN10 HFIN
         go_wp2
         go_ret3
         exact HEND.out
        | false =>
         have HM11 : Hid (B.matched o = ⟨(fs ++ fillsOf o pr' no left H) ++ (matchM o (no + H.length) (left - seenM H) (dropE [] R (pr', X2))).f, (matchM o (no + H.length) (left - seenM H) (dropE [] R (pr', X2))).left, (matchM o (no + H.length) (left - seenM H) (dropE [] R (pr', X2))).self, (matchM o (no + H.length) (left - seenM H) (dropE [] R (pr', X2))).L⟩) := by
          show _ = _
          rw [HM10.out, how]
          simp
         have HME2 := Lib.hid (HME.out how)
         have HLF10 := Lib.hid hlf10
         clear HM10 how HME
         go_wp2
         exact ⟨⟨dropE [] R (pr', X2), _, _, _, _, F10, HB10, HQX, HVX, HVN10, HG10, K10, HS10, HLN10, HLF10.out, HM11⟩, HME2.out⟩
       ·go_upto_region 15 with fail
        refine wp_text 6 [pE q 0, pE q 0, pE q 1, .eq (vq), iE (m : Int), bE false] rfl (by kernel_rfl) ?_ ?_
        ·refine mE 1 9 ?_
         refine nD 2 98 0 ?_
         refine fD 3 99 1 86 1 1 0 ?_
         refine sW 4 rfl (fun a u E D hk=>exec_ldv _ _ Try.underlying84 _ _ _ rfl (dD D 2) (Kept.cell hk (HQC.out))) ?_
         refine sW 5 rfl (fun a u E D hk=>exec_lenS _ slR _ _ _ _ rfl (dD D 3) HQS.out) ?_
         refine aS 6 rfl (fun a u E D hk=>exec_eqn rfl (dD D 4) rfl) (decide_eq_false (by omega)) ?_
         exact fz
        intro gv w20 hV k20
        rw [dq 6 [98,99,100,101,102,103]]
        simp only [F7]
        rw [gQ hV 5 103 (.bool false)]
        clear hV
        refine wpList_nil ?_
        have z20 := k20.size
        have hX2 : ¬ X2.isEmpty = true := fun h => hm0 (by rw [← hm, List.isEmpty_iff.1 h]; rfl)
        have HWX : Hid (RWay w20 Fs4 (.slice (some ⟨gs, os, none⟩) n c) (dropE [] R (pr', X2))) := by
         show Way _ _ _ _ _ _ _
         refine ⟨[] ++ (q, pr', X2) :: ZR, G4, ?_, HWz.out.kept k20⟩
         unfold dropE
         rw [if_neg hX2, List.nil_append, levs_cons, HER.out]
         rfl
        have HPX := Lib.hid (HPz.out.kept k20)
        have HQX := Lib.hid (HQz.out.kept k20)
        have HVX := Lib.hid (HVz.out.kept k20)
        have HGX : Hid (∀ b, Fs4 b → Fs4 b ∨ wz.heap.size ≤ b) := fun b hb => .inl hb
        have KX := Kz.kept k20
        clear HWz HPz HQz HVz HQC HQS HPV k20
        obtain ⟨F10, hb10, hg10, hi10⟩ := HJ.out w20 _ _ _ _ _ _ KX (fun b hb e => by
         rcases e with e | e | e | e
         ·exact .inl e
         ·exact absurd (by rw [← e]; exact hb) hgFc
         ·exact .inr e
         ·exact absurd hb (HVn.out b e).2.1) HPX.out HWX.out (fun b hb => (HGX.out b hb).elim (fun h => HG3.out b h) (fun h => .inr (by omega)))
        rw [Bok.to_to hs12] at hb10
        have HB10 := Lib.hid hb10
        have HI10 := Lib.hid hi10
        have HVN10 : Hid (∀ b, vv.ownBlock = some b → w1.heap.size ≤ b ∧ ¬ F10 b ∧ b ≠ g) := fun b hb => by
         rcases HVG.out b hb with h | h
         ·refine ⟨(HVn.out b h).1, fun e => ?_, (HVn.out b h).2.2⟩
          have hvl := HVL.out b h
          rcases (HI10.out b).1 e with e | e
          ·exact (HVn.out b h).2.1 e
          ·rcases HGX.out b e with e | e
           ·rcases HG3.out b e with e | e
            ·exact (HVn.out b h).2.1 (HFs.out b e).1
            ·omega
           ·omega
         ·refine ⟨by omega, fun e => ?_, by omega⟩
          have hvz := HVZ.out b hb
          rcases (HI10.out b).1 e with e | e
          ·have := HLTF.out b e; omega
          ·rcases HGX.out b e with e | e
           ·have := HW4L.out b e; omega
           ·omega
        have HG10 : Hid (Grow w1 F F10) := fun b hb => by
         rcases (HI10.out b).1 hb with h | h
         ·exact HGr.out b h
         ·rcases HGX.out b h with h | h
          ·rcases HG3.out b h with h | h
           ·exact HGr.out b (HFs.out b h).1
           ·exact .inr (by omega)
          ·exact .inr (by omega)
        have K10 : Keep (fun b => F b ∨ b = g) w1 w20 := by
         refine Keep.trans kwq KX (fun b hb e => ?_)
         rcases e with e | e | e | e
         ·exact (HGr.out b (HFs.out b e).1).elim .inl (fun e => by omega)
         ·exact .inr e
         ·rw [e]; exact .inl hpF
         ·have := (HVn.out b e).1; omega
        have HME : Hid (ow = false → mQ g w20 < mQ g wo) := fun ho => by
         have h1 := HRI.out.prog
         have h2 := HRI.out.sum
         have e1 := mQ_is HQX.out
         have e2 := HMO.out
         simp only at h1 h2
         rw [ho] at h1
         simp at h1
         omega
        have zX2 := K10.size
        clear hb10 hg10 hi10 KX HPX HWX HGX HJ HBr HVr HVn HGr kwq
        cases how : ow with
        | true =>
         have HFIN : Hid (B.matched o = ⟨fs ++ fillsOf o pr' no left H, left - seenM H, true, dropE [] R (pr', X2)⟩) := by
          show _ = _
          rw [HM10.out, how]
          simp
         have HLX : Hid (w20.cell? ⟨g, 6, none⟩ = some (.int .i64 (left - seenM H))) := by show _ = _; rw [HQX.out.cell]; rfl
         clear HM10 how
         go_upto_region 18 with fail
         refine wp_free 6 [.eq (vv), pE g 6, iE (left - seenM H), .eq (vv), iE (left - seenM H), bE true] (by kernel_rfl) rfl (by kernel_rfl) ?_ ?_
         ·refine mE 1 8 ?_
          refine fE 2 3 25 6 6 0 ?_
          refine sW 3 rfl (fun a u E D hk=>exec_loadi _ Try.underlying3 _ _ _ rfl (dD D 1) (Kept.cell hk (HLX.out))) ?_
          refine mD 4 119 0 ?_
          refine mD 5 121 2 ?_
          refine sW 6 rfl (fun a u E D hk=>exec_assign _ _ rfl rfl) ?_
          exact fz
         intro gv wy hV ky
         rw [dq 6 [119,120,121,4,5,6]]
         simp only [F7]
         rw [gQ hV 3 4 vv]
         rw [gQ hV 4 5 (.int .i64 (left - seenM H))]
         rw [gQ hV 5 6 (.bool true)]
         clear hV
         refine wpList_nil ?_
         have HEND : Hid (RMatchIn w F p B o (B.matched o) (.returned (.tuple #[vv, .int .i64 (left - seenM H), .bool true])) wy) := by
          show RMatchIn _ _ _ _ _ _ _ _
          rw [HFIN.out]
          unfold RMatchIn
          rw [HSE.out]
          have hl := HLN10.out
          have hb := HB10.out.kept ky
          rw [hl.1, hl.2] at hb
          exact ⟨F10, vv, rfl, hb, HVX.out.kept ky, fun b hb => ⟨by have := (HVN10.out b hb).1; omega, (HVN10.out b hb).2.1⟩, fun b hb => (HG10.out b hb).imp id (fun h => by omega), ((Keep.any k1 K10).mono (fun b hb e => e.elim id (fun e => by omega))).kept ky⟩
         clear HB10 HVX HVN10 HFIN
         go_wp2
         go_ret3
         exact HEND.out
        | false =>
         have HM11 : Hid (B.matched o = ⟨(fs ++ fillsOf o pr' no left H) ++ (matchM o (no + H.length) (left - seenM H) (dropE [] R (pr', X2))).f, (matchM o (no + H.length) (left - seenM H) (dropE [] R (pr', X2))).left, (matchM o (no + H.length) (left - seenM H) (dropE [] R (pr', X2))).self, (matchM o (no + H.length) (left - seenM H) (dropE [] R (pr', X2))).L⟩) := by
          show _ = _
          rw [HM10.out, how]
          simp
         have HME2 := Lib.hid (HME.out how)
         have HLF10 := Lib.hid hlf10
         clear HM10 how HME
         go_wp2
         exact ⟨⟨dropE [] R (pr', X2), _, _, _, _, F10, HB10, HQX, HVX, HVN10, HG10, K10, HS10, HLN10, HLF10.out, HM11⟩, HME2.out⟩
  ·have HFIN : Hid (B.matched o = ⟨fs, left, false, L⟩) := by show _ = _; rw [HM.out, match_zero (by omega)]; simp
   clear HM
   go_upto_region 3 with fail
   refine wp_text 13 [pE g 6, iE left, bE false, bE false, uE, uE, uE, uE, uE, uE, uE, uE, bE false] rfl (by kernel_rfl) ?_ ?_
   ·refine fE 1 3 25 6 6 0 ?_
    refine sW 2 rfl (fun a u E D hk=>exec_loadi _ Try.underlying3 _ _ _ rfl (dD D 0) (Kept.cell hk (HL6.out))) ?_
    refine aS 3 rfl (fun a u E D hk=>exec_gtn rfl (dD D 1) rfl) (decide_eq_false hl0) ?_
    refine mD 4 19 2 ?_
    refine kS 5 3 ?_
    refine kS 6 3 ?_
    refine kS 7 3 ?_
    refine kS 8 3 ?_
    refine kS 9 3 ?_
    refine kS 10 3 ?_
    refine kS 11 3 ?_
    refine kS 12 3 ?_
    refine sW 13 rfl (fun a u E D hk=>exec_pickF _ _ _ _ rfl (dD D 3) rfl) ?_
    exact fz
   intro gv wq hV kq
   rw [dq 13 [17,18,19,20,21,22,23,24,25,26,27,28,29]]
   simp only [F7]
   rw [gQ hV 12 29 (.bool false)]
   clear hV
   refine wpList_nil ?_
   have HLq := Lib.hid (kq.cell HL6.out)
   go_upto_region 19 with fail
   refine wp_free 6 [.eq (vf), pE g 6, iE left, .eq (vf), iE left, bE false] (by kernel_rfl) rfl (by kernel_rfl) ?_ ?_
   ·refine mE 1 8 ?_
    refine fE 2 3 25 6 6 0 ?_
    refine sW 3 rfl (fun a u E D hk=>exec_loadi _ Try.underlying3 _ _ _ rfl (dD D 1) (Kept.cell hk (HLq.out))) ?_
    refine mD 4 122 0 ?_
    refine mD 5 124 2 ?_
    refine sW 6 rfl (fun a u E D hk=>exec_assign _ _ rfl rfl) ?_
    exact fz
   intro gv wy hV ky
   rw [dq 6 [122,123,124,4,5,6]]
   simp only [F7]
   rw [gQ hV 3 4 vf]
   rw [gQ hV 4 5 (.int .i64 left)]
   rw [gQ hV 5 6 (.bool false)]
   clear hV
   refine wpList_nil ?_
   have kry := kq.trans ky
   have HEND : Hid (RMatchIn w F p B o (B.matched o) (.returned (.tuple #[vf, .int .i64 left, .bool false])) wy) := by
    show RMatchIn _ _ _ _ _ _ _ _
    rw [HFIN.out]
    unfold RMatchIn
    rw [HSE.out]
    have hl := HLN.out
    have hb := HBr.out.kept kry
    rw [hl.1, hl.2] at hb
    exact ⟨Fc, vf, rfl, hb, HVr.out.kept kry, fun b hb => ⟨by have := (HVn.out b hb).1; omega, (HVn.out b hb).2.1⟩, fun b hb => (HGr.out b hb).imp id (fun h => by omega), ((Keep.any k1 hkr).mono (fun b hb e => e.elim id (fun e => by omega))).kept kry⟩
   clear HBr HVr HVn HFIN
   go_wp2
   go_ret3
   exact HEND.out
set_option maxRecDepth 100000 in
set_option maxHeartbeats 3200000 in
theorem refusal_any (w : World) (F : Nat → Prop) (p : Nat) (B : Bok) (o : Ord) (h : Bk w F p B) (hI : Inv B) : Gives 39 #[.pointer (some ⟨p, 0, none⟩), o.v] w (.eq (.int .i64 (B.err o))) := by
 refine gives_eq ?_
 have HB := Lib.hid h
 have HI := Lib.hid hI
 clear h hI
 go_enter Try.func39, Try.ntmps39
 go_upto_region 0 with fail
 refine wp_text 2 [.fresh w.heap.size 25 (o.cells), iE 0] rfl (by kernel_rfl) ?_ ?_
 ·refine nW 1 rfl (fun a u E D hk=>⟨_, _, exec_box 25 _ (o.cells) rfl (eE E), ⟨_, rfl, hk.size, Blk.new u _ _⟩, ((Keep.refl _ u).alloc _)⟩) ?_
  refine sW 2 rfl (fun a u E D hk=>exec_assign _ _ rfl rfl) ?_
  exact fz
 intro gv w0 hV k0
 rw [dq 2 [3,4]]
 simp only [F7]
 have hv3 : (.fresh w.heap.size 25 (o.cells) : Kn).p (gv 3) w0 := hV 0 3 (by kernel_rfl)
 generalize gv 3 = v3 at hv3 ⊢
 rw [gQ hV 1 4 (.int .i64 0)]
 clear hV
 obtain ⟨g, rfl, hg, hBo⟩ := hv3
 refine wpList_nil ?_
 have HO := Lib.hid (blk_range hBo)
 clear hBo
 by_cases hr : o.right = true
 ·have hr1 : ¬ o.err ≠ 0 := by unfold Ord.err; rw [if_pos hr]; simp
  have HR := Lib.hid hr
  clear hr
  by_cases hst : o.stop ≠ 0
  ·have HE : Hid (B.err o = 1) := by show _ = _; unfold Bok.err; rw [if_pos (fun h => hst h.2)]
   go_upto_region 1 with fail
   refine wp_text 8 [.eq (o.v), iE o.err, bE false, bE false, pE g 8, iE o.stop, bE true, bE true] rfl (by kernel_rfl) ?_ ?_
   ·refine sW 1 rfl (fun a u E D hk=>exec_ldS 25 _ _ (g) (0) (o.cells) rfl (eE E) (range_kept HO.out hk) Try.underlying25 (by rw [o.len9]; exact ord_size)) ?_
    refine cS 2 62 [o.v] rfl Try.func62 rfl (fun a u E D hk=>⟨ll (dD D 0) rfl, ordRight_any o u⟩) ?_
    refine aS 3 rfl (fun a u E D hk=>exec_nen rfl (dD D 1) rfl) (decide_eq_false hr1) ?_
    refine mD 4 9 2 ?_
    refine fE 5 3 25 8 8 0 ?_
    refine sW 6 rfl (fun a u E D hk=>exec_loadi _ Try.underlying3 _ _ _ rfl (dD D 4) (range_int (range_kept HO.out hk) 8 _ rfl)) ?_
    refine aS 7 rfl (fun a u E D hk=>exec_nen rfl (dD D 5) rfl) (decide_eq_true hst) ?_
    refine sW 8 rfl (fun a u E D hk=>exec_pickF _ _ _ _ rfl (dD D 3) (dD D 6)) ?_
    exact fz
   intro gv w1 hV k1
   rw [dq 8 [7,8,9,10,11,12,13,14]]
   simp only [F7]
   rw [gQ hV 7 14 (.bool true)]
   clear hV
   refine wpList_nil ?_
   have kx := k0.trans k1
   clear HO hr1 hst
   go_wp2
   go_ret
   exact ⟨by rw [HE.out]; rfl, kx⟩
  ·skip
   go_upto_region 1 with fail
   refine wp_text 8 [.eq (o.v), iE o.err, bE false, bE false, pE g 8, iE o.stop, bE false, bE false] rfl (by kernel_rfl) ?_ ?_
   ·refine sW 1 rfl (fun a u E D hk=>exec_ldS 25 _ _ (g) (0) (o.cells) rfl (eE E) (range_kept HO.out hk) Try.underlying25 (by rw [o.len9]; exact ord_size)) ?_
    refine cS 2 62 [o.v] rfl Try.func62 rfl (fun a u E D hk=>⟨ll (dD D 0) rfl, ordRight_any o u⟩) ?_
    refine aS 3 rfl (fun a u E D hk=>exec_nen rfl (dD D 1) rfl) (decide_eq_false hr1) ?_
    refine mD 4 9 2 ?_
    refine fE 5 3 25 8 8 0 ?_
    refine sW 6 rfl (fun a u E D hk=>exec_loadi _ Try.underlying3 _ _ _ rfl (dD D 4) (range_int (range_kept HO.out hk) 8 _ rfl)) ?_
    refine aS 7 rfl (fun a u E D hk=>exec_nen rfl (dD D 5) rfl) (decide_eq_false hst) ?_
    refine sW 8 rfl (fun a u E D hk=>exec_pickF _ _ _ _ rfl (dD D 3) (dD D 6)) ?_
    exact fz
   intro gv w1 hV k1
   rw [dq 8 [7,8,9,10,11,12,13,14]]
   simp only [F7]
   rw [gQ hV 7 14 (.bool false)]
   clear hV
   refine wpList_nil ?_
   have kx := k0.trans k1
   have hst0 : o.stop = 0 := Classical.not_not.1 hst
   have HST := Lib.hid hst0
   have HO1 := Lib.hid (range_kept HO.out k1)
   have HSD := Lib.hid (right_side HR.out)
   have HQ := Lib.hid (right_qty HR.out)
   have HS3 : Hid (3 - o.side = 1 ∨ 3 - o.side = 2) := by have := HSD.out; show _ ∨ _; omega
   have HSID := Lib.hid (HI.out.side HSD.out).theirs
   have HL64 : Hid ((B.sd (3 - o.side)).length ≤ 1000) := by have := HSID.out.ok.len; show _ ≤ _; omega
   clear HO hr1 hst hst0 k0 k1
   obtain ⟨fo, hfo⟩ : ∃ x, (B.find o.tr o.id).1 = x := ⟨_, rfl⟩
   obtain ⟨hb, hhb⟩ : ∃ x, (B.find o.tr o.id).2 = x := ⟨_, rfl⟩
   have HFO := Lib.hid hfo
   have HHB := Lib.hid hhb
   clear hfo hhb
   go_upto_region 3 with fail
   refine wp_text 10 [pE p 0, pE g 0, iE o.tr, pE g 1, iE o.id, .eq (.tuple #[fo.v, .bool hb]), .eq (.tuple #[fo.v, .bool hb]), .eq (fo.v), bE hb, .fresh w1.heap.size 25 zeroO.cells] rfl (by kernel_rfl) ?_ ?_
   ·refine mE 1 0 ?_
    refine fE 2 3 25 0 0 0 ?_
    refine sW 3 rfl (fun a u E D hk=>exec_loadi _ Try.underlying3 _ _ _ rfl (dD D 1) (range_int (range_kept HO1.out hk) 0 _ rfl)) ?_
    refine fE 4 3 25 1 1 0 ?_
    refine sW 5 rfl (fun a u E D hk=>exec_loadi _ Try.underlying3 _ _ _ rfl (dD D 3) (range_int (range_kept HO1.out hk) 1 _ rfl)) ?_
    refine cS 6 28 [.pointer (some ⟨p, 0, none⟩), .int .i64 o.tr, .int .i64 o.id] rfl Try.func28 rfl (fun a u E D hk=>⟨ll (dD D 0) (ll (dD D 2) (ll (dD D 4) rfl)), (by rw [← HFO.out, ← HHB.out]; exact bfind_any u F p B o.tr o.id (HB.out.kept (kx.trans hk)) HI.out)⟩) ?_
    refine mD 7 21 5 ?_
    refine sW 8 rfl (fun a u E D hk=>exec_extract _ [fo.v, .bool hb] 0 (fo.v) rfl (dD D 6) rfl) ?_
    refine sW 9 rfl (fun a u E D hk=>exec_extract _ [fo.v, .bool hb] 1 (.bool hb) rfl (dD D 6) rfl) ?_
    refine nW 10 rfl (fun a u E D hk=>⟨_, _, exec_alc 25 zeroO.cells rfl zO, ⟨_, rfl, hk.size, Blk.new u _ _⟩, ((Keep.refl _ u).alloc _)⟩) ?_
    exact fz
   intro gv w2 hV k2
   rw [dq 10 [16,17,18,19,20,21,15,22,23,5]]
   simp only [F7]
   have hv5 : (.fresh w1.heap.size 25 zeroO.cells : Kn).p (gv 5) w2 := hV 9 5 (by kernel_rfl)
   generalize gv 5 = v5 at hv5 ⊢
   rw [gQ hV 7 22 fo.v]
   rw [gQ hV 8 23 (.bool hb)]
   clear hV
   obtain ⟨b5, rfl, hb5, hB5⟩ := hv5
   refine l_setS 25 b5 25 zeroO.cells fo.cells _ _ rfl rfl (by kernel_rfl) (by kernel_rfl) hB5 (by rw [Ord.len9]; exact ord_size) (by rw [Ord.len9, Ord.len9]) (Ord.one1 _) ?_
   intro w3 hB3 hk3 hs3
   simp only [Act.put]
   refine l_val (.bool hb) rfl (exec_assign _ _ rfl (by kernel_rfl)) ?_
   simp only [Act.put, sA, sS, sZ]
   refine wpList_nil ?_
   have k13 : Kept w1 w3 := k2.trans' hk3 (by omega)
   have kx3 := kx.trans k13
   have HO3 := Lib.hid (range_kept HO1.out k13)
   clear hB5 hB3 hk3 hs3 k2 k13 HO1
   cases hb with
   | true =>
    have HE : Hid (B.err o = 5) := by show _ = _; unfold Bok.err; rw [if_neg (fun h => h ⟨HR.out, HST.out⟩), if_pos (show B.has o.tr o.id = true from HHB.out)]
    have kx := kx3
    clear HO3 HFO HHB kx3
    go_wp2
    go_ret
    exact ⟨by rw [HE.out]; rfl, kx⟩
   | false =>
    have HNH : Hid (¬ B.has o.tr o.id = true) := by show ¬ _; unfold Bok.has; rw [HHB.out]; simp
    clear HFO HHB kx
    obtain ⟨mr, hmr⟩ : ∃ x, (decide (o.k = 1) || decide (o.k = 5)) = x := ⟨_, rfl⟩
    have HMR := Lib.hid hmr
    have hmr1 : mr = true ↔ (o.k = 1 ∨ o.k = 5) := by rw [← hmr]; simp
    have HM1 := Lib.hid hmr1
    clear hmr hmr1
    by_cases hfull : mr = true ∧ 64 ≤ B.len
    ·obtain ⟨hm1, hln0⟩ := hfull
     subst hm1
     have hln : (64 : Int) ≤ (B.len : Int) := by omega
     have HE : Hid (B.err o = 4) := by show _ = _; unfold Bok.err; rw [if_neg (fun h => h ⟨HR.out, HST.out⟩), if_neg HNH.out, if_pos ⟨HM1.out.1 rfl, hln0⟩]
     go_upto_region 6 with fail
     refine wp_text 7 [.eq (o.v), bE true, bE true, pE p 0, iE (B.len : Int), bE true, bE true] rfl (by kernel_rfl) ?_ ?_
     ·refine sW 1 rfl (fun a u E D hk=>exec_ldS 25 _ _ (g) (0) (o.cells) rfl (eE E) (range_kept HO3.out hk) Try.underlying25 (by rw [o.len9]; exact ord_size)) ?_
      refine cS 2 41 [o.v] rfl Try.func41 rfl (fun a u E D hk=>⟨ll (dD D 0) rfl, (by rw [← HMR.out]; exact mayRest_any u o)⟩) ?_
      refine mD 3 26 1 ?_
      refine mE 4 0 ?_
      refine cS 5 33 [.pointer (some ⟨p, 0, none⟩)] rfl Try.func33 rfl (fun a u E D hk=>⟨ll (dD D 3) rfl, blen_any u F p B (HB.out.kept (kx3.trans hk)) HI.out⟩) ?_
      refine aS 6 rfl (fun a u E D hk=>exec_gen rfl (dD D 4) rfl) (decide_eq_true hln) ?_
      refine sW 7 rfl (fun a u E D hk=>exec_pick _ _ _ _ rfl (dD D 2) (dD D 5)) ?_
      exact fz
     intro gv w4 hV k4
     rw [dq 7 [25,26,27,28,29,30,31]]
     simp only [F7]
     rw [gQ hV 6 31 (.bool true)]
     clear hV
     refine wpList_nil ?_
     have kx := kx3.trans k4
     clear HO3 k4 kx3 hln hln0
     go_wp2
     go_ret
     exact ⟨by rw [HE.out]; rfl, kx⟩
    ·have HNF : Hid (¬ ((o.k = 1 ∨ o.k = 5) ∧ 64 ≤ B.len)) := fun h => hfull ⟨HM1.out.2 h.1, h.2⟩
     have hE0 : B.err o = if o.k = 5 ∧ o.meets (B.sd (3 - o.side)) = true then 11 else if o.k = 4 ∧ 0 < (B.matched o).left then 12 else 0 := by
      unfold Bok.err
      rw [if_neg (fun h => h ⟨HR.out, HST.out⟩), if_neg HNH.out, if_neg HNF.out]
     have HE0 := Lib.hid hE0
     clear hE0
     have h4 : ∀ (K : Nat → Prop), True := fun _ => trivial
     clear h4
     obtain ⟨mb, hmb⟩ : ∃ x, o.meets (B.sd (3 - o.side)) = x := ⟨_, rfl⟩
     have HCR := Lib.hid hmb
     obtain ⟨gv0, hgv0⟩ : ∃ x, givesM o (B.sd (3 - o.side)) = x := ⟨_, rfl⟩
     have HGV := Lib.hid hgv0
     have HGL : Hid (gv0 < o.qty ↔ 0 < (B.matched o).left) := by
      have h1 := gives_left o (B.sd (3 - o.side)) B.no o.qty (by have := HQ.out; omega) HSID.out
      show _ ↔ _
      rw [hgv0] at h1
      unfold Bok.matched
      omega
     clear hmb hgv0
     cases mr with
     | true =>
      have hln : ¬ (64 : Int) ≤ (B.len : Int) := fun h => hfull ⟨rfl, by omega⟩
      clear hfull
      go_upto_region 6 with fail
      refine wp_text 7 [.eq (o.v), bE true, bE true, pE p 0, iE (B.len : Int), bE false, bE false] rfl (by kernel_rfl) ?_ ?_
      ·refine sW 1 rfl (fun a u E D hk=>exec_ldS 25 _ _ (g) (0) (o.cells) rfl (eE E) (range_kept HO3.out hk) Try.underlying25 (by rw [o.len9]; exact ord_size)) ?_
       refine cS 2 41 [o.v] rfl Try.func41 rfl (fun a u E D hk=>⟨ll (dD D 0) rfl, (by rw [← HMR.out]; exact mayRest_any u o)⟩) ?_
       refine mD 3 26 1 ?_
       refine mE 4 0 ?_
       refine cS 5 33 [.pointer (some ⟨p, 0, none⟩)] rfl Try.func33 rfl (fun a u E D hk=>⟨ll (dD D 3) rfl, blen_any u F p B (HB.out.kept (kx3.trans hk)) HI.out⟩) ?_
       refine aS 6 rfl (fun a u E D hk=>exec_gen rfl (dD D 4) rfl) (decide_eq_false hln) ?_
       refine sW 7 rfl (fun a u E D hk=>exec_pick _ _ _ _ rfl (dD D 2) (dD D 5)) ?_
       exact fz
      intro gv w4 hV k4
      rw [dq 7 [25,26,27,28,29,30,31]]
      simp only [F7]
      rw [gQ hV 6 31 (.bool false)]
      clear hV
      refine wpList_nil ?_
      clear hln
      have kx4 := kx3.trans k4
      have HO4 := Lib.hid (range_kept HO3.out k4)
      clear HO3 k4 kx3
      by_cases hk5 : o.k = 5
      ·skip
       have HK5 := Lib.hid hk5
       have hk4 : ¬ o.k = 4 := by omega
       cases mb with
       | true =>
        have HE : Hid (B.err o = 11) := by show _ = _; rw [HE0.out, if_pos ⟨hk5, HCR.out⟩]
        go_upto_region 8 with fail
        refine wp_free 10 [pE g 4, iE o.k, bE true, bE true, pE p 0, .eq (o.v), pE p (offS (3 - o.side)), .eq (o.v), bE true, bE true] (by kernel_rfl) rfl (by kernel_rfl) ?_ ?_
        ·refine fE 1 3 25 4 4 0 ?_
         refine sW 2 rfl (fun a u E D hk=>exec_loadi _ Try.underlying3 _ _ _ rfl (dD D 0) (range_int (range_kept HO4.out hk) 4 _ rfl)) ?_
         refine aS 3 rfl (fun a u E D hk=>exec_eqn rfl (dD D 1) rfl) (decide_eq_true hk5) ?_
         refine mD 4 34 2 ?_
         refine mE 5 0 ?_
         refine sW 6 rfl (fun a u E D hk=>exec_ldS 25 _ _ (g) (0) (o.cells) rfl (eE E) (range_kept HO4.out hk) Try.underlying25 (by rw [o.len9]; exact ord_size)) ?_
         refine cS 7 63 [.pointer (some ⟨p, 0, none⟩), o.v] rfl Try.func63 rfl (fun a u E D hk=>⟨ll (dD D 4) (ll (dD D 5) rfl), against_any u p o HSD.out⟩) ?_
         refine sW 8 rfl (fun a u E D hk=>exec_ldS 25 _ _ (g) (0) (o.cells) rfl (eE E) (range_kept HO4.out hk) Try.underlying25 (by rw [o.len9]; exact ord_size)) ?_
         refine cS 9 64 [.pointer (some ⟨p, offS (3 - o.side), none⟩), o.v] rfl Try.func64 rfl (fun a u E D hk=>⟨ll (dD D 6) (ll (dD D 7) rfl), (by obtain ⟨F', hLd⟩ := (HB.out.kept (kx4.trans hk)).lad HS3.out; rw [← HCR.out]; exact crossed_any u F' p (offS (3 - o.side)) (3 - o.side) _ o hLd HL64.out)⟩) ?_
         refine sW 10 rfl (fun a u E D hk=>exec_pick _ _ _ _ rfl (dD D 3) (dD D 8)) ?_
         exact fz
        intro gv w5 hV k5
        rw [dq 10 [32,33,34,35,36,37,38,39,40,41]]
        simp only [F7]
        rw [gQ hV 9 41 (.bool true)]
        clear hV
        refine wpList_nil ?_
        have kx := kx4.trans k5
        clear HO4 k5 kx4 hk5 hk4
        go_wp2
        go_ret
        exact ⟨by rw [HE.out]; rfl, kx⟩
       | false =>
        have HE : Hid (B.err o = 0) := by show _ = _; rw [HE0.out, if_neg (fun h => by rw [HCR.out] at h; cases h.2), if_neg (fun h => hk4 h.1)]
        go_upto_region 8 with fail
        refine wp_free 10 [pE g 4, iE o.k, bE true, bE true, pE p 0, .eq (o.v), pE p (offS (3 - o.side)), .eq (o.v), bE false, bE false] (by kernel_rfl) rfl (by kernel_rfl) ?_ ?_
        ·refine fE 1 3 25 4 4 0 ?_
         refine sW 2 rfl (fun a u E D hk=>exec_loadi _ Try.underlying3 _ _ _ rfl (dD D 0) (range_int (range_kept HO4.out hk) 4 _ rfl)) ?_
         refine aS 3 rfl (fun a u E D hk=>exec_eqn rfl (dD D 1) rfl) (decide_eq_true hk5) ?_
         refine mD 4 34 2 ?_
         refine mE 5 0 ?_
         refine sW 6 rfl (fun a u E D hk=>exec_ldS 25 _ _ (g) (0) (o.cells) rfl (eE E) (range_kept HO4.out hk) Try.underlying25 (by rw [o.len9]; exact ord_size)) ?_
         refine cS 7 63 [.pointer (some ⟨p, 0, none⟩), o.v] rfl Try.func63 rfl (fun a u E D hk=>⟨ll (dD D 4) (ll (dD D 5) rfl), against_any u p o HSD.out⟩) ?_
         refine sW 8 rfl (fun a u E D hk=>exec_ldS 25 _ _ (g) (0) (o.cells) rfl (eE E) (range_kept HO4.out hk) Try.underlying25 (by rw [o.len9]; exact ord_size)) ?_
         refine cS 9 64 [.pointer (some ⟨p, offS (3 - o.side), none⟩), o.v] rfl Try.func64 rfl (fun a u E D hk=>⟨ll (dD D 6) (ll (dD D 7) rfl), (by obtain ⟨F', hLd⟩ := (HB.out.kept (kx4.trans hk)).lad HS3.out; rw [← HCR.out]; exact crossed_any u F' p (offS (3 - o.side)) (3 - o.side) _ o hLd HL64.out)⟩) ?_
         refine sW 10 rfl (fun a u E D hk=>exec_pick _ _ _ _ rfl (dD D 3) (dD D 8)) ?_
         exact fz
        intro gv w5 hV k5
        rw [dq 10 [32,33,34,35,36,37,38,39,40,41]]
        simp only [F7]
        rw [gQ hV 9 41 (.bool false)]
        clear hV
        refine wpList_nil ?_
        have kx5 := kx4.trans k5
        have HO5 := Lib.hid (range_kept HO4.out k5)
        clear HO4 k5 kx4 hk5
        go_upto_region 10 with fail
        refine wp_free 13 [pE g 4, iE o.k, bE false, bE false, uE, uE, uE, uE, uE, uE, uE, uE, bE false] (by kernel_rfl) rfl (by kernel_rfl) ?_ ?_
        ·refine fE 1 3 25 4 4 0 ?_
         refine sW 2 rfl (fun a u E D hk=>exec_loadi _ Try.underlying3 _ _ _ rfl (dD D 0) (range_int (range_kept HO5.out hk) 4 _ rfl)) ?_
         refine aS 3 rfl (fun a u E D hk=>exec_eqn rfl (dD D 1) rfl) (decide_eq_false hk4) ?_
         refine mD 4 44 2 ?_
         refine kS 5 3 ?_
         refine kS 6 3 ?_
         refine kS 7 3 ?_
         refine kS 8 3 ?_
         refine kS 9 3 ?_
         refine kS 10 3 ?_
         refine kS 11 3 ?_
         refine kS 12 3 ?_
         refine sW 13 rfl (fun a u E D hk=>exec_pickF _ _ _ _ rfl (dD D 3) rfl) ?_
         exact fz
        intro gv w6 hV k6
        rw [dq 13 [42,43,44,45,46,47,48,49,50,51,52,53,54]]
        simp only [F7]
        rw [gQ hV 12 54 (.bool false)]
        clear hV
        refine wpList_nil ?_
        have kx := kx5.trans k6
        clear HO5 k6 kx5 hk4
        go_wp2
        go_ret
        exact ⟨by rw [HE.out]; rfl, kx⟩
      ·skip
       go_upto_region 8 with fail
       refine wp_free 10 [pE g 4, iE o.k, bE false, bE false, uE, uE, uE, uE, uE, bE false] (by kernel_rfl) rfl (by kernel_rfl) ?_ ?_
       ·refine fE 1 3 25 4 4 0 ?_
        refine sW 2 rfl (fun a u E D hk=>exec_loadi _ Try.underlying3 _ _ _ rfl (dD D 0) (range_int (range_kept HO4.out hk) 4 _ rfl)) ?_
        refine aS 3 rfl (fun a u E D hk=>exec_eqn rfl (dD D 1) rfl) (decide_eq_false hk5) ?_
        refine mD 4 34 2 ?_
        refine kS 5 3 ?_
        refine kS 6 3 ?_
        refine kS 7 3 ?_
        refine kS 8 3 ?_
        refine kS 9 3 ?_
        refine sW 10 rfl (fun a u E D hk=>exec_pickF _ _ _ _ rfl (dD D 3) rfl) ?_
        exact fz
       intro gv w5 hV k5
       rw [dq 10 [32,33,34,35,36,37,38,39,40,41]]
       simp only [F7]
       rw [gQ hV 9 41 (.bool false)]
       clear hV
       refine wpList_nil ?_
       have kx5 := kx4.trans k5
       have HO5 := Lib.hid (range_kept HO4.out k5)
       have HN5 := Lib.hid hk5
       clear HO4 k5 kx4 hk5
       by_cases hk4 : o.k = 4
       ·skip
        have HK4 := Lib.hid hk4
        by_cases hgv : gv0 < o.qty
        ·have HE : Hid (B.err o = 12) := by show _ = _; rw [HE0.out, if_neg (fun h => HN5.out h.1), if_pos ⟨hk4, HGL.out.1 hgv⟩]
         go_upto_region 10 with fail
         refine wp_free 13 [pE g 4, iE o.k, bE true, bE true, pE p 0, .eq (o.v), pE p (offS (3 - o.side)), .eq (o.v), iE gv0, pE g 6, iE o.qty, bE true, bE true] (by kernel_rfl) rfl (by kernel_rfl) ?_ ?_
         ·refine fE 1 3 25 4 4 0 ?_
          refine sW 2 rfl (fun a u E D hk=>exec_loadi _ Try.underlying3 _ _ _ rfl (dD D 0) (range_int (range_kept HO5.out hk) 4 _ rfl)) ?_
          refine aS 3 rfl (fun a u E D hk=>exec_eqn rfl (dD D 1) rfl) (decide_eq_true hk4) ?_
          refine mD 4 44 2 ?_
          refine mE 5 0 ?_
          refine sW 6 rfl (fun a u E D hk=>exec_ldS 25 _ _ (g) (0) (o.cells) rfl (eE E) (range_kept HO5.out hk) Try.underlying25 (by rw [o.len9]; exact ord_size)) ?_
          refine cS 7 63 [.pointer (some ⟨p, 0, none⟩), o.v] rfl Try.func63 rfl (fun a u E D hk=>⟨ll (dD D 4) (ll (dD D 5) rfl), against_any u p o HSD.out⟩) ?_
          refine sW 8 rfl (fun a u E D hk=>exec_ldS 25 _ _ (g) (0) (o.cells) rfl (eE E) (range_kept HO5.out hk) Try.underlying25 (by rw [o.len9]; exact ord_size)) ?_
          refine cS 9 65 [.pointer (some ⟨p, offS (3 - o.side), none⟩), o.v] rfl Try.func65 rfl (fun a u E D hk=>⟨ll (dD D 6) (ll (dD D 7) rfl), (by obtain ⟨F', hLd⟩ := (HB.out.kept (kx5.trans hk)).lad HS3.out; rw [← HGV.out]; exact gives_any u F' p (offS (3 - o.side)) (3 - o.side) (3 - o.side) _ o hLd HSID.out)⟩) ?_
          refine fE 10 3 25 6 6 0 ?_
          refine sW 11 rfl (fun a u E D hk=>exec_loadi _ Try.underlying3 _ _ _ rfl (dD D 9) (range_int (range_kept HO5.out hk) 6 _ rfl)) ?_
          refine aS 12 rfl (fun a u E D hk=>exec_ltn rfl (dD D 8) (dD D 10)) (decide_eq_true hgv) ?_
          refine sW 13 rfl (fun a u E D hk=>exec_pick _ _ _ _ rfl (dD D 3) (dD D 11)) ?_
          exact fz
         intro gv w6 hV k6
         rw [dq 13 [42,43,44,45,46,47,48,49,50,51,52,53,54]]
         simp only [F7]
         rw [gQ hV 12 54 (.bool true)]
         clear hV
         refine wpList_nil ?_
         have kx := kx5.trans k6
         clear HO5 k6 kx5 hk4 hgv
         go_wp2
         go_ret
         exact ⟨by rw [HE.out]; rfl, kx⟩
        ·have HE : Hid (B.err o = 0) := by show _ = _; rw [HE0.out, if_neg (fun h => HN5.out h.1), if_neg (fun h => hgv (HGL.out.2 h.2))]
         go_upto_region 10 with fail
         refine wp_free 13 [pE g 4, iE o.k, bE true, bE true, pE p 0, .eq (o.v), pE p (offS (3 - o.side)), .eq (o.v), iE gv0, pE g 6, iE o.qty, bE false, bE false] (by kernel_rfl) rfl (by kernel_rfl) ?_ ?_
         ·refine fE 1 3 25 4 4 0 ?_
          refine sW 2 rfl (fun a u E D hk=>exec_loadi _ Try.underlying3 _ _ _ rfl (dD D 0) (range_int (range_kept HO5.out hk) 4 _ rfl)) ?_
          refine aS 3 rfl (fun a u E D hk=>exec_eqn rfl (dD D 1) rfl) (decide_eq_true hk4) ?_
          refine mD 4 44 2 ?_
          refine mE 5 0 ?_
          refine sW 6 rfl (fun a u E D hk=>exec_ldS 25 _ _ (g) (0) (o.cells) rfl (eE E) (range_kept HO5.out hk) Try.underlying25 (by rw [o.len9]; exact ord_size)) ?_
          refine cS 7 63 [.pointer (some ⟨p, 0, none⟩), o.v] rfl Try.func63 rfl (fun a u E D hk=>⟨ll (dD D 4) (ll (dD D 5) rfl), against_any u p o HSD.out⟩) ?_
          refine sW 8 rfl (fun a u E D hk=>exec_ldS 25 _ _ (g) (0) (o.cells) rfl (eE E) (range_kept HO5.out hk) Try.underlying25 (by rw [o.len9]; exact ord_size)) ?_
          refine cS 9 65 [.pointer (some ⟨p, offS (3 - o.side), none⟩), o.v] rfl Try.func65 rfl (fun a u E D hk=>⟨ll (dD D 6) (ll (dD D 7) rfl), (by obtain ⟨F', hLd⟩ := (HB.out.kept (kx5.trans hk)).lad HS3.out; rw [← HGV.out]; exact gives_any u F' p (offS (3 - o.side)) (3 - o.side) (3 - o.side) _ o hLd HSID.out)⟩) ?_
          refine fE 10 3 25 6 6 0 ?_
          refine sW 11 rfl (fun a u E D hk=>exec_loadi _ Try.underlying3 _ _ _ rfl (dD D 9) (range_int (range_kept HO5.out hk) 6 _ rfl)) ?_
          refine aS 12 rfl (fun a u E D hk=>exec_ltn rfl (dD D 8) (dD D 10)) (decide_eq_false hgv) ?_
          refine sW 13 rfl (fun a u E D hk=>exec_pick _ _ _ _ rfl (dD D 3) (dD D 11)) ?_
          exact fz
         intro gv w6 hV k6
         rw [dq 13 [42,43,44,45,46,47,48,49,50,51,52,53,54]]
         simp only [F7]
         rw [gQ hV 12 54 (.bool false)]
         clear hV
         refine wpList_nil ?_
         have kx := kx5.trans k6
         clear HO5 k6 kx5 hk4 hgv
         go_wp2
         go_ret
         exact ⟨by rw [HE.out]; rfl, kx⟩
       ·have HE : Hid (B.err o = 0) := by show _ = _; rw [HE0.out, if_neg (fun h => HN5.out h.1), if_neg (fun h => hk4 h.1)]
        go_upto_region 10 with fail
        refine wp_free 13 [pE g 4, iE o.k, bE false, bE false, uE, uE, uE, uE, uE, uE, uE, uE, bE false] (by kernel_rfl) rfl (by kernel_rfl) ?_ ?_
        ·refine fE 1 3 25 4 4 0 ?_
         refine sW 2 rfl (fun a u E D hk=>exec_loadi _ Try.underlying3 _ _ _ rfl (dD D 0) (range_int (range_kept HO5.out hk) 4 _ rfl)) ?_
         refine aS 3 rfl (fun a u E D hk=>exec_eqn rfl (dD D 1) rfl) (decide_eq_false hk4) ?_
         refine mD 4 44 2 ?_
         refine kS 5 3 ?_
         refine kS 6 3 ?_
         refine kS 7 3 ?_
         refine kS 8 3 ?_
         refine kS 9 3 ?_
         refine kS 10 3 ?_
         refine kS 11 3 ?_
         refine kS 12 3 ?_
         refine sW 13 rfl (fun a u E D hk=>exec_pickF _ _ _ _ rfl (dD D 3) rfl) ?_
         exact fz
        intro gv w6 hV k6
        rw [dq 13 [42,43,44,45,46,47,48,49,50,51,52,53,54]]
        simp only [F7]
        rw [gQ hV 12 54 (.bool false)]
        clear hV
        refine wpList_nil ?_
        have kx := kx5.trans k6
        clear HO5 k6 kx5 hk4
        go_wp2
        go_ret
        exact ⟨by rw [HE.out]; rfl, kx⟩
     | false =>
      clear hfull
      go_upto_region 6 with fail
      refine wp_text 7 [.eq (o.v), bE false, bE false, uE, uE, uE, bE false] rfl (by kernel_rfl) ?_ ?_
      ·refine sW 1 rfl (fun a u E D hk=>exec_ldS 25 _ _ (g) (0) (o.cells) rfl (eE E) (range_kept HO3.out hk) Try.underlying25 (by rw [o.len9]; exact ord_size)) ?_
       refine cS 2 41 [o.v] rfl Try.func41 rfl (fun a u E D hk=>⟨ll (dD D 0) rfl, (by rw [← HMR.out]; exact mayRest_any u o)⟩) ?_
       refine mD 3 26 1 ?_
       refine kS 4 2 ?_
       refine kS 5 2 ?_
       refine kS 6 2 ?_
       refine sW 7 rfl (fun a u E D hk=>exec_pickF _ _ _ _ rfl (dD D 2) rfl) ?_
       exact fz
      intro gv w4 hV k4
      rw [dq 7 [25,26,27,28,29,30,31]]
      simp only [F7]
      rw [gQ hV 6 31 (.bool false)]
      clear hV
      refine wpList_nil ?_
      have kx4 := kx3.trans k4
      have HO4 := Lib.hid (range_kept HO3.out k4)
      clear HO3 k4 kx3
      by_cases hk5 : o.k = 5
      ·skip
       have HK5 := Lib.hid hk5
       have hk4 : ¬ o.k = 4 := by omega
       cases mb with
       | true =>
        have HE : Hid (B.err o = 11) := by show _ = _; rw [HE0.out, if_pos ⟨hk5, HCR.out⟩]
        go_upto_region 8 with fail
        refine wp_free 10 [pE g 4, iE o.k, bE true, bE true, pE p 0, .eq (o.v), pE p (offS (3 - o.side)), .eq (o.v), bE true, bE true] (by kernel_rfl) rfl (by kernel_rfl) ?_ ?_
        ·refine fE 1 3 25 4 4 0 ?_
         refine sW 2 rfl (fun a u E D hk=>exec_loadi _ Try.underlying3 _ _ _ rfl (dD D 0) (range_int (range_kept HO4.out hk) 4 _ rfl)) ?_
         refine aS 3 rfl (fun a u E D hk=>exec_eqn rfl (dD D 1) rfl) (decide_eq_true hk5) ?_
         refine mD 4 34 2 ?_
         refine mE 5 0 ?_
         refine sW 6 rfl (fun a u E D hk=>exec_ldS 25 _ _ (g) (0) (o.cells) rfl (eE E) (range_kept HO4.out hk) Try.underlying25 (by rw [o.len9]; exact ord_size)) ?_
         refine cS 7 63 [.pointer (some ⟨p, 0, none⟩), o.v] rfl Try.func63 rfl (fun a u E D hk=>⟨ll (dD D 4) (ll (dD D 5) rfl), against_any u p o HSD.out⟩) ?_
         refine sW 8 rfl (fun a u E D hk=>exec_ldS 25 _ _ (g) (0) (o.cells) rfl (eE E) (range_kept HO4.out hk) Try.underlying25 (by rw [o.len9]; exact ord_size)) ?_
         refine cS 9 64 [.pointer (some ⟨p, offS (3 - o.side), none⟩), o.v] rfl Try.func64 rfl (fun a u E D hk=>⟨ll (dD D 6) (ll (dD D 7) rfl), (by obtain ⟨F', hLd⟩ := (HB.out.kept (kx4.trans hk)).lad HS3.out; rw [← HCR.out]; exact crossed_any u F' p (offS (3 - o.side)) (3 - o.side) _ o hLd HL64.out)⟩) ?_
         refine sW 10 rfl (fun a u E D hk=>exec_pick _ _ _ _ rfl (dD D 3) (dD D 8)) ?_
         exact fz
        intro gv w5 hV k5
        rw [dq 10 [32,33,34,35,36,37,38,39,40,41]]
        simp only [F7]
        rw [gQ hV 9 41 (.bool true)]
        clear hV
        refine wpList_nil ?_
        have kx := kx4.trans k5
        clear HO4 k5 kx4 hk5 hk4
        go_wp2
        go_ret
        exact ⟨by rw [HE.out]; rfl, kx⟩
       | false =>
        have HE : Hid (B.err o = 0) := by show _ = _; rw [HE0.out, if_neg (fun h => by rw [HCR.out] at h; cases h.2), if_neg (fun h => hk4 h.1)]
        go_upto_region 8 with fail
        refine wp_free 10 [pE g 4, iE o.k, bE true, bE true, pE p 0, .eq (o.v), pE p (offS (3 - o.side)), .eq (o.v), bE false, bE false] (by kernel_rfl) rfl (by kernel_rfl) ?_ ?_
        ·refine fE 1 3 25 4 4 0 ?_
         refine sW 2 rfl (fun a u E D hk=>exec_loadi _ Try.underlying3 _ _ _ rfl (dD D 0) (range_int (range_kept HO4.out hk) 4 _ rfl)) ?_
         refine aS 3 rfl (fun a u E D hk=>exec_eqn rfl (dD D 1) rfl) (decide_eq_true hk5) ?_
         refine mD 4 34 2 ?_
         refine mE 5 0 ?_
         refine sW 6 rfl (fun a u E D hk=>exec_ldS 25 _ _ (g) (0) (o.cells) rfl (eE E) (range_kept HO4.out hk) Try.underlying25 (by rw [o.len9]; exact ord_size)) ?_
         refine cS 7 63 [.pointer (some ⟨p, 0, none⟩), o.v] rfl Try.func63 rfl (fun a u E D hk=>⟨ll (dD D 4) (ll (dD D 5) rfl), against_any u p o HSD.out⟩) ?_
         refine sW 8 rfl (fun a u E D hk=>exec_ldS 25 _ _ (g) (0) (o.cells) rfl (eE E) (range_kept HO4.out hk) Try.underlying25 (by rw [o.len9]; exact ord_size)) ?_
         refine cS 9 64 [.pointer (some ⟨p, offS (3 - o.side), none⟩), o.v] rfl Try.func64 rfl (fun a u E D hk=>⟨ll (dD D 6) (ll (dD D 7) rfl), (by obtain ⟨F', hLd⟩ := (HB.out.kept (kx4.trans hk)).lad HS3.out; rw [← HCR.out]; exact crossed_any u F' p (offS (3 - o.side)) (3 - o.side) _ o hLd HL64.out)⟩) ?_
         refine sW 10 rfl (fun a u E D hk=>exec_pick _ _ _ _ rfl (dD D 3) (dD D 8)) ?_
         exact fz
        intro gv w5 hV k5
        rw [dq 10 [32,33,34,35,36,37,38,39,40,41]]
        simp only [F7]
        rw [gQ hV 9 41 (.bool false)]
        clear hV
        refine wpList_nil ?_
        have kx5 := kx4.trans k5
        have HO5 := Lib.hid (range_kept HO4.out k5)
        clear HO4 k5 kx4 hk5
        go_upto_region 10 with fail
        refine wp_free 13 [pE g 4, iE o.k, bE false, bE false, uE, uE, uE, uE, uE, uE, uE, uE, bE false] (by kernel_rfl) rfl (by kernel_rfl) ?_ ?_
        ·refine fE 1 3 25 4 4 0 ?_
         refine sW 2 rfl (fun a u E D hk=>exec_loadi _ Try.underlying3 _ _ _ rfl (dD D 0) (range_int (range_kept HO5.out hk) 4 _ rfl)) ?_
         refine aS 3 rfl (fun a u E D hk=>exec_eqn rfl (dD D 1) rfl) (decide_eq_false hk4) ?_
         refine mD 4 44 2 ?_
         refine kS 5 3 ?_
         refine kS 6 3 ?_
         refine kS 7 3 ?_
         refine kS 8 3 ?_
         refine kS 9 3 ?_
         refine kS 10 3 ?_
         refine kS 11 3 ?_
         refine kS 12 3 ?_
         refine sW 13 rfl (fun a u E D hk=>exec_pickF _ _ _ _ rfl (dD D 3) rfl) ?_
         exact fz
        intro gv w6 hV k6
        rw [dq 13 [42,43,44,45,46,47,48,49,50,51,52,53,54]]
        simp only [F7]
        rw [gQ hV 12 54 (.bool false)]
        clear hV
        refine wpList_nil ?_
        have kx := kx5.trans k6
        clear HO5 k6 kx5 hk4
        go_wp2
        go_ret
        exact ⟨by rw [HE.out]; rfl, kx⟩
      ·skip
       go_upto_region 8 with fail
       refine wp_free 10 [pE g 4, iE o.k, bE false, bE false, uE, uE, uE, uE, uE, bE false] (by kernel_rfl) rfl (by kernel_rfl) ?_ ?_
       ·refine fE 1 3 25 4 4 0 ?_
        refine sW 2 rfl (fun a u E D hk=>exec_loadi _ Try.underlying3 _ _ _ rfl (dD D 0) (range_int (range_kept HO4.out hk) 4 _ rfl)) ?_
        refine aS 3 rfl (fun a u E D hk=>exec_eqn rfl (dD D 1) rfl) (decide_eq_false hk5) ?_
        refine mD 4 34 2 ?_
        refine kS 5 3 ?_
        refine kS 6 3 ?_
        refine kS 7 3 ?_
        refine kS 8 3 ?_
        refine kS 9 3 ?_
        refine sW 10 rfl (fun a u E D hk=>exec_pickF _ _ _ _ rfl (dD D 3) rfl) ?_
        exact fz
       intro gv w5 hV k5
       rw [dq 10 [32,33,34,35,36,37,38,39,40,41]]
       simp only [F7]
       rw [gQ hV 9 41 (.bool false)]
       clear hV
       refine wpList_nil ?_
       have kx5 := kx4.trans k5
       have HO5 := Lib.hid (range_kept HO4.out k5)
       have HN5 := Lib.hid hk5
       clear HO4 k5 kx4 hk5
       by_cases hk4 : o.k = 4
       ·skip
        have HK4 := Lib.hid hk4
        by_cases hgv : gv0 < o.qty
        ·have HE : Hid (B.err o = 12) := by show _ = _; rw [HE0.out, if_neg (fun h => HN5.out h.1), if_pos ⟨hk4, HGL.out.1 hgv⟩]
         go_upto_region 10 with fail
         refine wp_free 13 [pE g 4, iE o.k, bE true, bE true, pE p 0, .eq (o.v), pE p (offS (3 - o.side)), .eq (o.v), iE gv0, pE g 6, iE o.qty, bE true, bE true] (by kernel_rfl) rfl (by kernel_rfl) ?_ ?_
         ·refine fE 1 3 25 4 4 0 ?_
          refine sW 2 rfl (fun a u E D hk=>exec_loadi _ Try.underlying3 _ _ _ rfl (dD D 0) (range_int (range_kept HO5.out hk) 4 _ rfl)) ?_
          refine aS 3 rfl (fun a u E D hk=>exec_eqn rfl (dD D 1) rfl) (decide_eq_true hk4) ?_
          refine mD 4 44 2 ?_
          refine mE 5 0 ?_
          refine sW 6 rfl (fun a u E D hk=>exec_ldS 25 _ _ (g) (0) (o.cells) rfl (eE E) (range_kept HO5.out hk) Try.underlying25 (by rw [o.len9]; exact ord_size)) ?_
          refine cS 7 63 [.pointer (some ⟨p, 0, none⟩), o.v] rfl Try.func63 rfl (fun a u E D hk=>⟨ll (dD D 4) (ll (dD D 5) rfl), against_any u p o HSD.out⟩) ?_
          refine sW 8 rfl (fun a u E D hk=>exec_ldS 25 _ _ (g) (0) (o.cells) rfl (eE E) (range_kept HO5.out hk) Try.underlying25 (by rw [o.len9]; exact ord_size)) ?_
          refine cS 9 65 [.pointer (some ⟨p, offS (3 - o.side), none⟩), o.v] rfl Try.func65 rfl (fun a u E D hk=>⟨ll (dD D 6) (ll (dD D 7) rfl), (by obtain ⟨F', hLd⟩ := (HB.out.kept (kx5.trans hk)).lad HS3.out; rw [← HGV.out]; exact gives_any u F' p (offS (3 - o.side)) (3 - o.side) (3 - o.side) _ o hLd HSID.out)⟩) ?_
          refine fE 10 3 25 6 6 0 ?_
          refine sW 11 rfl (fun a u E D hk=>exec_loadi _ Try.underlying3 _ _ _ rfl (dD D 9) (range_int (range_kept HO5.out hk) 6 _ rfl)) ?_
          refine aS 12 rfl (fun a u E D hk=>exec_ltn rfl (dD D 8) (dD D 10)) (decide_eq_true hgv) ?_
          refine sW 13 rfl (fun a u E D hk=>exec_pick _ _ _ _ rfl (dD D 3) (dD D 11)) ?_
          exact fz
         intro gv w6 hV k6
         rw [dq 13 [42,43,44,45,46,47,48,49,50,51,52,53,54]]
         simp only [F7]
         rw [gQ hV 12 54 (.bool true)]
         clear hV
         refine wpList_nil ?_
         have kx := kx5.trans k6
         clear HO5 k6 kx5 hk4 hgv
         go_wp2
         go_ret
         exact ⟨by rw [HE.out]; rfl, kx⟩
        ·have HE : Hid (B.err o = 0) := by show _ = _; rw [HE0.out, if_neg (fun h => HN5.out h.1), if_neg (fun h => hgv (HGL.out.2 h.2))]
         go_upto_region 10 with fail
         refine wp_free 13 [pE g 4, iE o.k, bE true, bE true, pE p 0, .eq (o.v), pE p (offS (3 - o.side)), .eq (o.v), iE gv0, pE g 6, iE o.qty, bE false, bE false] (by kernel_rfl) rfl (by kernel_rfl) ?_ ?_
         ·refine fE 1 3 25 4 4 0 ?_
          refine sW 2 rfl (fun a u E D hk=>exec_loadi _ Try.underlying3 _ _ _ rfl (dD D 0) (range_int (range_kept HO5.out hk) 4 _ rfl)) ?_
          refine aS 3 rfl (fun a u E D hk=>exec_eqn rfl (dD D 1) rfl) (decide_eq_true hk4) ?_
          refine mD 4 44 2 ?_
          refine mE 5 0 ?_
          refine sW 6 rfl (fun a u E D hk=>exec_ldS 25 _ _ (g) (0) (o.cells) rfl (eE E) (range_kept HO5.out hk) Try.underlying25 (by rw [o.len9]; exact ord_size)) ?_
          refine cS 7 63 [.pointer (some ⟨p, 0, none⟩), o.v] rfl Try.func63 rfl (fun a u E D hk=>⟨ll (dD D 4) (ll (dD D 5) rfl), against_any u p o HSD.out⟩) ?_
          refine sW 8 rfl (fun a u E D hk=>exec_ldS 25 _ _ (g) (0) (o.cells) rfl (eE E) (range_kept HO5.out hk) Try.underlying25 (by rw [o.len9]; exact ord_size)) ?_
          refine cS 9 65 [.pointer (some ⟨p, offS (3 - o.side), none⟩), o.v] rfl Try.func65 rfl (fun a u E D hk=>⟨ll (dD D 6) (ll (dD D 7) rfl), (by obtain ⟨F', hLd⟩ := (HB.out.kept (kx5.trans hk)).lad HS3.out; rw [← HGV.out]; exact gives_any u F' p (offS (3 - o.side)) (3 - o.side) (3 - o.side) _ o hLd HSID.out)⟩) ?_
          refine fE 10 3 25 6 6 0 ?_
          refine sW 11 rfl (fun a u E D hk=>exec_loadi _ Try.underlying3 _ _ _ rfl (dD D 9) (range_int (range_kept HO5.out hk) 6 _ rfl)) ?_
          refine aS 12 rfl (fun a u E D hk=>exec_ltn rfl (dD D 8) (dD D 10)) (decide_eq_false hgv) ?_
          refine sW 13 rfl (fun a u E D hk=>exec_pick _ _ _ _ rfl (dD D 3) (dD D 11)) ?_
          exact fz
         intro gv w6 hV k6
         rw [dq 13 [42,43,44,45,46,47,48,49,50,51,52,53,54]]
         simp only [F7]
         rw [gQ hV 12 54 (.bool false)]
         clear hV
         refine wpList_nil ?_
         have kx := kx5.trans k6
         clear HO5 k6 kx5 hk4 hgv
         go_wp2
         go_ret
         exact ⟨by rw [HE.out]; rfl, kx⟩
       ·have HE : Hid (B.err o = 0) := by show _ = _; rw [HE0.out, if_neg (fun h => HN5.out h.1), if_neg (fun h => hk4 h.1)]
        go_upto_region 10 with fail
        refine wp_free 13 [pE g 4, iE o.k, bE false, bE false, uE, uE, uE, uE, uE, uE, uE, uE, bE false] (by kernel_rfl) rfl (by kernel_rfl) ?_ ?_
        ·refine fE 1 3 25 4 4 0 ?_
         refine sW 2 rfl (fun a u E D hk=>exec_loadi _ Try.underlying3 _ _ _ rfl (dD D 0) (range_int (range_kept HO5.out hk) 4 _ rfl)) ?_
         refine aS 3 rfl (fun a u E D hk=>exec_eqn rfl (dD D 1) rfl) (decide_eq_false hk4) ?_
         refine mD 4 44 2 ?_
         refine kS 5 3 ?_
         refine kS 6 3 ?_
         refine kS 7 3 ?_
         refine kS 8 3 ?_
         refine kS 9 3 ?_
         refine kS 10 3 ?_
         refine kS 11 3 ?_
         refine kS 12 3 ?_
         refine sW 13 rfl (fun a u E D hk=>exec_pickF _ _ _ _ rfl (dD D 3) rfl) ?_
         exact fz
        intro gv w6 hV k6
        rw [dq 13 [42,43,44,45,46,47,48,49,50,51,52,53,54]]
        simp only [F7]
        rw [gQ hV 12 54 (.bool false)]
        clear hV
        refine wpList_nil ?_
        have kx := kx5.trans k6
        clear HO5 k6 kx5 hk4
        go_wp2
        go_ret
        exact ⟨by rw [HE.out]; rfl, kx⟩
 ·have HE : Hid (B.err o = 1) := by show _ = _; unfold Bok.err; rw [if_pos (fun h => hr h.1)]
  have hr1 : o.err ≠ 0 := by unfold Ord.err; rw [if_neg hr]; decide
  go_upto_region 1 with fail
  refine wp_text 8 [.eq (o.v), iE o.err, bE true, bE true, uE, uE, uE, bE true] rfl (by kernel_rfl) ?_ ?_
  ·refine sW 1 rfl (fun a u E D hk=>exec_ldS 25 _ _ (g) (0) (o.cells) rfl (eE E) (range_kept HO.out hk) Try.underlying25 (by rw [o.len9]; exact ord_size)) ?_
   refine cS 2 62 [o.v] rfl Try.func62 rfl (fun a u E D hk=>⟨ll (dD D 0) rfl, ordRight_any o u⟩) ?_
   refine aS 3 rfl (fun a u E D hk=>exec_nen rfl (dD D 1) rfl) (decide_eq_true hr1) ?_
   refine mD 4 9 2 ?_
   refine kS 5 3 ?_
   refine kS 6 3 ?_
   refine kS 7 3 ?_
   refine sW 8 rfl (fun a u E D hk=>exec_pick _ _ _ _ rfl (dD D 3) rfl) ?_
   exact fz
  intro gv w1 hV k1
  rw [dq 8 [7,8,9,10,11,12,13,14]]
  simp only [F7]
  rw [gQ hV 7 14 (.bool true)]
  clear hV
  refine wpList_nil ?_
  have kx := k0.trans k1
  clear HO hr1 hr
  go_wp2
  go_ret
  exact ⟨by rw [HE.out]; rfl, kx⟩
def AddIn (w : World) (F : Nat → Prop) (p : Nat) (x : Oc × Bok) (r : Ending) (w' : World) : Prop :=
 ∃ F' v, r = .returned (x.1.v v) ∧ Bk w' F' p x.2 ∧ Sl w' 36 21 v x.1.f.length (fls x.1.f) ∧ (∀ b, v.ownBlock = some b → w.heap.size ≤ b ∧ ¬ F' b) ∧ Grow w F F' ∧ Keep F w w'
theorem built_oce (o : Ord) (n e : Int) : Try.prog.built 29 [(0, o.v), (2, .int .i64 n), (6, .int .i64 e)] = some ((Oc.mk o [] n false false e).cells (.slice none 0 0)).toArray := by kernel_rfl
theorem Bok.traded_to (B : Bok) (o : Ord) : B.traded o = B.to (3 - o.side) (B.matched o).L (lastOf B.last (B.matched o).f) (B.no + (B.matched o).f.length) := rfl
set_option maxRecDepth 100000 in
set_option maxHeartbeats 3200000 in
theorem badd_any (w : World) (F : Nat → Prop) (p : Nat) (B : Bok) (o : Ord) (h : Bk w F p B) (hI : Inv B) (hn : B.no ≤ 1000000000000) : Calls Try.prog 15 #[.pointer (some ⟨p, 0, none⟩), o.v] w (AddIn w F p (B.add o)) := by
 have hFl := h.lt
 have HB := Lib.hid h
 have HI := Lib.hid hI
 have hpF := h.1
 clear h hI
 go_enter Try.func15, Try.ntmps15
 go_upto_region 0 with fail
 refine wp_text 2 [.fresh w.heap.size 25 (o.cells), .fresh w.heap.size 29 (zeroC.cells (.slice none 0 0))] rfl (by kernel_rfl) ?_ ?_
 ·refine nW 1 rfl (fun a u E D hk=>⟨_, _, exec_box 25 _ (o.cells) rfl (eE E), ⟨_, rfl, hk.size, Blk.new u _ _⟩, ((Keep.refl _ u).alloc _)⟩) ?_
  refine nW 2 rfl (fun a u E D hk=>⟨_, _, exec_alc 29 (zeroC.cells (.slice none 0 0)) rfl zC, ⟨_, rfl, hk.size, Blk.new u _ _⟩, ((Keep.refl _ u).alloc _)⟩) ?_
  exact fz
 intro gv w0 hV k0
 rw [dq 2 [3,4]]
 simp only [F7]
 have hv3 : (.fresh w.heap.size 25 (o.cells) : Kn).p (gv 3) w0 := hV 0 3 (by kernel_rfl)
 generalize gv 3 = v3 at hv3 ⊢
 have hv4 : (.fresh w.heap.size 29 (zeroC.cells (.slice none 0 0)) : Kn).p (gv 4) w0 := hV 1 4 (by kernel_rfl)
 generalize gv 4 = v4 at hv4 ⊢
 clear hV
 obtain ⟨bi, rfl, hbi, hBi⟩ := hv3
 obtain ⟨b4, rfl, hb4, hB4⟩ := hv4
 refine wpList_nil ?_
 have HO := Lib.hid (blk_range hBi)
 have HB4 := Lib.hid hB4
 have li := hBi.lt
 have l4 := hB4.lt
 clear hBi hB4
 obtain ⟨e, he⟩ : ∃ e, B.err o = e := ⟨_, rfl⟩
 have HE := Lib.hid he
 clear he
 go_upto_region 1 with fail
 refine wp_text 4 [pE p 0, .eq (o.v), iE e, iE e] rfl (by kernel_rfl) ?_ ?_
 ·refine mE 1 0 ?_
  refine sW 2 rfl (fun a u E D hk=>exec_ldS 25 _ _ (bi) (0) (o.cells) rfl (eE E) (range_kept HO.out hk) Try.underlying25 (by rw [o.len9]; exact ord_size)) ?_
  refine cS 3 39 [.pointer (some ⟨p, 0, none⟩), o.v] rfl Try.func39 rfl (fun a u E D hk=>⟨ll (dD D 0) (ll (dD D 1) rfl), (by rw [← HE.out]; exact refusal_any u F p B o (HB.out.kept (k0.trans hk)) HI.out)⟩) ?_
  refine mD 4 9 2 ?_
  exact fz
 intro gv w1 hV k1
 rw [dq 4 [7,8,9,5]]
 simp only [F7]
 rw [gQ hV 3 5 (.int .i64 e)]
 clear hV
 refine wpList_nil ?_
 have k01 := k0.trans k1
 have HO1 := Lib.hid (range_kept HO.out k1)
 have HB41 := Lib.hid (HB4.out.kept k1)
 have z0 := k0.size
 have z1 := k1.size
 have h4F : ¬ F b4 := fun h => by have := hFl b4 h; omega
 have hiF : ¬ F bi := fun h => by have := hFl bi h; omega
 clear HO HB4 k0 k1
 by_cases he0 : e ≠ 0
 ·have HA : Hid (B.add o = (⟨o, [], o.qty, false, false, e⟩, B)) := by show _ = _; rw [add_err (by rw [HE.out]; exact he0), HE.out]
  go_upto_region 2 with fail
  refine wp_text 2 [iE e, bE true] rfl (by kernel_rfl) ?_ ?_
  ·refine mE 1 5 ?_
   refine aS 2 rfl (fun a u E D hk=>exec_nen rfl (dD D 0) rfl) (decide_eq_true he0) ?_
   exact fz
  intro gv w2 hV k2
  rw [dq 2 [10,11]]
  simp only [F7]
  rw [gQ hV 1 11 (.bool true)]
  clear hV
  refine wpList_nil ?_
  have HO2 := Lib.hid (range_kept HO1.out k2)
  have HB42 := Lib.hid (HB41.out.kept k2)
  clear he0
  go_upto_region 3 with fail
  refine wp_text 5 [.eq (o.v), pE bi 6, iE o.qty, iE e, .eq ((Oc.mk o [] o.qty false false e).v (.slice none 0 0))] rfl (by kernel_rfl) ?_ ?_
  ·refine sW 1 rfl (fun a u E D hk=>exec_ldS 25 _ _ (bi) (0) (o.cells) rfl (eE E) (range_kept HO2.out hk) Try.underlying25 (by rw [o.len9]; exact ord_size)) ?_
   refine fE 2 3 25 6 6 0 ?_
   refine sW 3 rfl (fun a u E D hk=>exec_loadi _ Try.underlying3 _ _ _ rfl (dD D 1) (range_int (range_kept HO2.out hk) 6 _ rfl)) ?_
   refine mE 4 5 ?_
   refine sW 5 rfl (fun a u E D hk=>exec_build _ [(0, .tmp 12), (2, .tmp 14), (6, .tmp 15)] ((Oc.mk o [] o.qty false false e).cells (.slice none 0 0)) rfl (by simp only [List.map_cons, List.map_nil]; rw [show a.eval (.tmp 12) = o.v from (dD D 0), show a.eval (.tmp 14) = .int .i64 o.qty from (dD D 2), show a.eval (.tmp 15) = .int .i64 e from (dD D 3)]; exact built_oce o o.qty e)) ?_
   exact fz
  intro gv w3 hV k3
  rw [dq 5 [12,13,14,15,16]]
  simp only [F7]
  rw [gQ hV 4 16 ((Oc.mk o [] o.qty false false e).v (.slice none 0 0))]
  clear hV
  refine l_setS 29 b4 29 (zeroC.cells (.slice none 0 0)) ((Oc.mk o [] o.qty false false e).cells (.slice none 0 0)) _ _ rfl rfl (by kernel_rfl) (by kernel_rfl) (HB42.out.kept k3) (by rw [Oc.len15]; exact szC) (by rw [Oc.len15, Oc.len15]) (Oc.one _ _ rfl) ?_
  intro w4 hB4 hk4 hs4
  simp only [Act.put]
  refine wpList_nil ?_
  go_wp2
  refine bodyPost_ret (results_cell (p := 4) rfl _ _ b4 _ ((Oc.mk o [] o.qty false false e).cells (.slice none 0 0)) rfl hB4 Try.underlying29 (by rw [Oc.len15]; exact szC)) rfl ?_
  rw [HA.out]
  have kk : Kept w w4 := ((k01.trans k2).trans k3).trans' hk4 (by omega)
  exact ⟨F, .slice none 0 0, rfl, HB.out.kept kk, Sl.nil _ _ _, fun b hb => by simp [Value.ownBlock] at hb, Grow.refl _ _, Keep.mono (T := F) kk (fun _ _ h => h.elim)⟩
 ·have he1 : e = 0 := Classical.not_not.1 he0
  subst he1
  have HEZ := Lib.hid (err_zero HE.out)
  have HAI := Lib.hid (add_is HI.out HE.out)
  go_upto_region 2 with fail
  refine wp_text 2 [iE 0, bE false] rfl (by kernel_rfl) ?_ ?_
  ·refine mE 1 5 ?_
   refine aS 2 rfl (fun a u E D hk=>exec_nen rfl (dD D 0) rfl) (by decide) ?_
   exact fz
  intro gv w2 hV k2
  rw [dq 2 [10,11]]
  simp only [F7]
  rw [gQ hV 1 11 (.bool false)]
  clear hV
  refine wpList_nil ?_
  have k02 := k01.trans k2
  have z2 := k2.size
  have HO2 := Lib.hid (range_kept HO1.out k2)
  have HB42 := Lib.hid (HB41.out.kept k2)
  clear he0 k01 HO1 HB41
  obtain ⟨m, hm⟩ : ∃ m, B.matched o = m := ⟨_, rfl⟩
  have HMM := Lib.hid hm
  clear hm
  go_upto_region 4 with fail
  refine wp_text 2 [pE p 0, .eq (o.v)] rfl (by kernel_rfl) ?_ ?_
  ·refine mE 1 0 ?_
   refine sW 2 rfl (fun a u E D hk=>exec_ldS 25 _ _ (bi) (0) (o.cells) rfl (eE E) (range_kept HO2.out hk) Try.underlying25 (by rw [o.len9]; exact ord_size)) ?_
   exact fz
  intro gv w3 hV k3
  rw [dq 2 [17,18]]
  simp only [F7]
  rw [gQ hV 0 17 (.pointer (some ⟨p, 0, none⟩))]
  rw [gQ hV 1 18 o.v]
  clear hV
  refine l_call 40 #[.pointer (some ⟨p, 0, none⟩), o.v] rfl (exec_call 40 _ [.tmp 17, .tmp 18] _ _ Try.func40 (by kernel_rfl) (by kernel_rfl) rfl (by kernel_rfl) _) ?_
  refine (match_any w3 F p B o (HB.out.kept (k02.trans k3)) HI.out HAI.out.sd (right_qty HAI.out.rt) hn).mono ?_
  rintro r w4 ⟨F4, vf, rfl, hb4', hv4, ho4, hg4, hk4⟩
  rw [HMM.out] at hb4' hv4
  refine ⟨(Oc.mk o m.f m.left false m.self 0).v vf, by rw [HMM.out], ?_⟩
  simp only [Act.put, sA, sS, sZ]
  refine l_new (.pointer (some ⟨w4.heap.size, 0, none⟩)) (w4.alloc (.cells (zeroC.cells (.slice none 0 0)).toArray 29)) rfl (exec_alc 29 (zeroC.cells (.slice none 0 0)) rfl zC) ?_
  have hNw5 := Blk.new w4 29 (zeroC.cells (.slice none 0 0))
  have kw5 : Kept w4 (w4.alloc (.cells (zeroC.cells (.slice none 0 0)).toArray 29)) := (Keep.refl _ w4).alloc _
  generalize w4.alloc (.cells (zeroC.cells (.slice none 0 0)).toArray 29) = w5 at hNw5 kw5 ⊢
  simp only [Act.put, sA, sS, sZ]
  refine l_setS 29 w4.heap.size 29 (zeroC.cells (.slice none 0 0)) ((Oc.mk o m.f m.left false m.self 0).cells vf) _ _ rfl rfl (by kernel_rfl) (by kernel_rfl) hNw5 (by rw [Oc.len15]; exact szC) (by rw [Oc.len15, Oc.len15]) (Oc.one _ _ (sl_onec hv4)) ?_
  intro w6 hB6 hk6 hs6
  simp only [Act.put]
  refine wpList_nil ?_
  obtain ⟨bo, hbo⟩ : ∃ x, w4.heap.size = x := ⟨_, rfl⟩
  rw [hbo] at hNw5 hB6 hk6 ⊢
  have lo := hB6.lt
  have k46 : Kept w4 w6 := kw5.trans' hk6 (by omega)
  have k03 := k02.trans k3
  have z3 := k3.size
  have z4 := hk4.size
  have zz := k46.size
  have hbw : w.heap.size ≤ bo := by have := k03.size; omega
  have KF6 : Keep F w w6 := (Keep.any k03 hk4).kept k46
  have HB6 := Lib.hid (hb4'.kept k46)
  have HV6 := Lib.hid (hv4.kept k46)
  have HOo := Lib.hid hB6
  have HO6 := Lib.hid (range_kept (range_keep (range_kept HO2.out k3) hk4 hiF) k46)
  have HB46 := Lib.hid (((HB42.out.kept k3).keep hk4 h4F).kept k46)
  have HG4 : Hid (Grow w F F4) := hg4.wide k03.size
  have hoF4 : ¬ F4 bo := fun h => by have := hb4'.lt bo h; omega
  have hiF4 : ¬ F4 bi := fun h => (hg4 bi h).elim hiF (fun h => by omega)
  have h4F4 : ¬ F4 b4 := fun h => (hg4 b4 h).elim h4F (fun h => by omega)
  have HOw : Hid (∀ b, vf.ownBlock = some b → w.heap.size ≤ b ∧ ¬ F4 b) := fun b hb => ⟨by have := (ho4 b hb).1; have := k03.size; omega, (ho4 b hb).2⟩
  have HVL : Hid (∀ b, vf.ownBlock = some b → b < bo) := fun b hb => by have := hv4.lt hb; omega
  have hbo4 : bo ≠ b4 := by omega
  have hv4' : ∀ b, vf.ownBlock = some b → b ≠ b4 := fun b hb e => by
   have h1 := (ho4 b hb).1
   omega
  have HV4N := Lib.hid hv4'
  clear hb4' hv4 ho4 hg4 hk4 hNw5 hB6 hk6 hs6 kw5 k46 HO2 HB42 k3 hbo hv4'
  have HST : Hid (B.stays o = (decide (0 < m.left) && !m.self && (decide (o.k = 1) || decide (o.k = 5)))) := by show _ = _; unfold Bok.stays; rw [HMM.out]
  obtain ⟨st, hst⟩ : ∃ st, B.stays o = st := ⟨_, rfl⟩
  rw [hst] at HST
  have HSTY := Lib.hid hst
  have hst' : (decide (0 < m.left) && !m.self && (decide (o.k = 1) || decide (o.k = 5))) = st := HST.out.symm
  clear hst HST
  have HADD : Hid (B.add o = (⟨o, m.f, m.left, st, m.self, 0⟩, if st = true then (B.traded o).put o.side (restM (o.cut m.left) ((B.traded o).sd o.side)) else B.traded o)) := by
   show _ = _
   unfold Bok.add
   rw [if_neg (by rw [HE.out]; simp), HSTY.out, HMM.out]
  have HSTH := Lib.hid hst'
  clear hst'
  by_cases hl : 0 < m.left
  ·by_cases hsf0 : m.self = true
   ·have hsf := hsf0
    have hst : st = false := by rw [← HSTH.out, hsf]; simp
    subst hst
    clear hsf0
    go_upto_region 5 with fail
    refine wp_text 12 [pE bo 10, iE ((Oc.mk o m.f m.left false m.self 0).left), bE true, bE true, pE bo 13, bE ((Oc.mk o m.f m.left false m.self 0).self), bE false, bE false, bE false, uE, uE, bE false] rfl (by kernel_rfl) ?_ ?_
    ·refine fE 1 6 29 2 10 0 ?_
     refine sW 2 rfl (fun a u E D hk=>exec_loadi _ Try.underlying3 _ _ _ rfl (dD D 0) (by rw [(HOo.out.kept hk).cell]; rfl)) ?_
     refine aS 3 rfl (fun a u E D hk=>exec_gtn rfl (dD D 1) rfl) (decide_eq_true hl) ?_
     refine mD 4 22 2 ?_
     refine fE 5 6 29 5 13 0 ?_
     refine sW 6 rfl (fun a u E D hk=>exec_ldb _ Try.underlying4 _ _ _ rfl (dD D 4) (by rw [(HOo.out.kept hk).cell]; rfl)) ?_
     refine aS 7 rfl (fun a u E D hk=>exec_not _ _ (Oc.mk o m.f m.left false m.self 0).self rfl (dD D 5)) (by rw [hsf]; rfl) ?_
     refine sW 8 rfl (fun a u E D hk=>exec_pick _ _ _ _ rfl (dD D 3) (dD D 6)) ?_
     refine mD 9 27 7 ?_
     refine kS 10 8 ?_
     refine kS 11 8 ?_
     refine sW 12 rfl (fun a u E D hk=>exec_pickF _ _ _ _ rfl (dD D 8) rfl) ?_
     exact fz
    intro gv w7 hV k7
    rw [dq 12 [20,21,22,23,24,25,26,27,28,29,30,31]]
    simp only [F7]
    rw [gQ hV 11 31 (.bool false)]
    clear hV
    refine wpList_nil ?_
    have HB7 := Lib.hid (HB6.out.kept k7)
    have HV7 := Lib.hid (HV6.out.kept k7)
    have HO7 := Lib.hid (HOo.out.kept k7)
    have HB47 := Lib.hid (HB46.out.kept k7)
    have KF7 := KF6.kept k7
    clear HB6 HV6 HOo HB46 HO6 KF6 k7
    go_upto_region 8 with fail
    refine wp_text 1 [.eq ((Oc.mk o m.f m.left false m.self 0).v vf)] rfl (by kernel_rfl) ?_ ?_
    ·refine sW 1 rfl (fun a u E D hk=>exec_ldS 29 _ _ bo 0 ((Oc.mk o m.f m.left false m.self 0).cells vf) rfl (eE E) (blk_range (HO7.out.kept hk)) Try.underlying29 (by rw [Oc.len15]; exact szC)) ?_
     exact fz
    intro gv wy hV ky
    rw [dq 1 [38]]
    simp only [F7]
    rw [gQ hV 0 38 ((Oc.mk o m.f m.left false m.self 0).v vf)]
    clear hV
    refine l_setS 29 b4 29 (zeroC.cells (.slice none 0 0)) ((Oc.mk o m.f m.left false m.self 0).cells vf) _ _ rfl rfl (by kernel_rfl) (by kernel_rfl) (HB47.out.kept ky) (by rw [Oc.len15]; exact szC) (by rw [Oc.len15, Oc.len15]) (Oc.one _ _ (sl_onec HV7.out)) ?_
    intro wx hBx hkx hsx
    simp only [Act.put]
    refine wpList_nil ?_
    go_wp2
    refine bodyPost_ret (results_cell (p := 4) rfl _ _ b4 _ ((Oc.mk o m.f m.left false m.self 0).cells vf) rfl hBx Try.underlying29 (by rw [Oc.len15]; exact szC)) rfl ?_
    rw [HADD.out]
    refine ⟨F4, vf, rfl, ?_, (HV7.out.kept ky).keep hkx (fun b hb e => HV4N.out b hb e), HOw.out, HG4.out, (KF7.kept ky).trans hkx (fun b hb e => by omega)⟩
    have h1 := (HB7.out.kept ky).keep hkx (fun b hb e => h4F4 (by rw [← e]; exact hb))
    simp only [Bool.false_eq_true, if_false]
    rw [Bok.traded_to, HMM.out]
    exact h1
   ·have hsf : m.self = false := by simpa using hsf0
    clear hsf0
    obtain ⟨mr, hmr⟩ : ∃ x, (decide (o.k = 1) || decide (o.k = 5)) = x := ⟨_, rfl⟩
    have HMR := Lib.hid hmr
    cases mr with
    | false =>
     have hst : st = false := by rw [← HSTH.out, hmr]; simp
     subst hst
     clear hmr
     go_upto_region 5 with fail
     refine wp_text 12 [pE bo 10, iE ((Oc.mk o m.f m.left false m.self 0).left), bE true, bE true, pE bo 13, bE ((Oc.mk o m.f m.left false m.self 0).self), bE true, bE true, bE true, .eq (o.v), bE false, bE false] rfl (by kernel_rfl) ?_ ?_
     ·refine fE 1 6 29 2 10 0 ?_
      refine sW 2 rfl (fun a u E D hk=>exec_loadi _ Try.underlying3 _ _ _ rfl (dD D 0) (by rw [(HOo.out.kept hk).cell]; rfl)) ?_
      refine aS 3 rfl (fun a u E D hk=>exec_gtn rfl (dD D 1) rfl) (decide_eq_true hl) ?_
      refine mD 4 22 2 ?_
      refine fE 5 6 29 5 13 0 ?_
      refine sW 6 rfl (fun a u E D hk=>exec_ldb _ Try.underlying4 _ _ _ rfl (dD D 4) (by rw [(HOo.out.kept hk).cell]; rfl)) ?_
      refine aS 7 rfl (fun a u E D hk=>exec_not _ _ (Oc.mk o m.f m.left false m.self 0).self rfl (dD D 5)) (by rw [hsf]; rfl) ?_
      refine sW 8 rfl (fun a u E D hk=>exec_pick _ _ _ _ rfl (dD D 3) (dD D 6)) ?_
      refine mD 9 27 7 ?_
      refine sW 10 rfl (fun a u E D hk=>exec_ldS 25 _ _ (bi) (0) (o.cells) rfl (eE E) (range_kept HO6.out hk) Try.underlying25 (by rw [o.len9]; exact ord_size)) ?_
      refine cS 11 41 [o.v] rfl Try.func41 rfl (fun a u E D hk=>⟨ll (dD D 9) rfl, (by rw [← HMR.out]; exact mayRest_any u o)⟩) ?_
      refine sW 12 rfl (fun a u E D hk=>exec_pick _ _ _ _ rfl (dD D 8) (dD D 10)) ?_
      exact fz
     intro gv w7 hV k7
     rw [dq 12 [20,21,22,23,24,25,26,27,28,29,30,31]]
     simp only [F7]
     rw [gQ hV 11 31 (.bool false)]
     clear hV
     refine wpList_nil ?_
     have HB7 := Lib.hid (HB6.out.kept k7)
     have HV7 := Lib.hid (HV6.out.kept k7)
     have HO7 := Lib.hid (HOo.out.kept k7)
     have HB47 := Lib.hid (HB46.out.kept k7)
     have KF7 := KF6.kept k7
     clear HB6 HV6 HOo HB46 HO6 KF6 k7
     go_upto_region 8 with fail
     refine wp_text 1 [.eq ((Oc.mk o m.f m.left false m.self 0).v vf)] rfl (by kernel_rfl) ?_ ?_
     ·refine sW 1 rfl (fun a u E D hk=>exec_ldS 29 _ _ bo 0 ((Oc.mk o m.f m.left false m.self 0).cells vf) rfl (eE E) (blk_range (HO7.out.kept hk)) Try.underlying29 (by rw [Oc.len15]; exact szC)) ?_
      exact fz
     intro gv wy hV ky
     rw [dq 1 [38]]
     simp only [F7]
     rw [gQ hV 0 38 ((Oc.mk o m.f m.left false m.self 0).v vf)]
     clear hV
     refine l_setS 29 b4 29 (zeroC.cells (.slice none 0 0)) ((Oc.mk o m.f m.left false m.self 0).cells vf) _ _ rfl rfl (by kernel_rfl) (by kernel_rfl) (HB47.out.kept ky) (by rw [Oc.len15]; exact szC) (by rw [Oc.len15, Oc.len15]) (Oc.one _ _ (sl_onec HV7.out)) ?_
     intro wx hBx hkx hsx
     simp only [Act.put]
     refine wpList_nil ?_
     go_wp2
     refine bodyPost_ret (results_cell (p := 4) rfl _ _ b4 _ ((Oc.mk o m.f m.left false m.self 0).cells vf) rfl hBx Try.underlying29 (by rw [Oc.len15]; exact szC)) rfl ?_
     rw [HADD.out]
     refine ⟨F4, vf, rfl, ?_, (HV7.out.kept ky).keep hkx (fun b hb e => HV4N.out b hb e), HOw.out, HG4.out, (KF7.kept ky).trans hkx (fun b hb e => by omega)⟩
     have h1 := (HB7.out.kept ky).keep hkx (fun b hb e => h4F4 (by rw [← e]; exact hb))
     simp only [Bool.false_eq_true, if_false]
     rw [Bok.traded_to, HMM.out]
     exact h1
    | true =>
     have hst : st = true := by rw [← HSTH.out, hmr, hsf]; simp; exact hl
     subst hst
     clear hmr
     go_upto_region 5 with fail
     refine wp_text 12 [pE bo 10, iE ((Oc.mk o m.f m.left false m.self 0).left), bE true, bE true, pE bo 13, bE ((Oc.mk o m.f m.left false m.self 0).self), bE true, bE true, bE true, .eq (o.v), bE true, bE true] rfl (by kernel_rfl) ?_ ?_
     ·refine fE 1 6 29 2 10 0 ?_
      refine sW 2 rfl (fun a u E D hk=>exec_loadi _ Try.underlying3 _ _ _ rfl (dD D 0) (by rw [(HOo.out.kept hk).cell]; rfl)) ?_
      refine aS 3 rfl (fun a u E D hk=>exec_gtn rfl (dD D 1) rfl) (decide_eq_true hl) ?_
      refine mD 4 22 2 ?_
      refine fE 5 6 29 5 13 0 ?_
      refine sW 6 rfl (fun a u E D hk=>exec_ldb _ Try.underlying4 _ _ _ rfl (dD D 4) (by rw [(HOo.out.kept hk).cell]; rfl)) ?_
      refine aS 7 rfl (fun a u E D hk=>exec_not _ _ (Oc.mk o m.f m.left false m.self 0).self rfl (dD D 5)) (by rw [hsf]; rfl) ?_
      refine sW 8 rfl (fun a u E D hk=>exec_pick _ _ _ _ rfl (dD D 3) (dD D 6)) ?_
      refine mD 9 27 7 ?_
      refine sW 10 rfl (fun a u E D hk=>exec_ldS 25 _ _ (bi) (0) (o.cells) rfl (eE E) (range_kept HO6.out hk) Try.underlying25 (by rw [o.len9]; exact ord_size)) ?_
      refine cS 11 41 [o.v] rfl Try.func41 rfl (fun a u E D hk=>⟨ll (dD D 9) rfl, (by rw [← HMR.out]; exact mayRest_any u o)⟩) ?_
      refine sW 12 rfl (fun a u E D hk=>exec_pick _ _ _ _ rfl (dD D 8) (dD D 10)) ?_
      exact fz
     intro gv w7 hV k7
     rw [dq 12 [20,21,22,23,24,25,26,27,28,29,30,31]]
     simp only [F7]
     rw [gQ hV 11 31 (.bool true)]
     clear hV
     refine wpList_nil ?_
     have HB7 := Lib.hid (HB6.out.kept k7)
     have HV7 := Lib.hid (HV6.out.kept k7)
     have HO7 := Lib.hid (HOo.out.kept k7)
     have HI7 := Lib.hid (range_kept HO6.out k7)
     have HB47 := Lib.hid (HB46.out.kept k7)
     have KF7 := KF6.kept k7
     have zk7 := k7.size
     have HLO : Hid (LvsOk ((B.to (3 - o.side) m.L (lastOf B.last m.f) (B.no + m.f.length)).sd o.side)) := by
      show LvsOk _
      have h1 := HI.out.ok o.side
      rcases HAI.out.sd with h2 | h2 <;> rw [h2] at h1 ⊢ <;> exact h1
     clear HB6 HV6 HOo HB46 HO6 KF6 k7 hl hsf
     go_upto_region 6 with fail
     refine wp_text 4 [pE p 0, .eq (o.v), pE bo 10, iE ((Oc.mk o m.f m.left false m.self 0).left)] rfl (by kernel_rfl) ?_ ?_
     ·refine mE 1 0 ?_
      refine sW 2 rfl (fun a u E D hk=>exec_ldS 25 _ _ (bi) (0) (o.cells) rfl (eE E) (range_kept HI7.out hk) Try.underlying25 (by rw [o.len9]; exact ord_size)) ?_
      refine fE 3 6 29 2 10 0 ?_
      refine sW 4 rfl (fun a u E D hk=>exec_loadi _ Try.underlying3 _ _ _ rfl (dD D 2) (by rw [(HO7.out.kept hk).cell]; rfl)) ?_
      exact fz
     intro gv w8 hV k8
     rw [dq 4 [32,33,34,35]]
     simp only [F7]
     rw [gQ hV 0 32 (.pointer (some ⟨p, 0, none⟩))]
     rw [gQ hV 1 33 o.v]
     rw [gQ hV 3 35 (.int .i64 (Oc.mk o m.f m.left false m.self 0).left)]
     clear hV
     refine l_call 42 #[.pointer (some ⟨p, 0, none⟩), o.v, .int .i64 (Oc.mk o m.f m.left false m.self 0).left] rfl (exec_call 42 _ [.tmp 32, .tmp 33, .tmp 35] _ _ Try.func42 (by kernel_rfl) (by kernel_rfl) rfl (by kernel_rfl) _) ?_
     refine (rest_any w8 F4 p _ o m.left (HB7.out.kept k8) HAI.out.sd HLO.out).mono ?_
     rintro r w9 ⟨F9, rfl, hb9, hg9, hk9⟩
     refine ⟨_, rfl, ?_⟩
     simp only [Act.put, sA, sS, sZ]
     refine wpList_nil ?_
     have zk8 := k8.size
     have zk9 := hk9.size
     have HO9 := Lib.hid ((HO7.out.kept k8).keep hk9 hoF4)
     have HB49 := Lib.hid ((HB47.out.kept k8).keep hk9 h4F4)
     have HV9 := Lib.hid ((HV7.out.kept k8).keep hk9 (fun b hb e => (HOw.out b hb).2 e))
     have KF9 : Keep F w w9 := (KF7.kept k8).trans hk9 (fun b hb e => (HG4.out b e).elim id (fun e => by omega))
     have hF9 : ∀ b, F9 b → F4 b ∨ w8.heap.size ≤ b := hg9
     have ho9 : ¬ F9 bo := fun h => (hF9 bo h).elim hoF4 (fun h => by omega)
     have h49 : ¬ F9 b4 := fun h => (hF9 b4 h).elim h4F4 (fun h => by omega)
     have HOw9 : Hid (∀ b, vf.ownBlock = some b → w.heap.size ≤ b ∧ ¬ F9 b) := fun b hb => ⟨(HOw.out b hb).1, fun e => (hF9 b e).elim (HOw.out b hb).2 (fun e => by have := HVL.out b hb; omega)⟩
     have HG9 : Hid (Grow w F F9) := fun b hb => by
      rcases hF9 b hb with h | h
      ·exact HG4.out b h
      ·exact .inr (by have := KF7.size; omega)
     have HB9 := Lib.hid hb9
     clear hb9 hg9 hk9 k8 HB7 HV7 HO7 HI7 HB47 KF7 hF9
     go_upto_region 7 with fail
     refine wp_text 1 [pE bo 11] rfl (by kernel_rfl) ?_ ?_
     ·refine fE 1 6 29 3 11 0 ?_
      exact fz
     intro gv wa hV ka
     rw [dq 1 [37]]
     simp only [F7]
     rw [gQ hV 0 37 (.pointer (some ⟨bo, 11, none⟩))]
     clear hV
     refine l_st1 4 bo 11 29 _ (.bool true) _ (.const (.bool true)) rfl rfl (by kernel_rfl) (by kernel_rfl) rfl rfl rfl (HO9.out.kept ka) (by rw [Oc.len15]; omega) ?_
     intro wb hOb hkb hsb
     simp only [Act.put]
     refine wpList_nil ?_
     rw [Oc.set_rests] at hOb
     have HOb := Lib.hid hOb
     have HBb := Lib.hid ((HB9.out.kept ka).keep hkb (fun b hb e => ho9 (by rw [← e]; exact hb)))
     have HVb := Lib.hid ((HV9.out.kept ka).keep hkb (fun b hb e => by have := HVL.out b hb; omega))
     have HB4b := Lib.hid ((HB49.out.kept ka).keep hkb (fun e => hbo4 e.symm))
     have KFb : Keep F w wb := (KF9.kept ka).trans hkb (fun b hb e => by omega)
     clear hOb hkb hsb ka HO9 HB9 HV9 HB49 KF9
     go_upto_region 8 with fail
     refine wp_text 1 [.eq ((Oc.mk o m.f m.left true m.self 0).v vf)] rfl (by kernel_rfl) ?_ ?_
     ·refine sW 1 rfl (fun a u E D hk=>exec_ldS 29 _ _ bo 0 ((Oc.mk o m.f m.left true m.self 0).cells vf) rfl (eE E) (blk_range (HOb.out.kept hk)) Try.underlying29 (by rw [Oc.len15]; exact szC)) ?_
      exact fz
     intro gv wy hV ky
     rw [dq 1 [38]]
     simp only [F7]
     rw [gQ hV 0 38 ((Oc.mk o m.f m.left true m.self 0).v vf)]
     clear hV
     refine l_setS 29 b4 29 (zeroC.cells (.slice none 0 0)) ((Oc.mk o m.f m.left true m.self 0).cells vf) _ _ rfl rfl (by kernel_rfl) (by kernel_rfl) (HB4b.out.kept ky) (by rw [Oc.len15]; exact szC) (by rw [Oc.len15, Oc.len15]) (Oc.one _ _ (sl_onec HVb.out)) ?_
     intro wx hBx hkx hsx
     simp only [Act.put]
     refine wpList_nil ?_
     go_wp2
     refine bodyPost_ret (results_cell (p := 4) rfl _ _ b4 _ ((Oc.mk o m.f m.left true m.self 0).cells vf) rfl hBx Try.underlying29 (by rw [Oc.len15]; exact szC)) rfl ?_
     rw [HADD.out]
     refine ⟨F9, vf, rfl, ?_, (HVb.out.kept ky).keep hkx (fun b hb e => HV4N.out b hb e), HOw9.out, HG9.out, (KFb.kept ky).trans hkx (fun b hb e => by omega)⟩
     have h1 := (HBb.out.kept ky).keep hkx (fun b hb e => h49 (by rw [← e]; exact hb))
     simp only [if_true]
     rw [Bok.traded_to, HMM.out]
     rcases HAI.out.sd with h2 | h2
     ·rw [h2] at h1 ⊢
      exact h1
     ·rw [h2] at h1 ⊢
      exact h1
  ·have hst : st = false := by rw [← HSTH.out]; simp [hl]
   subst hst
   go_upto_region 5 with fail
   refine wp_text 12 [pE bo 10, iE ((Oc.mk o m.f m.left false m.self 0).left), bE false, bE false, uE, uE, uE, bE false, bE false, uE, uE, bE false] rfl (by kernel_rfl) ?_ ?_
   ·refine fE 1 6 29 2 10 0 ?_
    refine sW 2 rfl (fun a u E D hk=>exec_loadi _ Try.underlying3 _ _ _ rfl (dD D 0) (by rw [(HOo.out.kept hk).cell]; rfl)) ?_
    refine aS 3 rfl (fun a u E D hk=>exec_gtn rfl (dD D 1) rfl) (decide_eq_false hl) ?_
    refine mD 4 22 2 ?_
    refine kS 5 3 ?_
    refine kS 6 3 ?_
    refine kS 7 3 ?_
    refine sW 8 rfl (fun a u E D hk=>exec_pickF _ _ _ _ rfl (dD D 3) rfl) ?_
    refine mD 9 27 7 ?_
    refine kS 10 8 ?_
    refine kS 11 8 ?_
    refine sW 12 rfl (fun a u E D hk=>exec_pickF _ _ _ _ rfl (dD D 8) rfl) ?_
    exact fz
   intro gv w7 hV k7
   rw [dq 12 [20,21,22,23,24,25,26,27,28,29,30,31]]
   simp only [F7]
   rw [gQ hV 11 31 (.bool false)]
   clear hV
   refine wpList_nil ?_
   have HB7 := Lib.hid (HB6.out.kept k7)
   have HV7 := Lib.hid (HV6.out.kept k7)
   have HO7 := Lib.hid (HOo.out.kept k7)
   have HB47 := Lib.hid (HB46.out.kept k7)
   have KF7 := KF6.kept k7
   clear HB6 HV6 HOo HB46 HO6 KF6 k7
   go_upto_region 8 with fail
   refine wp_text 1 [.eq ((Oc.mk o m.f m.left false m.self 0).v vf)] rfl (by kernel_rfl) ?_ ?_
   ·refine sW 1 rfl (fun a u E D hk=>exec_ldS 29 _ _ bo 0 ((Oc.mk o m.f m.left false m.self 0).cells vf) rfl (eE E) (blk_range (HO7.out.kept hk)) Try.underlying29 (by rw [Oc.len15]; exact szC)) ?_
    exact fz
   intro gv wy hV ky
   rw [dq 1 [38]]
   simp only [F7]
   rw [gQ hV 0 38 ((Oc.mk o m.f m.left false m.self 0).v vf)]
   clear hV
   refine l_setS 29 b4 29 (zeroC.cells (.slice none 0 0)) ((Oc.mk o m.f m.left false m.self 0).cells vf) _ _ rfl rfl (by kernel_rfl) (by kernel_rfl) (HB47.out.kept ky) (by rw [Oc.len15]; exact szC) (by rw [Oc.len15, Oc.len15]) (Oc.one _ _ (sl_onec HV7.out)) ?_
   intro wx hBx hkx hsx
   simp only [Act.put]
   refine wpList_nil ?_
   go_wp2
   refine bodyPost_ret (results_cell (p := 4) rfl _ _ b4 _ ((Oc.mk o m.f m.left false m.self 0).cells vf) rfl hBx Try.underlying29 (by rw [Oc.len15]; exact szC)) rfl ?_
   rw [HADD.out]
   refine ⟨F4, vf, rfl, ?_, (HV7.out.kept ky).keep hkx (fun b hb e => HV4N.out b hb e), HOw.out, HG4.out, (KF7.kept ky).trans hkx (fun b hb e => by omega)⟩
   have h1 := (HB7.out.kept ky).keep hkx (fun b hb e => h4F4 (by rw [← e]; exact hb))
   simp only [Bool.false_eq_true, if_false]
   rw [Bok.traded_to, HMM.out]
   exact h1
set_option maxRecDepth 100000 in
set_option maxHeartbeats 1600000 in
theorem refRight_any (c : Ord) (w : World) : Gives 46 #[c.v] w (.eq (.int .i64 c.err)) := by
 unfold Gives Ord.v
 have HT : Hid True := trivial
 have HB0 : Hid (Blk (w.alloc (.cells c.cells.toArray 25)) w.heap.size 25 c.cells) := Blk.new w _ _
 have kw0 : Kept w (w.alloc (.cells c.cells.toArray 25)) := (Keep.refl _ w).alloc _
 go_enter Try.func46, Try.ntmps46
 go_upto_region 1 with fail
 generalize w.alloc (.cells c.cells.toArray 25) = w0 at HB0 kw0 ⊢
 generalize w.heap.size = g at HB0 ⊢
 obtain ⟨bA, hA⟩ : ∃ b, (((((!rng c.tr 0 31) || (!rng c.firm 0 7)) || (!rng c.id 0 1073741824)) || (!rng c.side 1 2)) || (!rng c.k 1 5)) = b := ⟨_, rfl⟩
 have HA := Lib.hid hA
 clear hA
 refine wp_text 28 [pE g 0, iE c.tr, bE (rng c.tr 0 31), bE (!(rng c.tr 0 31)), bE (!(rng c.tr 0 31)), .cond (!(!(rng c.tr 0 31))) (pE g 2), .cond (!(!(rng c.tr 0 31))) (iE c.firm), .cond (!(!(rng c.tr 0 31))) (bE (rng c.firm 0 7)), .cond (!(!(rng c.tr 0 31))) (bE (!(rng c.firm 0 7))), bE ((!(rng c.tr 0 31)) || (!(rng c.firm 0 7))), bE ((!(rng c.tr 0 31)) || (!(rng c.firm 0 7))), .cond (!((!(rng c.tr 0 31)) || (!(rng c.firm 0 7)))) (pE g 1), .cond (!((!(rng c.tr 0 31)) || (!(rng c.firm 0 7)))) (iE c.id), .cond (!((!(rng c.tr 0 31)) || (!(rng c.firm 0 7)))) (bE (rng c.id 0 1073741824)), .cond (!((!(rng c.tr 0 31)) || (!(rng c.firm 0 7)))) (bE (!(rng c.id 0 1073741824))), bE (((!(rng c.tr 0 31)) || (!(rng c.firm 0 7))) || (!(rng c.id 0 1073741824))), bE (((!(rng c.tr 0 31)) || (!(rng c.firm 0 7))) || (!(rng c.id 0 1073741824))), .cond (!(((!(rng c.tr 0 31)) || (!(rng c.firm 0 7))) || (!(rng c.id 0 1073741824)))) (pE g 3), .cond (!(((!(rng c.tr 0 31)) || (!(rng c.firm 0 7))) || (!(rng c.id 0 1073741824)))) (iE c.side), .cond (!(((!(rng c.tr 0 31)) || (!(rng c.firm 0 7))) || (!(rng c.id 0 1073741824)))) (bE (rng c.side 1 2)), .cond (!(((!(rng c.tr 0 31)) || (!(rng c.firm 0 7))) || (!(rng c.id 0 1073741824)))) (bE (!(rng c.side 1 2))), bE ((((!(rng c.tr 0 31)) || (!(rng c.firm 0 7))) || (!(rng c.id 0 1073741824))) || (!(rng c.side 1 2))), bE ((((!(rng c.tr 0 31)) || (!(rng c.firm 0 7))) || (!(rng c.id 0 1073741824))) || (!(rng c.side 1 2))), .cond (!((((!(rng c.tr 0 31)) || (!(rng c.firm 0 7))) || (!(rng c.id 0 1073741824))) || (!(rng c.side 1 2)))) (pE g 4), .cond (!((((!(rng c.tr 0 31)) || (!(rng c.firm 0 7))) || (!(rng c.id 0 1073741824))) || (!(rng c.side 1 2)))) (iE c.k), .cond (!((((!(rng c.tr 0 31)) || (!(rng c.firm 0 7))) || (!(rng c.id 0 1073741824))) || (!(rng c.side 1 2)))) (bE (rng c.k 1 5)), .cond (!((((!(rng c.tr 0 31)) || (!(rng c.firm 0 7))) || (!(rng c.id 0 1073741824))) || (!(rng c.side 1 2)))) (bE (!(rng c.k 1 5))), bE bA] rfl (by kernel_rfl) ?_ ?_
 ·refine sW 1 rfl (fun a u E D hk=>exec_fld 25 0 0 _ (g) rfl (eE E) (by kernel_rfl)) ?_
  refine sW 2 rfl (fun a u E D hk=>exec_loadi _ Try.underlying3 _ _ _ rfl (dD D 0) ((HB0.out.kept hk).fld 0 _ rfl)) ?_
  refine cS 3 73 [.int .i64 c.tr, .int .i64 0, .int .i64 31] rfl Try.func73 rfl (fun a u E D hk=>⟨ll (dD D 1) (ll rfl (ll rfl rfl)), in_any _ _ _ u⟩) ?_
  refine sW 4 rfl (fun a u E D hk=>exec_not _ _ (rng c.tr 0 31) rfl (dD D 2)) ?_
  refine mD 5 6 3 ?_
  refine uC 6 4 rfl (fun a u E D hk hb=>exec_fld 25 2 2 _ (g) rfl (eE E) (by kernel_rfl)) ?_
  refine uC 7 4 rfl (fun a u E D hk hb=>exec_loadi _ Try.underlying3 _ _ _ rfl ((D 5 8 (by kernel_rfl)).1 hb) ((HB0.out.kept hk).fld 2 _ rfl)) ?_
  refine fsteps_cons 8 rfl (fun a u hE hD hk => f_unless _ rfl rfl rfl (dD hD 4) (fun hb => f_call 73 #[.int .i64 c.firm, .int .i64 0, .int .i64 7] rfl (wanted_b rfl rfl (dD hD 4) (eq_false_of hb)) (exec_call 73 _ [.tmp 9, .const (.int .i64 0), .const (.int .i64 7)] _ [.int .i64 c.firm, .int .i64 0, .int .i64 7] Try.func73 (by kernel_rfl) (by kernel_rfl) rfl (show [a.eval (.tmp 9), a.eval (.const (.int .i64 0)), a.eval (.const (.int .i64 7))] = [.int .i64 c.firm, .int .i64 0, .int .i64 7] from (by rw [show a.eval (.tmp 9) = .int .i64 c.firm from ((hD 6 9 (by kernel_rfl)).1 hb)] <;> rfl)) u) (in_any _ _ _ u))) ?_
  refine uC 9 4 rfl (fun a u E D hk hb=>exec_not _ _ (rng c.firm 0 7) rfl ((D 7 10 (by kernel_rfl)).1 hb)) ?_
  refine sW 10 rfl (fun a u E D hk=>exec_pickor _ _ _ ((!(rng c.tr 0 31))) ((!(rng c.firm 0 7))) rfl (dD D 4) rfl (fun hb2 => ((D 8 11 (by kernel_rfl)).1 hb2))) ?_
  refine mD 11 12 9 ?_
  refine uC 12 10 rfl (fun a u E D hk hb=>exec_fld 25 1 1 _ (g) rfl (eE E) (by kernel_rfl)) ?_
  refine uC 13 10 rfl (fun a u E D hk hb=>exec_loadi _ Try.underlying3 _ _ _ rfl ((D 11 14 (by kernel_rfl)).1 hb) ((HB0.out.kept hk).fld 1 _ rfl)) ?_
  refine fsteps_cons 14 rfl (fun a u hE hD hk => f_unless _ rfl rfl rfl (dD hD 10) (fun hb => f_call 73 #[.int .i64 c.id, .int .i64 0, .int .i64 1073741824] rfl (wanted_b rfl rfl (dD hD 10) (eq_false_of hb)) (exec_call 73 _ [.tmp 15, .const (.int .i64 0), .const (.int .i64 1073741824)] _ [.int .i64 c.id, .int .i64 0, .int .i64 1073741824] Try.func73 (by kernel_rfl) (by kernel_rfl) rfl (show [a.eval (.tmp 15), a.eval (.const (.int .i64 0)), a.eval (.const (.int .i64 1073741824))] = [.int .i64 c.id, .int .i64 0, .int .i64 1073741824] from (by rw [show a.eval (.tmp 15) = .int .i64 c.id from ((hD 12 15 (by kernel_rfl)).1 hb)] <;> rfl)) u) (in_any _ _ _ u))) ?_
  refine uC 15 10 rfl (fun a u E D hk hb=>exec_not _ _ (rng c.id 0 1073741824) rfl ((D 13 16 (by kernel_rfl)).1 hb)) ?_
  refine sW 16 rfl (fun a u E D hk=>exec_pickor _ _ _ (((!(rng c.tr 0 31)) || (!(rng c.firm 0 7)))) ((!(rng c.id 0 1073741824))) rfl (dD D 10) rfl (fun hb2 => ((D 14 17 (by kernel_rfl)).1 hb2))) ?_
  refine mD 17 18 15 ?_
  refine uC 18 16 rfl (fun a u E D hk hb=>exec_fld 25 3 3 _ (g) rfl (eE E) (by kernel_rfl)) ?_
  refine uC 19 16 rfl (fun a u E D hk hb=>exec_loadi _ Try.underlying3 _ _ _ rfl ((D 17 20 (by kernel_rfl)).1 hb) ((HB0.out.kept hk).fld 3 _ rfl)) ?_
  refine fsteps_cons 20 rfl (fun a u hE hD hk => f_unless _ rfl rfl rfl (dD hD 16) (fun hb => f_call 73 #[.int .i64 c.side, .int .i64 1, .int .i64 2] rfl (wanted_b rfl rfl (dD hD 16) (eq_false_of hb)) (exec_call 73 _ [.tmp 21, .const (.int .i64 1), .const (.int .i64 2)] _ [.int .i64 c.side, .int .i64 1, .int .i64 2] Try.func73 (by kernel_rfl) (by kernel_rfl) rfl (show [a.eval (.tmp 21), a.eval (.const (.int .i64 1)), a.eval (.const (.int .i64 2))] = [.int .i64 c.side, .int .i64 1, .int .i64 2] from (by rw [show a.eval (.tmp 21) = .int .i64 c.side from ((hD 18 21 (by kernel_rfl)).1 hb)] <;> rfl)) u) (in_any _ _ _ u))) ?_
  refine uC 21 16 rfl (fun a u E D hk hb=>exec_not _ _ (rng c.side 1 2) rfl ((D 19 22 (by kernel_rfl)).1 hb)) ?_
  refine sW 22 rfl (fun a u E D hk=>exec_pickor _ _ _ ((((!(rng c.tr 0 31)) || (!(rng c.firm 0 7))) || (!(rng c.id 0 1073741824)))) ((!(rng c.side 1 2))) rfl (dD D 16) rfl (fun hb2 => ((D 20 23 (by kernel_rfl)).1 hb2))) ?_
  refine mD 23 24 21 ?_
  refine uC 24 22 rfl (fun a u E D hk hb=>exec_fld 25 4 4 _ (g) rfl (eE E) (by kernel_rfl)) ?_
  refine uC 25 22 rfl (fun a u E D hk hb=>exec_loadi _ Try.underlying3 _ _ _ rfl ((D 23 26 (by kernel_rfl)).1 hb) ((HB0.out.kept hk).fld 4 _ rfl)) ?_
  refine fsteps_cons 26 rfl (fun a u hE hD hk => f_unless _ rfl rfl rfl (dD hD 22) (fun hb => f_call 73 #[.int .i64 c.k, .int .i64 1, .int .i64 5] rfl (wanted_b rfl rfl (dD hD 22) (eq_false_of hb)) (exec_call 73 _ [.tmp 27, .const (.int .i64 1), .const (.int .i64 5)] _ [.int .i64 c.k, .int .i64 1, .int .i64 5] Try.func73 (by kernel_rfl) (by kernel_rfl) rfl (show [a.eval (.tmp 27), a.eval (.const (.int .i64 1)), a.eval (.const (.int .i64 5))] = [.int .i64 c.k, .int .i64 1, .int .i64 5] from (by rw [show a.eval (.tmp 27) = .int .i64 c.k from ((hD 24 27 (by kernel_rfl)).1 hb)] <;> rfl)) u) (in_any _ _ _ u))) ?_
  refine uC 27 22 rfl (fun a u E D hk hb=>exec_not _ _ (rng c.k 1 5) rfl ((D 25 28 (by kernel_rfl)).1 hb)) ?_
  refine aS 28 rfl (fun a u E D hk=>exec_pickor _ _ _ (((((!(rng c.tr 0 31)) || (!(rng c.firm 0 7))) || (!(rng c.id 0 1073741824))) || (!(rng c.side 1 2)))) ((!(rng c.k 1 5))) rfl (dD D 22) rfl (fun hb2 => ((D 26 29 (by kernel_rfl)).1 hb2))) HA.out ?_
  exact fz
 intro gv w1 hV k1
 rw [dq 28 [3,4,5,6,7,8,9,10,11,12,13,14,15,16,17,18,19,20,21,22,23,24,25,26,27,28,29,30]]
 simp only [F7]
 rw [gQ hV 27 30 (.bool bA)]
 clear hV
 refine wpList_nil ?_
 have HB1 := Lib.hid (HB0.out.kept k1)
 have kw1 := kw0.trans k1
 clear k1 kw0 HB0
 cases bA with
 | true =>
  have he : c.err = 1 := by
   unfold Ord.err
   have hA := HA.out
   simp [rng] at hA
   rw [if_neg]
   rw [right_iff]
   omega
  have HE := Lib.hid he
  clear he
  go_wp2
  go_ret
  exact ⟨_, rfl, by rw [HE.out]; rfl, kw1⟩
 | false =>
  obtain ⟨bB, hB⟩ : ∃ b, (((!rng c.qty 1 1048576) || (!rng c.shw 0 c.qty)) || (!rng c.stop 0 1048576)) = b := ⟨_, rfl⟩
  have HB := Lib.hid hB
  clear hB
  go_upto_region 3 with fail
  refine wp_text 18 [pE g 6, iE c.qty, bE (rng c.qty 1 1048576), bE (!(rng c.qty 1 1048576)), bE (!(rng c.qty 1 1048576)), .cond (!(!(rng c.qty 1 1048576))) (pE g 7), .cond (!(!(rng c.qty 1 1048576))) (iE c.shw), .cond (!(!(rng c.qty 1 1048576))) (pE g 6), .cond (!(!(rng c.qty 1 1048576))) (iE c.qty), .cond (!(!(rng c.qty 1 1048576))) (bE (rng c.shw 0 c.qty)), .cond (!(!(rng c.qty 1 1048576))) (bE (!(rng c.shw 0 c.qty))), bE ((!(rng c.qty 1 1048576)) || (!(rng c.shw 0 c.qty))), bE ((!(rng c.qty 1 1048576)) || (!(rng c.shw 0 c.qty))), .cond (!((!(rng c.qty 1 1048576)) || (!(rng c.shw 0 c.qty)))) (pE g 8), .cond (!((!(rng c.qty 1 1048576)) || (!(rng c.shw 0 c.qty)))) (iE c.stop), .cond (!((!(rng c.qty 1 1048576)) || (!(rng c.shw 0 c.qty)))) (bE (rng c.stop 0 1048576)), .cond (!((!(rng c.qty 1 1048576)) || (!(rng c.shw 0 c.qty)))) (bE (!(rng c.stop 0 1048576))), bE bB] rfl (by kernel_rfl) ?_ ?_
  ·refine sW 1 rfl (fun a u E D hk=>exec_fld 25 6 6 _ (g) rfl (eE E) (by kernel_rfl)) ?_
   refine sW 2 rfl (fun a u E D hk=>exec_loadi _ Try.underlying3 _ _ _ rfl (dD D 0) ((HB1.out.kept hk).fld 6 _ rfl)) ?_
   refine cS 3 73 [.int .i64 c.qty, .int .i64 1, .int .i64 1048576] rfl Try.func73 rfl (fun a u E D hk=>⟨ll (dD D 1) (ll rfl (ll rfl rfl)), in_any _ _ _ u⟩) ?_
   refine sW 4 rfl (fun a u E D hk=>exec_not _ _ (rng c.qty 1 1048576) rfl (dD D 2)) ?_
   refine mD 5 34 3 ?_
   refine uC 6 4 rfl (fun a u E D hk hb=>exec_fld 25 7 7 _ (g) rfl (eE E) (by kernel_rfl)) ?_
   refine uC 7 4 rfl (fun a u E D hk hb=>exec_loadi _ Try.underlying3 _ _ _ rfl ((D 5 36 (by kernel_rfl)).1 hb) ((HB1.out.kept hk).fld 7 _ rfl)) ?_
   refine uC 8 4 rfl (fun a u E D hk hb=>exec_fld 25 6 6 _ (g) rfl (eE E) (by kernel_rfl)) ?_
   refine uC 9 4 rfl (fun a u E D hk hb=>exec_loadi _ Try.underlying3 _ _ _ rfl ((D 7 38 (by kernel_rfl)).1 hb) ((HB1.out.kept hk).fld 6 _ rfl)) ?_
   refine fsteps_cons 10 rfl (fun a u hE hD hk => f_unless _ rfl rfl rfl (dD hD 4) (fun hb => f_call 73 #[.int .i64 c.shw, .int .i64 0, .int .i64 c.qty] rfl (wanted_b rfl rfl (dD hD 4) (eq_false_of hb)) (exec_call 73 _ [.tmp 37, .const (.int .i64 0), .tmp 39] _ [.int .i64 c.shw, .int .i64 0, .int .i64 c.qty] Try.func73 (by kernel_rfl) (by kernel_rfl) rfl (show [a.eval (.tmp 37), a.eval (.const (.int .i64 0)), a.eval (.tmp 39)] = [.int .i64 c.shw, .int .i64 0, .int .i64 c.qty] from (by rw [show a.eval (.tmp 37) = .int .i64 c.shw from ((hD 6 37 (by kernel_rfl)).1 hb), show a.eval (.tmp 39) = .int .i64 c.qty from ((hD 8 39 (by kernel_rfl)).1 hb)] <;> rfl)) u) (in_any _ _ _ u))) ?_
   refine uC 11 4 rfl (fun a u E D hk hb=>exec_not _ _ (rng c.shw 0 c.qty) rfl ((D 9 40 (by kernel_rfl)).1 hb)) ?_
   refine sW 12 rfl (fun a u E D hk=>exec_pickor _ _ _ ((!(rng c.qty 1 1048576))) ((!(rng c.shw 0 c.qty))) rfl (dD D 4) rfl (fun hb2 => ((D 10 41 (by kernel_rfl)).1 hb2))) ?_
   refine mD 13 42 11 ?_
   refine uC 14 12 rfl (fun a u E D hk hb=>exec_fld 25 8 8 _ (g) rfl (eE E) (by kernel_rfl)) ?_
   refine uC 15 12 rfl (fun a u E D hk hb=>exec_loadi _ Try.underlying3 _ _ _ rfl ((D 13 44 (by kernel_rfl)).1 hb) ((HB1.out.kept hk).fld 8 _ rfl)) ?_
   refine fsteps_cons 16 rfl (fun a u hE hD hk => f_unless _ rfl rfl rfl (dD hD 12) (fun hb => f_call 73 #[.int .i64 c.stop, .int .i64 0, .int .i64 1048576] rfl (wanted_b rfl rfl (dD hD 12) (eq_false_of hb)) (exec_call 73 _ [.tmp 45, .const (.int .i64 0), .const (.int .i64 1048576)] _ [.int .i64 c.stop, .int .i64 0, .int .i64 1048576] Try.func73 (by kernel_rfl) (by kernel_rfl) rfl (show [a.eval (.tmp 45), a.eval (.const (.int .i64 0)), a.eval (.const (.int .i64 1048576))] = [.int .i64 c.stop, .int .i64 0, .int .i64 1048576] from (by rw [show a.eval (.tmp 45) = .int .i64 c.stop from ((hD 14 45 (by kernel_rfl)).1 hb)] <;> rfl)) u) (in_any _ _ _ u))) ?_
   refine uC 17 12 rfl (fun a u E D hk hb=>exec_not _ _ (rng c.stop 0 1048576) rfl ((D 15 46 (by kernel_rfl)).1 hb)) ?_
   refine aS 18 rfl (fun a u E D hk=>exec_pickor _ _ _ (((!(rng c.qty 1 1048576)) || (!(rng c.shw 0 c.qty)))) ((!(rng c.stop 0 1048576))) rfl (dD D 12) rfl (fun hb2 => ((D 16 47 (by kernel_rfl)).1 hb2))) HB.out ?_
   exact fz
  intro gv w2 hV k2
  rw [dq 18 [31,32,33,34,35,36,37,38,39,40,41,42,43,44,45,46,47,48]]
  simp only [F7]
  rw [gQ hV 17 48 (.bool bB)]
  clear hV
  refine wpList_nil ?_
  have HB2 := Lib.hid (HB1.out.kept k2)
  have kw2 := kw1.trans k2
  clear k2 kw1 HB1
  cases bB with
  | true =>
   have he : c.err = 1 := by
    unfold Ord.err
    have hA := HA.out
    have hB := HB.out
    simp [rng] at hA hB
    rw [if_neg]
    rw [right_iff]
    omega
   have HE := Lib.hid he
   clear he
   go_wp2
   go_ret
   exact ⟨_, rfl, by rw [HE.out]; rfl, kw2⟩
  | false =>
   obtain ⟨bK, hK⟩ : ∃ b, decide (c.k = 2) = b := ⟨_, rfl⟩
   have HK := Lib.hid hK
   clear hK
   go_upto_region 5 with fail
   refine wp_text 3 [pE g 4, iE c.k, bE bK] rfl (by kernel_rfl) ?_ ?_
   ·refine sW 1 rfl (fun a u E D hk=>exec_fld 25 4 4 _ (g) rfl (eE E) (by kernel_rfl)) ?_
    refine sW 2 rfl (fun a u E D hk=>exec_loadi _ Try.underlying3 _ _ _ rfl (dD D 0) ((HB2.out.kept hk).fld 4 _ rfl)) ?_
    refine aS 3 rfl (fun a u E D hk=>exec_eqn rfl (dD D 1) rfl) HK.out ?_
    exact fz
   intro gv w3 hV k3
   rw [dq 3 [49,50,51]]
   simp only [F7]
   rw [gQ hV 2 51 (.bool bK)]
   clear hV
   refine wpList_nil ?_
   have HB3 := Lib.hid (HB2.out.kept k3)
   have kw3 := kw2.trans k3
   clear k3 kw2 HB2
   cases bK with
   | true =>
    obtain ⟨bM, hM⟩ : ∃ b, (decide (c.price ≠ 0) || decide (c.shw ≠ 0)) = b := ⟨_, rfl⟩
    have HM := Lib.hid hM
    clear hM
    go_upto_region 6 with fail
    refine wp_text 8 [pE g 5, iE c.price, bE (decide ((c.price : Int) ≠ (0 : Int))), bE (decide ((c.price : Int) ≠ (0 : Int))), .cond (!(decide ((c.price : Int) ≠ (0 : Int)))) (pE g 7), .cond (!(decide ((c.price : Int) ≠ (0 : Int)))) (iE c.shw), .cond (!(decide ((c.price : Int) ≠ (0 : Int)))) (bE (decide ((c.shw : Int) ≠ (0 : Int)))), bE bM] rfl (by kernel_rfl) ?_ ?_
    ·refine sW 1 rfl (fun a u E D hk=>exec_fld 25 5 5 _ (g) rfl (eE E) (by kernel_rfl)) ?_
     refine sW 2 rfl (fun a u E D hk=>exec_loadi _ Try.underlying3 _ _ _ rfl (dD D 0) ((HB3.out.kept hk).fld 5 _ rfl)) ?_
     refine sW 3 rfl (fun a u E D hk=>exec_nen rfl (dD D 1) rfl) ?_
     refine mD 4 54 2 ?_
     refine uC 5 3 rfl (fun a u E D hk hb=>exec_fld 25 7 7 _ (g) rfl (eE E) (by kernel_rfl)) ?_
     refine uC 6 3 rfl (fun a u E D hk hb=>exec_loadi _ Try.underlying3 _ _ _ rfl ((D 4 56 (by kernel_rfl)).1 hb) ((HB3.out.kept hk).fld 7 _ rfl)) ?_
     refine uC 7 3 rfl (fun a u E D hk hb=>exec_nen rfl ((D 5 57 (by kernel_rfl)).1 hb) rfl) ?_
     refine aS 8 rfl (fun a u E D hk=>exec_pickor _ _ _ ((decide ((c.price : Int) ≠ (0 : Int)))) ((decide ((c.shw : Int) ≠ (0 : Int)))) rfl (dD D 3) rfl (fun hb2 => ((D 6 58 (by kernel_rfl)).1 hb2))) HM.out ?_
     exact fz
    intro gv w4 hV k4
    rw [dq 8 [52,53,54,55,56,57,58,59]]
    simp only [F7]
    rw [gQ hV 7 59 (.bool bM)]
    clear hV
    refine wpList_nil ?_
    have HB4 := Lib.hid (HB3.out.kept k4)
    have kw4 := kw3.trans k4
    clear k4 kw3 HB3
    cases bM with
    | true =>
     have he : c.err = 1 := by
      unfold Ord.err
      have hA := HA.out
      have hB := HB.out
      have hK := HK.out
      have hM := HM.out
      simp [rng] at hA hB hK hM
      rw [if_neg]
      rw [right_iff]
      omega
     have HE := Lib.hid he
     clear he
     go_wp2
     go_ret
     exact ⟨_, rfl, by rw [HE.out]; rfl, kw4⟩
    | false =>
     obtain ⟨bS, hS⟩ : ∃ b, ((decide (c.shw ≠ 0) && decide (c.k ≠ 1)) && decide (c.k ≠ 5)) = b := ⟨_, rfl⟩
     have HS := Lib.hid hS
     clear hS
     go_upto_region 10 with fail
     refine wp_text 13 [pE g 7, iE c.shw, bE (decide ((c.shw : Int) ≠ (0 : Int))), bE (decide ((c.shw : Int) ≠ (0 : Int))), .cond (decide ((c.shw : Int) ≠ (0 : Int))) (pE g 4), .cond (decide ((c.shw : Int) ≠ (0 : Int))) (iE c.k), .cond (decide ((c.shw : Int) ≠ (0 : Int))) (bE (decide ((c.k : Int) ≠ (1 : Int)))), bE ((decide ((c.shw : Int) ≠ (0 : Int))) && (decide ((c.k : Int) ≠ (1 : Int)))), bE ((decide ((c.shw : Int) ≠ (0 : Int))) && (decide ((c.k : Int) ≠ (1 : Int)))), .cond ((decide ((c.shw : Int) ≠ (0 : Int))) && (decide ((c.k : Int) ≠ (1 : Int)))) (pE g 4), .cond ((decide ((c.shw : Int) ≠ (0 : Int))) && (decide ((c.k : Int) ≠ (1 : Int)))) (iE c.k), .cond ((decide ((c.shw : Int) ≠ (0 : Int))) && (decide ((c.k : Int) ≠ (1 : Int)))) (bE (decide ((c.k : Int) ≠ (5 : Int)))), bE bS] rfl (by kernel_rfl) ?_ ?_
     ·refine sW 1 rfl (fun a u E D hk=>exec_fld 25 7 7 _ (g) rfl (eE E) (by kernel_rfl)) ?_
      refine sW 2 rfl (fun a u E D hk=>exec_loadi _ Try.underlying3 _ _ _ rfl (dD D 0) ((HB4.out.kept hk).fld 7 _ rfl)) ?_
      refine sW 3 rfl (fun a u E D hk=>exec_nen rfl (dD D 1) rfl) ?_
      refine mD 4 66 2 ?_
      refine iC 5 3 rfl (fun a u E D hk hb=>exec_fld 25 4 4 _ (g) rfl (eE E) (by kernel_rfl)) ?_
      refine iC 6 3 rfl (fun a u E D hk hb=>exec_loadi _ Try.underlying3 _ _ _ rfl ((D 4 68 (by kernel_rfl)).1 hb) ((HB4.out.kept hk).fld 4 _ rfl)) ?_
      refine iC 7 3 rfl (fun a u E D hk hb=>exec_nen rfl ((D 5 69 (by kernel_rfl)).1 hb) rfl) ?_
      refine sW 8 rfl (fun a u E D hk=>exec_pickand _ _ _ ((decide ((c.shw : Int) ≠ (0 : Int)))) ((decide ((c.k : Int) ≠ (1 : Int)))) rfl (dD D 3) (fun hb2 => ((D 6 70 (by kernel_rfl)).1 hb2)) rfl) ?_
      refine mD 9 71 7 ?_
      refine iC 10 8 rfl (fun a u E D hk hb=>exec_fld 25 4 4 _ (g) rfl (eE E) (by kernel_rfl)) ?_
      refine iC 11 8 rfl (fun a u E D hk hb=>exec_loadi _ Try.underlying3 _ _ _ rfl ((D 9 73 (by kernel_rfl)).1 hb) ((HB4.out.kept hk).fld 4 _ rfl)) ?_
      refine iC 12 8 rfl (fun a u E D hk hb=>exec_nen rfl ((D 10 74 (by kernel_rfl)).1 hb) rfl) ?_
      refine aS 13 rfl (fun a u E D hk=>exec_pickand _ _ _ (((decide ((c.shw : Int) ≠ (0 : Int))) && (decide ((c.k : Int) ≠ (1 : Int))))) ((decide ((c.k : Int) ≠ (5 : Int)))) rfl (dD D 8) (fun hb2 => ((D 11 75 (by kernel_rfl)).1 hb2)) rfl) HS.out ?_
      exact fz
     intro gv w5 hV k5
     rw [dq 13 [64,65,66,67,68,69,70,71,72,73,74,75,76]]
     simp only [F7]
     rw [gQ hV 12 76 (.bool bS)]
     clear hV
     refine wpList_nil ?_
     have HB5 := Lib.hid (HB4.out.kept k5)
     have kw5 := kw4.trans k5
     clear k5 kw4 HB4
     cases bS with
     | true =>
      have he : c.err = 1 := by
       unfold Ord.err
       have hA := HA.out
       have hB := HB.out
       have hK := HK.out
       have hM := HM.out
       have hS := HS.out
       simp [rng] at hA hB hK hM hS
       rw [if_neg]
       rw [right_iff]
       omega
      have HE := Lib.hid he
      clear he
      go_wp2
      go_ret
      exact ⟨_, rfl, by rw [HE.out]; rfl, kw5⟩
     | false =>
      have he : c.err = 0 := by
       unfold Ord.err
       have hA := HA.out
       have hB := HB.out
       have hK := HK.out
       have hM := HM.out
       have hS := HS.out
       simp [rng] at hA hB hK hM hS
       rw [if_pos]
       rw [right_iff]
       omega
      have HE := Lib.hid he
      clear he
      go_wp2
      go_ret
      exact ⟨_, rfl, by rw [HE.out]; rfl, kw5⟩
   | false =>
    obtain ⟨bP, hP⟩ : ∃ b, (!rng c.price 1 1048576) = b := ⟨_, rfl⟩
    have HP := Lib.hid hP
    clear hP
    go_upto_region 8 with fail
    refine wp_text 4 [pE g 5, iE c.price, bE (rng c.price 1 1048576), bE bP] rfl (by kernel_rfl) ?_ ?_
    ·refine sW 1 rfl (fun a u E D hk=>exec_fld 25 5 5 _ (g) rfl (eE E) (by kernel_rfl)) ?_
     refine sW 2 rfl (fun a u E D hk=>exec_loadi _ Try.underlying3 _ _ _ rfl (dD D 0) ((HB3.out.kept hk).fld 5 _ rfl)) ?_
     refine cS 3 73 [.int .i64 c.price, .int .i64 1, .int .i64 1048576] rfl Try.func73 rfl (fun a u E D hk=>⟨ll (dD D 1) (ll rfl (ll rfl rfl)), in_any _ _ _ u⟩) ?_
     refine aS 4 rfl (fun a u E D hk=>exec_not _ _ (rng c.price 1 1048576) rfl (dD D 2)) HP.out ?_
     exact fz
    intro gv w4 hV k4
    rw [dq 4 [60,61,62,63]]
    simp only [F7]
    rw [gQ hV 3 63 (.bool bP)]
    clear hV
    refine wpList_nil ?_
    have HB4 := Lib.hid (HB3.out.kept k4)
    have kw4 := kw3.trans k4
    clear k4 kw3 HB3
    cases bP with
    | true =>
     have he : c.err = 1 := by
      unfold Ord.err
      have hA := HA.out
      have hB := HB.out
      have hK := HK.out
      have hP := HP.out
      simp [rng] at hA hB hK hP
      rw [if_neg]
      rw [right_iff]
      omega
     have HE := Lib.hid he
     clear he
     go_wp2
     go_ret
     exact ⟨_, rfl, by rw [HE.out]; rfl, kw4⟩
    | false =>
     obtain ⟨bS, hS⟩ : ∃ b, ((decide (c.shw ≠ 0) && decide (c.k ≠ 1)) && decide (c.k ≠ 5)) = b := ⟨_, rfl⟩
     have HS := Lib.hid hS
     clear hS
     go_upto_region 10 with fail
     refine wp_text 13 [pE g 7, iE c.shw, bE (decide ((c.shw : Int) ≠ (0 : Int))), bE (decide ((c.shw : Int) ≠ (0 : Int))), .cond (decide ((c.shw : Int) ≠ (0 : Int))) (pE g 4), .cond (decide ((c.shw : Int) ≠ (0 : Int))) (iE c.k), .cond (decide ((c.shw : Int) ≠ (0 : Int))) (bE (decide ((c.k : Int) ≠ (1 : Int)))), bE ((decide ((c.shw : Int) ≠ (0 : Int))) && (decide ((c.k : Int) ≠ (1 : Int)))), bE ((decide ((c.shw : Int) ≠ (0 : Int))) && (decide ((c.k : Int) ≠ (1 : Int)))), .cond ((decide ((c.shw : Int) ≠ (0 : Int))) && (decide ((c.k : Int) ≠ (1 : Int)))) (pE g 4), .cond ((decide ((c.shw : Int) ≠ (0 : Int))) && (decide ((c.k : Int) ≠ (1 : Int)))) (iE c.k), .cond ((decide ((c.shw : Int) ≠ (0 : Int))) && (decide ((c.k : Int) ≠ (1 : Int)))) (bE (decide ((c.k : Int) ≠ (5 : Int)))), bE bS] rfl (by kernel_rfl) ?_ ?_
     ·refine sW 1 rfl (fun a u E D hk=>exec_fld 25 7 7 _ (g) rfl (eE E) (by kernel_rfl)) ?_
      refine sW 2 rfl (fun a u E D hk=>exec_loadi _ Try.underlying3 _ _ _ rfl (dD D 0) ((HB4.out.kept hk).fld 7 _ rfl)) ?_
      refine sW 3 rfl (fun a u E D hk=>exec_nen rfl (dD D 1) rfl) ?_
      refine mD 4 66 2 ?_
      refine iC 5 3 rfl (fun a u E D hk hb=>exec_fld 25 4 4 _ (g) rfl (eE E) (by kernel_rfl)) ?_
      refine iC 6 3 rfl (fun a u E D hk hb=>exec_loadi _ Try.underlying3 _ _ _ rfl ((D 4 68 (by kernel_rfl)).1 hb) ((HB4.out.kept hk).fld 4 _ rfl)) ?_
      refine iC 7 3 rfl (fun a u E D hk hb=>exec_nen rfl ((D 5 69 (by kernel_rfl)).1 hb) rfl) ?_
      refine sW 8 rfl (fun a u E D hk=>exec_pickand _ _ _ ((decide ((c.shw : Int) ≠ (0 : Int)))) ((decide ((c.k : Int) ≠ (1 : Int)))) rfl (dD D 3) (fun hb2 => ((D 6 70 (by kernel_rfl)).1 hb2)) rfl) ?_
      refine mD 9 71 7 ?_
      refine iC 10 8 rfl (fun a u E D hk hb=>exec_fld 25 4 4 _ (g) rfl (eE E) (by kernel_rfl)) ?_
      refine iC 11 8 rfl (fun a u E D hk hb=>exec_loadi _ Try.underlying3 _ _ _ rfl ((D 9 73 (by kernel_rfl)).1 hb) ((HB4.out.kept hk).fld 4 _ rfl)) ?_
      refine iC 12 8 rfl (fun a u E D hk hb=>exec_nen rfl ((D 10 74 (by kernel_rfl)).1 hb) rfl) ?_
      refine aS 13 rfl (fun a u E D hk=>exec_pickand _ _ _ (((decide ((c.shw : Int) ≠ (0 : Int))) && (decide ((c.k : Int) ≠ (1 : Int))))) ((decide ((c.k : Int) ≠ (5 : Int)))) rfl (dD D 8) (fun hb2 => ((D 11 75 (by kernel_rfl)).1 hb2)) rfl) HS.out ?_
      exact fz
     intro gv w5 hV k5
     rw [dq 13 [64,65,66,67,68,69,70,71,72,73,74,75,76]]
     simp only [F7]
     rw [gQ hV 12 76 (.bool bS)]
     clear hV
     refine wpList_nil ?_
     have HB5 := Lib.hid (HB4.out.kept k5)
     have kw5 := kw4.trans k5
     clear k5 kw4 HB4
     cases bS with
     | true =>
      have he : c.err = 1 := by
       unfold Ord.err
       have hA := HA.out
       have hB := HB.out
       have hK := HK.out
       have hP := HP.out
       have hS := HS.out
       simp [rng] at hA hB hK hP hS
       rw [if_neg]
       rw [right_iff]
       omega
      have HE := Lib.hid he
      clear he
      go_wp2
      go_ret
      exact ⟨_, rfl, by rw [HE.out]; rfl, kw5⟩
     | false =>
      have he : c.err = 0 := by
       unfold Ord.err
       have hA := HA.out
       have hB := HB.out
       have hK := HK.out
       have hP := HP.out
       have hS := HS.out
       simp [rng] at hA hB hK hP hS
       rw [if_pos]
       rw [right_iff]
       omega
      have HE := Lib.hid he
      clear he
      go_wp2
      go_ret
      exact ⟨_, rfl, by rw [HE.out]; rfl, kw5⟩
theorem Oc.set_err (x : Oc) (v : Value) (e : Int) : (x.cells v).set 14 (.int .i64 e) = ({ x with err := e } : Oc).cells v := rfl
def RAddIn (w : World) (F : Nat → Prop) (p : Nat) (x : Oc × Bok) (r : Ending) (w' : World) : Prop :=
 ∃ F' v, r = .returned (x.1.v v) ∧ RBk w' F' p x.2 ∧ Sl w' 36 21 v x.1.f.length (fls x.1.f) ∧ (∀ b, v.ownBlock = some b → w.heap.size ≤ b ∧ ¬ F' b) ∧ Grow w F F' ∧ Keep F w w'
theorem rerr_1 {B : Bok} {o : Ord} (h : ¬ (o.right = true ∧ o.stop = 0)) : B.err o = 1 := by unfold Bok.err; rw [if_pos h]
theorem rerr_5 {B : Bok} {o : Ord} (h : o.right = true ∧ o.stop = 0) (h2 : B.has o.tr o.id = true) : B.err o = 5 := by unfold Bok.err; rw [if_neg (fun x => x h), if_pos h2]
theorem rerr_4 {B : Bok} {o : Ord} (h : o.right = true ∧ o.stop = 0) (h2 : B.has o.tr o.id = false) (h3 : (o.k = 1 ∨ o.k = 5) ∧ 64 ≤ B.len) : B.err o = 4 := by unfold Bok.err; rw [if_neg (fun x => x h), if_neg (by rw [h2]; simp), if_pos h3]
theorem rerr_11 {B : Bok} {o : Ord} (h : o.right = true ∧ o.stop = 0) (h2 : B.has o.tr o.id = false) (h3 : ¬ ((o.k = 1 ∨ o.k = 5) ∧ 64 ≤ B.len)) (h4 : o.k = 5 ∧ o.meets (B.sd (3 - o.side)) = true) : B.err o = 11 := by unfold Bok.err; rw [if_neg (fun x => x h), if_neg (by rw [h2]; simp), if_neg h3, if_pos h4]
theorem rerr_12 {B : Bok} {o : Ord} (h : o.right = true ∧ o.stop = 0) (h2 : B.has o.tr o.id = false) (h3 : ¬ ((o.k = 1 ∨ o.k = 5) ∧ 64 ≤ B.len)) (h4 : ¬ (o.k = 5 ∧ o.meets (B.sd (3 - o.side)) = true)) (h5 : o.k = 4 ∧ 0 < (B.matched o).left) : B.err o = 12 := by unfold Bok.err; rw [if_neg (fun x => x h), if_neg (by rw [h2]; simp), if_neg h3, if_neg h4, if_pos h5]
theorem rerr_0 {B : Bok} {o : Ord} (h : o.right = true ∧ o.stop = 0) (h2 : B.has o.tr o.id = false) (h3 : ¬ ((o.k = 1 ∨ o.k = 5) ∧ 64 ≤ B.len)) (h4 : ¬ (o.k = 5 ∧ o.meets (B.sd (3 - o.side)) = true)) (h5 : ¬ (o.k = 4 ∧ 0 < (B.matched o).left)) : B.err o = 0 := by unfold Bok.err; rw [if_neg (fun x => x h), if_neg (by rw [h2]; simp), if_neg h3, if_neg h4, if_neg h5]
set_option maxRecDepth 100000 in
set_option maxHeartbeats 6400000 in
theorem rbadd_any (w : World) (F : Nat → Prop) (p : Nat) (B : Bok) (o : Ord) (h : RBk w F p B) (hI : Inv B) (hn : B.no ≤ 1000000000000) : Calls Try.prog 23 #[.pointer (some ⟨p, 0, none⟩), o.v] w (RAddIn w F p (B.add o)) := by
 have hFl := h.lt
 have HB := Lib.hid h
 have HI := Lib.hid hI
 have hpF := h.1
 have hpw := hFl p hpF
 clear h hI
 go_enter Try.func23, Try.ntmps23
 go_upto_region 0 with fail
 refine wp_text 2 [.fresh w.heap.size 25 (o.cells), .fresh w.heap.size 29 (zeroC.cells (.slice none 0 0))] rfl (by kernel_rfl) ?_ ?_
 ·refine nW 1 rfl (fun a u E D hk=>⟨_, _, exec_box 25 _ (o.cells) rfl (eE E), ⟨_, rfl, hk.size, Blk.new u _ _⟩, ((Keep.refl _ u).alloc _)⟩) ?_
  refine nW 2 rfl (fun a u E D hk=>⟨_, _, exec_alc 29 (zeroC.cells (.slice none 0 0)) rfl zC, ⟨_, rfl, hk.size, Blk.new u _ _⟩, ((Keep.refl _ u).alloc _)⟩) ?_
  exact fz
 intro gv w0 hV k0
 rw [dq 2 [3,4]]
 simp only [F7]
 have hv3 : (.fresh w.heap.size 25 (o.cells) : Kn).p (gv 3) w0 := hV 0 3 (by kernel_rfl)
 generalize gv 3 = v3 at hv3 ⊢
 have hv4 : (.fresh w.heap.size 29 (zeroC.cells (.slice none 0 0)) : Kn).p (gv 4) w0 := hV 1 4 (by kernel_rfl)
 generalize gv 4 = v4 at hv4 ⊢
 clear hV
 obtain ⟨bi, rfl, hbi, hBi⟩ := hv3
 obtain ⟨b4, rfl, hb4, hB4⟩ := hv4
 refine wpList_nil ?_
 have HO0 := Lib.hid (blk_range hBi)
 have HBI0 := Lib.hid hBi
 have HB40 := Lib.hid hB4
 have li := hBi.lt
 have l4 := hB4.lt
 have hi4 : bi ≠ b4 := fun e => by
  rw [e] at hBi
  have := hBi.cell 0
  unfold Blk at hBi hB4
  rw [hB4] at hBi
  injection hBi with hx
  injection hx with _ hx _
  exact absurd hx (by decide)
 clear hBi hB4
 go_upto_region 1 with fail
 refine wp_text 5 [.eq (o.v), pE bi 6, iE o.qty, .eq ((Oc.mk o [] o.qty false false 0).v (.slice none 0 0)), .fresh w0.heap.size 29 (zeroC.cells (.slice none 0 0))] rfl (by kernel_rfl) ?_ ?_
 ·refine sW 1 rfl (fun a u E D hk=>exec_ldS 25 _ _ (bi) (0) (o.cells) rfl (eE E) (range_kept HO0.out hk) Try.underlying25 (by rw [o.len9]; exact ord_size)) ?_
  refine fE 2 3 25 6 6 0 ?_
  refine sW 3 rfl (fun a u E D hk=>exec_loadi _ Try.underlying3 _ _ _ rfl (dD D 1) (range_int (range_kept HO0.out hk) 6 _ rfl)) ?_
  refine sW 4 rfl (fun a u E D hk=>exec_build _ [(0, .tmp 13), (2, .tmp 15)] ((Oc.mk o [] o.qty false false 0).cells (.slice none 0 0)) rfl (by simp only [List.map_cons, List.map_nil]; rw [show a.eval (.tmp 13) = o.v from (dD D 0), show a.eval (.tmp 15) = .int .i64 o.qty from (dD D 2)]; exact built_oc o o.qty)) ?_
  refine nW 5 rfl (fun a u E D hk=>⟨_, _, exec_alc 29 (zeroC.cells (.slice none 0 0)) rfl zC, ⟨_, rfl, hk.size, Blk.new u _ _⟩, ((Keep.refl _ u).alloc _)⟩) ?_
  exact fz
 intro gv wb hV kb
 rw [dq 5 [13,14,15,16,5]]
 simp only [F7]
 have hv5 : (.fresh w0.heap.size 29 (zeroC.cells (.slice none 0 0)) : Kn).p (gv 5) wb := hV 4 5 (by kernel_rfl)
 generalize gv 5 = v5 at hv5 ⊢
 rw [gQ hV 3 16 ((Oc.mk o [] o.qty false false 0).v (.slice none 0 0))]
 clear hV
 obtain ⟨b5, rfl, hb5, hB5⟩ := hv5
 refine l_setS 29 b5 29 (zeroC.cells (.slice none 0 0)) ((Oc.mk o [] o.qty false false 0).cells (.slice none 0 0)) _ _ rfl rfl (by kernel_rfl) (by kernel_rfl) hB5 (by rw [Oc.len15]; exact szC) (by rw [Oc.len15, Oc.len15]) (Oc.one _ _ rfl) ?_
 intro w1 hB1 hk1 hs1
 simp only [Act.put]
 refine wpList_nil ?_
 have k01 : Kept w0 w1 := kb.trans' hk1 (by omega)
 have k1 : Kept w w1 := k0.trans k01
 have HB51 := Lib.hid hB1
 have HB41 := Lib.hid (HB40.out.kept k01)
 have HBI1 := Lib.hid (HBI0.out.kept k01)
 have HO1 := Lib.hid (range_kept HO0.out k01)
 have l5 := hB1.lt
 have z0 := k0.size
 have z01 := k01.size
 have h4F : ¬ F b4 := fun h => by have := hFl b4 h; omega
 have hiF : ¬ F bi := fun h => by have := hFl bi h; omega
 have h5F : ¬ F b5 := fun h => by have := hFl b5 h; omega
 have h54 : b5 ≠ b4 := by omega
 have h5i : b5 ≠ bi := by omega
 clear hB5 hB1 hk1 hs1 kb HO0 HBI0 HB40 k0 k01
 obtain ⟨e0, he0⟩ : ∃ e0, o.err = e0 := ⟨_, rfl⟩
 have HE0 := Lib.hid he0
 go_upto_region 2 with fail
 refine wp_text 3 [.eq (o.v), iE e0, iE e0] rfl (by kernel_rfl) ?_ ?_
 ·refine sW 1 rfl (fun a u E D hk=>exec_ldS 25 _ _ (bi) (0) (o.cells) rfl (eE E) (range_kept HO1.out hk) Try.underlying25 (by rw [o.len9]; exact ord_size)) ?_
  refine cS 2 46 [o.v] rfl Try.func46 rfl (fun a u E D hk=>⟨ll (dD D 0) rfl, (by have h := refRight_any o u; rw [HE0.out] at h; exact h)⟩) ?_
  refine mD 3 18 1 ?_
  exact fz
 intro gv w2 hV k12
 rw [dq 3 [17,18,6]]
 simp only [F7]
 rw [gQ hV 2 6 (.int .i64 e0)]
 clear hV
 refine wpList_nil ?_
 have k2 := k1.trans k12
 have z2 := k12.size
 have HB52 := Lib.hid (HB51.out.kept k12)
 have HB42 := Lib.hid (HB41.out.kept k12)
 have HBI2 := Lib.hid (HBI1.out.kept k12)
 have HO2 := Lib.hid (range_kept HO1.out k12)
 clear HB51 HB41 HBI1 HO1 k12 k1 he0
 by_cases hr : o.right = true
 ·have he : e0 = 0 := by have := HE0.out; unfold Ord.err at this; rw [if_pos hr] at this; exact this.symm
  by_cases hst : o.stop = 0
  ·have HRS : Hid (o.right = true ∧ o.stop = 0) := ⟨hr, hst⟩
   have HRI := Lib.hid ((right_iff o).1 hr)
   go_upto_region 3 with fail
   refine wp_text 7 [iE e0, bE false, bE false, pE bi 8, iE o.stop, bE false, bE false] rfl (by kernel_rfl) ?_ ?_
   ·refine mE 1 6 ?_
    refine aS 2 rfl (fun a u E D hk=>exec_nen rfl (dD D 0) rfl) (decide_eq_false (by omega)) ?_
    refine mD 3 20 1 ?_
    refine fE 4 3 25 8 8 0 ?_
    refine sW 5 rfl (fun a u E D hk=>exec_loadi _ Try.underlying3 _ _ _ rfl (dD D 3) (range_int (range_kept HO2.out hk) 8 _ rfl)) ?_
    refine aS 6 rfl (fun a u E D hk=>exec_nen rfl (dD D 4) rfl) (decide_eq_false (by omega)) ?_
    refine sW 7 rfl (fun a u E D hk=>exec_pickF _ _ _ _ rfl (dD D 2) (dD D 5)) ?_
    exact fz
   intro gv w3 hV k3
   rw [dq 7 [19,20,21,22,23,24,25]]
   simp only [F7]
   rw [gQ hV 6 25 (.bool false)]
   clear hV
   refine wpList_nil ?_
   have kw3 := k2.trans k3
   have z3 := k3.size
   have HB53 := Lib.hid (HB52.out.kept k3)
   have HB43 := Lib.hid (HB42.out.kept k3)
   have HBI3 := Lib.hid (HBI2.out.kept k3)
   have HO3 := Lib.hid (range_kept HO2.out k3)
   clear HB52 HB42 HBI2 HO2 k3 k2 hr hst he HE0
   obtain ⟨fo, fb, hfd⟩ : ∃ fo fb, B.find o.tr o.id = (fo, fb) := ⟨_, _, rfl⟩
   have HFD := Lib.hid hfd
   have HFB : Hid (B.has o.tr o.id = fb) := by show _ = _; unfold Bok.has; rw [hfd]
   clear hfd
   go_upto_region 6 with fail
   refine wp_text 10 [pE p 0, pE bi 0, iE o.tr, pE bi 1, iE o.id, .eq (.tuple #[fo.v, .bool fb]), .eq (.tuple #[fo.v, .bool fb]), .eq (fo.v), bE fb, .fresh w3.heap.size 25 zeroO.cells] rfl (by kernel_rfl) ?_ ?_
   ·refine mE 1 0 ?_
    refine fE 2 3 25 0 0 0 ?_
    refine sW 3 rfl (fun a u E D hk=>exec_loadi _ Try.underlying3 _ _ _ rfl (dD D 1) (range_int (range_kept HO3.out hk) 0 _ rfl)) ?_
    refine fE 4 3 25 1 1 0 ?_
    refine sW 5 rfl (fun a u E D hk=>exec_loadi _ Try.underlying3 _ _ _ rfl (dD D 3) (range_int (range_kept HO3.out hk) 1 _ rfl)) ?_
    refine cS 6 29 [.pointer (some ⟨p, 0, none⟩), .int .i64 o.tr, .int .i64 o.id] rfl Try.func29 rfl (fun a u E D hk=>⟨ll (dD D 0) (ll (dD D 2) (ll (dD D 4) rfl)), (by have h := rbfind_any u F p B o.tr o.id (HB.out.kept (kw3.trans hk)) HI.out; rw [HFD.out] at h; exact h)⟩) ?_
    refine mD 7 34 5 ?_
    refine sW 8 rfl (fun a u E D hk=>exec_extract _ [fo.v, .bool fb] 0 (fo.v) rfl (dD D 6) rfl) ?_
    refine sW 9 rfl (fun a u E D hk=>exec_extract _ [fo.v, .bool fb] 1 (.bool fb) rfl (dD D 6) rfl) ?_
    refine nW 10 rfl (fun a u E D hk=>⟨_, _, exec_alc 25 zeroO.cells rfl zO, ⟨_, rfl, hk.size, Blk.new u _ _⟩, ((Keep.refl _ u).alloc _)⟩) ?_
    exact fz
   intro gv w4 hV k4
   rw [dq 10 [29,30,31,32,33,34,28,35,36,7]]
   simp only [F7]
   have hv7 : (.fresh w3.heap.size 25 zeroO.cells : Kn).p (gv 7) w4 := hV 9 7 (by kernel_rfl)
   generalize gv 7 = v7 at hv7 ⊢
   rw [gQ hV 7 35 fo.v]
   rw [gQ hV 8 36 (.bool fb)]
   clear hV
   obtain ⟨b7, rfl, hb7, hB7⟩ := hv7
   refine l_setS 25 b7 25 zeroO.cells fo.cells _ _ rfl rfl (by kernel_rfl) (by kernel_rfl) hB7 (by rw [Ord.len9]; exact ord_size) (by rw [Ord.len9, Ord.len9]) (Ord.one1 _) ?_
   intro w5 hB75 hk5 hs5
   simp only [Act.put]
   refine l_val (.bool fb) rfl (exec_assign _ _ rfl (by kernel_rfl)) ?_
   simp only [Act.put, sA, sS, sZ]
   refine wpList_nil ?_
   have k35 : Kept w3 w5 := k4.trans' hk5 (by omega)
   have kw5 := kw3.trans k35
   have z5 := k35.size
   have HB55 := Lib.hid (HB53.out.kept k35)
   have HB45 := Lib.hid (HB43.out.kept k35)
   have HBI5 := Lib.hid (HBI3.out.kept k35)
   have HO5 := Lib.hid (range_kept HO3.out k35)
   clear HB53 HB43 HBI3 HO3 hB7 hB75 hk5 hs5 k4 k35 kw3 HFD
   go_upto_region 7 with fail
   refine wp_text 1 [bE fb] rfl (by kernel_rfl) ?_ ?_
   ·refine mE 1 8 ?_
    exact fz
   intro gv w6 hV k6
   rw [dq 1 [37]]
   simp only [F7]
   rw [gQ hV 0 37 (.bool fb)]
   clear hV
   refine wpList_nil ?_
   have kw6 := kw5.trans k6
   have z6 := k6.size
   have HB56 := Lib.hid (HB55.out.kept k6)
   have HB46 := Lib.hid (HB45.out.kept k6)
   have HBI6 := Lib.hid (HBI5.out.kept k6)
   have HO6 := Lib.hid (range_kept HO5.out k6)
   clear HB55 HB45 HBI5 HO5 k6 kw5
   cases fb with
   | true =>
    have HERR := Lib.hid (rerr_5 HRS.out HFB.out)
    have HA : Hid (B.add o = (⟨o, [], o.qty, false, false, 5⟩, B)) := by show _ = _; rw [add_err (by rw [HERR.out]; decide), HERR.out]
    have kE : Kept w w6 := kw6
    have HE5 := Lib.hid (HB56.out)
    have HE4 := Lib.hid (HB46.out)
    go_upto_region 8 with fail
    refine wp_text 1 [pE b5 14] rfl (by kernel_rfl) ?_ ?_
    ·refine fE 1 5 29 6 14 0 ?_
     exact fz
    intro gv we hV ke
    rw [dq 1 [38]]
    simp only [F7]
    rw [gQ hV 0 38 (.pointer (some ⟨b5, 14, none⟩))]
    clear hV
    refine l_st1 27 b5 14 29 _ (.int .i64 5) _ (.const (.int .i64 5)) rfl rfl (by kernel_rfl) (by kernel_rfl) rfl rfl rfl (HE5.out.kept ke) (by rw [Oc.len15]; omega) ?_
    intro wf hF hkf hsf
    simp only [Act.put]
    refine wpList_nil ?_
    rw [Oc.set_err] at hF
    have kf : Kept w wf := (kE.trans ke).trans' hkf (by omega)
    have HF5 : Hid (Blk wf b5 29 ((Oc.mk o [] o.qty false false 5).cells (.slice none 0 0))) := hF
    have HF4 := Lib.hid ((HE4.out.kept ke).keep hkf (by omega))
    clear hF hkf hsf ke HE5 HE4 kE HERR
    go_upto_region 9 with fail
    refine wp_text 1 [.eq ((Oc.mk o [] o.qty false false 5).v (.slice none 0 0))] rfl (by kernel_rfl) ?_ ?_
    ·refine sW 1 rfl (fun a u E D hk=>exec_ldS 29 _ _ b5 0 ((Oc.mk o [] o.qty false false 5).cells (.slice none 0 0)) rfl (eE E) (blk_range (HF5.out.kept hk)) Try.underlying29 (by rw [Oc.len15]; exact szC)) ?_
     exact fz
    intro gv wy hV ky
    rw [dq 1 [39]]
    simp only [F7]
    rw [gQ hV 0 39 ((Oc.mk o [] o.qty false false 5).v (.slice none 0 0))]
    clear hV
    refine l_setS 29 b4 29 (zeroC.cells (.slice none 0 0)) ((Oc.mk o [] o.qty false false 5).cells (.slice none 0 0)) _ _ rfl rfl (by kernel_rfl) (by kernel_rfl) (HF4.out.kept ky) (by rw [Oc.len15]; exact szC) (by rw [Oc.len15, Oc.len15]) (Oc.one _ _ rfl) ?_
    intro wx hBx hkx hsx
    simp only [Act.put]
    refine wpList_nil ?_
    go_wp2
    refine bodyPost_ret (results_cell (p := 4) rfl _ _ b4 _ ((Oc.mk o [] o.qty false false 5).cells (.slice none 0 0)) rfl hBx Try.underlying29 (by rw [Oc.len15]; exact szC)) rfl ?_
    rw [HA.out]
    have kk : Kept w wx := (kf.trans ky).trans' hkx (by omega)
    exact ⟨F, .slice none 0 0, rfl, HB.out.kept kk, Sl.nil _ _ _, fun b hb => by simp [Value.ownBlock] at hb, Grow.refl _ _, Keep.mono (T := F) kk (fun _ _ h => h.elim)⟩
   | false =>
    obtain ⟨bf, hbf⟩ : ∃ bf, ((decide ((o.k : Int) = (1 : Int)) || decide ((o.k : Int) = (5 : Int))) && decide ((64 : Int) ≤ ((B.len : Int) : Int))) = bf := ⟨_, rfl⟩
    have HBF := Lib.hid hbf
    clear hbf
    go_upto_region 10 with fail
    refine wp_text 13 [pE bi 4, iE o.k, bE (decide ((o.k : Int) = (1 : Int))), bE (decide ((o.k : Int) = (1 : Int))), .cond (!(decide ((o.k : Int) = (1 : Int)))) (pE bi 4), .cond (!(decide ((o.k : Int) = (1 : Int)))) (iE o.k), .cond (!(decide ((o.k : Int) = (1 : Int)))) (bE (decide ((o.k : Int) = (5 : Int)))), bE ((decide ((o.k : Int) = (1 : Int))) || (decide ((o.k : Int) = (5 : Int)))), bE ((decide ((o.k : Int) = (1 : Int))) || (decide ((o.k : Int) = (5 : Int)))), .cond ((decide ((o.k : Int) = (1 : Int))) || (decide ((o.k : Int) = (5 : Int)))) (pE p 0), .cond ((decide ((o.k : Int) = (1 : Int))) || (decide ((o.k : Int) = (5 : Int)))) (iE (B.len : Int)), .cond ((decide ((o.k : Int) = (1 : Int))) || (decide ((o.k : Int) = (5 : Int)))) (bE (decide ((64 : Int) ≤ ((B.len : Int) : Int)))), bE bf] rfl (by kernel_rfl) ?_ ?_
    ·refine fE 1 3 25 4 4 0 ?_
     refine sW 2 rfl (fun a u E D hk=>exec_loadi _ Try.underlying3 _ _ _ rfl (dD D 0) (range_int (range_kept HO6.out hk) 4 _ rfl)) ?_
     refine sW 3 rfl (fun a u E D hk=>exec_eqn rfl (dD D 1) rfl) ?_
     refine mD 4 42 2 ?_
     refine uC 5 3 rfl (fun a u E D hk hb=>exec_fldo 25 4 4 _ (bi) (0) (4) rfl (eE E) (by kernel_rfl) rfl) ?_
     refine uC 6 3 rfl (fun a u E D hk hb=>exec_loadi _ Try.underlying3 _ _ _ rfl ((D 4 44 (by kernel_rfl)).1 hb) (range_int (range_kept HO6.out hk) 4 _ rfl)) ?_
     refine uC 7 3 rfl (fun a u E D hk hb=>exec_eqn rfl ((D 5 45 (by kernel_rfl)).1 hb) rfl) ?_
     refine sW 8 rfl (fun a u E D hk=>exec_pickor _ _ _ ((decide ((o.k : Int) = (1 : Int)))) ((decide ((o.k : Int) = (5 : Int)))) rfl (dD D 3) rfl (fun hb2 => ((D 6 46 (by kernel_rfl)).1 hb2))) ?_
     refine mD 9 47 7 ?_
     refine iC 10 8 rfl (fun a u E D hk hb=>exec_move _ _ rfl (eE E)) ?_
     refine fsteps_cons 11 rfl (fun a u hE hD hk => f_if _ rfl rfl rfl (dD hD 8) (fun hb => f_call 47 #[.pointer (some ⟨p, 0, none⟩)] rfl (wanted_b rfl rfl (dD hD 8) (eq_true_of hb)) (exec_call 47 _ [.tmp 49] _ [.pointer (some ⟨p, 0, none⟩)] Try.func47 (by kernel_rfl) (by kernel_rfl) rfl (show [a.eval (.tmp 49)] = [.pointer (some ⟨p, 0, none⟩)] from (by rw [show a.eval (.tmp 49) = .pointer (some ⟨p, 0, none⟩) from ((hD 9 49 (by kernel_rfl)).1 hb)] <;> rfl)) u) (rblen_any u F p B (HB.out.kept (kw6.trans hk)) HI.out))) ?_
     refine iC 12 8 rfl (fun a u E D hk hb=>exec_gen rfl ((D 10 50 (by kernel_rfl)).1 hb) rfl) ?_
     refine aS 13 rfl (fun a u E D hk=>exec_pickand _ _ _ (((decide ((o.k : Int) = (1 : Int))) || (decide ((o.k : Int) = (5 : Int))))) ((decide ((64 : Int) ≤ ((B.len : Int) : Int)))) rfl (dD D 8) (fun hb2 => ((D 11 51 (by kernel_rfl)).1 hb2)) rfl) HBF.out ?_
     exact fz
    intro gv w7 hV k7
    rw [dq 13 [40,41,42,43,44,45,46,47,48,49,50,51,52]]
    simp only [F7]
    rw [gQ hV 12 52 (.bool bf)]
    clear hV
    refine wpList_nil ?_
    have kw7 := kw6.trans k7
    have z7 := k7.size
    have HB57 := Lib.hid (HB56.out.kept k7)
    have HB47 := Lib.hid (HB46.out.kept k7)
    have HBI7 := Lib.hid (HBI6.out.kept k7)
    have HO7 := Lib.hid (range_kept HO6.out k7)
    clear HB56 HB46 HBI6 HO6 k7 kw6
    cases bf with
    | true =>
     have HERR := Lib.hid (rerr_4 HRS.out HFB.out (by have := HBF.out; simp at this; exact ⟨this.1, by omega⟩))
     have HA : Hid (B.add o = (⟨o, [], o.qty, false, false, 4⟩, B)) := by show _ = _; rw [add_err (by rw [HERR.out]; decide), HERR.out]
     have kE : Kept w w7 := kw7
     have HE5 := Lib.hid (HB57.out)
     have HE4 := Lib.hid (HB47.out)
     go_upto_region 11 with fail
     refine wp_text 1 [pE b5 14] rfl (by kernel_rfl) ?_ ?_
     ·refine fE 1 5 29 6 14 0 ?_
      exact fz
     intro gv we hV ke
     rw [dq 1 [53]]
     simp only [F7]
     rw [gQ hV 0 53 (.pointer (some ⟨b5, 14, none⟩))]
     clear hV
     refine l_st1 27 b5 14 29 _ (.int .i64 4) _ (.const (.int .i64 4)) rfl rfl (by kernel_rfl) (by kernel_rfl) rfl rfl rfl (HE5.out.kept ke) (by rw [Oc.len15]; omega) ?_
     intro wf hF hkf hsf
     simp only [Act.put]
     refine wpList_nil ?_
     rw [Oc.set_err] at hF
     have kf : Kept w wf := (kE.trans ke).trans' hkf (by omega)
     have HF5 : Hid (Blk wf b5 29 ((Oc.mk o [] o.qty false false 4).cells (.slice none 0 0))) := hF
     have HF4 := Lib.hid ((HE4.out.kept ke).keep hkf (by omega))
     clear hF hkf hsf ke HE5 HE4 kE HERR
     go_upto_region 12 with fail
     refine wp_text 1 [.eq ((Oc.mk o [] o.qty false false 4).v (.slice none 0 0))] rfl (by kernel_rfl) ?_ ?_
     ·refine sW 1 rfl (fun a u E D hk=>exec_ldS 29 _ _ b5 0 ((Oc.mk o [] o.qty false false 4).cells (.slice none 0 0)) rfl (eE E) (blk_range (HF5.out.kept hk)) Try.underlying29 (by rw [Oc.len15]; exact szC)) ?_
      exact fz
     intro gv wy hV ky
     rw [dq 1 [54]]
     simp only [F7]
     rw [gQ hV 0 54 ((Oc.mk o [] o.qty false false 4).v (.slice none 0 0))]
     clear hV
     refine l_setS 29 b4 29 (zeroC.cells (.slice none 0 0)) ((Oc.mk o [] o.qty false false 4).cells (.slice none 0 0)) _ _ rfl rfl (by kernel_rfl) (by kernel_rfl) (HF4.out.kept ky) (by rw [Oc.len15]; exact szC) (by rw [Oc.len15, Oc.len15]) (Oc.one _ _ rfl) ?_
     intro wx hBx hkx hsx
     simp only [Act.put]
     refine wpList_nil ?_
     go_wp2
     refine bodyPost_ret (results_cell (p := 4) rfl _ _ b4 _ ((Oc.mk o [] o.qty false false 4).cells (.slice none 0 0)) rfl hBx Try.underlying29 (by rw [Oc.len15]; exact szC)) rfl ?_
     rw [HA.out]
     have kk : Kept w wx := (kf.trans ky).trans' hkx (by omega)
     exact ⟨F, .slice none 0 0, rfl, HB.out.kept kk, Sl.nil _ _ _, fun b hb => by simp [Value.ownBlock] at hb, Grow.refl _ _, Keep.mono (T := F) kk (fun _ _ h => h.elim)⟩
    | false =>
     have HNF : Hid (¬ ((o.k = 1 ∨ o.k = 5) ∧ 64 ≤ B.len)) := fun h => by
      have := HBF.out
      simp at this
      have := this h.1
      omega
     obtain ⟨k, h12, hk⟩ : ∃ k : Nat, (k = 1 ∨ k = 2) ∧ 3 - o.side = (k : Int) := by
      have h1 := HRI.out
      by_cases h2 : o.side = 1
      ·exact ⟨2, .inr rfl, by omega⟩
      ·exact ⟨1, .inl rfl, by omega⟩
     have HSD := Lib.hid hk
     obtain ⟨L, hLe⟩ : ∃ L, B.sd (k : Int) = L := ⟨_, rfl⟩
     have hL : LvsOk L := by rw [← hLe]; exact HI.out.ok _
     obtain ⟨v, F1, hv0, Z, G, eL, hW⟩ := (HB.out.kept kw7).way h12
     rw [hLe] at eL
     have HLe := Lib.hid hLe
     have HV := Lib.hid hv0
     have HW := Lib.hid hW
     have EL := Lib.hid eL
     obtain ⟨n, hnn⟩ : ∃ n, Z.length = n := ⟨_, rfl⟩
     have HSL := Lib.hid hW.sl
     rw [hnn] at HSL
     have HN := Lib.hid hnn
     clear hLe hL hv0 hW eL hnn HBF
     go_upto_region 13 with fail
     refine wp_free 8 [pE p 0, pE bi 3, iE o.side, iE (k : Int), pE p 0, pE p 0, pE p (0 + k * 1), .eq (v)] (by kernel_rfl) rfl (by kernel_rfl) ?_ ?_
     ·refine mE 1 0 ?_
      refine fE 2 3 25 3 3 0 ?_
      refine sW 3 rfl (fun a u E D hk=>exec_loadi _ Try.underlying3 _ _ _ rfl (dD D 1) (range_int (range_kept HO7.out hk) 3 _ rfl)) ?_
      refine sW 4 rfl (fun a u E D hk=>exec_subn (k : Int) (p := (3 : Int)) (q := o.side) rfl rfl (dD D 2) (by omega) (by omega) (by omega)) ?_
      refine nD 5 55 0 ?_
      refine fD 6 59 4 46 0 0 0 ?_
      refine sW 7 rfl (fun a u E D hk=>exec_elem 44 43 3 1 _ _ p 0 k rfl Try.underlying44 (by kernel_rfl) (dD D 5) (dD D 3) (by omega)) ?_
      refine sW 8 rfl (fun a u E D hk=>exec_ldv _ _ Try.underlying43 _ _ _ rfl (dD D 6) (Kept.cell hk (HV.out))) ?_
      exact fz
     intro gv w13 hV k13
     rw [dq 8 [55,56,57,58,59,60,61,62]]
     simp only [F7]
     rw [gQ hV 7 62 v]
     clear hV
     refine l_val (v) rfl (exec_assign _ _ rfl (by kernel_rfl)) ?_
     simp only [Act.put, sA, sS, sZ]
     refine wpList_nil ?_
     have kw13 := kw7.trans k13
     have z13 := k13.size
     have HB513 := Lib.hid (HB57.out.kept k13)
     have HB413 := Lib.hid (HB47.out.kept k13)
     have HBI13 := Lib.hid (HBI7.out.kept k13)
     have HO13 := Lib.hid (range_kept HO7.out k13)
     have HW13 := Lib.hid (HW.out.kept k13)
     have HSL13 := Lib.hid (HSL.out.kept k13)
     clear HB57 HB47 HBI7 HO7 k13 kw7 HV HW HSL hk
     obtain ⟨bm, hbm⟩ : ∃ bm, (decide (o.k = 5) && o.meets L) = bm := ⟨_, rfl⟩
     have HBM := Lib.hid hbm
     clear hbm
     go_upto_region 14 with fail
     go_cut [80] (fun a wx => a = .bool bm ∧ Kept w13 wx)
     case first =>
      by_cases hk5 : o.k = 5
      ·by_cases hn0 : 0 < n
       ·obtain ⟨gs, os, c, rfl⟩ := HSL13.out.some_ hn0
        obtain ⟨z, ZR, hZ⟩ : ∃ z ZR, Z = z :: ZR := by
         cases Z with
         | nil => have := HN.out; simp at this; omega
         | cons z ZR => exact ⟨z, ZR, rfl⟩
        subst hZ
        obtain ⟨q, pr, X⟩ := z
        have HC : Hid (w13.cell? ⟨gs, os, none⟩ = some (.pointer (some ⟨q, 0, none⟩))) := by
         show _ = _
         have hW := HW13.out
         have e := HN.out
         rw [← e] at hW
         have := hW.cell (i := 0) (z := (q, pr, X)) rfl
         simpa using this
        have HPC : Hid (w13.cell? ⟨q, 0, none⟩ = some (.int .i64 pr)) := by
         show _ = _
         obtain ⟨_, _, x, hx, _⟩ := HW13.out.lv (q, pr, X) (by simp)
         rw [hx.cell]
         rfl
        have HCR : Hid (o.crosses pr = bm) := by
         show _ = _
         have := HBM.out
         rw [← EL.out, levs_cons] at this
         simpa [hk5, Ord.meets] using this
        refine wp_free 18 [pE bi 4, iE o.k, bE true, bE true, .eq (.slice (some ⟨gs, os, none⟩) n c), iE (n : Int), bE true, bE true, bE true, .eq (o.v), .eq (.slice (some ⟨gs, os, none⟩) n c), pE gs os, pE q 0, pE q 0, pE q 0, iE pr, bE bm, bE bm] (by kernel_rfl) rfl (by kernel_rfl) ?_ ?_
        ·refine fE 1 3 25 4 4 0 ?_
         refine sW 2 rfl (fun a u E D hk=>exec_loadi _ Try.underlying3 _ _ _ rfl (dD D 0) (range_int (range_kept HO13.out hk) 4 _ rfl)) ?_
         refine aS 3 rfl (fun a u E D hk=>exec_eqn rfl (dD D 1) rfl) (decide_eq_true (by omega)) ?_
         refine mD 4 65 2 ?_
         refine mE 5 9 ?_
         refine sW 6 rfl (fun a u E D hk=>exec_lenS _ slQR _ _ _ _ rfl (dD D 4) HSL13.out) ?_
         refine aS 7 rfl (fun a u E D hk=>exec_gtn rfl (dD D 5) rfl) (decide_eq_true (by omega)) ?_
         refine sW 8 rfl (fun a u E D hk=>exec_pick _ _ _ _ rfl (dD D 3) (dD D 6)) ?_
         refine mD 9 70 7 ?_
         refine sW 10 rfl (fun a u E D hk=>exec_ldS 25 _ _ (bi) (0) (o.cells) rfl (eE E) (range_kept HO13.out hk) Try.underlying25 (by rw [o.len9]; exact ord_size)) ?_
         refine mE 11 9 ?_
         refine sW 12 rfl (fun a u E D hk=>exec_ixo slQR _ _ (gs) (os) n c 0 (os) (0) rfl (dD D 10) rfl (by first | rfl | omega) ((by omega)) (by first | rfl | omega)) ?_
         refine sW 13 rfl (fun a u E D hk=>exec_ldp _ _ Try.underlying87 _ _ _ rfl (dD D 11) (Kept.cell hk (HC.out))) ?_
         refine nD 14 75 12 ?_
         refine fD 15 76 13 86 0 0 0 ?_
         refine sW 16 rfl (fun a u E D hk=>exec_loadi _ Try.underlying3 _ _ _ rfl (dD D 14) (Kept.cell hk (HPC.out))) ?_
         refine cS 17 48 [o.v, .int .i64 pr] rfl Try.func48 rfl (fun a u E D hk=>⟨ll (dD D 9) (ll (dD D 15) rfl), (by have h := refCrosses_any o pr u; rw [HCR.out] at h; exact h)⟩) ?_
         refine sW 18 rfl (fun a u E D hk=>exec_pick _ _ _ _ rfl (dD D 8) (dD D 16)) ?_
         exact fz
        intro gv w14 hV k14
        rw [dq 18 [63,64,65,66,67,68,69,70,71,72,73,74,75,76,77,78,79,80]]
        simp only [F7]
        rw [gQ hV 17 80 (.bool bm)]
        clear hV
        refine wpList_nil ?_
        go_wp2
        go_meet
        case rel => exact ⟨rfl, k14⟩
       ·have hb0 : bm = false := by
         have hz : Z = [] := List.eq_nil_of_length_eq_zero (by rw [HN.out]; omega)
         rw [← HBM.out, ← EL.out, hz]
         simp [levs, Ord.meets]
        subst hb0
        refine wp_free 18 [pE bi 4, iE o.k, bE true, bE true, .eq (v), iE (n : Int), bE false, bE false, bE false, uE, uE, uE, uE, uE, uE, uE, uE, bE false] (by kernel_rfl) rfl (by kernel_rfl) ?_ ?_
        ·refine fE 1 3 25 4 4 0 ?_
         refine sW 2 rfl (fun a u E D hk=>exec_loadi _ Try.underlying3 _ _ _ rfl (dD D 0) (range_int (range_kept HO13.out hk) 4 _ rfl)) ?_
         refine aS 3 rfl (fun a u E D hk=>exec_eqn rfl (dD D 1) rfl) (decide_eq_true (by omega)) ?_
         refine mD 4 65 2 ?_
         refine mE 5 9 ?_
         refine sW 6 rfl (fun a u E D hk=>exec_lenS _ slQR _ _ _ _ rfl (dD D 4) HSL13.out) ?_
         refine aS 7 rfl (fun a u E D hk=>exec_gtn rfl (dD D 5) rfl) (decide_eq_false (by omega)) ?_
         refine sW 8 rfl (fun a u E D hk=>exec_pick _ _ _ _ rfl (dD D 3) (dD D 6)) ?_
         refine mD 9 70 7 ?_
         refine kS 10 8 ?_
         refine kS 11 8 ?_
         refine kS 12 8 ?_
         refine kS 13 8 ?_
         refine kS 14 8 ?_
         refine kS 15 8 ?_
         refine kS 16 8 ?_
         refine kS 17 8 ?_
         refine sW 18 rfl (fun a u E D hk=>exec_pickF _ _ _ _ rfl (dD D 8) rfl) ?_
         exact fz
        intro gv w14 hV k14
        rw [dq 18 [63,64,65,66,67,68,69,70,71,72,73,74,75,76,77,78,79,80]]
        simp only [F7]
        rw [gQ hV 17 80 (.bool false)]
        clear hV
        refine wpList_nil ?_
        go_wp2
        go_meet
        case rel => exact ⟨rfl, k14⟩
      ·have hb0 : bm = false := by
        rw [← HBM.out]
        simp [hk5]
       subst hb0
       refine wp_free 18 [pE bi 4, iE o.k, bE false, bE false, uE, uE, uE, bE false, bE false, uE, uE, uE, uE, uE, uE, uE, uE, bE false] (by kernel_rfl) rfl (by kernel_rfl) ?_ ?_
       ·refine fE 1 3 25 4 4 0 ?_
        refine sW 2 rfl (fun a u E D hk=>exec_loadi _ Try.underlying3 _ _ _ rfl (dD D 0) (range_int (range_kept HO13.out hk) 4 _ rfl)) ?_
        refine aS 3 rfl (fun a u E D hk=>exec_eqn rfl (dD D 1) rfl) (decide_eq_false (by omega)) ?_
        refine mD 4 65 2 ?_
        refine kS 5 3 ?_
        refine kS 6 3 ?_
        refine kS 7 3 ?_
        refine sW 8 rfl (fun a u E D hk=>exec_pickF _ _ _ _ rfl (dD D 3) rfl) ?_
        refine mD 9 70 7 ?_
        refine kS 10 8 ?_
        refine kS 11 8 ?_
        refine kS 12 8 ?_
        refine kS 13 8 ?_
        refine kS 14 8 ?_
        refine kS 15 8 ?_
        refine kS 16 8 ?_
        refine kS 17 8 ?_
        refine sW 18 rfl (fun a u E D hk=>exec_pickF _ _ _ _ rfl (dD D 8) rfl) ?_
        exact fz
       intro gv w14 hV k14
       rw [dq 18 [63,64,65,66,67,68,69,70,71,72,73,74,75,76,77,78,79,80]]
       simp only [F7]
       rw [gQ hV 17 80 (.bool false)]
       clear hV
       refine wpList_nil ?_
       go_wp2
       go_meet
       case rel => exact ⟨rfl, k14⟩
     case rest =>
      obtain ⟨rfl, hcut⟩ := hcut
      obtain ⟨w14, hw14⟩ : ∃ y, y = wc := ⟨_, rfl⟩
      subst hw14
      have kw14 := kw13.trans hcut
      have z14 := hcut.size
      have HB514 := Lib.hid (HB513.out.kept hcut)
      have HB414 := Lib.hid (HB413.out.kept hcut)
      have HBI14 := Lib.hid (HBI13.out.kept hcut)
      have HO14 := Lib.hid (range_kept HO13.out hcut)
      clear HB513 HB413 HBI13 HO13 HW13 HSL13 EL HN kw13 hcut
      cases bm with
      | true =>
       have HERR := Lib.hid (rerr_11 HRS.out HFB.out HNF.out (by have := HBM.out; simp at this; exact ⟨this.1, by rw [HSD.out, HLe.out]; exact this.2⟩))
       have HA : Hid (B.add o = (⟨o, [], o.qty, false, false, 11⟩, B)) := by show _ = _; rw [add_err (by rw [HERR.out]; decide), HERR.out]
       have kE : Kept w w14 := kw14
       have HE5 := Lib.hid (HB514.out)
       have HE4 := Lib.hid (HB414.out)
       go_upto_region 15 with fail
       refine wp_text 1 [pE b5 14] rfl (by kernel_rfl) ?_ ?_
       ·refine fE 1 5 29 6 14 0 ?_
        exact fz
       intro gv we hV ke
       rw [dq 1 [81]]
       simp only [F7]
       rw [gQ hV 0 81 (.pointer (some ⟨b5, 14, none⟩))]
       clear hV
       refine l_st1 27 b5 14 29 _ (.int .i64 11) _ (.const (.int .i64 11)) rfl rfl (by kernel_rfl) (by kernel_rfl) rfl rfl rfl (HE5.out.kept ke) (by rw [Oc.len15]; omega) ?_
       intro wf hF hkf hsf
       simp only [Act.put]
       refine wpList_nil ?_
       rw [Oc.set_err] at hF
       have kf : Kept w wf := (kE.trans ke).trans' hkf (by omega)
       have HF5 : Hid (Blk wf b5 29 ((Oc.mk o [] o.qty false false 11).cells (.slice none 0 0))) := hF
       have HF4 := Lib.hid ((HE4.out.kept ke).keep hkf (by omega))
       clear hF hkf hsf ke HE5 HE4 kE HERR
       go_upto_region 16 with fail
       refine wp_text 1 [.eq ((Oc.mk o [] o.qty false false 11).v (.slice none 0 0))] rfl (by kernel_rfl) ?_ ?_
       ·refine sW 1 rfl (fun a u E D hk=>exec_ldS 29 _ _ b5 0 ((Oc.mk o [] o.qty false false 11).cells (.slice none 0 0)) rfl (eE E) (blk_range (HF5.out.kept hk)) Try.underlying29 (by rw [Oc.len15]; exact szC)) ?_
        exact fz
       intro gv wy hV ky
       rw [dq 1 [82]]
       simp only [F7]
       rw [gQ hV 0 82 ((Oc.mk o [] o.qty false false 11).v (.slice none 0 0))]
       clear hV
       refine l_setS 29 b4 29 (zeroC.cells (.slice none 0 0)) ((Oc.mk o [] o.qty false false 11).cells (.slice none 0 0)) _ _ rfl rfl (by kernel_rfl) (by kernel_rfl) (HF4.out.kept ky) (by rw [Oc.len15]; exact szC) (by rw [Oc.len15, Oc.len15]) (Oc.one _ _ rfl) ?_
       intro wx hBx hkx hsx
       simp only [Act.put]
       refine wpList_nil ?_
       go_wp2
       refine bodyPost_ret (results_cell (p := 4) rfl _ _ b4 _ ((Oc.mk o [] o.qty false false 11).cells (.slice none 0 0)) rfl hBx Try.underlying29 (by rw [Oc.len15]; exact szC)) rfl ?_
       rw [HA.out]
       have kk : Kept w wx := (kf.trans ky).trans' hkx (by omega)
       exact ⟨F, .slice none 0 0, rfl, HB.out.kept kk, Sl.nil _ _ _, fun b hb => by simp [Value.ownBlock] at hb, Grow.refl _ _, Keep.mono (T := F) kk (fun _ _ h => h.elim)⟩
      | false =>
       have HNM : Hid (¬ (o.k = 5 ∧ o.meets (B.sd (3 - o.side)) = true)) := fun h => by
        have := HBM.out
        rw [HSD.out, HLe.out] at h
        simp [h.1, h.2] at this
       clear HBM
       have hsd : o.side = 1 ∨ o.side = 2 := by have := HRI.out; omega
       have HS12 := Lib.hid hsd
       have HQ := Lib.hid (right_qty HRS.out.1)
       obtain ⟨m, hm⟩ : ∃ m, B.matched o = m := ⟨_, rfl⟩
       have HMM := Lib.hid hm
       obtain ⟨bk, hbk⟩ : ∃ bk, decide ((o.k : Int) = (4 : Int)) = bk := ⟨_, rfl⟩
       have HBK := Lib.hid hbk
       clear hm hbk hsd
       go_upto_region 17 with fail
       refine wp_text 3 [pE bi 4, iE o.k, bE bk] rfl (by kernel_rfl) ?_ ?_
       ·refine fE 1 3 25 4 4 0 ?_
        refine sW 2 rfl (fun a u E D hk=>exec_loadi _ Try.underlying3 _ _ _ rfl (dD D 0) (range_int (range_kept HO14.out hk) 4 _ rfl)) ?_
        refine aS 3 rfl (fun a u E D hk=>exec_eqn rfl (dD D 1) rfl) HBK.out ?_
        exact fz
       intro gv w17 hV k17
       rw [dq 3 [83,84,85]]
       simp only [F7]
       rw [gQ hV 2 85 (.bool bk)]
       clear hV
       refine wpList_nil ?_
       have kw17 := kw14.trans k17
       have z17 := k17.size
       have HB517 := Lib.hid (HB514.out.kept k17)
       have HB417 := Lib.hid (HB414.out.kept k17)
       have HBI17 := Lib.hid (HBI14.out.kept k17)
       have HO17 := Lib.hid (range_kept HO14.out k17)
       clear HB514 HB414 HBI14 HO14 k17 kw14
       go_upto_if 85 with fail
       go_cut [10, 11, 12] (fun _ _ _ wx => Hid (B.err o = 0) ∧ Kept w17 wx)
       case first =>
        cases bk with
        | false =>
         have HER0 := Lib.hid (rerr_0 HRS.out HFB.out HNF.out HNM.out (fun h => by have := HBK.out; simp at this; exact this h.1))
         go_wp2
         go_meet
         case rel => exact ⟨HER0, Kept.refl _⟩
        | true =>
         have zd := (Keep.drew (Keep.refl (fun _ => False) w17)).size
         go_upto_region 18 with fail
         refine wp_sched (fun u => Kept w17 u) [(0, 0), (2, 0), (1, 1), (3, 1), (4, 0), (5, 0), (6, 0), (7, 0), (8, 0), (9, 0), (10, 0)] (by kernel_rfl) (by kernel_rfl) (Keep.drew (Keep.refl _ w17)) ?_
         refine s_val (o := ⟨some 87, _, _, _, _, _⟩) (.pointer (some ⟨p, 0, none⟩)) rfl (by kernel_rfl) (fun u hu => exec_move (.tmp 0) (.pointer (some ⟨p, 0, none⟩)) rfl (by kernel_rfl)) ?_
         simp only [Act.put, sA, sS, sZ]
         refine s_val (o := ⟨some 89, _, _, _, _, _⟩) (o.v) rfl (by kernel_rfl) (fun u hu => exec_ldS 25 _ (.tmp 3) bi 0 o.cells rfl (by kernel_rfl) (range_kept HO17.out hu) Try.underlying25 (by rw [o.len9]; exact ord_size)) ?_
         simp only [Act.put, sA, sS, sZ]
         refine s_call (o := ⟨some 88, _, _, _, _, _⟩) 49 #[.pointer (some ⟨p, 0, none⟩)] rfl (by kernel_rfl) (exec_call 49 _ [.tmp 87] _ _ Try.func49 (by kernel_rfl) (by kernel_rfl) rfl (by kernel_rfl)) ?_
         refine (rbcopied_any w17.drew F p B (HB.out.kept (Keep.drew kw17)) HI.out).mono ?_
         rintro e w18 ⟨r, Fr, rfl, hRr, hFr, k18⟩
         have hk18 : Kept w17 w18 := Kept.trans (Keep.drew (Keep.refl _ w17)) k18
         refine ⟨_, rfl, hk18, ?_⟩
         simp only [Act.put, sA, sS, sZ]
         refine s_call (o := ⟨some 90, _, _, _, _, _⟩) 50 #[.pointer (some ⟨r, 0, none⟩), o.v] rfl (by kernel_rfl) (exec_call 50 _ [.tmp 88, .tmp 89] _ _ Try.func50 (by kernel_rfl) (by kernel_rfl) rfl (by kernel_rfl)) ?_
         refine (rbmatch_any w18 Fr r B o hRr HI.out HS12.out HQ.out hn).mono ?_
         rintro e w19 ⟨F4, vr, rfl, hb4', hv4, ho4, hg4, hk4⟩
         have k1719 : Kept w17 w19 := Keep.trans hk18 hk4 (fun b hb h => by have := hFr b h; omega)
         refine ⟨.tuple #[vr, .int .i64 m.left, .bool m.self], by rw [HMM.out], k1719, ?_⟩
         simp only [Act.put, sA, sS, sZ]
         refine s_val (o := ⟨some 86, _, _, _, _, _⟩) (.tuple #[vr, .int .i64 m.left, .bool m.self]) rfl (by kernel_rfl) (fun u hu => exec_move (.tmp 90) (.tuple #[vr, .int .i64 m.left, .bool m.self]) rfl (by kernel_rfl)) ?_
         simp only [Act.put, sA, sS, sZ]
         refine s_val (o := ⟨some 91, _, _, _, _, _⟩) (vr) rfl (by kernel_rfl) (fun u hu => exec_extract (.tmp 86) [vr, .int .i64 m.left, .bool m.self] 0 vr rfl (by kernel_rfl) rfl) ?_
         simp only [Act.put, sA, sS, sZ]
         refine s_val (o := ⟨some 92, _, _, _, _, _⟩) (.int .i64 m.left) rfl (by kernel_rfl) (fun u hu => exec_extract (.tmp 86) [vr, .int .i64 m.left, .bool m.self] 1 (.int .i64 m.left) rfl (by kernel_rfl) rfl) ?_
         simp only [Act.put, sA, sS, sZ]
         refine s_val (o := ⟨some 93, _, _, _, _, _⟩) (.bool m.self) rfl (by kernel_rfl) (fun u hu => exec_extract (.tmp 86) [vr, .int .i64 m.left, .bool m.self] 2 (.bool m.self) rfl (by kernel_rfl) rfl) ?_
         simp only [Act.put, sA, sS, sZ]
         refine s_val (o := ⟨some 10, _, _, _, _, _⟩) (vr) rfl (by kernel_rfl) (fun u hu => exec_assign (.tmp 91) (vr) rfl (by kernel_rfl)) ?_
         simp only [Act.put, sA, sS, sZ]
         refine s_val (o := ⟨some 11, _, _, _, _, _⟩) (.int .i64 m.left) rfl (by kernel_rfl) (fun u hu => exec_assign (.tmp 92) (.int .i64 m.left) rfl (by kernel_rfl)) ?_
         simp only [Act.put, sA, sS, sZ]
         refine s_val (o := ⟨some 12, _, _, _, _, _⟩) (.bool m.self) rfl (by kernel_rfl) (fun u hu => exec_assign (.tmp 93) (.bool m.self) rfl (by kernel_rfl)) ?_
         simp only [Act.put, sA, sS, sZ]
         refine s_done ?_
         have z19 := k1719.size
         obtain ⟨bl, hbl⟩ : ∃ bl, decide ((0 : Int) < (m.left : Int)) = bl := ⟨_, rfl⟩
         have HBL := Lib.hid hbl
         clear hb4' hv4 ho4 hg4 hk4 hRr hFr k18 hk18 hbl
         go_upto_region 19 with fail
         refine wp_text 2 [iE m.left, bE bl] rfl (by kernel_rfl) ?_ ?_
         ·refine mE 1 11 ?_
          refine aS 2 rfl (fun a u E D hk=>exec_gtn rfl (dD D 0) rfl) HBL.out ?_
          exact fz
         intro gv w20 hV k20
         rw [dq 2 [94,95]]
         simp only [F7]
         rw [gQ hV 1 95 (.bool bl)]
         clear hV
         refine wpList_nil ?_
         have k1720 := k1719.trans k20
         cases bl with
         | false =>
          have HER0 := Lib.hid (rerr_0 HRS.out HFB.out HNF.out HNM.out (fun h => by have := HBL.out; rw [HMM.out] at h; simp at this; have := h.2; omega))
          go_wp2
          go_meet
          case rel => exact ⟨HER0, k1720⟩
         | true =>
          have HERR := Lib.hid (rerr_12 HRS.out HFB.out HNF.out HNM.out ⟨by have := HBK.out; simpa using this, by have := HBL.out; rw [HMM.out]; simpa using this⟩)
          have HA : Hid (B.add o = (⟨o, [], o.qty, false, false, 12⟩, B)) := by show _ = _; rw [add_err (by rw [HERR.out]; decide), HERR.out]
          have kE : Kept w w20 := kw17.trans k1720
          have HE5 := Lib.hid (HB517.out.kept k1720)
          have HE4 := Lib.hid (HB417.out.kept k1720)
          go_upto_region 20 with fail
          refine wp_text 1 [pE b5 14] rfl (by kernel_rfl) ?_ ?_
          ·refine fE 1 5 29 6 14 0 ?_
           exact fz
          intro gv we hV ke
          rw [dq 1 [96]]
          simp only [F7]
          rw [gQ hV 0 96 (.pointer (some ⟨b5, 14, none⟩))]
          clear hV
          refine l_st1 27 b5 14 29 _ (.int .i64 12) _ (.const (.int .i64 12)) rfl rfl (by kernel_rfl) (by kernel_rfl) rfl rfl rfl (HE5.out.kept ke) (by rw [Oc.len15]; omega) ?_
          intro wf hF hkf hsf
          simp only [Act.put]
          refine wpList_nil ?_
          rw [Oc.set_err] at hF
          have kf : Kept w wf := (kE.trans ke).trans' hkf (by omega)
          have HF5 : Hid (Blk wf b5 29 ((Oc.mk o [] o.qty false false 12).cells (.slice none 0 0))) := hF
          have HF4 := Lib.hid ((HE4.out.kept ke).keep hkf (by omega))
          clear hF hkf hsf ke HE5 HE4 kE HERR
          go_upto_region 21 with fail
          refine wp_text 1 [.eq ((Oc.mk o [] o.qty false false 12).v (.slice none 0 0))] rfl (by kernel_rfl) ?_ ?_
          ·refine sW 1 rfl (fun a u E D hk=>exec_ldS 29 _ _ b5 0 ((Oc.mk o [] o.qty false false 12).cells (.slice none 0 0)) rfl (eE E) (blk_range (HF5.out.kept hk)) Try.underlying29 (by rw [Oc.len15]; exact szC)) ?_
           exact fz
          intro gv wy hV ky
          rw [dq 1 [97]]
          simp only [F7]
          rw [gQ hV 0 97 ((Oc.mk o [] o.qty false false 12).v (.slice none 0 0))]
          clear hV
          refine l_setS 29 b4 29 (zeroC.cells (.slice none 0 0)) ((Oc.mk o [] o.qty false false 12).cells (.slice none 0 0)) _ _ rfl rfl (by kernel_rfl) (by kernel_rfl) (HF4.out.kept ky) (by rw [Oc.len15]; exact szC) (by rw [Oc.len15, Oc.len15]) (Oc.one _ _ rfl) ?_
          intro wx hBx hkx hsx
          simp only [Act.put]
          refine wpList_nil ?_
          go_wp2
          refine bodyPost_ret (results_cell (p := 4) rfl _ _ b4 _ ((Oc.mk o [] o.qty false false 12).cells (.slice none 0 0)) rfl hBx Try.underlying29 (by rw [Oc.len15]; exact szC)) rfl ?_
          rw [HA.out]
          have kk : Kept w wx := (kf.trans ky).trans' hkx (by omega)
          exact ⟨F, .slice none 0 0, rfl, HB.out.kept kk, Sl.nil _ _ _, fun b hb => by simp [Value.ownBlock] at hb, Grow.refl _ _, Keep.mono (T := F) kk (fun _ _ h => h.elim)⟩
       case rest =>
        obtain ⟨HE, hcut⟩ := hcut
        obtain ⟨w21, hw21⟩ : ∃ y, y = wc := ⟨_, rfl⟩
        subst hw21
        have kw21 := kw17.trans hcut
        have z21 := hcut.size
        have HB521 := Lib.hid (HB517.out.kept hcut)
        have HB421 := Lib.hid (HB417.out.kept hcut)
        have HBI21 := Lib.hid (HBI17.out.kept hcut)
        have HO21 := Lib.hid (range_kept HO17.out hcut)
        have HAI := Lib.hid (add_is HI.out HE.out)
        clear HB517 HB417 HBI17 HO17 hcut kw17 HBK HNM HNF
        go_upto_region 22 with fail
        refine wp_text 2 [pE p 0, .eq (o.v)] rfl (by kernel_rfl) ?_ ?_
        ·refine mE 1 0 ?_
         refine sW 2 rfl (fun a u E D hk=>exec_ldS 25 _ _ (bi) (0) (o.cells) rfl (eE E) (range_kept HO21.out hk) Try.underlying25 (by rw [o.len9]; exact ord_size)) ?_
         exact fz
        intro gv w22 hV k22
        rw [dq 2 [99,100]]
        simp only [F7]
        rw [gQ hV 0 99 (.pointer (some ⟨p, 0, none⟩))]
        rw [gQ hV 1 100 o.v]
        clear hV
        refine l_call 50 #[.pointer (some ⟨p, 0, none⟩), o.v] rfl (exec_call 50 _ [.tmp 99, .tmp 100] _ _ Try.func50 (by kernel_rfl) (by kernel_rfl) rfl (by kernel_rfl) _) ?_
        refine (rbmatch_any w22 F p B o (HB.out.kept (kw21.trans k22)) HI.out HS12.out HQ.out hn).mono ?_
        rintro e w23 ⟨F4, vf, rfl, hb4', hv4, ho4, hg4, hk4⟩
        rw [HMM.out] at hb4' hv4
        refine ⟨.tuple #[vf, .int .i64 m.left, .bool m.self], by rw [HMM.out], ?_⟩
        have hO23 := (HB521.out.kept k22).keep hk4 h5F
        simp only [Act.put, sA, sS, sZ]
        refine l_val (.tuple #[vf, .int .i64 m.left, .bool m.self]) rfl (exec_move _ _ rfl (by kernel_rfl)) ?_
        simp only [Act.put, sA, sS, sZ]
        refine l_val (vf) rfl (exec_extract (.tmp 98) [vf, .int .i64 m.left, .bool m.self] 0 (vf) rfl (by kernel_rfl) rfl) ?_
        simp only [Act.put, sA, sS, sZ]
        refine l_val (.int .i64 m.left) rfl (exec_extract (.tmp 98) [vf, .int .i64 m.left, .bool m.self] 1 (.int .i64 m.left) rfl (by kernel_rfl) rfl) ?_
        simp only [Act.put, sA, sS, sZ]
        refine l_val (.bool m.self) rfl (exec_extract (.tmp 98) [vf, .int .i64 m.left, .bool m.self] 2 (.bool m.self) rfl (by kernel_rfl) rfl) ?_
        simp only [Act.put, sA, sS, sZ]
        refine l_val (.pointer (some ⟨b5, 9, none⟩)) rfl (exec_fldo 29 1 9 (.tmp 5) (b5) (0) (9) rfl (by kernel_rfl) (by kernel_rfl) rfl) ?_
        simp only [Act.put, sA, sS, sZ]
        refine l_st1 26 b5 9 29 _ vf _ _ rfl rfl (by kernel_rfl) (by kernel_rfl) (by kernel_rfl) (sl_cells hv4) (sl_onec hv4) hO23 (by rw [Oc.len15]; omega) ?_
        intro w24 hO24 hk24 hs24
        simp only [Act.put]
        refine l_val (.pointer (some ⟨b5, 10, none⟩)) rfl (exec_fldo 29 2 10 (.tmp 5) (b5) (0) (10) rfl (by kernel_rfl) (by kernel_rfl) rfl) ?_
        simp only [Act.put, sA, sS, sZ]
        refine l_st1 3 b5 10 29 _ (.int .i64 m.left) _ _ rfl rfl (by kernel_rfl) (by kernel_rfl) (by kernel_rfl) rfl rfl hO24 (by rw [List.length_set, Oc.len15]; omega) ?_
        intro w25 hO25 hk25 hs25
        simp only [Act.put]
        refine l_val (.pointer (some ⟨b5, 13, none⟩)) rfl (exec_fldo 29 5 13 (.tmp 5) (b5) (0) (13) rfl (by kernel_rfl) (by kernel_rfl) rfl) ?_
        simp only [Act.put, sA, sS, sZ]
        refine l_st1 4 b5 13 29 _ (.bool m.self) _ _ rfl rfl (by kernel_rfl) (by kernel_rfl) (by kernel_rfl) rfl rfl hO25 (by rw [List.length_set, List.length_set, Oc.len15]; omega) ?_
        intro w26 hO26 hk26 hs26
        simp only [Act.put]
        refine wpList_nil ?_
        have z22 := k22.size
        have z23 := hk4.size
        have K26 : Keep (· = b5) w23 w26 := (hk24.trans hk25 (fun _ _ h => h)).trans hk26 (fun _ _ h => h)
        have z26 := K26.size
        have kw22 := kw21.trans k22
        have zw := kw22.size
        have h5n : w.heap.size ≤ b5 := by omega
        have KF : Keep F w w26 := ((Keep.any kw22 hk4)).trans K26 (fun b hb e => by omega)
        have HB526 : Hid (Blk w26 b5 29 ((Oc.mk o m.f m.left false m.self 0).cells vf)) := hO26
        have hF45 : ¬ F4 b5 := fun h => (hg4 b5 h).elim h5F (fun h => by omega)
        have hF44 : ¬ F4 b4 := fun h => (hg4 b4 h).elim h4F (fun h => by omega)
        have hF4i : ¬ F4 bi := fun h => (hg4 bi h).elim hiF (fun h => by omega)
        have HR26 := Lib.hid (hb4'.keep K26 (fun b hb e => hF45 (by have e2 : b = b5 := e; rw [← e2]; exact hb)))
        have HVN : Hid (∀ b, vf.ownBlock = some b → w.heap.size ≤ b ∧ ¬ F4 b ∧ b ≠ b5 ∧ b ≠ b4 ∧ b ≠ bi) := fun b hb => by
         have h1 := ho4 b hb
         exact ⟨by omega, h1.2, by omega, by omega, by omega⟩
        have HV26 := Lib.hid (hv4.keep K26 (fun b hb e => (HVN.out b hb).2.2.1 e))
        have HB426 := Lib.hid (((HB421.out.kept k22).keep hk4 h4F).keep K26 (fun e => h54 e.symm))
        have HBI26 := Lib.hid (((HBI21.out.kept k22).keep hk4 hiF).keep K26 (fun e => h5i e.symm))
        have HO26 := Lib.hid (blk_range HBI26.out)
        have HG4 : Hid (Grow w F F4) := hg4.wide kw22.size
        have HL26 : Hid (w26.cell? ⟨b5, 10, none⟩ = some (.int .i64 m.left)) := by show _ = _; rw [HB526.out.cell]; rfl
        have HS26 : Hid (w26.cell? ⟨b5, 13, none⟩ = some (.bool m.self)) := by show _ = _; rw [HB526.out.cell]; rfl
        obtain ⟨st, hst⟩ : ∃ st, B.stays o = st := ⟨_, rfl⟩
        have HST : Hid ((decide (0 < m.left) && !m.self && (decide (o.k = 1) || decide (o.k = 5))) = st) := by show _ = _; rw [← hst]; unfold Bok.stays; rw [HMM.out]
        have HSTY := Lib.hid hst
        have HADD : Hid (B.add o = (⟨o, m.f, m.left, st, m.self, 0⟩, if st = true then (B.traded o).put o.side (restM (o.cut m.left) ((B.traded o).sd o.side)) else B.traded o)) := by
         show _ = _
         unfold Bok.add
         rw [if_neg (by rw [HE.out]; simp), HSTY.out, HMM.out]
        clear hb4' hv4 ho4 hk4 hg4 hO23 hO24 hO25 hO26 hk24 hk25 hk26 hs24 hs25 hs26 K26 k22 kw21 HB521 HB421 HBI21 HO21 hst
        go_upto_region 23 with fail
        go_cut [125] (fun a wx => a = .bool st ∧ Kept w26 wx)
        case first =>
         by_cases hl : 0 < m.left
         ·by_cases hsf : m.self = true
          ·have hs0 : st = false := by rw [← HST.out, hsf]; simp
           subst hs0
           refine wp_text 18 [pE b5 10, iE m.left, bE true, bE true, pE b5 13, bE m.self, bE false, bE false, bE false, uE, uE, uE, uE, uE, uE, uE, uE, bE false] rfl (by kernel_rfl) ?_ ?_
           ·refine fE 1 5 29 2 10 0 ?_
            refine sW 2 rfl (fun a u E D hk=>exec_loadi _ Try.underlying3 _ _ _ rfl (dD D 0) (Kept.cell hk (HL26.out))) ?_
            refine aS 3 rfl (fun a u E D hk=>exec_gtn rfl (dD D 1) rfl) (decide_eq_true hl) ?_
            refine mD 4 110 2 ?_
            refine fE 5 5 29 5 13 0 ?_
            refine sW 6 rfl (fun a u E D hk=>exec_ldb _ Try.underlying4 _ _ _ rfl (dD D 4) (Kept.cell hk (HS26.out))) ?_
            refine aS 7 rfl (fun a u E D hk=>exec_not _ _ m.self rfl (dD D 5)) (by rw [hsf]; rfl) ?_
            refine sW 8 rfl (fun a u E D hk=>exec_pick _ _ _ _ rfl (dD D 3) (dD D 6)) ?_
            refine mD 9 115 7 ?_
            refine kS 10 8 ?_
            refine kS 11 8 ?_
            refine kS 12 8 ?_
            refine kS 13 8 ?_
            refine uS 14 12 ?_
            refine uS 15 12 ?_
            refine uS 16 12 ?_
            refine kS 17 8 ?_
            refine sW 18 rfl (fun a u E D hk=>exec_pickF _ _ _ _ rfl (dD D 8) rfl) ?_
            exact fz
           intro gv w27 hV k27
           rw [dq 18 [108,109,110,111,112,113,114,115,116,117,118,119,120,121,122,123,124,125]]
           simp only [F7]
           rw [gQ hV 17 125 (.bool false)]
           clear hV
           refine wpList_nil ?_
           go_wp2
           go_meet
           case rel => exact ⟨rfl, k27⟩
          ·have hsf0 : m.self = false := by simpa using hsf
           by_cases hk1 : o.k = 1
           ·have hs0 : st = true := by rw [← HST.out, hsf0]; simp [hl, hk1]
            subst hs0
            refine wp_text 18 [pE b5 10, iE m.left, bE true, bE true, pE b5 13, bE m.self, bE true, bE true, bE true, pE bi 4, iE o.k, bE true, bE true, uE, uE, uE, bE true, bE true] rfl (by kernel_rfl) ?_ ?_
            ·refine fE 1 5 29 2 10 0 ?_
             refine sW 2 rfl (fun a u E D hk=>exec_loadi _ Try.underlying3 _ _ _ rfl (dD D 0) (Kept.cell hk (HL26.out))) ?_
             refine aS 3 rfl (fun a u E D hk=>exec_gtn rfl (dD D 1) rfl) (decide_eq_true hl) ?_
             refine mD 4 110 2 ?_
             refine fE 5 5 29 5 13 0 ?_
             refine sW 6 rfl (fun a u E D hk=>exec_ldb _ Try.underlying4 _ _ _ rfl (dD D 4) (Kept.cell hk (HS26.out))) ?_
             refine aS 7 rfl (fun a u E D hk=>exec_not _ _ m.self rfl (dD D 5)) (by rw [hsf0]; rfl) ?_
             refine sW 8 rfl (fun a u E D hk=>exec_pick _ _ _ _ rfl (dD D 3) (dD D 6)) ?_
             refine mD 9 115 7 ?_
             refine fE 10 3 25 4 4 0 ?_
             refine sW 11 rfl (fun a u E D hk=>exec_loadi _ Try.underlying3 _ _ _ rfl (dD D 9) (range_int (range_kept HO26.out hk) 4 _ rfl)) ?_
             refine aS 12 rfl (fun a u E D hk=>exec_eqn rfl (dD D 10) rfl) (decide_eq_true (by omega)) ?_
             refine mD 13 119 11 ?_
             refine kS 14 12 ?_
             refine kS 15 12 ?_
             refine kS 16 12 ?_
             refine sW 17 rfl (fun a u E D hk=>exec_pick _ _ _ _ rfl (dD D 12) rfl) ?_
             refine sW 18 rfl (fun a u E D hk=>exec_pick _ _ _ _ rfl (dD D 8) (dD D 16)) ?_
             exact fz
            intro gv w27 hV k27
            rw [dq 18 [108,109,110,111,112,113,114,115,116,117,118,119,120,121,122,123,124,125]]
            simp only [F7]
            rw [gQ hV 17 125 (.bool true)]
            clear hV
            refine wpList_nil ?_
            go_wp2
            go_meet
            case rel => exact ⟨rfl, k27⟩
           ·by_cases hk5 : o.k = 5
            ·have hs0 : st = true := by rw [← HST.out, hsf0]; simp [hl, hk5]
             subst hs0
             refine wp_text 18 [pE b5 10, iE m.left, bE true, bE true, pE b5 13, bE m.self, bE true, bE true, bE true, pE bi 4, iE o.k, bE false, bE false, pE bi 4, iE o.k, bE true, bE true, bE true] rfl (by kernel_rfl) ?_ ?_
             ·refine fE 1 5 29 2 10 0 ?_
              refine sW 2 rfl (fun a u E D hk=>exec_loadi _ Try.underlying3 _ _ _ rfl (dD D 0) (Kept.cell hk (HL26.out))) ?_
              refine aS 3 rfl (fun a u E D hk=>exec_gtn rfl (dD D 1) rfl) (decide_eq_true hl) ?_
              refine mD 4 110 2 ?_
              refine fE 5 5 29 5 13 0 ?_
              refine sW 6 rfl (fun a u E D hk=>exec_ldb _ Try.underlying4 _ _ _ rfl (dD D 4) (Kept.cell hk (HS26.out))) ?_
              refine aS 7 rfl (fun a u E D hk=>exec_not _ _ m.self rfl (dD D 5)) (by rw [hsf0]; rfl) ?_
              refine sW 8 rfl (fun a u E D hk=>exec_pick _ _ _ _ rfl (dD D 3) (dD D 6)) ?_
              refine mD 9 115 7 ?_
              refine fE 10 3 25 4 4 0 ?_
              refine sW 11 rfl (fun a u E D hk=>exec_loadi _ Try.underlying3 _ _ _ rfl (dD D 9) (range_int (range_kept HO26.out hk) 4 _ rfl)) ?_
              refine aS 12 rfl (fun a u E D hk=>exec_eqn rfl (dD D 10) rfl) (decide_eq_false (by omega)) ?_
              refine mD 13 119 11 ?_
              refine fE 14 3 25 4 4 0 ?_
              refine sW 15 rfl (fun a u E D hk=>exec_loadi _ Try.underlying3 _ _ _ rfl (dD D 13) (range_int (range_kept HO26.out hk) 4 _ rfl)) ?_
              refine aS 16 rfl (fun a u E D hk=>exec_eqn rfl (dD D 14) rfl) (decide_eq_true (by omega)) ?_
              refine sW 17 rfl (fun a u E D hk=>exec_pickF _ _ _ _ rfl (dD D 12) (dD D 15)) ?_
              refine sW 18 rfl (fun a u E D hk=>exec_pick _ _ _ _ rfl (dD D 8) (dD D 16)) ?_
              exact fz
             intro gv w27 hV k27
             rw [dq 18 [108,109,110,111,112,113,114,115,116,117,118,119,120,121,122,123,124,125]]
             simp only [F7]
             rw [gQ hV 17 125 (.bool true)]
             clear hV
             refine wpList_nil ?_
             go_wp2
             go_meet
             case rel => exact ⟨rfl, k27⟩
            ·have hs0 : st = false := by rw [← HST.out]; simp [hk1, hk5]
             subst hs0
             refine wp_text 18 [pE b5 10, iE m.left, bE true, bE true, pE b5 13, bE m.self, bE true, bE true, bE true, pE bi 4, iE o.k, bE false, bE false, pE bi 4, iE o.k, bE false, bE false, bE false] rfl (by kernel_rfl) ?_ ?_
             ·refine fE 1 5 29 2 10 0 ?_
              refine sW 2 rfl (fun a u E D hk=>exec_loadi _ Try.underlying3 _ _ _ rfl (dD D 0) (Kept.cell hk (HL26.out))) ?_
              refine aS 3 rfl (fun a u E D hk=>exec_gtn rfl (dD D 1) rfl) (decide_eq_true hl) ?_
              refine mD 4 110 2 ?_
              refine fE 5 5 29 5 13 0 ?_
              refine sW 6 rfl (fun a u E D hk=>exec_ldb _ Try.underlying4 _ _ _ rfl (dD D 4) (Kept.cell hk (HS26.out))) ?_
              refine aS 7 rfl (fun a u E D hk=>exec_not _ _ m.self rfl (dD D 5)) (by rw [hsf0]; rfl) ?_
              refine sW 8 rfl (fun a u E D hk=>exec_pick _ _ _ _ rfl (dD D 3) (dD D 6)) ?_
              refine mD 9 115 7 ?_
              refine fE 10 3 25 4 4 0 ?_
              refine sW 11 rfl (fun a u E D hk=>exec_loadi _ Try.underlying3 _ _ _ rfl (dD D 9) (range_int (range_kept HO26.out hk) 4 _ rfl)) ?_
              refine aS 12 rfl (fun a u E D hk=>exec_eqn rfl (dD D 10) rfl) (decide_eq_false (by omega)) ?_
              refine mD 13 119 11 ?_
              refine fE 14 3 25 4 4 0 ?_
              refine sW 15 rfl (fun a u E D hk=>exec_loadi _ Try.underlying3 _ _ _ rfl (dD D 13) (range_int (range_kept HO26.out hk) 4 _ rfl)) ?_
              refine aS 16 rfl (fun a u E D hk=>exec_eqn rfl (dD D 14) rfl) (decide_eq_false (by omega)) ?_
              refine sW 17 rfl (fun a u E D hk=>exec_pickF _ _ _ _ rfl (dD D 12) (dD D 15)) ?_
              refine sW 18 rfl (fun a u E D hk=>exec_pick _ _ _ _ rfl (dD D 8) (dD D 16)) ?_
              exact fz
             intro gv w27 hV k27
             rw [dq 18 [108,109,110,111,112,113,114,115,116,117,118,119,120,121,122,123,124,125]]
             simp only [F7]
             rw [gQ hV 17 125 (.bool false)]
             clear hV
             refine wpList_nil ?_
             go_wp2
             go_meet
             case rel => exact ⟨rfl, k27⟩
         ·have hs0 : st = false := by rw [← HST.out]; simp [hl]
          subst hs0
          refine wp_text 18 [pE b5 10, iE m.left, bE false, bE false, uE, uE, uE, bE false, bE false, uE, uE, uE, uE, uE, uE, uE, uE, bE false] rfl (by kernel_rfl) ?_ ?_
          ·refine fE 1 5 29 2 10 0 ?_
           refine sW 2 rfl (fun a u E D hk=>exec_loadi _ Try.underlying3 _ _ _ rfl (dD D 0) (Kept.cell hk (HL26.out))) ?_
           refine aS 3 rfl (fun a u E D hk=>exec_gtn rfl (dD D 1) rfl) (decide_eq_false hl) ?_
           refine mD 4 110 2 ?_
           refine kS 5 3 ?_
           refine kS 6 3 ?_
           refine kS 7 3 ?_
           refine sW 8 rfl (fun a u E D hk=>exec_pickF _ _ _ _ rfl (dD D 3) rfl) ?_
           refine mD 9 115 7 ?_
           refine kS 10 8 ?_
           refine kS 11 8 ?_
           refine kS 12 8 ?_
           refine kS 13 8 ?_
           refine uS 14 12 ?_
           refine uS 15 12 ?_
           refine uS 16 12 ?_
           refine kS 17 8 ?_
           refine sW 18 rfl (fun a u E D hk=>exec_pickF _ _ _ _ rfl (dD D 8) rfl) ?_
           exact fz
          intro gv w27 hV k27
          rw [dq 18 [108,109,110,111,112,113,114,115,116,117,118,119,120,121,122,123,124,125]]
          simp only [F7]
          rw [gQ hV 17 125 (.bool false)]
          clear hV
          refine wpList_nil ?_
          go_wp2
          go_meet
          case rel => exact ⟨rfl, k27⟩
        case rest =>
         obtain ⟨rfl, hcut⟩ := hcut
         obtain ⟨w27, hw27⟩ : ∃ y, y = wc := ⟨_, rfl⟩
         subst hw27
         have HB527 := Lib.hid (HB526.out.kept hcut)
         have HB427 := Lib.hid (HB426.out.kept hcut)
         have HBI27 := Lib.hid (HBI26.out.kept hcut)
         have HV27 := Lib.hid (HV26.out.kept hcut)
         have HR27 := Lib.hid (HR26.out.kept hcut)
         have KF27 := KF.kept hcut
         have z27 := hcut.size
         have HL27 := Lib.hid (hcut.cell HL26.out)
         clear HB526 HB426 HBI26 HV26 HR26 KF hcut HL26 HS26 HO26 HST
         cases st with
         | false =>
          go_upto_region 28 with fail
          refine wp_text 1 [.eq ((Oc.mk o m.f m.left false m.self 0).v vf)] rfl (by kernel_rfl) ?_ ?_
          ·refine sW 1 rfl (fun a u E D hk=>exec_ldS 29 _ _ b5 0 ((Oc.mk o m.f m.left false m.self 0).cells vf) rfl (eE E) (blk_range (HB527.out.kept hk)) Try.underlying29 (by rw [Oc.len15]; exact szC)) ?_
           exact fz
          intro gv wy hV ky
          rw [dq 1 [139]]
          simp only [F7]
          rw [gQ hV 0 139 ((Oc.mk o m.f m.left false m.self 0).v vf)]
          clear hV
          refine l_setS 29 b4 29 (zeroC.cells (.slice none 0 0)) ((Oc.mk o m.f m.left false m.self 0).cells vf) _ _ rfl rfl (by kernel_rfl) (by kernel_rfl) (HB427.out.kept ky) (by rw [Oc.len15]; exact szC) (by rw [Oc.len15, Oc.len15]) (Oc.one _ _ (sl_onec HV27.out)) ?_
          intro wx hBx hkx hsx
          simp only [Act.put]
          refine wpList_nil ?_
          go_wp2
          refine bodyPost_ret (results_cell (p := 4) rfl _ _ b4 _ ((Oc.mk o m.f m.left false m.self 0).cells vf) rfl hBx Try.underlying29 (by rw [Oc.len15]; exact szC)) rfl ?_
          rw [HADD.out]
          refine ⟨F4, vf, rfl, ?_, (HV27.out.kept ky).keep hkx (fun b hb e => (HVN.out b hb).2.2.2.1 e), fun b hb => ⟨(HVN.out b hb).1, (HVN.out b hb).2.1⟩, HG4.out, (KF27.kept ky).trans hkx (fun b hb e => by omega)⟩
          have h1 := (HR27.out.kept ky).keep hkx (fun b hb e => hF44 (by have e2 : b = b4 := e; rw [← e2]; exact hb))
          simp only [Bool.false_eq_true, if_false]
          rw [Bok.traded_to, HMM.out]
          exact h1
         | true =>
          go_upto_region 24 with fail
          refine wp_text 3 [pE b5 10, iE m.left, pE bi 6] rfl (by kernel_rfl) ?_ ?_
          ·refine fE 1 5 29 2 10 0 ?_
           refine sW 2 rfl (fun a u E D hk=>exec_loadi _ Try.underlying3 _ _ _ rfl (dD D 0) (Kept.cell hk (HL27.out))) ?_
           refine fE 3 3 25 6 6 0 ?_
           exact fz
          intro gv w28 hV k28
          rw [dq 3 [126,127,128]]
          simp only [F7]
          rw [gQ hV 2 128 (.pointer (some ⟨bi, 6, none⟩))]
          rw [gQ hV 1 127 (.int .i64 m.left)]
          clear hV
          refine l_setf bi 6 25 o.l [] m.left _ _ rfl rfl (by kernel_rfl) (by kernel_rfl) (HBI27.out.kept k28) (by simp [Ord.l]) ?_
          intro w29 hB29 hk29 hs29
          simp only [Act.put]
          refine wpList_nil ?_
          have HB29 := Lib.hid hB29
          have HSH : Hid (w29.cell? ⟨bi, 7, none⟩ = some (.int .i64 o.shw)) := by show _ = _; rw [hB29.cell]; rfl
          have HSQ : Hid (w29.cell? ⟨bi, 6, none⟩ = some (.int .i64 m.left)) := by show _ = _; rw [hB29.cell]; rfl
          have K29 : Keep (· = bi) w27 w29 := Keep.any k28 hk29
          clear hB29 hk29 hs29 k28
          go_upto_region 25 with fail
          refine wp_text 6 [pE bi 7, iE o.shw, pE bi 6, iE m.left, iE (mn (o.shw) (m.left)), pE bi 7] rfl (by kernel_rfl) ?_ ?_
          ·refine fE 1 3 25 7 7 0 ?_
           refine sW 2 rfl (fun a u E D hk=>exec_loadi _ Try.underlying3 _ _ _ rfl (dD D 0) (Kept.cell hk (HSH.out))) ?_
           refine fE 3 3 25 6 6 0 ?_
           refine sW 4 rfl (fun a u E D hk=>exec_loadi _ Try.underlying3 _ _ _ rfl (dD D 2) (Kept.cell hk (HSQ.out))) ?_
           refine sW 5 rfl (fun a u E D hk=>exec_min _ _ _ (o.shw) (m.left) (mn (o.shw) (m.left)) rfl (dD D 1) (dD D 3) rfl) ?_
           refine fE 6 3 25 7 7 0 ?_
           exact fz
          intro gv w30 hV k30
          rw [dq 6 [129,130,131,132,133,134]]
          simp only [F7]
          rw [gQ hV 5 134 (.pointer (some ⟨bi, 7, none⟩))]
          rw [gQ hV 4 133 (.int .i64 (mn (o.shw) (m.left)))]
          clear hV
          refine l_setf bi 7 25 (o.l.set 6 m.left) [] (mn o.shw m.left) _ _ rfl rfl (by kernel_rfl) (by kernel_rfl) (HB29.out.kept k30) (by simp [Ord.l]) ?_
          intro w31 hB31 hk31 hs31
          simp only [Act.put]
          refine wpList_nil ?_
          rw [cut_l] at hB31
          have K31 : Keep (· = bi) w27 w31 := (K29.kept k30).trans hk31 (fun _ _ h => h)
          have HO31 := Lib.hid (blk_range hB31)
          have z31 := K31.size
          have HB531 := Lib.hid (HB527.out.keep K31 h5i)
          have HB431 := Lib.hid (HB427.out.keep K31 (fun e => hi4 e.symm))
          have HV31 := Lib.hid (HV27.out.keep K31 (fun b hb e => (HVN.out b hb).2.2.2.2 e))
          have HR31 := Lib.hid (HR27.out.keep K31 (fun b hb e => hF4i (by have e2 : b = bi := e; rw [← e2]; exact hb)))
          have KF31 : Keep F w w31 := KF27.trans K31 (fun b hb e => by omega)
          have HLO : Hid (LvsOk ((B.to (3 - o.side) m.L (lastOf B.last m.f) (B.no + m.f.length)).sd (o.cut m.left).side)) := by
           show LvsOk _
           have h1 : (B.to (3 - o.side) m.L (lastOf B.last m.f) (B.no + m.f.length)).sd o.side = B.sd o.side := by
            rcases HS12.out with h | h <;> rw [h] <;> rfl
           show LvsOk ((B.to (3 - o.side) m.L (lastOf B.last m.f) (B.no + m.f.length)).sd o.side)
           rw [h1]
           exact HI.out.ok _
          clear HB29 HSH HSQ K29 k30 hB31 hk31 hs31 K31 HB527 HB427 HV27 HR27 KF27 HBI27 HL27
          go_upto_region 26 with fail
          refine wp_text 2 [pE p 0, .eq ((o.cut m.left).v)] rfl (by kernel_rfl) ?_ ?_
          ·refine mE 1 0 ?_
           refine sW 2 rfl (fun a u E D hk=>exec_ldS 25 _ _ (bi) (0) ((o.cut m.left).cells) rfl (eE E) (range_kept HO31.out hk) Try.underlying25 (by rw [(o.cut m.left).len9]; exact ord_size)) ?_
           exact fz
          intro gv w32 hV k32
          rw [dq 2 [135,136]]
          simp only [F7]
          rw [gQ hV 0 135 (.pointer (some ⟨p, 0, none⟩))]
          rw [gQ hV 1 136 ((o.cut m.left).v)]
          clear hV
          refine l_call 51 #[.pointer (some ⟨p, 0, none⟩), (o.cut m.left).v] rfl (exec_call 51 _ [.tmp 135, .tmp 136] _ _ Try.func51 (by kernel_rfl) (by kernel_rfl) rfl (by kernel_rfl) _) ?_
          refine (rbrest_any w32 F4 p _ (o.cut m.left) (HR31.out.kept k32) HS12.out HLO.out).mono ?_
          rintro e w33 ⟨F5, rfl, hb5', hg5, hk5⟩
          refine ⟨_, rfl, ?_⟩
          simp only [Act.put, sA, sS, sZ]
          refine wpList_nil ?_
          have z32 := k32.size
          have z33 := hk5.size
          have h45 : ¬ F5 b4 := fun h => (hg5 b4 h).elim hF44 (fun h => by omega)
          have h55 : ¬ F5 b5 := fun h => (hg5 b5 h).elim hF45 (fun h => by omega)
          have HVL : Hid (∀ b, vf.ownBlock = some b → b < w31.heap.size) := fun b hb => HV31.out.lt hb
          have HV33 := Lib.hid ((HV31.out.kept k32).keep hk5 (fun b hb e => (HVN.out b hb).2.1 e))
          have HB533 := Lib.hid ((HB531.out.kept k32).keep hk5 hF45)
          have HB433 := Lib.hid ((HB431.out.kept k32).keep hk5 hF44)
          have HR33 := Lib.hid hb5'
          have HVN5 : Hid (∀ b, vf.ownBlock = some b → ¬ F5 b) := fun b hb h => (hg5 b h).elim (HVN.out b hb).2.1 (fun h => by have := HVL.out b hb; omega)
          have HG5 : Hid (Grow w F F5) := fun b hb => (hg5 b hb).elim (fun h => HG4.out b h) (fun h => .inr (by omega))
          have KF33 : Keep F w w33 := (KF31.kept k32).trans hk5 (fun b hb e => (HG4.out b e).elim id (fun h => by omega))
          clear hb5' hg5 hk5 k32 HV31 HB531 HB431 HR31 HO31 KF31 HLO
          go_upto_region 27 with fail
          refine wp_text 1 [pE b5 11] rfl (by kernel_rfl) ?_ ?_
          ·refine fE 1 5 29 3 11 0 ?_
           exact fz
          intro gv w34 hV k34
          rw [dq 1 [138]]
          simp only [F7]
          rw [gQ hV 0 138 (.pointer (some ⟨b5, 11, none⟩))]
          clear hV
          refine l_st1 4 b5 11 29 _ (.bool true) _ (.const (.bool true)) rfl rfl (by kernel_rfl) (by kernel_rfl) rfl rfl rfl (HB533.out.kept k34) (by rw [Oc.len15]; omega) ?_
          intro w35 hB35 hk35 hs35
          simp only [Act.put]
          refine wpList_nil ?_
          rw [Oc.set_rests] at hB35
          have z34 := k34.size
          have HB535 : Hid (Blk w35 b5 29 ((Oc.mk o m.f m.left true m.self 0).cells vf)) := hB35
          have HB435 := Lib.hid ((HB433.out.kept k34).keep hk35 (fun e => h54 e.symm))
          have HV35 := Lib.hid ((HV33.out.kept k34).keep hk35 (fun b hb e => (HVN.out b hb).2.2.1 e))
          have HR35 := Lib.hid ((HR33.out.kept k34).keep hk35 (fun b hb e => h55 (by have e2 : b = b5 := e; rw [← e2]; exact hb)))
          have KF35 : Keep F w w35 := (KF33.kept k34).trans hk35 (fun b hb e => by omega)
          clear hB35 hk35 hs35 k34 HB533 HB433 HV33 HR33 KF33
          go_upto_region 28 with fail
          refine wp_text 1 [.eq ((Oc.mk o m.f m.left true m.self 0).v vf)] rfl (by kernel_rfl) ?_ ?_
          ·refine sW 1 rfl (fun a u E D hk=>exec_ldS 29 _ _ b5 0 ((Oc.mk o m.f m.left true m.self 0).cells vf) rfl (eE E) (blk_range (HB535.out.kept hk)) Try.underlying29 (by rw [Oc.len15]; exact szC)) ?_
           exact fz
          intro gv wy hV ky
          rw [dq 1 [139]]
          simp only [F7]
          rw [gQ hV 0 139 ((Oc.mk o m.f m.left true m.self 0).v vf)]
          clear hV
          refine l_setS 29 b4 29 (zeroC.cells (.slice none 0 0)) ((Oc.mk o m.f m.left true m.self 0).cells vf) _ _ rfl rfl (by kernel_rfl) (by kernel_rfl) (HB435.out.kept ky) (by rw [Oc.len15]; exact szC) (by rw [Oc.len15, Oc.len15]) (Oc.one _ _ (sl_onec HV35.out)) ?_
          intro wx hBx hkx hsx
          simp only [Act.put]
          refine wpList_nil ?_
          go_wp2
          refine bodyPost_ret (results_cell (p := 4) rfl _ _ b4 _ ((Oc.mk o m.f m.left true m.self 0).cells vf) rfl hBx Try.underlying29 (by rw [Oc.len15]; exact szC)) rfl ?_
          rw [HADD.out]
          refine ⟨F5, vf, rfl, ?_, (HV35.out.kept ky).keep hkx (fun b hb e => (HVN.out b hb).2.2.2.1 e), fun b hb => ⟨(HVN.out b hb).1, HVN5.out b hb⟩, HG5.out, (KF35.kept ky).trans hkx (fun b hb e => by omega)⟩
          have h1 := (HR35.out.kept ky).keep hkx (fun b hb e => h45 (by have e2 : b = b4 := e; rw [← e2]; exact hb))
          simp only [if_true]
          rw [Bok.traded_to, HMM.out]
          rw [← Bok.to_put HS12.out]
          exact h1
  ·have HERR := Lib.hid (rerr_1 (B := B) (o := o) (fun h => hst h.2))
   go_upto_region 3 with fail
   refine wp_text 7 [iE e0, bE false, bE false, pE bi 8, iE o.stop, bE true, bE true] rfl (by kernel_rfl) ?_ ?_
   ·refine mE 1 6 ?_
    refine aS 2 rfl (fun a u E D hk=>exec_nen rfl (dD D 0) rfl) (decide_eq_false (by omega)) ?_
    refine mD 3 20 1 ?_
    refine fE 4 3 25 8 8 0 ?_
    refine sW 5 rfl (fun a u E D hk=>exec_loadi _ Try.underlying3 _ _ _ rfl (dD D 3) (range_int (range_kept HO2.out hk) 8 _ rfl)) ?_
    refine aS 6 rfl (fun a u E D hk=>exec_nen rfl (dD D 4) rfl) (decide_eq_true hst) ?_
    refine sW 7 rfl (fun a u E D hk=>exec_pickF _ _ _ _ rfl (dD D 2) (dD D 5)) ?_
    exact fz
   intro gv w3 hV k3
   rw [dq 7 [19,20,21,22,23,24,25]]
   simp only [F7]
   rw [gQ hV 6 25 (.bool true)]
   clear hV
   refine wpList_nil ?_
   have HA : Hid (B.add o = (⟨o, [], o.qty, false, false, 1⟩, B)) := by show _ = _; rw [add_err (by rw [HERR.out]; decide), HERR.out]
   have kE : Kept w w3 := k2.trans k3
   have HE5 := Lib.hid (HB52.out.kept k3)
   have HE4 := Lib.hid (HB42.out.kept k3)
   go_upto_region 4 with fail
   refine wp_text 1 [pE b5 14] rfl (by kernel_rfl) ?_ ?_
   ·refine fE 1 5 29 6 14 0 ?_
    exact fz
   intro gv we hV ke
   rw [dq 1 [26]]
   simp only [F7]
   rw [gQ hV 0 26 (.pointer (some ⟨b5, 14, none⟩))]
   clear hV
   refine l_st1 27 b5 14 29 _ (.int .i64 1) _ (.const (.int .i64 1)) rfl rfl (by kernel_rfl) (by kernel_rfl) rfl rfl rfl (HE5.out.kept ke) (by rw [Oc.len15]; omega) ?_
   intro wf hF hkf hsf
   simp only [Act.put]
   refine wpList_nil ?_
   rw [Oc.set_err] at hF
   have kf : Kept w wf := (kE.trans ke).trans' hkf (by omega)
   have HF5 : Hid (Blk wf b5 29 ((Oc.mk o [] o.qty false false 1).cells (.slice none 0 0))) := hF
   have HF4 := Lib.hid ((HE4.out.kept ke).keep hkf (by omega))
   clear hF hkf hsf ke HE5 HE4 kE HERR
   go_upto_region 5 with fail
   refine wp_text 1 [.eq ((Oc.mk o [] o.qty false false 1).v (.slice none 0 0))] rfl (by kernel_rfl) ?_ ?_
   ·refine sW 1 rfl (fun a u E D hk=>exec_ldS 29 _ _ b5 0 ((Oc.mk o [] o.qty false false 1).cells (.slice none 0 0)) rfl (eE E) (blk_range (HF5.out.kept hk)) Try.underlying29 (by rw [Oc.len15]; exact szC)) ?_
    exact fz
   intro gv wy hV ky
   rw [dq 1 [27]]
   simp only [F7]
   rw [gQ hV 0 27 ((Oc.mk o [] o.qty false false 1).v (.slice none 0 0))]
   clear hV
   refine l_setS 29 b4 29 (zeroC.cells (.slice none 0 0)) ((Oc.mk o [] o.qty false false 1).cells (.slice none 0 0)) _ _ rfl rfl (by kernel_rfl) (by kernel_rfl) (HF4.out.kept ky) (by rw [Oc.len15]; exact szC) (by rw [Oc.len15, Oc.len15]) (Oc.one _ _ rfl) ?_
   intro wx hBx hkx hsx
   simp only [Act.put]
   refine wpList_nil ?_
   go_wp2
   refine bodyPost_ret (results_cell (p := 4) rfl _ _ b4 _ ((Oc.mk o [] o.qty false false 1).cells (.slice none 0 0)) rfl hBx Try.underlying29 (by rw [Oc.len15]; exact szC)) rfl ?_
   rw [HA.out]
   have kk : Kept w wx := (kf.trans ky).trans' hkx (by omega)
   exact ⟨F, .slice none 0 0, rfl, HB.out.kept kk, Sl.nil _ _ _, fun b hb => by simp [Value.ownBlock] at hb, Grow.refl _ _, Keep.mono (T := F) kk (fun _ _ h => h.elim)⟩
 ·have he : e0 = 1 := by have := HE0.out; unfold Ord.err at this; rw [if_neg hr] at this; exact this.symm
  have HERR := Lib.hid (rerr_1 (B := B) (o := o) (fun h => hr h.1))
  go_upto_region 3 with fail
  refine wp_text 7 [iE e0, bE true, bE true, uE, uE, uE, bE true] rfl (by kernel_rfl) ?_ ?_
  ·refine mE 1 6 ?_
   refine aS 2 rfl (fun a u E D hk=>exec_nen rfl (dD D 0) rfl) (decide_eq_true (by omega)) ?_
   refine mD 3 20 1 ?_
   refine kS 4 2 ?_
   refine kS 5 2 ?_
   refine kS 6 2 ?_
   refine sW 7 rfl (fun a u E D hk=>exec_pick _ _ _ _ rfl (dD D 2) rfl) ?_
   exact fz
  intro gv w3 hV k3
  rw [dq 7 [19,20,21,22,23,24,25]]
  simp only [F7]
  rw [gQ hV 6 25 (.bool true)]
  clear hV
  refine wpList_nil ?_
  have HA : Hid (B.add o = (⟨o, [], o.qty, false, false, 1⟩, B)) := by show _ = _; rw [add_err (by rw [HERR.out]; decide), HERR.out]
  have kE : Kept w w3 := k2.trans k3
  have HE5 := Lib.hid (HB52.out.kept k3)
  have HE4 := Lib.hid (HB42.out.kept k3)
  go_upto_region 4 with fail
  refine wp_text 1 [pE b5 14] rfl (by kernel_rfl) ?_ ?_
  ·refine fE 1 5 29 6 14 0 ?_
   exact fz
  intro gv we hV ke
  rw [dq 1 [26]]
  simp only [F7]
  rw [gQ hV 0 26 (.pointer (some ⟨b5, 14, none⟩))]
  clear hV
  refine l_st1 27 b5 14 29 _ (.int .i64 1) _ (.const (.int .i64 1)) rfl rfl (by kernel_rfl) (by kernel_rfl) rfl rfl rfl (HE5.out.kept ke) (by rw [Oc.len15]; omega) ?_
  intro wf hF hkf hsf
  simp only [Act.put]
  refine wpList_nil ?_
  rw [Oc.set_err] at hF
  have kf : Kept w wf := (kE.trans ke).trans' hkf (by omega)
  have HF5 : Hid (Blk wf b5 29 ((Oc.mk o [] o.qty false false 1).cells (.slice none 0 0))) := hF
  have HF4 := Lib.hid ((HE4.out.kept ke).keep hkf (by omega))
  clear hF hkf hsf ke HE5 HE4 kE HERR
  go_upto_region 5 with fail
  refine wp_text 1 [.eq ((Oc.mk o [] o.qty false false 1).v (.slice none 0 0))] rfl (by kernel_rfl) ?_ ?_
  ·refine sW 1 rfl (fun a u E D hk=>exec_ldS 29 _ _ b5 0 ((Oc.mk o [] o.qty false false 1).cells (.slice none 0 0)) rfl (eE E) (blk_range (HF5.out.kept hk)) Try.underlying29 (by rw [Oc.len15]; exact szC)) ?_
   exact fz
  intro gv wy hV ky
  rw [dq 1 [27]]
  simp only [F7]
  rw [gQ hV 0 27 ((Oc.mk o [] o.qty false false 1).v (.slice none 0 0))]
  clear hV
  refine l_setS 29 b4 29 (zeroC.cells (.slice none 0 0)) ((Oc.mk o [] o.qty false false 1).cells (.slice none 0 0)) _ _ rfl rfl (by kernel_rfl) (by kernel_rfl) (HF4.out.kept ky) (by rw [Oc.len15]; exact szC) (by rw [Oc.len15, Oc.len15]) (Oc.one _ _ rfl) ?_
  intro wx hBx hkx hsx
  simp only [Act.put]
  refine wpList_nil ?_
  go_wp2
  refine bodyPost_ret (results_cell (p := 4) rfl _ _ b4 _ ((Oc.mk o [] o.qty false false 1).cells (.slice none 0 0)) rfl hBx Try.underlying29 (by rw [Oc.len15]; exact szC)) rfl ?_
  rw [HA.out]
  have kk : Kept w wx := (kf.trans ky).trans' hkx (by omega)
  exact ⟨F, .slice none 0 0, rfl, HB.out.kept kk, Sl.nil _ _ _, fun b hb => by simp [Value.ownBlock] at hb, Grow.refl _ _, Keep.mono (T := F) kk (fun _ _ h => h.elim)⟩
set_option maxRecDepth 100000 in
set_option maxHeartbeats 800000 in
theorem sameF_any (va vb : Value) (na nb : Nat) (A B : List Fl) (w : World) (ha : Sl w 36 21 va A.length (fls A)) (hb : Sl w 36 21 vb B.length (fls B)) (hna : A.length ≤ 1000000000) (hnb : B.length ≤ 1000000000) : Gives 45 #[va, vb] w (.eq (.bool (decide (A = B)))) := by
 refine gives_eq ?_
 obtain ⟨n, hn⟩ : ∃ n, A.length = n := ⟨_, rfl⟩
 obtain ⟨m, hm⟩ : ∃ m, B.length = m := ⟨_, rfl⟩
 rw [hn] at ha hna
 rw [hm] at hb hnb
 have HA := Lib.hid ha
 have HB := Lib.hid hb
 have HN := Lib.hid hn
 have HM := Lib.hid hm
 obtain ⟨_, A1, c1, rfl, _⟩ := ha
 obtain ⟨_, A2, c2, rfl, _⟩ := hb
 clear hn hm
 by_cases hnm : n = m
 ·subst hnm
  go_enter Try.func45, Try.ntmps45
  go_wp2_with fail
  go_loopw [5] (fun v wr => ∃ i : Nat, i ≤ n ∧ v = .int .i64 i ∧ Kept w wr ∧ Hid (A.take i = B.take i)) (fun v _ => n - (intOf v).toNat)
  case atStart => exact ⟨0, Nat.zero_le _, rfl, Kept.refl _, rfl⟩
  case round =>
   obtain ⟨i, hi, rfl, hkr, HT⟩ := hrel
   by_cases hlt : i < n
   ·have hia : i < A.length := by rw [HN.out]; omega
    have hib : i < B.length := by rw [HM.out]; omega
    obtain ⟨ea, hea⟩ : ∃ e, A[i]? = some e := ⟨_, List.getElem?_eq_getElem hia⟩
    obtain ⟨eb, heb⟩ : ∃ e, B[i]? = some e := ⟨_, List.getElem?_eq_getElem hib⟩
    obtain ⟨g1, o1, _, e1⟩ := HA.out.some_ (by omega)
    injection e1 with e1 _ e1'
    subst e1 e1'
    obtain ⟨g2, o2, _, e2⟩ := HB.out.some_ (by omega)
    injection e2 with e2 _ e2'
    subst e2 e2'
    have HE1 : Hid (wr.rangeAt g1 (o1 + i * 21) ea.cells) := range_kept (HA.out.rngF i ea hea) hkr
    have HE2 : Hid (wr.rangeAt g2 (o2 + i * 21) eb.cells) := range_kept (HB.out.rngF i eb heb) hkr
    have HEQ : Hid (A[i]? = B[i]? ↔ ea = eb) := by
     show _ ↔ _
     rw [hea, heb]
     simp
    clear hia hib hea heb
    by_cases hx : ea = eb
    ·skip
     go_upto_region 6 with fail
     refine wp_free 8 [.eq (.slice (some ⟨g1, o1, none⟩) n c1), iE (i : Int), pE g1 (o1 + i * 21), .eq (ea.v), .eq (.slice (some ⟨g2, o2, none⟩) n c2), iE (i : Int), pE g2 (o2 + i * 21), .eq (eb.v)] (by kernel_rfl) rfl (by kernel_rfl) ?_ ?_
     ·refine mE 1 0 ?_
      refine mE 2 5 ?_
      refine sW 3 rfl (fun a u E D hk=>exec_ixo slF _ _ (g1) (o1) n c1 i (o1 + i * 21) ((i : Int)) rfl (dD D 0) (dD D 1) (by first | rfl | omega) (hlt) (by first | rfl | omega)) ?_
      refine sW 4 rfl (fun a u E D hk=>exec_ldS 36 _ _ (g1) (o1 + i * 21) (ea.cells) rfl (dD D 2) (range_kept HE1.out hk) Try.underlying36 (by rw [ea.len21]; exact szF)) ?_
      refine mE 5 1 ?_
      refine mE 6 5 ?_
      refine sW 7 rfl (fun a u E D hk=>exec_ixo slF _ _ (g2) (o2) n c2 i (o2 + i * 21) ((i : Int)) rfl (dD D 4) (dD D 5) (by first | rfl | omega) (hlt) (by first | rfl | omega)) ?_
      refine sW 8 rfl (fun a u E D hk=>exec_ldS 36 _ _ (g2) (o2 + i * 21) (eb.cells) rfl (dD D 6) (range_kept HE2.out hk) Try.underlying36 (by rw [eb.len21]; exact szF)) ?_
      exact fz
     intro gv w1 hV k1
     rw [dq 8 [17,18,19,20,21,22,23,24]]
     simp only [F7]
     rw [gQ hV 3 20 ea.v]
     rw [gQ hV 7 24 eb.v]
     clear hV
     refine l_val (.bool false) rfl (exec_neFb false (.tmp 20) (.tmp 24) _ ea eb rfl (by kernel_rfl) (by kernel_rfl) (by rw [hx]; simp)) ?_
     simp only [Act.put, sA, sS, sZ]
     refine wpList_nil ?_
     have HT2 := Lib.hid (take_next HT.out (HEQ.out.2 hx))
     have hk3 := hkr.trans k1
     clear hkr hx k1
     go_wp2
     exact ⟨⟨i + 1, by omega, by go_num, hk3, HT2⟩, by simp [intOf]; omega⟩
    ·skip
     go_upto_region 6 with fail
     refine wp_free 8 [.eq (.slice (some ⟨g1, o1, none⟩) n c1), iE (i : Int), pE g1 (o1 + i * 21), .eq (ea.v), .eq (.slice (some ⟨g2, o2, none⟩) n c2), iE (i : Int), pE g2 (o2 + i * 21), .eq (eb.v)] (by kernel_rfl) rfl (by kernel_rfl) ?_ ?_
     ·refine mE 1 0 ?_
      refine mE 2 5 ?_
      refine sW 3 rfl (fun a u E D hk=>exec_ixo slF _ _ (g1) (o1) n c1 i (o1 + i * 21) ((i : Int)) rfl (dD D 0) (dD D 1) (by first | rfl | omega) (hlt) (by first | rfl | omega)) ?_
      refine sW 4 rfl (fun a u E D hk=>exec_ldS 36 _ _ (g1) (o1 + i * 21) (ea.cells) rfl (dD D 2) (range_kept HE1.out hk) Try.underlying36 (by rw [ea.len21]; exact szF)) ?_
      refine mE 5 1 ?_
      refine mE 6 5 ?_
      refine sW 7 rfl (fun a u E D hk=>exec_ixo slF _ _ (g2) (o2) n c2 i (o2 + i * 21) ((i : Int)) rfl (dD D 4) (dD D 5) (by first | rfl | omega) (hlt) (by first | rfl | omega)) ?_
      refine sW 8 rfl (fun a u E D hk=>exec_ldS 36 _ _ (g2) (o2 + i * 21) (eb.cells) rfl (dD D 6) (range_kept HE2.out hk) Try.underlying36 (by rw [eb.len21]; exact szF)) ?_
      exact fz
     intro gv w1 hV k1
     rw [dq 8 [17,18,19,20,21,22,23,24]]
     simp only [F7]
     rw [gQ hV 3 20 ea.v]
     rw [gQ hV 7 24 eb.v]
     clear hV
     refine l_val (.bool true) rfl (exec_neFb true (.tmp 20) (.tmp 24) _ ea eb rfl (by kernel_rfl) (by kernel_rfl) (by simp [hx])) ?_
     simp only [Act.put, sA, sS, sZ]
     refine wpList_nil ?_
     have HF : Hid (A ≠ B) := fun h => hx (HEQ.out.1 (by rw [h]))
     have hk3 := hkr.trans k1
     clear hkr hx k1
     go_wp2
     go_ret
     exact ⟨ret_bool (decide_eq_false HF.out).symm, hk3⟩
   ·go_wp2
    go_ret
    exact ⟨ret_bool (decide_eq_true (take_whole HT.out (by have := HN.out; omega) (by have := HM.out; omega))).symm, hkr⟩
 ·have hne : ((n : Int) != (m : Int)) = true := by rw [bne_iff_ne]; omega
  have HF : Hid (A ≠ B) := fun h => hnm (by have h1 := HN.out; have h2 := HM.out; rw [h] at h1; omega)
  clear hnm
  go_enter Try.func45, Try.ntmps45
  go_wp2
  go_ret
  exact ⟨ret_bool (decide_eq_false HF.out).symm, Kept.refl _⟩

section
variable {a : Act} {o : Oper} {u : World}
theorem exec_eqb (x y : Operand) (t' : TypeId) (p q b : Bool) (hop : o.op = .binOp .eql 4 x y t') (hx : a.eval x = .bool p) (hy : a.eval y = .bool q) (hb : (p == q) = b) : (execOp a.eval o).run Try.prog u = .ok (.value (.bool b)) u := by
 subst hb
 exact exec_eqlb x y t' p q hop hx hy
theorem exec_neb (x y : Operand) (t' : TypeId) (p q b : Bool) (hop : o.op = .binOp .neq 4 x y t') (hx : a.eval x = .bool p) (hy : a.eval y = .bool q) (hb : (p != q) = b) : (execOp a.eval o).run Try.prog u = .ok (.value (.bool b)) u := by
 subst hb
 unfold execOp
 simp only [hop, hx, hy]
 simp [go_sem]
 cases p <;> cases q <;> rfl
end
set_option maxRecDepth 100000 in
theorem koutcome_any (x : Oc) (va vb : Value) (w : World) (ha : Sl w 36 21 va x.f.length (fls x.f)) (hb : Sl w 36 21 vb x.f.length (fls x.f)) (hl : x.f.length ≤ 2000000) : Gives 21 #[x.v va, x.v vb] w (.eq (.bool true)) := by
 refine gives_eq ?_
 have HA := Lib.hid ha
 have HB := Lib.hid hb
 have h1a := sl_onec ha
 have h1b := sl_onec hb
 clear ha hb
 go_enter Try.func21, Try.ntmps21
 go_upto_region 0 with fail
 refine wp_text 2 [.fresh w.heap.size 29 (x.cells va), .fresh w.heap.size 29 (x.cells vb)] rfl (by kernel_rfl) ?_ ?_
 ·refine nW 1 rfl (fun a u E D hk=>⟨_, _, exec_box 29 _ (x.cells va) rfl (eE E), ⟨_, rfl, hk.size, Blk.new u _ _⟩, ((Keep.refl _ u).alloc _)⟩) ?_
  refine nW 2 rfl (fun a u E D hk=>⟨_, _, exec_box 29 _ (x.cells vb) rfl (eE E), ⟨_, rfl, hk.size, Blk.new u _ _⟩, ((Keep.refl _ u).alloc _)⟩) ?_
  exact fz
 intro gv w0 hV k0
 rw [dq 2 [2,3]]
 simp only [F7]
 have hv2 : (.fresh w.heap.size 29 (x.cells va) : Kn).p (gv 2) w0 := hV 0 2 (by kernel_rfl)
 generalize gv 2 = v2 at hv2 ⊢
 have hv3 : (.fresh w.heap.size 29 (x.cells vb) : Kn).p (gv 3) w0 := hV 1 3 (by kernel_rfl)
 generalize gv 3 = v3 at hv3 ⊢
 clear hV
 obtain ⟨g2, rfl, hg2, hB2⟩ := hv2
 obtain ⟨g3, rfl, hg3, hB3⟩ := hv3
 refine l_val (.bool false) rfl (exec_assign _ _ rfl (by kernel_rfl)) ?_
 simp only [Act.put, sA, sS, sZ]
 refine wpList_nil ?_
 have H2 := Lib.hid hB2
 have H3 := Lib.hid hB3
 have HA0 := Lib.hid (HA.out.kept k0)
 have HB0 := Lib.hid (HB.out.kept k0)
 clear hB2 hB3 HA HB
 go_upto_region 1 with fail
 refine wp_text 47 [pE g2 0, .eq (x.o.v), pE g3 0, .eq (x.o.v), bE true, bE true, pE g2 9, .eq (va), pE g3 9, .eq (vb), bE true, bE true, bE true, pE g2 10, iE x.left, pE g3 10, iE x.left, bE true, bE true, bE true, pE g2 11, bE x.rests, pE g3 11, bE x.rests, bE true, bE true, bE true, pE g2 12, bE false, pE g3 12, bE false, bE true, bE true, bE true, pE g2 13, bE x.self, pE g3 13, bE x.self, bE true, bE true, bE true, pE g2 14, iE x.err, pE g3 14, iE x.err, bE true, bE true] rfl (by kernel_rfl) ?_ ?_
 ·refine fE 1 2 29 0 0 0 ?_
  refine sW 2 rfl (fun a u E D hk=>exec_ldS 25 _ _ (g2) (0) (x.o.cells) rfl (dD D 0) (oc_ord (H2.out.kept hk)) Try.underlying25 (by rw [x.o.len9]; exact ord_size)) ?_
  refine fE 3 3 29 0 0 0 ?_
  refine sW 4 rfl (fun a u E D hk=>exec_ldS 25 _ _ (g3) (0) (x.o.cells) rfl (dD D 2) (oc_ord (H3.out.kept hk)) Try.underlying25 (by rw [x.o.len9]; exact ord_size)) ?_
  refine sW 5 rfl (fun a u E D hk=>exec_eqOb' true _ _ _ x.o x.o rfl (dD D 1) (dD D 3) (decide_eq_true rfl)) ?_
  refine mD 6 9 4 ?_
  refine fE 7 2 29 1 9 0 ?_
  refine sW 8 rfl (fun a u E D hk=>exec_ldv _ _ Try.underlying26 _ _ _ rfl (dD D 6) (by rw [(H2.out.kept hk).cell]; rfl)) ?_
  refine fE 9 3 29 1 9 0 ?_
  refine sW 10 rfl (fun a u E D hk=>exec_ldv _ _ Try.underlying26 _ _ _ rfl (dD D 8) (by rw [(H3.out.kept hk).cell]; rfl)) ?_
  refine cS 11 45 [va, vb] rfl Try.func45 rfl (fun a u E D hk=>⟨ll (dD D 7) (ll (dD D 9) rfl), (by have h := sameF_any va vb 0 0 x.f x.f u (HA0.out.kept hk) (HB0.out.kept hk) (by omega) (by omega); rwa [decide_eq_true rfl] at h)⟩) ?_
  refine sW 12 rfl (fun a u E D hk=>exec_pick _ _ _ _ rfl (dD D 5) (dD D 10)) ?_
  refine mD 13 16 11 ?_
  refine fE 14 2 29 2 10 0 ?_
  refine sW 15 rfl (fun a u E D hk=>exec_loadi _ Try.underlying3 _ _ _ rfl (dD D 13) (by rw [(H2.out.kept hk).cell]; rfl)) ?_
  refine fE 16 3 29 2 10 0 ?_
  refine sW 17 rfl (fun a u E D hk=>exec_loadi _ Try.underlying3 _ _ _ rfl (dD D 15) (by rw [(H3.out.kept hk).cell]; rfl)) ?_
  refine aS 18 rfl (fun a u E D hk=>exec_eqn rfl (dD D 14) (dD D 16)) (decide_eq_true rfl) ?_
  refine sW 19 rfl (fun a u E D hk=>exec_pick _ _ _ _ rfl (dD D 12) (dD D 17)) ?_
  refine mD 20 23 18 ?_
  refine fE 21 2 29 3 11 0 ?_
  refine sW 22 rfl (fun a u E D hk=>exec_ldb _ Try.underlying4 _ _ _ rfl (dD D 20) (by rw [(H2.out.kept hk).cell]; rfl)) ?_
  refine fE 23 3 29 3 11 0 ?_
  refine sW 24 rfl (fun a u E D hk=>exec_ldb _ Try.underlying4 _ _ _ rfl (dD D 22) (by rw [(H3.out.kept hk).cell]; rfl)) ?_
  refine sW 25 rfl (fun a u E D hk=>exec_eqb _ _ _ _ _ true rfl (dD D 21) (dD D 23) (by simp)) ?_
  refine sW 26 rfl (fun a u E D hk=>exec_pick _ _ _ _ rfl (dD D 19) (dD D 24)) ?_
  refine mD 27 30 25 ?_
  refine fE 28 2 29 4 12 0 ?_
  refine sW 29 rfl (fun a u E D hk=>exec_ldb _ Try.underlying4 _ _ _ rfl (dD D 27) (by rw [(H2.out.kept hk).cell]; rfl)) ?_
  refine fE 30 3 29 4 12 0 ?_
  refine sW 31 rfl (fun a u E D hk=>exec_ldb _ Try.underlying4 _ _ _ rfl (dD D 29) (by rw [(H3.out.kept hk).cell]; rfl)) ?_
  refine sW 32 rfl (fun a u E D hk=>exec_eqb _ _ _ _ _ true rfl (dD D 28) (dD D 30) (by simp)) ?_
  refine sW 33 rfl (fun a u E D hk=>exec_pick _ _ _ _ rfl (dD D 26) (dD D 31)) ?_
  refine mD 34 37 32 ?_
  refine fE 35 2 29 5 13 0 ?_
  refine sW 36 rfl (fun a u E D hk=>exec_ldb _ Try.underlying4 _ _ _ rfl (dD D 34) (by rw [(H2.out.kept hk).cell]; rfl)) ?_
  refine fE 37 3 29 5 13 0 ?_
  refine sW 38 rfl (fun a u E D hk=>exec_ldb _ Try.underlying4 _ _ _ rfl (dD D 36) (by rw [(H3.out.kept hk).cell]; rfl)) ?_
  refine sW 39 rfl (fun a u E D hk=>exec_eqb _ _ _ _ _ true rfl (dD D 35) (dD D 37) (by simp)) ?_
  refine sW 40 rfl (fun a u E D hk=>exec_pick _ _ _ _ rfl (dD D 33) (dD D 38)) ?_
  refine mD 41 44 39 ?_
  refine fE 42 2 29 6 14 0 ?_
  refine sW 43 rfl (fun a u E D hk=>exec_loadi _ Try.underlying27 _ _ _ rfl (dD D 41) (by rw [(H2.out.kept hk).cell]; rfl)) ?_
  refine fE 44 3 29 6 14 0 ?_
  refine sW 45 rfl (fun a u E D hk=>exec_loadi _ Try.underlying27 _ _ _ rfl (dD D 43) (by rw [(H3.out.kept hk).cell]; rfl)) ?_
  refine aS 46 rfl (fun a u E D hk=>exec_eqn rfl (dD D 42) (dD D 44)) (decide_eq_true rfl) ?_
  refine sW 47 rfl (fun a u E D hk=>exec_pick _ _ _ _ rfl (dD D 40) (dD D 45)) ?_
  exact fz
 intro gv w1 hV k1
 rw [dq 47 [5,6,7,8,9,10,11,12,13,14,15,16,17,18,19,20,21,22,23,24,25,26,27,28,29,30,31,32,33,34,35,36,37,38,39,40,41,42,43,44,45,46,47,48,49,50,51]]
 simp only [F7]
 rw [gQ hV 46 51 (.bool true)]
 clear hV
 refine l_val (.bool true) rfl (exec_assign _ _ rfl (by kernel_rfl)) ?_
 simp only [Act.put, sA, sS, sZ]
 refine wpList_nil ?_
 go_wp2
 go_ret
 exact ⟨rfl, k0.trans k1⟩
theorem rbdepth_none (w : World) (p : Nat) (k : Nat) (h03 : k = 0 ∨ k = 3) : Gives 58 #[.pointer (some ⟨p, 0, none⟩), .int .i64 (k : Int)] w (.sl w.heap.size 39 10 0 []) := by
 go_enter Try.func58, Try.ntmps58
 go_upto_region 2 with fail
 rcases h03 with rfl | rfl
 ·go_wp2
  go_ret
  exact ⟨.slice none 0 0, rfl, ⟨Sl.nil _ _ _, fun b hb => by simp [Value.ownBlock] at hb⟩, Kept.refl _⟩
 ·go_wp2
  go_ret
  exact ⟨.slice none 0 0, rfl, ⟨Sl.nil _ _ _, fun b hb => by simp [Value.ownBlock] at hb⟩, Kept.refl _⟩
theorem rborders_none (w : World) (p : Nat) (k : Nat) (h03 : k = 0 ∨ k = 3) : Gives 59 #[.pointer (some ⟨p, 0, none⟩), .int .i64 (k : Int)] w (.sl w.heap.size 25 9 0 []) := by
 go_enter Try.func59, Try.ntmps59
 go_upto_region 1 with fail
 rcases h03 with rfl | rfl
 ·go_wp2
  go_ret
  exact ⟨.slice none 0 0, rfl, ⟨Sl.nil _ _ _, fun b hb => by simp [Value.ownBlock] at hb⟩, Kept.refl _⟩
 ·go_wp2
  go_ret
  exact ⟨.slice none 0 0, rfl, ⟨Sl.nil _ _ _, fun b hb => by simp [Value.ownBlock] at hb⟩, Kept.refl _⟩
theorem rbdepth_any (w : World) (F : Nat → Prop) (p : Nat) (B : Bok) (k : Nat) (hk : k ≤ 3) (h : RBk w F p B) (hI : Inv B) : Gives 58 #[.pointer (some ⟨p, 0, none⟩), .int .i64 (k : Int)] w (.sl w.heap.size 39 10 (depthL (k : Int) (B.sd (k : Int))).length (ents (depthL (k : Int) (B.sd (k : Int))))) := by
 by_cases h12 : k = 1 ∨ k = 2
 ·exact rbdepth_in w F p B k h12 h hI
 ·have h03 : k = 0 ∨ k = 3 := by omega
  have h1 := rbdepth_none w p k h03
  rcases h03 with rfl | rfl
  ·exact h1
  ·exact h1
theorem rborders_any (w : World) (F : Nat → Prop) (p : Nat) (B : Bok) (k : Nat) (hk : k ≤ 3) (h : RBk w F p B) (hI : Inv B) : Gives 59 #[.pointer (some ⟨p, 0, none⟩), .int .i64 (k : Int)] w (.sl w.heap.size 25 9 (ordsL (B.sd (k : Int))).length (ords (ordsL (B.sd (k : Int))))) := by
 by_cases h12 : k = 1 ∨ k = 2
 ·exact rborders_in w F p B k h12 h hI
 ·have h03 : k = 0 ∨ k = 3 := by omega
  have h1 := rborders_none w p k h03
  rcases h03 with rfl | rfl
  ·exact h1
  ·exact h1
set_option maxRecDepth 100000 in
theorem bsame_any (w : World) (F G : Nat → Prop) (p r : Nat) (B : Bok) (ha : Bk w F p B) (hb : RBk w G r B) (hI : Inv B) : Gives 30 #[.pointer (some ⟨p, 0, none⟩), .pointer (some ⟨r, 0, none⟩)] w (.eq (.bool true)) := by
 refine gives_eq ?_
 have HA := Lib.hid ha
 have HB := Lib.hid hb
 have HI := Lib.hid hI
 clear ha hb hI
 go_enter Try.func30, Try.ntmps30
 go_upto_region 1 with fail
 go_wp2_with fail
 go_loopw [5] (fun q wr => ∃ (k : Nat), k ≤ 4 ∧ q = .int .i64 (k : Int) ∧ Kept w wr) (fun q _ => 4 - (intOf q).toNat)
 case atStart => exact ⟨0, by omega, rfl, Kept.refl _⟩
 case round =>
  obtain ⟨k, hk4, rfl, hkr⟩ := hrel
  by_cases hk : k ≤ 3
  ·obtain ⟨X, hX⟩ : ∃ X, ordsL (B.sd (k : Int)) = X := ⟨_, rfl⟩
   obtain ⟨D, hD⟩ : ∃ D, depthL (k : Int) (B.sd (k : Int)) = D := ⟨_, rfl⟩
   have hXl : X.length ≤ 64 := by rw [← hX, ordsL_len]; exact (HI.out.ok _).few
   have hDl : D.length ≤ 64 := by rw [← hD]; unfold depthL; rw [List.length_map]; exact (HI.out.ok _).len
   have HXe := Lib.hid hX
   have HDe := Lib.hid hD
   have HAr := Lib.hid (HA.out.kept hkr)
   have HBr := Lib.hid (HB.out.kept hkr)
   clear hX hD
   go_upto_region 4 with fail
   refine wp_text 18 [pE p 0, iE (k : Int), .sl 0 39 10 D.length (ents D), pE r 0, iE (k : Int), .sl 0 39 10 D.length (ents D), bE true, bE false, bE false, pE p 0, iE (k : Int), .sl 0 25 9 X.length (ords X), pE r 0, iE (k : Int), .sl 0 25 9 X.length (ords X), bE true, bE false, bE false] rfl (by kernel_rfl) ?_ ?_
   ·refine mE 1 0 ?_
    refine mE 2 5 ?_
    refine cS 3 17 [.pointer (some ⟨p, 0, none⟩), .int .i64 (k : Int)] rfl Try.func17 rfl (fun a u E D hk=>⟨ll (dD D 0) (ll (dD D 1) rfl), (by have h := (bdepth_any u F p B (k : Int) (HAr.out.kept hk) HI.out).base (Nat.zero_le _); rw [HDe.out] at h; exact h)⟩) ?_
    refine mE 4 1 ?_
    refine mE 5 5 ?_
    refine cS 6 58 [.pointer (some ⟨r, 0, none⟩), .int .i64 (k : Int)] rfl Try.func58 rfl (fun a u E D hk=>⟨ll (dD D 3) (ll (dD D 4) rfl), (by have h := (rbdepth_any u G r B k (by omega) (HBr.out.kept hk) HI.out).base (Nat.zero_le _); rw [HDe.out] at h; exact h)⟩) ?_
    refine fsteps_cons 7 rfl (fun a u hE hD hk => f_call 20 #[a.eval (.tmp 12), a.eval (.tmp 15)] rfl (wanted_none rfl _) (exec_call 20 _ [.tmp 12, .tmp 15] _ [a.eval (.tmp 12), a.eval (.tmp 15)] Try.func20 (by kernel_rfl) (by kernel_rfl) rfl rfl u) ((by have h := sameH_any (a.eval (.tmp 12)) (a.eval (.tmp 15)) 0 0 D D u (hD 2 12 (by kernel_rfl)).1 (hD 5 15 (by kernel_rfl)).1 (by omega) (by omega); rwa [decide_eq_true rfl] at h))) ?_
    refine sW 8 rfl (fun a u E D hk=>exec_not _ _ true rfl (dD D 6)) ?_
    refine mD 9 17 7 ?_
    refine mE 10 0 ?_
    refine mE 11 5 ?_
    refine cS 12 32 [.pointer (some ⟨p, 0, none⟩), .int .i64 (k : Int)] rfl Try.func32 rfl (fun a u E D hk=>⟨ll (dD D 9) (ll (dD D 10) rfl), (by have h := (borders_any u F p B (k : Int) (HAr.out.kept hk) HI.out).base (Nat.zero_le _); rw [HXe.out] at h; exact h)⟩) ?_
    refine mE 13 1 ?_
    refine mE 14 5 ?_
    refine cS 15 59 [.pointer (some ⟨r, 0, none⟩), .int .i64 (k : Int)] rfl Try.func59 rfl (fun a u E D hk=>⟨ll (dD D 12) (ll (dD D 13) rfl), (by have h := (rborders_any u G r B k (by omega) (HBr.out.kept hk) HI.out).base (Nat.zero_le _); rw [HXe.out] at h; exact h)⟩) ?_
    refine fsteps_cons 16 rfl (fun a u hE hD hk => f_call 37 #[a.eval (.tmp 21), a.eval (.tmp 24)] rfl (wanted_at (b := false) false rfl rfl (dD hD 8)) (exec_call 37 _ [.tmp 21, .tmp 24] _ [a.eval (.tmp 21), a.eval (.tmp 24)] Try.func37 (by kernel_rfl) (by kernel_rfl) rfl rfl u) ((by have h := sameO_any (a.eval (.tmp 21)) (a.eval (.tmp 24)) 0 0 X X u (hD 11 21 (by kernel_rfl)).1 (hD 14 24 (by kernel_rfl)).1 (by omega) (by omega); rwa [decide_eq_true rfl] at h))) ?_
    refine sW 17 rfl (fun a u E D hk=>exec_not _ _ true rfl (dD D 15)) ?_
    refine sW 18 rfl (fun a u E D hk=>exec_pickF _ _ _ _ rfl (dD D 8) (dD D 16)) ?_
    exact fz
   intro gv w1 hV k1
   rw [dq 18 [10,11,12,13,14,15,16,17,18,19,20,21,22,23,24,25,26,27]]
   simp only [F7]
   rw [gQ hV 17 27 (.bool false)]
   clear hV
   refine wpList_nil ?_
   have kw1 := hkr.trans k1
   go_wp2
   exact ⟨⟨k + 1, by omega, by go_num, kw1⟩, by simp [intOf]; omega⟩
  ·have hk' : k = 4 := by omega
   subst hk'
   have HAr := Lib.hid (HA.out.kept hkr)
   have HBr := Lib.hid (HB.out.kept hkr)
   obtain ⟨_, _, v1, v2, F1, F2, hBB, _⟩ := HBr.out
   have H3 : Hid (wr.cell? ⟨r, 3, none⟩ = some (.int .i64 B.last)) := hBB.cell 3
   have H4 : Hid (wr.cell? ⟨r, 4, none⟩ = some (.int .i64 B.no)) := hBB.cell 4
   clear hBB
   go_upto_region 6 with fail
   refine wp_free 23 [pE p 0, iE (B.len : Int), pE r 0, iE (B.len : Int), bE true, bE true, pE p 0, iE B.last, pE r 0, pE r 0, pE r 3, iE B.last, bE true, bE true, bE true, pE p 0, iE B.no, pE r 0, pE r 0, pE r 4, iE B.no, bE true, bE true] (by kernel_rfl) rfl (by kernel_rfl) ?_ ?_
   ·refine mE 1 0 ?_
    refine cS 2 33 [.pointer (some ⟨p, 0, none⟩)] rfl Try.func33 rfl (fun a u E D hk=>⟨ll (dD D 0) rfl, blen_any u F p B (HAr.out.kept hk) HI.out⟩) ?_
    refine mE 3 1 ?_
    refine cS 4 47 [.pointer (some ⟨r, 0, none⟩)] rfl Try.func47 rfl (fun a u E D hk=>⟨ll (dD D 2) rfl, rblen_any u G r B (HBr.out.kept hk) HI.out⟩) ?_
    refine aS 5 rfl (fun a u E D hk=>exec_eqn rfl (dD D 1) (dD D 3)) (decide_eq_true rfl) ?_
    refine mD 6 32 4 ?_
    refine mE 7 0 ?_
    refine cS 8 18 [.pointer (some ⟨p, 0, none⟩)] rfl Try.func18 rfl (fun a u E D hk=>⟨ll (dD D 6) rfl, blast_any u F p B (HAr.out.kept hk)⟩) ?_
    refine mE 9 1 ?_
    refine nD 10 36 8 ?_
    refine fD 11 37 9 46 1 3 0 ?_
    refine sW 12 rfl (fun a u E D hk=>exec_loadi _ Try.underlying3 _ _ _ rfl (dD D 10) (Kept.cell hk (H3.out))) ?_
    refine aS 13 rfl (fun a u E D hk=>exec_eqn rfl (dD D 7) (dD D 11)) (decide_eq_true rfl) ?_
    refine sW 14 rfl (fun a u E D hk=>exec_pick _ _ _ _ rfl (dD D 5) (dD D 12)) ?_
    refine mD 15 41 13 ?_
    refine mE 16 0 ?_
    refine cS 17 19 [.pointer (some ⟨p, 0, none⟩)] rfl Try.func19 rfl (fun a u E D hk=>⟨ll (dD D 15) rfl, bno_any u F p B (HAr.out.kept hk)⟩) ?_
    refine mE 18 1 ?_
    refine nD 19 45 17 ?_
    refine fD 20 46 18 46 2 4 0 ?_
    refine sW 21 rfl (fun a u E D hk=>exec_loadi _ Try.underlying3 _ _ _ rfl (dD D 19) (Kept.cell hk (H4.out))) ?_
    refine aS 22 rfl (fun a u E D hk=>exec_eqn rfl (dD D 16) (dD D 20)) (decide_eq_true rfl) ?_
    refine sW 23 rfl (fun a u E D hk=>exec_pick _ _ _ _ rfl (dD D 14) (dD D 21)) ?_
    exact fz
   intro gv w1 hV k1
   rw [dq 23 [28,29,30,31,32,33,34,35,36,37,38,39,40,41,42,43,44,45,46,47,48,49,50]]
   simp only [F7]
   rw [gQ hV 22 50 (.bool true)]
   clear hV
   refine l_val (.bool true) rfl (exec_assign _ _ rfl (by kernel_rfl)) ?_
   simp only [Act.put, sA, sS, sZ]
   refine wpList_nil ?_
   go_wp2
   go_ret
   exact ⟨rfl, hkr.trans k1⟩
theorem Bok.to1 (B : Bok) (L : List Lev) : B.to 1 L B.last B.no = { B with buys := L } := rfl
theorem Bok.to2 (B : Bok) (L : List Lev) : B.to 2 L B.last B.no = { B with sells := L } := rfl
set_option maxHeartbeats 800000 in
theorem bless_any (w : World) (F : Nat → Prop) (p : Nat) (B : Bok) (t i q : Int) (h : Bk w F p B) (hI : Inv B) : Calls Try.prog 26 #[.pointer (some ⟨p, 0, none⟩), .int .i64 t, .int .i64 i, .int .i64 q] w fun r w' => ∃ F', r = .returned (.bool (B.less t i q).1) ∧ Bk w' F' p (B.less t i q).2 ∧ Grow w F F' ∧ Keep F w w' := by
 have HK := Lib.hid h
 have HI := Lib.hid hI
 clear h hI
 go_enter Try.func26, Try.ntmps26
 go_wp2_with fail
 refine (lless_any w F p B 1 t i q HK.out (.inl rfl) (HI.out.ok 1)).mono ?_
 rintro r w1 ⟨F1, rfl, h1, g1, k1, n1⟩
 have e1 : B.sd 1 = B.buys := rfl
 rw [e1] at h1 n1 ⊢
 rw [Bok.to1] at h1
 obtain ⟨b, hb⟩ : ∃ b, (lessL t i q B.buys).1 = b := ⟨_, rfl⟩
 rw [hb] at n1 ⊢
 have HB := Lib.hid hb
 have H1 := Lib.hid h1
 have N1 := Lib.hid n1
 clear h1 n1 hb
 cases b with
 | true =>
  have HR : Hid (B.less t i q = (true, { B with buys := (lessL t i q B.buys).2 })) := by show _ = _; unfold Bok.less; rw [if_pos HB.out]
  go_wp2
  go_ret
  rw [HR.out]
  first | exact ⟨rfl, F1, H1.out, g1, k1⟩ | exact ⟨F1, rfl, H1.out, g1, k1⟩
 | false =>
  have kk := N1.out rfl
  have HK1 := Lib.hid (HK.out.kept kk)
  clear H1 N1
  go_wp2_with fail
  refine (lless_any w1 F p B 2 t i q HK1.out (.inr rfl) (HI.out.ok 2)).mono ?_
  rintro r w2 ⟨F2, rfl, h2, g2, k2, n2⟩
  have e2 : B.sd 2 = B.sells := rfl
  rw [e2] at h2 n2 ⊢
  rw [Bok.to2] at h2
  obtain ⟨b, hb⟩ : ∃ b, (lessL t i q B.sells).1 = b := ⟨_, rfl⟩
  rw [hb] at n2 ⊢
  have HB2 := Lib.hid hb
  have H2 := Lib.hid h2
  have N2 := Lib.hid n2
  clear h2 n2 hb
  have G2 := g2.wide kk.size
  have K2 := Keep.any kk k2
  cases b with
  | true =>
   have HR : Hid (B.less t i q = (true, { B with sells := (lessL t i q B.sells).2 })) := by show _ = _; unfold Bok.less; rw [if_neg (by rw [HB.out]; simp), if_pos HB2.out]
   go_wp2
   go_ret
   rw [HR.out]
   first | exact ⟨rfl, F2, H2.out, G2, K2⟩ | exact ⟨F2, rfl, H2.out, G2, K2⟩
  | false =>
   have HR : Hid (B.less t i q = (false, B)) := by show _ = _; unfold Bok.less; rw [if_neg (by rw [HB.out]; simp), if_neg (by rw [HB2.out]; simp)]
   have k3 := kk.trans (N2.out rfl)
   have H3 := Lib.hid (HK.out.kept k3)
   have K3 : Keep F w w2 := Keep.mono (T := F) k3 (fun _ _ h => h.elim)
   go_wp2
   go_ret
   rw [HR.out]
   first | exact ⟨rfl, F, H3.out, Grow.refl _ _, K3⟩ | exact ⟨F, rfl, H3.out, Grow.refl _ _, K3⟩
set_option maxRecDepth 100000 in
set_option maxHeartbeats 1600000 in
theorem bremove_any (w : World) (F : Nat → Prop) (p : Nat) (B : Bok) (t i : Int) (h : Bk w F p B) (hI : Inv B) : Calls Try.prog 24 #[.pointer (some ⟨p, 0, none⟩), .int .i64 t, .int .i64 i] w fun r w' => ∃ F', r = .returned (.tuple #[(B.remove t i).1.v, .bool (B.remove t i).2.1]) ∧ Bk w' F' p (B.remove t i).2.2 ∧ Grow w F F' ∧ Keep F w w' := by
 have hFl := h.lt
 have HK := Lib.hid h
 have HI := Lib.hid hI
 clear h hI
 go_enter Try.func24, Try.ntmps24
 go_upto_region 0 with fail
 refine wp_text 2 [.fresh w.heap.size 25 zeroO.cells, bE false] rfl (by kernel_rfl) ?_ ?_
 ·refine nW 1 rfl (fun a u E D hk=>⟨_, _, exec_alc 25 zeroO.cells rfl zO, ⟨_, rfl, hk.size, Blk.new u _ _⟩, ((Keep.refl _ u).alloc _)⟩) ?_
  refine sW 2 rfl (fun a u E D hk=>exec_assign _ _ rfl rfl) ?_
  exact fz
 intro gv w0 hV k0
 rw [dq 2 [6,7]]
 simp only [F7]
 have hv6 : (.fresh w.heap.size 25 zeroO.cells : Kn).p (gv 6) w0 := hV 0 6 (by kernel_rfl)
 generalize gv 6 = v6 at hv6 ⊢
 rw [gQ hV 1 7 (.bool false)]
 clear hV
 obtain ⟨b6, rfl, hb6, hB6⟩ := hv6
 refine wpList_nil ?_
 have h6F : ¬ F b6 := fun h => by have := hFl b6 h; omega
 have HB6 := Lib.hid hB6
 have l6 := hB6.lt
 have HK0 := Lib.hid (HK.out.kept k0)
 have z0 := k0.size
 clear hB6 hFl
 obtain ⟨b, hb⟩ : ∃ b, (removeL t i B.buys).2.1 = b := ⟨_, rfl⟩
 obtain ⟨e, he⟩ : ∃ e, (removeL t i B.buys).1 = e := ⟨_, rfl⟩
 have HB := Lib.hid hb
 have HE := Lib.hid he
 clear hb he
 go_upto_region 1 with fail
 refine wp_text 5 [pE p 0, pE p 0, pE p 0, iE t, iE i] rfl (by kernel_rfl) ?_ ?_
 ·refine mE 1 0 ?_
  refine nD 2 11 0 ?_
  refine fD 3 12 1 75 0 0 0 ?_
  refine mE 4 1 ?_
  refine mE 5 2 ?_
  exact fz
 intro gv w1 hV k1
 rw [dq 5 [11,12,13,14,15]]
 simp only [F7]
 rw [gQ hV 2 13 (.pointer (some ⟨p, 0, none⟩))]
 rw [gQ hV 3 14 (.int .i64 t)]
 rw [gQ hV 4 15 (.int .i64 i)]
 clear hV
 refine l_call 52 #[.pointer (some ⟨p, 0, none⟩), .int .i64 t, .int .i64 i] rfl (exec_call 52 _ [.tmp 13, .tmp 14, .tmp 15] _ _ Try.func52 (by kernel_rfl) (by kernel_rfl) rfl (by kernel_rfl) _) ?_
 refine (lremove_any w1 F p B 1 t i (HK0.out.kept k1) (.inl rfl) (HI.out.ok 1)).mono ?_
 rintro r w3 ⟨F1, rfl, h1, g1, q1, n1⟩
 have e1 : B.sd 1 = B.buys := rfl
 rw [e1] at h1 n1 ⊢
 rw [Bok.to1] at h1
 refine ⟨.tuple #[e.v, .bool b], by rw [HB.out, HE.out], ?_⟩
 rw [HB.out] at n1
 simp only [Act.put, sA, sS, sZ]
 refine l_val (.tuple #[e.v, .bool b]) rfl (exec_move _ _ rfl (by kernel_rfl)) ?_
 simp only [Act.put, sA, sS, sZ]
 refine l_val (e.v) rfl (exec_extract (.tmp 10) [e.v, .bool b] 0 (e.v) rfl (by kernel_rfl) rfl) ?_
 simp only [Act.put, sA, sS, sZ]
 refine l_val (.bool b) rfl (exec_extract (.tmp 10) [e.v, .bool b] 1 (.bool b) rfl (by kernel_rfl) rfl) ?_
 simp only [Act.put, sA, sS, sZ]
 refine l_new (.pointer (some ⟨w3.heap.size, 0, none⟩)) (w3.alloc (.cells zeroO.cells.toArray 25)) rfl (exec_alc 25 zeroO.cells rfl zO) ?_
 have hNw4 := Blk.new w3 25 zeroO.cells
 have kw4 : Kept w3 (w3.alloc (.cells zeroO.cells.toArray 25)) := (Keep.refl _ w3).alloc _
 generalize w3.alloc (.cells zeroO.cells.toArray 25) = w4 at hNw4 kw4 ⊢
 simp only [Act.put, sA, sS, sZ]
 refine l_setS 25 w3.heap.size 25 zeroO.cells e.cells _ _ rfl rfl (by kernel_rfl) (by kernel_rfl) hNw4 (by rw [Ord.len9]; exact ord_size) (by rw [Ord.len9, Ord.len9]) (Ord.one1 _) ?_
 intro w5 hB5 hk5 hs5
 simp only [Act.put]
 refine l_val (.bool b) rfl (exec_assign _ _ rfl (by kernel_rfl)) ?_
 simp only [Act.put, sA, sS, sZ]
 refine wpList_nil ?_
 obtain ⟨b8, hb8⟩ : ∃ x, w3.heap.size = x := ⟨_, rfl⟩
 rw [hb8] at hNw4 hB5 hk5 ⊢
 have l8 := hB5.lt
 have K35 : Kept w3 w5 := kw4.trans' hk5 (by omega)
 have z1 := k1.size
 have z3 := q1.size
 have H1 := Lib.hid h1
 have N1 := Lib.hid n1
 have HB8 := Lib.hid (blk_range hB5)
 clear hNw4 hB5 hk5 hs5 kw4 h1 n1
 cases b with
 | true =>
  have HR : Hid (B.remove t i = (e, true, { B with buys := (removeL t i B.buys).2.2 })) := by show _ = _; unfold Bok.remove; rw [if_pos HB.out, HE.out]
  have h6F1 : ¬ F1 b6 := fun h => (g1 b6 h).elim h6F (fun h => by omega)
  have HB65 := Lib.hid (((HB6.out.kept k1).keep q1 h6F).kept K35)
  have H15 := Lib.hid (H1.out.kept K35)
  have KK : Keep F w w5 := (Keep.any (k0.trans k1) q1).kept K35
  have GG : Grow w F F1 := g1.wide (k0.trans k1).size
  have z5 := KK.size
  clear HB6 H1 N1 K35 q1 g1
  go_upto_region 3 with fail
  refine wp_text 1 [.eq (e.v)] rfl (by kernel_rfl) ?_ ?_
  ·refine sW 1 rfl (fun a u E D hk=>exec_ldS 25 _ _ (b8) (0) (e.cells) rfl (eE E) (range_kept HB8.out hk) Try.underlying25 (by rw [e.len9]; exact ord_size)) ?_
   exact fz
  intro gv w6 hV k6
  rw [dq 1 [20]]
  simp only [F7]
  rw [gQ hV 0 20 e.v]
  clear hV
  refine l_setS 25 b6 25 zeroO.cells e.cells _ _ rfl rfl (by kernel_rfl) (by kernel_rfl) (HB65.out.kept k6) (by rw [Ord.len9]; exact ord_size) (by rw [Ord.len9, Ord.len9]) (Ord.one1 _) ?_
  intro w7 hB7 hk7 hs7
  simp only [Act.put]
  refine l_val (.bool true) rfl (exec_assign _ _ rfl (by kernel_rfl)) ?_
  simp only [Act.put, sA, sS, sZ]
  refine wpList_nil ?_
  go_wp2
  refine bodyPost_ret (results_cell2 (p := 6) (q := 7) rfl _ _ b6 _ e.cells true rfl rfl hB7 Try.underlying25 (by rw [Ord.len9]; exact ord_size)) rfl ?_
  rw [HR.out]
  have h9 := (H15.out.kept k6).keep hk7 (fun b hb h => h6F1 (by subst h; exact hb))
  have k9 : Keep F w w7 := (KK.kept k6).trans hk7 (fun b hb h => by subst h; omega)
  first | exact ⟨rfl, F1, h9, GG, k9⟩ | exact ⟨F1, rfl, h9, GG, k9⟩
 | false =>
  have kk := (k1.trans (N1.out rfl)).trans K35
  have HK5 := Lib.hid (HK0.out.kept kk)
  have HB65 := Lib.hid (HB6.out.kept kk)
  have zk := kk.size
  clear H1 N1 K35 HB6 HK0 q1 g1 k1 z1 z3 HB8 l8
  obtain ⟨b, hb⟩ : ∃ b, (removeL t i B.sells).2.1 = b := ⟨_, rfl⟩
  obtain ⟨e2, he⟩ : ∃ e, (removeL t i B.sells).1 = e := ⟨_, rfl⟩
  have HBB := Lib.hid hb
  have HEE := Lib.hid he
  clear hb he
  go_upto_region 4 with fail
  refine wp_text 5 [pE p 0, pE p 0, pE p 2, iE t, iE i] rfl (by kernel_rfl) ?_ ?_
  ·refine mE 1 0 ?_
   refine nD 2 21 0 ?_
   refine fD 3 22 1 75 1 2 0 ?_
   refine mE 4 1 ?_
   refine mE 5 2 ?_
   exact fz
  intro gv w6 hV k6
  rw [dq 5 [21,22,23,24,25]]
  simp only [F7]
  rw [gQ hV 2 23 (.pointer (some ⟨p, 2, none⟩))]
  rw [gQ hV 3 24 (.int .i64 t)]
  rw [gQ hV 4 25 (.int .i64 i)]
  clear hV
  refine l_call 52 #[.pointer (some ⟨p, 2, none⟩), .int .i64 t, .int .i64 i] rfl (exec_call 52 _ [.tmp 23, .tmp 24, .tmp 25] _ _ Try.func52 (by kernel_rfl) (by kernel_rfl) rfl (by kernel_rfl) _) ?_
  refine (lremove_any w6 F p B 2 t i (HK5.out.kept k6) (.inr rfl) (HI.out.ok 2)).mono ?_
  rintro r w7 ⟨F2, rfl, h2, g2, q2, n2⟩
  have es : B.sd 2 = B.sells := rfl
  rw [es] at h2 n2 ⊢
  rw [Bok.to2] at h2
  refine ⟨.tuple #[e2.v, .bool b], by rw [HBB.out, HEE.out], ?_⟩
  rw [HBB.out] at n2
  simp only [Act.put, sA, sS, sZ]
  refine l_val (e2.v) rfl (exec_extract (.tmp 26) [e2.v, .bool b] 0 (e2.v) rfl (by kernel_rfl) rfl) ?_
  simp only [Act.put, sA, sS, sZ]
  refine l_val (.bool b) rfl (exec_extract (.tmp 26) [e2.v, .bool b] 1 (.bool b) rfl (by kernel_rfl) rfl) ?_
  simp only [Act.put, sA, sS, sZ]
  refine l_setS 25 b6 25 zeroO.cells e2.cells _ _ rfl rfl (by kernel_rfl) (by kernel_rfl) ((HB65.out.kept k6).keep q2 h6F) (by rw [Ord.len9]; exact ord_size) (by rw [Ord.len9, Ord.len9]) (Ord.one1 _) ?_
  intro w8 hB8 hk8 hs8
  simp only [Act.put]
  refine l_val (.bool b) rfl (exec_assign _ _ rfl (by kernel_rfl)) ?_
  simp only [Act.put, sA, sS, sZ]
  refine wpList_nil ?_
  have HR : Hid (B.remove t i = (if b = true then (e2, true, { B with sells := (removeL t i B.sells).2.2 }) else (zeroO, false, B))) := by
   show _ = _
   unfold Bok.remove
   rw [if_neg (by rw [HB.out]; simp), HBB.out, HEE.out]
  have z6 := k6.size
  have h6F2 : ¬ F2 b6 := fun h => (g2 b6 h).elim h6F (fun h => by omega)
  have KW := (k0.trans kk).trans k6
  have GG : Grow w F F2 := g2.wide KW.size
  have k9 : Keep F w w8 := (Keep.any KW q2).trans hk8 (fun b hb h => by subst h; omega)
  have h9 := Lib.hid (h2.keep hk8 (fun b hb h => h6F2 (by subst h; exact hb)))
  have N2 := Lib.hid n2
  have HK6 := Lib.hid (HK.out.kept KW)
  have hk8' := hk8
  clear h2 n2 q2 g2
  have hw : b = false → removeL t i B.sells = (zeroO, false, B.sells) := fun hb => by
   have h0 := HBB.out
   rw [hb] at h0
   obtain ⟨a1, a2, _⟩ := (remove_facts t i B.sells HI.out.two.theirs).no h0
   exact Prod.ext a2 (Prod.ext h0 a1)
  have HW := Lib.hid hw
  clear hw
  go_wp2
  refine bodyPost_ret (results_cell2 (p := 6) (q := 7) rfl _ _ b6 _ e2.cells b rfl rfl hB8 Try.underlying25 (by rw [Ord.len9]; exact ord_size)) rfl ?_
  rw [HR.out]
  cases b with
  | true => first | exact ⟨rfl, F2, h9.out, GG, k9⟩ | exact ⟨F2, rfl, h9.out, GG, k9⟩
  | false =>
   have h0 := HW.out rfl
   have he2 : e2 = zeroO := by rw [← HEE.out, h0]
   have h9' := h9.out
   rw [h0] at h9'
   subst he2
   first | exact ⟨rfl, F2, h9', GG, k9⟩ | exact ⟨F2, rfl, h9', GG, k9⟩
section
variable {P : Program} {ops : Array Oper} {Q : Exit → Act → World → Prop} {V : List Kn} {n m m2 : Nat} {a0 : Act} {w0 : World} {S S2 : Nat → Prop}
end
theorem add_frame {wa wb wc wd we : World} {F F' : Nat → Prop} {p n : Nat} {B' : Bok} {v : Value} {cs : List Value} {T : TypeId} {k : Nat} (k1 : Kept wa wb) (hB : Bk wc F' p B') (hS : Sl wc T k v n cs) (hO : ∀ b, v.ownBlock = some b → wb.heap.size ≤ b ∧ ¬ F' b) (hG : Grow wb F F') (hk : Keep F wb wc) (k2 : Kept wc wd) (hk3 : Keep (· = wc.heap.size) wd we) :
  Keep F wa we ∧ Bk we F' p B' ∧ Sl we T k v n cs ∧ (∀ b, v.ownBlock = some b → wa.heap.size ≤ b ∧ ¬ F' b ∧ b < wc.heap.size) ∧ Grow wa F F' ∧ (∀ b, F' b → b < wc.heap.size) ∧ wa.heap.size ≤ wc.heap.size := by
 have z1 := k1.size
 have z2 := hk.size
 have K : Keep (· = wc.heap.size) wc we := Keep.any k2 hk3
 refine ⟨(Keep.any k1 hk).new K (by omega), hB.keep K (fun b hb e => ?_), hS.keep K (fun b hb e => ?_), fun b hb => ⟨?_, (hO b hb).2, hS.lt hb⟩, hG.wide z1, hB.lt, by omega⟩
 ·have := hB.lt b hb; omega
 ·have := hS.lt hb; omega
 ·have := (hO b hb).1; omega
end Go.Proofs.Ytfpfpmhkkgfdbaa
