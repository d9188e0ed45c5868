/-
 Laws and contracts that the walks rest on, part 4. No condition.
-/
import Derived.Test.YtfpfpmhkkgfdbaaQR03
set_option linter.unusedVariables false
namespace Go.Proofs.Ytfpfpmhkkgfdbaa
open Go.RowKit
set_option maxRecDepth 100000
theorem restM_at {o : Ord} {R : List Lev} : ∀ {A : List Lev}, (∀ x ∈ A, bet o.side x.1 o.price = true) → restM o (A ++ R) = A ++ restM o R
 | [], _ => rfl
 | a :: A, hA => by
  rw [List.cons_append, restM, if_pos (hA a (by simp)), restM_at (fun x hx => hA x (by simp [hx]))]
  rfl
def Kn.newl (base : Nat) (pr : Int) : Kn := ⟨fun v w => ∃ q F, v = .pointer (some ⟨q, 0, none⟩) ∧ Lvl pr 110 112 w F q [] ∧ ∀ b, F b → base ≤ b, fun _ _ _ ⟨q, F, h1, h2, h3⟩ hk => ⟨q, F, h1, h2.kept hk, h3⟩⟩
def Kn.onel (base : Nat) (pr : Int) : Kn := ⟨fun v w => ∃ g q F, v = .slice (some ⟨g, 0, none⟩) 1 1 ∧ Blk w g 97 [.pointer (some ⟨q, 0, none⟩)] ∧ Lvl pr 110 112 w F q [] ∧ (∀ b, F b → base ≤ b) ∧ base ≤ g ∧ ¬ F g, fun _ _ _ ⟨g, q, F, h1, h2, h3, h4⟩ hk => ⟨g, q, F, h1, h2.kept hk, h3.kept hk, h4⟩⟩
theorem Kn.safe_newl {S : Nat → Prop} {base : Nat} {pr : Int} (h : ∀ b, base ≤ b → ¬ S b) : (Kn.newl base pr).safe S := fun _ _ _ ⟨q, F, h1, h2, h3⟩ hk => ⟨q, F, h1, h2.keep hk (fun b hb => h b (h3 b hb)), h3⟩
theorem Kn.safe_onel {S : Nat → Prop} {base : Nat} {pr : Int} (h : ∀ b, base ≤ b → ¬ S b) : (Kn.onel base pr).safe S := fun _ _ _ ⟨g, q, F, h1, h2, h3, h4, h5, h6⟩ hk => ⟨g, q, F, h1, h2.keep hk (h g h5), h3.keep hk (fun b hb => h b (h4 b hb)), h4, h5, h6⟩
def Kn.ins (base : Nat) (pr : Int) (v : Value) (n : Nat) (Z : Zs) (i : Nat) : Kn := ⟨fun v' w => ∃ q F, Sl w 97 1 v' (n + 1) (insP Z i q) ∧ Lvl pr 110 112 w F q [] ∧ (∀ b, F b → base ≤ b) ∧ ∀ b, v'.ownBlock = some b → (v.ownBlock = some b ∨ base ≤ b) ∧ ¬ F b, fun _ _ _ ⟨q, F, h1, h2, h3⟩ hk => ⟨q, F, h1.kept hk, h2.kept hk, h3⟩⟩
theorem ins_kn (u W : World) (v : Value) (n i : Nat) (Z : Zs) (g1 q : Nat) (pr : Int) (F : Nat → Prop) (hk : Kept W u) (hS : Sl W 97 1 v n (ptrs Z)) (hn : n ≤ 1000) (hi : i ≤ n) (h1 : Blk u g1 97 [.pointer (some ⟨q, 0, none⟩)]) (hl : Lvl pr 110 112 u F q []) (hf : ∀ b, F b → W.heap.size ≤ b) (hg : W.heap.size ≤ g1) (ho : ∀ b, v.ownBlock = some b → b < W.heap.size) :
  Calls Try.prog 92 #[v, .int .i64 (i : Int), .slice (some ⟨g1, 0, none⟩) 1 1] u fun e w' => ∃ v', e = .returned v' ∧ (Kn.ins W.heap.size pr v n Z i).p v' w' ∧ Keep (fun b => v.ownBlock = some b) u w' := by
 have hz := hk.size
 refine (linsert_any u v n i Z g1 q (hS.kept hk) hn hi h1 (fun b hb e => by have := ho b hb; omega)).mono ?_
 rintro r w' ⟨v', rfl, h2, h3, h4⟩
 refine ⟨v', rfl, ⟨q, F, h2, hl.keep h3 (fun b hb h => by have := ho b h; have := hf b hb; omega), hf, fun b hb => ⟨(h4 b hb).imp id (fun h => by omega), fun h => ?_⟩⟩, h3⟩
 rcases h4 b hb with h5 | h5
 ·have := ho b h5
  have := hf b h
  omega
 ·have := hl.2.1 b h
  omega
def AtIn (w : World) (Fs : Nat → Prop) (p : Nat) (s : Int) (u0 : Value) (last no : Int) (L : List Lev) (price : Int) (r : Ending) (w' : World) : Prop :=
 ∃ q X ZA ZR v' Fs' G', r = .returned (.pointer (some ⟨q, 0, none⟩)) ∧ WayZ 110 112 97 w' Fs' v' (ZA ++ (q, price, X) :: ZR) G' ∧ Blk w' p 75 (sideCs s v' u0 last no) ∧ Grow w Fs Fs' ∧ Keep (fun b => Fs b ∨ b = p) w w' ∧ X.length ≤ 64 ∧ ∀ o : Ord, o.side = s → o.price = price → restM o L = levs ZA ++ (price, X ++ [Ent.of o]) :: levs ZR
set_option maxRecDepth 100000 in
set_option maxHeartbeats 3200000 in
theorem at_any (w : World) (Fs : Nat → Prop) (p : Nat) (s price : Int) (v u0 : Value) (last no : Int) (Z : Zs) (G : Nat → Nat → Prop) (L : List Lev) (hs : s = 1 ∨ s = 2) (hW : WayZ 110 112 97 w Fs v Z G) (hB : Blk w p 75 (sideCs s v u0 last no)) (hFs : ∀ b, Fs b → b ≠ p) (eL : levs Z = L) (hL : LvsOk L) :
  Calls Try.prog 70 #[.pointer (some ⟨p, offS s, none⟩), .int .i64 price] w (AtIn w Fs p s u0 last no L price) := by
 have hn64 : Z.length ≤ 64 := by have := hL.len; rw [← eL, levs_len] at this; exact this
 have HV : Hid (w.cell? ⟨p, offS s + 1, none⟩ = some v) := by show _ = _; rw [hB.cell]; exact sideCs_get s _ _ _ _
 have HS : Hid (w.cell? ⟨p, offS s, none⟩ = some (.int .i64 s)) := by show _ = _; rw [hB.cell]; exact sideCs_side hs _ _ _ _
 have HB := Lib.hid hB
 have HW := Lib.hid hW
 have HL := Lib.hid hL
 have EL := Lib.hid eL
 obtain ⟨n, hn⟩ : ∃ n, Z.length = n := ⟨_, rfl⟩
 have HSL := Lib.hid hW.sl
 rw [hn] at HSL hn64
 have HN := Lib.hid hn
 have hpl := hB.lt
 have ho3 := offS_le s
 clear hB hW hL eL hn
 go_enter Try.func70, Try.ntmps70
 go_upto_region 1 with fail
 refine wp_text 1 [iE 0] rfl (by kernel_rfl) ?_ ?_
 ·refine sW 1 rfl (fun a u E D hk=>exec_assign _ _ rfl rfl) ?_
  exact fz
 intro gv w0 hV k0
 rw [dq 1 [5]]
 simp only [F7]
 rw [gQ hV 0 5 (.int .i64 0)]
 clear hV
 refine wpList_nil ?_
 go_wp2_with fail
 go_loopw [5] (fun x wr => ∃ (k : Nat), k ≤ n ∧ x = .int .i64 k ∧ Hid (∀ x ∈ L.take k, bet s x.1 price = true) ∧ Kept w wr) (fun x _ => n - (intOf x).toNat)
 case atStart => exact ⟨0, Nat.zero_le _, rfl, by intro x hx; simp at hx, k0⟩
 case round =>
  obtain ⟨i, hi, rfl, HM, hkr⟩ := hrel
  have HVr := Lib.hid (hkr.cell HV.out)
  have HSr := Lib.hid (hkr.cell HS.out)
  by_cases hlt : i < n
  ·skip
   obtain ⟨gs, os, c, rfl⟩ := HSL.out.some_ (by omega)
   obtain ⟨z, hz⟩ : ∃ z, Z[i]? = some z := ⟨Z[i]'(by rw [HN.out]; omega), List.getElem?_eq_getElem (by rw [HN.out]; omega)⟩
   obtain ⟨q, pr, X⟩ := z
   have HC := Lib.hid ((HW.out.kept hkr).cell hz)
   have HZ := Lib.hid (split_at hz)
   have HLV := Lib.hid ((HW.out.kept hkr).lv (q, pr, X) (List.mem_of_getElem? hz))
   have HX := Lib.hid (HL.out.one (l := (pr, X)) (by rw [← EL.out]; exact levs_mem (List.mem_of_getElem? hz)))
   have HA : Hid (L[i]? = some (pr, X)) := by show _ = _; rw [← EL.out]; exact levs_at hz
   clear hz
   go_upto_region 2 with fail
   refine wp_free 22 [iE (i : Int), pE p (offS s), pE p (offS s), pE p (offS s + 1), .eq (.slice (some ⟨gs, os, none⟩) n c), iE (n : Int), bE true, bE true, pE p (offS s), pE p (offS s), pE p (offS s), iE s, pE p (offS s), pE p (offS s), pE p (offS s + 1), .eq (.slice (some ⟨gs, os, none⟩) n c), iE (i : Int), pE gs (os + i * 1), pE q 0, iE pr, iE price, bE (bet s pr price)] (by kernel_rfl) rfl (by kernel_rfl) ?_ ?_
   ·refine mE 1 5 ?_
    refine mE 2 0 ?_
    refine nD 3 7 1 ?_
    refine fD 4 8 2 73 1 1 (offS s) ?_
    refine sW 5 rfl (fun a u E D hk=>exec_ldv _ _ Try.underlying71 _ _ _ rfl (dD D 3) (Kept.cell hk (HVr.out))) ?_
    refine sW 6 rfl (fun a u E D hk=>exec_len _ _ _ slQ.und (some ⟨gs, os, none⟩) n c rfl (dD D 4)) ?_
    refine aS 7 rfl (fun a u E D hk=>exec_ltn rfl (dD D 0) (dD D 5)) (decide_eq_true (by omega)) ?_
    refine mD 8 12 6 ?_
    refine mE 9 0 ?_
    refine nD 10 14 8 ?_
    refine fD 11 15 9 73 0 0 (offS s) ?_
    refine sW 12 rfl (fun a u E D hk=>exec_loadi _ Try.underlying3 _ _ _ rfl (dD D 10) (Kept.cell hk (HSr.out))) ?_
    refine mE 13 0 ?_
    refine nD 14 18 12 ?_
    refine fD 15 19 13 73 1 1 (offS s) ?_
    refine sW 16 rfl (fun a u E D hk=>exec_ldv _ _ Try.underlying71 _ _ _ rfl (dD D 14) (Kept.cell hk (HVr.out))) ?_
    refine mE 17 5 ?_
    refine sW 18 rfl (fun a u E D hk=>exec_ixo slQ _ _ (gs) (os) n c i (os + i * 1) ((i : Int)) rfl (dD D 15) (dD D 16) (by first | rfl | omega) (hlt) (by first | rfl | omega)) ?_
    refine sW 19 rfl (fun a u E D hk=>exec_ldp _ _ Try.underlying97 _ _ _ rfl (dD D 17) (Kept.cell hk (HC.out))) ?_
    refine cS 20 68 [.pointer (some ⟨q, 0, none⟩)] rfl Try.func68 rfl (fun a u E D hk=>⟨ll (dD D 18) rfl, price_any u _ q X (HLV.out.kept hk)⟩) ?_
    refine mE 21 1 ?_
    refine cS 22 36 [.int .i64 s, .int .i64 pr, .int .i64 price] rfl Try.func36 rfl (fun a u E D hk=>⟨ll (dD D 11) (ll (dD D 19) (ll (dD D 20) rfl)), better_any s pr price u⟩) ?_
    exact fz
   intro gv w1 hV k1
   rw [dq 22 [6,7,8,9,10,11,12,13,14,15,16,17,18,19,20,21,22,23,24,25,26,27]]
   simp only [F7]
   rw [gQ hV 7 13 (.bool true)]
   rw [gQ hV 21 27 (.bool (bet s pr price))]
   clear hV
   refine l_val (.bool (bet s pr price)) rfl (exec_pick (.tmp 13) (.tmp 27) (.const (.bool false)) (.bool (bet s pr price)) rfl (by kernel_rfl) (by kernel_rfl)) ?_
   simp only [Act.put, sA, sS, sZ]
   refine wpList_nil ?_
   have kw1 := hkr.trans k1
   have HC1 := Lib.hid (k1.cell HC.out)
   have HLV1 := Lib.hid (HLV.out.kept k1)
   have HV1 := Lib.hid (kw1.cell HV.out)
   have HSL1 := Lib.hid (HSL.out.kept kw1)
   clear HC HLV HVr HSr k1
   cases hb : bet s pr price with
   | true =>
    have HM1 : Hid (∀ x ∈ L.take (i + 1), bet s x.1 price = true) := by
     intro x hx
     rw [List.take_add_one, HA.out] at hx
     rcases List.mem_append.1 hx with hx | hx
     ·exact HM.out x hx
     ·simp at hx
      subst hx
      exact hb
    clear HM hb
    go_wp2
    exact ⟨⟨i + 1, by omega, by go_num, HM1, kw1⟩, by simp [intOf]; omega⟩
   | false =>
    have HD : Hid (L = levs (Z.take i) ++ (pr, X) :: levs (Z.drop (i + 1))) := by
     show _ = _
     rw [← EL.out]
     conv => lhs; rw [HZ.out]
     rw [levs_append, levs_cons]
    have HT : Hid (∀ x ∈ levs (Z.take i), bet s x.1 price = true) := by
     have e2 : L.take i = levs (Z.take i) := by rw [← EL.out]; simp [levs, List.map_take]
     rw [e2] at HM
     exact HM.out
    have HBF := Lib.hid hb
    clear hb HM
    by_cases hpr : pr = price
    ·have HPR := Lib.hid hpr
     clear hpr
     go_upto_region 4 with fail
     refine wp_text 19 [iE (i : Int), pE p (offS s), pE p (offS s), pE p (offS s + 1), .eq (.slice (some ⟨gs, os, none⟩) n c), iE (n : Int), bE false, bE false, pE p (offS s), pE p (offS s), pE p (offS s + 1), .eq (.slice (some ⟨gs, os, none⟩) n c), iE (i : Int), pE gs (os + i * 1), pE q 0, iE pr, iE price, bE false, bE false] rfl (by kernel_rfl) ?_ ?_
     ·refine mE 1 5 ?_
      refine mE 2 0 ?_
      refine nD 3 32 1 ?_
      refine fD 4 33 2 73 1 1 (offS s) ?_
      refine sW 5 rfl (fun a u E D hk=>exec_ldv _ _ Try.underlying71 _ _ _ rfl (dD D 3) (Kept.cell hk (HV1.out))) ?_
      refine sW 6 rfl (fun a u E D hk=>exec_lenS _ slQ _ _ _ _ rfl (dD D 4) HSL1.out) ?_
      refine aS 7 rfl (fun a u E D hk=>exec_eqn rfl (dD D 0) (dD D 5)) (decide_eq_false (by omega)) ?_
      refine mD 8 37 6 ?_
      refine mE 9 0 ?_
      refine nD 10 39 8 ?_
      refine fD 11 40 9 73 1 1 (offS s) ?_
      refine sW 12 rfl (fun a u E D hk=>exec_ldv _ _ Try.underlying71 _ _ _ rfl (dD D 10) (Kept.cell hk (HV1.out))) ?_
      refine mE 13 5 ?_
      refine sW 14 rfl (fun a u E D hk=>exec_ixo slQ _ _ (gs) (os) n c i (os + i * 1) ((i : Int)) rfl (dD D 11) (dD D 12) (by first | rfl | omega) (hlt) (by first | rfl | omega)) ?_
      refine sW 15 rfl (fun a u E D hk=>exec_ldp _ _ Try.underlying97 _ _ _ rfl (dD D 13) (Kept.cell hk (HC1.out))) ?_
      refine cS 16 68 [.pointer (some ⟨q, 0, none⟩)] rfl Try.func68 rfl (fun a u E D hk=>⟨ll (dD D 14) rfl, price_any u _ q X (HLV1.out.kept hk)⟩) ?_
      refine mE 17 1 ?_
      refine aS 18 rfl (fun a u E D hk=>exec_nen rfl (dD D 15) (dD D 16)) (decide_eq_false (by have := HPR.out; omega)) ?_
      refine sW 19 rfl (fun a u E D hk=>exec_pickF _ _ _ _ rfl (dD D 7) (dD D 17)) ?_
      exact fz
     intro gv w2 hV kw2
     rw [dq 19 [31,32,33,34,35,36,37,38,39,40,41,42,43,44,45,46,47,48,49]]
     simp only [F7]
     rw [gQ hV 18 49 (.bool false)]
     clear hV
     refine wpList_nil ?_
     have kw2 := kw1.trans kw2
     have HV2 := Lib.hid (kw2.cell HV.out)
     have HC2 := Lib.hid ((HW.out.kept kw2).cell (z := (q, pr, X)) (i := i) (by rw [HZ.out, List.getElem?_append_right (by rw [List.length_take]; omega), List.length_take, HN.out, Nat.min_eq_left (by omega), Nat.sub_self]; rfl))
     clear HV1 HC1 HLV1 HSL1
     go_upto_region 6 with fail
     refine wp_text 8 [pE p (offS s), pE p (offS s), pE p (offS s + 1), .eq (.slice (some ⟨gs, os, none⟩) n c), iE (i : Int), pE gs (os + i * 1), pE q 0, pE q 0] rfl (by kernel_rfl) ?_ ?_
     ·refine mE 1 0 ?_
      refine nD 2 62 0 ?_
      refine fD 3 63 1 73 1 1 (offS s) ?_
      refine sW 4 rfl (fun a u E D hk=>exec_ldv _ _ Try.underlying71 _ _ _ rfl (dD D 2) (Kept.cell hk (HV2.out))) ?_
      refine mE 5 5 ?_
      refine sW 6 rfl (fun a u E D hk=>exec_ixo slQ _ _ (gs) (os) n c i (os + i * 1) ((i : Int)) rfl (dD D 3) (dD D 4) (by first | rfl | omega) (hlt) (by first | rfl | omega)) ?_
      refine sW 7 rfl (fun a u E D hk=>exec_ldp _ _ Try.underlying97 _ _ _ rfl (dD D 5) (Kept.cell hk (HC2.out))) ?_
      refine mD 8 68 6 ?_
      exact fz
     intro gv wz hV kz
     rw [dq 8 [62,63,64,65,66,67,68,4]]
     simp only [F7]
     rw [gQ hV 7 4 (.pointer (some ⟨q, 0, none⟩))]
     clear hV
     refine wpList_nil ?_
     have kwz := kw2.trans kz
     have HR : Hid (∀ o : Ord, o.side = s → o.price = price → restM o L = levs (Z.take i) ++ (price, X ++ [Ent.of o]) :: levs (Z.drop (i + 1))) := fun o h1 h2 => by
      rw [HD.out, restM_at (by rw [h1, h2]; exact HT.out), restM, h1, h2, if_neg (by rw [HBF.out]; simp), if_pos HPR.out, HPR.out]
     have HWz : Hid (WayZ 110 112 97 wz Fs (.slice (some ⟨gs, os, none⟩) n c) (Z.take i ++ (q, price, X) :: Z.drop (i + 1)) G) := by show WayZ _ _ _ _ _ _ _ _; rw [← HPR.out, ← HZ.out]; exact HW.out.kept kwz
     have HBz := Lib.hid (HB.out.kept kwz)
     clear kz
     go_wp2
     go_ret
     exact ⟨q, X, Z.take i, Z.drop (i + 1), _, Fs, G, rfl, HWz.out, HBz.out, Grow.refl _ _, Keep.mono (T := fun b => Fs b ∨ b = p) kwz (fun _ _ h => h.elim), HX.out, HR.out⟩
    ·skip
     go_upto_region 4 with fail
     refine wp_text 19 [iE (i : Int), pE p (offS s), pE p (offS s), pE p (offS s + 1), .eq (.slice (some ⟨gs, os, none⟩) n c), iE (n : Int), bE false, bE false, pE p (offS s), pE p (offS s), pE p (offS s + 1), .eq (.slice (some ⟨gs, os, none⟩) n c), iE (i : Int), pE gs (os + i * 1), pE q 0, iE pr, iE price, bE true, bE true] rfl (by kernel_rfl) ?_ ?_
     ·refine mE 1 5 ?_
      refine mE 2 0 ?_
      refine nD 3 32 1 ?_
      refine fD 4 33 2 73 1 1 (offS s) ?_
      refine sW 5 rfl (fun a u E D hk=>exec_ldv _ _ Try.underlying71 _ _ _ rfl (dD D 3) (Kept.cell hk (HV1.out))) ?_
      refine sW 6 rfl (fun a u E D hk=>exec_lenS _ slQ _ _ _ _ rfl (dD D 4) HSL1.out) ?_
      refine aS 7 rfl (fun a u E D hk=>exec_eqn rfl (dD D 0) (dD D 5)) (decide_eq_false (by omega)) ?_
      refine mD 8 37 6 ?_
      refine mE 9 0 ?_
      refine nD 10 39 8 ?_
      refine fD 11 40 9 73 1 1 (offS s) ?_
      refine sW 12 rfl (fun a u E D hk=>exec_ldv _ _ Try.underlying71 _ _ _ rfl (dD D 10) (Kept.cell hk (HV1.out))) ?_
      refine mE 13 5 ?_
      refine sW 14 rfl (fun a u E D hk=>exec_ixo slQ _ _ (gs) (os) n c i (os + i * 1) ((i : Int)) rfl (dD D 11) (dD D 12) (by first | rfl | omega) (hlt) (by first | rfl | omega)) ?_
      refine sW 15 rfl (fun a u E D hk=>exec_ldp _ _ Try.underlying97 _ _ _ rfl (dD D 13) (Kept.cell hk (HC1.out))) ?_
      refine cS 16 68 [.pointer (some ⟨q, 0, none⟩)] rfl Try.func68 rfl (fun a u E D hk=>⟨ll (dD D 14) rfl, price_any u _ q X (HLV1.out.kept hk)⟩) ?_
      refine mE 17 1 ?_
      refine aS 18 rfl (fun a u E D hk=>exec_nen rfl (dD D 15) (dD D 16)) (decide_eq_true hpr) ?_
      refine sW 19 rfl (fun a u E D hk=>exec_pickF _ _ _ _ rfl (dD D 7) (dD D 17)) ?_
      exact fz
     intro gv w2 hV kw2
     rw [dq 19 [31,32,33,34,35,36,37,38,39,40,41,42,43,44,45,46,47,48,49]]
     simp only [F7]
     rw [gQ hV 18 49 (.bool true)]
     clear hV
     refine wpList_nil ?_
     have kW := kw1.trans kw2
     have HRM : ∀ o : Ord, o.side = s → o.price = price → restM o L = levs (Z.take i) ++ (price, [] ++ [Ent.of o]) :: levs (Z.drop i) := fun o h1 h2 => by
      have e5 : levs (Z.drop i) = (pr, X) :: levs (Z.drop (i + 1)) := by
       have : Z.drop i = (q, pr, X) :: Z.drop (i + 1) := by
        conv => lhs; rw [HZ.out]
        rw [List.drop_append, List.drop_of_length_le (by rw [List.length_take]; omega), List.nil_append, List.length_take, HN.out, Nat.min_eq_left (by omega), Nat.sub_self]
        rfl
       rw [this]
       rfl
      rw [e5, HD.out, restM_at (by rw [h1, h2]; exact HT.out), restM, h1, h2, if_neg (by rw [HBF.out]; simp), if_neg (fun h => hpr h)]
      rfl
     clear HV1 HC1 HLV1 HSL1
     have HWW := Lib.hid (HW.out.kept kW)
     have HBW := Lib.hid (HB.out.kept kW)
     have HVW := Lib.hid (kW.cell HV.out)
     have zW := kW.size
     have hSo : ∀ b, ((.slice (some ⟨gs, os, none⟩) n c) : Value).ownBlock = some b → b < w2.heap.size := fun b hb => HWW.out.sl.lt hb
     have HSo := Lib.hid hSo
     clear hSo
     go_upto_region 5 with fail
     refine wp_freeV 12 9 [0, 1, 2, 3, 4, 5, 6, 7, 8] [.eq (.pointer (some ⟨p, offS s, none⟩)), .eq (.pointer (some ⟨p, offS s, none⟩)), .eq (.pointer (some ⟨p, offS s, none⟩)), .eq (.pointer (some ⟨p, offS s + 1, none⟩)), .eq (.slice (some ⟨gs, os, none⟩) n c), .eq (.int .i64 (i : Int)), .eq (.int .i64 price), .newl w2.heap.size price, .onel w2.heap.size price, .ins w2.heap.size price (.slice (some ⟨gs, os, none⟩) n c) n Z i, .eq (.pointer (some ⟨p, offS s, none⟩)), .eq (.pointer (some ⟨p, offS s + 1, none⟩))] ((fun b => ((.slice (some ⟨gs, os, none⟩) n c) : Value).ownBlock = some b)) (by kernel_rfl) rfl (by omega) (by kernel_rfl) (by kernel_rfl) ?_ ?_ (fun a u hE hD hk => v_call (o := ⟨some 59, _, _, _, _, _⟩) 92 #[.slice (some ⟨gs, os, none⟩) n c, .int .i64 (i : Int), a.eval (.tmp 58)] rfl (wanted_none rfl _) (exec_call 92 _ [.tmp 54, .tmp 55, .tmp 58] _ [.slice (some ⟨gs, os, none⟩) n c, .int .i64 (i : Int), a.eval (.tmp 58)] Try.func92 (by kernel_rfl) (by kernel_rfl) rfl (show [a.eval (.tmp 54), a.eval (.tmp 55), a.eval (.tmp 58)] = [.slice (some ⟨gs, os, none⟩) n c, .int .i64 (i : Int), a.eval (.tmp 58)] from (by rw [show a.eval (.tmp 54) = .slice (some ⟨gs, os, none⟩) n c from (dD hD 4), show a.eval (.tmp 55) = .int .i64 (i : Int) from (dD hD 5)] <;> rfl)) u) ((by obtain ⟨g1, q1, F1, hx, hb1, hl1, hf1, hg1, hn1⟩ := (hD 8 58 (by kernel_rfl)); rw [hx]; exact ins_kn u w2 (.slice (some ⟨gs, os, none⟩) n c) n i Z g1 q1 price F1 hk (by have h := HWW.out.sl; rw [HN.out] at h; exact h) (by omega) (by omega) hb1 hl1 hf1 hg1 HSo.out))) ?_
     ·intro i hi
      have hi2 : i = 0 ∨ i = 1 ∨ i = 2 ∨ i = 3 ∨ i = 4 ∨ i = 5 ∨ i = 6 ∨ i = 7 ∨ i = 8 := by simpa using hi
      rcases hi2 with rfl | rfl | rfl | rfl | rfl | rfl | rfl | rfl | rfl
      ·exact Kn.safe_eq _ _
      ·exact Kn.safe_eq _ _
      ·exact Kn.safe_eq _ _
      ·exact Kn.safe_eq _ _
      ·exact Kn.safe_eq _ _
      ·exact Kn.safe_eq _ _
      ·exact Kn.safe_eq _ _
      ·exact Kn.safe_newl (fun b hb h => by have := HSo.out b h; omega)
      ·exact Kn.safe_onel (fun b hb h => by have := HSo.out b h; omega)
     ·refine vsteps_cons 1 rfl (fun a u hE hD hk => f_val (o := ⟨some 50, _, _, _, _, _⟩) (.pointer (some ⟨p, offS s, none⟩)) rfl (wanted_none rfl _) (exec_move (.tmp 0) _ rfl (eE hE)) rfl) ?_
      refine vsteps_cons 2 rfl (fun a u hE hD hk => f_val _ rfl (wanted_none rfl _) (exec_move (.tmp 0) _ rfl (eE hE)) rfl) ?_
      refine vsteps_cons 3 rfl (fun a u hE hD hk => f_val _ rfl (wanted_none rfl _) (exec_nilp (.tmp 51) ⟨p, offS s, none⟩ rfl (dD hD 1)) rfl) ?_
      refine vsteps_cons 4 rfl (fun a u hE hD hk => f_val _ rfl (wanted_none rfl _) (exec_fldo 73 1 1 (.tmp 52) (p) (offS s) (offS s + 1) rfl (dD hD 2) (by kernel_rfl) rfl) rfl) ?_
      refine vsteps_cons 5 rfl (fun a u hE hD hk => f_val _ rfl (wanted_none rfl _) (exec_ldv 71 _ Try.underlying71 (.tmp 53) ⟨p, offS s + 1, none⟩ (.slice (some ⟨gs, os, none⟩) n c) rfl (dD hD 3) (Keep.cell hk (HVW.out) ((fun e => (hFs p (HWW.out.own p e).1) rfl)))) rfl) ?_
      refine vsteps_cons 6 rfl (fun a u hE hD hk => f_val _ rfl (wanted_none rfl _) (exec_move (.tmp 5) _ rfl (eE hE)) rfl) ?_
      refine vsteps_cons 7 rfl (fun a u hE hD hk => f_val _ rfl (wanted_none rfl _) (exec_move (.tmp 1) _ rfl (eE hE)) rfl) ?_
      refine vsteps_cons 8 rfl (fun a u hE hD hk => f_call 93 #[.int .i64 price] rfl (wanted_none rfl _) (exec_call 93 _ [.tmp 56] _ [.int .i64 price] Try.func93 (by kernel_rfl) (by kernel_rfl) rfl (show [a.eval (.tmp 56)] = [.int .i64 price] from (by rw [show a.eval (.tmp 56) = .int .i64 price from (dD hD 6)] <;> rfl)) u) ((lnew_any price u).mono (fun e w' ⟨q, F, h1, h2, h3, h4⟩ => ⟨_, h1, ⟨q, F, rfl, h2, fun b hb => (h3 b hb).elim (fun h => h.elim) (fun h => Nat.le_trans hk.size h)⟩, h4⟩))) ?_
      refine vsteps_cons 9 rfl (fun a u hE hD hk => (by obtain ⟨q, F, hx, h2, h3⟩ := (hD 7 57 (by kernel_rfl)); exact f_new (.slice (some ⟨u.heap.size, 0, none⟩) 1 1) _ rfl (wanted_none rfl _) (exec_oneP slQ (.tmp 57) q rfl hx) ⟨u.heap.size, q, F, rfl, Blk.new u _ _, h2.kept ((Keep.refl _ u).alloc _), h3, hk.size, fun h => by have := h2.2.1 _ h; omega⟩ ((Keep.refl _ u).alloc _))) ?_
      refine vsteps_turn 10 rfl rfl ?_
      refine vsteps_cons 11 rfl (fun a u hE hD hk => f_val _ rfl (wanted_none rfl _) (exec_nilp (.tmp 50) ⟨p, offS s, none⟩ rfl (dD hD 0)) rfl) ?_
      refine vsteps_cons 12 rfl (fun a u hE hD hk => f_val _ rfl (wanted_none rfl _) (exec_fldo 73 1 1 (.tmp 60) (p) (offS s) (offS s + 1) rfl (dD hD 10) (by kernel_rfl) rfl) rfl) ?_
      exact vsteps_nil
     intro gv wn hV ki
     rw [dq 12 [50,51,52,53,54,55,56,57,58,59,60,61]]
     simp only [F7]
     rw [show gv 61 = .pointer (some ⟨p, offS s + 1, none⟩) from hV 11 61 (by kernel_rfl)]
     have hv59 : (.ins w2.heap.size price (.slice (some ⟨gs, os, none⟩) n c) n Z i : Kn).p (gv 59) wn := hV 9 59 (by kernel_rfl)
     generalize gv 59 = v59 at hv59 ⊢
     clear hV
     obtain ⟨q1, F1, hSn, hl1, hf1, hon⟩ := hv59
     obtain ⟨vn, hvn⟩ : ∃ x, x = v59 := ⟨_, rfl⟩
     subst hvn
     refine l_st1 71 p (offS s + 1) 75 _ vn _ _ rfl rfl (by kernel_rfl) (by kernel_rfl) (by kernel_rfl) (sl_cells hSn) (sl_onec hSn) (HBW.out.keep ki (fun e => (hFs p (HWW.out.own p e).1) rfl)) (by rw [sideCs_len]; omega) ?_
     intro ws hBs hks hss
     simp only [Act.put]
     refine wpList_nil ?_
     rw [sideCs_set] at hBs
     have hZ : Z = Z.take i ++ Z.drop i := (List.take_append_drop i Z).symm
     have hAl : (Z.take i).length = i := by rw [List.length_take, HN.out]; omega
     have hins : insP Z i q1 = ptrs (Z.take i ++ (q1, price, ([] : List Ent)) :: Z.drop i) := by
      unfold insP
      rw [ptrs_append]
      simp [ptrs, List.map_take, List.map_drop]
     have hWi : WayZ 110 112 97 w2 Fs (.slice (some ⟨gs, os, none⟩) n c) (Z.take i ++ Z.drop i) G := by rw [← hZ]; exact HWW.out
     obtain ⟨Fs', G', hW', hG', hk', _⟩ := hWi.more (w' := wn) (v' := vn) (q := q1) (pr := price) (F1 := F1) ki
      (by rw [← hins, hAl, List.length_drop, HN.out, show i + 1 + (n - i) = n + 1 by omega]; exact hSn) hon hl1 hf1
     have hGw : Grow w Fs Fs' := hG'.wide zW
     have hpF : ¬ Fs' p := fun h => (hGw p h).elim (fun h => hFs p h rfl) (fun h => by omega)
     have hW6 := hW'.keep hks (fun b hb e => hpF (by rw [← e]; exact hb))
     have K6 : Keep (fun b => Fs b ∨ b = p) w ws := ((Keep.mono (T := fun b => Fs b ∨ b = p) kW (fun _ _ h => h.elim)).trans hk' (fun b _ h => .inl h)).trans hks (fun b _ h => .inr h)
     have HW6 := Lib.hid hW6
     have HB6 := Lib.hid hBs
     have hzi : (Z.take i ++ (q1, price, ([] : List Ent)) :: Z.drop i)[i]? = some (q1, price, []) := by
      rw [List.getElem?_append_right (by omega), hAl, Nat.sub_self]
      rfl
     have hlen6 : (Z.take i ++ (q1, price, ([] : List Ent)) :: Z.drop i).length = n + 1 := by
      rw [List.length_append, List.length_cons, hAl, List.length_drop, HN.out]
      omega
     obtain ⟨gs2, os2, c2, rfl⟩ := hW6.some_ (by rw [hlen6]; omega)
     rw [hlen6] at HW6 HB6 ⊢
     have HV6 : Hid (ws.cell? ⟨p, offS s + 1, none⟩ = some (.slice (some ⟨gs2, os2, none⟩) (n + 1) c2)) := by show _ = _; rw [HB6.out.cell]; exact sideCs_get s _ _ _ _
     have HC6 := Lib.hid (HW6.out.cell hzi)
     clear hBs hW' hW6 hk' hks hss hSn hon hl1 hWi hG' hins HWW HBW HVW ki HSo
     obtain ⟨m, hm⟩ : ∃ m, n + 1 = m := ⟨_, rfl⟩
     have him : i < m := by omega
     rw [hm] at HW6 HB6 HV6 hlen6 ⊢
     go_upto_region 6 with fail
     refine wp_text 8 [pE p (offS s), pE p (offS s), pE p (offS s + 1), .eq (.slice (some ⟨gs2, os2, none⟩) m c2), iE (i : Int), pE gs2 (os2 + i * 1), pE q1 0, pE q1 0] rfl (by kernel_rfl) ?_ ?_
     ·refine mE 1 0 ?_
      refine nD 2 62 0 ?_
      refine fD 3 63 1 73 1 1 (offS s) ?_
      refine sW 4 rfl (fun a u E D hk=>exec_ldv _ _ Try.underlying71 _ _ _ rfl (dD D 2) (Kept.cell hk (HV6.out))) ?_
      refine mE 5 5 ?_
      refine sW 6 rfl (fun a u E D hk=>exec_ixo slQ _ _ (gs2) (os2) m c2 i (os2 + i * 1) ((i : Int)) rfl (dD D 3) (dD D 4) (by first | rfl | omega) (him) (by first | rfl | omega)) ?_
      refine sW 7 rfl (fun a u E D hk=>exec_ldp _ _ Try.underlying97 _ _ _ rfl (dD D 5) (Kept.cell hk (HC6.out))) ?_
      refine mD 8 68 6 ?_
      exact fz
     intro gv wz hV kz
     rw [dq 8 [62,63,64,65,66,67,68,4]]
     simp only [F7]
     rw [gQ hV 7 4 (.pointer (some ⟨q1, 0, none⟩))]
     clear hV
     refine wpList_nil ?_
     have HR := Lib.hid (HRM)
     go_wp2
     go_ret
     exact ⟨q1, [], Z.take i, Z.drop i, _, Fs', G', rfl, HW6.out.kept kz, HB6.out.kept kz, hGw, K6.kept kz, by simp, HR.out⟩
  ·have hin : i = n := by omega
   subst hin
   have HT : Hid (∀ x ∈ levs (Z.take i), bet s x.1 price = true) := by
    have e2 : L.take i = levs (Z.take i) := by rw [← EL.out]; simp [levs, List.map_take]
    rw [e2] at HM
    exact HM.out
   clear HM
   have HSLr := Lib.hid (HSL.out.kept hkr)
   go_upto_region 2 with fail
   refine wp_free 22 [iE (i : Int), pE p (offS s), pE p (offS s), pE p (offS s + 1), .eq (v), iE (i : Int), bE false, bE false, uE, uE, uE, uE, uE, uE, uE, uE, uE, uE, uE, uE, uE, uE] (by kernel_rfl) rfl (by kernel_rfl) ?_ ?_
   ·refine mE 1 5 ?_
    refine mE 2 0 ?_
    refine nD 3 7 1 ?_
    refine fD 4 8 2 73 1 1 (offS s) ?_
    refine sW 5 rfl (fun a u E D hk=>exec_ldv _ _ Try.underlying71 _ _ _ rfl (dD D 3) (Kept.cell hk (HVr.out))) ?_
    refine sW 6 rfl (fun a u E D hk=>exec_lenS _ slQ _ _ _ _ rfl (dD D 4) HSLr.out) ?_
    refine aS 7 rfl (fun a u E D hk=>exec_ltn rfl (dD D 0) (dD D 5)) (decide_eq_false (by omega)) ?_
    refine mD 8 12 6 ?_
    refine kS 9 7 ?_
    refine kS 10 7 ?_
    refine kS 11 7 ?_
    refine kS 12 7 ?_
    refine kS 13 7 ?_
    refine kS 14 7 ?_
    refine kS 15 7 ?_
    refine kS 16 7 ?_
    refine kS 17 7 ?_
    refine kS 18 7 ?_
    refine kS 19 7 ?_
    refine kS 20 7 ?_
    refine kS 21 7 ?_
    refine kS 22 7 ?_
    exact fz
   intro gv w1 hV k1
   rw [dq 22 [6,7,8,9,10,11,12,13,14,15,16,17,18,19,20,21,22,23,24,25,26,27]]
   simp only [F7]
   rw [gQ hV 7 13 (.bool false)]
   rw [gQ hV 21 27 undef]
   clear hV
   refine l_val (.bool false) rfl (exec_pickF (.tmp 13) (.tmp 27) (.const (.bool false)) (.bool false) rfl (by kernel_rfl) rfl) ?_
   simp only [Act.put, sA, sS, sZ]
   refine wpList_nil ?_
   have kw1 := hkr.trans k1
   have HV1 := Lib.hid (kw1.cell HV.out)
   have HSL1 := Lib.hid (HSL.out.kept kw1)
   clear HVr HSr k1 HSLr
   go_upto_region 4 with fail
   refine wp_text 19 [iE (i : Int), pE p (offS s), pE p (offS s), pE p (offS s + 1), .eq (v), iE (i : Int), bE true, bE true, uE, uE, uE, uE, uE, uE, uE, uE, uE, uE, bE true] rfl (by kernel_rfl) ?_ ?_
   ·refine mE 1 5 ?_
    refine mE 2 0 ?_
    refine nD 3 32 1 ?_
    refine fD 4 33 2 73 1 1 (offS s) ?_
    refine sW 5 rfl (fun a u E D hk=>exec_ldv _ _ Try.underlying71 _ _ _ rfl (dD D 3) (Kept.cell hk (HV1.out))) ?_
    refine sW 6 rfl (fun a u E D hk=>exec_lenS _ slQ _ _ _ _ rfl (dD D 4) HSL1.out) ?_
    refine aS 7 rfl (fun a u E D hk=>exec_eqn rfl (dD D 0) (dD D 5)) (decide_eq_true (by omega)) ?_
    refine mD 8 37 6 ?_
    refine kS 9 7 ?_
    refine kS 10 7 ?_
    refine kS 11 7 ?_
    refine kS 12 7 ?_
    refine kS 13 7 ?_
    refine kS 14 7 ?_
    refine kS 15 7 ?_
    refine kS 16 7 ?_
    refine kS 17 7 ?_
    refine kS 18 7 ?_
    refine sW 19 rfl (fun a u E D hk=>exec_pick _ _ _ _ rfl (dD D 7) rfl) ?_
    exact fz
   intro gv w2 hV kw2
   rw [dq 19 [31,32,33,34,35,36,37,38,39,40,41,42,43,44,45,46,47,48,49]]
   simp only [F7]
   rw [gQ hV 18 49 (.bool true)]
   clear hV
   refine wpList_nil ?_
   have kW := kw1.trans kw2
   have HRM : ∀ o : Ord, o.side = s → o.price = price → restM o L = levs (Z.take i) ++ (price, [] ++ [Ent.of o]) :: levs (Z.drop i) := fun o h1 h2 => by
    have e5 : Z.drop i = [] := List.drop_of_length_le (by rw [HN.out]; omega)
    have e6 : L = levs (Z.take i) := by rw [← EL.out, List.take_of_length_le (by rw [HN.out]; omega)]
    rw [e5]
    have h3 := restM_at (o := o) (R := []) (A := L) (by rw [h1, h2, e6]; exact HT.out)
    rw [List.append_nil] at h3
    rw [h3, restM, h2, e6]
    rfl
   clear HV1 HSL1
   obtain ⟨n, hnn⟩ : ∃ n, n = i := ⟨_, rfl⟩
   have hn64 : n ≤ 64 := by omega
   have hin2 : i ≤ n := by omega
   have HN : Hid (Z.length = n) := by rw [hnn]; exact HN.out
   have HWW := Lib.hid (HW.out.kept kW)
   have HBW := Lib.hid (HB.out.kept kW)
   have HVW := Lib.hid (kW.cell HV.out)
   have zW := kW.size
   have hSo : ∀ b, (v : Value).ownBlock = some b → b < w2.heap.size := fun b hb => HWW.out.sl.lt hb
   have HSo := Lib.hid hSo
   clear hSo
   go_upto_region 5 with fail
   refine wp_freeV 12 9 [0, 1, 2, 3, 4, 5, 6, 7, 8] [.eq (.pointer (some ⟨p, offS s, none⟩)), .eq (.pointer (some ⟨p, offS s, none⟩)), .eq (.pointer (some ⟨p, offS s, none⟩)), .eq (.pointer (some ⟨p, offS s + 1, none⟩)), .eq (v), .eq (.int .i64 (i : Int)), .eq (.int .i64 price), .newl w2.heap.size price, .onel w2.heap.size price, .ins w2.heap.size price v n Z i, .eq (.pointer (some ⟨p, offS s, none⟩)), .eq (.pointer (some ⟨p, offS s + 1, none⟩))] ((fun b => (v : Value).ownBlock = some b)) (by kernel_rfl) rfl (by omega) (by kernel_rfl) (by kernel_rfl) ?_ ?_ (fun a u hE hD hk => v_call (o := ⟨some 59, _, _, _, _, _⟩) 92 #[v, .int .i64 (i : Int), a.eval (.tmp 58)] rfl (wanted_none rfl _) (exec_call 92 _ [.tmp 54, .tmp 55, .tmp 58] _ [v, .int .i64 (i : Int), a.eval (.tmp 58)] Try.func92 (by kernel_rfl) (by kernel_rfl) rfl (show [a.eval (.tmp 54), a.eval (.tmp 55), a.eval (.tmp 58)] = [v, .int .i64 (i : Int), a.eval (.tmp 58)] from (by rw [show a.eval (.tmp 54) = v from (dD hD 4), show a.eval (.tmp 55) = .int .i64 (i : Int) from (dD hD 5)] <;> rfl)) u) ((by obtain ⟨g1, q1, F1, hx, hb1, hl1, hf1, hg1, hn1⟩ := (hD 8 58 (by kernel_rfl)); rw [hx]; exact ins_kn u w2 v n i Z g1 q1 price F1 hk (by have h := HWW.out.sl; rw [HN.out] at h; exact h) (by omega) (by omega) hb1 hl1 hf1 hg1 HSo.out))) ?_
   ·intro i hi
    have hi2 : i = 0 ∨ i = 1 ∨ i = 2 ∨ i = 3 ∨ i = 4 ∨ i = 5 ∨ i = 6 ∨ i = 7 ∨ i = 8 := by simpa using hi
    rcases hi2 with rfl | rfl | rfl | rfl | rfl | rfl | rfl | rfl | rfl
    ·exact Kn.safe_eq _ _
    ·exact Kn.safe_eq _ _
    ·exact Kn.safe_eq _ _
    ·exact Kn.safe_eq _ _
    ·exact Kn.safe_eq _ _
    ·exact Kn.safe_eq _ _
    ·exact Kn.safe_eq _ _
    ·exact Kn.safe_newl (fun b hb h => by have := HSo.out b h; omega)
    ·exact Kn.safe_onel (fun b hb h => by have := HSo.out b h; omega)
   ·refine vsteps_cons 1 rfl (fun a u hE hD hk => f_val (o := ⟨some 50, _, _, _, _, _⟩) (.pointer (some ⟨p, offS s, none⟩)) rfl (wanted_none rfl _) (exec_move (.tmp 0) _ rfl (eE hE)) rfl) ?_
    refine vsteps_cons 2 rfl (fun a u hE hD hk => f_val _ rfl (wanted_none rfl _) (exec_move (.tmp 0) _ rfl (eE hE)) rfl) ?_
    refine vsteps_cons 3 rfl (fun a u hE hD hk => f_val _ rfl (wanted_none rfl _) (exec_nilp (.tmp 51) ⟨p, offS s, none⟩ rfl (dD hD 1)) rfl) ?_
    refine vsteps_cons 4 rfl (fun a u hE hD hk => f_val _ rfl (wanted_none rfl _) (exec_fldo 73 1 1 (.tmp 52) (p) (offS s) (offS s + 1) rfl (dD hD 2) (by kernel_rfl) rfl) rfl) ?_
    refine vsteps_cons 5 rfl (fun a u hE hD hk => f_val _ rfl (wanted_none rfl _) (exec_ldv 71 _ Try.underlying71 (.tmp 53) ⟨p, offS s + 1, none⟩ (v) rfl (dD hD 3) (Keep.cell hk (HVW.out) ((fun e => (hFs p (HWW.out.own p e).1) rfl)))) rfl) ?_
    refine vsteps_cons 6 rfl (fun a u hE hD hk => f_val _ rfl (wanted_none rfl _) (exec_move (.tmp 5) _ rfl (eE hE)) rfl) ?_
    refine vsteps_cons 7 rfl (fun a u hE hD hk => f_val _ rfl (wanted_none rfl _) (exec_move (.tmp 1) _ rfl (eE hE)) rfl) ?_
    refine vsteps_cons 8 rfl (fun a u hE hD hk => f_call 93 #[.int .i64 price] rfl (wanted_none rfl _) (exec_call 93 _ [.tmp 56] _ [.int .i64 price] Try.func93 (by kernel_rfl) (by kernel_rfl) rfl (show [a.eval (.tmp 56)] = [.int .i64 price] from (by rw [show a.eval (.tmp 56) = .int .i64 price from (dD hD 6)] <;> rfl)) u) ((lnew_any price u).mono (fun e w' ⟨q, F, h1, h2, h3, h4⟩ => ⟨_, h1, ⟨q, F, rfl, h2, fun b hb => (h3 b hb).elim (fun h => h.elim) (fun h => Nat.le_trans hk.size h)⟩, h4⟩))) ?_
    refine vsteps_cons 9 rfl (fun a u hE hD hk => (by obtain ⟨q, F, hx, h2, h3⟩ := (hD 7 57 (by kernel_rfl)); exact f_new (.slice (some ⟨u.heap.size, 0, none⟩) 1 1) _ rfl (wanted_none rfl _) (exec_oneP slQ (.tmp 57) q rfl hx) ⟨u.heap.size, q, F, rfl, Blk.new u _ _, h2.kept ((Keep.refl _ u).alloc _), h3, hk.size, fun h => by have := h2.2.1 _ h; omega⟩ ((Keep.refl _ u).alloc _))) ?_
    refine vsteps_turn 10 rfl rfl ?_
    refine vsteps_cons 11 rfl (fun a u hE hD hk => f_val _ rfl (wanted_none rfl _) (exec_nilp (.tmp 50) ⟨p, offS s, none⟩ rfl (dD hD 0)) rfl) ?_
    refine vsteps_cons 12 rfl (fun a u hE hD hk => f_val _ rfl (wanted_none rfl _) (exec_fldo 73 1 1 (.tmp 60) (p) (offS s) (offS s + 1) rfl (dD hD 10) (by kernel_rfl) rfl) rfl) ?_
    exact vsteps_nil
   intro gv wn hV ki
   rw [dq 12 [50,51,52,53,54,55,56,57,58,59,60,61]]
   simp only [F7]
   rw [show gv 61 = .pointer (some ⟨p, offS s + 1, none⟩) from hV 11 61 (by kernel_rfl)]
   have hv59 : (.ins w2.heap.size price v n Z i : Kn).p (gv 59) wn := hV 9 59 (by kernel_rfl)
   generalize gv 59 = v59 at hv59 ⊢
   clear hV
   obtain ⟨q1, F1, hSn, hl1, hf1, hon⟩ := hv59
   obtain ⟨vn, hvn⟩ : ∃ x, x = v59 := ⟨_, rfl⟩
   subst hvn
   refine l_st1 71 p (offS s + 1) 75 _ vn _ _ rfl rfl (by kernel_rfl) (by kernel_rfl) (by kernel_rfl) (sl_cells hSn) (sl_onec hSn) (HBW.out.keep ki (fun e => (hFs p (HWW.out.own p e).1) rfl)) (by rw [sideCs_len]; omega) ?_
   intro ws hBs hks hss
   simp only [Act.put]
   refine wpList_nil ?_
   rw [sideCs_set] at hBs
   have hZ : Z = Z.take i ++ Z.drop i := (List.take_append_drop i Z).symm
   have hAl : (Z.take i).length = i := by rw [List.length_take, HN.out]; omega
   have hins : insP Z i q1 = ptrs (Z.take i ++ (q1, price, ([] : List Ent)) :: Z.drop i) := by
    unfold insP
    rw [ptrs_append]
    simp [ptrs, List.map_take, List.map_drop]
   have hWi : WayZ 110 112 97 w2 Fs v (Z.take i ++ Z.drop i) G := by rw [← hZ]; exact HWW.out
   obtain ⟨Fs', G', hW', hG', hk', _⟩ := hWi.more (w' := wn) (v' := vn) (q := q1) (pr := price) (F1 := F1) ki
    (by rw [← hins, hAl, List.length_drop, HN.out, show i + 1 + (n - i) = n + 1 by omega]; exact hSn) hon hl1 hf1
   have hGw : Grow w Fs Fs' := hG'.wide zW
   have hpF : ¬ Fs' p := fun h => (hGw p h).elim (fun h => hFs p h rfl) (fun h => by omega)
   have hW6 := hW'.keep hks (fun b hb e => hpF (by rw [← e]; exact hb))
   have K6 : Keep (fun b => Fs b ∨ b = p) w ws := ((Keep.mono (T := fun b => Fs b ∨ b = p) kW (fun _ _ h => h.elim)).trans hk' (fun b _ h => .inl h)).trans hks (fun b _ h => .inr h)
   have HW6 := Lib.hid hW6
   have HB6 := Lib.hid hBs
   have hzi : (Z.take i ++ (q1, price, ([] : List Ent)) :: Z.drop i)[i]? = some (q1, price, []) := by
    rw [List.getElem?_append_right (by omega), hAl, Nat.sub_self]
    rfl
   have hlen6 : (Z.take i ++ (q1, price, ([] : List Ent)) :: Z.drop i).length = n + 1 := by
    rw [List.length_append, List.length_cons, hAl, List.length_drop, HN.out]
    omega
   obtain ⟨gs2, os2, c2, rfl⟩ := hW6.some_ (by rw [hlen6]; omega)
   rw [hlen6] at HW6 HB6 ⊢
   have HV6 : Hid (ws.cell? ⟨p, offS s + 1, none⟩ = some (.slice (some ⟨gs2, os2, none⟩) (n + 1) c2)) := by show _ = _; rw [HB6.out.cell]; exact sideCs_get s _ _ _ _
   have HC6 := Lib.hid (HW6.out.cell hzi)
   clear hBs hW' hW6 hk' hks hss hSn hon hl1 hWi hG' hins HWW HBW HVW ki HSo
   obtain ⟨m, hm⟩ : ∃ m, n + 1 = m := ⟨_, rfl⟩
   have him : i < m := by omega
   rw [hm] at HW6 HB6 HV6 hlen6 ⊢
   go_upto_region 6 with fail
   refine wp_text 8 [pE p (offS s), pE p (offS s), pE p (offS s + 1), .eq (.slice (some ⟨gs2, os2, none⟩) m c2), iE (i : Int), pE gs2 (os2 + i * 1), pE q1 0, pE q1 0] rfl (by kernel_rfl) ?_ ?_
   ·refine mE 1 0 ?_
    refine nD 2 62 0 ?_
    refine fD 3 63 1 73 1 1 (offS s) ?_
    refine sW 4 rfl (fun a u E D hk=>exec_ldv _ _ Try.underlying71 _ _ _ rfl (dD D 2) (Kept.cell hk (HV6.out))) ?_
    refine mE 5 5 ?_
    refine sW 6 rfl (fun a u E D hk=>exec_ixo slQ _ _ (gs2) (os2) m c2 i (os2 + i * 1) ((i : Int)) rfl (dD D 3) (dD D 4) (by first | rfl | omega) (him) (by first | rfl | omega)) ?_
    refine sW 7 rfl (fun a u E D hk=>exec_ldp _ _ Try.underlying97 _ _ _ rfl (dD D 5) (Kept.cell hk (HC6.out))) ?_
    refine mD 8 68 6 ?_
    exact fz
   intro gv wz hV kz
   rw [dq 8 [62,63,64,65,66,67,68,4]]
   simp only [F7]
   rw [gQ hV 7 4 (.pointer (some ⟨q1, 0, none⟩))]
   clear hV
   refine wpList_nil ?_
   have HR := Lib.hid (HRM)
   go_wp2
   go_ret
   exact ⟨q1, [], Z.take i, Z.drop i, _, Fs', G', rfl, HW6.out.kept kz, HB6.out.kept kz, hGw, K6.kept kz, by simp, HR.out⟩
set_option maxHeartbeats 800000 in
theorem of_eq (w : World) (p : Nat) (s : Int) (hs : s = 1 ∨ s = 2) : Gives 43 #[.pointer (some ⟨p, 0, none⟩), .int .i64 s] w (.eq (.pointer (some ⟨p, offS s, none⟩))) := by
 refine gives_eq ?_
 rcases hs with rfl | rfl
 ·have HR : Hid (offS 1 = 0) := rfl
  go_enter Try.func43, Try.ntmps43
  go_upto_region 1 with fail
  refine wp_text 1 [iE 1] rfl (by kernel_rfl) ?_ ?_
  ·refine mE 1 1 ?_
   exact fz
  intro gv w1 hV k1
  rw [dq 1 [5]]
  simp only [F7]
  rw [gQ hV 0 5 (.int .i64 1)]
  clear hV
  refine wpList_nil ?_
  go_upto_region 2 with fail
  refine wp_text 2 [bE true, bE true] rfl (by kernel_rfl) ?_ ?_
  ·refine aS 1 rfl (fun a u E D hk=>exec_eqn (p := 1) (q := 1) rfl (eE E) rfl) (decide_eq_true rfl) ?_
   refine mD 2 7 0 ?_
   exact fz
  intro gv w2 hV k2
  rw [dq 2 [7,6]]
  simp only [F7]
  rw [gQ hV 1 6 (.bool true)]
  clear hV
  refine wpList_nil ?_
  go_upto_region 3 with fail
  refine wp_text 4 [pE p 0, pE p 0, pE p 0, pE p 0] rfl (by kernel_rfl) ?_ ?_
  ·refine mE 1 0 ?_
   refine nD 2 8 0 ?_
   refine fD 3 9 1 75 0 0 0 ?_
   refine mD 4 10 2 ?_
   exact fz
  intro gv w3 hV k3
  rw [dq 4 [8,9,10,4]]
  simp only [F7]
  rw [gQ hV 3 4 (.pointer (some ⟨p, 0, none⟩))]
  clear hV
  refine wpList_nil ?_
  have kw := (k1.trans k2).trans k3
  clear k1 k2 k3
  go_wp2
  go_ret
  exact ⟨by rw [HR.out]; rfl, kw⟩
 ·have HR : Hid (offS 2 = 2) := rfl
  go_enter Try.func43, Try.ntmps43
  go_upto_region 1 with fail
  refine wp_text 1 [iE 2] rfl (by kernel_rfl) ?_ ?_
  ·refine mE 1 1 ?_
   exact fz
  intro gv w1 hV k1
  rw [dq 1 [5]]
  simp only [F7]
  rw [gQ hV 0 5 (.int .i64 2)]
  clear hV
  refine wpList_nil ?_
  go_upto_region 2 with fail
  refine wp_text 2 [bE false, bE false] rfl (by kernel_rfl) ?_ ?_
  ·refine aS 1 rfl (fun a u E D hk=>exec_eqn (p := 2) (q := 1) rfl (eE E) rfl) (decide_eq_false (by decide)) ?_
   refine mD 2 7 0 ?_
   exact fz
  intro gv w2 hV k2
  rw [dq 2 [7,6]]
  simp only [F7]
  rw [gQ hV 1 6 (.bool false)]
  clear hV
  refine wpList_nil ?_
  go_upto_region 4 with fail
  refine wp_text 2 [bE true, bE true] rfl (by kernel_rfl) ?_ ?_
  ·refine aS 1 rfl (fun a u E D hk=>exec_eqn (p := 2) (q := 2) rfl (eE E) rfl) (decide_eq_true rfl) ?_
   refine mD 2 12 0 ?_
   exact fz
  intro gv w3 hV k3
  rw [dq 2 [12,11]]
  simp only [F7]
  rw [gQ hV 1 11 (.bool true)]
  clear hV
  refine wpList_nil ?_
  go_upto_region 5 with fail
  refine wp_text 4 [pE p 0, pE p 0, pE p 2, pE p 2] rfl (by kernel_rfl) ?_ ?_
  ·refine mE 1 0 ?_
   refine nD 2 13 0 ?_
   refine fD 3 14 1 75 1 2 0 ?_
   refine mD 4 15 2 ?_
   exact fz
  intro gv w4 hV k4
  rw [dq 4 [13,14,15,4]]
  simp only [F7]
  rw [gQ hV 3 4 (.pointer (some ⟨p, 2, none⟩))]
  clear hV
  refine wpList_nil ?_
  have kw := ((k1.trans k2).trans k3).trans k4
  clear k1 k2 k3 k4
  go_wp2
  go_ret
  exact ⟨by rw [HR.out]; rfl, kw⟩
set_option maxHeartbeats 800000 in
theorem against_any (w : World) (p : Nat) (c : Ord) (hs : c.side = 1 ∨ c.side = 2) : Gives 63 #[.pointer (some ⟨p, 0, none⟩), c.v] w (.eq (.pointer (some ⟨p, offS (3 - c.side), none⟩))) := by
 refine gives_eq ?_
 go_enter Try.func63, Try.ntmps63
 go_upto_region 0 with fail
 refine wp_text 2 [.fresh w.heap.size 25 (c.cells), .eq (.pointer none)] rfl (by kernel_rfl) ?_ ?_
 ·refine nW 1 rfl (fun a u E D hk=>⟨_, _, exec_box 25 _ (c.cells) rfl (eE E), ⟨_, rfl, hk.size, Blk.new u _ _⟩, ((Keep.refl _ u).alloc _)⟩) ?_
  refine sW 2 rfl (fun a u E D hk=>exec_assign _ _ rfl rfl) ?_
  exact fz
 intro gv w1 hV k1
 rw [dq 2 [3,4]]
 simp only [F7]
 have hv3 : (.fresh w.heap.size 25 (c.cells) : Kn).p (gv 3) w1 := hV 0 3 (by kernel_rfl)
 generalize gv 3 = v3 at hv3 ⊢
 rw [gQ hV 1 4 (.pointer none)]
 clear hV
 obtain ⟨g, rfl, hg, hB⟩ := hv3
 refine wpList_nil ?_
 have HB := Lib.hid (blk_range hB)
 clear hB
 rcases hs with hs | hs
 ·skip
  have HR : Hid (offS (3 - c.side) = 2) := by show _ = _; rw [hs] <;> rfl
  go_upto_region 1 with fail
  refine wp_text 3 [pE g 3, iE c.side, bE true] rfl (by kernel_rfl) ?_ ?_
  ·refine fE 1 3 25 3 3 0 ?_
   refine sW 2 rfl (fun a u E D hk=>exec_loadi _ Try.underlying3 _ _ _ rfl (dD D 0) (range_int (range_kept HB.out hk) 3 _ rfl)) ?_
   refine aS 3 rfl (fun a u E D hk=>exec_eqn rfl (dD D 1) rfl) (decide_eq_true (by omega)) ?_
   exact fz
  intro gv w2 hV k2
  rw [dq 3 [5,6,7]]
  simp only [F7]
  rw [gQ hV 2 7 (.bool true)]
  clear hV
  refine wpList_nil ?_
  clear hs
  go_upto_region 2 with fail
  refine wp_text 4 [pE p 0, pE p 0, pE p 2, pE p 2] rfl (by kernel_rfl) ?_ ?_
  ·refine mE 1 0 ?_
   refine nD 2 8 0 ?_
   refine fD 3 9 1 75 1 2 0 ?_
   refine mD 4 10 2 ?_
   exact fz
  intro gv w3 hV k3
  rw [dq 4 [8,9,10,4]]
  simp only [F7]
  rw [gQ hV 3 4 (.pointer (some ⟨p, 2, none⟩))]
  clear hV
  refine wpList_nil ?_
  have kw := (k1.trans k2).trans k3
  clear k1 k2 k3
  go_wp2
  go_ret
  exact ⟨by rw [HR.out]; rfl, kw⟩
 ·skip
  have HR : Hid (offS (3 - c.side) = 0) := by show _ = _; rw [hs] <;> rfl
  go_upto_region 1 with fail
  refine wp_text 3 [pE g 3, iE c.side, bE false] rfl (by kernel_rfl) ?_ ?_
  ·refine fE 1 3 25 3 3 0 ?_
   refine sW 2 rfl (fun a u E D hk=>exec_loadi _ Try.underlying3 _ _ _ rfl (dD D 0) (range_int (range_kept HB.out hk) 3 _ rfl)) ?_
   refine aS 3 rfl (fun a u E D hk=>exec_eqn rfl (dD D 1) rfl) (decide_eq_false (by omega)) ?_
   exact fz
  intro gv w2 hV k2
  rw [dq 3 [5,6,7]]
  simp only [F7]
  rw [gQ hV 2 7 (.bool false)]
  clear hV
  refine wpList_nil ?_
  clear hs
  go_upto_region 3 with fail
  refine wp_text 4 [pE p 0, pE p 0, pE p 0, pE p 0] rfl (by kernel_rfl) ?_ ?_
  ·refine mE 1 0 ?_
   refine nD 2 11 0 ?_
   refine fD 3 12 1 75 0 0 0 ?_
   refine mD 4 13 2 ?_
   exact fz
  intro gv w3 hV k3
  rw [dq 4 [11,12,13,4]]
  simp only [F7]
  rw [gQ hV 3 4 (.pointer (some ⟨p, 0, none⟩))]
  clear hV
  refine wpList_nil ?_
  have kw := (k1.trans k2).trans k3
  clear k1 k2 k3
  go_wp2
  go_ret
  exact ⟨by rw [HR.out]; rfl, kw⟩
set_option maxHeartbeats 800000 in
theorem mayRest_any (w : World) (c : Ord) : Gives 41 #[c.v] w (.eq (.bool (decide (c.k = 1) || decide (c.k = 5)))) := by
 refine gives_eq ?_
 go_enter Try.func41, Try.ntmps41
 go_upto_region 0 with fail
 refine wp_text 2 [.fresh w.heap.size 25 (c.cells), bE false] rfl (by kernel_rfl) ?_ ?_
 ·refine nW 1 rfl (fun a u E D hk=>⟨_, _, exec_box 25 _ (c.cells) rfl (eE E), ⟨_, rfl, hk.size, Blk.new u _ _⟩, ((Keep.refl _ u).alloc _)⟩) ?_
  refine sW 2 rfl (fun a u E D hk=>exec_assign _ _ rfl rfl) ?_
  exact fz
 intro gv w1 hV k1
 rw [dq 2 [1,2]]
 simp only [F7]
 have hv1 : (.fresh w.heap.size 25 (c.cells) : Kn).p (gv 1) w1 := hV 0 1 (by kernel_rfl)
 generalize gv 1 = v1 at hv1 ⊢
 rw [gQ hV 1 2 (.bool false)]
 clear hV
 obtain ⟨g, rfl, hg, hB⟩ := hv1
 refine wpList_nil ?_
 have HB := Lib.hid (blk_range hB)
 clear hB
 go_upto_region 1 with fail
 refine wp_text 9 [pE g 4, iE c.k, bE (decide ((c.k : Int) = (1 : Int))), bE (decide ((c.k : Int) = (1 : Int))), .cond (!(decide ((c.k : Int) = (1 : Int)))) (pE g 4), .cond (!(decide ((c.k : Int) = (1 : Int)))) (iE c.k), .cond (!(decide ((c.k : Int) = (1 : Int)))) (bE (decide ((c.k : Int) = (5 : Int)))), bE ((decide ((c.k : Int) = (1 : Int))) || (decide ((c.k : Int) = (5 : Int)))), bE ((decide ((c.k : Int) = (1 : Int))) || (decide ((c.k : Int) = (5 : Int))))] rfl (by kernel_rfl) ?_ ?_
 ·refine fE 1 1 25 4 4 0 ?_
  refine sW 2 rfl (fun a u E D hk=>exec_loadi _ Try.underlying3 _ _ _ rfl (dD D 0) (range_int (range_kept HB.out hk) 4 _ rfl)) ?_
  refine sW 3 rfl (fun a u E D hk=>exec_eqn rfl (dD D 1) rfl) ?_
  refine mD 4 5 2 ?_
  refine uC 5 3 rfl (fun a u E D hk hb=>exec_fldo 25 4 4 _ (g) (0) (4) rfl (eE E) (by kernel_rfl) rfl) ?_
  refine uC 6 3 rfl (fun a u E D hk hb=>exec_loadi _ Try.underlying3 _ _ _ rfl ((D 4 7 (by kernel_rfl)).1 hb) (range_int (range_kept HB.out hk) 4 _ rfl)) ?_
  refine uC 7 3 rfl (fun a u E D hk hb=>exec_eqn rfl ((D 5 8 (by kernel_rfl)).1 hb) rfl) ?_
  refine sW 8 rfl (fun a u E D hk=>exec_pickor _ _ _ ((decide ((c.k : Int) = (1 : Int)))) ((decide ((c.k : Int) = (5 : Int)))) rfl (dD D 3) rfl (fun hb2 => ((D 6 9 (by kernel_rfl)).1 hb2))) ?_
  refine mD 9 10 7 ?_
  exact fz
 intro gv w2 hV k2
 rw [dq 9 [3,4,5,6,7,8,9,10,2]]
 simp only [F7]
 rw [gQ hV 8 2 (.bool ((decide ((c.k : Int) = (1 : Int))) || (decide ((c.k : Int) = (5 : Int)))))]
 clear hV
 refine wpList_nil ?_
 have kw := k1.trans k2
 clear k1 k2
 go_wp2
 go_ret
 exact ⟨rfl, kw⟩
def Kn.at_ (base : Nat) (Fs : Nat → Prop) (p : Nat) (s : Int) (u0 : Value) (last no : Int) (L : List Lev) (price : Int) : Kn := ⟨fun v w => ∃ q X ZA ZR v' Fs' G', v = .pointer (some ⟨q, 0, none⟩) ∧ WayZ 110 112 97 w Fs' v' (ZA ++ (q, price, X) :: ZR) G' ∧ Blk w p 75 (sideCs s v' u0 last no) ∧ (∀ b, Fs' b → Fs b ∨ base ≤ b) ∧ X.length ≤ 64 ∧ ∀ o : Ord, o.side = s → o.price = price → restM o L = levs ZA ++ (price, X ++ [Ent.of o]) :: levs ZR,
 fun _ _ _ ⟨q, X, ZA, ZR, v', Fs', G', h1, h2, h3, h4⟩ hk => ⟨q, X, ZA, ZR, v', Fs', G', h1, h2.kept hk, h3.kept hk, h4⟩⟩
theorem at_kn (u W : World) (Fs : Nat → Prop) (p : Nat) (s price : Int) (v u0 : Value) (last no : Int) (Z : Zs) (G : Nat → Nat → Prop) (L : List Lev) (hk : Kept W u) (hs : s = 1 ∨ s = 2) (hW : WayZ 110 112 97 W Fs v Z G) (hB : Blk W p 75 (sideCs s v u0 last no)) (hFs : ∀ b, Fs b → b ≠ p) (eL : levs Z = L) (hL : LvsOk L) :
  Calls Try.prog 70 #[.pointer (some ⟨p, offS s, none⟩), .int .i64 price] u fun e w' => ∃ v, e = .returned v ∧ (Kn.at_ W.heap.size Fs p s u0 last no L price).p v w' ∧ Keep (fun b => Fs b ∨ b = p) u w' := by
 refine (at_any u Fs p s price v u0 last no Z G L hs (hW.kept hk) (hB.kept hk) hFs eL hL).mono ?_
 rintro r w' ⟨q, X, ZA, ZR, v', Fs', G', h1, h2, h3, h4, h5, h6, h7⟩
 exact ⟨_, h1, ⟨q, X, ZA, ZR, v', Fs', G', rfl, h2, h3, fun b hb => (h4 b hb).imp id (fun h => Nat.le_trans hk.size h), h6, h7⟩, h5⟩
theorem cut_l (o : Ord) (n : Int) : (stc ((o.l.set 6 n).set 7 (mn o.shw n)) []) = (o.cut n).cells := rfl
set_option maxRecDepth 100000 in
set_option maxHeartbeats 1600000 in
theorem rest_any (w : World) (F : Nat → Prop) (p : Nat) (B : Bok) (o : Ord) (n : Int) (h : Bk w F p B) (hs : o.side = 1 ∨ o.side = 2) (hL : LvsOk (B.sd o.side)) :
  Calls Try.prog 42 #[.pointer (some ⟨p, 0, none⟩), o.v, .int .i64 n] w fun r w' => ∃ F', r = .returned (.tuple #[]) ∧ Bk w' F' p (B.to o.side (restM (o.cut n) (B.sd o.side)) B.last B.no) ∧ Grow w F F' ∧ Keep F w w' := by
 obtain ⟨L, hLe⟩ : ∃ L, B.sd o.side = L := ⟨_, rfl⟩
 rw [hLe] at hL ⊢
 have HLE := Lib.hid hLe
 have hFl := h.lt
 have HK := Lib.hid h
 have HL := Lib.hid hL
 have hpF := h.1
 clear h hL hLe
 go_enter Try.func42, Try.ntmps42
 go_upto_region 0 with fail
 refine wp_text 1 [.fresh w.heap.size 25 (o.cells)] rfl (by kernel_rfl) ?_ ?_
 ·refine nW 1 rfl (fun a u E D hk=>⟨_, _, exec_box 25 _ (o.cells) rfl (eE E), ⟨_, rfl, hk.size, Blk.new u _ _⟩, ((Keep.refl _ u).alloc _)⟩) ?_
  exact fz
 intro gv w0 hV k0
 rw [dq 1 [4]]
 simp only [F7]
 have hv4 : (.fresh w.heap.size 25 (o.cells) : Kn).p (gv 4) w0 := hV 0 4 (by kernel_rfl)
 generalize gv 4 = v4 at hv4 ⊢
 clear hV
 obtain ⟨g, rfl, hg, hB⟩ := hv4
 refine wpList_nil ?_
 have z0 := k0.size
 have lg := hB.lt
 go_upto_region 1 with fail
 refine wp_text 2 [iE n, pE g 6] rfl (by kernel_rfl) ?_ ?_
 ·refine mE 1 2 ?_
  refine fE 2 4 25 6 6 0 ?_
  exact fz
 intro gv w1 hV k1
 rw [dq 2 [6,7]]
 simp only [F7]
 rw [gQ hV 1 7 (.pointer (some ⟨g, 6, none⟩))]
 rw [gQ hV 0 6 (.int .i64 n)]
 clear hV
 refine l_setf g 6 25 o.l [] n _ _ rfl rfl (by kernel_rfl) (by kernel_rfl) (hB.kept k1) (by simp [Ord.l]) ?_
 intro w2 hB2 hk2 hs2
 simp only [Act.put]
 refine wpList_nil ?_
 have k02 : Kept w w2 := (k0.trans k1).trans' hk2 (by omega)
 have HB2 := Lib.hid (blk_range hB2)
 have z2 := k1.size
 go_upto_region 2 with fail
 refine wp_text 5 [pE g 7, iE o.shw, iE n, iE (mn (o.shw) (n)), pE g 7] rfl (by kernel_rfl) ?_ ?_
 ·refine fE 1 4 25 7 7 0 ?_
  refine sW 2 rfl (fun a u E D hk=>exec_loadi _ Try.underlying3 _ _ _ rfl (dD D 0) (by rw [(hB2.kept hk).cell]; rfl)) ?_
  refine mE 3 2 ?_
  refine sW 4 rfl (fun a u E D hk=>exec_min _ _ _ (o.shw) (n) (mn (o.shw) (n)) rfl (dD D 1) (dD D 2) rfl) ?_
  refine fE 5 4 25 7 7 0 ?_
  exact fz
 intro gv w3 hV k3
 rw [dq 5 [8,9,10,11,12]]
 simp only [F7]
 rw [gQ hV 4 12 (.pointer (some ⟨g, 7, none⟩))]
 rw [gQ hV 3 11 (.int .i64 (mn (o.shw) (n)))]
 clear hV
 refine l_setf g 7 25 (o.l.set 6 n) [] (mn o.shw n) _ _ rfl rfl (by kernel_rfl) (by kernel_rfl) (hB2.kept k3) (by simp [Ord.l]) ?_
 intro w4 hB4 hk4 hs4
 simp only [Act.put]
 refine wpList_nil ?_
 rw [cut_l] at hB4
 have k04 : Kept w w4 := (k02.trans k3).trans' hk4 (by omega)
 have HO := Lib.hid (blk_range hB4)
 have lg4 := hB4.lt
 clear hB hB2 hB4 hk2 hk4 hs2 hs4 k0 k1 k3 HB2 k02
 obtain ⟨c, hc⟩ : ∃ c, o.cut n = c := ⟨_, rfl⟩
 have hcs : c.side = o.side := by rw [← hc]; rfl
 have hcp : c.price = o.price := by rw [← hc]; rfl
 rw [hc] at HO
 obtain ⟨s, hse⟩ : ∃ s, o.side = s := ⟨_, rfl⟩
 have HSE : Hid (c.side = s) := by show _ = _; rw [hcs, hse]
 have HOS := Lib.hid hse
 have HCC := Lib.hid hc
 rw [hse] at hs HLE
 have HCP := Lib.hid hcp
 obtain ⟨v, u0, Z, G, Fs, eL, hW, hBk, hFs, hp, hlt, hJ⟩ := (HK.out.kept k04).open_ hs
 rw [HLE.out] at eL
 have HW := Lib.hid hW
 have HBk := Lib.hid hBk
 have EL := Lib.hid eL
 have HJ := Lib.hid hJ
 have hgS : ¬ (Fs g ∨ g = p) := fun h => by
  rcases h with h | h
  ·have := hFl g (hFs g h).1; omega
  ·have := hFl p hpF; omega
 have HFs := Lib.hid hFs
 clear hW hBk eL hJ hcs hcp hse hc hFs
 go_upto_region 3 with fail
 refine wp_freeV 8 6 [0, 1, 2, 3, 4, 5, 7] [.eq (.pointer (some ⟨p, 0, none⟩)), .eq (.pointer (some ⟨g, 3, none⟩)), .eq (.int .i64 c.side), .eq (.pointer (some ⟨p, offS s, none⟩)), .eq (.pointer (some ⟨g, 5, none⟩)), .eq (.int .i64 c.price), .at_ w4.heap.size Fs p s u0 B.last B.no L c.price, .eq (c.v)] ((fun b => Fs b ∨ b = p)) (by kernel_rfl) rfl (by omega) (by kernel_rfl) (by kernel_rfl) ?_ ?_ (fun a u hE hD hk => v_call (o := ⟨some 19, _, _, _, _, _⟩) 70 #[.pointer (some ⟨p, offS s, none⟩), .int .i64 c.price] rfl (wanted_none rfl _) (exec_call 70 _ [.tmp 16, .tmp 18] _ [.pointer (some ⟨p, offS s, none⟩), .int .i64 c.price] Try.func70 (by kernel_rfl) (by kernel_rfl) rfl (show [a.eval (.tmp 16), a.eval (.tmp 18)] = [.pointer (some ⟨p, offS s, none⟩), .int .i64 c.price] from (by rw [show a.eval (.tmp 16) = .pointer (some ⟨p, offS s, none⟩) from (dD hD 3), show a.eval (.tmp 18) = .int .i64 c.price from (dD hD 5)] <;> rfl)) u) (at_kn u w4 Fs p s c.price v u0 B.last B.no Z G L hk hs HW.out HBk.out (fun b hb => (HFs.out b hb).2) EL.out HL.out)) ?_
 ·intro i hi
  have hi2 : i = 0 ∨ i = 1 ∨ i = 2 ∨ i = 3 ∨ i = 4 ∨ i = 5 ∨ i = 7 := by simpa using hi
  rcases hi2 with rfl | rfl | rfl | rfl | rfl | rfl | rfl
  ·exact Kn.safe_eq _ _
  ·exact Kn.safe_eq _ _
  ·exact Kn.safe_eq _ _
  ·exact Kn.safe_eq _ _
  ·exact Kn.safe_eq _ _
  ·exact Kn.safe_eq _ _
  ·exact Kn.safe_eq _ _
 ·refine vsteps_cons 1 rfl (fun a u hE hD hk => f_val (o := ⟨some 13, _, _, _, _, _⟩) (.pointer (some ⟨p, 0, none⟩)) rfl (wanted_none rfl _) (exec_move (.tmp 0) _ rfl (eE hE)) rfl) ?_
  refine vsteps_cons 2 rfl (fun a u hE hD hk => f_val _ rfl (wanted_none rfl _) (exec_fldo 25 3 3 (.tmp 4) (g) (0) (3) rfl (eE hE) (by kernel_rfl) rfl) rfl) ?_
  refine vsteps_cons 3 rfl (fun a u hE hD hk => f_val _ rfl (wanted_none rfl _) (exec_loadi 3 Try.underlying3 (.tmp 14) ⟨g, 3, none⟩ (.int .i64 c.side) rfl (dD hD 1) (range_int (range_keep HO.out hk (hgS)) 3 _ rfl)) rfl) ?_
  refine vsteps_cons 4 rfl (fun a u hE hD hk => f_call 43 #[.pointer (some ⟨p, 0, none⟩), .int .i64 c.side] rfl (wanted_none rfl _) (exec_call 43 _ [.tmp 13, .tmp 15] _ [.pointer (some ⟨p, 0, none⟩), .int .i64 c.side] Try.func43 (by kernel_rfl) (by kernel_rfl) rfl (show [a.eval (.tmp 13), a.eval (.tmp 15)] = [.pointer (some ⟨p, 0, none⟩), .int .i64 c.side] from (by rw [show a.eval (.tmp 13) = .pointer (some ⟨p, 0, none⟩) from (dD hD 0), show a.eval (.tmp 15) = .int .i64 c.side from (dD hD 2)] <;> rfl)) u) ((by rw [HSE.out]; exact of_eq u p s hs))) ?_
  refine vsteps_cons 5 rfl (fun a u hE hD hk => f_val _ rfl (wanted_none rfl _) (exec_fldo 25 5 5 (.tmp 4) (g) (0) (5) rfl (eE hE) (by kernel_rfl) rfl) rfl) ?_
  refine vsteps_cons 6 rfl (fun a u hE hD hk => f_val _ rfl (wanted_none rfl _) (exec_loadi 3 Try.underlying3 (.tmp 17) ⟨g, 5, none⟩ (.int .i64 c.price) rfl (dD hD 4) (range_int (range_keep HO.out hk (hgS)) 5 _ rfl)) rfl) ?_
  refine vsteps_turn 7 rfl rfl ?_
  refine vsteps_cons 8 rfl (fun a u hE hD hk => f_val _ rfl (wanted_none rfl _) (exec_ldS 25 _ (.tmp 4) (g) (0) (c.cells) rfl (eE hE) (range_keep HO.out hk (hgS)) Try.underlying25 (by rw [c.len9]; exact ord_size)) rfl) ?_
  exact vsteps_nil
 intro gv w5 hV k5
 rw [dq 8 [13,14,15,16,17,18,19,20]]
 simp only [F7]
 have hv19 : (.at_ w4.heap.size Fs p s u0 B.last B.no L c.price : Kn).p (gv 19) w5 := hV 6 19 (by kernel_rfl)
 generalize gv 19 = v19 at hv19 ⊢
 rw [show gv 20 = c.v from hV 7 20 (by kernel_rfl)]
 clear hV
 obtain ⟨q, X, ZA, ZR, v', Fs', G', rfl, hW5, hB5, hG5, hX5, hM5⟩ := hv19
 have hq := hW5.lv (q, c.price, X) (by simp)
 have hqF := hW5.in_ (q, c.price, X) (by simp)
 refine l_call 71 #[.pointer (some ⟨q, 0, none⟩), c.v] rfl (exec_call 71 _ [.tmp 19, .tmp 20] _ _ Try.func71 (by kernel_rfl) (by kernel_rfl) rfl (by kernel_rfl) _) ?_
 refine (add_any w5 _ q X c hq (by omega)).mono ?_
 rintro r w6 ⟨F6, rfl, hl6, hg6, hk6⟩
 refine ⟨_, rfl, ?_⟩
 simp only [Act.put, sA, sS, sZ]
 refine wpList_nil ?_
 obtain ⟨Fs2, G2, hW6, hG6, hk6', _⟩ := hW5.turn hk6 hl6 hg6
 have z5 := k5.size
 have hpF5 : ¬ Fs' p := fun h => (hG5 p h).elim (fun h => (HFs.out p h).2 rfl) (fun h => by have := hFl p hpF; have := k04.size; omega)
 have hB6 := hB5.keep hk6' hpF5
 have K6 : Keep (fun b => Fs b ∨ b = p) w4 w6 := k5.trans hk6' (fun b hb h => (hG5 b h).elim .inl (fun h => by omega))
 have G6 : Grow w4 Fs Fs2 := fun b hb => (hG6 b hb).elim (fun h => hG5 b h) (fun h => .inr (by omega))
 obtain ⟨F', q1, q2, q3, _⟩ := HJ.out w6 _ _ _ _ _ K6 hB6 ⟨_, _, rfl, hW6⟩ G6
 have HR : Hid (Bk w6 F' p (B.to s (restM c L) B.last B.no)) := by
  show Bk _ _ _ _
  rw [hM5 c HSE.out rfl]
  rw [levs_append, levs_cons] at q1
  exact q1
 have Q2 : Grow w F F' := q2.wide k04.size
 have Q3 : Keep F w w6 := Keep.any k04 q3
 clear q1 hW6 hB6 K6 G6 hW5 hB5 hM5 hq hl6 hk6 hg6 hk6' hG6 q2 q3
 go_wp2
 go_end0
 rw [HCC.out, HOS.out]
 first | exact ⟨rfl, F', HR.out, Q2, Q3⟩ | exact ⟨F', rfl, HR.out, Q2, Q3⟩
theorem sl_ne {w : World} {T T' : TypeId} {k n q : Nat} {v : Value} {cs ds : List Value} (h : Sl w T k v n cs) (hb : Blk w q T' ds) (ht : T' ≠ T) : ∀ b, v.ownBlock = some b → b ≠ q := by
 intro b hv e
 obtain ⟨_, A, c, rfl, _, _, _, h4⟩ := h
 cases A with
 | none => simp [Value.ownBlock] at hv
 | some ad =>
  obtain ⟨g, off, cur, rfl, hB, _⟩ := h4 _ rfl
  simp [Value.ownBlock] at hv
  subst hv
  subst e
  unfold Blk at hB hb
  rw [hB] at hb
  injection hb with hb
  injection hb with _ hb _
  exact ht hb.symm
def Kn.oner (base : Nat) (pr : Int) : Kn := ⟨fun v w => ∃ g q, v = .slice (some ⟨g, 0, none⟩) 1 1 ∧ Blk w g 87 [.pointer (some ⟨q, 0, none⟩)] ∧ Blk w q 86 [.int .i64 pr, .slice none 0 0] ∧ base ≤ q ∧ base ≤ g, fun _ _ _ ⟨g, q, h1, h2, h3, h4⟩ hk => ⟨g, q, h1, h2.kept hk, h3.kept hk, h4⟩⟩
def OneIn (base : Nat) (pr : Int) (i : Nat) (A : List Value) : Value → World → World → Prop := fun v' u u' => ∃ q, base ≤ q ∧ Blk u' q 86 [.int .i64 pr, .slice none 0 0] ∧ Sl u' 87 1 v' (i + 1) (A ++ [.pointer (some ⟨q, 0, none⟩)]) ∧ (∀ b, v'.ownBlock = some b → base ≤ b) ∧ Keep (fun b => base ≤ b) u u'
def rlvCells (x : Int) : List Value := [.int .i64 x, .slice none 0 0]
theorem built_rl (x : Int) : Try.prog.built 86 [(0, .int .i64 x)] = some (rlvCells x).toArray := by kernel_rfl
theorem exec_brl {a : Act} {o : Oper} {u : World} (x : Operand) (p : Int) (hop : o.op = .build 86 #[(0, x)]) (hx : a.eval x = .int .i64 p) : (execOp a.eval o).run Try.prog u = .ok (.value (.agg (rlvCells p).toArray)) u :=
 exec_build _ [(0, x)] (rlvCells p) hop (by simp only [List.map_cons, List.map_nil, hx]; exact built_rl p)
theorem lvl_new {w : World} {q : Nat} {pr : Int} (h : Blk w q 86 [.int .i64 pr, .slice none 0 0]) : Lvl pr 86 95 w (· = q) q [] :=
 ⟨rfl, fun b e => by rw [e]; exact h.lt, _, h, Sl.nil _ _ _, fun b hb => by simp [Value.ownBlock] at hb⟩
theorem sl_one1 {w : World} {g : Nat} {T : TypeId} {x : Value} (h : Blk w g T [x]) : Sl w T 1 (.slice (some ⟨g, 0, none⟩) 1 1) 1 [x] :=
 ⟨rfl, _, 1, rfl, Nat.le_refl _, by unfold maxLen; omega, fun h => (by cases h), fun ad had => by injection had with had; subst had; exact ⟨g, 0, [x], rfl, h, by simp, by simp⟩⟩
theorem ptr_one (q : Nat) : ∀ u ∈ [Value.pointer (some ⟨q, 0, none⟩)], u.oneCell' = true := by intro u hu; simp at hu; subst hu; rfl
set_option maxRecDepth 100000 in
set_option maxHeartbeats 3200000 in
theorem rbrest_any (w : World) (F : Nat → Prop) (p : Nat) (B : Bok) (o : Ord) (h : RBk w F p B) (hs : o.side = 1 ∨ o.side = 2) (hL : LvsOk (B.sd o.side)) :
  Calls Try.prog 51 #[.pointer (some ⟨p, 0, none⟩), o.v] w fun r w' => ∃ F', r = .returned (.tuple #[]) ∧ RBk w' F' p (B.to o.side (restM o (B.sd o.side)) B.last B.no) ∧ Grow w F F' ∧ Keep F w w' := by
 obtain ⟨k, h12, hk⟩ : ∃ k : Nat, (k = 1 ∨ k = 2) ∧ o.side = (k : Int) := by
  rcases hs with hs | hs
  ·exact ⟨1, .inl rfl, hs⟩
  ·exact ⟨2, .inr rfl, hs⟩
 have hs12 : (k : Int) = 1 ∨ (k : Int) = 2 := by omega
 obtain ⟨L, hLe⟩ : ∃ L, B.sd o.side = L := ⟨_, rfl⟩
 rw [hLe] at hL ⊢
 have HLE : Hid (B.sd (k : Int) = L) := by show _ = _; rw [← hk]; exact hLe
 have HSD := Lib.hid hk
 have hFl := h.lt
 have HK := Lib.hid h
 have HL := Lib.hid hL
 have hpF := h.1
 clear h hL hLe hk hs
 go_enter Try.func51, Try.ntmps51
 go_upto_region 0 with fail
 refine wp_text 1 [.fresh w.heap.size 25 (o.cells)] rfl (by kernel_rfl) ?_ ?_
 ·refine nW 1 rfl (fun a u E D hk=>⟨_, _, exec_box 25 _ (o.cells) rfl (eE E), ⟨_, rfl, hk.size, Blk.new u _ _⟩, ((Keep.refl _ u).alloc _)⟩) ?_
  exact fz
 intro gv w0 hV k0
 rw [dq 1 [3]]
 simp only [F7]
 have hv3 : (.fresh w.heap.size 25 (o.cells) : Kn).p (gv 3) w0 := hV 0 3 (by kernel_rfl)
 generalize gv 3 = v3 at hv3 ⊢
 clear hV
 obtain ⟨g, rfl, hg, hB⟩ := hv3
 refine wpList_nil ?_
 have z0 := k0.size
 have lg := hB.lt
 have HO := Lib.hid (blk_range hB)
 have HOS : Hid (w0.cell? ⟨g, 3, none⟩ = some (.int .i64 (k : Int))) := by show _ = _; rw [hB.cell, ← HSD.out]; rfl
 obtain ⟨v, u0, Z, G, Fs, eL, hW, hBk, hFs, hp, hlt, hJ⟩ := (HK.out.kept k0).open_ hs12
 rw [HLE.out] at eL
 have hn64 : Z.length ≤ 64 := by have := HL.out.len; rw [← eL, levs_len] at this; exact this
 obtain ⟨n, hn⟩ : ∃ n, Z.length = n := ⟨_, rfl⟩
 rw [hn] at hn64
 have HN := Lib.hid hn
 have HV := Lib.hid (rsd_cell h12 hBk)
 have HW := Lib.hid hW
 have HBk := Lib.hid hBk
 have EL := Lib.hid eL
 have HJ := Lib.hid hJ
 have hgS : ¬ (Fs g ∨ g = p) := fun h => by
  rcases h with h | h
  ·have := hFl g (hFs g h).1; omega
  ·have := hFl p hpF; omega
 have HGS := Lib.hid hgS
 have hpl := hFl p hpF
 have hpFs : ¬ Fs p := fun h => (hFs p h).2 rfl
 have HFs := Lib.hid hFs
 have HPF := Lib.hid hpFs
 clear hW hBk eL hJ hFs hB hgS hn hlt hpFs
 go_upto_region 1 with fail
 refine wp_free 7 [pE p 0, pE g 3, iE (k : Int), pE p 0, pE p 0, pE p (0 + k * 1), .eq (v)] (by kernel_rfl) rfl (by kernel_rfl) ?_ ?_
 ·refine mE 1 0 ?_
  refine fE 2 3 25 3 3 0 ?_
  refine sW 3 rfl (fun a u E D hk=>exec_loadi _ Try.underlying3 _ _ _ rfl (dD D 1) (Kept.cell hk (HOS.out))) ?_
  refine nD 4 6 0 ?_
  refine fD 5 9 3 46 0 0 0 ?_
  refine sW 6 rfl (fun a u E D hk=>exec_elem 44 43 3 1 _ _ p 0 k rfl Try.underlying44 (by kernel_rfl) (dD D 4) (dD D 2) (by omega)) ?_
  refine sW 7 rfl (fun a u E D hk=>exec_ldv _ _ Try.underlying43 _ _ _ rfl (dD D 5) (Kept.cell hk (HV.out))) ?_
  exact fz
 intro gv w1 hV k1
 rw [dq 7 [6,7,8,9,10,11,12]]
 simp only [F7]
 rw [gQ hV 6 12 v]
 clear hV
 refine l_val (v) rfl (exec_assign _ _ rfl (by kernel_rfl)) ?_
 simp only [Act.put, sA, sS, sZ]
 refine wpList_nil ?_
 go_wp2_with fail
 go_loopw [5] (fun x wr => ∃ (i : Nat), i ≤ n ∧ x = .int .i64 (i : Int) ∧ Hid (∀ x ∈ L.take i, bet o.side x.1 o.price = true) ∧ Kept w0 wr) (fun x _ => n - (intOf x).toNat)
 case atStart => exact ⟨0, Nat.zero_le _, rfl, by intro x hx; simp at hx, k1⟩
 case round =>
  obtain ⟨i, hi, rfl, HM, hkr⟩ := hrel
  have HOr := Lib.hid (range_kept HO.out hkr)
  have HSLr : Hid (Sl wr 87 1 v n (ptrs Z)) := by show Sl _ _ _ _ _ _; have := (HW.out.kept hkr).sl; rw [HN.out] at this; exact this
  by_cases hlt : i < n
  ·obtain ⟨gs, os, c, rfl⟩ := HSLr.out.some_ (by omega)
   obtain ⟨z, hz⟩ : ∃ z, Z[i]? = some z := ⟨Z[i]'(by rw [HN.out]; omega), List.getElem?_eq_getElem (by rw [HN.out]; omega)⟩
   obtain ⟨q, pr, X⟩ := z
   have HC := Lib.hid ((HW.out.kept hkr).cell hz)
   have HZ := Lib.hid (split_at hz)
   have HPC : Hid (wr.cell? ⟨q, 0, none⟩ = some (.int .i64 pr)) := by
    show _ = _
    obtain ⟨_, _, x, hx, _⟩ := (HW.out.kept hkr).lv (q, pr, X) (List.mem_of_getElem? hz)
    rw [hx.cell]
    rfl
   have HX := Lib.hid (HL.out.one (l := (pr, X)) (by rw [← EL.out]; exact levs_mem (List.mem_of_getElem? hz)))
   have HA : Hid (L[i]? = some (pr, X)) := by show _ = _; rw [← EL.out]; exact levs_at hz
   clear hz
   go_upto_region 3 with fail
   refine wp_free 18 [iE (i : Int), .eq (.slice (some ⟨gs, os, none⟩) n c), iE (n : Int), bE true, bE true, pE g 3, iE o.side, .eq (.slice (some ⟨gs, os, none⟩) n c), iE (i : Int), pE gs (os + i * 1), pE q 0, pE q 0, pE q 0, iE pr, pE g 5, iE o.price, bE (bet o.side pr o.price), bE (bet o.side pr o.price)] (by kernel_rfl) rfl (by kernel_rfl) ?_ ?_
   ·refine mE 1 5 ?_
    refine mE 2 4 ?_
    refine sW 3 rfl (fun a u E D hk=>exec_lenS _ slQR _ _ _ _ rfl (dD D 1) HSLr.out) ?_
    refine aS 4 rfl (fun a u E D hk=>exec_ltn rfl (dD D 0) (dD D 2)) (decide_eq_true (by omega)) ?_
    refine mD 5 16 3 ?_
    refine fE 6 3 25 3 3 0 ?_
    refine sW 7 rfl (fun a u E D hk=>exec_loadi _ Try.underlying3 _ _ _ rfl (dD D 5) (range_int (range_kept HOr.out hk) 3 _ rfl)) ?_
    refine mE 8 4 ?_
    refine mE 9 5 ?_
    refine sW 10 rfl (fun a u E D hk=>exec_ixo slQR _ _ (gs) (os) n c i (os + i * 1) ((i : Int)) rfl (dD D 7) (dD D 8) (by first | rfl | omega) (hlt) (by first | rfl | omega)) ?_
    refine sW 11 rfl (fun a u E D hk=>exec_ldp _ _ Try.underlying87 _ _ _ rfl (dD D 9) (Kept.cell hk (HC.out))) ?_
    refine nD 12 23 10 ?_
    refine fD 13 24 11 86 0 0 0 ?_
    refine sW 14 rfl (fun a u E D hk=>exec_loadi _ Try.underlying3 _ _ _ rfl (dD D 12) (Kept.cell hk (HPC.out))) ?_
    refine fE 15 3 25 5 5 0 ?_
    refine sW 16 rfl (fun a u E D hk=>exec_loadi _ Try.underlying3 _ _ _ rfl (dD D 14) (range_int (range_kept HOr.out hk) 5 _ rfl)) ?_
    refine cS 17 75 [.int .i64 o.side, .int .i64 pr, .int .i64 o.price] rfl Try.func75 rfl (fun a u E D hk=>⟨ll (dD D 6) (ll (dD D 13) (ll (dD D 15) rfl)), refBetter_any o.side pr o.price u⟩) ?_
    refine sW 18 rfl (fun a u E D hk=>exec_pick _ _ _ _ rfl (dD D 4) (dD D 16)) ?_
    exact fz
   intro gv w2 hV k2
   rw [dq 18 [13,14,15,16,17,18,19,20,21,22,23,24,25,26,27,28,29,30]]
   simp only [F7]
   rw [gQ hV 17 30 (.bool (bet o.side pr o.price))]
   clear hV
   refine wpList_nil ?_
   have kw2 := hkr.trans k2
   have HO2 := Lib.hid (range_kept HOr.out k2)
   have HC2 := Lib.hid (k2.cell HC.out)
   have HPC2 := Lib.hid (k2.cell HPC.out)
   have HSL2 := Lib.hid (HSLr.out.kept k2)
   clear HC HPC HSLr HOr k2 hkr
   cases hb : bet o.side pr o.price with
   | true =>
    have HM1 : Hid (∀ x ∈ L.take (i + 1), bet o.side x.1 o.price = true) := by
     intro x hx
     rw [List.take_add_one, HA.out] at hx
     rcases List.mem_append.1 hx with hx | hx
     ·exact HM.out x hx
     ·simp at hx
      subst hx
      exact hb
    clear HM hb
    go_wp2
    exact ⟨⟨i + 1, by omega, by go_num, HM1, kw2⟩, by simp [intOf]; omega⟩
   | false =>
    have HD : Hid (L = levs (Z.take i) ++ (pr, X) :: levs (Z.drop (i + 1))) := by
     show _ = _
     rw [← EL.out]
     conv => lhs; rw [HZ.out]
     rw [levs_append, levs_cons]
    have HT : Hid (∀ x ∈ levs (Z.take i), bet o.side x.1 o.price = true) := by
     have e2 : L.take i = levs (Z.take i) := by rw [← EL.out]; simp [levs, List.map_take]
     rw [e2] at HM
     exact HM.out
    have HBF := Lib.hid hb
    clear hb HM
    by_cases hpr : pr = o.price
    ·have HPR := Lib.hid hpr
     clear hpr
     go_upto_region 5 with fail
     refine wp_free 16 [iE (i : Int), .eq (.slice (some ⟨gs, os, none⟩) n c), iE (n : Int), bE false, bE false, .eq (.slice (some ⟨gs, os, none⟩) n c), iE (i : Int), pE gs (os + i * 1), pE q 0, pE q 0, pE q 0, iE pr, pE g 5, iE o.price, bE false, bE false] (by kernel_rfl) rfl (by kernel_rfl) ?_ ?_
     ·refine mE 1 5 ?_
      refine mE 2 4 ?_
      refine sW 3 rfl (fun a u E D hk=>exec_lenS _ slQR _ _ _ _ rfl (dD D 1) HSL2.out) ?_
      refine aS 4 rfl (fun a u E D hk=>exec_eqn rfl (dD D 0) (dD D 2)) (decide_eq_false (by omega)) ?_
      refine mD 5 36 3 ?_
      refine mE 6 4 ?_
      refine mE 7 5 ?_
      refine sW 8 rfl (fun a u E D hk=>exec_ixo slQR _ _ (gs) (os) n c i (os + i * 1) ((i : Int)) rfl (dD D 5) (dD D 6) (by first | rfl | omega) (hlt) (by first | rfl | omega)) ?_
      refine sW 9 rfl (fun a u E D hk=>exec_ldp _ _ Try.underlying87 _ _ _ rfl (dD D 7) (Kept.cell hk (HC2.out))) ?_
      refine nD 10 41 8 ?_
      refine fD 11 42 9 86 0 0 0 ?_
      refine sW 12 rfl (fun a u E D hk=>exec_loadi _ Try.underlying3 _ _ _ rfl (dD D 10) (Kept.cell hk (HPC2.out))) ?_
      refine fE 13 3 25 5 5 0 ?_
      refine sW 14 rfl (fun a u E D hk=>exec_loadi _ Try.underlying3 _ _ _ rfl (dD D 12) (range_int (range_kept HO2.out hk) 5 _ rfl)) ?_
      refine aS 15 rfl (fun a u E D hk=>exec_nen rfl (dD D 11) (dD D 13)) (decide_eq_false (by have := HPR.out; omega)) ?_
      refine sW 16 rfl (fun a u E D hk=>exec_pickF _ _ _ _ rfl (dD D 4) (dD D 14)) ?_
      exact fz
     intro gv w3 hV k3
     rw [dq 16 [33,34,35,36,37,38,39,40,41,42,43,44,45,46,47,48]]
     simp only [F7]
     rw [gQ hV 15 48 (.bool false)]
     clear hV
     refine wpList_nil ?_
     have kw3 := kw2.trans k3
     have HRM : Hid (restM o L = levs (Z.take i) ++ (o.price, X ++ [Ent.of o]) :: levs (Z.drop (i + 1))) := by
      show _ = _
      rw [HD.out, restM_at HT.out, restM, if_neg (by rw [HBF.out]; simp), if_pos HPR.out, HPR.out]
     have HWX : Hid (WayZ 86 95 87 w3 Fs (.slice (some ⟨gs, os, none⟩) n c) (Z.take i ++ (q, o.price, X) :: Z.drop (i + 1)) G) := by show WayZ _ _ _ _ _ _ _ _; rw [← HPR.out, ← HZ.out]; exact HW.out.kept kw3
     have HCX := Lib.hid (k3.cell HC2.out)
     have HBX := Lib.hid (HBk.out.kept kw3)
     have HOX := Lib.hid (range_kept HO2.out k3)
     have gX : Grow w0 Fs Fs := Grow.refl _ _
     have kX : Keep (fun b => Fs b ∨ b = p) w0 w3 := Keep.mono (T := fun b => Fs b ∨ b = p) kw3 (fun _ _ h => h.elim)
     clear HO2 HC2 HPC2 HSL2 k3 kw2 kw3 HD HT HBF HA HZ
     have zX := kX.size
     go_upto_region 7 with fail
     refine wp_free 5 [.eq (.slice (some ⟨gs, os, none⟩) n c), iE (i : Int), pE gs (os + i * 1), pE q 0, .eq (o.v)] (by kernel_rfl) rfl (by kernel_rfl) ?_ ?_
     ·refine mE 1 4 ?_
      refine mE 2 5 ?_
      refine sW 3 rfl (fun a u E D hk=>exec_ixo slQR _ _ (gs) (os) n c i (os + i * 1) ((i : Int)) rfl (dD D 0) (dD D 1) (by first | rfl | omega) (hlt) (by first | rfl | omega)) ?_
      refine sW 4 rfl (fun a u E D hk=>exec_ldp _ _ Try.underlying87 _ _ _ rfl (dD D 2) (Kept.cell hk (HCX.out))) ?_
      refine sW 5 rfl (fun a u E D hk=>exec_ldS 25 _ _ (g) (0) (o.cells) rfl (eE E) (range_kept HOX.out hk) Try.underlying25 (by rw [o.len9]; exact ord_size)) ?_
      exact fz
     intro gv wa hV ka
     rw [dq 5 [64,65,66,67,68]]
     simp only [F7]
     rw [gQ hV 3 67 (.pointer (some ⟨q, 0, none⟩))]
     rw [gQ hV 4 68 o.v]
     clear hV
     have hWa := HWX.out.kept ka
     refine l_call 76 #[.pointer (some ⟨q, 0, none⟩), o.v] rfl (exec_call 76 _ [.tmp 67, .tmp 68] _ _ Try.func76 (by kernel_rfl) (by kernel_rfl) rfl (by kernel_rfl) _) ?_
     refine (radd_any wa _ q X o (hWa.lv (q, o.price, X) (by simp)) (by have := HX.out; simp only at this; omega)).mono ?_
     rintro r wb ⟨F6, rfl, hl6, hg6, hk6⟩
     refine ⟨_, rfl, ?_⟩
     simp only [Act.put, sA, sS, sZ]
     refine wpList_nil ?_
     obtain ⟨Fs2, G2, hWb, hGb, hkb, _⟩ := hWa.turn hk6 hl6 hg6
     have za := ka.size
     have zb := hkb.size
     have hpX : ¬ Fs p := fun h => (gX p h).elim HPF.out (fun h => by omega)
     have hgX2 : ¬ Fs g := fun h => (gX g h).elim (fun h => HGS.out (.inl h)) (fun h => by omega)
     have HBb := Lib.hid ((HBX.out.kept ka).keep hkb hpX)
     have HOb := Lib.hid (range_keep (range_kept HOX.out ka) hkb hgX2)
     have kb : Keep (fun b => Fs b ∨ b = p) w0 wb := (kX.kept ka).trans hkb (fun b hb h => (gX b h).elim .inl (fun h => by omega))
     have gb : Grow w0 Fs Fs2 := gX.trans hGb (by omega)
     have HWb := Lib.hid hWb
     have HOSb : Hid (wb.cell? ⟨g, 3, none⟩ = some (.int .i64 (k : Int))) := by show _ = _; rw [← HSD.out]; exact range_int HOb.out 3 _ rfl
     clear hWa hl6 hg6 hk6 hWb hGb hkb HWX HBX HOX HCX ka hpX
     go_upto_region 8 with fail
     refine wp_free 7 [pE p 0, pE g 3, iE (k : Int), .eq (.slice (some ⟨gs, os, none⟩) n c), pE p 0, pE p 0, pE p (0 + k * 1)] (by kernel_rfl) rfl (by kernel_rfl) ?_ ?_
     ·refine mE 1 0 ?_
      refine fE 2 3 25 3 3 0 ?_
      refine sW 3 rfl (fun a u E D hk=>exec_loadi _ Try.underlying3 _ _ _ rfl (dD D 1) (Kept.cell hk (HOSb.out))) ?_
      refine mE 4 4 ?_
      refine nD 5 70 0 ?_
      refine fD 6 74 4 46 0 0 0 ?_
      refine sW 7 rfl (fun a u E D hk=>exec_elem 44 43 3 1 _ _ p 0 k rfl Try.underlying44 (by kernel_rfl) (dD D 5) (dD D 2) (by omega)) ?_
      exact fz
     intro gv wc hV kc
     rw [dq 7 [70,71,72,73,74,75,76]]
     simp only [F7]
     rw [gQ hV 6 76 (.pointer (some ⟨p, 0 + k * 1, none⟩))]
     rw [gQ hV 3 73 (.slice (some ⟨gs, os, none⟩) n c)]
     clear hV
     refine l_st1 43 p (0 + k * 1) 46 _ (.slice (some ⟨gs, os, none⟩) n c) _ _ rfl rfl (by kernel_rfl) (by kernel_rfl) (by kernel_rfl) rfl rfl (HBb.out.kept kc) (by rw [rsd_len h12]; omega) ?_
     intro wd hBd hkd hsd
     simp only [Act.put]
     refine wpList_nil ?_
     rw [rsd_set h12] at hBd
     have hpb : ¬ Fs2 p := fun h => (gb p h).elim HPF.out (fun h => by omega)
     have hWd := (HWb.out.kept kc).keep hkd (fun b hb e => hpb (by have e2 : b = p := e; rw [← e2]; exact hb))
     have kd : Keep (fun b => Fs b ∨ b = p) w0 wd := (kb.kept kc).trans hkd (fun b _ e => .inr e)
     obtain ⟨F', q1, q2, q3, _⟩ := HJ.out wd _ _ _ _ _ kd hBd ⟨_, _, rfl, hWd⟩ gb
     have HR : Hid (RBk wd F' p (B.to o.side (restM o L) B.last B.no)) := by
      show RBk _ _ _ _
      rw [HRM.out, HSD.out]
      rw [levs_append, levs_cons] at q1
      exact q1
     have Q2 : Grow w F F' := q2.wide z0
     have Q3 : Keep F w wd := Keep.any k0 q3
     clear q1 q2 q3 hWd hBd hkd kd kc kb gb HWb HBb HOb HOSb hpb
     go_wp2
     go_end0
     first | exact ⟨rfl, F', HR.out, Q2, Q3⟩ | exact ⟨F', rfl, HR.out, Q2, Q3⟩
    ·go_upto_region 5 with fail
     refine wp_free 16 [iE (i : Int), .eq (.slice (some ⟨gs, os, none⟩) n c), iE (n : Int), bE false, bE false, .eq (.slice (some ⟨gs, os, none⟩) n c), iE (i : Int), pE gs (os + i * 1), pE q 0, pE q 0, pE q 0, iE pr, pE g 5, iE o.price, bE true, bE true] (by kernel_rfl) rfl (by kernel_rfl) ?_ ?_
     ·refine mE 1 5 ?_
      refine mE 2 4 ?_
      refine sW 3 rfl (fun a u E D hk=>exec_lenS _ slQR _ _ _ _ rfl (dD D 1) HSL2.out) ?_
      refine aS 4 rfl (fun a u E D hk=>exec_eqn rfl (dD D 0) (dD D 2)) (decide_eq_false (by omega)) ?_
      refine mD 5 36 3 ?_
      refine mE 6 4 ?_
      refine mE 7 5 ?_
      refine sW 8 rfl (fun a u E D hk=>exec_ixo slQR _ _ (gs) (os) n c i (os + i * 1) ((i : Int)) rfl (dD D 5) (dD D 6) (by first | rfl | omega) (hlt) (by first | rfl | omega)) ?_
      refine sW 9 rfl (fun a u E D hk=>exec_ldp _ _ Try.underlying87 _ _ _ rfl (dD D 7) (Kept.cell hk (HC2.out))) ?_
      refine nD 10 41 8 ?_
      refine fD 11 42 9 86 0 0 0 ?_
      refine sW 12 rfl (fun a u E D hk=>exec_loadi _ Try.underlying3 _ _ _ rfl (dD D 10) (Kept.cell hk (HPC2.out))) ?_
      refine fE 13 3 25 5 5 0 ?_
      refine sW 14 rfl (fun a u E D hk=>exec_loadi _ Try.underlying3 _ _ _ rfl (dD D 12) (range_int (range_kept HO2.out hk) 5 _ rfl)) ?_
      refine aS 15 rfl (fun a u E D hk=>exec_nen rfl (dD D 11) (dD D 13)) (decide_eq_true hpr) ?_
      refine sW 16 rfl (fun a u E D hk=>exec_pickF _ _ _ _ rfl (dD D 4) (dD D 14)) ?_
      exact fz
     intro gv w3 hV k3
     rw [dq 16 [33,34,35,36,37,38,39,40,41,42,43,44,45,46,47,48]]
     simp only [F7]
     rw [gQ hV 15 48 (.bool true)]
     clear hV
     refine wpList_nil ?_
     have kw3 := kw2.trans k3
     have HRM : Hid (restM o L = levs (Z.take i) ++ (o.price, [] ++ [Ent.of o]) :: levs (Z.drop i)) := by
      show _ = _
      have e5 : levs (Z.drop i) = (pr, X) :: levs (Z.drop (i + 1)) := by
       have : Z.drop i = (q, pr, X) :: Z.drop (i + 1) := by
        conv => lhs; rw [HZ.out]
        rw [List.drop_append, List.drop_of_length_le (by rw [List.length_take]; omega), List.nil_append, List.length_take, HN.out, Nat.min_eq_left (by omega), Nat.sub_self]
        rfl
       rw [this]
       rfl
      rw [e5, HD.out, restM_at HT.out, restM, if_neg (by rw [HBF.out]; simp), if_neg (fun h => hpr h)]
      rfl
     have HO3 := Lib.hid (range_kept HO2.out k3)
     clear HO2 HC2 HPC2 HSL2 k3 kw2 HD HT HBF HA HZ hpr HX
     have HWW := Lib.hid (HW.out.kept kw3)
     have HBW := Lib.hid (HBk.out.kept kw3)
     have HSW : Hid (Sl w3 87 1 (.slice (some ⟨gs, os, none⟩) n c) n (ptrs Z)) := by show Sl _ _ _ _ _ _; have := HWW.out.sl; rw [HN.out] at this; exact this
     have z3 := kw3.size
     obtain ⟨va, hva, hoa, hsa⟩ := slice_hS slQR _ n i (by omega) _ w3 HSW.out
     obtain ⟨vb, hvb, hob, hsb⟩ := slice_lS slQR _ n i (by omega) _ w3 HSW.out
     have HVA := Lib.hid hva
     have HVB := Lib.hid hvb
     have HSA : Hid (∀ u, Kept w3 u → Sl u 87 1 va i (ptrs (Z.take i))) := fun u hk => by
      have := hsa u _ (HSW.out.kept hk)
      rwa [ptrs_take] at this
     have HSB : Hid (∀ u, Kept w3 u → Sl u 87 1 vb (n - i) (ptrs (Z.drop i))) := fun u hk => by
      have := hsb u _ (HSW.out.kept hk)
      rwa [ptrs_drop] at this
     have lp3 : p < w3.heap.size := by omega
     have lg3 : g < w3.heap.size := by omega
     clear hva hoa hsa hvb hob hsb HSW
     go_upto_region 6 with fail
     refine wp_freeQ 14 10 (fun i_ : Nat => i_ == 11 || i_ == 12 || i_ == 13) [.emp w3.heap.size 87, .eq ((.slice (some ⟨gs, os, none⟩) n c)), .eq (.int .i64 (i : Int)), .eq (va), .sl w3.heap.size 87 1 i (ptrs (Z.take i)), .eq (.pointer (some ⟨g, 5, none⟩)), .eq (.int .i64 o.price), .eq (.agg (rlvCells o.price).toArray), .fresh w3.heap.size 86 (rlvCells o.price), .oner w3.heap.size o.price, .any, .eq ((.slice (some ⟨gs, os, none⟩) n c)), .eq (.int .i64 (i : Int)), .eq (vb)] (fun i_ : Nat => if i_ = 11 then (.slice (some ⟨gs, os, none⟩) n c) else if i_ = 12 then .int .i64 (i : Int) else if i_ = 13 then vb else undef) ((OneIn w3.heap.size o.price i (ptrs (Z.take i)))) (by kernel_rfl) rfl (fun i_ hi_ hs_ => by have h_ : i_ = 11 ∨ i_ = 12 ∨ i_ = 13 := (by simp at hs_; omega); rcases h_ with rfl | rfl | rfl <;> rfl) (by kernel_rfl) (by kernel_rfl) (by kernel_rfl) (fun i_ hi_ hs_ => by have h_ : i_ = 11 ∨ i_ = 12 ∨ i_ = 13 := (by simp at hs_; omega); rcases h_ with rfl | rfl | rfl; exact (fun a u hE hD => qs_val (o := ⟨some 60, _, _, _, _, _⟩) ((.slice (some ⟨gs, os, none⟩) n c)) rfl (wanted_none rfl _) (exec_move (.tmp 4) _ rfl (eE hE))); exact (fun a u hE hD => qs_val (o := ⟨some 61, _, _, _, _, _⟩) (.int .i64 (i : Int)) rfl (wanted_none rfl _) (exec_move (.tmp 5) _ rfl (eE hE))); exact (fun a u hE hD => qs_val (o := ⟨some 62, _, _, _, _, _⟩) (vb) rfl (wanted_none rfl _) (exec_slcL slQR (.tmp 60) (.tmp 61) _ vb _ rfl (dD hD 11) (dD hD 12) (HVB.out u)))) ?_ (fun a u hE hD hk =>  (by obtain ⟨g1, q, hx, hb1, hbq, hqg, hgg⟩ := (hD 9 58 (by kernel_rfl)); obtain ⟨v', u', hr, hs', hk', ho'⟩ := run_append_sl slQR _ u (a.eval (.tmp 53)) (a.eval (.tmp 58)) i 1 _ _ ((hD 4 53 (by kernel_rfl))).1 (by rw [hx]; exact sl_one1 hb1) (ptr_one _) (by unfold maxLen; omega) (by omega); have hq := ((hD 4 53 (by kernel_rfl))).2; refine t_last (o := ⟨some 59, _, _, _, _, _⟩) (R := (OneIn w3.heap.size o.price i (ptrs (Z.take i)))) (m := 10) (v := v') (w' := u') rfl (wanted_none rfl _) (exec_appS slQR (.tmp 53) (.tmp 58) _ _ rfl rfl rfl v' u' hr) ?_; exact ⟨q, hqg, hbq.keep hk' (fun h => sl_ne ((hD 4 53 (by kernel_rfl))).1 hbq (by decide) q h rfl), hs', fun b hb => (ho' b hb).elim (hq b) (fun h => Nat.le_trans hk.size h), hk'.mono (fun b _ hb => hq b hb)⟩)) ?_
     ·refine qsteps_cons 1 rfl (fun a u hE hD hk => f_new (o := ⟨some 49, _, _, _, _, _⟩) (.slice (some ⟨u.heap.size, 0, none⟩) 0 0) _ rfl (wanted_none rfl _) (exec_none 43 87 1 rfl slQR.und (by kernel_rfl)) ⟨_, rfl, hk.size, Blk.new u _ _⟩ ((Keep.refl _ u).alloc _)) ?_
      refine qsteps_cons 2 rfl (fun a u hE hD hk => f_val _ rfl (wanted_none rfl _) (exec_move (.tmp 4) _ rfl (eE hE)) rfl) ?_
      refine qsteps_cons 3 rfl (fun a u hE hD hk => f_val _ rfl (wanted_none rfl _) (exec_move (.tmp 5) _ rfl (eE hE)) rfl) ?_
      refine qsteps_cons 4 rfl (fun a u hE hD hk => f_val _ rfl (wanted_none rfl _) (exec_slcH slQR (.tmp 50) (.tmp 51) _ va _ rfl (dD hD 1) (dD hD 2) (HVA.out u)) rfl) ?_
      refine qsteps_cons 5 rfl (fun a u hE hD hk => (by obtain ⟨v', u', hr, hp, hkk⟩ := run_append_emp slQR _ u (a.eval (.tmp 49)) va i w3.heap.size _ ((dD hD 0)) (HSA.out u hk) (ptrs_one _) (by omega) (by omega) hk.size; exact f_new v' u' rfl (wanted_none rfl _) (exec_appS slQR (.tmp 49) (.tmp 52) _ va rfl rfl (dD hD 3) v' u' hr) hp hkk)) ?_
      refine qsteps_cons 6 rfl (fun a u hE hD hk => f_val _ rfl (wanted_none rfl _) (exec_fldo 25 5 5 (.tmp 3) (g) (0) (5) rfl (eE hE) (by kernel_rfl) rfl) rfl) ?_
      refine qsteps_cons 7 rfl (fun a u hE hD hk => f_val _ rfl (wanted_none rfl _) (exec_loadi 3 Try.underlying3 (.tmp 54) ⟨g, 5, none⟩ (.int .i64 o.price) rfl (dD hD 5) (range_int (range_kept HO3.out hk) 5 _ rfl)) rfl) ?_
      refine qsteps_cons 8 rfl (fun a u hE hD hk => f_val _ rfl (wanted_none rfl _) (exec_brl (.tmp 55) o.price rfl (dD hD 6)) rfl) ?_
      refine qsteps_cons 9 rfl (fun a u hE hD hk => f_new (.pointer (some ⟨u.heap.size, 0, none⟩)) _ rfl (wanted_none rfl _) (exec_box 86 (.tmp 56) (rlvCells o.price) rfl (dD hD 7)) ⟨_, rfl, hk.size, Blk.new u _ _⟩ ((Keep.refl _ u).alloc _)) ?_
      refine qsteps_cons 10 rfl (fun a u hE hD hk => (by obtain ⟨q, hx, h2, h3⟩ := (hD 8 57 (by kernel_rfl)); exact f_new (.slice (some ⟨u.heap.size, 0, none⟩) 1 1) _ rfl (wanted_none rfl _) (exec_oneP slQR (.tmp 57) q rfl hx) ⟨u.heap.size, q, rfl, Blk.new u _ _, h3.kept ((Keep.refl _ u).alloc _), h2, hk.size⟩ ((Keep.refl _ u).alloc _))) ?_
      refine qsteps_skip 11 rfl (by first | exact .inl rfl | exact .inr rfl) ?_
      refine qsteps_skip 12 rfl (by first | exact .inl rfl | exact .inr rfl) ?_
      refine qsteps_skip 13 rfl (by first | exact .inl rfl | exact .inr rfl) ?_
      refine qsteps_skip 14 rfl (by first | exact .inl rfl | exact .inr rfl) ?_
      exact qsteps_nil
     intro gv w1 w7 hV h0 hR hk1
     rw [dq 14 [49,50,51,52,53,54,55,56,57,58,59,60,61,62]]
     simp only [F7]
     have hT := hR 59 (by kernel_rfl)
     generalize gv 59 = v59 at hT ⊢
     rw [show gv 60 = (.slice (some ⟨gs, os, none⟩) n c) from h0 11 (by omega) rfl 60 (by kernel_rfl)]
     rw [show gv 61 = .int .i64 (i : Int) from h0 12 (by omega) rfl 61 (by kernel_rfl)]
     rw [show gv 62 = vb from h0 13 (by omega) rfl 62 (by kernel_rfl)]
     clear hV h0 hR
     obtain ⟨q, hqb, hbq, hs7, ho7, hk7⟩ := hT
     have k67 := late_kept hk1 hk7 (Nat.le_refl _)
     have hne7 := sl_ne hs7 hbq (by decide)
     obtain ⟨v8, w8, hr8, hs8, hk8, ho8⟩ := run_append_sl slQR _ w7 v59 vb (i + 1) (n - i) _ _ hs7 (HSB.out w7 k67) (ptrs_one _) (by unfold maxLen; omega) (by omega)
     refine l_new v8 w8 rfl (exec_appS slQR (.tmp 59) (.tmp 62) v59 vb rfl (by kernel_rfl) (by kernel_rfl) v8 w8 hr8) ?_
     simp only [Act.put, sA, sS, sZ]
     refine l_val (v8) rfl (exec_assign _ _ rfl (by kernel_rfl)) ?_
     simp only [Act.put, sA, sS, sZ]
     refine wpList_nil ?_
     have k38 : Kept w3 w8 := Keep.trans k67 hk8 (fun b hb h => by have := ho7 b h; omega)
     have hbq8 : Blk w8 q 86 [.int .i64 o.price, .slice none 0 0] := hbq.keep hk8 (fun h => hne7 q h rfl)
     have hAl : (Z.take i).length = i := by rw [List.length_take, HN.out]; omega
     have hRl : (Z.drop i).length = n - i := by rw [List.length_drop, HN.out]
     have hWi : WayZ 86 95 87 w3 Fs (.slice (some ⟨gs, os, none⟩) n c) (Z.take i ++ Z.drop i) G := by rw [List.take_append_drop]; exact HWW.out
     have hpt : ptrs (Z.take i ++ (q, o.price, ([] : List Ent)) :: Z.drop i) = (ptrs (Z.take i) ++ [.pointer (some ⟨q, 0, none⟩)]) ++ ptrs (Z.drop i) := by rw [ptrs_append, List.append_assoc]; rfl
     have hv8 : Sl w8 87 1 v8 ((Z.take i).length + 1 + (Z.drop i).length) (ptrs (Z.take i ++ (q, o.price, ([] : List Ent)) :: Z.drop i)) := by rw [hAl, hRl, hpt]; exact hs8
     have z8 := k38.size
     have z7 := k67.size
     obtain ⟨FX, GX, hWX, hgX, hkX, _⟩ := hWi.more (w' := w8) (v' := v8) (q := q) (pr := o.price) (F1 := (· = q)) (Keep.mono k38 (fun _ _ h => h.elim)) hv8 (fun b hb => ⟨.inr ((ho8 b hb).elim (ho7 b) (fun h => by omega)), fun e => sl_ne hs8 hbq8 (by decide) b hb e⟩) (lvl_new hbq8) (fun b e => by have e2 : b = q := e; rw [e2]; exact hqb)
     obtain ⟨m, hm⟩ : ∃ m, n + 1 = m := ⟨_, rfl⟩
     have him : i < m := by omega
     have hlen : (Z.take i ++ (q, o.price, ([] : List Ent)) :: Z.drop i).length = m := by rw [List.length_append, List.length_cons, hAl, hRl]; omega
     obtain ⟨gs2, os2, c2, hv8e⟩ := hWX.some_ (by rw [hlen]; omega)
     rw [hlen] at hv8e
     subst hv8e
     have HWX := Lib.hid hWX
     have HCX := Lib.hid (hWX.cell (i := i) (z := (q, o.price, [])) (by rw [List.getElem?_append_right (by omega), hAl, Nat.sub_self]; rfl))
     have HBX := Lib.hid (HBW.out.kept k38)
     have HOX := Lib.hid (range_kept HO3.out k38)
     have gX : Grow w0 Fs FX := hgX.wide z3
     have kX : Keep (fun b => Fs b ∨ b = p) w0 w8 := Keep.mono (T := fun b => Fs b ∨ b = p) (kw3.trans k38) (fun _ _ h => h.elim)
     clear hWX hkX hgX hbq8 hbq hs8 hk8 ho8 hr8 hs7 ho7 hk7 hk1 k67 k38 hne7 hWi hpt hv8 HWW HBW HO3 HVA HVB HSA HSB
     have zX := kX.size
     go_upto_region 7 with fail
     refine wp_free 5 [.eq (.slice (some ⟨gs2, os2, none⟩) m c2), iE (i : Int), pE gs2 (os2 + i * 1), pE q 0, .eq (o.v)] (by kernel_rfl) rfl (by kernel_rfl) ?_ ?_
     ·refine mE 1 4 ?_
      refine mE 2 5 ?_
      refine sW 3 rfl (fun a u E D hk=>exec_ixo slQR _ _ (gs2) (os2) m c2 i (os2 + i * 1) ((i : Int)) rfl (dD D 0) (dD D 1) (by first | rfl | omega) (him) (by first | rfl | omega)) ?_
      refine sW 4 rfl (fun a u E D hk=>exec_ldp _ _ Try.underlying87 _ _ _ rfl (dD D 2) (Kept.cell hk (HCX.out))) ?_
      refine sW 5 rfl (fun a u E D hk=>exec_ldS 25 _ _ (g) (0) (o.cells) rfl (eE E) (range_kept HOX.out hk) Try.underlying25 (by rw [o.len9]; exact ord_size)) ?_
      exact fz
     intro gv wa hV ka
     rw [dq 5 [64,65,66,67,68]]
     simp only [F7]
     rw [gQ hV 3 67 (.pointer (some ⟨q, 0, none⟩))]
     rw [gQ hV 4 68 o.v]
     clear hV
     have hWa := HWX.out.kept ka
     refine l_call 76 #[.pointer (some ⟨q, 0, none⟩), o.v] rfl (exec_call 76 _ [.tmp 67, .tmp 68] _ _ Try.func76 (by kernel_rfl) (by kernel_rfl) rfl (by kernel_rfl) _) ?_
     refine (radd_any wa _ q [] o (hWa.lv (q, o.price, []) (by simp)) (by simp)).mono ?_
     rintro r wb ⟨F6, rfl, hl6, hg6, hk6⟩
     refine ⟨_, rfl, ?_⟩
     simp only [Act.put, sA, sS, sZ]
     refine wpList_nil ?_
     obtain ⟨Fs2, G2, hWb, hGb, hkb, _⟩ := hWa.turn hk6 hl6 hg6
     have za := ka.size
     have zb := hkb.size
     have hpX : ¬ FX p := fun h => (gX p h).elim HPF.out (fun h => by omega)
     have hgX2 : ¬ FX g := fun h => (gX g h).elim (fun h => HGS.out (.inl h)) (fun h => by omega)
     have HBb := Lib.hid ((HBX.out.kept ka).keep hkb hpX)
     have HOb := Lib.hid (range_keep (range_kept HOX.out ka) hkb hgX2)
     have kb : Keep (fun b => Fs b ∨ b = p) w0 wb := (kX.kept ka).trans hkb (fun b hb h => (gX b h).elim .inl (fun h => by omega))
     have gb : Grow w0 Fs Fs2 := gX.trans hGb (by omega)
     have HWb := Lib.hid hWb
     have HOSb : Hid (wb.cell? ⟨g, 3, none⟩ = some (.int .i64 (k : Int))) := by show _ = _; rw [← HSD.out]; exact range_int HOb.out 3 _ rfl
     clear hWa hl6 hg6 hk6 hWb hGb hkb HWX HBX HOX HCX ka hpX
     go_upto_region 8 with fail
     refine wp_free 7 [pE p 0, pE g 3, iE (k : Int), .eq (.slice (some ⟨gs2, os2, none⟩) m c2), pE p 0, pE p 0, pE p (0 + k * 1)] (by kernel_rfl) rfl (by kernel_rfl) ?_ ?_
     ·refine mE 1 0 ?_
      refine fE 2 3 25 3 3 0 ?_
      refine sW 3 rfl (fun a u E D hk=>exec_loadi _ Try.underlying3 _ _ _ rfl (dD D 1) (Kept.cell hk (HOSb.out))) ?_
      refine mE 4 4 ?_
      refine nD 5 70 0 ?_
      refine fD 6 74 4 46 0 0 0 ?_
      refine sW 7 rfl (fun a u E D hk=>exec_elem 44 43 3 1 _ _ p 0 k rfl Try.underlying44 (by kernel_rfl) (dD D 5) (dD D 2) (by omega)) ?_
      exact fz
     intro gv wc hV kc
     rw [dq 7 [70,71,72,73,74,75,76]]
     simp only [F7]
     rw [gQ hV 6 76 (.pointer (some ⟨p, 0 + k * 1, none⟩))]
     rw [gQ hV 3 73 (.slice (some ⟨gs2, os2, none⟩) m c2)]
     clear hV
     refine l_st1 43 p (0 + k * 1) 46 _ (.slice (some ⟨gs2, os2, none⟩) m c2) _ _ rfl rfl (by kernel_rfl) (by kernel_rfl) (by kernel_rfl) rfl rfl (HBb.out.kept kc) (by rw [rsd_len h12]; omega) ?_
     intro wd hBd hkd hsd
     simp only [Act.put]
     refine wpList_nil ?_
     rw [rsd_set h12] at hBd
     have hpb : ¬ Fs2 p := fun h => (gb p h).elim HPF.out (fun h => by omega)
     have hWd := (HWb.out.kept kc).keep hkd (fun b hb e => hpb (by have e2 : b = p := e; rw [← e2]; exact hb))
     have kd : Keep (fun b => Fs b ∨ b = p) w0 wd := (kb.kept kc).trans hkd (fun b _ e => .inr e)
     obtain ⟨F', q1, q2, q3, _⟩ := HJ.out wd _ _ _ _ _ kd hBd ⟨_, _, rfl, hWd⟩ gb
     have HR : Hid (RBk wd F' p (B.to o.side (restM o L) B.last B.no)) := by
      show RBk _ _ _ _
      rw [HRM.out, HSD.out]
      rw [levs_append, levs_cons] at q1
      exact q1
     have Q2 : Grow w F F' := q2.wide z0
     have Q3 : Keep F w wd := Keep.any k0 q3
     clear q1 q2 q3 hWd hBd hkd kd kc kb gb HWb HBb HOb HOSb hpb
     go_wp2
     go_end0
     first | exact ⟨rfl, F', HR.out, Q2, Q3⟩ | exact ⟨F', rfl, HR.out, Q2, Q3⟩
  ·have hin : i = n := by omega
   subst hin
   go_upto_region 3 with fail
   refine wp_free 18 [iE (i : Int), .eq (v), iE (i : Int), bE false, bE false, uE, uE, uE, uE, uE, uE, uE, uE, uE, uE, uE, uE, bE false] (by kernel_rfl) rfl (by kernel_rfl) ?_ ?_
   ·refine mE 1 5 ?_
    refine mE 2 4 ?_
    refine sW 3 rfl (fun a u E D hk=>exec_lenS _ slQR _ _ _ _ rfl (dD D 1) HSLr.out) ?_
    refine aS 4 rfl (fun a u E D hk=>exec_ltn rfl (dD D 0) (dD D 2)) (decide_eq_false (by omega)) ?_
    refine mD 5 16 3 ?_
    refine kS 6 4 ?_
    refine kS 7 4 ?_
    refine kS 8 4 ?_
    refine kS 9 4 ?_
    refine kS 10 4 ?_
    refine kS 11 4 ?_
    refine kS 12 4 ?_
    refine kS 13 4 ?_
    refine kS 14 4 ?_
    refine kS 15 4 ?_
    refine kS 16 4 ?_
    refine kS 17 4 ?_
    refine sW 18 rfl (fun a u E D hk=>exec_pickF _ _ _ _ rfl (dD D 4) rfl) ?_
    exact fz
   intro gv w2 hV k2
   rw [dq 18 [13,14,15,16,17,18,19,20,21,22,23,24,25,26,27,28,29,30]]
   simp only [F7]
   rw [gQ hV 17 30 (.bool false)]
   clear hV
   refine wpList_nil ?_
   have kw2 := hkr.trans k2
   have HSL2 := Lib.hid (HSLr.out.kept k2)
   go_upto_region 5 with fail
   refine wp_free 16 [iE (i : Int), .eq (v), iE (i : Int), bE true, bE true, uE, uE, uE, uE, uE, uE, uE, uE, uE, uE, bE true] (by kernel_rfl) rfl (by kernel_rfl) ?_ ?_
   ·refine mE 1 5 ?_
    refine mE 2 4 ?_
    refine sW 3 rfl (fun a u E D hk=>exec_lenS _ slQR _ _ _ _ rfl (dD D 1) HSL2.out) ?_
    refine aS 4 rfl (fun a u E D hk=>exec_eqn rfl (dD D 0) (dD D 2)) (decide_eq_true (by omega)) ?_
    refine mD 5 36 3 ?_
    refine kS 6 4 ?_
    refine kS 7 4 ?_
    refine kS 8 4 ?_
    refine kS 9 4 ?_
    refine kS 10 4 ?_
    refine kS 11 4 ?_
    refine kS 12 4 ?_
    refine kS 13 4 ?_
    refine kS 14 4 ?_
    refine kS 15 4 ?_
    refine sW 16 rfl (fun a u E D hk=>exec_pick _ _ _ _ rfl (dD D 4) rfl) ?_
    exact fz
   intro gv w3 hV k3
   rw [dq 16 [33,34,35,36,37,38,39,40,41,42,43,44,45,46,47,48]]
   simp only [F7]
   rw [gQ hV 15 48 (.bool true)]
   clear hV
   refine wpList_nil ?_
   have kw3 := kw2.trans k3
   have HRM : Hid (restM o L = levs (Z.take i) ++ (o.price, [] ++ [Ent.of o]) :: levs (Z.drop i)) := by
    show _ = _
    have e5 : Z.drop i = [] := List.drop_of_length_le (by rw [HN.out]; omega)
    have e6 : L = levs (Z.take i) := by rw [← EL.out, List.take_of_length_le (by rw [HN.out]; omega)]
    rw [e5]
    have h3 := restM_at (o := o) (R := []) (A := L) (by
     have e2 : L.take i = L := List.take_of_length_le (by rw [← EL.out, levs_len, HN.out]; omega)
     rw [e2] at HM
     exact HM.out)
    rw [List.append_nil] at h3
    rw [h3, restM]
    conv => lhs; rw [e6]
    rfl
   have HO3 := Lib.hid (range_kept HOr.out (k2.trans k3))
   clear HM HSL2 HSLr HOr k2 k3 hkr kw2 hlt
   obtain ⟨n, hnn⟩ : ∃ n, n = i := ⟨_, rfl⟩
   have hn64 : n ≤ 64 := by omega
   have hin2 : i ≤ n := by omega
   have HN2 : Hid (Z.length = n) := by show _ = _; rw [hnn]; exact HN.out
   clear HN
   have HN := HN2
   clear HN2
   have HWW := Lib.hid (HW.out.kept kw3)
   have HBW := Lib.hid (HBk.out.kept kw3)
   have HSW : Hid (Sl w3 87 1 v n (ptrs Z)) := by show Sl _ _ _ _ _ _; have := HWW.out.sl; rw [HN.out] at this; exact this
   have z3 := kw3.size
   obtain ⟨va, hva, hoa, hsa⟩ := slice_hS slQR _ n i (by omega) _ w3 HSW.out
   obtain ⟨vb, hvb, hob, hsb⟩ := slice_lS slQR _ n i (by omega) _ w3 HSW.out
   have HVA := Lib.hid hva
   have HVB := Lib.hid hvb
   have HSA : Hid (∀ u, Kept w3 u → Sl u 87 1 va i (ptrs (Z.take i))) := fun u hk => by
    have := hsa u _ (HSW.out.kept hk)
    rwa [ptrs_take] at this
   have HSB : Hid (∀ u, Kept w3 u → Sl u 87 1 vb (n - i) (ptrs (Z.drop i))) := fun u hk => by
    have := hsb u _ (HSW.out.kept hk)
    rwa [ptrs_drop] at this
   have lp3 : p < w3.heap.size := by omega
   have lg3 : g < w3.heap.size := by omega
   clear hva hoa hsa hvb hob hsb HSW
   go_upto_region 6 with fail
   refine wp_freeQ 14 10 (fun i_ : Nat => i_ == 11 || i_ == 12 || i_ == 13) [.emp w3.heap.size 87, .eq (v), .eq (.int .i64 (i : Int)), .eq (va), .sl w3.heap.size 87 1 i (ptrs (Z.take i)), .eq (.pointer (some ⟨g, 5, none⟩)), .eq (.int .i64 o.price), .eq (.agg (rlvCells o.price).toArray), .fresh w3.heap.size 86 (rlvCells o.price), .oner w3.heap.size o.price, .any, .eq (v), .eq (.int .i64 (i : Int)), .eq (vb)] (fun i_ : Nat => if i_ = 11 then v else if i_ = 12 then .int .i64 (i : Int) else if i_ = 13 then vb else undef) ((OneIn w3.heap.size o.price i (ptrs (Z.take i)))) (by kernel_rfl) rfl (fun i_ hi_ hs_ => by have h_ : i_ = 11 ∨ i_ = 12 ∨ i_ = 13 := (by simp at hs_; omega); rcases h_ with rfl | rfl | rfl <;> rfl) (by kernel_rfl) (by kernel_rfl) (by kernel_rfl) (fun i_ hi_ hs_ => by have h_ : i_ = 11 ∨ i_ = 12 ∨ i_ = 13 := (by simp at hs_; omega); rcases h_ with rfl | rfl | rfl; exact (fun a u hE hD => qs_val (o := ⟨some 60, _, _, _, _, _⟩) (v) rfl (wanted_none rfl _) (exec_move (.tmp 4) _ rfl (eE hE))); exact (fun a u hE hD => qs_val (o := ⟨some 61, _, _, _, _, _⟩) (.int .i64 (i : Int)) rfl (wanted_none rfl _) (exec_move (.tmp 5) _ rfl (eE hE))); exact (fun a u hE hD => qs_val (o := ⟨some 62, _, _, _, _, _⟩) (vb) rfl (wanted_none rfl _) (exec_slcL slQR (.tmp 60) (.tmp 61) _ vb _ rfl (dD hD 11) (dD hD 12) (HVB.out u)))) ?_ (fun a u hE hD hk =>  (by obtain ⟨g1, q, hx, hb1, hbq, hqg, hgg⟩ := (hD 9 58 (by kernel_rfl)); obtain ⟨v', u', hr, hs', hk', ho'⟩ := run_append_sl slQR _ u (a.eval (.tmp 53)) (a.eval (.tmp 58)) i 1 _ _ ((hD 4 53 (by kernel_rfl))).1 (by rw [hx]; exact sl_one1 hb1) (ptr_one _) (by unfold maxLen; omega) (by omega); have hq := ((hD 4 53 (by kernel_rfl))).2; refine t_last (o := ⟨some 59, _, _, _, _, _⟩) (R := (OneIn w3.heap.size o.price i (ptrs (Z.take i)))) (m := 10) (v := v') (w' := u') rfl (wanted_none rfl _) (exec_appS slQR (.tmp 53) (.tmp 58) _ _ rfl rfl rfl v' u' hr) ?_; exact ⟨q, hqg, hbq.keep hk' (fun h => sl_ne ((hD 4 53 (by kernel_rfl))).1 hbq (by decide) q h rfl), hs', fun b hb => (ho' b hb).elim (hq b) (fun h => Nat.le_trans hk.size h), hk'.mono (fun b _ hb => hq b hb)⟩)) ?_
   ·refine qsteps_cons 1 rfl (fun a u hE hD hk => f_new (o := ⟨some 49, _, _, _, _, _⟩) (.slice (some ⟨u.heap.size, 0, none⟩) 0 0) _ rfl (wanted_none rfl _) (exec_none 43 87 1 rfl slQR.und (by kernel_rfl)) ⟨_, rfl, hk.size, Blk.new u _ _⟩ ((Keep.refl _ u).alloc _)) ?_
    refine qsteps_cons 2 rfl (fun a u hE hD hk => f_val _ rfl (wanted_none rfl _) (exec_move (.tmp 4) _ rfl (eE hE)) rfl) ?_
    refine qsteps_cons 3 rfl (fun a u hE hD hk => f_val _ rfl (wanted_none rfl _) (exec_move (.tmp 5) _ rfl (eE hE)) rfl) ?_
    refine qsteps_cons 4 rfl (fun a u hE hD hk => f_val _ rfl (wanted_none rfl _) (exec_slcH slQR (.tmp 50) (.tmp 51) _ va _ rfl (dD hD 1) (dD hD 2) (HVA.out u)) rfl) ?_
    refine qsteps_cons 5 rfl (fun a u hE hD hk => (by obtain ⟨v', u', hr, hp, hkk⟩ := run_append_emp slQR _ u (a.eval (.tmp 49)) va i w3.heap.size _ ((dD hD 0)) (HSA.out u hk) (ptrs_one _) (by omega) (by omega) hk.size; exact f_new v' u' rfl (wanted_none rfl _) (exec_appS slQR (.tmp 49) (.tmp 52) _ va rfl rfl (dD hD 3) v' u' hr) hp hkk)) ?_
    refine qsteps_cons 6 rfl (fun a u hE hD hk => f_val _ rfl (wanted_none rfl _) (exec_fldo 25 5 5 (.tmp 3) (g) (0) (5) rfl (eE hE) (by kernel_rfl) rfl) rfl) ?_
    refine qsteps_cons 7 rfl (fun a u hE hD hk => f_val _ rfl (wanted_none rfl _) (exec_loadi 3 Try.underlying3 (.tmp 54) ⟨g, 5, none⟩ (.int .i64 o.price) rfl (dD hD 5) (range_int (range_kept HO3.out hk) 5 _ rfl)) rfl) ?_
    refine qsteps_cons 8 rfl (fun a u hE hD hk => f_val _ rfl (wanted_none rfl _) (exec_brl (.tmp 55) o.price rfl (dD hD 6)) rfl) ?_
    refine qsteps_cons 9 rfl (fun a u hE hD hk => f_new (.pointer (some ⟨u.heap.size, 0, none⟩)) _ rfl (wanted_none rfl _) (exec_box 86 (.tmp 56) (rlvCells o.price) rfl (dD hD 7)) ⟨_, rfl, hk.size, Blk.new u _ _⟩ ((Keep.refl _ u).alloc _)) ?_
    refine qsteps_cons 10 rfl (fun a u hE hD hk => (by obtain ⟨q, hx, h2, h3⟩ := (hD 8 57 (by kernel_rfl)); exact f_new (.slice (some ⟨u.heap.size, 0, none⟩) 1 1) _ rfl (wanted_none rfl _) (exec_oneP slQR (.tmp 57) q rfl hx) ⟨u.heap.size, q, rfl, Blk.new u _ _, h3.kept ((Keep.refl _ u).alloc _), h2, hk.size⟩ ((Keep.refl _ u).alloc _))) ?_
    refine qsteps_skip 11 rfl (by first | exact .inl rfl | exact .inr rfl) ?_
    refine qsteps_skip 12 rfl (by first | exact .inl rfl | exact .inr rfl) ?_
    refine qsteps_skip 13 rfl (by first | exact .inl rfl | exact .inr rfl) ?_
    refine qsteps_skip 14 rfl (by first | exact .inl rfl | exact .inr rfl) ?_
    exact qsteps_nil
   intro gv w1 w7 hV h0 hR hk1
   rw [dq 14 [49,50,51,52,53,54,55,56,57,58,59,60,61,62]]
   simp only [F7]
   have hT := hR 59 (by kernel_rfl)
   generalize gv 59 = v59 at hT ⊢
   rw [show gv 60 = v from h0 11 (by omega) rfl 60 (by kernel_rfl)]
   rw [show gv 61 = .int .i64 (i : Int) from h0 12 (by omega) rfl 61 (by kernel_rfl)]
   rw [show gv 62 = vb from h0 13 (by omega) rfl 62 (by kernel_rfl)]
   clear hV h0 hR
   obtain ⟨q, hqb, hbq, hs7, ho7, hk7⟩ := hT
   have k67 := late_kept hk1 hk7 (Nat.le_refl _)
   have hne7 := sl_ne hs7 hbq (by decide)
   obtain ⟨v8, w8, hr8, hs8, hk8, ho8⟩ := run_append_sl slQR _ w7 v59 vb (i + 1) (n - i) _ _ hs7 (HSB.out w7 k67) (ptrs_one _) (by unfold maxLen; omega) (by omega)
   refine l_new v8 w8 rfl (exec_appS slQR (.tmp 59) (.tmp 62) v59 vb rfl (by kernel_rfl) (by kernel_rfl) v8 w8 hr8) ?_
   simp only [Act.put, sA, sS, sZ]
   refine l_val (v8) rfl (exec_assign _ _ rfl (by kernel_rfl)) ?_
   simp only [Act.put, sA, sS, sZ]
   refine wpList_nil ?_
   have k38 : Kept w3 w8 := Keep.trans k67 hk8 (fun b hb h => by have := ho7 b h; omega)
   have hbq8 : Blk w8 q 86 [.int .i64 o.price, .slice none 0 0] := hbq.keep hk8 (fun h => hne7 q h rfl)
   have hAl : (Z.take i).length = i := by rw [List.length_take, HN.out]; omega
   have hRl : (Z.drop i).length = n - i := by rw [List.length_drop, HN.out]
   have hWi : WayZ 86 95 87 w3 Fs v (Z.take i ++ Z.drop i) G := by rw [List.take_append_drop]; exact HWW.out
   have hpt : ptrs (Z.take i ++ (q, o.price, ([] : List Ent)) :: Z.drop i) = (ptrs (Z.take i) ++ [.pointer (some ⟨q, 0, none⟩)]) ++ ptrs (Z.drop i) := by rw [ptrs_append, List.append_assoc]; rfl
   have hv8 : Sl w8 87 1 v8 ((Z.take i).length + 1 + (Z.drop i).length) (ptrs (Z.take i ++ (q, o.price, ([] : List Ent)) :: Z.drop i)) := by rw [hAl, hRl, hpt]; exact hs8
   have z8 := k38.size
   have z7 := k67.size
   obtain ⟨FX, GX, hWX, hgX, hkX, _⟩ := hWi.more (w' := w8) (v' := v8) (q := q) (pr := o.price) (F1 := (· = q)) (Keep.mono k38 (fun _ _ h => h.elim)) hv8 (fun b hb => ⟨.inr ((ho8 b hb).elim (ho7 b) (fun h => by omega)), fun e => sl_ne hs8 hbq8 (by decide) b hb e⟩) (lvl_new hbq8) (fun b e => by have e2 : b = q := e; rw [e2]; exact hqb)
   obtain ⟨m, hm⟩ : ∃ m, n + 1 = m := ⟨_, rfl⟩
   have him : i < m := by omega
   have hlen : (Z.take i ++ (q, o.price, ([] : List Ent)) :: Z.drop i).length = m := by rw [List.length_append, List.length_cons, hAl, hRl]; omega
   obtain ⟨gs2, os2, c2, hv8e⟩ := hWX.some_ (by rw [hlen]; omega)
   rw [hlen] at hv8e
   subst hv8e
   have HWX := Lib.hid hWX
   have HCX := Lib.hid (hWX.cell (i := i) (z := (q, o.price, [])) (by rw [List.getElem?_append_right (by omega), hAl, Nat.sub_self]; rfl))
   have HBX := Lib.hid (HBW.out.kept k38)
   have HOX := Lib.hid (range_kept HO3.out k38)
   have gX : Grow w0 Fs FX := hgX.wide z3
   have kX : Keep (fun b => Fs b ∨ b = p) w0 w8 := Keep.mono (T := fun b => Fs b ∨ b = p) (kw3.trans k38) (fun _ _ h => h.elim)
   clear hWX hkX hgX hbq8 hbq hs8 hk8 ho8 hr8 hs7 ho7 hk7 hk1 k67 k38 hne7 hWi hpt hv8 HWW HBW HO3 HVA HVB HSA HSB
   have zX := kX.size
   go_upto_region 7 with fail
   refine wp_free 5 [.eq (.slice (some ⟨gs2, os2, none⟩) m c2), iE (i : Int), pE gs2 (os2 + i * 1), pE q 0, .eq (o.v)] (by kernel_rfl) rfl (by kernel_rfl) ?_ ?_
   ·refine mE 1 4 ?_
    refine mE 2 5 ?_
    refine sW 3 rfl (fun a u E D hk=>exec_ixo slQR _ _ (gs2) (os2) m c2 i (os2 + i * 1) ((i : Int)) rfl (dD D 0) (dD D 1) (by first | rfl | omega) (him) (by first | rfl | omega)) ?_
    refine sW 4 rfl (fun a u E D hk=>exec_ldp _ _ Try.underlying87 _ _ _ rfl (dD D 2) (Kept.cell hk (HCX.out))) ?_
    refine sW 5 rfl (fun a u E D hk=>exec_ldS 25 _ _ (g) (0) (o.cells) rfl (eE E) (range_kept HOX.out hk) Try.underlying25 (by rw [o.len9]; exact ord_size)) ?_
    exact fz
   intro gv wa hV ka
   rw [dq 5 [64,65,66,67,68]]
   simp only [F7]
   rw [gQ hV 3 67 (.pointer (some ⟨q, 0, none⟩))]
   rw [gQ hV 4 68 o.v]
   clear hV
   have hWa := HWX.out.kept ka
   refine l_call 76 #[.pointer (some ⟨q, 0, none⟩), o.v] rfl (exec_call 76 _ [.tmp 67, .tmp 68] _ _ Try.func76 (by kernel_rfl) (by kernel_rfl) rfl (by kernel_rfl) _) ?_
   refine (radd_any wa _ q [] o (hWa.lv (q, o.price, []) (by simp)) (by simp)).mono ?_
   rintro r wb ⟨F6, rfl, hl6, hg6, hk6⟩
   refine ⟨_, rfl, ?_⟩
   simp only [Act.put, sA, sS, sZ]
   refine wpList_nil ?_
   obtain ⟨Fs2, G2, hWb, hGb, hkb, _⟩ := hWa.turn hk6 hl6 hg6
   have za := ka.size
   have zb := hkb.size
   have hpX : ¬ FX p := fun h => (gX p h).elim HPF.out (fun h => by omega)
   have hgX2 : ¬ FX g := fun h => (gX g h).elim (fun h => HGS.out (.inl h)) (fun h => by omega)
   have HBb := Lib.hid ((HBX.out.kept ka).keep hkb hpX)
   have HOb := Lib.hid (range_keep (range_kept HOX.out ka) hkb hgX2)
   have kb : Keep (fun b => Fs b ∨ b = p) w0 wb := (kX.kept ka).trans hkb (fun b hb h => (gX b h).elim .inl (fun h => by omega))
   have gb : Grow w0 Fs Fs2 := gX.trans hGb (by omega)
   have HWb := Lib.hid hWb
   have HOSb : Hid (wb.cell? ⟨g, 3, none⟩ = some (.int .i64 (k : Int))) := by show _ = _; rw [← HSD.out]; exact range_int HOb.out 3 _ rfl
   clear hWa hl6 hg6 hk6 hWb hGb hkb HWX HBX HOX HCX ka hpX
   go_upto_region 8 with fail
   refine wp_free 7 [pE p 0, pE g 3, iE (k : Int), .eq (.slice (some ⟨gs2, os2, none⟩) m c2), pE p 0, pE p 0, pE p (0 + k * 1)] (by kernel_rfl) rfl (by kernel_rfl) ?_ ?_
   ·refine mE 1 0 ?_
    refine fE 2 3 25 3 3 0 ?_
    refine sW 3 rfl (fun a u E D hk=>exec_loadi _ Try.underlying3 _ _ _ rfl (dD D 1) (Kept.cell hk (HOSb.out))) ?_
    refine mE 4 4 ?_
    refine nD 5 70 0 ?_
    refine fD 6 74 4 46 0 0 0 ?_
    refine sW 7 rfl (fun a u E D hk=>exec_elem 44 43 3 1 _ _ p 0 k rfl Try.underlying44 (by kernel_rfl) (dD D 5) (dD D 2) (by omega)) ?_
    exact fz
   intro gv wc hV kc
   rw [dq 7 [70,71,72,73,74,75,76]]
   simp only [F7]
   rw [gQ hV 6 76 (.pointer (some ⟨p, 0 + k * 1, none⟩))]
   rw [gQ hV 3 73 (.slice (some ⟨gs2, os2, none⟩) m c2)]
   clear hV
   refine l_st1 43 p (0 + k * 1) 46 _ (.slice (some ⟨gs2, os2, none⟩) m c2) _ _ rfl rfl (by kernel_rfl) (by kernel_rfl) (by kernel_rfl) rfl rfl (HBb.out.kept kc) (by rw [rsd_len h12]; omega) ?_
   intro wd hBd hkd hsd
   simp only [Act.put]
   refine wpList_nil ?_
   rw [rsd_set h12] at hBd
   have hpb : ¬ Fs2 p := fun h => (gb p h).elim HPF.out (fun h => by omega)
   have hWd := (HWb.out.kept kc).keep hkd (fun b hb e => hpb (by have e2 : b = p := e; rw [← e2]; exact hb))
   have kd : Keep (fun b => Fs b ∨ b = p) w0 wd := (kb.kept kc).trans hkd (fun b _ e => .inr e)
   obtain ⟨F', q1, q2, q3, _⟩ := HJ.out wd _ _ _ _ _ kd hBd ⟨_, _, rfl, hWd⟩ gb
   have HR : Hid (RBk wd F' p (B.to o.side (restM o L) B.last B.no)) := by
    show RBk _ _ _ _
    rw [HRM.out, HSD.out]
    rw [levs_append, levs_cons] at q1
    exact q1
   have Q2 : Grow w F F' := q2.wide z0
   have Q3 : Keep F w wd := Keep.any k0 q3
   clear q1 q2 q3 hWd hBd hkd kd kc kb gb HWb HBb HOb HOSb hpb
   go_wp2
   go_end0
   first | exact ⟨rfl, F', HR.out, Q2, Q3⟩ | exact ⟨F', rfl, HR.out, Q2, Q3⟩
section
variable {T E P : TypeId} {w w' : World} {F : Nat → Prop} {v : Value} {Z : Zs} {G : Nat → Nat → Prop}
theorem WayZ.moreX {A R : Zs} {v' : Value} {q : Nat} {pr : Int} {X : List Ent} {F1 : Nat → Prop} (h : WayZ T E P w F v (A ++ R) G) (hk : Keep (fun b => v.ownBlock = some b) w w') (hv : Sl w' P 1 v' (A.length + 1 + R.length) (ptrs (A ++ (q, pr, X) :: R))) (ho : ∀ b, v'.ownBlock = some b → (v.ownBlock = some b ∨ w.heap.size ≤ b) ∧ ¬ F1 b)
  (h1 : Lvl pr T E w' F1 q X) (hn : ∀ b, F1 b → w.heap.size ≤ b) :
  ∃ F' G', WayZ T E P w' F' v' (A ++ (q, pr, X) :: R) G' ∧ Grow w F F' ∧ Keep F w w' ∧ ∀ b, F b → F' b := by
 have hmq : ∀ x ∈ A ++ R, x.1 ≠ q := fun x hx e => by
  have h2 := h.lt x.1 (h.in_ x hx _ (h.lv x hx).1)
  have h3 := hn q h1.1
  omega
 have hmem : ∀ x ∈ A ++ (q, pr, X) :: R, x = (q, pr, X) ∨ x ∈ A ++ R := fun x hx => by
  rcases List.mem_append.1 hx with hx | hx
  ·exact .inr (by simp [hx])
  ·rcases List.mem_cons.1 hx with hx | hx
   ·exact .inl hx
   ·exact .inr (by simp [hx])
 have hdis : ∀ x ∈ A ++ R, ∀ b, G x.1 b → ¬ F1 b := fun x hx b hb hF => by
  have h2 := h.lt b (h.in_ x hx b hb)
  have h3 := hn b hF
  omega
 refine ⟨fun b => F b ∨ v'.ownBlock = some b ∨ F1 b, fun p b => if p = q then F1 b else G p b, ⟨?_, ?_, ?_, ?_, ?_, ?_⟩, ?_, hk.mono (fun b _ hb => (h.own b hb).1), fun b hb => .inl hb⟩
 ·rw [show (A ++ (q, pr, X) :: R).length = A.length + 1 + R.length by simp; omega]
  exact hv
 ·intro x hx
  rcases hmem x hx with rfl | hx
  ·simp only [if_true]
   exact h1
  ·simp only [if_neg (hmq x hx)]
   exact (h.lv x hx).keep hk (fun b hb hb' => (h.own b hb').2 x hx hb)
 ·have h2 := h.ap
  rw [List.pairwise_append] at h2
  rw [List.pairwise_append, List.pairwise_cons]
  obtain ⟨p1, p3, p4⟩ := h2
  have hA : ∀ x ∈ A, x.1 ≠ q := fun x hx => hmq x (by simp [hx])
  have hR : ∀ x ∈ R, x.1 ≠ q := fun x hx => hmq x (by simp [hx])
  refine ⟨?_, ⟨?_, ?_⟩, ?_⟩
  ·refine p1.imp_of_mem ?_
   intro x y hx hy hxy
   simp only [if_neg (hA x hx), if_neg (hA y hy)]
   exact hxy
  ·intro x hx b
   simp only [if_true, if_neg (hR x hx)]
   intro hb hb'
   exact hdis x (by simp [hx]) b hb' hb
  ·refine p3.imp_of_mem ?_
   intro x y hx hy hxy
   simp only [if_neg (hR x hx), if_neg (hR y hy)]
   exact hxy
  ·intro x hx y hy b
   simp only [if_neg (hA x hx)]
   rcases List.mem_cons.1 hy with rfl | hy
   ·simp only [if_true]
    exact hdis x (by simp [hx]) b
   ·simp only [if_neg (hR y hy)]
    exact p4 x hx y hy b
 ·intro x hx b hb
  rcases hmem x hx with rfl | hx
  ·simp only [if_true] at hb
   exact .inr (.inr hb)
  ·simp only [if_neg (hmq x hx)] at hb
   exact .inl (h.in_ x hx b hb)
 ·intro b hb
  refine ⟨.inr (.inl hb), fun x hx hx' => ?_⟩
  rcases hmem x hx with rfl | hx
  ·simp only [if_true] at hx'
   exact (ho b hb).2 hx'
  ·simp only [if_neg (hmq x hx)] at hx'
   rcases (ho b hb).1 with h' | h'
   ·exact (h.own b h').2 x hx hx'
   ·have := h.lt b (h.in_ x hx b hx'); omega
 ·intro b hb
  rcases hb with hb | hb | hb
  ·exact Nat.lt_of_lt_of_le (h.lt b hb) hk.size
  ·exact hv.lt hb
  ·exact h1.2.1 b hb
 ·intro b hb
  rcases hb with hb | hb | hb
  ·exact .inl hb
  ·rcases (ho b hb).1 with h' | h'
   ·exact .inl (h.own b h').1
   ·exact .inr h'
  ·exact .inr (hn b hb)
end
def partB (B : Bok) (k : Nat) : Bok := ⟨if 1 < k then B.buys else [], if 2 < k then B.sells else [], B.last, B.no⟩
theorem part_start (B : Bok) {k : Nat} (hk : k < 3) : (partB B k).to (k : Int) [] B.last B.no = partB B k := by
 have h : k = 0 ∨ k = 1 ∨ k = 2 := by omega
 rcases h with rfl | rfl | rfl <;> rfl
theorem part_end (B : Bok) {k : Nat} (hk : k < 3) : (partB B k).to (k : Int) (B.sd (k : Int)) B.last B.no = partB B (k + 1) := by
 have h : k = 0 ∨ k = 1 ∨ k = 2 := by omega
 rcases h with rfl | rfl | rfl <;> rfl
theorem lvl_copy {u : World} {v : Value} {pr : Int} {X : List Ent} (hs : Sl u 95 10 v X.length (ents X)) : Lvl pr 86 95 (u.alloc (.cells [.int .i64 pr, v].toArray 86)) (fun b => b = u.heap.size ∨ v.ownBlock = some b) u.heap.size X :=
 ⟨.inl rfl, fun b hb => hb.elim (fun e => by rw [e]; exact (Blk.new u 86 [.int .i64 pr, v]).lt) (fun h => Nat.lt_trans (hs.lt h) (Blk.new u 86 [.int .i64 pr, v]).lt), v, Blk.new u _ _, hs.kept ((Keep.refl _ u).alloc _), fun b hb => ⟨.inr hb, fun e => by have := hs.lt hb; omega⟩⟩
def Kn.lvb (base : Nat) (pr : Int) (X : List Ent) : Kn := ⟨fun x w => ∃ v, x = .agg [.int .i64 pr, v].toArray ∧ Sl w 95 10 v X.length (ents X) ∧ ∀ b, v.ownBlock = some b → base ≤ b, fun _ _ _ ⟨v, h1, h2, h3⟩ hk => ⟨v, h1, h2.kept hk, h3⟩⟩
def Kn.lvn (base : Nat) (pr : Int) (X : List Ent) : Kn := ⟨fun x w => ∃ q F, x = .pointer (some ⟨q, 0, none⟩) ∧ Lvl pr 86 95 w F q X ∧ ∀ b, F b → base ≤ b, fun _ _ _ ⟨q, F, h1, h2, h3⟩ hk => ⟨q, F, h1, h2.kept hk, h3⟩⟩
def Kn.lvo (base : Nat) (pr : Int) (X : List Ent) : Kn := ⟨fun x w => ∃ g q F, x = .slice (some ⟨g, 0, none⟩) 1 1 ∧ Blk w g 87 [.pointer (some ⟨q, 0, none⟩)] ∧ Lvl pr 86 95 w F q X ∧ (∀ b, F b → base ≤ b) ∧ base ≤ g ∧ ¬ F g, fun _ _ _ ⟨g, q, F, h1, h2, h3, h4⟩ hk => ⟨g, q, F, h1, h2.kept hk, h3.kept hk, h4⟩⟩
def CopyIn (base : Nat) (pr : Int) (X : List Ent) (v : Value) (n : Nat) (A : List Value) : Value → World → World → Prop := fun v' u u' => ∃ q F1, Lvl pr 86 95 u' F1 q X ∧ (∀ b, F1 b → base ≤ b) ∧ Sl u' 87 1 v' (n + 1) (A ++ [.pointer (some ⟨q, 0, none⟩)]) ∧ (∀ b, v'.ownBlock = some b → (v.ownBlock = some b ∨ base ≤ b) ∧ ¬ F1 b) ∧ Keep (fun b => v.ownBlock = some b) u u'
theorem built_rl2 (x : Int) (A : Option Addr) (n c : Nat) : Try.prog.built 86 [(0, .int .i64 x), (1, .slice A n c)] = some [.int .i64 x, .slice A n c].toArray := by kernel_rfl
theorem sl_shape {w : World} {T : TypeId} {k n : Nat} {v : Value} {cs : List Value} (h : Sl w T k v n cs) : ∃ A n c, v = .slice A n c := by
 obtain ⟨_, A, c, rfl, _⟩ := h
 exact ⟨A, n, c, rfl⟩
theorem exec_brl2 {a : Act} {o : Oper} {u : World} (x y : Operand) (p : Int) (v : Value) (hop : o.op = .build 86 #[(0, x), (1, y)]) (hx : a.eval x = .int .i64 p) (hy : a.eval y = v) (hc : ∃ A n c, v = .slice A n c) : (execOp a.eval o).run Try.prog u = .ok (.value (.agg [.int .i64 p, v].toArray)) u := by
 obtain ⟨A, n, c, rfl⟩ := hc
 exact exec_build _ [(0, x), (1, y)] [.int .i64 p, .slice A n c] hop (by simp only [List.map_cons, List.map_nil, hx, hy]; exact built_rl2 p A n c)
theorem built_bo (x y : Int) : Try.prog.built 46 [(1, .int .i64 x), (2, .int .i64 y)] = some (rbCells (.slice none 0 0) (.slice none 0 0) x y).toArray := by kernel_rfl
theorem exec_bbo {a : Act} {o : Oper} {u : World} (x y : Operand) (p q : Int) (hop : o.op = .build 46 #[(1, x), (2, y)]) (hx : a.eval x = .int .i64 p) (hy : a.eval y = .int .i64 q) : (execOp a.eval o).run Try.prog u = .ok (.value (.agg (rbCells (.slice none 0 0) (.slice none 0 0) p q).toArray)) u :=
 exec_build _ [(1, x), (2, y)] (rbCells (.slice none 0 0) (.slice none 0 0) p q) hop (by simp only [List.map_cons, List.map_nil, hx, hy]; exact built_bo p q)
theorem rbk_new {w : World} {r : Nat} {x y : Int} (h : Blk w r 46 (rbCells (.slice none 0 0) (.slice none 0 0) x y)) : RBk w (· = r) r ⟨[], [], x, y⟩ :=
 ⟨rfl, fun b e => by rw [e]; exact h.lt, _, _, fun _ => False, fun _ => False, h, Way.nil w, Way.nil w, fun b h => h.elim, fun b h => h.elim⟩
set_option maxRecDepth 100000 in
set_option maxHeartbeats 3200000 in
theorem rbcopied_any (w : World) (F : Nat → Prop) (p : Nat) (B : Bok) (h : RBk w F p B) (hI : Inv B) :
  Calls Try.prog 49 #[.pointer (some ⟨p, 0, none⟩)] w fun e w' => ∃ r F', e = .returned (.pointer (some ⟨r, 0, none⟩)) ∧ RBk w' F' r B ∧ (∀ b, F' b → w.heap.size ≤ b) ∧ Kept w w' := by
 have HB := Lib.hid h
 have HI := Lib.hid hI
 have hlast : w.cell? ⟨p, 3, none⟩ = some (.int .i64 B.last) ∧ w.cell? ⟨p, 4, none⟩ = some (.int .i64 B.no) := by
  obtain ⟨_, _, v1, v2, _, _, hB, _⟩ := h
  exact ⟨hB.cell 3, hB.cell 4⟩
 have HL3 := Lib.hid hlast.1
 have HL4 := Lib.hid hlast.2
 clear h hI hlast
 go_enter Try.func49, Try.ntmps49
 go_upto_region 1 with fail
 refine wp_free 10 [pE p 0, pE p 0, pE p 3, iE B.last, pE p 0, pE p 0, pE p 4, iE B.no, .eq (.agg (rbCells (.slice none 0 0) (.slice none 0 0) B.last B.no).toArray), .fresh w.heap.size 46 (rbCells (.slice none 0 0) (.slice none 0 0) B.last B.no)] (by kernel_rfl) rfl (by kernel_rfl) ?_ ?_
 ·refine mE 1 0 ?_
  refine nD 2 7 0 ?_
  refine fD 3 8 1 46 1 3 0 ?_
  refine sW 4 rfl (fun a u E D hk=>exec_loadi _ Try.underlying3 _ _ _ rfl (dD D 2) (Kept.cell hk (HL3.out))) ?_
  refine mE 5 0 ?_
  refine nD 6 11 4 ?_
  refine fD 7 12 5 46 2 4 0 ?_
  refine sW 8 rfl (fun a u E D hk=>exec_loadi _ Try.underlying3 _ _ _ rfl (dD D 6) (Kept.cell hk (HL4.out))) ?_
  refine sW 9 rfl (fun a u E D hk=>exec_bbo _ _ B.last B.no rfl (dD D 3) (dD D 7)) ?_
  refine nW 10 rfl (fun a u E D hk=>⟨_, _, exec_box 46 _ (rbCells (.slice none 0 0) (.slice none 0 0) B.last B.no) rfl (dD D 8), ⟨_, rfl, hk.size, Blk.new u _ _⟩, ((Keep.refl _ u).alloc _)⟩) ?_
  exact fz
 intro gv w1 hV k1
 rw [dq 10 [7,8,9,10,11,12,13,14,15,16]]
 simp only [F7]
 have hv16 : (.fresh w.heap.size 46 (rbCells (.slice none 0 0) (.slice none 0 0) B.last B.no) : Kn).p (gv 16) w1 := hV 9 16 (by kernel_rfl)
 generalize gv 16 = v16 at hv16 ⊢
 clear hV
 obtain ⟨r, rfl, hr, hBr⟩ := hv16
 refine l_val (.pointer (some ⟨r, 0, none⟩)) rfl (exec_assign _ _ rfl (by kernel_rfl)) ?_
 simp only [Act.put, sA, sS, sZ]
 refine wpList_nil ?_
 have HR0 : Hid (RBk w1 (· = r) r (partB B 0)) := rbk_new hBr
 clear hBr
 go_wp2_with fail
 go_loopw [17] (fun q wr => ∃ (k : Nat) (F' : Nat → Prop), k ≤ 3 ∧ q = .int .i64 (k : Int) ∧ Hid (RBk wr F' r (partB B k)) ∧ Hid (∀ b, F' b → w.heap.size ≤ b) ∧ Kept w wr) (fun q _ => 3 - (intOf q).toNat)
 case atStart => exact ⟨0, _, by omega, rfl, HR0, (fun b e => by have e2 : b = r := e; omega), k1⟩
 case round =>
  obtain ⟨k, F', hk3, rfl, HR, HF, hkr⟩ := hrel
  by_cases hk : k < 3
  ·obtain ⟨L, hLe⟩ : ∃ L, B.sd (k : Int) = L := ⟨_, rfl⟩
   have hL : LvsOk L := by rw [← hLe]; exact HI.out.ok _
   obtain ⟨v, F1, hv0, hW⟩ := HB.out.way3 hk
   rw [hLe] at hW
   obtain ⟨Z, G, eL, hW⟩ := hW
   have hn64 : Z.length ≤ 64 := by have := hL.len; rw [← eL, levs_len] at this; exact this
   have HLe := Lib.hid hLe
   have HV := Lib.hid (hkr.cell hv0)
   have HW := Lib.hid hW
   have HL := Lib.hid hL
   have EL := Lib.hid eL
   obtain ⟨n, hn⟩ : ∃ n, Z.length = n := ⟨_, rfl⟩
   have HSL := Lib.hid hW.sl
   rw [hn] at HSL hn64
   have HN := Lib.hid hn
   have HSLr := Lib.hid (HSL.out.kept hkr)
   clear hLe hv0 hW hL eL hn
   go_upto_region 5 with fail
   refine wp_text 8 [pE p 0, iE (k : Int), pE p 0, pE p 0, pE p (0 + k * 1), .eq (v), iE (n : Int), iE 0] rfl (by kernel_rfl) ?_ ?_
   ·refine mE 1 0 ?_
    refine mE 2 4 ?_
    refine nD 3 20 0 ?_
    refine fD 4 22 2 46 0 0 0 ?_
    refine sW 5 rfl (fun a u E D hk=>exec_elem 44 43 3 1 _ _ p 0 k rfl Try.underlying44 (by kernel_rfl) (dD D 3) (dD D 1) (by omega)) ?_
    refine sW 6 rfl (fun a u E D hk=>exec_ldv _ _ Try.underlying43 _ _ _ rfl (dD D 4) (Kept.cell hk (HV.out))) ?_
    refine sW 7 rfl (fun a u E D hk=>exec_lenS _ slQR _ _ _ _ rfl (dD D 5) HSLr.out) ?_
    refine sW 8 rfl (fun a u E D hk=>exec_move _ _ rfl rfl) ?_
    exact fz
   intro gv w1 hV k1
   rw [dq 8 [20,21,22,23,24,25,26,27]]
   simp only [F7]
   rw [gQ hV 5 25 v]
   rw [gQ hV 6 26 (.int .i64 (n : Int))]
   rw [gQ hV 7 27 (.int .i64 0)]
   clear hV
   refine wpList_nil ?_
   have kw1 := hkr.trans k1
   clear HV HSLr hkr
   go_wp2_with fail
   go_loopw [27] (fun q wr => ∃ (i : Nat) (F' : Nat → Prop), i ≤ n ∧ q = .int .i64 (i : Int) ∧ Hid (RBk wr F' r ((partB B k).to (k : Int) (L.take i) B.last B.no)) ∧ Hid (∀ b, F' b → w.heap.size ≤ b) ∧ Kept w wr) (fun q _ => n - (intOf q).toNat)
   case atStart => exact ⟨0, F', Nat.zero_le _, rfl, (by show RBk _ _ _ _; rw [List.take_zero, part_start B hk]; exact HR.out.kept k1), HF, kw1⟩
   case round =>
    obtain ⟨i, F2, hi, rfl, HR2, HF2, hkr2⟩ := hrel
    by_cases hlt : i < n
    ·obtain ⟨gs, os, cc, rfl⟩ := HSL.out.some_ (by omega)
     obtain ⟨z, hz⟩ : ∃ z, Z[i]? = some z := ⟨Z[i]'(by rw [HN.out]; omega), List.getElem?_eq_getElem (by rw [HN.out]; omega)⟩
     obtain ⟨q, pr, X⟩ := z
     have HC := Lib.hid ((HW.out.kept hkr2).cell hz)
     have HLV := Lib.hid (HW.out.lv (q, pr, X) (List.mem_of_getElem? hz))
     have HX := Lib.hid (HL.out.one (l := (pr, X)) (by rw [← EL.out]; exact levs_mem (List.mem_of_getElem? hz)))
     have HA : Hid (L[i]? = some (pr, X)) := by show _ = _; rw [← EL.out]; exact levs_at hz
     have h12 : k = 1 ∨ k = 2 := by
      by_cases h0 : k = 0
      ·exfalso
       subst h0
       have e0 : L = [] := by rw [← HLe.out]; rfl
       have := HA.out
       rw [e0] at this
       simp at this
      ·omega
     clear hz
     go_upto_region 7 with fail
     refine wp_text 3 [pE gs (os + i * 1), pE q 0, pE q 0] rfl (by kernel_rfl) ?_ ?_
     ·refine sW 1 rfl (fun a u E D hk=>exec_ixo slQR _ _ (gs) (os) n cc i (os + i * 1) ((i : Int)) rfl (eE E) (eE E) (by first | rfl | omega) (hlt) (by first | rfl | omega)) ?_
      refine sW 2 rfl (fun a u E D hk=>exec_ldp _ _ Try.underlying87 _ _ _ rfl (dD D 0) (Kept.cell hk (HC.out))) ?_
      refine mD 3 30 1 ?_
      exact fz
     intro gv w2 hV k2
     rw [dq 3 [29,30,6]]
     simp only [F7]
     rw [gQ hV 2 6 (.pointer (some ⟨q, 0, none⟩))]
     clear hV
     refine wpList_nil ?_
     have kw2 := hkr2.trans k2
     have hs12 : (k : Int) = 1 ∨ (k : Int) = 2 := by omega
     obtain ⟨v2, u2, Z2, G2, Fs2, e2, hW2, hB2, hFs2, hr2, hlt2, hJ2⟩ := (HR2.out.kept k2).open_ hs12
     rw [Bok.to_sd hs12] at e2
     have hZ2 : Z2.length = i := by
      have := congrArg List.length e2
      rw [levs_len, List.length_take, ← EL.out, levs_len, HN.out] at this
      omega
     have hS2 := hW2.sl
     rw [hZ2] at hS2
     have HS2 := Lib.hid hS2
     have HV2 := Lib.hid (rsd_cell h12 hB2)
     have HB2 := Lib.hid hB2
     have HW2 := Lib.hid hW2
     have HJ2 := Lib.hid hJ2
     have HFs2 := Lib.hid hFs2
     have HE2 := Lib.hid e2
     have HZ2 := Lib.hid hZ2
     have HSo : Hid (∀ b, v2.ownBlock = some b → b < w2.heap.size) := fun b hb => hS2.lt hb
     have hrl := hlt2 r hr2
     have hHr := HF2.out r hr2
     have hrF : ¬ Fs2 r := fun h => (hFs2 r h).2 rfl
     obtain ⟨_, _, vq, hq1, hq2, _⟩ := HLV.out.kept kw2
     have HQ0 := Lib.hid (hq1.cell 0)
     have HQ1 := Lib.hid (hq1.cell 1)
     have HQS := Lib.hid hq2
     have HX64 : Hid (X.length ≤ 64) := HX.out
     have hi64 : i ≤ 64 := by omega
     clear HC hkr2 hW2 hB2 hJ2 hFs2 e2 hZ2 hS2 hlt2 hq1 hq2
     go_upto_region 8 with fail
     refine wp_freeQ 24 21 (fun i_ : Nat => i_ == 0 || i_ == 1 || i_ == 22 || i_ == 23) [.eq (.pointer (some ⟨r, 0, none⟩)), .eq (.int .i64 (k : Int)), .eq (.pointer (some ⟨r, 0, none⟩)), .eq (.int .i64 (k : Int)), .eq (.pointer (some ⟨r, 0, none⟩)), .eq (.pointer (some ⟨r, 0, none⟩)), .eq (.pointer (some ⟨r, 0 + k * 1, none⟩)), .eq (v2), .eq (.pointer (some ⟨q, 0, none⟩)), .eq (.pointer (some ⟨q, 0, none⟩)), .eq (.pointer (some ⟨q, 0, none⟩)), .eq (.int .i64 pr), .emp w2.heap.size 95, .eq (.pointer (some ⟨q, 0, none⟩)), .eq (.pointer (some ⟨q, 0, none⟩)), .eq (.pointer (some ⟨q, 1, none⟩)), .eq (vq), .sl w2.heap.size 95 10 X.length (ents X), .lvb w2.heap.size pr X, .lvn w2.heap.size pr X, .lvo w2.heap.size pr X, .any, .eq (.pointer (some ⟨r, 0, none⟩)), .eq (.pointer (some ⟨r, 0, none⟩))] (fun i_ : Nat => if i_ = 0 then .pointer (some ⟨r, 0, none⟩) else if i_ = 1 then .int .i64 (k : Int) else if i_ = 22 then .pointer (some ⟨r, 0, none⟩) else if i_ = 23 then .pointer (some ⟨r, 0, none⟩) else undef) ((CopyIn w2.heap.size pr X v2 i (ptrs Z2))) (by kernel_rfl) rfl (fun i_ hi_ hs_ => by have h_ : i_ = 0 ∨ i_ = 1 ∨ i_ = 22 ∨ i_ = 23 := (by simp at hs_; omega); rcases h_ with rfl | rfl | rfl | rfl <;> rfl) (by kernel_rfl) (by kernel_rfl) (by kernel_rfl) (fun i_ hi_ hs_ => by have h_ : i_ = 0 ∨ i_ = 1 ∨ i_ = 22 ∨ i_ = 23 := (by simp at hs_; omega); rcases h_ with rfl | rfl | rfl | rfl; exact (fun a u hE hD => qs_val (o := ⟨some 31, _, _, _, _, _⟩) (.pointer (some ⟨r, 0, none⟩)) rfl (wanted_none rfl _) (exec_move (.tmp 3) _ rfl (eE hE))); exact (fun a u hE hD => qs_val (o := ⟨some 32, _, _, _, _, _⟩) (.int .i64 (k : Int)) rfl (wanted_none rfl _) (exec_move (.tmp 4) _ rfl (eE hE))); exact (fun a u hE hD => qs_val (o := ⟨some 53, _, _, _, _, _⟩) (.pointer (some ⟨r, 0, none⟩)) rfl (wanted_none rfl _) (exec_nilp (.tmp 31) ⟨r, 0, none⟩ rfl (dD hD 0))); exact (fun a u hE hD => qs_val (o := ⟨some 54, _, _, _, _, _⟩) (.pointer (some ⟨r, 0, none⟩)) rfl (wanted_none rfl _) (exec_fldo 46 0 0 (.tmp 53) (r) (0) (0) rfl (dD hD 22) (by kernel_rfl) rfl))) ?_ (fun a u hE hD hk =>  (by obtain ⟨g1, q1, F1, hx, hb1, hl1, hf1, hg1, hn1⟩ := (hD 20 51 (by kernel_rfl)); obtain ⟨v', u', hr, hs', hk', ho'⟩ := run_append_sl slQR _ u v2 (a.eval (.tmp 51)) i 1 _ _ (HS2.out.kept hk) (by rw [hx]; exact sl_one1 hb1) (ptr_one _) (by unfold maxLen; omega) (by omega); refine t_last (o := ⟨some 52, _, _, _, _, _⟩) (R := (CopyIn w2.heap.size pr X v2 i (ptrs Z2))) (m := 21) (v := v') (w' := u') rfl (wanted_none rfl _) (exec_appS slQR (.tmp 38) (.tmp 51) _ _ rfl (dD hD 7) rfl v' u' hr) ?_; exact ⟨q1, F1, hl1.keep hk' (fun b hb h => by have := HSo.out b h; have := hf1 b hb; omega), hf1, hs', fun b hb => ⟨(ho' b hb).imp id (fun h => Nat.le_trans hk.size h), fun hF => (ho' b hb).elim (fun h => by have := HSo.out b h; have := hf1 b hF; omega) (fun h => by have := hl1.2.1 b hF; omega)⟩, hk'⟩)) ?_
     ·refine qsteps_skip 1 rfl (by first | exact .inl rfl | exact .inr rfl) ?_
      refine qsteps_skip 2 rfl (by first | exact .inl rfl | exact .inr rfl) ?_
      refine qsteps_cons 3 rfl (fun a u hE hD hk => f_val _ rfl (wanted_none rfl _) (exec_move (.tmp 3) _ rfl (eE hE)) rfl) ?_
      refine qsteps_cons 4 rfl (fun a u hE hD hk => f_val _ rfl (wanted_none rfl _) (exec_move (.tmp 4) _ rfl (eE hE)) rfl) ?_
      refine qsteps_cons 5 rfl (fun a u hE hD hk => f_val _ rfl (wanted_none rfl _) (exec_nilp (.tmp 33) ⟨r, 0, none⟩ rfl (dD hD 2)) rfl) ?_
      refine qsteps_cons 6 rfl (fun a u hE hD hk => f_val _ rfl (wanted_none rfl _) (exec_fldo 46 0 0 (.tmp 35) (r) (0) (0) rfl (dD hD 4) (by kernel_rfl) rfl) rfl) ?_
      refine qsteps_cons 7 rfl (fun a u hE hD hk => f_val _ rfl (wanted_none rfl _) (exec_elem 44 43 3 1 (.tmp 36) (.tmp 34) r 0 k rfl Try.underlying44 (by kernel_rfl) (dD hD 5) (dD hD 3) (by omega)) rfl) ?_
      refine qsteps_cons 8 rfl (fun a u hE hD hk => f_val _ rfl (wanted_none rfl _) (exec_ldv 43 _ Try.underlying43 (.tmp 37) ⟨r, 0 + k * 1, none⟩ (v2) rfl (dD hD 6) (Kept.cell hk (HV2.out))) rfl) ?_
      refine qsteps_cons 9 rfl (fun a u hE hD hk => f_val _ rfl (wanted_none rfl _) (exec_move (.tmp 6) _ rfl (eE hE)) rfl) ?_
      refine qsteps_cons 10 rfl (fun a u hE hD hk => f_val _ rfl (wanted_none rfl _) (exec_nilp (.tmp 39) ⟨q, 0, none⟩ rfl (dD hD 8)) rfl) ?_
      refine qsteps_cons 11 rfl (fun a u hE hD hk => f_val _ rfl (wanted_none rfl _) (exec_fldo 86 0 0 (.tmp 40) (q) (0) (0) rfl (dD hD 9) (by kernel_rfl) rfl) rfl) ?_
      refine qsteps_cons 12 rfl (fun a u hE hD hk => f_val _ rfl (wanted_none rfl _) (exec_loadi 3 Try.underlying3 (.tmp 41) ⟨q, 0, none⟩ (.int .i64 pr) rfl (dD hD 10) (Kept.cell hk (HQ0.out))) rfl) ?_
      refine qsteps_cons 13 rfl (fun a u hE hD hk => f_new (.slice (some ⟨u.heap.size, 0, none⟩) 0 0) _ rfl (wanted_none rfl _) (exec_none 84 95 10 rfl slR.und szR) ⟨_, rfl, hk.size, Blk.new u _ _⟩ ((Keep.refl _ u).alloc _)) ?_
      refine qsteps_cons 14 rfl (fun a u hE hD hk => f_val _ rfl (wanted_none rfl _) (exec_move (.tmp 6) _ rfl (eE hE)) rfl) ?_
      refine qsteps_cons 15 rfl (fun a u hE hD hk => f_val _ rfl (wanted_none rfl _) (exec_nilp (.tmp 44) ⟨q, 0, none⟩ rfl (dD hD 13)) rfl) ?_
      refine qsteps_cons 16 rfl (fun a u hE hD hk => f_val _ rfl (wanted_none rfl _) (exec_fldo 86 1 1 (.tmp 45) (q) (0) (1) rfl (dD hD 14) (by kernel_rfl) rfl) rfl) ?_
      refine qsteps_cons 17 rfl (fun a u hE hD hk => f_val _ rfl (wanted_none rfl _) (exec_ldv 84 _ Try.underlying84 (.tmp 46) ⟨q, 1, none⟩ (vq) rfl (dD hD 15) (Kept.cell hk (HQ1.out))) rfl) ?_
      refine qsteps_cons 18 rfl (fun a u hE hD hk => (by obtain ⟨v', u', hr, hp, hkk⟩ := run_append_emp slR _ u (a.eval (.tmp 43)) vq X.length w2.heap.size _ ((dD hD 12)) (HQS.out.kept hk) (ents_one _) (by have := HX64.out; omega) (by omega) hk.size; exact f_new v' u' rfl (wanted_none rfl _) (exec_appS slR (.tmp 43) (.tmp 47) _ vq rfl rfl (dD hD 16) v' u' hr) hp hkk)) ?_
      refine qsteps_cons 19 rfl (fun a u hE hD hk => f_val _ rfl (wanted_none rfl _) (exec_brl2 (.tmp 42) (.tmp 48) pr _ rfl (dD hD 11) rfl (sl_shape ((hD 17 48 (by kernel_rfl))).1)) ⟨_, rfl, (dD hD 17)⟩) ?_
      refine qsteps_cons 20 rfl (fun a u hE hD hk => (by obtain ⟨v48, hx, hs, ho⟩ := (hD 18 49 (by kernel_rfl)); exact f_new (.pointer (some ⟨u.heap.size, 0, none⟩)) _ rfl (wanted_none rfl _) (exec_box 86 (.tmp 49) [.int .i64 pr, v48] rfl hx) ⟨u.heap.size, _, rfl, lvl_copy hs, fun b hb => hb.elim (fun e => by rw [e]; exact hk.size) (ho b)⟩ ((Keep.refl _ u).alloc _))) ?_
      refine qsteps_cons 21 rfl (fun a u hE hD hk => (by obtain ⟨q1, F1, hx, hl1, hf1⟩ := (hD 19 50 (by kernel_rfl)); exact f_new (.slice (some ⟨u.heap.size, 0, none⟩) 1 1) _ rfl (wanted_none rfl _) (exec_oneP slQR (.tmp 50) q1 rfl hx) ⟨u.heap.size, q1, F1, rfl, Blk.new u _ _, hl1.kept ((Keep.refl _ u).alloc _), hf1, hk.size, fun h => by have := hl1.2.1 _ h; omega⟩ ((Keep.refl _ u).alloc _))) ?_
      refine qsteps_skip 22 rfl (by first | exact .inl rfl | exact .inr rfl) ?_
      refine qsteps_skip 23 rfl (by first | exact .inl rfl | exact .inr rfl) ?_
      refine qsteps_skip 24 rfl (by first | exact .inl rfl | exact .inr rfl) ?_
      exact qsteps_nil
     intro gv w1 w7 hV h0 hR hk1
     rw [dq 24 [31,32,33,34,35,36,37,38,39,40,41,42,43,44,45,46,47,48,49,50,51,52,53,54]]
     simp only [F7]
     have hT := hR 52 (by kernel_rfl)
     generalize gv 52 = v52 at hT ⊢
     rw [show gv 31 = .pointer (some ⟨r, 0, none⟩) from h0 0 (by omega) rfl 31 (by kernel_rfl)]
     rw [show gv 32 = .int .i64 (k : Int) from h0 1 (by omega) rfl 32 (by kernel_rfl)]
     rw [show gv 53 = .pointer (some ⟨r, 0, none⟩) from h0 22 (by omega) rfl 53 (by kernel_rfl)]
     rw [show gv 54 = .pointer (some ⟨r, 0, none⟩) from h0 23 (by omega) rfl 54 (by kernel_rfl)]
     clear hV h0 hR
     obtain ⟨q1, F1, hl7, hf7, hs7, ho7, hk7⟩ := hT
     have k67 : Keep (fun b => v2.ownBlock = some b) w2 w7 := (Keep.mono (T := fun b => v2.ownBlock = some b) hk1 (fun _ _ h => h.elim)).trans hk7 (fun _ _ h => h)
     have hB7 := HB2.out.keep k67 (fun h => hrF ((HW2.out.own r h).1))
     refine l_val (.pointer (some ⟨r, 0 + k * 1, none⟩)) rfl (exec_elem 44 43 3 1 (.tmp 54) (.tmp 32) r 0 k rfl Try.underlying44 (by kernel_rfl) rfl rfl (by omega)) ?_
     simp only [Act.put, sA, sS, sZ]
     refine l_st1 43 r (0 + k * 1) 46 _ v52 _ _ rfl rfl (by kernel_rfl) (by kernel_rfl) (by kernel_rfl) (sl_cells hs7) (sl_onec hs7) hB7 (by rw [rsd_len h12]; omega) ?_
     intro w8 hB8 hk8 hs8
     simp only [Act.put]
     refine wpList_nil ?_
     rw [rsd_set h12] at hB8
     have hWi : WayZ 86 95 87 w2 Fs2 v2 (Z2 ++ []) G2 := by rw [List.append_nil]; exact HW2.out
     obtain ⟨FX, GX, hWX, hgX, hkX, _⟩ := hWi.moreX (w' := w7) (v' := v52) (q := q1) (pr := pr) (X := X) (F1 := F1) k67 (by rw [HZ2.out, List.length_nil, ptrs_append]; exact hs7) ho7 hl7 hf7
     have zX := hkX.size
     have hpX : ¬ FX r := fun h => (hgX r h).elim hrF (fun h => by omega)
     have hW8 := hWX.keep hk8 (fun b hb e => hpX (by have e3 : b = r := e; rw [← e3]; exact hb))
     have k28 : Keep (fun b => Fs2 b ∨ b = r) w2 w8 := (Keep.mono (T := fun b => Fs2 b ∨ b = r) k67 (fun b _ h => .inl (HW2.out.own b h).1)).trans hk8 (fun b _ e => .inr e)
     obtain ⟨F3, q3, q4, q5, _⟩ := HJ2.out w8 _ _ _ _ _ k28 hB8 ⟨_, _, rfl, hW8⟩ hgX
     have HR3 : Hid (RBk w8 F3 r ((partB B k).to (k : Int) (L.take (i + 1)) B.last B.no)) := by
      show RBk _ _ _ _
      rw [levs_append, HE2.out, Bok.to_to hs12] at q3
      rw [List.take_add_one, HA.out]
      exact q3
     have z2 := kw2.size
     have HF3 : Hid (∀ b, F3 b → w.heap.size ≤ b) := fun b hb => (q4 b hb).elim (HF2.out b) (fun h => by omega)
     have kw8 : Kept w w8 := Keep.trans kw2 q5 (fun b hb h => by have := HF2.out b h; omega)
     clear q3 q4 q5 hW8 k28 hWX hgX hkX hWi hB8 hk8 hs8 hl7 hf7 hs7 ho7 hk7 k67 hB7 HV2 HB2 HW2 HJ2 HS2 HR2 kw2 hk1
     go_wp2
     exact ⟨⟨i + 1, F3, by omega, by go_num, HR3, HF3, kw8⟩, by simp [intOf]; omega⟩
    ·have HR3 : Hid (RBk wr F2 r (partB B (k + 1))) := by
      show RBk _ _ _ _
      rw [← part_end B hk, HLe.out]
      have := HR2.out
      rw [List.take_of_length_le (by rw [← EL.out, levs_len, HN.out]; omega)] at this
      exact this
     clear HR2
     go_wp2
     exact ⟨⟨k + 1, F2, by omega, by go_num, HR3, HF2, hkr2⟩, by simp [intOf]; omega⟩
  ·have hk' : k = 3 := by omega
   subst hk'
   go_wp2
   go_ret
   exact ⟨r, F', rfl, HR.out, HF.out, hkr⟩
end Go.Proofs.Ytfpfpmhkkgfdbaa
namespace Go.Proofs.Ytfpfpmhkkgfdbaa
open Go.RowKit
set_option maxRecDepth 100000
variable {pr : Int}
theorem Lvl.renew3 {T E : TypeId} {w1 w2 : World} {F : Nat → Prop} {p base : Nat} {X Y : List Ent} {v' : Value} (h : Lvl pr T E w1 F p X) (hb : p < base) (hs : Sl w1 E 10 v' Y.length (ents Y)) (ho : ∀ b, v'.ownBlock = some b → base ≤ b) (hB : Blk w2 p T [.int .i64 pr, v']) (hk2 : Keep (· = p) w1 w2) :
  ∃ F', Lvl pr T E w2 F' p Y ∧ True ∧ Keep F w1 w2 ∧ ∀ b, F' b → F b ∨ base ≤ b := by
 refine ⟨fun b => F b ∨ v'.ownBlock = some b, ⟨.inl h.1, fun b hb' => ?_, v', hB, hs.keep hk2 (fun b hb' e => by have := ho b hb'; omega), fun b hb' => ⟨.inr hb', fun e => by have := ho b hb'; omega⟩⟩, trivial, hk2.mono (fun b _ e => by subst e; exact h.1), fun b hb' => hb'.imp id (ho b)⟩
 have := hk2.size
 rcases hb' with h1 | h1
 ·have := h.2.1 b h1; omega
 ·have := hs.lt h1; omega
set_option maxRecDepth 100000 in
set_option maxHeartbeats 3200000 in
theorem rtake_any (w : World) (F : Nat → Prop) (p : Nat) (X : List Ent) (firm q : Int) (h : Lvl pr 86 95 w F p X) (hX : Good X) (hq : q ≤ 9223372036854775807) :
  Calls Try.prog 74 #[.pointer (some ⟨p, 0, none⟩), .int .i64 firm, .int .i64 q] w (TakeIn pr 86 95 w F p X (takeM firm q X)) := by
 have HL0 := Lib.hid h
 have HX0 := Lib.hid hX
 clear h hX
 go_enter Try.func74, Try.ntmps74
 go_wp2_with fail
 go_loopw [2, 8] (fun t h wr => ∃ (q' : Int) (H X' : List Ent) (F' : Nat → Prop), t = .int .i64 q' ∧ q' ≤ 9223372036854775807 ∧ Hid (Sl wr 39 10 h H.length (ents H)) ∧ Hid (∀ b, h.ownBlock = some b → w.heap.size ≤ b ∧ ¬ F' b) ∧ Hid (Lvl pr 86 95 wr F' p X') ∧ Hid (Good X') ∧ Hid (Grow w F F') ∧ Keep F w wr ∧ Hid ((H.length : Int) + wholeM X' ≤ wholeM X) ∧ Hid (takeM firm q X = (H ++ (takeM firm q' X').1, (takeM firm q' X').2))) (fun t _ _ => (intOf t).toNat)
 case atStart => exact ⟨q, [], X, F, rfl, hq, Sl.nil _ _ _, fun b hb => (by simp [Value.ownBlock] at hb), HL0.out, HX0.out, Grow.refl _ _, Keep.refl _ _, by show _ ≤ _; simp, by show _ = _; simp⟩
 case round =>
  obtain ⟨q', H, X', F', rfl, hq', HV, HO, HL, HX, HG, hkF, HW, HT⟩ := hrel
  obtain ⟨v8, hv8⟩ : ∃ v8, v8 = u8 := ⟨_, rfl⟩
  subst hv8
  by_cases hq0 : 0 < q'
  ·cases X' with
   | nil =>
    obtain ⟨h1, h2, v, hB, hS, h5⟩ := HL.out
    obtain ⟨m, hm⟩ : ∃ m, ([] : List Ent).length = m := ⟨_, rfl⟩
    rw [hm] at hS
    have HB := Lib.hid hB
    have HS := Lib.hid hS
    have hpl := h2 p h1
    clear hB hS h1 h2 h5
    have HD := Lib.hid (take_done (t := takeM firm q X) HT.out (takeM_nil firm q'))
    have hm0 : m = 0 := by simpa using hm.symm
    clear HT
    go_upto_region 2 with fail
    refine wp_text 10 [iE q', bE true, bE true, pE p 0, pE p 0, pE p 1, .eq (v), iE (m : Int), bE false, bE false] rfl (by kernel_rfl) ?_ ?_
    ·refine mE 1 2 ?_
     refine aS 2 rfl (fun a u E D hk=>exec_gtn rfl (dD D 0) rfl) (decide_eq_true hq0) ?_
     refine mD 3 13 1 ?_
     refine mE 4 0 ?_
     refine nD 5 15 3 ?_
     refine fD 6 16 4 86 1 1 0 ?_
     refine sW 7 rfl (fun a u E D hk=>exec_ldv _ _ Try.underlying84 _ _ _ rfl (dD D 5) (by rw [(HB.out.kept hk).cell]; rfl)) ?_
     refine sW 8 rfl (fun a u E D hk=>exec_lenS _ slR _ _ _ _ rfl (dD D 6) HS.out) ?_
     refine aS 9 rfl (fun a u E D hk=>exec_gtn rfl (dD D 7) rfl) (decide_eq_false (by omega)) ?_
     refine sW 10 rfl (fun a u E D hk=>exec_pick _ _ _ _ rfl (dD D 2) (dD D 8)) ?_
     exact fz
    intro gv w1 hV k1
    rw [dq 10 [12,13,14,15,16,17,18,19,20,21]]
    simp only [F7]
    rw [gQ hV 9 21 (.bool false)]
    clear hV
    refine wpList_nil ?_
    have kF1 := hkF.kept k1
    have s1 := k1.size
    go_wp2
    go_ret2
    refine ⟨F', v8, ?_, ?_, ?_, HO.out, HG.out, kF1⟩
    ·rw [HD.out]; rfl
    ·rw [HD.out]; exact HL.out.kept k1
    ·rw [HD.out]; exact HV.out.kept k1
   | cons e R =>
    obtain ⟨h1, h2, v, hB, hS, h5⟩ := HL.out
    obtain ⟨m, hm⟩ : ∃ m, (e :: R).length = m := ⟨_, rfl⟩
    rw [hm] at hS
    have HB := Lib.hid hB
    have HS := Lib.hid hS
    have hpl := h2 p h1
    clear hB hS h1 h2 h5
    have hm0 : 0 < m := by rw [← hm]; simp
    have hmR : m = R.length + 1 := by rw [← hm]; simp
    obtain ⟨g, off, c, rfl⟩ := HS.out.some_ hm0
    have HE : Hid (wr.rangeAt g off e.cells) := HS.out.rng 0 e rfl
    have hb := HX.out.bound (e := e) (by simp)
    go_upto_region 2 with fail
    refine wp_text 10 [iE q', bE true, bE true, pE p 0, pE p 0, pE p 1, .eq (.slice (some ⟨g, off, none⟩) m c), iE (m : Int), bE true, bE true] rfl (by kernel_rfl) ?_ ?_
    ·refine mE 1 2 ?_
     refine aS 2 rfl (fun a u E D hk=>exec_gtn rfl (dD D 0) rfl) (decide_eq_true hq0) ?_
     refine mD 3 13 1 ?_
     refine mE 4 0 ?_
     refine nD 5 15 3 ?_
     refine fD 6 16 4 86 1 1 0 ?_
     refine sW 7 rfl (fun a u E D hk=>exec_ldv _ _ Try.underlying84 _ _ _ rfl (dD D 5) (by rw [(HB.out.kept hk).cell]; rfl)) ?_
     refine sW 8 rfl (fun a u E D hk=>exec_len _ _ _ slR.und (some ⟨g, off, none⟩) m c rfl (dD D 6)) ?_
     refine aS 9 rfl (fun a u E D hk=>exec_gtn rfl (dD D 7) rfl) (decide_eq_true (by omega)) ?_
     refine sW 10 rfl (fun a u E D hk=>exec_pick _ _ _ _ rfl (dD D 2) (dD D 8)) ?_
     exact fz
    intro gv w1 hV k1
    rw [dq 10 [12,13,14,15,16,17,18,19,20,21]]
    simp only [F7]
    rw [gQ hV 9 21 (.bool true)]
    clear hV
    refine wpList_nil ?_
    have kF1 := hkF.kept k1
    have s1 := k1.size
    have HB1 := Lib.hid (HB.out.kept k1)
    have HE1 := Lib.hid (range_kept HE.out k1)
    by_cases hf : e.o.firm = firm
    ·have HD := Lib.hid (take_done (t := takeM firm q X) HT.out (takeM_own firm q' e R hq0 (by omega) hf))
     clear HT
     go_upto_region 3 with fail
     refine wp_text 7 [pE p 0, pE p 0, pE p 1, .eq (.slice (some ⟨g, off, none⟩) m c), pE g off, .eq (e.v), .fresh w1.heap.size 95 zeroE.cells] rfl (by kernel_rfl) ?_ ?_
     ·refine mE 1 0 ?_
      refine nD 2 22 0 ?_
      refine fD 3 23 1 86 1 1 0 ?_
      refine sW 4 rfl (fun a u E D hk=>exec_ldv _ _ Try.underlying84 _ _ _ rfl (dD D 2) (by rw [(HB1.out.kept hk).cell]; rfl)) ?_
      refine sW 5 rfl (fun a u E D hk=>exec_ixo slR _ _ (g) (off) m c 0 (off) (0) rfl (dD D 3) rfl (by first | rfl | omega) ((by omega)) (by first | rfl | omega)) ?_
      refine sW 6 rfl (fun a u E D hk=>exec_ldS 95 _ _ (g) (off) (e.cells) rfl (dD D 4) (range_kept HE1.out hk) Try.underlying95 (by rw [e.len10]; exact szR)) ?_
      refine nW 7 rfl (fun a u E D hk=>⟨_, _, exec_alc 95 zeroE.cells rfl zR, ⟨_, rfl, hk.size, Blk.new u _ _⟩, ((Keep.refl _ u).alloc _)⟩) ?_
      exact fz
     intro gv w2 hV k2
     rw [dq 7 [22,23,24,25,26,27,9]]
     simp only [F7]
     have hv9 : (.fresh w1.heap.size 95 zeroE.cells : Kn).p (gv 9) w2 := hV 6 9 (by kernel_rfl)
     generalize gv 9 = v9 at hv9 ⊢
     rw [gQ hV 5 27 e.v]
     clear hV
     obtain ⟨b9, rfl, hb9, hB9⟩ := hv9
     refine l_setS 95 b9 95 zeroE.cells e.cells _ _ rfl rfl (by kernel_rfl) (by kernel_rfl) hB9 (by rw [Ent.len10]; exact szR) (by rw [Ent.len10, Ent.len10]) (Ent.one _) ?_
     intro w3 hC3 hk3 hs3
     simp only [Act.put]
     refine wpList_nil ?_
     have k13 : Kept w1 w3 := k2.trans' hk3 (by omega)
     have kr3 := k1.trans k13
     have HC3 := Lib.hid hC3
     have HC3r := Lib.hid (blk_range hC3)
     have l9 := hC3.lt
     have s3 := k13.size
     clear hB9 hC3 hk3 k2 hs3
     go_upto_region 4 with fail
     refine wp_text 5 [pE b9 0, pE b9 2, iE e.o.firm, iE firm, bE true] rfl (by kernel_rfl) ?_ ?_
     ·refine fE 1 9 95 0 0 0 ?_
      refine fD 2 28 0 25 2 2 0 ?_
      refine sW 3 rfl (fun a u E D hk=>exec_loadi _ Try.underlying3 _ _ _ rfl (dD D 1) (range_int (range_kept HC3r.out hk) 2 _ rfl)) ?_
      refine mE 4 1 ?_
      refine aS 5 rfl (fun a u E D hk=>exec_eqn rfl (dD D 2) (dD D 3)) (decide_eq_true hf) ?_
      exact fz
     intro gv w4 hV k4
     rw [dq 5 [28,29,30,31,32]]
     simp only [F7]
     rw [gQ hV 4 32 (.bool true)]
     clear hV
     refine wpList_nil ?_
     have kr4 := kr3.trans k4
     have HC4 := Lib.hid (HC3.out.kept k4)
     have HC4r := Lib.hid (range_kept HC3r.out k4)
     have s4 := k4.size
     clear HC3 HC3r k4 k13 kr3
     go_wp2
     go_ret2
     refine ⟨F', v8, ?_, ?_, ?_, HO.out, HG.out, hkF.kept kr4⟩
     ·rw [HD.out]; rfl
     ·rw [HD.out]; exact HL.out.kept kr4
     ·rw [HD.out]; exact HV.out.kept kr4
    ·have hmn1 := mn_le q' e.n
     have hmn2 := mn_pos q' e.n hq0 (by omega)
     have hD0 := take_next_ HT.out hq0 (by omega) hf
     obtain ⟨n, hn⟩ : ∃ n, mn q' e.n = n := ⟨_, rfl⟩
     rw [hn] at hmn1 hmn2 hD0
     have HN : Hid ((if e.n < q' then e.n else q') = n) := hn
     have HD := Lib.hid hD0
     clear HT hn hD0
     go_upto_region 3 with fail
     refine wp_text 7 [pE p 0, pE p 0, pE p 1, .eq (.slice (some ⟨g, off, none⟩) m c), pE g off, .eq (e.v), .fresh w1.heap.size 95 zeroE.cells] rfl (by kernel_rfl) ?_ ?_
     ·refine mE 1 0 ?_
      refine nD 2 22 0 ?_
      refine fD 3 23 1 86 1 1 0 ?_
      refine sW 4 rfl (fun a u E D hk=>exec_ldv _ _ Try.underlying84 _ _ _ rfl (dD D 2) (by rw [(HB1.out.kept hk).cell]; rfl)) ?_
      refine sW 5 rfl (fun a u E D hk=>exec_ixo slR _ _ (g) (off) m c 0 (off) (0) rfl (dD D 3) rfl (by first | rfl | omega) ((by omega)) (by first | rfl | omega)) ?_
      refine sW 6 rfl (fun a u E D hk=>exec_ldS 95 _ _ (g) (off) (e.cells) rfl (dD D 4) (range_kept HE1.out hk) Try.underlying95 (by rw [e.len10]; exact szR)) ?_
      refine nW 7 rfl (fun a u E D hk=>⟨_, _, exec_alc 95 zeroE.cells rfl zR, ⟨_, rfl, hk.size, Blk.new u _ _⟩, ((Keep.refl _ u).alloc _)⟩) ?_
      exact fz
     intro gv w2 hV k2
     rw [dq 7 [22,23,24,25,26,27,9]]
     simp only [F7]
     have hv9 : (.fresh w1.heap.size 95 zeroE.cells : Kn).p (gv 9) w2 := hV 6 9 (by kernel_rfl)
     generalize gv 9 = v9 at hv9 ⊢
     rw [gQ hV 5 27 e.v]
     clear hV
     obtain ⟨b9, rfl, hb9, hB9⟩ := hv9
     refine l_setS 95 b9 95 zeroE.cells e.cells _ _ rfl rfl (by kernel_rfl) (by kernel_rfl) hB9 (by rw [Ent.len10]; exact szR) (by rw [Ent.len10, Ent.len10]) (Ent.one _) ?_
     intro w3 hC3 hk3 hs3
     simp only [Act.put]
     refine wpList_nil ?_
     have k13 : Kept w1 w3 := k2.trans' hk3 (by omega)
     have kr3 := k1.trans k13
     have HC3 := Lib.hid hC3
     have HC3r := Lib.hid (blk_range hC3)
     have l9 := hC3.lt
     have s3 := k13.size
     clear hB9 hC3 hk3 k2 hs3
     go_upto_region 4 with fail
     refine wp_text 5 [pE b9 0, pE b9 2, iE e.o.firm, iE firm, bE false] rfl (by kernel_rfl) ?_ ?_
     ·refine fE 1 9 95 0 0 0 ?_
      refine fD 2 28 0 25 2 2 0 ?_
      refine sW 3 rfl (fun a u E D hk=>exec_loadi _ Try.underlying3 _ _ _ rfl (dD D 1) (range_int (range_kept HC3r.out hk) 2 _ rfl)) ?_
      refine mE 4 1 ?_
      refine aS 5 rfl (fun a u E D hk=>exec_eqn rfl (dD D 2) (dD D 3)) (decide_eq_false hf) ?_
      exact fz
     intro gv w4 hV k4
     rw [dq 5 [28,29,30,31,32]]
     simp only [F7]
     rw [gQ hV 4 32 (.bool false)]
     clear hV
     refine wpList_nil ?_
     have kr4 := kr3.trans k4
     have HC4 := Lib.hid (HC3.out.kept k4)
     have HC4r := Lib.hid (range_kept HC3r.out k4)
     have s4 := k4.size
     clear HC3 HC3r k4 k13 kr3
     have HLN : Hid (H.length ≤ 99999999) := by
      show _ ≤ _
      have h1 := HW.out
      have h2 := HX0.out.few
      have h3 := whole_ge HX.out.ok
      simp only [List.length_cons] at h3
      omega
     have s0 := hkF.size
     have HVL : Hid (∀ b, v8.ownBlock = some b → b < wr.heap.size) := fun b hb => HV.out.lt hb
     have HFL : Hid (∀ b, F' b → b < wr.heap.size) := HL.out.2.1
     clear HB1 HE1 HB HE HS k1
     go_upto_region 6 with fail
     refine wp_text 4 [iE q', pE b9 9, iE e.n, iE n] rfl (by kernel_rfl) ?_ ?_
     ·refine mE 1 2 ?_
      refine fE 2 9 95 1 9 0 ?_
      refine sW 3 rfl (fun a u E D hk=>exec_loadi _ Try.underlying3 _ _ _ rfl (dD D 1) (range_int (range_kept HC4r.out hk) 9 _ rfl)) ?_
      refine sW 4 rfl (fun a u E D hk=>exec_min _ _ _ q' e.n n rfl (dD D 0) (dD D 2) HN.out) ?_
      exact fz
     intro gv w5 hV k5
     rw [dq 4 [34,35,36,37]]
     simp only [F7]
     rw [gQ hV 3 37 (.int .i64 n)]
     clear hV
     refine l_val (.int .i64 n) rfl (exec_assign _ _ rfl (by kernel_rfl)) ?_
     simp only [Act.put, sA, sS, sZ]
     refine wpList_nil ?_
     have kr5 := kr4.trans k5
     have HC5 := Lib.hid (HC4.out.kept k5)
     have HC5r := Lib.hid (range_kept HC4r.out k5)
     have s5 := k5.size
     clear HC4 HC4r k5 kr4 HN
     go_upto_region 7 with fail
     refine wp_text 6 [.eq (v8), pE b9 0, .eq (e.o.v), iE n, .eq ((Ent.mk e.o (n)).v), .sl w5.heap.size 39 10 1 (Ent.mk e.o (n)).cells] rfl (by kernel_rfl) ?_ ?_
     ·refine mE 1 8 ?_
      refine fE 2 9 95 0 0 0 ?_
      refine sW 3 rfl (fun a u E D hk=>exec_ldS 25 _ _ (b9) (0) (e.o.cells) rfl (dD D 1) (ent_ord (range_kept HC5r.out hk)) Try.underlying25 (by rw [e.o.len9]; exact ord_size)) ?_
      refine mE 4 10 ?_
      refine sW 5 rfl (fun a u E D hk=>exec_bent 39 builtH _ _ (e.o) (n) rfl (dD D 2) (dD D 3)) ?_
      refine nW 6 rfl (fun a u E D hk=>⟨_, _, exec_oneS slH _ (Ent.mk e.o (n)).cells (by omega) rfl (dD D 4) ((Ent.mk e.o (n)).len10), (sl_one u 39 10 _ w5.heap.size ((Ent.mk e.o (n)).len10) (by omega) hk.size), ((Keep.refl _ u).alloc _)⟩) ?_
      exact fz
     intro gv w6 hV k6
     rw [dq 6 [38,39,40,41,42,43]]
     simp only [F7]
     rw [gQ hV 0 38 v8]
     have hv43 : (.sl w5.heap.size 39 10 1 (Ent.mk e.o (n)).cells : Kn).p (gv 43) w6 := hV 5 43 (by kernel_rfl)
     generalize gv 43 = v43 at hv43 ⊢
     clear hV
     have hln := HLN.out
     obtain ⟨v7, w7, hr7, hs7, hk7, ho7⟩ := run_append_sl slH 32 w6 v8 v43 H.length 1 _ _ (HV.out.kept (kr5.trans k6)) hv43.1 (Ent.one _) (by unfold maxLen; omega) (by omega)
     refine l_new v7 w7 rfl (exec_appS slH (.tmp 38) (.tmp 43) v8 v43 rfl (by kernel_rfl) (by kernel_rfl) v7 w7 hr7) ?_
     simp only [Act.put, sA, sS, sZ]
     refine l_val (v7) rfl (exec_assign _ _ rfl (by kernel_rfl)) ?_
     simp only [Act.put, sA, sS, sZ]
     refine wpList_nil ?_
     have s6 := k6.size
     have s7 := hk7.size
     have kr6 := kr5.trans k6
     have HL7 := Lib.hid ((HL.out.kept kr6).keep hk7 (fun b hb hv => (HO.out b hv).2 hb))
     have kF7 : Keep F w w7 := (hkF.kept kr6).trans hk7 (fun b hb hv => by have := (HO.out b hv).1; omega)
     have hb9n : ¬ v8.ownBlock = some b9 := fun h => by have := HVL.out b9 h; omega
     have HC7 := Lib.hid ((HC5.out.kept k6).keep hk7 hb9n)
     have HC7r := Lib.hid (blk_range HC7.out)
     have HO7 : Hid (∀ b, v7.ownBlock = some b → w.heap.size ≤ b ∧ ¬ F' b) := fun b hb => by
      rcases ho7 b hb with h | h
      ·exact HO.out b h
      ·exact ⟨by omega, fun hF => by have := HFL.out b hF; omega⟩
     have HO7b : Hid (∀ b, v7.ownBlock = some b → b ≠ b9) := fun b hb e => by
      rcases ho7 b hb with h | h
      ·have := HVL.out b h; omega
      ·omega
     have HV7 : Hid (Sl w7 39 10 v7 (H ++ [Ent.mk e.o n]).length (ents (H ++ [Ent.mk e.o n]))) := by
      show Sl _ _ _ _ _ _
      rw [List.length_append, ents_snoc]
      exact hs7
     have HV7L : Hid (∀ b, v7.ownBlock = some b → b < w7.heap.size) := fun b hb => hs7.lt hb
     clear hs7 hk7 ho7 hr7 hv43 HC5 HC5r kr5 kr6 k6 HV HO HL hln hb9n hkF
     go_upto_region 8 with fail
     refine wp_text 3 [iE q', iE n, iE (q' - n)] rfl (by kernel_rfl) ?_ ?_
     ·refine mE 1 2 ?_
      refine mE 2 10 ?_
      refine sW 3 rfl (fun a u E D hk=>exec_subn (q' - n) rfl (dD D 0) (dD D 1) rfl (by omega) (by omega)) ?_
      exact fz
     intro gv w8 hV k8
     rw [dq 3 [45,46,47]]
     simp only [F7]
     rw [gQ hV 2 47 (.int .i64 (q' - n))]
     clear hV
     refine l_val (.int .i64 (q' - n)) rfl (exec_assign _ _ rfl (by kernel_rfl)) ?_
     simp only [Act.put, sA, sS, sZ]
     refine wpList_nil ?_
     have HC8 := Lib.hid (HC7.out.kept k8)
     have HC8r := Lib.hid (range_kept HC7r.out k8)
     have s8 := k8.size
     clear HC7 HC7r
     go_upto_region 9 with fail
     refine wp_text 9 [pE b9 0, pE b9 6, iE e.o.qty, iE n, iE (e.o.qty - n), pE b9 9, iE e.n, iE n, iE (e.n - n)] rfl (by kernel_rfl) ?_ ?_
     ·refine fE 1 9 95 0 0 0 ?_
      refine fD 2 48 0 25 6 6 0 ?_
      refine sW 3 rfl (fun a u E D hk=>exec_loadi _ Try.underlying3 _ _ _ rfl (dD D 1) (range_int (range_kept HC8r.out hk) 6 _ rfl)) ?_
      refine mE 4 10 ?_
      refine sW 5 rfl (fun a u E D hk=>exec_subn (e.o.qty - n) rfl (dD D 2) (dD D 3) rfl (by omega) (by omega)) ?_
      refine fE 6 9 95 1 9 0 ?_
      refine sW 7 rfl (fun a u E D hk=>exec_loadi _ Try.underlying3 _ _ _ rfl (dD D 5) (range_int (range_kept HC8r.out hk) 9 _ rfl)) ?_
      refine mE 8 10 ?_
      refine sW 9 rfl (fun a u E D hk=>exec_subn (e.n - n) rfl (dD D 6) (dD D 7) rfl (by omega) (by omega)) ?_
      exact fz
     intro gv w9 hV k9
     rw [dq 9 [48,49,50,51,52,53,54,55,56]]
     simp only [F7]
     rw [gQ hV 4 52 (.int .i64 (e.o.qty - n))]
     rw [gQ hV 8 56 (.int .i64 (e.n - n))]
     clear hV
     refine l_val (.pointer (some ⟨b9, 0, none⟩)) rfl (exec_fldo 95 0 0 (.tmp 9) (b9) (0) (0) rfl (by kernel_rfl) (by kernel_rfl) rfl) ?_
     simp only [Act.put, sA, sS, sZ]
     refine l_val (.pointer (some ⟨b9, 6, none⟩)) rfl (exec_fldo 25 6 6 (.tmp 57) (b9) (0) (6) rfl (by kernel_rfl) (by kernel_rfl) rfl) ?_
     simp only [Act.put, sA, sS, sZ]
     refine l_st1 3 b9 6 95 _ (.int .i64 (e.o.qty - n)) _ _ rfl rfl (by kernel_rfl) (by kernel_rfl) (by kernel_rfl) rfl rfl (HC8.out.kept k9) (by rw [Ent.len10]; omega) ?_
     intro w10 hC10 hk10 hs10
     simp only [Act.put]
     refine l_val (.pointer (some ⟨b9, 9, none⟩)) rfl (exec_fldo 95 1 9 (.tmp 9) (b9) (0) (9) rfl (by kernel_rfl) (by kernel_rfl) rfl) ?_
     simp only [Act.put, sA, sS, sZ]
     refine l_st1 3 b9 9 95 _ (.int .i64 (e.n - n)) _ _ rfl rfl (by kernel_rfl) (by kernel_rfl) (by kernel_rfl) rfl rfl hC10 (by rw [List.length_set, Ent.len10]; omega) ?_
     intro w11 hC11 hk11 hs11
     simp only [Act.put]
     refine wpList_nil ?_
     have s9 := k9.size
     have HC11 : Hid (Blk w11 b9 95 (e.sub n).cells) := hC11
     have HC11r := Lib.hid (blk_range HC11.out)
     have K11 : Keep (· = b9) w7 w11 := ((Keep.mono (T := (· = b9)) (k8.trans k9) (fun _ _ h => h.elim)).trans hk10 (fun _ _ h => h)).trans hk11 (fun _ _ h => h)
     have hbF : ¬ F' b9 := fun h => by have := HFL.out b9 h; omega
     have HL11 := Lib.hid (HL7.out.keep K11 (fun b hb e => hbF (by rw [← e]; exact hb)))
     have HV11 := Lib.hid (HV7.out.keep K11 (fun b hb e => HO7b.out b hb e))
     have kF11 : Keep F w w11 := kF7.trans K11 (fun b hb e => by subst e; omega)
     have s11 := K11.size
     clear hC10 hC11 hk10 hk11 K11 HC8 HC8r k8 k9 HL7 HV7 kF7
     obtain ⟨h1, h2, v, hB, hS, h5⟩ := HL11.out
     rw [hm] at hS
     obtain ⟨vr, hvr, hor, hsr⟩ := slice_lS slR v m 1 (by omega) _ w11 hS
     have HVR := Lib.hid hvr
     have HSR : Hid (∀ u, Kept w11 u → Sl u 95 10 vr R.length (ents R)) := fun u hk => by
      have := hsr u _ (hS.kept hk)
      rw [show (ents (e :: R)).drop (1 * 10) = ents R from flat_drop Ent.cells 10 Ent.len10 (e :: R) 1, show m - 1 = R.length by omega] at this
      exact this
     have HB11 := Lib.hid hB
     have hRl : R.length ≤ 100000000 := by have := HX.out.len; simp at this; omega
     clear h1 h2 hB hS h5 hvr hor hsr
     go_upto_region 10 with fail
     refine wp_text 7 [.emp w11.heap.size 95, pE p 0, pE p 0, pE p 1, .eq (v), .eq (vr), .sl w11.heap.size 95 10 R.length (ents R)] rfl (by kernel_rfl) ?_ ?_
     ·refine nW 1 rfl (fun a u E D hk=>⟨_, _, exec_none 84 95 10 rfl slR.und szR, ⟨_, rfl, hk.size, Blk.new u _ _⟩, ((Keep.refl _ u).alloc _)⟩) ?_
      refine mE 2 0 ?_
      refine nD 3 61 1 ?_
      refine fD 4 62 2 86 1 1 0 ?_
      refine sW 5 rfl (fun a u E D hk=>exec_ldv _ _ Try.underlying84 _ _ _ rfl (dD D 3) (by rw [(HB11.out.kept hk).cell]; rfl)) ?_
      refine sW 6 rfl (fun a u E D hk=>exec_slcL slR _ _ v vr 1 rfl (dD D 4) rfl (HVR.out u)) ?_
      refine fsteps_cons 7 rfl (fun a u hE hD hk => (by obtain ⟨v', u', hr, hp, hkk⟩ := run_append_emp slR _ u (a.eval (.tmp 60)) vr R.length w11.heap.size _ ((dD hD 0)) (HSR.out u hk) (ents_one _) (by omega) (by omega) hk.size; exact f_new v' u' rfl (wanted_none rfl _) (exec_appS slR (.tmp 60) (.tmp 65) _ vr rfl rfl (dD hD 5) v' u' hr) hp hkk)) ?_
      exact fz
     intro gv w12 hV k12
     rw [dq 7 [60,61,62,63,64,65,66]]
     simp only [F7]
     have hv66 : (.sl w11.heap.size 95 10 R.length (ents R) : Kn).p (gv 66) w12 := hV 6 66 (by kernel_rfl)
     generalize gv 66 = v66 at hv66 ⊢
     clear hV
     refine l_val (v66) rfl (exec_assign _ _ rfl (by kernel_rfl)) ?_
     simp only [Act.put, sA, sS, sZ]
     refine wpList_nil ?_
     have HRS := Lib.hid hv66.1
     have HRO := Lib.hid hv66.2
     have HC12 := Lib.hid (HC11.out.kept k12)
     have HC12r := Lib.hid (range_kept HC11r.out k12)
     have s12 := k12.size
     clear hv66 HC11 HC11r HVR HSR
     by_cases hc : e.o.qty - n = 0
     ·have hnext : nextM e n R = R := by unfold nextM; rw [if_pos hc]
      go_upto_region 12 with fail
      refine wp_text 4 [pE b9 0, pE b9 6, iE ((e.sub n).o.qty), bE true] rfl (by kernel_rfl) ?_ ?_
      ·refine fE 1 9 95 0 0 0 ?_
       refine fD 2 75 0 25 6 6 0 ?_
       refine sW 3 rfl (fun a u E D hk=>exec_loadi _ Try.underlying3 _ _ _ rfl (dD D 1) (range_int (range_kept HC12r.out hk) 6 _ rfl)) ?_
       refine aS 4 rfl (fun a u E D hk=>exec_eqn rfl (dD D 2) rfl) (decide_eq_true hc) ?_
       exact fz
      intro gv w13 hV k13
      rw [dq 4 [75,76,77,78]]
      simp only [F7]
      rw [gQ hV 3 78 (.bool true)]
      clear hV
      refine l_val (.bool true) rfl (exec_assign _ _ rfl (by kernel_rfl)) ?_
      simp only [Act.put, sA, sS, sZ]
      refine wpList_nil ?_
      clear hc
      go_upto_region 13 with fail
      refine wp_text 4 [pE p 0, .eq (v66), pE p 0, pE p 1] rfl (by kernel_rfl) ?_ ?_
      ·refine mE 1 0 ?_
       refine mE 2 11 ?_
       refine nD 3 79 0 ?_
       refine fD 4 81 2 86 1 1 0 ?_
       exact fz
      intro gv w14 hV k14
      rw [dq 4 [79,80,81,82]]
      simp only [F7]
      rw [gQ hV 3 82 (.pointer (some ⟨p, 1, none⟩))]
      rw [gQ hV 1 80 v66]
      clear hV
      have k1114 := (k12.trans k13).trans k14
      refine l_st1 84 p 1 86 _ v66 _ _ rfl rfl (by kernel_rfl) (by kernel_rfl) (by kernel_rfl) (sl_cells HRS.out) (sl_onec HRS.out) (HB11.out.kept k1114) (by simp) ?_
      intro w15 hB15 hk15 hs15
      simp only [Act.put]
      refine wpList_nil ?_
      have hpF : F' p := HL11.out.1
      have hpl2 := HFL.out p hpF
      have s14 := k1114.size
      obtain ⟨F2, q1, q2, q3, q4⟩ := HL11.out.renew2 k1114 (Nat.le_refl _) (Y := R) ((HRS.out.kept k13).kept k14) HRO.out (by simpa using hB15) hk15
      have q2' : Grow wr F' F2 := fun b hb => (q4 b hb).imp id (fun h => by omega)
      have hkF9 : Keep F w w15 := Grow.keep HG.out kF11 q3
      have hV9 := (HV11.out.kept k1114).keep hk15 (fun b hb e => (HO7.out b hb).2 (by rw [e]; exact hpF))
      clear hB15 hk15 k1114 k12 k13 k14 q3 HRS HRO
      have HX8 := Lib.hid (next_good HX.out (n := n) (by omega) hmn1.2)
      have HW8 : Hid (((H ++ [Ent.mk e.o n]).length : Int) + wholeM (nextM e n R) ≤ wholeM X) := by
       show _ ≤ _
       have h1 := HW.out
       rw [next_whole, List.length_append]
       rw [wholeM_cons] at h1
       simp only [List.length_cons, List.length_nil]
       omega
      rw [← hnext] at q1
      have HL9 := Lib.hid q1
      have HG9 : Hid (Grow w F F2) := Grow.trans HG.out q2' (by omega)
      have HO9 : Hid (∀ b, v7.ownBlock = some b → w.heap.size ≤ b ∧ ¬ F2 b) := fun b hb => ⟨(HO7.out b hb).1, fun h => by
       rcases q4 b h with h1 | h1
       ·exact (HO7.out b hb).2 h1
       ·have := HV7L.out b hb; omega⟩
      have HV9 := Lib.hid hV9
      have kF9 := hkF9
      clear q1 q2 q2' q4 hV9 hkF9 HW HX hnext
      go_wp2
      exact ⟨⟨q' - n, H ++ [Ent.mk e.o n], nextM e n R, F2, rfl, by omega, HV9, HO9, HL9, HX8, HG9, kF9, HW8, HD⟩, by simp [intOf]; omega⟩
     ·by_cases hd : e.n - n = 0
      ·have hnext : nextM e n R = R ++ [Ent.of (e.sub n).o] := by unfold nextM; rw [if_neg hc, if_pos hd]
       go_upto_region 12 with fail
       refine wp_text 4 [pE b9 0, pE b9 6, iE ((e.sub n).o.qty), bE false] rfl (by kernel_rfl) ?_ ?_
       ·refine fE 1 9 95 0 0 0 ?_
        refine fD 2 75 0 25 6 6 0 ?_
        refine sW 3 rfl (fun a u E D hk=>exec_loadi _ Try.underlying3 _ _ _ rfl (dD D 1) (range_int (range_kept HC12r.out hk) 6 _ rfl)) ?_
        refine aS 4 rfl (fun a u E D hk=>exec_eqn rfl (dD D 2) rfl) (decide_eq_false hc) ?_
        exact fz
       intro gv w13 hV k13
       rw [dq 4 [75,76,77,78]]
       simp only [F7]
       rw [gQ hV 3 78 (.bool false)]
       clear hV
       refine l_val (.bool false) rfl (exec_assign _ _ rfl (by kernel_rfl)) ?_
       simp only [Act.put, sA, sS, sZ]
       refine wpList_nil ?_
       have HC13 := Lib.hid (HC12.out.kept k13)
       have HC13r := Lib.hid (range_kept HC12r.out k13)
       clear hc HC12 HC12r
       go_upto_region 14 with fail
       refine wp_text 3 [pE b9 9, iE ((e.sub n).n), bE true] rfl (by kernel_rfl) ?_ ?_
       ·refine fE 1 9 95 1 9 0 ?_
        refine sW 2 rfl (fun a u E D hk=>exec_loadi _ Try.underlying3 _ _ _ rfl (dD D 0) (range_int (range_kept HC13r.out hk) 9 _ rfl)) ?_
        refine aS 3 rfl (fun a u E D hk=>exec_eqn rfl (dD D 1) rfl) (decide_eq_true hd) ?_
        exact fz
       intro gv w14 hV k14
       rw [dq 3 [84,85,86]]
       simp only [F7]
       rw [gQ hV 2 86 (.bool true)]
       clear hV
       refine l_val (.bool true) rfl (exec_assign _ _ rfl (by kernel_rfl)) ?_
       simp only [Act.put, sA, sS, sZ]
       refine wpList_nil ?_
       have k1114 := (k12.trans k13).trans k14
       have HC14 := Lib.hid (HC13.out.kept k14)
       have HC14r := Lib.hid (range_kept HC13r.out k14)
       have HRS14 := Lib.hid (HRS.out.kept (k13.trans k14))
       have s14 := k1114.size
       clear hd HC13 HC13r k12 k13 k14 HRS
       go_upto_region 15 with fail
       refine wp_text 4 [pE b9 0, .eq ((e.sub n).o.v), iE ((e.sub n).o.tip), pE b9 9] rfl (by kernel_rfl) ?_ ?_
       ·refine fE 1 9 95 0 0 0 ?_
        refine sW 2 rfl (fun a u E D hk=>exec_ldS 25 _ _ (b9) (0) ((e.sub n).o.cells) rfl (dD D 0) (ent_ord (range_kept HC14r.out hk)) Try.underlying25 (by rw [(e.sub n).o.len9]; exact ord_size)) ?_
        refine cS 3 95 [(e.sub n).o.v] rfl Try.func95 rfl (fun a u E D hk=>⟨ll (dD D 1) rfl, tip_any (e.sub n).o u⟩) ?_
        refine fE 4 9 95 1 9 0 ?_
        exact fz
       intro gv w15 hV k15
       rw [dq 4 [87,88,89,90]]
       simp only [F7]
       rw [gQ hV 3 90 (.pointer (some ⟨b9, 9, none⟩))]
       rw [gQ hV 2 89 (.int .i64 (e.sub n).o.tip)]
       clear hV
       refine l_st1 3 b9 9 95 _ (.int .i64 (e.sub n).o.tip) _ _ rfl rfl (by kernel_rfl) (by kernel_rfl) (by kernel_rfl) rfl rfl (HC14.out.kept k15) (by rw [Ent.len10]; omega) ?_
       intro w16 hC16 hk16 hs16
       simp only [Act.put]
       refine wpList_nil ?_
       have HC16r : Hid (w16.rangeAt b9 0 (Ent.of (e.sub n).o).cells) := blk_range (show Blk w16 b9 _ (Ent.of (e.sub n).o).cells from hC16)
       have K16 : Keep (· = b9) w11 w16 := ((Keep.mono (T := (· = b9)) (k1114.trans k15) (fun _ _ h => h.elim))).trans hk16 (fun _ _ h => h)
       have hpF : F' p := HL11.out.1
       have hpl2 := HFL.out p hpF
       have HL16 := Lib.hid (HL11.out.keep K16 (fun b hb e => hbF (by rw [← e]; exact hb)))
       have HB16 := Lib.hid (HB11.out.keep K16 (by omega))
       have HV16 := Lib.hid (HV11.out.keep K16 (fun b hb e => HO7b.out b hb e))
       have kF16 : Keep F w w16 := kF11.trans K16 (fun b hb e => by subst e; omega)
       have HRS16 := Lib.hid ((HRS14.out.kept k15).keep hk16 (fun b hb e => by have := HRO.out b hb; omega))
       have s16 := K16.size
       obtain ⟨e2, he2⟩ : ∃ e2, Ent.of (e.sub n).o = e2 := ⟨_, rfl⟩
       rw [he2] at HC16r hnext
       clear hC16 hk16 K16 k1114 k15 HC14 HC14r HRS14 HL11 HV11 kF11 HB11 he2
       go_upto_region 16 with fail
       refine wp_text 4 [pE p 0, .eq (v66), .eq (e2.v), .sl w16.heap.size 95 10 1 e2.cells] rfl (by kernel_rfl) ?_ ?_
       ·refine mE 1 0 ?_
        refine mE 2 11 ?_
        refine sW 3 rfl (fun a u E D hk=>exec_ldS 95 _ _ (b9) (0) (e2.cells) rfl (eE E) (range_kept HC16r.out hk) Try.underlying95 (by rw [e2.len10]; exact szR)) ?_
        refine nW 4 rfl (fun a u E D hk=>⟨_, _, exec_oneS slR _ e2.cells (by omega) rfl (dD D 2) (e2.len10), (sl_one u 95 10 _ w16.heap.size (e2.len10) (by omega) hk.size), ((Keep.refl _ u).alloc _)⟩) ?_
        exact fz
       intro gv w17 hV k17
       rw [dq 4 [91,92,93,94]]
       simp only [F7]
       rw [gQ hV 1 92 v66]
       have hv94 : (.sl w16.heap.size 95 10 1 e2.cells : Kn).p (gv 94) w17 := hV 3 94 (by kernel_rfl)
       generalize gv 94 = v94 at hv94 ⊢
       rw [gQ hV 0 91 (.pointer (some ⟨p, 0, none⟩))]
       clear hV
       obtain ⟨v95, w18, hr18, hs18, hk18, ho18⟩ := run_append_sl slR 84 w17 v66 v94 R.length 1 _ _ (HRS16.out.kept k17) hv94.1 (Ent.one _) (by unfold maxLen; omega) (by omega)
       have s17 := k17.size
       have hpn : ¬ v66.ownBlock = some p := fun h => by have := HRO.out p h; omega
       refine l_new v95 w18 rfl (exec_appS slR (.tmp 92) (.tmp 94) v66 v94 rfl (by kernel_rfl) (by kernel_rfl) v95 w18 hr18) ?_
       simp only [Act.put, sA, sS, sZ]
       refine l_val (.pointer (some ⟨p, 0, none⟩)) rfl (exec_nilp (.tmp 91) ⟨p, 0, none⟩ rfl (by kernel_rfl)) ?_
       simp only [Act.put, sA, sS, sZ]
       refine l_val (.pointer (some ⟨p, 1, none⟩)) rfl (exec_fldo 86 1 1 (.tmp 96) (p) (0) (1) rfl (by kernel_rfl) (by kernel_rfl) rfl) ?_
       simp only [Act.put, sA, sS, sZ]
       refine l_st1 84 p 1 86 _ v95 _ _ rfl rfl (by kernel_rfl) (by kernel_rfl) (by kernel_rfl) (sl_cells hs18) (sl_onec hs18) ((HB16.out.kept k17).keep hk18 hpn) (by simp) ?_
       intro w19 hB19 hk19 hs19
       simp only [Act.put]
       refine wpList_nil ?_
       have HRL : Hid (∀ b, v66.ownBlock = some b → w11.heap.size ≤ b) := HRO.out
       have K18 : Keep (fun b => w11.heap.size ≤ b) w16 w18 := (Keep.mono (T := fun b => w11.heap.size ≤ b) k17 (fun _ _ h => h.elim)).trans hk18 (fun b _ hb => HRL.out b hb)
       have HL18 := Lib.hid (HL16.out.keep K18 (fun b hb h => by have := HFL.out b hb; omega))
       have HV18 := Lib.hid (HV16.out.keep K18 (fun b hb h => by have := HV7L.out b hb; omega))
       have kF18 : Keep F w w18 := kF16.trans K18 (fun b hb h => by omega)
       obtain ⟨F2, q1, q2, q3, q4⟩ := HL18.out.renew3 (base := w11.heap.size) (Y := R ++ [e2]) (v' := v95) (by omega) (by rw [List.length_append, ents_snoc]; exact hs18) (fun b hb => (ho18 b hb).elim (HRL.out b) (fun h => by omega)) (by simpa using hB19) hk19
       have q2' : Grow wr F' F2 := fun b hb => (q4 b hb).imp id (fun h => by omega)
       have hkF9 : Keep F w w19 := Grow.keep HG.out kF18 q3
       have hV9 := HV18.out.keep hk19 (fun b hb e => (HO7.out b hb).2 (by rw [e]; exact hpF))
       clear hB19 hk19 hs18 hk18 hr18 ho18 k17 K18 q3 HRS16 HRO hv94
       have HX8 := Lib.hid (next_good HX.out (n := n) (by omega) hmn1.2)
       have HW8 : Hid (((H ++ [Ent.mk e.o n]).length : Int) + wholeM (nextM e n R) ≤ wholeM X) := by
        show _ ≤ _
        have h1 := HW.out
        rw [next_whole, List.length_append]
        rw [wholeM_cons] at h1
        simp only [List.length_cons, List.length_nil]
        omega
       rw [← hnext] at q1
       have HL9 := Lib.hid q1
       have HG9 : Hid (Grow w F F2) := Grow.trans HG.out q2' (by omega)
       have HO9 : Hid (∀ b, v7.ownBlock = some b → w.heap.size ≤ b ∧ ¬ F2 b) := fun b hb => ⟨(HO7.out b hb).1, fun h => by
        rcases q4 b h with h1 | h1
        ·exact (HO7.out b hb).2 h1
        ·have := HV7L.out b hb; omega⟩
       have HV9 := Lib.hid hV9
       have kF9 := hkF9
       clear q1 q2 q2' q4 hV9 hkF9 HW HX hnext
       go_wp2
       exact ⟨⟨q' - n, H ++ [Ent.mk e.o n], nextM e n R, F2, rfl, by omega, HV9, HO9, HL9, HX8, HG9, kF9, HW8, HD⟩, by simp [intOf]; omega⟩
      ·have hnext : nextM e n R = e.sub n :: R := by unfold nextM; rw [if_neg hc, if_neg hd]
       go_upto_region 12 with fail
       refine wp_text 4 [pE b9 0, pE b9 6, iE ((e.sub n).o.qty), bE false] rfl (by kernel_rfl) ?_ ?_
       ·refine fE 1 9 95 0 0 0 ?_
        refine fD 2 75 0 25 6 6 0 ?_
        refine sW 3 rfl (fun a u E D hk=>exec_loadi _ Try.underlying3 _ _ _ rfl (dD D 1) (range_int (range_kept HC12r.out hk) 6 _ rfl)) ?_
        refine aS 4 rfl (fun a u E D hk=>exec_eqn rfl (dD D 2) rfl) (decide_eq_false hc) ?_
        exact fz
       intro gv w13 hV k13
       rw [dq 4 [75,76,77,78]]
       simp only [F7]
       rw [gQ hV 3 78 (.bool false)]
       clear hV
       refine l_val (.bool false) rfl (exec_assign _ _ rfl (by kernel_rfl)) ?_
       simp only [Act.put, sA, sS, sZ]
       refine wpList_nil ?_
       have HC13r := Lib.hid (range_kept HC12r.out k13)
       clear hc HC12 HC12r
       go_upto_region 14 with fail
       refine wp_text 3 [pE b9 9, iE ((e.sub n).n), bE false] rfl (by kernel_rfl) ?_ ?_
       ·refine fE 1 9 95 1 9 0 ?_
        refine sW 2 rfl (fun a u E D hk=>exec_loadi _ Try.underlying3 _ _ _ rfl (dD D 0) (range_int (range_kept HC13r.out hk) 9 _ rfl)) ?_
        refine aS 3 rfl (fun a u E D hk=>exec_eqn rfl (dD D 1) rfl) (decide_eq_false hd) ?_
        exact fz
       intro gv w14 hV k14
       rw [dq 3 [84,85,86]]
       simp only [F7]
       rw [gQ hV 2 86 (.bool false)]
       clear hV
       refine l_val (.bool false) rfl (exec_assign _ _ rfl (by kernel_rfl)) ?_
       simp only [Act.put, sA, sS, sZ]
       refine wpList_nil ?_
       have k1114 := (k12.trans k13).trans k14
       have HC14r := Lib.hid (range_kept HC13r.out k14)
       have HRS14 := Lib.hid (HRS.out.kept (k13.trans k14))
       have s14 := k1114.size
       have HB14 := Lib.hid (HB11.out.kept k1114)
       have HL14 := Lib.hid (HL11.out.kept k1114)
       have HV14 := Lib.hid (HV11.out.kept k1114)
       have kF14 := kF11.kept k1114
       have hpF : F' p := HL11.out.1
       have hpl2 := HFL.out p hpF
       obtain ⟨e2, he2⟩ : ∃ e2, e.sub n = e2 := ⟨_, rfl⟩
       rw [he2] at HC14r hnext
       clear hd HC13r k12 k13 k14 HRS k1114 HB11 HL11 HV11 kF11 he2
       go_upto_region 11 with fail
       refine wp_text 4 [pE p 0, .eq (e2.v), .sl w14.heap.size 95 10 1 e2.cells, .eq (v66)] rfl (by kernel_rfl) ?_ ?_
       ·refine mE 1 0 ?_
        refine sW 2 rfl (fun a u E D hk=>exec_ldS 95 _ _ (b9) (0) (e2.cells) rfl (eE E) (range_kept HC14r.out hk) Try.underlying95 (by rw [e2.len10]; exact szR)) ?_
        refine nW 3 rfl (fun a u E D hk=>⟨_, _, exec_oneS slR _ e2.cells (by omega) rfl (dD D 1) (e2.len10), (sl_one u 95 10 _ w14.heap.size (e2.len10) (by omega) hk.size), ((Keep.refl _ u).alloc _)⟩) ?_
        refine mE 4 11 ?_
        exact fz
       intro gv w17 hV k17
       rw [dq 4 [67,68,69,70]]
       simp only [F7]
       have hv69 : (.sl w14.heap.size 95 10 1 e2.cells : Kn).p (gv 69) w17 := hV 2 69 (by kernel_rfl)
       generalize gv 69 = v69 at hv69 ⊢
       rw [gQ hV 3 70 v66]
       rw [gQ hV 0 67 (.pointer (some ⟨p, 0, none⟩))]
       clear hV
       obtain ⟨v71, w18, hr18, hs18, hk18, ho18⟩ := run_append_sl slR 84 w17 v69 v66 1 R.length _ _ hv69.1 (HRS14.out.kept k17) (ents_one _) (by unfold maxLen; omega) (by omega)
       have s17 := k17.size
       have hpn : ¬ v69.ownBlock = some p := fun h => by have := hv69.2 p h; omega
       refine l_new v71 w18 rfl (exec_appS slR (.tmp 69) (.tmp 70) v69 v66 rfl (by kernel_rfl) (by kernel_rfl) v71 w18 hr18) ?_
       simp only [Act.put, sA, sS, sZ]
       refine l_val (.pointer (some ⟨p, 0, none⟩)) rfl (exec_nilp (.tmp 67) ⟨p, 0, none⟩ rfl (by kernel_rfl)) ?_
       simp only [Act.put, sA, sS, sZ]
       refine l_val (.pointer (some ⟨p, 1, none⟩)) rfl (exec_fldo 86 1 1 (.tmp 72) (p) (0) (1) rfl (by kernel_rfl) (by kernel_rfl) rfl) ?_
       simp only [Act.put, sA, sS, sZ]
       refine l_st1 84 p 1 86 _ v71 _ _ rfl rfl (by kernel_rfl) (by kernel_rfl) (by kernel_rfl) (sl_cells hs18) (sl_onec hs18) ((HB14.out.kept k17).keep hk18 hpn) (by simp) ?_
       intro w19 hB19 hk19 hs19
       simp only [Act.put]
       refine wpList_nil ?_
       have HRL : Hid (∀ b, v69.ownBlock = some b → w14.heap.size ≤ b) := hv69.2
       have K18 : Keep (fun b => w11.heap.size ≤ b) w14 w18 := (Keep.mono (T := fun b => w11.heap.size ≤ b) k17 (fun _ _ h => h.elim)).trans hk18 (fun b _ hb => by have := HRL.out b hb; omega)
       have HL18 := Lib.hid (HL14.out.keep K18 (fun b hb h => by have := HFL.out b hb; omega))
       have HV18 := Lib.hid (HV14.out.keep K18 (fun b hb h => by have := HV7L.out b hb; omega))
       have kF18 : Keep F w w18 := kF14.trans K18 (fun b hb h => by omega)
       obtain ⟨F2, q1, q2, q3, q4⟩ := HL18.out.renew3 (base := w11.heap.size) (Y := e2 :: R) (v' := v71) (by omega) (by rw [List.length_cons, Nat.add_comm, show ents (e2 :: R) = e2.cells ++ ents R from List.flatMap_cons]; exact hs18) (fun b hb => (ho18 b hb).elim (fun h => by have := HRL.out b h; omega) (fun h => by omega)) (by simpa using hB19) hk19
       have q2' : Grow wr F' F2 := fun b hb => (q4 b hb).imp id (fun h => by omega)
       have hkF9 : Keep F w w19 := Grow.keep HG.out kF18 q3
       have hV9 := HV18.out.keep hk19 (fun b hb e => (HO7.out b hb).2 (by rw [e]; exact hpF))
       clear hB19 hk19 hs18 hk18 hr18 ho18 k17 K18 q3 HRS14 HRO hv69
       have HX8 := Lib.hid (next_good HX.out (n := n) (by omega) hmn1.2)
       have HW8 : Hid (((H ++ [Ent.mk e.o n]).length : Int) + wholeM (nextM e n R) ≤ wholeM X) := by
        show _ ≤ _
        have h1 := HW.out
        rw [next_whole, List.length_append]
        rw [wholeM_cons] at h1
        simp only [List.length_cons, List.length_nil]
        omega
       rw [← hnext] at q1
       have HL9 := Lib.hid q1
       have HG9 : Hid (Grow w F F2) := Grow.trans HG.out q2' (by omega)
       have HO9 : Hid (∀ b, v7.ownBlock = some b → w.heap.size ≤ b ∧ ¬ F2 b) := fun b hb => ⟨(HO7.out b hb).1, fun h => by
        rcases q4 b h with h1 | h1
        ·exact (HO7.out b hb).2 h1
        ·have := HV7L.out b hb; omega⟩
       have HV9 := Lib.hid hV9
       have kF9 := hkF9
       clear q1 q2 q2' q4 hV9 hkF9 HW HX hnext
       go_wp2
       exact ⟨⟨q' - n, H ++ [Ent.mk e.o n], nextM e n R, F2, rfl, by omega, HV9, HO9, HL9, HX8, HG9, kF9, HW8, HD⟩, by simp [intOf]; omega⟩
  ·skip
   obtain ⟨h1, h2, v, hB, hS, h5⟩ := HL.out
   obtain ⟨m, hm⟩ : ∃ m, X'.length = m := ⟨_, rfl⟩
   rw [hm] at hS
   have HB := Lib.hid hB
   have HS := Lib.hid hS
   have hpl := h2 p h1
   clear hB hS h1 h2 h5
   have HD := Lib.hid (take_done (t := takeM firm q X) HT.out (takeM_zero firm q' X' (by omega)))
   clear HT
   go_upto_region 2 with fail
   refine wp_text 10 [iE q', bE false, bE false, uE, uE, uE, uE, uE, uE, bE false] rfl (by kernel_rfl) ?_ ?_
   ·refine mE 1 2 ?_
    refine aS 2 rfl (fun a u E D hk=>exec_gtn rfl (dD D 0) rfl) (decide_eq_false hq0) ?_
    refine mD 3 13 1 ?_
    refine kS 4 2 ?_
    refine kS 5 2 ?_
    refine kS 6 2 ?_
    refine kS 7 2 ?_
    refine kS 8 2 ?_
    refine kS 9 2 ?_
    refine sW 10 rfl (fun a u E D hk=>exec_pickF _ _ _ _ rfl (dD D 2) rfl) ?_
    exact fz
   intro gv w1 hV k1
   rw [dq 10 [12,13,14,15,16,17,18,19,20,21]]
   simp only [F7]
   rw [gQ hV 9 21 (.bool false)]
   clear hV
   refine wpList_nil ?_
   have kF1 := hkF.kept k1
   have s1 := k1.size
   go_wp2
   go_ret2
   refine ⟨F', v8, ?_, ?_, ?_, HO.out, HG.out, kF1⟩
   ·rw [HD.out]; rfl
   ·rw [HD.out]; exact HL.out.kept k1
   ·rw [HD.out]; exact HV.out.kept k1
end Go.Proofs.Ytfpfpmhkkgfdbaa
namespace Go.Proofs.Ytfpfpmhkkgfdbaa
open Go.RowKit
set_option maxRecDepth 100000
theorem visible_any (c : Ord) (w : World) : Gives 103 #[c.v] w (.eq (.int .i64 c.tip)) := by
 refine gives_eq ?_
 go_enter Try.func103, Try.ntmps103
 go_upto_region 0 with fail
 refine wp_text 2 [.fresh w.heap.size 25 (c.cells), iE 0] rfl (by kernel_rfl) ?_ ?_
 ·refine nW 1 rfl (fun a u E D hk=>⟨_, _, exec_box 25 _ (c.cells) rfl (eE E), ⟨_, rfl, hk.size, Blk.new u _ _⟩, ((Keep.refl _ u).alloc _)⟩) ?_
  refine sW 2 rfl (fun a u E D hk=>exec_assign _ _ rfl rfl) ?_
  exact fz
 intro gv w1 hV k1
 rw [dq 2 [1,2]]
 simp only [F7]
 have hv1 : (.fresh w.heap.size 25 (c.cells) : Kn).p (gv 1) w1 := hV 0 1 (by kernel_rfl)
 generalize gv 1 = v1 at hv1 ⊢
 rw [gQ hV 1 2 (.int .i64 0)]
 clear hV
 obtain ⟨g, rfl, hg, hB⟩ := hv1
 refine wpList_nil ?_
 have HB := Lib.hid (blk_range hB)
 clear hB
 by_cases hs : 0 < c.shw
 ·have HT : Hid (c.tip = mn c.shw c.qty) := by show _ = _; unfold Ord.tip; rw [if_pos hs]
  go_upto_region 1 with fail
  refine wp_text 3 [pE g 7, iE c.shw, bE true] rfl (by kernel_rfl) ?_ ?_
  ·refine fE 1 1 25 7 7 0 ?_
   refine sW 2 rfl (fun a u E D hk=>exec_loadi _ Try.underlying3 _ _ _ rfl (dD D 0) (range_int (range_kept HB.out hk) 7 _ rfl)) ?_
   refine aS 3 rfl (fun a u E D hk=>exec_gtn rfl (dD D 1) rfl) (decide_eq_true hs) ?_
   exact fz
  intro gv w2 hV k2
  rw [dq 3 [3,4,5]]
  simp only [F7]
  rw [gQ hV 2 5 (.bool true)]
  clear hV
  refine wpList_nil ?_
  have HB2 := Lib.hid (range_kept HB.out k2)
  clear HB hs
  go_upto_region 2 with fail
  refine wp_text 6 [pE g 7, iE c.shw, pE g 6, iE c.qty, iE (mn (c.shw) (c.qty)), iE (mn (c.shw) (c.qty))] rfl (by kernel_rfl) ?_ ?_
  ·refine fE 1 1 25 7 7 0 ?_
   refine sW 2 rfl (fun a u E D hk=>exec_loadi _ Try.underlying3 _ _ _ rfl (dD D 0) (range_int (range_kept HB2.out hk) 7 _ rfl)) ?_
   refine fE 3 1 25 6 6 0 ?_
   refine sW 4 rfl (fun a u E D hk=>exec_loadi _ Try.underlying3 _ _ _ rfl (dD D 2) (range_int (range_kept HB2.out hk) 6 _ rfl)) ?_
   refine sW 5 rfl (fun a u E D hk=>exec_min _ _ _ (c.shw) (c.qty) (mn (c.shw) (c.qty)) rfl (dD D 1) (dD D 3) rfl) ?_
   refine mD 6 10 4 ?_
   exact fz
  intro gv w3 hV k3
  rw [dq 6 [6,7,8,9,10,2]]
  simp only [F7]
  rw [gQ hV 5 2 (.int .i64 (mn (c.shw) (c.qty)))]
  clear hV
  refine wpList_nil ?_
  go_wp2
  go_ret
  exact ⟨by rw [HT.out]; rfl, (k1.trans k2).trans k3⟩
 ·have HT : Hid (c.tip = c.qty) := by show _ = _; unfold Ord.tip; rw [if_neg hs]
  go_upto_region 1 with fail
  refine wp_text 3 [pE g 7, iE c.shw, bE false] rfl (by kernel_rfl) ?_ ?_
  ·refine fE 1 1 25 7 7 0 ?_
   refine sW 2 rfl (fun a u E D hk=>exec_loadi _ Try.underlying3 _ _ _ rfl (dD D 0) (range_int (range_kept HB.out hk) 7 _ rfl)) ?_
   refine aS 3 rfl (fun a u E D hk=>exec_gtn rfl (dD D 1) rfl) (decide_eq_false hs) ?_
   exact fz
  intro gv w2 hV k2
  rw [dq 3 [3,4,5]]
  simp only [F7]
  rw [gQ hV 2 5 (.bool false)]
  clear hV
  refine wpList_nil ?_
  have HB2 := Lib.hid (range_kept HB.out k2)
  clear HB hs
  go_upto_region 3 with fail
  refine wp_text 3 [pE g 6, iE c.qty, iE c.qty] rfl (by kernel_rfl) ?_ ?_
  ·refine fE 1 1 25 6 6 0 ?_
   refine sW 2 rfl (fun a u E D hk=>exec_loadi _ Try.underlying3 _ _ _ rfl (dD D 0) (range_int (range_kept HB2.out hk) 6 _ rfl)) ?_
   refine mD 3 12 1 ?_
   exact fz
  intro gv w3 hV k3
  rw [dq 3 [11,12,2]]
  simp only [F7]
  rw [gQ hV 2 2 (.int .i64 c.qty)]
  clear hV
  refine wpList_nil ?_
  go_wp2
  go_ret
  exact ⟨by rw [HT.out]; rfl, (k1.trans k2).trans k3⟩
def capo (g : Nat) : List Value := [.pointer (some ⟨g, 0, none⟩)]
def cloO (g : Nat) : Value := .func (.func 101) #[] (capo g).toArray
theorem exec_mkfO {a : Act} {o : Oper} {u : World} (x : Operand) (g : Nat) (hop : o.op = .makeFunc (.func 101) #[] #[x]) (hx : a.eval x = .pointer (some ⟨g, 0, none⟩)) : (execOp a.eval o).run Try.prog u = .ok (.value (cloO g)) u := by
 unfold execOp
 simp only [hop, Instr.makeFunc, List.map_toArray, List.map_cons, List.map_nil, hx]
 rfl
set_option maxRecDepth 100000 in
theorem own_any (c : Ord) (firm : Int) (g1 : Nat) (w : World) (h1 : Blk w g1 3 [.int .i64 firm]) : Gives 101 #[c.v, .pointer (some ⟨g1, 0, none⟩)] w (.eq (.bool (decide (c.firm = firm)))) := by
 refine gives_eq ?_
 have H1 := Lib.hid h1
 clear h1
 go_enter Try.func101, Try.ntmps101
 go_upto_region 0 with fail
 refine wp_text 2 [.fresh w.heap.size 25 (c.cells), bE false] rfl (by kernel_rfl) ?_ ?_
 ·refine nW 1 rfl (fun a u E D hk=>⟨_, _, exec_box 25 _ (c.cells) rfl (eE E), ⟨_, rfl, hk.size, Blk.new u _ _⟩, ((Keep.refl _ u).alloc _)⟩) ?_
  refine sW 2 rfl (fun a u E D hk=>exec_assign _ _ rfl rfl) ?_
  exact fz
 intro gv w1 hV k1
 rw [dq 2 [2,3]]
 simp only [F7]
 have hv2 : (.fresh w.heap.size 25 (c.cells) : Kn).p (gv 2) w1 := hV 0 2 (by kernel_rfl)
 generalize gv 2 = v2 at hv2 ⊢
 clear hV
 obtain ⟨g, rfl, hg, hB⟩ := hv2
 refine wpList_nil ?_
 have HB := Lib.hid (blk_range hB)
 have H11 := Lib.hid (H1.out.kept k1)
 clear hB H1
 go_upto_region 1 with fail
 refine wp_text 5 [pE g 2, iE c.firm, iE firm, bE (decide ((c.firm : Int) = (firm : Int))), bE (decide ((c.firm : Int) = (firm : Int)))] rfl (by kernel_rfl) ?_ ?_
 ·refine fE 1 2 25 2 2 0 ?_
  refine sW 2 rfl (fun a u E D hk=>exec_loadi _ Try.underlying3 _ _ _ rfl (dD D 0) (range_int (range_kept HB.out hk) 2 _ rfl)) ?_
  refine sW 3 rfl (fun a u E D hk=>exec_loadi 3 Try.underlying3 _ ⟨g1, 0, none⟩ (.int .i64 firm) rfl (eE E) (by rw [(H11.out.kept hk).cell]; rfl)) ?_
  refine sW 4 rfl (fun a u E D hk=>exec_eqn rfl (dD D 1) (dD D 2)) ?_
  refine mD 5 7 3 ?_
  exact fz
 intro gv w2 hV k2
 rw [dq 5 [4,5,6,7,3]]
 simp only [F7]
 rw [gQ hV 4 3 (.bool (decide ((c.firm : Int) = (firm : Int))))]
 clear hV
 refine wpList_nil ?_
 go_wp2
 go_ret
 exact ⟨rfl, k1.trans k2⟩
def ownP (firm : Int) (X : List Ent) : Int := if ownAt firm X < X.length then (ownAt firm X : Int) else -1
theorem ownAt_of {firm : Int} {X : List Ent} {k : Nat} {e : Ent} (h : ∀ (j : Nat) (x : Ent), j < k → X[j]? = some x → decide (x.o.firm = firm) = false) (he : X[k]? = some e) (hm : decide (e.o.firm = firm) = true) : ownAt firm X = k := by
 obtain ⟨hk, he'⟩ := List.getElem?_eq_some_iff.1 he
 unfold ownAt
 rw [List.findIdx_eq hk]
 refine ⟨by rw [he']; exact hm, fun j hj => ?_⟩
 have := h j X[j] hj (List.getElem?_eq_getElem (by omega))
 simpa using this
theorem ownAt_none {firm : Int} {X : List Ent} (h : ∀ (j : Nat) (x : Ent), j < X.length → X[j]? = some x → decide (x.o.firm = firm) = false) : ownAt firm X = X.length := by
 unfold ownAt
 rw [List.findIdx_eq_length]
 intro x hx
 obtain ⟨j, hj, rfl⟩ := List.getElem_of_mem hx
 exact h j _ hj (List.getElem?_eq_getElem hj)
set_option maxRecDepth 100000 in
set_option maxHeartbeats 800000 in
theorem oidx_any (v : Value) (X : List Ent) (firm : Int) (g1 : Nat) (w : World) (hS : Sl w 25 9 v X.length (ords (X.map (·.o)))) (hlen : X.length ≤ 100000000) (h1 : Blk w g1 3 [.int .i64 firm]) :
  Gives 100 #[v, cloO g1] w (.eq (.int .i64 (ownP firm X))) := by
 refine gives_eq ?_
 obtain ⟨n, hn⟩ : ∃ n, X.length = n := ⟨_, rfl⟩
 rw [hn] at hS hlen
 have HN := Lib.hid hn
 have HS := Lib.hid hS
 have H1 := Lib.hid h1
 clear hS h1 hn
 go_enter Try.func100, Try.ntmps100
 go_upto_region 1 with fail
 refine wp_text 3 [.eq (v), iE (n : Int), iE 0] rfl (by kernel_rfl) ?_ ?_
 ·refine mE 1 0 ?_
  refine sW 2 rfl (fun a u E D hk=>exec_lenS _ slO _ _ _ _ rfl (dD D 0) HS.out) ?_
  refine sW 3 rfl (fun a u E D hk=>exec_move _ _ rfl rfl) ?_
  exact fz
 intro gv w0 hV k0
 rw [dq 3 [6,7,8]]
 simp only [F7]
 rw [gQ hV 1 7 (.int .i64 (n : Int))]
 rw [gQ hV 2 8 (.int .i64 0)]
 clear hV
 refine wpList_nil ?_
 go_wp2_with fail
 go_loopw [8] (fun q wr => ∃ (k : Nat), k ≤ n ∧ q = .int .i64 (k : Int) ∧ Hid (∀ (j : Nat) (x : Ent), j < k → X[j]? = some x → decide (x.o.firm = firm) = false) ∧ Kept w wr) (fun q _ => n - (intOf q).toNat)
 case atStart => exact ⟨0, Nat.zero_le _, rfl, fun j x hj => (by omega), k0⟩
 case round =>
  obtain ⟨k, hk, rfl, HM, hkr⟩ := hrel
  by_cases hlt : k < n
  ·obtain ⟨g, off, c, rfl⟩ := HS.out.some_ (by omega)
   obtain ⟨e, he⟩ : ∃ e, X[k]? = some e := ⟨X[k]'(by rw [HN.out]; exact hlt), List.getElem?_eq_getElem (by rw [HN.out]; exact hlt)⟩
   have HE : Hid (wr.rangeAt g (off + k * 9) e.o.cells) := range_kept (HS.out.rngO k e.o (by rw [List.getElem?_map, he]; rfl)) hkr
   have H1r := Lib.hid (H1.out.kept hkr)
   have HEI := Lib.hid he
   clear he
   by_cases hm : decide (e.o.firm = firm) = true
   ·have HP : Hid (ownP firm X = (k : Int)) := by
     show _ = _
     have h1 := ownAt_of HM.out HEI.out hm
     unfold ownP
     rw [h1, if_pos (by rw [HN.out]; exact hlt)]
    go_upto_region 4 with fail
    refine wp_text 6 [.eq (cloO g1), .eq (.slice (some ⟨g, off, none⟩) n c), iE (k : Int), pE g (off + k * 9), .eq (e.o.v), bE true] rfl (by kernel_rfl) ?_ ?_
    ·refine mE 1 1 ?_
     refine mE 2 0 ?_
     refine mE 3 5 ?_
     refine sW 4 rfl (fun a u E D hk=>exec_ixo slO _ _ (g) (off) n c k (off + k * 9) ((k : Int)) rfl (dD D 1) (dD D 2) (by first | rfl | omega) (hlt) (by first | rfl | omega)) ?_
     refine sW 5 rfl (fun a u E D hk=>exec_ldS 25 _ _ (g) (off + k * 9) (e.o.cells) rfl (dD D 3) (range_kept HE.out hk) Try.underlying25 (by rw [e.o.len9]; exact ord_size)) ?_
     refine fsteps_cons 6 rfl (fun a u hE hD hk => f_call 101 #[e.o.v, .pointer (some ⟨g1, 0, none⟩)] rfl (wanted_none rfl _) (exec_callv 101 _ (.tmp 11) [.tmp 15] _ [e.o.v] (capo g1) Try.func101 (by kernel_rfl) (by kernel_rfl) rfl (dD hD 0) (show [a.eval (.tmp 15)] = [e.o.v] by rw [show a.eval (.tmp 15) = e.o.v from (dD hD 4)])) (by rw [← hm]; exact own_any e.o firm g1 u (H1r.out.kept hk))) ?_
     exact fz
    intro gv w1 hV k1
    rw [dq 6 [11,12,13,14,15,16]]
    simp only [F7]
    rw [gQ hV 5 16 (.bool true)]
    clear hV
    refine wpList_nil ?_
    have kw1 := hkr.trans k1
    clear hkr k1 hm
    go_wp2
    go_ret
    exact ⟨by rw [HP.out]; rfl, kw1⟩
   ·have hm' : decide (e.o.firm = firm) = false := by simpa using hm
    have HM2 : Hid (∀ (j : Nat) (x : Ent), j < k + 1 → X[j]? = some x → decide (x.o.firm = firm) = false) := by
     intro j x hj hx
     by_cases hjk : j = k
     ·subst hjk
      rw [HEI.out] at hx
      injection hx with hx
      rw [← hx]
      exact hm'
     ·exact HM.out j x (by omega) hx
    clear hm
    go_upto_region 4 with fail
    refine wp_text 6 [.eq (cloO g1), .eq (.slice (some ⟨g, off, none⟩) n c), iE (k : Int), pE g (off + k * 9), .eq (e.o.v), bE false] rfl (by kernel_rfl) ?_ ?_
    ·refine mE 1 1 ?_
     refine mE 2 0 ?_
     refine mE 3 5 ?_
     refine sW 4 rfl (fun a u E D hk=>exec_ixo slO _ _ (g) (off) n c k (off + k * 9) ((k : Int)) rfl (dD D 1) (dD D 2) (by first | rfl | omega) (hlt) (by first | rfl | omega)) ?_
     refine sW 5 rfl (fun a u E D hk=>exec_ldS 25 _ _ (g) (off + k * 9) (e.o.cells) rfl (dD D 3) (range_kept HE.out hk) Try.underlying25 (by rw [e.o.len9]; exact ord_size)) ?_
     refine fsteps_cons 6 rfl (fun a u hE hD hk => f_call 101 #[e.o.v, .pointer (some ⟨g1, 0, none⟩)] rfl (wanted_none rfl _) (exec_callv 101 _ (.tmp 11) [.tmp 15] _ [e.o.v] (capo g1) Try.func101 (by kernel_rfl) (by kernel_rfl) rfl (dD hD 0) (show [a.eval (.tmp 15)] = [e.o.v] by rw [show a.eval (.tmp 15) = e.o.v from (dD hD 4)])) (by rw [← hm']; exact own_any e.o firm g1 u (H1r.out.kept hk))) ?_
     exact fz
    intro gv w1 hV k1
    rw [dq 6 [11,12,13,14,15,16]]
    simp only [F7]
    rw [gQ hV 5 16 (.bool false)]
    clear hV
    refine wpList_nil ?_
    have kw1 := hkr.trans k1
    clear hkr k1 hm'
    go_wp2
    exact ⟨⟨k + 1, by omega, by go_num, HM2, kw1⟩, by simp [intOf]; omega⟩
  ·have HP : Hid (ownP firm X = -1) := by
    show _ = _
    have h1 : ownAt firm X = X.length := ownAt_none (fun j x hj hx => HM.out j x (by rw [HN.out] at hj; omega) hx)
    unfold ownP
    rw [h1, if_neg (by omega)]
   clear HM
   go_wp2
   go_ret
   exact ⟨by rw [HP.out]; rfl, hkr⟩
def reachV (firm : Int) (X : List Ent) : Value := .tuple #[.int .i64 (reachM firm X).1, .bool (reachM firm X).2]
theorem tip_bound {X : List Ent} (hX : Good X) {e : Ent} (he : e ∈ X) : e.o.tip ≤ 100000000 ∧ -100000000 ≤ e.o.tip := by
 have h1 := hX.ok e he
 have h2 := hX.few
 obtain ⟨i, hi, he'⟩ := List.getElem_of_mem he
 have h3 := wholeM_le hX.ok i e (by rw [List.getElem?_eq_getElem hi, he'])
 unfold Ord.tip mn
 split
 ·split <;> omega
 ·omega
set_option maxRecDepth 100000 in
set_option maxHeartbeats 1600000 in
theorem reach_any (pr : Int) (w : World) (F : Nat → Prop) (q : Nat) (X : List Ent) (firm : Int) (h : Lvl pr 110 112 w F q X) (hX : Good X) (hf : Fresh X) : Gives 88 #[.pointer (some ⟨q, 0, none⟩), .int .i64 firm] w (.eq (reachV firm X)) := by
 refine gives_eq ?_
 have HLV := Lib.hid h
 have HX := Lib.hid hX
 have HF := Lib.hid hf
 have hlen := hX.len
 have hfew := hX.few
 have HW : Hid (0 ≤ seenM X ∧ seenM X ≤ 100000000) := by
  have := whole_ge hX.ok
  show _ ∧ _
  omega
 clear h hX hf hfew
 go_enter Try.func88, Try.ntmps88
 go_upto_region 0 with fail
 refine wp_text 3 [.fresh w.heap.size 3 ([.int .i64 firm]), iE 0, bE false] rfl (by kernel_rfl) ?_ ?_
 ·refine nW 1 rfl (fun a u E D hk=>⟨_, _, exec_boxi 3 _ (.int .i64 firm) rfl (eE E) rfl, ⟨_, rfl, hk.size, Blk.new u _ _⟩, ((Keep.refl _ u).alloc _)⟩) ?_
  refine sW 2 rfl (fun a u E D hk=>exec_assign _ _ rfl rfl) ?_
  refine sW 3 rfl (fun a u E D hk=>exec_assign _ _ rfl rfl) ?_
  exact fz
 intro gv w0 hV k0
 rw [dq 3 [3,4,5]]
 simp only [F7]
 have hv3 : (.fresh w.heap.size 3 ([.int .i64 firm]) : Kn).p (gv 3) w0 := hV 0 3 (by kernel_rfl)
 generalize gv 3 = v3 at hv3 ⊢
 rw [gQ hV 1 4 (.int .i64 0)]
 rw [gQ hV 2 5 (.bool false)]
 clear hV
 obtain ⟨g1, rfl, hg1, hB1⟩ := hv3
 refine wpList_nil ?_
 have HB1 := Lib.hid hB1
 have HL0 := Lib.hid (HLV.out.kept k0)
 clear hB1 HLV
 obtain ⟨n, hn⟩ : ∃ n, X.length = n := ⟨_, rfl⟩
 have HN := Lib.hid hn
 go_upto_region 1 with fail
 refine wp_text 3 [pE q 0, .sl w0.heap.size 25 9 n (ords (X.map (·.o))), .sl w0.heap.size 25 9 n (ords (X.map (·.o)))] rfl (by kernel_rfl) ?_ ?_
 ·refine mE 1 0 ?_
  refine cS 2 80 [.pointer (some ⟨q, 0, none⟩)] rfl Try.func80 rfl (fun a u E D hk=>⟨ll (dD D 0) rfl, (by rw [← HN.out]; exact gives_base (orders_any u F q X (HL0.out.kept hk) HX.out) hk.size)⟩) ?_
  refine fsteps_cons 3 rfl (fun a u hE hD hk => f_val _ rfl (wanted_none rfl _) (exec_assign (.tmp 12) _ rfl rfl) (dD hD 1)) ?_
  exact fz
 intro gv w1 hV k1
 rw [dq 3 [11,12,6]]
 simp only [F7]
 have hv6 : (.sl w0.heap.size 25 9 n (ords (X.map (·.o))) : Kn).p (gv 6) w1 := hV 2 6 (by kernel_rfl)
 generalize gv 6 = v6 at hv6 ⊢
 clear hV
 obtain ⟨v, hv⟩ : ∃ v, v = v6 := ⟨_, rfl⟩
 subst hv
 refine wpList_nil ?_
 have HS1 := Lib.hid hv6.1
 have HL1 := Lib.hid (HL0.out.kept k1)
 have HB11 := Lib.hid (HB1.out.kept k1)
 have kw1 := k0.trans k1
 rw [hn] at hlen
 clear HL0 HB1 k0 k1 hv6 hn
 go_upto_region 2 with fail
 refine wp_text 4 [.eq (v), .eq (cloO g1), iE (ownP firm X), iE (ownP firm X)] rfl (by kernel_rfl) ?_ ?_
 ·refine mE 1 6 ?_
  refine sW 2 rfl (fun a u E D hk=>exec_mkfO _ g1 rfl (eE E)) ?_
  refine cS 3 100 [v, cloO g1] rfl Try.func100 rfl (fun a u E D hk=>⟨ll (dD D 0) (ll (dD D 1) rfl), oidx_any v X firm g1 u (by rw [HN.out]; exact HS1.out.kept hk) (by rw [HN.out]; exact hlen) (HB11.out.kept hk)⟩) ?_
  refine mD 4 15 2 ?_
  exact fz
 intro gv w2 hV k2
 rw [dq 4 [13,14,15,7]]
 simp only [F7]
 rw [gQ hV 3 7 (.int .i64 (ownP firm X))]
 clear hV
 refine wpList_nil ?_
 have kw2 := kw1.trans k2
 have HL2 := Lib.hid (HL1.out.kept k2)
 have HS2 := Lib.hid (HS1.out.kept k2)
 clear HL1 HS1 HB11 kw1
 by_cases hown : ownAt firm X < n
 ·skip
  obtain ⟨k, hk0⟩ : ∃ k, ownAt firm X = k := ⟨_, rfl⟩
  have hP : ownP firm X = (k : Int) := by unfold ownP; rw [if_pos (by rw [HN.out]; exact hown), hk0]
  rw [hP]
  have HR : Hid (reachM firm X = (seenM (X.take k), true)) := by show _ = _; unfold reachM; rw [if_pos (by rw [HN.out]; exact hown), hk0]
  rw [hk0] at hown
  clear hP hk0
  by_cases hz : k = 0
  ·subst hz
   have HR0 : Hid (reachV firm X = .tuple #[.int .i64 0, .bool true]) := by show _ = _; unfold reachV; rw [HR.out]; rfl
   clear HR
   go_wp2
   go_ret2
   rw [HR0.out]
   exact ⟨rfl, kw2⟩
  ·have hz1 : ¬ ((k : Int) = 0) := by omega
   have hz2 : ¬ ((k : Int) = -1) := by omega
   have d1 : decide ((k : Int) = 0) = false := decide_eq_false hz1
   have d2 : decide ((k : Int) = -1) = false := decide_eq_false hz2
   obtain ⟨vs, hvs, hvo, hvS⟩ := slice_lS slO v n k (by omega) _ w2 HS2.out
   have HVS := Lib.hid hvs
   have HVT : Hid (∀ u, Kept w2 u → Sl u 25 9 vs (n - k) (ords ((X.drop k).map (·.o)))) := fun u hk => by
    have := hvS u _ (HS2.out.kept hk)
    rw [show (ords (X.map (·.o))).drop (k * 9) = ords ((X.map (·.o)).drop k) from flat_drop Ord.cells 9 Ord.len9 _ k, ← List.map_drop] at this
    exact this
   clear hvs hvo hvS
   go_upto_region 8 with fail
   refine wp_text 3 [pE q 0, iE (seenM X), iE (seenM X)] rfl (by kernel_rfl) ?_ ?_
   ·refine mE 1 0 ?_
    refine cS 2 72 [.pointer (some ⟨q, 0, none⟩)] rfl Try.func72 rfl (fun a u E D hk=>⟨ll (dD D 0) rfl, seen_any u F q X (HL2.out.kept hk) HX.out⟩) ?_
    refine mD 3 24 1 ?_
    exact fz
   intro gv w3 hV k3
   rw [dq 3 [23,24,8]]
   simp only [F7]
   rw [gQ hV 2 8 (.int .i64 (seenM X))]
   clear hV
   refine wpList_nil ?_
   have HV3 := Lib.hid (HVT.out w3 k3)
   have kw3 := kw2.trans k3
   obtain ⟨m, hm⟩ : ∃ m, n - k = m := ⟨_, rfl⟩
   have hmn : k + m = n := by omega
   rw [hm] at HV3
   clear hm
   go_upto_region 9 with fail
   refine wp_text 5 [.eq (v), iE (k : Int), .eq (vs), iE (m : Int), iE 0] rfl (by kernel_rfl) ?_ ?_
   ·refine mE 1 6 ?_
    refine mE 2 7 ?_
    refine sW 3 rfl (fun a u E D hk=>exec_slcL slO _ _ v vs _ rfl (dD D 0) (dD D 1) (HVS.out u)) ?_
    refine sW 4 rfl (fun a u E D hk=>exec_lenS _ slO _ _ _ _ rfl (dD D 2) HV3.out) ?_
    refine sW 5 rfl (fun a u E D hk=>exec_move _ _ rfl rfl) ?_
    exact fz
   intro gv w4 hV k4
   rw [dq 5 [25,26,27,28,29]]
   simp only [F7]
   rw [gQ hV 2 27 vs]
   rw [gQ hV 3 28 (.int .i64 (m : Int))]
   rw [gQ hV 4 29 (.int .i64 0)]
   clear hV
   refine wpList_nil ?_
   have kw4 := kw3.trans k4
   have HV4 := Lib.hid (HV3.out.kept k4)
   clear HVS HVT HV3 HL2 HS2 kw2 kw3 k3 k4
   go_wp2_with fail
   go_loopw [8, 29] (fun t x wr => ∃ (i : Nat) (s : Int), i ≤ m ∧ x = .int .i64 i ∧ t = .int .i64 s ∧ Hid (s = seenM X - seenM ((X.drop k).take i)) ∧ Kept w4 wr) (fun _ x _ => m - (intOf x).toNat)
   case atStart => exact ⟨0, seenM X, Nat.zero_le _, rfl, rfl, by show _ = _; rw [List.take_zero]; simp [seenM, sumI], Kept.refl _⟩
   case round =>
    obtain ⟨i, s, hi, rfl, rfl, HSM, hkr⟩ := hrel
    by_cases hlt : i < m
    ·skip
     obtain ⟨g, off, c, rfl⟩ := HV4.out.some_ (by omega)
     obtain ⟨e, he⟩ : ∃ e, X[k + i]? = some e := ⟨X[k + i]'(by rw [HN.out]; omega), List.getElem?_eq_getElem (by rw [HN.out]; omega)⟩
     have HE : Hid (wr.rangeAt g (off + i * 9) e.o.cells) := range_kept (HV4.out.rngO i e.o (by rw [List.getElem?_map, List.getElem?_drop, he]; rfl)) hkr
     have HEI := Lib.hid he
     clear he
     go_upto_region 11 with fail
     refine wp_text 3 [pE g (off + i * 9), .eq (e.o.v), .fresh wr.heap.size 25 zeroO.cells] rfl (by kernel_rfl) ?_ ?_
     ·refine sW 1 rfl (fun a u E D hk=>exec_ixo slO _ _ (g) (off) m c i (off + i * 9) ((i : Int)) rfl (eE E) (eE E) (by first | rfl | omega) (hlt) (by first | rfl | omega)) ?_
      refine sW 2 rfl (fun a u E D hk=>exec_ldS 25 _ _ (g) (off + i * 9) (e.o.cells) rfl (dD D 0) (range_kept HE.out hk) Try.underlying25 (by rw [e.o.len9]; exact ord_size)) ?_
      refine nW 3 rfl (fun a u E D hk=>⟨_, _, exec_alc 25 zeroO.cells rfl zO, ⟨_, rfl, hk.size, Blk.new u _ _⟩, ((Keep.refl _ u).alloc _)⟩) ?_
      exact fz
     intro gv w5 hV k5
     rw [dq 3 [31,32,10]]
     simp only [F7]
     have hv10 : (.fresh wr.heap.size 25 zeroO.cells : Kn).p (gv 10) w5 := hV 2 10 (by kernel_rfl)
     generalize gv 10 = v10 at hv10 ⊢
     rw [gQ hV 1 32 e.o.v]
     clear hV
     obtain ⟨b5, rfl, hb5, hB5⟩ := hv10
     refine l_setS 25 b5 25 zeroO.cells e.o.cells _ _ rfl rfl (by kernel_rfl) (by kernel_rfl) hB5 (by rw [Ord.len9]; exact ord_size) (by rw [Ord.len9, Ord.len9]) (Ord.one1 _) ?_
     intro w6 hB6 hk6 hs6
     simp only [Act.put]
     refine wpList_nil ?_
     have kw6 : Kept wr w6 := k5.trans' hk6 (by omega)
     have HB6 := Lib.hid (blk_range hB6)
     clear hB5 hB6 hk6 HE k5 hs6
     have HM1 : Hid (s - e.o.tip = seenM X - seenM ((X.drop k).take (i + 1))) := by
      show _ = _
      rw [HSM.out, List.take_add_one, List.getElem?_drop, HEI.out, seenM_append]
      have h1 : e.n = e.o.tip := HF.out e (by
       rw [← List.drop_one, List.mem_iff_getElem?]
       exact ⟨k + i - 1, by rw [List.getElem?_drop, show 1 + (k + i - 1) = k + i by omega]; exact HEI.out⟩)
      simp [seenM, sumI, h1]
      omega
     have hs1 : -100000000 ≤ s ∧ s ≤ 100000000 := by
      have h1 := HW.out
      have h2 : seenM X = seenM (X.take k) + seenM ((X.drop k).take i) + seenM ((X.drop k).drop i) := by
       rw [← seenM_append, ← seenM_append, List.append_assoc, List.take_append_drop, List.take_append_drop]
      have h3 := whole_ge (X := X.take k) (fun x hx => HX.out.ok x (List.mem_of_mem_take hx))
      have h4 := whole_ge (X := (X.drop k).take i) (fun x hx => HX.out.ok x (List.mem_of_mem_drop (List.mem_of_mem_take hx)))
      have h5 := whole_ge (X := (X.drop k).drop i) (fun x hx => HX.out.ok x (List.mem_of_mem_drop (List.mem_of_mem_drop hx)))
      have h6 := HSM.out
      omega
     have ht := tip_bound HX.out (List.mem_of_getElem? HEI.out)
     clear HSM
     go_upto_region 12 with fail
     refine wp_text 4 [iE s, .eq (e.o.v), iE e.o.tip, iE ((s : Int) - (e.o.tip : Int))] rfl (by kernel_rfl) ?_ ?_
     ·refine mE 1 8 ?_
      refine sW 2 rfl (fun a u E D hk=>exec_ldS 25 _ _ (b5) (0) (e.o.cells) rfl (eE E) (range_kept HB6.out hk) Try.underlying25 (by rw [e.o.len9]; exact ord_size)) ?_
      refine cS 3 103 [e.o.v] rfl Try.func103 rfl (fun a u E D hk=>⟨ll (dD D 1) rfl, visible_any e.o u⟩) ?_
      refine sW 4 rfl (fun a u E D hk=>exec_subn (p := (s)) (q := (e.o.tip)) ((s : Int) - (e.o.tip : Int)) rfl (dD D 0) (dD D 2) rfl (by omega) (by omega)) ?_
      exact fz
     intro gv w7 hV k7
     rw [dq 4 [33,34,35,36]]
     simp only [F7]
     rw [gQ hV 3 36 (.int .i64 ((s : Int) - (e.o.tip : Int)))]
     clear hV
     refine l_val (.int .i64 ((s : Int) - (e.o.tip : Int))) rfl (exec_assign _ _ rfl (by kernel_rfl)) ?_
     simp only [Act.put, sA, sS, sZ]
     refine wpList_nil ?_
     have kw7 := (hkr.trans kw6).trans k7
     clear hs1 ht
     go_wp2
     exact ⟨⟨i + 1, s - e.o.tip, by omega, by go_num, rfl, HM1, kw7⟩, by simp [intOf]; omega⟩
    ·have HFN : Hid (reachV firm X = .tuple #[.int .i64 s, .bool true]) := by
      show _ = _
      unfold reachV
      rw [HR.out, HSM.out, List.take_of_length_le (l := X.drop k) (by rw [List.length_drop, HN.out]; omega)]
      have h2 : seenM X = seenM (X.take k) + seenM (X.drop k) := by rw [← seenM_append, List.take_append_drop]
      simp only [h2]
      rw [show seenM (X.take k) + seenM (X.drop k) - seenM (X.drop k) = seenM (X.take k) by omega]
     have kw9 := kw4.trans hkr
     clear HSM
     go_wp2
     go_ret2
     rw [HFN.out]
     exact ⟨rfl, kw9⟩
 ·have hP : ownP firm X = -1 := by unfold ownP; rw [if_neg (by rw [HN.out]; exact hown)]
  rw [hP]
  have HR : Hid (reachV firm X = .tuple #[.int .i64 (wholeM X), .bool false]) := by show _ = _; unfold reachV reachM; rw [if_neg (by rw [HN.out]; exact hown)]
  clear hP hown
  go_upto_region 5 with fail
  refine wp_text 4 [pE q 0, iE (wholeM X), iE (wholeM X), bE false] rfl (by kernel_rfl) ?_ ?_
  ·refine mE 1 0 ?_
   refine cS 2 102 [.pointer (some ⟨q, 0, none⟩)] rfl Try.func102 rfl (fun a u E D hk=>⟨ll (dD D 0) rfl, whole_any u F q X (HL2.out.kept hk) HX.out⟩) ?_
   refine mD 3 20 1 ?_
   refine sW 4 rfl (fun a u E D hk=>exec_assign _ _ rfl rfl) ?_
   exact fz
  intro gv w3 hV k3
  rw [dq 4 [19,20,4,5]]
  simp only [F7]
  rw [gQ hV 2 4 (.int .i64 (wholeM X))]
  rw [gQ hV 3 5 (.bool false)]
  clear hV
  refine wpList_nil ?_
  have kw3 := kw2.trans k3
  go_wp2
  go_ret2
  rw [HR.out]
  exact ⟨rfl, kw3⟩
theorem Sid.drop {s : Int} {L : List Lev} (h : Sid s L) : ∀ (i : Nat), Sid s (L.drop i) := by
 intro i
 induction i generalizing L with
 | zero => exact h
 | succ i ih =>
  cases L with
  | nil => exact h
  | cons l L => exact ih h.tail
theorem reach_nn {X : List Ent} (hX : Good X) (firm : Int) : 0 ≤ (reachM firm X).1 := by
 have hw := whole_ge hX.ok
 have hge := whole_ge (X := X.take (ownAt firm X)) (fun x hx => hX.ok x (List.mem_of_mem_take hx))
 unfold reachM
 split <;> simp only <;> omega
set_option maxRecDepth 100000 in
set_option maxHeartbeats 1600000 in
theorem gives_any (w : World) (F : Nat → Prop) (g off : Nat) (s s0 : Int) (L : List Lev) (o : Ord) (h : Lad w F g off s L) (hL : Sid s0 L) : Gives 65 #[.pointer (some ⟨g, off, none⟩), o.v] w (.eq (.int .i64 (givesM o L))) := by
 refine gives_eq ?_
 have HTOT : Hid (givesM o L ≤ 67108864) := by
  have h1 := gives_le o L hL
  have h2 := wholeL_le hL
  show _ ≤ _
  omega
 obtain ⟨v, hs0, hv0, Z, G, eL, hW⟩ := h
 have hn64 : Z.length ≤ 64 := by have := hL.ok.len; rw [← eL, levs_len] at this; exact this
 have HS := Lib.hid hs0
 have HV := Lib.hid hv0
 have HW := Lib.hid hW
 have HL := Lib.hid hL
 have EL := Lib.hid eL
 obtain ⟨n, hn⟩ : ∃ n, Z.length = n := ⟨_, rfl⟩
 have HSL := Lib.hid hW.sl
 rw [hn] at HSL hn64
 have HN := Lib.hid hn
 clear hs0 hv0 hW hL eL hn
 go_enter Try.func65, Try.ntmps65
 go_upto_region 0 with fail
 refine wp_text 2 [.fresh w.heap.size 25 (o.cells), iE 0] rfl (by kernel_rfl) ?_ ?_
 ·refine nW 1 rfl (fun a u E D hk=>⟨_, _, exec_box 25 _ (o.cells) rfl (eE E), ⟨_, rfl, hk.size, Blk.new u _ _⟩, ((Keep.refl _ u).alloc _)⟩) ?_
  refine sW 2 rfl (fun a u E D hk=>exec_assign _ _ rfl rfl) ?_
  exact fz
 intro gv wa hV ka
 rw [dq 2 [3,4]]
 simp only [F7]
 have hv3 : (.fresh w.heap.size 25 (o.cells) : Kn).p (gv 3) wa := hV 0 3 (by kernel_rfl)
 generalize gv 3 = v3 at hv3 ⊢
 rw [gQ hV 1 4 (.int .i64 0)]
 clear hV
 obtain ⟨g3, rfl, hg3, hB3⟩ := hv3
 refine wpList_nil ?_
 have HO := Lib.hid (blk_range hB3)
 clear hB3
 go_upto_region 1 with fail
 refine wp_text 1 [iE 0] rfl (by kernel_rfl) ?_ ?_
 ·refine sW 1 rfl (fun a u E D hk=>exec_assign _ _ rfl rfl) ?_
  exact fz
 intro gv wb hV kb
 rw [dq 1 [5]]
 simp only [F7]
 rw [gQ hV 0 5 (.int .i64 0)]
 clear hV
 refine wpList_nil ?_
 have kab := ka.trans kb
 have HOb := Lib.hid (range_kept HO.out kb)
 have HVb := Lib.hid (kab.cell HV.out)
 clear HO ka kb
 go_upto_region 2 with fail
 refine wp_text 6 [pE g off, pE g off, pE g (off + 1), .eq (v), iE (n : Int), iE 0] rfl (by kernel_rfl) ?_ ?_
 ·refine mE 1 0 ?_
  refine nD 2 10 0 ?_
  refine fD 3 11 1 73 1 1 off ?_
  refine sW 4 rfl (fun a u E D hk=>exec_ldv _ _ Try.underlying71 _ _ _ rfl (dD D 2) (Kept.cell hk (HVb.out))) ?_
  refine sW 5 rfl (fun a u E D hk=>exec_lenS _ slQ _ _ _ _ rfl (dD D 3) HSL.out) ?_
  refine sW 6 rfl (fun a u E D hk=>exec_move _ _ rfl rfl) ?_
  exact fz
 intro gv w0 hV k0
 rw [dq 6 [10,11,12,13,14,15]]
 simp only [F7]
 rw [gQ hV 3 13 v]
 rw [gQ hV 4 14 (.int .i64 (n : Int))]
 rw [gQ hV 5 15 (.int .i64 0)]
 clear hV
 refine wpList_nil ?_
 have HO0 := Lib.hid (range_kept HOb.out k0)
 have k0 := kab.trans k0
 clear HOb HVb kab HV HS
 go_wp2_with fail
 go_loopw [5, 15] (fun t x wr => ∃ (i : Nat) (a : Int), i ≤ n ∧ x = .int .i64 i ∧ t = .int .i64 a ∧ Hid (givesM o L = a + givesM o (L.drop i)) ∧ 0 ≤ a ∧ Kept w wr ∧ Kept w0 wr) (fun _ x _ => n - (intOf x).toNat)
 case atStart => exact ⟨0, 0, Nat.zero_le _, rfl, rfl, by show _ = _; rw [List.drop_zero]; omega, Int.le_refl _, k0, Kept.refl _⟩
 case round =>
  obtain ⟨i, s, hi, rfl, rfl, HM, hs0, hkr, hk0⟩ := hrel
  by_cases hlt : i < n
  ·skip
   obtain ⟨gs, os, c, rfl⟩ := HSL.out.some_ (by omega)
   obtain ⟨z, hz⟩ : ∃ z, Z[i]? = some z := ⟨Z[i]'(by rw [HN.out]; omega), List.getElem?_eq_getElem (by rw [HN.out]; omega)⟩
   obtain ⟨q, pr, X⟩ := z
   have hcell := (HW.out.kept hkr).cell hz
   have HC := Lib.hid hcell
   have HZ := Lib.hid hz
   have HLV := Lib.hid ((HW.out.kept hkr).lv (q, pr, X) (List.mem_of_getElem? hz))
   have HLM : Hid ((pr, X) ∈ L) := by show _ ∈ _; rw [← EL.out]; exact levs_mem (List.mem_of_getElem? hz)
   have HA : Hid (L[i]? = some (pr, X)) := by show _ = _; rw [← EL.out]; exact levs_at hz
   clear hcell hz
   go_upto_region 4 with fail
   refine wp_text 3 [pE gs (os + i * 1), pE q 0, pE q 0] rfl (by kernel_rfl) ?_ ?_
   ·refine sW 1 rfl (fun a u E D hk=>exec_ixo slQ _ _ (gs) (os) n c i (os + i * 1) ((i : Int)) rfl (eE E) (eE E) (by first | rfl | omega) (hlt) (by first | rfl | omega)) ?_
    refine sW 2 rfl (fun a u E D hk=>exec_ldp _ _ Try.underlying97 _ _ _ rfl (dD D 0) (Kept.cell hk (HC.out))) ?_
    refine mD 3 18 1 ?_
    exact fz
   intro gv w1 hV k1
   rw [dq 3 [17,18,7]]
   simp only [F7]
   rw [gQ hV 2 7 (.pointer (some ⟨q, 0, none⟩))]
   clear hV
   refine wpList_nil ?_
   have kw1 := hkr.trans k1
   have HLV1 := Lib.hid (HLV.out.kept k1)
   have HO1 := Lib.hid (range_kept HO0.out (hk0.trans k1))
   have k01 := hk0.trans k1
   have HGD := Lib.hid (HL.out.good HLM.out).1
   have HFR := Lib.hid (HL.out.fr _ HLM.out)
   have HD : Hid (L.drop i = (pr, X) :: L.drop (i + 1)) := by
    obtain ⟨hi', he⟩ := List.getElem?_eq_some_iff.1 HA.out
    show _ = _
    rw [List.drop_eq_getElem_cons hi', he]
   have HNN := Lib.hid (reach_nn HGD.out o.firm)
   have HG2 := Lib.hid (gives_nn o _ (HL.out.drop (i + 1)))
   clear HC HLV k1 hk0
   by_cases hcr : o.crosses pr = true
   ·have HCR := Lib.hid hcr
    have HM1 : Hid (givesM o L = s + (if (reachM o.firm X).2 = true then (reachM o.firm X).1 else (reachM o.firm X).1 + givesM o (L.drop (i + 1)))) := by
     show _ = _
     rw [HM.out, HD.out, givesM]
     simp only
     rw [if_pos hcr]
    clear hcr HM
    go_upto_region 5 with fail
    refine wp_free 4 [.eq (o.v), pE q 0, iE pr, bE true] (by kernel_rfl) rfl (by kernel_rfl) ?_ ?_
    ·refine sW 1 rfl (fun a u E D hk=>exec_ldS 25 _ _ (g3) (0) (o.cells) rfl (eE E) (range_kept HO1.out hk) Try.underlying25 (by rw [o.len9]; exact ord_size)) ?_
     refine mE 2 7 ?_
     refine cS 3 68 [.pointer (some ⟨q, 0, none⟩)] rfl Try.func68 rfl (fun a u E D hk=>⟨ll (dD D 1) rfl, price_any u _ q X (HLV1.out.kept hk)⟩) ?_
     refine cS 4 35 [o.v, .int .i64 pr] rfl Try.func35 rfl (fun a u E D hk=>⟨ll (dD D 0) (ll (dD D 2) rfl), (by rw [← HCR.out]; exact crosses_any o pr u)⟩) ?_
     exact fz
    intro gv w2 hV k2
    rw [dq 4 [19,20,21,22]]
    simp only [F7]
    rw [gQ hV 3 22 (.bool true)]
    clear hV
    refine l_val (.bool false) rfl (exec_not _ (.tmp 22) true rfl (by kernel_rfl)) ?_
    simp only [Act.put, sA, sS, sZ]
    refine wpList_nil ?_
    have HLV2 := Lib.hid (HLV1.out.kept k2)
    have HO2 := Lib.hid (range_kept HO1.out k2)
    have kw2 := kw1.trans k2
    have k02 := k01.trans k2
    clear HLV1 HO1 HCR k2 kw1 k01
    obtain ⟨rq, hrq⟩ : ∃ x, (reachM o.firm X).1 = x := ⟨_, rfl⟩
    obtain ⟨rb, hrb⟩ : ∃ x, (reachM o.firm X).2 = x := ⟨_, rfl⟩
    have HRV : Hid (reachV o.firm X = .tuple #[.int .i64 rq, .bool rb]) := by show _ = _; unfold reachV; rw [hrq, hrb]
    rw [hrq] at HNN
    rw [hrq, hrb] at HM1
    clear hrq hrb
    go_upto_region 6 with fail
    refine wp_text 9 [pE q 0, pE g3 2, iE o.firm, .eq (.tuple #[.int .i64 rq, .bool rb]), .eq (.tuple #[.int .i64 rq, .bool rb]), iE rq, bE rb, iE rq, bE rb] rfl (by kernel_rfl) ?_ ?_
    ·refine mE 1 7 ?_
     refine fE 2 3 25 2 2 0 ?_
     refine sW 3 rfl (fun a u E D hk=>exec_loadi _ Try.underlying3 _ _ _ rfl (dD D 1) (range_int (range_kept HO2.out hk) 2 _ rfl)) ?_
     refine cS 4 88 [.pointer (some ⟨q, 0, none⟩), .int .i64 o.firm] rfl Try.func88 rfl (fun a u E D hk=>⟨ll (dD D 0) (ll (dD D 2) rfl), (by rw [← HRV.out]; exact reach_any pr u _ q X o.firm (HLV2.out.kept hk) HGD.out HFR.out)⟩) ?_
     refine mD 5 28 3 ?_
     refine sW 6 rfl (fun a u E D hk=>exec_extract _ [.int .i64 rq, .bool rb] 0 (.int .i64 rq) rfl (dD D 4) rfl) ?_
     refine sW 7 rfl (fun a u E D hk=>exec_extract _ [.int .i64 rq, .bool rb] 1 (.bool rb) rfl (dD D 4) rfl) ?_
     refine mD 8 29 5 ?_
     refine mD 9 30 6 ?_
     exact fz
    intro gv w3 hV k3
    rw [dq 9 [25,26,27,28,24,29,30,8,9]]
    simp only [F7]
    rw [gQ hV 7 8 (.int .i64 rq)]
    rw [gQ hV 8 9 (.bool rb)]
    clear hV
    refine wpList_nil ?_
    have kw3 := kw2.trans k3
    have k03 := k02.trans k3
    have hb1 : 0 ≤ rq := HNN.out
    have hb2 : s + rq ≤ 67108864 := by
     have h1 := HM1.out
     have h2 := HTOT.out
     have h3 := HG2.out
     split at h1 <;> omega
    clear HLV2 HO2 HRV HNN k3 kw2 k02
    cases rb with
    | true =>
     have HF : Hid (givesM o L = s + rq) := by show _ = _; rw [HM1.out]; rfl
     clear HM1
     go_wp2
     go_ret
     exact ⟨by rw [HF.out]; rfl, kw3⟩
    | false =>
     have HF : Hid (givesM o L = s + rq + givesM o (L.drop (i + 1))) := by show _ = _; rw [HM1.out]; simp only [Bool.false_eq_true, if_false]; omega
     clear HM1
     go_wp2
     exact ⟨⟨i + 1, s + rq, by omega, by go_num, rfl, HF, by omega, kw3, k03⟩, by simp [intOf]; omega⟩
   ·have hcr' : o.crosses pr = false := by simpa using hcr
    have HCR := Lib.hid hcr'
    have HF : Hid (givesM o L = s) := by
     show _ = _
     rw [HM.out, HD.out, givesM]
     simp only
     rw [if_neg hcr]
     omega
    clear hcr hcr' HM
    go_upto_region 5 with fail
    refine wp_free 4 [.eq (o.v), pE q 0, iE pr, bE false] (by kernel_rfl) rfl (by kernel_rfl) ?_ ?_
    ·refine sW 1 rfl (fun a u E D hk=>exec_ldS 25 _ _ (g3) (0) (o.cells) rfl (eE E) (range_kept HO1.out hk) Try.underlying25 (by rw [o.len9]; exact ord_size)) ?_
     refine mE 2 7 ?_
     refine cS 3 68 [.pointer (some ⟨q, 0, none⟩)] rfl Try.func68 rfl (fun a u E D hk=>⟨ll (dD D 1) rfl, price_any u _ q X (HLV1.out.kept hk)⟩) ?_
     refine cS 4 35 [o.v, .int .i64 pr] rfl Try.func35 rfl (fun a u E D hk=>⟨ll (dD D 0) (ll (dD D 2) rfl), (by rw [← HCR.out]; exact crosses_any o pr u)⟩) ?_
     exact fz
    intro gv w2 hV k2
    rw [dq 4 [19,20,21,22]]
    simp only [F7]
    rw [gQ hV 3 22 (.bool false)]
    clear hV
    refine l_val (.bool true) rfl (exec_not _ (.tmp 22) false rfl (by kernel_rfl)) ?_
    simp only [Act.put, sA, sS, sZ]
    refine wpList_nil ?_
    have kw2 := kw1.trans k2
    clear HLV1 HO1 HCR k2 kw1 k01
    go_wp2
    go_ret
    exact ⟨by rw [HF.out]; rfl, kw2⟩
  ·have HF : Hid (givesM o L = s) := by
    show _ = _
    rw [HM.out, List.drop_of_length_le (by rw [← EL.out, levs_len, HN.out]; omega)]
    simp [givesM]
   clear HM
   go_wp2
   go_ret
   exact ⟨by rw [HF.out]; rfl, hkr⟩
set_option maxRecDepth 100000 in
set_option maxHeartbeats 800000 in
theorem crossed_any (w : World) (F : Nat → Prop) (g off : Nat) (s : Int) (L : List Lev) (o : Ord) (h : Lad w F g off s L) (hl : L.length ≤ 1000) : Gives 64 #[.pointer (some ⟨g, off, none⟩), o.v] w (.eq (.bool (o.meets L))) := by
 refine gives_eq ?_
 obtain ⟨v, hs0, hv0, Z, G, eL, hW⟩ := h
 have HV := Lib.hid hv0
 have HW := Lib.hid hW
 have EL := Lib.hid eL
 have HSL := Lib.hid hW.sl
 clear hs0 hv0 hW eL
 cases Z with
 | nil =>
  have HM : Hid (o.meets L = false) := by show _ = _; rw [← EL.out]; rfl
  go_enter Try.func64, Try.ntmps64
  go_upto_region 0 with fail
  refine wp_text 2 [.fresh w.heap.size 25 (o.cells), bE false] rfl (by kernel_rfl) ?_ ?_
  ·refine nW 1 rfl (fun a u E D hk=>⟨_, _, exec_box 25 _ (o.cells) rfl (eE E), ⟨_, rfl, hk.size, Blk.new u _ _⟩, ((Keep.refl _ u).alloc _)⟩) ?_
   refine sW 2 rfl (fun a u E D hk=>exec_assign _ _ rfl rfl) ?_
   exact fz
  intro gv wa hV ka
  rw [dq 2 [3,4]]
  simp only [F7]
  have hv3 : (.fresh w.heap.size 25 (o.cells) : Kn).p (gv 3) wa := hV 0 3 (by kernel_rfl)
  generalize gv 3 = v3 at hv3 ⊢
  rw [gQ hV 1 4 (.bool false)]
  clear hV
  obtain ⟨g3, rfl, hg3, hB3⟩ := hv3
  refine wpList_nil ?_
  have HVa := Lib.hid (ka.cell HV.out)
  clear hB3
  go_upto_region 1 with fail
  refine wp_free 16 [pE g off, pE g off, pE g (off + 1), .eq (v), iE (0 : Int), bE false, bE false, uE, uE, uE, uE, uE, uE, uE, uE, uE] (by kernel_rfl) rfl (by kernel_rfl) ?_ ?_
  ·refine mE 1 0 ?_
   refine nD 2 5 0 ?_
   refine fD 3 6 1 73 1 1 off ?_
   refine sW 4 rfl (fun a u E D hk=>exec_ldv _ _ Try.underlying71 _ _ _ rfl (dD D 2) (Kept.cell hk (HVa.out))) ?_
   refine sW 5 rfl (fun a u E D hk=>exec_lenS _ slQ _ _ _ _ rfl (dD D 3) HSL.out) ?_
   refine aS 6 rfl (fun a u E D hk=>exec_gtn rfl (dD D 4) rfl) (by decide) ?_
   refine mD 7 10 5 ?_
   refine kS 8 6 ?_
   refine kS 9 6 ?_
   refine kS 10 6 ?_
   refine kS 11 6 ?_
   refine kS 12 6 ?_
   refine kS 13 6 ?_
   refine kS 14 6 ?_
   refine kS 15 6 ?_
   refine kS 16 6 ?_
   exact fz
  intro gv w1 hV k1
  rw [dq 16 [5,6,7,8,9,10,11,12,13,14,15,16,17,18,19,20]]
  simp only [F7]
  rw [gQ hV 6 11 (.bool false)]
  rw [gQ hV 15 20 undef]
  clear hV
  refine l_val (.bool false) rfl (exec_pickF (.tmp 11) (.tmp 20) (.const (.bool false)) (.bool false) rfl (by kernel_rfl) rfl) ?_
  simp only [Act.put, sA, sS, sZ]
  refine l_val (.bool false) rfl (exec_assign _ _ rfl (by kernel_rfl)) ?_
  simp only [Act.put, sA, sS, sZ]
  refine wpList_nil ?_
  go_wp2
  go_ret
  exact ⟨by rw [HM.out]; rfl, ka.trans k1⟩
 | cons z Z =>
  obtain ⟨q, pr, X⟩ := z
  have HM : Hid (o.meets L = o.crosses pr) := by show _ = _; rw [← EL.out]; rfl
  have hl : Z.length + 1 ≤ 1000 := by rw [← EL.out, levs_len] at hl; exact hl
  obtain ⟨gs, os, c, rfl⟩ := HSL.out.some_ (by simp)
  have HC := Lib.hid (HW.out.cell (i := 0) (z := (q, pr, X)) rfl)
  have HLV := Lib.hid (HW.out.lv (q, pr, X) (by simp))
  obtain ⟨n, hn⟩ : ∃ n, Z.length + 1 = n := ⟨_, rfl⟩
  have hnz : 0 < n := by omega
  rw [show ((q, pr, X) :: Z).length = n from hn] at HSL HV
  rw [hn] at hl
  clear HW hn
  go_enter Try.func64, Try.ntmps64
  go_upto_region 0 with fail
  refine wp_text 2 [.fresh w.heap.size 25 (o.cells), bE false] rfl (by kernel_rfl) ?_ ?_
  ·refine nW 1 rfl (fun a u E D hk=>⟨_, _, exec_box 25 _ (o.cells) rfl (eE E), ⟨_, rfl, hk.size, Blk.new u _ _⟩, ((Keep.refl _ u).alloc _)⟩) ?_
   refine sW 2 rfl (fun a u E D hk=>exec_assign _ _ rfl rfl) ?_
   exact fz
  intro gv wa hV ka
  rw [dq 2 [3,4]]
  simp only [F7]
  have hv3 : (.fresh w.heap.size 25 (o.cells) : Kn).p (gv 3) wa := hV 0 3 (by kernel_rfl)
  generalize gv 3 = v3 at hv3 ⊢
  rw [gQ hV 1 4 (.bool false)]
  clear hV
  obtain ⟨g3, rfl, hg3, hB3⟩ := hv3
  refine wpList_nil ?_
  have HVa := Lib.hid (ka.cell HV.out)
  have HCa := Lib.hid (ka.cell HC.out)
  have HLVa := Lib.hid (HLV.out.kept ka)
  have HO := Lib.hid (blk_range hB3)
  clear hB3 HV HC HLV
  go_upto_region 1 with fail
  refine wp_free 16 [pE g off, pE g off, pE g (off + 1), .eq (.slice (some ⟨gs, os, none⟩) n c), iE (n : Int), bE true, bE true, .eq (o.v), pE g off, pE g off, pE g (off + 1), .eq (.slice (some ⟨gs, os, none⟩) n c), pE gs os, pE q 0, iE pr, bE (o.crosses pr)] (by kernel_rfl) rfl (by kernel_rfl) ?_ ?_
  ·refine mE 1 0 ?_
   refine nD 2 5 0 ?_
   refine fD 3 6 1 73 1 1 off ?_
   refine sW 4 rfl (fun a u E D hk=>exec_ldv _ _ Try.underlying71 _ _ _ rfl (dD D 2) (Kept.cell hk (HVa.out))) ?_
   refine sW 5 rfl (fun a u E D hk=>exec_len _ _ _ slQ.und (some ⟨gs, os, none⟩) n c rfl (dD D 3)) ?_
   refine aS 6 rfl (fun a u E D hk=>exec_gtn rfl (dD D 4) rfl) (decide_eq_true (by omega)) ?_
   refine mD 7 10 5 ?_
   refine sW 8 rfl (fun a u E D hk=>exec_ldS 25 _ _ (g3) (0) (o.cells) rfl (eE E) (range_kept HO.out hk) Try.underlying25 (by rw [o.len9]; exact ord_size)) ?_
   refine mE 9 0 ?_
   refine nD 10 13 8 ?_
   refine fD 11 14 9 73 1 1 off ?_
   refine sW 12 rfl (fun a u E D hk=>exec_ldv _ _ Try.underlying71 _ _ _ rfl (dD D 10) (Kept.cell hk (HVa.out))) ?_
   refine sW 13 rfl (fun a u E D hk=>exec_ixo slQ _ _ (gs) (os) n c 0 (os) (0) rfl (dD D 11) rfl (by first | rfl | omega) ((by omega)) (by first | rfl | omega)) ?_
   refine sW 14 rfl (fun a u E D hk=>exec_ldp _ _ Try.underlying97 _ _ _ rfl (dD D 12) (Kept.cell hk ((by simpa using HCa.out)))) ?_
   refine cS 15 68 [.pointer (some ⟨q, 0, none⟩)] rfl Try.func68 rfl (fun a u E D hk=>⟨ll (dD D 13) rfl, price_any u _ q X (HLVa.out.kept hk)⟩) ?_
   refine cS 16 35 [o.v, .int .i64 pr] rfl Try.func35 rfl (fun a u E D hk=>⟨ll (dD D 7) (ll (dD D 14) rfl), crosses_any o pr u⟩) ?_
   exact fz
  intro gv w1 hV k1
  rw [dq 16 [5,6,7,8,9,10,11,12,13,14,15,16,17,18,19,20]]
  simp only [F7]
  rw [gQ hV 6 11 (.bool true)]
  rw [gQ hV 15 20 (.bool (o.crosses pr))]
  clear hV
  refine l_val (.bool (o.crosses pr)) rfl (exec_pick (.tmp 11) (.tmp 20) (.const (.bool false)) (.bool (o.crosses pr)) rfl (by kernel_rfl) (by kernel_rfl)) ?_
  simp only [Act.put, sA, sS, sZ]
  refine l_val (.bool (o.crosses pr)) rfl (exec_assign _ _ rfl (by kernel_rfl)) ?_
  simp only [Act.put, sA, sS, sZ]
  refine wpList_nil ?_
  go_wp2
  go_ret
  exact ⟨by rw [HM.out]; rfl, ka.trans k1⟩
theorem lastOf_snoc (p : Int) (f : Fl) : ∀ (F : List Fl), lastOf p (F ++ [f]) = f.price
 | [] => rfl
 | [g] => rfl
 | g :: g' :: F => by
  rw [List.cons_append, lastOf]
  exact lastOf_snoc g.price f (g' :: F)
theorem lastOf_append : ∀ (F G : List Fl) (p : Int), lastOf p (F ++ G) = lastOf (lastOf p F) G
 | [], G, p => rfl
 | f :: F, G, p => by rw [List.cons_append, lastOf, lastOf, lastOf_append F G]
theorem seenM_snoc (H : List Ent) (h : Ent) : seenM (H ++ [h]) = seenM H + h.n := by rw [seenM_append]; simp [seenM, sumI]
def Oc.more (x : Oc) (pr no : Int) (H : List Ent) : Oc := { x with f := x.f ++ fillsOf x.o pr no x.left H, left := x.left - seenM H }
theorem Oc.more_nil (x : Oc) (pr no : Int) : x.more pr no [] = x := by unfold Oc.more; simp [fillsOf, seenM, sumI]
theorem Oc.set_fills (x : Oc) (v v' : Value) : (x.cells v).set 9 v' = x.cells v' := rfl
theorem Oc.set_left (x : Oc) (v : Value) (n : Int) : (x.cells v).set 10 (.int .i64 n) = ({ x with left := n } : Oc).cells v := rfl
theorem Oc.set_self (x : Oc) (v : Value) (b : Bool) : (x.cells v).set 13 (.bool b) = ({ x with self := b } : Oc).cells v := rfl
theorem Oc.set_rests (x : Oc) (v : Value) (b : Bool) : (x.cells v).set 11 (.bool b) = ({ x with rests := b } : Oc).cells v := rfl
theorem q_l (o : Ord) (n : Int) : stc (o.l.set 6 n) [] = (o.q n).cells := rfl
theorem exec_bF {a : Act} {o : Oper} {u : World} (x y z t n : Operand) (m k : Ord) (p q r : Int) (hop : o.op = .build 36 #[(0, x), (1, y), (2, z), (3, t), (4, n)]) (hx : a.eval x = m.v) (hy : a.eval y = k.v) (hz : a.eval z = .int .i64 p) (ht : a.eval t = .int .i64 q) (hn : a.eval n = .int .i64 r) : (execOp a.eval o).run Try.prog u = .ok (.value (Fl.mk m k p q r).v) u :=
 exec_build _ [(0, x), (1, y), (2, z), (3, t), (4, n)] (Fl.mk m k p q r).cells hop (by simp only [List.map_cons, List.map_nil, hx, hy, hz, ht, hn]; exact builtF m k p q r)
def TradeIn (w : World) (go p : Nat) (s : Int) (v u0 vf : Value) (last no pr : Int) (x : Oc) (H : List Ent) (r : Ending) (w' : World) : Prop :=
 ∃ vf', r = .returned (.tuple #[]) ∧ Blk w' go 29 ((x.more pr no H).cells vf') ∧ Sl w' 36 21 vf' (x.more pr no H).f.length (fls (x.more pr no H).f) ∧ Blk w' p 75 (sideCs s v u0 (lastOf last (fillsOf x.o pr no x.left H)) (no + H.length)) ∧ Keep (fun b => b = go ∨ b = p ∨ vf.ownBlock = some b) w w' ∧ ∀ b, vf'.ownBlock = some b → vf.ownBlock = some b ∨ w.heap.size ≤ b
set_option maxRecDepth 100000 in
set_option maxHeartbeats 3200000 in
theorem trade_any (w : World) (go p : Nat) (s : Int) (v u0 vf vh : Value) (last no pr : Int) (x : Oc) (H : List Ent) (hO : Blk w go 29 (x.cells vf)) (hF : Sl w 36 21 vf x.f.length (fls x.f)) (hB : Blk w p 75 (sideCs s v u0 last no)) (hH : Sl w 39 10 vh H.length (ents H)) (hgp : go ≠ p) (hfo : ∀ b, vf.ownBlock = some b → b ≠ go ∧ b ≠ p) (hho : ∀ b, vh.ownBlock = some b → b ≠ go ∧ b ≠ p ∧ vf.ownBlock ≠ some b)
  (hpos : ∀ h ∈ H, 1 ≤ h.n) (hsum : seenM H ≤ x.left) (hl : x.left ≤ 2000000) (hfl : x.f.length ≤ 2000000) (hno : 0 ≤ no) (hno2 : no ≤ 2000000000000) :
  Calls Try.prog 67 #[.pointer (some ⟨p, 0, none⟩), .pointer (some ⟨go, 0, none⟩), .int .i64 pr, vh] w (TradeIn w go p s v u0 vf last no pr x H) := by
 have hpl := hB.lt
 have hgl := hO.lt
 have hHl : (H.length : Int) ≤ seenM H := by
  have := whole_ge (X := H.map fun h => ⟨{ h.o with qty := h.n }, h.n⟩) (by intro e he; obtain ⟨h, hh, rfl⟩ := List.mem_map.1 he; exact ⟨hpos h hh, Int.le_refl _⟩)
  have h1 := this.1
  rw [List.length_map] at h1
  have h2 : seenM (H.map fun h => (⟨{ h.o with qty := h.n }, h.n⟩ : Ent)) = seenM H := by unfold seenM; rw [List.map_map]; rfl
  omega
 obtain ⟨n, hn⟩ : ∃ n, H.length = n := ⟨_, rfl⟩
 have hn2 : (n : Int) ≤ 2000000 := by omega
 have HN := Lib.hid hn
 have HP := Lib.hid hpos
 have HSUM := Lib.hid hsum
 have HO := Lib.hid hO
 have HF := Lib.hid hF
 have HB := Lib.hid hB
 have HH := Lib.hid hH
 have HHO := Lib.hid hho
 have HFO := Lib.hid hfo
 rw [hn] at HH
 have hfl0 : ∀ b, vf.ownBlock = some b → b < w.heap.size := fun b hb => hF.lt hb
 have HFL := Lib.hid hfl0
 have HHB : Hid (∀ b, vh.ownBlock = some b → b < w.heap.size) := fun b hb => hH.lt hb
 clear hO hF hB hH hho hfo hpos hn hfl0 hHl hsum
 go_enter Try.func67, Try.ntmps67
 go_upto_region 0 with fail
 refine wp_text 7 [pE go 0, pE go 0, pE go 0, pE go 9, .eq (vf), .eq (vh), iE (n : Int)] rfl (by kernel_rfl) ?_ ?_
 ·refine mE 1 1 ?_
  refine mE 2 1 ?_
  refine nD 3 12 1 ?_
  refine fD 4 13 2 29 1 9 0 ?_
  refine sW 5 rfl (fun a u E D hk=>exec_ldv _ _ Try.underlying26 _ _ _ rfl (dD D 3) (by rw [(HO.out.kept hk).cell]; rfl)) ?_
  refine mE 6 3 ?_
  refine sW 7 rfl (fun a u E D hk=>exec_lenS _ slH _ _ _ _ rfl (dD D 5) HH.out) ?_
  exact fz
 intro gv w1 hV k1
 rw [dq 7 [11,12,13,14,15,16,17]]
 simp only [F7]
 rw [gQ hV 4 15 vf]
 rw [gQ hV 6 17 (.int .i64 (n : Int))]
 rw [gQ hV 0 11 (.pointer (some ⟨go, 0, none⟩))]
 clear hV
 refine l_call 90 #[vf, .int .i64 (n : Int)] rfl (exec_call 90 _ [.tmp 15, .tmp 17] _ _ Try.func90 (by kernel_rfl) (by kernel_rfl) rfl (by kernel_rfl) _) ?_
 refine (growF_any w1 vf x.f.length n _ (HF.out.kept k1) (by omega)).mono ?_
 rintro r w2 ⟨vg, rfl, hS2, k2, ho2⟩
 refine ⟨_, rfl, ?_⟩
 simp only [Act.put, sA, sS, sZ]
 refine l_val (.pointer (some ⟨go, 0, none⟩)) rfl (exec_nilp (.tmp 11) ⟨go, 0, none⟩ rfl (by kernel_rfl)) ?_
 simp only [Act.put, sA, sS, sZ]
 refine l_val (.pointer (some ⟨go, 9, none⟩)) rfl (exec_fldo 29 1 9 (.tmp 19) (go) (0) (9) rfl (by kernel_rfl) (by kernel_rfl) rfl) ?_
 simp only [Act.put, sA, sS, sZ]
 refine l_st1 26 go 9 29 _ vg _ _ rfl rfl (by kernel_rfl) (by kernel_rfl) (by kernel_rfl) (sl_cells hS2) (sl_onec hS2) ((HO.out.kept k1).kept k2) (by rw [Oc.len15]; omega) ?_
 intro w3 hB3 hk3 hs3
 simp only [Act.put]
 refine wpList_nil ?_
 rw [Oc.set_fills] at hB3
 have k12 := k1.trans k2
 have z12 := k12.size
 have K3 : Keep (fun b => b = go ∨ b = p ∨ vf.ownBlock = some b) w w3 := (Keep.mono (T := (fun b => b = go ∨ b = p ∨ vf.ownBlock = some b)) k12 (fun _ _ h => h.elim)).trans hk3 (fun b _ h => .inl h)
 have ho3 : ∀ b, vg.ownBlock = some b → vf.ownBlock = some b ∨ w.heap.size ≤ b := fun b hb => (ho2 b hb).imp id (fun h => Nat.le_trans k1.size h)
 have hgne : ∀ b, vg.ownBlock = some b → b ≠ go ∧ b ≠ p := fun b hb => by
  rcases ho3 b hb with h | h
  ·exact HFO.out b h
  ·omega
 have HO3 := Lib.hid hB3
 have HF3 := Lib.hid (hS2.keep hk3 (fun b hb e => (hgne b hb).1 e))
 have HB3 := Lib.hid ((HB.out.kept k12).keep hk3 (fun e => hgp e.symm))
 have HG3 := Lib.hid ho3
 clear hB3 hS2 hk3 hs3 k1 k2 ho2 ho3 k12 hgne
 go_upto_region 1 with fail
 refine wp_text 3 [.eq (vh), iE (n : Int), iE 0] rfl (by kernel_rfl) ?_ ?_
 ·refine mE 1 3 ?_
  refine sW 2 rfl (fun a u E D hk=>exec_lenS _ slH _ _ _ _ rfl (dD D 0) HH.out) ?_
  refine sW 3 rfl (fun a u E D hk=>exec_move _ _ rfl rfl) ?_
  exact fz
 intro gv w4 hV k4
 rw [dq 3 [21,22,23]]
 simp only [F7]
 rw [gQ hV 0 21 vh]
 rw [gQ hV 1 22 (.int .i64 (n : Int))]
 rw [gQ hV 2 23 (.int .i64 0)]
 clear hV
 refine wpList_nil ?_
 have K4 := K3.kept k4
 have HO4 := Lib.hid (HO3.out.kept k4)
 have HF4 := Lib.hid (HF3.out.kept k4)
 have HB4 := Lib.hid (HB3.out.kept k4)
 clear HO3 HF3 HB3 K3 k4
 go_wp2_with fail
 go_loopw [23] (fun t wr => ∃ (i : Nat) (vv : Value), i ≤ n ∧ t = .int .i64 (i : Int) ∧ Hid (Blk wr go 29 ((x.more pr no (H.take i)).cells vv)) ∧ Hid (Sl wr 36 21 vv (x.more pr no (H.take i)).f.length (fls (x.more pr no (H.take i)).f)) ∧ Hid (Blk wr p 75 (sideCs s v u0 (lastOf last (fillsOf x.o pr no x.left (H.take i))) (no + i))) ∧ Hid (∀ b, vv.ownBlock = some b → vf.ownBlock = some b ∨ w.heap.size ≤ b) ∧ Keep (fun b => b = go ∨ b = p ∨ vf.ownBlock = some b) w wr) (fun t _ => n - (intOf t).toNat)
 case atStart => exact ⟨0, vg, Nat.zero_le _, rfl, by rw [List.take_zero, Oc.more_nil]; exact HO4.out, by rw [List.take_zero, Oc.more_nil]; exact HF4.out, by rw [List.take_zero]; simp only [fillsOf, lastOf, Int.ofNat_zero, Int.add_zero]; exact HB4.out, HG3.out, K4⟩
 case round =>
  obtain ⟨i, vv, hi, rfl, HOr, HFr, HBr, HGr, hkr⟩ := hrel
  have zr := hkr.size
  by_cases hlt : i < n
  ·skip
   obtain ⟨gs, off, c, rfl⟩ := HH.out.some_ (by omega)
   obtain ⟨h, hh⟩ : ∃ h, H[i]? = some h := ⟨H[i]'(by rw [HN.out]; omega), List.getElem?_eq_getElem (by rw [HN.out]; omega)⟩
   have hgs := HHO.out gs rfl
   have HE : Hid (wr.rangeAt gs (off + i * 10) h.cells) := range_keep (HH.out.rng i h hh) hkr (fun e => by
    rcases e with e | e | e
    ·exact hgs.1 e
    ·exact hgs.2.1 e
    ·exact hgs.2.2 e)
   have HHI := Lib.hid hh
   have HTK : Hid (H.take (i + 1) = H.take i ++ [h]) := by show _ = _; rw [List.take_add_one, hh]; rfl
   have hh1 : 1 ≤ h.n := HP.out h (List.mem_of_getElem? hh)
   have hlb : seenM (H.take i) + h.n ≤ x.left ∧ 0 ≤ seenM (H.take i) := by
    have e1 : seenM H = seenM (H.take i) + h.n + seenM (H.drop (i + 1)) := by
     rw [← seenM_snoc, ← HTK.out, ← seenM_append, List.take_append_drop]
    have hnn : ∀ Y : List Ent, (∀ y ∈ Y, 1 ≤ y.n) → 0 ≤ seenM Y := fun Y => by
     induction Y with
     | nil => intro _; simp [seenM, sumI]
     | cons y Y ih => intro hy; rw [seenM_cons]; have := ih (fun z hz => hy z (by simp [hz])); have := hy y (by simp); omega
    have e2 := hnn (H.drop (i + 1)) (fun y hy => HP.out y (List.mem_of_mem_drop hy))
    have e3 := hnn (H.take i) (fun y hy => HP.out y (List.mem_of_mem_take hy))
    have e4 := HSUM.out
    omega
   clear hh
   obtain ⟨xi, hxi⟩ : ∃ xi, x.more pr no (H.take i) = xi := ⟨_, rfl⟩
   obtain ⟨la, hla⟩ : ∃ la, lastOf last (fillsOf x.o pr no x.left (H.take i)) = la := ⟨_, rfl⟩
   have hxo : xi.o = x.o := by rw [← hxi]; rfl
   have hxl : xi.left = x.left - seenM (H.take i) := by rw [← hxi]; rfl
   have hxf : xi.f.length = x.f.length + i := by rw [← hxi]; show (x.f ++ _).length = _; rw [List.length_append, fillsOf_len, List.length_take, HN.out]; omega
   have HNX : Hid (x.more pr no (H.take (i + 1)) = { xi with f := xi.f ++ [⟨h.o, x.o.q xi.left, pr, h.n, no + i + 1⟩], left := xi.left - h.n }) := by
    show _ = _
    rw [← hxi, HTK.out]
    unfold Oc.more
    simp only
    rw [fillsOf_append, seenM_snoc, List.length_take, HN.out, Nat.min_eq_left hi]
    simp only [fillsOf, List.append_assoc]
    congr 1
    omega
   have HNF : Hid (lastOf last (fillsOf x.o pr no x.left (H.take (i + 1))) = pr) := by
    show _ = _
    rw [HTK.out, fillsOf_append]
    simp only [fillsOf]
    exact lastOf_snoc _ _ _
   rw [hxi] at HOr HFr
   rw [hla] at HBr
   have HXO := Lib.hid hxo
   have hlb2 : h.n ≤ xi.left ∧ xi.left ≤ 2000000 := by omega
   have hxfl : xi.f.length ≤ 4000001 := by omega
   have hni : 0 ≤ no + (i : Int) ∧ no + (i : Int) ≤ 3000000000000 := by omega
   have hvg : ∀ b, vv.ownBlock = some b → b < wr.heap.size := fun b hb => HFr.out.lt hb
   have HVG := Lib.hid hvg
   have hvn : ∀ b, vv.ownBlock = some b → b ≠ go ∧ b ≠ p := fun b hb => by
    rcases HGr.out b hb with e | e
    ·exact HFO.out b e
    ·omega
   have HVN := Lib.hid hvn
   clear hxi hla hxo hxl hvg hvn hlb hxf
   go_upto_region 3 with fail
   refine wp_text 3 [pE gs (off + i * 10), .eq (h.v), .fresh wr.heap.size 39 zeroE.cells] rfl (by kernel_rfl) ?_ ?_
   ·refine sW 1 rfl (fun a u E D hk=>exec_ixo slH _ _ (gs) (off) n c i (off + i * 10) ((i : Int)) rfl (eE E) (eE E) (by first | rfl | omega) (hlt) (by first | rfl | omega)) ?_
    refine sW 2 rfl (fun a u E D hk=>exec_ldS 39 _ _ (gs) (off + i * 10) (h.cells) rfl (dD D 0) (range_kept HE.out hk) Try.underlying39 (by rw [h.len10]; exact szH)) ?_
    refine nW 3 rfl (fun a u E D hk=>⟨_, _, exec_alc 39 zeroE.cells rfl zH, ⟨_, rfl, hk.size, Blk.new u _ _⟩, ((Keep.refl _ u).alloc _)⟩) ?_
    exact fz
   intro gv w5 hV k5
   rw [dq 3 [25,26,9]]
   simp only [F7]
   have hv9 : (.fresh wr.heap.size 39 zeroE.cells : Kn).p (gv 9) w5 := hV 2 9 (by kernel_rfl)
   generalize gv 9 = v9 at hv9 ⊢
   rw [gQ hV 1 26 h.v]
   clear hV
   obtain ⟨b9, rfl, hb9, hB9⟩ := hv9
   refine l_setS 39 b9 39 zeroE.cells h.cells _ _ rfl rfl (by kernel_rfl) (by kernel_rfl) hB9 (by rw [Ent.len10]; exact szH) (by rw [Ent.len10, Ent.len10]) (Ent.one _) ?_
   intro w6 hB6 hk6 hs6
   simp only [Act.put]
   refine wpList_nil ?_
   have k6 : Kept wr w6 := k5.trans' hk6 (by omega)
   have HB9 := Lib.hid hB6
   have l9 := hB6.lt
   have HO6 := Lib.hid (HOr.out.kept k6)
   clear hB9 hB6 hk6 hs6 k5 HE
   go_upto_region 4 with fail
   refine wp_text 5 [pE go 0, pE go 0, pE go 0, .eq (xi.o.v), .fresh w6.heap.size 25 zeroO.cells] rfl (by kernel_rfl) ?_ ?_
   ·refine mE 1 1 ?_
    refine nD 2 27 0 ?_
    refine fD 3 28 1 29 0 0 0 ?_
    refine sW 4 rfl (fun a u E D hk=>exec_ldS 25 _ _ (go) (0) (xi.o.cells) rfl (dD D 2) (oc_ord (HO6.out.kept hk)) Try.underlying25 (by rw [xi.o.len9]; exact ord_size)) ?_
    refine nW 5 rfl (fun a u E D hk=>⟨_, _, exec_alc 25 zeroO.cells rfl zO, ⟨_, rfl, hk.size, Blk.new u _ _⟩, ((Keep.refl _ u).alloc _)⟩) ?_
    exact fz
   intro gv w7 hV k7
   rw [dq 5 [27,28,29,30,10]]
   simp only [F7]
   have hv10 : (.fresh w6.heap.size 25 zeroO.cells : Kn).p (gv 10) w7 := hV 4 10 (by kernel_rfl)
   generalize gv 10 = v10 at hv10 ⊢
   rw [gQ hV 3 30 xi.o.v]
   clear hV
   obtain ⟨b10, rfl, hb10, hB10⟩ := hv10
   refine l_setS 25 b10 25 zeroO.cells xi.o.cells _ _ rfl rfl (by kernel_rfl) (by kernel_rfl) hB10 (by rw [Ord.len9]; exact ord_size) (by rw [Ord.len9, Ord.len9]) (Ord.one1 _) ?_
   intro w8 hB8 hk8 hs8
   simp only [Act.put]
   refine wpList_nil ?_
   have k8 : Kept w6 w8 := k7.trans' hk8 (by omega)
   have z6 := k6.size
   have HO8 := Lib.hid (HO6.out.kept k8)
   have HB98 := Lib.hid (HB9.out.kept k8)
   have l10 := hB8.lt
   clear hB10 hk8 hs8 k7 HO6 HB9
   go_upto_region 5 with fail
   refine wp_text 5 [pE go 0, pE go 0, pE go 10, iE xi.left, pE b10 6] rfl (by kernel_rfl) ?_ ?_
   ·refine mE 1 1 ?_
    refine nD 2 31 0 ?_
    refine fD 3 32 1 29 2 10 0 ?_
    refine sW 4 rfl (fun a u E D hk=>exec_loadi _ Try.underlying3 _ _ _ rfl (dD D 2) (by rw [(HO8.out.kept hk).cell]; rfl)) ?_
    refine fE 5 10 25 6 6 0 ?_
    exact fz
   intro gv w9 hV k9
   rw [dq 5 [31,32,33,34,35]]
   simp only [F7]
   rw [gQ hV 4 35 (.pointer (some ⟨b10, 6, none⟩))]
   rw [gQ hV 3 34 (.int .i64 xi.left)]
   clear hV
   refine l_setf b10 6 25 xi.o.l [] xi.left _ _ rfl rfl (by kernel_rfl) (by kernel_rfl) (hB8.kept k9) (by simp [Ord.l]) ?_
   intro w10 hB10 hk10 hs10
   simp only [Act.put]
   refine wpList_nil ?_
   rw [q_l] at hB10
   have k10 : Kept wr w10 := ((k6.trans k8).trans k9).trans' hk10 (by omega)
   have HB10 := Lib.hid hB10
   have HB910 := Lib.hid ((HB98.out.kept k9).keep hk10 (by omega))
   have HP10 := Lib.hid (HBr.out.kept k10)
   have HO10 := Lib.hid (HOr.out.kept k10)
   have HF10 := Lib.hid (HFr.out.kept k10)
   have z10 := k10.size
   clear hB8 hB10 hk10 hs10 k9 HO8 HB98 k6 k8 HOr HBr HFr
   go_upto_region 6 with fail
   refine wp_text 4 [pE p 0, iE pr, pE p 0, pE p 4] rfl (by kernel_rfl) ?_ ?_
   ·refine mE 1 0 ?_
    refine mE 2 2 ?_
    refine nD 3 36 0 ?_
    refine fD 4 38 2 75 2 4 0 ?_
    exact fz
   intro gv w11 hV k11
   rw [dq 4 [36,37,38,39]]
   simp only [F7]
   rw [gQ hV 3 39 (.pointer (some ⟨p, 4, none⟩))]
   rw [gQ hV 1 37 (.int .i64 pr)]
   clear hV
   refine l_st1 3 p 4 75 _ (.int .i64 pr) _ _ rfl rfl (by kernel_rfl) (by kernel_rfl) (by kernel_rfl) rfl rfl (HP10.out.kept k11) (by rw [sideCs_len]; omega) ?_
   intro w12 hP12 hk12 hs12
   simp only [Act.put]
   refine wpList_nil ?_
   rw [sideCs_last] at hP12
   have kp12 : Keep (· = p) w10 w12 := Keep.any k11 hk12
   have HP12 := Lib.hid hP12
   clear hP12 hk12 hs12 k11 HP10
   go_upto_region 7 with fail
   refine wp_text 7 [pE p 0, pE p 0, pE p 5, iE (no + (i : Int)), iE (no + (i : Int) + 1), pE p 0, pE p 5] rfl (by kernel_rfl) ?_ ?_
   ·refine mE 1 0 ?_
    refine nD 2 40 0 ?_
    refine fD 3 41 1 75 3 5 0 ?_
    refine sW 4 rfl (fun a u E D hk=>exec_loadi _ Try.underlying3 _ _ _ rfl (dD D 2) (Kept.cell hk ((HP12.out.cell 5).trans (by unfold sideCs; split <;> rfl)))) ?_
    refine sW 5 rfl (fun a u E D hk=>exec_addn (no + (i : Int) + 1) (p := no + (i : Int)) (q := 1) rfl (dD D 3) rfl rfl (by omega) (by omega)) ?_
    refine nD 6 40 0 ?_
    refine fD 7 45 5 75 3 5 0 ?_
    exact fz
   intro gv w13 hV k13
   rw [dq 7 [40,41,42,43,44,45,46]]
   simp only [F7]
   rw [gQ hV 6 46 (.pointer (some ⟨p, 5, none⟩))]
   rw [gQ hV 4 44 (.int .i64 (no + (i : Int) + 1))]
   clear hV
   refine l_st1 3 p 5 75 _ (.int .i64 (no + (i : Int) + 1)) _ _ rfl rfl (by kernel_rfl) (by kernel_rfl) (by kernel_rfl) rfl rfl (HP12.out.kept k13) (by rw [sideCs_len]; omega) ?_
   intro w14 hP14 hk14 hs14
   simp only [Act.put]
   refine wpList_nil ?_
   rw [sideCs_no] at hP14
   have kp14 : Keep (· = p) w10 w14 := (kp12.kept k13).trans hk14 (fun _ _ h => h)
   have z14 := kp14.size
   have hpl' : p < wr.heap.size := by omega
   have HP14 := Lib.hid hP14
   have HO14 := Lib.hid (HO10.out.keep kp14 hgp)
   have HF14 := Lib.hid (HF10.out.keep kp14 (fun b hb => (HVN.out b hb).2))
   have HB914 := Lib.hid (HB910.out.keep kp14 (by omega))
   have HB1014 := Lib.hid (HB10.out.keep kp14 (by omega))
   have HR9 := Lib.hid (blk_range HB914.out)
   have HR10 := Lib.hid (blk_range HB1014.out)
   clear hP14 hk14 hs14 k13 kp12 HP12 HO10 HF10 HB910 HB10
   go_upto_region 8 with fail
   refine wp_freeT 17 [.eq (.pointer (some ⟨go, 0, none⟩)), .eq (.pointer (some ⟨go, 0, none⟩)), .eq (.pointer (some ⟨go, 0, none⟩)), .eq (.pointer (some ⟨go, 9, none⟩)), .eq (vv), .eq (.pointer (some ⟨b9, 0, none⟩)), .eq (h.o.v), .eq ((xi.o.q xi.left).v), .eq (.int .i64 pr), .eq (.pointer (some ⟨b9, 9, none⟩)), .eq (.int .i64 h.n), .eq (.pointer (some ⟨p, 0, none⟩)), .eq (.pointer (some ⟨p, 0, none⟩)), .eq (.pointer (some ⟨p, 5, none⟩)), .eq (.int .i64 (no + (i : Int) + 1)), .eq ((Fl.mk h.o (xi.o.q xi.left) pr h.n (no + (i : Int) + 1)).v), .sl w14.heap.size 36 21 1 (Fl.mk h.o (xi.o.q xi.left) pr h.n (no + (i : Int) + 1)).cells] (.pointer (some ⟨go, 0, none⟩)) ((fun v' u u' => Sl u' 36 21 v' (xi.f.length + 1) (fls xi.f ++ (Fl.mk h.o (xi.o.q xi.left) pr h.n (no + (i : Int) + 1)).cells) ∧ Keep (fun b => vv.ownBlock = some b) u u' ∧ ∀ b, v'.ownBlock = some b → vv.ownBlock = some b ∨ w14.heap.size ≤ b)) (by kernel_rfl) rfl rfl (by kernel_rfl) (by kernel_rfl) (t_zero (d := 47) _ rfl rfl rfl (by kernel_rfl) (by kernel_rfl)) ?_ (fun a u hE hD hk =>  (by obtain ⟨v', u', hr, hs', hk', ho'⟩ := run_append_sl slF _ u vv (a.eval (.tmp 63)) xi.f.length 1 (fls xi.f) (Fl.mk h.o (xi.o.q xi.left) pr h.n (no + (i : Int) + 1)).cells (HF14.out.kept hk) ((hD 16 63 (by kernel_rfl))).1 (Fl.one _) (by unfold maxLen; omega) (by omega); exact t_last (o := ⟨some 64, _, _, _, _, _⟩) (R := (fun v' u u' => Sl u' 36 21 v' (xi.f.length + 1) (fls xi.f ++ (Fl.mk h.o (xi.o.q xi.left) pr h.n (no + (i : Int) + 1)).cells) ∧ Keep (fun b => vv.ownBlock = some b) u u' ∧ ∀ b, v'.ownBlock = some b → vv.ownBlock = some b ∨ w14.heap.size ≤ b)) (m := 17) (v := v') (w' := u') rfl (wanted_none rfl _) (exec_appS slF (.tmp 51) (.tmp 63) vv _ rfl (dD hD 4) rfl v' u' hr) ⟨hs', hk', fun b hb => (ho' b hb).imp id (fun h => Nat.le_trans hk.size h)⟩)) ?_
   ·refine mE 2 1 ?_
    refine nD 3 48 1 ?_
    refine fD 4 49 2 29 1 9 0 ?_
    refine sW 5 rfl (fun a u E D hk=>exec_ldv _ _ Try.underlying26 _ _ _ rfl (dD D 3) (by rw [(HO14.out.kept hk).cell]; rfl)) ?_
    refine fE 6 9 39 0 0 0 ?_
    refine sW 7 rfl (fun a u E D hk=>exec_ldS 25 _ _ (b9) (0) (h.o.cells) rfl (dD D 5) (ent_ord (range_kept HR9.out hk)) Try.underlying25 (by rw [h.o.len9]; exact ord_size)) ?_
    refine sW 8 rfl (fun a u E D hk=>exec_ldS 25 _ _ (b10) (0) ((xi.o.q xi.left).cells) rfl (eE E) (range_kept HR10.out hk) Try.underlying25 (by rw [(xi.o.q xi.left).len9]; exact ord_size)) ?_
    refine mE 9 2 ?_
    refine fE 10 9 39 1 9 0 ?_
    refine sW 11 rfl (fun a u E D hk=>exec_loadi _ Try.underlying3 _ _ _ rfl (dD D 9) (range_int (range_kept HR9.out hk) 9 _ rfl)) ?_
    refine mE 12 0 ?_
    refine nD 13 58 11 ?_
    refine fD 14 59 12 75 3 5 0 ?_
    refine sW 15 rfl (fun a u E D hk=>exec_loadi _ Try.underlying3 _ _ _ rfl (dD D 13) (Kept.cell hk ((HP14.out.cell 5).trans (by unfold sideCs; split <;> rfl)))) ?_
    refine sW 16 rfl (fun a u E D hk=>exec_bF _ _ _ _ _ h.o (xi.o.q xi.left) pr h.n (no + (i : Int) + 1) rfl (dD D 6) (dD D 7) (dD D 8) (dD D 10) (dD D 14)) ?_
    refine nW 17 rfl (fun a u E D hk=>⟨_, _, exec_oneS slF _ (Fl.mk h.o (xi.o.q xi.left) pr h.n (no + (i : Int) + 1)).cells (by omega) rfl (dD D 15) ((Fl.mk h.o (xi.o.q xi.left) pr h.n (no + (i : Int) + 1)).len21), (sl_one u 36 21 _ w14.heap.size ((Fl.mk h.o (xi.o.q xi.left) pr h.n (no + (i : Int) + 1)).len21) (by omega) hk.size), ((Keep.refl _ u).alloc _)⟩) ?_
    exact fz
   intro gv w1 w15 hV h0 hR hk1
   rw [dq 18 [47,48,49,50,51,52,53,54,55,56,57,58,59,60,61,62,63,64]]
   simp only [F7]
   have hT := hR 64 (by kernel_rfl)
   generalize gv 64 = v64 at hT ⊢
   rw [show gv 47 = .pointer (some ⟨go, 0, none⟩) from h0 47 (by kernel_rfl)]
   clear hV h0 hR
   obtain ⟨hs15, hk15, ho15⟩ := hT
   have hO15 := (HO14.out.kept hk1).keep hk15 (fun e => (HVN.out go e).1 rfl)
   refine l_val (.pointer (some ⟨go, 0, none⟩)) rfl (exec_nilp (.tmp 47) ⟨go, 0, none⟩ rfl (by kernel_rfl)) ?_
   simp only [Act.put, sA, sS, sZ]
   refine l_val (.pointer (some ⟨go, 9, none⟩)) rfl (exec_fldo 29 1 9 (.tmp 65) (go) (0) (9) rfl (by kernel_rfl) (by kernel_rfl) rfl) ?_
   simp only [Act.put, sA, sS, sZ]
   refine l_st1 26 go 9 29 _ v64 _ _ rfl rfl (by kernel_rfl) (by kernel_rfl) (by kernel_rfl) (sl_cells hs15) (sl_onec hs15) hO15 (by rw [Oc.len15]; omega) ?_
   intro w16 hO16 hk16 hs16
   simp only [Act.put]
   refine wpList_nil ?_
   obtain ⟨vn, hvn⟩ : ∃ y, y = v64 := ⟨_, rfl⟩
   subst hvn
   rw [Oc.set_fills] at hO16
   have zk1 := hk1.size
   have z15 := hk15.size
   have hvn1 : ∀ b, vn.ownBlock = some b → b ≠ go ∧ b ≠ p := fun b hb => by
    rcases ho15 b hb with e | e
    ·exact HVN.out b e
    ·omega
   have HVN1 := Lib.hid hvn1
   have hvn2 : ∀ b, vn.ownBlock = some b → vf.ownBlock = some b ∨ w.heap.size ≤ b := fun b hb => by
    rcases ho15 b hb with e | e
    ·exact HGr.out b e
    ·exact .inr (by omega)
   have HVN2 := Lib.hid hvn2
   have K16 : Keep (fun b => b = go ∨ vv.ownBlock = some b) w14 w16 := (Keep.mono (T := fun b => b = go ∨ vv.ownBlock = some b) (Keep.any hk1 hk15) (fun _ _ e => .inr e)).trans hk16 (fun b _ e => .inl e)
   have HO16 := Lib.hid hO16
   have HF16 := Lib.hid (hs15.keep hk16 (fun b hb e => (hvn1 b hb).1 e))
   have HR916 := Lib.hid (blk_range (HB914.out.keep K16 (fun e => by
    rcases e with e | e
    ·omega
    ·have := HVG.out _ e; omega)))
   have HP16 := Lib.hid (HP14.out.keep K16 (fun e => by
    rcases e with e | e
    ·exact hgp e.symm
    ·exact (HVN.out _ e).2 rfl))
   have KW16 : Keep (fun b => b = go ∨ b = p ∨ vf.ownBlock = some b) w w16 := by
    refine (Keep.trans (hkr.kept k10) kp14 (fun b _ e => .inr (.inl e))).trans K16 (fun b hb e => ?_)
    rcases e with e | e
    ·exact .inl e
    ·rcases HGr.out b e with e | e
     ·exact .inr (.inr e)
     ·omega
   clear hO16 hs15 hk15 ho15 hk16 hs16 hO15 hk1 HO14 HF14 HB914 HB1014 HR9 HR10 HP14 K16 kp14 k10 hvn1 hvn2
   obtain ⟨xj, hxj⟩ : ∃ xj : Oc, xj = xi := ⟨_, rfl⟩
   go_upto_region 9 with fail
   refine wp_free 7 [pE go 0, pE go 0, pE go 10, iE xi.left, pE b9 9, iE h.n, iE (xi.left - h.n)] (by kernel_rfl) rfl (by kernel_rfl) ?_ ?_
   ·refine mE 1 1 ?_
    refine nD 2 67 0 ?_
    refine fD 3 68 1 29 2 10 0 ?_
    refine sW 4 rfl (fun a u E D hk=>exec_loadi _ Try.underlying3 _ _ _ rfl (dD D 2) (by rw [(HO16.out.kept hk).cell]; rfl)) ?_
    refine fE 5 9 39 1 9 0 ?_
    refine sW 6 rfl (fun a u E D hk=>exec_loadi _ Try.underlying3 _ _ _ rfl (dD D 4) (range_int (range_kept HR916.out hk) 9 _ rfl)) ?_
    refine sW 7 rfl (fun a u E D hk=>exec_subn (xi.left - h.n) (p := xi.left) (q := h.n) rfl (dD D 3) (dD D 5) rfl (by omega) (by omega)) ?_
    exact fz
   intro gv w17 hV k17
   rw [dq 7 [67,68,69,70,71,72,73]]
   simp only [F7]
   rw [gQ hV 0 67 (.pointer (some ⟨go, 0, none⟩))]
   rw [gQ hV 6 73 (.int .i64 (xi.left - h.n))]
   clear hV
   refine l_val (.pointer (some ⟨go, 0, none⟩)) rfl (exec_nilp (.tmp 67) ⟨go, 0, none⟩ rfl (by kernel_rfl)) ?_
   simp only [Act.put, sA, sS, sZ]
   refine l_val (.pointer (some ⟨go, 10, none⟩)) rfl (exec_fldo 29 2 10 (.tmp 74) (go) (0) (10) rfl (by kernel_rfl) (by kernel_rfl) rfl) ?_
   simp only [Act.put, sA, sS, sZ]
   refine l_st1 3 go 10 29 _ (.int .i64 (xi.left - h.n)) _ _ rfl rfl (by kernel_rfl) (by kernel_rfl) (by kernel_rfl) rfl rfl (HO16.out.kept k17) (by rw [Oc.len15]; omega) ?_
   intro w18 hO18 hk18 hs18
   simp only [Act.put]
   refine wpList_nil ?_
   rw [Oc.set_left] at hO18
   have HO18 : Hid (Blk w18 go 29 ((x.more pr no (H.take (i + 1))).cells vn)) := by
    show Blk _ _ _ _
    rw [HNX.out]
    exact hO18
   have HF18 : Hid (Sl w18 36 21 vn (x.more pr no (H.take (i + 1))).f.length (fls (x.more pr no (H.take (i + 1))).f)) := by
    show Sl _ _ _ _ _ _
    rw [HNX.out]
    simp only
    rw [List.length_append, fls_snoc, ← HXO.out]
    exact (HF16.out.kept k17).keep hk18 (fun b hb e => (HVN1.out b hb).1 e)
   have HP18 : Hid (Blk w18 p 75 (sideCs s v u0 (lastOf last (fillsOf x.o pr no x.left (H.take (i + 1)))) (no + ((i + 1 : Nat) : Int)))) := by
    show Blk _ _ _ _
    rw [HNF.out, show no + ((i + 1 : Nat) : Int) = no + (i : Int) + 1 by omega]
    exact (HP16.out.kept k17).keep hk18 (fun e => hgp e.symm)
   have KW18 : Keep (fun b => b = go ∨ b = p ∨ vf.ownBlock = some b) w w18 := (KW16.kept k17).trans hk18 (fun b _ e => .inl e)
   clear hO18 hk18 hs18 HO16 HF16 HP16 KW16 k17 HR916 hxj HNX HNF
   go_wp2
   exact ⟨⟨i + 1, vn, by omega, by go_num, HO18, HF18, HP18, HVN2, KW18⟩, by simp [intOf]; omega⟩
  ·have hin : i = n := by omega
   subst hin
   have HT : Hid (H.take i = H) := by show _ = _; exact List.take_of_length_le (by rw [HN.out]; omega)
   have HR : Hid (TradeIn w go p s v u0 vf last no pr x H (.returned (.tuple #[])) wr) := by
    rw [HT.out] at HOr HFr HBr
    exact ⟨vv, rfl, HOr.out, HFr.out, by rw [HN.out]; exact HBr.out, hkr, HGr.out⟩
   clear HOr HFr HBr HGr
   go_wp2
   go_end0
   exact HR.out
def Rejoin3 (w : World) (F : Nat → Prop) (p : Nat) (B : Bok) (s : Int) (u : Value) (Fs : Nat → Prop) : Prop :=
 ∀ (w' : World) (v' : Value) (L' : List Lev) (Fs' : Nat → Prop) (last no : Int) (S : Nat → Prop), Keep S w w' → (∀ b, F b → S b → Fs b ∨ b = p) → Blk w' p 75 (sideCs s v' u last no) → Way 110 112 97 w' Fs' v' L' → Grow w Fs Fs' → ∃ F', Bk w' F' p (B.to s L' last no) ∧ Grow w F F' ∧ ∀ b, F' b ↔ F b ∨ Fs' b
theorem Bk.open3 {w : World} {F : Nat → Prop} {p : Nat} {B : Bok} (h : Bk w F p B) {s : Int} (hs : s = 1 ∨ s = 2) :
  ∃ v u Z G Fs, levs Z = B.sd s ∧ WayZ 110 112 97 w Fs v Z G ∧ Blk w p 75 (sideCs s v u B.last B.no) ∧ (∀ b, Fs b → F b ∧ b ≠ p) ∧ F p ∧ (∀ b, F b → b < w.heap.size) ∧ Rejoin3 w F p B s u Fs := by
 obtain ⟨h1, h2, v1, v2, F1, F2, hB, hW1, hW2, h3, h4⟩ := h
 have hpl := h2 p h1
 rcases hs with rfl | rfl
 ·obtain ⟨Z, G, e, hz⟩ := hW1
  refine ⟨v1, v2, Z, G, F1, e, hz, hB, fun b hb => ⟨(h3 b hb).1, (h3 b hb).2.1⟩, h1, h2, ?_⟩
  intro w' v' L' Fs' last no S hk hS hB' hW' hG
  have hlt := hW'.lt
  refine ⟨fun b => F b ∨ Fs' b, ⟨.inl h1, fun b hb => hb.elim (fun h => Nat.lt_of_lt_of_le (h2 b h) hk.size) (hlt b), v', v2, Fs', F2, hB', hW', hW2.keep hk (fun b hb h => (hS b (h4 b hb).1 h).elim (fun h => (h3 b h).2.2 hb) (fun h => (h4 b hb).2 h)), fun b hb => ?_, fun b hb => ⟨.inl (h4 b hb).1, (h4 b hb).2⟩⟩, fun b hb => hb.elim .inl (fun h => (hG b h).imp (fun h => (h3 b h).1) id), fun b => Iff.rfl⟩
  refine ⟨.inr hb, ?_, ?_⟩
  ·rcases hG b hb with h | h
   ·exact (h3 b h).2.1
   ·omega
  ·rcases hG b hb with h | h
   ·exact (h3 b h).2.2
   ·intro h'
    have := h2 b (h4 b h').1
    omega
 ·obtain ⟨Z, G, e, hz⟩ := hW2
  refine ⟨v2, v1, Z, G, F2, e, hz, hB, h4, h1, h2, ?_⟩
  intro w' v' L' Fs' last no S hk hS hB' hW' hG
  have hlt := hW'.lt
  refine ⟨fun b => F b ∨ Fs' b, ⟨.inl h1, fun b hb => hb.elim (fun h => Nat.lt_of_lt_of_le (h2 b h) hk.size) (hlt b), v1, v', F1, Fs', hB', hW1.keep hk (fun b hb h => (hS b (h3 b hb).1 h).elim (fun h => (h3 b hb).2.2 h) (fun h => (h3 b hb).2.1 h)), hW', fun b hb => ⟨.inl (h3 b hb).1, (h3 b hb).2.1, fun h' => ?_⟩, fun b hb => ⟨.inr hb, ?_⟩⟩, fun b hb => hb.elim .inl (fun h => (hG b h).imp (fun h => (h4 b h).1) id), fun b => Iff.rfl⟩
  ·rcases hG b h' with h | h
   ·exact (h3 b hb).2.2 h
   ·have := h2 b (h3 b hb).1
    omega
  ·rcases hG b hb with h | h
   ·exact (h4 b h).2
   ·omega
theorem match_zero {o : Ord} {no q : Int} (h : q ≤ 0) : ∀ (L : List Lev), matchM o no q L = ⟨[], q, false, L⟩
 | [] => rfl
 | l :: R => by rw [matchM, if_neg (fun h' => by omega)]
def roundM (o : Ord) (no q : Int) (l : Lev) (R : List Lev) : Mt :=
 if (takeM o.firm q l.2).2.1 = true then ⟨[], q - seenM (takeM o.firm q l.2).1, true, dropE [] R (l.1, (takeM o.firm q l.2).2.2)⟩ else matchM o (no + (takeM o.firm q l.2).1.length) (q - seenM (takeM o.firm q l.2).1) (dropE [] R (l.1, (takeM o.firm q l.2).2.2))
theorem match_round {s : Int} {o : Ord} {no q : Int} {l : Lev} {R : List Lev} (hL : Sid s (l :: R)) (hq : 0 < q) (hc : o.crosses l.1 = true) :
  matchM o no q (l :: R) = ⟨fillsOf o l.1 no q (takeM o.firm q l.2).1 ++ (roundM o no q l R).f, (roundM o no q l R).left, (roundM o no q l R).self, (roundM o no q l R).L⟩ := by
 obtain ⟨hg, hy⟩ := hL.good (l := l) (by simp)
 obtain ⟨u1, u2, u3⟩ := takeM_end o.firm _ q l.2 (Nat.le_refl _) (by omega) hg hy
 rw [matchM, if_pos ⟨hq, hc⟩]
 unfold roundM dropE
 generalize takeM o.firm q l.2 = t at *
 obtain ⟨H, b, X⟩ := t
 simp only at *
 by_cases he : X.isEmpty = true
 ·rw [if_pos he, if_pos he]
  have he' : X = [] := by simpa using he
  subst he'
  have hb : b = false := by
   cases b with
   | false => rfl
   | true => obtain ⟨e, E, q1, _⟩ := u2 rfl; cases q1
  subst hb
  simp
 ·rw [if_neg he, if_neg he]
  cases b with
  | true => simp
  | false =>
   rcases u3 rfl with q1 | q1
   ·rw [if_neg (by simp), match_zero (by omega)]
    simp
   ·rw [q1] at he; exact absurd rfl he
structure RoundIs (s : Int) (o : Ord) (q : Int) (l : Lev) (R : List Lev) (t : List Ent × Bool × List Ent) : Prop where
 sid : Sid s (dropE [] R (l.1, t.2.2))
 pos : ∀ h ∈ t.1, 1 ≤ h.n
 sum : seenM t.1 ≤ q
 len : (t.1.length : Int) ≤ seenM t.1
 prog : t.2.1 = true ∨ 1 ≤ seenM t.1
 few : t.2.2.length ≤ 64
theorem round_is {s : Int} {o : Ord} {q : Int} {l : Lev} {R : List Lev} (hL : Sid s (l :: R)) (hq : 0 < q) : RoundIs s o q l R (takeM o.firm q l.2) := by
 obtain ⟨hg, hy⟩ := hL.good (l := l) (by simp)
 obtain ⟨t1, t2, t3, t4, t5⟩ := takeM_facts o.firm _ q l.2 (Nat.le_refl _) hg
 obtain ⟨u1, u2, u3⟩ := takeM_end o.firm _ q l.2 (Nat.le_refl _) (by omega) hg hy
 have hle := take_len o.firm q l.2
 have h64 : l.2.length ≤ 64 := by
  have := hL.few
  rw [entL_cons, List.length_append] at this
  omega
 refine ⟨?_, fun h hh => (t3 h hh).1, t5 (by omega), t4, ?_, by omega⟩
 ·unfold dropE
  split
  ·exact hL.tail
  ·rename_i he
   exact hL.with_ (by simpa using he) (take_at o.firm q (hL.at_ l (by simp))).1 hle (take_fresh o.firm q (hL.fr l (by simp)))
 ·cases hb : (takeM o.firm q l.2).2.1 with
  | true => exact .inl rfl
  | false =>
   right
   rcases u3 hb with q1 | q1
   ·omega
   ·rw [q1] at t2
    have h1 := whole_ge hg.ok
    have h2 := List.length_pos_iff.2 (hL.ne l (by simp))
    rw [show wholeM ([] : List Ent) = 0 from rfl] at t2
    omega
def mOut (bo : Nat) (w : World) : Nat := match w.cell? ⟨bo, 10, none⟩, w.cell? ⟨bo, 13, none⟩ with
 | some (.int _ l), some (.bool b) => 2 * l.toNat + (if b = true then 0 else 1)
 | _, _ => 0
theorem mOut_is {w : World} {bo : Nat} {x : Oc} {v : Value} {T : TypeId} (h : Blk w bo T (x.cells v)) : mOut bo w = 2 * x.left.toNat + (if x.self = true then 0 else 1) := by
 unfold mOut
 rw [h.cell, h.cell]
 rfl
def MatchIn (w : World) (F : Nat → Prop) (p : Nat) (B : Bok) (o : Ord) (m : Mt) (r : Ending) (w' : World) : Prop :=
 ∃ F' vf, r = .returned ((Oc.mk o m.f m.left false m.self 0).v vf) ∧ Bk w' F' p (B.to (3 - o.side) m.L (lastOf B.last m.f) (B.no + m.f.length)) ∧ Sl w' 36 21 vf m.f.length (fls m.f) ∧ (∀ b, vf.ownBlock = some b → w.heap.size ≤ b ∧ ¬ F' b) ∧ Grow w F F' ∧ Keep F w w'
theorem built_oc (o : Ord) (n : Int) : Try.prog.built 29 [(0, o.v), (2, .int .i64 n)] = some ((Oc.mk o [] n false false 0).cells (.slice none 0 0)).toArray := by kernel_rfl
set_option maxRecDepth 100000 in
set_option maxHeartbeats 3200000 in
theorem match_any (w : World) (F : Nat → Prop) (p : Nat) (B : Bok) (o : Ord) (h : Bk w F p B) (hI : Inv B) (hs : o.side = 1 ∨ o.side = 2) (hq : 1 ≤ o.qty ∧ o.qty ≤ 1048576) (hn : B.no ≤ 1000000000000) :
  Calls Try.prog 40 #[.pointer (some ⟨p, 0, none⟩), o.v] w (MatchIn w F p B o (B.matched o)) := by
 have hSid : Sid (3 - o.side) (B.sd (3 - o.side)) := (hI.side hs).theirs
 have hno0 := hI.no0
 have HSD := Lib.hid hSid
 have hFl := h.lt
 have HK := Lib.hid h
 have hpF := h.1
 obtain ⟨s, hse⟩ : ∃ s, 3 - o.side = s := ⟨_, rfl⟩
 have HSE := Lib.hid hse
 have HSO := Lib.hid hs
 have hs : s = 1 ∨ s = 2 := by omega
 rw [hse] at HSD
 clear hSid h hI hse
 go_enter Try.func40, Try.ntmps40
 go_upto_region 0 with fail
 refine wp_text 2 [.fresh w.heap.size 25 (o.cells), .fresh w.heap.size 29 (zeroC.cells (.slice none 0 0))] rfl (by kernel_rfl) ?_ ?_
 ·refine nW 1 rfl (fun a u E D hk=>⟨_, _, exec_box 25 _ (o.cells) rfl (eE E), ⟨_, rfl, hk.size, Blk.new u _ _⟩, ((Keep.refl _ u).alloc _)⟩) ?_
  refine nW 2 rfl (fun a u E D hk=>⟨_, _, exec_alc 29 (zeroC.cells (.slice none 0 0)) rfl zC, ⟨_, rfl, hk.size, Blk.new u _ _⟩, ((Keep.refl _ u).alloc _)⟩) ?_
  exact fz
 intro gv wa hV ka
 rw [dq 2 [3,4]]
 simp only [F7]
 have hv3 : (.fresh w.heap.size 25 (o.cells) : Kn).p (gv 3) wa := hV 0 3 (by kernel_rfl)
 generalize gv 3 = v3 at hv3 ⊢
 have hv4 : (.fresh w.heap.size 29 (zeroC.cells (.slice none 0 0)) : Kn).p (gv 4) wa := hV 1 4 (by kernel_rfl)
 generalize gv 4 = v4 at hv4 ⊢
 clear hV
 obtain ⟨bi, rfl, hbi, hBi⟩ := hv3
 obtain ⟨b4, rfl, hb4, hB4⟩ := hv4
 refine wpList_nil ?_
 have HIa := Lib.hid (blk_range hBi)
 have HB4a := Lib.hid hB4
 have l4 := hB4.lt
 have li := hBi.lt
 clear hBi hB4
 go_upto_region 1 with fail
 refine wp_text 5 [.eq (o.v), pE bi 6, iE o.qty, .eq ((Oc.mk o [] o.qty false false 0).v (.slice none 0 0)), .fresh wa.heap.size 29 (zeroC.cells (.slice none 0 0))] rfl (by kernel_rfl) ?_ ?_
 ·refine sW 1 rfl (fun a u E D hk=>exec_ldS 25 _ _ (bi) (0) (o.cells) rfl (eE E) (range_kept HIa.out hk) Try.underlying25 (by rw [o.len9]; exact ord_size)) ?_
  refine fE 2 3 25 6 6 0 ?_
  refine sW 3 rfl (fun a u E D hk=>exec_loadi _ Try.underlying3 _ _ _ rfl (dD D 1) (range_int (range_kept HIa.out hk) 6 _ rfl)) ?_
  refine sW 4 rfl (fun a u E D hk=>exec_build _ [(0, .tmp 10), (2, .tmp 12)] ((Oc.mk o [] o.qty false false 0).cells (.slice none 0 0)) rfl (by simp only [List.map_cons, List.map_nil]; rw [show a.eval (.tmp 10) = o.v from (dD D 0), show a.eval (.tmp 12) = .int .i64 o.qty from (dD D 2)]; exact built_oc o o.qty)) ?_
  refine nW 5 rfl (fun a u E D hk=>⟨_, _, exec_alc 29 (zeroC.cells (.slice none 0 0)) rfl zC, ⟨_, rfl, hk.size, Blk.new u _ _⟩, ((Keep.refl _ u).alloc _)⟩) ?_
  exact fz
 intro gv wb hV kb
 rw [dq 5 [10,11,12,13,5]]
 simp only [F7]
 have hv5 : (.fresh wa.heap.size 29 (zeroC.cells (.slice none 0 0)) : Kn).p (gv 5) wb := hV 4 5 (by kernel_rfl)
 generalize gv 5 = v5 at hv5 ⊢
 rw [gQ hV 3 13 ((Oc.mk o [] o.qty false false 0).v (.slice none 0 0))]
 clear hV
 obtain ⟨bo, rfl, hbo, hBo⟩ := hv5
 refine l_setS 29 bo 29 (zeroC.cells (.slice none 0 0)) ((Oc.mk o [] o.qty false false 0).cells (.slice none 0 0)) _ _ rfl rfl (by kernel_rfl) (by kernel_rfl) hBo (by rw [Oc.len15]; exact szC) (by rw [Oc.len15, Oc.len15]) (Oc.one _ _ rfl) ?_
 intro wc hBc hkc hsc
 simp only [Act.put]
 refine wpList_nil ?_
 have kac : Kept wa wc := kb.trans' hkc (by omega)
 have HOc := Lib.hid hBc
 have lo := hBc.lt
 have HIc := Lib.hid (range_kept HIa.out kac)
 have HB4c := Lib.hid (HB4a.out.kept kac)
 clear hBo hBc hkc hsc kb HIa HB4a
 have kwc := ka.trans kac
 clear ka kac
 go_upto_region 2 with fail
 refine wp_text 4 [pE p 0, .eq (o.v), pE p (offS s), pE p (offS s)] rfl (by kernel_rfl) ?_ ?_
 ·refine mE 1 0 ?_
  refine sW 2 rfl (fun a u E D hk=>exec_ldS 25 _ _ (bi) (0) (o.cells) rfl (eE E) (range_kept HIc.out hk) Try.underlying25 (by rw [o.len9]; exact ord_size)) ?_
  refine cS 3 63 [.pointer (some ⟨p, 0, none⟩), o.v] rfl Try.func63 rfl (fun a u E D hk=>⟨ll (dD D 0) (ll (dD D 1) rfl), (by have h := against_any u p o HSO.out; rw [HSE.out] at h; exact h)⟩) ?_
  refine mD 4 16 2 ?_
  exact fz
 intro gv w1 hV kd
 rw [dq 4 [14,15,16,6]]
 simp only [F7]
 rw [gQ hV 3 6 (.pointer (some ⟨p, offS s, none⟩))]
 clear hV
 refine wpList_nil ?_
 have k1 := kwc.trans kd
 have HI := Lib.hid (range_kept HIc.out kd)
 have HB4 := Lib.hid (HB4c.out.kept kd)
 have HO1 := Lib.hid (HOc.out.kept kd)
 have HK1 := Lib.hid (HK.out.kept k1)
 have zd := kd.size
 have z1 := k1.size
 have hFl1 : ∀ b, F b → b < w1.heap.size := fun b hb => Nat.lt_of_lt_of_le (hFl b hb) z1
 have h4F : ¬ F b4 := fun e => by have := hFl b4 e; omega
 have hoF : ¬ F bo := fun e => by have := hFl bo e; omega
 have hiF : ¬ F bi := fun e => by have := hFl bi e; omega
 have h4o : b4 ≠ bo := by omega
 have hio : bi ≠ bo := by omega
 clear HIc HB4c HOc HK kd kwc
 go_wp2_with fail
 go_loopw [7] (fun _ wr => ∃ (L : List Lev) (last no left : Int) (self : Bool) (fs : List Fl) (Fc : Nat → Prop) (vf : Value), Hid (Bk wr Fc p (B.to s L last no)) ∧ Hid (Blk wr bo 29 ((Oc.mk o fs left false self 0).cells vf)) ∧ Hid (Sl wr 36 21 vf fs.length (fls fs)) ∧ Hid (∀ b, vf.ownBlock = some b → w1.heap.size ≤ b ∧ ¬ Fc b ∧ b ≠ bo) ∧ Hid (Grow w1 F Fc) ∧ Keep (fun b => F b ∨ b = bo) w1 wr ∧ Hid (Sid s L) ∧ Hid (last = lastOf B.last fs ∧ no = B.no + fs.length) ∧ (0 ≤ left ∧ (fs.length : Int) + left ≤ o.qty) ∧ Hid (B.matched o = ⟨fs ++ (if self = true then Mt.mk [] left true L else matchM o no left L).f, (if self = true then Mt.mk [] left true L else matchM o no left L).left, (if self = true then Mt.mk [] left true L else matchM o no left L).self, (if self = true then Mt.mk [] left true L else matchM o no left L).L⟩)) (fun _ wr => mOut bo wr)
 case atStart =>
  refine ⟨B.sd s, B.last, B.no, o.qty, false, [], F, .slice none 0 0, by show Bk _ _ _ _; rw [Bok.to_self hs]; exact HK1.out, HO1.out, Sl.nil _ _ _, fun b hb => by simp [Value.ownBlock] at hb, Grow.refl _ _, Keep.refl _ _, HSD.out, ⟨rfl, by simp⟩, ⟨by omega, by simp⟩, ?_⟩
  show _ = _
  unfold Bok.matched
  rw [HSE.out]
  simp
 case round =>
  obtain ⟨L, last, no, left, self, fs, Fc, vf, HBr, HOr, HVr, HVn, HGr, hkr, HSr, HLN, hlf, HM⟩ := hrel
  have HIr := Lib.hid (range_keep HI.out hkr (fun e => e.elim hiF hio))
  have hL64 : L.length ≤ 1000 := by have := HSr.out.ok.len; omega
  have zr := hkr.size
  have hmo := mOut_is HOr.out
  by_cases hl0 : 0 < left
  ·by_cases hsf : self = true
   ·skip
    have HFIN : Hid (B.matched o = ⟨fs, left, self, L⟩) := by show _ = _; rw [HM.out, hsf]; simp
    clear HM
    go_upto_region 3 with fail
    refine wp_text 13 [pE bo 10, iE ((Oc.mk o fs left false self 0).left), bE true, bE true, pE bo 13, bE ((Oc.mk o fs left false self 0).self), bE false, bE false, bE false, uE, uE, uE, bE false] rfl (by kernel_rfl) ?_ ?_
    ·refine fE 1 5 29 2 10 0 ?_
     refine sW 2 rfl (fun a u E D hk=>exec_loadi _ Try.underlying3 _ _ _ rfl (dD D 0) (by rw [(HOr.out.kept hk).cell]; rfl)) ?_
     refine aS 3 rfl (fun a u E D hk=>exec_gtn rfl (dD D 1) rfl) (decide_eq_true hl0) ?_
     refine mD 4 19 2 ?_
     refine fE 5 5 29 5 13 0 ?_
     refine sW 6 rfl (fun a u E D hk=>exec_ldb _ Try.underlying4 _ _ _ rfl (dD D 4) (by rw [(HOr.out.kept hk).cell]; rfl)) ?_
     refine aS 7 rfl (fun a u E D hk=>exec_not _ _ (Oc.mk o fs left false self 0).self rfl (dD D 5)) (by rw [hsf]; rfl) ?_
     refine sW 8 rfl (fun a u E D hk=>exec_pick _ _ _ _ rfl (dD D 3) (dD D 6)) ?_
     refine mD 9 24 7 ?_
     refine kS 10 8 ?_
     refine kS 11 8 ?_
     refine kS 12 8 ?_
     refine sW 13 rfl (fun a u E D hk=>exec_pickF _ _ _ _ rfl (dD D 8) rfl) ?_
     exact fz
    intro gv wq hV kq
    rw [dq 13 [17,18,19,20,21,22,23,24,25,26,27,28,29]]
    simp only [F7]
    rw [gQ hV 12 29 (.bool false)]
    clear hV
    refine wpList_nil ?_
    clear hsf
    have kwq := hkr.kept kq
    have HB4q := Lib.hid (HB4.out.keep kwq (fun e => e.elim h4F (fun e => h4o e)))
    have HOq := Lib.hid (HOr.out.kept kq)
    have HBq := Lib.hid (HBr.out.kept kq)
    have HVq := Lib.hid (HVr.out.kept kq)
    go_upto_region 9 with fail
    refine wp_text 1 [.eq ((Oc.mk o fs left false self 0).v vf)] rfl (by kernel_rfl) ?_ ?_
    ·refine sW 1 rfl (fun a u E D hk=>exec_ldS 29 _ _ bo 0 ((Oc.mk o fs left false self 0).cells vf) rfl (eE E) (blk_range (HOq.out.kept hk)) Try.underlying29 (by rw [Oc.len15]; exact szC)) ?_
     exact fz
    intro gv wy hV ky
    rw [dq 1 [54]]
    simp only [F7]
    rw [gQ hV 0 54 ((Oc.mk o fs left false self 0).v vf)]
    clear hV
    refine l_setS 29 b4 29 (zeroC.cells (.slice none 0 0)) ((Oc.mk o fs left false self 0).cells vf) _ _ rfl rfl (by kernel_rfl) (by kernel_rfl) (HB4q.out.kept ky) (by rw [Oc.len15]; exact szC) (by rw [Oc.len15, Oc.len15]) (Oc.one _ _ (sl_onec HVq.out)) ?_
    intro wx hBx hkx hsx
    simp only [Act.put]
    refine wpList_nil ?_
    go_wp2
    refine bodyPost_ret (results_cell (p := 4) rfl _ _ b4 _ ((Oc.mk o fs left false self 0).cells vf) rfl hBx Try.underlying29 (by rw [Oc.len15]; exact szC)) rfl ?_
    rw [HFIN.out]
    unfold MatchIn
    rw [HSE.out]
    have hx4 : ¬ Fc b4 := fun e => (HGr.out b4 e).elim h4F (fun e => by omega)
    have hv4 : ∀ b, vf.ownBlock = some b → b ≠ b4 := fun b hb e => by have := (HVn.out b hb).1; omega
    have zq := kq.size
    have zy := ky.size
    have hlast := HLN.out
    refine ⟨Fc, vf, rfl, ?_, ?_, fun b hb => ⟨by have := (HVn.out b hb).1; omega, (HVn.out b hb).2.1⟩, fun b hb => (HGr.out b hb).imp id (fun h => by omega), ?_⟩
    ·have h1 := ((HBq.out.kept ky).keep hkx (fun b hb e => hx4 (by rw [← e]; exact hb)))
     rw [hlast.1, hlast.2] at h1
     exact h1
    ·exact (HVq.out.kept ky).keep hkx (fun b hb e => hv4 b hb e)
    ·exact ((Keep.any k1 kwq).mono (fun b hb e => e.elim id (fun e => by omega))).kept ky |>.trans hkx (fun b hb e => by omega)
   ·have hsf : self = false := by simpa using hsf
    cases hmt : o.meets L with
    | false =>
     have HCR := Lib.hid hmt
     have HFIN : Hid (B.matched o = ⟨fs, left, self, L⟩) := by show _ = _; rw [HM.out, hsf, match_none hmt]; simp
     clear HM hmt
     go_upto_region 3 with fail
     refine wp_text 13 [pE bo 10, iE ((Oc.mk o fs left false self 0).left), bE true, bE true, pE bo 13, bE ((Oc.mk o fs left false self 0).self), bE true, bE true, bE true, pE p (offS s), .eq (o.v), bE false, bE false] rfl (by kernel_rfl) ?_ ?_
     ·refine fE 1 5 29 2 10 0 ?_
      refine sW 2 rfl (fun a u E D hk=>exec_loadi _ Try.underlying3 _ _ _ rfl (dD D 0) (by rw [(HOr.out.kept hk).cell]; rfl)) ?_
      refine aS 3 rfl (fun a u E D hk=>exec_gtn rfl (dD D 1) rfl) (decide_eq_true hl0) ?_
      refine mD 4 19 2 ?_
      refine fE 5 5 29 5 13 0 ?_
      refine sW 6 rfl (fun a u E D hk=>exec_ldb _ Try.underlying4 _ _ _ rfl (dD D 4) (by rw [(HOr.out.kept hk).cell]; rfl)) ?_
      refine aS 7 rfl (fun a u E D hk=>exec_not _ _ (Oc.mk o fs left false self 0).self rfl (dD D 5)) (by rw [hsf]; rfl) ?_
      refine sW 8 rfl (fun a u E D hk=>exec_pick _ _ _ _ rfl (dD D 3) (dD D 6)) ?_
      refine mD 9 24 7 ?_
      refine mE 10 6 ?_
      refine sW 11 rfl (fun a u E D hk=>exec_ldS 25 _ _ (bi) (0) (o.cells) rfl (eE E) (range_kept HIr.out hk) Try.underlying25 (by rw [o.len9]; exact ord_size)) ?_
      refine cS 12 64 [.pointer (some ⟨p, offS s, none⟩), o.v] rfl Try.func64 rfl (fun a u E D hk=>⟨ll (dD D 9) (ll (dD D 10) rfl), (by obtain ⟨F', hLd⟩ := (HBr.out.kept hk).lad hs; rw [Bok.to_sd hs] at hLd; rw [← HCR.out]; exact crossed_any u F' p (offS s) s L o hLd hL64)⟩) ?_
      refine sW 13 rfl (fun a u E D hk=>exec_pick _ _ _ _ rfl (dD D 8) (dD D 11)) ?_
      exact fz
     intro gv wq hV kq
     rw [dq 13 [17,18,19,20,21,22,23,24,25,26,27,28,29]]
     simp only [F7]
     rw [gQ hV 12 29 (.bool false)]
     clear hV
     refine wpList_nil ?_
     clear hsf
     have kwq := hkr.kept kq
     have HB4q := Lib.hid (HB4.out.keep kwq (fun e => e.elim h4F (fun e => h4o e)))
     have HOq := Lib.hid (HOr.out.kept kq)
     have HBq := Lib.hid (HBr.out.kept kq)
     have HVq := Lib.hid (HVr.out.kept kq)
     go_upto_region 9 with fail
     refine wp_text 1 [.eq ((Oc.mk o fs left false self 0).v vf)] rfl (by kernel_rfl) ?_ ?_
     ·refine sW 1 rfl (fun a u E D hk=>exec_ldS 29 _ _ bo 0 ((Oc.mk o fs left false self 0).cells vf) rfl (eE E) (blk_range (HOq.out.kept hk)) Try.underlying29 (by rw [Oc.len15]; exact szC)) ?_
      exact fz
     intro gv wy hV ky
     rw [dq 1 [54]]
     simp only [F7]
     rw [gQ hV 0 54 ((Oc.mk o fs left false self 0).v vf)]
     clear hV
     refine l_setS 29 b4 29 (zeroC.cells (.slice none 0 0)) ((Oc.mk o fs left false self 0).cells vf) _ _ rfl rfl (by kernel_rfl) (by kernel_rfl) (HB4q.out.kept ky) (by rw [Oc.len15]; exact szC) (by rw [Oc.len15, Oc.len15]) (Oc.one _ _ (sl_onec HVq.out)) ?_
     intro wx hBx hkx hsx
     simp only [Act.put]
     refine wpList_nil ?_
     go_wp2
     refine bodyPost_ret (results_cell (p := 4) rfl _ _ b4 _ ((Oc.mk o fs left false self 0).cells vf) rfl hBx Try.underlying29 (by rw [Oc.len15]; exact szC)) rfl ?_
     rw [HFIN.out]
     unfold MatchIn
     rw [HSE.out]
     have hx4 : ¬ Fc b4 := fun e => (HGr.out b4 e).elim h4F (fun e => by omega)
     have hv4 : ∀ b, vf.ownBlock = some b → b ≠ b4 := fun b hb e => by have := (HVn.out b hb).1; omega
     have zq := kq.size
     have zy := ky.size
     have hlast := HLN.out
     refine ⟨Fc, vf, rfl, ?_, ?_, fun b hb => ⟨by have := (HVn.out b hb).1; omega, (HVn.out b hb).2.1⟩, fun b hb => (HGr.out b hb).imp id (fun h => by omega), ?_⟩
     ·have h1 := ((HBq.out.kept ky).keep hkx (fun b hb e => hx4 (by rw [← e]; exact hb)))
      rw [hlast.1, hlast.2] at h1
      exact h1
     ·exact (HVq.out.kept ky).keep hkx (fun b hb e => hv4 b hb e)
     ·exact ((Keep.any k1 kwq).mono (fun b hb e => e.elim id (fun e => by omega))).kept ky |>.trans hkx (fun b hb e => by omega)
    | true =>
     have HCR := Lib.hid hmt
     go_upto_region 3 with fail
     refine wp_text 13 [pE bo 10, iE ((Oc.mk o fs left false self 0).left), bE true, bE true, pE bo 13, bE ((Oc.mk o fs left false self 0).self), bE true, bE true, bE true, pE p (offS s), .eq (o.v), bE true, bE true] rfl (by kernel_rfl) ?_ ?_
     ·refine fE 1 5 29 2 10 0 ?_
      refine sW 2 rfl (fun a u E D hk=>exec_loadi _ Try.underlying3 _ _ _ rfl (dD D 0) (by rw [(HOr.out.kept hk).cell]; rfl)) ?_
      refine aS 3 rfl (fun a u E D hk=>exec_gtn rfl (dD D 1) rfl) (decide_eq_true hl0) ?_
      refine mD 4 19 2 ?_
      refine fE 5 5 29 5 13 0 ?_
      refine sW 6 rfl (fun a u E D hk=>exec_ldb _ Try.underlying4 _ _ _ rfl (dD D 4) (by rw [(HOr.out.kept hk).cell]; rfl)) ?_
      refine aS 7 rfl (fun a u E D hk=>exec_not _ _ (Oc.mk o fs left false self 0).self rfl (dD D 5)) (by rw [hsf]; rfl) ?_
      refine sW 8 rfl (fun a u E D hk=>exec_pick _ _ _ _ rfl (dD D 3) (dD D 6)) ?_
      refine mD 9 24 7 ?_
      refine mE 10 6 ?_
      refine sW 11 rfl (fun a u E D hk=>exec_ldS 25 _ _ (bi) (0) (o.cells) rfl (eE E) (range_kept HIr.out hk) Try.underlying25 (by rw [o.len9]; exact ord_size)) ?_
      refine cS 12 64 [.pointer (some ⟨p, offS s, none⟩), o.v] rfl Try.func64 rfl (fun a u E D hk=>⟨ll (dD D 9) (ll (dD D 10) rfl), (by obtain ⟨F', hLd⟩ := (HBr.out.kept hk).lad hs; rw [Bok.to_sd hs] at hLd; rw [← HCR.out]; exact crossed_any u F' p (offS s) s L o hLd hL64)⟩) ?_
      refine sW 13 rfl (fun a u E D hk=>exec_pick _ _ _ _ rfl (dD D 8) (dD D 11)) ?_
      exact fz
     intro gv wq hV kq
     rw [dq 13 [17,18,19,20,21,22,23,24,25,26,27,28,29]]
     simp only [F7]
     rw [gQ hV 12 29 (.bool true)]
     clear hV
     refine wpList_nil ?_
     clear HCR
     obtain ⟨l, R, hLR⟩ : ∃ l R, L = l :: R := by
      cases L with
      | nil => cases hmt
      | cons l R => exact ⟨l, R, rfl⟩
     subst hLR
     obtain ⟨pr, X⟩ := l
     have hcr : o.crosses pr = true := hmt
     have HRD := Lib.hid (match_round (no := no) HSr.out hl0 hcr)
     have HRI := Lib.hid (round_is (o := o) HSr.out hl0)
     have HGD := Lib.hid (HSr.out.good (l := (pr, X)) (by simp)).1
     rw [hsf] at HM
     clear hmt
     obtain ⟨v, u0, Z, G, Fs, eL, hW, hB, hFs, hp, hlt, hJ⟩ := (HBr.out.kept kq).open3 hs
     rw [Bok.to_sd hs] at eL
     obtain ⟨z, ZR, hZ⟩ : ∃ z ZR, Z = z :: ZR := by
      cases Z with
      | nil => cases eL
      | cons z ZR => exact ⟨z, ZR, rfl⟩
     subst hZ
     obtain ⟨q, pr', X'⟩ := z
     rw [levs_cons] at eL
     obtain ⟨e1, eR⟩ := List.cons.inj eL
     simp only [Prod.mk.injEq] at e1
     obtain ⟨rfl, rfl⟩ := e1
     have ER := Lib.hid eR
     have HJ := Lib.hid hJ
     have HFs := Lib.hid hFs
     have HW := Lib.hid hW
     have hLv := hW.lv (q, pr', X') (by simp)
     have hGF := hW.in_ (q, pr', X') (by simp)
     simp only at hLv hGF
     obtain ⟨gs, os, c, rfl⟩ := hW.some_ (by simp)
     obtain ⟨n, hnn⟩ : ∃ n, List.length ((q, pr', X') :: ZR) = n := ⟨_, rfl⟩
     have hn0 : 0 < n := by rw [← hnn]; simp
     have HC := Lib.hid (hW.cell (i := 0) (z := (q, pr', X')) rfl)
     rw [hnn] at HW hB
     have HVV : Hid (wq.cell? ⟨p, offS s + 1, none⟩ = some (.slice (some ⟨gs, os, none⟩) n c)) := by show _ = _; rw [hB.cell]; exact sideCs_get s _ _ _ _
     have HBB := Lib.hid hB
     have HLv := Lib.hid hLv
     have HGF := Lib.hid hGF
     have hpl := hlt p hp
     have HLTF := Lib.hid hlt
     clear hB hW eL hJ hFs hLv hGF hnn eR
     have HOq := Lib.hid (HOr.out.kept kq)
     have HVq := Lib.hid (HVr.out.kept kq)
     have HIq := Lib.hid (range_kept HIr.out kq)
     have kwq := hkr.kept kq
     have zq := kwq.size
     have hoFc : ¬ Fc bo := fun e => (HGr.out bo e).elim hoF (fun e => by omega)
     have HSF := Lib.hid hsf
     have HMO := Lib.hid hmo
     clear HOr HVr HIr kq hsf hmo
     go_upto_region 4 with fail
     refine wp_text 7 [pE p (offS s), pE p (offS s), pE p (offS s + 1), .eq (.slice (some ⟨gs, os, none⟩) n c), pE gs os, pE q 0, pE q 0] rfl (by kernel_rfl) ?_ ?_
     ·refine mE 1 6 ?_
      refine nD 2 30 0 ?_
      refine fD 3 31 1 73 1 1 (offS s) ?_
      refine sW 4 rfl (fun a u E D hk=>exec_ldv _ _ Try.underlying71 _ _ _ rfl (dD D 2) (Kept.cell hk (HVV.out))) ?_
      refine sW 5 rfl (fun a u E D hk=>exec_ixo slQ _ _ (gs) (os) n c 0 (os) (0) rfl (dD D 3) rfl (by first | rfl | omega) ((by omega)) (by first | rfl | omega)) ?_
      refine sW 6 rfl (fun a u E D hk=>exec_ldp _ _ Try.underlying97 _ _ _ rfl (dD D 4) (Kept.cell hk ((by simpa using HC.out)))) ?_
      refine mD 7 35 5 ?_
      exact fz
     intro gv w2 hV k2
     rw [dq 7 [30,31,32,33,34,35,7]]
     simp only [F7]
     rw [gQ hV 6 7 (.pointer (some ⟨q, 0, none⟩))]
     clear hV
     refine wpList_nil ?_
     have HO2 := Lib.hid (HOq.out.kept k2)
     have HI2 := Lib.hid (range_kept HIq.out k2)
     have HLv2 := Lib.hid (HLv.out.kept k2)
     obtain ⟨t, ht⟩ : ∃ t, takeM o.firm left X' = t := ⟨_, rfl⟩
     obtain ⟨H, ow, X2⟩ := t
     rw [ht] at HRI
     have HTT := Lib.hid ht
     clear HC HVV HLv ht
     go_upto_region 5 with fail
     refine wp_text 5 [pE q 0, pE bi 2, iE o.firm, pE bo 10, iE ((Oc.mk o fs left false self 0).left)] rfl (by kernel_rfl) ?_ ?_
     ·refine mE 1 7 ?_
      refine fE 2 3 25 2 2 0 ?_
      refine sW 3 rfl (fun a u E D hk=>exec_loadi _ Try.underlying3 _ _ _ rfl (dD D 1) (range_int (range_kept HI2.out hk) 2 _ rfl)) ?_
      refine fE 4 5 29 2 10 0 ?_
      refine sW 5 rfl (fun a u E D hk=>exec_loadi _ Try.underlying3 _ _ _ rfl (dD D 3) (by rw [(HO2.out.kept hk).cell]; rfl)) ?_
      exact fz
     intro gv w3 hV k3
     rw [dq 5 [37,38,39,40,41]]
     simp only [F7]
     rw [gQ hV 0 37 (.pointer (some ⟨q, 0, none⟩))]
     rw [gQ hV 2 39 (.int .i64 o.firm)]
     rw [gQ hV 4 41 (.int .i64 (Oc.mk o fs left false self 0).left)]
     clear hV
     refine l_call 66 #[.pointer (some ⟨q, 0, none⟩), .int .i64 o.firm, .int .i64 (Oc.mk o fs left false self 0).left] rfl (exec_call 66 _ [.tmp 37, .tmp 39, .tmp 41] _ _ Try.func66 (by kernel_rfl) (by kernel_rfl) rfl (by kernel_rfl) _) ?_
     refine (take_any w3 _ q X' o.firm left (HLv2.out.kept k3) HGD.out (by omega)).mono ?_
     rintro r w4 ⟨F4, vh, rfl, hl4, hs4, hv4, hg4, hk4⟩
     rw [HTT.out] at hl4 hs4
     refine ⟨.tuple #[vh, .bool ow], by rw [HTT.out], ?_⟩
     simp only [Act.put, sA, sS, sZ]
     refine l_val (.tuple #[vh, .bool ow]) rfl (exec_move _ _ rfl (by kernel_rfl)) ?_
     simp only [Act.put, sA, sS, sZ]
     refine l_val (vh) rfl (exec_extract (.tmp 36) [vh, .bool ow] 0 (vh) rfl (by kernel_rfl) rfl) ?_
     simp only [Act.put, sA, sS, sZ]
     refine l_val (.bool ow) rfl (exec_extract (.tmp 36) [vh, .bool ow] 1 (.bool ow) rfl (by kernel_rfl) rfl) ?_
     simp only [Act.put, sA, sS, sZ]
     refine l_val (vh) rfl (exec_assign _ _ rfl (by kernel_rfl)) ?_
     simp only [Act.put, sA, sS, sZ]
     refine l_val (.bool ow) rfl (exec_assign _ _ rfl (by kernel_rfl)) ?_
     simp only [Act.put, sA, sS, sZ]
     refine wpList_nil ?_
     have k03 := k2.trans k3
     have z3 := k03.size
     obtain ⟨Fs4, G4, hW4, hG4, hk4', _⟩ := WayZ.turn (A := []) (R := ZR) (q := q) (pr := pr') (X := X') (HW.out.kept k03) hk4 hl4 hg4
     have z4 := hk4.size
     have hFo : ¬ Fs bo := fun e => hoFc (HFs.out bo e).1
     have HO4 := Lib.hid ((HOq.out.kept k03).keep hk4' hFo)
     have HP4 := Lib.hid ((HBB.out.kept k03).keep hk4' (fun e => (HFs.out p e).2 rfl))
     have HI4 := Lib.hid (range_keep (range_kept HIq.out k03) hk4' (fun e => hiF ((HGr.out bi (HFs.out bi e).1).elim id (fun e => by omega))))
     have HV4 := Lib.hid ((HVq.out.kept k03).keep hk4' (fun b hb e => (HVn.out b hb).2.1 (HFs.out b e).1))
     have hvl : ∀ b, vf.ownBlock = some b → b < wq.heap.size := fun b hb => HVq.out.lt hb
     have HVL := Lib.hid hvl
     have HW4 := Lib.hid hW4
     have HS4 := Lib.hid hs4
     have HHV : Hid (∀ b, vh.ownBlock = some b → w3.heap.size ≤ b) := fun b hb => (hv4 b hb).1
     have HG4 := Lib.hid hG4
     have K4 : Keep Fs wq w4 := Keep.any k03 hk4'
     have hq4 := HW4.out.lv (q, pr', X2) (by simp)
     have HQ4 := Lib.hid hq4
     have hop : bo ≠ p := fun e => hoFc (by rw [e]; exact hp)
     have hW4l : ∀ b, Fs4 b → b < w4.heap.size := HW4.out.lt
     have HW4L := Lib.hid hW4l
     have HG3 : Hid (∀ b, Fs4 b → Fs b ∨ wq.heap.size ≤ b) := fun b hb => (HG4.out b hb).imp id (fun e => by omega)
     clear hq4 hvl hW4 hs4 hv4 hg4 hk4 hl4 hG4 hk4' k2 k3 HO2 HI2 HLv2 HOq HVq HIq HBB HW hW4l
     have hfl : fs.length ≤ 2000000 := by omega
     have hbn : 0 ≤ no ∧ no ≤ 2000000000000 := by have := HLN.out.2; omega
     go_upto_region 6 with fail
     refine wp_text 4 [pE p 0, pE q 0, iE pr', .eq (vh)] rfl (by kernel_rfl) ?_ ?_
     ·refine mE 1 0 ?_
      refine mE 2 7 ?_
      refine cS 3 68 [.pointer (some ⟨q, 0, none⟩)] rfl Try.func68 rfl (fun a u E D hk=>⟨ll (dD D 1) rfl, price_any u _ q X2 (HQ4.out.kept hk)⟩) ?_
      refine mE 4 8 ?_
      exact fz
     intro gv w5 hV k5
     rw [dq 4 [45,46,47,48]]
     simp only [F7]
     rw [gQ hV 0 45 (.pointer (some ⟨p, 0, none⟩))]
     rw [gQ hV 2 47 (.int .i64 pr')]
     rw [gQ hV 3 48 vh]
     clear hV
     refine l_call 67 #[.pointer (some ⟨p, 0, none⟩), .pointer (some ⟨bo, 0, none⟩), .int .i64 pr', vh] rfl (exec_call 67 _ [.tmp 45, .tmp 5, .tmp 47, .tmp 48] _ _ Try.func67 (by kernel_rfl) (by kernel_rfl) rfl (by kernel_rfl) _) ?_
     refine (trade_any w5 bo p s (.slice (some ⟨gs, os, none⟩) n c) u0 vf vh last no pr' (Oc.mk o fs left false self 0) H (HO4.out.kept k5) (HV4.out.kept k5) (HP4.out.kept k5) (HS4.out.kept k5) hop (fun b hb => ⟨(HVn.out b hb).2.2, fun e => (HVn.out b hb).2.1 (by rw [e]; exact hp)⟩) (fun b hb => ⟨fun e => by have := HHV.out b hb; omega, fun e => by have := HHV.out b hb; omega, fun e => by have := HHV.out b hb; have := HVL.out b e; omega⟩) HRI.out.pos HRI.out.sum (by simp only; omega) hfl hbn.1 hbn.2).mono ?_
     rintro r w6 ⟨vg, rfl, hO6, hV6, hP6, hk6, hv6⟩
     refine ⟨_, rfl, ?_⟩
     simp only [Act.put, sA, sS, sZ]
     refine wpList_nil ?_
     have z5 := k5.size
     have z6 := hk6.size
     have hSn : ∀ b, Fs4 b → ¬ (b = bo ∨ b = p ∨ vf.ownBlock = some b) := fun b hb e => by
      rcases e with e | e | e
      ·rcases HG3.out b hb with h | h
       ·exact hoFc (by rw [← e]; exact (HFs.out b h).1)
       ·omega
      ·rcases HG3.out b hb with h | h
       ·exact (HFs.out b h).2 e
       ·omega
      ·rcases HG3.out b hb with h | h
       ·exact (HVn.out b e).2.1 (HFs.out b h).1
       ·have := HVL.out b e; omega
     have hW6 := (HW4.out.kept k5).keep hk6 hSn
     have K6 : Keep (fun b => Fs b ∨ b = bo ∨ b = p ∨ vf.ownBlock = some b) wq w6 := ((Keep.mono (T := fun b => Fs b ∨ b = bo ∨ b = p ∨ vf.ownBlock = some b) K4 (fun _ _ e => .inl e)).kept k5).trans hk6 (fun b _ e => .inr e)
     obtain ⟨F6, hb6, hg6, hi6⟩ := HJ.out w6 _ _ _ _ _ _ K6 (fun b hb e => by
      rcases e with e | e | e | e
      ·exact .inl e
      ·exact absurd (by rw [← e]; exact hb) hoFc
      ·exact .inr e
      ·exact absurd hb (HVn.out b e).2.1) hP6 ⟨_, _, rfl, hW6⟩ (fun b hb => HG3.out b hb)
     rw [Bok.to_to hs, levs_append, levs_cons, ER.out] at hb6
     have HB6 := Lib.hid hb6
     have HI6 := Lib.hid hi6
     have HO6 := Lib.hid hO6
     have HV6 := Lib.hid hV6
     have hoF6 : ¬ F6 bo := fun e => ((hi6 bo).1 e).elim hoFc (fun e => hSn bo e (.inl rfl))
     have HVG : Hid (∀ b, vg.ownBlock = some b → vf.ownBlock = some b ∨ w5.heap.size ≤ b) := hv6
     have HVGL : Hid (∀ b, vg.ownBlock = some b → b < w6.heap.size) := fun b hb => hV6.lt hb
     have hgo : ∀ b, vg.ownBlock = some b → b ≠ bo := fun b hb e => by
      rcases HVG.out b hb with h | h
      ·exact (HVn.out b h).2.2 e
      ·omega
     have HGO := Lib.hid hgo
     clear hW6 hO6 hV6 hP6 hk6 hv6 hb6 hg6 hi6 K4 k5 HO4 HV4 HP4 HS4 HQ4 HW4 HJ hSn hgo
     go_upto_region 7 with fail
     refine wp_text 2 [bE ow, pE bo 13] rfl (by kernel_rfl) ?_ ?_
     ·refine mE 1 9 ?_
      refine fE 2 5 29 5 13 0 ?_
      exact fz
     intro gv w7 hV k7
     rw [dq 2 [50,51]]
     simp only [F7]
     rw [gQ hV 1 51 (.pointer (some ⟨bo, 13, none⟩))]
     rw [gQ hV 0 50 (.bool ow)]
     clear hV
     refine l_st1 4 bo 13 29 _ (.bool ow) _ _ rfl rfl (by kernel_rfl) (by kernel_rfl) (by kernel_rfl) rfl rfl (HO6.out.kept k7) (by rw [Oc.len15]; omega) ?_
     intro w8 hO8 hk8 hs8
     simp only [Act.put]
     refine wpList_nil ?_
     rw [Oc.set_self] at hO8
     have z7 := k7.size
     have z8 := hk8.size
     have HO8 := Lib.hid hO8
     have HB8 := Lib.hid ((HB6.out.kept k7).keep hk8 (fun b hb e => hoF6 (by rw [← e]; exact hb)))
     have HV8 := Lib.hid ((HV6.out.kept k7).keep hk8 (fun b hb e => HGO.out b hb e))
     have K8 : Keep (fun b => Fs b ∨ b = bo ∨ b = p ∨ vf.ownBlock = some b) wq w8 := (K6.kept k7).trans hk8 (fun b _ e => .inr (.inl e))
     clear hO8 hk8 hs8 k7 HO6 HB6 HV6 K6
     have hRl : R.length ≤ 64 := by have := HSr.out.ok.len; simp at this; omega
     have HRL := Lib.hid hRl
     clear hRl
     go_upto_region 8 with fail
     refine wp_text 1 [pE p (offS s)] rfl (by kernel_rfl) ?_ ?_
     ·refine mE 1 6 ?_
      exact fz
     intro gv w9 hV k9
     rw [dq 1 [52]]
     simp only [F7]
     rw [gQ hV 0 52 (.pointer (some ⟨p, offS s, none⟩))]
     clear hV
     refine l_call 69 #[.pointer (some ⟨p, offS s, none⟩), .int .i64 0] rfl (exec_call 69 _ [.tmp 52, .const (.int .i64 0)] _ _ Try.func69 (by kernel_rfl) (by kernel_rfl) rfl (by kernel_rfl) _) ?_
     refine (drop_if_any w9 F6 p _ s [] R (pr', X2) 0 (HB8.out.kept k9) hs (by rw [Bok.to_sd hs]; rfl) rfl (by have := HRL.out; simp; omega) (by have := HRI.out.few; simp only at this ⊢; omega)).mono ?_
     rintro r w10 ⟨F10, rfl, hb10, hg10, hk10, hi10⟩
     refine ⟨_, rfl, ?_⟩
     simp only [Act.put, sA, sS, sZ]
     refine wpList_nil ?_
     rw [Bok.to_to hs] at hb10
     have z9 := k9.size
     have z10 := hk10.size
     have HO10 := Lib.hid ((HO8.out.kept k9).keep hk10 hoF6)
     have hVF6 : ∀ b, vg.ownBlock = some b → ¬ F6 b := fun b hb e => by
      rcases (HI6.out b).1 e with h | h
      ·rcases HVG.out b hb with h' | h'
       ·exact (HVn.out b h').2.1 h
       ·have := HLTF.out b h; omega
      ·rcases HVG.out b hb with h' | h'
       ·rcases HG3.out b h with h2 | h2
        ·exact (HVn.out b h').2.1 (HFs.out b h2).1
        ·have := HVL.out b h'; omega
       ·have := HW4L.out b h; omega
     have HV10 := Lib.hid ((HV8.out.kept k9).keep hk10 (fun b hb e => hVF6 b hb e))
     have HVN10 : Hid (∀ b, vg.ownBlock = some b → w1.heap.size ≤ b ∧ ¬ F10 b ∧ b ≠ bo) := fun b hb => by
      refine ⟨?_, fun e => ?_, HGO.out b hb⟩
      ·rcases HVG.out b hb with h | h
       ·exact (HVn.out b h).1
       ·omega
      ·rcases hg10 b e with h | h
       ·exact hVF6 b hb h
       ·have := HVGL.out b hb; omega
     have hF6 : ∀ b, F6 b → F b ∨ w1.heap.size ≤ b := fun b hb => by
      rcases (HI6.out b).1 hb with h | h
      ·exact HGr.out b h
      ·rcases HG3.out b h with h2 | h2
       ·exact HGr.out b (HFs.out b h2).1
       ·exact .inr (by omega)
     have HG10 : Hid (Grow w1 F F10) := fun b hb => by
      rcases hg10 b hb with h | h
      ·exact hF6 b h
      ·exact .inr (by omega)
     have K10 : Keep (fun b => F b ∨ b = bo) w1 w10 := by
      refine (Keep.trans kwq K8 (fun b hb e => ?_)).kept k9 |>.trans hk10 (fun b hb e => ?_)
      ·rcases e with e | e | e | e
       ·exact (HGr.out b (HFs.out b e).1).elim .inl (fun e => by omega)
       ·exact .inr e
       ·rw [e]; exact .inl hpF
       ·have := (HVn.out b e).1; omega
      ·exact (hF6 b e).elim .inl (fun e => by omega)
     have HB10 := Lib.hid hb10
     have HM10 : Hid (B.matched o = ⟨(fs ++ fillsOf o pr' no left H) ++ (if ow = true then Mt.mk [] (left - seenM H) true (dropE [] R (pr', X2)) else matchM o (no + H.length) (left - seenM H) (dropE [] R (pr', X2))).f, (if ow = true then Mt.mk [] (left - seenM H) true (dropE [] R (pr', X2)) else matchM o (no + H.length) (left - seenM H) (dropE [] R (pr', X2))).left, (if ow = true then Mt.mk [] (left - seenM H) true (dropE [] R (pr', X2)) else matchM o (no + H.length) (left - seenM H) (dropE [] R (pr', X2))).self, (if ow = true then Mt.mk [] (left - seenM H) true (dropE [] R (pr', X2)) else matchM o (no + H.length) (left - seenM H) (dropE [] R (pr', X2))).L⟩) := by
      show _ = _
      rw [HM.out]
      simp only [Bool.false_eq_true, if_false]
      rw [HRD.out]
      unfold roundM
      simp only
      rw [HTT.out]
      simp only [List.append_assoc]
     have HS10 := Lib.hid HRI.out.sid
     have HLN10 : Hid (lastOf last (fillsOf o pr' no left H) = lastOf B.last (fs ++ fillsOf o pr' no left H) ∧ no + (H.length : Int) = B.no + ((fs ++ fillsOf o pr' no left H).length : Nat)) := by
      refine ⟨by rw [lastOf_append, ← HLN.out.1], ?_⟩
      rw [List.length_append, fillsOf_len, HLN.out.2]
      omega
     have hlf10 : 0 ≤ left - seenM H ∧ (((fs ++ fillsOf o pr' no left H).length : Nat) : Int) + (left - seenM H) ≤ o.qty := by
      have h1 := HRI.out.sum
      have h2 := HRI.out.len
      rw [List.length_append, fillsOf_len]
      simp only at h1 h2
      omega
     have HLF10 := Lib.hid hlf10
     have HME : Hid (mOut bo w10 < mOut bo wr) := by
      show _ < _
      rw [HMO.out, mOut_is HO10.out]
      have h1 := HRI.out.prog
      have h2 := HRI.out.sum
      simp only at h1 h2
      show 2 * (left - seenM H).toNat + (if ow = true then 0 else 1) < 2 * left.toNat + (if self = true then 0 else 1)
      have e0 : (if self = true then (0 : Nat) else 1) = 1 := by rw [HSF.out]; rfl
      rw [e0]
      rcases h1 with h1 | h1
      ·rw [if_pos h1]
       have h3 := HRI.out.len
       simp only at h3
       omega
      ·split <;> omega
     clear hb10 hg10 hk10 hi10 k9 HO8 HB8 HV8 K8 hVF6 hF6 hlf10 HM HRD HRI HTT HGD HLN
     go_wp2
     exact ⟨⟨_, _, _, left - seenM H, ow, _, F10, vg, HB10.out, HO10.out, HV10.out, HVN10.out, HG10.out, K10, HS10.out, HLN10.out, HLF10.out, HM10.out⟩, HME.out⟩
  ·have HFIN : Hid (B.matched o = ⟨fs, left, self, L⟩) := by
    show _ = _
    rw [HM.out]
    cases self with
    | true => simp
    | false => rw [if_neg (by simp), match_zero (by omega)]; simp
   clear HM
   go_upto_region 3 with fail
   refine wp_text 13 [pE bo 10, iE ((Oc.mk o fs left false self 0).left), bE false, bE false, uE, uE, uE, bE false, bE false, uE, uE, uE, bE false] rfl (by kernel_rfl) ?_ ?_
   ·refine fE 1 5 29 2 10 0 ?_
    refine sW 2 rfl (fun a u E D hk=>exec_loadi _ Try.underlying3 _ _ _ rfl (dD D 0) (by rw [(HOr.out.kept hk).cell]; rfl)) ?_
    refine aS 3 rfl (fun a u E D hk=>exec_gtn rfl (dD D 1) rfl) (decide_eq_false (by omega)) ?_
    refine mD 4 19 2 ?_
    refine kS 5 3 ?_
    refine kS 6 3 ?_
    refine kS 7 3 ?_
    refine sW 8 rfl (fun a u E D hk=>exec_pickF _ _ _ _ rfl (dD D 3) rfl) ?_
    refine mD 9 24 7 ?_
    refine kS 10 8 ?_
    refine kS 11 8 ?_
    refine kS 12 8 ?_
    refine sW 13 rfl (fun a u E D hk=>exec_pickF _ _ _ _ rfl (dD D 8) rfl) ?_
    exact fz
   intro gv wq hV kq
   rw [dq 13 [17,18,19,20,21,22,23,24,25,26,27,28,29]]
   simp only [F7]
   rw [gQ hV 12 29 (.bool false)]
   clear hV
   refine wpList_nil ?_
   have kwq := hkr.kept kq
   have HB4q := Lib.hid (HB4.out.keep kwq (fun e => e.elim h4F (fun e => h4o e)))
   have HOq := Lib.hid (HOr.out.kept kq)
   have HBq := Lib.hid (HBr.out.kept kq)
   have HVq := Lib.hid (HVr.out.kept kq)
   go_upto_region 9 with fail
   refine wp_text 1 [.eq ((Oc.mk o fs left false self 0).v vf)] rfl (by kernel_rfl) ?_ ?_
   ·refine sW 1 rfl (fun a u E D hk=>exec_ldS 29 _ _ bo 0 ((Oc.mk o fs left false self 0).cells vf) rfl (eE E) (blk_range (HOq.out.kept hk)) Try.underlying29 (by rw [Oc.len15]; exact szC)) ?_
    exact fz
   intro gv wy hV ky
   rw [dq 1 [54]]
   simp only [F7]
   rw [gQ hV 0 54 ((Oc.mk o fs left false self 0).v vf)]
   clear hV
   refine l_setS 29 b4 29 (zeroC.cells (.slice none 0 0)) ((Oc.mk o fs left false self 0).cells vf) _ _ rfl rfl (by kernel_rfl) (by kernel_rfl) (HB4q.out.kept ky) (by rw [Oc.len15]; exact szC) (by rw [Oc.len15, Oc.len15]) (Oc.one _ _ (sl_onec HVq.out)) ?_
   intro wx hBx hkx hsx
   simp only [Act.put]
   refine wpList_nil ?_
   go_wp2
   refine bodyPost_ret (results_cell (p := 4) rfl _ _ b4 _ ((Oc.mk o fs left false self 0).cells vf) rfl hBx Try.underlying29 (by rw [Oc.len15]; exact szC)) rfl ?_
   rw [HFIN.out]
   unfold MatchIn
   rw [HSE.out]
   have hx4 : ¬ Fc b4 := fun e => (HGr.out b4 e).elim h4F (fun e => by omega)
   have hv4 : ∀ b, vf.ownBlock = some b → b ≠ b4 := fun b hb e => by have := (HVn.out b hb).1; omega
   have zq := kq.size
   have zy := ky.size
   have hlast := HLN.out
   refine ⟨Fc, vf, rfl, ?_, ?_, fun b hb => ⟨by have := (HVn.out b hb).1; omega, (HVn.out b hb).2.1⟩, fun b hb => (HGr.out b hb).imp id (fun h => by omega), ?_⟩
   ·have h1 := ((HBq.out.kept ky).keep hkx (fun b hb e => hx4 (by rw [← e]; exact hb)))
    rw [hlast.1, hlast.2] at h1
    exact h1
   ·exact (HVq.out.kept ky).keep hkx (fun b hb e => hv4 b hb e)
   ·exact ((Keep.any k1 kwq).mono (fun b hb e => e.elim id (fun e => by omega))).kept ky |>.trans hkx (fun b hb e => by omega)
end Go.Proofs.Ytfpfpmhkkgfdbaa
