/-
 Laws and contracts that the walks rest on, part 3. No condition.
-/
import Derived.Test.YtklohceombpleaaQA02
set_option linter.unusedVariables false
namespace Go.Proofs.Ytklohceombpleaa
open Go.RowKit
set_option maxRecDepth 100000
theorem lessL_at {t i q : Int} {l : Lev} {R : List Lev} : ∀ {A : List Lev}, (∀ x ∈ A, (lessM t i q x.2).1 = false) → (lessM t i q l.2).1 = true → lessL t i q (A ++ l :: R) = (true, A ++ (l.1, (lessM t i q l.2).2) :: R)
 | [], _, h => by rw [List.nil_append, lessL, if_pos h]; rfl
 | a :: A, hA, h => by
  have ih := lessL_at (A := A) (l := l) (R := R) (fun x hx => hA x (by simp [hx])) h
  rw [List.cons_append, lessL, if_neg (by rw [hA a (by simp)]; simp), ih]
  rfl
theorem lessL_none {t i q : Int} : ∀ {L : List Lev}, (∀ x ∈ L, (lessM t i q x.2).1 = false) → lessL t i q L = (false, L)
 | [], _ => rfl
 | a :: A, hA => by
  have ih := lessL_none (L := A) (fun x hx => hA x (by simp [hx]))
  rw [lessL, if_neg (by rw [hA a (by simp)]; simp), ih]
theorem removeL_at {t i : Int} {l : Lev} {R : List Lev} : ∀ {A : List Lev}, (∀ x ∈ A, (removeM t i x.2).2.1 = false) → (removeM t i l.2).2.1 = true → removeL t i (A ++ l :: R) = ((removeM t i l.2).1, true, dropE A R (l.1, (removeM t i l.2).2.2))
 | [], _, h => by
  rw [List.nil_append, removeL, if_pos h]
  unfold dropE
  rfl
 | a :: A, hA, h => by
  have ih := removeL_at (A := A) (l := l) (R := R) (fun x hx => hA x (by simp [hx])) h
  rw [List.cons_append, removeL, if_neg (by rw [hA a (by simp)]; simp), ih]
  unfold dropE
  split <;> rfl
theorem removeL_no {t i : Int} : ∀ {L : List Lev}, (∀ x ∈ L, (removeM t i x.2).2.1 = false) → removeL t i L = (zeroO, false, L)
 | [], _ => rfl
 | a :: A, hA => by
  have ih := removeL_no (L := A) (fun x hx => hA x (by simp [hx]))
  rw [removeL, if_neg (by rw [hA a (by simp)]; simp), ih]
theorem LvsOk.one {L : List Lev} (h : LvsOk L) {l : Lev} (hl : l ∈ L) : l.2.length ≤ 64 := by
 obtain ⟨a, b, rfl⟩ := List.append_of_mem hl
 have := h.few
 rw [entL_append, entL_cons, List.length_append, List.length_append] at this
 omega
theorem split_at {Z : Zs} {k : Nat} {z : Nat × Lev} (h : Z[k]? = some z) : Z = Z.take k ++ z :: Z.drop (k + 1) := by
 obtain ⟨hk, rfl⟩ := List.getElem?_eq_some_iff.1 h
 rw [← List.drop_eq_getElem_cons hk, List.take_append_drop]
set_option maxRecDepth 100000 in
set_option maxHeartbeats 1600000 in
theorem lless_any (w : World) (F : Nat → Prop) (p : Nat) (B : Bok) (s t j y : Int) (h : Bk w F p B) (hs : s = 1 ∨ s = 2) (hL : LvsOk (B.sd s)) :
  Calls Try.prog 51 #[.pointer (some ⟨p, offS s, none⟩), .int .i64 t, .int .i64 j, .int .i64 y] w fun r w' => ∃ F', r = .returned (.bool (lessL t j y (B.sd s)).1) ∧ Bk w' F' p (B.to s (lessL t j y (B.sd s)).2 B.last B.no) ∧ Grow w F F' ∧ Keep F w w' ∧ ((lessL t j y (B.sd s)).1 = false → Kept w w') := by
 have HK := Lib.hid h
 obtain ⟨v, u0, Z, G, Fs, eL, hW, hB, hFs, hp, hlt, hJ⟩ := h.open_ hs
 obtain ⟨L, hLe⟩ : ∃ L, B.sd s = L := ⟨_, rfl⟩
 rw [hLe] at eL hL ⊢
 have HLE := Lib.hid hLe
 have HJ := Lib.hid hJ
 have hn64 : Z.length ≤ 64 := by have := hL.len; rw [← eL, levs_len] at this; exact this
 have HV : Hid (w.cell? ⟨p, offS s + 1, none⟩ = some v) := by show _ = _; rw [hB.cell]; exact sideCs_get s _ _ _ _
 have HB := Lib.hid hB
 have HW := Lib.hid hW
 have HL := Lib.hid hL
 have EL := Lib.hid eL
 have HFs := Lib.hid hFs
 have HLT := Lib.hid hlt
 obtain ⟨n, hn⟩ : ∃ n, Z.length = n := ⟨_, rfl⟩
 have HSL := Lib.hid hW.sl
 rw [hn] at HSL hn64
 have HN := Lib.hid hn
 have hpl := hlt p hp
 clear hB hW hL eL hFs hn h hlt hJ hLe
 go_enter Try.func51, Try.ntmps51
 go_upto_region 1 with fail
 refine wE 6 [pV p (offS s), pV p (offS s), pV p (offS s + 1), v, iV (n : Int), iV 0] [11,12,13,14,15,16] ?_ ?_
 ·refine mE 1 0 ?_
  refine nD 2 11 0 ?_
  refine fD 3 12 1 70 1 1 (offS s) ?_
  refine sW 4 rfl (fun a u E D hk=>exec_ldv _ _ Try.underlying68 _ _ _ rfl (dD D 2) (Kept.cell hk (HV.out))) ?_
  refine sW 5 rfl (fun a u E D hk=>exec_lenS _ slQ _ _ _ _ rfl (dD D 3) HSL.out) ?_
  refine sW 6 rfl (fun a u E D hk=>exec_move _ _ rfl rfl) ?_
  exact fz
 intro w0 k0
 simp only [F8]
 go_wp2_with fail
 go_loopw [16] (fun x wr => ∃ (k : Nat), k ≤ n ∧ x = .int .i64 k ∧ Hid (∀ x ∈ L.take k, (lessM t j y x.2).1 = false) ∧ Kept w wr) (fun x _ => n - (intOf x).toNat)
 case atStart => exact ⟨0, Nat.zero_le _, rfl, by intro x hx; simp at hx, k0⟩
 case round =>
  obtain ⟨i, hi, rfl, HM, hkr⟩ := hrel
  by_cases hlt : i < n
  ·skip
   obtain ⟨gs, os, c, rfl⟩ := HSL.out.some_ (by omega)
   obtain ⟨z, hz⟩ : ∃ z, Z[i]? = some z := ⟨Z[i]'(by rw [HN.out]; omega), List.getElem?_eq_getElem (by rw [HN.out]; omega)⟩
   obtain ⟨q, pr, X⟩ := z
   have HC := Lib.hid ((HW.out.kept hkr).cell hz)
   have HZ := Lib.hid (split_at hz)
   have hzi := hz
   have HLV := Lib.hid ((HW.out.kept hkr).lv (q, pr, X) (List.mem_of_getElem? hz))
   have HGF := Lib.hid (HW.out.in_ (q, pr, X) (List.mem_of_getElem? hz))
   have HX := Lib.hid (HL.out.one (l := (pr, X)) (by rw [← EL.out]; exact levs_mem (List.mem_of_getElem? hz)))
   have HA : Hid (L[i]? = some (pr, X)) := by show _ = _; rw [← EL.out]; exact levs_at hz
   clear hz hzi
   go_upto_region 3 with fail
   refine wE 3 [pV gs (os + i * 1), pV q 0, pV q 0] [18,19,10] ?_ ?_
   ·refine sW 1 rfl (fun a u E D hk=>exec_ixo slQ _ _ (gs) (os) n c i (os + i * 1) ((i : Int)) rfl (eE E) (eE E) (by first | rfl | omega) (hlt) (by first | rfl | omega)) ?_
    refine sW 2 rfl (fun a u E D hk=>exec_ldp _ _ Try.underlying89 _ _ _ rfl (dD D 0) (Kept.cell hk (HC.out))) ?_
    refine mD 3 19 1 ?_
    exact fz
   intro w1 k1
   simp only [F8]
   have HLV1 := Lib.hid (HLV.out.kept k1)
   have kw1 := hkr.trans k1
   clear HC HLV k1
   obtain ⟨b, hb⟩ : ∃ b, (lessM t j y X).1 = b := ⟨_, rfl⟩
   have HBB := Lib.hid hb
   clear hb
   go_upto_region 4 with fail
   refine wEp 4 [pV q 0, iV t, iV j, iV y] [20,21,22,23] ?_ ?_
   ·refine mE 1 10 ?_
    refine mE 2 1 ?_
    refine mE 3 2 ?_
    refine mE 4 3 ?_
    exact fz
   intro w2 k2
   simp only [F8]
   refine l_call 65 #[.pointer (some ⟨q, 0, none⟩), .int .i64 t, .int .i64 j, .int .i64 y] rfl (exec_call 65 _ [.tmp 20, .tmp 21, .tmp 22, .tmp 23] _ _ Try.func65 (by kernel_rfl) (by kernel_rfl) rfl (by kernel_rfl) _) ?_
   refine (less_any w2 _ q X t j y (HLV1.out.kept k2) (by have := HX.out; simp only at this; omega)).mono ?_
   rintro r w3 ⟨rfl, hl3, hk3, hq3⟩
   refine ⟨.bool b, by rw [HBB.out], ?_⟩
   rw [HBB.out] at hq3
   simp only [Act.put, sA, sS, sZ]
   refine wpList_nil ?_
   have kw2 := kw1.trans k2
   have HL3 := Lib.hid hl3
   have HK3 := Lib.hid hk3
   have HQ3 := Lib.hid hq3
   clear hl3 hk3 hq3 HLV1 k2 kw1
   cases b with
   | true =>
    have HR : Hid (lessL t j y L = (true, levs (Z.take i ++ (q, pr, (lessM t j y X).2) :: Z.drop (i + 1)))) := by
     show _ = _
     have e1 : L = levs (Z.take i) ++ (pr, X) :: levs (Z.drop (i + 1)) := by
      rw [← EL.out]
      conv => lhs; rw [HZ.out]
      rw [levs_append, levs_cons]
     have e2 : L.take i = levs (Z.take i) := by rw [← EL.out]; simp [levs, List.map_take]
     rw [e2] at HM
     conv => lhs; rw [e1]
     rw [lessL_at HM.out HBB.out, levs_append, levs_cons]
    obtain ⟨Fs', G', hW', hG', hk', _⟩ := WayZ.turn (A := Z.take i) (R := Z.drop (i + 1)) (q := q) (pr := pr) (X := X) (by rw [← HZ.out]; exact HW.out.kept kw2) HK3.out HL3.out (Grow.refl _ _)
    have K3 : Keep (fun b => Fs b ∨ b = p) w w3 := (Keep.mono (T := fun b => Fs b ∨ b = p) kw2 (fun _ _ h => h.elim)).trans hk' (fun b _ hb => .inl hb)
    have hB3 := (HB.out.kept kw2).keep hk' (fun h => (HFs.out p h).2 rfl)
    obtain ⟨F', q1, q2, q3, _⟩ := HJ.out w3 _ _ _ _ _ K3 hB3 ⟨_, _, rfl, hW'⟩ (hG'.wide kw2.size)
    have Q1 := Lib.hid q1
    clear HL3 HK3 HQ3 hW' hG' hk' K3 hB3 HB q1
    go_wp2
    go_ret
    rw [HR.out]
    exact ⟨rfl, F', Q1.out, q2, q3, fun h => by cases h⟩
   | false =>
    have kw3 := kw2.trans (HQ3.out rfl)
    have HM1 : Hid (∀ x ∈ L.take (i + 1), (lessM t j y x.2).1 = false) := by
     intro x hx
     rw [List.take_add_one, HA.out] at hx
     rcases List.mem_append.1 hx with hx | hx
     ·exact HM.out x hx
     ·simp at hx
      subst hx
      exact HBB.out
    clear HL3 HK3 HQ3 HM
    go_wp2
    exact ⟨⟨i + 1, by omega, by go_num, HM1, kw3⟩, by simp [intOf]; omega⟩
  ·have HF : Hid (lessL t j y L = (false, L)) := by
    show _ = _
    refine lessL_none fun x hx => HM.out x ?_
    rw [List.take_of_length_le (by rw [← EL.out, levs_len, HN.out]; omega)]
    exact hx
   have HE : Hid (B.to s L B.last B.no = B) := by show _ = _; rw [← HLE.out]; exact Bok.to_self hs
   clear HM
   go_wp2
   go_ret
   rw [HF.out]
   exact ⟨F, rfl, by rw [HE.out]; exact HK.out.kept hkr, Grow.refl _ _, Keep.mono (T := F) hkr (fun _ _ h => h.elim), fun _ => hkr⟩
set_option maxRecDepth 100000 in
set_option maxHeartbeats 1600000 in
theorem lremove_any (w : World) (F : Nat → Prop) (p : Nat) (B : Bok) (s t j : Int) (h : Bk w F p B) (hs : s = 1 ∨ s = 2) (hL : LvsOk (B.sd s)) :
  Calls Try.prog 55 #[.pointer (some ⟨p, offS s, none⟩), .int .i64 t, .int .i64 j] w fun r w' => ∃ F', r = .returned (.tuple #[(removeL t j (B.sd s)).1.v, .bool (removeL t j (B.sd s)).2.1]) ∧ Bk w' F' p (B.to s (removeL t j (B.sd s)).2.2 B.last B.no) ∧ Grow w F F' ∧ Keep F w w' ∧ ((removeL t j (B.sd s)).2.1 = false → Kept w w') := by
 have hFl := h.lt
 obtain ⟨L, hLe⟩ : ∃ L, B.sd s = L := ⟨_, rfl⟩
 rw [hLe] at hL ⊢
 go_enter Try.func55, Try.ntmps55
 go_upto_region 0 with fail
 refine wp_text 2 [.fresh w.heap.size 24 zeroO.cells, bE false] rfl (by kernel_rfl) ?_ ?_
 ·refine nW 1 rfl (fun a u E D hk=>⟨_, _, exec_alc 24 zeroO.cells rfl zO, ⟨_, rfl, hk.size, Blk.new u _ _⟩, ((Keep.refl _ u).alloc _)⟩) ?_
  refine sW 2 rfl (fun a u E D hk=>exec_assign _ _ rfl rfl) ?_
  exact fz
 intro gv wz hV kz
 rw [dq 2 [6,7]]
 simp only [Fz7]
 have hv6 : (.fresh w.heap.size 24 zeroO.cells : Kn).p (gv 6) wz := hV 0 6 (by kernel_rfl)
 generalize gv 6 = v6 at hv6 ⊢
 rw [gQ hV 1 7 (.bool false)]
 clear hV
 obtain ⟨b6, rfl, hb6, hB6⟩ := hv6
 refine wpList_nil ?_
 have HB6 := Lib.hid hB6
 have l6 := hB6.lt
 have h6F : ¬ F b6 := fun h => by have := hFl b6 h; omega
 clear hB6 hFl
 replace h := h.kept kz
 have HK := Lib.hid h
 obtain ⟨v, u0, Z, G, Fs, eL, hW, hB, hFs, hp, hlt, hJ⟩ := h.open_ hs
 rw [hLe] at eL
 have HLE := Lib.hid hLe
 have HJ := Lib.hid hJ
 have hn64 : Z.length ≤ 64 := by have := hL.len; rw [← eL, levs_len] at this; exact this
 have HV : Hid (wz.cell? ⟨p, offS s + 1, none⟩ = some v) := by show _ = _; rw [hB.cell]; exact sideCs_get s _ _ _ _
 have HB := Lib.hid hB
 have HW := Lib.hid hW
 have HL := Lib.hid hL
 have EL := Lib.hid eL
 have HFs := Lib.hid hFs
 have HLT := Lib.hid hlt
 obtain ⟨n, hn⟩ : ∃ n, Z.length = n := ⟨_, rfl⟩
 have HSL := Lib.hid hW.sl
 rw [hn] at HSL hn64
 have HN := Lib.hid hn
 have hpl := hlt p hp
 clear hB hW hL eL hFs hn h hlt hJ hLe
 go_upto_region 1 with fail
 refine wE 6 [pV p (offS s), pV p (offS s), pV p (offS s + 1), v, iV (n : Int), iV 0] [12,13,14,15,16,17] ?_ ?_
 ·refine mE 1 0 ?_
  refine nD 2 12 0 ?_
  refine fD 3 13 1 70 1 1 (offS s) ?_
  refine sW 4 rfl (fun a u E D hk=>exec_ldv _ _ Try.underlying68 _ _ _ rfl (dD D 2) (Kept.cell hk (HV.out))) ?_
  refine sW 5 rfl (fun a u E D hk=>exec_lenS _ slQ _ _ _ _ rfl (dD D 3) HSL.out) ?_
  refine sW 6 rfl (fun a u E D hk=>exec_move _ _ rfl rfl) ?_
  exact fz
 intro w0 k0
 simp only [F8]
 go_wp2_with fail
 go_loopw [17] (fun x wr => ∃ (k : Nat), k ≤ n ∧ x = .int .i64 k ∧ Hid (∀ x ∈ L.take k, (removeM t j x.2).2.1 = false) ∧ Kept wz wr) (fun x _ => n - (intOf x).toNat)
 case atStart => exact ⟨0, Nat.zero_le _, rfl, by intro x hx; simp at hx, k0⟩
 case round =>
  obtain ⟨i, hi, rfl, HM, hkr⟩ := hrel
  by_cases hlt : i < n
  ·skip
   obtain ⟨gs, os, c, rfl⟩ := HSL.out.some_ (by omega)
   obtain ⟨z, hz⟩ : ∃ z, Z[i]? = some z := ⟨Z[i]'(by rw [HN.out]; omega), List.getElem?_eq_getElem (by rw [HN.out]; omega)⟩
   obtain ⟨q, pr, X⟩ := z
   have HC := Lib.hid ((HW.out.kept hkr).cell hz)
   have HZ := Lib.hid (split_at hz)
   have HLV := Lib.hid ((HW.out.kept hkr).lv (q, pr, X) (List.mem_of_getElem? hz))
   have HX := Lib.hid (HL.out.one (l := (pr, X)) (by rw [← EL.out]; exact levs_mem (List.mem_of_getElem? hz)))
   have HA : Hid (L[i]? = some (pr, X)) := by show _ = _; rw [← EL.out]; exact levs_at hz
   clear hz
   go_upto_region 3 with fail
   refine wE 5 [iV (i : Int), pV gs (os + i * 1), pV q 0, iV (i : Int), pV q 0] [19,20,21,8,9] ?_ ?_
   ·refine mE 1 17 ?_
    refine sW 2 rfl (fun a u E D hk=>exec_ixo slQ _ _ (gs) (os) n c i (os + i * 1) ((i : Int)) rfl (eE E) (eE E) (by first | rfl | omega) (hlt) (by first | rfl | omega)) ?_
    refine sW 3 rfl (fun a u E D hk=>exec_ldp _ _ Try.underlying89 _ _ _ rfl (dD D 1) (Kept.cell hk (HC.out))) ?_
    refine mD 4 19 0 ?_
    refine mD 5 21 2 ?_
    exact fz
   intro w1 k1
   simp only [F8]
   have HLV1 := Lib.hid (HLV.out.kept k1)
   have kw1 := hkr.trans k1
   clear HC HLV k1
   obtain ⟨b, hb⟩ : ∃ b, (removeM t j X).2.1 = b := ⟨_, rfl⟩
   obtain ⟨e, he⟩ : ∃ e, (removeM t j X).1 = e := ⟨_, rfl⟩
   have HBB := Lib.hid hb
   have HEE := Lib.hid he
   clear hb he
   go_upto_region 4 with fail
   refine wEp 3 [pV q 0, iV t, iV j] [23,24,25] ?_ ?_
   ·refine mE 1 9 ?_
    refine mE 2 1 ?_
    refine mE 3 2 ?_
    exact fz
   intro w2 k2
   simp only [F8]
   refine l_call 66 #[.pointer (some ⟨q, 0, none⟩), .int .i64 t, .int .i64 j] rfl (exec_call 66 _ [.tmp 23, .tmp 24, .tmp 25] _ _ Try.func66 (by kernel_rfl) (by kernel_rfl) rfl (by kernel_rfl) _) ?_
   refine (remove_any w2 _ q X t j (HLV1.out.kept k2) (by have := HX.out; simp only at this; omega)).mono ?_
   rintro r w3 ⟨rfl, hl3, hk3, hq3⟩
   refine ⟨.tuple #[e.v, .bool b], by rw [HBB.out, HEE.out], ?_⟩
   rw [HBB.out] at hq3
   simp only [Act.put, sA, sS, sZ]
   refine l_val (.tuple #[e.v, .bool b]) rfl (exec_move _ _ rfl (by kernel_rfl)) ?_
   simp only [Act.put, sA, sS, sZ]
   refine l_val (e.v) rfl (exec_extract (.tmp 22) [e.v, .bool b] 0 (e.v) rfl (by kernel_rfl) rfl) ?_
   simp only [Act.put, sA, sS, sZ]
   refine l_val (.bool b) rfl (exec_extract (.tmp 22) [e.v, .bool b] 1 (.bool b) rfl (by kernel_rfl) rfl) ?_
   simp only [Act.put, sA, sS, sZ]
   refine l_new (.pointer (some ⟨w3.heap.size, 0, none⟩)) (w3.alloc (.cells zeroO.cells.toArray 24)) rfl (exec_alc 24 zeroO.cells rfl zO) ?_
   have hNw4 := Blk.new w3 24 zeroO.cells
   have kw4 : Kept w3 (w3.alloc (.cells zeroO.cells.toArray 24)) := (Keep.refl _ w3).alloc _
   generalize w3.alloc (.cells zeroO.cells.toArray 24) = w4 at hNw4 kw4 ⊢
   simp only [Act.put, sA, sS, sZ]
   refine l_setS 24 w3.heap.size 24 zeroO.cells e.cells _ _ rfl rfl (by kernel_rfl) (by kernel_rfl) hNw4 (by rw [Ord.len9]; exact ord_size) (by rw [Ord.len9, Ord.len9]) (Ord.one1 _) ?_
   intro w5 hB5 hk5 hs5
   simp only [Act.put]
   refine l_val (.bool b) rfl (exec_assign _ _ rfl (by kernel_rfl)) ?_
   simp only [Act.put, sA, sS, sZ]
   refine wpList_nil ?_
   obtain ⟨b10, hb10⟩ : ∃ x, w3.heap.size = x := ⟨_, rfl⟩
   rw [hb10] at hNw4 hB5 hk5 ⊢
   have l10 := hB5.lt
   have K35 : Kept w3 w5 := kw4.trans' hk5 (by omega)
   have kw2 := kw1.trans k2
   have HL3 := Lib.hid hl3
   have HK3 := Lib.hid hk3
   have HQ3 := Lib.hid hq3
   have HB10 := Lib.hid hB5
   have z2 := kw2.size
   have z3 := hk3.size
   clear hl3 hk3 hq3 HLV1 k2 kw1 hNw4 hB5 hk5 hs5 kw4
   cases b with
   | true =>
    have HR : Hid (removeL t j L = (e, true, dropE (levs (Z.take i)) (levs (Z.drop (i + 1))) (pr, (removeM t j X).2.2))) := by
     show _ = _
     have e1 : L = levs (Z.take i) ++ (pr, X) :: levs (Z.drop (i + 1)) := by
      rw [← EL.out]
      conv => lhs; rw [HZ.out]
      rw [levs_append, levs_cons]
     have e2 : L.take i = levs (Z.take i) := by rw [← EL.out]; simp [levs, List.map_take]
     rw [e2] at HM
     conv => lhs; rw [e1]
     rw [removeL_at HM.out HBB.out, HEE.out]
    have HX' : Hid ((removeM t j X).2.2.length ≤ 64) := by
     have h1 := HX.out
     simp only at h1
     show _ ≤ _
     unfold removeM
     split
     ·exact h1
     ·simp only
      rw [List.length_eraseIdx]
      split <;> omega
    obtain ⟨Fs', G', hW', hG', hk', _⟩ := WayZ.turn (A := Z.take i) (R := Z.drop (i + 1)) (q := q) (pr := pr) (X := X) (by rw [← HZ.out]; exact HW.out.kept kw2) HK3.out HL3.out (Grow.refl _ _)
    have K3 : Keep (fun b => Fs b ∨ b = p) wz w3 := (Keep.mono (T := fun b => Fs b ∨ b = p) kw2 (fun _ _ h => h.elim)).trans hk' (fun b _ hb => .inl hb)
    have hB3 := (HB.out.kept kw2).keep hk' (fun h => (HFs.out p h).2 rfl)
    obtain ⟨F', q1, q2, q3, q4⟩ := HJ.out w3 _ _ _ _ _ K3 hB3 ⟨_, _, rfl, hW'⟩ (hG'.wide kw2.size)
    have h6F' : ¬ F' b6 := fun h => (q2 b6 h).elim h6F (fun h => by omega)
    have h10F' : ¬ F' b10 := fun h => by have := q1.lt b10 h; omega
    have Q5 := Lib.hid (q1.kept K35)
    have HB65 := Lib.hid (((HB6.out.kept kw2).keep HK3.out (fun h => h6F (HFs.out b6 ((HW.out.in_ (q, pr, X) (by rw [HZ.out]; simp)) b6 h)).1)).kept K35)
    have q3' := q3.kept K35
    have q2' := q2
    clear HL3 HK3 HQ3 hW' hG' hk' K3 hB3 HB q1 HB6
    have hlen1 : (levs (Z.take i)).length = i := by rw [levs_len, List.length_take, HN.out]; omega
    have hlen2 : (levs (Z.drop (i + 1))).length ≤ 64 := by rw [levs_len, List.length_drop, HN.out]; omega
    have HLN := Lib.hid hlen1
    have HLN2 := Lib.hid hlen2
    clear hlen1 hlen2
    go_upto_region 6 with fail
    refine wEp 2 [pV p (offS s), iV (i : Int)] [30,31] ?_ ?_
    ·refine mE 1 0 ?_
     refine mE 2 8 ?_
     exact fz
    intro w6 k6
    simp only [F8]
    refine l_call 67 #[.pointer (some ⟨p, offS s, none⟩), .int .i64 (i : Int)] rfl (exec_call 67 _ [.tmp 30, .tmp 31] _ _ Try.func67 (by kernel_rfl) (by kernel_rfl) rfl (by kernel_rfl) _) ?_
    refine (drop_if_any w6 F' p _ s (levs (Z.take i)) (levs (Z.drop (i + 1))) (pr, (removeM t j X).2.2) i (Q5.out.kept k6) hs (by rw [Bok.to_sd hs, levs_append, levs_cons]) HLN.out (by rw [HLN.out]; have := HLN2.out; omega) (by have := HX'.out; simp only; omega)).mono ?_
    rintro r w7 ⟨F2, rfl, h7, g7, k7, s7⟩
    refine ⟨_, rfl, ?_⟩
    simp only [Act.put, sA, sS, sZ]
    refine wpList_nil ?_
    have K57 : Keep F' w5 w7 := Keep.any k6 k7
    have HB67 := Lib.hid (HB65.out.keep K57 h6F')
    have HB107 := Lib.hid (blk_range (HB10.out.keep K57 h10F'))
    have z5 := K35.size
    have z6 := k6.size
    have z7 := k7.size
    have h6F2 : ¬ F2 b6 := fun h => (g7 b6 h).elim h6F' (fun h => by omega)
    have HK7 := Lib.hid h7
    have HG7 : Hid (Grow wz F F2) := by
     show Grow _ _ _
     exact q2'.trans (g7.wide (Nat.le_trans (by omega) z6)) (by omega)
    have HKK : Hid (Keep F w w7) := (Keep.mono (T := F) kz (fun _ _ h => h.elim)).trans (q3'.trans K57 (fun b hb h => (q2' b h).elim id (fun h' => by omega))) (fun _ _ h => h)
    clear h7 g7 k7 s7 HB10 HB65 K57 k6 Q5 q3' q3 K35
    go_upto_region 7 with fail
    refine wEp 1 [e.v] [33] ?_ ?_
    ·refine sE 1 10 b10 0 e.cells Try.underlying24 (fun u hk=>range_kept HB107.out hk) (by rw [e.len9]; exact ord_size) ?_
     exact fz
    intro w8 k8
    simp only [F8]
    refine l_setS 24 b6 24 zeroO.cells e.cells _ _ rfl rfl (by kernel_rfl) (by kernel_rfl) (HB67.out.kept k8) (by rw [Ord.len9]; exact ord_size) (by rw [Ord.len9, Ord.len9]) (Ord.one1 _) ?_
    intro w9 hB9 hk9 hs9
    simp only [Act.put]
    refine l_val (.bool true) rfl (exec_assign _ _ rfl (by kernel_rfl)) ?_
    simp only [Act.put, sA, sS, sZ]
    refine wpList_nil ?_
    go_wp2
    refine bodyPost_ret (results_cell2 (p := 6) (q := 7) rfl _ _ b6 _ e.cells true rfl rfl hB9 Try.underlying24 (by rw [Ord.len9]; exact ord_size)) rfl ?_
    rw [HR.out]
    have zz := kz.size
    refine ⟨rfl, F2, ?_, HG7.out.wide zz, (HKK.out.kept k8).trans hk9 (fun b hb h => by subst h; omega), fun h => by cases h⟩
    have h9 := (HK7.out.kept k8).keep hk9 (fun b hb h => h6F2 (by subst h; exact hb))
    rw [Bok.to_to hs] at h9
    exact h9
   | false =>
    have kw3 := (kw2.trans (HQ3.out rfl)).trans K35
    have HM1 : Hid (∀ x ∈ L.take (i + 1), (removeM t j x.2).2.1 = false) := by
     intro x hx
     rw [List.take_add_one, HA.out] at hx
     rcases List.mem_append.1 hx with hx | hx
     ·exact HM.out x hx
     ·simp at hx
      subst hx
      exact HBB.out
    clear HL3 HK3 HQ3 HM K35 kw2 z2 z3 l10 hb10 HB10
    go_wp2
    exact ⟨⟨i + 1, by omega, by go_num, HM1, kw3⟩, by simp [intOf]; omega⟩
  ·have HF : Hid (removeL t j L = (zeroO, false, L)) := by
    show _ = _
    refine removeL_no fun x hx => HM.out x ?_
    rw [List.take_of_length_le (by rw [← EL.out, levs_len, HN.out]; omega)]
    exact hx
   have HE : Hid (B.to s L B.last B.no = B) := by show _ = _; rw [← HLE.out]; exact Bok.to_self hs
   clear HM
   go_upto_region 9 with fail
   refine wEp 1 [zeroO.v] [35] ?_ ?_
   ·refine sW 1 rfl (fun a u E D hk=>exec_build 24 [] zeroO.cells rfl (by kernel_rfl)) ?_
    exact fz
   intro w2 k2
   simp only [F8]
   refine l_setS 24 b6 24 zeroO.cells zeroO.cells _ _ rfl rfl (by kernel_rfl) (by kernel_rfl) ((HB6.out.kept hkr).kept k2) (by rw [Ord.len9]; exact ord_size) rfl (Ord.one1 _) ?_
   intro w3 hB3 hk3 hs3
   simp only [Act.put]
   refine l_val (.bool false) rfl (exec_assign _ _ rfl (by kernel_rfl)) ?_
   simp only [Act.put, sA, sS, sZ]
   refine wpList_nil ?_
   go_wp2
   refine bodyPost_ret (results_cell2 (p := 6) (q := 7) rfl _ _ b6 _ zeroO.cells false rfl rfl hB3 Try.underlying24 (by rw [Ord.len9]; exact ord_size)) rfl ?_
   rw [HF.out]
   have k13 : Kept w w3 := ((kz.trans hkr).trans k2).trans' hk3 (by omega)
   exact ⟨F, rfl, by rw [HE.out]; exact ((HK.out.kept hkr).kept k2).keep hk3 (fun b hb h => h6F (by subst h; exact hb)), Grow.refl _ _, Keep.mono (T := F) k13 (fun _ _ h => h.elim), fun _ => k13⟩
section
variable {P : Program} {ops : Array Oper} {Q : Exit → Act → World → Prop} {V : List Kn} {n m : Nat} {a0 : Act} {w0 : World} {S : Nat → Prop}
def Kn.safe (S : Nat → Prop) (K : Kn) : Prop := ∀ v w w', K.p v w → Keep S w w' → K.p v w'
theorem Kn.safe_eq (S : Nat → Prop) (c : Value) : (Kn.eq c).safe S := fun _ _ _ h _ => h
structure VInv (ops : Array Oper) (V : List Kn) (n m : Nat) (a0 : Act) (w0 : World) (S : Nat → Prop) (ls : Array Bool) (a : Act) (w : World) : Prop where
 head : HeadInv .any ops n ls
 defers : a.defers = a0.defers
 size : a.tmps.size = a0.tmps.size
 env : ∀ t, (∀ i, i < n → ls.getD i false = true → dstOf ops i ≠ some t) → a.tmps[t]? = a0.tmps[t]?
 vals : ∀ i d, i < n → ls.getD i false = true → dstOf ops i = some d → (knOf V i).p (a.tmps.getD d undef) w
 keep : Keep S w0 w
 kept : ls.getD m false = false → Kept w0 w
def VStep (P : Program) (ops : Array Oper) (Q : Exit → Act → World → Prop) (V : List Kn) (n : Nat) (a0 : Act) (w0 : World) (S : Nat → Prop) (i : Nat) (K : Kn) : Prop :=
 ∀ a w, FEnv ops n a0 a → FDep ops V i a w → Keep S w0 w → wpOp P ops Q i (FPost ops i K a w) a w
def VTurn (P : Program) (ops : Array Oper) (Q : Exit → Act → World → Prop) (V : List Kn) (n : Nat) (a0 : Act) (w0 : World) (S : Nat → Prop) (m : Nat) (K : Kn) : Prop :=
 ∀ a w, FEnv ops n a0 a → FDep ops V m a w → Kept w0 w → wpOp P ops Q m (fun a' w' => ∃ v, a' = a.put (dstOf ops m) v ∧ K.p v w' ∧ Keep S w w') a w
def VSteps (P : Program) (ops : Array Oper) (Q : Exit → Act → World → Prop) (V : List Kn) (n m : Nat) (a0 : Act) (w0 : World) (S : Nat → Prop) : Nat → List Kn → Prop
 | _, [] => True
 | i, K :: Ks => (i ≠ m → VStep P ops Q V n a0 w0 S i K) ∧ VSteps P ops Q V n m a0 w0 S (i + 1) Ks
theorem vsteps_nil {i : Nat} : VSteps P ops Q V n m a0 w0 S i [] := trivial
theorem vsteps_cons {i : Nat} (j : Nat) {K : Kn} {Ks : List Kn} (hj : j = i + 1) (h : VStep P ops Q V n a0 w0 S i K) (hr : VSteps P ops Q V n m a0 w0 S j Ks) : VSteps P ops Q V n m a0 w0 S i (K :: Ks) := ⟨fun _ => h, by subst hj; exact hr⟩
theorem vsteps_turn {i : Nat} (j : Nat) {K : Kn} {Ks : List Kn} (hj : j = i + 1) (hm : i = m) (hr : VSteps P ops Q V n m a0 w0 S j Ks) : VSteps P ops Q V n m a0 w0 S i (K :: Ks) := ⟨fun h => (h hm).elim, by subst hj; exact hr⟩
theorem vsteps_at : ∀ (Ks : List Kn) (i : Nat), VSteps P ops Q V n m a0 w0 S i Ks → ∀ k K, Ks[k]? = some K → i + k ≠ m → VStep P ops Q V n a0 w0 S (i + k) K
 | [], _, _, k, K, h, _ => by simp at h
 | K0 :: Ks, i, h, 0, K, hk, hm => by simp at hk; subst hk; exact h.1 hm
 | K0 :: Ks, i, h, k + 1, K, hk, hm => by
  have := vsteps_at Ks (i + 1) h.2 k K (by simpa using hk) (by omega)
  rw [show i + (k + 1) = i + 1 + k by omega]
  exact this
def lateB (ops : Array Oper) (n m : Nat) (early : List Nat) : Bool := (List.range n).all fun i => i == m || early.contains i || (List.range i).any fun j => (j == m || !early.contains j) && Region.waitsFor .any ops i j
theorem freeV_go (early : List Nat) (hnV : V.length = n) (hmn : m < n) (hB : freeB ops n a0.tmps.size = true) (hL : lateB ops n m early = true) (hsafe : ∀ i, i ∈ early → (knOf V i).safe S) (hst : ∀ i K, V[i]? = some K → i ≠ m → VStep P ops Q V n a0 w0 S i K) (htn : VTurn P ops Q V n a0 w0 S m (knOf V m))
  (hfin : ∀ a w, VInv ops V n m a0 w0 S (Array.replicate n true ++ Array.replicate (ops.size - n) false) a w → wpAny P .any ops Q (ops.size - n) (Array.replicate n true ++ Array.replicate (ops.size - n) false) a w) :
  ∀ (f : Nat) (U : List Nat) (ls : Array Bool) (a : Act) (w : World), U.length = f → U.Nodup → (∀ i, i ∈ U ↔ i < n ∧ ls.getD i true = false) → VInv ops V n m a0 w0 S ls a w → wpAny P .any ops Q (f + (ops.size - n)) ls a w := by
 obtain ⟨hn, hsc, hseq, hall⟩ := freeB_facts hB
 have hop : ∀ i, i < n → ∃ o d, ops[i]? = some o ∧ o.dst = some d ∧ d < a0.tmps.size ∧ (∀ j, j < i → dstOf ops j ≠ some d) ∧ ∀ e ∈ o.after, Region.binds .any e = true → e.on < i := by
  intro i hi
  have h := List.all_eq_true.1 hall i (by simpa using hi)
  cases ho : ops[i]? with
  | none => rw [ho] at h; cases h
  | some o =>
   rw [ho] at h
   simp only [Bool.and_eq_true] at h
   cases hd : o.dst with
   | none => rw [hd] at h; cases h.1
   | some d =>
    rw [hd] at h
    simp only [Bool.and_eq_true, decide_eq_true_eq, List.all_eq_true, List.mem_range, bne_iff_ne] at h
    refine ⟨o, d, rfl, hd, h.1.1, h.1.2, fun e he hb => ?_⟩
    have h2 := (Array.all_eq_true_iff_forall_mem.1 h.2) e he
    simpa [hb] using h2
 intro f
 induction f with
 | zero =>
  intro U ls a w hU _ hmem inv
  have hnil : U = [] := List.eq_nil_of_length_eq_zero hU
  have hls : ls = Array.replicate n true ++ Array.replicate (ops.size - n) false := by
   apply Array.ext
   ·simp [inv.head.size]; omega
   ·intro i h1 h2
    have hsz := inv.head.size
    by_cases hi : i < n
    ·have h3 : ¬ (i < n ∧ ls.getD i true = false) := by
      intro h
      have := (hmem i).2 h
      rw [hnil] at this
      cases this
     have h4 : ls.getD i true = true := by
      cases hq : ls.getD i true with
      | true => rfl
      | false => exact (h3 ⟨hi, hq⟩).elim
     rw [Array.getElem_append_left (by simpa using hi)]
     simp [h1] at h4
     simp [h4]
    ·have h4 := inv.head.tail i (by omega) (by omega)
     rw [Array.getElem_append_right (by simpa using hi)]
     simp [h1] at h4
     simp [h4]
  rw [Nat.zero_add]
  subst hls
  exact hfin a w inv
 | succ f ih =>
  intro U ls a w hU hnd hmem inv
  have hsz := inv.head.size
  rw [show f + 1 + (ops.size - n) = (f + (ops.size - n)) + 1 by omega]
  obtain ⟨u, hu⟩ : ∃ u, u ∈ U := by
   cases U with
   | nil => simp at hU
   | cons u U => exact ⟨u, by simp⟩
  obtain ⟨hun, huf⟩ := (hmem u).1 hu
  refine ⟨fun h0 => ?_, fun i hi => ?_⟩
  ·exfalso
   have key : ∀ k i, i ≤ k → i < n → ls.getD i true = true := by
    intro k
    induction k using Nat.strongRecOn with
    | _ k ihk =>
     intro i hik hin
     cases hq : ls.getD i true with
     | true => rfl
     | false =>
      obtain ⟨o, d, ho, _, _, _, haft⟩ := hop i hin
      have : i ∈ Region.ready .any ops ls := mem_ready.2 ⟨hq, o, ho, fun e he hb => by
       have hlt := haft e he hb
       have := ihk (k - 1) (by omega) e.on (by omega) (by omega)
       exact getD_tf this (by omega)⟩
      rw [h0] at this
      cases this
   rw [key u u (Nat.le_refl _) hun] at huf
   cases huf
  ·have hin : i < n := Nat.lt_of_not_le fun h => tail_waits (hsc (Nat.lt_of_le_of_lt h (by obtain ⟨_, o1, ho1, _⟩ := mem_ready.1 hi; exact (Array.getElem?_eq_some_iff.1 ho1).1))).1 (hsc (Nat.lt_of_le_of_lt h (by obtain ⟨_, o1, ho1, _⟩ := mem_ready.1 hi; exact (Array.getElem?_eq_some_iff.1 ho1).1))).2 (Nat.lt_of_le_of_lt h (by obtain ⟨_, o1, ho1, _⟩ := mem_ready.1 hi; exact (Array.getElem?_eq_some_iff.1 ho1).1)) inv.head _ u rfl hun huf i h hi
   obtain ⟨hiun, oi, hoi, hdeps⟩ := mem_ready.1 hi
   obtain ⟨o, d, ho, hd, hdlt, hne, haft⟩ := hop i hin
   obtain rfl : oi = o := Option.some.inj (hoi.symm.trans ho)
   have hdi : dstOf ops i = some d := by simp [dstOf, ho, hd]
   have hiff : ls.getD i false = false := getD_both hiun
   have hne' : ∀ j, j < n → j ≠ i → dstOf ops j ≠ some d := by
    intro j hj hij hjd
    by_cases hji : j < i
    ·exact hne j hji hjd
    ·obtain ⟨oj, dj, hoj, hdj, _, hnej, _⟩ := hop j hj
     have : dj = d := by
      have h1 : dstOf ops j = some dj := by simp [dstOf, hoj, hdj]
      rw [h1] at hjd
      injection hjd
     subst this
     exact hnej i (by omega) hdi
   have hdlt' : d < a.tmps.size := by rw [inv.size]; exact hdlt
   have hself : ∀ v, (a.put (some d) v).tmps.getD d undef = v := fun v => by simp [Act.put, hdlt']
   have hoth : ∀ v j e, j < n → j ≠ i → dstOf ops j = some e → (a.put (some d) v).tmps.getD e undef = a.tmps.getD e undef := by
    intro v j e hj hji he
    have : d ≠ e := fun h => hne' j hj hji (by rw [he, h])
    simp only [Act.put, Array.getD_eq_getD_getElem?, slot_set]
    rw [if_neg (fun h => this h.1)]
   have hfe : FEnv ops n a0 a := by
    intro t v ht hv
    have ht' : ∀ k, k < n → ls.getD k false = true → dstOf ops k ≠ some t := fun k hkn _ => by simpa using List.all_eq_true.1 ht k (by simpa using hkn)
    have h1 := inv.env t ht'
    rw [← hv]
    simp only [Act.eval, Array.getD_eq_getD_getElem?, h1]
   have hU' : ∀ k, k ∈ U.erase i ↔ k < n ∧ (ls.setIfInBounds i true).getD k true = false := by
    intro k
    rw [hnd.mem_erase_iff, hmem k]
    by_cases hki : k = i
    ·subst hki
     simp
    ·rw [getD_set_ne true (fun h => hki h.symm)]
     simp [hki]
   have henv : ∀ v t, (∀ k, k < n → (ls.setIfInBounds i true).getD k false = true → dstOf ops k ≠ some t) → (a.put (some d) v).tmps[t]? = a0.tmps[t]? := by
    intro v t ht
    have h1 := inv.env t (fun k hkn hl => ht k hkn (getD_set_true hl))
    have h2 : d ≠ t := fun h => ht i hin (by simp [show i < ls.size by omega]) (by rw [hdi, h])
    simp only [Act.put, slot_set]
    rw [if_neg (fun h => h2 h.1), h1]
   have hlen : (U.erase i).length = f := by rw [List.length_erase_of_mem ((hmem i).2 ⟨hin, hiun⟩)]; omega
   have hsetk : ∀ k, k ≠ i → (ls.setIfInBounds i true).getD k false = ls.getD k false := fun k hk => getD_set_ne false (fun h => hk h.symm)
   have hseti : (ls.setIfInBounds i true).getD i false = true := by simp [show i < ls.size by omega]
   have hdep : FDep ops V i a w := by
    intro j e hje
    simp only [Bool.and_eq_true, beq_iff_eq, ho, Option.map_some, Option.some.injEq, Array.any_eq_true'] at hje
    obtain ⟨⟨x, hx, hxb, hxj⟩, hdj⟩ := hje
    subst hxj
    exact inv.vals x.on e (by have := haft x hx hxb; omega) (hdeps x hx hxb) hdj
   have hK : V[i]? = some (knOf V i) := by
    unfold knOf
    rw [List.getD_eq_getElem?_getD, List.getElem?_eq_getElem (by omega)]
    rfl
   by_cases him : i = m
   ·subst him
    have hk := inv.kept hiff
    have hlate : ∀ j, j < n → ls.getD j false = true → j ∈ early := by
     intro j
     induction j using Nat.strongRecOn with
     | _ j ihj =>
      intro hj hlj
      have h := List.all_eq_true.1 hL j (by simpa using hj)
      simp only [Bool.or_eq_true, beq_iff_eq, List.any_eq_true, List.mem_range, Bool.and_eq_true, Bool.not_eq_true', List.contains_iff_mem] at h
      rcases h with (h | h) | ⟨q, hq1, hq2, hq3⟩
      ·subst h
       rw [hiff] at hlj
       cases hlj
      ·exact h
      ·exfalso
       obtain ⟨oj, dj, hoj, _, _, _, _⟩ := hop j hj
       obtain ⟨e, he, hb, heq⟩ := waits_on hq3 hoj
       have hlq := inv.head.closed j oj hoj hlj e he hb
       rw [heq] at hlq
       rcases hq2 with h | h
       ·subst h
        rw [hiff] at hlq
        cases hlq
       ·have := ihj q hq1 (by omega) hlq
        have h' : early.contains q = true := by simpa using this
        rw [h'] at h
        cases h
    refine wpOp_mono ?_ (htn a w hfe hdep hk)
    rintro a' w' ⟨v, rfl, hKp, hkS⟩
    rw [hdi]
    refine ih (U.erase i) _ _ w' hlen (hnd.erase _) hU' ⟨inv.head.set hi hin, inv.defers, by simp [Act.put, inv.size], henv v, fun k e hkn hlk he => ?_, inv.keep.trans hkS (fun _ _ h => h), fun hl => ?_⟩
    ·by_cases hki : k = i
     ·subst hki
      rw [hdi] at he
      injection he with he
      subst he
      rw [hself]
      exact hKp
     ·rw [hsetk k hki] at hlk
      rw [hoth v k e hkn hki he]
      exact hsafe k (hlate k hkn hlk) _ _ _ (inv.vals k e hkn hlk he) hkS
    ·rw [hseti] at hl
     cases hl
   ·refine wpOp_mono ?_ (hst i _ hK him a w hfe hdep inv.keep)
    rintro a' w' ⟨v, rfl, hv, hk⟩
    rw [hdi]
    refine ih (U.erase i) _ _ w' hlen (hnd.erase _) hU' ⟨inv.head.set hi hin, inv.defers, by simp [Act.put, inv.size], henv v, fun k e hkn hlk he => ?_, inv.keep.kept hk, fun hl => ?_⟩
    ·by_cases hki : k = i
     ·subst hki
      rw [hdi] at he
      injection he with he
      subst he
      rw [hself]
      exact hv
     ·rw [hsetk k hki] at hlk
      rw [hoth v k e hkn hki he]
      exact (knOf V k).st _ _ _ (inv.vals k e hkn hlk he) hk
    ·rw [hsetk m (fun h => him h.symm)] at hl
     exact (inv.kept hl).trans hk
theorem actV_filled {a : Act} {w : World} {ls : Array Bool} (hl : ∀ i, i < n → ls.getD i false = true) (inv : VInv ops V n m a0 w0 S ls a w) : a = ⟨(dstsOf ops n).foldl (fun t d => t.setIfInBounds d (a.tmps.getD d undef)) a0.tmps, a0.defers⟩ := by
 obtain ⟨t, df⟩ := a
 have h1 := inv.defers
 simp only at h1
 subst h1
 congr 1
 apply Array.ext_getElem?
 intro e
 rw [fold_slots]
 have hsz := inv.size
 simp only at hsz
 by_cases hm : e ∈ dstsOf ops n
 ·by_cases hlt : e < a0.tmps.size
  ·rw [if_pos ⟨hm, hlt⟩]
   have : e < t.size := by omega
   simp [this]
  ·rw [if_neg (fun h => hlt h.2), Array.getElem?_eq_none (by omega), Array.getElem?_eq_none (by omega)]
 ·rw [if_neg (fun h => hm h.1)]
  exact inv.env e (fun i hi _ h => hm (List.mem_filterMap.2 ⟨i, by simpa using hi, h⟩))
theorem wp_freeV {id : Nat} {a : Act} {w : World} {l : List Oper} (n m : Nat) (early : List Nat) (V : List Kn) (S : Nat → Prop) (hmo : P.follows Departure.mixedOrders = true) (hV : V.length = n) (hmn : m < n) (hB : freeB l.toArray n a.tmps.size = true) (hL : lateB l.toArray n m early = true)
  (hsafe : ∀ i, i ∈ early → (knOf V i).safe S) (hs : VSteps P l.toArray Q V n m a w S 0 V) (hm : VTurn P l.toArray Q V n a w S m (knOf V m))
  (hf : ∀ (g : Nat → Value) w', FVals l.toArray V g w' → Keep S w w' → wpList P l.toArray Q (l.drop n) ⟨(dstsOf l.toArray n).foldl (fun t d => t.setIfInBounds d (g d)) a.tmps, a.defers⟩ w') : (Code.region id l.toArray true).wp P Q a w := by
 have hB' := hB
 obtain ⟨hn, _, hseq, _⟩ := freeB_facts hB'
 have hn' : n ≤ l.length := by simpa using hn
 have hdl : (l.drop n).length = l.toArray.size - n := by simp
 refine wp_region_any hmo ?_
 have := freeV_go (P := P) (Q := Q) (w0 := w) early hV hmn hB hL hsafe (fun i K hK him => by
  have := vsteps_at V 0 hs i K hK (by omega)
  rwa [Nat.zero_add] at this) hm (fun b u inv => ?_) n (List.range n) (Array.replicate l.toArray.size false) a w.drew (by simp) List.nodup_range ?_ ?_
 ·have e : n + (l.toArray.size - n) = l.toArray.size := by omega
  rw [e] at this
  exact this
 ·have hl : ∀ i, i < n → (Array.replicate n true ++ Array.replicate (l.toArray.size - n) false).getD i false = true := by
   intro i hi
   have hlt : i < (Array.replicate n true ++ Array.replicate (l.toArray.size - n) false).size := by simp; omega
   rw [Array.getD, dif_pos hlt]
   show (Array.replicate n true ++ Array.replicate (l.toArray.size - n) false)[i] = true
   rw [Array.getElem_append_left (by simpa using hi)]
   simp
  have h4 := hf (fun d => b.tmps.getD d undef) u (fun i d hid => by
   simp only [Bool.and_eq_true, decide_eq_true_eq, beq_iff_eq] at hid
   exact inv.vals i d (by omega) (hl i (by omega)) hid.2) inv.keep
  rw [← actV_filled hl inv] at h4
  have := wpAny_of_seq (P := P) (md := .any) (ops := l.toArray) (Q' := Q) (l.drop n) n _ b u (fun j => by simp) (by rw [hdl]; exact hseq) h4
  rw [hdl] at this
  exact this
 ·intro i
  rw [List.mem_range]
  constructor
  ·intro hi
   exact ⟨hi, getD_in (by simp; omega) (getD_replicate_false _ _)⟩
  ·exact fun h => h.1
 ·refine ⟨⟨by simp, fun j oj _ hl => (by rw [getD_replicate_false] at hl; cases hl), fun t _ ht => getD_in (by simpa using ht) (getD_replicate_false _ _)⟩, rfl, rfl, fun _ _ => rfl, fun i d _ hl => (by rw [getD_replicate_false] at hl; cases hl), Keep.drew (Keep.refl _ w), fun _ => Keep.drew (Keep.refl _ w)⟩
variable {a : Act} {w : World} {o : Oper} {K : Kn}
theorem v_call (f : Nat) (args : Array Value) (ho : ops[m]? = some o) (hw : Region.wanted o (yielded ops a.tmps) = true) (h : (execOp a.eval o).run P w = .ok (.enter f args) w)
  (hc : Calls P f args w fun e w' => ∃ v, e = .returned v ∧ K.p v w' ∧ Keep S w w') : wpOp P ops Q m (fun a' w' => ∃ v, a' = a.put (dstOf ops m) v ∧ K.p v w' ∧ Keep S w w') a w := by
 unfold wpOp
 simp only [ho, hw, if_true]
 refine .inl ?_
 unfold Oper.wp
 rw [h, Oper.upon_enter]
 refine hc.mono ?_
 rintro e w' ⟨v, rfl, hv, hk⟩
 exact ⟨v, by simp [dstOf, ho], hv, hk⟩
end
theorem restM_at {o : Ord} {R : List Lev} : ∀ {A : List Lev}, (∀ x ∈ A, bet o.side x.1 o.price = true) → restM o (A ++ R) = A ++ restM o R
 | [], _ => rfl
 | a :: A, hA => by
  rw [List.cons_append, restM, if_pos (hA a (by simp)), restM_at (fun x hx => hA x (by simp [hx]))]
  rfl
def Kn.newl (base : Nat) (pr : Int) : Kn := ⟨fun v w => ∃ q F, v = .pointer (some ⟨q, 0, none⟩) ∧ Lvl pr 96 98 w F q [] ∧ ∀ b, F b → base ≤ b, fun _ _ _ ⟨q, F, h1, h2, h3⟩ hk => ⟨q, F, h1, h2.kept hk, h3⟩⟩
def Kn.onel (base : Nat) (pr : Int) : Kn := ⟨fun v w => ∃ g q F, v = .slice (some ⟨g, 0, none⟩) 1 1 ∧ Blk w g 89 [.pointer (some ⟨q, 0, none⟩)] ∧ Lvl pr 96 98 w F q [] ∧ (∀ b, F b → base ≤ b) ∧ base ≤ g ∧ ¬ F g, fun _ _ _ ⟨g, q, F, h1, h2, h3, h4⟩ hk => ⟨g, q, F, h1, h2.kept hk, h3.kept hk, h4⟩⟩
theorem Kn.safe_newl {S : Nat → Prop} {base : Nat} {pr : Int} (h : ∀ b, base ≤ b → ¬ S b) : (Kn.newl base pr).safe S := fun _ _ _ ⟨q, F, h1, h2, h3⟩ hk => ⟨q, F, h1, h2.keep hk (fun b hb => h b (h3 b hb)), h3⟩
theorem Kn.safe_onel {S : Nat → Prop} {base : Nat} {pr : Int} (h : ∀ b, base ≤ b → ¬ S b) : (Kn.onel base pr).safe S := fun _ _ _ ⟨g, q, F, h1, h2, h3, h4, h5, h6⟩ hk => ⟨g, q, F, h1, h2.keep hk (h g h5), h3.keep hk (fun b hb => h b (h4 b hb)), h4, h5, h6⟩
def Kn.ins (base : Nat) (pr : Int) (v : Value) (n : Nat) (Z : Zs) (i : Nat) : Kn := ⟨fun v' w => ∃ q F, Sl w 89 1 v' (n + 1) (insP Z i q) ∧ Lvl pr 96 98 w F q [] ∧ (∀ b, F b → base ≤ b) ∧ ∀ b, v'.ownBlock = some b → (v.ownBlock = some b ∨ base ≤ b) ∧ ¬ F b, fun _ _ _ ⟨q, F, h1, h2, h3⟩ hk => ⟨q, F, h1.kept hk, h2.kept hk, h3⟩⟩
theorem ins_kn (u W : World) (v : Value) (n i : Nat) (Z : Zs) (g1 q : Nat) (pr : Int) (F : Nat → Prop) (hk : Kept W u) (hS : Sl W 89 1 v n (ptrs Z)) (hn : n ≤ 1000) (hi : i ≤ n) (h1 : Blk u g1 89 [.pointer (some ⟨q, 0, none⟩)]) (hl : Lvl pr 96 98 u F q []) (hf : ∀ b, F b → W.heap.size ≤ b) (hg : W.heap.size ≤ g1) (ho : ∀ b, v.ownBlock = some b → b < W.heap.size) :
  Calls Try.prog 98 #[v, .int .i64 (i : Int), .slice (some ⟨g1, 0, none⟩) 1 1] u fun e w' => ∃ v', e = .returned v' ∧ (Kn.ins W.heap.size pr v n Z i).p v' w' ∧ Keep (fun b => v.ownBlock = some b) u w' := by
 have hz := hk.size
 refine (linsert_any u v n i Z g1 q (hS.kept hk) hn hi h1 (fun b hb e => by have := ho b hb; omega)).mono ?_
 rintro r w' ⟨v', rfl, h2, h3, h4⟩
 refine ⟨v', rfl, ⟨q, F, h2, hl.keep h3 (fun b hb h => by have := ho b h; have := hf b hb; omega), hf, fun b hb => ⟨(h4 b hb).imp id (fun h => by omega), fun h => ?_⟩⟩, h3⟩
 rcases h4 b hb with h5 | h5
 ·have := ho b h5
  have := hf b h
  omega
 ·have := hl.2.1 b h
  omega
def AtIn (w : World) (Fs : Nat → Prop) (p : Nat) (s : Int) (u0 : Value) (last no : Int) (L : List Lev) (price : Int) (r : Ending) (w' : World) : Prop :=
 ∃ q X ZA ZR v' Fs' G', r = .returned (.pointer (some ⟨q, 0, none⟩)) ∧ WayZ 96 98 89 w' Fs' v' (ZA ++ (q, price, X) :: ZR) G' ∧ Blk w' p 72 (sideCs s v' u0 last no) ∧ Grow w Fs Fs' ∧ Keep (fun b => Fs b ∨ b = p) w w' ∧ X.length ≤ 64 ∧ ∀ o : Ord, o.side = s → o.price = price → restM o L = levs ZA ++ (price, X ++ [Ent.of o]) :: levs ZR
set_option maxRecDepth 100000 in
set_option maxHeartbeats 3200000 in
theorem at_any (w : World) (Fs : Nat → Prop) (p : Nat) (s price : Int) (v u0 : Value) (last no : Int) (Z : Zs) (G : Nat → Nat → Prop) (L : List Lev) (hs : s = 1 ∨ s = 2) (hW : WayZ 96 98 89 w Fs v Z G) (hB : Blk w p 72 (sideCs s v u0 last no)) (hFs : ∀ b, Fs b → b ≠ p) (eL : levs Z = L) (hL : LvsOk L) :
  Calls Try.prog 92 #[.pointer (some ⟨p, offS s, none⟩), .int .i64 price] w (AtIn w Fs p s u0 last no L price) := by
 have hn64 : Z.length ≤ 64 := by have := hL.len; rw [← eL, levs_len] at this; exact this
 have HV : Hid (w.cell? ⟨p, offS s + 1, none⟩ = some v) := by show _ = _; rw [hB.cell]; exact sideCs_get s _ _ _ _
 have HS : Hid (w.cell? ⟨p, offS s, none⟩ = some (.int .i64 s)) := by show _ = _; rw [hB.cell]; exact sideCs_side hs _ _ _ _
 have HB := Lib.hid hB
 have HW := Lib.hid hW
 have HL := Lib.hid hL
 have EL := Lib.hid eL
 obtain ⟨n, hn⟩ : ∃ n, Z.length = n := ⟨_, rfl⟩
 have HSL := Lib.hid hW.sl
 rw [hn] at HSL hn64
 have HN := Lib.hid hn
 have hpl := hB.lt
 have ho3 := offS_le s
 clear hB hW hL eL hn
 go_enter Try.func92, Try.ntmps92
 go_upto_region 1 with fail
 refine wE 1 [iV 0] [5] ?_ ?_
 ·refine sW 1 rfl (fun a u E D hk=>exec_assign _ _ rfl rfl) ?_
  exact fz
 intro w0 k0
 simp only [F8]
 go_wp2_with fail
 go_loopw [5] (fun x wr => ∃ (k : Nat), k ≤ n ∧ x = .int .i64 k ∧ Hid (∀ x ∈ L.take k, bet s x.1 price = true) ∧ Kept w wr) (fun x _ => n - (intOf x).toNat)
 case atStart => exact ⟨0, Nat.zero_le _, rfl, by intro x hx; simp at hx, k0⟩
 case round =>
  obtain ⟨i, hi, rfl, HM, hkr⟩ := hrel
  have HVr := Lib.hid (hkr.cell HV.out)
  have HSr := Lib.hid (hkr.cell HS.out)
  by_cases hlt : i < n
  ·skip
   obtain ⟨gs, os, c, rfl⟩ := HSL.out.some_ (by omega)
   obtain ⟨z, hz⟩ : ∃ z, Z[i]? = some z := ⟨Z[i]'(by rw [HN.out]; omega), List.getElem?_eq_getElem (by rw [HN.out]; omega)⟩
   obtain ⟨q, pr, X⟩ := z
   have HC := Lib.hid ((HW.out.kept hkr).cell hz)
   have HZ := Lib.hid (split_at hz)
   have HLV := Lib.hid ((HW.out.kept hkr).lv (q, pr, X) (List.mem_of_getElem? hz))
   have HX := Lib.hid (HL.out.one (l := (pr, X)) (by rw [← EL.out]; exact levs_mem (List.mem_of_getElem? hz)))
   have HA : Hid (L[i]? = some (pr, X)) := by show _ = _; rw [← EL.out]; exact levs_at hz
   clear hz
   go_upto_region 2 with fail
   refine wGp 22 [iV (i : Int), pV p (offS s), pV p (offS s), pV p (offS s + 1), .slice (some ⟨gs, os, none⟩) n c, iV (n : Int), bV true, bV true, pV p (offS s), pV p (offS s), pV p (offS s), iV s, pV p (offS s), pV p (offS s), pV p (offS s + 1), .slice (some ⟨gs, os, none⟩) n c, iV (i : Int), pV gs (os + i * 1), pV q 0, iV pr, iV price, bV (bet s pr price)] [6,7,8,9,10,11,12,13,14,15,16,17,18,19,20,21,22,23,24,25,26,27] ?_ ?_
   ·refine mE 1 5 ?_
    refine mE 2 0 ?_
    refine nD 3 7 1 ?_
    refine fD 4 8 2 70 1 1 (offS s) ?_
    refine sW 5 rfl (fun a u E D hk=>exec_ldv _ _ Try.underlying68 _ _ _ rfl (dD D 3) (Kept.cell hk (HVr.out))) ?_
    refine sW 6 rfl (fun a u E D hk=>exec_len _ _ _ slQ.und (some ⟨gs, os, none⟩) n c rfl (dD D 4)) ?_
    refine aS 7 rfl (fun a u E D hk=>exec_ltn rfl (dD D 0) (dD D 5)) (decide_eq_true (by omega)) ?_
    refine mD 8 12 6 ?_
    refine mE 9 0 ?_
    refine nD 10 14 8 ?_
    refine fD 11 15 9 70 0 0 (offS s) ?_
    refine lD 12 16 10 Try.underlying3 (fun u hk=>Kept.cell hk (HSr.out)) ?_
    refine mE 13 0 ?_
    refine nD 14 18 12 ?_
    refine fD 15 19 13 70 1 1 (offS s) ?_
    refine sW 16 rfl (fun a u E D hk=>exec_ldv _ _ Try.underlying68 _ _ _ rfl (dD D 14) (Kept.cell hk (HVr.out))) ?_
    refine mE 17 5 ?_
    refine sW 18 rfl (fun a u E D hk=>exec_ixo slQ _ _ (gs) (os) n c i (os + i * 1) ((i : Int)) rfl (dD D 15) (dD D 16) (by first | rfl | omega) (hlt) (by first | rfl | omega)) ?_
    refine sW 19 rfl (fun a u E D hk=>exec_ldp _ _ Try.underlying89 _ _ _ rfl (dD D 17) (Kept.cell hk (HC.out))) ?_
    refine cS 20 91 [.pointer (some ⟨q, 0, none⟩)] rfl Try.func91 rfl (fun a u E D hk=>⟨ll (dD D 18) rfl, price_any u _ q X (HLV.out.kept hk)⟩) ?_
    refine mE 21 1 ?_
    refine cS 22 78 [.int .i64 s, .int .i64 pr, .int .i64 price] rfl Try.func78 rfl (fun a u E D hk=>⟨ll (dD D 11) (ll (dD D 19) (ll (dD D 20) rfl)), better_any s pr price u⟩) ?_
    exact fz
   intro w1 k1
   simp only [F8]
   refine l_val (.bool (bet s pr price)) rfl (exec_pick (.tmp 13) (.tmp 27) (.const (.bool false)) (.bool (bet s pr price)) rfl (by kernel_rfl) (by kernel_rfl)) ?_
   simp only [Act.put, sA, sS, sZ]
   refine wpList_nil ?_
   have kw1 := hkr.trans k1
   have HC1 := Lib.hid (k1.cell HC.out)
   have HLV1 := Lib.hid (HLV.out.kept k1)
   have HV1 := Lib.hid (kw1.cell HV.out)
   have HSL1 := Lib.hid (HSL.out.kept kw1)
   clear HC HLV HVr HSr k1
   cases hb : bet s pr price with
   | true =>
    have HM1 : Hid (∀ x ∈ L.take (i + 1), bet s x.1 price = true) := by
     intro x hx
     rw [List.take_add_one, HA.out] at hx
     rcases List.mem_append.1 hx with hx | hx
     ·exact HM.out x hx
     ·simp at hx
      subst hx
      exact hb
    clear HM hb
    go_wp2
    exact ⟨⟨i + 1, by omega, by go_num, HM1, kw1⟩, by simp [intOf]; omega⟩
   | false =>
    have HD : Hid (L = levs (Z.take i) ++ (pr, X) :: levs (Z.drop (i + 1))) := by
     show _ = _
     rw [← EL.out]
     conv => lhs; rw [HZ.out]
     rw [levs_append, levs_cons]
    have HT : Hid (∀ x ∈ levs (Z.take i), bet s x.1 price = true) := by
     have e2 : L.take i = levs (Z.take i) := by rw [← EL.out]; simp [levs, List.map_take]
     rw [e2] at HM
     exact HM.out
    have HBF := Lib.hid hb
    clear hb HM
    by_cases hpr : pr = price
    ·have HPR := Lib.hid hpr
     clear hpr
     go_upto_region 4 with fail
     refine wE 19 [iV (i : Int), pV p (offS s), pV p (offS s), pV p (offS s + 1), .slice (some ⟨gs, os, none⟩) n c, iV (n : Int), bV false, bV false, pV p (offS s), pV p (offS s), pV p (offS s + 1), .slice (some ⟨gs, os, none⟩) n c, iV (i : Int), pV gs (os + i * 1), pV q 0, iV pr, iV price, bV false, bV false] [31,32,33,34,35,36,37,38,39,40,41,42,43,44,45,46,47,48,49] ?_ ?_
     ·refine mE 1 5 ?_
      refine mE 2 0 ?_
      refine nD 3 32 1 ?_
      refine fD 4 33 2 70 1 1 (offS s) ?_
      refine sW 5 rfl (fun a u E D hk=>exec_ldv _ _ Try.underlying68 _ _ _ rfl (dD D 3) (Kept.cell hk (HV1.out))) ?_
      refine sW 6 rfl (fun a u E D hk=>exec_lenS _ slQ _ _ _ _ rfl (dD D 4) HSL1.out) ?_
      refine aS 7 rfl (fun a u E D hk=>exec_eqn rfl (dD D 0) (dD D 5)) (decide_eq_false (by omega)) ?_
      refine mD 8 37 6 ?_
      refine mE 9 0 ?_
      refine nD 10 39 8 ?_
      refine fD 11 40 9 70 1 1 (offS s) ?_
      refine sW 12 rfl (fun a u E D hk=>exec_ldv _ _ Try.underlying68 _ _ _ rfl (dD D 10) (Kept.cell hk (HV1.out))) ?_
      refine mE 13 5 ?_
      refine sW 14 rfl (fun a u E D hk=>exec_ixo slQ _ _ (gs) (os) n c i (os + i * 1) ((i : Int)) rfl (dD D 11) (dD D 12) (by first | rfl | omega) (hlt) (by first | rfl | omega)) ?_
      refine sW 15 rfl (fun a u E D hk=>exec_ldp _ _ Try.underlying89 _ _ _ rfl (dD D 13) (Kept.cell hk (HC1.out))) ?_
      refine cS 16 91 [.pointer (some ⟨q, 0, none⟩)] rfl Try.func91 rfl (fun a u E D hk=>⟨ll (dD D 14) rfl, price_any u _ q X (HLV1.out.kept hk)⟩) ?_
      refine mE 17 1 ?_
      refine aS 18 rfl (fun a u E D hk=>exec_nen rfl (dD D 15) (dD D 16)) (decide_eq_false (by have := HPR.out; omega)) ?_
      refine sW 19 rfl (fun a u E D hk=>exec_pickF _ _ _ _ rfl (dD D 7) (dD D 17)) ?_
      exact fz
     intro w2 kw2
     simp only [F8]
     have kw2 := kw1.trans kw2
     have HV2 := Lib.hid (kw2.cell HV.out)
     have HC2 := Lib.hid ((HW.out.kept kw2).cell (z := (q, pr, X)) (i := i) (by rw [HZ.out, List.getElem?_append_right (by rw [List.length_take]; omega), List.length_take, HN.out, Nat.min_eq_left (by omega), Nat.sub_self]; rfl))
     clear HV1 HC1 HLV1 HSL1
     go_upto_region 6 with fail
     refine wE 8 [pV p (offS s), pV p (offS s), pV p (offS s + 1), .slice (some ⟨gs, os, none⟩) n c, iV (i : Int), pV gs (os + i * 1), pV q 0, pV q 0] [62,63,64,65,66,67,68,4] ?_ ?_
     ·refine mE 1 0 ?_
      refine nD 2 62 0 ?_
      refine fD 3 63 1 70 1 1 (offS s) ?_
      refine sW 4 rfl (fun a u E D hk=>exec_ldv _ _ Try.underlying68 _ _ _ rfl (dD D 2) (Kept.cell hk (HV2.out))) ?_
      refine mE 5 5 ?_
      refine sW 6 rfl (fun a u E D hk=>exec_ixo slQ _ _ (gs) (os) n c i (os + i * 1) ((i : Int)) rfl (dD D 3) (dD D 4) (by first | rfl | omega) (hlt) (by first | rfl | omega)) ?_
      refine sW 7 rfl (fun a u E D hk=>exec_ldp _ _ Try.underlying89 _ _ _ rfl (dD D 5) (Kept.cell hk (HC2.out))) ?_
      refine mD 8 68 6 ?_
      exact fz
     intro wz kz
     simp only [F8]
     have kwz := kw2.trans kz
     have HR : Hid (∀ o : Ord, o.side = s → o.price = price → restM o L = levs (Z.take i) ++ (price, X ++ [Ent.of o]) :: levs (Z.drop (i + 1))) := fun o h1 h2 => by
      rw [HD.out, restM_at (by rw [h1, h2]; exact HT.out), restM, h1, h2, if_neg (by rw [HBF.out]; simp), if_pos HPR.out, HPR.out]
     have HWz : Hid (WayZ 96 98 89 wz Fs (.slice (some ⟨gs, os, none⟩) n c) (Z.take i ++ (q, price, X) :: Z.drop (i + 1)) G) := by show WayZ _ _ _ _ _ _ _ _; rw [← HPR.out, ← HZ.out]; exact HW.out.kept kwz
     have HBz := Lib.hid (HB.out.kept kwz)
     clear kz
     go_wp2
     go_ret
     exact ⟨q, X, Z.take i, Z.drop (i + 1), _, Fs, G, rfl, HWz.out, HBz.out, Grow.refl _ _, Keep.mono (T := fun b => Fs b ∨ b = p) kwz (fun _ _ h => h.elim), HX.out, HR.out⟩
    ·skip
     go_upto_region 4 with fail
     refine wE 19 [iV (i : Int), pV p (offS s), pV p (offS s), pV p (offS s + 1), .slice (some ⟨gs, os, none⟩) n c, iV (n : Int), bV false, bV false, pV p (offS s), pV p (offS s), pV p (offS s + 1), .slice (some ⟨gs, os, none⟩) n c, iV (i : Int), pV gs (os + i * 1), pV q 0, iV pr, iV price, bV true, bV true] [31,32,33,34,35,36,37,38,39,40,41,42,43,44,45,46,47,48,49] ?_ ?_
     ·refine mE 1 5 ?_
      refine mE 2 0 ?_
      refine nD 3 32 1 ?_
      refine fD 4 33 2 70 1 1 (offS s) ?_
      refine sW 5 rfl (fun a u E D hk=>exec_ldv _ _ Try.underlying68 _ _ _ rfl (dD D 3) (Kept.cell hk (HV1.out))) ?_
      refine sW 6 rfl (fun a u E D hk=>exec_lenS _ slQ _ _ _ _ rfl (dD D 4) HSL1.out) ?_
      refine aS 7 rfl (fun a u E D hk=>exec_eqn rfl (dD D 0) (dD D 5)) (decide_eq_false (by omega)) ?_
      refine mD 8 37 6 ?_
      refine mE 9 0 ?_
      refine nD 10 39 8 ?_
      refine fD 11 40 9 70 1 1 (offS s) ?_
      refine sW 12 rfl (fun a u E D hk=>exec_ldv _ _ Try.underlying68 _ _ _ rfl (dD D 10) (Kept.cell hk (HV1.out))) ?_
      refine mE 13 5 ?_
      refine sW 14 rfl (fun a u E D hk=>exec_ixo slQ _ _ (gs) (os) n c i (os + i * 1) ((i : Int)) rfl (dD D 11) (dD D 12) (by first | rfl | omega) (hlt) (by first | rfl | omega)) ?_
      refine sW 15 rfl (fun a u E D hk=>exec_ldp _ _ Try.underlying89 _ _ _ rfl (dD D 13) (Kept.cell hk (HC1.out))) ?_
      refine cS 16 91 [.pointer (some ⟨q, 0, none⟩)] rfl Try.func91 rfl (fun a u E D hk=>⟨ll (dD D 14) rfl, price_any u _ q X (HLV1.out.kept hk)⟩) ?_
      refine mE 17 1 ?_
      refine aS 18 rfl (fun a u E D hk=>exec_nen rfl (dD D 15) (dD D 16)) (decide_eq_true hpr) ?_
      refine sW 19 rfl (fun a u E D hk=>exec_pickF _ _ _ _ rfl (dD D 7) (dD D 17)) ?_
      exact fz
     intro w2 kw2
     simp only [F8]
     have kW := kw1.trans kw2
     have HRM : ∀ o : Ord, o.side = s → o.price = price → restM o L = levs (Z.take i) ++ (price, [] ++ [Ent.of o]) :: levs (Z.drop i) := fun o h1 h2 => by
      have e5 : levs (Z.drop i) = (pr, X) :: levs (Z.drop (i + 1)) := by
       have : Z.drop i = (q, pr, X) :: Z.drop (i + 1) := by
        conv => lhs; rw [HZ.out]
        rw [List.drop_append, List.drop_of_length_le (by rw [List.length_take]; omega), List.nil_append, List.length_take, HN.out, Nat.min_eq_left (by omega), Nat.sub_self]
        rfl
       rw [this]
       rfl
      rw [e5, HD.out, restM_at (by rw [h1, h2]; exact HT.out), restM, h1, h2, if_neg (by rw [HBF.out]; simp), if_neg (fun h => hpr h)]
      rfl
     clear HV1 HC1 HLV1 HSL1
     have HWW := Lib.hid (HW.out.kept kW)
     have HBW := Lib.hid (HB.out.kept kW)
     have HVW := Lib.hid (kW.cell HV.out)
     have zW := kW.size
     have hSo : ∀ b, ((.slice (some ⟨gs, os, none⟩) n c) : Value).ownBlock = some b → b < w2.heap.size := fun b hb => HWW.out.sl.lt hb
     have HSo := Lib.hid hSo
     clear hSo
     go_upto_region 5 with fail
     refine wp_freeV 12 9 [0, 1, 2, 3, 4, 5, 6, 7, 8] [.eq (.pointer (some ⟨p, offS s, none⟩)), .eq (.pointer (some ⟨p, offS s, none⟩)), .eq (.pointer (some ⟨p, offS s, none⟩)), .eq (.pointer (some ⟨p, offS s + 1, none⟩)), .eq (.slice (some ⟨gs, os, none⟩) n c), .eq (.int .i64 (i : Int)), .eq (.int .i64 price), .newl w2.heap.size price, .onel w2.heap.size price, .ins w2.heap.size price (.slice (some ⟨gs, os, none⟩) n c) n Z i, .eq (.pointer (some ⟨p, offS s, none⟩)), .eq (.pointer (some ⟨p, offS s + 1, none⟩))] ((fun b => ((.slice (some ⟨gs, os, none⟩) n c) : Value).ownBlock = some b)) (by kernel_rfl) rfl (by omega) (by kernel_rfl) (by kernel_rfl) ?_ ?_ (fun a u hE hD hk => v_call (o := ⟨some 59, _, _, _, _, _⟩) 98 #[.slice (some ⟨gs, os, none⟩) n c, .int .i64 (i : Int), a.eval (.tmp 58)] rfl (wanted_none rfl _) (exec_call 98 _ [.tmp 54, .tmp 55, .tmp 58] _ [.slice (some ⟨gs, os, none⟩) n c, .int .i64 (i : Int), a.eval (.tmp 58)] Try.func98 (by kernel_rfl) (by kernel_rfl) rfl (show [a.eval (.tmp 54), a.eval (.tmp 55), a.eval (.tmp 58)] = [.slice (some ⟨gs, os, none⟩) n c, .int .i64 (i : Int), a.eval (.tmp 58)] from (by rw [show a.eval (.tmp 54) = .slice (some ⟨gs, os, none⟩) n c from (dD hD 4), show a.eval (.tmp 55) = .int .i64 (i : Int) from (dD hD 5)] <;> rfl)) u) ((by obtain ⟨g1, q1, F1, hx, hb1, hl1, hf1, hg1, hn1⟩ := (hD 8 58 (by kernel_rfl)); rw [hx]; exact ins_kn u w2 (.slice (some ⟨gs, os, none⟩) n c) n i Z g1 q1 price F1 hk (by have h := HWW.out.sl; rw [HN.out] at h; exact h) (by omega) (by omega) hb1 hl1 hf1 hg1 HSo.out))) ?_
     ·intro i hi
      have hi2 : i = 0 ∨ i = 1 ∨ i = 2 ∨ i = 3 ∨ i = 4 ∨ i = 5 ∨ i = 6 ∨ i = 7 ∨ i = 8 := by simpa using hi
      rcases hi2 with rfl | rfl | rfl | rfl | rfl | rfl | rfl | rfl | rfl
      ·exact Kn.safe_eq _ _
      ·exact Kn.safe_eq _ _
      ·exact Kn.safe_eq _ _
      ·exact Kn.safe_eq _ _
      ·exact Kn.safe_eq _ _
      ·exact Kn.safe_eq _ _
      ·exact Kn.safe_eq _ _
      ·exact Kn.safe_newl (fun b hb h => by have := HSo.out b h; omega)
      ·exact Kn.safe_onel (fun b hb h => by have := HSo.out b h; omega)
     ·refine vsteps_cons 1 rfl (fun a u hE hD hk => f_val (o := ⟨some 50, _, _, _, _, _⟩) (.pointer (some ⟨p, offS s, none⟩)) rfl (wanted_none rfl _) (exec_move (.tmp 0) _ rfl (eE hE)) rfl) ?_
      refine vsteps_cons 2 rfl (fun a u hE hD hk => f_val _ rfl (wanted_none rfl _) (exec_move (.tmp 0) _ rfl (eE hE)) rfl) ?_
      refine vsteps_cons 3 rfl (fun a u hE hD hk => f_val _ rfl (wanted_none rfl _) (exec_nilp (.tmp 51) ⟨p, offS s, none⟩ rfl (dD hD 1)) rfl) ?_
      refine vsteps_cons 4 rfl (fun a u hE hD hk => f_val _ rfl (wanted_none rfl _) (exec_fldo 70 1 1 (.tmp 52) (p) (offS s) (offS s + 1) rfl (dD hD 2) (by kernel_rfl) rfl) rfl) ?_
      refine vsteps_cons 5 rfl (fun a u hE hD hk => f_val _ rfl (wanted_none rfl _) (exec_ldv 68 _ Try.underlying68 (.tmp 53) ⟨p, offS s + 1, none⟩ (.slice (some ⟨gs, os, none⟩) n c) rfl (dD hD 3) (Keep.cell hk (HVW.out) ((fun e => (hFs p (HWW.out.own p e).1) rfl)))) rfl) ?_
      refine vsteps_cons 6 rfl (fun a u hE hD hk => f_val _ rfl (wanted_none rfl _) (exec_move (.tmp 5) _ rfl (eE hE)) rfl) ?_
      refine vsteps_cons 7 rfl (fun a u hE hD hk => f_val _ rfl (wanted_none rfl _) (exec_move (.tmp 1) _ rfl (eE hE)) rfl) ?_
      refine vsteps_cons 8 rfl (fun a u hE hD hk => f_call 99 #[.int .i64 price] rfl (wanted_none rfl _) (exec_call 99 _ [.tmp 56] _ [.int .i64 price] Try.func99 (by kernel_rfl) (by kernel_rfl) rfl (show [a.eval (.tmp 56)] = [.int .i64 price] from (by rw [show a.eval (.tmp 56) = .int .i64 price from (dD hD 6)] <;> rfl)) u) ((lnew_any price u).mono (fun e w' ⟨q, F, h1, h2, h3, h4⟩ => ⟨_, h1, ⟨q, F, rfl, h2, fun b hb => (h3 b hb).elim (fun h => h.elim) (fun h => Nat.le_trans hk.size h)⟩, h4⟩))) ?_
      refine vsteps_cons 9 rfl (fun a u hE hD hk => (by obtain ⟨q, F, hx, h2, h3⟩ := (hD 7 57 (by kernel_rfl)); exact f_new (.slice (some ⟨u.heap.size, 0, none⟩) 1 1) _ rfl (wanted_none rfl _) (exec_oneP slQ (.tmp 57) q rfl hx) ⟨u.heap.size, q, F, rfl, Blk.new u _ _, h2.kept ((Keep.refl _ u).alloc _), h3, hk.size, fun h => by have := h2.2.1 _ h; omega⟩ ((Keep.refl _ u).alloc _))) ?_
      refine vsteps_turn 10 rfl rfl ?_
      refine vsteps_cons 11 rfl (fun a u hE hD hk => f_val _ rfl (wanted_none rfl _) (exec_nilp (.tmp 50) ⟨p, offS s, none⟩ rfl (dD hD 0)) rfl) ?_
      refine vsteps_cons 12 rfl (fun a u hE hD hk => f_val _ rfl (wanted_none rfl _) (exec_fldo 70 1 1 (.tmp 60) (p) (offS s) (offS s + 1) rfl (dD hD 10) (by kernel_rfl) rfl) rfl) ?_
      exact vsteps_nil
     intro gv wn hV ki
     rw [dq 12 [50,51,52,53,54,55,56,57,58,59,60,61]]
     simp only [Fz7]
     rw [show gv 61 = .pointer (some ⟨p, offS s + 1, none⟩) from hV 11 61 (by kernel_rfl)]
     have hv59 : (.ins w2.heap.size price (.slice (some ⟨gs, os, none⟩) n c) n Z i : Kn).p (gv 59) wn := hV 9 59 (by kernel_rfl)
     generalize gv 59 = v59 at hv59 ⊢
     clear hV
     obtain ⟨q1, F1, hSn, hl1, hf1, hon⟩ := hv59
     obtain ⟨vn, hvn⟩ : ∃ x, x = v59 := ⟨_, rfl⟩
     subst hvn
     refine l_st1 68 p (offS s + 1) 72 _ vn _ _ rfl rfl (by kernel_rfl) (by kernel_rfl) (by kernel_rfl) (sl_cells hSn) (sl_onec hSn) (HBW.out.keep ki (fun e => (hFs p (HWW.out.own p e).1) rfl)) (by rw [sideCs_len]; omega) ?_
     intro ws hBs hks hss
     simp only [Act.put]
     refine wpList_nil ?_
     rw [sideCs_set] at hBs
     have hZ : Z = Z.take i ++ Z.drop i := (List.take_append_drop i Z).symm
     have hAl : (Z.take i).length = i := by rw [List.length_take, HN.out]; omega
     have hins : insP Z i q1 = ptrs (Z.take i ++ (q1, price, ([] : List Ent)) :: Z.drop i) := by
      unfold insP
      rw [ptrs_append]
      simp [ptrs, List.map_take, List.map_drop]
     have hWi : WayZ 96 98 89 w2 Fs (.slice (some ⟨gs, os, none⟩) n c) (Z.take i ++ Z.drop i) G := by rw [← hZ]; exact HWW.out
     obtain ⟨Fs', G', hW', hG', hk', _⟩ := hWi.more (w' := wn) (v' := vn) (q := q1) (pr := price) (F1 := F1) ki
      (by rw [← hins, hAl, List.length_drop, HN.out, show i + 1 + (n - i) = n + 1 by omega]; exact hSn) hon hl1 hf1
     have hGw : Grow w Fs Fs' := hG'.wide zW
     have hpF : ¬ Fs' p := fun h => (hGw p h).elim (fun h => hFs p h rfl) (fun h => by omega)
     have hW6 := hW'.keep hks (fun b hb e => hpF (by rw [← e]; exact hb))
     have K6 : Keep (fun b => Fs b ∨ b = p) w ws := ((Keep.mono (T := fun b => Fs b ∨ b = p) kW (fun _ _ h => h.elim)).trans hk' (fun b _ h => .inl h)).trans hks (fun b _ h => .inr h)
     have HW6 := Lib.hid hW6
     have HB6 := Lib.hid hBs
     have hzi : (Z.take i ++ (q1, price, ([] : List Ent)) :: Z.drop i)[i]? = some (q1, price, []) := by
      rw [List.getElem?_append_right (by omega), hAl, Nat.sub_self]
      rfl
     have hlen6 : (Z.take i ++ (q1, price, ([] : List Ent)) :: Z.drop i).length = n + 1 := by
      rw [List.length_append, List.length_cons, hAl, List.length_drop, HN.out]
      omega
     obtain ⟨gs2, os2, c2, rfl⟩ := hW6.some_ (by rw [hlen6]; omega)
     rw [hlen6] at HW6 HB6 ⊢
     have HV6 : Hid (ws.cell? ⟨p, offS s + 1, none⟩ = some (.slice (some ⟨gs2, os2, none⟩) (n + 1) c2)) := by show _ = _; rw [HB6.out.cell]; exact sideCs_get s _ _ _ _
     have HC6 := Lib.hid (HW6.out.cell hzi)
     clear hBs hW' hW6 hk' hks hss hSn hon hl1 hWi hG' hins HWW HBW HVW ki HSo
     obtain ⟨m, hm⟩ : ∃ m, n + 1 = m := ⟨_, rfl⟩
     have him : i < m := by omega
     rw [hm] at HW6 HB6 HV6 hlen6 ⊢
     go_upto_region 6 with fail
     refine wE 8 [pV p (offS s), pV p (offS s), pV p (offS s + 1), .slice (some ⟨gs2, os2, none⟩) m c2, iV (i : Int), pV gs2 (os2 + i * 1), pV q1 0, pV q1 0] [62,63,64,65,66,67,68,4] ?_ ?_
     ·refine mE 1 0 ?_
      refine nD 2 62 0 ?_
      refine fD 3 63 1 70 1 1 (offS s) ?_
      refine sW 4 rfl (fun a u E D hk=>exec_ldv _ _ Try.underlying68 _ _ _ rfl (dD D 2) (Kept.cell hk (HV6.out))) ?_
      refine mE 5 5 ?_
      refine sW 6 rfl (fun a u E D hk=>exec_ixo slQ _ _ (gs2) (os2) m c2 i (os2 + i * 1) ((i : Int)) rfl (dD D 3) (dD D 4) (by first | rfl | omega) (him) (by first | rfl | omega)) ?_
      refine sW 7 rfl (fun a u E D hk=>exec_ldp _ _ Try.underlying89 _ _ _ rfl (dD D 5) (Kept.cell hk (HC6.out))) ?_
      refine mD 8 68 6 ?_
      exact fz
     intro wz kz
     simp only [F8]
     have HR := Lib.hid (HRM)
     go_wp2
     go_ret
     exact ⟨q1, [], Z.take i, Z.drop i, _, Fs', G', rfl, HW6.out.kept kz, HB6.out.kept kz, hGw, K6.kept kz, by simp, HR.out⟩
  ·have hin : i = n := by omega
   subst hin
   have HT : Hid (∀ x ∈ levs (Z.take i), bet s x.1 price = true) := by
    have e2 : L.take i = levs (Z.take i) := by rw [← EL.out]; simp [levs, List.map_take]
    rw [e2] at HM
    exact HM.out
   clear HM
   have HSLr := Lib.hid (HSL.out.kept hkr)
   go_upto_region 2 with fail
   refine wGp 22 [iV (i : Int), pV p (offS s), pV p (offS s), pV p (offS s + 1), v, iV (i : Int), bV false, bV false, undef, undef, undef, undef, undef, undef, undef, undef, undef, undef, undef, undef, undef, undef] [6,7,8,9,10,11,12,13,14,15,16,17,18,19,20,21,22,23,24,25,26,27] ?_ ?_
   ·refine mE 1 5 ?_
    refine mE 2 0 ?_
    refine nD 3 7 1 ?_
    refine fD 4 8 2 70 1 1 (offS s) ?_
    refine sW 5 rfl (fun a u E D hk=>exec_ldv _ _ Try.underlying68 _ _ _ rfl (dD D 3) (Kept.cell hk (HVr.out))) ?_
    refine sW 6 rfl (fun a u E D hk=>exec_lenS _ slQ _ _ _ _ rfl (dD D 4) HSLr.out) ?_
    refine aS 7 rfl (fun a u E D hk=>exec_ltn rfl (dD D 0) (dD D 5)) (decide_eq_false (by omega)) ?_
    refine mD 8 12 6 ?_
    refine kS 9 7 ?_
    refine kS 10 7 ?_
    refine kS 11 7 ?_
    refine kS 12 7 ?_
    refine kS 13 7 ?_
    refine kS 14 7 ?_
    refine kS 15 7 ?_
    refine kS 16 7 ?_
    refine kS 17 7 ?_
    refine kS 18 7 ?_
    refine kS 19 7 ?_
    refine kS 20 7 ?_
    refine kS 21 7 ?_
    refine kS 22 7 ?_
    exact fz
   intro w1 k1
   simp only [F8]
   refine l_val (.bool false) rfl (exec_pickF (.tmp 13) (.tmp 27) (.const (.bool false)) (.bool false) rfl (by kernel_rfl) rfl) ?_
   simp only [Act.put, sA, sS, sZ]
   refine wpList_nil ?_
   have kw1 := hkr.trans k1
   have HV1 := Lib.hid (kw1.cell HV.out)
   have HSL1 := Lib.hid (HSL.out.kept kw1)
   clear HVr HSr k1 HSLr
   go_upto_region 4 with fail
   refine wE 19 [iV (i : Int), pV p (offS s), pV p (offS s), pV p (offS s + 1), v, iV (i : Int), bV true, bV true, undef, undef, undef, undef, undef, undef, undef, undef, undef, undef, bV true] [31,32,33,34,35,36,37,38,39,40,41,42,43,44,45,46,47,48,49] ?_ ?_
   ·refine mE 1 5 ?_
    refine mE 2 0 ?_
    refine nD 3 32 1 ?_
    refine fD 4 33 2 70 1 1 (offS s) ?_
    refine sW 5 rfl (fun a u E D hk=>exec_ldv _ _ Try.underlying68 _ _ _ rfl (dD D 3) (Kept.cell hk (HV1.out))) ?_
    refine sW 6 rfl (fun a u E D hk=>exec_lenS _ slQ _ _ _ _ rfl (dD D 4) HSL1.out) ?_
    refine aS 7 rfl (fun a u E D hk=>exec_eqn rfl (dD D 0) (dD D 5)) (decide_eq_true (by omega)) ?_
    refine mD 8 37 6 ?_
    refine kS 9 7 ?_
    refine kS 10 7 ?_
    refine kS 11 7 ?_
    refine kS 12 7 ?_
    refine kS 13 7 ?_
    refine kS 14 7 ?_
    refine kS 15 7 ?_
    refine kS 16 7 ?_
    refine kS 17 7 ?_
    refine kS 18 7 ?_
    refine sW 19 rfl (fun a u E D hk=>exec_pick _ _ _ _ rfl (dD D 7) rfl) ?_
    exact fz
   intro w2 kw2
   simp only [F8]
   have kW := kw1.trans kw2
   have HRM : ∀ o : Ord, o.side = s → o.price = price → restM o L = levs (Z.take i) ++ (price, [] ++ [Ent.of o]) :: levs (Z.drop i) := fun o h1 h2 => by
    have e5 : Z.drop i = [] := List.drop_of_length_le (by rw [HN.out]; omega)
    have e6 : L = levs (Z.take i) := by rw [← EL.out, List.take_of_length_le (by rw [HN.out]; omega)]
    rw [e5]
    have h3 := restM_at (o := o) (R := []) (A := L) (by rw [h1, h2, e6]; exact HT.out)
    rw [List.append_nil] at h3
    rw [h3, restM, h2, e6]
    rfl
   clear HV1 HSL1
   obtain ⟨n, hnn⟩ : ∃ n, n = i := ⟨_, rfl⟩
   have hn64 : n ≤ 64 := by omega
   have hin2 : i ≤ n := by omega
   have HN : Hid (Z.length = n) := by rw [hnn]; exact HN.out
   have HWW := Lib.hid (HW.out.kept kW)
   have HBW := Lib.hid (HB.out.kept kW)
   have HVW := Lib.hid (kW.cell HV.out)
   have zW := kW.size
   have hSo : ∀ b, (v : Value).ownBlock = some b → b < w2.heap.size := fun b hb => HWW.out.sl.lt hb
   have HSo := Lib.hid hSo
   clear hSo
   go_upto_region 5 with fail
   refine wp_freeV 12 9 [0, 1, 2, 3, 4, 5, 6, 7, 8] [.eq (.pointer (some ⟨p, offS s, none⟩)), .eq (.pointer (some ⟨p, offS s, none⟩)), .eq (.pointer (some ⟨p, offS s, none⟩)), .eq (.pointer (some ⟨p, offS s + 1, none⟩)), .eq (v), .eq (.int .i64 (i : Int)), .eq (.int .i64 price), .newl w2.heap.size price, .onel w2.heap.size price, .ins w2.heap.size price v n Z i, .eq (.pointer (some ⟨p, offS s, none⟩)), .eq (.pointer (some ⟨p, offS s + 1, none⟩))] ((fun b => (v : Value).ownBlock = some b)) (by kernel_rfl) rfl (by omega) (by kernel_rfl) (by kernel_rfl) ?_ ?_ (fun a u hE hD hk => v_call (o := ⟨some 59, _, _, _, _, _⟩) 98 #[v, .int .i64 (i : Int), a.eval (.tmp 58)] rfl (wanted_none rfl _) (exec_call 98 _ [.tmp 54, .tmp 55, .tmp 58] _ [v, .int .i64 (i : Int), a.eval (.tmp 58)] Try.func98 (by kernel_rfl) (by kernel_rfl) rfl (show [a.eval (.tmp 54), a.eval (.tmp 55), a.eval (.tmp 58)] = [v, .int .i64 (i : Int), a.eval (.tmp 58)] from (by rw [show a.eval (.tmp 54) = v from (dD hD 4), show a.eval (.tmp 55) = .int .i64 (i : Int) from (dD hD 5)] <;> rfl)) u) ((by obtain ⟨g1, q1, F1, hx, hb1, hl1, hf1, hg1, hn1⟩ := (hD 8 58 (by kernel_rfl)); rw [hx]; exact ins_kn u w2 v n i Z g1 q1 price F1 hk (by have h := HWW.out.sl; rw [HN.out] at h; exact h) (by omega) (by omega) hb1 hl1 hf1 hg1 HSo.out))) ?_
   ·intro i hi
    have hi2 : i = 0 ∨ i = 1 ∨ i = 2 ∨ i = 3 ∨ i = 4 ∨ i = 5 ∨ i = 6 ∨ i = 7 ∨ i = 8 := by simpa using hi
    rcases hi2 with rfl | rfl | rfl | rfl | rfl | rfl | rfl | rfl | rfl
    ·exact Kn.safe_eq _ _
    ·exact Kn.safe_eq _ _
    ·exact Kn.safe_eq _ _
    ·exact Kn.safe_eq _ _
    ·exact Kn.safe_eq _ _
    ·exact Kn.safe_eq _ _
    ·exact Kn.safe_eq _ _
    ·exact Kn.safe_newl (fun b hb h => by have := HSo.out b h; omega)
    ·exact Kn.safe_onel (fun b hb h => by have := HSo.out b h; omega)
   ·refine vsteps_cons 1 rfl (fun a u hE hD hk => f_val (o := ⟨some 50, _, _, _, _, _⟩) (.pointer (some ⟨p, offS s, none⟩)) rfl (wanted_none rfl _) (exec_move (.tmp 0) _ rfl (eE hE)) rfl) ?_
    refine vsteps_cons 2 rfl (fun a u hE hD hk => f_val _ rfl (wanted_none rfl _) (exec_move (.tmp 0) _ rfl (eE hE)) rfl) ?_
    refine vsteps_cons 3 rfl (fun a u hE hD hk => f_val _ rfl (wanted_none rfl _) (exec_nilp (.tmp 51) ⟨p, offS s, none⟩ rfl (dD hD 1)) rfl) ?_
    refine vsteps_cons 4 rfl (fun a u hE hD hk => f_val _ rfl (wanted_none rfl _) (exec_fldo 70 1 1 (.tmp 52) (p) (offS s) (offS s + 1) rfl (dD hD 2) (by kernel_rfl) rfl) rfl) ?_
    refine vsteps_cons 5 rfl (fun a u hE hD hk => f_val _ rfl (wanted_none rfl _) (exec_ldv 68 _ Try.underlying68 (.tmp 53) ⟨p, offS s + 1, none⟩ (v) rfl (dD hD 3) (Keep.cell hk (HVW.out) ((fun e => (hFs p (HWW.out.own p e).1) rfl)))) rfl) ?_
    refine vsteps_cons 6 rfl (fun a u hE hD hk => f_val _ rfl (wanted_none rfl _) (exec_move (.tmp 5) _ rfl (eE hE)) rfl) ?_
    refine vsteps_cons 7 rfl (fun a u hE hD hk => f_val _ rfl (wanted_none rfl _) (exec_move (.tmp 1) _ rfl (eE hE)) rfl) ?_
    refine vsteps_cons 8 rfl (fun a u hE hD hk => f_call 99 #[.int .i64 price] rfl (wanted_none rfl _) (exec_call 99 _ [.tmp 56] _ [.int .i64 price] Try.func99 (by kernel_rfl) (by kernel_rfl) rfl (show [a.eval (.tmp 56)] = [.int .i64 price] from (by rw [show a.eval (.tmp 56) = .int .i64 price from (dD hD 6)] <;> rfl)) u) ((lnew_any price u).mono (fun e w' ⟨q, F, h1, h2, h3, h4⟩ => ⟨_, h1, ⟨q, F, rfl, h2, fun b hb => (h3 b hb).elim (fun h => h.elim) (fun h => Nat.le_trans hk.size h)⟩, h4⟩))) ?_
    refine vsteps_cons 9 rfl (fun a u hE hD hk => (by obtain ⟨q, F, hx, h2, h3⟩ := (hD 7 57 (by kernel_rfl)); exact f_new (.slice (some ⟨u.heap.size, 0, none⟩) 1 1) _ rfl (wanted_none rfl _) (exec_oneP slQ (.tmp 57) q rfl hx) ⟨u.heap.size, q, F, rfl, Blk.new u _ _, h2.kept ((Keep.refl _ u).alloc _), h3, hk.size, fun h => by have := h2.2.1 _ h; omega⟩ ((Keep.refl _ u).alloc _))) ?_
    refine vsteps_turn 10 rfl rfl ?_
    refine vsteps_cons 11 rfl (fun a u hE hD hk => f_val _ rfl (wanted_none rfl _) (exec_nilp (.tmp 50) ⟨p, offS s, none⟩ rfl (dD hD 0)) rfl) ?_
    refine vsteps_cons 12 rfl (fun a u hE hD hk => f_val _ rfl (wanted_none rfl _) (exec_fldo 70 1 1 (.tmp 60) (p) (offS s) (offS s + 1) rfl (dD hD 10) (by kernel_rfl) rfl) rfl) ?_
    exact vsteps_nil
   intro gv wn hV ki
   rw [dq 12 [50,51,52,53,54,55,56,57,58,59,60,61]]
   simp only [Fz7]
   rw [show gv 61 = .pointer (some ⟨p, offS s + 1, none⟩) from hV 11 61 (by kernel_rfl)]
   have hv59 : (.ins w2.heap.size price v n Z i : Kn).p (gv 59) wn := hV 9 59 (by kernel_rfl)
   generalize gv 59 = v59 at hv59 ⊢
   clear hV
   obtain ⟨q1, F1, hSn, hl1, hf1, hon⟩ := hv59
   obtain ⟨vn, hvn⟩ : ∃ x, x = v59 := ⟨_, rfl⟩
   subst hvn
   refine l_st1 68 p (offS s + 1) 72 _ vn _ _ rfl rfl (by kernel_rfl) (by kernel_rfl) (by kernel_rfl) (sl_cells hSn) (sl_onec hSn) (HBW.out.keep ki (fun e => (hFs p (HWW.out.own p e).1) rfl)) (by rw [sideCs_len]; omega) ?_
   intro ws hBs hks hss
   simp only [Act.put]
   refine wpList_nil ?_
   rw [sideCs_set] at hBs
   have hZ : Z = Z.take i ++ Z.drop i := (List.take_append_drop i Z).symm
   have hAl : (Z.take i).length = i := by rw [List.length_take, HN.out]; omega
   have hins : insP Z i q1 = ptrs (Z.take i ++ (q1, price, ([] : List Ent)) :: Z.drop i) := by
    unfold insP
    rw [ptrs_append]
    simp [ptrs, List.map_take, List.map_drop]
   have hWi : WayZ 96 98 89 w2 Fs v (Z.take i ++ Z.drop i) G := by rw [← hZ]; exact HWW.out
   obtain ⟨Fs', G', hW', hG', hk', _⟩ := hWi.more (w' := wn) (v' := vn) (q := q1) (pr := price) (F1 := F1) ki
    (by rw [← hins, hAl, List.length_drop, HN.out, show i + 1 + (n - i) = n + 1 by omega]; exact hSn) hon hl1 hf1
   have hGw : Grow w Fs Fs' := hG'.wide zW
   have hpF : ¬ Fs' p := fun h => (hGw p h).elim (fun h => hFs p h rfl) (fun h => by omega)
   have hW6 := hW'.keep hks (fun b hb e => hpF (by rw [← e]; exact hb))
   have K6 : Keep (fun b => Fs b ∨ b = p) w ws := ((Keep.mono (T := fun b => Fs b ∨ b = p) kW (fun _ _ h => h.elim)).trans hk' (fun b _ h => .inl h)).trans hks (fun b _ h => .inr h)
   have HW6 := Lib.hid hW6
   have HB6 := Lib.hid hBs
   have hzi : (Z.take i ++ (q1, price, ([] : List Ent)) :: Z.drop i)[i]? = some (q1, price, []) := by
    rw [List.getElem?_append_right (by omega), hAl, Nat.sub_self]
    rfl
   have hlen6 : (Z.take i ++ (q1, price, ([] : List Ent)) :: Z.drop i).length = n + 1 := by
    rw [List.length_append, List.length_cons, hAl, List.length_drop, HN.out]
    omega
   obtain ⟨gs2, os2, c2, rfl⟩ := hW6.some_ (by rw [hlen6]; omega)
   rw [hlen6] at HW6 HB6 ⊢
   have HV6 : Hid (ws.cell? ⟨p, offS s + 1, none⟩ = some (.slice (some ⟨gs2, os2, none⟩) (n + 1) c2)) := by show _ = _; rw [HB6.out.cell]; exact sideCs_get s _ _ _ _
   have HC6 := Lib.hid (HW6.out.cell hzi)
   clear hBs hW' hW6 hk' hks hss hSn hon hl1 hWi hG' hins HWW HBW HVW ki HSo
   obtain ⟨m, hm⟩ : ∃ m, n + 1 = m := ⟨_, rfl⟩
   have him : i < m := by omega
   rw [hm] at HW6 HB6 HV6 hlen6 ⊢
   go_upto_region 6 with fail
   refine wE 8 [pV p (offS s), pV p (offS s), pV p (offS s + 1), .slice (some ⟨gs2, os2, none⟩) m c2, iV (i : Int), pV gs2 (os2 + i * 1), pV q1 0, pV q1 0] [62,63,64,65,66,67,68,4] ?_ ?_
   ·refine mE 1 0 ?_
    refine nD 2 62 0 ?_
    refine fD 3 63 1 70 1 1 (offS s) ?_
    refine sW 4 rfl (fun a u E D hk=>exec_ldv _ _ Try.underlying68 _ _ _ rfl (dD D 2) (Kept.cell hk (HV6.out))) ?_
    refine mE 5 5 ?_
    refine sW 6 rfl (fun a u E D hk=>exec_ixo slQ _ _ (gs2) (os2) m c2 i (os2 + i * 1) ((i : Int)) rfl (dD D 3) (dD D 4) (by first | rfl | omega) (him) (by first | rfl | omega)) ?_
    refine sW 7 rfl (fun a u E D hk=>exec_ldp _ _ Try.underlying89 _ _ _ rfl (dD D 5) (Kept.cell hk (HC6.out))) ?_
    refine mD 8 68 6 ?_
    exact fz
   intro wz kz
   simp only [F8]
   have HR := Lib.hid (HRM)
   go_wp2
   go_ret
   exact ⟨q1, [], Z.take i, Z.drop i, _, Fs', G', rfl, HW6.out.kept kz, HB6.out.kept kz, hGw, K6.kept kz, by simp, HR.out⟩
set_option maxHeartbeats 800000 in
theorem of_eq (w : World) (p : Nat) (s : Int) (hs : s = 1 ∨ s = 2) : Gives 37 #[.pointer (some ⟨p, 0, none⟩), .int .i64 s] w (.eq (.pointer (some ⟨p, offS s, none⟩))) := by
 refine gives_eq ?_
 rcases hs with rfl | rfl
 ·have HR : Hid (offS 1 = 0) := rfl
  go_enter Try.func37, Try.ntmps37
  go_upto_region 1 with fail
  refine wE 1 [iV 1] [5] ?_ ?_
  ·refine mE 1 1 ?_
   exact fz
  intro w1 k1
  simp only [F8]
  go_upto_region 2 with fail
  refine wE 2 [bV true, bV true] [7,6] ?_ ?_
  ·refine aS 1 rfl (fun a u E D hk=>exec_eqn (p := 1) (q := 1) rfl (eE E) rfl) (decide_eq_true rfl) ?_
   refine mD 2 7 0 ?_
   exact fz
  intro w2 k2
  simp only [F8]
  go_upto_region 3 with fail
  refine wE 4 [pV p 0, pV p 0, pV p 0, pV p 0] [8,9,10,4] ?_ ?_
  ·refine mE 1 0 ?_
   refine nD 2 8 0 ?_
   refine fD 3 9 1 72 0 0 0 ?_
   refine mD 4 10 2 ?_
   exact fz
  intro w3 k3
  simp only [F8]
  have kw := (k1.trans k2).trans k3
  clear k1 k2 k3
  go_wp2
  go_ret
  exact ⟨by rw [HR.out]; rfl, kw⟩
 ·have HR : Hid (offS 2 = 2) := rfl
  go_enter Try.func37, Try.ntmps37
  go_upto_region 1 with fail
  refine wE 1 [iV 2] [5] ?_ ?_
  ·refine mE 1 1 ?_
   exact fz
  intro w1 k1
  simp only [F8]
  go_upto_region 2 with fail
  refine wE 2 [bV false, bV false] [7,6] ?_ ?_
  ·refine aS 1 rfl (fun a u E D hk=>exec_eqn (p := 2) (q := 1) rfl (eE E) rfl) (decide_eq_false (by decide)) ?_
   refine mD 2 7 0 ?_
   exact fz
  intro w2 k2
  simp only [F8]
  go_upto_region 4 with fail
  refine wE 2 [bV true, bV true] [12,11] ?_ ?_
  ·refine aS 1 rfl (fun a u E D hk=>exec_eqn (p := 2) (q := 2) rfl (eE E) rfl) (decide_eq_true rfl) ?_
   refine mD 2 12 0 ?_
   exact fz
  intro w3 k3
  simp only [F8]
  go_upto_region 5 with fail
  refine wE 4 [pV p 0, pV p 0, pV p 2, pV p 2] [13,14,15,4] ?_ ?_
  ·refine mE 1 0 ?_
   refine nD 2 13 0 ?_
   refine fD 3 14 1 72 1 2 0 ?_
   refine mD 4 15 2 ?_
   exact fz
  intro w4 k4
  simp only [F8]
  have kw := ((k1.trans k2).trans k3).trans k4
  clear k1 k2 k3 k4
  go_wp2
  go_ret
  exact ⟨by rw [HR.out]; rfl, kw⟩
set_option maxHeartbeats 800000 in
theorem against_any (w : World) (p : Nat) (c : Ord) (hs : c.side = 1 ∨ c.side = 2) : Gives 86 #[.pointer (some ⟨p, 0, none⟩), c.v] w (.eq (.pointer (some ⟨p, offS (3 - c.side), none⟩))) := by
 refine gives_eq ?_
 go_enter Try.func86, Try.ntmps86
 go_upto_region 0 with fail
 refine wp_text 2 [.fresh w.heap.size 24 (c.cells), .eq (.pointer none)] rfl (by kernel_rfl) ?_ ?_
 ·refine nW 1 rfl (fun a u E D hk=>⟨_, _, exec_box 24 _ (c.cells) rfl (eE E), ⟨_, rfl, hk.size, Blk.new u _ _⟩, ((Keep.refl _ u).alloc _)⟩) ?_
  refine sW 2 rfl (fun a u E D hk=>exec_assign _ _ rfl rfl) ?_
  exact fz
 intro gv w1 hV k1
 rw [dq 2 [3,4]]
 simp only [Fz7]
 have hv3 : (.fresh w.heap.size 24 (c.cells) : Kn).p (gv 3) w1 := hV 0 3 (by kernel_rfl)
 generalize gv 3 = v3 at hv3 ⊢
 rw [gQ hV 1 4 (.pointer none)]
 clear hV
 obtain ⟨g, rfl, hg, hB⟩ := hv3
 refine wpList_nil ?_
 have HB := Lib.hid (blk_range hB)
 clear hB
 rcases hs with hs | hs
 ·skip
  have HR : Hid (offS (3 - c.side) = 2) := by show _ = _; rw [hs] <;> rfl
  go_upto_region 1 with fail
  refine wE 3 [pV g 3, iV c.side, bV true] [5,6,7] ?_ ?_
  ·refine fE 1 3 24 3 3 0 ?_
   refine lD 2 5 0 Try.underlying3 (fun u hk=>range_int (range_kept HB.out hk) 3 _ rfl) ?_
   refine aS 3 rfl (fun a u E D hk=>exec_eqn rfl (dD D 1) rfl) (decide_eq_true (by omega)) ?_
   exact fz
  intro w2 k2
  simp only [F8]
  clear hs
  go_upto_region 2 with fail
  refine wE 4 [pV p 0, pV p 0, pV p 2, pV p 2] [8,9,10,4] ?_ ?_
  ·refine mE 1 0 ?_
   refine nD 2 8 0 ?_
   refine fD 3 9 1 72 1 2 0 ?_
   refine mD 4 10 2 ?_
   exact fz
  intro w3 k3
  simp only [F8]
  have kw := (k1.trans k2).trans k3
  clear k1 k2 k3
  go_wp2
  go_ret
  exact ⟨by rw [HR.out]; rfl, kw⟩
 ·skip
  have HR : Hid (offS (3 - c.side) = 0) := by show _ = _; rw [hs] <;> rfl
  go_upto_region 1 with fail
  refine wE 3 [pV g 3, iV c.side, bV false] [5,6,7] ?_ ?_
  ·refine fE 1 3 24 3 3 0 ?_
   refine lD 2 5 0 Try.underlying3 (fun u hk=>range_int (range_kept HB.out hk) 3 _ rfl) ?_
   refine aS 3 rfl (fun a u E D hk=>exec_eqn rfl (dD D 1) rfl) (decide_eq_false (by omega)) ?_
   exact fz
  intro w2 k2
  simp only [F8]
  clear hs
  go_upto_region 3 with fail
  refine wE 4 [pV p 0, pV p 0, pV p 0, pV p 0] [11,12,13,4] ?_ ?_
  ·refine mE 1 0 ?_
   refine nD 2 11 0 ?_
   refine fD 3 12 1 72 0 0 0 ?_
   refine mD 4 13 2 ?_
   exact fz
  intro w3 k3
  simp only [F8]
  have kw := (k1.trans k2).trans k3
  clear k1 k2 k3
  go_wp2
  go_ret
  exact ⟨by rw [HR.out]; rfl, kw⟩
set_option maxHeartbeats 800000 in
theorem mayRest_any (w : World) (c : Ord) : Gives 81 #[c.v] w (.eq (.bool (decide (c.k = 1) || decide (c.k = 5)))) := by
 refine gives_eq ?_
 go_enter Try.func81, Try.ntmps81
 go_upto_region 0 with fail
 refine wp_text 2 [.fresh w.heap.size 24 (c.cells), bE false] rfl (by kernel_rfl) ?_ ?_
 ·refine nW 1 rfl (fun a u E D hk=>⟨_, _, exec_box 24 _ (c.cells) rfl (eE E), ⟨_, rfl, hk.size, Blk.new u _ _⟩, ((Keep.refl _ u).alloc _)⟩) ?_
  refine sW 2 rfl (fun a u E D hk=>exec_assign _ _ rfl rfl) ?_
  exact fz
 intro gv w1 hV k1
 rw [dq 2 [1,2]]
 simp only [Fz7]
 have hv1 : (.fresh w.heap.size 24 (c.cells) : Kn).p (gv 1) w1 := hV 0 1 (by kernel_rfl)
 generalize gv 1 = v1 at hv1 ⊢
 rw [gQ hV 1 2 (.bool false)]
 clear hV
 obtain ⟨g, rfl, hg, hB⟩ := hv1
 refine wpList_nil ?_
 have HB := Lib.hid (blk_range hB)
 clear hB
 go_upto_region 1 with fail
 refine wT 9 [pE g 4, iE c.k, bE (decide ((c.k : Int) = (1 : Int))), bE (decide ((c.k : Int) = (1 : Int))), .cond (!(decide ((c.k : Int) = (1 : Int)))) (pE g 4), .cond (!(decide ((c.k : Int) = (1 : Int)))) (iE c.k), .cond (!(decide ((c.k : Int) = (1 : Int)))) (bE (decide ((c.k : Int) = (5 : Int)))), bE ((decide ((c.k : Int) = (1 : Int))) || (decide ((c.k : Int) = (5 : Int)))), bE ((decide ((c.k : Int) = (1 : Int))) || (decide ((c.k : Int) = (5 : Int))))] [3,4,5,6,7,8,9,10,2] ?_ ?_
 ·refine fE 1 1 24 4 4 0 ?_
  refine lD 2 3 0 Try.underlying3 (fun u hk=>range_int (range_kept HB.out hk) 4 _ rfl) ?_
  refine sW 3 rfl (fun a u E D hk=>exec_eqn rfl (dD D 1) rfl) ?_
  refine mD 4 5 2 ?_
  refine uC 5 3 rfl (fun a u E D hk hb=>exec_fldo 24 4 4 _ (g) (0) (4) rfl (eE E) (by kernel_rfl) rfl) ?_
  refine uC 6 3 rfl (fun a u E D hk hb=>exec_loadi _ Try.underlying3 _ _ _ rfl ((D 4 7 (by kernel_rfl)).1 hb) (range_int (range_kept HB.out hk) 4 _ rfl)) ?_
  refine uC 7 3 rfl (fun a u E D hk hb=>exec_eqn rfl ((D 5 8 (by kernel_rfl)).1 hb) rfl) ?_
  refine sW 8 rfl (fun a u E D hk=>exec_pickor _ _ _ ((decide ((c.k : Int) = (1 : Int)))) ((decide ((c.k : Int) = (5 : Int)))) rfl (dD D 3) rfl (fun hb2 => ((D 6 9 (by kernel_rfl)).1 hb2))) ?_
  refine mD 9 10 7 ?_
  exact fz
 intro gv w2 hV k2
 simp only [Fz7]
 rw [gQ hV 8 2 (.bool ((decide ((c.k : Int) = (1 : Int))) || (decide ((c.k : Int) = (5 : Int)))))]
 clear hV
 have kw := k1.trans k2
 clear k1 k2
 go_wp2
 go_ret
 exact ⟨rfl, kw⟩
def Kn.at_ (base : Nat) (Fs : Nat → Prop) (p : Nat) (s : Int) (u0 : Value) (last no : Int) (L : List Lev) (price : Int) : Kn := ⟨fun v w => ∃ q X ZA ZR v' Fs' G', v = .pointer (some ⟨q, 0, none⟩) ∧ WayZ 96 98 89 w Fs' v' (ZA ++ (q, price, X) :: ZR) G' ∧ Blk w p 72 (sideCs s v' u0 last no) ∧ (∀ b, Fs' b → Fs b ∨ base ≤ b) ∧ X.length ≤ 64 ∧ ∀ o : Ord, o.side = s → o.price = price → restM o L = levs ZA ++ (price, X ++ [Ent.of o]) :: levs ZR,
 fun _ _ _ ⟨q, X, ZA, ZR, v', Fs', G', h1, h2, h3, h4⟩ hk => ⟨q, X, ZA, ZR, v', Fs', G', h1, h2.kept hk, h3.kept hk, h4⟩⟩
theorem at_kn (u W : World) (Fs : Nat → Prop) (p : Nat) (s price : Int) (v u0 : Value) (last no : Int) (Z : Zs) (G : Nat → Nat → Prop) (L : List Lev) (hk : Kept W u) (hs : s = 1 ∨ s = 2) (hW : WayZ 96 98 89 W Fs v Z G) (hB : Blk W p 72 (sideCs s v u0 last no)) (hFs : ∀ b, Fs b → b ≠ p) (eL : levs Z = L) (hL : LvsOk L) :
  Calls Try.prog 92 #[.pointer (some ⟨p, offS s, none⟩), .int .i64 price] u fun e w' => ∃ v, e = .returned v ∧ (Kn.at_ W.heap.size Fs p s u0 last no L price).p v w' ∧ Keep (fun b => Fs b ∨ b = p) u w' := by
 refine (at_any u Fs p s price v u0 last no Z G L hs (hW.kept hk) (hB.kept hk) hFs eL hL).mono ?_
 rintro r w' ⟨q, X, ZA, ZR, v', Fs', G', h1, h2, h3, h4, h5, h6, h7⟩
 exact ⟨_, h1, ⟨q, X, ZA, ZR, v', Fs', G', rfl, h2, h3, fun b hb => (h4 b hb).imp id (fun h => Nat.le_trans hk.size h), h6, h7⟩, h5⟩
theorem cut_l (o : Ord) (n : Int) : (stc ((o.l.set 6 n).set 7 (mn o.shw n)) []) = (o.cut n).cells := rfl
set_option maxRecDepth 100000 in
set_option maxHeartbeats 1600000 in
theorem rest_any (w : World) (F : Nat → Prop) (p : Nat) (B : Bok) (o : Ord) (n : Int) (h : Bk w F p B) (hs : o.side = 1 ∨ o.side = 2) (hL : LvsOk (B.sd o.side)) :
  Calls Try.prog 82 #[.pointer (some ⟨p, 0, none⟩), o.v, .int .i64 n] w fun r w' => ∃ F', r = .returned (.tuple #[]) ∧ Bk w' F' p (B.to o.side (restM (o.cut n) (B.sd o.side)) B.last B.no) ∧ Grow w F F' ∧ Keep F w w' := by
 obtain ⟨L, hLe⟩ : ∃ L, B.sd o.side = L := ⟨_, rfl⟩
 rw [hLe] at hL ⊢
 have HLE := Lib.hid hLe
 have hFl := h.lt
 have HK := Lib.hid h
 have HL := Lib.hid hL
 have hpF := h.1
 clear h hL hLe
 go_enter Try.func82, Try.ntmps82
 go_upto_region 0 with fail
 refine wp_text 1 [.fresh w.heap.size 24 (o.cells)] rfl (by kernel_rfl) ?_ ?_
 ·refine nW 1 rfl (fun a u E D hk=>⟨_, _, exec_box 24 _ (o.cells) rfl (eE E), ⟨_, rfl, hk.size, Blk.new u _ _⟩, ((Keep.refl _ u).alloc _)⟩) ?_
  exact fz
 intro gv w0 hV k0
 rw [dq 1 [4]]
 simp only [Fz7]
 have hv4 : (.fresh w.heap.size 24 (o.cells) : Kn).p (gv 4) w0 := hV 0 4 (by kernel_rfl)
 generalize gv 4 = v4 at hv4 ⊢
 clear hV
 obtain ⟨g, rfl, hg, hB⟩ := hv4
 refine wpList_nil ?_
 have z0 := k0.size
 have lg := hB.lt
 go_upto_region 1 with fail
 refine wEp 2 [iV n, pV g 6] [6,7] ?_ ?_
 ·refine mE 1 2 ?_
  refine fE 2 4 24 6 6 0 ?_
  exact fz
 intro w1 k1
 simp only [F8]
 refine l_setf g 6 24 o.l [] n _ _ rfl rfl (by kernel_rfl) (by kernel_rfl) (hB.kept k1) (by simp [Ord.l]) ?_
 intro w2 hB2 hk2 hs2
 simp only [Act.put]
 refine wpList_nil ?_
 have k02 : Kept w w2 := (k0.trans k1).trans' hk2 (by omega)
 have HB2 := Lib.hid (blk_range hB2)
 have z2 := k1.size
 go_upto_region 2 with fail
 refine wEp 5 [pV g 7, iV o.shw, iV n, iV (mn (o.shw) (n)), pV g 7] [8,9,10,11,12] ?_ ?_
 ·refine fE 1 4 24 7 7 0 ?_
  refine sW 2 rfl (fun a u E D hk=>exec_loadi _ Try.underlying3 _ _ _ rfl (dD D 0) (by rw [(hB2.kept hk).cell]; rfl)) ?_
  refine mE 3 2 ?_
  refine sW 4 rfl (fun a u E D hk=>exec_min _ _ _ (o.shw) (n) (mn (o.shw) (n)) rfl (dD D 1) (dD D 2) rfl) ?_
  refine fE 5 4 24 7 7 0 ?_
  exact fz
 intro w3 k3
 simp only [F8]
 refine l_setf g 7 24 (o.l.set 6 n) [] (mn o.shw n) _ _ rfl rfl (by kernel_rfl) (by kernel_rfl) (hB2.kept k3) (by simp [Ord.l]) ?_
 intro w4 hB4 hk4 hs4
 simp only [Act.put]
 refine wpList_nil ?_
 rw [cut_l] at hB4
 have k04 : Kept w w4 := (k02.trans k3).trans' hk4 (by omega)
 have HO := Lib.hid (blk_range hB4)
 have lg4 := hB4.lt
 clear hB hB2 hB4 hk2 hk4 hs2 hs4 k0 k1 k3 HB2 k02
 obtain ⟨c, hc⟩ : ∃ c, o.cut n = c := ⟨_, rfl⟩
 have hcs : c.side = o.side := by rw [← hc]; rfl
 have hcp : c.price = o.price := by rw [← hc]; rfl
 rw [hc] at HO
 obtain ⟨s, hse⟩ : ∃ s, o.side = s := ⟨_, rfl⟩
 have HSE : Hid (c.side = s) := by show _ = _; rw [hcs, hse]
 have HOS := Lib.hid hse
 have HCC := Lib.hid hc
 rw [hse] at hs HLE
 have HCP := Lib.hid hcp
 obtain ⟨v, u0, Z, G, Fs, eL, hW, hBk, hFs, hp, hlt, hJ⟩ := (HK.out.kept k04).open_ hs
 rw [HLE.out] at eL
 have HW := Lib.hid hW
 have HBk := Lib.hid hBk
 have EL := Lib.hid eL
 have HJ := Lib.hid hJ
 have hgS : ¬ (Fs g ∨ g = p) := fun h => by
  rcases h with h | h
  ·have := hFl g (hFs g h).1; omega
  ·have := hFl p hpF; omega
 have HFs := Lib.hid hFs
 clear hW hBk eL hJ hcs hcp hse hc hFs
 go_upto_region 3 with fail
 refine wp_freeV 8 6 [0, 1, 2, 3, 4, 5, 7] [.eq (.pointer (some ⟨p, 0, none⟩)), .eq (.pointer (some ⟨g, 3, none⟩)), .eq (.int .i64 c.side), .eq (.pointer (some ⟨p, offS s, none⟩)), .eq (.pointer (some ⟨g, 5, none⟩)), .eq (.int .i64 c.price), .at_ w4.heap.size Fs p s u0 B.last B.no L c.price, .eq (c.v)] ((fun b => Fs b ∨ b = p)) (by kernel_rfl) rfl (by omega) (by kernel_rfl) (by kernel_rfl) ?_ ?_ (fun a u hE hD hk => v_call (o := ⟨some 19, _, _, _, _, _⟩) 92 #[.pointer (some ⟨p, offS s, none⟩), .int .i64 c.price] rfl (wanted_none rfl _) (exec_call 92 _ [.tmp 16, .tmp 18] _ [.pointer (some ⟨p, offS s, none⟩), .int .i64 c.price] Try.func92 (by kernel_rfl) (by kernel_rfl) rfl (show [a.eval (.tmp 16), a.eval (.tmp 18)] = [.pointer (some ⟨p, offS s, none⟩), .int .i64 c.price] from (by rw [show a.eval (.tmp 16) = .pointer (some ⟨p, offS s, none⟩) from (dD hD 3), show a.eval (.tmp 18) = .int .i64 c.price from (dD hD 5)] <;> rfl)) u) (at_kn u w4 Fs p s c.price v u0 B.last B.no Z G L hk hs HW.out HBk.out (fun b hb => (HFs.out b hb).2) EL.out HL.out)) ?_
 ·intro i hi
  have hi2 : i = 0 ∨ i = 1 ∨ i = 2 ∨ i = 3 ∨ i = 4 ∨ i = 5 ∨ i = 7 := by simpa using hi
  rcases hi2 with rfl | rfl | rfl | rfl | rfl | rfl | rfl
  ·exact Kn.safe_eq _ _
  ·exact Kn.safe_eq _ _
  ·exact Kn.safe_eq _ _
  ·exact Kn.safe_eq _ _
  ·exact Kn.safe_eq _ _
  ·exact Kn.safe_eq _ _
  ·exact Kn.safe_eq _ _
 ·refine vsteps_cons 1 rfl (fun a u hE hD hk => f_val (o := ⟨some 13, _, _, _, _, _⟩) (.pointer (some ⟨p, 0, none⟩)) rfl (wanted_none rfl _) (exec_move (.tmp 0) _ rfl (eE hE)) rfl) ?_
  refine vsteps_cons 2 rfl (fun a u hE hD hk => f_val _ rfl (wanted_none rfl _) (exec_fldo 24 3 3 (.tmp 4) (g) (0) (3) rfl (eE hE) (by kernel_rfl) rfl) rfl) ?_
  refine vsteps_cons 3 rfl (fun a u hE hD hk => f_val _ rfl (wanted_none rfl _) (exec_loadi 3 Try.underlying3 (.tmp 14) ⟨g, 3, none⟩ (.int .i64 c.side) rfl (dD hD 1) (range_int (range_keep HO.out hk (hgS)) 3 _ rfl)) rfl) ?_
  refine vsteps_cons 4 rfl (fun a u hE hD hk => f_call 37 #[.pointer (some ⟨p, 0, none⟩), .int .i64 c.side] rfl (wanted_none rfl _) (exec_call 37 _ [.tmp 13, .tmp 15] _ [.pointer (some ⟨p, 0, none⟩), .int .i64 c.side] Try.func37 (by kernel_rfl) (by kernel_rfl) rfl (show [a.eval (.tmp 13), a.eval (.tmp 15)] = [.pointer (some ⟨p, 0, none⟩), .int .i64 c.side] from (by rw [show a.eval (.tmp 13) = .pointer (some ⟨p, 0, none⟩) from (dD hD 0), show a.eval (.tmp 15) = .int .i64 c.side from (dD hD 2)] <;> rfl)) u) ((by rw [HSE.out]; exact of_eq u p s hs))) ?_
  refine vsteps_cons 5 rfl (fun a u hE hD hk => f_val _ rfl (wanted_none rfl _) (exec_fldo 24 5 5 (.tmp 4) (g) (0) (5) rfl (eE hE) (by kernel_rfl) rfl) rfl) ?_
  refine vsteps_cons 6 rfl (fun a u hE hD hk => f_val _ rfl (wanted_none rfl _) (exec_loadi 3 Try.underlying3 (.tmp 17) ⟨g, 5, none⟩ (.int .i64 c.price) rfl (dD hD 4) (range_int (range_keep HO.out hk (hgS)) 5 _ rfl)) rfl) ?_
  refine vsteps_turn 7 rfl rfl ?_
  refine vsteps_cons 8 rfl (fun a u hE hD hk => f_val _ rfl (wanted_none rfl _) (exec_ldS 24 _ (.tmp 4) (g) (0) (c.cells) rfl (eE hE) (range_keep HO.out hk (hgS)) Try.underlying24 (by rw [c.len9]; exact ord_size)) rfl) ?_
  exact vsteps_nil
 intro gv w5 hV k5
 rw [dq 8 [13,14,15,16,17,18,19,20]]
 simp only [Fz7]
 have hv19 : (.at_ w4.heap.size Fs p s u0 B.last B.no L c.price : Kn).p (gv 19) w5 := hV 6 19 (by kernel_rfl)
 generalize gv 19 = v19 at hv19 ⊢
 rw [show gv 20 = c.v from hV 7 20 (by kernel_rfl)]
 clear hV
 obtain ⟨q, X, ZA, ZR, v', Fs', G', rfl, hW5, hB5, hG5, hX5, hM5⟩ := hv19
 have hq := hW5.lv (q, c.price, X) (by simp)
 have hqF := hW5.in_ (q, c.price, X) (by simp)
 refine l_call 93 #[.pointer (some ⟨q, 0, none⟩), c.v] rfl (exec_call 93 _ [.tmp 19, .tmp 20] _ _ Try.func93 (by kernel_rfl) (by kernel_rfl) rfl (by kernel_rfl) _) ?_
 refine (add_any w5 _ q X c hq (by omega)).mono ?_
 rintro r w6 ⟨F6, rfl, hl6, hg6, hk6⟩
 refine ⟨_, rfl, ?_⟩
 simp only [Act.put, sA, sS, sZ]
 refine wpList_nil ?_
 obtain ⟨Fs2, G2, hW6, hG6, hk6', _⟩ := hW5.turn hk6 hl6 hg6
 have z5 := k5.size
 have hpF5 : ¬ Fs' p := fun h => (hG5 p h).elim (fun h => (HFs.out p h).2 rfl) (fun h => by have := hFl p hpF; have := k04.size; omega)
 have hB6 := hB5.keep hk6' hpF5
 have K6 : Keep (fun b => Fs b ∨ b = p) w4 w6 := k5.trans hk6' (fun b hb h => (hG5 b h).elim .inl (fun h => by omega))
 have G6 : Grow w4 Fs Fs2 := fun b hb => (hG6 b hb).elim (fun h => hG5 b h) (fun h => .inr (by omega))
 obtain ⟨F', q1, q2, q3, _⟩ := HJ.out w6 _ _ _ _ _ K6 hB6 ⟨_, _, rfl, hW6⟩ G6
 have HR : Hid (Bk w6 F' p (B.to s (restM c L) B.last B.no)) := by
  show Bk _ _ _ _
  rw [hM5 c HSE.out rfl]
  rw [levs_append, levs_cons] at q1
  exact q1
 have Q2 : Grow w F F' := q2.wide k04.size
 have Q3 : Keep F w w6 := Keep.any k04 q3
 clear q1 hW6 hB6 K6 G6 hW5 hB5 hM5 hq hl6 hk6 hg6 hk6' hG6 q2 q3
 go_wp2
 go_end0
 rw [HCC.out, HOS.out]
 first | exact ⟨rfl, F', HR.out, Q2, Q3⟩ | exact ⟨F', rfl, HR.out, Q2, Q3⟩
set_option maxRecDepth 100000 in
set_option maxHeartbeats 1600000 in
theorem growO_any (w : World) (v : Value) (n m : Nat) (cs : List Value) (hS : Sl w 24 9 v n cs) (hn : n + m ≤ 100000000) :
  Calls Try.prog 46 #[v, .int .i64 (m : Int)] w fun r w' => ∃ v', r = .returned v' ∧ Sl w' 24 9 v' n cs ∧ Kept w w' ∧ ∀ b, v'.ownBlock = some b → v.ownBlock = some b ∨ w.heap.size ≤ b := by
 obtain ⟨A, c, rfl⟩ := hS.slice_
 obtain ⟨hnc, hcm, hA⟩ := hS.cap
 have hcm' : c ≤ 9223372036854775807 := by unfold maxLen at hcm; omega
 have HS := Lib.hid hS
 have HA := Lib.hid hA
 clear hS hA hcm
 go_enter Try.func46, Try.ntmps46
 go_upto_region 1 with fail
 refine wE 2 [iV (m : Int), bV false] [5,6] ?_ ?_
 ·refine mE 1 1 ?_
  refine aS 2 rfl (fun a u E D hk=>exec_ltn rfl (dD D 0) rfl) (decide_eq_false (by omega)) ?_
  exact fz
 intro w1 k1
 simp only [F8]
 go_upto_region 3 with fail
 refine wEp 7 [iV (m : Int), .slice A n c, iV (c : Int), .slice A n c, iV (n : Int), iV (((c : Int) : Int) - ((n : Int) : Int)), iV (((m : Int) : Int) - ((((c : Int) : Int) - ((n : Int) : Int)) : Int))] [8,9,10,11,12,13,14] ?_ ?_
 ·refine mE 1 1 ?_
  refine mE 2 0 ?_
  refine sW 3 rfl (fun a u E D hk=>exec_capS _ A n c slO.und rfl (dD D 1)) ?_
  refine mE 4 0 ?_
  refine sW 5 rfl (fun a u E D hk=>exec_len _ _ _ slO.und A n c rfl (dD D 3)) ?_
  refine sW 6 rfl (fun a u E D hk=>exec_subn (p := ((c : Int))) (q := ((n : Int))) (((c : Int) : Int) - ((n : Int) : Int)) rfl (dD D 2) (dD D 4) rfl (by omega) (by omega)) ?_
  refine sW 7 rfl (fun a u E D hk=>exec_subn (p := ((m : Int))) (q := ((((c : Int) : Int) - ((n : Int) : Int)))) (((m : Int) : Int) - ((((c : Int) : Int) - ((n : Int) : Int)) : Int)) rfl (dD D 0) (dD D 5) rfl (by omega) (by omega)) ?_
  exact fz
 intro w2 k2
 simp only [F8]
 refine l_val (.int .i64 (((m : Int) : Int) - ((((c : Int) : Int) - ((n : Int) : Int)) : Int))) rfl (exec_assign _ _ rfl (by kernel_rfl)) ?_
 simp only [Act.put, sA, sS, sZ]
 refine wpList_nil ?_
 have k02 := k1.trans k2
 clear k1 k2
 by_cases hr : (m : Int) - ((c : Int) - (n : Int)) > 0
 ·skip
  obtain ⟨ds, hds, hSL, hdt⟩ : ∃ ds : List Value, ds.length = c * 9 ∧ Sl w 24 9 (.slice A c c) c ds ∧ ds.take (n * 9) = cs := by
   cases A with
   | none =>
    have h0 := HA.out rfl
    subst h0
    have hn0 : n = 0 := by omega
    subst hn0
    have := HS.out.len
    exact ⟨cs, by omega, HS.out, by rw [List.take_of_length_le (by omega)]⟩
   | some ad =>
    obtain ⟨g, off, c', e⟩ : ∃ g off c', Value.slice (some ad) n c = .slice (some ⟨g, off, none⟩) n c' := by
     obtain ⟨_, A', c2, e', _, _, _, h4⟩ := HS.out
     injection e' with e1 e2 e3
     subst e1 e3
     obtain ⟨g, off, cur, rfl, _⟩ := h4 _ rfl
     exact ⟨g, off, c, rfl⟩
    injection e with e1 e2 e3
    injection e1 with e1
    subst e1
    exact HS.out.longer (Nat.le_refl c) hnc
  have HSL := Lib.hid hSL
  have HDT := Lib.hid hdt
  obtain ⟨j, hj⟩ : ∃ j : Nat, (m : Int) - ((c : Int) - (n : Int)) = (j : Int) := ⟨(m - (c - n)), by omega⟩
  rw [hj] at hr ⊢
  have hcj : c + j = n + m := by omega
  have hj0 : 0 < j := by omega
  clear hSL hdt hj
  go_upto_region 4 with fail
  refine wE 2 [iV (j : Int), bV true] [15,16] ?_ ?_
  ·refine mE 1 1 ?_
   refine aS 2 rfl (fun a u E D hk=>exec_gtn rfl (dD D 0) rfl) (decide_eq_true (by omega)) ?_
   exact fz
  intro w3 k3
  simp only [F8]
  have k03 := k02.trans k3
  clear k02 k3
  go_upto_region 5 with fail
  refine wEp 5 [.slice A n c, .slice A n c, iV (c : Int), .slice A c c, iV (j : Int)] [17,18,19,20,21] ?_ ?_
  ·refine mE 1 0 ?_
   refine mE 2 0 ?_
   refine sW 3 rfl (fun a u E D hk=>exec_capS _ A n c slO.und rfl (dD D 1)) ?_
   refine sW 4 rfl (fun a u E D hk=>exec_slcH slO _ _ _ _ _ rfl (dD D 0) (dD D 2) (run_h slO A n c c (Nat.le_refl _) HA.out u)) ?_
   refine mE 5 1 ?_
   exact fz
  intro w4 k4
  simp only [F8]
  have k04 := k03.trans k4
  obtain ⟨gn, cn, w5, zs, hrz, hsz, hzl, hkz, hgn⟩ := run_append_zeros slO Try.underlying3 35 w4 A c c j _ (HSL.out.kept k04) hj0 (by omega) (by unfold maxLen; omega) (by omega) (by omega)
  refine l_new _ w5 rfl (exec_appZ slO 3 (.tmp 20) (.tmp 21) _ _ rfl (by kernel_rfl) (by kernel_rfl) _ w5 hrz) ?_
  simp only [Act.put, sA, sS, sZ]
  refine l_val (.slice A n c) rfl (exec_move _ _ rfl (by kernel_rfl)) ?_
  simp only [Act.put, sA, sS, sZ]
  refine l_val (.int .i64 (n : Int)) rfl (exec_len (.tmp 23) _ _ slO.und A n c rfl (by kernel_rfl)) ?_
  simp only [Act.put, sA, sS, sZ]
  refine l_val (.slice (some ⟨gn, 0, none⟩) n cn) rfl (exec_slcH slO (.tmp 22) (.tmp 24) _ _ _ rfl (by kernel_rfl) (by kernel_rfl) (run_h slO (some ⟨gn, 0, none⟩) (c + j) cn n (by have := hsz.cap.1; omega) (fun h => by cases h) w5)) ?_
  simp only [Act.put, sA, sS, sZ]
  refine l_val (.slice (some ⟨gn, 0, none⟩) n cn) rfl (exec_assign _ _ rfl (by kernel_rfl)) ?_
  simp only [Act.put, List.setIfInBounds_toArray, List.set_cons_zero]
  refine wpList_nil ?_
  have zz := k04.size
  have HR : Hid (Sl w5 24 9 (.slice (some ⟨gn, 0, none⟩) n cn) n cs) := by
   have h1 := hsz.shrink (m := n) (by omega)
   have h2 := HS.out.len
   rw [List.take_append_of_le_length (by rw [hds]; exact Nat.mul_le_mul_right _ hnc), HDT.out] at h1
   exact h1
  have k05 := k04.trans hkz
  clear hsz hrz hkz k4 k03
  go_wp2
  go_ret
  exact ⟨_, rfl, HR.out, k05, fun b hb => .inr (by simp [Value.ownBlock] at hb; omega)⟩
 ·skip
  go_upto_region 4 with fail
  refine wE 2 [iV ((m : Int) - ((c : Int) - (n : Int))), bV false] [15,16] ?_ ?_
  ·refine mE 1 1 ?_
   refine aS 2 rfl (fun a u E D hk=>exec_gtn rfl (dD D 0) rfl) (decide_eq_false (by omega)) ?_
   exact fz
  intro w3 k3
  simp only [F8]
  have k03 := k02.trans k3
  have HR := Lib.hid (HS.out.kept k03)
  clear k02 k3
  go_wp2
  go_ret
  exact ⟨_, rfl, HR.out, k03, fun b hb => .inl hb⟩
set_option maxRecDepth 100000 in
set_option maxHeartbeats 1600000 in
theorem growF_any (w : World) (v : Value) (n m : Nat) (cs : List Value) (hS : Sl w 61 21 v n cs) (hn : n + m ≤ 100000000) :
  Calls Try.prog 97 #[v, .int .i64 (m : Int)] w fun r w' => ∃ v', r = .returned v' ∧ Sl w' 61 21 v' n cs ∧ Kept w w' ∧ ∀ b, v'.ownBlock = some b → v.ownBlock = some b ∨ w.heap.size ≤ b := by
 obtain ⟨A, c, rfl⟩ := hS.slice_
 obtain ⟨hnc, hcm, hA⟩ := hS.cap
 have hcm' : c ≤ 9223372036854775807 := by unfold maxLen at hcm; omega
 have HS := Lib.hid hS
 have HA := Lib.hid hA
 clear hS hA hcm
 go_enter Try.func97, Try.ntmps97
 go_upto_region 1 with fail
 refine wE 2 [iV (m : Int), bV false] [5,6] ?_ ?_
 ·refine mE 1 1 ?_
  refine aS 2 rfl (fun a u E D hk=>exec_ltn rfl (dD D 0) rfl) (decide_eq_false (by omega)) ?_
  exact fz
 intro w1 k1
 simp only [F8]
 go_upto_region 3 with fail
 refine wEp 7 [iV (m : Int), .slice A n c, iV (c : Int), .slice A n c, iV (n : Int), iV (((c : Int) : Int) - ((n : Int) : Int)), iV (((m : Int) : Int) - ((((c : Int) : Int) - ((n : Int) : Int)) : Int))] [8,9,10,11,12,13,14] ?_ ?_
 ·refine mE 1 1 ?_
  refine mE 2 0 ?_
  refine sW 3 rfl (fun a u E D hk=>exec_capS _ A n c slF.und rfl (dD D 1)) ?_
  refine mE 4 0 ?_
  refine sW 5 rfl (fun a u E D hk=>exec_len _ _ _ slF.und A n c rfl (dD D 3)) ?_
  refine sW 6 rfl (fun a u E D hk=>exec_subn (p := ((c : Int))) (q := ((n : Int))) (((c : Int) : Int) - ((n : Int) : Int)) rfl (dD D 2) (dD D 4) rfl (by omega) (by omega)) ?_
  refine sW 7 rfl (fun a u E D hk=>exec_subn (p := ((m : Int))) (q := ((((c : Int) : Int) - ((n : Int) : Int)))) (((m : Int) : Int) - ((((c : Int) : Int) - ((n : Int) : Int)) : Int)) rfl (dD D 0) (dD D 5) rfl (by omega) (by omega)) ?_
  exact fz
 intro w2 k2
 simp only [F8]
 refine l_val (.int .i64 (((m : Int) : Int) - ((((c : Int) : Int) - ((n : Int) : Int)) : Int))) rfl (exec_assign _ _ rfl (by kernel_rfl)) ?_
 simp only [Act.put, sA, sS, sZ]
 refine wpList_nil ?_
 have k02 := k1.trans k2
 clear k1 k2
 by_cases hr : (m : Int) - ((c : Int) - (n : Int)) > 0
 ·skip
  obtain ⟨ds, hds, hSL, hdt⟩ : ∃ ds : List Value, ds.length = c * 21 ∧ Sl w 61 21 (.slice A c c) c ds ∧ ds.take (n * 21) = cs := by
   cases A with
   | none =>
    have h0 := HA.out rfl
    subst h0
    have hn0 : n = 0 := by omega
    subst hn0
    have := HS.out.len
    exact ⟨cs, by omega, HS.out, by rw [List.take_of_length_le (by omega)]⟩
   | some ad =>
    obtain ⟨g, off, c', e⟩ : ∃ g off c', Value.slice (some ad) n c = .slice (some ⟨g, off, none⟩) n c' := by
     obtain ⟨_, A', c2, e', _, _, _, h4⟩ := HS.out
     injection e' with e1 e2 e3
     subst e1 e3
     obtain ⟨g, off, cur, rfl, _⟩ := h4 _ rfl
     exact ⟨g, off, c, rfl⟩
    injection e with e1 e2 e3
    injection e1 with e1
    subst e1
    exact HS.out.longer (Nat.le_refl c) hnc
  have HSL := Lib.hid hSL
  have HDT := Lib.hid hdt
  obtain ⟨j, hj⟩ : ∃ j : Nat, (m : Int) - ((c : Int) - (n : Int)) = (j : Int) := ⟨(m - (c - n)), by omega⟩
  rw [hj] at hr ⊢
  have hcj : c + j = n + m := by omega
  have hj0 : 0 < j := by omega
  clear hSL hdt hj
  go_upto_region 4 with fail
  refine wE 2 [iV (j : Int), bV true] [15,16] ?_ ?_
  ·refine mE 1 1 ?_
   refine aS 2 rfl (fun a u E D hk=>exec_gtn rfl (dD D 0) rfl) (decide_eq_true (by omega)) ?_
   exact fz
  intro w3 k3
  simp only [F8]
  have k03 := k02.trans k3
  clear k02 k3
  go_upto_region 5 with fail
  refine wEp 5 [.slice A n c, .slice A n c, iV (c : Int), .slice A c c, iV (j : Int)] [17,18,19,20,21] ?_ ?_
  ·refine mE 1 0 ?_
   refine mE 2 0 ?_
   refine sW 3 rfl (fun a u E D hk=>exec_capS _ A n c slF.und rfl (dD D 1)) ?_
   refine sW 4 rfl (fun a u E D hk=>exec_slcH slF _ _ _ _ _ rfl (dD D 0) (dD D 2) (run_h slF A n c c (Nat.le_refl _) HA.out u)) ?_
   refine mE 5 1 ?_
   exact fz
  intro w4 k4
  simp only [F8]
  have k04 := k03.trans k4
  obtain ⟨gn, cn, w5, zs, hrz, hsz, hzl, hkz, hgn⟩ := run_append_zeros slF Try.underlying3 52 w4 A c c j _ (HSL.out.kept k04) hj0 (by omega) (by unfold maxLen; omega) (by omega) (by omega)
  refine l_new _ w5 rfl (exec_appZ slF 3 (.tmp 20) (.tmp 21) _ _ rfl (by kernel_rfl) (by kernel_rfl) _ w5 hrz) ?_
  simp only [Act.put, sA, sS, sZ]
  refine l_val (.slice A n c) rfl (exec_move _ _ rfl (by kernel_rfl)) ?_
  simp only [Act.put, sA, sS, sZ]
  refine l_val (.int .i64 (n : Int)) rfl (exec_len (.tmp 23) _ _ slF.und A n c rfl (by kernel_rfl)) ?_
  simp only [Act.put, sA, sS, sZ]
  refine l_val (.slice (some ⟨gn, 0, none⟩) n cn) rfl (exec_slcH slF (.tmp 22) (.tmp 24) _ _ _ rfl (by kernel_rfl) (by kernel_rfl) (run_h slF (some ⟨gn, 0, none⟩) (c + j) cn n (by have := hsz.cap.1; omega) (fun h => by cases h) w5)) ?_
  simp only [Act.put, sA, sS, sZ]
  refine l_val (.slice (some ⟨gn, 0, none⟩) n cn) rfl (exec_assign _ _ rfl (by kernel_rfl)) ?_
  simp only [Act.put, List.setIfInBounds_toArray, List.set_cons_zero]
  refine wpList_nil ?_
  have zz := k04.size
  have HR : Hid (Sl w5 61 21 (.slice (some ⟨gn, 0, none⟩) n cn) n cs) := by
   have h1 := hsz.shrink (m := n) (by omega)
   have h2 := HS.out.len
   rw [List.take_append_of_le_length (by rw [hds]; exact Nat.mul_le_mul_right _ hnc), HDT.out] at h1
   exact h1
  have k05 := k04.trans hkz
  clear hsz hrz hkz k4 k03
  go_wp2
  go_ret
  exact ⟨_, rfl, HR.out, k05, fun b hb => .inr (by simp [Value.ownBlock] at hb; omega)⟩
 ·skip
  go_upto_region 4 with fail
  refine wE 2 [iV ((m : Int) - ((c : Int) - (n : Int))), bV false] [15,16] ?_ ?_
  ·refine mE 1 1 ?_
   refine aS 2 rfl (fun a u E D hk=>exec_gtn rfl (dD D 0) rfl) (decide_eq_false (by omega)) ?_
   exact fz
  intro w3 k3
  simp only [F8]
  have k03 := k02.trans k3
  have HR := Lib.hid (HS.out.kept k03)
  clear k02 k3
  go_wp2
  go_ret
  exact ⟨_, rfl, HR.out, k03, fun b hb => .inl hb⟩
theorem slOO : SlT 85 35 1 24 := ⟨Try.underlying85, by kernel_rfl, ⟨.slice none 0 0, by kernel_rfl, rfl, by intro u hu; simp [Value.cells] at hu; subst hu; rfl⟩, by omega⟩
theorem exec_two1 {a : Act} {o : Oper} {u : World} {t T : TypeId} {bytes : Nat} (ht : SlT t T 1 bytes) (x y : Operand) (v1 v2 : Value) (hop : o.op = .buildSlice t 2 #[(0, x), (1, y)]) (hx : a.eval x = v1) (hy : a.eval y = v2) (h1 : v1.cells = #[v1]) (h2 : v2.cells = #[v2]) :
  (execOp a.eval o).run Try.prog u = .ok (.value (.slice (some ⟨u.heap.size, 0, none⟩) 2 2)) (u.alloc (.cells [v1, v2].toArray T)) := by
 obtain ⟨z, hz, hz2, _⟩ := ht.info
 obtain ⟨i0, hi, hz0, hz1, hzb⟩ := info_parts hz
 unfold execOp
 simp only [hop, List.map_toArray, List.map_cons, List.map_nil, hx, hy]
 have e : Array.map (fun x => z.cells[x % z.cells.size]!) (Array.range (2 * 1)) = #[z.cells[0 % z.cells.size]!, z.cells[1 % z.cells.size]!] := by
  apply Array.toList_inj.1
  simp [List.range_succ]
 have hr := run_buildSlice (P := Try.prog) u t T 2 #[(0, v1), (1, v2)] [v1, v2].toArray i0 z ht.und hi hz0 (by rw [hz1]; omega) (by rw [hz1]; omega) (by
  rw [hz1]
  simp only [Instr.fill, h1, h2, e]
  simp)
 simp only [Sem.run_bind, hr, Result.andThen_ok]
 rfl
def Cat (w : World) (g : Nat) (X Y : List Ord) : Prop := ∃ v1 v2, Blk w g 35 [v1, v2] ∧ Sl w 24 9 v1 X.length (ords X) ∧ Sl w 24 9 v2 Y.length (ords Y)
theorem Cat.kept {w w' : World} {g : Nat} {X Y : List Ord} (h : Cat w g X Y) (hk : Kept w w') : Cat w' g X Y := by
 obtain ⟨v1, v2, h1, h2, h3⟩ := h
 exact ⟨v1, v2, h1.kept hk, h2.kept hk, h3.kept hk⟩
def catP (X Y : List Ord) (i : Nat) : List Ord := if i = 0 then [] else if i = 1 then X else X ++ Y
def catE (X Y : List Ord) (i : Nat) : List Ord := if i = 0 then X else Y
theorem catP_next (X Y : List Ord) (i : Nat) (h : i < 2) : catP X Y (i + 1) = catP X Y i ++ catE X Y i := by
 rcases (by omega : i = 0 ∨ i = 1) with rfl | rfl <;> rfl
theorem catP_len (X Y : List Ord) (i : Nat) : (catP X Y i).length ≤ X.length + Y.length := by
 unfold catP
 repeat' split
 all_goals simp
def Kn.cat (base : Nat) (X Y : List Ord) : Kn := ⟨fun v w => ∃ g, v = .slice (some ⟨g, 0, none⟩) 2 2 ∧ base ≤ g ∧ Cat w g X Y, fun _ _ _ ⟨g, h1, h2, h3⟩ hk => ⟨g, h1, h2, h3.kept hk⟩⟩
set_option maxRecDepth 100000 in
set_option maxHeartbeats 1600000 in
theorem concatE_any (w : World) (g N : Nat) (E P : Nat → List Ord) (h : ∀ i, i < N → ∃ v, w.cell? ⟨g, 0 + i * 1, none⟩ = some v ∧ Sl w 24 9 v (E i).length (ords (E i))) (h0 : P 0 = []) (hs : ∀ i, i < N → P (i + 1) = P i ++ E i) (hl : ∀ i, i ≤ N → (P i).length ≤ 1000000) (hN1 : N ≤ 1000) : Gives 29 #[.slice (some ⟨g, 0, none⟩) N N] w (.sl w.heap.size 24 9 (P N).length (ords (P N))) := by
 have HE := Lib.hid h
 have HP0 := Lib.hid h0
 have HPS := Lib.hid hs
 have HN := Lib.hid hl
 have hEl : ∀ i, i < N → (E i).length ≤ 1000000 := fun i hi => by
  have := hl (i + 1) (by omega)
  rw [hs i hi, List.length_append] at this
  omega
 have HEL := Lib.hid hEl
 clear h h0 hs hl hEl
 go_enter Try.func29, Try.ntmps29
 go_upto_region 1 with fail
 refine wE 1 [iV 0] [3] ?_ ?_
 ·refine sW 1 rfl (fun a u E D hk=>exec_assign _ _ rfl rfl) ?_
  exact fz
 intro wa ka
 simp only [F8]
 go_upto_region 2 with fail
 refine wE 3 [.slice (some ⟨g, 0, none⟩) N N, iV (N : Int), iV 0] [9,10,11] ?_ ?_
 ·refine mE 1 0 ?_
  refine sW 2 rfl (fun a u E D hk=>exec_len _ _ _ slOO.und (some ⟨g, 0, none⟩) N N rfl (dD D 0)) ?_
  refine sW 3 rfl (fun a u E D hk=>exec_move _ _ rfl rfl) ?_
  exact fz
 intro w0 k0
 simp only [F8]
 have k00 := ka.trans k0
 clear ka k0
 go_wp2_with fail
 go_loopw [3, 11] (fun t x wr => ∃ (i : Nat) (m : Nat), i ≤ N ∧ x = .int .i64 (i : Int) ∧ t = .int .i64 (m : Int) ∧ Hid (m = (P i).length) ∧ Kept w wr) (fun _ x _ => N - (intOf x).toNat)
 case atStart => exact ⟨0, 0, by omega, rfl, rfl, by show _ = _; rw [HP0.out]; rfl, k00⟩
 case round =>
  obtain ⟨i, m, hi, rfl, rfl, HM, hkr⟩ := hrel
  by_cases hlt : i < N
  ·skip
   obtain ⟨ve, hve, hse⟩ := HE.out i hlt
   have HC := Lib.hid (hkr.cell hve)
   have HSE := Lib.hid (hse.kept hkr)
   clear hve hse
   obtain ⟨e, he⟩ : ∃ e, (E i).length = e := ⟨_, rfl⟩
   have heN : e ≤ 1000000 := by have := HEL.out i hlt; omega
   have HM2 : Hid (m + e = (P (i + 1)).length) := by show _ = _; rw [HPS.out i hlt, List.length_append, HM.out, he]
   have hmN : m ≤ 1000000 := by have := HN.out i (by omega); have := HM.out; omega
   rw [he] at HSE
   clear he HM
   go_upto_region 4 with fail
   refine wE 3 [pV g (0 + i * 1), ve, ve] [13,14,5] ?_ ?_
   ·refine sW 1 rfl (fun a u E D hk=>exec_ixo slOO _ _ (g) (0) N N i (0 + i * 1) ((i : Int)) rfl (eE E) (eE E) (by first | rfl | omega) (hlt) (by first | rfl | omega)) ?_
    refine sW 2 rfl (fun a u E D hk=>exec_ldv _ _ Try.underlying35 _ _ _ rfl (dD D 0) (Kept.cell hk (HC.out))) ?_
    refine mD 3 14 1 ?_
    exact fz
   intro w1 k1
   simp only [F8]
   have kw1 := hkr.trans k1
   have HSE1 := Lib.hid (HSE.out.kept k1)
   clear k1 HC HSE
   go_upto_region 5 with fail
   refine wEp 4 [iV (m : Int), ve, iV (e : Int), iV (((m : Int) : Int) + ((e : Int) : Int))] [15,16,17,18] ?_ ?_
   ·refine mE 1 3 ?_
    refine mE 2 5 ?_
    refine sW 3 rfl (fun a u E D hk=>exec_lenS _ slO _ _ _ _ rfl (dD D 1) HSE1.out) ?_
    refine sW 4 rfl (fun a u E D hk=>exec_addn (p := ((m : Int))) (q := ((e : Int))) (((m : Int) : Int) + ((e : Int) : Int)) rfl (dD D 0) (dD D 2) rfl (by omega) (by omega)) ?_
    exact fz
   intro w2 k2
   simp only [F8]
   refine l_val (.int .i64 (((m : Int) : Int) + ((e : Int) : Int))) rfl (exec_assign _ _ rfl (by kernel_rfl)) ?_
   simp only [Act.put, sA, sS, sZ]
   refine wpList_nil ?_
   have kw2 := kw1.trans k2
   clear k2 kw1 HSE1
   have hnn : ¬ ((m : Int) + (e : Int) < 0) := by omega
   go_wp2
   exact ⟨⟨i + 1, m + e, by omega, by go_num, by go_num, HM2, kw2⟩, by simp [intOf]; omega⟩
  ·have hi2 : N = i := by omega
   subst hi2
   have hm : m = (P N).length := HM.out
   have hmN : m ≤ 1000000 := by rw [hm]; exact HN.out N (Nat.le_refl _)
   have HMM := Lib.hid hm
   clear HM hm
   go_upto_region 9 with fail
   refine wT 3 [iE (m : Int), .sl wr.heap.size 24 9 0 [], .sl wr.heap.size 24 9 0 []] [23,24,6] ?_ ?_
   ·refine mE 1 3 ?_
    refine cS 2 46 [.slice none 0 0, .int .i64 (m : Int)] rfl Try.func46 rfl (fun a u E D hk=>⟨ll rfl (ll (dD D 0) rfl), (growO_any u (.slice none 0 0) 0 m [] (Sl.nil _ _ _) (by omega)).mono (fun e w' ⟨v, h1, h2, h3, h4⟩ => ⟨v, h1, ⟨h2, fun b hb => (h4 b hb).elim (fun h => by simp [Value.ownBlock] at h) (fun h => Nat.le_trans hk.size h)⟩, h3⟩)⟩) ?_
    refine fsteps_cons 3 rfl (fun a u hE hD hk => f_val _ rfl (wanted_none rfl _) (exec_assign (.tmp 24) _ rfl rfl) (dD hD 1)) ?_
    exact fz
   intro gv w1 hV k1
   simp only [Fz7]
   have hv6 : (.sl wr.heap.size 24 9 0 [] : Kn).p (gv 6) w1 := hV 2 6 (by kernel_rfl)
   generalize gv 6 = v6 at hv6 ⊢
   clear hV
   have kw1 := hkr.trans k1
   have zr := hkr.size
   have HV1 : Hid ((Kn.sl w.heap.size 24 9 (P 0).length (ords (P 0))).p v6 w1) := by rw [HP0.out]; exact ⟨hv6.1, fun b hb => Nat.le_trans zr (hv6.2 b hb)⟩
   clear hv6 k1 hkr zr
   go_upto_region 10 with fail
   refine wE 3 [.slice (some ⟨g, 0, none⟩) N N, iV (N : Int), iV 0] [25,26,27] ?_ ?_
   ·refine mE 1 0 ?_
    refine sW 2 rfl (fun a u E D hk=>exec_len _ _ _ slOO.und (some ⟨g, 0, none⟩) N N rfl (dD D 0)) ?_
    refine sW 3 rfl (fun a u E D hk=>exec_move _ _ rfl rfl) ?_
    exact fz
   intro w2 k2
   simp only [F8]
   have kw2 := kw1.trans k2
   have HV2 := Lib.hid ((Kn.sl w.heap.size 24 9 (P 0).length (ords (P 0))).st _ _ _ HV1.out k2)
   clear HV1 k2 kw1
   go_wp2_with fail
   go_loopw [6, 27] (fun t x wr => ∃ (i : Nat), i ≤ N ∧ x = .int .i64 (i : Int) ∧ Hid ((Kn.sl w.heap.size 24 9 (P i).length (ords (P i))).p t wr) ∧ Kept w wr) (fun _ x _ => N - (intOf x).toNat)
   case atStart => exact ⟨0, by omega, rfl, HV2.out, kw2⟩
   case round =>
    obtain ⟨i, hi, rfl, HV, hkr⟩ := hrel
    obtain ⟨vv, hvv⟩ : ∃ x, x = u6 := ⟨_, rfl⟩
    subst hvv
    by_cases hlt : i < N
    ·skip
     obtain ⟨ve, hve, hse⟩ := HE.out i hlt
     have HC := Lib.hid (hkr.cell hve)
     have HSE := Lib.hid (hse.kept hkr)
     clear hve hse
     go_upto_region 12 with fail
     refine wE 3 [pV g (0 + i * 1), ve, ve] [29,30,8] ?_ ?_
     ·refine sW 1 rfl (fun a u E D hk=>exec_ixo slOO _ _ (g) (0) N N i (0 + i * 1) ((i : Int)) rfl (eE E) (eE E) (by first | rfl | omega) (hlt) (by first | rfl | omega)) ?_
      refine sW 2 rfl (fun a u E D hk=>exec_ldv _ _ Try.underlying35 _ _ _ rfl (dD D 0) (Kept.cell hk (HC.out))) ?_
      refine mD 3 30 1 ?_
      exact fz
     intro w3 k3
     simp only [F8]
     have kw3 := hkr.trans k3
     have HSE3 := Lib.hid (HSE.out.kept k3)
     have HV3 := Lib.hid ((Kn.sl w.heap.size 24 9 (P i).length (ords (P i))).st _ _ _ HV.out k3)
     have z3 := kw3.size
     clear k3 HC HSE HV
     go_upto_region 13 with fail
     refine wEp 2 [vv, ve] [31,32] ?_ ?_
     ·refine mE 1 6 ?_
      refine mE 2 8 ?_
      exact fz
     intro w4 k4
     simp only [F8]
     have hl1 := HEL.out i hlt
     have hl2 := HN.out i (by omega)
     have hl3 := hlt
     obtain ⟨v5, w5, hr5, hs5, hk5, ho5⟩ := run_append_sl slO 35 w4 vv ve _ _ _ _ (HV3.out.1.kept k4) (HSE3.out.kept k4) (ords_one _) (by unfold maxLen; omega) (by omega)
     refine l_new v5 w5 rfl (exec_appS slO (.tmp 31) (.tmp 32) vv ve rfl (by kernel_rfl) (by kernel_rfl) v5 w5 hr5) ?_
     simp only [Act.put, sA, sS, sZ]
     refine l_val (v5) rfl (exec_assign _ _ rfl (by kernel_rfl)) ?_
     simp only [Act.put, sA, sS, sZ]
     refine wpList_nil ?_
     have z4 := k4.size
     have kw5 : Kept w w5 := Keep.trans (kw3.trans k4) hk5 (fun b hb hb' => by have := HV3.out.2 b hb'; omega)
     have HV5 : Hid ((Kn.sl w.heap.size 24 9 (P (i + 1)).length (ords (P (i + 1)))).p v5 w5) := by
      refine ⟨?_, fun b hb => ?_⟩
      ·rw [HPS.out i hlt, List.length_append]
       unfold ords at hs5 ⊢
       rw [List.flatMap_append]
       exact hs5
      ·rcases ho5 b hb with h | h
       ·exact HV3.out.2 b h
       ·omega
     clear hs5 hk5 ho5 HV3 HSE3 hr5 hl1 hl2 hl3 k4 kw3
     go_wp2
     exact ⟨⟨i + 1, by omega, by go_num, HV5, kw5⟩, by simp [intOf]; omega⟩
    ·have hi2 : N = i := by omega
     subst hi2
     have HF : Hid ((Kn.sl w.heap.size 24 9 (P N).length (ords (P N))).p vv wr) := HV.out
     clear HV
     go_wp2
     go_ret
     exact ⟨vv, rfl, HF.out, hkr⟩
theorem concat_any (w : World) (g : Nat) (X Y : List Ord) (h : Cat w g X Y) (hn : X.length + Y.length ≤ 1000000) : Gives 29 #[.slice (some ⟨g, 0, none⟩) 2 2] w (.sl w.heap.size 24 9 (X ++ Y).length (ords (X ++ Y))) := by
 obtain ⟨v1, v2, hB, h1, h2⟩ := h
 exact concatE_any w g 2 (catE X Y) (catP X Y) (fun i hi => by
  rcases (by omega : i = 0 ∨ i = 1) with rfl | rfl
  ·exact ⟨v1, hB.cell 0, h1⟩
  ·exact ⟨v2, hB.cell 1, h2⟩) rfl (fun i hi => catP_next X Y i hi) (fun i _ => by have := catP_len X Y i; omega) (by omega)
set_option maxRecDepth 100000 in
set_option maxHeartbeats 1600000 in
theorem bfind_any (w : World) (F : Nat → Prop) (p : Nat) (B : Bok) (t j : Int) (h : Bk w F p B) (hI : Inv B) : Gives 35 #[.pointer (some ⟨p, 0, none⟩), .int .i64 t, .int .i64 j] w (.eq (.tuple #[(B.find t j).1.v, .bool (B.find t j).2])) := by
 refine gives_eq ?_
 have HK := Lib.hid h
 have HI := Lib.hid hI
 have hlen : (ordsL B.buys).length ≤ 64 ∧ (ordsL B.sells).length ≤ 64 := by
  have h1 := hI.two.mine.few
  have h2 := hI.two.theirs.few
  rw [ordsL_len, ordsL_len]
  exact ⟨h1, h2⟩
 have HLN := Lib.hid hlen
 have HAL : Hid (ordsL B.buys ++ ordsL B.sells = B.all.map (·.o)) := by show _ = _; unfold ordsL Bok.all; rw [List.map_append]
 clear h hI hlen
 go_enter Try.func35, Try.ntmps35
 go_upto_region 0 with fail
 refine wp_text 2 [.fresh w.heap.size 24 zeroO.cells, bE false] rfl (by kernel_rfl) ?_ ?_
 ·refine nW 1 rfl (fun a u E D hk=>⟨_, _, exec_alc 24 zeroO.cells rfl zO, ⟨_, rfl, hk.size, Blk.new u _ _⟩, ((Keep.refl _ u).alloc _)⟩) ?_
  refine sW 2 rfl (fun a u E D hk=>exec_assign _ _ rfl rfl) ?_
  exact fz
 intro gv wz hV kz
 rw [dq 2 [6,7]]
 simp only [Fz7]
 have hv6 : (.fresh w.heap.size 24 zeroO.cells : Kn).p (gv 6) wz := hV 0 6 (by kernel_rfl)
 generalize gv 6 = v6 at hv6 ⊢
 rw [gQ hV 1 7 (.bool false)]
 clear hV
 obtain ⟨b6, rfl, hb6, hB6⟩ := hv6
 refine wpList_nil ?_
 have HB6 := Lib.hid hB6
 have l6 := hB6.lt
 have HKz := Lib.hid (HK.out.kept kz)
 clear hB6
 obtain ⟨X, hX⟩ : ∃ X, ordsL B.buys = X := ⟨_, rfl⟩
 obtain ⟨Y, hY⟩ : ∃ Y, ordsL B.sells = Y := ⟨_, rfl⟩
 rw [hX, hY] at HLN HAL
 have HX := Lib.hid hX
 have HY := Lib.hid hY
 clear hX hY
 obtain ⟨n, hn⟩ : ∃ n, (X ++ Y).length = n := ⟨_, rfl⟩
 have hn1 : n ≤ 128 := by rw [← hn, List.length_append]; have := HLN.out; omega
 have HN := Lib.hid hn
 clear hn
 go_upto_region 1 with fail
 refine wF 12 [pE p 0, pE p 0, pE p 0, .sl wz.heap.size 24 9 X.length (ords X), pE p 0, pE p 0, pE p 2, .sl wz.heap.size 24 9 Y.length (ords Y), .cat wz.heap.size X Y, .sl wz.heap.size 24 9 n (ords (X ++ Y)), iE (n : Int), iE 0] [10,11,12,13,14,15,16,17,18,19,20,21] ?_ ?_
 ·refine mE 1 0 ?_
  refine nD 2 10 0 ?_
  refine fD 3 11 1 72 0 0 0 ?_
  refine cS 4 38 [.pointer (some ⟨p, 0, none⟩)] rfl Try.func38 rfl (fun a u E D hk=>⟨ll (dD D 2) rfl, (by obtain ⟨F', hL⟩ := (HKz.out.kept hk).lad (.inl rfl : (1 : Int) = 1 ∨ (1 : Int) = 2); have hd := gives_base (lorders_any u F' p 0 1 _ hL (HI.out.ok 1)) hk.size; rw [show ordsL (B.sd 1) = X from HX.out] at hd; exact hd)⟩) ?_
  refine mE 5 0 ?_
  refine nD 6 14 4 ?_
  refine fD 7 15 5 72 1 2 0 ?_
  refine cS 8 38 [.pointer (some ⟨p, 2, none⟩)] rfl Try.func38 rfl (fun a u E D hk=>⟨ll (dD D 6) rfl, (by obtain ⟨F', hL⟩ := (HKz.out.kept hk).lad (.inr rfl : (2 : Int) = 1 ∨ (2 : Int) = 2); have hd := gives_base (lorders_any u F' p 2 2 _ hL (HI.out.ok 2)) hk.size; rw [show ordsL (B.sd 2) = Y from HY.out] at hd; exact hd)⟩) ?_
  refine nW 9 rfl (fun a u E D hk=>⟨_, _, exec_two1 slOO _ _ _ _ rfl rfl rfl (sl_cells (D 3 13 (by kernel_rfl)).1) (sl_cells (D 7 17 (by kernel_rfl)).1), ⟨u.heap.size, rfl, hk.size, _, _, Blk.new u _ _, (D 3 13 (by kernel_rfl)).1.kept ((Keep.refl _ u).alloc _), (D 7 17 (by kernel_rfl)).1.kept ((Keep.refl _ u).alloc _)⟩, ((Keep.refl _ u).alloc _)⟩) ?_
  refine fsteps_cons 10 rfl (fun a u hE hD hk => f_call 29 #[a.eval (.tmp 18)] rfl (wanted_none rfl _) (exec_call 29 _ [.tmp 18] _ [a.eval (.tmp 18)] Try.func29 (by kernel_rfl) (by kernel_rfl) rfl rfl u) ((by obtain ⟨gg, hx, hgb, hcat⟩ := (hD 8 18 (by kernel_rfl)); have hd := gives_base (concat_any u gg X Y hcat (by have := HLN.out; omega)) hk.size; rw [HN.out] at hd; rw [hx]; exact hd))) ?_
  refine sW 11 rfl (fun a u E D hk=>exec_lenS _ slO _ _ _ _ rfl rfl (D 9 19 (by kernel_rfl)).1) ?_
  refine sW 12 rfl (fun a u E D hk=>exec_move _ _ rfl rfl) ?_
  exact fz
 intro gv w0 hV k0
 simp only [Fz7]
 have hv19 : (.sl wz.heap.size 24 9 n (ords (X ++ Y)) : Kn).p (gv 19) w0 := hV 9 19 (by kernel_rfl)
 generalize gv 19 = v19 at hv19 ⊢
 rw [gQ hV 10 20 (.int .i64 (n : Int))]
 rw [gQ hV 11 21 (.int .i64 0)]
 clear hV
 have HS0 := Lib.hid hv19.1
 have HB60 := Lib.hid (HB6.out.kept k0)
 have z0 := k0.size
 have k00 := kz.trans k0
 obtain ⟨vs, hvs⟩ : ∃ x, x = v19 := ⟨_, rfl⟩
 subst hvs
 clear hv19 HB6 HKz kz k0
 go_wp2_with fail
 go_loopw [21] (fun x wr => ∃ (i : Nat), i ≤ n ∧ x = .int .i64 (i : Int) ∧ Hid (∀ (j' : Nat) (x : Ent), j' < i → B.all[j']? = some x → x.is t j = false) ∧ Kept w0 wr) (fun x _ => n - (intOf x).toNat)
 case atStart => exact ⟨0, Nat.zero_le _, rfl, fun j' x hj => (by omega), Kept.refl _⟩
 case round =>
  obtain ⟨i, hi, rfl, HM, hkr⟩ := hrel
  have HAN : Hid (B.all.length = n) := by show _ = _; rw [← HN.out, HAL.out, List.length_map]
  by_cases hlt : i < n
  ·skip
   obtain ⟨g, off, c, rfl⟩ := HS0.out.some_ (by omega)
   obtain ⟨E, hE⟩ : ∃ E, B.all[i]? = some E := ⟨B.all[i]'(by rw [HAN.out]; exact hlt), List.getElem?_eq_getElem (by rw [HAN.out]; exact hlt)⟩
   obtain ⟨e, he⟩ : ∃ e, E.o = e := ⟨_, rfl⟩
   have HE : Hid (wr.rangeAt g (off + i * 9) e.cells) := range_kept (HS0.out.rngO i e (by rw [HAL.out, List.getElem?_map, hE, ← he]; rfl)) hkr
   have HEI := Lib.hid hE
   have HEO := Lib.hid he
   have HB6r := Lib.hid (HB60.out.kept hkr)
   clear hE he
   go_upto_region 3 with fail
   refine wp_text 3 [pE g (off + i * 9), .eq (e.v), .fresh wr.heap.size 24 zeroO.cells] rfl (by kernel_rfl) ?_ ?_
   ·refine sW 1 rfl (fun a u E D hk=>exec_ixo slO _ _ (g) (off) n c i (off + i * 9) ((i : Int)) rfl (eE E) (eE E) (by first | rfl | omega) (hlt) (by first | rfl | omega)) ?_
    refine sD 2 23 0 e.cells Try.underlying24 (fun u hk=>range_kept HE.out hk) (by rw [e.len9]; exact ord_size) ?_
    refine nW 3 rfl (fun a u E D hk=>⟨_, _, exec_alc 24 zeroO.cells rfl zO, ⟨_, rfl, hk.size, Blk.new u _ _⟩, ((Keep.refl _ u).alloc _)⟩) ?_
    exact fz
   intro gv w1 hV k1
   rw [dq 3 [23,24,9]]
   simp only [Fz7]
   have hv9 : (.fresh wr.heap.size 24 zeroO.cells : Kn).p (gv 9) w1 := hV 2 9 (by kernel_rfl)
   generalize gv 9 = v9 at hv9 ⊢
   rw [gQ hV 1 24 e.v]
   clear hV
   obtain ⟨b9, rfl, hb9, hB9⟩ := hv9
   refine l_setS 24 b9 24 zeroO.cells e.cells _ _ rfl rfl (by kernel_rfl) (by kernel_rfl) hB9 (by rw [Ord.len9]; exact ord_size) (by rw [Ord.len9, Ord.len9]) (Ord.one1 _) ?_
   intro w2 hB2 hk2 hs2
   simp only [Act.put]
   refine wpList_nil ?_
   have k12 : Kept wr w2 := k1.trans' hk2 (by omega)
   have kw2 := hkr.trans k12
   have HB9 := Lib.hid (blk_range hB2)
   have HB62 := Lib.hid (HB6r.out.kept k12)
   have zr := hkr.size
   clear hB9 hB2 hk2 hs2 k1 HE HB6r k12
   by_cases hc1 : e.tr = t
   ·by_cases hc2 : e.id = j
    ·have HR : Hid (B.find t j = (e, true)) := by
      show _ = _
      have h1 := idx_of HM.out HEI.out (by rw [← HEO.out] at hc1 hc2; simp [Ent.is, hc1, hc2])
      unfold Bok.find findE
      rw [h1, HEI.out]
      simp only
      rw [HEO.out]
     go_upto_region 4 with fail
     refine wEp 9 [pV b9 0, iV e.tr, iV t, bV true, bV true, pV b9 1, iV e.id, iV j, bV true] [25,26,27,28,29,30,31,32,33] ?_ ?_
     ·refine fE 1 9 24 0 0 0 ?_
      refine lD 2 25 0 Try.underlying3 (fun u hk=>range_int (range_kept HB9.out hk) 0 _ rfl) ?_
      refine mE 3 1 ?_
      refine aS 4 rfl (fun a u E D hk=>exec_eqn rfl (dD D 1) (dD D 2)) (decide_eq_true hc1) ?_
      refine mD 5 28 3 ?_
      refine fE 6 9 24 1 1 0 ?_
      refine lD 7 30 5 Try.underlying3 (fun u hk=>range_int (range_kept HB9.out hk) 1 _ rfl) ?_
      refine mE 8 2 ?_
      refine aS 9 rfl (fun a u E D hk=>exec_eqn rfl (dD D 6) (dD D 7)) (decide_eq_true hc2) ?_
      exact fz
     intro w3 k3
     simp only [F8]
     refine l_val (.bool true) rfl (exec_pick (.tmp 29) (.tmp 33) (.const (.bool false)) (.bool true) rfl (by kernel_rfl) (by kernel_rfl)) ?_
     simp only [Act.put, sA, sS, sZ]
     refine wpList_nil ?_
     have kw3 := kw2.trans k3
     have HB93 := Lib.hid (range_kept HB9.out k3)
     have HB63 := Lib.hid (HB62.out.kept k3)
     clear HM HB9 HB62 kw2 k3 hc1 hc2
     go_upto_region 5 with fail
     refine wEp 1 [e.v] [35] ?_ ?_
     ·refine sE 1 9 b9 0 e.cells Try.underlying24 (fun u hk=>range_kept HB93.out hk) (by rw [e.len9]; exact ord_size) ?_
      exact fz
     intro w4 k4
     simp only [F8]
     refine l_setS 24 b6 24 zeroO.cells e.cells _ _ rfl rfl (by kernel_rfl) (by kernel_rfl) (HB63.out.kept k4) (by rw [Ord.len9]; exact ord_size) (by rw [Ord.len9, Ord.len9]) (Ord.one1 _) ?_
     intro w5 hB5 hk5 hs5
     simp only [Act.put]
     refine l_val (.bool true) rfl (exec_assign _ _ rfl (by kernel_rfl)) ?_
     simp only [Act.put, sA, sS, sZ]
     refine wpList_nil ?_
     go_wp2
     refine bodyPost_ret (results_cell2 (p := 6) (q := 7) rfl _ _ b6 _ e.cells true rfl rfl hB5 Try.underlying24 (by rw [Ord.len9]; exact ord_size)) rfl ?_
     rw [HR.out]
     exact ⟨rfl, ((k00.trans kw3).trans k4).trans' hk5 (by omega)⟩
    ·skip
     go_upto_region 4 with fail
     refine wEp 9 [pV b9 0, iV e.tr, iV t, bV true, bV true, pV b9 1, iV e.id, iV j, bV false] [25,26,27,28,29,30,31,32,33] ?_ ?_
     ·refine fE 1 9 24 0 0 0 ?_
      refine lD 2 25 0 Try.underlying3 (fun u hk=>range_int (range_kept HB9.out hk) 0 _ rfl) ?_
      refine mE 3 1 ?_
      refine aS 4 rfl (fun a u E D hk=>exec_eqn rfl (dD D 1) (dD D 2)) (decide_eq_true hc1) ?_
      refine mD 5 28 3 ?_
      refine fE 6 9 24 1 1 0 ?_
      refine lD 7 30 5 Try.underlying3 (fun u hk=>range_int (range_kept HB9.out hk) 1 _ rfl) ?_
      refine mE 8 2 ?_
      refine aS 9 rfl (fun a u E D hk=>exec_eqn rfl (dD D 6) (dD D 7)) (decide_eq_false hc2) ?_
      exact fz
     intro w3 k3
     simp only [F8]
     refine l_val (.bool false) rfl (exec_pick (.tmp 29) (.tmp 33) (.const (.bool false)) (.bool false) rfl (by kernel_rfl) (by kernel_rfl)) ?_
     simp only [Act.put, sA, sS, sZ]
     refine wpList_nil ?_
     have kw3 := kw2.trans k3
     have HM2 : Hid (∀ (j' : Nat) (x : Ent), j' < i + 1 → B.all[j']? = some x → x.is t j = false) := by
      intro j' x hj hx
      by_cases hjk : j' = i
      ·subst hjk
       rw [HEI.out] at hx
       injection hx with hx
       rw [← hx]
       have hE1 := HEO.out
       subst hE1
       simp [Ent.is]
       exact fun _ => hc2
      ·exact HM.out j' x (by omega) hx
     clear HM k3
     go_wp2
     exact ⟨⟨i + 1, by omega, by go_num, HM2, kw3⟩, by simp [intOf]; omega⟩
   ·skip
    go_upto_region 4 with fail
    refine wEp 9 [pV b9 0, iV e.tr, iV t, bV false, bV false, undef, undef, undef, undef] [25,26,27,28,29,30,31,32,33] ?_ ?_
    ·refine fE 1 9 24 0 0 0 ?_
     refine lD 2 25 0 Try.underlying3 (fun u hk=>range_int (range_kept HB9.out hk) 0 _ rfl) ?_
     refine mE 3 1 ?_
     refine aS 4 rfl (fun a u E D hk=>exec_eqn rfl (dD D 1) (dD D 2)) (decide_eq_false hc1) ?_
     refine mD 5 28 3 ?_
     refine kS 6 4 ?_
     refine kS 7 4 ?_
     refine kS 8 4 ?_
     refine kS 9 4 ?_
     exact fz
    intro w3 k3
    simp only [F8]
    refine l_val (.bool false) rfl (exec_pickF (.tmp 29) (.tmp 33) (.const (.bool false)) (.bool false) rfl (by kernel_rfl) rfl) ?_
    simp only [Act.put, sA, sS, sZ]
    refine wpList_nil ?_
    have kw3 := kw2.trans k3
    have HM2 : Hid (∀ (j' : Nat) (x : Ent), j' < i + 1 → B.all[j']? = some x → x.is t j = false) := by
     intro j' x hj hx
     by_cases hjk : j' = i
     ·subst hjk
      rw [HEI.out] at hx
      injection hx with hx
      rw [← hx]
      have hE1 := HEO.out
      subst hE1
      simp [Ent.is]
      exact fun h => absurd h hc1
     ·exact HM.out j' x (by omega) hx
    clear HM k3
    go_wp2
    exact ⟨⟨i + 1, by omega, by go_num, HM2, kw3⟩, by simp [intOf]; omega⟩
  ·have HR : Hid (B.find t j = (zeroO, false)) := by
    show _ = _
    have h1 : idxM t j B.all = B.all.length := idx_none (fun j' x hj hx => HM.out j' x (by rw [HAN.out] at hj; omega) hx)
    unfold Bok.find findE
    rw [h1, List.getElem?_eq_none (Nat.le_refl _)]
   have HB6r := Lib.hid (HB60.out.kept hkr)
   clear HM
   go_upto_region 7 with fail
   refine wEp 1 [zeroO.v] [37] ?_ ?_
   ·refine sW 1 rfl (fun a u E D hk=>exec_build 24 [] zeroO.cells rfl (by kernel_rfl)) ?_
    exact fz
   intro w4 k4
   simp only [F8]
   refine l_setS 24 b6 24 zeroO.cells zeroO.cells _ _ rfl rfl (by kernel_rfl) (by kernel_rfl) (HB6r.out.kept k4) (by rw [Ord.len9]; exact ord_size) rfl (Ord.one1 _) ?_
   intro w5 hB5 hk5 hs5
   simp only [Act.put]
   refine l_val (.bool false) rfl (exec_assign _ _ rfl (by kernel_rfl)) ?_
   simp only [Act.put, sA, sS, sZ]
   refine wpList_nil ?_
   go_wp2
   refine bodyPost_ret (results_cell2 (p := 6) (q := 7) rfl _ _ b6 _ zeroO.cells false rfl rfl hB5 Try.underlying24 (by rw [Ord.len9]; exact ord_size)) rfl ?_
   rw [HR.out]
   exact ⟨rfl, ((k00.trans hkr).trans k4).trans' hk5 (by omega)⟩
theorem visible_any (c : Ord) (w : World) : Gives 104 #[c.v] w (.eq (.int .i64 c.tip)) := by
 refine gives_eq ?_
 go_enter Try.func104, Try.ntmps104
 go_upto_region 0 with fail
 refine wp_text 2 [.fresh w.heap.size 24 (c.cells), iE 0] rfl (by kernel_rfl) ?_ ?_
 ·refine nW 1 rfl (fun a u E D hk=>⟨_, _, exec_box 24 _ (c.cells) rfl (eE E), ⟨_, rfl, hk.size, Blk.new u _ _⟩, ((Keep.refl _ u).alloc _)⟩) ?_
  refine sW 2 rfl (fun a u E D hk=>exec_assign _ _ rfl rfl) ?_
  exact fz
 intro gv w1 hV k1
 rw [dq 2 [1,2]]
 simp only [Fz7]
 have hv1 : (.fresh w.heap.size 24 (c.cells) : Kn).p (gv 1) w1 := hV 0 1 (by kernel_rfl)
 generalize gv 1 = v1 at hv1 ⊢
 rw [gQ hV 1 2 (.int .i64 0)]
 clear hV
 obtain ⟨g, rfl, hg, hB⟩ := hv1
 refine wpList_nil ?_
 have HB := Lib.hid (blk_range hB)
 clear hB
 by_cases hs : 0 < c.shw
 ·have HT : Hid (c.tip = mn c.shw c.qty) := by show _ = _; unfold Ord.tip; rw [if_pos hs]
  go_upto_region 1 with fail
  refine wE 3 [pV g 7, iV c.shw, bV true] [3,4,5] ?_ ?_
  ·refine fE 1 1 24 7 7 0 ?_
   refine lD 2 3 0 Try.underlying3 (fun u hk=>range_int (range_kept HB.out hk) 7 _ rfl) ?_
   refine aS 3 rfl (fun a u E D hk=>exec_gtn rfl (dD D 1) rfl) (decide_eq_true hs) ?_
   exact fz
  intro w2 k2
  simp only [F8]
  have HB2 := Lib.hid (range_kept HB.out k2)
  clear HB hs
  go_upto_region 2 with fail
  refine wE 6 [pV g 7, iV c.shw, pV g 6, iV c.qty, iV (mn (c.shw) (c.qty)), iV (mn (c.shw) (c.qty))] [6,7,8,9,10,2] ?_ ?_
  ·refine fE 1 1 24 7 7 0 ?_
   refine lD 2 6 0 Try.underlying3 (fun u hk=>range_int (range_kept HB2.out hk) 7 _ rfl) ?_
   refine fE 3 1 24 6 6 0 ?_
   refine lD 4 8 2 Try.underlying3 (fun u hk=>range_int (range_kept HB2.out hk) 6 _ rfl) ?_
   refine sW 5 rfl (fun a u E D hk=>exec_min _ _ _ (c.shw) (c.qty) (mn (c.shw) (c.qty)) rfl (dD D 1) (dD D 3) rfl) ?_
   refine mD 6 10 4 ?_
   exact fz
  intro w3 k3
  simp only [F8]
  go_wp2
  go_ret
  exact ⟨by rw [HT.out]; rfl, (k1.trans k2).trans k3⟩
 ·have HT : Hid (c.tip = c.qty) := by show _ = _; unfold Ord.tip; rw [if_neg hs]
  go_upto_region 1 with fail
  refine wE 3 [pV g 7, iV c.shw, bV false] [3,4,5] ?_ ?_
  ·refine fE 1 1 24 7 7 0 ?_
   refine lD 2 3 0 Try.underlying3 (fun u hk=>range_int (range_kept HB.out hk) 7 _ rfl) ?_
   refine aS 3 rfl (fun a u E D hk=>exec_gtn rfl (dD D 1) rfl) (decide_eq_false hs) ?_
   exact fz
  intro w2 k2
  simp only [F8]
  have HB2 := Lib.hid (range_kept HB.out k2)
  clear HB hs
  go_upto_region 3 with fail
  refine wE 3 [pV g 6, iV c.qty, iV c.qty] [11,12,2] ?_ ?_
  ·refine fE 1 1 24 6 6 0 ?_
   refine lD 2 11 0 Try.underlying3 (fun u hk=>range_int (range_kept HB2.out hk) 6 _ rfl) ?_
   refine mD 3 12 1 ?_
   exact fz
  intro w3 k3
  simp only [F8]
  go_wp2
  go_ret
  exact ⟨by rw [HT.out]; rfl, (k1.trans k2).trans k3⟩
def capo (g : Nat) : List Value := [.pointer (some ⟨g, 0, none⟩)]
def cloO (g : Nat) : Value := .func (.func 101) #[] (capo g).toArray
theorem exec_mkfO {a : Act} {o : Oper} {u : World} (x : Operand) (g : Nat) (hop : o.op = .makeFunc (.func 101) #[] #[x]) (hx : a.eval x = .pointer (some ⟨g, 0, none⟩)) : (execOp a.eval o).run Try.prog u = .ok (.value (cloO g)) u := by
 unfold execOp
 simp only [hop, Instr.makeFunc, List.map_toArray, List.map_cons, List.map_nil, hx]
 rfl
set_option maxRecDepth 100000 in
theorem own_any (c : Ord) (firm : Int) (g1 : Nat) (w : World) (h1 : Blk w g1 3 [.int .i64 firm]) : Gives 101 #[c.v, .pointer (some ⟨g1, 0, none⟩)] w (.eq (.bool (decide (c.firm = firm)))) := by
 refine gives_eq ?_
 have H1 := Lib.hid h1
 clear h1
 go_enter Try.func101, Try.ntmps101
 go_upto_region 0 with fail
 refine wp_text 2 [.fresh w.heap.size 24 (c.cells), bE false] rfl (by kernel_rfl) ?_ ?_
 ·refine nW 1 rfl (fun a u E D hk=>⟨_, _, exec_box 24 _ (c.cells) rfl (eE E), ⟨_, rfl, hk.size, Blk.new u _ _⟩, ((Keep.refl _ u).alloc _)⟩) ?_
  refine sW 2 rfl (fun a u E D hk=>exec_assign _ _ rfl rfl) ?_
  exact fz
 intro gv w1 hV k1
 rw [dq 2 [2,3]]
 simp only [Fz7]
 have hv2 : (.fresh w.heap.size 24 (c.cells) : Kn).p (gv 2) w1 := hV 0 2 (by kernel_rfl)
 generalize gv 2 = v2 at hv2 ⊢
 clear hV
 obtain ⟨g, rfl, hg, hB⟩ := hv2
 refine wpList_nil ?_
 have HB := Lib.hid (blk_range hB)
 have H11 := Lib.hid (H1.out.kept k1)
 clear hB H1
 go_upto_region 1 with fail
 refine wE 5 [pV g 2, iV c.firm, iV firm, bV (decide ((c.firm : Int) = (firm : Int))), bV (decide ((c.firm : Int) = (firm : Int)))] [4,5,6,7,3] ?_ ?_
 ·refine fE 1 2 24 2 2 0 ?_
  refine lD 2 4 0 Try.underlying3 (fun u hk=>range_int (range_kept HB.out hk) 2 _ rfl) ?_
  refine sW 3 rfl (fun a u E D hk=>exec_loadi 3 Try.underlying3 _ ⟨g1, 0, none⟩ (.int .i64 firm) rfl (eE E) (by rw [(H11.out.kept hk).cell]; rfl)) ?_
  refine sW 4 rfl (fun a u E D hk=>exec_eqn rfl (dD D 1) (dD D 2)) ?_
  refine mD 5 7 3 ?_
  exact fz
 intro w2 k2
 simp only [F8]
 go_wp2
 go_ret
 exact ⟨rfl, k1.trans k2⟩
def ownP (firm : Int) (X : List Ent) : Int := if ownAt firm X < X.length then (ownAt firm X : Int) else -1
theorem ownAt_of {firm : Int} {X : List Ent} {k : Nat} {e : Ent} (h : ∀ (j : Nat) (x : Ent), j < k → X[j]? = some x → decide (x.o.firm = firm) = false) (he : X[k]? = some e) (hm : decide (e.o.firm = firm) = true) : ownAt firm X = k := by
 obtain ⟨hk, he'⟩ := List.getElem?_eq_some_iff.1 he
 unfold ownAt
 rw [List.findIdx_eq hk]
 refine ⟨by rw [he']; exact hm, fun j hj => ?_⟩
 have := h j X[j] hj (List.getElem?_eq_getElem (by omega))
 simpa using this
theorem ownAt_none {firm : Int} {X : List Ent} (h : ∀ (j : Nat) (x : Ent), j < X.length → X[j]? = some x → decide (x.o.firm = firm) = false) : ownAt firm X = X.length := by
 unfold ownAt
 rw [List.findIdx_eq_length]
 intro x hx
 obtain ⟨j, hj, rfl⟩ := List.getElem_of_mem hx
 exact h j _ hj (List.getElem?_eq_getElem hj)
set_option maxRecDepth 100000 in
set_option maxHeartbeats 800000 in
theorem oidx_any (v : Value) (X : List Ent) (firm : Int) (g1 : Nat) (w : World) (hS : Sl w 24 9 v X.length (ords (X.map (·.o)))) (hlen : X.length ≤ 100000000) (h1 : Blk w g1 3 [.int .i64 firm]) :
  Gives 52 #[v, cloO g1] w (.eq (.int .i64 (ownP firm X))) := by
 refine gives_eq ?_
 obtain ⟨n, hn⟩ : ∃ n, X.length = n := ⟨_, rfl⟩
 rw [hn] at hS hlen
 have HN := Lib.hid hn
 have HS := Lib.hid hS
 have H1 := Lib.hid h1
 clear hS h1 hn
 go_enter Try.func52, Try.ntmps52
 go_upto_region 1 with fail
 refine wE 3 [v, iV (n : Int), iV 0] [6,7,8] ?_ ?_
 ·refine mE 1 0 ?_
  refine sW 2 rfl (fun a u E D hk=>exec_lenS _ slO _ _ _ _ rfl (dD D 0) HS.out) ?_
  refine sW 3 rfl (fun a u E D hk=>exec_move _ _ rfl rfl) ?_
  exact fz
 intro w0 k0
 simp only [F8]
 go_wp2_with fail
 go_loopw [8] (fun q wr => ∃ (k : Nat), k ≤ n ∧ q = .int .i64 (k : Int) ∧ Hid (∀ (j : Nat) (x : Ent), j < k → X[j]? = some x → decide (x.o.firm = firm) = false) ∧ Kept w wr) (fun q _ => n - (intOf q).toNat)
 case atStart => exact ⟨0, Nat.zero_le _, rfl, fun j x hj => (by omega), k0⟩
 case round =>
  obtain ⟨k, hk, rfl, HM, hkr⟩ := hrel
  by_cases hlt : k < n
  ·obtain ⟨g, off, c, rfl⟩ := HS.out.some_ (by omega)
   obtain ⟨e, he⟩ : ∃ e, X[k]? = some e := ⟨X[k]'(by rw [HN.out]; exact hlt), List.getElem?_eq_getElem (by rw [HN.out]; exact hlt)⟩
   have HE : Hid (wr.rangeAt g (off + k * 9) e.o.cells) := range_kept (HS.out.rngO k e.o (by rw [List.getElem?_map, he]; rfl)) hkr
   have H1r := Lib.hid (H1.out.kept hkr)
   have HEI := Lib.hid he
   clear he
   by_cases hm : decide (e.o.firm = firm) = true
   ·have HP : Hid (ownP firm X = (k : Int)) := by
     show _ = _
     have h1 := ownAt_of HM.out HEI.out hm
     unfold ownP
     rw [h1, if_pos (by rw [HN.out]; exact hlt)]
    go_upto_region 4 with fail
    refine wE 6 [cloO g1, .slice (some ⟨g, off, none⟩) n c, iV (k : Int), pV g (off + k * 9), e.o.v, bV true] [11,12,13,14,15,16] ?_ ?_
    ·refine mE 1 1 ?_
     refine mE 2 0 ?_
     refine mE 3 5 ?_
     refine sW 4 rfl (fun a u E D hk=>exec_ixo slO _ _ (g) (off) n c k (off + k * 9) ((k : Int)) rfl (dD D 1) (dD D 2) (by first | rfl | omega) (hlt) (by first | rfl | omega)) ?_
     refine sD 5 14 3 e.o.cells Try.underlying24 (fun u hk=>range_kept HE.out hk) (by rw [e.o.len9]; exact ord_size) ?_
     refine fsteps_cons 6 rfl (fun a u hE hD hk => f_call 101 #[e.o.v, .pointer (some ⟨g1, 0, none⟩)] rfl (wanted_none rfl _) (exec_callv 101 _ (.tmp 11) [.tmp 15] _ [e.o.v] (capo g1) Try.func101 (by kernel_rfl) (by kernel_rfl) rfl (dD hD 0) (show [a.eval (.tmp 15)] = [e.o.v] by rw [show a.eval (.tmp 15) = e.o.v from (dD hD 4)])) (by rw [← hm]; exact own_any e.o firm g1 u (H1r.out.kept hk))) ?_
     exact fz
    intro w1 k1
    simp only [F8]
    have kw1 := hkr.trans k1
    clear hkr k1 hm
    go_wp2
    go_ret
    exact ⟨by rw [HP.out]; rfl, kw1⟩
   ·have hm' : decide (e.o.firm = firm) = false := by simpa using hm
    have HM2 : Hid (∀ (j : Nat) (x : Ent), j < k + 1 → X[j]? = some x → decide (x.o.firm = firm) = false) := by
     intro j x hj hx
     by_cases hjk : j = k
     ·subst hjk
      rw [HEI.out] at hx
      injection hx with hx
      rw [← hx]
      exact hm'
     ·exact HM.out j x (by omega) hx
    clear hm
    go_upto_region 4 with fail
    refine wE 6 [cloO g1, .slice (some ⟨g, off, none⟩) n c, iV (k : Int), pV g (off + k * 9), e.o.v, bV false] [11,12,13,14,15,16] ?_ ?_
    ·refine mE 1 1 ?_
     refine mE 2 0 ?_
     refine mE 3 5 ?_
     refine sW 4 rfl (fun a u E D hk=>exec_ixo slO _ _ (g) (off) n c k (off + k * 9) ((k : Int)) rfl (dD D 1) (dD D 2) (by first | rfl | omega) (hlt) (by first | rfl | omega)) ?_
     refine sD 5 14 3 e.o.cells Try.underlying24 (fun u hk=>range_kept HE.out hk) (by rw [e.o.len9]; exact ord_size) ?_
     refine fsteps_cons 6 rfl (fun a u hE hD hk => f_call 101 #[e.o.v, .pointer (some ⟨g1, 0, none⟩)] rfl (wanted_none rfl _) (exec_callv 101 _ (.tmp 11) [.tmp 15] _ [e.o.v] (capo g1) Try.func101 (by kernel_rfl) (by kernel_rfl) rfl (dD hD 0) (show [a.eval (.tmp 15)] = [e.o.v] by rw [show a.eval (.tmp 15) = e.o.v from (dD hD 4)])) (by rw [← hm']; exact own_any e.o firm g1 u (H1r.out.kept hk))) ?_
     exact fz
    intro w1 k1
    simp only [F8]
    have kw1 := hkr.trans k1
    clear hkr k1 hm'
    go_wp2
    exact ⟨⟨k + 1, by omega, by go_num, HM2, kw1⟩, by simp [intOf]; omega⟩
  ·have HP : Hid (ownP firm X = -1) := by
    show _ = _
    have h1 : ownAt firm X = X.length := ownAt_none (fun j x hj hx => HM.out j x (by rw [HN.out] at hj; omega) hx)
    unfold ownP
    rw [h1, if_neg (by omega)]
   clear HM
   go_wp2
   go_ret
   exact ⟨by rw [HP.out]; rfl, hkr⟩
def reachV (firm : Int) (X : List Ent) : Value := .tuple #[.int .i64 (reachM firm X).1, .bool (reachM firm X).2]
theorem tip_bound {X : List Ent} (hX : Good X) {e : Ent} (he : e ∈ X) : e.o.tip ≤ 100000000 ∧ -100000000 ≤ e.o.tip := by
 have h1 := hX.ok e he
 have h2 := hX.few
 obtain ⟨i, hi, he'⟩ := List.getElem_of_mem he
 have h3 := wholeM_le hX.ok i e (by rw [List.getElem?_eq_getElem hi, he'])
 unfold Ord.tip mn
 split
 ·split <;> omega
 ·omega
set_option maxRecDepth 100000 in
set_option maxHeartbeats 1600000 in
theorem reach_any (pr : Int) (w : World) (F : Nat → Prop) (q : Nat) (X : List Ent) (firm : Int) (h : Lvl pr 96 98 w F q X) (hX : Good X) (hf : Fresh X) : Gives 95 #[.pointer (some ⟨q, 0, none⟩), .int .i64 firm] w (.eq (reachV firm X)) := by
 refine gives_eq ?_
 have HLV := Lib.hid h
 have HX := Lib.hid hX
 have HF := Lib.hid hf
 have hlen := hX.len
 have hfew := hX.few
 have HW : Hid (0 ≤ seenM X ∧ seenM X ≤ 100000000) := by
  have := whole_ge hX.ok
  show _ ∧ _
  omega
 clear h hX hf hfew
 go_enter Try.func95, Try.ntmps95
 go_upto_region 0 with fail
 refine wp_text 3 [.fresh w.heap.size 3 ([.int .i64 firm]), iE 0, bE false] rfl (by kernel_rfl) ?_ ?_
 ·refine nW 1 rfl (fun a u E D hk=>⟨_, _, exec_boxi 3 _ (.int .i64 firm) rfl (eE E) rfl, ⟨_, rfl, hk.size, Blk.new u _ _⟩, ((Keep.refl _ u).alloc _)⟩) ?_
  refine sW 2 rfl (fun a u E D hk=>exec_assign _ _ rfl rfl) ?_
  refine sW 3 rfl (fun a u E D hk=>exec_assign _ _ rfl rfl) ?_
  exact fz
 intro gv w0 hV k0
 rw [dq 3 [3,4,5]]
 simp only [Fz7]
 have hv3 : (.fresh w.heap.size 3 ([.int .i64 firm]) : Kn).p (gv 3) w0 := hV 0 3 (by kernel_rfl)
 generalize gv 3 = v3 at hv3 ⊢
 rw [gQ hV 1 4 (.int .i64 0)]
 rw [gQ hV 2 5 (.bool false)]
 clear hV
 obtain ⟨g1, rfl, hg1, hB1⟩ := hv3
 refine wpList_nil ?_
 have HB1 := Lib.hid hB1
 have HL0 := Lib.hid (HLV.out.kept k0)
 clear hB1 HLV
 obtain ⟨n, hn⟩ : ∃ n, X.length = n := ⟨_, rfl⟩
 have HN := Lib.hid hn
 go_upto_region 1 with fail
 refine wp_text 3 [pE q 0, .sl w0.heap.size 24 9 n (ords (X.map (·.o))), .sl w0.heap.size 24 9 n (ords (X.map (·.o)))] rfl (by kernel_rfl) ?_ ?_
 ·refine mE 1 0 ?_
  refine cS 2 54 [.pointer (some ⟨q, 0, none⟩)] rfl Try.func54 rfl (fun a u E D hk=>⟨ll (dD D 0) rfl, (by rw [← HN.out]; exact gives_base (orders_any u F q X (HL0.out.kept hk) HX.out) hk.size)⟩) ?_
  refine fsteps_cons 3 rfl (fun a u hE hD hk => f_val _ rfl (wanted_none rfl _) (exec_assign (.tmp 12) _ rfl rfl) (dD hD 1)) ?_
  exact fz
 intro gv w1 hV k1
 rw [dq 3 [11,12,6]]
 simp only [Fz7]
 have hv6 : (.sl w0.heap.size 24 9 n (ords (X.map (·.o))) : Kn).p (gv 6) w1 := hV 2 6 (by kernel_rfl)
 generalize gv 6 = v6 at hv6 ⊢
 clear hV
 obtain ⟨v, hv⟩ : ∃ v, v = v6 := ⟨_, rfl⟩
 subst hv
 refine wpList_nil ?_
 have HS1 := Lib.hid hv6.1
 have HL1 := Lib.hid (HL0.out.kept k1)
 have HB11 := Lib.hid (HB1.out.kept k1)
 have kw1 := k0.trans k1
 rw [hn] at hlen
 clear HL0 HB1 k0 k1 hv6 hn
 go_upto_region 2 with fail
 refine wE 4 [v, cloO g1, iV (ownP firm X), iV (ownP firm X)] [13,14,15,7] ?_ ?_
 ·refine mE 1 6 ?_
  refine sW 2 rfl (fun a u E D hk=>exec_mkfO _ g1 rfl (eE E)) ?_
  refine cS 3 52 [v, cloO g1] rfl Try.func52 rfl (fun a u E D hk=>⟨ll (dD D 0) (ll (dD D 1) rfl), oidx_any v X firm g1 u (by rw [HN.out]; exact HS1.out.kept hk) (by rw [HN.out]; exact hlen) (HB11.out.kept hk)⟩) ?_
  refine mD 4 15 2 ?_
  exact fz
 intro w2 k2
 simp only [F8]
 have kw2 := kw1.trans k2
 have HL2 := Lib.hid (HL1.out.kept k2)
 have HS2 := Lib.hid (HS1.out.kept k2)
 clear HL1 HS1 HB11 kw1
 by_cases hown : ownAt firm X < n
 ·skip
  obtain ⟨k, hk0⟩ : ∃ k, ownAt firm X = k := ⟨_, rfl⟩
  have hP : ownP firm X = (k : Int) := by unfold ownP; rw [if_pos (by rw [HN.out]; exact hown), hk0]
  rw [hP]
  have HR : Hid (reachM firm X = (seenM (X.take k), true)) := by show _ = _; unfold reachM; rw [if_pos (by rw [HN.out]; exact hown), hk0]
  rw [hk0] at hown
  clear hP hk0
  by_cases hz : k = 0
  ·subst hz
   have HR0 : Hid (reachV firm X = .tuple #[.int .i64 0, .bool true]) := by show _ = _; unfold reachV; rw [HR.out]; rfl
   clear HR
   go_wp2
   go_ret2
   rw [HR0.out]
   exact ⟨rfl, kw2⟩
  ·have hz1 : ¬ ((k : Int) = 0) := by omega
   have hz2 : ¬ ((k : Int) = -1) := by omega
   have d1 : decide ((k : Int) = 0) = false := decide_eq_false hz1
   have d2 : decide ((k : Int) = -1) = false := decide_eq_false hz2
   obtain ⟨vs, hvs, hvo, hvS⟩ := slice_lS slO v n k (by omega) _ w2 HS2.out
   have HVS := Lib.hid hvs
   have HVT : Hid (∀ u, Kept w2 u → Sl u 24 9 vs (n - k) (ords ((X.drop k).map (·.o)))) := fun u hk => by
    have := hvS u _ (HS2.out.kept hk)
    rw [show (ords (X.map (·.o))).drop (k * 9) = ords ((X.map (·.o)).drop k) from flat_drop Ord.cells 9 Ord.len9 _ k, ← List.map_drop] at this
    exact this
   clear hvs hvo hvS
   go_upto_region 8 with fail
   refine wE 3 [pV q 0, iV (seenM X), iV (seenM X)] [23,24,8] ?_ ?_
   ·refine mE 1 0 ?_
    refine cS 2 103 [.pointer (some ⟨q, 0, none⟩)] rfl Try.func103 rfl (fun a u E D hk=>⟨ll (dD D 0) rfl, seen_any u F q X (HL2.out.kept hk) HX.out⟩) ?_
    refine mD 3 24 1 ?_
    exact fz
   intro w3 k3
   simp only [F8]
   have HV3 := Lib.hid (HVT.out w3 k3)
   have kw3 := kw2.trans k3
   obtain ⟨m, hm⟩ : ∃ m, n - k = m := ⟨_, rfl⟩
   have hmn : k + m = n := by omega
   rw [hm] at HV3
   clear hm
   go_upto_region 9 with fail
   refine wE 5 [v, iV (k : Int), vs, iV (m : Int), iV 0] [25,26,27,28,29] ?_ ?_
   ·refine mE 1 6 ?_
    refine mE 2 7 ?_
    refine sW 3 rfl (fun a u E D hk=>exec_slcL slO _ _ v vs _ rfl (dD D 0) (dD D 1) (HVS.out u)) ?_
    refine sW 4 rfl (fun a u E D hk=>exec_lenS _ slO _ _ _ _ rfl (dD D 2) HV3.out) ?_
    refine sW 5 rfl (fun a u E D hk=>exec_move _ _ rfl rfl) ?_
    exact fz
   intro w4 k4
   simp only [F8]
   have kw4 := kw3.trans k4
   have HV4 := Lib.hid (HV3.out.kept k4)
   clear HVS HVT HV3 HL2 HS2 kw2 kw3 k3 k4
   go_wp2_with fail
   go_loopw [8, 29] (fun t x wr => ∃ (i : Nat) (s : Int), i ≤ m ∧ x = .int .i64 i ∧ t = .int .i64 s ∧ Hid (s = seenM X - seenM ((X.drop k).take i)) ∧ Kept w4 wr) (fun _ x _ => m - (intOf x).toNat)
   case atStart => exact ⟨0, seenM X, Nat.zero_le _, rfl, rfl, by show _ = _; rw [List.take_zero]; simp [seenM, sumI], Kept.refl _⟩
   case round =>
    obtain ⟨i, s, hi, rfl, rfl, HSM, hkr⟩ := hrel
    by_cases hlt : i < m
    ·skip
     obtain ⟨g, off, c, rfl⟩ := HV4.out.some_ (by omega)
     obtain ⟨e, he⟩ : ∃ e, X[k + i]? = some e := ⟨X[k + i]'(by rw [HN.out]; omega), List.getElem?_eq_getElem (by rw [HN.out]; omega)⟩
     have HE : Hid (wr.rangeAt g (off + i * 9) e.o.cells) := range_kept (HV4.out.rngO i e.o (by rw [List.getElem?_map, List.getElem?_drop, he]; rfl)) hkr
     have HEI := Lib.hid he
     clear he
     go_upto_region 11 with fail
     refine wp_text 3 [pE g (off + i * 9), .eq (e.o.v), .fresh wr.heap.size 24 zeroO.cells] rfl (by kernel_rfl) ?_ ?_
     ·refine sW 1 rfl (fun a u E D hk=>exec_ixo slO _ _ (g) (off) m c i (off + i * 9) ((i : Int)) rfl (eE E) (eE E) (by first | rfl | omega) (hlt) (by first | rfl | omega)) ?_
      refine sD 2 31 0 e.o.cells Try.underlying24 (fun u hk=>range_kept HE.out hk) (by rw [e.o.len9]; exact ord_size) ?_
      refine nW 3 rfl (fun a u E D hk=>⟨_, _, exec_alc 24 zeroO.cells rfl zO, ⟨_, rfl, hk.size, Blk.new u _ _⟩, ((Keep.refl _ u).alloc _)⟩) ?_
      exact fz
     intro gv w5 hV k5
     rw [dq 3 [31,32,10]]
     simp only [Fz7]
     have hv10 : (.fresh wr.heap.size 24 zeroO.cells : Kn).p (gv 10) w5 := hV 2 10 (by kernel_rfl)
     generalize gv 10 = v10 at hv10 ⊢
     rw [gQ hV 1 32 e.o.v]
     clear hV
     obtain ⟨b5, rfl, hb5, hB5⟩ := hv10
     refine l_setS 24 b5 24 zeroO.cells e.o.cells _ _ rfl rfl (by kernel_rfl) (by kernel_rfl) hB5 (by rw [Ord.len9]; exact ord_size) (by rw [Ord.len9, Ord.len9]) (Ord.one1 _) ?_
     intro w6 hB6 hk6 hs6
     simp only [Act.put]
     refine wpList_nil ?_
     have kw6 : Kept wr w6 := k5.trans' hk6 (by omega)
     have HB6 := Lib.hid (blk_range hB6)
     clear hB5 hB6 hk6 HE k5 hs6
     have HM1 : Hid (s - e.o.tip = seenM X - seenM ((X.drop k).take (i + 1))) := by
      show _ = _
      rw [HSM.out, List.take_add_one, List.getElem?_drop, HEI.out, seenM_append]
      have h1 : e.n = e.o.tip := HF.out e (by
       rw [← List.drop_one, List.mem_iff_getElem?]
       exact ⟨k + i - 1, by rw [List.getElem?_drop, show 1 + (k + i - 1) = k + i by omega]; exact HEI.out⟩)
      simp [seenM, sumI, h1]
      omega
     have hs1 : -100000000 ≤ s ∧ s ≤ 100000000 := by
      have h1 := HW.out
      have h2 : seenM X = seenM (X.take k) + seenM ((X.drop k).take i) + seenM ((X.drop k).drop i) := by
       rw [← seenM_append, ← seenM_append, List.append_assoc, List.take_append_drop, List.take_append_drop]
      have h3 := whole_ge (X := X.take k) (fun x hx => HX.out.ok x (List.mem_of_mem_take hx))
      have h4 := whole_ge (X := (X.drop k).take i) (fun x hx => HX.out.ok x (List.mem_of_mem_drop (List.mem_of_mem_take hx)))
      have h5 := whole_ge (X := (X.drop k).drop i) (fun x hx => HX.out.ok x (List.mem_of_mem_drop (List.mem_of_mem_drop hx)))
      have h6 := HSM.out
      omega
     have ht := tip_bound HX.out (List.mem_of_getElem? HEI.out)
     clear HSM
     go_upto_region 12 with fail
     refine wEp 4 [iV s, e.o.v, iV e.o.tip, iV ((s : Int) - (e.o.tip : Int))] [33,34,35,36] ?_ ?_
     ·refine mE 1 8 ?_
      refine sE 2 10 b5 0 e.o.cells Try.underlying24 (fun u hk=>range_kept HB6.out hk) (by rw [e.o.len9]; exact ord_size) ?_
      refine cS 3 104 [e.o.v] rfl Try.func104 rfl (fun a u E D hk=>⟨ll (dD D 1) rfl, visible_any e.o u⟩) ?_
      refine sW 4 rfl (fun a u E D hk=>exec_subn (p := (s)) (q := (e.o.tip)) ((s : Int) - (e.o.tip : Int)) rfl (dD D 0) (dD D 2) rfl (by omega) (by omega)) ?_
      exact fz
     intro w7 k7
     simp only [F8]
     refine l_val (.int .i64 ((s : Int) - (e.o.tip : Int))) rfl (exec_assign _ _ rfl (by kernel_rfl)) ?_
     simp only [Act.put, sA, sS, sZ]
     refine wpList_nil ?_
     have kw7 := (hkr.trans kw6).trans k7
     clear hs1 ht
     go_wp2
     exact ⟨⟨i + 1, s - e.o.tip, by omega, by go_num, rfl, HM1, kw7⟩, by simp [intOf]; omega⟩
    ·have HFN : Hid (reachV firm X = .tuple #[.int .i64 s, .bool true]) := by
      show _ = _
      unfold reachV
      rw [HR.out, HSM.out, List.take_of_length_le (l := X.drop k) (by rw [List.length_drop, HN.out]; omega)]
      have h2 : seenM X = seenM (X.take k) + seenM (X.drop k) := by rw [← seenM_append, List.take_append_drop]
      simp only [h2]
      rw [show seenM (X.take k) + seenM (X.drop k) - seenM (X.drop k) = seenM (X.take k) by omega]
     have kw9 := kw4.trans hkr
     clear HSM
     go_wp2
     go_ret2
     rw [HFN.out]
     exact ⟨rfl, kw9⟩
 ·have hP : ownP firm X = -1 := by unfold ownP; rw [if_neg (by rw [HN.out]; exact hown)]
  rw [hP]
  have HR : Hid (reachV firm X = .tuple #[.int .i64 (wholeM X), .bool false]) := by show _ = _; unfold reachV reachM; rw [if_neg (by rw [HN.out]; exact hown)]
  clear hP hown
  go_upto_region 5 with fail
  refine wE 4 [pV q 0, iV (wholeM X), iV (wholeM X), bV false] [19,20,4,5] ?_ ?_
  ·refine mE 1 0 ?_
   refine cS 2 102 [.pointer (some ⟨q, 0, none⟩)] rfl Try.func102 rfl (fun a u E D hk=>⟨ll (dD D 0) rfl, whole_any u F q X (HL2.out.kept hk) HX.out⟩) ?_
   refine mD 3 20 1 ?_
   refine sW 4 rfl (fun a u E D hk=>exec_assign _ _ rfl rfl) ?_
   exact fz
  intro w3 k3
  simp only [F8]
  have kw3 := kw2.trans k3
  go_wp2
  go_ret2
  rw [HR.out]
  exact ⟨rfl, kw3⟩
theorem Sid.drop {s : Int} {L : List Lev} (h : Sid s L) : ∀ (i : Nat), Sid s (L.drop i) := by
 intro i
 induction i generalizing L with
 | zero => exact h
 | succ i ih =>
  cases L with
  | nil => exact h
  | cons l L => exact ih h.tail
theorem reach_nn {X : List Ent} (hX : Good X) (firm : Int) : 0 ≤ (reachM firm X).1 := by
 have hw := whole_ge hX.ok
 have hge := whole_ge (X := X.take (ownAt firm X)) (fun x hx => hX.ok x (List.mem_of_mem_take hx))
 unfold reachM
 split <;> simp only <;> omega
set_option maxRecDepth 100000 in
set_option maxHeartbeats 1600000 in
theorem gives_any (w : World) (F : Nat → Prop) (g off : Nat) (s s0 : Int) (L : List Lev) (o : Ord) (h : Lad w F g off s L) (hL : Sid s0 L) : Gives 88 #[.pointer (some ⟨g, off, none⟩), o.v] w (.eq (.int .i64 (givesM o L))) := by
 refine gives_eq ?_
 have HTOT : Hid (givesM o L ≤ 67108864) := by
  have h1 := gives_le o L hL
  have h2 := wholeL_le hL
  show _ ≤ _
  omega
 obtain ⟨v, hs0, hv0, Z, G, eL, hW⟩ := h
 have hn64 : Z.length ≤ 64 := by have := hL.ok.len; rw [← eL, levs_len] at this; exact this
 have HS := Lib.hid hs0
 have HV := Lib.hid hv0
 have HW := Lib.hid hW
 have HL := Lib.hid hL
 have EL := Lib.hid eL
 obtain ⟨n, hn⟩ : ∃ n, Z.length = n := ⟨_, rfl⟩
 have HSL := Lib.hid hW.sl
 rw [hn] at HSL hn64
 have HN := Lib.hid hn
 clear hs0 hv0 hW hL eL hn
 go_enter Try.func88, Try.ntmps88
 go_upto_region 0 with fail
 refine wp_text 2 [.fresh w.heap.size 24 (o.cells), iE 0] rfl (by kernel_rfl) ?_ ?_
 ·refine nW 1 rfl (fun a u E D hk=>⟨_, _, exec_box 24 _ (o.cells) rfl (eE E), ⟨_, rfl, hk.size, Blk.new u _ _⟩, ((Keep.refl _ u).alloc _)⟩) ?_
  refine sW 2 rfl (fun a u E D hk=>exec_assign _ _ rfl rfl) ?_
  exact fz
 intro gv wa hV ka
 rw [dq 2 [3,4]]
 simp only [Fz7]
 have hv3 : (.fresh w.heap.size 24 (o.cells) : Kn).p (gv 3) wa := hV 0 3 (by kernel_rfl)
 generalize gv 3 = v3 at hv3 ⊢
 rw [gQ hV 1 4 (.int .i64 0)]
 clear hV
 obtain ⟨g3, rfl, hg3, hB3⟩ := hv3
 refine wpList_nil ?_
 have HO := Lib.hid (blk_range hB3)
 clear hB3
 go_upto_region 1 with fail
 refine wE 1 [iV 0] [5] ?_ ?_
 ·refine sW 1 rfl (fun a u E D hk=>exec_assign _ _ rfl rfl) ?_
  exact fz
 intro wb kb
 simp only [F8]
 have kab := ka.trans kb
 have HOb := Lib.hid (range_kept HO.out kb)
 have HVb := Lib.hid (kab.cell HV.out)
 clear HO ka kb
 go_upto_region 2 with fail
 refine wE 6 [pV g off, pV g off, pV g (off + 1), v, iV (n : Int), iV 0] [10,11,12,13,14,15] ?_ ?_
 ·refine mE 1 0 ?_
  refine nD 2 10 0 ?_
  refine fD 3 11 1 70 1 1 off ?_
  refine sW 4 rfl (fun a u E D hk=>exec_ldv _ _ Try.underlying68 _ _ _ rfl (dD D 2) (Kept.cell hk (HVb.out))) ?_
  refine sW 5 rfl (fun a u E D hk=>exec_lenS _ slQ _ _ _ _ rfl (dD D 3) HSL.out) ?_
  refine sW 6 rfl (fun a u E D hk=>exec_move _ _ rfl rfl) ?_
  exact fz
 intro w0 k0
 simp only [F8]
 have HO0 := Lib.hid (range_kept HOb.out k0)
 have k0 := kab.trans k0
 clear HOb HVb kab HV HS
 go_wp2_with fail
 go_loopw [5, 15] (fun t x wr => ∃ (i : Nat) (a : Int), i ≤ n ∧ x = .int .i64 i ∧ t = .int .i64 a ∧ Hid (givesM o L = a + givesM o (L.drop i)) ∧ 0 ≤ a ∧ Kept w wr ∧ Kept w0 wr) (fun _ x _ => n - (intOf x).toNat)
 case atStart => exact ⟨0, 0, Nat.zero_le _, rfl, rfl, by show _ = _; rw [List.drop_zero]; omega, Int.le_refl _, k0, Kept.refl _⟩
 case round =>
  obtain ⟨i, s, hi, rfl, rfl, HM, hs0, hkr, hk0⟩ := hrel
  by_cases hlt : i < n
  ·skip
   obtain ⟨gs, os, c, rfl⟩ := HSL.out.some_ (by omega)
   obtain ⟨z, hz⟩ : ∃ z, Z[i]? = some z := ⟨Z[i]'(by rw [HN.out]; omega), List.getElem?_eq_getElem (by rw [HN.out]; omega)⟩
   obtain ⟨q, pr, X⟩ := z
   have hcell := (HW.out.kept hkr).cell hz
   have HC := Lib.hid hcell
   have HZ := Lib.hid hz
   have HLV := Lib.hid ((HW.out.kept hkr).lv (q, pr, X) (List.mem_of_getElem? hz))
   have HLM : Hid ((pr, X) ∈ L) := by show _ ∈ _; rw [← EL.out]; exact levs_mem (List.mem_of_getElem? hz)
   have HA : Hid (L[i]? = some (pr, X)) := by show _ = _; rw [← EL.out]; exact levs_at hz
   clear hcell hz
   go_upto_region 4 with fail
   refine wE 3 [pV gs (os + i * 1), pV q 0, pV q 0] [17,18,7] ?_ ?_
   ·refine sW 1 rfl (fun a u E D hk=>exec_ixo slQ _ _ (gs) (os) n c i (os + i * 1) ((i : Int)) rfl (eE E) (eE E) (by first | rfl | omega) (hlt) (by first | rfl | omega)) ?_
    refine sW 2 rfl (fun a u E D hk=>exec_ldp _ _ Try.underlying89 _ _ _ rfl (dD D 0) (Kept.cell hk (HC.out))) ?_
    refine mD 3 18 1 ?_
    exact fz
   intro w1 k1
   simp only [F8]
   have kw1 := hkr.trans k1
   have HLV1 := Lib.hid (HLV.out.kept k1)
   have HO1 := Lib.hid (range_kept HO0.out (hk0.trans k1))
   have k01 := hk0.trans k1
   have HGD := Lib.hid (HL.out.good HLM.out).1
   have HFR := Lib.hid (HL.out.fr _ HLM.out)
   have HD : Hid (L.drop i = (pr, X) :: L.drop (i + 1)) := by
    obtain ⟨hi', he⟩ := List.getElem?_eq_some_iff.1 HA.out
    show _ = _
    rw [List.drop_eq_getElem_cons hi', he]
   have HNN := Lib.hid (reach_nn HGD.out o.firm)
   have HG2 := Lib.hid (gives_nn o _ (HL.out.drop (i + 1)))
   clear HC HLV k1 hk0
   by_cases hcr : o.crosses pr = true
   ·have HCR := Lib.hid hcr
    have HM1 : Hid (givesM o L = s + (if (reachM o.firm X).2 = true then (reachM o.firm X).1 else (reachM o.firm X).1 + givesM o (L.drop (i + 1)))) := by
     show _ = _
     rw [HM.out, HD.out, givesM]
     simp only
     rw [if_pos hcr]
    clear hcr HM
    go_upto_region 5 with fail
    refine wGp 4 [o.v, pV q 0, iV pr, bV true] [19,20,21,22] ?_ ?_
    ·refine sE 1 3 g3 0 o.cells Try.underlying24 (fun u hk=>range_kept HO1.out hk) (by rw [o.len9]; exact ord_size) ?_
     refine mE 2 7 ?_
     refine cS 3 91 [.pointer (some ⟨q, 0, none⟩)] rfl Try.func91 rfl (fun a u E D hk=>⟨ll (dD D 1) rfl, price_any u _ q X (HLV1.out.kept hk)⟩) ?_
     refine cS 4 94 [o.v, .int .i64 pr] rfl Try.func94 rfl (fun a u E D hk=>⟨ll (dD D 0) (ll (dD D 2) rfl), (by rw [← HCR.out]; exact crosses_any o pr u)⟩) ?_
     exact fz
    intro w2 k2
    simp only [F8]
    refine l_val (.bool false) rfl (exec_not _ (.tmp 22) true rfl (by kernel_rfl)) ?_
    simp only [Act.put, sA, sS, sZ]
    refine wpList_nil ?_
    have HLV2 := Lib.hid (HLV1.out.kept k2)
    have HO2 := Lib.hid (range_kept HO1.out k2)
    have kw2 := kw1.trans k2
    have k02 := k01.trans k2
    clear HLV1 HO1 HCR k2 kw1 k01
    obtain ⟨rq, hrq⟩ : ∃ x, (reachM o.firm X).1 = x := ⟨_, rfl⟩
    obtain ⟨rb, hrb⟩ : ∃ x, (reachM o.firm X).2 = x := ⟨_, rfl⟩
    have HRV : Hid (reachV o.firm X = .tuple #[.int .i64 rq, .bool rb]) := by show _ = _; unfold reachV; rw [hrq, hrb]
    rw [hrq] at HNN
    rw [hrq, hrb] at HM1
    clear hrq hrb
    go_upto_region 6 with fail
    refine wE 9 [pV q 0, pV g3 2, iV o.firm, .tuple #[.int .i64 rq, .bool rb], .tuple #[.int .i64 rq, .bool rb], iV rq, bV rb, iV rq, bV rb] [25,26,27,28,24,29,30,8,9] ?_ ?_
    ·refine mE 1 7 ?_
     refine fE 2 3 24 2 2 0 ?_
     refine lD 3 26 1 Try.underlying3 (fun u hk=>range_int (range_kept HO2.out hk) 2 _ rfl) ?_
     refine cS 4 95 [.pointer (some ⟨q, 0, none⟩), .int .i64 o.firm] rfl Try.func95 rfl (fun a u E D hk=>⟨ll (dD D 0) (ll (dD D 2) rfl), (by rw [← HRV.out]; exact reach_any pr u _ q X o.firm (HLV2.out.kept hk) HGD.out HFR.out)⟩) ?_
     refine mD 5 28 3 ?_
     refine sW 6 rfl (fun a u E D hk=>exec_extract _ [.int .i64 rq, .bool rb] 0 (.int .i64 rq) rfl (dD D 4) rfl) ?_
     refine sW 7 rfl (fun a u E D hk=>exec_extract _ [.int .i64 rq, .bool rb] 1 (.bool rb) rfl (dD D 4) rfl) ?_
     refine mD 8 29 5 ?_
     refine mD 9 30 6 ?_
     exact fz
    intro w3 k3
    simp only [F8]
    have kw3 := kw2.trans k3
    have k03 := k02.trans k3
    have hb1 : 0 ≤ rq := HNN.out
    have hb2 : s + rq ≤ 67108864 := by
     have h1 := HM1.out
     have h2 := HTOT.out
     have h3 := HG2.out
     split at h1 <;> omega
    clear HLV2 HO2 HRV HNN k3 kw2 k02
    cases rb with
    | true =>
     have HF : Hid (givesM o L = s + rq) := by show _ = _; rw [HM1.out]; rfl
     clear HM1
     go_wp2
     go_ret
     exact ⟨by rw [HF.out]; rfl, kw3⟩
    | false =>
     have HF : Hid (givesM o L = s + rq + givesM o (L.drop (i + 1))) := by show _ = _; rw [HM1.out]; simp only [Bool.false_eq_true, if_false]; omega
     clear HM1
     go_wp2
     exact ⟨⟨i + 1, s + rq, by omega, by go_num, rfl, HF, by omega, kw3, k03⟩, by simp [intOf]; omega⟩
   ·have hcr' : o.crosses pr = false := by simpa using hcr
    have HCR := Lib.hid hcr'
    have HF : Hid (givesM o L = s) := by
     show _ = _
     rw [HM.out, HD.out, givesM]
     simp only
     rw [if_neg hcr]
     omega
    clear hcr hcr' HM
    go_upto_region 5 with fail
    refine wGp 4 [o.v, pV q 0, iV pr, bV false] [19,20,21,22] ?_ ?_
    ·refine sE 1 3 g3 0 o.cells Try.underlying24 (fun u hk=>range_kept HO1.out hk) (by rw [o.len9]; exact ord_size) ?_
     refine mE 2 7 ?_
     refine cS 3 91 [.pointer (some ⟨q, 0, none⟩)] rfl Try.func91 rfl (fun a u E D hk=>⟨ll (dD D 1) rfl, price_any u _ q X (HLV1.out.kept hk)⟩) ?_
     refine cS 4 94 [o.v, .int .i64 pr] rfl Try.func94 rfl (fun a u E D hk=>⟨ll (dD D 0) (ll (dD D 2) rfl), (by rw [← HCR.out]; exact crosses_any o pr u)⟩) ?_
     exact fz
    intro w2 k2
    simp only [F8]
    refine l_val (.bool true) rfl (exec_not _ (.tmp 22) false rfl (by kernel_rfl)) ?_
    simp only [Act.put, sA, sS, sZ]
    refine wpList_nil ?_
    have kw2 := kw1.trans k2
    clear HLV1 HO1 HCR k2 kw1 k01
    go_wp2
    go_ret
    exact ⟨by rw [HF.out]; rfl, kw2⟩
  ·have HF : Hid (givesM o L = s) := by
    show _ = _
    rw [HM.out, List.drop_of_length_le (by rw [← EL.out, levs_len, HN.out]; omega)]
    simp [givesM]
   clear HM
   go_wp2
   go_ret
   exact ⟨by rw [HF.out]; rfl, hkr⟩
set_option maxRecDepth 100000 in
set_option maxHeartbeats 800000 in
theorem crossed_any (w : World) (F : Nat → Prop) (g off : Nat) (s : Int) (L : List Lev) (o : Ord) (h : Lad w F g off s L) (hl : L.length ≤ 1000) : Gives 87 #[.pointer (some ⟨g, off, none⟩), o.v] w (.eq (.bool (o.meets L))) := by
 refine gives_eq ?_
 obtain ⟨v, hs0, hv0, Z, G, eL, hW⟩ := h
 have HV := Lib.hid hv0
 have HW := Lib.hid hW
 have EL := Lib.hid eL
 have HSL := Lib.hid hW.sl
 clear hs0 hv0 hW eL
 cases Z with
 | nil =>
  have HM : Hid (o.meets L = false) := by show _ = _; rw [← EL.out]; rfl
  go_enter Try.func87, Try.ntmps87
  go_upto_region 0 with fail
  refine wp_text 2 [.fresh w.heap.size 24 (o.cells), bE false] rfl (by kernel_rfl) ?_ ?_
  ·refine nW 1 rfl (fun a u E D hk=>⟨_, _, exec_box 24 _ (o.cells) rfl (eE E), ⟨_, rfl, hk.size, Blk.new u _ _⟩, ((Keep.refl _ u).alloc _)⟩) ?_
   refine sW 2 rfl (fun a u E D hk=>exec_assign _ _ rfl rfl) ?_
   exact fz
  intro gv wa hV ka
  rw [dq 2 [3,4]]
  simp only [Fz7]
  have hv3 : (.fresh w.heap.size 24 (o.cells) : Kn).p (gv 3) wa := hV 0 3 (by kernel_rfl)
  generalize gv 3 = v3 at hv3 ⊢
  rw [gQ hV 1 4 (.bool false)]
  clear hV
  obtain ⟨g3, rfl, hg3, hB3⟩ := hv3
  refine wpList_nil ?_
  have HVa := Lib.hid (ka.cell HV.out)
  clear hB3
  go_upto_region 1 with fail
  refine wGp 16 [pV g off, pV g off, pV g (off + 1), v, iV (0 : Int), bV false, bV false, undef, undef, undef, undef, undef, undef, undef, undef, undef] [5,6,7,8,9,10,11,12,13,14,15,16,17,18,19,20] ?_ ?_
  ·refine mE 1 0 ?_
   refine nD 2 5 0 ?_
   refine fD 3 6 1 70 1 1 off ?_
   refine sW 4 rfl (fun a u E D hk=>exec_ldv _ _ Try.underlying68 _ _ _ rfl (dD D 2) (Kept.cell hk (HVa.out))) ?_
   refine sW 5 rfl (fun a u E D hk=>exec_lenS _ slQ _ _ _ _ rfl (dD D 3) HSL.out) ?_
   refine aS 6 rfl (fun a u E D hk=>exec_gtn rfl (dD D 4) rfl) (by decide) ?_
   refine mD 7 10 5 ?_
   refine kS 8 6 ?_
   refine kS 9 6 ?_
   refine kS 10 6 ?_
   refine kS 11 6 ?_
   refine kS 12 6 ?_
   refine kS 13 6 ?_
   refine kS 14 6 ?_
   refine kS 15 6 ?_
   refine kS 16 6 ?_
   exact fz
  intro w1 k1
  simp only [F8]
  refine l_val (.bool false) rfl (exec_pickF (.tmp 11) (.tmp 20) (.const (.bool false)) (.bool false) rfl (by kernel_rfl) rfl) ?_
  simp only [Act.put, sA, sS, sZ]
  refine l_val (.bool false) rfl (exec_assign _ _ rfl (by kernel_rfl)) ?_
  simp only [Act.put, sA, sS, sZ]
  refine wpList_nil ?_
  go_wp2
  go_ret
  exact ⟨by rw [HM.out]; rfl, ka.trans k1⟩
 | cons z Z =>
  obtain ⟨q, pr, X⟩ := z
  have HM : Hid (o.meets L = o.crosses pr) := by show _ = _; rw [← EL.out]; rfl
  have hl : Z.length + 1 ≤ 1000 := by rw [← EL.out, levs_len] at hl; exact hl
  obtain ⟨gs, os, c, rfl⟩ := HSL.out.some_ (by simp)
  have HC := Lib.hid (HW.out.cell (i := 0) (z := (q, pr, X)) rfl)
  have HLV := Lib.hid (HW.out.lv (q, pr, X) (by simp))
  obtain ⟨n, hn⟩ : ∃ n, Z.length + 1 = n := ⟨_, rfl⟩
  have hnz : 0 < n := by omega
  rw [show ((q, pr, X) :: Z).length = n from hn] at HSL HV
  rw [hn] at hl
  clear HW hn
  go_enter Try.func87, Try.ntmps87
  go_upto_region 0 with fail
  refine wp_text 2 [.fresh w.heap.size 24 (o.cells), bE false] rfl (by kernel_rfl) ?_ ?_
  ·refine nW 1 rfl (fun a u E D hk=>⟨_, _, exec_box 24 _ (o.cells) rfl (eE E), ⟨_, rfl, hk.size, Blk.new u _ _⟩, ((Keep.refl _ u).alloc _)⟩) ?_
   refine sW 2 rfl (fun a u E D hk=>exec_assign _ _ rfl rfl) ?_
   exact fz
  intro gv wa hV ka
  rw [dq 2 [3,4]]
  simp only [Fz7]
  have hv3 : (.fresh w.heap.size 24 (o.cells) : Kn).p (gv 3) wa := hV 0 3 (by kernel_rfl)
  generalize gv 3 = v3 at hv3 ⊢
  rw [gQ hV 1 4 (.bool false)]
  clear hV
  obtain ⟨g3, rfl, hg3, hB3⟩ := hv3
  refine wpList_nil ?_
  have HVa := Lib.hid (ka.cell HV.out)
  have HCa := Lib.hid (ka.cell HC.out)
  have HLVa := Lib.hid (HLV.out.kept ka)
  have HO := Lib.hid (blk_range hB3)
  clear hB3 HV HC HLV
  go_upto_region 1 with fail
  refine wGp 16 [pV g off, pV g off, pV g (off + 1), .slice (some ⟨gs, os, none⟩) n c, iV (n : Int), bV true, bV true, o.v, pV g off, pV g off, pV g (off + 1), .slice (some ⟨gs, os, none⟩) n c, pV gs os, pV q 0, iV pr, bV (o.crosses pr)] [5,6,7,8,9,10,11,12,13,14,15,16,17,18,19,20] ?_ ?_
  ·refine mE 1 0 ?_
   refine nD 2 5 0 ?_
   refine fD 3 6 1 70 1 1 off ?_
   refine sW 4 rfl (fun a u E D hk=>exec_ldv _ _ Try.underlying68 _ _ _ rfl (dD D 2) (Kept.cell hk (HVa.out))) ?_
   refine sW 5 rfl (fun a u E D hk=>exec_len _ _ _ slQ.und (some ⟨gs, os, none⟩) n c rfl (dD D 3)) ?_
   refine aS 6 rfl (fun a u E D hk=>exec_gtn rfl (dD D 4) rfl) (decide_eq_true (by omega)) ?_
   refine mD 7 10 5 ?_
   refine sE 8 3 g3 0 o.cells Try.underlying24 (fun u hk=>range_kept HO.out hk) (by rw [o.len9]; exact ord_size) ?_
   refine mE 9 0 ?_
   refine nD 10 13 8 ?_
   refine fD 11 14 9 70 1 1 off ?_
   refine sW 12 rfl (fun a u E D hk=>exec_ldv _ _ Try.underlying68 _ _ _ rfl (dD D 10) (Kept.cell hk (HVa.out))) ?_
   refine sW 13 rfl (fun a u E D hk=>exec_ixo slQ _ _ (gs) (os) n c 0 (os) (0) rfl (dD D 11) rfl (by first | rfl | omega) ((by omega)) (by first | rfl | omega)) ?_
   refine sW 14 rfl (fun a u E D hk=>exec_ldp _ _ Try.underlying89 _ _ _ rfl (dD D 12) (Kept.cell hk ((by simpa using HCa.out)))) ?_
   refine cS 15 91 [.pointer (some ⟨q, 0, none⟩)] rfl Try.func91 rfl (fun a u E D hk=>⟨ll (dD D 13) rfl, price_any u _ q X (HLVa.out.kept hk)⟩) ?_
   refine cS 16 94 [o.v, .int .i64 pr] rfl Try.func94 rfl (fun a u E D hk=>⟨ll (dD D 7) (ll (dD D 14) rfl), crosses_any o pr u⟩) ?_
   exact fz
  intro w1 k1
  simp only [F8]
  refine l_val (.bool (o.crosses pr)) rfl (exec_pick (.tmp 11) (.tmp 20) (.const (.bool false)) (.bool (o.crosses pr)) rfl (by kernel_rfl) (by kernel_rfl)) ?_
  simp only [Act.put, sA, sS, sZ]
  refine l_val (.bool (o.crosses pr)) rfl (exec_assign _ _ rfl (by kernel_rfl)) ?_
  simp only [Act.put, sA, sS, sZ]
  refine wpList_nil ?_
  go_wp2
  go_ret
  exact ⟨by rw [HM.out]; rfl, ka.trans k1⟩
theorem lastOf_snoc (p : Int) (f : Fl) : ∀ (F : List Fl), lastOf p (F ++ [f]) = f.price
 | [] => rfl
 | [g] => rfl
 | g :: g' :: F => by
  rw [List.cons_append, lastOf]
  exact lastOf_snoc g.price f (g' :: F)
theorem lastOf_append : ∀ (F G : List Fl) (p : Int), lastOf p (F ++ G) = lastOf (lastOf p F) G
 | [], G, p => rfl
 | f :: F, G, p => by rw [List.cons_append, lastOf, lastOf, lastOf_append F G]
theorem seenM_snoc (H : List Ent) (h : Ent) : seenM (H ++ [h]) = seenM H + h.n := by rw [seenM_append]; simp [seenM, sumI]
def Oc.more (x : Oc) (pr no : Int) (H : List Ent) : Oc := { x with f := x.f ++ fillsOf x.o pr no x.left H, left := x.left - seenM H }
theorem Oc.more_nil (x : Oc) (pr no : Int) : x.more pr no [] = x := by unfold Oc.more; simp [fillsOf, seenM, sumI]
theorem Oc.set_fills (x : Oc) (v v' : Value) : (x.cells v).set 9 v' = x.cells v' := rfl
theorem Oc.set_left (x : Oc) (v : Value) (n : Int) : (x.cells v).set 10 (.int .i64 n) = ({ x with left := n } : Oc).cells v := rfl
theorem Oc.set_self (x : Oc) (v : Value) (b : Bool) : (x.cells v).set 13 (.bool b) = ({ x with self := b } : Oc).cells v := rfl
theorem Oc.set_rests (x : Oc) (v : Value) (b : Bool) : (x.cells v).set 11 (.bool b) = ({ x with rests := b } : Oc).cells v := rfl
theorem q_l (o : Ord) (n : Int) : stc (o.l.set 6 n) [] = (o.q n).cells := rfl
theorem exec_bF {a : Act} {o : Oper} {u : World} (x y z t n : Operand) (m k : Ord) (p q r : Int) (hop : o.op = .build 61 #[(0, x), (1, y), (2, z), (3, t), (4, n)]) (hx : a.eval x = m.v) (hy : a.eval y = k.v) (hz : a.eval z = .int .i64 p) (ht : a.eval t = .int .i64 q) (hn : a.eval n = .int .i64 r) : (execOp a.eval o).run Try.prog u = .ok (.value (Fl.mk m k p q r).v) u :=
 exec_build _ [(0, x), (1, y), (2, z), (3, t), (4, n)] (Fl.mk m k p q r).cells hop (by simp only [List.map_cons, List.map_nil, hx, hy, hz, ht, hn]; exact builtF m k p q r)
def TradeIn (w : World) (go p : Nat) (s : Int) (v u0 vf : Value) (last no pr : Int) (x : Oc) (H : List Ent) (r : Ending) (w' : World) : Prop :=
 ∃ vf', r = .returned (.tuple #[]) ∧ Blk w' go 54 ((x.more pr no H).cells vf') ∧ Sl w' 61 21 vf' (x.more pr no H).f.length (fls (x.more pr no H).f) ∧ Blk w' p 72 (sideCs s v u0 (lastOf last (fillsOf x.o pr no x.left H)) (no + H.length)) ∧ Keep (fun b => b = go ∨ b = p ∨ vf.ownBlock = some b) w w' ∧ ∀ b, vf'.ownBlock = some b → vf.ownBlock = some b ∨ w.heap.size ≤ b
set_option maxRecDepth 100000 in
set_option maxHeartbeats 3200000 in
theorem trade_any (w : World) (go p : Nat) (s : Int) (v u0 vf vh : Value) (last no pr : Int) (x : Oc) (H : List Ent) (hO : Blk w go 54 (x.cells vf)) (hF : Sl w 61 21 vf x.f.length (fls x.f)) (hB : Blk w p 72 (sideCs s v u0 last no)) (hH : Sl w 26 10 vh H.length (ents H)) (hgp : go ≠ p) (hfo : ∀ b, vf.ownBlock = some b → b ≠ go ∧ b ≠ p) (hho : ∀ b, vh.ownBlock = some b → b ≠ go ∧ b ≠ p ∧ vf.ownBlock ≠ some b)
  (hpos : ∀ h ∈ H, 1 ≤ h.n) (hsum : seenM H ≤ x.left) (hl : x.left ≤ 2000000) (hfl : x.f.length ≤ 2000000) (hno : 0 ≤ no) (hno2 : no ≤ 2000000000000) :
  Calls Try.prog 90 #[.pointer (some ⟨p, 0, none⟩), .pointer (some ⟨go, 0, none⟩), .int .i64 pr, vh] w (TradeIn w go p s v u0 vf last no pr x H) := by
 have hpl := hB.lt
 have hgl := hO.lt
 have hHl : (H.length : Int) ≤ seenM H := by
  have := whole_ge (X := H.map fun h => ⟨{ h.o with qty := h.n }, h.n⟩) (by intro e he; obtain ⟨h, hh, rfl⟩ := List.mem_map.1 he; exact ⟨hpos h hh, Int.le_refl _⟩)
  have h1 := this.1
  rw [List.length_map] at h1
  have h2 : seenM (H.map fun h => (⟨{ h.o with qty := h.n }, h.n⟩ : Ent)) = seenM H := by unfold seenM; rw [List.map_map]; rfl
  omega
 obtain ⟨n, hn⟩ : ∃ n, H.length = n := ⟨_, rfl⟩
 have hn2 : (n : Int) ≤ 2000000 := by omega
 have HN := Lib.hid hn
 have HP := Lib.hid hpos
 have HSUM := Lib.hid hsum
 have HO := Lib.hid hO
 have HF := Lib.hid hF
 have HB := Lib.hid hB
 have HH := Lib.hid hH
 have HHO := Lib.hid hho
 have HFO := Lib.hid hfo
 rw [hn] at HH
 have hfl0 : ∀ b, vf.ownBlock = some b → b < w.heap.size := fun b hb => hF.lt hb
 have HFL := Lib.hid hfl0
 have HHB : Hid (∀ b, vh.ownBlock = some b → b < w.heap.size) := fun b hb => hH.lt hb
 clear hO hF hB hH hho hfo hpos hn hfl0 hHl hsum
 go_enter Try.func90, Try.ntmps90
 go_upto_region 0 with fail
 refine wEp 7 [pV go 0, pV go 0, pV go 0, pV go 9, vf, vh, iV (n : Int)] [11,12,13,14,15,16,17] ?_ ?_
 ·refine mE 1 1 ?_
  refine mE 2 1 ?_
  refine nD 3 12 1 ?_
  refine fD 4 13 2 54 1 9 0 ?_
  refine sW 5 rfl (fun a u E D hk=>exec_ldv _ _ Try.underlying52 _ _ _ rfl (dD D 3) (by rw [(HO.out.kept hk).cell]; rfl)) ?_
  refine mE 6 3 ?_
  refine sW 7 rfl (fun a u E D hk=>exec_lenS _ slH _ _ _ _ rfl (dD D 5) HH.out) ?_
  exact fz
 intro w1 k1
 simp only [F8]
 refine l_call 97 #[vf, .int .i64 (n : Int)] rfl (exec_call 97 _ [.tmp 15, .tmp 17] _ _ Try.func97 (by kernel_rfl) (by kernel_rfl) rfl (by kernel_rfl) _) ?_
 refine (growF_any w1 vf x.f.length n _ (HF.out.kept k1) (by omega)).mono ?_
 rintro r w2 ⟨vg, rfl, hS2, k2, ho2⟩
 refine ⟨_, rfl, ?_⟩
 simp only [Act.put, sA, sS, sZ]
 refine l_val (.pointer (some ⟨go, 0, none⟩)) rfl (exec_nilp (.tmp 11) ⟨go, 0, none⟩ rfl (by kernel_rfl)) ?_
 simp only [Act.put, sA, sS, sZ]
 refine l_val (.pointer (some ⟨go, 9, none⟩)) rfl (exec_fldo 54 1 9 (.tmp 19) (go) (0) (9) rfl (by kernel_rfl) (by kernel_rfl) rfl) ?_
 simp only [Act.put, sA, sS, sZ]
 refine l_st1 52 go 9 54 _ vg _ _ rfl rfl (by kernel_rfl) (by kernel_rfl) (by kernel_rfl) (sl_cells hS2) (sl_onec hS2) ((HO.out.kept k1).kept k2) (by rw [Oc.len15]; omega) ?_
 intro w3 hB3 hk3 hs3
 simp only [Act.put]
 refine wpList_nil ?_
 rw [Oc.set_fills] at hB3
 have k12 := k1.trans k2
 have z12 := k12.size
 have K3 : Keep (fun b => b = go ∨ b = p ∨ vf.ownBlock = some b) w w3 := (Keep.mono (T := (fun b => b = go ∨ b = p ∨ vf.ownBlock = some b)) k12 (fun _ _ h => h.elim)).trans hk3 (fun b _ h => .inl h)
 have ho3 : ∀ b, vg.ownBlock = some b → vf.ownBlock = some b ∨ w.heap.size ≤ b := fun b hb => (ho2 b hb).imp id (fun h => Nat.le_trans k1.size h)
 have hgne : ∀ b, vg.ownBlock = some b → b ≠ go ∧ b ≠ p := fun b hb => by
  rcases ho3 b hb with h | h
  ·exact HFO.out b h
  ·omega
 have HO3 := Lib.hid hB3
 have HF3 := Lib.hid (hS2.keep hk3 (fun b hb e => (hgne b hb).1 e))
 have HB3 := Lib.hid ((HB.out.kept k12).keep hk3 (fun e => hgp e.symm))
 have HG3 := Lib.hid ho3
 clear hB3 hS2 hk3 hs3 k1 k2 ho2 ho3 k12 hgne
 go_upto_region 1 with fail
 refine wE 3 [vh, iV (n : Int), iV 0] [21,22,23] ?_ ?_
 ·refine mE 1 3 ?_
  refine sW 2 rfl (fun a u E D hk=>exec_lenS _ slH _ _ _ _ rfl (dD D 0) HH.out) ?_
  refine sW 3 rfl (fun a u E D hk=>exec_move _ _ rfl rfl) ?_
  exact fz
 intro w4 k4
 simp only [F8]
 have K4 := K3.kept k4
 have HO4 := Lib.hid (HO3.out.kept k4)
 have HF4 := Lib.hid (HF3.out.kept k4)
 have HB4 := Lib.hid (HB3.out.kept k4)
 clear HO3 HF3 HB3 K3 k4
 go_wp2_with fail
 go_loopw [23] (fun t wr => ∃ (i : Nat) (vv : Value), i ≤ n ∧ t = .int .i64 (i : Int) ∧ Hid (Blk wr go 54 ((x.more pr no (H.take i)).cells vv)) ∧ Hid (Sl wr 61 21 vv (x.more pr no (H.take i)).f.length (fls (x.more pr no (H.take i)).f)) ∧ Hid (Blk wr p 72 (sideCs s v u0 (lastOf last (fillsOf x.o pr no x.left (H.take i))) (no + i))) ∧ Hid (∀ b, vv.ownBlock = some b → vf.ownBlock = some b ∨ w.heap.size ≤ b) ∧ Keep (fun b => b = go ∨ b = p ∨ vf.ownBlock = some b) w wr) (fun t _ => n - (intOf t).toNat)
 case atStart => exact ⟨0, vg, Nat.zero_le _, rfl, by rw [List.take_zero, Oc.more_nil]; exact HO4.out, by rw [List.take_zero, Oc.more_nil]; exact HF4.out, by rw [List.take_zero]; simp only [fillsOf, lastOf, Int.ofNat_zero, Int.add_zero]; exact HB4.out, HG3.out, K4⟩
 case round =>
  obtain ⟨i, vv, hi, rfl, HOr, HFr, HBr, HGr, hkr⟩ := hrel
  have zr := hkr.size
  by_cases hlt : i < n
  ·skip
   obtain ⟨gs, off, c, rfl⟩ := HH.out.some_ (by omega)
   obtain ⟨h, hh⟩ : ∃ h, H[i]? = some h := ⟨H[i]'(by rw [HN.out]; omega), List.getElem?_eq_getElem (by rw [HN.out]; omega)⟩
   have hgs := HHO.out gs rfl
   have HE : Hid (wr.rangeAt gs (off + i * 10) h.cells) := range_keep (HH.out.rng i h hh) hkr (fun e => by
    rcases e with e | e | e
    ·exact hgs.1 e
    ·exact hgs.2.1 e
    ·exact hgs.2.2 e)
   have HHI := Lib.hid hh
   have HTK : Hid (H.take (i + 1) = H.take i ++ [h]) := by show _ = _; rw [List.take_add_one, hh]; rfl
   have hh1 : 1 ≤ h.n := HP.out h (List.mem_of_getElem? hh)
   have hlb : seenM (H.take i) + h.n ≤ x.left ∧ 0 ≤ seenM (H.take i) := by
    have e1 : seenM H = seenM (H.take i) + h.n + seenM (H.drop (i + 1)) := by
     rw [← seenM_snoc, ← HTK.out, ← seenM_append, List.take_append_drop]
    have hnn : ∀ Y : List Ent, (∀ y ∈ Y, 1 ≤ y.n) → 0 ≤ seenM Y := fun Y => by
     induction Y with
     | nil => intro _; simp [seenM, sumI]
     | cons y Y ih => intro hy; rw [seenM_cons]; have := ih (fun z hz => hy z (by simp [hz])); have := hy y (by simp); omega
    have e2 := hnn (H.drop (i + 1)) (fun y hy => HP.out y (List.mem_of_mem_drop hy))
    have e3 := hnn (H.take i) (fun y hy => HP.out y (List.mem_of_mem_take hy))
    have e4 := HSUM.out
    omega
   clear hh
   obtain ⟨xi, hxi⟩ : ∃ xi, x.more pr no (H.take i) = xi := ⟨_, rfl⟩
   obtain ⟨la, hla⟩ : ∃ la, lastOf last (fillsOf x.o pr no x.left (H.take i)) = la := ⟨_, rfl⟩
   have hxo : xi.o = x.o := by rw [← hxi]; rfl
   have hxl : xi.left = x.left - seenM (H.take i) := by rw [← hxi]; rfl
   have hxf : xi.f.length = x.f.length + i := by rw [← hxi]; show (x.f ++ _).length = _; rw [List.length_append, fillsOf_len, List.length_take, HN.out]; omega
   have HNX : Hid (x.more pr no (H.take (i + 1)) = { xi with f := xi.f ++ [⟨h.o, x.o.q xi.left, pr, h.n, no + i + 1⟩], left := xi.left - h.n }) := by
    show _ = _
    rw [← hxi, HTK.out]
    unfold Oc.more
    simp only
    rw [fillsOf_append, seenM_snoc, List.length_take, HN.out, Nat.min_eq_left hi]
    simp only [fillsOf, List.append_assoc]
    congr 1
    omega
   have HNF : Hid (lastOf last (fillsOf x.o pr no x.left (H.take (i + 1))) = pr) := by
    show _ = _
    rw [HTK.out, fillsOf_append]
    simp only [fillsOf]
    exact lastOf_snoc _ _ _
   rw [hxi] at HOr HFr
   rw [hla] at HBr
   have HXO := Lib.hid hxo
   have hlb2 : h.n ≤ xi.left ∧ xi.left ≤ 2000000 := by omega
   have hxfl : xi.f.length ≤ 4000001 := by omega
   have hni : 0 ≤ no + (i : Int) ∧ no + (i : Int) ≤ 3000000000000 := by omega
   have hvg : ∀ b, vv.ownBlock = some b → b < wr.heap.size := fun b hb => HFr.out.lt hb
   have HVG := Lib.hid hvg
   have hvn : ∀ b, vv.ownBlock = some b → b ≠ go ∧ b ≠ p := fun b hb => by
    rcases HGr.out b hb with e | e
    ·exact HFO.out b e
    ·omega
   have HVN := Lib.hid hvn
   clear hxi hla hxo hxl hvg hvn hlb hxf
   go_upto_region 3 with fail
   refine wp_text 3 [pE gs (off + i * 10), .eq (h.v), .fresh wr.heap.size 26 zeroE.cells] rfl (by kernel_rfl) ?_ ?_
   ·refine sW 1 rfl (fun a u E D hk=>exec_ixo slH _ _ (gs) (off) n c i (off + i * 10) ((i : Int)) rfl (eE E) (eE E) (by first | rfl | omega) (hlt) (by first | rfl | omega)) ?_
    refine sD 2 25 0 h.cells Try.underlying26 (fun u hk=>range_kept HE.out hk) (by rw [h.len10]; exact szH) ?_
    refine nW 3 rfl (fun a u E D hk=>⟨_, _, exec_alc 26 zeroE.cells rfl zH, ⟨_, rfl, hk.size, Blk.new u _ _⟩, ((Keep.refl _ u).alloc _)⟩) ?_
    exact fz
   intro gv w5 hV k5
   rw [dq 3 [25,26,9]]
   simp only [Fz7]
   have hv9 : (.fresh wr.heap.size 26 zeroE.cells : Kn).p (gv 9) w5 := hV 2 9 (by kernel_rfl)
   generalize gv 9 = v9 at hv9 ⊢
   rw [gQ hV 1 26 h.v]
   clear hV
   obtain ⟨b9, rfl, hb9, hB9⟩ := hv9
   refine l_setS 26 b9 26 zeroE.cells h.cells _ _ rfl rfl (by kernel_rfl) (by kernel_rfl) hB9 (by rw [Ent.len10]; exact szH) (by rw [Ent.len10, Ent.len10]) (Ent.one _) ?_
   intro w6 hB6 hk6 hs6
   simp only [Act.put]
   refine wpList_nil ?_
   have k6 : Kept wr w6 := k5.trans' hk6 (by omega)
   have HB9 := Lib.hid hB6
   have l9 := hB6.lt
   have HO6 := Lib.hid (HOr.out.kept k6)
   clear hB9 hB6 hk6 hs6 k5 HE
   go_upto_region 4 with fail
   refine wp_text 5 [pE go 0, pE go 0, pE go 0, .eq (xi.o.v), .fresh w6.heap.size 24 zeroO.cells] rfl (by kernel_rfl) ?_ ?_
   ·refine mE 1 1 ?_
    refine nD 2 27 0 ?_
    refine fD 3 28 1 54 0 0 0 ?_
    refine sD 4 29 2 xi.o.cells Try.underlying24 (fun u hk=>oc_ord (HO6.out.kept hk)) (by rw [xi.o.len9]; exact ord_size) ?_
    refine nW 5 rfl (fun a u E D hk=>⟨_, _, exec_alc 24 zeroO.cells rfl zO, ⟨_, rfl, hk.size, Blk.new u _ _⟩, ((Keep.refl _ u).alloc _)⟩) ?_
    exact fz
   intro gv w7 hV k7
   rw [dq 5 [27,28,29,30,10]]
   simp only [Fz7]
   have hv10 : (.fresh w6.heap.size 24 zeroO.cells : Kn).p (gv 10) w7 := hV 4 10 (by kernel_rfl)
   generalize gv 10 = v10 at hv10 ⊢
   rw [gQ hV 3 30 xi.o.v]
   clear hV
   obtain ⟨b10, rfl, hb10, hB10⟩ := hv10
   refine l_setS 24 b10 24 zeroO.cells xi.o.cells _ _ rfl rfl (by kernel_rfl) (by kernel_rfl) hB10 (by rw [Ord.len9]; exact ord_size) (by rw [Ord.len9, Ord.len9]) (Ord.one1 _) ?_
   intro w8 hB8 hk8 hs8
   simp only [Act.put]
   refine wpList_nil ?_
   have k8 : Kept w6 w8 := k7.trans' hk8 (by omega)
   have z6 := k6.size
   have HO8 := Lib.hid (HO6.out.kept k8)
   have HB98 := Lib.hid (HB9.out.kept k8)
   have l10 := hB8.lt
   clear hB10 hk8 hs8 k7 HO6 HB9
   go_upto_region 5 with fail
   refine wEp 5 [pV go 0, pV go 0, pV go 10, iV xi.left, pV b10 6] [31,32,33,34,35] ?_ ?_
   ·refine mE 1 1 ?_
    refine nD 2 31 0 ?_
    refine fD 3 32 1 54 2 10 0 ?_
    refine sW 4 rfl (fun a u E D hk=>exec_loadi _ Try.underlying3 _ _ _ rfl (dD D 2) (by rw [(HO8.out.kept hk).cell]; rfl)) ?_
    refine fE 5 10 24 6 6 0 ?_
    exact fz
   intro w9 k9
   simp only [F8]
   refine l_setf b10 6 24 xi.o.l [] xi.left _ _ rfl rfl (by kernel_rfl) (by kernel_rfl) (hB8.kept k9) (by simp [Ord.l]) ?_
   intro w10 hB10 hk10 hs10
   simp only [Act.put]
   refine wpList_nil ?_
   rw [q_l] at hB10
   have k10 : Kept wr w10 := ((k6.trans k8).trans k9).trans' hk10 (by omega)
   have HB10 := Lib.hid hB10
   have HB910 := Lib.hid ((HB98.out.kept k9).keep hk10 (by omega))
   have HP10 := Lib.hid (HBr.out.kept k10)
   have HO10 := Lib.hid (HOr.out.kept k10)
   have HF10 := Lib.hid (HFr.out.kept k10)
   have z10 := k10.size
   clear hB8 hB10 hk10 hs10 k9 HO8 HB98 k6 k8 HOr HBr HFr
   go_upto_region 6 with fail
   refine wEp 4 [pV p 0, iV pr, pV p 0, pV p 4] [36,37,38,39] ?_ ?_
   ·refine mE 1 0 ?_
    refine mE 2 2 ?_
    refine nD 3 36 0 ?_
    refine fD 4 38 2 72 2 4 0 ?_
    exact fz
   intro w11 k11
   simp only [F8]
   refine l_st1 3 p 4 72 _ (.int .i64 pr) _ _ rfl rfl (by kernel_rfl) (by kernel_rfl) (by kernel_rfl) rfl rfl (HP10.out.kept k11) (by rw [sideCs_len]; omega) ?_
   intro w12 hP12 hk12 hs12
   simp only [Act.put]
   refine wpList_nil ?_
   rw [sideCs_last] at hP12
   have kp12 : Keep (· = p) w10 w12 := Keep.any k11 hk12
   have HP12 := Lib.hid hP12
   clear hP12 hk12 hs12 k11 HP10
   go_upto_region 7 with fail
   refine wEp 7 [pV p 0, pV p 0, pV p 5, iV (no + (i : Int)), iV (no + (i : Int) + 1), pV p 0, pV p 5] [40,41,42,43,44,45,46] ?_ ?_
   ·refine mE 1 0 ?_
    refine nD 2 40 0 ?_
    refine fD 3 41 1 72 3 5 0 ?_
    refine sW 4 rfl (fun a u E D hk=>exec_loadi _ Try.underlying3 _ _ _ rfl (dD D 2) (Kept.cell hk ((HP12.out.cell 5).trans (by unfold sideCs; split <;> rfl)))) ?_
    refine sW 5 rfl (fun a u E D hk=>exec_addn (no + (i : Int) + 1) (p := no + (i : Int)) (q := 1) rfl (dD D 3) rfl rfl (by omega) (by omega)) ?_
    refine nD 6 40 0 ?_
    refine fD 7 45 5 72 3 5 0 ?_
    exact fz
   intro w13 k13
   simp only [F8]
   refine l_st1 3 p 5 72 _ (.int .i64 (no + (i : Int) + 1)) _ _ rfl rfl (by kernel_rfl) (by kernel_rfl) (by kernel_rfl) rfl rfl (HP12.out.kept k13) (by rw [sideCs_len]; omega) ?_
   intro w14 hP14 hk14 hs14
   simp only [Act.put]
   refine wpList_nil ?_
   rw [sideCs_no] at hP14
   have kp14 : Keep (· = p) w10 w14 := (kp12.kept k13).trans hk14 (fun _ _ h => h)
   have z14 := kp14.size
   have hpl' : p < wr.heap.size := by omega
   have HP14 := Lib.hid hP14
   have HO14 := Lib.hid (HO10.out.keep kp14 hgp)
   have HF14 := Lib.hid (HF10.out.keep kp14 (fun b hb => (HVN.out b hb).2))
   have HB914 := Lib.hid (HB910.out.keep kp14 (by omega))
   have HB1014 := Lib.hid (HB10.out.keep kp14 (by omega))
   have HR9 := Lib.hid (blk_range HB914.out)
   have HR10 := Lib.hid (blk_range HB1014.out)
   clear hP14 hk14 hs14 k13 kp12 HP12 HO10 HF10 HB910 HB10
   go_upto_region 8 with fail
   refine wp_freeT 17 [.eq (.pointer (some ⟨go, 0, none⟩)), .eq (.pointer (some ⟨go, 0, none⟩)), .eq (.pointer (some ⟨go, 0, none⟩)), .eq (.pointer (some ⟨go, 9, none⟩)), .eq (vv), .eq (.pointer (some ⟨b9, 0, none⟩)), .eq (h.o.v), .eq ((xi.o.q xi.left).v), .eq (.int .i64 pr), .eq (.pointer (some ⟨b9, 9, none⟩)), .eq (.int .i64 h.n), .eq (.pointer (some ⟨p, 0, none⟩)), .eq (.pointer (some ⟨p, 0, none⟩)), .eq (.pointer (some ⟨p, 5, none⟩)), .eq (.int .i64 (no + (i : Int) + 1)), .eq ((Fl.mk h.o (xi.o.q xi.left) pr h.n (no + (i : Int) + 1)).v), .sl w14.heap.size 61 21 1 (Fl.mk h.o (xi.o.q xi.left) pr h.n (no + (i : Int) + 1)).cells] (.pointer (some ⟨go, 0, none⟩)) ((fun v' u u' => Sl u' 61 21 v' (xi.f.length + 1) (fls xi.f ++ (Fl.mk h.o (xi.o.q xi.left) pr h.n (no + (i : Int) + 1)).cells) ∧ Keep (fun b => vv.ownBlock = some b) u u' ∧ ∀ b, v'.ownBlock = some b → vv.ownBlock = some b ∨ w14.heap.size ≤ b)) (by kernel_rfl) rfl rfl (by kernel_rfl) (by kernel_rfl) (t_zero (d := 47) _ rfl rfl rfl (by kernel_rfl) (by kernel_rfl)) ?_ (fun a u hE hD hk =>  (by obtain ⟨v', u', hr, hs', hk', ho'⟩ := run_append_sl slF _ u vv (a.eval (.tmp 63)) xi.f.length 1 (fls xi.f) (Fl.mk h.o (xi.o.q xi.left) pr h.n (no + (i : Int) + 1)).cells (HF14.out.kept hk) ((hD 16 63 (by kernel_rfl))).1 (Fl.one _) (by unfold maxLen; omega) (by omega); exact t_last (o := ⟨some 64, _, _, _, _, _⟩) (R := (fun v' u u' => Sl u' 61 21 v' (xi.f.length + 1) (fls xi.f ++ (Fl.mk h.o (xi.o.q xi.left) pr h.n (no + (i : Int) + 1)).cells) ∧ Keep (fun b => vv.ownBlock = some b) u u' ∧ ∀ b, v'.ownBlock = some b → vv.ownBlock = some b ∨ w14.heap.size ≤ b)) (m := 17) (v := v') (w' := u') rfl (wanted_none rfl _) (exec_appS slF (.tmp 51) (.tmp 63) vv _ rfl (dD hD 4) rfl v' u' hr) ⟨hs', hk', fun b hb => (ho' b hb).imp id (fun h => Nat.le_trans hk.size h)⟩)) ?_
   ·refine mE 2 1 ?_
    refine nD 3 48 1 ?_
    refine fD 4 49 2 54 1 9 0 ?_
    refine sW 5 rfl (fun a u E D hk=>exec_ldv _ _ Try.underlying52 _ _ _ rfl (dD D 3) (by rw [(HO14.out.kept hk).cell]; rfl)) ?_
    refine fE 6 9 26 0 0 0 ?_
    refine sD 7 52 5 h.o.cells Try.underlying24 (fun u hk=>ent_ord (range_kept HR9.out hk)) (by rw [h.o.len9]; exact ord_size) ?_
    refine sE 8 10 b10 0 ((xi.o.q xi.left).cells) Try.underlying24 (fun u hk=>range_kept HR10.out hk) (by rw [(xi.o.q xi.left).len9]; exact ord_size) ?_
    refine mE 9 2 ?_
    refine fE 10 9 26 1 9 0 ?_
    refine lD 11 56 9 Try.underlying3 (fun u hk=>range_int (range_kept HR9.out hk) 9 _ rfl) ?_
    refine mE 12 0 ?_
    refine nD 13 58 11 ?_
    refine fD 14 59 12 72 3 5 0 ?_
    refine sW 15 rfl (fun a u E D hk=>exec_loadi _ Try.underlying3 _ _ _ rfl (dD D 13) (Kept.cell hk ((HP14.out.cell 5).trans (by unfold sideCs; split <;> rfl)))) ?_
    refine sW 16 rfl (fun a u E D hk=>exec_bF _ _ _ _ _ h.o (xi.o.q xi.left) pr h.n (no + (i : Int) + 1) rfl (dD D 6) (dD D 7) (dD D 8) (dD D 10) (dD D 14)) ?_
    refine nW 17 rfl (fun a u E D hk=>⟨_, _, exec_oneS slF _ (Fl.mk h.o (xi.o.q xi.left) pr h.n (no + (i : Int) + 1)).cells (by omega) rfl (dD D 15) ((Fl.mk h.o (xi.o.q xi.left) pr h.n (no + (i : Int) + 1)).len21), (sl_one u 61 21 _ w14.heap.size ((Fl.mk h.o (xi.o.q xi.left) pr h.n (no + (i : Int) + 1)).len21) (by omega) hk.size), ((Keep.refl _ u).alloc _)⟩) ?_
    exact fz
   intro gv w1 w15 hV h0 hR hk1
   rw [dq 18 [47,48,49,50,51,52,53,54,55,56,57,58,59,60,61,62,63,64]]
   simp only [Fz7]
   have hT := hR 64 (by kernel_rfl)
   generalize gv 64 = v64 at hT ⊢
   rw [show gv 47 = .pointer (some ⟨go, 0, none⟩) from h0 47 (by kernel_rfl)]
   clear hV h0 hR
   obtain ⟨hs15, hk15, ho15⟩ := hT
   have hO15 := (HO14.out.kept hk1).keep hk15 (fun e => (HVN.out go e).1 rfl)
   refine l_val (.pointer (some ⟨go, 0, none⟩)) rfl (exec_nilp (.tmp 47) ⟨go, 0, none⟩ rfl (by kernel_rfl)) ?_
   simp only [Act.put, sA, sS, sZ]
   refine l_val (.pointer (some ⟨go, 9, none⟩)) rfl (exec_fldo 54 1 9 (.tmp 65) (go) (0) (9) rfl (by kernel_rfl) (by kernel_rfl) rfl) ?_
   simp only [Act.put, sA, sS, sZ]
   refine l_st1 52 go 9 54 _ v64 _ _ rfl rfl (by kernel_rfl) (by kernel_rfl) (by kernel_rfl) (sl_cells hs15) (sl_onec hs15) hO15 (by rw [Oc.len15]; omega) ?_
   intro w16 hO16 hk16 hs16
   simp only [Act.put]
   refine wpList_nil ?_
   obtain ⟨vn, hvn⟩ : ∃ y, y = v64 := ⟨_, rfl⟩
   subst hvn
   rw [Oc.set_fills] at hO16
   have zk1 := hk1.size
   have z15 := hk15.size
   have hvn1 : ∀ b, vn.ownBlock = some b → b ≠ go ∧ b ≠ p := fun b hb => by
    rcases ho15 b hb with e | e
    ·exact HVN.out b e
    ·omega
   have HVN1 := Lib.hid hvn1
   have hvn2 : ∀ b, vn.ownBlock = some b → vf.ownBlock = some b ∨ w.heap.size ≤ b := fun b hb => by
    rcases ho15 b hb with e | e
    ·exact HGr.out b e
    ·exact .inr (by omega)
   have HVN2 := Lib.hid hvn2
   have K16 : Keep (fun b => b = go ∨ vv.ownBlock = some b) w14 w16 := (Keep.mono (T := fun b => b = go ∨ vv.ownBlock = some b) (Keep.any hk1 hk15) (fun _ _ e => .inr e)).trans hk16 (fun b _ e => .inl e)
   have HO16 := Lib.hid hO16
   have HF16 := Lib.hid (hs15.keep hk16 (fun b hb e => (hvn1 b hb).1 e))
   have HR916 := Lib.hid (blk_range (HB914.out.keep K16 (fun e => by
    rcases e with e | e
    ·omega
    ·have := HVG.out _ e; omega)))
   have HP16 := Lib.hid (HP14.out.keep K16 (fun e => by
    rcases e with e | e
    ·exact hgp e.symm
    ·exact (HVN.out _ e).2 rfl))
   have KW16 : Keep (fun b => b = go ∨ b = p ∨ vf.ownBlock = some b) w w16 := by
    refine (Keep.trans (hkr.kept k10) kp14 (fun b _ e => .inr (.inl e))).trans K16 (fun b hb e => ?_)
    rcases e with e | e
    ·exact .inl e
    ·rcases HGr.out b e with e | e
     ·exact .inr (.inr e)
     ·omega
   clear hO16 hs15 hk15 ho15 hk16 hs16 hO15 hk1 HO14 HF14 HB914 HB1014 HR9 HR10 HP14 K16 kp14 k10 hvn1 hvn2
   obtain ⟨xj, hxj⟩ : ∃ xj : Oc, xj = xi := ⟨_, rfl⟩
   go_upto_region 9 with fail
   refine wGp 7 [pV go 0, pV go 0, pV go 10, iV xi.left, pV b9 9, iV h.n, iV (xi.left - h.n)] [67,68,69,70,71,72,73] ?_ ?_
   ·refine mE 1 1 ?_
    refine nD 2 67 0 ?_
    refine fD 3 68 1 54 2 10 0 ?_
    refine sW 4 rfl (fun a u E D hk=>exec_loadi _ Try.underlying3 _ _ _ rfl (dD D 2) (by rw [(HO16.out.kept hk).cell]; rfl)) ?_
    refine fE 5 9 26 1 9 0 ?_
    refine lD 6 71 4 Try.underlying3 (fun u hk=>range_int (range_kept HR916.out hk) 9 _ rfl) ?_
    refine sW 7 rfl (fun a u E D hk=>exec_subn (xi.left - h.n) (p := xi.left) (q := h.n) rfl (dD D 3) (dD D 5) rfl (by omega) (by omega)) ?_
    exact fz
   intro w17 k17
   simp only [F8]
   refine l_val (.pointer (some ⟨go, 0, none⟩)) rfl (exec_nilp (.tmp 67) ⟨go, 0, none⟩ rfl (by kernel_rfl)) ?_
   simp only [Act.put, sA, sS, sZ]
   refine l_val (.pointer (some ⟨go, 10, none⟩)) rfl (exec_fldo 54 2 10 (.tmp 74) (go) (0) (10) rfl (by kernel_rfl) (by kernel_rfl) rfl) ?_
   simp only [Act.put, sA, sS, sZ]
   refine l_st1 3 go 10 54 _ (.int .i64 (xi.left - h.n)) _ _ rfl rfl (by kernel_rfl) (by kernel_rfl) (by kernel_rfl) rfl rfl (HO16.out.kept k17) (by rw [Oc.len15]; omega) ?_
   intro w18 hO18 hk18 hs18
   simp only [Act.put]
   refine wpList_nil ?_
   rw [Oc.set_left] at hO18
   have HO18 : Hid (Blk w18 go 54 ((x.more pr no (H.take (i + 1))).cells vn)) := by
    show Blk _ _ _ _
    rw [HNX.out]
    exact hO18
   have HF18 : Hid (Sl w18 61 21 vn (x.more pr no (H.take (i + 1))).f.length (fls (x.more pr no (H.take (i + 1))).f)) := by
    show Sl _ _ _ _ _ _
    rw [HNX.out]
    simp only
    rw [List.length_append, fls_snoc, ← HXO.out]
    exact (HF16.out.kept k17).keep hk18 (fun b hb e => (HVN1.out b hb).1 e)
   have HP18 : Hid (Blk w18 p 72 (sideCs s v u0 (lastOf last (fillsOf x.o pr no x.left (H.take (i + 1)))) (no + ((i + 1 : Nat) : Int)))) := by
    show Blk _ _ _ _
    rw [HNF.out, show no + ((i + 1 : Nat) : Int) = no + (i : Int) + 1 by omega]
    exact (HP16.out.kept k17).keep hk18 (fun e => hgp e.symm)
   have KW18 : Keep (fun b => b = go ∨ b = p ∨ vf.ownBlock = some b) w w18 := (KW16.kept k17).trans hk18 (fun b _ e => .inl e)
   clear hO18 hk18 hs18 HO16 HF16 HP16 KW16 k17 HR916 hxj HNX HNF
   go_wp2
   exact ⟨⟨i + 1, vn, by omega, by go_num, HO18, HF18, HP18, HVN2, KW18⟩, by simp [intOf]; omega⟩
  ·have hin : i = n := by omega
   subst hin
   have HT : Hid (H.take i = H) := by show _ = _; exact List.take_of_length_le (by rw [HN.out]; omega)
   have HR : Hid (TradeIn w go p s v u0 vf last no pr x H (.returned (.tuple #[])) wr) := by
    rw [HT.out] at HOr HFr HBr
    exact ⟨vv, rfl, HOr.out, HFr.out, by rw [HN.out]; exact HBr.out, hkr, HGr.out⟩
   clear HOr HFr HBr HGr
   go_wp2
   go_end0
   exact HR.out
def Rejoin3 (w : World) (F : Nat → Prop) (p : Nat) (B : Bok) (s : Int) (u : Value) (Fs : Nat → Prop) : Prop :=
 ∀ (w' : World) (v' : Value) (L' : List Lev) (Fs' : Nat → Prop) (last no : Int) (S : Nat → Prop), Keep S w w' → (∀ b, F b → S b → Fs b ∨ b = p) → Blk w' p 72 (sideCs s v' u last no) → Way 96 98 89 w' Fs' v' L' → Grow w Fs Fs' → ∃ F', Bk w' F' p (B.to s L' last no) ∧ Grow w F F' ∧ ∀ b, F' b ↔ F b ∨ Fs' b
theorem Bk.open3 {w : World} {F : Nat → Prop} {p : Nat} {B : Bok} (h : Bk w F p B) {s : Int} (hs : s = 1 ∨ s = 2) :
  ∃ v u Z G Fs, levs Z = B.sd s ∧ WayZ 96 98 89 w Fs v Z G ∧ Blk w p 72 (sideCs s v u B.last B.no) ∧ (∀ b, Fs b → F b ∧ b ≠ p) ∧ F p ∧ (∀ b, F b → b < w.heap.size) ∧ Rejoin3 w F p B s u Fs := by
 obtain ⟨h1, h2, v1, v2, F1, F2, hB, hW1, hW2, h3, h4⟩ := h
 have hpl := h2 p h1
 rcases hs with rfl | rfl
 ·obtain ⟨Z, G, e, hz⟩ := hW1
  refine ⟨v1, v2, Z, G, F1, e, hz, hB, fun b hb => ⟨(h3 b hb).1, (h3 b hb).2.1⟩, h1, h2, ?_⟩
  intro w' v' L' Fs' last no S hk hS hB' hW' hG
  have hlt := hW'.lt
  refine ⟨fun b => F b ∨ Fs' b, ⟨.inl h1, fun b hb => hb.elim (fun h => Nat.lt_of_lt_of_le (h2 b h) hk.size) (hlt b), v', v2, Fs', F2, hB', hW', hW2.keep hk (fun b hb h => (hS b (h4 b hb).1 h).elim (fun h => (h3 b h).2.2 hb) (fun h => (h4 b hb).2 h)), fun b hb => ?_, fun b hb => ⟨.inl (h4 b hb).1, (h4 b hb).2⟩⟩, fun b hb => hb.elim .inl (fun h => (hG b h).imp (fun h => (h3 b h).1) id), fun b => Iff.rfl⟩
  refine ⟨.inr hb, ?_, ?_⟩
  ·rcases hG b hb with h | h
   ·exact (h3 b h).2.1
   ·omega
  ·rcases hG b hb with h | h
   ·exact (h3 b h).2.2
   ·intro h'
    have := h2 b (h4 b h').1
    omega
 ·obtain ⟨Z, G, e, hz⟩ := hW2
  refine ⟨v2, v1, Z, G, F2, e, hz, hB, h4, h1, h2, ?_⟩
  intro w' v' L' Fs' last no S hk hS hB' hW' hG
  have hlt := hW'.lt
  refine ⟨fun b => F b ∨ Fs' b, ⟨.inl h1, fun b hb => hb.elim (fun h => Nat.lt_of_lt_of_le (h2 b h) hk.size) (hlt b), v1, v', F1, Fs', hB', hW1.keep hk (fun b hb h => (hS b (h3 b hb).1 h).elim (fun h => (h3 b hb).2.2 h) (fun h => (h3 b hb).2.1 h)), hW', fun b hb => ⟨.inl (h3 b hb).1, (h3 b hb).2.1, fun h' => ?_⟩, fun b hb => ⟨.inr hb, ?_⟩⟩, fun b hb => hb.elim .inl (fun h => (hG b h).imp (fun h => (h4 b h).1) id), fun b => Iff.rfl⟩
  ·rcases hG b h' with h | h
   ·exact (h3 b hb).2.2 h
   ·have := h2 b (h3 b hb).1
    omega
  ·rcases hG b hb with h | h
   ·exact (h4 b h).2
   ·omega
theorem match_zero {o : Ord} {no q : Int} (h : q ≤ 0) : ∀ (L : List Lev), matchM o no q L = ⟨[], q, false, L⟩
 | [] => rfl
 | l :: R => by rw [matchM, if_neg (fun h' => by omega)]
def roundM (o : Ord) (no q : Int) (l : Lev) (R : List Lev) : Mt :=
 if (takeM o.firm q l.2).2.1 = true then ⟨[], q - seenM (takeM o.firm q l.2).1, true, dropE [] R (l.1, (takeM o.firm q l.2).2.2)⟩ else matchM o (no + (takeM o.firm q l.2).1.length) (q - seenM (takeM o.firm q l.2).1) (dropE [] R (l.1, (takeM o.firm q l.2).2.2))
theorem match_round {s : Int} {o : Ord} {no q : Int} {l : Lev} {R : List Lev} (hL : Sid s (l :: R)) (hq : 0 < q) (hc : o.crosses l.1 = true) :
  matchM o no q (l :: R) = ⟨fillsOf o l.1 no q (takeM o.firm q l.2).1 ++ (roundM o no q l R).f, (roundM o no q l R).left, (roundM o no q l R).self, (roundM o no q l R).L⟩ := by
 obtain ⟨hg, hy⟩ := hL.good (l := l) (by simp)
 obtain ⟨u1, u2, u3⟩ := takeM_end o.firm _ q l.2 (Nat.le_refl _) (by omega) hg hy
 rw [matchM, if_pos ⟨hq, hc⟩]
 unfold roundM dropE
 generalize takeM o.firm q l.2 = t at *
 obtain ⟨H, b, X⟩ := t
 simp only at *
 by_cases he : X.isEmpty = true
 ·rw [if_pos he, if_pos he]
  have he' : X = [] := by simpa using he
  subst he'
  have hb : b = false := by
   cases b with
   | false => rfl
   | true => obtain ⟨e, E, q1, _⟩ := u2 rfl; cases q1
  subst hb
  simp
 ·rw [if_neg he, if_neg he]
  cases b with
  | true => simp
  | false =>
   rcases u3 rfl with q1 | q1
   ·rw [if_neg (by simp), match_zero (by omega)]
    simp
   ·rw [q1] at he; exact absurd rfl he
structure RoundIs (s : Int) (o : Ord) (q : Int) (l : Lev) (R : List Lev) (t : List Ent × Bool × List Ent) : Prop where
 sid : Sid s (dropE [] R (l.1, t.2.2))
 pos : ∀ h ∈ t.1, 1 ≤ h.n
 sum : seenM t.1 ≤ q
 len : (t.1.length : Int) ≤ seenM t.1
 prog : t.2.1 = true ∨ 1 ≤ seenM t.1
 few : t.2.2.length ≤ 64
theorem round_is {s : Int} {o : Ord} {q : Int} {l : Lev} {R : List Lev} (hL : Sid s (l :: R)) (hq : 0 < q) : RoundIs s o q l R (takeM o.firm q l.2) := by
 obtain ⟨hg, hy⟩ := hL.good (l := l) (by simp)
 obtain ⟨t1, t2, t3, t4, t5⟩ := takeM_facts o.firm _ q l.2 (Nat.le_refl _) hg
 obtain ⟨u1, u2, u3⟩ := takeM_end o.firm _ q l.2 (Nat.le_refl _) (by omega) hg hy
 have hle := take_len o.firm q l.2
 have h64 : l.2.length ≤ 64 := by
  have := hL.few
  rw [entL_cons, List.length_append] at this
  omega
 refine ⟨?_, fun h hh => (t3 h hh).1, t5 (by omega), t4, ?_, by omega⟩
 ·unfold dropE
  split
  ·exact hL.tail
  ·rename_i he
   exact hL.with_ (by simpa using he) (take_at o.firm q (hL.at_ l (by simp))).1 hle (take_fresh o.firm q (hL.fr l (by simp)))
 ·cases hb : (takeM o.firm q l.2).2.1 with
  | true => exact .inl rfl
  | false =>
   right
   rcases u3 hb with q1 | q1
   ·omega
   ·rw [q1] at t2
    have h1 := whole_ge hg.ok
    have h2 := List.length_pos_iff.2 (hL.ne l (by simp))
    rw [show wholeM ([] : List Ent) = 0 from rfl] at t2
    omega
def mOut (bo : Nat) (w : World) : Nat := match w.cell? ⟨bo, 10, none⟩, w.cell? ⟨bo, 13, none⟩ with
 | some (.int _ l), some (.bool b) => 2 * l.toNat + (if b = true then 0 else 1)
 | _, _ => 0
theorem mOut_is {w : World} {bo : Nat} {x : Oc} {v : Value} {T : TypeId} (h : Blk w bo T (x.cells v)) : mOut bo w = 2 * x.left.toNat + (if x.self = true then 0 else 1) := by
 unfold mOut
 rw [h.cell, h.cell]
 rfl
def MatchIn (w : World) (F : Nat → Prop) (p : Nat) (B : Bok) (o : Ord) (m : Mt) (r : Ending) (w' : World) : Prop :=
 ∃ F' vf, r = .returned ((Oc.mk o m.f m.left false m.self 0).v vf) ∧ Bk w' F' p (B.to (3 - o.side) m.L (lastOf B.last m.f) (B.no + m.f.length)) ∧ Sl w' 61 21 vf m.f.length (fls m.f) ∧ (∀ b, vf.ownBlock = some b → w.heap.size ≤ b ∧ ¬ F' b) ∧ Grow w F F' ∧ Keep F w w'
theorem built_oc (o : Ord) (n : Int) : Try.prog.built 54 [(0, o.v), (2, .int .i64 n)] = some ((Oc.mk o [] n false false 0).cells (.slice none 0 0)).toArray := by kernel_rfl
set_option maxRecDepth 100000 in
set_option maxHeartbeats 3200000 in
theorem match_any (w : World) (F : Nat → Prop) (p : Nat) (B : Bok) (o : Ord) (h : Bk w F p B) (hI : Inv B) (hs : o.side = 1 ∨ o.side = 2) (hq : 1 ≤ o.qty ∧ o.qty ≤ 1048576) (hn : B.no ≤ 1000000000000) :
  Calls Try.prog 80 #[.pointer (some ⟨p, 0, none⟩), o.v] w (MatchIn w F p B o (B.matched o)) := by
 have hSid : Sid (3 - o.side) (B.sd (3 - o.side)) := (hI.side hs).theirs
 have hno0 := hI.no0
 have HSD := Lib.hid hSid
 have hFl := h.lt
 have HK := Lib.hid h
 have hpF := h.1
 obtain ⟨s, hse⟩ : ∃ s, 3 - o.side = s := ⟨_, rfl⟩
 have HSE := Lib.hid hse
 have HSO := Lib.hid hs
 have hs : s = 1 ∨ s = 2 := by omega
 rw [hse] at HSD
 clear hSid h hI hse
 go_enter Try.func80, Try.ntmps80
 go_upto_region 0 with fail
 refine wp_text 2 [.fresh w.heap.size 24 (o.cells), .fresh w.heap.size 54 (zeroC.cells (.slice none 0 0))] rfl (by kernel_rfl) ?_ ?_
 ·refine nW 1 rfl (fun a u E D hk=>⟨_, _, exec_box 24 _ (o.cells) rfl (eE E), ⟨_, rfl, hk.size, Blk.new u _ _⟩, ((Keep.refl _ u).alloc _)⟩) ?_
  refine nW 2 rfl (fun a u E D hk=>⟨_, _, exec_alc 54 (zeroC.cells (.slice none 0 0)) rfl zC, ⟨_, rfl, hk.size, Blk.new u _ _⟩, ((Keep.refl _ u).alloc _)⟩) ?_
  exact fz
 intro gv wa hV ka
 rw [dq 2 [3,4]]
 simp only [Fz7]
 have hv3 : (.fresh w.heap.size 24 (o.cells) : Kn).p (gv 3) wa := hV 0 3 (by kernel_rfl)
 generalize gv 3 = v3 at hv3 ⊢
 have hv4 : (.fresh w.heap.size 54 (zeroC.cells (.slice none 0 0)) : Kn).p (gv 4) wa := hV 1 4 (by kernel_rfl)
 generalize gv 4 = v4 at hv4 ⊢
 clear hV
 obtain ⟨bi, rfl, hbi, hBi⟩ := hv3
 obtain ⟨b4, rfl, hb4, hB4⟩ := hv4
 refine wpList_nil ?_
 have HIa := Lib.hid (blk_range hBi)
 have HB4a := Lib.hid hB4
 have l4 := hB4.lt
 have li := hBi.lt
 clear hBi hB4
 go_upto_region 1 with fail
 refine wp_text 5 [.eq (o.v), pE bi 6, iE o.qty, .eq ((Oc.mk o [] o.qty false false 0).v (.slice none 0 0)), .fresh wa.heap.size 54 (zeroC.cells (.slice none 0 0))] rfl (by kernel_rfl) ?_ ?_
 ·refine sE 1 3 bi 0 o.cells Try.underlying24 (fun u hk=>range_kept HIa.out hk) (by rw [o.len9]; exact ord_size) ?_
  refine fE 2 3 24 6 6 0 ?_
  refine lD 3 11 1 Try.underlying3 (fun u hk=>range_int (range_kept HIa.out hk) 6 _ rfl) ?_
  refine sW 4 rfl (fun a u E D hk=>exec_build _ [(0, .tmp 10), (2, .tmp 12)] ((Oc.mk o [] o.qty false false 0).cells (.slice none 0 0)) rfl (by simp only [List.map_cons, List.map_nil]; rw [show a.eval (.tmp 10) = o.v from (dD D 0), show a.eval (.tmp 12) = .int .i64 o.qty from (dD D 2)]; exact built_oc o o.qty)) ?_
  refine nW 5 rfl (fun a u E D hk=>⟨_, _, exec_alc 54 (zeroC.cells (.slice none 0 0)) rfl zC, ⟨_, rfl, hk.size, Blk.new u _ _⟩, ((Keep.refl _ u).alloc _)⟩) ?_
  exact fz
 intro gv wb hV kb
 rw [dq 5 [10,11,12,13,5]]
 simp only [Fz7]
 have hv5 : (.fresh wa.heap.size 54 (zeroC.cells (.slice none 0 0)) : Kn).p (gv 5) wb := hV 4 5 (by kernel_rfl)
 generalize gv 5 = v5 at hv5 ⊢
 rw [gQ hV 3 13 ((Oc.mk o [] o.qty false false 0).v (.slice none 0 0))]
 clear hV
 obtain ⟨bo, rfl, hbo, hBo⟩ := hv5
 refine l_setS 54 bo 54 (zeroC.cells (.slice none 0 0)) ((Oc.mk o [] o.qty false false 0).cells (.slice none 0 0)) _ _ rfl rfl (by kernel_rfl) (by kernel_rfl) hBo (by rw [Oc.len15]; exact szC) (by rw [Oc.len15, Oc.len15]) (Oc.one _ _ rfl) ?_
 intro wc hBc hkc hsc
 simp only [Act.put]
 refine wpList_nil ?_
 have kac : Kept wa wc := kb.trans' hkc (by omega)
 have HOc := Lib.hid hBc
 have lo := hBc.lt
 have HIc := Lib.hid (range_kept HIa.out kac)
 have HB4c := Lib.hid (HB4a.out.kept kac)
 clear hBo hBc hkc hsc kb HIa HB4a
 have kwc := ka.trans kac
 clear ka kac
 go_upto_region 2 with fail
 refine wE 4 [pV p 0, o.v, pV p (offS s), pV p (offS s)] [14,15,16,6] ?_ ?_
 ·refine mE 1 0 ?_
  refine sE 2 3 bi 0 o.cells Try.underlying24 (fun u hk=>range_kept HIc.out hk) (by rw [o.len9]; exact ord_size) ?_
  refine cS 3 86 [.pointer (some ⟨p, 0, none⟩), o.v] rfl Try.func86 rfl (fun a u E D hk=>⟨ll (dD D 0) (ll (dD D 1) rfl), (by have h := against_any u p o HSO.out; rw [HSE.out] at h; exact h)⟩) ?_
  refine mD 4 16 2 ?_
  exact fz
 intro w1 kd
 simp only [F8]
 have k1 := kwc.trans kd
 have HI := Lib.hid (range_kept HIc.out kd)
 have HB4 := Lib.hid (HB4c.out.kept kd)
 have HO1 := Lib.hid (HOc.out.kept kd)
 have HK1 := Lib.hid (HK.out.kept k1)
 have zd := kd.size
 have z1 := k1.size
 have hFl1 : ∀ b, F b → b < w1.heap.size := fun b hb => Nat.lt_of_lt_of_le (hFl b hb) z1
 have h4F : ¬ F b4 := fun e => by have := hFl b4 e; omega
 have hoF : ¬ F bo := fun e => by have := hFl bo e; omega
 have hiF : ¬ F bi := fun e => by have := hFl bi e; omega
 have h4o : b4 ≠ bo := by omega
 have hio : bi ≠ bo := by omega
 clear HIc HB4c HOc HK kd kwc
 go_wp2_with fail
 go_loopw [7] (fun _ wr => ∃ (L : List Lev) (last no left : Int) (self : Bool) (fs : List Fl) (Fc : Nat → Prop) (vf : Value), Hid (Bk wr Fc p (B.to s L last no)) ∧ Hid (Blk wr bo 54 ((Oc.mk o fs left false self 0).cells vf)) ∧ Hid (Sl wr 61 21 vf fs.length (fls fs)) ∧ Hid (∀ b, vf.ownBlock = some b → w1.heap.size ≤ b ∧ ¬ Fc b ∧ b ≠ bo) ∧ Hid (Grow w1 F Fc) ∧ Keep (fun b => F b ∨ b = bo) w1 wr ∧ Hid (Sid s L) ∧ Hid (last = lastOf B.last fs ∧ no = B.no + fs.length) ∧ (0 ≤ left ∧ (fs.length : Int) + left ≤ o.qty) ∧ Hid (B.matched o = ⟨fs ++ (if self = true then Mt.mk [] left true L else matchM o no left L).f, (if self = true then Mt.mk [] left true L else matchM o no left L).left, (if self = true then Mt.mk [] left true L else matchM o no left L).self, (if self = true then Mt.mk [] left true L else matchM o no left L).L⟩)) (fun _ wr => mOut bo wr)
 case atStart =>
  refine ⟨B.sd s, B.last, B.no, o.qty, false, [], F, .slice none 0 0, by show Bk _ _ _ _; rw [Bok.to_self hs]; exact HK1.out, HO1.out, Sl.nil _ _ _, fun b hb => by simp [Value.ownBlock] at hb, Grow.refl _ _, Keep.refl _ _, HSD.out, ⟨rfl, by simp⟩, ⟨by omega, by simp⟩, ?_⟩
  show _ = _
  unfold Bok.matched
  rw [HSE.out]
  simp
 case round =>
  obtain ⟨L, last, no, left, self, fs, Fc, vf, HBr, HOr, HVr, HVn, HGr, hkr, HSr, HLN, hlf, HM⟩ := hrel
  have HIr := Lib.hid (range_keep HI.out hkr (fun e => e.elim hiF hio))
  have hL64 : L.length ≤ 1000 := by have := HSr.out.ok.len; omega
  have zr := hkr.size
  have hmo := mOut_is HOr.out
  by_cases hl0 : 0 < left
  ·by_cases hsf : self = true
   ·skip
    have HFIN : Hid (B.matched o = ⟨fs, left, self, L⟩) := by show _ = _; rw [HM.out, hsf]; simp
    clear HM
    go_upto_region 3 with fail
    refine wE 13 [pV bo 10, iV ((Oc.mk o fs left false self 0).left), bV true, bV true, pV bo 13, bV ((Oc.mk o fs left false self 0).self), bV false, bV false, bV false, undef, undef, undef, bV false] [17,18,19,20,21,22,23,24,25,26,27,28,29] ?_ ?_
    ·refine fE 1 5 54 2 10 0 ?_
     refine sW 2 rfl (fun a u E D hk=>exec_loadi _ Try.underlying3 _ _ _ rfl (dD D 0) (by rw [(HOr.out.kept hk).cell]; rfl)) ?_
     refine aS 3 rfl (fun a u E D hk=>exec_gtn rfl (dD D 1) rfl) (decide_eq_true hl0) ?_
     refine mD 4 19 2 ?_
     refine fE 5 5 54 5 13 0 ?_
     refine sW 6 rfl (fun a u E D hk=>exec_ldb _ Try.underlying4 _ _ _ rfl (dD D 4) (by rw [(HOr.out.kept hk).cell]; rfl)) ?_
     refine aS 7 rfl (fun a u E D hk=>exec_not _ _ (Oc.mk o fs left false self 0).self rfl (dD D 5)) (by rw [hsf]; rfl) ?_
     refine pT 8 20 23 3 6 ?_
     refine mD 9 24 7 ?_
     refine kS 10 8 ?_
     refine kS 11 8 ?_
     refine kS 12 8 ?_
     refine pF 13 25 8 ?_
     exact fz
    intro wq kq
    simp only [F8]
    clear hsf
    have kwq := hkr.kept kq
    have HB4q := Lib.hid (HB4.out.keep kwq (fun e => e.elim h4F (fun e => h4o e)))
    have HOq := Lib.hid (HOr.out.kept kq)
    have HBq := Lib.hid (HBr.out.kept kq)
    have HVq := Lib.hid (HVr.out.kept kq)
    go_upto_region 9 with fail
    refine wEp 1 [(Oc.mk o fs left false self 0).v vf] [54] ?_ ?_
    ·refine sE 1 5 bo 0 ((Oc.mk o fs left false self 0).cells vf) Try.underlying54 (fun u hk=>blk_range (HOq.out.kept hk)) (by rw [Oc.len15]; exact szC) ?_
     exact fz
    intro wy ky
    simp only [F8]
    refine l_setS 54 b4 54 (zeroC.cells (.slice none 0 0)) ((Oc.mk o fs left false self 0).cells vf) _ _ rfl rfl (by kernel_rfl) (by kernel_rfl) (HB4q.out.kept ky) (by rw [Oc.len15]; exact szC) (by rw [Oc.len15, Oc.len15]) (Oc.one _ _ (sl_onec HVq.out)) ?_
    intro wx hBx hkx hsx
    simp only [Act.put]
    refine wpList_nil ?_
    go_wp2
    refine bodyPost_ret (results_cell (p := 4) rfl _ _ b4 _ ((Oc.mk o fs left false self 0).cells vf) rfl hBx Try.underlying54 (by rw [Oc.len15]; exact szC)) rfl ?_
    rw [HFIN.out]
    unfold MatchIn
    rw [HSE.out]
    have hx4 : ¬ Fc b4 := fun e => (HGr.out b4 e).elim h4F (fun e => by omega)
    have hv4 : ∀ b, vf.ownBlock = some b → b ≠ b4 := fun b hb e => by have := (HVn.out b hb).1; omega
    have zq := kq.size
    have zy := ky.size
    have hlast := HLN.out
    refine ⟨Fc, vf, rfl, ?_, ?_, fun b hb => ⟨by have := (HVn.out b hb).1; omega, (HVn.out b hb).2.1⟩, fun b hb => (HGr.out b hb).imp id (fun h => by omega), ?_⟩
    ·have h1 := ((HBq.out.kept ky).keep hkx (fun b hb e => hx4 (by rw [← e]; exact hb)))
     rw [hlast.1, hlast.2] at h1
     exact h1
    ·exact (HVq.out.kept ky).keep hkx (fun b hb e => hv4 b hb e)
    ·exact ((Keep.any k1 kwq).mono (fun b hb e => e.elim id (fun e => by omega))).kept ky |>.trans hkx (fun b hb e => by omega)
   ·have hsf : self = false := by simpa using hsf
    cases hmt : o.meets L with
    | false =>
     have HCR := Lib.hid hmt
     have HFIN : Hid (B.matched o = ⟨fs, left, self, L⟩) := by show _ = _; rw [HM.out, hsf, match_none hmt]; simp
     clear HM hmt
     go_upto_region 3 with fail
     refine wE 13 [pV bo 10, iV ((Oc.mk o fs left false self 0).left), bV true, bV true, pV bo 13, bV ((Oc.mk o fs left false self 0).self), bV true, bV true, bV true, pV p (offS s), o.v, bV false, bV false] [17,18,19,20,21,22,23,24,25,26,27,28,29] ?_ ?_
     ·refine fE 1 5 54 2 10 0 ?_
      refine sW 2 rfl (fun a u E D hk=>exec_loadi _ Try.underlying3 _ _ _ rfl (dD D 0) (by rw [(HOr.out.kept hk).cell]; rfl)) ?_
      refine aS 3 rfl (fun a u E D hk=>exec_gtn rfl (dD D 1) rfl) (decide_eq_true hl0) ?_
      refine mD 4 19 2 ?_
      refine fE 5 5 54 5 13 0 ?_
      refine sW 6 rfl (fun a u E D hk=>exec_ldb _ Try.underlying4 _ _ _ rfl (dD D 4) (by rw [(HOr.out.kept hk).cell]; rfl)) ?_
      refine aS 7 rfl (fun a u E D hk=>exec_not _ _ (Oc.mk o fs left false self 0).self rfl (dD D 5)) (by rw [hsf]; rfl) ?_
      refine pT 8 20 23 3 6 ?_
      refine mD 9 24 7 ?_
      refine mE 10 6 ?_
      refine sE 11 3 bi 0 o.cells Try.underlying24 (fun u hk=>range_kept HIr.out hk) (by rw [o.len9]; exact ord_size) ?_
      refine cS 12 87 [.pointer (some ⟨p, offS s, none⟩), o.v] rfl Try.func87 rfl (fun a u E D hk=>⟨ll (dD D 9) (ll (dD D 10) rfl), (by obtain ⟨F', hLd⟩ := (HBr.out.kept hk).lad hs; rw [Bok.to_sd hs] at hLd; rw [← HCR.out]; exact crossed_any u F' p (offS s) s L o hLd hL64)⟩) ?_
      refine pT 13 25 28 8 11 ?_
      exact fz
     intro wq kq
     simp only [F8]
     clear hsf
     have kwq := hkr.kept kq
     have HB4q := Lib.hid (HB4.out.keep kwq (fun e => e.elim h4F (fun e => h4o e)))
     have HOq := Lib.hid (HOr.out.kept kq)
     have HBq := Lib.hid (HBr.out.kept kq)
     have HVq := Lib.hid (HVr.out.kept kq)
     go_upto_region 9 with fail
     refine wEp 1 [(Oc.mk o fs left false self 0).v vf] [54] ?_ ?_
     ·refine sE 1 5 bo 0 ((Oc.mk o fs left false self 0).cells vf) Try.underlying54 (fun u hk=>blk_range (HOq.out.kept hk)) (by rw [Oc.len15]; exact szC) ?_
      exact fz
     intro wy ky
     simp only [F8]
     refine l_setS 54 b4 54 (zeroC.cells (.slice none 0 0)) ((Oc.mk o fs left false self 0).cells vf) _ _ rfl rfl (by kernel_rfl) (by kernel_rfl) (HB4q.out.kept ky) (by rw [Oc.len15]; exact szC) (by rw [Oc.len15, Oc.len15]) (Oc.one _ _ (sl_onec HVq.out)) ?_
     intro wx hBx hkx hsx
     simp only [Act.put]
     refine wpList_nil ?_
     go_wp2
     refine bodyPost_ret (results_cell (p := 4) rfl _ _ b4 _ ((Oc.mk o fs left false self 0).cells vf) rfl hBx Try.underlying54 (by rw [Oc.len15]; exact szC)) rfl ?_
     rw [HFIN.out]
     unfold MatchIn
     rw [HSE.out]
     have hx4 : ¬ Fc b4 := fun e => (HGr.out b4 e).elim h4F (fun e => by omega)
     have hv4 : ∀ b, vf.ownBlock = some b → b ≠ b4 := fun b hb e => by have := (HVn.out b hb).1; omega
     have zq := kq.size
     have zy := ky.size
     have hlast := HLN.out
     refine ⟨Fc, vf, rfl, ?_, ?_, fun b hb => ⟨by have := (HVn.out b hb).1; omega, (HVn.out b hb).2.1⟩, fun b hb => (HGr.out b hb).imp id (fun h => by omega), ?_⟩
     ·have h1 := ((HBq.out.kept ky).keep hkx (fun b hb e => hx4 (by rw [← e]; exact hb)))
      rw [hlast.1, hlast.2] at h1
      exact h1
     ·exact (HVq.out.kept ky).keep hkx (fun b hb e => hv4 b hb e)
     ·exact ((Keep.any k1 kwq).mono (fun b hb e => e.elim id (fun e => by omega))).kept ky |>.trans hkx (fun b hb e => by omega)
    | true =>
     have HCR := Lib.hid hmt
     go_upto_region 3 with fail
     refine wE 13 [pV bo 10, iV ((Oc.mk o fs left false self 0).left), bV true, bV true, pV bo 13, bV ((Oc.mk o fs left false self 0).self), bV true, bV true, bV true, pV p (offS s), o.v, bV true, bV true] [17,18,19,20,21,22,23,24,25,26,27,28,29] ?_ ?_
     ·refine fE 1 5 54 2 10 0 ?_
      refine sW 2 rfl (fun a u E D hk=>exec_loadi _ Try.underlying3 _ _ _ rfl (dD D 0) (by rw [(HOr.out.kept hk).cell]; rfl)) ?_
      refine aS 3 rfl (fun a u E D hk=>exec_gtn rfl (dD D 1) rfl) (decide_eq_true hl0) ?_
      refine mD 4 19 2 ?_
      refine fE 5 5 54 5 13 0 ?_
      refine sW 6 rfl (fun a u E D hk=>exec_ldb _ Try.underlying4 _ _ _ rfl (dD D 4) (by rw [(HOr.out.kept hk).cell]; rfl)) ?_
      refine aS 7 rfl (fun a u E D hk=>exec_not _ _ (Oc.mk o fs left false self 0).self rfl (dD D 5)) (by rw [hsf]; rfl) ?_
      refine pT 8 20 23 3 6 ?_
      refine mD 9 24 7 ?_
      refine mE 10 6 ?_
      refine sE 11 3 bi 0 o.cells Try.underlying24 (fun u hk=>range_kept HIr.out hk) (by rw [o.len9]; exact ord_size) ?_
      refine cS 12 87 [.pointer (some ⟨p, offS s, none⟩), o.v] rfl Try.func87 rfl (fun a u E D hk=>⟨ll (dD D 9) (ll (dD D 10) rfl), (by obtain ⟨F', hLd⟩ := (HBr.out.kept hk).lad hs; rw [Bok.to_sd hs] at hLd; rw [← HCR.out]; exact crossed_any u F' p (offS s) s L o hLd hL64)⟩) ?_
      refine pT 13 25 28 8 11 ?_
      exact fz
     intro wq kq
     simp only [F8]
     clear HCR
     obtain ⟨l, R, hLR⟩ : ∃ l R, L = l :: R := by
      cases L with
      | nil => cases hmt
      | cons l R => exact ⟨l, R, rfl⟩
     subst hLR
     obtain ⟨pr, X⟩ := l
     have hcr : o.crosses pr = true := hmt
     have HRD := Lib.hid (match_round (no := no) HSr.out hl0 hcr)
     have HRI := Lib.hid (round_is (o := o) HSr.out hl0)
     have HGD := Lib.hid (HSr.out.good (l := (pr, X)) (by simp)).1
     rw [hsf] at HM
     clear hmt
     obtain ⟨v, u0, Z, G, Fs, eL, hW, hB, hFs, hp, hlt, hJ⟩ := (HBr.out.kept kq).open3 hs
     rw [Bok.to_sd hs] at eL
     obtain ⟨z, ZR, hZ⟩ : ∃ z ZR, Z = z :: ZR := by
      cases Z with
      | nil => cases eL
      | cons z ZR => exact ⟨z, ZR, rfl⟩
     subst hZ
     obtain ⟨q, pr', X'⟩ := z
     rw [levs_cons] at eL
     obtain ⟨e1, eR⟩ := List.cons.inj eL
     simp only [Prod.mk.injEq] at e1
     obtain ⟨rfl, rfl⟩ := e1
     have ER := Lib.hid eR
     have HJ := Lib.hid hJ
     have HFs := Lib.hid hFs
     have HW := Lib.hid hW
     have hLv := hW.lv (q, pr', X') (by simp)
     have hGF := hW.in_ (q, pr', X') (by simp)
     simp only at hLv hGF
     obtain ⟨gs, os, c, rfl⟩ := hW.some_ (by simp)
     obtain ⟨n, hnn⟩ : ∃ n, List.length ((q, pr', X') :: ZR) = n := ⟨_, rfl⟩
     have hn0 : 0 < n := by rw [← hnn]; simp
     have HC := Lib.hid (hW.cell (i := 0) (z := (q, pr', X')) rfl)
     rw [hnn] at HW hB
     have HVV : Hid (wq.cell? ⟨p, offS s + 1, none⟩ = some (.slice (some ⟨gs, os, none⟩) n c)) := by show _ = _; rw [hB.cell]; exact sideCs_get s _ _ _ _
     have HBB := Lib.hid hB
     have HLv := Lib.hid hLv
     have HGF := Lib.hid hGF
     have hpl := hlt p hp
     have HLTF := Lib.hid hlt
     clear hB hW eL hJ hFs hLv hGF hnn eR
     have HOq := Lib.hid (HOr.out.kept kq)
     have HVq := Lib.hid (HVr.out.kept kq)
     have HIq := Lib.hid (range_kept HIr.out kq)
     have kwq := hkr.kept kq
     have zq := kwq.size
     have hoFc : ¬ Fc bo := fun e => (HGr.out bo e).elim hoF (fun e => by omega)
     have HSF := Lib.hid hsf
     have HMO := Lib.hid hmo
     clear HOr HVr HIr kq hsf hmo
     go_upto_region 4 with fail
     refine wE 7 [pV p (offS s), pV p (offS s), pV p (offS s + 1), .slice (some ⟨gs, os, none⟩) n c, pV gs os, pV q 0, pV q 0] [30,31,32,33,34,35,7] ?_ ?_
     ·refine mE 1 6 ?_
      refine nD 2 30 0 ?_
      refine fD 3 31 1 70 1 1 (offS s) ?_
      refine sW 4 rfl (fun a u E D hk=>exec_ldv _ _ Try.underlying68 _ _ _ rfl (dD D 2) (Kept.cell hk (HVV.out))) ?_
      refine sW 5 rfl (fun a u E D hk=>exec_ixo slQ _ _ (gs) (os) n c 0 (os) (0) rfl (dD D 3) rfl (by first | rfl | omega) ((by omega)) (by first | rfl | omega)) ?_
      refine sW 6 rfl (fun a u E D hk=>exec_ldp _ _ Try.underlying89 _ _ _ rfl (dD D 4) (Kept.cell hk ((by simpa using HC.out)))) ?_
      refine mD 7 35 5 ?_
      exact fz
     intro w2 k2
     simp only [F8]
     have HO2 := Lib.hid (HOq.out.kept k2)
     have HI2 := Lib.hid (range_kept HIq.out k2)
     have HLv2 := Lib.hid (HLv.out.kept k2)
     obtain ⟨t, ht⟩ : ∃ t, takeM o.firm left X' = t := ⟨_, rfl⟩
     obtain ⟨H, ow, X2⟩ := t
     rw [ht] at HRI
     have HTT := Lib.hid ht
     clear HC HVV HLv ht
     go_upto_region 5 with fail
     refine wEp 5 [pV q 0, pV bi 2, iV o.firm, pV bo 10, iV ((Oc.mk o fs left false self 0).left)] [37,38,39,40,41] ?_ ?_
     ·refine mE 1 7 ?_
      refine fE 2 3 24 2 2 0 ?_
      refine lD 3 38 1 Try.underlying3 (fun u hk=>range_int (range_kept HI2.out hk) 2 _ rfl) ?_
      refine fE 4 5 54 2 10 0 ?_
      refine sW 5 rfl (fun a u E D hk=>exec_loadi _ Try.underlying3 _ _ _ rfl (dD D 3) (by rw [(HO2.out.kept hk).cell]; rfl)) ?_
      exact fz
     intro w3 k3
     simp only [F8]
     refine l_call 89 #[.pointer (some ⟨q, 0, none⟩), .int .i64 o.firm, .int .i64 (Oc.mk o fs left false self 0).left] rfl (exec_call 89 _ [.tmp 37, .tmp 39, .tmp 41] _ _ Try.func89 (by kernel_rfl) (by kernel_rfl) rfl (by kernel_rfl) _) ?_
     refine (take_any w3 _ q X' o.firm left (HLv2.out.kept k3) HGD.out (by omega)).mono ?_
     rintro r w4 ⟨F4, vh, rfl, hl4, hs4, hv4, hg4, hk4⟩
     rw [HTT.out] at hl4 hs4
     refine ⟨.tuple #[vh, .bool ow], by rw [HTT.out], ?_⟩
     simp only [Act.put, sA, sS, sZ]
     refine l_val (.tuple #[vh, .bool ow]) rfl (exec_move _ _ rfl (by kernel_rfl)) ?_
     simp only [Act.put, sA, sS, sZ]
     refine l_val (vh) rfl (exec_extract (.tmp 36) [vh, .bool ow] 0 (vh) rfl (by kernel_rfl) rfl) ?_
     simp only [Act.put, sA, sS, sZ]
     refine l_val (.bool ow) rfl (exec_extract (.tmp 36) [vh, .bool ow] 1 (.bool ow) rfl (by kernel_rfl) rfl) ?_
     simp only [Act.put, sA, sS, sZ]
     refine l_val (vh) rfl (exec_assign _ _ rfl (by kernel_rfl)) ?_
     simp only [Act.put, sA, sS, sZ]
     refine l_val (.bool ow) rfl (exec_assign _ _ rfl (by kernel_rfl)) ?_
     simp only [Act.put, sA, sS, sZ]
     refine wpList_nil ?_
     have k03 := k2.trans k3
     have z3 := k03.size
     obtain ⟨Fs4, G4, hW4, hG4, hk4', _⟩ := WayZ.turn (A := []) (R := ZR) (q := q) (pr := pr') (X := X') (HW.out.kept k03) hk4 hl4 hg4
     have z4 := hk4.size
     have hFo : ¬ Fs bo := fun e => hoFc (HFs.out bo e).1
     have HO4 := Lib.hid ((HOq.out.kept k03).keep hk4' hFo)
     have HP4 := Lib.hid ((HBB.out.kept k03).keep hk4' (fun e => (HFs.out p e).2 rfl))
     have HI4 := Lib.hid (range_keep (range_kept HIq.out k03) hk4' (fun e => hiF ((HGr.out bi (HFs.out bi e).1).elim id (fun e => by omega))))
     have HV4 := Lib.hid ((HVq.out.kept k03).keep hk4' (fun b hb e => (HVn.out b hb).2.1 (HFs.out b e).1))
     have hvl : ∀ b, vf.ownBlock = some b → b < wq.heap.size := fun b hb => HVq.out.lt hb
     have HVL := Lib.hid hvl
     have HW4 := Lib.hid hW4
     have HS4 := Lib.hid hs4
     have HHV : Hid (∀ b, vh.ownBlock = some b → w3.heap.size ≤ b) := fun b hb => (hv4 b hb).1
     have HG4 := Lib.hid hG4
     have K4 : Keep Fs wq w4 := Keep.any k03 hk4'
     have hq4 := HW4.out.lv (q, pr', X2) (by simp)
     have HQ4 := Lib.hid hq4
     have hop : bo ≠ p := fun e => hoFc (by rw [e]; exact hp)
     have hW4l : ∀ b, Fs4 b → b < w4.heap.size := HW4.out.lt
     have HW4L := Lib.hid hW4l
     have HG3 : Hid (∀ b, Fs4 b → Fs b ∨ wq.heap.size ≤ b) := fun b hb => (HG4.out b hb).imp id (fun e => by omega)
     clear hq4 hvl hW4 hs4 hv4 hg4 hk4 hl4 hG4 hk4' k2 k3 HO2 HI2 HLv2 HOq HVq HIq HBB HW hW4l
     have hfl : fs.length ≤ 2000000 := by omega
     have hbn : 0 ≤ no ∧ no ≤ 2000000000000 := by have := HLN.out.2; omega
     go_upto_region 6 with fail
     refine wEp 4 [pV p 0, pV q 0, iV pr', vh] [45,46,47,48] ?_ ?_
     ·refine mE 1 0 ?_
      refine mE 2 7 ?_
      refine cS 3 91 [.pointer (some ⟨q, 0, none⟩)] rfl Try.func91 rfl (fun a u E D hk=>⟨ll (dD D 1) rfl, price_any u _ q X2 (HQ4.out.kept hk)⟩) ?_
      refine mE 4 8 ?_
      exact fz
     intro w5 k5
     simp only [F8]
     refine l_call 90 #[.pointer (some ⟨p, 0, none⟩), .pointer (some ⟨bo, 0, none⟩), .int .i64 pr', vh] rfl (exec_call 90 _ [.tmp 45, .tmp 5, .tmp 47, .tmp 48] _ _ Try.func90 (by kernel_rfl) (by kernel_rfl) rfl (by kernel_rfl) _) ?_
     refine (trade_any w5 bo p s (.slice (some ⟨gs, os, none⟩) n c) u0 vf vh last no pr' (Oc.mk o fs left false self 0) H (HO4.out.kept k5) (HV4.out.kept k5) (HP4.out.kept k5) (HS4.out.kept k5) hop (fun b hb => ⟨(HVn.out b hb).2.2, fun e => (HVn.out b hb).2.1 (by rw [e]; exact hp)⟩) (fun b hb => ⟨fun e => by have := HHV.out b hb; omega, fun e => by have := HHV.out b hb; omega, fun e => by have := HHV.out b hb; have := HVL.out b e; omega⟩) HRI.out.pos HRI.out.sum (by simp only; omega) hfl hbn.1 hbn.2).mono ?_
     rintro r w6 ⟨vg, rfl, hO6, hV6, hP6, hk6, hv6⟩
     refine ⟨_, rfl, ?_⟩
     simp only [Act.put, sA, sS, sZ]
     refine wpList_nil ?_
     have z5 := k5.size
     have z6 := hk6.size
     have hSn : ∀ b, Fs4 b → ¬ (b = bo ∨ b = p ∨ vf.ownBlock = some b) := fun b hb e => by
      rcases e with e | e | e
      ·rcases HG3.out b hb with h | h
       ·exact hoFc (by rw [← e]; exact (HFs.out b h).1)
       ·omega
      ·rcases HG3.out b hb with h | h
       ·exact (HFs.out b h).2 e
       ·omega
      ·rcases HG3.out b hb with h | h
       ·exact (HVn.out b e).2.1 (HFs.out b h).1
       ·have := HVL.out b e; omega
     have hW6 := (HW4.out.kept k5).keep hk6 hSn
     have K6 : Keep (fun b => Fs b ∨ b = bo ∨ b = p ∨ vf.ownBlock = some b) wq w6 := ((Keep.mono (T := fun b => Fs b ∨ b = bo ∨ b = p ∨ vf.ownBlock = some b) K4 (fun _ _ e => .inl e)).kept k5).trans hk6 (fun b _ e => .inr e)
     obtain ⟨F6, hb6, hg6, hi6⟩ := HJ.out w6 _ _ _ _ _ _ K6 (fun b hb e => by
      rcases e with e | e | e | e
      ·exact .inl e
      ·exact absurd (by rw [← e]; exact hb) hoFc
      ·exact .inr e
      ·exact absurd hb (HVn.out b e).2.1) hP6 ⟨_, _, rfl, hW6⟩ (fun b hb => HG3.out b hb)
     rw [Bok.to_to hs, levs_append, levs_cons, ER.out] at hb6
     have HB6 := Lib.hid hb6
     have HI6 := Lib.hid hi6
     have HO6 := Lib.hid hO6
     have HV6 := Lib.hid hV6
     have hoF6 : ¬ F6 bo := fun e => ((hi6 bo).1 e).elim hoFc (fun e => hSn bo e (.inl rfl))
     have HVG : Hid (∀ b, vg.ownBlock = some b → vf.ownBlock = some b ∨ w5.heap.size ≤ b) := hv6
     have HVGL : Hid (∀ b, vg.ownBlock = some b → b < w6.heap.size) := fun b hb => hV6.lt hb
     have hgo : ∀ b, vg.ownBlock = some b → b ≠ bo := fun b hb e => by
      rcases HVG.out b hb with h | h
      ·exact (HVn.out b h).2.2 e
      ·omega
     have HGO := Lib.hid hgo
     clear hW6 hO6 hV6 hP6 hk6 hv6 hb6 hg6 hi6 K4 k5 HO4 HV4 HP4 HS4 HQ4 HW4 HJ hSn hgo
     go_upto_region 7 with fail
     refine wEp 2 [bV ow, pV bo 13] [50,51] ?_ ?_
     ·refine mE 1 9 ?_
      refine fE 2 5 54 5 13 0 ?_
      exact fz
     intro w7 k7
     simp only [F8]
     refine l_st1 4 bo 13 54 _ (.bool ow) _ _ rfl rfl (by kernel_rfl) (by kernel_rfl) (by kernel_rfl) rfl rfl (HO6.out.kept k7) (by rw [Oc.len15]; omega) ?_
     intro w8 hO8 hk8 hs8
     simp only [Act.put]
     refine wpList_nil ?_
     rw [Oc.set_self] at hO8
     have z7 := k7.size
     have z8 := hk8.size
     have HO8 := Lib.hid hO8
     have HB8 := Lib.hid ((HB6.out.kept k7).keep hk8 (fun b hb e => hoF6 (by rw [← e]; exact hb)))
     have HV8 := Lib.hid ((HV6.out.kept k7).keep hk8 (fun b hb e => HGO.out b hb e))
     have K8 : Keep (fun b => Fs b ∨ b = bo ∨ b = p ∨ vf.ownBlock = some b) wq w8 := (K6.kept k7).trans hk8 (fun b _ e => .inr (.inl e))
     clear hO8 hk8 hs8 k7 HO6 HB6 HV6 K6
     have hRl : R.length ≤ 64 := by have := HSr.out.ok.len; simp at this; omega
     have HRL := Lib.hid hRl
     clear hRl
     go_upto_region 8 with fail
     refine wEp 1 [pV p (offS s)] [52] ?_ ?_
     ·refine mE 1 6 ?_
      exact fz
     intro w9 k9
     simp only [F8]
     refine l_call 67 #[.pointer (some ⟨p, offS s, none⟩), .int .i64 0] rfl (exec_call 67 _ [.tmp 52, .const (.int .i64 0)] _ _ Try.func67 (by kernel_rfl) (by kernel_rfl) rfl (by kernel_rfl) _) ?_
     refine (drop_if_any w9 F6 p _ s [] R (pr', X2) 0 (HB8.out.kept k9) hs (by rw [Bok.to_sd hs]; rfl) rfl (by have := HRL.out; simp; omega) (by have := HRI.out.few; simp only at this ⊢; omega)).mono ?_
     rintro r w10 ⟨F10, rfl, hb10, hg10, hk10, hi10⟩
     refine ⟨_, rfl, ?_⟩
     simp only [Act.put, sA, sS, sZ]
     refine wpList_nil ?_
     rw [Bok.to_to hs] at hb10
     have z9 := k9.size
     have z10 := hk10.size
     have HO10 := Lib.hid ((HO8.out.kept k9).keep hk10 hoF6)
     have hVF6 : ∀ b, vg.ownBlock = some b → ¬ F6 b := fun b hb e => by
      rcases (HI6.out b).1 e with h | h
      ·rcases HVG.out b hb with h' | h'
       ·exact (HVn.out b h').2.1 h
       ·have := HLTF.out b h; omega
      ·rcases HVG.out b hb with h' | h'
       ·rcases HG3.out b h with h2 | h2
        ·exact (HVn.out b h').2.1 (HFs.out b h2).1
        ·have := HVL.out b h'; omega
       ·have := HW4L.out b h; omega
     have HV10 := Lib.hid ((HV8.out.kept k9).keep hk10 (fun b hb e => hVF6 b hb e))
     have HVN10 : Hid (∀ b, vg.ownBlock = some b → w1.heap.size ≤ b ∧ ¬ F10 b ∧ b ≠ bo) := fun b hb => by
      refine ⟨?_, fun e => ?_, HGO.out b hb⟩
      ·rcases HVG.out b hb with h | h
       ·exact (HVn.out b h).1
       ·omega
      ·rcases hg10 b e with h | h
       ·exact hVF6 b hb h
       ·have := HVGL.out b hb; omega
     have hF6 : ∀ b, F6 b → F b ∨ w1.heap.size ≤ b := fun b hb => by
      rcases (HI6.out b).1 hb with h | h
      ·exact HGr.out b h
      ·rcases HG3.out b h with h2 | h2
       ·exact HGr.out b (HFs.out b h2).1
       ·exact .inr (by omega)
     have HG10 : Hid (Grow w1 F F10) := fun b hb => by
      rcases hg10 b hb with h | h
      ·exact hF6 b h
      ·exact .inr (by omega)
     have K10 : Keep (fun b => F b ∨ b = bo) w1 w10 := by
      refine (Keep.trans kwq K8 (fun b hb e => ?_)).kept k9 |>.trans hk10 (fun b hb e => ?_)
      ·rcases e with e | e | e | e
       ·exact (HGr.out b (HFs.out b e).1).elim .inl (fun e => by omega)
       ·exact .inr e
       ·rw [e]; exact .inl hpF
       ·have := (HVn.out b e).1; omega
      ·exact (hF6 b e).elim .inl (fun e => by omega)
     have HB10 := Lib.hid hb10
     have HM10 : Hid (B.matched o = ⟨(fs ++ fillsOf o pr' no left H) ++ (if ow = true then Mt.mk [] (left - seenM H) true (dropE [] R (pr', X2)) else matchM o (no + H.length) (left - seenM H) (dropE [] R (pr', X2))).f, (if ow = true then Mt.mk [] (left - seenM H) true (dropE [] R (pr', X2)) else matchM o (no + H.length) (left - seenM H) (dropE [] R (pr', X2))).left, (if ow = true then Mt.mk [] (left - seenM H) true (dropE [] R (pr', X2)) else matchM o (no + H.length) (left - seenM H) (dropE [] R (pr', X2))).self, (if ow = true then Mt.mk [] (left - seenM H) true (dropE [] R (pr', X2)) else matchM o (no + H.length) (left - seenM H) (dropE [] R (pr', X2))).L⟩) := by
      show _ = _
      rw [HM.out]
      simp only [Bool.false_eq_true, if_false]
      rw [HRD.out]
      unfold roundM
      simp only
      rw [HTT.out]
      simp only [List.append_assoc]
     have HS10 := Lib.hid HRI.out.sid
     have HLN10 : Hid (lastOf last (fillsOf o pr' no left H) = lastOf B.last (fs ++ fillsOf o pr' no left H) ∧ no + (H.length : Int) = B.no + ((fs ++ fillsOf o pr' no left H).length : Nat)) := by
      refine ⟨by rw [lastOf_append, ← HLN.out.1], ?_⟩
      rw [List.length_append, fillsOf_len, HLN.out.2]
      omega
     have hlf10 : 0 ≤ left - seenM H ∧ (((fs ++ fillsOf o pr' no left H).length : Nat) : Int) + (left - seenM H) ≤ o.qty := by
      have h1 := HRI.out.sum
      have h2 := HRI.out.len
      rw [List.length_append, fillsOf_len]
      simp only at h1 h2
      omega
     have HLF10 := Lib.hid hlf10
     have HME : Hid (mOut bo w10 < mOut bo wr) := by
      show _ < _
      rw [HMO.out, mOut_is HO10.out]
      have h1 := HRI.out.prog
      have h2 := HRI.out.sum
      simp only at h1 h2
      show 2 * (left - seenM H).toNat + (if ow = true then 0 else 1) < 2 * left.toNat + (if self = true then 0 else 1)
      have e0 : (if self = true then (0 : Nat) else 1) = 1 := by rw [HSF.out]; rfl
      rw [e0]
      rcases h1 with h1 | h1
      ·rw [if_pos h1]
       have h3 := HRI.out.len
       simp only at h3
       omega
      ·split <;> omega
     clear hb10 hg10 hk10 hi10 k9 HO8 HB8 HV8 K8 hVF6 hF6 hlf10 HM HRD HRI HTT HGD HLN
     go_wp2
     exact ⟨⟨_, _, _, left - seenM H, ow, _, F10, vg, HB10.out, HO10.out, HV10.out, HVN10.out, HG10.out, K10, HS10.out, HLN10.out, HLF10.out, HM10.out⟩, HME.out⟩
  ·have HFIN : Hid (B.matched o = ⟨fs, left, self, L⟩) := by
    show _ = _
    rw [HM.out]
    cases self with
    | true => simp
    | false => rw [if_neg (by simp), match_zero (by omega)]; simp
   clear HM
   go_upto_region 3 with fail
   refine wE 13 [pV bo 10, iV ((Oc.mk o fs left false self 0).left), bV false, bV false, undef, undef, undef, bV false, bV false, undef, undef, undef, bV false] [17,18,19,20,21,22,23,24,25,26,27,28,29] ?_ ?_
   ·refine fE 1 5 54 2 10 0 ?_
    refine sW 2 rfl (fun a u E D hk=>exec_loadi _ Try.underlying3 _ _ _ rfl (dD D 0) (by rw [(HOr.out.kept hk).cell]; rfl)) ?_
    refine aS 3 rfl (fun a u E D hk=>exec_gtn rfl (dD D 1) rfl) (decide_eq_false (by omega)) ?_
    refine mD 4 19 2 ?_
    refine kS 5 3 ?_
    refine kS 6 3 ?_
    refine kS 7 3 ?_
    refine pF 8 20 3 ?_
    refine mD 9 24 7 ?_
    refine kS 10 8 ?_
    refine kS 11 8 ?_
    refine kS 12 8 ?_
    refine pF 13 25 8 ?_
    exact fz
   intro wq kq
   simp only [F8]
   have kwq := hkr.kept kq
   have HB4q := Lib.hid (HB4.out.keep kwq (fun e => e.elim h4F (fun e => h4o e)))
   have HOq := Lib.hid (HOr.out.kept kq)
   have HBq := Lib.hid (HBr.out.kept kq)
   have HVq := Lib.hid (HVr.out.kept kq)
   go_upto_region 9 with fail
   refine wEp 1 [(Oc.mk o fs left false self 0).v vf] [54] ?_ ?_
   ·refine sE 1 5 bo 0 ((Oc.mk o fs left false self 0).cells vf) Try.underlying54 (fun u hk=>blk_range (HOq.out.kept hk)) (by rw [Oc.len15]; exact szC) ?_
    exact fz
   intro wy ky
   simp only [F8]
   refine l_setS 54 b4 54 (zeroC.cells (.slice none 0 0)) ((Oc.mk o fs left false self 0).cells vf) _ _ rfl rfl (by kernel_rfl) (by kernel_rfl) (HB4q.out.kept ky) (by rw [Oc.len15]; exact szC) (by rw [Oc.len15, Oc.len15]) (Oc.one _ _ (sl_onec HVq.out)) ?_
   intro wx hBx hkx hsx
   simp only [Act.put]
   refine wpList_nil ?_
   go_wp2
   refine bodyPost_ret (results_cell (p := 4) rfl _ _ b4 _ ((Oc.mk o fs left false self 0).cells vf) rfl hBx Try.underlying54 (by rw [Oc.len15]; exact szC)) rfl ?_
   rw [HFIN.out]
   unfold MatchIn
   rw [HSE.out]
   have hx4 : ¬ Fc b4 := fun e => (HGr.out b4 e).elim h4F (fun e => by omega)
   have hv4 : ∀ b, vf.ownBlock = some b → b ≠ b4 := fun b hb e => by have := (HVn.out b hb).1; omega
   have zq := kq.size
   have zy := ky.size
   have hlast := HLN.out
   refine ⟨Fc, vf, rfl, ?_, ?_, fun b hb => ⟨by have := (HVn.out b hb).1; omega, (HVn.out b hb).2.1⟩, fun b hb => (HGr.out b hb).imp id (fun h => by omega), ?_⟩
   ·have h1 := ((HBq.out.kept ky).keep hkx (fun b hb e => hx4 (by rw [← e]; exact hb)))
    rw [hlast.1, hlast.2] at h1
    exact h1
   ·exact (HVq.out.kept ky).keep hkx (fun b hb e => hv4 b hb e)
   ·exact ((Keep.any k1 kwq).mono (fun b hb e => e.elim id (fun e => by omega))).kept ky |>.trans hkx (fun b hb e => by omega)
end Go.Proofs.Ytklohceombpleaa
