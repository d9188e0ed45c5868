/-
  A Mac that holds its key; the contract of Mac.Tag: the document's tag, however often. Condition: lengths far below 2^47.
-/
import Derived.Test.YthadjcgebnlpiaaDoorMacSlow
namespace Go.Proofs.YthadjcgebnlpiaaDoor
open Go.RowKit
set_option linter.unusedVariables false

/-- the slice's bytes lie beside block g, at or behind base -/
def Lies (base g : Nat) (v : Value) (xs : List UInt8) : Prop := ∀ ad n c, v = .slice (some ad) n c → xs ≠ [] → base ≤ ad.block ∧ ad.block ≠ g

/-- a Mac at block g with this key, of which it keeps a copy at or behind base; the pads are not yet made, or are the key's -/
structure MS (w : World) (g base : Nat) (key : List UInt8) : Prop where
  two : 2 ≤ base
  le : base ≤ g
  is : ∃ kv d inn out, Blk w g 52 (mcells kv d 0 inn out) ∧ inn.length = 64 ∧ out.length = 64 ∧ Bytes w kv key ∧ Lies base g kv key ∧ (d = 0 ∨ (d = 1 ∧ inn = xb 54 (padK key) ∧ out = xb 92 (padK key)))

theorem Bytes.keep {S : Nat → Prop} {w w' : World} {v : Value} {xs : List UInt8} (h : Bytes w v xs) (hk : Keep S w w') (hn : ∀ ad n c, v = .slice (some ad) n c → xs ≠ [] → ¬ S ad.block) : Bytes w' v xs := by
  obtain ⟨A, n, c, rfl, hl, hx, h1, h2, h3⟩ := h
  exact ⟨A, n, c, rfl, hl, hx.keep hk (fun ad e hne => hn ad n c (by rw [e]) hne), h1, h2, h3⟩
theorem Bytes.kept {w w' : World} {v : Value} {xs : List UInt8} (h : Bytes w v xs) (hk : Kept w w') : Bytes w' v xs := h.keep hk (fun _ _ _ _ _ h => h)
theorem MS.keep {S : Nat → Prop} {w w' : World} {g base : Nat} {key : List UInt8} (h : MS w g base key) (hk : Keep S w w') (hS : ∀ i, S i → i < base) : MS w' g base key := by
  obtain ⟨h2, hle, kv, d, inn, out, hb, hi, ho, hv, hat, hd⟩ := h
  exact ⟨h2, hle, kv, d, inn, out, hb.keep hk (fun h => by have := hS g h; omega), hi, ho, hv.keep hk (fun ad n c e hne h => by have := hS _ h; have := (hat ad n c e hne).1; omega), hat, hd⟩
theorem MS.kept {w w' : World} {g base : Nat} {key : List UInt8} (h : MS w g base key) (hk : Kept w w') : MS w' g base key := h.keep hk (fun _ h => h.elim)
theorem MS.lt {w : World} {g base : Nat} {key : List UInt8} (h : MS w g base key) : g < w.heap.size := by
  obtain ⟨_, _, kv, d, inn, out, hb, _⟩ := h
  exact hb.lt

theorem do_any (g : Nat) (kv : Value) (d : Int) (key inn out : List UInt8) (w : World) (hG : Glob w) (hg2 : 2 ≤ g) (hb : Blk w g 52 (mcells kv d 0 inn out)) (hi : inn.length = 64) (ho : out.length = 64) (hv : ∀ w', Keep (· = g) w w' → Bytes w' kv key) (hkl : key.length ≤ 900000)
    (hd : d = 0 ∨ (d = 1 ∧ inn = xb 54 (padK key) ∧ out = xb 92 (padK key))) :
    Calls Tryd.prog 18 #[.pointer (some ⟨g, 1, none⟩), .func (.func 19) #[.pointer (some ⟨g, 0, none⟩)] #[]] w fun e w' => e = .returned (.tuple #[]) ∧ Blk w' g 52 (mcells kv 1 0 (xb 54 (padK key)) (xb 92 (padK key))) ∧ Keep (· = g) w w' := by
  rcases hd with rfl | ⟨rfl, rfl, rfl⟩
  · exact do_first g kv key inn out w hG hg2 hb hi ho hv hkl
  · refine (do_done ⟨g, 1, none⟩ _ w (hb.cell 1) ⟨_, _, rfl⟩).mono ?_
    rintro e w' ⟨rfl, rfl⟩
    exact ⟨rfl, hb, Keep.refl _ _⟩

theorem mac_inn {w : World} {g : Nat} {kv : Value} {d st : Int} {inn out : List UInt8} (hb : Blk w g 52 (mcells kv d st inn out)) (hi : inn.length = 64) : R8 w (some ⟨g, 4, none⟩) inn := by
  intro k x hx
  have hk := (List.getElem?_eq_some_iff.1 hx).1
  refine ⟨_, rfl, ?_⟩
  have e : (⟨g, 4, none⟩ : Addr).add k = ⟨g, 4 + k, none⟩ := by unfold Addr.add; split <;> simp_all
  rw [e, hb.cell, mcells_at_inn _ _ _ _ _ _ hi (by omega), List.getD_eq_getElem?_getD, hx]
  rfl
theorem mac_out {w : World} {g : Nat} {kv : Value} {d st : Int} {inn out : List UInt8} (hb : Blk w g 52 (mcells kv d st inn out)) (hi : inn.length = 64) (ho : out.length = 64) : R8 w (some ⟨g, 68, none⟩) out := by
  intro k x hx
  have hk := (List.getElem?_eq_some_iff.1 hx).1
  refine ⟨_, rfl, ?_⟩
  have e : (⟨g, 68, none⟩ : Addr).add k = ⟨g, 68 + k, none⟩ := by unfold Addr.add; split <;> simp_all
  rw [e, hb.cell, mcells_at_out _ _ _ _ _ _ hi ho (by omega), List.getD_eq_getElem?_getD, hx]
  rfl

set_option maxRecDepth 100000 in
set_option maxHeartbeats 1600000 in
theorem tag_any (g base : Nat) (key : List UInt8) (v : Value) (bs : List UInt8) (w : World) (hG : Glob w) (hm : MS w g base key) (hv : Bytes w v bs) (hvg : Lies 0 g v bs) (hkl : key.length ≤ 900000) (hbl : bs.length ≤ 800000) :
    Calls Tryd.prog 11 #[.pointer (some ⟨g, 0, none⟩), v] w fun e w' => e = .returned (.agg (cells8 (hmac key bs)).toArray) ∧ MS w' g base key ∧ Keep (· = g) w w' := by
  have hglt := hm.lt
  obtain ⟨h2, hle, kv, d, inn, out, hb, hi, ho, hkv, hat, hd⟩ := hm
  have hmf : ∀ (fn : Fn) (first cap : Array Value) (w : World), (Instr.makeFunc fn first cap).run Tryd.prog w = .ok (.func fn first cap) w := fun _ _ _ _ => rfl
  have hs32 := slice_sum
  obtain ⟨T, hT⟩ : ∃ T, T = shaOf (xb 54 (padK key) ++ bs) := ⟨_, rfl⟩
  obtain ⟨S, hS⟩ : ∃ S, S = hmac key bs := ⟨_, rfl⟩
  have HT : Hid (∀ t, t = shaOf (xb 54 (padK key) ++ bs) → t = T) := fun t h => h.trans hT.symm
  have HS : Hid (∀ t, t = shaOf (xb 92 (padK key) ++ T) → t = S) := fun t h => by rw [h, hS, hmac, hT]
  have hTl : T.length = 32 := by rw [hT, shaOf_length]
  have hSl : S.length = 32 := by rw [hS, hmac_length]
  have HTL := Lib.hid hTl
  have HL : Hid ((cells8 S).length = 32) := by show _ = _; rw [len8, hSl]
  have hiT : Hid ((Tryd.prog.info? 24).map (·.size) = some (cells8 T).length) := by show _ = _; rw [len8, hTl]; exact sum_size
  have hzT : Hid (z32.length = (cells8 T).length) := by show _ = _; rw [len8, hTl]; rfl
  have hiS : Hid ((Tryd.prog.info? 24).map (·.size) = some (cells8 S).length) := by show _ = _; rw [len8, hSl]; exact sum_size
  have hzS : Hid (z32.length = (cells8 S).length) := by show _ = _; rw [len8, hSl]; rfl
  have l54 : Hid ((xb 54 (padK key)).length = 64) := by show _ = _; rw [xb_length, padK_length]
  have l92 : Hid ((xb 92 (padK key)).length = 64) := by show _ = _; rw [xb_length, padK_length]
  rw [← hS]
  clear hT hS hTl hSl
  generalize hI : xb 54 (padK key) = I at HT l54 hd
  generalize hO : xb 92 (padK key) = O at HS l92 hd
  have HI := Lib.hid hI
  have HO := Lib.hid hO
  have HD := Lib.hid hd
  clear hI hO hd
  go_enter Tryd.func11, Tryd.ntmps11
  go_wp2_with ((with_reducible show wpList _ _ _ _ _ _); ((with_reducible refine wpl_alloc (o := ⟨some 4, _, _, _, _, _⟩) _ rfl 24 rfl z32 sum_zero ?_); intro w1 hb1 hs1 hk1; clear hs1))
  have hlt1 := hb1.lt
  refine (do_any g kv d key inn out w1 (hG.kept hk1) (by omega) (hb.kept hk1) hi ho (fun w' hk => (hkv.kept hk1).keep hk (fun ad n c e hne => (hat ad n c e hne).2)) hkl (by rw [HI.out, HO.out]; exact HD.out)).mono ?_
  rintro e w2 ⟨rfl, hm2, hk2⟩
  rw [HI.out, HO.out] at hm2
  have hbr2 := hb1.keep hk2 (by omega)
  have hkw2 : Keep (· = g) w w2 := (hk1.mono (fun _ _ h => h.elim)).trans hk2 (fun _ _ h => h)
  have hG2 := hG.keep hkw2 (by omega) (by omega)
  have hv2 : Bytes w2 v bs := hv.keep hkw2 (fun ad n c e hne => (hvg ad n c e hne).2)
  have hkv2 : Bytes w2 kv key := hkv.keep hkw2 (fun ad n c e hne => (hat ad n c e hne).2)
  have hsz2 := hkw2.size
  clear hk1 hk2 hb hb1 hi ho hv hG HD
  go_wp2_with fail
  refine (behind_any g 4 I v bs w2 hG2 (mac_inn hm2 l54.out) l54.out hv2 hbl).mono ?_
  rintro e w3 ⟨rfl, hk3⟩
  rw [HT.out _ rfl]
  have hm3 := hm2.kept hk3
  have hbr3 := hbr2.kept hk3
  have hkw3 : Keep (· = g) w w3 := hkw2.kept hk3
  have hkv3 := hkv2.kept hk3
  have hG3 := hG2.kept hk3
  have hsz3 := hk3.size
  clear hm2 hbr2 hkw2 hkv2 hG2 hv2 hk3 HT
  go_wp2_with ((with_reducible show wpList _ _ _ _ _ _); (first
    | ((with_reducible refine wpl_alloc (o := ⟨some 5, _, _, _, _, _⟩) _ rfl 24 rfl z32 sum_zero ?_); intro w4 hb4 hs4 hk4; clear hs4; have hbr4 := hbr3.kept hk4; have hm4 := hm3.kept hk4; have hkw4 := hkw3.kept hk4; have hkv4 := hkv3.kept hk4; have hG4 := hG3.kept hk4; have hltr := hbr3.lt)
    | ((with_reducible refine wpl_store_row (o := ⟨none, _, _, _, _, _⟩) _ rfl 24 (.tmp 5) (.tmp 16) rfl w3.heap.size (cells8 T) ?hp ?hv 24 z32 hb4 hiT.out hzT.out (cells8_one _) ?_); (case hp => rfl); (case hv => rfl); intro w5 hb5 hk5 hs5; clear hs5)))
  have hm5 := hm4.keep hk5 (by omega)
  have hbr5 := hbr4.keep hk5 (by omega)
  have hkw5 : Keep (· = g) w w5 := hkw4.trans hk5 (fun i hi e => by omega)
  have hkv5 : Bytes w5 kv key := hkv4.keep hk5 (fun ad n c e hne h => by
    obtain ⟨A, n', c', e', hl', hR', _⟩ := hkv3
    rw [e] at e'
    injection e' with e1
    subst e1
    have := hR'.lt hne
    omega)
  have hG5 : Glob w5 := hG4.keep hk5 (by omega) (by omega)
  clear hm3 hbr3 hkw3 hkv3 hG3 hm4 hbr4 hkw4 hkv4 hG4 hb4 hk4 hk5
  simp [Act.put]
  refine wp_quiet_tail 4 (by kernel_rfl) (by kernel_rfl) ?_
  simp only [List.take_succ_cons, List.take_zero, List.drop_succ_cons, List.drop_zero]
  repeat (go_big_quiet_step (fail))
  refine wpQuiet_nil ?_
  intro _ hw'
  obtain ⟨nr, hw''⟩ := hw'
  subst hw''
  have hm6 := hm5.drewN nr
  have hbr6 := hbr5.drewN nr
  have hkw6 := hkw5.drewN nr
  have hkv6 : Bytes (w5.drewN nr) kv key := hkv5
  have hG6 : Glob (w5.drewN nr) := hG5.kept (kept_drewN _ _)
  have hb6 := hb5.drewN nr
  have hsz6 : (w5.drewN nr).heap.size = w5.heap.size := rfl
  clear hm5 hbr5 hkw5 hkv5 hG5
  generalize w5.drewN nr = w6 at hm6 hbr6 hkw6 hkv6 hG6 hb6 hsz6 ⊢
  go_wp2_with fail
  refine (behind_any g 68 O _ T w6 hG6 (mac_out hm6 l54.out l92.out) l92.out ⟨_, 32, 32, rfl, HTL, hb6.r8, Nat.le_refl _, by unfold maxLen; omega, fun h => by cases h⟩ (by rw [HTL.out]; omega)).mono ?_
  rintro e w7 ⟨rfl, hk7⟩
  rw [HS.out _ rfl]
  have hm7 := hm6.kept hk7
  have hbr7 := hbr6.kept hk7
  have hkw7 : Keep (· = g) w w7 := hkw6.kept hk7
  have hkv7 := hkv6.kept hk7
  clear hm6 hbr6 hkw6 hkv6 hG6 hb6 hk7 HS
  go_wp2_with ((with_reducible show wpList _ _ _ _ _ _); ((with_reducible refine wpl_store_row (o := ⟨none, _, _, _, _, _⟩) _ rfl 24 (.tmp 4) (.tmp 21) rfl w.heap.size (cells8 S) ?hp2 ?hv2 24 z32 hbr7 hiS.out hzS.out (cells8_one _) ?_); (case hp2 => rfl); (case hv2 => rfl); intro wd hbd hkd hsd))
  refine bodyPost_ret (results_cell_row (p := 4) (ty := 24) rfl _ _ w.heap.size 24 (cells8 S).toArray (0, 0) _ rfl hbd Tryd.underlying24 rfl (by have := HL.out; simpa [this] using sum_size)) rfl ?_
  refine ⟨rfl, ⟨h2, hle, kv, 1, I, O, hm7.keep hkd (by omega), l54.out, l92.out, ?_, hat, .inr ⟨rfl, HI.out.symm, HO.out.symm⟩⟩, hkw7.trans hkd (fun i hi e => by omega)⟩
  refine hkv7.keep hkd (fun ad n c e hne h => ?_)
  obtain ⟨A, n', c', e', hl', hR', _⟩ := hkv
  rw [e] at e'
  injection e' with e1
  subst e1
  have := hR'.lt hne
  omega
end Go.Proofs.YthadjcgebnlpiaaDoor
