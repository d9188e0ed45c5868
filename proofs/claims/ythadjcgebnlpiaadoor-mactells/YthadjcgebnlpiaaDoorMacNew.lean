/-
  The contracts of slices.Clone, mac.New and the law's own tag. Condition: lengths far below 2^47.
-/
import Derived.Test.YthadjcgebnlpiaaDoorMacTag
import Derived.Test.YthadjcgebnlpiaaDoorOwn8
namespace Go.Proofs.YthadjcgebnlpiaaDoor
open Go.RowKit
set_option linter.unusedVariables false

theorem build_mac (A : Option Addr) (n c : Nat) (w : World) : (Instr.build 52 #[(0, .slice A n c)]).run Tryd.prog w = .ok (.agg (mcells (.slice A n c) 0 0 z64b z64b).toArray) w := by kernel_rfl
/-- an empty slice of the call's own -/
theorem own8_empty (w : World) : Own8 (w.alloc (.cells #[] 5)) w.heap.size (some ⟨w.heap.size, 0, none⟩) 0 0 [] :=
  .inr ⟨_, rfl, Nat.le_refl _, rfl, [], Blk.new w _ [], rfl, Nat.zero_le _⟩

set_option maxRecDepth 100000 in
theorem clone_any (v : Value) (xs : List UInt8) (w : World) (hv : Bytes w v xs) (hxl : xs.length ≤ 1000000) :
    Calls Tryd.prog 17 #[v] w fun e w' => ∃ A c, e = .returned (.slice A xs.length c) ∧ Own8 w' w.heap.size A xs.length c xs ∧ Kept w w' := by
  obtain ⟨A, n, c, rfl, hl, hx, hnc, hcm, hA⟩ := hv
  have hq : ∀ (A : Option Addr) (n c : Nat) (w : World), (binOp .eql 22 (.slice A n c) (.slice none 0 0)).run Tryd.prog w = .ok (.bool A.isNone) w := fun A n c w => Lib.run_eql_slice_nil w _ _ A n c 0 0 Tryd.underlying22
  cases A with
  | none =>
    obtain rfl : c = 0 := hA rfl
    obtain rfl : n = 0 := by omega
    have h0 := hl.out
    have e0 : xs = [] := List.eq_nil_of_length_eq_zero h0
    subst e0
    go_enter Tryd.func17, Tryd.ntmps17
    go_wp2
    go_ret
    exact ⟨none, 0, rfl, Own8.nil _ _, Kept.refl _⟩
  | some ad =>
    go_enter Tryd.func17, Tryd.ntmps17
    have HO := Lib.hid (own8_empty w)
    have hk0 : Kept w (w.alloc (.cells #[] 5)) := (Keep.refl _ w).alloc _
    have HR : Hid (R8 (w.alloc (.cells #[] 5)) (some ad) xs) := hx.kept hk0
    have HLE : Hid (w.heap.size ≤ (w.alloc (.cells #[] 5)).heap.size) := hk0.size
    have HLM : Hid (0 + n ≤ 140737488355328) := by show _ ≤ _; have := hl.out; omega
    go_wp2_with ((with_reducible show wpList _ _ _ _ _ _); ((with_reducible refine wpl_append_own8 (o := ⟨some 7, _, _, _, _, _⟩) _ ?hw (.tmp 5) (.tmp 6) rfl w.heap.size 0 0 (some ⟨w.heap.size, 0, none⟩) [] ?hs HO.out HLE.out (some ad) n c xs ?hx hl.out HR.out (fun h => by cases h) HLM.out ?_); (case hw => rfl); (case hs => rfl); (case hx => rfl); intro w2 A2 c2 ho2 hk2))
    go_ret
    rw [List.nil_append, Nat.zero_add] at ho2
    refine ⟨A2, c2, ?_, ?_, ?_⟩
    · rw [hl.out]; rfl
    · rw [hl.out]; exact ho2
    · exact Keep.trans hk0 hk2 (fun i hi ⟨a, e, h⟩ => by injection e with e; subst e; subst h; simp at hi)

theorem Own8.bytes {w : World} {base n c : Nat} {A : Option Addr} {xs : List UInt8} (h : Own8 w base A n c xs) : Bytes w (.slice A n c) xs := ⟨A, n, c, rfl, h.len, h.r8, h.cap.1, h.cap.2.1, h.cap.2.2⟩

set_option maxRecDepth 100000 in
theorem macnew_any (v : Value) (key : List UInt8) (w : World) (hG : Glob w) (hv : Bytes w v key) (hkl : key.length ≤ 1000000) :
    Calls Tryd.prog 10 #[v] w fun e w' => ∃ g, e = .returned (.pointer (some ⟨g, 0, none⟩)) ∧ MS w' g w.heap.size key ∧ Kept w w' := by
  have h2 : 2 ≤ w.heap.size := by
    obtain ⟨t, fr, h⟩ := hG.round
    have := (Array.getElem?_eq_some_iff.1 h).1
    omega
  go_enter Tryd.func10, Tryd.ntmps10
  go_wp2_with fail
  refine (clone_any v key w hv hkl).mono ?_
  rintro e w1 ⟨A, c, rfl, ho, hk1⟩
  generalize hn : key.length = n at ho ⊢
  have HN := Lib.hid hn
  clear hn
  go_wp2_with ((with_reducible show wpList _ _ _ _ _ _); (first
    | ((with_reducible refine wpl_value (o := ⟨some 5, _, _, _, _, _⟩) _ w1 (.agg (mcells (.slice A n c) 0 0 z64b z64b).toArray) rfl ?hb ?_); (case hb => exact exec_build _ _ _ _ (.tmp 4) _ _ rfl rfl (build_mac _ _ _ _)))
    | ((with_reducible refine wpl_value (o := ⟨some 6, _, _, _, _, _⟩) _ (w1.alloc (.cells (mcells (.slice A n c) 0 0 z64b z64b).toArray 52)) (.pointer (some ⟨w1.heap.size, 0, none⟩)) rfl ?hc ?_); (case hc => exact exec_box _ _ _ _ (.tmp 5) _ rfl rfl))))
  go_ret
  have hk2 : Kept w1 (w1.alloc (.cells (mcells (.slice A n c) 0 0 z64b z64b).toArray 52)) := (Keep.refl _ w1).alloc _
  refine ⟨w1.heap.size, rfl, ⟨h2, hk1.size, _, 0, z64b, z64b, Blk.new w1 _ _, rfl, rfl, (ho.kept hk2).bytes, ?_, .inl rfl⟩, hk1.trans hk2⟩
  intro ad n' c' e hne
  injection e with e1
  obtain ⟨h3, h4⟩ := ho.at_ ad e1
  omega

set_option maxRecDepth 100000 in
set_option maxHeartbeats 800000 in
theorem tagf_any (vk vb : Value) (key bs : List UInt8) (w : World) (hG : Glob w) (hk : Bytes w vk key) (hb : Bytes w vb bs) (hkl : key.length ≤ 900000) (hbl : bs.length ≤ 800000) :
    Calls Tryd.prog 8 #[vk, vb] w fun e w' => e = .returned (.agg (cells8 (hmac key bs)).toArray) ∧ Kept w w' := by
  obtain ⟨S, hS⟩ : ∃ S, S = hmac key bs := ⟨_, rfl⟩
  have HL : Hid ((cells8 S).length = 32) := by show _ = _; rw [len8, hS, hmac_length]
  have hi32 : Hid ((Tryd.prog.info? 24).map (·.size) = some (cells8 S).length) := by show _ = _; rw [HL.out]; exact sum_size
  have hz32 : Hid (z32.length = (cells8 S).length) := by show _ = _; rw [HL.out]; rfl
  rw [← hS]
  have HS' : Hid (∀ t, t = hmac key bs → t = S) := fun t h => h.trans hS.symm
  clear hS
  go_enter Tryd.func8, Tryd.ntmps8
  go_wp2_with ((with_reducible show wpList _ _ _ _ _ _); ((with_reducible refine wpl_alloc (o := ⟨some 4, _, _, _, _, _⟩) _ rfl 24 rfl z32 sum_zero ?_); intro w1 hb1 hs1 hk1; clear hs1))
  refine (macnew_any vk key w1 (hG.kept hk1) (hk.kept hk1) (by omega)).mono ?_
  rintro e w2 ⟨g, rfl, hm2, hk2⟩
  have hkw2 := hk1.trans hk2
  have hG2 := hG.kept hkw2
  have hbr2 := hb1.kept hk2
  have hlt1 := hb1.lt
  have hgle := hm2.le
  have hlies : Lies 0 g vb bs := fun ad n c e hne => ⟨Nat.zero_le _, by
    obtain ⟨A, n', c', e', _, hR, _⟩ := hb
    rw [e] at e'
    injection e' with e1
    subst e1
    have := hR.lt hne
    omega⟩
  clear hk1 hk2 hb1
  go_wp2_with fail
  refine (tag_any g w1.heap.size key vb bs w2 hG2 hm2 (hb.kept hkw2) hlies hkl hbl).mono ?_
  rintro e w3 ⟨rfl, hm3, hk3⟩
  rw [HS'.out _ rfl]
  have hbr3 := hbr2.keep hk3 (by omega)
  have hkw3 : Kept w w3 := Kept.trans' hkw2 hk3 (by omega)
  clear hm3 hbr2 hkw2 hk3 hG2
  go_wp2_with ((with_reducible show wpList _ _ _ _ _ _); ((with_reducible refine wpl_store_row (o := ⟨none, _, _, _, _, _⟩) _ rfl 24 (.tmp 4) (.tmp 13) rfl w.heap.size (cells8 S) ?hp ?hv 24 z32 hbr3 hi32.out hz32.out (cells8_one _) ?_); (case hp => rfl); (case hv => rfl); intro wd hbd hkd hsd))
  refine bodyPost_ret (results_cell_row (p := 4) (ty := 24) rfl _ _ w.heap.size 24 (cells8 S).toArray (0, 0) _ rfl hbd Tryd.underlying24 rfl (by have := HL.out; simpa [this] using sum_size)) rfl ?_
  exact ⟨rfl, Kept.trans' hkw3 hkd (by omega)⟩
end Go.Proofs.YthadjcgebnlpiaaDoor
