/-
  The contract of mac.sumBehind: the sum of 64 bytes within a block, followed by bytes. Condition: their length is far below 2^47.
-/
import Derived.Test.YthadjcgebnlpiaaDoorMacM
import Derived.Test.YthadjcgebnlpiaaDoorCmp
namespace Go.Proofs.YthadjcgebnlpiaaDoor
open Go.RowKit
set_option linter.unusedVariables false

theorem slice_64 (g o : Nat) : ∀ u : World, (Instr.sliceAt 50 (.pointer (some ⟨g, o, none⟩)) none none none).run Tryd.prog u = .ok (.slice (some ⟨g, o, none⟩) 64 64) u :=
  slice_arr _ 64 g o Tryd.underlying50 (by omega) (by kernel_rfl) (by kernel_rfl)

set_option maxRecDepth 100000 in
set_option maxHeartbeats 800000 in
theorem behind_any (g o : Nat) (ps : List UInt8) (v : Value) (bs : List UInt8) (w : World) (hG : Glob w) (hp : R8 w (some ⟨g, o, none⟩) ps) (hpl : ps.length = 64) (hv : Bytes w v bs) (hbl : bs.length ≤ 800000) :
    Calls Tryd.prog 20 #[.pointer (some ⟨g, o, none⟩), v] w fun e w' => e = .returned (.agg (cells8 (shaOf (ps ++ bs))).toArray) ∧ Kept w w' := by
  obtain ⟨A, n, c, rfl, hl, hx, hnc, hcm, hA⟩ := hv
  have hs64 := slice_64
  obtain ⟨S, hS⟩ : ∃ S, S = shaOf (ps ++ bs) := ⟨_, rfl⟩
  have HL : Hid ((cells8 S).length = 32) := by show _ = _; rw [len8, hS, shaOf_length]
  have hi32 : Hid ((Tryd.prog.info? 24).map (·.size) = some (cells8 S).length) := by show _ = _; rw [HL.out]; exact sum_size
  have hz32 : Hid (z32.length = (cells8 S).length) := by show _ = _; rw [HL.out]; rfl
  rw [← hS]
  have HS' : Hid (∀ t, t = shaOf (ps ++ bs) → t = S) := fun t h => h.trans hS.symm
  have HP := Lib.hid hp
  have HPL := Lib.hid hpl
  have HX := Lib.hid hx
  have HB := Lib.hid hbl
  clear hS hp hpl hx hbl
  go_enter Tryd.func20, Tryd.ntmps20
  go_wp2_with ((with_reducible show wpList _ _ _ _ _ _); ((with_reducible refine wpl_alloc (o := ⟨some 4, _, _, _, _, _⟩) _ rfl 24 rfl z32 sum_zero ?_); intro w1 hb1 hs1 hk1; clear hs1))
  refine (new_any w1 (hG.kept hk1)).mono ?_
  rintro e w2 ⟨h, rfl, hh, hs2, hk2⟩
  have hkw2 := hk1.trans hk2
  have hG2 := hG.kept hkw2
  have hb2 := hb1.kept hk2
  have hlt1 := hb1.lt
  have hlt2 := hs2.lt
  have hv2 : SliceIs w2 h (.slice (some ⟨g, o, none⟩) 64 64) ps := ⟨_, 64, 64, rfl, HPL, HP.out.kept hkw2, Nat.le_refl _, by unfold maxLen; omega, fun ad e hne => by
    injection e with e
    subst e
    have := HP.out.lt hne
    show g ≠ h
    have : g < w.heap.size := this
    omega⟩
  have hv3 : SliceIs w2 h (.slice A n c) bs := ⟨_, n, c, rfl, hl, HX.out.kept hkw2, hnc, hcm, fun ad e hne => by
    subst e
    have := HX.out.lt hne
    omega⟩
  clear hk1 hk2 hb1
  go_wp2_with fail
  refine (write_any h [] _ ps w2 hG2 hs2 hv2 (by simp) (by rw [HPL.out]; omega)).mono ?_
  rintro e w3 ⟨rfl, hs3, hk3⟩
  rw [List.nil_append] at hs3
  have hG3 := hG2.same hs2 hk3
  have hkw3 : Kept w w3 := Kept.trans' hkw2 hk3 (by omega)
  have hb3 := hb2.keep hk3 (by omega)
  have hv4 : SliceIs w3 h (.slice A n c) bs := ⟨_, n, c, rfl, hl, HX.out.kept hkw3, hnc, hcm, fun ad e hne => by
    subst e
    have := HX.out.lt hne
    omega⟩
  clear hkw2 hG2 hb2 hs2 hv2 hv3 hk3
  go_wp2_with fail
  refine (write_any h ps _ bs w3 hG3 hs3 hv4 (by rw [HPL.out]; omega) (by have := HB.out; omega)).mono ?_
  rintro e w4 ⟨rfl, hs4, hk4⟩
  have hG4 := hG3.same hs3 hk4
  have hkw4 : Kept w w4 := Kept.trans' hkw3 hk4 (by omega)
  have hb4 := hb3.keep hk4 (by omega)
  clear hkw3 hG3 hb3 hs3 hv4 hk4
  go_wp2_with fail
  refine (hsum_any h (ps ++ bs) w4 hG4 hs4 (by have := HB.out; have := HPL.out; rw [List.length_append]; omega)).mono ?_
  rintro e w5 ⟨rfl, hk5⟩
  rw [HS'.out _ rfl]
  have hkw5 := hkw4.trans hk5
  have hb5 := hb4.kept hk5
  clear hk5 hkw4 hb4 hs4 hG4
  go_wp2_with ((with_reducible show wpList _ _ _ _ _ _); ((with_reducible refine wpl_store_row (o := ⟨none, _, _, _, _, _⟩) _ rfl 24 (.tmp 4) (.tmp 16) rfl w.heap.size (cells8 S) ?hp ?hv 24 z32 hb5 hi32.out hz32.out (cells8_one _) ?_); (case hp => rfl); (case hv => rfl); intro wd hbd hkd hsd))
  refine bodyPost_ret (results_cell_row (p := 4) (ty := 24) rfl _ _ w.heap.size 24 (cells8 S).toArray (0, 0) _ rfl hbd Tryd.underlying24 rfl (by have := HL.out; simpa [this] using sum_size)) rfl ?_
  exact ⟨rfl, Kept.trans' hkw5 hkd (by omega)⟩
end Go.Proofs.YthadjcgebnlpiaaDoor
