/-
  The contract of chain.Link: the document's link. Condition: lengths far below 2^47.
-/
import Derived.Test.YtholpkaicmckfaaDoorRecs
import Derived.Test.YtholpkaicmckfaaDoorChainM
import Derived.Test.YtholpkaicmckfaaDoorWireN
namespace Go.Proofs.YtholpkaicmckfaaDoor
open Go.RowKit
set_option linter.unusedVariables false

theorem Bytes.is {w : World} {v : Value} {xs : List UInt8} (h : Bytes w v xs) (g : Nat) (hg : w.heap.size ≤ g) : SliceIs w g v xs := by
  obtain ⟨A, n, c, rfl, hl, hR, hnc, hc, _⟩ := h
  exact Bytes.at_ hR hl hnc hc g hg

set_option maxRecDepth 100000 in
set_option maxHeartbeats 800000 in
theorem link_any (p b : List UInt8) (v : Value) (w : World) (hG : Glob w) (hp : p.length = 32) (hv : Bytes w v b) (hbl : b.length ≤ 800000) :
    Calls Tryd.prog 14 #[.agg (cells8 p).toArray, v] w fun e w' => e = .returned (.agg (cells8 (linkOf p b)).toArray) ∧ Kept w w' := by
  have hs32 := slice_sum
  have hbv := hv
  obtain ⟨A, n, c, rfl, hl, hR, hnc, hc, hA⟩ := hv
  have hn : n ≤ 800000 := by have := hl.out; omega
  obtain ⟨S, hS⟩ : ∃ S, S = linkOf p b := ⟨_, rfl⟩
  have HS : Hid (∀ t, t = shaOf ((p ++ be n 4) ++ b) → t = S) := fun t h => by rw [h, hS, linkOf, List.append_assoc, hl.out]
  have hSl : S.length = 32 := by rw [hS, linkOf_length]
  have HL : Hid ((cells8 S).length = 32) := by show _ = _; rw [len8, hSl]
  have hiS := size_arr S hSl
  have hzS := zlen_arr S hSl
  have hpl := Lib.hid hp
  rw [← hS]
  clear hS hSl hp
  go_enter Tryd.func14, Tryd.ntmps14
  go_wp2_with ((with_reducible show wpList _ _ _ _ _ _); (first
    | ((with_reducible refine wpl_value (o := ⟨some 2, _, _, _, _, _⟩) _ _ _ rfl (exec_box _ _ _ 30 (.tmp 0) (cells8 p).toArray rfl rfl) ?_); have hbp : Blk (w.alloc (.cells (cells8 p).toArray 30)) w.heap.size 30 (cells8 p) := Blk.new w _ _; have hk0 : Kept w (w.alloc (.cells (cells8 p).toArray 30)) := (Keep.refl _ w).alloc _; generalize w.alloc (.cells (cells8 p).toArray 30) = w0 at hbp hk0 ⊢)
    | ((with_reducible refine wpl_alloc (o := ⟨some 4, _, _, _, _, _⟩) _ rfl 30 rfl z32 sum_zero ?_); intro w1 hb1 hs1 hk1; clear hs1)))
  have hkw1 := hk0.trans hk1
  have hbp1 := hbp.kept hk1
  have hlt1 := hb1.lt
  have hltp := hbp.lt
  refine (new_any w1 (hG.kept hkw1)).mono ?_
  rintro e w2 ⟨g, rfl, hg, hs2, hk2⟩
  have hkw2 := hkw1.trans hk2
  have hG2 := hG.kept hkw2
  have hbp2 := hbp1.kept hk2
  have hb2 := hb1.kept hk2
  have hgl := hs2.lt
  clear hk0 hk1 hbp hb1 hkw1 hbp1 hk2
  go_wp2_with fail
  refine (u32_any (some ⟨w.heap.size, 0, none⟩) 32 32 p (n : Int) w2 hbp2.r8 (by omega) hpl (by omega) (by omega)).mono ?_
  rintro e w3 ⟨g3, d3, rfl, hg3, hrow3, hk3⟩
  rw [Int.toNat_natCast] at hrow3
  have hkw3 := hkw2.trans hk3
  have hG3 := hG.kept hkw3
  have hb3 := hb2.kept hk3
  have hs3 := hs2.kept hk3
  have hl3 : Hid ((p ++ be n 4).length = 32 + 4) := by show _ = _; rw [List.length_append, be_length, hpl.out]
  have hv3 : SliceIs w3 g (.slice (some ⟨g3, 0, none⟩) (32 + 4) d3) (p ++ be n 4) := ⟨_, _, d3, rfl, hl3, hrow3.r8, by have := hrow3.le; rw [hl3.out] at this; exact this, by obtain ⟨_, _, _, h⟩ := hrow3; exact h, fun ad h _ => by
    injection h with h
    subst h
    show g3 ≠ g
    omega⟩
  clear hkw2 hG2 hbp2 hb2 hs2 hk3
  go_wp2_with fail
  refine (write_any g [] _ (p ++ be n 4) w3 hG3 hs3 hv3 (by simp) (by rw [hl3.out]; omega)).mono ?_
  rintro e w4 ⟨rfl, hs4, hk4⟩
  rw [List.nil_append] at hs4
  have hkw4 : Kept w w4 := Kept.trans' hkw3 hk4 (by omega)
  have hG4 := hG.kept hkw4
  have hb4 := hb3.keep hk4 (by omega)
  clear hkw3 hG3 hb3 hs3 hv3 hk4
  have hv4 : SliceIs w4 g (.slice A n c) b := ⟨A, n, c, rfl, hl, hR.kept hkw4, hnc, hc, fun ad h hne => by
    subst h
    have := hR.lt hne
    omega⟩
  go_wp2_with fail
  refine (write_any g _ _ b w4 hG4 hs4 hv4 (by rw [hl3.out]; omega) (by omega)).mono ?_
  rintro e w5 ⟨rfl, hs5, hk5⟩
  have hkw5 : Kept w w5 := Kept.trans' hkw4 hk5 (by omega)
  have hG5 := hG.kept hkw5
  have hb5 := hb4.keep hk5 (by omega)
  clear hkw4 hG4 hb4 hs4 hv4 hk5
  go_wp2_with fail
  refine (hsum_any g _ w5 hG5 hs5 (by rw [List.length_append, hl3.out]; omega)).mono ?_
  rintro e w6 ⟨rfl, hk6⟩
  rw [HS.out _ rfl]
  have hkw6 := hkw5.trans hk6
  have hb6 := hb5.kept hk6
  clear hkw5 hG5 hb5 hs5 hk6 HS
  go_wp2_with ((with_reducible show wpList _ _ _ _ _ _); ((with_reducible refine wpl_store_row (o := ⟨none, _, _, _, _, _⟩) _ rfl 30 (.tmp 4) (.tmp 18) rfl w0.heap.size (cells8 S) ?hp ?hv 30 z32 hb6 hiS.out hzS.out (cells8_one _) ?_); (case hp => rfl); (case hv => rfl); intro wd hbd hkd hsd))
  refine bodyPost_ret (results_cell_row (p := 4) (ty := 30) rfl _ _ w0.heap.size 30 (cells8 S).toArray (0, 0) _ rfl hbd Tryd.underlying30 rfl (by have := HL.out; simpa [this] using sum_size)) rfl ?_
  exact ⟨rfl, Kept.trans' hkw6 hkd (by omega)⟩
end Go.Proofs.YtholpkaicmckfaaDoor
