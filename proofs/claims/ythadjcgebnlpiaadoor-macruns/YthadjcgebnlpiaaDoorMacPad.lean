/-
  The contract of mac.padded: the key's 64 bytes. Condition: the key's length is far below 2^47.
-/
import Derived.Test.YthadjcgebnlpiaaDoorMacM
import Derived.Test.YthadjcgebnlpiaaDoorMacBeh
namespace Go.Proofs.YthadjcgebnlpiaaDoor
open Go.RowKit
set_option linter.unusedVariables false

def z64v : List Value := List.replicate 64 (.int .u8 0)
theorem z64_cells : z64v = cells8 z64b := rfl
theorem b64_zero : (Tryd.prog.info? 50).map (·.zero) = some (some (.agg z64v.toArray)) := by kernel_rfl
theorem b64_size : (Tryd.prog.info? 50).map (·.size) = some 64 := by kernel_rfl

/-- the key or its sum, laid over 64 noughts -/
theorem splice_zeros (n : Nat) (ks : List UInt8) : splice (List.replicate n (.int .u8 0)) 0 (cells8 ks) = cells8 (ks ++ List.replicate (n - ks.length) 0) := by
  unfold splice
  rw [len8, cells8_append]
  simp [cells8]
theorem splice_pad (ks : List UInt8) : splice z64v 0 (cells8 ks) = cells8 (ks ++ List.replicate (64 - ks.length) 0) := splice_zeros 64 ks

set_option maxRecDepth 100000 in
set_option maxHeartbeats 800000 in
theorem padded_any (v : Value) (key : List UInt8) (w : World) (hG : Glob w) (hv : Bytes w v key) (hkl : key.length ≤ 900000) :
    Calls Tryd.prog 28 #[v] w fun e w' => e = .returned (.agg (cells8 (padK key)).toArray) ∧ Kept w w' := by
  obtain ⟨A, n, c, rfl, hl, hx, hnc, hcm, hA⟩ := hv
  have hs64 := slice_64
  have hs32 := slice_sum
  have hn9 : n ≤ 900000 := by have := hl.out; omega
  obtain ⟨S, hS⟩ : ∃ S, S = padK key := ⟨_, rfl⟩
  have HL : Hid ((cells8 S).length = 64) := by show _ = _; rw [len8, hS, padK_length]
  have hi64 : Hid ((Tryd.prog.info? 50).map (·.size) = some (cells8 S).length) := by show _ = _; rw [HL.out]; exact b64_size
  have hz64 : Hid (z64v.length = (cells8 S).length) := by show _ = _; rw [HL.out]; rfl
  rw [← hS]
  have HS' := Lib.hid hS
  have HX := Lib.hid hx
  clear hS hx
  by_cases hlt : 64 < n
  · obtain ⟨T, hT⟩ : ∃ T, T = shaOf key := ⟨_, rfl⟩
    have HT : Hid (∀ t, t = shaOf key → t = T) := fun t h => h.trans hT.symm
    have hks : Hid (splice z64v 0 (cells8 T) = cells8 S) := by
      show _ = _
      have := hl.out
      rw [splice_pad, HS'.out, padK, short, if_pos (by omega), hT]
    have hTl : T.length = 32 := by rw [hT, shaOf_length]
    have hmin : Hid (T.length = Nat.min 32 64) := hTl
    have hfit : Hid (0 + T.length ≤ z64v.length) := by show _ ≤ _; rw [hTl]; simp [z64v]
    have hi32 : Hid ((Tryd.prog.info? 24).map (·.size) = some (cells8 T).length) := by show _ = _; rw [len8, hTl]; exact sum_size
    have hz32 : Hid (z32.length = (cells8 T).length) := by show _ = _; rw [len8, hTl]; rfl
    clear hT hTl
    go_enter Tryd.func28, Tryd.ntmps28
    go_wp2_with ((with_reducible show wpList _ _ _ _ _ _); (first
      | ((with_reducible refine wpl_alloc (o := ⟨some 2, _, _, _, _, _⟩) _ rfl 50 rfl z64v b64_zero ?_); intro w1 hb1 hs1 hk1; clear hs1)
      | ((with_reducible refine wpl_alloc (o := ⟨some 3, _, _, _, _, _⟩) _ rfl 50 rfl z64v b64_zero ?_); intro w2 hb2 hs2 hk2; clear hs2; have hb12 := hb1.kept hk2; have hkw2 := hk1.trans hk2; have hlt1 := hb1.lt; have hlt2 := hb2.lt)))
    refine (sum_any _ key w2 (hG.kept hkw2) (Bytes.at_ (HX.out.kept hkw2) hl hnc hcm) hkl).mono ?_
    rintro e w3 ⟨rfl, hk3⟩
    rw [HT.out _ rfl]
    have hb13 := hb12.kept hk3
    have hb23 := hb2.kept hk3
    have hkw3 := hkw2.trans hk3
    have hsz3 := hk3.size
    have hsz1 := hk1.size
    clear hk3 hb12 hb2 hkw2 hk2 hb1 hk1 HX HT
    go_wp2_with ((with_reducible show wpList _ _ _ _ _ _); (first
      | ((with_reducible refine wpl_alloc (o := ⟨some 4, _, _, _, _, _⟩) _ rfl 24 rfl z32 sum_zero ?_); intro w4 hb4 hs4 hk4; clear hs4; have hb14 := hb13.kept hk4; have hb24 := hb23.kept hk4; have hkw4 := hkw3.trans hk4)
      | ((with_reducible refine wpl_store_row (o := ⟨none, _, _, _, _, _⟩) _ rfl 24 (.tmp 4) (.tmp 9) rfl w3.heap.size (cells8 T) ?hp4 ?hv4 24 z32 hb4 hi32.out hz32.out (cells8_one _) ?_); (case hp4 => rfl); (case hv4 => rfl); intro w5 hb5 hk5 hs5; clear hs5; have hb15 := hb14.keep hk5 (by omega); have hb25 := hb24.keep hk5 (by omega); have hkw5 := Kept.trans' hkw4 hk5 (by omega); have hX5 : Hid (R8 w5 (some ⟨w3.heap.size, 0, none⟩) T) := hb5.r8)
      | ((with_reducible refine wpl_copy8o (o := ⟨some 13, _, _, _, _, _⟩) _ rfl (.tmp 11) (.tmp 12) rfl w1.heap.size 0 64 64 (some ⟨w3.heap.size, 0, none⟩) 32 32 ?hd ?hs z64v 50 hb25 T hmin.out hX5.out hfit.out ?_); (case hd => rfl); (case hs => rfl); intro w6 hb6 hk6 hs6; clear hs6; rw [hks.out] at hb6; have hb16 := hb15.keep hk6 (by omega); have hkw6 := Kept.trans' hkw5 hk6 (by omega))
      | ((with_reducible refine wpl_load_row (o := ⟨some 14, _, _, _, _, _⟩) _ rfl 50 (.tmp 3) rfl w1.heap.size ?hx 50 (cells8 S) 64 5 hb6 Tryd.underlying50 hi64.out ?_); case hx => rfl)
      | ((with_reducible refine wpl_store_row (o := ⟨none, _, _, _, _, _⟩) _ rfl 50 (.tmp 2) (.tmp 14) rfl w.heap.size (cells8 S) ?hp ?hv 50 z64v hb16 hi64.out hz64.out (cells8_one _) ?_); (case hp => rfl); (case hv => rfl); intro wd hbd hkd hsd)))
    refine bodyPost_ret (results_cell_row (p := 2) (ty := 50) rfl _ _ w.heap.size 50 (cells8 S).toArray (0, 0) _ rfl hbd Tryd.underlying50 rfl (by have := HL.out; simpa [this] using b64_size)) rfl ?_
    exact ⟨rfl, Kept.trans' hkw6 hkd (by omega)⟩
  · have hks : Hid (splice z64v 0 (cells8 key) = cells8 S) := by
      show _ = _
      have := hl.out
      rw [splice_pad, HS'.out, padK, short, if_neg (by omega)]
    have hmin : Hid (key.length = Nat.min n 64) := by show _ = _; rw [hl.out]; exact (Nat.min_eq_left (by omega)).symm
    have hfit : Hid (0 + key.length ≤ z64v.length) := by show _ ≤ _; rw [hl.out]; simp [z64v]; omega
    go_enter Tryd.func28, Tryd.ntmps28
    go_wp2_with ((with_reducible show wpList _ _ _ _ _ _); (first
      | ((with_reducible refine wpl_alloc (o := ⟨some 2, _, _, _, _, _⟩) _ rfl 50 rfl z64v b64_zero ?_); intro w1 hb1 hs1 hk1; clear hs1)
      | ((with_reducible refine wpl_alloc (o := ⟨some 3, _, _, _, _, _⟩) _ rfl 50 rfl z64v b64_zero ?_); intro w2 hb2 hs2 hk2; clear hs2; have hb12 := hb1.kept hk2; have hkw2 := hk1.trans hk2; have hlt1 := hb1.lt; have hX2 : Hid (R8 w2 A key) := HX.out.kept hkw2)
      | ((with_reducible refine wpl_copy8o (o := ⟨some 13, _, _, _, _, _⟩) _ rfl (.tmp 11) (.tmp 12) rfl w1.heap.size 0 64 64 A n c ?hd ?hs z64v 50 hb2 key hmin.out hX2.out hfit.out ?_); (case hd => rfl); (case hs => rfl); intro w3 hb3 hk3 hs3; clear hs3; rw [hks.out] at hb3; have hb13 := hb12.keep hk3 (by omega); have hkw3 := Kept.trans' hkw2 hk3 (by have := hk1.size; omega))
      | ((with_reducible refine wpl_load_row (o := ⟨some 14, _, _, _, _, _⟩) _ rfl 50 (.tmp 3) rfl w1.heap.size ?hx 50 (cells8 S) 64 5 hb3 Tryd.underlying50 hi64.out ?_); case hx => rfl)
      | ((with_reducible refine wpl_store_row (o := ⟨none, _, _, _, _, _⟩) _ rfl 50 (.tmp 2) (.tmp 14) rfl w.heap.size (cells8 S) ?hp ?hv 50 z64v hb13 hi64.out hz64.out (cells8_one _) ?_); (case hp => rfl); (case hv => rfl); intro wd hbd hkd hsd)))
    refine bodyPost_ret (results_cell_row (p := 2) (ty := 50) rfl _ _ w.heap.size 50 (cells8 S).toArray (0, 0) _ rfl hbd Tryd.underlying50 rfl (by have := HL.out; simpa [this] using b64_size)) rfl ?_
    exact ⟨rfl, Kept.trans' hkw3 hkd (by omega)⟩
end Go.Proofs.YthadjcgebnlpiaaDoor
