/-
  A Mac in memory; the contract of mac.makePads: the key's two pads. Condition: the key's length is far below 2^47.
-/
import Derived.Test.YthadjcgebnlpiaaDoorMacPad
namespace Go.Proofs.YthadjcgebnlpiaaDoor
open Go.RowKit
set_option linter.unusedVariables false

/-- a Mac's cells: its key, the Once's word, its lock (state, sema), the two pads -/
def mcells (kv : Value) (d st : Int) (inn out : List UInt8) : List Value := kv :: .int .u32 d :: .int .i32 st :: .int .u32 0 :: (cells8 inn ++ cells8 out)
theorem mcells_inn (kv : Value) (d st : Int) (inn out : List UInt8) (k : Nat) (x : UInt8) (hi : inn.length = 64) (hk : k < 64) : (mcells kv d st inn out).set (4 + k) (.int .u8 (x.toNat : Int)) = mcells kv d st (inn.set k x) out := by
  unfold mcells
  rw [show 4 + k = k + 1 + 1 + 1 + 1 by omega]
  simp only [List.set_cons_succ]
  rw [List.set_append_left _ _ (by rw [len8]; omega)]
  simp [cells8, List.map_set]
theorem mcells_out (kv : Value) (d st : Int) (inn out : List UInt8) (k : Nat) (x : UInt8) (hi : inn.length = 64) (hk : k < 64) : (mcells kv d st inn out).set (68 + k) (.int .u8 (x.toNat : Int)) = mcells kv d st inn (out.set k x) := by
  unfold mcells
  rw [show 68 + k = (64 + k) + 1 + 1 + 1 + 1 by omega]
  simp only [List.set_cons_succ]
  rw [List.set_append_right _ _ (by rw [len8]; omega), len8, hi, Nat.add_sub_cancel_left]
  simp [cells8, List.map_set]
theorem mcells_at_inn (kv : Value) (d st : Int) (inn out : List UInt8) (k : Nat) (hi : inn.length = 64) (hk : k < 64) : (mcells kv d st inn out)[4 + k]? = some (.int .u8 ((inn.getD k 0).toNat : Int)) := by
  unfold mcells
  rw [show 4 + k = k + 1 + 1 + 1 + 1 by omega]
  simp only [List.getElem?_cons_succ]
  rw [List.getElem?_append_left (by rw [len8]; omega), cells8, List.getElem?_map, List.getD_eq_getElem?_getD, List.getElem?_eq_getElem (by omega)]
  rfl
theorem mcells_at_out (kv : Value) (d st : Int) (inn out : List UInt8) (k : Nat) (hi : inn.length = 64) (ho : out.length = 64) (hk : k < 64) : (mcells kv d st inn out)[68 + k]? = some (.int .u8 ((out.getD k 0).toNat : Int)) := by
  unfold mcells
  rw [show 68 + k = (64 + k) + 1 + 1 + 1 + 1 by omega]
  simp only [List.getElem?_cons_succ]
  rw [List.getElem?_append_right (by rw [len8]; omega), len8, hi, Nat.add_sub_cancel_left, cells8, List.getElem?_map, List.getD_eq_getElem?_getD, List.getElem?_eq_getElem (by omega)]
  rfl

/-- the first k bytes of new, then those of old -/
def over (new old : List UInt8) (k : Nat) : List UInt8 := new.take k ++ old.drop k
theorem over_length (new old : List UInt8) (k : Nat) (h1 : new.length = 64) (h2 : old.length = 64) (hk : k ≤ 64) : (over new old k).length = 64 := by
  simp [over]; omega
theorem over_zero (new old : List UInt8) : over new old 0 = old := by simp [over]
theorem over_full (new old : List UInt8) (h1 : new.length = 64) (h2 : old.length = 64) : over new old 64 = new := by
  unfold over
  rw [List.take_of_length_le (by omega), List.drop_of_length_le (by omega), List.append_nil]
theorem over_set (new old : List UInt8) (k : Nat) (h1 : new.length = 64) (h2 : old.length = 64) (hk : k < 64) : (over new old k).set k (new.getD k 0) = over new old (k + 1) := by
  unfold over
  rw [List.set_append_right _ _ (by rw [List.length_take]; omega), List.length_take, Nat.min_eq_left (by omega), Nat.sub_self, List.drop_eq_getElem_cons (by omega : k < old.length), List.set_cons_zero, List.take_add_one, List.getD_eq_getElem?_getD, List.getElem?_eq_getElem (by omega)]
  simp only [Option.getD_some, Option.toList_some, List.append_assoc, List.cons_append, List.nil_append]
theorem xb_getD (m : UInt8) (xs : List UInt8) (k : Nat) (h : k < xs.length) : (xb m xs).getD k 0 = xs.getD k 0 ^^^ m := by
  rw [List.getD_eq_getElem?_getD, List.getD_eq_getElem?_getD, xb, List.getElem?_map, List.getElem?_eq_getElem h]
  rfl

theorem index_row8 (w : World) (t e : TypeId) (n : Nat) (xs : List UInt8) (k : Nat) (ht : Tryd.prog.underlying t = some (.array n e)) (he : (Tryd.prog.info? e).map (·.size) = some 1) (hp : Tryd.prog.plainKey e = true) (hk : k < n) (hl : xs.length = n) :
    (Instr.index t (.agg (cells8 xs).toArray) (.int .i64 (k : Int))).run Tryd.prog w = .ok (.int .u8 ((xs.getD k 0).toNat : Int)) w := by
  have hc : (cells8 xs).toArray[k * 1]? = some (.int .u8 ((xs.getD k 0).toNat : Int)) := by
    rw [Nat.mul_one, getElem?_cells8, List.getElem?_eq_getElem (by omega), List.getD_eq_getElem?_getD, List.getElem?_eq_getElem (by omega)]
    rfl
  have hp := run_part_plain w hp hc
  cases hq : Tryd.prog.info? e with
  | none => simp [hq] at he
  | some i =>
    have hs : i.size = 1 := by simpa [hq] using he
    have h1 : (0 : Int) ≤ (k : Int) ∧ (k : Int) < (n : Int) := by omega
    rw [Nat.mul_one] at hp
    simp [Instr.index, asIntOf, Sem.run_bind, run_underlying ht w, sizeOf, typeInfo, hq, hs, hp]
    intro h
    omega

theorem two_set {w wr : World} {g k : Nat} {kv : Value} {d st : Int} {K inn out : List UInt8} {a b : Int} (hk : Keep (· = g) w wr) (hb : Blk wr g 52 (mcells kv d st (over (xb 54 K) inn k) (over (xb 92 K) out k))) (hK : K.length = 64) (hi : inn.length = 64) (ho : out.length = 64) (hlt : k < 64)
    (ha : a = ((K.getD k 0 ^^^ 54 : UInt8).toNat : Int)) (hb' : b = ((K.getD k 0 ^^^ 92 : UInt8).toNat : Int)) :
    Keep (· = g) w ((wr.setCell ⟨g, 4 + k, none⟩ (.int .u8 a)).setCell ⟨g, 68 + k, none⟩ (.int .u8 b)) ∧
      Blk ((wr.setCell ⟨g, 4 + k, none⟩ (.int .u8 a)).setCell ⟨g, 68 + k, none⟩ (.int .u8 b)) g 52 (mcells kv d st (over (xb 54 K) inn (k + 1)) (over (xb 92 K) out (k + 1))) := by
  refine ⟨Keep.setCell (Keep.setCell hk (fun _ => rfl) _) (fun _ => rfl) _, ?_⟩
  have h1 := (hb.set_ (4 + k) (.int .u8 a)).set_ (68 + k) (.int .u8 b)
  have l54 : (xb 54 K).length = 64 := by rw [xb_length, hK]
  have l92 : (xb 92 K).length = 64 := by rw [xb_length, hK]
  rw [ha, hb', mcells_inn _ _ _ _ _ _ _ (over_length _ _ _ l54 hi (by omega)) hlt, ← xb_getD 54 K k (by omega), over_set _ _ _ l54 hi hlt,
    mcells_out _ _ _ _ _ _ _ (over_length _ _ _ l54 hi (by omega)) hlt, ← xb_getD 92 K k (by omega), over_set _ _ _ l92 ho hlt] at h1
  rw [ha, hb', ← xb_getD 54 K k (by omega), ← xb_getD 92 K k (by omega)]
  exact h1

set_option maxRecDepth 100000 in
set_option maxHeartbeats 800000 in
theorem pads_any (g : Nat) (kv : Value) (d st : Int) (key inn out : List UInt8) (w : World) (hG : Glob w) (hb : Blk w g 52 (mcells kv d st inn out)) (hi : inn.length = 64) (ho : out.length = 64) (hv : Bytes w kv key) (hkl : key.length ≤ 900000) :
    Calls Tryd.prog 19 #[.pointer (some ⟨g, 0, none⟩)] w fun e w' => e = .returned (.tuple #[]) ∧ Blk w' g 52 (mcells kv d st (xb 54 (padK key)) (xb 92 (padK key))) ∧ Keep (· = g) w w' := by
  have hglt := hb.lt
  have ck : w.cell? ⟨g, 0, none⟩ = some kv := hb.cell 0
  obtain ⟨K, hK⟩ : ∃ K, K = padK key := ⟨_, rfl⟩
  have hKl : K.length = 64 := by rw [hK, padK_length]
  have HK : Hid (∀ t, t = padK key → t = K) := fun t h => h.trans hK.symm
  have hi64 : Hid ((Tryd.prog.info? 50).map (·.size) = some (cells8 K).length) := by show _ = _; rw [len8, hKl]; exact b64_size
  have hz64 : Hid (z64v.length = (cells8 K).length) := by show _ = _; rw [len8, hKl]; rfl
  have HL := Lib.hid hKl
  have HI := Lib.hid hi
  have HO := Lib.hid ho
  rw [← hK]
  clear hK hKl hi ho
  go_enter Tryd.func19, Tryd.ntmps19
  go_wp2_with fail
  refine (padded_any kv key w hG hv hkl).mono ?_
  rintro e w1 ⟨rfl, hk1⟩
  rw [HK.out _ rfl]
  have hb1 := hb.kept hk1
  have hsz1 := hk1.size
  clear hb HK ck
  go_wp2_with ((with_reducible show wpList _ _ _ _ _ _); (first
    | ((with_reducible refine wpl_alloc (o := ⟨some 2, _, _, _, _, _⟩) _ rfl 50 rfl z64v b64_zero ?_); intro w2 hb2 hs2 hk2; clear hs2; have hbm2 := hb1.kept hk2; have hkw2 := hk1.trans hk2)
    | ((with_reducible refine wpl_store_row (o := ⟨none, _, _, _, _, _⟩) _ rfl 50 (.tmp 2) (.tmp 9) rfl w1.heap.size (cells8 K) ?hp ?hv 50 z64v hb2 hi64.out hz64.out (cells8_one _) ?_); (case hp => rfl); (case hv => rfl); intro w3 hb3 hk3 hs3; clear hs3; have hbm3 := hbm2.keep hk3 (by omega); have hkw3 := Kept.trans' hkw2 hk3 (by omega))
    | ((with_reducible refine wpl_load_row (o := ⟨some 10, _, _, _, _, _⟩) _ rfl 50 (.tmp 2) rfl w1.heap.size ?hx 50 (cells8 K) 64 5 hb3 Tryd.underlying50 hi64.out ?_); case hx => rfl)))
  have hkg : Keep (· = g) w w3 := hkw3.mono (fun _ _ h => h.elim)
  clear hb1 hb2 hbm2 hkw2 hk2 hk3 hkw3 hk1 hb3
  go_loopw [11] (fun v wr => ∃ k : Nat, k ≤ 64 ∧ v = .int .i64 k ∧ Keep (· = g) w wr ∧ Blk wr g 52 (mcells kv d st (over (xb 54 K) inn k) (over (xb 92 K) out k))) (fun v _ => 64 - (intOf v).toNat)
  case atStart => exact ⟨0, Nat.zero_le _, rfl, hkg, by rw [over_zero, over_zero]; exact hbm3⟩
  case round =>
    obtain ⟨k, hk, rfl, hkr, hbr⟩ := hrel
    by_cases hlt : k < 64
    · have hix := fun u => index_row8 u 50 5 64 K k Tryd.underlying50 (by kernel_rfl) (by kernel_rfl) hlt HL.out
      have ha := xor8 (K.getD k 0) 54
      have hb := xor8 (K.getD k 0) 92
      have R := Lib.hid (two_set hkr hbr HL.out HI.out HO.out hlt ha hb)
      obtain ⟨u4, c4⟩ : ∃ u, wr.cell? ⟨g, 4 + k, none⟩ = some u := ⟨_, by rw [hbr.cell]; exact mcells_at_inn _ _ _ _ _ _ (over_length _ _ _ (by rw [xb_length, HL.out]) HI.out (by omega)) hlt⟩
      obtain ⟨u68, c68⟩ : ∃ u, wr.cell? ⟨g, 68 + k, none⟩ = some u := ⟨_, by rw [hbr.cell]; exact mcells_at_out _ _ _ _ _ _ (over_length _ _ _ (by rw [xb_length, HL.out]) HI.out (by omega)) (over_length _ _ _ (by rw [xb_length, HL.out]) HO.out (by omega)) hlt⟩
      have f4 : wr.frozen? ⟨g, 4 + k, none⟩ = false := hbr.frozen _
      have f68 : wr.frozen? ⟨g, 68 + k, none⟩ = false := hbr.frozen _
      clear ha hb hbr
      generalize K.getD k 0 = x at hix R
      go_wp2
      exact ⟨⟨k + 1, by omega, by go_num, R.out.1, R.out.2⟩, by simp [intOf]; omega⟩
    · obtain rfl : k = 64 := by omega
      rw [over_full _ _ (by rw [xb_length, HL.out]) HI.out, over_full _ _ (by rw [xb_length, HL.out]) HO.out] at hbr
      go_wp2
      go_end0
      exact ⟨rfl, hbr, hkr⟩
end Go.Proofs.YthadjcgebnlpiaaDoor
