/-
  Contracts of sha.Hash.Sum and sha.Sum. Conditions: lengths far below 2^47.
-/
import Derived.Test.YtholpkaicmckfaaDoorShaN
import Derived.Test.YtholpkaicmckfaaDoorArr
namespace Go.Proofs.YtholpkaicmckfaaDoor
open Go.RowKit
set_option linter.unusedVariables false

theorem flat4 (f : Int → List UInt8) (hf : ∀ x, (f x).length = 4) (i j : Nat) (hj : j < 4) : ∀ l : List Int, i < l.length → (l.flatMap f)[4 * i + j]? = (f (l.getD i 0))[j]? := by
  induction i with
  | zero =>
    intro l h
    match l, h with
    | x :: l, _ => simp only [List.flatMap_cons, Nat.mul_zero, Nat.zero_add, List.getD_cons_zero]; rw [List.getElem?_append_left (by rw [hf]; exact hj)]
  | succ i ih =>
    intro l h
    match l, h with
    | x :: l, h =>
      simp only [List.flatMap_cons, List.getD_cons_succ]
      rw [List.getElem?_append_right (by rw [hf]; omega), hf, show 4 * (i + 1) + j - 4 = 4 * i + j by omega]
      exact ih l (by simpa using h)
theorem bytes_length (s : St) : s.bytes.length = 32 := by simp [St.bytes, St.list, be_length]
/-- the first p bytes, noughts behind -/
def bytesTo (s : St) (p : Nat) : List UInt8 := s.bytes.take p ++ List.replicate (32 - p) 0
theorem bytesTo_length (s : St) (p : Nat) (hp : p ≤ 32) : (bytesTo s p).length = 32 := by
  simp [bytesTo, bytes_length]; omega
theorem be_at (n k j : Nat) (h : j < k) : (be n k)[j]? = some (UInt8.ofNat (n / 256 ^ (k - 1 - j))) := by
  have h1 := be_take_succ n k j h
  have h2 : ((be n k).take (j + 1))[j]? = (be n k)[j]? := by rw [List.getElem?_take, if_pos (by omega)]
  rw [← h2, h1, List.getElem?_append_right (by rw [List.length_take, be_length]; omega), List.length_take, be_length, Nat.min_eq_left (by omega), Nat.sub_self]
  rfl
theorem bytes_at (s : St) (hs : s.ok) (i j : Nat) (hi : i < 8) (hj : j < 4) (x : Int) (hx : x = s.list.getD i 0) : ∃ b, s.bytes[4 * i + j]? = some b ∧ x / 2 ^ (24 - 8 * j) % 256 = ((b.toNat : Nat) : Int) := by
  have h := flat4 (fun x => be x.toNat 4) (fun x => be_length _ _) i j hj s.list (by exact hi)
  have hb := getD_bd s.list hs i
  rw [← hx] at h hb
  refine ⟨UInt8.ofNat (x.toNat / 256 ^ (4 - 1 - j)), ?_, ?_⟩
  · show (s.list.flatMap fun x => be x.toNat 4)[4 * i + j]? = _
    rw [h, be_at _ _ _ hj]
  · have hh := byte_of x hb.1 (3 - j)
    rw [show 8 * (3 - j) = 24 - 8 * j by omega] at hh
    exact hh
theorem bytesTo_set (s : St) (p : Nat) (hp : p < 32) (b : UInt8) (hb : s.bytes[p]? = some b) : (cells8 (bytesTo s p)).set p (.int .u8 (b.toNat : Int)) = cells8 (bytesTo s (p + 1)) := by
  have e : (bytesTo s p).set p b = bytesTo s (p + 1) := by
    unfold bytesTo
    have hl : (s.bytes.take p).length = p := by rw [List.length_take, bytes_length]; omega
    rw [List.set_append_right _ _ (by omega), hl, Nat.sub_self, List.take_add_one, hb, show 32 - p = (32 - (p + 1)) + 1 by omega, List.replicate_succ]
    simp
  rw [← e]
  simp [cells8, List.map_set]
theorem bytesTo_cell (s : St) (p : Nat) (hp : p < 32) : (cells8 (bytesTo s p))[p]? = some (.int .u8 0) := by
  have hl : (s.bytes.take p).length = p := by rw [List.length_take, bytes_length]; omega
  rw [cells8, List.getElem?_map, bytesTo, List.getElem?_append_right (by omega), hl, Nat.sub_self, List.getElem?_replicate, if_pos (by omega)]
  rfl

/-- a run of cells inside a block, as an array -/
theorem wpl_load_part {ops : Array Oper} {rest : List Oper} {o : Oper} {a : Act} {Q : Exit → Act → World → Prop} (w : World) (hg : o.guard = none) (ty : TypeId) (x : Operand) (hop : o.op = .load ty x)
    (g off : Nat) (hx : a.eval x = .pointer (some ⟨g, off, none⟩)) (cs : List Value) (d : TypeDesc) (hu : Tryd.prog.underlying ty = some d) (hd : (match d with | .struct _ | .array _ _ => true | _ => false) = true)
    (hi : (Tryd.prog.info? ty).map (·.size) = some cs.length) (hc : ∀ j v, cs[j]? = some v → w.cell? ⟨g, off + j, none⟩ = some v)
    (h : wpList Tryd.prog ops Q rest (a.put o.dst (.agg cs.toArray)) w) : wpList Tryd.prog ops Q (o :: rest) a w := by
  have hl : (loadCells ⟨g, off, none⟩ cs.length).run Tryd.prog w = .ok cs.toArray w :=
    run_loadCells_list (P := Tryd.prog) w ⟨g, off, none⟩ cs (fun j v hv => by
      have hadd : (⟨g, off, none⟩ : Addr).add j = ⟨g, off + j, none⟩ := by unfold Addr.add; split <;> simp_all
      rw [hadd]
      exact hc j v hv)
  have hv : (loadVar ty ⟨g, off, none⟩).run Tryd.prog w = .ok (.agg cs.toArray) w := by
    cases hq : Tryd.prog.info? ty with
    | none => simp [hq] at hi
    | some i =>
      have hs : i.size = cs.length := by simpa [hq] using hi
      have hagg : (isAgg ty).run Tryd.prog w = .ok true w := by
        unfold isAgg
        rw [Sem.run_bind, run_underlying hu w]
        cases d <;> simp_all
      simp [loadVar, Sem.run_bind, hagg, sizeOf, typeInfo, hq, hs, hl]
  refine wpList_plain hg fun K hK => ?_
  unfold Oper.wp execOp
  simp only [hop, hx, Instr.loadAt, Instr.sureAddr, Sem.run_bind, Sem.run_pure, Result.andThen_ok, hv]
  exact hK _ _ h

def zh : List Value := hcells ⟨0, 0, 0, 0, 0, 0, 0, 0⟩ z64b 0
theorem hash_zero : (Tryd.prog.info? 54).map (·.zero) = some (some (.agg zh.toArray)) := by kernel_rfl
theorem hash_size : (Tryd.prog.info? 54).map (·.size) = some 73 := by kernel_rfl
theorem hcells_one (s : St) (bs : List UInt8) (n : Nat) : ∀ u ∈ hcells s bs n, u.oneCell' = true := by
  intro u hu
  simp only [hcells, List.mem_append, List.mem_singleton] at hu
  rcases hu with hu | hu | rfl
  · exact cells32_one _ u hu
  · exact cells8_one _ u hu
  · rfl

set_option maxRecDepth 100000 in
set_option maxHeartbeats 800000 in
theorem hsum_any (g : Nat) (xs : List UInt8) (w : World) (hG : Glob w) (hs : HS w g xs) (hxl : xs.length ≤ 900000) :
    Calls Tryd.prog 25 #[.pointer (some ⟨g, 0, none⟩)] w fun e w' => e = .returned (.agg (cells8 (shaOf xs)).toArray) ∧ Kept w w' := by
  have hglt := hs.lt
  obtain ⟨s, bs, hF, hb⟩ := hs
  obtain ⟨N, hN⟩ : ∃ N, N = xs.length := ⟨_, rfl⟩
  rw [← hN] at hb hxl
  have hbl := hF.len
  have cN : w.cell? ⟨g, 72, none⟩ = some (.int .i64 (N : Int)) := (hb.cell 72).trans (hcells_n s bs N hbl)
  have hi73 : Hid ((Tryd.prog.info? 54).map (·.size) = some (hcells s bs N).length) := by show _ = _; rw [hcells_length s bs N hbl]; exact hash_size
  have hi73' : Hid ((Tryd.prog.info? 54).map (·.size) = some (hcells s bs N).toArray.size) := by show _ = _; rw [List.size_toArray, hcells_length s bs N hbl]; exact hash_size
  have hzh : Hid (zh.length = (hcells s bs N).length) := by show _ = _; rw [hcells_length s bs N hbl]; rfl
  have HN := Lib.hid hN
  have HF := Lib.hid hF
  have HB := Lib.hid hb
  have HG := Lib.hid hG
  clear hN hF hbl hb hG
  go_enter Tryd.func25, Tryd.ntmps25
  go_wp2_with ((with_reducible show wpList _ _ _ _ _ _); (first
    | ((with_reducible refine wpl_alloc (o := ⟨some 2, _, _, _, _, _⟩) _ rfl 30 rfl z32 sum_zero ?_); intro w1 hb1 hs1 hk1; have HB1 : Hid (w1.heap[g]? = some (.cells (hcells s bs N).toArray 54 (0, 0))) := HB.out.kept hk1; clear hs1)
    | ((with_reducible refine wpList_load_row (o := ⟨some 10, _, _, _, _, _⟩) rfl 54 (.tmp 9) rfl g ?hx 54 (hcells s bs N).toArray (0, 0) _ HB1.out Tryd.underlying54 ?hd hi73'.out ?_); (case hx => rfl); (case hd => rfl))
    | ((with_reducible refine wpl_alloc (o := ⟨some 3, _, _, _, _, _⟩) _ rfl 54 rfl zh hash_zero ?_); intro w2 hb2 hs2 hk2; clear hs2)
    | ((with_reducible refine wpl_store_row (o := ⟨none, _, _, _, _, _⟩) _ rfl 54 (.tmp 3) (.tmp 10) rfl w1.heap.size (hcells s bs N) ?hp ?hv 54 zh hb2 hi73.out hzh.out (hcells_one s bs N) ?_); (case hp => rfl); (case hv => rfl); intro w3 hb3 hk3 hs3; clear hs3; have hk13 : Kept w1 w3 := Kept.trans' hk2 hk3 (by omega); have hkw3 : Kept w w3 := hk1.trans hk13; have cN3 := hkw3.cell cN)))
  have hlt3 := hb3.lt
  refine (tail_any N w3 (by omega)).mono ?_
  rintro e w4 ⟨gt, m, rfl, hm, hgt, hrow, hk4⟩
  have hkw4 : Kept w w4 := hkw3.trans hk4
  have hG4 := HG.out.kept hkw4
  have hs4 : HS w4 w1.heap.size xs := ⟨s, bs, HF.out, by rw [← HN.out]; exact hb3.kept hk4⟩
  have hml : m ≤ 73 := by rw [hm, tailOf_length]; omega
  have hv4 : SliceIs w4 w1.heap.size (.slice (some ⟨gt, 0, none⟩) m m) (tailOf N) := ⟨_, m, m, rfl, hm.symm, hrow.r8, Nat.le_refl _, by unfold maxLen; omega, fun ad e _ => by
    injection e with e
    subst e
    show gt ≠ _
    omega⟩
  have htl : (tailOf N).length ≤ 1000000 := by omega
  have hz4 := hk4.size
  have hz1 := hk1.size
  have hlt1 := hb1.lt
  have hb14 := (hb1.kept hk13).kept hk4
  have hxl2 : xs.length ≤ 1000000 := by have := HN.out; omega
  clear hk13 hb1 hb2 hb3 hk2 hk3 hkw3 hk4 HB HB1 HG hm hrow cN cN3 hi73 hi73' hzh HF hk1
  go_wp2_with fail
  refine (write_any w1.heap.size xs _ (tailOf N) w4 hG4 hs4 hv4 hxl2 htl).mono ?_
  rintro e w5 ⟨rfl, hs5, hk5⟩
  have hkw5 : Kept w w5 := Kept.trans' hkw4 hk5 (by omega)
  have hb15 := hb14.keep hk5 (by omega)
  obtain ⟨t, bt, hFt, hbt⟩ := hs5
  have hSha : Hid (shaOf xs = t.bytes) := by
    show _ = _
    unfold shaOf
    rw [← HN.out, hFt.words]
  have hot := hFt.ok
  have hct : Hid (∀ j v, (cells32 t.list)[j]? = some v → w5.cell? ⟨w1.heap.size, 0 + j, none⟩ = some v) := by
    intro j v hv
    have hj : j < 8 := by
      have := (List.getElem?_eq_some_iff.1 hv).1
      rw [len32] at this
      exact this
    rw [Nat.zero_add, hbt.cell, hcells_word _ _ _ _ hj, ← hv, cells32_at _ _ (by exact hj)]
  have HOT := Lib.hid hot
  have hz5 := hk5.size
  clear hk5 hkw4 hb14 hG4 hs4 hv4 hFt hbt hot htl hxl2
  go_wp2_with ((with_reducible show wpList _ _ _ _ _ _); (first
    | ((with_reducible refine wpl_alloc (o := ⟨some 4, _, _, _, _, _⟩) _ rfl 30 rfl z32 sum_zero ?_); intro w6 hb6 hs6 hk6; clear hs6; have hct6 : Hid (∀ j v, (cells32 t.list)[j]? = some v → w6.cell? ⟨w1.heap.size, 0 + j, none⟩ = some v) := fun j v hv => hk6.cell (hct.out j v hv))
    | ((with_reducible refine wpl_load_part (o := ⟨some 18, _, _, _, _, _⟩) _ rfl 51 (.tmp 17) rfl w1.heap.size 0 ?hx (cells32 t.list) _ Tryd.underlying51 ?hd ?hi hct6.out ?_); (case hx => rfl); (case hd => rfl); (case hi => kernel_rfl))))
  have hkw6 : Kept w w6 := hkw5.trans hk6
  have hb16 := hb15.kept hk6
  have hb60 : Blk w6 w5.heap.size 30 (cells8 (bytesTo t 0)) := hb6
  have hne : w.heap.size < w5.heap.size := by omega
  have hnw : ¬ w5.heap.size < w.heap.size := by omega
  clear hk6 hb15 hkw5 hct hct6 hb6
  go_loopw [19] (fun v wr => ∃ i : Nat, i ≤ 8 ∧ v = .int .i64 i ∧ Kept w wr ∧ Blk wr w.heap.size 30 z32 ∧ Blk wr w5.heap.size 30 (cells8 (bytesTo t (4 * i)))) (fun v _ => 8 - (intOf v).toNat)
  case atStart => exact ⟨0, Nat.zero_le _, rfl, hkw6, hb16, hb60⟩
  case round =>
    obtain ⟨i, hi, rfl, hkr, hbr, hbs⟩ := hrel
    by_cases hlt : i < 8
    · have hix := fun u => index_row u 51 41 8 t.list i Tryd.underlying51 (by kernel_rfl) (by kernel_rfl) hlt rfl
      obtain ⟨x, hx⟩ : ∃ x, x = t.list.getD i 0 := ⟨_, rfl⟩
      have hxb := getD_bd t.list HOT.out i
      rw [← hx] at hix hxb
      have HX := Lib.hid hx
      clear hx
      go_wp2_with fail
      go_loopw [23] (fun v wr => ∃ j : Nat, j ≤ 4 ∧ v = .int .i64 j ∧ Kept w wr ∧ Blk wr w.heap.size 30 z32 ∧ Blk wr w5.heap.size 30 (cells8 (bytesTo t (4 * i + j)))) (fun v _ => 4 - (intOf v).toNat)
      case atStart => exact ⟨0, Nat.zero_le _, rfl, hkr, hbr, hbs⟩
      case round =>
        obtain ⟨j, hj, rfl, hkr, hbr, hbs⟩ := hrel
        by_cases hlt2 : j < 4
        · obtain ⟨b, hb1, hb2⟩ := bytes_at t HOT.out i j hlt hlt2 x HX.out
          have hc0 : wr.cell? ⟨w5.heap.size, 4 * i + j, none⟩ = some (.int .u8 0) := by rw [hbs.cell, bytesTo_cell t _ (by omega)]
          have hf0 : wr.frozen? ⟨w5.heap.size, 4 * i + j, none⟩ = false := hbs.frozen _
          have R := arr_set hkr hbr hbs hnw hne (bytesTo_set t (4 * i + j) (by omega) b hb1)
          rw [← hb2] at R
          have HR := Lib.hid R
          clear hb1 hb2 R hbs hbr
          go_wp2
          exact ⟨⟨j + 1, by omega, by go_num, HR.out⟩, by simp [intOf]; omega⟩
        · obtain rfl : j = 4 := by omega
          have e4 : 4 * i + 4 = 4 * (i + 1) := by omega
          rw [e4] at hbs
          clear e4
          go_wp2
          exact ⟨⟨i + 1, by omega, by go_num, hkr, hbr, hbs⟩, by simp [intOf]; omega⟩
    · obtain rfl : i = 8 := by omega
      obtain ⟨S, hS⟩ : ∃ S, S = shaOf xs := ⟨_, rfl⟩
      have hfull : bytesTo t (4 * 8) = S := by rw [hS, hSha.out]; simp [bytesTo, List.take_of_length_le, bytes_length]
      rw [hfull] at hbs
      have HL : Hid ((cells8 S).length = 32) := by show _ = _; rw [len8, hS, hSha.out, bytes_length]
      have hi32 : Hid ((Tryd.prog.info? 30).map (·.size) = some (cells8 S).length) := by show _ = _; rw [HL.out]; exact sum_size
      have hz32 : Hid (z32.length = (cells8 S).length) := by show _ = _; rw [HL.out]; rfl
      have HS' := Lib.hid hS
      clear hfull hS
      go_upto_region 13 with fail
      go_wp2_with ((with_reducible show wpList _ _ _ _ _ _); (first | ((with_reducible refine wpl_load_row (o := ⟨some 39, _, _, _, _, _⟩) _ rfl 30 (.tmp 4) rfl w5.heap.size ?hx 30 (cells8 S) 32 5 hbs Tryd.underlying30 hi32.out ?_); case hx => rfl) | ((with_reducible refine wpl_store_row (o := ⟨none, _, _, _, _, _⟩) _ rfl 30 (.tmp 2) (.tmp 39) rfl w.heap.size (cells8 S) ?hp ?hv 30 z32 hbr hi32.out hz32.out (cells8_one _) ?_); (case hp => rfl); (case hv => rfl); intro wd hbd hkd hsd)))
      refine bodyPost_ret (results_cell_row (p := 2) (ty := 30) rfl _ _ w.heap.size 30 (cells8 S).toArray (0, 0) _ rfl hbd Tryd.underlying30 rfl (by have := HL.out; simpa [this] using sum_size)) rfl ?_
      rw [HS'.out]
      exact ⟨rfl, Kept.trans' hkr hkd (by omega)⟩

theorem shaOf_length (xs : List UInt8) : (shaOf xs).length = 32 := bytes_length _

set_option maxRecDepth 100000 in
set_option maxHeartbeats 800000 in
theorem sum_any (v : Value) (xs : List UInt8) (w : World) (hG : Glob w) (hv : ∀ g, w.heap.size ≤ g → SliceIs w g v xs) (hxl : xs.length ≤ 900000) :
    Calls Tryd.prog 20 #[v] w fun e w' => e = .returned (.agg (cells8 (shaOf xs)).toArray) ∧ Kept w w' := by
  obtain ⟨S, hS⟩ : ∃ S, S = shaOf xs := ⟨_, rfl⟩
  have HL : Hid ((cells8 S).length = 32) := by show _ = _; rw [len8, hS, shaOf_length]
  have hi32 : Hid ((Tryd.prog.info? 30).map (·.size) = some (cells8 S).length) := by show _ = _; rw [HL.out]; exact sum_size
  have hz32 : Hid (z32.length = (cells8 S).length) := by show _ = _; rw [HL.out]; rfl
  rw [← hS]
  have HS' := Lib.hid hS
  have HV := Lib.hid hv
  clear hS hv
  go_enter Tryd.func20, Tryd.ntmps20
  go_wp2_with ((with_reducible show wpList _ _ _ _ _ _); ((with_reducible refine wpl_alloc (o := ⟨some 2, _, _, _, _, _⟩) _ rfl 30 rfl z32 sum_zero ?_); intro w1 hb1 hs1 hk1; clear hs1))
  refine (new_any w1 (hG.kept hk1)).mono ?_
  rintro e w2 ⟨g, rfl, hg, hs2, hk2⟩
  have hkw2 := hk1.trans hk2
  have hG2 := hG.kept hkw2
  have hb2 := hb1.kept hk2
  have hlt1 := hb1.lt
  obtain ⟨A, n, c, rfl, hl, hR, hnc, hcm, hA⟩ := HV.out g (by omega)
  have hv2 : SliceIs w2 g (.slice A n c) xs := ⟨A, n, c, rfl, hl, hR.kept hkw2, hnc, hcm, hA⟩
  have hx0 : ([] : List UInt8).length ≤ 1000000 := by simp
  have hx1 : xs.length ≤ 1000000 := by omega
  clear hk1 hk2 hb1 HV hR hA hl
  go_wp2_with fail
  refine (write_any g [] _ xs w2 hG2 hs2 hv2 hx0 hx1).mono ?_
  rintro e w3 ⟨rfl, hs3, hk3⟩
  rw [List.nil_append] at hs3
  have hG3 := hG2.same hs2 hk3
  have hkw3 : Kept w w3 := Kept.trans' hkw2 hk3 (by omega)
  have hb3 := hb2.keep hk3 (by omega)
  clear hkw2 hG2 hb2 hs2 hv2 hk3
  go_wp2_with fail
  refine (hsum_any g xs w3 hG3 hs3 hxl).mono ?_
  rintro e w4 ⟨rfl, hk4⟩
  rw [← HS'.out]
  have hkw4 := hkw3.trans hk4
  have hb4 := hb3.kept hk4
  clear hk4 hkw3 hb3 hs3 hG3
  go_wp2_with ((with_reducible show wpList _ _ _ _ _ _); ((with_reducible refine wpl_store_row (o := ⟨none, _, _, _, _, _⟩) _ rfl 30 (.tmp 2) (.tmp 9) rfl w.heap.size (cells8 S) ?hp ?hv 30 z32 hb4 hi32.out hz32.out (cells8_one _) ?_); (case hp => rfl); (case hv => rfl); intro wd hbd hkd hsd))
  refine bodyPost_ret (results_cell_row (p := 2) (ty := 30) rfl _ _ w.heap.size 30 (cells8 S).toArray (0, 0) _ rfl hbd Tryd.underlying30 rfl (by have := HL.out; simpa [this] using sum_size)) rfl ?_
  exact ⟨rfl, Kept.trans' hkw4 hkd (by omega)⟩
end Go.Proofs.YtholpkaicmckfaaDoor
