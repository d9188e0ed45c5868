/-
  The contract of the document's own Mac (jobberref1.Mac): hmac. Condition: lengths at most 90000.
-/
import Derived.Test.YthadjcgebnlpiaaDoorMacPads
import Derived.Test.YthadjcgebnlpiaaDoorRefSha
import Derived.Test.YthadjcgebnlpiaaDoorOwn8
import Derived.Deep.DeepCutAuto
namespace Go.Proofs.YthadjcgebnlpiaaDoor
open Go.RowKit
set_option linter.unusedVariables false

theorem blk64 (w : World) : Blk (w.alloc (.cells (madeCells #[.int .u8 0] 64) 5)) w.heap.size 5 z64v := blk_made w _ _ 64

theorem made64 : madeCells #[Value.int .u8 0] 64 = z64v.toArray := by
  rw [← Array.toArray_toList (xs := madeCells #[Value.int .u8 0] 64), toList_madeCells_one]
  rfl
/-- two rows of 64 noughts -/
theorem two_made (w : World) : Blk ((w.alloc (.cells z64v.toArray 5)).alloc (.cells z64v.toArray 5)).drew w.heap.size 5 z64v ∧ Blk ((w.alloc (.cells z64v.toArray 5)).alloc (.cells z64v.toArray 5)).drew (w.heap.size + 1) 5 z64v ∧ Kept w ((w.alloc (.cells z64v.toArray 5)).alloc (.cells z64v.toArray 5)).drew := by
  refine ⟨(Blk.new w _ z64v).alloc _, ?_, Keep.drew (Keep.alloc (Keep.alloc (Keep.refl _ w) _) _)⟩
  have h := Blk.new (w.alloc (.cells z64v.toArray 5)) 5 z64v
  rw [show (w.alloc (.cells z64v.toArray 5)).heap.size = w.heap.size + 1 by simp] at h
  exact h

theorem row_set {wr : World} {g k : Nat} {t : TypeId} {new old : List UInt8} {v : Int} (hb : Blk wr g t (cells8 (over new old k))) (h1 : new.length = 64) (h2 : old.length = 64) (hk : k < 64) (hv : v = ((new.getD k 0).toNat : Int)) : Blk (wr.setCell ⟨g, k, none⟩ (.int .u8 v)) g t (cells8 (over new old (k + 1))) := by
  have h := hb.set_ k (.int .u8 v)
  have e : (cells8 (over new old k)).set k (.int .u8 v) = cells8 (over new old (k + 1)) := by
    rw [hv, ← over_set new old k h1 h2 hk]
    simp [cells8, List.map_set]
  rw [e] at h
  exact h
theorem Blk.row8 {w : World} {g : Nat} {xs : List UInt8} (h : Blk w g 5 (cells8 xs)) (hl : xs.length ≤ maxLen) : Row8 w g xs.length xs := ⟨[], by rw [List.append_nil]; exact h, by simp, hl⟩

/-- make([]byte, 64) -/
theorem wpl_make64 {ops : Array Oper} {rest : List Oper} {o : Oper} {a : Act} {Q : Exit → Act → World → Prop} (w : World) (hg : o.guard = none) (hop : o.op = Op.makeSlice 22 (.const (.int .i64 64)) (.const (.int .i64 64)))
    (hK : ∀ w', Blk w' w.heap.size 5 z64v → w'.heap.size = w.heap.size + 1 → Kept w w' → wpList Tryd.prog ops Q rest (a.put o.dst (.slice (some ⟨w.heap.size, 0, none⟩) 64 64)) w') :
    wpList Tryd.prog ops Q (o :: rest) a w := by
  refine wpList_plain hg fun K hK' => ?_
  have h := run_make8 64 64 (by omega) (by omega) w
  unfold Oper.wp execOp
  simp only [hop]
  have h' : (Instr.makeSlice 22 (a.eval (.const (.int .i64 64))) (a.eval (.const (.int .i64 64)))).run Tryd.prog w = .ok (.slice (some ⟨w.heap.size, 0, none⟩) 64 64) (w.alloc (.cells (madeCells #[.int .u8 0] 64) 5)) := h
  simp only [Sem.run_bind, h', Result.andThen_ok, Sem.run_pure]
  exact hK' _ _ (hK _ (blk64 w) (by simp) ((Keep.refl _ w).alloc _))

set_option maxRecDepth 100000 in
set_option maxHeartbeats 1600000 in
theorem refMac_any (A B : Option Addr) (n m c d : Nat) (key bs : List UInt8) (w : World) (hx : R8 w A key) (hA : A = none → c = 0) (hl : Hid (key.length = n)) (hn : n ≤ 10000) (hy : R8 w B bs) (hB : B = none → d = 0) (hl' : Hid (bs.length = m)) (hm : m ≤ 10000) :
    Calls Tryd.prog 12 #[.slice A n c, .slice B m d] w fun e w' => e = .returned (.agg (cells8 (hmac key bs)).toArray) ∧ Kept w w' := by
  have hs32 := slice_sum
  have HX := Lib.hid hx
  have HY := Lib.hid hy
  clear hx hy
  go_enter Tryd.func12, Tryd.ntmps12
  go_upto_if 14 with ((with_reducible show wpList _ _ _ _ _ _); (first
      | ((with_reducible refine wpl_alloc (o := ⟨some 4, _, _, _, _, _⟩) _ rfl 24 rfl z32 sum_zero ?_); intro w1 hb1 hs1 hk1; clear hs1)
      | ((with_reducible refine wpl_make64 (o := ⟨some 11, _, _, _, _, _⟩) _ rfl rfl ?_); intro w2 hb2 hs2 hk2; clear hs2; have hb12 := hb1.kept hk2; have hkw2 := hk1.trans hk2; have hlt1 := hb1.lt)))
  have hsz1 := hk1.size
  have hltk := hb2.lt
  clear hk1 hk2 hb1
  obtain ⟨K, hK⟩ : ∃ K, K = padK key := ⟨_, rfl⟩
  go_cut [] (fun wx => Blk wx w.heap.size 24 z32 ∧ Blk wx w1.heap.size 5 (cells8 K) ∧ Kept w wx)
  case first =>
    have HK := Lib.hid hK
    clear hK
    by_cases hlt : 64 < n
    · obtain ⟨T, hT⟩ : ∃ T, T = shaOf key := ⟨_, rfl⟩
      have HT : Hid (∀ t, t = shaOf key → t = T) := fun t h => h.trans hT.symm
      have hks : Hid (splice z64v 0 (cells8 T) = cells8 K) := by
        show _ = _
        have := hl.out
        rw [splice_pad, HK.out, padK, short, if_pos (by omega), hT]
      have hTl : T.length = 32 := by rw [hT, shaOf_length]
      have hmin : Hid (T.length = Nat.min 32 64) := hTl
      have hfit : Hid (0 + T.length ≤ z64v.length) := by show _ ≤ _; rw [hTl]; simp [z64v]
      have hi32 : Hid ((Tryd.prog.info? 24).map (·.size) = some (cells8 T).length) := by show _ = _; rw [len8, hTl]; exact sum_size
      have hz32 : Hid (z32.length = (cells8 T).length) := by show _ = _; rw [len8, hTl]; rfl
      clear hT hTl
      go_wp2_with fail
      refine (refSha_any A n c key w2 (HX.out.kept hkw2) hA hl (by omega)).mono ?_
      rintro e w3 ⟨rfl, hk3⟩
      rw [HT.out _ rfl]
      have hb13 := hb12.kept hk3
      have hb23 := hb2.kept hk3
      have hkw3 := hkw2.trans hk3
      have hsz3 := hk3.size
      clear hk3 hb12 hb2 hkw2 HX HT
      go_wp2_with ((with_reducible show wpList _ _ _ _ _ _); (first
        | ((with_reducible refine wpl_alloc (o := ⟨some 6, _, _, _, _, _⟩) _ rfl 24 rfl z32 sum_zero ?_); intro w4 hb4 hs4 hk4; clear hs4; have hb14 := hb13.kept hk4; have hb24 := hb23.kept hk4; have hkw4 := hkw3.trans hk4)
        | ((with_reducible refine wpl_store_row (o := ⟨none, _, _, _, _, _⟩) _ rfl 24 (.tmp 6) (.tmp 16) rfl w3.heap.size (cells8 T) ?hp4 ?hv4 24 z32 hb4 hi32.out hz32.out (cells8_one _) ?_); (case hp4 => rfl); (case hv4 => rfl); intro w5 hb5 hk5 hs5; clear hs5; have hb15 := hb14.keep hk5 (by omega); have hb25 := hb24.keep hk5 (by omega); have hkw5 := Kept.trans' hkw4 hk5 (by omega); have hX5 : Hid (R8 w5 (some ⟨w3.heap.size, 0, none⟩) T) := hb5.r8)
        | ((with_reducible refine wpl_copy8o (o := ⟨some 19, _, _, _, _, _⟩) _ rfl (.tmp 17) (.tmp 18) rfl w1.heap.size 0 64 64 (some ⟨w3.heap.size, 0, none⟩) 32 32 ?hd ?hs z64v 5 hb25 T hmin.out hX5.out hfit.out ?_); (case hd => rfl); (case hs => rfl); intro w6 hb6 hk6 hs6; clear hs6; rw [hks.out] at hb6; have hb16 := hb15.keep hk6 (by omega); have hkw6 := Kept.trans' hkw5 hk6 (by omega))))
      go_meet
      case rel => exact ⟨hb16, hb6, hkw6⟩
    · have hks : Hid (splice z64v 0 (cells8 key) = cells8 K) := by
        show _ = _
        have := hl.out
        rw [splice_pad, HK.out, padK, short, if_neg (by omega)]
      have hmin : Hid (key.length = Nat.min n 64) := by show _ = _; rw [hl.out]; exact (Nat.min_eq_left (by omega)).symm
      have hfit : Hid (0 + key.length ≤ z64v.length) := by show _ ≤ _; rw [hl.out]; simp [z64v]; omega
      have hX2 : Hid (R8 w2 A key) := HX.out.kept hkw2
      go_wp2_with ((with_reducible show wpList _ _ _ _ _ _); ((with_reducible refine wpl_copy8o (o := ⟨some 22, _, _, _, _, _⟩) _ rfl (.tmp 20) (.tmp 21) rfl w1.heap.size 0 64 64 A n c ?hd ?hs z64v 5 hb2 key hmin.out hX2.out hfit.out ?_); (case hd => rfl); (case hs => rfl); intro w3 hb3 hk3 hs3; clear hs3; rw [hks.out] at hb3; have hb13 := hb12.keep hk3 (by omega); have hkw3 := Kept.trans' hkw2 hk3 (by omega)))
      go_meet
      case rel => exact ⟨hb13, hb3, hkw3⟩
  case rest =>
    obtain ⟨hbr, hbk, hkc⟩ := hcut
    clear hb12 hb2 hkw2
    have hKl : K.length = 64 := by rw [hK, padK_length]
    have HKL := Lib.hid hKl
    have HK := Lib.hid hK
    clear hK hKl
    have hltc := hbk.lt
    have hmk : ∀ u : World, (Instr.makeSlice 22 (.int .i64 64) (.int .i64 64)).run Tryd.prog u = .ok (.slice (some ⟨u.heap.size, 0, none⟩) 64 64) (u.alloc (.cells z64v.toArray 5)) := fun u => by
      have h := run_make8 64 64 (by omega) (by omega) u
      rw [made64] at h
      exact h
    obtain ⟨L, hL⟩ : ∃ L, L = wc.heap.size := ⟨_, rfl⟩
    have hLw : w.heap.size ≤ L := by have := hkc.size; omega
    go_upto_region 6 with fail
    go_cut [7, 8] (fun a b wx => ∃ gi go, a = .slice (some ⟨gi, 0, none⟩) 64 64 ∧ b = .slice (some ⟨go, 0, none⟩) 64 64 ∧ gi ≠ go ∧ L ≤ gi ∧ L ≤ go ∧ Blk wx gi 5 z64v ∧ Blk wx go 5 z64v ∧ Kept wc wx)
    case first =>
      go_region
      all_goals (go_wp2_with fail; go_meet)
      all_goals (have T := two_made wc)
      all_goals first
        | exact ⟨_, _, rfl, rfl, by omega, by omega, by omega, T.1, T.2.1, T.2.2⟩
        | exact ⟨_, _, rfl, rfl, by omega, by omega, by omega, T.2.1, T.1, T.2.2⟩
    case rest =>
      obtain ⟨gi, go, rfl, rfl, hne, hgi, hgo, hbi, hbo, hk3⟩ := hcut
      have hbr3 := hbr.kept hk3
      have hbk3 := hbk.kept hk3
      have hkw3 := hkc.trans hk3
      have hltr := hbr.lt
      clear hbr hbk hkc hk3
      rw [← hL] at hltc hltr
      clear hL hmk
      go_wp2_with fail
      go_loopw [27] (fun v wr => ∃ k : Nat, k ≤ 64 ∧ v = .int .i64 k ∧ Blk wr gi 5 (cells8 (over (xb 54 K) z64b k)) ∧ Blk wr go 5 (cells8 (over (xb 92 K) z64b k)) ∧ Blk wr w1.heap.size 5 (cells8 K) ∧ Blk wr w.heap.size 24 z32 ∧ Kept w wr) (fun v _ => 64 - (intOf v).toNat)
      case atStart => exact ⟨0, Nat.zero_le _, rfl, by rw [over_zero]; exact hbi, by rw [over_zero]; exact hbo, hbk3, hbr3, hkw3⟩
      case round =>
        obtain ⟨k, hk, rfl, hbi, hbo, hbk, hbr, hkr⟩ := hrel
        clear hbk3 hbr3 hkw3
        have l54 : (xb 54 K).length = 64 := by rw [xb_length, HKL.out]
        have l92 : (xb 92 K).length = 64 := by rw [xb_length, HKL.out]
        by_cases hlt : k < 64
        · have ck : wr.cell? ⟨w1.heap.size, k, none⟩ = some (.int .u8 ((K.getD k 0).toNat : Int)) := by
            have := HKL.out
            rw [hbk.cell, cells8, List.getElem?_map, List.getElem?_eq_getElem (by omega), List.getD_eq_getElem?_getD, List.getElem?_eq_getElem (by omega)]
            rfl
          obtain ⟨ui, ci⟩ : ∃ u, wr.cell? ⟨gi, k, none⟩ = some u := by
            have := over_length (xb 54 K) z64b k l54 rfl hk
            exact ⟨_, by rw [hbi.cell, List.getElem?_eq_getElem (by rw [len8]; omega)]⟩
          obtain ⟨uo, co⟩ : ∃ u, wr.cell? ⟨go, k, none⟩ = some u := by
            have := over_length (xb 92 K) z64b k l92 rfl hk
            exact ⟨_, by rw [hbo.cell, List.getElem?_eq_getElem (by rw [len8]; omega)]⟩
          have fi : wr.frozen? ⟨gi, k, none⟩ = false := hbi.frozen _
          have fo : wr.frozen? ⟨go, k, none⟩ = false := hbo.frozen _
          clear l54 l92
          generalize hx : K.getD k 0 = x at ck
          have HXK := Lib.hid hx
          clear hx
          go_wp2_with fail
          go_region
          have e1 : Hid (bits .xor .u8 (x.toNat : Int) 54 = (((xb 54 K).getD k 0).toNat : Int)) := by
            show _ = _
            rw [xb_getD 54 K k (by rw [HKL.out]; omega), HXK.out]
            exact xor8 x 54
          have e2 : Hid (bits .xor .u8 (x.toNat : Int) 92 = (((xb 92 K).getD k 0).toNat : Int)) := by
            show _ = _
            rw [xb_getD 92 K k (by rw [HKL.out]; omega), HXK.out]
            exact xor8 x 92
          have hwo1 : gi ≠ (⟨go, k, none⟩ : Addr).block := hne
          have hwo2 : go ≠ (⟨gi, k, none⟩ : Addr).block := fun h => hne h.symm
          have R1 := (row_set hbi (by rw [xb_length, HKL.out]) rfl hlt e1.out).far hwo1 (.int .u8 (bits .xor .u8 (x.toNat : Int) 92))
          have R2 := row_set (hbo.far hwo2 (.int .u8 (bits .xor .u8 (x.toNat : Int) 54))) (by rw [xb_length, HKL.out]) rfl hlt e2.out
          have R3 := (hbk.far (p := ⟨gi, k, none⟩) (by show w1.heap.size ≠ gi; omega) (.int .u8 (bits .xor .u8 (x.toNat : Int) 54))).far (p := ⟨go, k, none⟩) (by show w1.heap.size ≠ go; omega) (.int .u8 (bits .xor .u8 (x.toNat : Int) 92))
          have R4 := (hbr.far (p := ⟨gi, k, none⟩) (by show w.heap.size ≠ gi; omega) (.int .u8 (bits .xor .u8 (x.toNat : Int) 54))).far (p := ⟨go, k, none⟩) (by show w.heap.size ≠ go; omega) (.int .u8 (bits .xor .u8 (x.toNat : Int) 92))
          have R5 : Kept w ((wr.setCell ⟨gi, k, none⟩ (.int .u8 (bits .xor .u8 (x.toNat : Int) 54))).setCell ⟨go, k, none⟩ (.int .u8 (bits .xor .u8 (x.toNat : Int) 92))).drew := Keep.drew (Keep.setCell (Keep.setCell hkr (p := ⟨gi, k, none⟩) (fun h => by have : gi < w.heap.size := h; omega) _) (p := ⟨go, k, none⟩) (fun h => by have : go < w.heap.size := h; omega) _)
          have HR : Hid (Blk ((wr.setCell ⟨gi, k, none⟩ (.int .u8 (bits .xor .u8 (x.toNat : Int) 54))).setCell ⟨go, k, none⟩ (.int .u8 (bits .xor .u8 (x.toNat : Int) 92))).drew gi 5 (cells8 (over (xb 54 K) z64b (k + 1))) ∧ Blk ((wr.setCell ⟨gi, k, none⟩ (.int .u8 (bits .xor .u8 (x.toNat : Int) 54))).setCell ⟨go, k, none⟩ (.int .u8 (bits .xor .u8 (x.toNat : Int) 92))).drew go 5 (cells8 (over (xb 92 K) z64b (k + 1))) ∧
            Blk ((wr.setCell ⟨gi, k, none⟩ (.int .u8 (bits .xor .u8 (x.toNat : Int) 54))).setCell ⟨go, k, none⟩ (.int .u8 (bits .xor .u8 (x.toNat : Int) 92))).drew w1.heap.size 5 (cells8 K) ∧ Blk ((wr.setCell ⟨gi, k, none⟩ (.int .u8 (bits .xor .u8 (x.toNat : Int) 54))).setCell ⟨go, k, none⟩ (.int .u8 (bits .xor .u8 (x.toNat : Int) 92))).drew w.heap.size 24 z32 ∧ Kept w ((wr.setCell ⟨gi, k, none⟩ (.int .u8 (bits .xor .u8 (x.toNat : Int) 54))).setCell ⟨go, k, none⟩ (.int .u8 (bits .xor .u8 (x.toNat : Int) 92))).drew) := ⟨R1, R2, R3, R4, R5⟩
          clear R1 R2 R3 R4 R5 e1 e2 hwo1 hwo2
          go_wp2
          exact ⟨⟨k + 1, by omega, by go_num, HR.out⟩, by simp [intOf]; omega⟩
        · obtain rfl : k = 64 := by omega
          rw [over_full _ _ l54 rfl] at hbi
          rw [over_full _ _ l92 rfl] at hbo
          obtain ⟨T, hT⟩ : ∃ T, T = shaOf (xb 54 K ++ bs) := ⟨_, rfl⟩
          have HT : Hid (∀ t, t = shaOf (xb 54 K ++ bs) → t = T) := fun t h => h.trans hT.symm
          obtain ⟨S, hS⟩ : ∃ S, S = hmac key bs := ⟨_, rfl⟩
          have HS : Hid (∀ t, t = shaOf (xb 92 K ++ T) → t = S) := fun t h => by rw [h, hS, hmac, hT, HK.out]
          have HSd := Lib.hid hS
          have hTl : T.length = 32 := by rw [hT, shaOf_length]
          have hSl : S.length = 32 := by rw [hS, hmac_length]
          have HTL := Lib.hid hTl
          have HL : Hid ((cells8 S).length = 32) := by show _ = _; rw [len8, hSl]
          have hiT : Hid ((Tryd.prog.info? 24).map (·.size) = some (cells8 T).length) := by show _ = _; rw [len8, hTl]; exact sum_size
          have hzT : Hid (z32.length = (cells8 T).length) := by show _ = _; rw [len8, hTl]; rfl
          have hiS : Hid ((Tryd.prog.info? 24).map (·.size) = some (cells8 S).length) := by show _ = _; rw [len8, hSl]; exact sum_size
          have hzS : Hid (z32.length = (cells8 S).length) := by show _ = _; rw [len8, hSl]; rfl
          have hri := hbi.row8 (by rw [l54]; unfold maxLen; omega)
          have hro := hbo.row8 (by rw [l92]; unfold maxLen; omega)
          rw [l54] at hri
          rw [l92] at hro
          have L54 := Lib.hid l54
          have L92 := Lib.hid l92
          have hYr : Hid (R8 wr B bs) := HY.out.kept hkr
          have hlim : Hid (64 + m ≤ 140737488355328) := by show _ ≤ _; omega
          clear hT hS hTl hSl hbi hbo l54 l92 hbk HX HY
          generalize xb 54 K = I at HT L54 hri
          generalize xb 92 K = O at HS L92 hro
          go_wp2_with ((with_reducible show wpList _ _ _ _ _ _); ((with_reducible refine wpl_append8 (o := ⟨some 49, _, _, _, _, _⟩) _ ?hw (.tmp 47) (.tmp 48) rfl L gi 64 64 I ?hs L54.out hri hgi B m d bs ?hx hl'.out hYr.out hB hlim.out ?_); (case hw => rfl); (case hs => rfl); (case hx => rfl); intro w4 g4 c4 hr4 hg4 hk4))
          have hro4 := hro.keep hk4 (fun h => hne h.symm)
          have hbr4 := hbr.keep hk4 (by omega)
          have hkw4 : Kept w w4 := Kept.trans' hkr hk4 (by omega)
          clear hk4 hro hbr hkr hri hYr
          refine (refSha_any (some ⟨g4, 0, none⟩) (64 + m) c4 (I ++ bs) w4 hr4.r8 (fun h => by cases h) (by show _ = _; rw [List.length_append, L54.out, hl'.out]) (by omega)).mono ?_
          rintro e w5 ⟨rfl, hk5⟩
          rw [HT.out _ rfl]
          have hro5 := hro4.kept hk5
          have hbr5 := hbr4.kept hk5
          have hkw5 := hkw4.trans hk5
          have hlto := hro5.lt
          have hlim2 : Hid (64 + 32 ≤ 140737488355328) := by show _ ≤ _; omega
          clear hk5 hro4 hbr4 hkw4 hr4 HT
          go_wp2_with ((with_reducible show wpList _ _ _ _ _ _); (first
            | ((with_reducible refine wpl_alloc (o := ⟨some 10, _, _, _, _, _⟩) _ rfl 24 rfl z32 sum_zero ?_); intro w6 hb6 hs6 hk6; clear hs6; have hro6 := hro5.kept hk6; have hbr6 := hbr5.kept hk6; have hkw6 := hkw5.trans hk6)
            | ((with_reducible refine wpl_store_row (o := ⟨none, _, _, _, _, _⟩) _ rfl 24 (.tmp 10) (.tmp 50) rfl w5.heap.size (cells8 T) ?hp5 ?hv5 24 z32 hb6 hiT.out hzT.out (cells8_one _) ?_); (case hp5 => rfl); (case hv5 => rfl); intro w7 hb7 hk7 hs7; clear hs7; have hro7 := hro6.keep hk7 (by omega); have hbr7 := hbr6.keep hk7 (by omega); have hkw7 := Kept.trans' hkw6 hk7 (by have := hkw5.size; omega); have hX7 : Hid (R8 w7 (some ⟨w5.heap.size, 0, none⟩) T) := hb7.r8)
            | ((with_reducible refine wpl_append8 (o := ⟨some 53, _, _, _, _, _⟩) _ ?hw2 (.tmp 51) (.tmp 52) rfl L go 64 64 O ?hs2 L92.out hro7 hgo (some ⟨w5.heap.size, 0, none⟩) 32 32 T ?hx2 HTL.out hX7.out (fun h => by cases h) hlim2.out ?_); (case hw2 => rfl); (case hs2 => rfl); (case hx2 => rfl); intro w8 g8 c8 hr8 hg8 hk8)))
          have hbr8 := hbr7.keep hk8 (by omega)
          have hkw8 : Kept w w8 := Kept.trans' hkw7 hk8 (by omega)
          clear hk8 hro7 hbr7 hkw7 hX7
          refine (refSha_any (some ⟨g8, 0, none⟩) (64 + 32) c8 (O ++ T) w8 hr8.r8 (fun h => by cases h) (by show _ = _; rw [List.length_append, L92.out, HTL.out]) (by omega)).mono ?_
          rintro e w9 ⟨rfl, hk9⟩
          rw [HS.out _ rfl]
          have hbr9 := hbr8.kept hk9
          have hkw9 := hkw8.trans hk9
          clear hk9 hbr8 hkw8 hr8 HS
          go_wp2_with ((with_reducible show wpList _ _ _ _ _ _); ((with_reducible refine wpl_store_row (o := ⟨none, _, _, _, _, _⟩) _ rfl 24 (.tmp 4) (.tmp 54) rfl w.heap.size (cells8 S) ?hp ?hv 24 z32 hbr9 hiS.out hzS.out (cells8_one _) ?_); (case hp => rfl); (case hv => rfl); intro wd hbd hkd hsd))
          refine bodyPost_ret (results_cell_row (p := 4) (ty := 24) rfl _ _ w.heap.size 24 (cells8 S).toArray (0, 0) _ rfl hbd Tryd.underlying24 rfl (by have := HL.out; simpa [this] using sum_size)) rfl ?_
          rw [HSd.out]
          exact ⟨rfl, Kept.trans' hkw9 hkd (by omega)⟩
end Go.Proofs.YthadjcgebnlpiaaDoor
