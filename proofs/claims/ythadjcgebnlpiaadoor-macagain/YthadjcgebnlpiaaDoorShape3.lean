/-
  The walk of jobberlaw3.MacShape. No condition but the tables' contents.
-/
import Derived.Test.YthadjcgebnlpiaaDoorRuns3
import Derived.Test.YthadjcgebnlpiaaDoorRefMac
import Derived.Test.YthadjcgebnlpiaaDoorClassT
namespace Go.Proofs.YthadjcgebnlpiaaDoor
open Go.RowKit
set_option linter.unusedVariables false

theorem own_apart {w : World} {b1 b2 n m c d : Nat} {A B : Option Addr} {xs ys : List UInt8} {x y : UInt8} (h1 : Own8 w b1 A n c xs) (h2 : Own8 w b2 B m d ys) (hx : xs[0]? = some x) (hy : ys[0]? = some y) (hne : x ≠ y) (a b : Addr) (ea : A = some a) (eb : B = some b) : a.block ≠ b.block := by
  rcases h1 with ⟨e, _⟩ | ⟨g1, e1, _, _, r1⟩
  · rw [ea] at e; cases e
  rcases h2 with ⟨e, _⟩ | ⟨g2, e2, _, _, r2⟩
  · rw [eb] at e; cases e
  rw [ea] at e1
  rw [eb] at e2
  injection e1 with e1
  injection e2 with e2
  subst e1 e2
  intro h
  have h : g1 = g2 := h
  subst h
  obtain ⟨_, q1, c1⟩ := r1.r8 0 x hx
  obtain ⟨_, q2, c2⟩ := r2.r8 0 y hy
  injection q1 with q1
  injection q2 with q2
  subst q1 q2
  rw [c1] at c2
  injection c2 with c2
  injection c2 with _ c2
  exact hne (UInt8.toNat.inj (by omega))
theorem xb_head (m : UInt8) (K : List UInt8) (k : Nat) (hk : 0 < k) (h : 0 < K.length) : (xb m (K.take k))[0]? = some (K[0] ^^^ m) := by
  cases K with
  | nil => simp at h
  | cons x K =>
    obtain ⟨j, rfl⟩ : ∃ j, k = j + 1 := ⟨k - 1, by omega⟩
    simp [xb]
theorem pads_ne (x : UInt8) : x ^^^ 54 ≠ x ^^^ 92 := by
  intro h
  have h2 := congrArg (x ^^^ ·) h
  simp only [← UInt8.xor_assoc, UInt8.xor_self, UInt8.zero_xor] at h2
  exact absurd h2 (by decide)
theorem xb_take (m : UInt8) (K : List UInt8) (k : Nat) (hk : k < K.length) : xb m (K.take k) ++ [K.getD k 0 ^^^ m] = xb m (K.take (k + 1)) := by
  rw [List.take_add_one, List.getD_eq_getElem?_getD, List.getElem?_eq_getElem hk, xb, xb, List.map_append]
  rfl
/-- a slice of one byte, laid anew -/
theorem one8 (w : World) (x : UInt8) (v : Int) (hv : v = (x.toNat : Int)) : R8 (w.alloc (.cells #[.int .u8 v] 5)) (some ⟨w.heap.size, 0, none⟩) [x] := by
  subst hv
  exact (Blk.new w 5 (cells8 [x])).r8
theorem exec_slice_sum {a : Act} {o : Oper} {u : World} (x : Operand) (g : Nat) (hop : o.op = .slice 24 x none none none) (hx : a.eval x = .pointer (some ⟨g, 0, none⟩)) : (execOp a.eval o).run Tryd.prog u = .ok (.value (.slice (some ⟨g, 0, none⟩) 32 32)) u := by
  have h := slice_sum g 0 u
  unfold execOp
  simp only [hop, hx]
  simp [h]

set_option maxRecDepth 100000 in
set_option maxHeartbeats 1600000 in
theorem macShape_any (v1 v2 : Value) (xs0 ys0 : List UInt8) (w : World) (hG : Glob w) (h1 : Bytes w v1 xs0) (h2 : Bytes w v2 ys0) :
    Calls Tryd.prog 7 #[v1, v2] w fun e w' => e = .returned (.bool true) ∧ Kept w w' := by
  obtain ⟨A, n1, c, rfl, hl1, hx1, hnc, hc, hA⟩ := h1
  obtain ⟨B, n2, d, rfl, hl2, hx2, hnd, hd, hB⟩ := h2
  have hcm := hc
  have hdm := hd
  unfold maxLen at hc hd
  obtain ⟨n, hn⟩ : ∃ m, m = min n1 130 := ⟨_, rfl⟩
  obtain ⟨m, hm⟩ : ∃ k, k = min n2 100 := ⟨_, rfl⟩
  have hm1 : n ≤ 130 := by omega
  have hm2 : n ≤ n1 := by omega
  have hk1 : m ≤ 100 := by omega
  have hk2 : m ≤ n2 := by omega
  have hmin : (if (130 : Int) < (n1 : Int) then (130 : Int) else (n1 : Int)) = (n : Int) := by split <;> omega
  have kmin : (if (100 : Int) < (n2 : Int) then (100 : Int) else (n2 : Int)) = (m : Int) := by split <;> omega
  have hl : Hid ((xs0.take n).length = n) := by show _ = _; rw [List.length_take, hl1.out]; omega
  have hl' : Hid ((ys0.take m).length = m) := by show _ = _; rw [List.length_take, hl2.out]; omega
  have hx := hx1.take2 n
  have hy := hx2.take2 m
  generalize xs0.take n = key at hl hx
  generalize ys0.take m = bs at hl' hy
  have hxl : key.length ≤ 800000 := by rw [hl.out]; omega
  have hyl : bs.length ≤ 800000 := by rw [hl'.out]; omega
  have hs32 := slice_sum
  have HX := Lib.hid hx
  have HY := Lib.hid hy
  have HA := Lib.hid hA
  have HB := Lib.hid hB
  clear hn hm hl1 hl2 hx1 hx2 hx hy hA hB
  go_enter Tryd.func7, Tryd.ntmps7
  go_wp2_with fail
  go_quiet (fail)
  have hk0 : Kept w (w.drewN nq) := kept_drewN w nq
  generalize w.drewN nq = w0 at hk0 ⊢
  clear hmin kmin
  go_upto_if 25 with ((with_reducible show wpList _ _ _ _ _ _); ((with_reducible refine wpl_make64 (o := ⟨some 22, _, _, _, _, _⟩) _ rfl rfl ?_); intro w2 hb2 hs2 hk2; have hkw2 := hk0.trans hk2))
  have hltk := hb2.lt
  have hsz0 := hk0.size
  clear hk0 hk2
  obtain ⟨gk, hgk⟩ : ∃ gk, gk = w0.heap.size := ⟨_, rfl⟩
  rw [← hgk] at hb2 hltk hs2 hsz0 ⊢
  clear hgk
  obtain ⟨K, hK⟩ : ∃ K, K = padK key := ⟨_, rfl⟩
  go_cut [] (fun wx => Blk wx gk 5 (cells8 K) ∧ Kept w wx)
  case first =>
    have HK := Lib.hid hK
    clear hK
    by_cases hlt : 64 < n
    · obtain ⟨T, hT⟩ : ∃ T, T = shaOf key := ⟨_, rfl⟩
      have HT : Hid (∀ t, t = shaOf key → t = T) := fun t h => h.trans hT.symm
      have hks : Hid (splice z64v 0 (cells8 T) = cells8 K) := by
        show _ = _
        have := hl.out
        rw [splice_pad, HK.out, padK, short, if_pos (by omega), hT]
      have hTl : T.length = 32 := by rw [hT, shaOf_length]
      have hmin : Hid (T.length = Nat.min 32 64) := hTl
      have hfit : Hid (0 + T.length ≤ z64v.length) := by show _ ≤ _; rw [hTl]; simp [z64v]
      have hi32 : Hid ((Tryd.prog.info? 24).map (·.size) = some (cells8 T).length) := by show _ = _; rw [len8, hTl]; exact sum_size
      have hz32 : Hid (z32.length = (cells8 T).length) := by show _ = _; rw [len8, hTl]; rfl
      clear hT hTl
      go_wp2_with fail
      refine (sum_any _ key w2 (hG.kept hkw2) (Bytes.at_ (HX.out.kept hkw2) hl (by omega) hcm) (by omega)).mono ?_
      rintro e w3 ⟨rfl, hk3⟩
      rw [HT.out _ rfl]
      have hb23 := hb2.kept hk3
      have hkw3 := hkw2.trans hk3
      have hsz3 := hk3.size
      have hszw := hkw3.size
      clear hk3 hb2 hkw2 HT
      go_wp2_with ((with_reducible show wpList _ _ _ _ _ _); (first
        | ((with_reducible refine wpl_alloc (o := ⟨some 6, _, _, _, _, _⟩) _ rfl 24 rfl z32 sum_zero ?_); intro w4 hb4 hs4 hk4; clear hs4; have hb24 := hb23.kept hk4; have hkw4 := hkw3.trans hk4)
        | ((with_reducible refine wpl_store_row (o := ⟨none, _, _, _, _, _⟩) _ rfl 24 (.tmp 6) (.tmp 27) rfl w3.heap.size (cells8 T) ?hp4 ?hv4 24 z32 hb4 hi32.out hz32.out (cells8_one _) ?_); (case hp4 => rfl); (case hv4 => rfl); intro w5 hb5 hk5 hs5; clear hs5; have hb25 := hb24.keep hk5 (by omega); have hkw5 := Kept.trans' hkw4 hk5 (by omega); have hX5 : Hid (R8 w5 (some ⟨w3.heap.size, 0, none⟩) T) := hb5.r8)
        | ((with_reducible refine wpl_copy8o (o := ⟨some 30, _, _, _, _, _⟩) _ rfl (.tmp 28) (.tmp 29) rfl gk 0 64 64 (some ⟨w3.heap.size, 0, none⟩) 32 32 ?hd ?hs z64v 5 hb25 T hmin.out hX5.out hfit.out ?_); (case hd => rfl); (case hs => rfl); intro w6 hb6 hk6 hs6; clear hs6; rw [hks.out] at hb6; have hkw6 := Kept.trans' hkw5 hk6 (by omega))))
      go_meet
      case rel => exact ⟨hb6, hkw6⟩
    · have hks : Hid (splice z64v 0 (cells8 key) = cells8 K) := by
        show _ = _
        have := hl.out
        rw [splice_pad, HK.out, padK, short, if_neg (by omega)]
      have hmin : Hid (key.length = Nat.min n 64) := by show _ = _; rw [hl.out]; exact (Nat.min_eq_left (by omega)).symm
      have hfit : Hid (0 + key.length ≤ z64v.length) := by show _ ≤ _; rw [hl.out]; simp [z64v]; omega
      have hX2 : Hid (R8 w2 A key) := HX.out.kept hkw2
      go_wp2_with ((with_reducible show wpList _ _ _ _ _ _); ((with_reducible refine wpl_copy8o (o := ⟨some 33, _, _, _, _, _⟩) _ rfl (.tmp 31) (.tmp 32) rfl gk 0 64 64 A n c ?hd ?hs z64v 5 hb2 key hmin.out hX2.out hfit.out ?_); (case hd => rfl); (case hs => rfl); intro w3 hb3 hk3 hs3; clear hs3; rw [hks.out] at hb3; have hkw3 := Kept.trans' hkw2 hk3 (by omega)))
      go_meet
      case rel => exact ⟨hb3, hkw3⟩
  case rest =>
    obtain ⟨hbk, hkc⟩ := hcut
    clear hb2 hkw2 hs2
    have hKl : K.length = 64 := by rw [hK, padK_length]
    have HKL := Lib.hid hKl
    have HK := Lib.hid hK
    clear hK hKl
    have hltc := hbk.lt
    obtain ⟨L, hL⟩ : ∃ L, L = wc.heap.size := ⟨_, rfl⟩
    have hLw : w.heap.size ≤ L := by have := hkc.size; omega
    rw [← hL] at hltc
    go_wp2_with fail
    go_loopw [7, 8, 36] (fun vi vo i wr => ∃ (k : Nat) (Ai Ao : Option Addr) (ci co : Nat), k ≤ 64 ∧ i = .int .i64 k ∧ vi = .slice Ai k ci ∧ vo = .slice Ao k co ∧ Own8 wr L Ai k ci (xb 54 (K.take k)) ∧ Own8 wr L Ao k co (xb 92 (K.take k)) ∧ (k = 0 → Ao = none) ∧ Blk wr gk 5 (cells8 K) ∧ Kept w wr ∧ L ≤ wr.heap.size) (fun _ _ i _ => 64 - (intOf i).toNat)
    case atStart => exact ⟨0, none, none, 0, 0, Nat.zero_le _, rfl, rfl, rfl, Own8.nil _ _, Own8.nil _ _, fun _ => rfl, hbk, hkc, by omega⟩
    case round =>
      obtain ⟨k, Ai, Ao, ci, co, hk, rfl, rfl, rfl, hoi, hoo, h00, hbk, hkr, hLr⟩ := hrel
      clear hkc hL
      by_cases hlt : k < 64
      · have hkK : k < K.length := by rw [HKL.out]; exact hlt
        have ck : wr.cell? ⟨gk, k, none⟩ = some (.int .u8 ((K.getD k 0).toNat : Int)) := by
          rw [hbk.cell, cells8, List.getElem?_map, List.getElem?_eq_getElem hkK, List.getD_eq_getElem?_getD, List.getElem?_eq_getElem hkK]
          rfl
        have e54 := Lib.hid (xb_take 54 K k hkK)
        have e92 := Lib.hid (xb_take 92 K k hkK)
        have hap : Hid (∀ a b, Ai = some a → Ao = some b → a.block ≠ b.block) := by
          intro a b ea eb
          by_cases h0 : k = 0
          · rw [h00 h0] at eb; cases eb
          · exact own_apart hoi hoo (xb_head 54 K k (by omega) (by omega)) (xb_head 92 K k (by omega) (by omega)) (pads_ne _) a b ea eb
        have hap2 : Hid (∀ (w' : World) (A' : Option Addr) (c' : Nat), Own8 w' L A' (k + 1) c' (xb 54 (K.take (k + 1))) → Own8 w' L Ao k co (xb 92 (K.take k)) → ∀ a b, A' = some a → Ao = some b → a.block ≠ b.block) := by
          intro w' A' c' h1 h2 a b ea eb
          by_cases h0 : k = 0
          · rw [h00 h0] at eb; cases eb
          · exact own_apart h1 h2 (xb_head 54 K (k + 1) (by omega) (by omega)) (xb_head 92 K k (by omega) (by omega)) (pads_ne _) a b ea eb
        generalize hx : K.getD k 0 = x at ck e54 e92
        clear hx
        have x54 : bits .xor .u8 (x.toNat : Int) 54 = ((x ^^^ 54).toNat : Int) := xor8 x 54
        have x92 : bits .xor .u8 (x.toNat : Int) 92 = ((x ^^^ 92).toNat : Int) := xor8 x 92
        have R1 : Hid (R8 (wr.alloc (.cells #[.int .u8 (bits .xor .u8 (x.toNat : Int) 54)] 5)) (some ⟨wr.heap.size, 0, none⟩) [x ^^^ 54]) := one8 wr (x ^^^ 54) _ x54
        have kk1 : Kept wr (wr.alloc (.cells #[.int .u8 (bits .xor .u8 (x.toNat : Int) 54)] 5)) := (Keep.refl _ wr).alloc _
        have O1 : Hid (Own8 (wr.alloc (.cells #[.int .u8 (bits .xor .u8 (x.toNat : Int) 54)] 5)) L Ai k ci (xb 54 (K.take k))) := hoi.kept kk1
        have B1 : Hid (L ≤ (wr.alloc (.cells #[.int .u8 (bits .xor .u8 (x.toNat : Int) 54)] 5)).heap.size) := Nat.le_trans hLr kk1.size
        have HLM : Hid (k + 1 ≤ 140737488355328) := by show _ ≤ _; omega
        have HKK := Lib.hid kk1
        have HX92 := Lib.hid x92
        clear x54 x92 kk1 hoi
        generalize hI : xb 54 (K.take k) = I at O1 e54
        generalize hO : xb 92 (K.take k) = O at hoo e92 hap2
        clear hI hO
        go_wp2_with ((with_reducible show wpList _ _ _ _ _ _); (first
          | ((with_reducible refine wpl_append_own8 (o := ⟨some 44, _, _, _, _, _⟩) _ ?hw (.tmp 40) (.tmp 43) rfl L k ci Ai I ?hs O1.out B1.out (some ⟨wr.heap.size, 0, none⟩) 1 1 [x ^^^ 54] ?hx rfl R1.out (fun h => by cases h) HLM.out ?_); (case hw => rfl); (case hs => rfl); (case hx => rfl); intro w2 A2 c2 ho2 hk2;
             rw [e54.out] at ho2; have hoo2 := (hoo.kept HKK.out).keep hk2 (fun ad e ⟨a, ea, eb⟩ => hap.out a ad ea e eb); have R2 : Hid (R8 (w2.alloc (.cells #[.int .u8 (bits .xor .u8 (x.toNat : Int) 92)] 5)) (some ⟨w2.heap.size, 0, none⟩) [x ^^^ 92]) := one8 w2 (x ^^^ 92) _ HX92.out; have kk2 : Kept w2 (w2.alloc (.cells #[.int .u8 (bits .xor .u8 (x.toNat : Int) 92)] 5)) := (Keep.refl _ w2).alloc _; have O2 : Hid (Own8 (w2.alloc (.cells #[.int .u8 (bits .xor .u8 (x.toNat : Int) 92)] 5)) L Ao k co O) := hoo2.kept kk2; have B2 : Hid (L ≤ (w2.alloc (.cells #[.int .u8 (bits .xor .u8 (x.toNat : Int) 92)] 5)).heap.size) := Nat.le_trans (Nat.le_trans B1.out hk2.size) kk2.size; have HKK2 := Lib.hid kk2; clear kk2)
          | ((with_reducible refine wpl_append_own8 (o := ⟨some 49, _, _, _, _, _⟩) _ ?hw2 (.tmp 45) (.tmp 48) rfl L k co Ao O ?hs2 O2.out B2.out (some ⟨w2.heap.size, 0, none⟩) 1 1 [x ^^^ 92] ?hx2 rfl R2.out (fun h => by cases h) HLM.out ?_); (case hw2 => rfl); (case hs2 => rfl); (case hx2 => rfl); intro w3 A3 c3 ho3 hk3; rw [e92.out] at ho3)))
        have hoi3 := (ho2.kept HKK2.out).keep hk3 (fun ad e ⟨a, ea, eb⟩ => hap2.out _ _ _ (ho2.kept HKK2.out) (hoo2.kept HKK2.out) ad a e ea eb.symm)
        have hbk2 := (hbk.kept HKK.out).keep hk2 (fun ⟨a, ea, eb⟩ => by have := (O1.out.at_ a ea).1; omega)
        have hbk3 := (hbk2.kept HKK2.out).keep hk3 (fun ⟨a, ea, eb⟩ => by have := (O2.out.at_ a ea).1; omega)
        have hkw2 : Kept w w2 := Keep.trans (Kept.trans hkr HKK.out) hk2 (fun i hi ⟨a, ea, eb⟩ => by have := (O1.out.at_ a ea).1; omega)
        have hkw3 : Kept w w3 := Keep.trans (Kept.trans hkw2 HKK2.out) hk3 (fun i hi ⟨a, ea, eb⟩ => by have := (O2.out.at_ a ea).1; omega)
        exact ⟨⟨k + 1, A2, A3, c2, c3, by omega, by go_num, rfl, rfl, hoi3, ho3, fun h => by omega, hbk3, hkw3, Nat.le_trans B2.out hk3.size⟩, by simp [intOf]; omega⟩
      · obtain rfl : k = 64 := by omega
        rw [List.take_of_length_le (by rw [HKL.out]; omega)] at hoi hoo
        obtain ⟨T, hT⟩ : ∃ T, T = shaOf (xb 54 K ++ bs) := ⟨_, rfl⟩
        have HT : Hid (∀ t, t = shaOf (xb 54 K ++ bs) → t = T) := fun t h => h.trans hT.symm
        obtain ⟨S, hS⟩ : ∃ S, S = hmac key bs := ⟨_, rfl⟩
        have HS : Hid (∀ t, t = shaOf (xb 92 K ++ T) → t = S) := fun t h => by rw [h, hS, hmac, hT, HK.out]
        have HSh : Hid (∀ t, t = hmac key bs → t = S) := fun t h => h.trans hS.symm
        have hTl : T.length = 32 := by rw [hT, shaOf_length]
        have hq := eq_same S (by rw [hS, hmac_length])
        have HTL := Lib.hid hTl
        have hiT : Hid ((Tryd.prog.info? 24).map (·.size) = some (cells8 T).length) := by show _ = _; rw [len8, hTl]; exact sum_size
        have hzT : Hid (z32.length = (cells8 T).length) := by show _ = _; rw [len8, hTl]; rfl
        have hap := own_apart hoi hoo (x := K[0]'(by rw [HKL.out]; omega) ^^^ 54) (y := K[0]'(by rw [HKL.out]; omega) ^^^ 92) (by have := xb_head 54 K 64 (by omega) (by rw [HKL.out]; omega); rwa [List.take_of_length_le (by rw [HKL.out]; omega)] at this) (by have := xb_head 92 K 64 (by omega) (by rw [HKL.out]; omega); rwa [List.take_of_length_le (by rw [HKL.out]; omega)] at this) (pads_ne _)
        have HAP := Lib.hid hap
        have HI := Lib.hid hoi
        have HO := Lib.hid hoo
        have HLr := Lib.hid hLr
        have hYr : Hid (R8 wr B bs) := HY.out.kept hkr
        have hlim : Hid (64 + m ≤ 140737488355328) := by show _ ≤ _; omega
        have hlI : Hid ((xb 54 K).length = 64) := by show _ = _; rw [xb_length, HKL.out]
        have hlO : Hid ((xb 92 K).length = 64) := by show _ = _; rw [xb_length, HKL.out]
        clear hT hS hTl hoi hoo hap hLr h00 hbk
        generalize xb 54 K = I at HT HI hlI
        generalize xb 92 K = O at HS HO hlO
        go_wp2_with ((with_reducible show wpList _ _ _ _ _ _); ((with_reducible refine wpl_append_own8 (o := ⟨some 53, _, _, _, _, _⟩) _ ?hw (.tmp 51) (.tmp 52) rfl L 64 ci Ai I ?hs HI.out HLr.out B m d bs ?hx hl'.out hYr.out HB.out hlim.out ?_); (case hw => rfl); (case hs => rfl); (case hx => rfl); intro w4 A4 c4 ho4 hk4))
        have hoo4 := HO.out.keep hk4 (fun ad e ⟨a, ea, eb⟩ => HAP.out a ad ea e eb)
        have hkw4 : Kept w w4 := Keep.trans hkr hk4 (fun i hi ⟨a, ea, eb⟩ => by have := (HI.out.at_ a ea).1; omega)
        have hLr4 := Nat.le_trans HLr.out hk4.size
        have hG4 := hG.kept hkw4
        clear hk4 hkr HI HO HAP HLr hYr
        refine (sum_any _ (I ++ bs) w4 hG4 (Bytes.at_ ho4.r8 (by show _ = _; rw [List.length_append, hlI.out, hl'.out]) ho4.cap.1 ho4.cap.2.1) (by rw [List.length_append, hlI.out]; omega)).mono ?_
        rintro e w5 ⟨rfl, hk5⟩
        rw [HT.out _ rfl]
        have hoo5 := hoo4.kept hk5
        have hkw5 := hkw4.trans hk5
        have hsz5 := hkw5.size
        have hLr5 := Nat.le_trans hLr4 hk5.size
        clear hk5 hoo4 hkw4 ho4 HT hG4 hLr4
        go_wp2_with ((with_reducible show wpList _ _ _ _ _ _); (first
          | ((with_reducible refine wpl_alloc (o := ⟨some 11, _, _, _, _, _⟩) _ rfl 24 rfl z32 sum_zero ?_); intro w6 hb6 hs6 hk6; clear hs6; have hoo6 := hoo5.kept hk6; have hkw6 := hkw5.trans hk6)
          | ((with_reducible refine wpl_store_row (o := ⟨none, _, _, _, _, _⟩) _ rfl 24 (.tmp 11) (.tmp 54) rfl w5.heap.size (cells8 T) ?hp5 ?hv5 24 z32 hb6 hiT.out hzT.out (cells8_one _) ?_); (case hp5 => rfl); (case hv5 => rfl); intro w7 hb7 hk7 hs7; clear hs7; have hoo7 := hoo6.keep hk7 (fun ad e h => by have := (hoo5.at_ ad e).2; omega); have hkw7 := Kept.trans' hkw6 hk7 (by omega); have hLr7 := Nat.le_trans (Nat.le_trans hLr5 hk6.size) hk7.size)))
        have hX7 := hb7.r8
        have hG7 := hG.kept hkw7
        clear hoo5 hoo6 hkw5 hkw6 hb6 hk6 hk7 hb7 hLr5
        simp only [Act.put, List.setIfInBounds_toArray, List.set_cons_succ, List.set_cons_zero]
        refine wp_class_tail (C := fun u => Kept w7 u) 5 (by kernel_rfl) (by kernel_rfl) (Keep.drew (Kept.refl w7)) ?_
        simp only [List.take_succ_cons, List.take_zero, List.drop_succ_cons, List.drop_zero]
        refine q_val (.slice A n c) (by kernel_rfl) (fun u hu => exec_move (.tmp 0) (.slice A n c) rfl (by kernel_rfl)) ?_
        simp only [Act.put, List.setIfInBounds_toArray, List.set_cons_succ, List.set_cons_zero]
        refine q_val (.slice B m d) (by kernel_rfl) (fun u hu => exec_move (.tmp 1) (.slice B m d) rfl (by kernel_rfl)) ?_
        simp only [Act.put, List.setIfInBounds_toArray, List.set_cons_succ, List.set_cons_zero]
        refine q_call (.agg (cells8 S).toArray) 8 #[.slice A n c, .slice B m d] (by kernel_rfl) (exec_call 8 _ [.tmp 55, .tmp 56] _ _ Tryd.func8 (by kernel_rfl) (by kernel_rfl) rfl (by kernel_rfl)) (fun u hu => (tagf_any _ _ key bs u (hG7.kept hu) ⟨A, n, c, rfl, hl, HX.out.kept (hkw7.trans hu), by omega, hcm, HA.out⟩ ⟨B, m, d, rfl, hl', HY.out.kept (hkw7.trans hu), by omega, hdm, HB.out⟩ (by omega) hyl).mono fun e w' ⟨h1, h2⟩ => ⟨by rw [h1, HSh.out _ rfl], Kept.trans hu h2⟩) ?_
        simp only [Act.put, List.setIfInBounds_toArray, List.set_cons_succ, List.set_cons_zero]
        refine q_val (.slice Ao 64 co) (by kernel_rfl) (fun u hu => exec_move (.tmp 8) (.slice Ao 64 co) rfl (by kernel_rfl)) ?_
        simp only [Act.put, List.setIfInBounds_toArray, List.set_cons_succ, List.set_cons_zero]
        refine q_val (.slice (some ⟨w5.heap.size, 0, none⟩) 32 32) (by kernel_rfl) (fun u hu => exec_slice_sum (.tmp 11) w5.heap.size rfl (by kernel_rfl)) ?_
        simp only [Act.put, List.setIfInBounds_toArray, List.set_cons_succ, List.set_cons_zero]
        refine wpQuiet_nil ?_
        intro w8 hk8
        have hkw8 := hkw7.trans hk8
        have hoo8 := hoo7.kept hk8
        have hX8 := hX7.kept hk8
        have hLr8 : Hid (L ≤ w8.heap.size) := Nat.le_trans hLr7 hk8.size
        have hlim2 : Hid (64 + 32 ≤ 140737488355328) := by show _ ≤ _; omega
        have HO8 := Lib.hid hoo8
        have HX8 := Lib.hid hX8
        clear hk8 hoo7 hX7 hkw7 hG7 hoo8 hX8 hLr7
        go_wp2_with ((with_reducible show wpList _ _ _ _ _ _); ((with_reducible refine wpl_append_own8 (o := ⟨some 60, _, _, _, _, _⟩) _ ?hw9 (.tmp 58) (.tmp 59) rfl L 64 co Ao O ?hs9 HO8.out hLr8.out (some ⟨w5.heap.size, 0, none⟩) 32 32 T ?hx9 HTL.out HX8.out (fun h => by cases h) hlim2.out ?_); (case hw9 => rfl); (case hs9 => rfl); (case hx9 => rfl); intro w9 A9 c9 ho9 hk9))
        have hkw9 : Kept w w9 := Keep.trans hkw8 hk9 (fun i hi ⟨a, ea, eb⟩ => by have := (HO8.out.at_ a ea).1; omega)
        have hG9 := hG.kept hkw9
        clear hk9 hkw8 HO8 HX8
        refine (sum_any _ (O ++ T) w9 hG9 (Bytes.at_ ho9.r8 (by show _ = _; rw [List.length_append, hlO.out, HTL.out]) ho9.cap.1 ho9.cap.2.1) (by rw [List.length_append, hlO.out, HTL.out]; omega)).mono ?_
        rintro e w10 ⟨rfl, hk10⟩
        rw [HS.out _ rfl]
        have hkw10 := hkw9.trans hk10
        have hG10 := hG.kept hkw10
        clear hk10 hkw9 hG9 ho9 HS
        go_wp2_with fail
        refine (macRuns_any _ hG10).mono ?_
        rintro e w11 ⟨rfl, hk11⟩
        have hkz := Kept.trans hkw10 hk11
        go_wp2
        go_ret
        exact ⟨rfl, hkz⟩
end Go.Proofs.YthadjcgebnlpiaaDoor
