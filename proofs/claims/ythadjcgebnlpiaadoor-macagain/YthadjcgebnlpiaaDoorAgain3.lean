/-
  The walk of jobberlaw3.MacAgain. No condition but the tables' contents.
-/
import Derived.Test.YthadjcgebnlpiaaDoorShape3
import Derived.Test.YthadjcgebnlpiaaDoorWithin
namespace Go.Proofs.YthadjcgebnlpiaaDoor
open Go.RowKit
set_option linter.unusedVariables false

theorem lies_low {w : World} {v : Value} {xs : List UInt8} {g : Nat} (h : Bytes w v xs) (hg : w.heap.size ≤ g) : Lies 0 g v xs := fun ad n c e hne => ⟨Nat.zero_le _, by
  obtain ⟨A, n', c', e', _, hR, _⟩ := h
  rw [e] at e'
  injection e' with e1
  subst e1
  have := hR.lt hne
  omega⟩
theorem own_cell {w : World} {base n c k : Nat} {A : Option Addr} {xs : List UInt8} (h : Own8 w base A n c xs) (hk : k < n) : ∃ g, A = some ⟨g, 0, none⟩ ∧ base ≤ g ∧ w.cell? ⟨g, k, none⟩ = some (.int .u8 ((xs.getD k 0).toNat : Int)) ∧ w.frozen? ⟨g, k, none⟩ = false ∧ (∀ y : UInt8, Own8 (w.setCell ⟨g, k, none⟩ (.int .u8 (y.toNat : Int))) base A n c (xs.set k y)) := by
  rcases h with ⟨_, e, _⟩ | ⟨g, e1, hb, hl, r⟩
  · omega
  refine ⟨g, e1, hb, ?_, ?_, ?_⟩
  · obtain ⟨ad, e, hc⟩ := r.r8 k (xs.getD k 0) (by rw [List.getD_eq_getElem?_getD, List.getElem?_eq_getElem (by omega)]; rfl)
    injection e with e
    subst e
    rw [add_lit] at hc
    exact hc
  · obtain ⟨rest, hb, _⟩ := r
    exact hb.frozen k
  · intro y
    obtain ⟨rest, hb', h2⟩ := r
    refine .inr ⟨g, e1, hb, by rw [List.length_set]; exact hl, rest, ?_, by rw [List.length_set]; exact h2⟩
    have h3 := hb'.set_ k (.int .u8 (y.toNat : Int))
    rw [List.set_append_left _ _ (by rw [len8]; omega)] at h3
    have e : (cells8 xs).set k (.int .u8 (y.toNat : Int)) = cells8 (xs.set k y) := by simp [cells8, List.map_set]
    rw [e] at h3
    exact h3

set_option maxRecDepth 100000 in
set_option maxHeartbeats 1600000 in
theorem macAgain_any (v1 v2 v3 : Value) (xs0 ys0 zs0 : List UInt8) (more : Int) (w : World) (hG : Glob w) (h1 : Bytes w v1 xs0) (h2 : Bytes w v2 ys0) (h3 : Bytes w v3 zs0) :
    Calls Tryd.prog 6 #[v1, v2, v3, .int .i64 more] w fun e w' => e = .returned (.bool true) ∧ Kept w w' := by
  obtain ⟨A, n1, c, rfl, hl1, hx1, hnc, hc, hA⟩ := h1
  obtain ⟨B, n2, d, rfl, hl2, hx2, hnd, hd, hB⟩ := h2
  obtain ⟨D, n3, e2, rfl, hl3, hx3, hne, he, hD⟩ := h3
  have hcm := hc
  have hdm := hd
  have hem := he
  unfold maxLen at hc hd he
  obtain ⟨n, hn⟩ : ∃ m, m = min n1 64 := ⟨_, rfl⟩
  obtain ⟨m, hm⟩ : ∃ k, k = min n2 80 := ⟨_, rfl⟩
  obtain ⟨l, hll⟩ : ∃ k, k = min n3 80 := ⟨_, rfl⟩
  have hn64 : n ≤ 64 := by omega
  have hn1 : n ≤ n1 := by omega
  have hm80 : m ≤ 80 := by omega
  have hm2 : m ≤ n2 := by omega
  have hl80 : l ≤ 80 := by omega
  have hl3' : l ≤ n3 := by omega
  have hmin : (if (64 : Int) < (n1 : Int) then (64 : Int) else (n1 : Int)) = (n : Int) := by split <;> omega
  have kmin : (if (80 : Int) < (n2 : Int) then (80 : Int) else (n2 : Int)) = (m : Int) := by split <;> omega
  have lmin : (if (80 : Int) < (n3 : Int) then (80 : Int) else (n3 : Int)) = (l : Int) := by split <;> omega
  have hl : Hid ((xs0.take n).length = n) := by show _ = _; rw [List.length_take, hl1.out]; omega
  have hl' : Hid ((ys0.take m).length = m) := by show _ = _; rw [List.length_take, hl2.out]; omega
  have hl'' : Hid ((zs0.take l).length = l) := by show _ = _; rw [List.length_take, hl3.out]; omega
  have hx := hx1.take2 n
  have hy := hx2.take2 m
  have hz := hx3.take2 l
  generalize xs0.take n = key at hl hx
  generalize ys0.take m = bs at hl' hy
  generalize zs0.take l = zs at hl'' hz
  have hkl : key.length ≤ 64 := by rw [hl.out]; omega
  have hal : bs.length ≤ 80 := by rw [hl'.out]; omega
  have hzl : zs.length ≤ 80 := by rw [hl''.out]; omega
  have HBk0 : Hid (Bytes w (.slice A n c) key) := ⟨A, n, c, rfl, hl, hx, by omega, hcm, hA⟩
  have HBa0 : Hid (Bytes w (.slice B m d) bs) := ⟨B, m, d, rfl, hl', hy, by omega, hdm, hB⟩
  have HBd0 : Hid (Bytes w (.slice D l e2) zs) := ⟨D, l, e2, rfl, hl'', hz, by omega, hem, hD⟩
  have HX := Lib.hid hx
  have HA := Lib.hid hA
  clear hn hm hll hl1 hl2 hl3 hx1 hx2 hx3 hx hy hz hA hB hD
  obtain ⟨X, hX⟩ : ∃ X, X = hmac key bs := ⟨_, rfl⟩
  obtain ⟨Y, hY⟩ : ∃ Y, Y = hmac key zs := ⟨_, rfl⟩
  have HSX : Hid (∀ t, t = hmac key bs → t = X) := fun t h => h.trans hX.symm
  have HSY : Hid (∀ t, t = hmac key zs → t = Y) := fun t h => h.trans hY.symm
  have HSZ0 : Hid (∀ j, key.length + j ≤ 64 → ∀ t, t = hmac (key ++ List.replicate j 0) bs → t = X) := fun j hj t h => by rw [h, hmac_zeros key bs j hj, hX]
  have hXl : X.length = 32 := by rw [hX, hmac_length]
  have hYl : Y.length = 32 := by rw [hY, hmac_length]
  have HXL := Lib.hid hXl
  have HYL := Lib.hid hYl
  have hiX : Hid ((Tryd.prog.info? 24).map (·.size) = some (cells8 X).length) := by show _ = _; rw [len8, hXl]; exact sum_size
  have hzX : Hid (z32.length = (cells8 X).length) := by show _ = _; rw [len8, hXl]; rfl
  have hiY : Hid ((Tryd.prog.info? 24).map (·.size) = some (cells8 Y).length) := by show _ = _; rw [len8, hYl]; exact sum_size
  have hzY : Hid (z32.length = (cells8 Y).length) := by show _ = _; rw [len8, hYl]; rfl
  clear hX hY hXl hYl
  go_enter Tryd.func6, Tryd.ntmps6
  go_wp2_with fail
  go_quiet (fail)
  have hk0 : Kept w (w.drewN nq) := kept_drewN w nq
  generalize w.drewN nq = w0 at hk0 ⊢
  clear hmin kmin lmin
  have hsz0 := hk0.size
  -- own
  have HO0 := Lib.hid (own8_empty w0)
  have hke : Kept w0 (w0.alloc (.cells #[] 5)) := (Keep.refl _ w0).alloc _
  have HR0 : Hid (R8 (w0.alloc (.cells #[] 5)) A key) := (HX.out.kept hk0).kept hke
  have HE0 : Hid (w0.heap.size ≤ (w0.alloc (.cells #[] 5)).heap.size) := hke.size
  have HLM : Hid (0 + n ≤ 140737488355328) := by show _ ≤ _; omega
  go_wp2_with ((with_reducible show wpList _ _ _ _ _ _); ((with_reducible refine wpl_append_own8 (o := ⟨some 33, _, _, _, _, _⟩) _ ?hw (.tmp 31) (.tmp 32) rfl w0.heap.size 0 0 (some ⟨w0.heap.size, 0, none⟩) [] ?hs HO0.out HE0.out A n c key ?hx hl.out HR0.out HA.out HLM.out ?_); (case hw => rfl); (case hs => rfl); (case hx => rfl); intro w1 Ao co ho1 hk1))
  rw [List.nil_append, Nat.zero_add] at ho1
  have hkw1 : Kept w w1 := Keep.trans (Kept.trans hk0 hke) hk1 (fun i hi ⟨a, ea, eb⟩ => by injection ea with ea; subst ea; have : w0.heap.size = i := eb; omega)
  have hG1 := hG.kept hkw1
  clear HO0 hke HR0 HE0 hk1 hk0
  refine (macnew_any _ key w1 hG1 ho1.bytes (by omega)).mono ?_
  rintro e w2 ⟨g, rfl, hm2, hk2⟩
  obtain ⟨base, hbase⟩ : ∃ base, base = w1.heap.size := ⟨_, rfl⟩
  have hbw : w.heap.size ≤ base := by have := hkw1.size; omega
  have hob : Hid (∀ ad, Ao = some ad → ad.block < base) := fun ad e => by have := (ho1.at_ ad e).2; omega
  rw [← hbase] at hm2
  have hkw2 := hkw1.trans hk2
  have ho2 := ho1.kept hk2
  have hG2 := hG.kept hkw2
  have h2b := hm2.two
  have hgb := hm2.le
  have hlA : Hid (Lies 0 g (.slice A n c) key) := lies_low HBk0.out (by omega)
  have hlB : Hid (Lies 0 g (.slice B m d) bs) := lies_low HBa0.out (by omega)
  have hlD : Hid (Lies 0 g (.slice D l e2) zs) := lies_low HBd0.out (by omega)
  clear hk2 hkw1 hG1 ho1
  go_wp2_with fail
  refine (tag_any g base key _ bs w2 hG2 hm2 (HBa0.out.kept hkw2) hlB.out (by omega) (by omega)).mono ?_
  rintro e w3 ⟨rfl, hm3, hk3⟩
  rw [HSX.out _ rfl]
  have hkw3 : Kept w w3 := Kept.trans' hkw2 hk3 (by omega)
  have ho3 := ho2.keep hk3 (fun ad e => by have := hob.out ad e; omega)
  have hglt3 := hm3.lt
  clear hm2 hk3 hkw2 hG2 ho2
  go_wp2_with ((with_reducible show wpList _ _ _ _ _ _); (first
    | ((with_reducible refine wpl_alloc (o := ⟨some 11, _, _, _, _, _⟩) _ rfl 24 rfl z32 sum_zero ?_); intro w4 hb4 hs4 hk4; clear hs4; have ho4 := ho3.kept hk4; have hkw4 := hkw3.trans hk4; have hm4 := hm3.kept hk4)
    | ((with_reducible refine wpl_store_row (o := ⟨none, _, _, _, _, _⟩) _ rfl 24 (.tmp 11) (.tmp 40) rfl w3.heap.size (cells8 X) ?hp5 ?hv5 24 z32 hb4 hiX.out hzX.out (cells8_one _) ?_); (case hp5 => rfl); (case hv5 => rfl); intro w5 hb5 hk5 hs5; clear hs5)))
  obtain ⟨gx, hgx⟩ : ∃ gx, gx = w3.heap.size := ⟨_, rfl⟩
  have hk35 : Kept w3 w5 := Kept.trans' hk4 hk5 (by omega)
  have hm5 := hm3.kept hk35
  have ho5 := ho3.kept hk35
  have hkw5 := hkw3.trans hk35
  rw [← hgx] at hb5 hglt3 ⊢
  clear hk35 hk4 hk5 hb4 ho4 hkw4 hm4 hm3 ho3 hkw3 hgx hbase
  obtain ⟨lo, hlo⟩ : ∃ lo, lo = w0.heap.size := ⟨_, rfl⟩
  rw [← hlo] at ho5 hsz0
  go_loopw [43] (fun v wr => ∃ (k : Nat) (qs : List UInt8), k ≤ n ∧ v = .int .i64 k ∧ Own8 wr lo Ao n co qs ∧ MS wr g base key ∧ Blk wr gx 24 (cells8 X) ∧ Kept w wr) (fun v _ => n - (intOf v).toNat)
  case atStart => exact ⟨0, key, Nat.zero_le _, rfl, ho5, hm5, hb5, hkw5⟩
  case round =>
    obtain ⟨k, qs, hk, rfl, ho, hmr, hbx, hkr⟩ := hrel
    clear ho5 hm5 hb5 hkw5
    by_cases hlt : k < n
    · obtain ⟨go, eAo, hbo, cc, fc, hset⟩ := own_cell ho hlt
      have hgob := hob.out _ eAo
      have hgob' : go < base := hgob
      generalize qs.getD k 0 = y at cc
      have xy : bits .xor .u8 (y.toNat : Int) 1 = ((y ^^^ 1).toNat : Int) := xor8 y 1
      have R1 := hset (y ^^^ 1)
      rw [← xy] at R1
      have hkset : Keep (· = go) wr (wr.setCell ⟨go, k, none⟩ (.int .u8 (bits .xor .u8 (y.toNat : Int) 1))) := Keep.setCell (S := (· = go)) (Keep.refl _ wr) (p := ⟨go, k, none⟩) (fun _ => rfl) _
      have R2 := hmr.keep hkset (fun i h => by omega)
      have R3 := hbx.keep hkset (by omega)
      have R4 : Kept w (wr.setCell ⟨go, k, none⟩ (.int .u8 (bits .xor .u8 (y.toNat : Int) 1))) := Kept.trans' hkr hkset (by omega)
      have HR := Lib.hid (And.intro R1 (And.intro R2 (And.intro R3 R4)))
      clear R1 R2 R3 R4 hkset xy hset ho hmr hbx hkr hgob
      subst eAo
      go_wp2
      exact ⟨⟨k + 1, _, by omega, by go_num, HR.out.1, HR.out.2.1, HR.out.2.2.1, HR.out.2.2.2⟩, by simp [intOf]; omega⟩
    · obtain rfl : k = n := by omega
      clear ho hob
      have hGr0 := hG.kept hkr
      go_wp2_with fail
      refine (tag_any g base key _ zs wr hGr0 hmr (HBd0.out.kept hkr) hlD.out (by omega) (by omega)).mono ?_
      rintro e w6 ⟨rfl, hm6, hk6⟩
      rw [HSY.out _ rfl]
      have hkw6 : Kept w w6 := Kept.trans' hkr hk6 (by omega)
      have hbx6 := hbx.keep hk6 (by omega)
      have hglt6 := hm6.lt
      have hxlt6 := hbx6.lt
      clear hmr hk6 hkr hGr0 hbx
      go_upto_region 13 with ((with_reducible show wpList _ _ _ _ _ _); (first
        | ((with_reducible refine wpl_alloc (o := ⟨some 13, _, _, _, _, _⟩) _ rfl 24 rfl z32 sum_zero ?_); intro w7 hb7 hs7 hk7; clear hs7)
        | ((with_reducible refine wpl_store_row (o := ⟨none, _, _, _, _, _⟩) _ rfl 24 (.tmp 13) (.tmp 55) rfl w6.heap.size (cells8 Y) ?hp8 ?hv8 24 z32 hb7 hiY.out hzY.out (cells8_one _) ?_); (case hp8 => rfl); (case hv8 => rfl); intro w8 hb8 hk8 hs8; clear hs8)))
      obtain ⟨gy, hgy⟩ : ∃ gy, gy = w6.heap.size := ⟨_, rfl⟩
      have hk68 : Kept w6 w8 := Kept.trans' hk7 hk8 (by omega)
      have hm8 := hm6.kept hk68
      have hbx8 := hbx6.kept hk68
      have hkw8 := hkw6.trans hk68
      rw [← hgy] at hb8 hglt6 hxlt6 ⊢
      clear hk68 hk7 hk8 hb7 hm6 hbx6 hkw6 hgy
      have hylt8 := hb8.lt
      have HO8 := Lib.hid (own8_empty w8)
      have hke : Kept w8 (w8.alloc (.cells #[] 5)) := (Keep.refl _ w8).alloc _
      have HR8 : Hid (R8 (w8.alloc (.cells #[] 5)) A key) := (HX.out.kept hkw8).kept hke
      have HE8 : Hid (w8.heap.size ≤ (w8.alloc (.cells #[] 5)).heap.size) := hke.size
      go_wp2_with ((with_reducible show wpList _ _ _ _ _ _); ((with_reducible refine wpl_append_own8 (o := ⟨some 58, _, _, _, _, _⟩) _ ?hw9 (.tmp 56) (.tmp 57) rfl w8.heap.size 0 0 (some ⟨w8.heap.size, 0, none⟩) [] ?hs9 HO8.out HE8.out A k c key ?hx9 hl.out HR8.out HA.out HLM.out ?_); (case hw9 => rfl); (case hs9 => rfl); (case hx9 => rfl); intro w9 Al cl ho9 hk9))
      rw [List.nil_append, Nat.zero_add] at ho9
      have hk89 : Kept w8 w9 := Keep.trans hke hk9 (fun i hi ⟨a, ea, eb⟩ => by injection ea with ea; subst ea; have : w8.heap.size = i := eb; omega)
      obtain ⟨lw, hlw⟩ : ∃ lw, lw = w8.heap.size := ⟨_, rfl⟩
      rw [← hlw] at ho9 hylt8
      have hlw9 : lw ≤ w9.heap.size := by have := hk89.size; omega
      clear HO8 hke HR8 HE8 hk9
      refine (within_nat more (64 - (k : Int)) w9 (by omega) (by omega)).mono ?_
      rintro e w10 ⟨t, rfl, ht, rfl⟩
      have htk : k + t ≤ 64 := by omega
      go_wp2_with fail
      go_loopw [14, 15] (fun vl i wr => ∃ (j r : Nat) (Al : Option Addr) (cl : Nat), j + r = t ∧ vl = .slice Al (k + j) cl ∧ i = .int .i64 (r : Int) ∧ Own8 wr lw Al (k + j) cl (key ++ List.replicate j 0) ∧ Kept w8 wr) (fun _ i _ => (intOf i).toNat)
      case atStart => exact ⟨0, t, Al, cl, by omega, rfl, rfl, by simpa using ho9, hk89⟩
      case round =>
        obtain ⟨j, r, Al, cl, hjr, rfl, rfl, hol, hk8r⟩ := hrel
        have hlr : lw ≤ wr.heap.size := by have := hk8r.size; omega
        clear ho9 hk89
        by_cases hr : 0 < r
        · have R1 : Hid (R8 (wr.alloc (.cells #[.int .u8 0] 5)) (some ⟨wr.heap.size, 0, none⟩) [0]) := one8 wr 0 0 rfl
          have kk1 : Kept wr (wr.alloc (.cells #[.int .u8 0] 5)) := (Keep.refl _ wr).alloc _
          have O1 : Hid (Own8 (wr.alloc (.cells #[.int .u8 0] 5)) lw Al (k + j) cl (key ++ List.replicate j 0)) := hol.kept kk1
          have B1 : Hid (lw ≤ (wr.alloc (.cells #[.int .u8 0] 5)).heap.size) := Nat.le_trans hlr kk1.size
          have HLM1 : Hid (k + j + 1 ≤ 140737488355328) := by show _ ≤ _; omega
          have HKK := Lib.hid kk1
          have er : Hid (key ++ List.replicate j 0 ++ [0] = key ++ List.replicate (j + 1) (0 : UInt8)) := by
            show _ = _
            rw [List.append_assoc, List.replicate_succ']
          have hk81 := hk8r.trans kk1
          clear kk1 hol hk8r
          generalize key ++ List.replicate j 0 = Z at O1 er
          go_wp2_with ((with_reducible show wpList _ _ _ _ _ _); ((with_reducible refine wpl_append_own8 (o := ⟨some 70, _, _, _, _, _⟩) _ ?hwa (.tmp 68) (.tmp 69) rfl lw (k + j) cl Al Z ?hsa O1.out B1.out (some ⟨wr.heap.size, 0, none⟩) 1 1 [0] ?hxa rfl R1.out (fun h => by cases h) HLM1.out ?_); (case hwa => rfl); (case hsa => rfl); (case hxa => rfl); intro w2 A2 c2 ho2 hk2))
          rw [er.out] at ho2
          have hal : ∀ i, (∃ ad, Al = some ad ∧ ad.block = i) → lw ≤ i := fun i ⟨a, ea, eb⟩ => by have := (O1.out.at_ a ea).1; omega
          exact ⟨⟨j + 1, r - 1, A2, c2, by omega, rfl, by rw [show ((r - 1 : Nat) : Int) = (r : Int) - 1 by omega], ho2, Keep.trans hk81 hk2 (fun i hi h => by have := hal _ h; omega)⟩, by simp [intOf]; omega⟩
        · obtain rfl : r = 0 := by omega
          have hmr := hm8.kept hk8r
          have hbx := hbx8.kept hk8r
          have hby := hb8.kept hk8r
          have hkr := hkw8.trans hk8r
          clear hm8 hbx8 hb8 hkw8 hk8r
          have HBk : Hid (Bytes wr (.slice A k c) key) := HBk0.out.kept hkr
          have HBa : Hid (Bytes wr (.slice B m d) bs) := HBa0.out.kept hkr
          have HBd : Hid (Bytes wr (.slice D l e2) zs) := HBd0.out.kept hkr
          have HBl : Hid (Bytes wr (.slice Al (k + j) cl) (key ++ List.replicate j 0)) := hol.bytes
          have hlL : Hid (Lies 0 g (.slice Al (k + j) cl) (key ++ List.replicate j 0)) := fun ad n' c' e hne => ⟨Nat.zero_le _, by injection e with e; have := (hol.at_ ad e).1; omega⟩
          have hkj : key.length + j ≤ 64 := by rw [hl.out]; omega
          have HSZ : Hid (∀ t, t = hmac (key ++ List.replicate j 0) bs → t = X) := HSZ0.out j hkj
          have HLL : Hid ((key ++ List.replicate j 0).length ≤ 900000) := by show _ ≤ _; simp; omega
          have hGr := hG.kept hkr
          clear HSZ0 hol
          go_wp2_with fail
          refine wp_class_tail (C := fun u => MS u g base key ∧ Keep (· = g) wr u) 22 (by kernel_rfl) (by kernel_rfl) ⟨hmr.kept (Keep.drew (Kept.refl wr)), Keep.drew (Keep.refl _ wr)⟩ ?_
          simp only [List.take_succ_cons, List.take_zero, List.drop_succ_cons, List.drop_zero]
          refine q_val (.pointer (some ⟨g, 0, none⟩)) (by kernel_rfl) (fun u hu => exec_move (.tmp 10) (.pointer (some ⟨g, 0, none⟩)) rfl (by kernel_rfl)) ?_
          simp only [Act.put, List.setIfInBounds_toArray, List.set_cons_succ, List.set_cons_zero]
          refine q_val (.slice B m d) (by kernel_rfl) (fun u hu => exec_move (.tmp 1) (.slice B m d) rfl (by kernel_rfl)) ?_
          simp only [Act.put, List.setIfInBounds_toArray, List.set_cons_succ, List.set_cons_zero]
          refine q_call (.agg (cells8 X).toArray) 11 #[.pointer (some ⟨g, 0, none⟩), .slice B m d] (by kernel_rfl) (exec_call 11 _ [.tmp 71, .tmp 72] _ _ Tryd.func11 (by kernel_rfl) (by kernel_rfl) rfl (by kernel_rfl)) (fun u hu => (tag_any g base key _ bs u (hGr.keep hu.2 (by omega) (by omega)) hu.1 (HBa.out.keep hu.2 (fun ad n c e hne => (hlB.out ad n c e hne).2)) hlB.out (by omega) (by omega)).mono fun e w' ⟨h1, h2, h3⟩ => ⟨by rw [h1, HSX.out _ rfl], h2, hu.2.trans h3 (fun _ _ h => h)⟩) ?_
          simp only [Act.put, List.setIfInBounds_toArray, List.set_cons_succ, List.set_cons_zero]
          refine q_val (.agg (cells8 X).toArray) (by kernel_rfl) (fun u hu => exec_load_row 24 (.tmp 11) gx 32 24 5 (cells8 X) rfl (by kernel_rfl) (hbx.keep hu.2 (by omega)) Tryd.underlying24 hiX.out) ?_
          simp only [Act.put, List.setIfInBounds_toArray, List.set_cons_succ, List.set_cons_zero]
          refine q_val (.bool true) (by kernel_rfl) (fun u hu => (exec_eql8 (.tmp 73) (.tmp 74) _ X X rfl (by kernel_rfl) (by kernel_rfl) HXL.out HXL.out).trans (by rw [decide_eq_true rfl])) ?_
          simp only [Act.put, List.setIfInBounds_toArray, List.set_cons_succ, List.set_cons_zero]
          refine q_val (.bool true) (by kernel_rfl) (fun u hu => exec_move (.tmp 75) (.bool true) rfl (by kernel_rfl)) ?_
          simp only [Act.put, List.setIfInBounds_toArray, List.set_cons_succ, List.set_cons_zero]
          refine q_val (.slice A k c) (by kernel_rfl) (fun u hu => exec_move (.tmp 0) (.slice A k c) rfl (by kernel_rfl)) ?_
          simp only [Act.put, List.setIfInBounds_toArray, List.set_cons_succ, List.set_cons_zero]
          refine q_val (.slice D l e2) (by kernel_rfl) (fun u hu => exec_move (.tmp 2) (.slice D l e2) rfl (by kernel_rfl)) ?_
          simp only [Act.put, List.setIfInBounds_toArray, List.set_cons_succ, List.set_cons_zero]
          refine q_call (.agg (cells8 Y).toArray) 8 #[.slice A k c, .slice D l e2] (by kernel_rfl) (exec_call 8 _ [.tmp 77, .tmp 78] _ _ Tryd.func8 (by kernel_rfl) (by kernel_rfl) rfl (by kernel_rfl)) (fun u hu => (tagf_any _ _ key zs u (hGr.keep hu.2 (by omega) (by omega)) (HBk.out.keep hu.2 (fun ad n c e hne => (hlA.out ad n c e hne).2)) (HBd.out.keep hu.2 (fun ad n c e hne => (hlD.out ad n c e hne).2)) (by omega) (by omega)).mono fun e w' ⟨h1, h2⟩ => ⟨by rw [h1, HSY.out _ rfl], hu.1.kept h2, hu.2.kept h2⟩) ?_
          simp only [Act.put, List.setIfInBounds_toArray, List.set_cons_succ, List.set_cons_zero]
          refine q_val (.agg (cells8 Y).toArray) (by kernel_rfl) (fun u hu => exec_load_row 24 (.tmp 13) gy 32 24 5 (cells8 Y) rfl (by kernel_rfl) (hby.keep hu.2 (by omega)) Tryd.underlying24 hiY.out) ?_
          simp only [Act.put, List.setIfInBounds_toArray, List.set_cons_succ, List.set_cons_zero]
          refine q_val (.bool true) (by kernel_rfl) (fun u hu => (exec_eql8 (.tmp 79) (.tmp 80) _ Y Y rfl (by kernel_rfl) (by kernel_rfl) HYL.out HYL.out).trans (by rw [decide_eq_true rfl])) ?_
          simp only [Act.put, List.setIfInBounds_toArray, List.set_cons_succ, List.set_cons_zero]
          refine q_val (.bool true) (by kernel_rfl) (fun u hu => exec_pick (.tmp 76) (.tmp 81) _ (.bool true) rfl (by kernel_rfl) (by kernel_rfl)) ?_
          simp only [Act.put, List.setIfInBounds_toArray, List.set_cons_succ, List.set_cons_zero]
          refine q_val (.bool true) (by kernel_rfl) (fun u hu => exec_move (.tmp 82) (.bool true) rfl (by kernel_rfl)) ?_
          simp only [Act.put, List.setIfInBounds_toArray, List.set_cons_succ, List.set_cons_zero]
          refine q_val (.slice Al (k + j) cl) (by kernel_rfl) (fun u hu => exec_move (.tmp 14) (.slice Al (k + j) cl) rfl (by kernel_rfl)) ?_
          simp only [Act.put, List.setIfInBounds_toArray, List.set_cons_succ, List.set_cons_zero]
          refine q_val (.slice B m d) (by kernel_rfl) (fun u hu => exec_move (.tmp 1) (.slice B m d) rfl (by kernel_rfl)) ?_
          simp only [Act.put, List.setIfInBounds_toArray, List.set_cons_succ, List.set_cons_zero]
          refine q_call (.agg (cells8 X).toArray) 8 #[.slice Al (k + j) cl, .slice B m d] (by kernel_rfl) (exec_call 8 _ [.tmp 84, .tmp 85] _ _ Tryd.func8 (by kernel_rfl) (by kernel_rfl) rfl (by kernel_rfl)) (fun u hu => (tagf_any _ _ (key ++ List.replicate j 0) bs u (hGr.keep hu.2 (by omega) (by omega)) (HBl.out.keep hu.2 (fun ad n c e hne => (hlL.out ad n c e hne).2)) (HBa.out.keep hu.2 (fun ad n c e hne => (hlB.out ad n c e hne).2)) (HLL.out) (by omega)).mono fun e w' ⟨h1, h2⟩ => ⟨by rw [h1, HSZ.out _ rfl], hu.1.kept h2, hu.2.kept h2⟩) ?_
          simp only [Act.put, List.setIfInBounds_toArray, List.set_cons_succ, List.set_cons_zero]
          refine q_val (.agg (cells8 X).toArray) (by kernel_rfl) (fun u hu => exec_load_row 24 (.tmp 11) gx 32 24 5 (cells8 X) rfl (by kernel_rfl) (hbx.keep hu.2 (by omega)) Tryd.underlying24 hiX.out) ?_
          simp only [Act.put, List.setIfInBounds_toArray, List.set_cons_succ, List.set_cons_zero]
          refine q_val (.bool true) (by kernel_rfl) (fun u hu => (exec_eql8 (.tmp 86) (.tmp 87) _ X X rfl (by kernel_rfl) (by kernel_rfl) HXL.out HXL.out).trans (by rw [decide_eq_true rfl])) ?_
          simp only [Act.put, List.setIfInBounds_toArray, List.set_cons_succ, List.set_cons_zero]
          refine q_val (.bool true) (by kernel_rfl) (fun u hu => exec_pick (.tmp 83) (.tmp 88) _ (.bool true) rfl (by kernel_rfl) (by kernel_rfl)) ?_
          simp only [Act.put, List.setIfInBounds_toArray, List.set_cons_succ, List.set_cons_zero]
          refine q_val (.bool true) (by kernel_rfl) (fun u hu => exec_move (.tmp 89) (.bool true) rfl (by kernel_rfl)) ?_
          simp only [Act.put, List.setIfInBounds_toArray, List.set_cons_succ, List.set_cons_zero]
          refine q_call (.bool true) 3 #[] (by kernel_rfl) (exec_call 3 _ [] _ _ Tryd.func3 (by kernel_rfl) (by kernel_rfl) rfl (by kernel_rfl)) (fun u hu => (macRuns_any u (hGr.keep hu.2 (by omega) (by omega))).mono fun e w' ⟨h1, h2⟩ => ⟨h1, hu.1.kept h2, hu.2.kept h2⟩) ?_
          simp only [Act.put, List.setIfInBounds_toArray, List.set_cons_succ, List.set_cons_zero]
          refine q_val (.bool true) (by kernel_rfl) (fun u hu => exec_pick (.tmp 90) (.tmp 91) _ (.bool true) rfl (by kernel_rfl) (by kernel_rfl)) ?_
          simp only [Act.put, List.setIfInBounds_toArray, List.set_cons_succ, List.set_cons_zero]
          refine wpQuiet_nil ?_
          rintro w11 ⟨hm11, hk11⟩
          have hkz : Kept w w11 := Kept.trans' hkr hk11 (by omega)
          go_wp2
          go_ret
          exact ⟨rfl, hkz⟩
end Go.Proofs.YthadjcgebnlpiaaDoor
