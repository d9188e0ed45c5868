/-
  The walk of jobberlaw2.ShaTwins. No condition but the tables' contents.
-/
import Derived.Test.YtgkepkakddbomaaDoorRuns2
import Derived.Test.YtgkepkakddbomaaDoorClose
namespace Go.Proofs.YtgkepkakddbomaaDoor
open Go.RowKit
set_option linter.unusedVariables false

/-- a[i:i+1] -/
theorem slice_one (A : Option Addr) (ad : Addr) (m c i : Nat) (hA : A = some ad) (hi : i < m) (hm : m ≤ c) (hc : c ≤ maxLen) (u : World) :
    (Instr.slice 25 (.slice A m c) (some (.int .i64 (i : Int))) (some (.int .i64 ((i : Int) + 1))) none).run Tryd.prog u = .ok (.slice (some (ad.add i)) 1 (c - i)) u := by
  subst hA
  obtain ⟨i0, hi0, hz0, hz1, hz2⟩ := info_parts info8
  have e : Tryd.prog.elem 25 = 5 := by kernel_rfl
  have h := run_slice_lh (P := Tryd.prog) (w := u) 25 (some ad) m c Tryd.underlying25 .i64 .i64 (i : Int) ((i : Int) + 1) (by omega) (by omega) (by omega)
  have hne : ¬ c = i := by omega
  have e1 : ((i : Int) + 1).toNat = i + 1 := by omega
  rw [h, e, e1]
  simp [sizeOf, typeInfo, hi0, hz1, sliced, hne]

theorem one_is {w : World} {A : Option Addr} {ad : Addr} {xs : List UInt8} {m c i g : Nat} (hR : R8 w A xs) (hA : A = some ad) (hl : xs.length = m) (hi : i < m) (hm : m ≤ c) (hc : c ≤ maxLen) (hg : ad.block ≠ g) :
    SliceIs w g (.slice (some (ad.add i)) 1 (c - i)) [xs.getD i 0] := by
  subst hA
  refine ⟨_, 1, c - i, rfl, rfl, ?_, by omega, by omega, fun a h _ => ?_⟩
  · intro k x hx
    match k, hx with
    | 0, hx =>
      simp at hx
      subst hx
      obtain ⟨ad', e, hc⟩ := hR i (xs.getD i 0) (by rw [List.getD_eq_getElem?_getD, List.getElem?_eq_getElem (by omega)]; rfl)
      injection e with e
      subst e
      exact ⟨_, rfl, by rw [add_add]; simpa using hc⟩
  · injection h with h
    subst h
    rw [block_add]
    exact hg
theorem take_one (xs : List UInt8) (i m : Nat) (hl : xs.length = m) (hi : i < m) : xs.take i ++ [xs.getD i 0] = xs.take (i + 1) := by
  rw [List.take_add_one, List.getD_eq_getElem?_getD, List.getElem?_eq_getElem (by omega)]
  rfl

/-- one byte more -/
theorem write_one (g i m c : Nat) (A : Option Addr) (ad : Addr) (xs : List UInt8) (w wr : World) (hR : R8 w A xs) (hA : A = some ad) (hl : xs.length = m) (hi : i < m) (hm : m ≤ c) (hc : c ≤ maxLen) (hg : ¬ g < w.heap.size) (hk : Kept w wr) (hs : HS wr g (xs.take i)) (hG : Glob wr) (hmm : m ≤ 1000) :
    Calls Tryd.prog 14 #[.pointer (some ⟨g, 0, none⟩), .slice (some (ad.add i)) 1 (c - i)] wr fun e w' => e = .returned (.tuple #[]) ∧ HS w' g (xs.take (i + 1)) ∧ Keep (· = g) wr w' ∧ Glob w' := by
  have hb : ad.block ≠ g := by
    have := (hA ▸ hR : R8 w (some ad) xs).lt (fun e => by rw [e] at hl; simp at hl; omega)
    omega
  refine (write_any g (xs.take i) _ [xs.getD i 0] wr hG hs (one_is (hR.kept hk) hA hl hi hm hc hb) (by rw [List.length_take]; omega) (by simp)).mono fun e w' ⟨h1, h2, h3⟩ => ⟨h1, ?_, h3, hG.same hs h3⟩
  rw [take_one xs i m hl hi] at h2
  exact h2

theorem take_more (xs : List UInt8) (i m : Nat) (hl : xs.length = m) (hi : ¬ i < m) : xs.take i = xs.take (i + 1) := by
  rw [List.take_of_length_le (by omega), List.take_of_length_le (by omega)]

theorem eq_same (S : List UInt8) (h : S.length = 32) : ∀ u : World, (Op.equalIn 10000 23 (.agg (cells8 S).toArray) (.agg (cells8 S).toArray)).run Tryd.prog u = .ok true u := fun u => by
  have h := run_arr8 23 32 Tryd.underlying23 S S h h u
  rw [decide_eq_true rfl] at h
  exact h

theorem Bytes.at_ {w : World} {A : Option Addr} {n c : Nat} {xs : List UInt8} (hR : R8 w A xs) (hl : Hid (xs.length = n)) (hnc : n ≤ c) (hc : c ≤ maxLen) : ∀ g, w.heap.size ≤ g → SliceIs w g (.slice A n c) xs := by
  intro g hg
  refine ⟨A, n, c, rfl, hl, hR, hnc, hc, fun ad h hne e => ?_⟩
  subst h
  have := hR.lt hne
  omega

set_option maxRecDepth 100000 in
set_option maxHeartbeats 1600000 in
theorem shaTwins_any (v1 v2 : Value) (xs0 ys0 : List UInt8) (w : World) (hG : Glob w) (h1 : Bytes w v1 xs0) (h2 : Bytes w v2 ys0) :
    Calls Tryd.prog 6 #[v1, v2] w fun e w' => e = .returned (.bool true) ∧ Kept w w' := by
  obtain ⟨A, n1, c, rfl, hl1, hx1, hnc, hc, hA⟩ := h1
  obtain ⟨B, n2, d, rfl, hl2, hx2, hnd, hd, hB⟩ := h2
  have hcm := hc
  have hdm := hd
  unfold maxLen at hc hd
  obtain ⟨m, hm⟩ : ∃ m, m = min n1 90 := ⟨_, rfl⟩
  obtain ⟨k, hk⟩ : ∃ k, k = min n2 90 := ⟨_, rfl⟩
  have hm1 : m ≤ 90 := by omega
  have hm2 : m ≤ n1 := by omega
  have hk1 : k ≤ 90 := by omega
  have hk2 : k ≤ n2 := by omega
  have hmin : (if (90 : Int) < (n1 : Int) then (90 : Int) else (n1 : Int)) = (m : Int) := by split <;> omega
  have kmin : (if (90 : Int) < (n2 : Int) then (90 : Int) else (n2 : Int)) = (k : Int) := by split <;> omega
  have hl : Hid ((xs0.take m).length = m) := by show _ = _; rw [List.length_take, hl1.out]; omega
  have hl' : Hid ((ys0.take k).length = k) := by show _ = _; rw [List.length_take, hl2.out]; omega
  have hx := hx1.take2 m
  have hy := hx2.take2 k
  generalize xs0.take m = xs at hl hx
  generalize ys0.take k = ys at hl' hy
  clear hm hk hl1 hl2 hx1 hx2
  go_enter Tryd.func6, Tryd.ntmps6
  go_wp2_with fail
  go_quiet (fail)
  have hG0 : Glob (w.drewN nq) := hG.kept (kept_drewN w nq)
  have hk0 : Kept w (w.drewN nq) := kept_drewN w nq
  generalize w.drewN nq = w0 at hG0 hk0 ⊢
  go_wp2_with fail
  refine (new_any w0 hG0).mono ?_
  rintro e w1 ⟨gx, rfl, hgx, hsx, hk1⟩
  have hG1 := hG0.kept hk1
  have hltx := hsx.lt
  have hkw1 := hk0.trans hk1
  go_wp2_with fail
  refine (new_any w1 hG1).mono ?_
  rintro e w2 ⟨gy, rfl, hgy, hsy, hk2⟩
  have hsx2 := hsx.kept hk2
  have hG2 := hG1.kept hk2
  have hkw2 : Kept w w2 := hkw1.trans hk2
  have hz0 := hk0.size
  have hz1 := hk1.size
  have hxy : gx ≠ gy := by omega
  have hgxw : ¬ gx < w.heap.size := by omega
  have hgyw : ¬ gy < w.heap.size := by omega
  have HX := Lib.hid hx
  have HY := Lib.hid hy
  clear hk1 hk2 hsx hG1 hG0 hkw1 hk0 hmin kmin hx hy
  go_wp2_with fail
  go_loopw [7] (fun v wr => ∃ i : Nat, i ≤ max m k ∧ v = .int .i64 i ∧ Kept w wr ∧ HS wr gx (xs.take i) ∧ HS wr gy (ys.take i) ∧ Glob wr) (fun v _ => max m k - (intOf v).toNat)
  case atStart => exact ⟨0, Nat.zero_le _, rfl, hkw2, by simpa using hsx2, by simpa using hsy, hG2⟩
  case round =>
    obtain ⟨i, hi, rfl, hkr, hsxr, hsyr, hGr⟩ := hrel
    by_cases h1 : i < m
    · obtain ⟨ad, hAd, -⟩ := HX.out.at_ (k := i) (by rw [hl.out]; exact h1)
      have hsl := slice_one A ad m c i hAd h1 (by omega) hcm
      have W1 := fun u (h1' : Kept w u) h2' h3' => write_one gx i m c A ad xs w u HX.out hAd hl.out h1 (by omega) hcm hgxw h1' h2' h3' (by omega)
      have HW1 := Lib.hid W1
      clear W1 hAd
      by_cases h2 : i < k
      · obtain ⟨bd, hBd, -⟩ := HY.out.at_ (k := i) (by rw [hl'.out]; exact h2)
        have hsl2 := slice_one B bd k d i hBd h2 (by omega) hdm
        have W2 := fun u (h1' : Kept w u) h2' h3' => write_one gy i k d B bd ys w u HY.out hBd hl'.out h2 (by omega) hdm hgyw h1' h2' h3' (by omega)
        have HW2 := Lib.hid W2
        clear W2 hBd
        go_wp2_with fail
        refine (HW1.out wr hkr hsxr hGr).mono ?_
        rintro e wa ⟨rfl, hsxa, hka, hGa⟩
        have hsya := hsyr.keep hka (fun e => hxy e.symm)
        have hkwa : Kept w wa := Kept.trans' hkr hka hgxw
        clear hka hsxr hsyr hGr hkr
        go_wp2_with fail
        refine (HW2.out wa hkwa hsya hGa).mono ?_
        rintro e wb ⟨rfl, hsyb, hkb, hGb⟩
        have hsxb := hsxa.keep hkb (fun e => hxy e)
        have hkwb : Kept w wb := Kept.trans' hkwa hkb hgyw
        clear hkb hsxa hsya hGa hkwa
        go_wp2
        exact ⟨⟨i + 1, by omega, by go_num, hkwb, hsxb, hsyb, hGb⟩, by simp [intOf]; omega⟩
      · have hd2 : decide ((i : Int) < (k : Int)) = false := by simp; omega
        have HT := Lib.hid (take_more ys i k hl'.out h2)
        go_wp2_with fail
        refine (HW1.out wr hkr hsxr hGr).mono ?_
        rintro e wa ⟨rfl, hsxa, hka, hGa⟩
        have hsya := hsyr.keep hka (fun e => hxy e.symm)
        rw [HT.out] at hsya
        have hkwa : Kept w wa := Kept.trans' hkr hka hgxw
        clear hka hsxr hsyr hGr hkr
        go_wp2
        exact ⟨⟨i + 1, by omega, by go_num, hkwa, hsxa, hsya, hGa⟩, by simp [intOf]; omega⟩
    · have hd1 : decide ((i : Int) < (m : Int)) = false := by simp; omega
      by_cases h2 : i < k
      · obtain ⟨bd, hBd, -⟩ := HY.out.at_ (k := i) (by rw [hl'.out]; exact h2)
        have hsl2 := slice_one B bd k d i hBd h2 (by omega) hdm
        have W2 := fun u (h1' : Kept w u) h2' h3' => write_one gy i k d B bd ys w u HY.out hBd hl'.out h2 (by omega) hdm hgyw h1' h2' h3' (by omega)
        have HW2 := Lib.hid W2
        have HT := Lib.hid (take_more xs i m hl.out h1)
        clear W2 hBd
        go_wp2_with fail
        refine (HW2.out wr hkr hsyr hGr).mono ?_
        rintro e wb ⟨rfl, hsyb, hkb, hGb⟩
        have hsxb := hsxr.keep hkb (fun e => hxy e)
        rw [HT.out] at hsxb
        have hkwb : Kept w wb := Kept.trans' hkr hkb hgyw
        clear hkb hsxr hsyr hGr hkr
        go_wp2
        exact ⟨⟨i + 1, by omega, by go_num, hkwb, hsxb, hsyb, hGb⟩, by simp [intOf]; omega⟩
      · have hd2 : decide ((i : Int) < (k : Int)) = false := by simp; omega
        rw [List.take_of_length_le (by rw [hl.out]; omega)] at hsxr
        rw [List.take_of_length_le (by rw [hl'.out]; omega)] at hsyr
        have hq1 := eq_same (shaOf xs) (shaOf_length _)
        have hq2 := eq_same (shaOf ys) (shaOf_length _)
        have hxl : xs.length ≤ 900000 := by rw [hl.out]; omega
        have hyl : ys.length ≤ 900000 := by rw [hl'.out]; omega
        have hln : Hid ((xs.length : Int) = (m : Int)) := by show _ = _; rw [hl.out]
        go_wp2_with fail
        refine (hsum_any gx xs wr hGr hsxr hxl).mono ?_
        rintro e wa ⟨rfl, hka⟩
        replace hkr := hkr.trans hka
        replace hsxr := hsxr.kept hka
        replace hsyr := hsyr.kept hka
        replace hGr := hGr.kept hka
        clear hka
        go_wp2_with fail
        refine (hsum_any gx xs wa hGr hsxr hxl).mono ?_
        rintro e wb ⟨rfl, hkb⟩
        replace hkr := hkr.trans hkb
        replace hsxr := hsxr.kept hkb
        replace hsyr := hsyr.kept hkb
        replace hGr := hGr.kept hkb
        clear hkb
        go_wp2_with fail
        refine (hsum_any gx xs wb hGr hsxr hxl).mono ?_
        rintro e wc ⟨rfl, hkc⟩
        replace hkr := hkr.trans hkc
        replace hsxr := hsxr.kept hkc
        replace hsyr := hsyr.kept hkc
        replace hGr := hGr.kept hkc
        clear hkc
        go_wp2_with fail
        refine (sum_any _ xs wc hGr (Bytes.at_ (HX.out.kept hkr) hl (by omega) hcm) hxl).mono ?_
        rintro e wd ⟨rfl, hkd⟩
        replace hkr := hkr.trans hkd
        replace hsxr := hsxr.kept hkd
        replace hsyr := hsyr.kept hkd
        replace hGr := hGr.kept hkd
        clear hkd
        go_wp2_with fail
        refine (hsum_any gy ys wd hGr hsyr hyl).mono ?_
        rintro e we ⟨rfl, hke⟩
        replace hkr := hkr.trans hke
        replace hsxr := hsxr.kept hke
        replace hGr := hGr.kept hke
        clear hke hsyr
        go_wp2_with fail
        refine (sum_any _ ys we hGr (Bytes.at_ (HY.out.kept hkr) hl' (by omega) hdm) hyl).mono ?_
        rintro e wf ⟨rfl, hkf⟩
        replace hkr := hkr.trans hkf
        replace hsxr := hsxr.kept hkf
        replace hGr := hGr.kept hkf
        clear hkf
        go_wp2_with fail
        refine (len_any gx xs wf hsxr (by omega)).mono ?_
        rintro e wg ⟨rfl, rfl⟩
        rw [hln.out]
        go_wp2_with fail
        refine (shaRuns_any wf hGr).mono ?_
        rintro e wh ⟨rfl, hkh⟩
        have hkz := hkr.trans hkh
        go_wp2
        go_ret
        exact ⟨rfl, hkz⟩
end Go.Proofs.YtgkepkakddbomaaDoor
