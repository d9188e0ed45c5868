/-
  The walk of jobberlaw2.ShaNothing. No condition but the tables' contents.
-/
import Derived.Test.YtgkepkakddbomaaDoorTwins2
namespace Go.Proofs.YtgkepkakddbomaaDoor
open Go.RowKit
set_option linter.unusedVariables false

theorem nil_is (w : World) (g : Nat) : SliceIs w g (.slice none 0 0) [] := ⟨none, 0, 0, rfl, rfl, R8.nil _ _, Nat.le_refl _, by unfold maxLen; omega, fun _ h => by cases h⟩

set_option maxRecDepth 100000 in
set_option maxHeartbeats 1600000 in
theorem shaNothing_any (v1 v2 : Value) (xs0 : List UInt8) (l : List Int) (w : World) (hG : Glob w) (h1 : Bytes w v1 xs0) (h2 : Elems w v2 1 Int1 l) :
    Calls Tryd.prog 7 #[v1, v2] w fun e w' => e = .returned (.bool true) ∧ Kept w w' := by
  obtain ⟨A, n1, c, rfl, hl1, hx1, hnc, hc, hA⟩ := h1
  obtain ⟨B, n2, d, rfl, hl2, hx2, hnd, hd⟩ := h2
  have hcm := hc
  unfold maxLen at hc hd
  obtain ⟨m, hm⟩ : ∃ m, m = min n1 150 := ⟨_, rfl⟩
  have hm1 : m ≤ 150 := by omega
  have hm2 : m ≤ n1 := by omega
  have hmin : (if (150 : Int) < (n1 : Int) then (150 : Int) else (n1 : Int)) = (m : Int) := by split <;> omega
  have hl : Hid ((xs0.take m).length = m) := by show _ = _; rw [List.length_take, hl1.out]; omega
  have hx := hx1.take2 m
  generalize xs0.take m = xs at hl hx
  clear hm hl1 hx1
  go_enter Tryd.func7, Tryd.ntmps7
  go_wp2_with fail
  refine (new_any w hG).mono ?_
  rintro e w1 ⟨gx, rfl, hgx, hsx, hk1⟩
  have hG1 := hG.kept hk1
  have hltx := hsx.lt
  go_wp2_with fail
  refine (new_any w1 hG1).mono ?_
  rintro e w2 ⟨gy, rfl, hgy, hsy, hk2⟩
  have hsx2 := hsx.kept hk2
  have hG2 := hG1.kept hk2
  have hkw2 : Kept w w2 := hk1.trans hk2
  have hz1 := hk1.size
  have hxy : gx ≠ gy := by omega
  have hgxw : ¬ gx < w.heap.size := by omega
  have hgyw : ¬ gy < w.heap.size := by omega
  have HX := Lib.hid hx
  have HL := Lib.hid hx2
  clear hk1 hk2 hsx hG1 hmin hx hx2
  go_wp2_with fail
  go_loopw [23] (fun v wr => ∃ i : Nat, i ≤ m ∧ v = .int .i64 i ∧ Kept w wr ∧ HS wr gx (xs.take i) ∧ HS wr gy [] ∧ Glob wr) (fun v _ => m - (intOf v).toNat)
  case atStart => exact ⟨0, Nat.zero_le _, rfl, hkw2, by simpa using hsx2, hsy, hG2⟩
  case round =>
    obtain ⟨i, hi, rfl, hkr, hsxr, hsyr, hGr⟩ := hrel
    by_cases h1 : i < m
    · obtain ⟨ad, hAd, -⟩ := HX.out.at_ (k := i) (by rw [hl.out]; exact h1)
      have hsl := slice_one A ad m c i hAd h1 (by omega) hcm
      have W1 := fun u (h1' : Kept w u) h2' h3' => write_one gx i m c A ad xs w u HX.out hAd hl.out h1 (by omega) hcm hgxw h1' h2' h3' (by omega)
      have HW1 := Lib.hid W1
      have hli : (xs.take i).length ≤ 1000000 := by rw [List.length_take, hl.out]; omega
      have hl0 : ([] : List UInt8).length ≤ 1000000 := by simp
      have hli2 : (xs.take (i + 1)).length ≤ 900000 := by rw [List.length_take, hl.out]; omega
      clear W1 hAd
      go_wp2_with fail
      refine (write_any gx (xs.take i) _ [] wr hGr hsxr (nil_is wr gx) hli hl0).mono ?_
      rintro e wa ⟨rfl, hsxa, hka⟩
      rw [List.append_nil] at hsxa
      have hGa := hGr.same hsxr hka
      have hsya := hsyr.keep hka (fun e => hxy e.symm)
      have hkwa : Kept w wa := Kept.trans' hkr hka hgxw
      clear hka hsxr hsyr hGr hkr
      go_wp2_with fail
      refine (HW1.out wa hkwa hsxa hGa).mono ?_
      rintro e wb ⟨rfl, hsxb, hkb, hGb⟩
      have hsyb := hsya.keep hkb (fun e => hxy e.symm)
      have hkwb : Kept w wb := Kept.trans' hkwa hkb hgxw
      clear hkb hsxa hsya hGa hkwa
      by_cases h2 : i < n2
      · obtain ⟨b, o, cs, rfl, hsh, -, hcell⟩ := HL.out i _ (List.getElem?_eq_getElem (by rw [hl2.out]; exact h2))
        obtain ⟨rfl, -⟩ := hsh
        obtain ⟨z, hz⟩ : ∃ z, z = l[i]'(by rw [hl2.out]; exact h2) := ⟨_, rfl⟩
        have hc0 := hkwb.cell (hcell 0 _ rfl)
        rw [← hz, Nat.mul_one, Nat.add_zero] at hc0
        clear hcell hz
        by_cases h3 : z.tmod 3 = 0
        · have hq : (z.tmod 3 == 0) = true := by simp [h3]
          clear h3
          go_wp2_with fail
          refine (hsum_any gx (xs.take (i + 1)) wb hGb hsxb hli2).mono ?_
          rintro e wc ⟨rfl, hkc⟩
          have R := And.intro (hkwb.trans hkc) (And.intro (hsxb.kept hkc) (And.intro (hsyb.kept hkc) (hGb.kept hkc)))
          clear hkc
          go_wp2
          exact ⟨⟨i + 1, by omega, by go_num, R⟩, by simp [intOf]; omega⟩
        · have hq : (z.tmod 3 == 0) = false := by simp [h3]
          clear h3
          go_wp2
          exact ⟨⟨i + 1, by omega, by go_num, hkwb, hsxb, hsyb, hGb⟩, by simp [intOf]; omega⟩
      · have hd2 : decide ((i : Int) < (n2 : Int)) = false := by simp; omega
        go_wp2
        exact ⟨⟨i + 1, by omega, by go_num, hkwb, hsxb, hsyb, hGb⟩, by simp [intOf]; omega⟩
    · rw [List.take_of_length_le (by rw [hl.out]; omega)] at hsxr
      have hq1 := eq_same (shaOf xs) (shaOf_length _)
      have hq2 := eq_same (shaOf []) (shaOf_length _)
      obtain ⟨S0, hS0⟩ : ∃ S, S = shaOf [] := ⟨_, rfl⟩
      rw [← hS0] at hq2
      have HS0 : Hid (∀ S, S = shaOf [] → S = S0) := fun S h => h.trans hS0.symm
      clear hS0
      have hxl : xs.length ≤ 900000 := by rw [hl.out]; omega
      have hxl2 : xs.length ≤ 1000000 := by omega
      have hln : Hid ((xs.length : Int) = (m : Int)) := by show _ = _; rw [hl.out]
      have hl0 : ([] : List UInt8).length ≤ 1000000 := by simp
      have hv : SliceIs wr gy (.slice A m c) xs := by
        refine ⟨A, m, c, rfl, hl, HX.out.kept hkr, by omega, hcm, fun ad h hne e => ?_⟩
        subst h
        have := HX.out.lt hne
        omega
      go_wp2_with fail
      refine (write_any gy [] _ xs wr hGr hsyr hv hl0 hxl2).mono ?_
      rintro e wa ⟨rfl, hsya, hka⟩
      rw [List.nil_append] at hsya
      have hGa := hGr.same hsyr hka
      have hsxa := hsxr.keep hka (fun e => hxy e)
      have hkwa : Kept w wa := Kept.trans' hkr hka hgyw
      clear hka hsxr hsyr hGr hkr hv
      go_wp2_with fail
      refine (hsum_any gx xs wa hGa hsxa hxl).mono ?_
      rintro e wb ⟨rfl, hkb⟩
      replace hkwa := hkwa.trans hkb
      replace hsxa := hsxa.kept hkb
      replace hsya := hsya.kept hkb
      replace hGa := hGa.kept hkb
      clear hkb
      go_wp2_with fail
      refine (hsum_any gy xs wb hGa hsya hxl).mono ?_
      rintro e wc ⟨rfl, hkc⟩
      replace hkwa := hkwa.trans hkc
      replace hsxa := hsxa.kept hkc
      replace hsya := hsya.kept hkc
      replace hGa := hGa.kept hkc
      clear hkc
      go_wp2_with fail
      refine (len_any gx xs wc hsxa (by omega)).mono ?_
      rintro e wg ⟨rfl, rfl⟩
      rw [hln.out]
      go_wp2_with fail
      refine (len_any gy xs wc hsya (by omega)).mono ?_
      rintro e wg ⟨rfl, rfl⟩
      rw [hln.out]
      go_wp2_with fail
      refine (new_any wc hGa).mono ?_
      rintro e wd ⟨gz, rfl, hgz, hsz, hkd⟩
      replace hkwa := hkwa.trans hkd
      replace hGa := hGa.kept hkd
      clear hkd hsxa hsya
      go_wp2_with fail
      refine (hsum_any gz [] wd hGa hsz (by simp)).mono ?_
      rintro e we ⟨rfl, hke⟩
      rw [HS0.out _ rfl]
      replace hkwa := hkwa.trans hke
      replace hGa := hGa.kept hke
      clear hke hsz
      go_wp2_with fail
      refine (sum_any _ [] we hGa (fun g _ => nil_is we g) (by simp)).mono ?_
      rintro e wf ⟨rfl, hkf⟩
      rw [HS0.out _ rfl]
      replace hkwa := hkwa.trans hkf
      replace hGa := hGa.kept hkf
      clear hkf
      go_wp2_with fail
      refine (shaRuns_any wf hGa).mono ?_
      rintro e wh ⟨rfl, hkh⟩
      have hkz := hkwa.trans hkh
      go_wp2
      go_ret
      exact ⟨rfl, hkz⟩
end Go.Proofs.YtgkepkakddbomaaDoor
