/-
  The document's own links: jobberref1.Links. Condition: lengths far below 2^47.
-/
import Derived.Test.YtholpkaicmckfaaDoorRefLink
import Derived.Test.YtholpkaicmckfaaDoorExec
namespace Go.Proofs.YtholpkaicmckfaaDoor
open Go.RowKit
set_option linter.unusedVariables false

/-- what the document's Links hands back -/
def RefLinksIn (w w' : World) (L : List (List UInt8)) (v : Value) : Prop := ∃ A c, v = .slice A L.length c ∧ OwnG w' w.heap.size 30 32 A L.length c (sumCells (linksOf L)) ∧ Kept w w'

theorem infoS2 : (Tryd.prog.info? 30).map (fun i => (i.zero, i.size)) = some (some (.agg z32.toArray), 32) := by kernel_rfl
theorem linksOf_snoc (L : List (List UInt8)) (i : Nat) (h : i < L.length) : (linksOf L).take (i + 1) = (linksOf L).take i ++ [aheadOf L (i + 1)] := by
  rw [List.take_add_one, linksOf_ahead L i h]
  rfl

set_option maxRecDepth 100000 in
set_option maxHeartbeats 1600000 in
theorem refLinks_any (v : Value) (L : List (List UInt8)) (w : World) (hv : RecV w v L) (hn : L.length ≤ 100000) (hb : ∀ x ∈ L, x.length ≤ 90000) :
    Calls Tryd.prog 12 #[v] w fun e w' => ∃ u, e = .returned u ∧ RefLinksIn w w' L u := by
  obtain ⟨A0, n, c0, rfl, hl, hR, hnc, hc⟩ := hv
  have hn2 : n ≤ 100000 := by have := hl.out; omega
  have HR := Lib.hid hR
  have HB := Lib.hid hb
  clear hR hb hn
  go_enter Tryd.func12, Tryd.ntmps12
  go_wp2_with ((with_reducible show wpList _ _ _ _ _ _); (first
    | ((with_reducible refine wpl_alloc (o := ⟨some 4, _, _, _, _, _⟩) _ rfl 30 rfl z32 sum_zero ?_); intro w1 hb1 hs1 hk1; clear hs1)))
  have hbp1 : Blk w1 w.heap.size 30 (cells8 (aheadOf L 0)) := hb1
  have hgw : w.heap.size ≤ w.heap.size := Nat.le_refl _
  clear hb1
  generalize hgp : w.heap.size = gp at hbp1 ⊢
  have hgw2 : w.heap.size ≤ gp := by omega
  clear hgp hgw
  go_loopw [3, 9] (fun q v wr => ∃ (i : Nat) (A : Option Addr) (c : Nat), i ≤ n ∧ q = .slice A i c ∧ v = .int .i64 i ∧ Kept w wr ∧ Blk wr gp 30 (cells8 (aheadOf L i)) ∧ Hid (OwnG wr (gp + 1) 30 32 A i c (sumCells ((linksOf L).take i)))) (fun _ v _ => n - (intOf v).toNat)
  case atStart => exact ⟨0, none, 0, Nat.zero_le _, rfl, rfl, hk1, hbp1, OwnG.nil _ _ _ _⟩
  case round =>
    obtain ⟨i, A, c, hi, rfl, rfl, hkr, hbp, HO⟩ := hrel
    by_cases hlt : i < n
    · have hil : i < L.length := by rw [hl.out]; exact hlt
      obtain ⟨bb, oo, u, rfl, hcu, hbu⟩ := HR.out i L[i] (List.getElem?_eq_getElem hil)
      have hc0 := hkr.cell hcu
      have hbu2 := hbu.kept hkr
      have HX := Lib.hid (HB.out L[i] (List.getElem_mem hil))
      obtain ⟨P, hP⟩ : ∃ P, P = aheadOf L i := ⟨_, rfl⟩
      obtain ⟨S, hS⟩ : ∃ S, S = aheadOf L (i + 1) := ⟨_, rfl⟩
      have hPl : P.length = 32 := by rw [hP]; exact aheadOf_length L i (by omega)
      have hSl : S.length = 32 := by rw [hS]; exact aheadOf_length L (i + 1) (by omega)
      have HS : Hid (∀ t, t = linkOf P L[i] → t = S) := fun t h => by rw [h, hS, hP, aheadOf_succ L i _ (List.getElem?_eq_getElem hil)]
      have hiP := size_arr P hPl
      have hiS := size_arr S hSl
      have hzS : Hid ((cells8 P).length = (cells8 S).length) := by show _ = _; rw [len8, len8, hPl, hSl]
      have hlS : Hid ((cells8 S).length = 32) := by show _ = _; rw [len8, hSl]
      have HN : Hid (sumCells ((linksOf L).take (i + 1)) = sumCells ((linksOf L).take i) ++ cells8 S) := by show _ = _; rw [linksOf_snoc L i hil, sumCells_snoc, hS]
      rw [← hP] at hbp
      have HS' := Lib.hid hS
      have HPl := Lib.hid hPl
      have hltp := hbp.lt
      clear hP hS hcu hbu hPl hSl
      generalize hxi : L[i] = xi at HS HX hbu2
      generalize sumCells ((linksOf L).take i) = X at HO HN
      clear hxi hil
      go_wp2_with ((with_reducible show wpList _ _ _ _ _ _); (first
        | ((with_reducible refine wpl_load_row (o := ⟨some 13, _, _, _, _, _⟩) _ rfl 30 (.tmp 4) rfl gp ?hx 30 (cells8 P) 32 5 hbp Tryd.underlying30 hiP.out ?_); (case hx => rfl))))
      refine (refLink_any P xi u wr HPl.out hbu2 HX.out).mono ?_
      rintro e w2 ⟨rfl, hk2⟩
      rw [HS.out _ rfl]
      have hbp2 := hbp.kept hk2
      have hkw2 := hkr.trans hk2
      have HO2 := Lib.hid (HO.out.kept hk2)
      clear hbp hkr hk2 hbu2 hc0 HO
      go_wp2_with ((with_reducible show wpList _ _ _ _ _ _); (first
        | ((with_reducible refine wpl_store_row (o := ⟨none, _, _, _, _, _⟩) _ rfl 30 (.tmp 4) (.tmp 15) rfl gp (cells8 S) ?hp ?hv 30 (cells8 P) hbp2 hiS.out hzS.out (cells8_one _) ?_); (case hp => rfl); (case hv => rfl); intro w3 hbp3 hk3 hs3; clear hs3; have hkw3 : Kept w w3 := Kept.trans' hkw2 hk3 (by omega); have HO3 := Lib.hid (HO2.out.keep hk3 (fun ad e => by obtain ⟨g, rfl, h, _⟩ := HO2.out.at_ ad e; show ¬ g = gp; omega)))
        | ((with_reducible refine wpl_load_row (o := ⟨some 17, _, _, _, _, _⟩) _ rfl 30 (.tmp 4) rfl gp ?hx2 30 (cells8 S) 32 5 hbp3 Tryd.underlying30 hiS.out ?_); (case hx2 => rfl))
        | ((with_reducible refine wpl_value (o := ⟨some 18, _, _, _, _, _⟩) _ _ _ rfl (exec_oneA 24 30 32 (.tmp 17) (cells8 S) (.agg z32.toArray) ?ho Tryd.underlying24 infoS2 (by omega) (by omega) ?hz hlS.out ?hx3) ?_); (case ho => rfl); (case hz => rfl); (case hx3 => rfl); have B4 := heap_alloc_new w3 (.cells (cells8 S).toArray 30); have k4 : Kept w3 (w3.alloc (.cells (cells8 S).toArray 30)) := Keep.alloc (Keep.refl _ w3) _; generalize w3.alloc (.cells (cells8 S).toArray 30) = w4 at B4 k4 ⊢; have N4 := World.news_of_block B4; have HO4 := Lib.hid (HO3.out.kept k4); have hbp4 := hbp3.kept k4; have hkw4 := hkw3.trans k4; have hbs4 : Hid (gp + 1 ≤ w4.heap.size) := hbp4.lt)
        | ((with_reducible refine wpl_append_g (o := ⟨some 19, _, _, _, _, _⟩) _ ?hw5 (.tmp 16) (.tmp 18) 24 30 ?ho5 (.agg z32.toArray) 32 32 Tryd.underlying24 infoS ?hz5 (by omega) (gp + 1) i c A X ?hs5 HO4.out hbs4.out ⟨w3.heap.size, 0, none⟩ 1 1 (cells8 S) ?hx5 ?hl5 N4 (cells8_one _) ?hm5 ?hb5 ?_); (case hw5 => rfl); (case ho5 => rfl); (case hz5 => rfl); (case hs5 => rfl); (case hx5 => rfl); (case hl5 => exact hlS.out); (case hm5 => unfold maxLen; omega); (case hb5 => omega); intro w5 A5 c5 O5 k5; have hkw5 : Kept w w5 := Keep.trans hkw4 k5 (fun j hj ⟨ad, e, h⟩ => by obtain ⟨g, rfl, hb, _⟩ := HO4.out.at_ ad e; simp at h; omega); have hbp5 := hbp4.keep k5 (fun ⟨ad, e, h⟩ => by obtain ⟨g, rfl, hb, _⟩ := HO4.out.at_ ad e; simp at h; omega); have HO5 := Lib.hid O5)))
      rw [← HN.out] at O5
      rw [HS'.out] at hbp5
      exact ⟨⟨i + 1, A5, c5, by omega, rfl, by go_num, hkw5, hbp5, O5⟩, by simp [intOf]; omega⟩
    · obtain rfl : i = n := by omega
      go_wp2
      go_ret
      have h1 := HO.out.low (base' := w.heap.size) (by omega)
      rw [List.take_of_length_le (by rw [linksOf_length, hl.out]; omega)] at h1
      refine ⟨_, rfl, A, c, ?_, ?_, hkr⟩
      · rw [hl.out]; rfl
      · rw [hl.out]; exact h1
end Go.Proofs.YtholpkaicmckfaaDoor
