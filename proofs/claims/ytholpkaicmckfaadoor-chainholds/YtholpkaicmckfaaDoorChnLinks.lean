/-
  The contract of chain.Links: the document's links, in memory of the call's own. Condition: lengths far below 2^47.
-/
import Derived.Test.YtholpkaicmckfaaDoorChnLink
import Derived.Test.YtholpkaicmckfaaDoorSumRow
namespace Go.Proofs.YtholpkaicmckfaaDoor
open Go.RowKit
set_option linter.unusedVariables false

/-- the links as far as i, noughts behind -/
def linksTo (L : List (List UInt8)) (i : Nat) : List (List UInt8) := (linksOf L).take i ++ List.replicate (L.length - i) zsum
theorem linksTo_zero (L : List (List UInt8)) : linksTo L 0 = List.replicate L.length zsum := by simp [linksTo]
theorem linksTo_full (L : List (List UInt8)) (n : Nat) (h : L.length ≤ n) : linksTo L n = linksOf L := by
  unfold linksTo
  rw [List.take_of_length_le (by rw [linksOf_length]; exact h), show L.length - n = 0 by omega]
  simp
theorem linksTo_each (L : List (List UInt8)) (i : Nat) : ∀ x ∈ linksTo L i, x.length = 32 := by
  intro x hx
  rcases List.mem_append.1 hx with h | h
  · exact linksOf_each L x (List.mem_of_mem_take h)
  · rw [List.eq_of_mem_replicate h]; rfl
theorem linksTo_length (L : List (List UInt8)) (i : Nat) (h : i ≤ L.length) : (linksTo L i).length = L.length := by
  unfold linksTo
  rw [List.length_append, List.length_take, linksOf_length, List.length_replicate]
  omega
theorem linksTo_set (L : List (List UInt8)) (i : Nat) (h : i < L.length) : (linksTo L i).set i (aheadOf L (i + 1)) = linksTo L (i + 1) := by
  unfold linksTo
  have hl : ((linksOf L).take i).length = i := by rw [List.length_take, linksOf_length]; omega
  rw [List.set_append_right _ _ (by omega), hl, Nat.sub_self, List.take_add_one, linksOf_ahead L i h, show L.length - i = (L.length - (i + 1)) + 1 by omega, List.replicate_succ]
  simp

/-- what chain.Links hands back -/
def LinksIn (w w' : World) (L : List (List UInt8)) (v : Value) : Prop := ∃ g, v = .slice (some ⟨g, 0, none⟩) L.length L.length ∧ w.heap.size ≤ g ∧ Blk w' g 30 (sumCells (linksOf L)) ∧ Kept w w'

set_option maxRecDepth 100000 in
set_option maxHeartbeats 800000 in
theorem links_any (v : Value) (L : List (List UInt8)) (w : World) (hG : Glob w) (hv : RecV w v L) (hn : L.length ≤ 1000000) (hb : ∀ x ∈ L, x.length ≤ 800000) :
    Calls Tryd.prog 8 #[v] w fun e w' => ∃ u, e = .returned u ∧ LinksIn w w' L u := by
  obtain ⟨A, n, c, rfl, hl, hR, hnc, hc⟩ := hv
  have hn2 : n ≤ 1000000 := by have := hl.out; omega
  have HR := Lib.hid hR
  have HB := Lib.hid hb
  have HG := Lib.hid hG
  have hmk := fun u : World => run_makeS n hn2 u
  have hz0 : Hid (linksTo L 0 = List.replicate n zsum) := by show _ = _; rw [linksTo_zero, hl.out]
  generalize List.replicate n zsum = Z0 at hmk hz0
  clear hR hb hn hG
  go_enter Tryd.func8, Tryd.ntmps8
  go_wp2_with ((with_reducible show wpList _ _ _ _ _ _); (first
    | ((with_reducible refine wpl_alloc (o := ⟨some 4, _, _, _, _, _⟩) _ rfl 30 rfl z32 sum_zero ?_); intro w1 hb1 hs1 hk1; clear hs1)))
  obtain ⟨gl, hgl⟩ : ∃ gl, gl = w.heap.size := ⟨_, rfl⟩
  obtain ⟨gp, hgp⟩ : ∃ gp, gp = w.heap.size + 1 := ⟨_, rfl⟩
  have hkw1 : Kept w w1 := Kept.trans (Keep.alloc (Keep.refl _ w) _) hk1
  have hbl1 : Blk w1 gl 30 (sumCells (linksTo L 0)) := by
    rw [hz0.out, hgl]
    exact (Blk.new w _ _).kept hk1
  have hbp1 : Blk w1 gp 30 (cells8 (aheadOf L 0)) := by
    rw [hgp, aheadOf_zero, zsum_cells]
    simpa using hb1
  rw [← hgp, ← hgl]
  have hgw : w.heap.size ≤ gl := by omega
  have hgg : gl < gp := by omega
  clear hb1 hk1 hz0 hmk hgl hgp
  go_loopw [12] (fun v wr => ∃ i : Nat, i ≤ n ∧ v = .int .i64 i ∧ Kept w wr ∧ Blk wr gl 30 (sumCells (linksTo L i)) ∧ Blk wr gp 30 (cells8 (aheadOf L i))) (fun v _ => n - (intOf v).toNat)
  case atStart => exact ⟨0, Nat.zero_le _, rfl, hkw1, hbl1, hbp1⟩
  case round =>
    obtain ⟨i, hi, rfl, hkr, hbl, hbp⟩ := hrel
    by_cases hlt : i < n
    · have hil : i < L.length := by rw [hl.out]; exact hlt
      obtain ⟨bb, oo, u, rfl, hcu, hbu⟩ := HR.out i L[i] (List.getElem?_eq_getElem hil)
      have hc0 := hkr.cell hcu
      have hbu2 := hbu.kept hkr
      have HX := Lib.hid (HB.out L[i] (List.getElem_mem hil))
      obtain ⟨P, hP⟩ : ∃ P, P = aheadOf L i := ⟨_, rfl⟩
      obtain ⟨S, hS⟩ : ∃ S, S = aheadOf L (i + 1) := ⟨_, rfl⟩
      have hPl : P.length = 32 := by rw [hP]; exact aheadOf_length L i (by omega)
      have hSl : S.length = 32 := by rw [hS]; exact aheadOf_length L (i + 1) (by omega)
      have HS : Hid (∀ t, t = linkOf P L[i] → t = S) := fun t h => by rw [h, hS, hP, aheadOf_succ L i _ (List.getElem?_eq_getElem hil)]
      have hiP := size_arr P hPl
      have hiS := size_arr S hSl
      have hzS : Hid ((cells8 P).length = (cells8 S).length) := by show _ = _; rw [len8, len8, hPl, hSl]
      obtain ⟨X, hX⟩ : ∃ X, X = sumCells (linksTo L i) := ⟨_, rfl⟩
      have HN : Hid (splice X (i * 32) (cells8 S) = sumCells (linksTo L (i + 1))) := by
        show _ = _
        rw [hX, splice_sums _ (linksTo_each L i) i (by rw [linksTo_length L i (by omega)]; omega) S hSl, hS, linksTo_set L i hil]
      have hfit : Hid (i * 32 + (cells8 S).length ≤ X.length) := by
        show _ ≤ _
        rw [hX, sumCells_length _ (linksTo_each L i), linksTo_length L i (by omega), len8, hSl]
        omega
      rw [← hX] at hbl
      rw [← hP] at hbp
      have HS' := Lib.hid hS
      have HPl := Lib.hid hPl
      have hltl := hbl.lt
      have hltp := hbp.lt
      clear hX hP hS hcu hbu hPl hSl
      generalize hxi : L[i] = xi at HS HX hbu2
      clear hxi hil
      go_wp2_with ((with_reducible show wpList _ _ _ _ _ _); (first
        | ((with_reducible refine wpl_load_row (o := ⟨some 17, _, _, _, _, _⟩) _ rfl 30 (.tmp 4) rfl gp ?hx 30 (cells8 P) 32 5 hbp Tryd.underlying30 hiP.out ?_); (case hx => rfl))))
      refine (link_any P xi u wr (HG.out.kept hkr) HPl.out hbu2 HX.out).mono ?_
      rintro e w2 ⟨rfl, hk2⟩
      rw [HS.out _ rfl]
      have hbl2 := hbl.kept hk2
      have hbp2 := hbp.kept hk2
      have hkw2 := hkr.trans hk2
      clear hbl hbp hkr hk2 hbu2 hc0
      go_wp2_with ((with_reducible show wpList _ _ _ _ _ _); (first
        | ((with_reducible refine wpl_store_row (o := ⟨none, _, _, _, _, _⟩) _ rfl 30 (.tmp 4) (.tmp 19) rfl gp (cells8 S) ?hp ?hv 30 (cells8 P) hbp2 hiS.out hzS.out (cells8_one _) ?_); (case hp => rfl); (case hv => rfl); intro w3 hbp3 hk3 hs3; clear hs3; have hbl3 := hbl2.keep hk3 (by omega); have hkw3 : Kept w w3 := Kept.trans' hkw2 hk3 (by omega))
        | ((with_reducible refine wpl_load_row (o := ⟨some 22, _, _, _, _, _⟩) _ rfl 30 (.tmp 4) rfl gp ?hx2 30 (cells8 S) 32 5 hbp3 Tryd.underlying30 hiS.out ?_); (case hx2 => rfl))
        | ((with_reducible refine wpl_store_mid (o := ⟨none, _, _, _, _, _⟩) _ rfl 30 (.tmp 23) (.tmp 22) rfl gl (i * 32) (cells8 S) ?hp4 ?hv4 30 X hbl3 hiS.out hfit.out (cells8_one _) ?_); (case hp4 => rfl); (case hv4 => rfl); intro w4 hbl4 hk4 hs4; clear hs4; have hbp4 := hbp3.keep hk4 (by omega); have hkw4 : Kept w w4 := Kept.trans' hkw3 hk4 (by omega))))
      rw [HN.out] at hbl4
      rw [HS'.out] at hbp4
      exact ⟨⟨i + 1, by omega, by go_num, hkw4, hbl4, hbp4⟩, by simp [intOf]; omega⟩
    · obtain rfl : i = n := by omega
      rw [linksTo_full L i (by have := hl.out; omega)] at hbl
      go_wp2
      go_ret
      refine ⟨_, rfl, gl, ?_, by omega, hbl, hkr⟩
      rw [hl.out]
      rfl
end Go.Proofs.YtholpkaicmckfaaDoor
