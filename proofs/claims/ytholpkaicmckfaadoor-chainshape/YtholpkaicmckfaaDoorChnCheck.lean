/-
  The contract of chain.Check: the first place at which the records' links and those handed in differ. Condition: lengths far below 2^47.
-/
import Derived.Test.YtholpkaicmckfaaDoorChnLinks
namespace Go.Proofs.YtholpkaicmckfaaDoor
open Go.RowKit
set_option linter.unusedVariables false

theorem eq_as (S T : List UInt8) (hS : S.length = 32) (hT : T.length = 32) (b : Bool) (hb : decide (S = T) = b) : ∀ u : World, (Op.equalIn 10000 30 (.agg (cells8 S).toArray) (.agg (cells8 T).toArray)).run Tryd.prog u = .ok b u := fun u => by
  rw [← hb]
  exact run_arr8 30 32 Tryd.underlying30 S T hS hT u

/-- from k on: what Check answers -/
theorem diff_at (x y : List (List UInt8)) (i : Nat) (h : i < min x.length y.length) (e : x[i]? = y[i]?) : diffFrom x y i (min x.length y.length - i) = diffFrom x y (i + 1) (min x.length y.length - (i + 1)) := by
  rw [show min x.length y.length - i = (min x.length y.length - (i + 1)) + 1 by omega, diffFrom, if_pos e]
theorem diff_hit (x y : List (List UInt8)) (i : Nat) (h : i < min x.length y.length) (e : x[i]? ≠ y[i]?) : diffFrom x y i (min x.length y.length - i) = (i : Int) := by
  rw [show min x.length y.length - i = (min x.length y.length - (i + 1)) + 1 by omega, diffFrom, if_neg e]

set_option maxRecDepth 100000 in
set_option maxHeartbeats 800000 in
theorem check_any (v : Value) (L X : List (List UInt8)) (B : Option Addr) (m d : Nat) (w : World) (hG : Glob w) (hv : RecV w v L) (hn : L.length ≤ 1000000) (hb : ∀ x ∈ L, x.length ≤ 800000) (hX : Sums w B X) (hm : Hid (X.length = m)) (hmm : m ≤ 1000000) :
    Calls Tryd.prog 10 #[v, .slice B m d] w fun e w' => e = .returned (.int .i64 (diffOf (linksOf L) X)) ∧ Kept w w' := by
  have HX := Lib.hid hX
  have HB := Lib.hid hb
  have HG := Lib.hid hG
  have HV := Lib.hid hv
  obtain ⟨D, hD⟩ : ∃ D, D = diffOf (linksOf L) X := ⟨_, rfl⟩
  rw [← hD]
  have HD := Lib.hid hD
  clear hX hb hG hv hD
  go_enter Tryd.func10, Tryd.ntmps10
  go_wp2_with fail
  refine (links_any v L w HG.out HV.out hn HB.out).mono ?_
  rintro e w1 ⟨u, rfl, g, rfl, hg, hbk, hk1⟩
  have HR := Lib.hid (sums_of_blk hbk (linksOf_each L))
  have hRl := Lib.hid (linksOf_length L)
  generalize linksOf L = R at HR hRl HD
  generalize L.length = n at hRl hn ⊢
  obtain ⟨b, hbb⟩ : ∃ b, b = min n m := ⟨_, rfl⟩
  have hmin : (if m < n then (m : Int) else (n : Int)) = (b : Int) := by split <;> omega
  have hb1 : b ≤ n := by omega
  have hb2 : b ≤ m := by omega
  have HBB := Lib.hid hbb
  clear hbk hbb
  go_wp2_with fail
  go_loopw [16] (fun q wr => ∃ i : Nat, i ≤ b ∧ q = .int .i64 i ∧ Kept w1 wr ∧ Hid (D = diffFrom R X i (min R.length X.length - i))) (fun q _ => b - (intOf q).toNat)
  case atStart => exact ⟨0, Nat.zero_le _, rfl, Kept.refl _, HD.out⟩
  case round =>
    obtain ⟨i, hi, rfl, hkr, HDi⟩ := hrel
    by_cases hlt : i < b
    · have hiR : i < R.length := by rw [hRl.out]; omega
      have hiX : i < X.length := by rw [hm.out]; omega
      obtain ⟨hl1, g1, e1, hr1⟩ := HR.out i R[i] (List.getElem?_eq_getElem hiR)
      obtain ⟨hl2, g2, rfl, hr2⟩ := HX.out i X[i] (List.getElem?_eq_getElem hiX)
      injection e1 with e1
      injection e1 with e1
      subst e1
      have hmi : Hid (i < min R.length X.length) := by show _ < _; omega
      have HEQ : Hid (R[i]? = X[i]? ↔ R[i] = X[i]) := by
        show _ ↔ _
        rw [List.getElem?_eq_getElem hiR, List.getElem?_eq_getElem hiX]
        simp
      generalize hxr : R[i] = xr at hl1 hr1 HEQ
      generalize hxx : X[i] = xx at hl2 hr2 HEQ
      clear hxr hxx hiR hiX
      have q1 : ∀ u, Kept w1 u → u.rangeAt g (0 + i * 32) (cells8 xr) := fun u hu j v hv => by rw [Nat.zero_add]; exact hu.cell (hr1 j v hv)
      have q2 : ∀ u, Kept w1 u → u.rangeAt g2 (0 + i * 32) (cells8 xx) := fun u hu j v hv => by rw [Nat.zero_add]; exact (hk1.trans hu).cell (hr2 j v hv)
      go_wp2_with fail
      refine wp_class_tail (C := fun u => Kept w1 u) 8 (by kernel_rfl) (by kernel_rfl) (Keep.drew hkr) ?_
      simp only [List.take_succ_cons, List.take_zero, List.drop_succ_cons, List.drop_zero]
      refine q_val (.slice (some ⟨g, 0, none⟩) n n) (by kernel_rfl) (fun u hu => exec_move (.tmp 5) (.slice (some ⟨g, 0, none⟩) n n) rfl (by kernel_rfl)) ?_
      simp only [Act.put, List.setIfInBounds_toArray, List.set_cons_succ, List.set_cons_zero]
      refine q_val (.int .i64 (i : Int)) (by kernel_rfl) (fun u hu => exec_move (.tmp 7) (.int .i64 (i : Int)) rfl (by kernel_rfl)) ?_
      simp only [Act.put, List.setIfInBounds_toArray, List.set_cons_succ, List.set_cons_zero]
      refine q_val (.pointer (some ⟨g, 0 + i * 32, none⟩)) (by kernel_rfl) (fun u hu => exec_index 24 30 32 (.tmp 19) (.tmp 20) g 0 n n i rfl Tryd.underlying24 sum_size (by kernel_rfl) (by kernel_rfl) (by omega)) ?_
      simp only [Act.put, List.setIfInBounds_toArray, List.set_cons_succ, List.set_cons_zero]
      refine q_val (.agg (cells8 xr).toArray) (by kernel_rfl) (fun u hu => exec_load_mid (.tmp 21) g (0 + i * 32) xr rfl (by kernel_rfl) (q1 u hu) hl1) ?_
      simp only [Act.put, List.setIfInBounds_toArray, List.set_cons_succ, List.set_cons_zero]
      refine q_val (.slice (some ⟨g2, 0, none⟩) m d) (by kernel_rfl) (fun u hu => exec_move (.tmp 1) (.slice (some ⟨g2, 0, none⟩) m d) rfl (by kernel_rfl)) ?_
      simp only [Act.put, List.setIfInBounds_toArray, List.set_cons_succ, List.set_cons_zero]
      refine q_val (.int .i64 (i : Int)) (by kernel_rfl) (fun u hu => exec_move (.tmp 7) (.int .i64 (i : Int)) rfl (by kernel_rfl)) ?_
      simp only [Act.put, List.setIfInBounds_toArray, List.set_cons_succ, List.set_cons_zero]
      refine q_val (.pointer (some ⟨g2, 0 + i * 32, none⟩)) (by kernel_rfl) (fun u hu => exec_index 24 30 32 (.tmp 23) (.tmp 24) g2 0 m d i rfl Tryd.underlying24 sum_size (by kernel_rfl) (by kernel_rfl) (by omega)) ?_
      simp only [Act.put, List.setIfInBounds_toArray, List.set_cons_succ, List.set_cons_zero]
      refine q_val (.agg (cells8 xx).toArray) (by kernel_rfl) (fun u hu => exec_load_mid (.tmp 25) g2 (0 + i * 32) xx rfl (by kernel_rfl) (q2 u hu) hl2) ?_
      simp only [Act.put, List.setIfInBounds_toArray, List.set_cons_succ, List.set_cons_zero]
      refine wpQuiet_nil ?_
      intro w3 hk3
      clear hkr q1 q2 hr1 hr2
      by_cases he : xr = xx
      · have hq := eq_as xr xx hl1 hl2 true (decide_eq_true he)
        have HDn := Lib.hid (HDi.out.trans (diff_at R X i hmi.out (HEQ.out.2 he)))
        clear he hl1 hl2
        go_wp2
        exact ⟨⟨i + 1, by omega, by go_num, hk3, HDn⟩, by simp [intOf]; omega⟩
      · have hq := eq_as xr xx hl1 hl2 false (decide_eq_false he)
        have HDn := Lib.hid (HDi.out.trans (diff_hit R X i hmi.out (fun h => he (HEQ.out.1 h))))
        clear he hl1 hl2
        go_wp2
        go_ret
        exact ⟨ret_int HDn.out.symm, hk1.trans hk3⟩
    · obtain rfl : i = b := by omega
      have hD0 : D = diffFrom R X i 0 := by
        have h1 := HBB.out
        have h2 := hRl.out
        have h3 := hm.out
        have := HDi.out
        rwa [show min R.length X.length - i = 0 by omega] at this
      unfold diffFrom at hD0
      rw [hRl.out, hm.out] at hD0
      have HD0 := Lib.hid hD0
      clear hD0 HDi hmin
      by_cases he : n = m
      · subst he
        go_wp2
        go_ret
        exact ⟨ret_int (by rw [HD0.out]; simp), hk1.trans hkr⟩
      · have hne : ((n : Int) != (m : Int)) = true := by rw [bne_iff_ne]; omega
        go_wp2
        go_ret
        exact ⟨ret_int (by rw [HD0.out, if_neg he]), hk1.trans hkr⟩
end Go.Proofs.YtholpkaicmckfaaDoor
