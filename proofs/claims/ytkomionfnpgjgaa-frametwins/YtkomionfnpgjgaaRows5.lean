/-
  The contract of jobberlaw5.rows: whether two rows of bodies are the same. Condition: lengths far below 2^47.
-/
import Derived.Test.YtkomionfnpgjgaaExec
import Derived.Test.YtkomionfnpgjgaaSame
namespace Go.Proofs.Ytkomionfnpgjgaa
open Go.RowKit
set_option linter.unusedVariables false

theorem take_eq_next {α : Type} {xs ys : List α} {k : Nat} (h : xs.take k = ys.take k) (he : xs[k]? = ys[k]?) : xs.take (k + 1) = ys.take (k + 1) := by
  rw [List.take_add_one, List.take_add_one, h, he]
theorem take_all {α : Type} {xs ys : List α} {k : Nat} (h : xs.take k = ys.take k) (h1 : xs.length ≤ k) (h2 : ys.length ≤ k) : xs = ys := by
  rwa [List.take_of_length_le h1, List.take_of_length_le h2] at h

set_option maxRecDepth 100000 in
set_option maxHeartbeats 800000 in
theorem rows_any (va vb : Value) (La Lb : List (List UInt8)) (w : World) (ha : RecV w va La) (hb : RecV w vb Lb) (hna : La.length ≤ 1000000) (hnb : Lb.length ≤ 1000000) :
    Calls Try.prog 11 #[va, vb] w fun e w' => e = .returned (.bool (decide (La = Lb))) ∧ Kept w w' := by
  obtain ⟨A, n, c, rfl, hla, hA, -, -⟩ := ha
  obtain ⟨B, m, d, rfl, hlb, hB, -, -⟩ := hb
  have hn : n ≤ 1000000 := by have := hla.out; omega
  have hm : m ≤ 1000000 := by have := hlb.out; omega
  have HA := Lib.hid hA
  have HB := Lib.hid hB
  clear hA hB hna hnb
  by_cases hnm : n = m
  · subst hnm
    go_enter Try.func11, Try.ntmps11
    go_wp2_with fail
    go_loopw [13] (fun v wr => ∃ i : Nat, i ≤ n ∧ v = .int .i64 i ∧ Kept w wr ∧ Hid (La.take i = Lb.take i)) (fun v _ => n - (intOf v).toNat)
    case atStart => exact ⟨0, Nat.zero_le _, rfl, Kept.refl _, rfl⟩
    case round =>
      obtain ⟨i, hi, rfl, hkr, HT⟩ := hrel
      by_cases hlt : i < n
      · have hia : i < La.length := by rw [hla.out]; omega
        have hib : i < Lb.length := by rw [hlb.out]; omega
        obtain ⟨b1, o1, u1, rfl, hc1, hu1⟩ := HA.out i La[i] (List.getElem?_eq_getElem hia)
        obtain ⟨b2, o2, u2, rfl, hc2, hu2⟩ := HB.out i Lb[i] (List.getElem?_eq_getElem hib)
        have HEQ : Hid (La[i]? = Lb[i]? ↔ La[i] = Lb[i]) := by
          show _ ↔ _
          rw [List.getElem?_eq_getElem hia, List.getElem?_eq_getElem hib]
          simp
        generalize La[i] = xa at hu1 HEQ
        generalize Lb[i] = xb at hu2 HEQ
        obtain ⟨A1, n1, k1, rfl, hl1, hR1, hn1, hm1, -⟩ := hu1
        obtain ⟨A2, n2, k2, rfl, hl2, hR2, hn2, hm2, -⟩ := hu2
        have HC1 : Hid (w.cell? ⟨b1, o1 + i * 1, none⟩ = some (.slice A1 n1 k1)) := by show _ = _; rw [Nat.mul_one]; exact hc1
        have HC2 : Hid (w.cell? ⟨b2, o2 + i * 1, none⟩ = some (.slice A2 n2 k2)) := by show _ = _; rw [Nat.mul_one]; exact hc2
        have HR1 := Lib.hid hR1
        have HR2 := Lib.hid hR2
        clear hc1 hc2 hR1 hR2 hia hib
        go_wp2_with fail
        by_cases hx : xa = xb
        · skip
          refine wp_sched (fun u => Kept w u) [(0, 0), (1, 0), (2, 0), (3, 0), (4, 0), (5, 0), (6, 0), (7, 0), (8, 1), (9, 0)] (by kernel_rfl) (by kernel_rfl) (Keep.drew hkr) ?_
          refine s_val (o := ⟨some 16, _, _, _, _, _⟩) (.slice (some ⟨b1, o1, none⟩) n c) rfl (by kernel_rfl) (fun u hu => exec_move (.tmp 0) (.slice (some ⟨b1, o1, none⟩) n c) rfl (by kernel_rfl)) ?_
          simp only [Act.put, List.setIfInBounds_toArray, List.set_cons_succ, List.set_cons_zero]
          refine s_val (o := ⟨some 17, _, _, _, _, _⟩) (.int .i64 (i : Int)) rfl (by kernel_rfl) (fun u hu => exec_move (.tmp 5) (.int .i64 (i : Int)) rfl (by kernel_rfl)) ?_
          simp only [Act.put, List.setIfInBounds_toArray, List.set_cons_succ, List.set_cons_zero]
          refine s_val (o := ⟨some 18, _, _, _, _, _⟩) (.pointer (some ⟨b1, o1 + i * 1, none⟩)) rfl (by kernel_rfl) (fun u hu => exec_index 24 26 1 (.tmp 16) (.tmp 17) (b1) (o1) (n) (c) (i) rfl Try.underlying24 sl_size (by kernel_rfl) (by kernel_rfl) (by omega)) ?_
          simp only [Act.put, List.setIfInBounds_toArray, List.set_cons_succ, List.set_cons_zero]
          refine s_val (o := ⟨some 19, _, _, _, _, _⟩) (.slice A1 n1 k1) rfl (by kernel_rfl) (fun u hu => exec_load_sl (.tmp 18) ⟨b1, o1 + i * 1, none⟩ (.slice A1 n1 k1) rfl (by kernel_rfl) (Kept.cell hu HC1.out)) ?_
          simp only [Act.put, List.setIfInBounds_toArray, List.set_cons_succ, List.set_cons_zero]
          refine s_val (o := ⟨some 20, _, _, _, _, _⟩) (.slice (some ⟨b2, o2, none⟩) n d) rfl (by kernel_rfl) (fun u hu => exec_move (.tmp 1) (.slice (some ⟨b2, o2, none⟩) n d) rfl (by kernel_rfl)) ?_
          simp only [Act.put, List.setIfInBounds_toArray, List.set_cons_succ, List.set_cons_zero]
          refine s_val (o := ⟨some 21, _, _, _, _, _⟩) (.int .i64 (i : Int)) rfl (by kernel_rfl) (fun u hu => exec_move (.tmp 5) (.int .i64 (i : Int)) rfl (by kernel_rfl)) ?_
          simp only [Act.put, List.setIfInBounds_toArray, List.set_cons_succ, List.set_cons_zero]
          refine s_val (o := ⟨some 22, _, _, _, _, _⟩) (.pointer (some ⟨b2, o2 + i * 1, none⟩)) rfl (by kernel_rfl) (fun u hu => exec_index 24 26 1 (.tmp 20) (.tmp 21) (b2) (o2) (n) (d) (i) rfl Try.underlying24 sl_size (by kernel_rfl) (by kernel_rfl) (by omega)) ?_
          simp only [Act.put, List.setIfInBounds_toArray, List.set_cons_succ, List.set_cons_zero]
          refine s_val (o := ⟨some 23, _, _, _, _, _⟩) (.slice A2 n2 k2) rfl (by kernel_rfl) (fun u hu => exec_load_sl (.tmp 22) ⟨b2, o2 + i * 1, none⟩ (.slice A2 n2 k2) rfl (by kernel_rfl) (Kept.cell hu HC2.out)) ?_
          simp only [Act.put, List.setIfInBounds_toArray, List.set_cons_succ, List.set_cons_zero]
          refine s_call (o := ⟨some 24, _, _, _, _, _⟩) 17 #[.slice A1 n1 k1, .slice A2 n2 k2] rfl (by kernel_rfl) (exec_call 17 _ [.tmp 19, .tmp 23] _ _ Try.func17 (by kernel_rfl) (by kernel_rfl) rfl (by kernel_rfl)) ?_
          refine (same_is A1 A2 n1 n2 k1 k2 xa xb true wr.drew (decide_eq_true hx) (HR1.out.kept (Keep.drew hkr)) (HR2.out.kept (Keep.drew hkr)) (by omega) hl1 hl2).mono ?_
          rintro e w3 ⟨rfl, k3, rfl⟩
          have hk3 : Kept w (wr.drew.drewN k3) := Keep.drewN (Keep.drew hkr) k3
          generalize wr.drew.drewN k3 = w3 at hk3 ⊢
          refine ⟨_, rfl, hk3, ?_⟩
          simp only [Act.put, List.setIfInBounds_toArray, List.set_cons_succ, List.set_cons_zero]
          refine s_val (o := ⟨some 25, _, _, _, _, _⟩) (.bool false) rfl (by kernel_rfl) (fun u hu => exec_not _ (.tmp 24) true rfl (by kernel_rfl)) ?_
          simp only [Act.put, List.setIfInBounds_toArray, List.set_cons_succ, List.set_cons_zero]
          refine s_done ?_
          have HT2 := Lib.hid (take_eq_next HT.out (HEQ.out.2 hx))
          clear hkr hx
          go_wp2
          exact ⟨⟨i + 1, by omega, by go_num, hk3, HT2⟩, by simp [intOf]; omega⟩
        · skip
          refine wp_sched (fun u => Kept w u) [(0, 0), (1, 0), (2, 0), (3, 0), (4, 0), (5, 0), (6, 0), (7, 0), (8, 1), (9, 0)] (by kernel_rfl) (by kernel_rfl) (Keep.drew hkr) ?_
          refine s_val (o := ⟨some 16, _, _, _, _, _⟩) (.slice (some ⟨b1, o1, none⟩) n c) rfl (by kernel_rfl) (fun u hu => exec_move (.tmp 0) (.slice (some ⟨b1, o1, none⟩) n c) rfl (by kernel_rfl)) ?_
          simp only [Act.put, List.setIfInBounds_toArray, List.set_cons_succ, List.set_cons_zero]
          refine s_val (o := ⟨some 17, _, _, _, _, _⟩) (.int .i64 (i : Int)) rfl (by kernel_rfl) (fun u hu => exec_move (.tmp 5) (.int .i64 (i : Int)) rfl (by kernel_rfl)) ?_
          simp only [Act.put, List.setIfInBounds_toArray, List.set_cons_succ, List.set_cons_zero]
          refine s_val (o := ⟨some 18, _, _, _, _, _⟩) (.pointer (some ⟨b1, o1 + i * 1, none⟩)) rfl (by kernel_rfl) (fun u hu => exec_index 24 26 1 (.tmp 16) (.tmp 17) (b1) (o1) (n) (c) (i) rfl Try.underlying24 sl_size (by kernel_rfl) (by kernel_rfl) (by omega)) ?_
          simp only [Act.put, List.setIfInBounds_toArray, List.set_cons_succ, List.set_cons_zero]
          refine s_val (o := ⟨some 19, _, _, _, _, _⟩) (.slice A1 n1 k1) rfl (by kernel_rfl) (fun u hu => exec_load_sl (.tmp 18) ⟨b1, o1 + i * 1, none⟩ (.slice A1 n1 k1) rfl (by kernel_rfl) (Kept.cell hu HC1.out)) ?_
          simp only [Act.put, List.setIfInBounds_toArray, List.set_cons_succ, List.set_cons_zero]
          refine s_val (o := ⟨some 20, _, _, _, _, _⟩) (.slice (some ⟨b2, o2, none⟩) n d) rfl (by kernel_rfl) (fun u hu => exec_move (.tmp 1) (.slice (some ⟨b2, o2, none⟩) n d) rfl (by kernel_rfl)) ?_
          simp only [Act.put, List.setIfInBounds_toArray, List.set_cons_succ, List.set_cons_zero]
          refine s_val (o := ⟨some 21, _, _, _, _, _⟩) (.int .i64 (i : Int)) rfl (by kernel_rfl) (fun u hu => exec_move (.tmp 5) (.int .i64 (i : Int)) rfl (by kernel_rfl)) ?_
          simp only [Act.put, List.setIfInBounds_toArray, List.set_cons_succ, List.set_cons_zero]
          refine s_val (o := ⟨some 22, _, _, _, _, _⟩) (.pointer (some ⟨b2, o2 + i * 1, none⟩)) rfl (by kernel_rfl) (fun u hu => exec_index 24 26 1 (.tmp 20) (.tmp 21) (b2) (o2) (n) (d) (i) rfl Try.underlying24 sl_size (by kernel_rfl) (by kernel_rfl) (by omega)) ?_
          simp only [Act.put, List.setIfInBounds_toArray, List.set_cons_succ, List.set_cons_zero]
          refine s_val (o := ⟨some 23, _, _, _, _, _⟩) (.slice A2 n2 k2) rfl (by kernel_rfl) (fun u hu => exec_load_sl (.tmp 22) ⟨b2, o2 + i * 1, none⟩ (.slice A2 n2 k2) rfl (by kernel_rfl) (Kept.cell hu HC2.out)) ?_
          simp only [Act.put, List.setIfInBounds_toArray, List.set_cons_succ, List.set_cons_zero]
          refine s_call (o := ⟨some 24, _, _, _, _, _⟩) 17 #[.slice A1 n1 k1, .slice A2 n2 k2] rfl (by kernel_rfl) (exec_call 17 _ [.tmp 19, .tmp 23] _ _ Try.func17 (by kernel_rfl) (by kernel_rfl) rfl (by kernel_rfl)) ?_
          refine (same_is A1 A2 n1 n2 k1 k2 xa xb false wr.drew (decide_eq_false hx) (HR1.out.kept (Keep.drew hkr)) (HR2.out.kept (Keep.drew hkr)) (by omega) hl1 hl2).mono ?_
          rintro e w3 ⟨rfl, k3, rfl⟩
          have hk3 : Kept w (wr.drew.drewN k3) := Keep.drewN (Keep.drew hkr) k3
          generalize wr.drew.drewN k3 = w3 at hk3 ⊢
          refine ⟨_, rfl, hk3, ?_⟩
          simp only [Act.put, List.setIfInBounds_toArray, List.set_cons_succ, List.set_cons_zero]
          refine s_val (o := ⟨some 25, _, _, _, _, _⟩) (.bool true) rfl (by kernel_rfl) (fun u hu => exec_not _ (.tmp 24) false rfl (by kernel_rfl)) ?_
          simp only [Act.put, List.setIfInBounds_toArray, List.set_cons_succ, List.set_cons_zero]
          refine s_done ?_
          have HN : Hid (La ≠ Lb) := fun h => hx (HEQ.out.1 (by rw [h]))
          clear hkr hx
          go_wp2
          go_ret
          exact ⟨ret_bool (decide_eq_false HN.out).symm, hk3⟩
      · go_wp2
        go_ret
        exact ⟨ret_bool (decide_eq_true (take_all HT.out (by have := hla.out; omega) (by have := hlb.out; omega))).symm, hkr⟩
  · have hne : ((n : Int) != (m : Int)) = true := by rw [bne_iff_ne]; omega
    have HN : Hid (La ≠ Lb) := fun h => hnm (by have h1 := hla.out; have h2 := hlb.out; rw [h] at h1; omega)
    clear hnm
    go_enter Try.func11, Try.ntmps11
    go_wp2
    go_ret
    exact ⟨ret_bool (decide_eq_false HN.out).symm, Kept.refl _⟩
end Go.Proofs.Ytkomionfnpgjgaa
