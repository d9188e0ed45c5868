/-
  Contracts of package frame's join, valid, length. Conditions: lengths far below 2^47; length: two bytes are there.
-/
import Derived.Test.YtkomionfnpgjgaaBeM
import Derived.Test.YtkomionfnpgjgaaExecN
import Derived.Laws.BitsAllLaws
import Derived.Laws.BitsLemmas
namespace Go.Proofs.Ytkomionfnpgjgaa
open Go.RowKit
set_option linter.unusedVariables false

set_option maxHeartbeats 400000 in
theorem join_any (A B : Option Addr) (n m c d : Nat) (xs ys : List UInt8) (w : World) (hx : R8 w A xs) (hy : R8 w B ys) (hl : Hid (xs.length = n)) (hl' : Hid (ys.length = m)) (hA : A = none → c = 0) (hB : B = none → d = 0) (hn : n ≤ 1000000) (hm : m ≤ 1000000) :
    Calls Try.prog 21 #[.slice A n c, .slice B m d] w (Wrote w (n + m) (xs ++ ys)) := by
  have hmk : ∀ u : World, (Instr.makeSlice 26 (.int .i64 0) (.int .i64 ((n : Int) + (m : Int)))).run Try.prog u =
      .ok (.slice (some ⟨u.heap.size, 0, none⟩) 0 (n + m)) (u.alloc (.cells (madeCells #[.int .u8 0] (n + m)) 5)) := fun u => by
    have h := run_make8 0 (n + m) (by omega) (by omega) u
    rw [Int.natCast_add] at h
    exact h
  have hB0 := blk_made w 5 (.int .u8 0) (n + m)
  have R0 : Row8 (w.alloc (.cells (madeCells #[.int .u8 0] (n + m)) 5)) w.heap.size (n + m) [] := ⟨List.replicate (n + m) (.int .u8 0), by simpa [cells8] using hB0, by simp, by unfold maxLen; omega⟩
  have hk0 : Kept w (w.alloc (.cells (madeCells #[.int .u8 0] (n + m)) 5)) := (Keep.refl _ w).alloc _
  have HX := Lib.hid (hx.kept hk0)
  have HY := Lib.hid hy
  have HR := Lib.hid R0
  have HAn := Lib.hid hA
  have HBn := Lib.hid hB
  clear hx hy hB0 R0 hA hB
  go_enter Try.func21, Try.ntmps21
  go_wp2_with (at_builtin; refine wpl_append8 _ rfl (.tmp 12) (.tmp 13) rfl w.heap.size w.heap.size (n + m) 0 [] rfl rfl HR.out (Nat.le_refl _) A n c xs rfl hl.out HX.out HAn.out (by omega) ?_)
  intro w1 g1 c1 R1 hg1 k1
  have hk1 : Kept w w1 := Kept.trans' hk0 k1 (by omega)
  have HR1 := Lib.hid R1
  have HY1 := Lib.hid (HY.out.kept hk1)
  clear k1 R1 HR HX hk0 HY hmk
  go_wp2_with (at_builtin; refine wpl_append8 _ rfl (.tmp 14) (.tmp 15) rfl w.heap.size g1 c1 n xs rfl hl.out HR1.out hg1 B m d ys rfl hl'.out HY1.out HBn.out (by omega) ?_)
  intro w2 g2 c2 R2 hg2 k2
  have hk2 : Kept w w2 := Kept.trans' hk1 k2 (by omega)
  go_wp2
  go_ret
  exact ⟨g2, c2, rfl, hg2, R2, hk2⟩

theorem join_one (A : Option Addr) (n c : Nat) (xs : List UInt8) (w : World) (hx : R8 w A xs) (hl : Hid (xs.length = n)) (hA : A = none → c = 0) (hn : n ≤ 1000000) :
    Calls Try.prog 21 #[.slice A n c, .slice none 0 0] w (Wrote w n xs) := by
  have h := join_any A none n 0 c 0 xs [] w hx (R8.nil _ _) hl rfl hA (fun _ => rfl) hn (by omega)
  rw [List.append_nil] at h
  exact h

set_option maxHeartbeats 400000 in
theorem length_any (g o n c : Nat) (xs : List UInt8) (w : World) (hx : R8 w (some ⟨g, o, none⟩) xs) (hl : Hid (xs.length = n)) (hn : n ≤ 2000000) (h2 : 2 ≤ n) :
    Calls Try.prog 22 #[.slice (some ⟨g, o, none⟩) n c] w fun e w' => e = .returned (.int .i64 ((hdOf xs : Nat) : Int)) ∧ ∃ k, w' = w.drewN k := by
  have h0' : 0 < xs.length := by rw [hl.out]; omega
  have h1' : 1 < xs.length := by rw [hl.out]; omega
  obtain ⟨ad, e, h0⟩ := hx 0 (xs.getD 0 0) (by rw [List.getD_eq_getElem?_getD, List.getElem?_eq_getElem h0']; rfl)
  injection e with e
  subst e
  obtain ⟨ad', e, h1⟩ := hx 1 (xs.getD 1 0) (by rw [List.getD_eq_getElem?_getD, List.getElem?_eq_getElem h1']; rfl)
  injection e with e
  subst e
  have HL : Hid (hdOf xs = (xs.getD 0 0).toNat * 256 + (xs.getD 1 0).toNat) := rfl
  generalize xs.getD 0 0 = x at h0 HL
  generalize xs.getD 1 0 = y at h1 HL
  rw [Addr.add_mid] at h0 h1
  have H0 := Lib.hid h0
  have H1 := Lib.hid h1
  clear h0 h1 h0' h1' hx
  go_enter Try.func22, Try.ntmps22
  go_wp2_with fail
  refine wp_class_tail (C := fun u => ∃ k, u = w.drewN k) 10 (by kernel_rfl) (by kernel_rfl) (⟨1, rfl⟩) ?_
  simp only [List.take_succ_cons, List.take_zero, List.drop_succ_cons, List.drop_zero]
  refine q_val (.slice (some ⟨g, o, none⟩) n c) (by kernel_rfl) (fun u hu => exec_move (.tmp 0) (.slice (some ⟨g, o, none⟩) n c) rfl (by kernel_rfl)) ?_
  simp only [Act.put, List.setIfInBounds_toArray, List.set_cons_succ, List.set_cons_zero]
  refine q_val (.pointer (some ⟨g, o + 0 * 1, none⟩)) (by kernel_rfl) (fun u hu => exec_index 26 5 1 (.tmp 3) (.const (.int .i64 0)) g o n c 0 rfl Try.underlying26 info8s (by kernel_rfl) (by kernel_rfl) (by omega)) ?_
  simp only [Act.put, List.setIfInBounds_toArray, List.set_cons_succ, List.set_cons_zero]
  refine q_val (.int .u8 (x.toNat : Int)) (by kernel_rfl) (fun u hu => exec_load8 (.tmp 4) ⟨g, o + 0 * 1, none⟩ _ rfl (by kernel_rfl) (by obtain ⟨k, rfl⟩ := hu; exact H0.out)) ?_
  simp only [Act.put, List.setIfInBounds_toArray, List.set_cons_succ, List.set_cons_zero]
  refine q_val (.int .i64 (x.toNat : Int)) (by kernel_rfl) (fun u hu => exec_conv8 (.tmp 5) x rfl (by kernel_rfl)) ?_
  simp only [Act.put, List.setIfInBounds_toArray, List.set_cons_succ, List.set_cons_zero]
  refine q_val (.int .i64 ((x.toNat * 256 : Nat) : Int)) (by kernel_rfl) (fun u hu => exec_shl8 (.tmp 6) _ x rfl (by kernel_rfl)) ?_
  simp only [Act.put, List.setIfInBounds_toArray, List.set_cons_succ, List.set_cons_zero]
  refine q_val (.slice (some ⟨g, o, none⟩) n c) (by kernel_rfl) (fun u hu => exec_move (.tmp 0) (.slice (some ⟨g, o, none⟩) n c) rfl (by kernel_rfl)) ?_
  simp only [Act.put, List.setIfInBounds_toArray, List.set_cons_succ, List.set_cons_zero]
  refine q_val (.pointer (some ⟨g, o + 1 * 1, none⟩)) (by kernel_rfl) (fun u hu => exec_index 26 5 1 (.tmp 8) (.const (.int .i64 1)) g o n c 1 rfl Try.underlying26 info8s (by kernel_rfl) (by kernel_rfl) (by omega)) ?_
  simp only [Act.put, List.setIfInBounds_toArray, List.set_cons_succ, List.set_cons_zero]
  refine q_val (.int .u8 (y.toNat : Int)) (by kernel_rfl) (fun u hu => exec_load8 (.tmp 9) ⟨g, o + 1 * 1, none⟩ _ rfl (by kernel_rfl) (by obtain ⟨k, rfl⟩ := hu; exact H1.out)) ?_
  simp only [Act.put, List.setIfInBounds_toArray, List.set_cons_succ, List.set_cons_zero]
  refine q_val (.int .i64 (y.toNat : Int)) (by kernel_rfl) (fun u hu => exec_conv8 (.tmp 10) y rfl (by kernel_rfl)) ?_
  simp only [Act.put, List.setIfInBounds_toArray, List.set_cons_succ, List.set_cons_zero]
  refine q_val (.int .i64 ((x.toNat * 256 + y.toNat : Nat) : Int)) (by kernel_rfl) (fun u hu => exec_or8 (.tmp 7) (.tmp 11) _ x y rfl (by kernel_rfl) (by kernel_rfl)) ?_
  simp only [Act.put, List.setIfInBounds_toArray, List.set_cons_succ, List.set_cons_zero]
  refine wpQuiet_nil ?_
  rintro _ ⟨k, rfl⟩
  go_wp2
  go_ret
  exact ⟨ret_int (by rw [HL.out]), _, rfl⟩
set_option maxHeartbeats 400000 in
theorem valid_any (n : Nat) (b : Bool) (w : World) (hb : b = decide (1 ≤ n ∧ n ≤ 256)) : Calls Try.prog 23 #[.int .i64 (n : Int)] w fun e w' => e = .returned (.bool b) ∧ w = w' := by
  subst hb
  by_cases h1 : 1 ≤ n
  · by_cases h2 : n ≤ 256
    · rw [decide_eq_true ⟨h1, h2⟩]
      have d1 : decide ((0 : Int) < (n : Int)) = true := by simp; omega
      have d2 : decide ((n : Int) ≤ 256) = true := by simp; omega
      go_enter Try.func23, Try.ntmps23
      go_wp2
      go_ret
      exact ⟨rfl, rfl⟩
    · rw [decide_eq_false (fun h => h2 h.2)]
      have d1 : decide ((0 : Int) < (n : Int)) = true := by simp; omega
      have d2 : decide ((n : Int) ≤ 256) = false := by simp; omega
      go_enter Try.func23, Try.ntmps23
      go_wp2
      go_ret
      exact ⟨rfl, rfl⟩
  · rw [decide_eq_false (fun h => h1 h.1)]
    have d1 : decide ((0 : Int) < (n : Int)) = false := by simp; omega
    go_enter Try.func23, Try.ntmps23
    go_wp2
    go_ret
    exact ⟨rfl, rfl⟩
end Go.Proofs.Ytkomionfnpgjgaa
