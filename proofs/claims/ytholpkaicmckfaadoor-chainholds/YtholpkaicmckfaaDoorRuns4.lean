/-
  Chapter 4's runs, as a contract of jobberlaw4.ChainRuns: it answers true and turns no block. No condition but the tables' contents.
-/
import Derived.Test.YtholpkaicmckfaaDoorChnClash
import Derived.Lib.SlBytesConst
namespace Go.Proofs.YtholpkaicmckfaaDoor
open Go.RowKit
set_option linter.unusedVariables false

def recs4 : List (List UInt8) := [[97], [98], []]
theorem diff_self (x : List (List UInt8)) : diffOf x x = -1 := diffFrom_same x _ 0

theorem recs4_laid (w : World) : RecV (((w.alloc (.cells #[.int .u8 97] 5 (1, 2))).alloc (.cells #[.int .u8 98] 5 (1, 2))).alloc (.cells #[.slice (some ⟨w.heap.size, 0, none⟩) 1 1, .slice (some ⟨w.heap.size + 1, 0, none⟩) 1 1, .slice none 0 0] 22)) (.slice (some ⟨w.heap.size + 1 + 1, 0, none⟩) 3 3) recs4 := by
  have b1 := bytes_marked w [97] (1, 2) 1 (by decide) (by omega)
  have b2 := bytes_marked (w.alloc (.cells (cells8 [97]).toArray 5 (1, 2))) [98] (1, 2) 1 (by decide) (by omega)
  rw [show (w.alloc (.cells (cells8 [97]).toArray 5 (1, 2))).heap.size = w.heap.size + 1 by simp] at b2
  have k2 : Kept (w.alloc (.cells (cells8 [97]).toArray 5 (1, 2))) ((w.alloc (.cells (cells8 [97]).toArray 5 (1, 2))).alloc (.cells (cells8 [98]).toArray 5 (1, 2))) := (Keep.refl _ _).alloc _
  have b1' := b1.kept k2
  have e3 : ((w.alloc (.cells (cells8 [97]).toArray 5 (1, 2))).alloc (.cells (cells8 [98]).toArray 5 (1, 2))).heap.size = w.heap.size + 1 + 1 := by simp
  have B3 := Blk.new ((w.alloc (.cells (cells8 [97]).toArray 5 (1, 2))).alloc (.cells (cells8 [98]).toArray 5 (1, 2))) 22 [.slice (some ⟨w.heap.size, 0, none⟩) 1 1, .slice (some ⟨w.heap.size + 1, 0, none⟩) 1 1, .slice none 0 0]
  rw [e3] at B3
  have k3 : Kept ((w.alloc (.cells (cells8 [97]).toArray 5 (1, 2))).alloc (.cells (cells8 [98]).toArray 5 (1, 2))) (((w.alloc (.cells (cells8 [97]).toArray 5 (1, 2))).alloc (.cells (cells8 [98]).toArray 5 (1, 2))).alloc (.cells #[.slice (some ⟨w.heap.size, 0, none⟩) 1 1, .slice (some ⟨w.heap.size + 1, 0, none⟩) 1 1, .slice none 0 0] 22)) := (Keep.refl _ _).alloc _
  refine ⟨_, 3, 3, rfl, rfl, ?_, Nat.le_refl _, by unfold maxLen; omega⟩
  intro i xs hx
  match i, hx with
  | 0, hx =>
    simp [recs4] at hx
    subst hx
    exact ⟨_, 0, _, rfl, B3.cell 0, b1'.kept k3⟩
  | 1, hx =>
    simp [recs4] at hx
    subst hx
    exact ⟨_, 0, _, rfl, B3.cell 1, b2.kept k3⟩
  | 2, hx =>
    simp [recs4] at hx
    subst hx
    exact ⟨_, 0, _, rfl, B3.cell 2, none, 0, 0, rfl, rfl, R8.nil _ _, Nat.le_refl _, by unfold maxLen; omega, fun _ => rfl⟩
theorem diff_cut (x : List (List UInt8)) (k : Nat) (hk : k ≤ x.length) : diffOf x (x.take k) = if k = x.length then -1 else (k : Int) := by
  have h : ∀ n i, i + n = k → diffFrom x (x.take k) i n = if k = x.length then -1 else (k : Int) := by
    intro n
    induction n with
    | zero =>
      intro i hi
      unfold diffFrom
      rw [List.length_take, Nat.min_eq_left hk]
      by_cases e : k = x.length
      · rw [if_pos e.symm, if_pos e]
      · rw [if_neg (fun h => e h.symm), if_neg e]
        omega
    | succ n ih =>
      intro i hi
      unfold diffFrom
      rw [if_pos (show x[i]? = (x.take k)[i]? by rw [List.getElem?_take, if_pos (by omega)])]
      exact ih (i + 1) (by omega)
  unfold diffOf
  rw [List.length_take, Nat.min_eq_left hk, Nat.min_eq_right hk]
  exact h k 0 (by omega)

set_option maxRecDepth 100000 in
set_option maxHeartbeats 800000 in
theorem chainRuns_any (w : World) (hG : Glob w) : Calls Tryd.prog 3 #[] w fun e w' => e = .returned (.bool true) ∧ Kept w w' := by
  have kc := fun (w : World) (C : Array Value) (n c : Nat) => Lib.run_convert_bytes_const (P := Tryd.prog) w 22 5 C n c Tryd.underlying22 Tryd.underlying5
  have kc2 : ∀ (w : World) (X : Obj) (C : Array Value) (n c : Nat), (convert 22 22 (.slice (some ⟨w.heap.size + 1, 0, none⟩) n c)).run Tryd.prog ((w.alloc X).alloc (.cells C 5)) = .ok (.slice (some ⟨w.heap.size + 1, 0, none⟩) n c) ((w.alloc X).alloc (.cells C 5 (C.size, C.size + 1))) := fun w X C n c => by
    have h := Lib.run_convert_bytes_const (P := Tryd.prog) (w.alloc X) 22 5 C n c Tryd.underlying22 Tryd.underlying5
    rw [show (w.alloc X).heap.size = w.heap.size + 1 by simp] at h
    exact h
  go_enter Tryd.func3, Tryd.ntmps3
  go_wp2_with fail
  have hv := recs4_laid w
  have hk0 : Kept w (((w.alloc (.cells #[.int .u8 97] 5 (1, 2))).alloc (.cells #[.int .u8 98] 5 (1, 2))).alloc (.cells #[.slice (some ⟨w.heap.size, 0, none⟩) 1 1, .slice (some ⟨w.heap.size + 1, 0, none⟩) 1 1, .slice none 0 0] 22)) := Keep.alloc (Keep.alloc (Keep.alloc (Keep.refl _ w) _) _) _
  generalize ((w.alloc (.cells #[.int .u8 97] 5 (1, 2))).alloc (.cells #[.int .u8 98] 5 (1, 2))).alloc (.cells #[.slice (some ⟨w.heap.size, 0, none⟩) 1 1, .slice (some ⟨w.heap.size + 1, 0, none⟩) 1 1, .slice none 0 0] 22) = w0 at hv hk0 ⊢
  generalize w.heap.size + 1 + 1 = g0 at hv ⊢
  have hL : recs4.length ≤ 1000000 := by decide
  have hE : ∀ x ∈ recs4, x.length ≤ 800000 := by decide
  have hG0 := hG.kept hk0
  have HV := Lib.hid hv
  clear kc kc2 hG hv
  refine (links_any _ recs4 w0 hG0 HV.out hL hE).mono ?_
  rintro e w1 ⟨u, rfl, g1, e1, hg1, hb1, hk1⟩
  have e1 : u = .slice (some ⟨g1, 0, none⟩) 3 3 := e1
  subst e1
  have HS := Lib.hid (sums_of_blk hb1 (linksOf_each recs4))
  have hkw1 := hk0.trans hk1
  have hl3 : Hid ((linksOf recs4).length = 3) := linksOf_length recs4
  have hl2 : Hid (((linksOf recs4).take 2).length = 2) := by show _ = _; rw [List.length_take, hl3.out]; rfl
  have d1 : Hid (clashOf recs4 recs4 = -1) := clashOf_self recs4
  have d2 : Hid (diffOf (linksOf recs4) (linksOf recs4) = -1) := diff_self _
  have d3 : Hid (diffOf (linksOf recs4) ((linksOf recs4).take 2) = 2) := by show _ = _; rw [diff_cut _ 2 (by rw [hl3.out]; omega), hl3.out]; rfl
  have HV1 := Lib.hid (HV.out.kept hk1)
  have hG1 := hG0.kept hk1
  clear hb1 hk1 hk0 HV hG0
  go_wp2_with fail
  refine (clash_any _ _ recs4 recs4 w1 hG1 HV1.out HV1.out hL hL hE hE).mono ?_
  rintro e w2 ⟨rfl, hk2⟩
  rw [d1.out]
  have hkw2 := hkw1.trans hk2
  have HV2 := Lib.hid (HV1.out.kept hk2)
  have HS2 := Lib.hid (HS.out.kept hk2)
  have hG2 := hG1.kept hk2
  clear hk2 HV1 HS hG1 hkw1
  go_wp2_with fail
  refine (check_any _ recs4 (linksOf recs4) _ 3 3 w2 hG2 HV2.out hL hE HS2.out hl3 (by omega)).mono ?_
  rintro e w3 ⟨rfl, hk3⟩
  rw [d2.out]
  have hkw3 := hkw2.trans hk3
  have HV3 := Lib.hid (HV2.out.kept hk3)
  have HS3 := Lib.hid (HS2.out.kept hk3)
  have hG3 := hG2.kept hk3
  clear hk3 HV2 HS2 hG2 hkw2
  go_wp2_with fail
  refine (check_any _ recs4 ((linksOf recs4).take 2) _ 2 3 w3 hG3 HV3.out hL hE (HS3.out.take 2) hl2 (by omega)).mono ?_
  rintro e w4 ⟨rfl, hk4⟩
  rw [d3.out]
  have hkw4 := hkw3.trans hk4
  clear hk4 HV3 HS3 hG3 hkw3
  go_wp2
  go_ret
  exact ⟨rfl, hkw4⟩
end Go.Proofs.YtholpkaicmckfaaDoor
