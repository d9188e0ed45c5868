/-
  Chapter 5's runs, as a contract of jobberlaw5.FrameRuns: it answers true and turns no block. No condition.
-/
import Derived.Test.YtkomionfnpgjgaaFrmFeed
import Derived.Test.YtkomionfnpgjgaaRows5
namespace Go.Proofs.Ytkomionfnpgjgaa
open Go.RowKit
set_option linter.unusedVariables false

/-- one body in a row of its own -/
theorem recv_one {w : World} {v : Value} {xs : List UInt8} (h : Bytes w v xs) : RecV (w.alloc (.cells #[v] 26)) (.slice (some ⟨w.heap.size, 0, none⟩) 1 1) [xs] := by
  refine ⟨_, 1, 1, rfl, rfl, ?_, Nat.le_refl _, by unfold maxLen; omega⟩
  intro i ys hy
  match i, hy with
  | 0, hy =>
    simp at hy
    subst hy
    exact ⟨_, 0, v, rfl, (Blk.new w 26 [v]).cell 0, h.kept ((Keep.refl _ w).alloc _)⟩
theorem bytes_new (w : World) (xs : List UInt8) (h : xs.length ≤ 1000000) : Bytes (w.alloc (.cells (cells8 xs).toArray 5)) (.slice (some ⟨w.heap.size, 0, none⟩) xs.length xs.length) xs :=
  ⟨_, _, _, rfl, rfl, r8_new w xs _, Nat.le_refl _, by unfold maxLen; omega, fun h => by cases h⟩

theorem recv_lit (w : World) (xs : List UInt8) (h : xs.length ≤ 1000000) : RecV ((w.alloc (.cells (cells8 xs).toArray 5)).alloc (.cells #[.slice (some ⟨w.heap.size, 0, none⟩) xs.length xs.length] 26)) (.slice (some ⟨w.heap.size + 1, 0, none⟩) 1 1) [xs] := by
  have := recv_one (bytes_new w xs h)
  rwa [show (w.alloc (.cells (cells8 xs).toArray 5)).heap.size = w.heap.size + 1 by simp] at this
/-- rows of bodies, each in a block of its own -/
def BodV (w : World) (v : Value) (L : List (List UInt8)) : Prop := ∃ A c vs, v = .slice A L.length c ∧ OwnG w 0 26 1 A L.length c vs ∧ RowsE w 0 vs L
theorem BodV.kept {w w' : World} {v : Value} {L : List (List UInt8)} (h : BodV w v L) (hk : Kept w w') : BodV w' v L := by
  obtain ⟨A, c, vs, rfl, hg, he⟩ := h
  exact ⟨A, c, vs, rfl, hg.kept hk, he.kept hk⟩
theorem BodV.besides {t : TypeId} {w w' : World} {v : Value} {L : List (List UInt8)} {g : Nat} {bad : Bool} {left : List UInt8} (h : BodV w v L) (hD : DF t w g bad left) (hk : Keep (· = g) w w') (ht : t ≠ 5 ∧ t ≠ 26) : BodV w' v L := by
  obtain ⟨A, c, vs, rfl, hg, he⟩ := h
  obtain ⟨_, _, _, hb, _⟩ := hD
  exact ⟨A, c, vs, rfl, hg.keep hk (own_type hg hb ht.2), he.keep hk (fun _ _ _ hr => row_ne hb hr ht.1)⟩
theorem BodV.rec {w : World} {v : Value} {L : List (List UInt8)} (h : BodV w v L) : RecV w v L := by
  obtain ⟨A, c, vs, rfl, hg, he⟩ := h
  exact ⟨A, _, c, rfl, rfl, recs_of_own hg he, hg.cap.1, hg.cap.2.1⟩
theorem FedIn.bod {t : TypeId} {w w' : World} {g : Nat} {v : Value} {L : List (List UInt8)} {bad : Bool} {left : List UInt8} (h : FedIn t w w' g v L bad left) : BodV w' v L := by
  obtain ⟨A, c, vs, rfl, hg, he, _, _⟩ := h
  exact ⟨A, c, vs, rfl, hg.low (Nat.zero_le _), he.low (Nat.zero_le _)⟩
theorem FedIn.df {t : TypeId} {w w' : World} {g : Nat} {v : Value} {L : List (List UInt8)} {bad : Bool} {left : List UInt8} (h : FedIn t w w' g v L bad left) : DF t w' g bad left := by
  obtain ⟨A, c, vs, rfl, hg, he, h, _⟩ := h
  exact h
theorem FedIn.keep {t : TypeId} {w w' : World} {g : Nat} {v : Value} {L : List (List UInt8)} {bad : Bool} {left : List UInt8} (h : FedIn t w w' g v L bad left) : Keep (· = g) w w' := by
  obtain ⟨A, c, vs, rfl, hg, he, _, h⟩ := h
  exact h
theorem FedIn.slice {t : TypeId} {w w' : World} {g : Nat} {v : Value} {L : List (List UInt8)} {bad : Bool} {left : List UInt8} (h : FedIn t w w' g v L bad left) : ∃ A c, v = .slice A L.length c := by
  obtain ⟨A, c, vs, e, _⟩ := h
  exact ⟨A, c, e⟩
theorem feed_is (g : Nat) (left b : List UInt8) (B : List (List UInt8)) (r : List UInt8) (x : Bool) (v : Value) (w : World) (h : DF 45 w g false left) (hv : Bytes w v b) (h1 : left.length ≤ 400000) (h2 : b.length ≤ 400000) (hc : cut (left ++ b) = (B, r, x)) :
    Calls Try.prog 10 #[.pointer (some ⟨g, 0, none⟩), v] w fun e w' => ∃ u, e = .returned u ∧ FedIn 45 w w' g u B x r := by
  have := feed_good g left b v w h hv h1 h2
  rw [hc] at this
  exact this

theorem cutA : cut ([] ++ [0, 1, 97, 0]) = ([[97]], [0], false) := by
  rw [cut_go (by decide) (by decide)]
  rw [cut_short (by decide)]
  rfl
theorem cutB : cut ([0] ++ [2, 98, 99]) = ([[98, 99]], [], false) := by
  rw [cut_go (by decide) (by decide)]
  rw [cut_short (by decide)]
  rfl
theorem cutC : cut ([] ++ [0, 0, 0]) = ([], [], true) := cut_bad (by decide) (by decide)

set_option maxRecDepth 100000 in
set_option maxHeartbeats 800000 in
theorem frameRuns_any (w : World) : Calls Try.prog 3 #[] w fun e w' => e = .returned (.bool true) ∧ Kept w w' := by
  go_enter Try.func3, Try.ntmps3
  go_wp2_with fail
  refine (new_any w).mono ?_
  rintro e w1 ⟨rfl, hD, k1⟩
  obtain ⟨g, hg⟩ : ∃ g, g = w.heap.size := ⟨_, rfl⟩
  rw [← hg] at hD ⊢
  have HD := Lib.hid hD
  have hgl : Hid (¬ g < w.heap.size) := by show ¬ _; omega
  clear hD hg
  go_wp2_with fail
  have hb : Bytes (w1.alloc (.cells #[.int .u8 0, .int .u8 1, .int .u8 97, .int .u8 0] 5)) (.slice (some ⟨w1.heap.size, 0, none⟩) 4 4) [0, 1, 97, 0] := bytes_new w1 [0, 1, 97, 0] (by decide)
  have ka : Kept w1 (w1.alloc (.cells #[.int .u8 0, .int .u8 1, .int .u8 97, .int .u8 0] 5)) := (Keep.refl _ w1).alloc _
  refine (feed_is g [] [0, 1, 97, 0] _ _ _ _ _ (HD.out.kept ka) hb (by decide) (by decide) cutA).mono ?_
  rintro e w2 ⟨va, rfl, hF⟩
  have kw2 : Kept w w2 := Kept.trans' (k1.trans ka) hF.keep hgl.out
  have HV := Lib.hid hF.bod
  have HD2 := Lib.hid hF.df
  clear hb ka hF k1 HD
  go_wp2_with fail
  have hb : Bytes (w2.alloc (.cells #[.int .u8 2, .int .u8 98, .int .u8 99] 5)) (.slice (some ⟨w2.heap.size, 0, none⟩) 3 3) [2, 98, 99] := bytes_new w2 [2, 98, 99] (by decide)
  have ka : Kept w2 (w2.alloc (.cells #[.int .u8 2, .int .u8 98, .int .u8 99] 5)) := (Keep.refl _ w2).alloc _
  refine (feed_is g [0] [2, 98, 99] _ _ _ _ _ (HD2.out.kept ka) hb (by decide) (by decide) cutB).mono ?_
  rintro e w3 ⟨vb, rfl, hF⟩
  have kw3 : Kept w w3 := Kept.trans' (kw2.trans ka) hF.keep hgl.out
  have HV3 := Lib.hid ((HV.out.kept ka).besides (HD2.out.kept ka) hF.keep (by decide))
  have HU3 := Lib.hid hF.bod
  have HD3 := Lib.hid hF.df
  clear hb ka hF kw2 HD2 HV
  go_wp2_with fail
  have hb : Bytes (w3.alloc (.cells #[.int .u8 0, .int .u8 0, .int .u8 0] 5)) (.slice (some ⟨w3.heap.size, 0, none⟩) 3 3) [0, 0, 0] := bytes_new w3 [0, 0, 0] (by decide)
  have ka : Kept w3 (w3.alloc (.cells #[.int .u8 0, .int .u8 0, .int .u8 0] 5)) := (Keep.refl _ w3).alloc _
  refine (feed_is g [] [0, 0, 0] _ _ _ _ _ (HD3.out.kept ka) hb (by decide) (by decide) cutC).mono ?_
  rintro e w4 ⟨vc, rfl, hF⟩
  have kw4 : Kept w w4 := Kept.trans' (kw3.trans ka) hF.keep hgl.out
  have HV4 := Lib.hid ((HV3.out.kept ka).besides (HD3.out.kept ka) hF.keep (by decide))
  have HU4 := Lib.hid ((HU3.out.kept ka).besides (HD3.out.kept ka) hF.keep (by decide))
  have HD4 := Lib.hid hF.df
  obtain ⟨Ac, cc, hc⟩ := hF.slice
  subst hc
  clear hb ka hF kw3 HD3 HV3 HU3
  go_wp2_with fail
  have hr : RecV ((w4.alloc (.cells #[.int .u8 97] 5)).alloc (.cells #[.slice (some ⟨w4.heap.size, 0, none⟩) 1 1] 26)) (.slice (some ⟨w4.heap.size + 1, 0, none⟩) 1 1) [[97]] := recv_lit w4 [97] (by decide)
  have ka : Kept w4 ((w4.alloc (.cells #[.int .u8 97] 5)).alloc (.cells #[.slice (some ⟨w4.heap.size, 0, none⟩) 1 1] 26)) := Keep.alloc (Keep.alloc (Keep.refl _ w4) _) _
  refine (rows_any _ _ [[97]] [[97]] _ (HV4.out.kept ka).rec hr (by decide) (by decide)).mono ?_
  rintro e w5 ⟨rfl, k5⟩
  have k45 := ka.trans k5
  have HU5 := Lib.hid (HU4.out.kept k45)
  have HD5 := Lib.hid (HD4.out.kept k45)
  have kw5 := kw4.trans k45
  rw [decide_eq_true rfl]
  clear hr ka k5 k45 HU4 HD4 HV4 kw4
  go_wp2_with fail
  have hr : RecV ((w5.alloc (.cells #[.int .u8 98, .int .u8 99] 5)).alloc (.cells #[.slice (some ⟨w5.heap.size, 0, none⟩) 2 2] 26)) (.slice (some ⟨w5.heap.size + 1, 0, none⟩) 1 1) [[98, 99]] := recv_lit w5 [98, 99] (by decide)
  have ka : Kept w5 ((w5.alloc (.cells #[.int .u8 98, .int .u8 99] 5)).alloc (.cells #[.slice (some ⟨w5.heap.size, 0, none⟩) 2 2] 26)) := Keep.alloc (Keep.alloc (Keep.refl _ w5) _) _
  refine (rows_any _ _ [[98, 99]] [[98, 99]] _ (HU5.out.kept ka).rec hr (by decide) (by decide)).mono ?_
  rintro e w6 ⟨rfl, k6⟩
  have k56 := ka.trans k6
  have HD6 := Lib.hid (HD5.out.kept k56)
  have kw6 := kw5.trans k56
  rw [decide_eq_true rfl]
  clear hr ka k6 k56 HU5 HD5 kw5
  go_wp2_with fail
  refine (bad_any g true [] w6 HD6.out).mono ?_
  rintro e w7 ⟨rfl, rfl⟩
  go_wp2_with fail
  refine (left_any g 0 true [] w6 HD6.out rfl).mono ?_
  rintro e w7 ⟨rfl, rfl⟩
  go_wp2
  go_ret
  exact ⟨rfl, kw6⟩
end Go.Proofs.Ytkomionfnpgjgaa
