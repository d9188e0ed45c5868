/-
  BucketPlays: any burst, any rate, any moments: each answer and what is left are the document's own; it answers true. Condition: the moments as the arguments hold them.
-/
import Derived.Test.YtpkadepohgeloaaRuns17
import Derived.Test.YtpkadepohgeloaaBukD
import Derived.Test.YtpkadepohgeloaaSched2
import Derived.Test.YtpkadepohgeloaaSame6
import Derived.Test.YtpkadepohgeloaaInts
import Derived.Test.YtpkadepohgeloaaWi
namespace Go.Proofs.Ytpkadepohgeloaa
open Go.RowKit
set_option linter.unusedVariables false
set_option maxRecDepth 100000

/-- the element of a slice of ints at its address -/
def ElAt (w : World) (ad : Addr) (k : Nat) (x : Int) : Prop := w.cell? (ad.add (k * 1)) = some (.int .i64 x)
theorem ElAt.go {w u : World} {ad : Addr} {k : Nat} {x : Int} (h : ElAt w ad k x) (hk : Kept w u) : ElAt u ad k x := hk.cell h
theorem ElAt.at_ {w u : World} {ad : Addr} {k : Nat} {x : Int} (h : ElAt w ad k x) (hk : Kept w u) : u.cell? (ad.add (k * 1)) = some (.int .i64 x) := hk.cell h
theorem elat {w : World} {ad : Addr} {k : Nat} {x : Int} (h : w.cell? (ad.add k) = some (.int .i64 x)) : ElAt w ad k x := by unfold ElAt; rw [Nat.mul_one]; exact h
theorem rtake_at {g : Nat} {B B' : Bkt} {now : Int} {b : Bool} {w : World} (hB : Blk w g 37 B.cells) (hO : B.Ok) (h1 : now ≤ 1099511627776) (e1 : B.can now = b) (e2 : B.took now = B') : Calls Try.prog 13 #[.pointer (some ⟨g, 0, none⟩), .int .i64 now] w fun e w' => e = .returned (.bool b) ∧ Blk w' g 37 B'.cells ∧ Keep (· = g) w w' := by
  rw [← e1, ← e2]
  exact rtake_any g B hO now h1 w hB
set_option maxRecDepth 100000 in
set_option maxHeartbeats 1600000 in
theorem bucketPlays_any (b r : Int) (v : Value) (l : List Int) (w : World) (hv : IntsA w v l) : Calls Try.prog 4 #[.int .i64 b, .int .i64 r, v] w fun e w' => e = .returned (.bool true) ∧ Kept w w' := by
  obtain ⟨A, n, c, rfl, hl, hR, hI, hn, hc, hA⟩ := hv
  unfold maxLen at hc
  have HRI := Lib.hid hR
  clear hR hI hA
  cases hN : newB b r with
  | false =>
    have HN := Lib.hid hN
    clear hN
    go_enter Try.func4, Try.ntmps4
    go_upto_region 1 with fail
    refine wp_text 2 [.eq (.int .i64 b), .eq (.int .i64 r)] rfl (by kernel_rfl) ?_ ?_
    · refine sv 1 rfl rfl rfl (fun a u hE hD hk => exec_move (.tmp 0) _ rfl (hE 0 (.int .i64 b) (by kernel_rfl) (by kernel_rfl))) ?_
      refine sv 2 rfl rfl rfl (fun a u hE hD hk => exec_move (.tmp 1) _ rfl (hE 1 (.int .i64 r) (by kernel_rfl) (by kernel_rfl))) ?_
      exact fsteps_nil
    intro gv w0 hV k0
    rw [show dstsOf _ 2 = [14, 15] by kernel_rfl]
    simp only [List.foldl_cons, List.foldl_nil, List.setIfInBounds_toArray, List.set_cons_succ, List.set_cons_zero, List.drop_succ_cons, List.drop_zero]
    rw [show gv 14 = .int .i64 b from hV 0 14 (by kernel_rfl)]
    rw [show gv 15 = .int .i64 r from hV 1 15 (by kernel_rfl)]
    clear hV
    refine l_call (o := ⟨some 16, _, _, _, _, _⟩) 8 #[.int .i64 b, .int .i64 r] rfl (exec_call 8 _ [.tmp 14, .tmp 15] _ _ Try.func8 (by kernel_rfl) (by kernel_rfl) rfl (by kernel_rfl) _) ?_
    refine (bnew_no b r HN.out w0).mono ?_
    rintro e w1 ⟨v1, rfl, e1, k1⟩
    obtain rfl : v1 = .tuple #[.pointer none, .int .i64 1] := e1
    refine ⟨_, rfl, ?_⟩
    simp only [Act.put, List.setIfInBounds_toArray, List.set_cons_succ, List.set_cons_zero]
    refine l_val (o := ⟨some 13, _, _, _, _, _⟩) (.tuple #[.pointer none, .int .i64 1]) rfl (exec_move (.tmp 16) (.tuple #[.pointer none, .int .i64 1]) rfl (by kernel_rfl)) ?_
    simp only [Act.put, List.setIfInBounds_toArray, List.set_cons_succ, List.set_cons_zero]
    refine l_val (o := ⟨some 17, _, _, _, _, _⟩) (.pointer none) rfl (exec_extract (.tmp 13) [.pointer none, .int .i64 1] 0 (.pointer none) rfl (by kernel_rfl) rfl) ?_
    simp only [Act.put, List.setIfInBounds_toArray, List.set_cons_succ, List.set_cons_zero]
    refine l_val (o := ⟨some 18, _, _, _, _, _⟩) (.int .i64 1) rfl (exec_extract (.tmp 13) [.pointer none, .int .i64 1] 1 (.int .i64 1) rfl (by kernel_rfl) rfl) ?_
    simp only [Act.put, List.setIfInBounds_toArray, List.set_cons_succ, List.set_cons_zero]
    refine l_val (o := ⟨some 7, _, _, _, _, _⟩) (.pointer none) rfl (exec_assign (.tmp 17) (.pointer none) rfl (by kernel_rfl)) ?_
    simp only [Act.put, List.setIfInBounds_toArray, List.set_cons_succ, List.set_cons_zero]
    refine l_val (o := ⟨some 8, _, _, _, _, _⟩) (.int .i64 1) rfl (exec_assign (.tmp 18) (.int .i64 1) rfl (by kernel_rfl)) ?_
    simp only [Act.put, List.setIfInBounds_toArray, List.set_cons_succ, List.set_cons_zero]
    refine wpList_nil ?_
    go_upto_region 2 with fail
    refine wp_text 2 [.eq (.int .i64 b), .eq (.int .i64 r)] rfl (by kernel_rfl) ?_ ?_
    · refine sv 1 rfl rfl rfl (fun a u hE hD hk => exec_move (.tmp 0) _ rfl (hE 0 (.int .i64 b) (by kernel_rfl) (by kernel_rfl))) ?_
      refine sv 2 rfl rfl rfl (fun a u hE hD hk => exec_move (.tmp 1) _ rfl (hE 1 (.int .i64 r) (by kernel_rfl) (by kernel_rfl))) ?_
      exact fsteps_nil
    intro gv w2 hV k2
    rw [show dstsOf _ 2 = [20, 21] by kernel_rfl]
    simp only [List.foldl_cons, List.foldl_nil, List.setIfInBounds_toArray, List.set_cons_succ, List.set_cons_zero, List.drop_succ_cons, List.drop_zero]
    rw [show gv 20 = .int .i64 b from hV 0 20 (by kernel_rfl)]
    rw [show gv 21 = .int .i64 r from hV 1 21 (by kernel_rfl)]
    clear hV
    refine l_call (o := ⟨some 22, _, _, _, _, _⟩) 11 #[.int .i64 b, .int .i64 r] rfl (exec_call 11 _ [.tmp 20, .tmp 21] _ _ Try.func11 (by kernel_rfl) (by kernel_rfl) rfl (by kernel_rfl) _) ?_
    refine (rnew_no b r HN.out w2).mono ?_
    rintro e w3 ⟨v3, rfl, e3, k3⟩
    obtain rfl : v3 = .tuple #[.pointer none, .int .i64 1] := e3
    refine ⟨_, rfl, ?_⟩
    simp only [Act.put, List.setIfInBounds_toArray, List.set_cons_succ, List.set_cons_zero]
    refine l_val (o := ⟨some 19, _, _, _, _, _⟩) (.tuple #[.pointer none, .int .i64 1]) rfl (exec_move (.tmp 22) (.tuple #[.pointer none, .int .i64 1]) rfl (by kernel_rfl)) ?_
    simp only [Act.put, List.setIfInBounds_toArray, List.set_cons_succ, List.set_cons_zero]
    refine l_val (o := ⟨some 23, _, _, _, _, _⟩) (.pointer none) rfl (exec_extract (.tmp 19) [.pointer none, .int .i64 1] 0 (.pointer none) rfl (by kernel_rfl) rfl) ?_
    simp only [Act.put, List.setIfInBounds_toArray, List.set_cons_succ, List.set_cons_zero]
    refine l_val (o := ⟨some 24, _, _, _, _, _⟩) (.int .i64 1) rfl (exec_extract (.tmp 19) [.pointer none, .int .i64 1] 1 (.int .i64 1) rfl (by kernel_rfl) rfl) ?_
    simp only [Act.put, List.setIfInBounds_toArray, List.set_cons_succ, List.set_cons_zero]
    refine l_val (o := ⟨some 9, _, _, _, _, _⟩) (.pointer none) rfl (exec_assign (.tmp 23) (.pointer none) rfl (by kernel_rfl)) ?_
    simp only [Act.put, List.setIfInBounds_toArray, List.set_cons_succ, List.set_cons_zero]
    refine l_val (o := ⟨some 10, _, _, _, _, _⟩) (.int .i64 1) rfl (exec_assign (.tmp 24) (.int .i64 1) rfl (by kernel_rfl)) ?_
    simp only [Act.put, List.setIfInBounds_toArray, List.set_cons_succ, List.set_cons_zero]
    refine wpList_nil ?_
    have kw3 := ((k0.trans k1).trans k2).trans k3
    clear k0 k1 k2 k3
    go_upto_region 3 with fail
    refine wp_text 10 [.eq (.pointer none), .eq (.bool true), .eq (.pointer none), .eq (.bool true), .eq (.bool false), .eq (.bool false), .eq (.int .i64 1), .eq (.int .i64 1), .eq (.bool false), .eq (.bool false)] rfl (by kernel_rfl) ?_ ?_
    · refine sv 1 rfl rfl rfl (fun a u hE hD hk => exec_move (.tmp 7) _ rfl (hE 7 (.pointer none) (by kernel_rfl) (by kernel_rfl))) ?_
      refine sv 2 rfl rfl rfl (fun a u hE hD hk => exec_eqPn (.tmp 25) _ _ (by kernel_rfl) rfl (hD 0 25 (by kernel_rfl))) ?_
      refine sv 3 rfl rfl rfl (fun a u hE hD hk => exec_move (.tmp 9) _ rfl (hE 9 (.pointer none) (by kernel_rfl) (by kernel_rfl))) ?_
      refine sv 4 rfl rfl rfl (fun a u hE hD hk => exec_eqPn (.tmp 27) _ _ (by kernel_rfl) rfl (hD 2 27 (by kernel_rfl))) ?_
      refine sv 5 rfl rfl rfl (fun a u hE hD hk => exec_neb (.tmp 26) (.tmp 28) _ true true false rfl (hD 1 26 (by kernel_rfl)) (hD 3 28 (by kernel_rfl)) rfl) ?_
      refine sv 6 rfl rfl rfl (fun a u hE hD hk => exec_move (.tmp 29) _ rfl (hD 4 29 (by kernel_rfl))) ?_
      refine fsteps_cons 7 rfl (fun a u hE hD hk => f_val (o := ⟨some 31, _, _, _, _, _⟩) (.int .i64 1) rfl (wanted_at (b := false) false rfl rfl (hD 5 30 (by kernel_rfl))) (exec_move (.tmp 8) _ rfl (hE 8 (.int .i64 1) (by kernel_rfl) (by kernel_rfl))) rfl) ?_
      refine fsteps_cons 8 rfl (fun a u hE hD hk => f_val (o := ⟨some 32, _, _, _, _, _⟩) (.int .i64 1) rfl (wanted_at (b := false) false rfl rfl (hD 5 30 (by kernel_rfl))) (exec_move (.tmp 10) _ rfl (hE 10 (.int .i64 1) (by kernel_rfl) (by kernel_rfl))) rfl) ?_
      refine fsteps_cons 9 rfl (fun a u hE hD hk => f_as (show ((decide ((1 : Int) ≠ (1 : Int))) : Bool) = false from decide_eq_false (by omega)) (f_val (o := ⟨some 33, _, _, _, _, _⟩) (.bool (decide ((1 : Int) ≠ (1 : Int)))) rfl (wanted_at (b := false) false rfl rfl (hD 5 30 (by kernel_rfl))) (exec_nen (p := 1) (q := 1) rfl (hD 6 31 (by kernel_rfl)) (hD 7 32 (by kernel_rfl))) rfl)) ?_
      refine sv 10 rfl rfl rfl (fun a u hE hD hk => exec_pickF (.tmp 30) (.const (.bool true)) (.tmp 33) (.bool false) rfl (hD 5 30 (by kernel_rfl)) (hD 8 33 (by kernel_rfl))) ?_
      exact fsteps_nil
    intro gv w4 hV k4
    rw [show dstsOf _ 10 = [25, 26, 27, 28, 29, 30, 31, 32, 33, 34] by kernel_rfl]
    simp only [List.foldl_cons, List.foldl_nil, List.setIfInBounds_toArray, List.set_cons_succ, List.set_cons_zero, List.drop_succ_cons, List.drop_zero]
    rw [show gv 34 = .bool false from hV 9 34 (by kernel_rfl)]
    clear hV
    refine wpList_nil ?_
    have kw4 := kw3.trans k4
    clear kw3 k4
    go_wp2_with fail
    go_loopw [11] (fun t wr => t = .int .i64 0 ∧ Kept w wr) (fun t _ => 0)
    case atStart => exact ⟨rfl, kw4⟩
    case round =>
      obtain ⟨rfl, kwr⟩ := hrel
      clear kw4
      go_upto_region 6 with fail
      refine wp_text 12 [.eq (.int .i64 0), .eq (.slice A n c), .eq (.int .i64 (n : Int)), .eq (.bool (decide ((0 : Int) < ((n : Int) : Int)))), .eq (.bool (decide ((0 : Int) < ((n : Int) : Int)))), .cond (decide ((0 : Int) < ((n : Int) : Int))) (.eq (.int .i64 0)), .cond (decide ((0 : Int) < ((n : Int) : Int))) (.eq (.bool (decide ((0 : Int) < (60 : Int))))), .eq (.bool ((decide ((0 : Int) < ((n : Int) : Int))) && (decide ((0 : Int) < (60 : Int))))), .eq (.bool ((decide ((0 : Int) < ((n : Int) : Int))) && (decide ((0 : Int) < (60 : Int))))), .cond ((decide ((0 : Int) < ((n : Int) : Int))) && (decide ((0 : Int) < (60 : Int)))) (.eq (.pointer none)), .cond ((decide ((0 : Int) < ((n : Int) : Int))) && (decide ((0 : Int) < (60 : Int)))) (.eq (.bool false)), .eq (.bool false)] rfl (by kernel_rfl) ?_ ?_
      · refine sv 1 rfl rfl rfl (fun a u hE hD hk => exec_move (.tmp 11) _ rfl (hE 11 (.int .i64 0) (by kernel_rfl) (by kernel_rfl))) ?_
        refine sv 2 rfl rfl rfl (fun a u hE hD hk => exec_move (.tmp 2) _ rfl (hE 2 (.slice A n c) (by kernel_rfl) (by kernel_rfl))) ?_
        refine sv 3 rfl rfl rfl (fun a u hE hD hk => exec_len (.tmp 36) _ _ slI.und A n c rfl (hD 1 36 (by kernel_rfl))) ?_
        refine sv 4 rfl rfl rfl (fun a u hE hD hk => exec_ltn (p := 0) (q := (n : Int)) rfl (hD 0 35 (by kernel_rfl)) (hD 2 37 (by kernel_rfl))) ?_
        refine sv 5 rfl rfl rfl (fun a u hE hD hk => exec_move (.tmp 38) _ rfl (hD 3 38 (by kernel_rfl))) ?_
        refine fsteps_cons 6 rfl (fun a u hE hD hk => f_if ((decide ((0 : Int) < ((n : Int) : Int)))) rfl rfl rfl (hD 4 39 (by kernel_rfl)) (fun hb => f_val (o := ⟨some 40, _, _, _, _, _⟩) (.int .i64 0) rfl (wanted_b rfl rfl (hD 4 39 (by kernel_rfl)) (eq_true_of hb)) (exec_move (.tmp 11) _ rfl (hE 11 (.int .i64 0) (by kernel_rfl) (by kernel_rfl))) rfl)) ?_
        refine fsteps_cons 7 rfl (fun a u hE hD hk => f_if ((decide ((0 : Int) < ((n : Int) : Int)))) rfl rfl rfl (hD 4 39 (by kernel_rfl)) (fun hb => f_val (o := ⟨some 41, _, _, _, _, _⟩) (.bool (decide ((0 : Int) < (60 : Int)))) rfl (wanted_b rfl rfl (hD 4 39 (by kernel_rfl)) (eq_true_of hb)) (exec_ltn (p := 0) (q := 60) rfl ((hD 5 40 (by kernel_rfl)).1 hb) rfl) rfl)) ?_
        refine sv 8 rfl rfl rfl (fun a u hE hD hk => exec_pickand (.tmp 39) (.tmp 41) (.const (.bool false)) ((decide ((0 : Int) < ((n : Int) : Int)))) ((decide ((0 : Int) < (60 : Int)))) rfl (hD 4 39 (by kernel_rfl)) (fun hb2 => ((hD 6 41 (by kernel_rfl)).1 hb2)) rfl) ?_
        refine sv 9 rfl rfl rfl (fun a u hE hD hk => exec_move (.tmp 42) _ rfl (hD 7 42 (by kernel_rfl))) ?_
        refine fsteps_cons 10 rfl (fun a u hE hD hk => f_if (((decide ((0 : Int) < ((n : Int) : Int))) && (decide ((0 : Int) < (60 : Int))))) rfl rfl rfl (hD 8 43 (by kernel_rfl)) (fun hb => f_val (o := ⟨some 44, _, _, _, _, _⟩) (.pointer none) rfl (wanted_b rfl rfl (hD 8 43 (by kernel_rfl)) (eq_true_of hb)) (exec_move (.tmp 7) _ rfl (hE 7 (.pointer none) (by kernel_rfl) (by kernel_rfl))) rfl)) ?_
        refine fsteps_cons 11 rfl (fun a u hE hD hk => f_if (((decide ((0 : Int) < ((n : Int) : Int))) && (decide ((0 : Int) < (60 : Int))))) rfl rfl rfl (hD 8 43 (by kernel_rfl)) (fun hb => f_val (o := ⟨some 45, _, _, _, _, _⟩) (.bool false) rfl (wanted_b rfl rfl (hD 8 43 (by kernel_rfl)) (eq_true_of hb)) (exec_nePn (.tmp 44) _ _ (by kernel_rfl) rfl ((hD 9 44 (by kernel_rfl)).1 hb)) rfl)) ?_
        refine fsteps_cons 12 rfl (fun a u hE hD hk => f_as (show ((((decide ((0 : Int) < ((n : Int) : Int))) && (decide ((0 : Int) < (60 : Int)))) && false) : Bool) = false from Bool.and_false _) (f_val (o := ⟨some 46, _, _, _, _, _⟩) (.bool (((decide ((0 : Int) < ((n : Int) : Int))) && (decide ((0 : Int) < (60 : Int)))) && false)) rfl (wanted_none rfl _) (exec_pickand (.tmp 43) (.tmp 45) (.const (.bool false)) (((decide ((0 : Int) < ((n : Int) : Int))) && (decide ((0 : Int) < (60 : Int))))) (false) rfl (hD 8 43 (by kernel_rfl)) (fun hb2 => ((hD 10 45 (by kernel_rfl)).1 hb2)) rfl) rfl)) ?_
        exact fsteps_nil
      intro gv w5 hV k5
      rw [show dstsOf _ 12 = [35, 36, 37, 38, 39, 40, 41, 42, 43, 44, 45, 46] by kernel_rfl]
      simp only [List.foldl_cons, List.foldl_nil, List.setIfInBounds_toArray, List.set_cons_succ, List.set_cons_zero, List.drop_succ_cons, List.drop_zero]
      rw [show gv 46 = .bool false from hV 11 46 (by kernel_rfl)]
      clear hV
      refine wpList_nil ?_
      go_upto_region 11 with fail
      refine wp_text 2 [.eq (.bool true), .eq (.bool true)] rfl (by kernel_rfl) ?_ ?_
      · refine fsteps_cons 1 rfl (fun a u hE hD hk => f_call (o := ⟨some 70, _, _, _, _, _⟩) 3 #[] rfl (wanted_none rfl _) (exec_call 3 _ [] _ [] Try.func3 (by kernel_rfl) (by kernel_rfl) rfl rfl u) (bucketRuns_is u)) ?_
        refine sv 2 rfl rfl rfl (fun a u hE hD hk => exec_assign (.tmp 70) _ rfl (hD 0 70 (by kernel_rfl))) ?_
        exact fsteps_nil
      intro gv w6 hV k6
      rw [show dstsOf _ 2 = [70, 6] by kernel_rfl]
      simp only [List.foldl_cons, List.foldl_nil, List.setIfInBounds_toArray, List.set_cons_succ, List.set_cons_zero, List.drop_succ_cons, List.drop_zero]
      rw [show gv 6 = .bool true from hV 1 6 (by kernel_rfl)]
      clear hV
      refine wpList_nil ?_
      have kw6 := (kwr.trans k5).trans k6
      go_wp2
      go_ret
      exact ⟨rfl, kw6⟩
  | true =>
    have HN := Lib.hid hN
    have HF := Lib.hid (full_ok hN)
    clear hN
    go_enter Try.func4, Try.ntmps4
    go_upto_region 1 with fail
    refine wp_text 2 [.eq (.int .i64 b), .eq (.int .i64 r)] rfl (by kernel_rfl) ?_ ?_
    · refine sv 1 rfl rfl rfl (fun a u hE hD hk => exec_move (.tmp 0) _ rfl (hE 0 (.int .i64 b) (by kernel_rfl) (by kernel_rfl))) ?_
      refine sv 2 rfl rfl rfl (fun a u hE hD hk => exec_move (.tmp 1) _ rfl (hE 1 (.int .i64 r) (by kernel_rfl) (by kernel_rfl))) ?_
      exact fsteps_nil
    intro gv w0 hV k0
    rw [show dstsOf _ 2 = [14, 15] by kernel_rfl]
    simp only [List.foldl_cons, List.foldl_nil, List.setIfInBounds_toArray, List.set_cons_succ, List.set_cons_zero, List.drop_succ_cons, List.drop_zero]
    rw [show gv 14 = .int .i64 b from hV 0 14 (by kernel_rfl)]
    rw [show gv 15 = .int .i64 r from hV 1 15 (by kernel_rfl)]
    clear hV
    refine l_call (o := ⟨some 16, _, _, _, _, _⟩) 8 #[.int .i64 b, .int .i64 r] rfl (exec_call 8 _ [.tmp 14, .tmp 15] _ _ Try.func8 (by kernel_rfl) (by kernel_rfl) rfl (by kernel_rfl) _) ?_
    refine (bnew_yes b r HN.out w0).mono ?_
    rintro e w1 ⟨g, rfl, hg, hB1, k1⟩
    refine ⟨_, rfl, ?_⟩
    simp only [Act.put, List.setIfInBounds_toArray, List.set_cons_succ, List.set_cons_zero]
    refine l_val (o := ⟨some 13, _, _, _, _, _⟩) (.tuple #[.pointer (some ⟨g, 0, none⟩), .int .i64 0]) rfl (exec_move (.tmp 16) (.tuple #[.pointer (some ⟨g, 0, none⟩), .int .i64 0]) rfl (by kernel_rfl)) ?_
    simp only [Act.put, List.setIfInBounds_toArray, List.set_cons_succ, List.set_cons_zero]
    refine l_val (o := ⟨some 17, _, _, _, _, _⟩) (.pointer (some ⟨g, 0, none⟩)) rfl (exec_extract (.tmp 13) [.pointer (some ⟨g, 0, none⟩), .int .i64 0] 0 (.pointer (some ⟨g, 0, none⟩)) rfl (by kernel_rfl) rfl) ?_
    simp only [Act.put, List.setIfInBounds_toArray, List.set_cons_succ, List.set_cons_zero]
    refine l_val (o := ⟨some 18, _, _, _, _, _⟩) (.int .i64 0) rfl (exec_extract (.tmp 13) [.pointer (some ⟨g, 0, none⟩), .int .i64 0] 1 (.int .i64 0) rfl (by kernel_rfl) rfl) ?_
    simp only [Act.put, List.setIfInBounds_toArray, List.set_cons_succ, List.set_cons_zero]
    refine l_val (o := ⟨some 7, _, _, _, _, _⟩) (.pointer (some ⟨g, 0, none⟩)) rfl (exec_assign (.tmp 17) (.pointer (some ⟨g, 0, none⟩)) rfl (by kernel_rfl)) ?_
    simp only [Act.put, List.setIfInBounds_toArray, List.set_cons_succ, List.set_cons_zero]
    refine l_val (o := ⟨some 8, _, _, _, _, _⟩) (.int .i64 0) rfl (exec_assign (.tmp 18) (.int .i64 0) rfl (by kernel_rfl)) ?_
    simp only [Act.put, List.setIfInBounds_toArray, List.set_cons_succ, List.set_cons_zero]
    refine wpList_nil ?_
    go_upto_region 2 with fail
    refine wp_text 2 [.eq (.int .i64 b), .eq (.int .i64 r)] rfl (by kernel_rfl) ?_ ?_
    · refine sv 1 rfl rfl rfl (fun a u hE hD hk => exec_move (.tmp 0) _ rfl (hE 0 (.int .i64 b) (by kernel_rfl) (by kernel_rfl))) ?_
      refine sv 2 rfl rfl rfl (fun a u hE hD hk => exec_move (.tmp 1) _ rfl (hE 1 (.int .i64 r) (by kernel_rfl) (by kernel_rfl))) ?_
      exact fsteps_nil
    intro gv w2 hV k2
    rw [show dstsOf _ 2 = [20, 21] by kernel_rfl]
    simp only [List.foldl_cons, List.foldl_nil, List.setIfInBounds_toArray, List.set_cons_succ, List.set_cons_zero, List.drop_succ_cons, List.drop_zero]
    rw [show gv 20 = .int .i64 b from hV 0 20 (by kernel_rfl)]
    rw [show gv 21 = .int .i64 r from hV 1 21 (by kernel_rfl)]
    clear hV
    refine l_call (o := ⟨some 22, _, _, _, _, _⟩) 11 #[.int .i64 b, .int .i64 r] rfl (exec_call 11 _ [.tmp 20, .tmp 21] _ _ Try.func11 (by kernel_rfl) (by kernel_rfl) rfl (by kernel_rfl) _) ?_
    refine (rnew_yes b r HN.out w2).mono ?_
    rintro e w3 ⟨q, rfl, hq, hR3, k3⟩
    refine ⟨_, rfl, ?_⟩
    simp only [Act.put, List.setIfInBounds_toArray, List.set_cons_succ, List.set_cons_zero]
    refine l_val (o := ⟨some 19, _, _, _, _, _⟩) (.tuple #[.pointer (some ⟨q, 0, none⟩), .int .i64 0]) rfl (exec_move (.tmp 22) (.tuple #[.pointer (some ⟨q, 0, none⟩), .int .i64 0]) rfl (by kernel_rfl)) ?_
    simp only [Act.put, List.setIfInBounds_toArray, List.set_cons_succ, List.set_cons_zero]
    refine l_val (o := ⟨some 23, _, _, _, _, _⟩) (.pointer (some ⟨q, 0, none⟩)) rfl (exec_extract (.tmp 19) [.pointer (some ⟨q, 0, none⟩), .int .i64 0] 0 (.pointer (some ⟨q, 0, none⟩)) rfl (by kernel_rfl) rfl) ?_
    simp only [Act.put, List.setIfInBounds_toArray, List.set_cons_succ, List.set_cons_zero]
    refine l_val (o := ⟨some 24, _, _, _, _, _⟩) (.int .i64 0) rfl (exec_extract (.tmp 19) [.pointer (some ⟨q, 0, none⟩), .int .i64 0] 1 (.int .i64 0) rfl (by kernel_rfl) rfl) ?_
    simp only [Act.put, List.setIfInBounds_toArray, List.set_cons_succ, List.set_cons_zero]
    refine l_val (o := ⟨some 9, _, _, _, _, _⟩) (.pointer (some ⟨q, 0, none⟩)) rfl (exec_assign (.tmp 23) (.pointer (some ⟨q, 0, none⟩)) rfl (by kernel_rfl)) ?_
    simp only [Act.put, List.setIfInBounds_toArray, List.set_cons_succ, List.set_cons_zero]
    refine l_val (o := ⟨some 10, _, _, _, _, _⟩) (.int .i64 0) rfl (exec_assign (.tmp 24) (.int .i64 0) rfl (by kernel_rfl)) ?_
    simp only [Act.put, List.setIfInBounds_toArray, List.set_cons_succ, List.set_cons_zero]
    refine wpList_nil ?_
    have zg := hB1.lt
    have z0 := k0.size
    have z1 := k1.size
    have z2 := k2.size
    have kw3 := ((k0.trans k1).trans k2).trans k3
    have HB3 := Lib.hid ((hB1.kept k2).kept k3)
    have HR3 := Lib.hid hR3
    have hgq : ¬ g = q := by omega
    have hg1 : w.heap.size ≤ g := by omega
    have hq1 : w.heap.size ≤ q := by omega
    clear hB1 hR3 k0 k1 k2 k3 HN z0 z1 z2 zg hg hq
    go_upto_region 3 with fail
    refine wp_text 10 [.eq (.pointer (some ⟨g, 0, none⟩)), .eq (.bool false), .eq (.pointer (some ⟨q, 0, none⟩)), .eq (.bool false), .eq (.bool false), .eq (.bool false), .eq (.int .i64 0), .eq (.int .i64 0), .eq (.bool false), .eq (.bool false)] rfl (by kernel_rfl) ?_ ?_
    · refine sv 1 rfl rfl rfl (fun a u hE hD hk => exec_move (.tmp 7) _ rfl (hE 7 (.pointer (some ⟨g, 0, none⟩)) (by kernel_rfl) (by kernel_rfl))) ?_
      refine sv 2 rfl rfl rfl (fun a u hE hD hk => exec_eqP (.tmp 25) _ _ ⟨g, 0, none⟩ (by kernel_rfl) rfl (hD 0 25 (by kernel_rfl))) ?_
      refine sv 3 rfl rfl rfl (fun a u hE hD hk => exec_move (.tmp 9) _ rfl (hE 9 (.pointer (some ⟨q, 0, none⟩)) (by kernel_rfl) (by kernel_rfl))) ?_
      refine sv 4 rfl rfl rfl (fun a u hE hD hk => exec_eqP (.tmp 27) _ _ ⟨q, 0, none⟩ (by kernel_rfl) rfl (hD 2 27 (by kernel_rfl))) ?_
      refine sv 5 rfl rfl rfl (fun a u hE hD hk => exec_neb (.tmp 26) (.tmp 28) _ false false false rfl (hD 1 26 (by kernel_rfl)) (hD 3 28 (by kernel_rfl)) rfl) ?_
      refine sv 6 rfl rfl rfl (fun a u hE hD hk => exec_move (.tmp 29) _ rfl (hD 4 29 (by kernel_rfl))) ?_
      refine fsteps_cons 7 rfl (fun a u hE hD hk => f_val (o := ⟨some 31, _, _, _, _, _⟩) (.int .i64 0) rfl (wanted_at (b := false) false rfl rfl (hD 5 30 (by kernel_rfl))) (exec_move (.tmp 8) _ rfl (hE 8 (.int .i64 0) (by kernel_rfl) (by kernel_rfl))) rfl) ?_
      refine fsteps_cons 8 rfl (fun a u hE hD hk => f_val (o := ⟨some 32, _, _, _, _, _⟩) (.int .i64 0) rfl (wanted_at (b := false) false rfl rfl (hD 5 30 (by kernel_rfl))) (exec_move (.tmp 10) _ rfl (hE 10 (.int .i64 0) (by kernel_rfl) (by kernel_rfl))) rfl) ?_
      refine fsteps_cons 9 rfl (fun a u hE hD hk => f_as (show ((decide ((0 : Int) ≠ (0 : Int))) : Bool) = false from decide_eq_false (by omega)) (f_val (o := ⟨some 33, _, _, _, _, _⟩) (.bool (decide ((0 : Int) ≠ (0 : Int)))) rfl (wanted_at (b := false) false rfl rfl (hD 5 30 (by kernel_rfl))) (exec_nen (p := 0) (q := 0) rfl (hD 6 31 (by kernel_rfl)) (hD 7 32 (by kernel_rfl))) rfl)) ?_
      refine sv 10 rfl rfl rfl (fun a u hE hD hk => exec_pickF (.tmp 30) (.const (.bool true)) (.tmp 33) (.bool false) rfl (hD 5 30 (by kernel_rfl)) (hD 8 33 (by kernel_rfl))) ?_
      exact fsteps_nil
    intro gv w4 hV k4
    rw [show dstsOf _ 10 = [25, 26, 27, 28, 29, 30, 31, 32, 33, 34] by kernel_rfl]
    simp only [List.foldl_cons, List.foldl_nil, List.setIfInBounds_toArray, List.set_cons_succ, List.set_cons_zero, List.drop_succ_cons, List.drop_zero]
    rw [show gv 34 = .bool false from hV 9 34 (by kernel_rfl)]
    clear hV
    refine wpList_nil ?_
    have kw4 := kw3.trans k4
    have HB4 := Lib.hid (HB3.out.kept k4)
    have HR4 := Lib.hid (HR3.out.kept k4)
    clear kw3 k4 HB3 HR3
    generalize Bkt.full b r = B0 at HB4 HR4 HF
    go_wp2_with fail
    go_loopw [11] (fun t wr => ∃ (k : Nat) (B : Bkt), t = .int .i64 (k : Int) ∧ k ≤ 60 ∧ k ≤ n ∧ Hid (Blk wr g 41 B.cells) ∧ Hid (Blk wr q 37 B.cells) ∧ Hid B.Ok ∧ Kept w wr) (fun t _ => 60 - (intOf t).toNat)
    case atStart => exact ⟨0, B0, rfl, by omega, by omega, HB4, HR4, HF, kw4⟩
    case round =>
      obtain ⟨k, B, rfl, hk60, hkn, HBr, HRr, HI, kwr⟩ := hrel
      clear HB4 HR4 HF kw4
      by_cases hlt : k < n ∧ k < 60
      · obtain ⟨hin, hk6⟩ := hlt
        have hil : k < l.length := by rw [hl.out]; exact hin
        obtain ⟨x, hx⟩ : ∃ x, l[k]? = some x := ⟨_, List.getElem?_eq_getElem hil⟩
        obtain ⟨ad, rfl, hX⟩ := HRI.out k x hx
        have HX := Lib.hid (elat (kwr.cell hX))
        clear hx hX hil
        obtain ⟨m, hm⟩ : ∃ m, wi x 0 1099511627776 = m := ⟨_, rfl⟩
        have hmi := wi_in x 0 1099511627776 (by omega)
        rw [hm] at hmi
        obtain ⟨m0, m1⟩ := hmi
        obtain ⟨y, hy⟩ : ∃ y, B.can m = y := ⟨_, rfl⟩
        obtain ⟨B2, hB2⟩ : ∃ y, B.took m = y := ⟨_, rfl⟩
        have HI2 : Hid B2.Ok := by show Bkt.Ok _; rw [← hB2]; exact HI.out.take m1
        have HM := Lib.hid hm
        have HC := Lib.hid hy
        have HT := Lib.hid hB2
        clear hm hy hB2
        go_upto_region 6 with fail
        refine wp_text 12 [.eq (.int .i64 (k : Int)), .eq (.slice (some ad) n c), .eq (.int .i64 (n : Int)), .eq (.bool true), .eq (.bool true), .eq (.int .i64 (k : Int)), .eq (.bool true), .eq (.bool true), .eq (.bool true), .eq (.pointer (some ⟨g, 0, none⟩)), .eq (.bool true), .eq (.bool true)] rfl (by kernel_rfl) ?_ ?_
        · refine sv 1 rfl rfl rfl (fun a u hE hD hk => exec_move (.tmp 11) _ rfl (hE 11 (.int .i64 (k : Int)) (by kernel_rfl) (by kernel_rfl))) ?_
          refine sv 2 rfl rfl rfl (fun a u hE hD hk => exec_move (.tmp 2) _ rfl (hE 2 (.slice (some ad) n c) (by kernel_rfl) (by kernel_rfl))) ?_
          refine sv 3 rfl rfl rfl (fun a u hE hD hk => exec_len (.tmp 36) _ _ slI.und (some ad) n c rfl (hD 1 36 (by kernel_rfl))) ?_
          refine fsteps_cons 4 rfl (fun a u hE hD hk => f_as (show ((decide (((k : Int) : Int) < ((n : Int) : Int))) : Bool) = true from decide_eq_true (by omega)) (f_val (o := ⟨some 38, _, _, _, _, _⟩) (.bool (decide (((k : Int) : Int) < ((n : Int) : Int)))) rfl (wanted_none rfl _) (exec_ltn (p := (k : Int)) (q := (n : Int)) rfl (hD 0 35 (by kernel_rfl)) (hD 2 37 (by kernel_rfl))) rfl)) ?_
          refine sv 5 rfl rfl rfl (fun a u hE hD hk => exec_move (.tmp 38) _ rfl (hD 3 38 (by kernel_rfl))) ?_
          refine fsteps_cons 6 rfl (fun a u hE hD hk => f_val (o := ⟨some 40, _, _, _, _, _⟩) (.int .i64 (k : Int)) rfl (wanted_at (b := true) true rfl rfl (hD 4 39 (by kernel_rfl))) (exec_move (.tmp 11) _ rfl (hE 11 (.int .i64 (k : Int)) (by kernel_rfl) (by kernel_rfl))) rfl) ?_
          refine fsteps_cons 7 rfl (fun a u hE hD hk => f_as (show ((decide (((k : Int) : Int) < (60 : Int))) : Bool) = true from decide_eq_true (by omega)) (f_val (o := ⟨some 41, _, _, _, _, _⟩) (.bool (decide (((k : Int) : Int) < (60 : Int)))) rfl (wanted_at (b := true) true rfl rfl (hD 4 39 (by kernel_rfl))) (exec_ltn (p := (k : Int)) (q := 60) rfl (hD 5 40 (by kernel_rfl)) rfl) rfl)) ?_
          refine sv 8 rfl rfl rfl (fun a u hE hD hk => exec_pick (.tmp 39) (.tmp 41) (.const (.bool false)) (.bool true) rfl (hD 4 39 (by kernel_rfl)) (hD 6 41 (by kernel_rfl))) ?_
          refine sv 9 rfl rfl rfl (fun a u hE hD hk => exec_move (.tmp 42) _ rfl (hD 7 42 (by kernel_rfl))) ?_
          refine fsteps_cons 10 rfl (fun a u hE hD hk => f_val (o := ⟨some 44, _, _, _, _, _⟩) (.pointer (some ⟨g, 0, none⟩)) rfl (wanted_at (b := true) true rfl rfl (hD 8 43 (by kernel_rfl))) (exec_move (.tmp 7) _ rfl (hE 7 (.pointer (some ⟨g, 0, none⟩)) (by kernel_rfl) (by kernel_rfl))) rfl) ?_
          refine fsteps_cons 11 rfl (fun a u hE hD hk => f_val (o := ⟨some 45, _, _, _, _, _⟩) (.bool true) rfl (wanted_at (b := true) true rfl rfl (hD 8 43 (by kernel_rfl))) (exec_neP (.tmp 44) _ _ ⟨g, 0, none⟩ (by kernel_rfl) rfl (hD 9 44 (by kernel_rfl))) rfl) ?_
          refine sv 12 rfl rfl rfl (fun a u hE hD hk => exec_pick (.tmp 43) (.tmp 45) (.const (.bool false)) (.bool true) rfl (hD 8 43 (by kernel_rfl)) (hD 10 45 (by kernel_rfl))) ?_
          exact fsteps_nil
        intro gv w5 hV k5
        rw [show dstsOf _ 12 = [35, 36, 37, 38, 39, 40, 41, 42, 43, 44, 45, 46] by kernel_rfl]
        simp only [List.foldl_cons, List.foldl_nil, List.setIfInBounds_toArray, List.set_cons_succ, List.set_cons_zero, List.drop_succ_cons, List.drop_zero]
        rw [show gv 46 = .bool true from hV 11 46 (by kernel_rfl)]
        clear hV
        refine wpList_nil ?_
        have HX5 := Lib.hid (HX.out.go k5)
        clear HX
        go_upto_region 8 with fail
        refine wp_text 6 [.eq (.slice (some ad) n c), .eq (.int .i64 (k : Int)), .eq (.pointer (some (ad.add (k * 1)))), .eq (.int .i64 x), .eq (.int .i64 m), .eq (.int .i64 m)] rfl (by kernel_rfl) ?_ ?_
        · refine sv 1 rfl rfl rfl (fun a u hE hD hk => exec_move (.tmp 2) _ rfl (hE 2 (.slice (some ad) n c) (by kernel_rfl) (by kernel_rfl))) ?_
          refine sv 2 rfl rfl rfl (fun a u hE hD hk => exec_move (.tmp 11) _ rfl (hE 11 (.int .i64 (k : Int)) (by kernel_rfl) (by kernel_rfl))) ?_
          refine sv 3 rfl rfl rfl (fun a u hE hD hk => exec_indexA 27 3 1 (.tmp 49) (.tmp 50) ad n c k rfl Try.underlying27 infoI1 (hD 0 49 (by kernel_rfl)) (hD 1 50 (by kernel_rfl)) hin) ?_
          refine sv 4 rfl rfl rfl (fun a u hE hD hk => exec_loadi 3 Try.underlying3 (.tmp 51) (ad.add (k * 1)) (.int .i64 x) rfl (hD 2 51 (by kernel_rfl)) (HX5.out.at_ hk)) ?_
          refine fsteps_cons 5 rfl (fun a u hE hD hk => f_call (o := ⟨some 53, _, _, _, _, _⟩) 12 #[.int .i64 x, .int .i64 0, .int .i64 1099511627776] rfl (wanted_none rfl _) (exec_call 12 _ [.tmp 52, .const (.int .i64 0), .const (.int .i64 1099511627776)] _ [.int .i64 x, .int .i64 0, .int .i64 1099511627776] Try.func12 (by kernel_rfl) (by kernel_rfl) rfl (show [a.eval (.tmp 52), a.eval (.const (.int .i64 0)), a.eval (.const (.int .i64 1099511627776))] = [.int .i64 x, .int .i64 0, .int .i64 1099511627776] from (by rw [show a.eval (.tmp 52) = .int .i64 x from (hD 3 52 (by kernel_rfl))] <;> rfl)) u) (by rw [← HM.out]; exact within_is x 0 1099511627776 u (by omega) (by omega) (by omega))) ?_
          refine sv 6 rfl rfl rfl (fun a u hE hD hk => exec_assign (.tmp 53) _ rfl (hD 4 53 (by kernel_rfl))) ?_
          exact fsteps_nil
        intro gv w6 hV k6
        rw [show dstsOf _ 6 = [49, 50, 51, 52, 53, 12] by kernel_rfl]
        simp only [List.foldl_cons, List.foldl_nil, List.setIfInBounds_toArray, List.set_cons_succ, List.set_cons_zero, List.drop_succ_cons, List.drop_zero]
        rw [show gv 12 = .int .i64 m from hV 5 12 (by kernel_rfl)]
        clear hV
        refine wpList_nil ?_
        have k46 := k5.trans k6
        have HB6 := Lib.hid (HBr.out.kept k46)
        have HR6 := Lib.hid (HRr.out.kept k46)
        have kw6 := kwr.trans k46
        clear HBr HRr kwr k5 k6 k46 HX5 HM
        go_upto_region 9 with fail
        refine wp_sched2 (fun u => Kept w u) [(0, 0), (1, 0), (3, 0), (4, 0), (2, 1), (5, 1), (9999, 2), (6, 3), (7, 0), (8, 0), (10, 0), (11, 3), (12, 3), (13, 3), (9, 4), (14, 3), (15, 0)] (by kernel_rfl) (by kernel_rfl) (Keep.drew kw6) ?_
        refine t_val (o := ⟨some 54, _, _, _, _, _⟩) (.pointer (some ⟨g, 0, none⟩)) rfl (by kernel_rfl) (fun u hu => exec_move (.tmp 7) (.pointer (some ⟨g, 0, none⟩)) rfl (by kernel_rfl)) ?_
        simp only [Act.put, List.setIfInBounds_toArray, List.set_cons_succ, List.set_cons_zero]
        refine t_val (o := ⟨some 55, _, _, _, _, _⟩) (.int .i64 m) rfl (by kernel_rfl) (fun u hu => exec_move (.tmp 12) (.int .i64 m) rfl (by kernel_rfl)) ?_
        simp only [Act.put, List.setIfInBounds_toArray, List.set_cons_succ, List.set_cons_zero]
        refine t_val (o := ⟨some 57, _, _, _, _, _⟩) (.pointer (some ⟨q, 0, none⟩)) rfl (by kernel_rfl) (fun u hu => exec_move (.tmp 9) (.pointer (some ⟨q, 0, none⟩)) rfl (by kernel_rfl)) ?_
        simp only [Act.put, List.setIfInBounds_toArray, List.set_cons_succ, List.set_cons_zero]
        refine t_val (o := ⟨some 58, _, _, _, _, _⟩) (.int .i64 m) rfl (by kernel_rfl) (fun u hu => exec_move (.tmp 12) (.int .i64 m) rfl (by kernel_rfl)) ?_
        simp only [Act.put, List.setIfInBounds_toArray, List.set_cons_succ, List.set_cons_zero]
        refine t_call (o := ⟨some 56, _, _, _, _, _⟩) 9 #[.pointer (some ⟨g, 0, none⟩), .int .i64 m] rfl (by kernel_rfl) (exec_call 9 _ [.tmp 54, .tmp 55] _ _ Try.func9 (by kernel_rfl) (by kernel_rfl) rfl (by kernel_rfl)) ?_
        refine (btake_at (HB6.out.kept (Keep.drew (Keep.refl _ w6))) HI.out m1 HC.out HT.out).mono ?_
        rintro e w7 ⟨rfl, hB7, k7⟩
        have kd : Kept w6 w6.drew := Keep.drew (Keep.refl _ w6)
        have kw7 : Kept w w7 := Kept.trans' (kw6.trans kd) k7 (by omega)
        have hR7 := (HR6.out.kept kd).keep k7 (by omega)
        refine ⟨_, rfl, kw7, ?_⟩
        clear kd
        simp only [Act.put, List.setIfInBounds_toArray, List.set_cons_succ, List.set_cons_zero]
        refine t_call (o := ⟨some 59, _, _, _, _, _⟩) 13 #[.pointer (some ⟨q, 0, none⟩), .int .i64 m] rfl (by kernel_rfl) (exec_call 13 _ [.tmp 57, .tmp 58] _ _ Try.func13 (by kernel_rfl) (by kernel_rfl) rfl (by kernel_rfl)) ?_
        refine (rtake_at hR7 HI.out m1 HC.out HT.out).mono ?_
        rintro e w8 ⟨rfl, hR8, k8⟩
        have kw8 : Kept w w8 := Kept.trans' kw7 k8 (by omega)
        have hB8 := hB7.keep k8 (by omega)
        refine ⟨_, rfl, kw8, ?_⟩
        simp only [Act.put, List.setIfInBounds_toArray, List.set_cons_succ, List.set_cons_zero]
        refine t_switch ?_
        refine t_val2 (o := ⟨some 60, _, _, _, _, _⟩) (.bool false) rfl (by kernel_rfl) (fun u hu => exec_neb (.tmp 56) (.tmp 59) _ y y false rfl (by kernel_rfl) (by kernel_rfl) (by simp)) ?_
        simp only [Act.put, List.setIfInBounds_toArray, List.set_cons_succ, List.set_cons_zero]
        refine t_val (o := ⟨some 61, _, _, _, _, _⟩) (.bool false) rfl (by kernel_rfl) (fun u hu => exec_move (.tmp 60) (.bool false) rfl (by kernel_rfl)) ?_
        simp only [Act.put, List.setIfInBounds_toArray, List.set_cons_succ, List.set_cons_zero]
        refine t_val (o := ⟨some 62, _, _, _, _, _⟩) (.pointer (some ⟨g, 0, none⟩)) rfl (by kernel_rfl) (fun u hu => exec_move (.tmp 7) (.pointer (some ⟨g, 0, none⟩)) rfl (by kernel_rfl)) ?_
        simp only [Act.put, List.setIfInBounds_toArray, List.set_cons_succ, List.set_cons_zero]
        refine t_val (o := ⟨some 64, _, _, _, _, _⟩) (.pointer (some ⟨q, 0, none⟩)) rfl (by kernel_rfl) (fun u hu => exec_move (.tmp 9) (.pointer (some ⟨q, 0, none⟩)) rfl (by kernel_rfl)) ?_
        simp only [Act.put, List.setIfInBounds_toArray, List.set_cons_succ, List.set_cons_zero]
        refine t_val2 (o := ⟨some 65, _, _, _, _, _⟩) (.pointer (some ⟨q, 0, none⟩)) rfl (by kernel_rfl) (fun u hu => exec_nilp (.tmp 64) ⟨q, 0, none⟩ rfl (by kernel_rfl)) ?_
        simp only [Act.put, List.setIfInBounds_toArray, List.set_cons_succ, List.set_cons_zero]
        refine t_val2 (o := ⟨some 66, _, _, _, _, _⟩) (.pointer (some ⟨q, 2, none⟩)) rfl (by kernel_rfl) (fun u hu => exec_fldo 37 2 2 (.tmp 65) (q) (0) (2) rfl (by kernel_rfl) (by kernel_rfl) rfl) ?_
        simp only [Act.put, List.setIfInBounds_toArray, List.set_cons_succ, List.set_cons_zero]
        refine t_val2 (o := ⟨some 67, _, _, _, _, _⟩) (.int .i64 B2.k) rfl (by kernel_rfl) (fun u hu => exec_loadi 3 Try.underlying3 (.tmp 66) ⟨q, 2, none⟩ (.int .i64 B2.k) rfl (by kernel_rfl) (range_int (blk_range (hR8.kept hu)) 2 _ rfl)) ?_
        simp only [Act.put, List.setIfInBounds_toArray, List.set_cons_succ, List.set_cons_zero]
        refine t_call2 (o := ⟨some 63, _, _, _, _, _⟩) 14 #[.pointer (some ⟨g, 0, none⟩)] rfl (by kernel_rfl) (exec_call 14 _ [.tmp 62] _ _ Try.func14 (by kernel_rfl) (by kernel_rfl) rfl (by kernel_rfl)) ?_
        refine (left_any g B2 _ hB8).mono ?_
        rintro e w9 ⟨v9, rfl, e9, k9⟩
        obtain rfl : v9 = .int .i64 B2.k := e9
        have kw9 := kw8.trans k9
        refine ⟨_, rfl, kw9, k9, ?_⟩
        simp only [Act.put, List.setIfInBounds_toArray, List.set_cons_succ, List.set_cons_zero]
        refine t_val2 (o := ⟨some 68, _, _, _, _, _⟩) (.bool false) rfl (by kernel_rfl) (fun u hu => exec_cmpi .neq (.tmp 63) (.tmp 67) _ B2.k B2.k false rfl (by kernel_rfl) (by kernel_rfl) (by simp)) ?_
        simp only [Act.put, List.setIfInBounds_toArray, List.set_cons_succ, List.set_cons_zero]
        refine t_val (o := ⟨some 69, _, _, _, _, _⟩) (.bool false) rfl (by kernel_rfl) (fun u hu => exec_pickF (.tmp 61) (.const (.bool true)) (.tmp 68) (.bool false) rfl (by kernel_rfl) (by kernel_rfl)) ?_
        simp only [Act.put, List.setIfInBounds_toArray, List.set_cons_succ, List.set_cons_zero]
        refine t_done ?_
        have HB9 := Lib.hid (hB8.kept k9)
        have HR9 := Lib.hid (hR8.kept k9)
        clear hB7 hR7 hB8 hR8 k7 k8 k9 kw7 kw8 kw6 HB6 HR6 HC HT HI
        go_wp2
        exact ⟨⟨k + 1, B2, by simp, by omega, by omega, HB9, HR9, HI2, kw9⟩, by simp [intOf]; omega⟩
      · have hcond : (decide ((k : Int) < (n : Int)) && decide ((k : Int) < 60)) = false := by
          by_cases h1 : (k : Int) < (n : Int)
          · rw [decide_eq_false (show ¬ (k : Int) < 60 by omega), Bool.and_false]
          · rw [decide_eq_false h1, Bool.false_and]
        go_upto_region 6 with fail
        refine wp_text 12 [.eq (.int .i64 (k : Int)), .eq (.slice A n c), .eq (.int .i64 (n : Int)), .eq (.bool (decide (((k : Int) : Int) < ((n : Int) : Int)))), .eq (.bool (decide (((k : Int) : Int) < ((n : Int) : Int)))), .cond (decide (((k : Int) : Int) < ((n : Int) : Int))) (.eq (.int .i64 (k : Int))), .cond (decide (((k : Int) : Int) < ((n : Int) : Int))) (.eq (.bool (decide (((k : Int) : Int) < (60 : Int))))), .eq (.bool false), .eq (.bool false), .eq undef, .eq undef, .eq (.bool false)] rfl (by kernel_rfl) ?_ ?_
        · refine sv 1 rfl rfl rfl (fun a u hE hD hk => exec_move (.tmp 11) _ rfl (hE 11 (.int .i64 (k : Int)) (by kernel_rfl) (by kernel_rfl))) ?_
          refine sv 2 rfl rfl rfl (fun a u hE hD hk => exec_move (.tmp 2) _ rfl (hE 2 (.slice A n c) (by kernel_rfl) (by kernel_rfl))) ?_
          refine sv 3 rfl rfl rfl (fun a u hE hD hk => exec_len (.tmp 36) _ _ slI.und A n c rfl (hD 1 36 (by kernel_rfl))) ?_
          refine sv 4 rfl rfl rfl (fun a u hE hD hk => exec_ltn (p := (k : Int)) (q := (n : Int)) rfl (hD 0 35 (by kernel_rfl)) (hD 2 37 (by kernel_rfl))) ?_
          refine sv 5 rfl rfl rfl (fun a u hE hD hk => exec_move (.tmp 38) _ rfl (hD 3 38 (by kernel_rfl))) ?_
          refine fsteps_cons 6 rfl (fun a u hE hD hk => f_if ((decide (((k : Int) : Int) < ((n : Int) : Int)))) rfl rfl rfl (hD 4 39 (by kernel_rfl)) (fun hb => f_val (o := ⟨some 40, _, _, _, _, _⟩) (.int .i64 (k : Int)) rfl (wanted_b rfl rfl (hD 4 39 (by kernel_rfl)) (eq_true_of hb)) (exec_move (.tmp 11) _ rfl (hE 11 (.int .i64 (k : Int)) (by kernel_rfl) (by kernel_rfl))) rfl)) ?_
          refine fsteps_cons 7 rfl (fun a u hE hD hk => f_if ((decide (((k : Int) : Int) < ((n : Int) : Int)))) rfl rfl rfl (hD 4 39 (by kernel_rfl)) (fun hb => f_val (o := ⟨some 41, _, _, _, _, _⟩) (.bool (decide (((k : Int) : Int) < (60 : Int)))) rfl (wanted_b rfl rfl (hD 4 39 (by kernel_rfl)) (eq_true_of hb)) (exec_ltn (p := (k : Int)) (q := 60) rfl ((hD 5 40 (by kernel_rfl)).1 hb) rfl) rfl)) ?_
          refine fsteps_cons 8 rfl (fun a u hE hD hk => f_as (show (((decide (((k : Int) : Int) < ((n : Int) : Int))) && (decide (((k : Int) : Int) < (60 : Int)))) : Bool) = false from hcond) (f_val (o := ⟨some 42, _, _, _, _, _⟩) (.bool ((decide (((k : Int) : Int) < ((n : Int) : Int))) && (decide (((k : Int) : Int) < (60 : Int))))) rfl (wanted_none rfl _) (exec_pickand (.tmp 39) (.tmp 41) (.const (.bool false)) ((decide (((k : Int) : Int) < ((n : Int) : Int)))) ((decide (((k : Int) : Int) < (60 : Int)))) rfl (hD 4 39 (by kernel_rfl)) (fun hb2 => ((hD 6 41 (by kernel_rfl)).1 hb2)) rfl) rfl)) ?_
          refine sv 9 rfl rfl rfl (fun a u hE hD hk => exec_move (.tmp 42) _ rfl (hD 7 42 (by kernel_rfl))) ?_
          refine fsteps_cons 10 rfl (fun a u hE hD hk => f_skip (o := ⟨some 44, _, _, _, _, _⟩) rfl (wanted_at (b := true) false rfl rfl (hD 8 43 (by kernel_rfl))) rfl) ?_
          refine fsteps_cons 11 rfl (fun a u hE hD hk => f_skip (o := ⟨some 45, _, _, _, _, _⟩) rfl (wanted_at (b := true) false rfl rfl (hD 8 43 (by kernel_rfl))) rfl) ?_
          refine sv 12 rfl rfl rfl (fun a u hE hD hk => exec_pickF (.tmp 43) (.tmp 45) (.const (.bool false)) (.bool false) rfl (hD 8 43 (by kernel_rfl)) rfl) ?_
          exact fsteps_nil
        intro gv w5 hV k5
        rw [show dstsOf _ 12 = [35, 36, 37, 38, 39, 40, 41, 42, 43, 44, 45, 46] by kernel_rfl]
        simp only [List.foldl_cons, List.foldl_nil, List.setIfInBounds_toArray, List.set_cons_succ, List.set_cons_zero, List.drop_succ_cons, List.drop_zero]
        rw [show gv 46 = .bool false from hV 11 46 (by kernel_rfl)]
        clear hV
        refine wpList_nil ?_
        go_upto_region 11 with fail
        refine wp_text 2 [.eq (.bool true), .eq (.bool true)] rfl (by kernel_rfl) ?_ ?_
        · refine fsteps_cons 1 rfl (fun a u hE hD hk => f_call (o := ⟨some 70, _, _, _, _, _⟩) 3 #[] rfl (wanted_none rfl _) (exec_call 3 _ [] _ [] Try.func3 (by kernel_rfl) (by kernel_rfl) rfl rfl u) (bucketRuns_is u)) ?_
          refine sv 2 rfl rfl rfl (fun a u hE hD hk => exec_assign (.tmp 70) _ rfl (hD 0 70 (by kernel_rfl))) ?_
          exact fsteps_nil
        intro gv w6 hV k6
        rw [show dstsOf _ 2 = [70, 6] by kernel_rfl]
        simp only [List.foldl_cons, List.foldl_nil, List.setIfInBounds_toArray, List.set_cons_succ, List.set_cons_zero, List.drop_succ_cons, List.drop_zero]
        rw [show gv 6 = .bool true from hV 1 6 (by kernel_rfl)]
        clear hV
        refine wpList_nil ?_
        have kw6 := (kwr.trans k5).trans k6
        go_wp2
        go_ret
        exact ⟨rfl, kw6⟩
end Go.Proofs.Ytpkadepohgeloaa
