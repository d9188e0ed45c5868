/-
  Contracts of package msg's isKind, within, lastInst, isWhat, inRange, of the document's in. Conditions: lengths.
-/
import Derived.Test.YtdmeiffofmagjaaMsgP
import Derived.Deep.DeepCutAuto
namespace Go.Proofs.Ytdmeiffofmagjaa
open Go.RowKit
set_option linter.unusedVariables false

/-- a number is from lo to hi -/
def rng (x lo hi : Int) : Bool := decide (lo ≤ x) && decide (x ≤ hi)
def win (m : Int) (l : List Int) : Bool := l.all fun x => rng x 0 m
def isKindB (k : Int) : Bool := rng k 1 9
def lastB (k : Int) : Int := if k = 6 then 8 else 7
def whatB (k x : Int) : Bool := if k = 6 then rng x 1 3 else if k = 9 then rng x 1 9 else decide (x = 0)
def Cmd.inR (c : Cmd) : Bool := (((win 1073741824 [c.seq, c.id, c.price, c.qty, c.shw, c.stop] && win 255 [c.side, c.ord, c.fa, c.fb]) && win 31 [c.tr]) && win (lastB c.k) [c.inst]) && whatB c.k c.what

set_option maxHeartbeats 400000 in
theorem isKind_any (k : Int) (w : World) : Gives 26 #[.int .i64 k] w (.eq (.bool (isKindB k))) := by
  refine gives_eq ?_
  unfold isKindB rng
  by_cases h : (1 : Int) ≤ k
  · have h1 : decide ((1 : Int) ≤ k) = true := by simpa using h
    rw [h1]
    go_enter Try.func26, Try.ntmps26
    go_wp2
    go_ret
    exact ⟨ret_bool (by simp), Kept.refl w⟩
  · have h1 : decide ((1 : Int) ≤ k) = false := by simpa using h
    rw [h1]
    go_enter Try.func26, Try.ntmps26
    go_wp2
    go_ret
    exact ⟨ret_bool (by simp), Kept.refl w⟩

set_option maxHeartbeats 400000 in
theorem in_any (n lo hi : Int) (w : World) : Gives 30 #[.int .i64 n, .int .i64 lo, .int .i64 hi] w (.eq (.bool (rng n lo hi))) := by
  refine gives_eq ?_
  unfold rng
  by_cases h : lo ≤ n
  · have h1 : decide (lo ≤ n) = true := by simpa using h
    have h2 : decide (n ≥ lo) = true := by simpa using h
    rw [h1]
    go_enter Try.func30, Try.ntmps30
    go_wp2
    go_ret
    exact ⟨ret_bool (by simp), Kept.refl w⟩
  · have h1 : decide (lo ≤ n) = false := by simpa using h
    have h2 : decide (n ≥ lo) = false := by simpa using h
    rw [h1]
    go_enter Try.func30, Try.ntmps30
    go_wp2
    go_ret
    exact ⟨ret_bool (by simp), Kept.refl w⟩

set_option maxHeartbeats 400000 in
theorem lastInst_any (k : Int) (w : World) : Gives 41 #[.int .i64 k] w (.eq (.int .i64 (lastB k))) := by
  refine gives_eq ?_
  unfold lastB
  by_cases h : k = 6
  · have h1 : ((k : Int) == 6) = true := by simpa using h
    rw [if_pos h]
    clear h
    go_enter Try.func41, Try.ntmps41
    go_wp2
    go_ret
    exact ⟨rfl, Kept.refl w⟩
  · have h1 : ((k : Int) == 6) = false := by simpa using h
    rw [if_neg h]
    clear h
    go_enter Try.func41, Try.ntmps41
    go_wp2
    go_ret
    exact ⟨rfl, Kept.refl w⟩

set_option maxHeartbeats 800000 in
theorem isWhat_any (k x : Int) (w : World) : Gives 42 #[.int .i64 k, .int .i64 x] w (.eq (.bool (whatB k x))) := by
  refine gives_eq ?_
  unfold whatB rng
  by_cases h : k = 6
  · rw [if_pos h]
    subst h
    by_cases h2 : (1 : Int) ≤ x
    · have h1 : decide ((1 : Int) ≤ x) = true := by simpa using h2
      rw [h1]
      go_enter Try.func42, Try.ntmps42
      go_wp2
      go_ret
      exact ⟨ret_bool (by simp), Kept.refl w⟩
    · have h1 : decide ((1 : Int) ≤ x) = false := by simpa using h2
      rw [h1]
      go_enter Try.func42, Try.ntmps42
      go_wp2
      go_ret
      exact ⟨ret_bool (by simp), Kept.refl w⟩
  · rw [if_neg h]
    have h6 : ((k : Int) == 6) = false := by simpa using h
    clear h
    by_cases h : k = 9
    · rw [if_pos h]
      subst h
      by_cases h2 : (1 : Int) ≤ x
      · have h1 : decide ((1 : Int) ≤ x) = true := by simpa using h2
        rw [h1]
        go_enter Try.func42, Try.ntmps42
        go_wp2
        go_ret
        exact ⟨ret_bool (by simp), Kept.refl w⟩
      · have h1 : decide ((1 : Int) ≤ x) = false := by simpa using h2
        rw [h1]
        go_enter Try.func42, Try.ntmps42
        go_wp2
        go_ret
        exact ⟨ret_bool (by simp), Kept.refl w⟩
    · rw [if_neg h]
      have h9 : ((k : Int) == 9) = false := by simpa using h
      clear h
      go_enter Try.func42, Try.ntmps42
      go_wp2
      go_ret
      exact ⟨ret_bool (by rw [Bool.eq_iff_iff]; simp), Kept.refl w⟩

theorem win_take (m : Int) (l : List Int) (k : Nat) (h : k < l.length) : win m (l.take (k + 1)) = (win m (l.take k) && rng l[k] 0 m) := by
  unfold win
  rw [List.take_succ_eq_append_getElem h, List.all_append]
  simp
theorem win_false (m : Int) (l : List Int) (k : Nat) (h : k < l.length) (hf : rng l[k] 0 m = false) : win m l = false := by
  unfold win
  rw [List.all_eq_false]
  exact ⟨l[k], List.getElem_mem h, by rw [hf]; simp⟩

set_option maxHeartbeats 800000 in
theorem mwithin_any (m : Int) (vn : Value) (l : List Int) (w : World) (hn : IntsV w vn l) (hl : l.length ≤ 100) : Gives 40 #[.int .i64 m, vn] w (.eq (.bool (win m l))) := by
  refine gives_eq ?_
  obtain ⟨g, n, rfl, hln, hB⟩ := hn
  have HL := Lib.hid hln
  have HB := Lib.hid hB
  have hn1 : n ≤ 100 := by omega
  clear hB hln hl
  go_enter Try.func40, Try.ntmps40
  go_wp2
  go_loopw [9] (fun i wr => ∃ k : Nat, k ≤ n ∧ i = .int .i64 k ∧ Hid (win m (l.take k) = true) ∧ Kept w wr) (fun i _ => n - (intOf i).toNat)
  case atStart => exact ⟨0, Nat.zero_le _, rfl, by show _ = _; simp [win], Kept.refl w⟩
  case round =>
    obtain ⟨k, hk, rfl, hW, hkr⟩ := hrel
    by_cases hlt : k < n
    · have hlt' : k < l.length := by rw [HL.out]; exact hlt
      have hc : wr.cell? ⟨g, k, none⟩ = some (.int .i64 l[k]) := by
        rw [(HB.out.kept hkr).cell]
        simp [i64s, List.getElem?_eq_getElem hlt']
      obtain ⟨x, hx⟩ : ∃ x, x = l[k] := ⟨_, rfl⟩
      have HT := Lib.hid (win_take m l k hlt')
      have HF := Lib.hid (win_false m l k hlt')
      rw [← hx] at hc HT HF
      clear hx hlt'
      by_cases h0 : x < 0
      · have d0 : decide (x < 0) = true := by simpa using h0
        have HR : Hid (win m l = false) := HF.out (by unfold rng; simp; omega)
        go_wp2
        go_ret
        exact ⟨ret_bool HR.out.symm, hkr⟩
      · have d0 : decide (x < 0) = false := by simpa using h0
        by_cases h1 : m < x
        · have d1 : decide (m < x) = true := by simpa using h1
          have d2 : decide (x > m) = true := by simpa using h1
          have HR : Hid (win m l = false) := HF.out (by unfold rng; simp; omega)
          go_wp2
          go_ret
          exact ⟨ret_bool HR.out.symm, hkr⟩
        · have d1 : decide (m < x) = false := by simpa using h1
          have d2 : decide (x > m) = false := by simpa using h1
          have HR : Hid (win m (l.take (k + 1)) = true) := by
            show _ = _
            rw [HT.out, hW.out]
            unfold rng
            simp
            omega
          go_wp2
          exact ⟨⟨k + 1, by omega, by go_num, HR, hkr⟩, by simp [intOf]; omega⟩
    · go_wp2
      go_ret
      have e : k = n := by omega
      subst e
      have h := hW.out
      rw [List.take_of_length_le (by rw [HL.out]; omega)] at h
      exact ⟨ret_bool h.symm, hkr⟩

set_option maxRecDepth 100000 in
set_option maxHeartbeats 3200000 in
theorem inRange_any (c : Cmd) (w : World) (HT : Hid (c.tag.length = 32)) : Gives 27 #[c.v] w (.eq (.bool c.inR)) := by
  unfold Gives Cmd.v
  have HB0 : Hid (Blk (w.alloc (.cells c.cells.toArray 28)) w.heap.size 28 c.cells) := Blk.new w _ _
  have kw0 : Kept w (w.alloc (.cells c.cells.toArray 28)) := (Keep.refl _ w).alloc _
  go_enter Try.func27, Try.ntmps27
  go_upto_region 1 with fail
  generalize w.alloc (.cells c.cells.toArray 28) = w0 at HB0 kw0 ⊢
  generalize w.heap.size = g at HB0 ⊢
  refine wp_free 48 [.eq (.pointer (some ⟨g, 1, none⟩)), .eq (.int .i64 c.seq), .eq (.pointer (some ⟨g, 4, none⟩)), .eq (.int .i64 c.id), .eq (.pointer (some ⟨g, 7, none⟩)), .eq (.int .i64 c.price), .eq (.pointer (some ⟨g, 8, none⟩)), .eq (.int .i64 c.qty), .eq (.pointer (some ⟨g, 9, none⟩)), .eq (.int .i64 c.shw), .eq (.pointer (some ⟨g, 10, none⟩)), .eq (.int .i64 c.stop), .ints [(c.seq), (c.id), (c.price), (c.qty), (c.shw), (c.stop)], .eq (.bool (win 1073741824 [c.seq, c.id, c.price, c.qty, c.shw, c.stop])), .eq (.bool (win 1073741824 [c.seq, c.id, c.price, c.qty, c.shw, c.stop])), .cond (win 1073741824 [c.seq, c.id, c.price, c.qty, c.shw, c.stop]) (.eq (.pointer (some ⟨g, 5, none⟩))), .cond (win 1073741824 [c.seq, c.id, c.price, c.qty, c.shw, c.stop]) (.eq (.int .i64 c.side)), .cond (win 1073741824 [c.seq, c.id, c.price, c.qty, c.shw, c.stop]) (.eq (.pointer (some ⟨g, 6, none⟩))), .cond (win 1073741824 [c.seq, c.id, c.price, c.qty, c.shw, c.stop]) (.eq (.int .i64 c.ord)), .cond (win 1073741824 [c.seq, c.id, c.price, c.qty, c.shw, c.stop]) (.eq (.pointer (some ⟨g, 12, none⟩))), .cond (win 1073741824 [c.seq, c.id, c.price, c.qty, c.shw, c.stop]) (.eq (.int .i64 c.fa)), .cond (win 1073741824 [c.seq, c.id, c.price, c.qty, c.shw, c.stop]) (.eq (.pointer (some ⟨g, 13, none⟩))), .cond (win 1073741824 [c.seq, c.id, c.price, c.qty, c.shw, c.stop]) (.eq (.int .i64 c.fb)), .cond (win 1073741824 [c.seq, c.id, c.price, c.qty, c.shw, c.stop]) (.ints [(c.side), (c.ord), (c.fa), (c.fb)]), .cond (win 1073741824 [c.seq, c.id, c.price, c.qty, c.shw, c.stop]) (.eq (.bool (win 255 [c.side, c.ord, c.fa, c.fb]))), .eq (.bool ((win 1073741824 [c.seq, c.id, c.price, c.qty, c.shw, c.stop]) && (win 255 [c.side, c.ord, c.fa, c.fb]))), .eq (.bool ((win 1073741824 [c.seq, c.id, c.price, c.qty, c.shw, c.stop]) && (win 255 [c.side, c.ord, c.fa, c.fb]))), .cond ((win 1073741824 [c.seq, c.id, c.price, c.qty, c.shw, c.stop]) && (win 255 [c.side, c.ord, c.fa, c.fb])) (.eq (.pointer (some ⟨g, 2, none⟩))), .cond ((win 1073741824 [c.seq, c.id, c.price, c.qty, c.shw, c.stop]) && (win 255 [c.side, c.ord, c.fa, c.fb])) (.eq (.int .i64 c.tr)), .cond ((win 1073741824 [c.seq, c.id, c.price, c.qty, c.shw, c.stop]) && (win 255 [c.side, c.ord, c.fa, c.fb])) (.ints [(c.tr)]), .cond ((win 1073741824 [c.seq, c.id, c.price, c.qty, c.shw, c.stop]) && (win 255 [c.side, c.ord, c.fa, c.fb])) (.eq (.bool (win 31 [c.tr]))), .eq (.bool (((win 1073741824 [c.seq, c.id, c.price, c.qty, c.shw, c.stop]) && (win 255 [c.side, c.ord, c.fa, c.fb])) && (win 31 [c.tr]))), .eq (.bool (((win 1073741824 [c.seq, c.id, c.price, c.qty, c.shw, c.stop]) && (win 255 [c.side, c.ord, c.fa, c.fb])) && (win 31 [c.tr]))), .cond (((win 1073741824 [c.seq, c.id, c.price, c.qty, c.shw, c.stop]) && (win 255 [c.side, c.ord, c.fa, c.fb])) && (win 31 [c.tr])) (.eq (.pointer (some ⟨g, 0, none⟩))), .cond (((win 1073741824 [c.seq, c.id, c.price, c.qty, c.shw, c.stop]) && (win 255 [c.side, c.ord, c.fa, c.fb])) && (win 31 [c.tr])) (.eq (.int .i64 c.k)), .cond (((win 1073741824 [c.seq, c.id, c.price, c.qty, c.shw, c.stop]) && (win 255 [c.side, c.ord, c.fa, c.fb])) && (win 31 [c.tr])) (.eq (.int .i64 (lastB c.k))), .cond (((win 1073741824 [c.seq, c.id, c.price, c.qty, c.shw, c.stop]) && (win 255 [c.side, c.ord, c.fa, c.fb])) && (win 31 [c.tr])) (.eq (.pointer (some ⟨g, 3, none⟩))), .cond (((win 1073741824 [c.seq, c.id, c.price, c.qty, c.shw, c.stop]) && (win 255 [c.side, c.ord, c.fa, c.fb])) && (win 31 [c.tr])) (.eq (.int .i64 c.inst)), .cond (((win 1073741824 [c.seq, c.id, c.price, c.qty, c.shw, c.stop]) && (win 255 [c.side, c.ord, c.fa, c.fb])) && (win 31 [c.tr])) (.ints [(c.inst)]), .cond (((win 1073741824 [c.seq, c.id, c.price, c.qty, c.shw, c.stop]) && (win 255 [c.side, c.ord, c.fa, c.fb])) && (win 31 [c.tr])) (.eq (.bool (win (lastB c.k) [c.inst]))), .eq (.bool ((((win 1073741824 [c.seq, c.id, c.price, c.qty, c.shw, c.stop]) && (win 255 [c.side, c.ord, c.fa, c.fb])) && (win 31 [c.tr])) && (win (lastB c.k) [c.inst]))), .eq (.bool ((((win 1073741824 [c.seq, c.id, c.price, c.qty, c.shw, c.stop]) && (win 255 [c.side, c.ord, c.fa, c.fb])) && (win 31 [c.tr])) && (win (lastB c.k) [c.inst]))), .cond ((((win 1073741824 [c.seq, c.id, c.price, c.qty, c.shw, c.stop]) && (win 255 [c.side, c.ord, c.fa, c.fb])) && (win 31 [c.tr])) && (win (lastB c.k) [c.inst])) (.eq (.pointer (some ⟨g, 0, none⟩))), .cond ((((win 1073741824 [c.seq, c.id, c.price, c.qty, c.shw, c.stop]) && (win 255 [c.side, c.ord, c.fa, c.fb])) && (win 31 [c.tr])) && (win (lastB c.k) [c.inst])) (.eq (.int .i64 c.k)), .cond ((((win 1073741824 [c.seq, c.id, c.price, c.qty, c.shw, c.stop]) && (win 255 [c.side, c.ord, c.fa, c.fb])) && (win 31 [c.tr])) && (win (lastB c.k) [c.inst])) (.eq (.pointer (some ⟨g, 11, none⟩))), .cond ((((win 1073741824 [c.seq, c.id, c.price, c.qty, c.shw, c.stop]) && (win 255 [c.side, c.ord, c.fa, c.fb])) && (win 31 [c.tr])) && (win (lastB c.k) [c.inst])) (.eq (.int .i64 c.what)), .cond ((((win 1073741824 [c.seq, c.id, c.price, c.qty, c.shw, c.stop]) && (win 255 [c.side, c.ord, c.fa, c.fb])) && (win 31 [c.tr])) && (win (lastB c.k) [c.inst])) (.eq (.bool (whatB c.k c.what))), .eq (.bool (((((win 1073741824 [c.seq, c.id, c.price, c.qty, c.shw, c.stop]) && (win 255 [c.side, c.ord, c.fa, c.fb])) && (win 31 [c.tr])) && (win (lastB c.k) [c.inst])) && (whatB c.k c.what)))] (by kernel_rfl) rfl (by kernel_rfl) ?_ ?_
  · refine fsteps_cons 1 rfl (fun a u hE hD hk => f_val (o := ⟨some 3, _, _, _, _, _⟩) (.pointer (some ⟨g, 1, none⟩)) rfl (wanted_none rfl _) (exec_fld 28 1 1 (.tmp 1) (g) rfl (hE 1 (.pointer (some ⟨g, 0, none⟩)) (by kernel_rfl) (by kernel_rfl)) (by kernel_rfl)) rfl) ?_
    refine fsteps_cons 2 rfl (fun a u hE hD hk => f_val (o := ⟨some 4, _, _, _, _, _⟩) (.int .i64 c.seq) rfl (wanted_none rfl _) (exec_loadi 3 Try.underlying3 (.tmp 3) ⟨g, 1, none⟩ (.int .i64 c.seq) rfl (hD 0 3 (by kernel_rfl)) ((HB0.out.kept hk).fld 1 _ rfl)) rfl) ?_
    refine fsteps_cons 3 rfl (fun a u hE hD hk => f_val (o := ⟨some 5, _, _, _, _, _⟩) (.pointer (some ⟨g, 4, none⟩)) rfl (wanted_none rfl _) (exec_fld 28 4 4 (.tmp 1) (g) rfl (hE 1 (.pointer (some ⟨g, 0, none⟩)) (by kernel_rfl) (by kernel_rfl)) (by kernel_rfl)) rfl) ?_
    refine fsteps_cons 4 rfl (fun a u hE hD hk => f_val (o := ⟨some 6, _, _, _, _, _⟩) (.int .i64 c.id) rfl (wanted_none rfl _) (exec_loadi 3 Try.underlying3 (.tmp 5) ⟨g, 4, none⟩ (.int .i64 c.id) rfl (hD 2 5 (by kernel_rfl)) ((HB0.out.kept hk).fld 4 _ rfl)) rfl) ?_
    refine fsteps_cons 5 rfl (fun a u hE hD hk => f_val (o := ⟨some 7, _, _, _, _, _⟩) (.pointer (some ⟨g, 7, none⟩)) rfl (wanted_none rfl _) (exec_fld 28 7 7 (.tmp 1) (g) rfl (hE 1 (.pointer (some ⟨g, 0, none⟩)) (by kernel_rfl) (by kernel_rfl)) (by kernel_rfl)) rfl) ?_
    refine fsteps_cons 6 rfl (fun a u hE hD hk => f_val (o := ⟨some 8, _, _, _, _, _⟩) (.int .i64 c.price) rfl (wanted_none rfl _) (exec_loadi 3 Try.underlying3 (.tmp 7) ⟨g, 7, none⟩ (.int .i64 c.price) rfl (hD 4 7 (by kernel_rfl)) ((HB0.out.kept hk).fld 7 _ rfl)) rfl) ?_
    refine fsteps_cons 7 rfl (fun a u hE hD hk => f_val (o := ⟨some 9, _, _, _, _, _⟩) (.pointer (some ⟨g, 8, none⟩)) rfl (wanted_none rfl _) (exec_fld 28 8 8 (.tmp 1) (g) rfl (hE 1 (.pointer (some ⟨g, 0, none⟩)) (by kernel_rfl) (by kernel_rfl)) (by kernel_rfl)) rfl) ?_
    refine fsteps_cons 8 rfl (fun a u hE hD hk => f_val (o := ⟨some 10, _, _, _, _, _⟩) (.int .i64 c.qty) rfl (wanted_none rfl _) (exec_loadi 3 Try.underlying3 (.tmp 9) ⟨g, 8, none⟩ (.int .i64 c.qty) rfl (hD 6 9 (by kernel_rfl)) ((HB0.out.kept hk).fld 8 _ rfl)) rfl) ?_
    refine fsteps_cons 9 rfl (fun a u hE hD hk => f_val (o := ⟨some 11, _, _, _, _, _⟩) (.pointer (some ⟨g, 9, none⟩)) rfl (wanted_none rfl _) (exec_fld 28 9 9 (.tmp 1) (g) rfl (hE 1 (.pointer (some ⟨g, 0, none⟩)) (by kernel_rfl) (by kernel_rfl)) (by kernel_rfl)) rfl) ?_
    refine fsteps_cons 10 rfl (fun a u hE hD hk => f_val (o := ⟨some 12, _, _, _, _, _⟩) (.int .i64 c.shw) rfl (wanted_none rfl _) (exec_loadi 3 Try.underlying3 (.tmp 11) ⟨g, 9, none⟩ (.int .i64 c.shw) rfl (hD 8 11 (by kernel_rfl)) ((HB0.out.kept hk).fld 9 _ rfl)) rfl) ?_
    refine fsteps_cons 11 rfl (fun a u hE hD hk => f_val (o := ⟨some 13, _, _, _, _, _⟩) (.pointer (some ⟨g, 10, none⟩)) rfl (wanted_none rfl _) (exec_fld 28 10 10 (.tmp 1) (g) rfl (hE 1 (.pointer (some ⟨g, 0, none⟩)) (by kernel_rfl) (by kernel_rfl)) (by kernel_rfl)) rfl) ?_
    refine fsteps_cons 12 rfl (fun a u hE hD hk => f_val (o := ⟨some 14, _, _, _, _, _⟩) (.int .i64 c.stop) rfl (wanted_none rfl _) (exec_loadi 3 Try.underlying3 (.tmp 13) ⟨g, 10, none⟩ (.int .i64 c.stop) rfl (hD 10 13 (by kernel_rfl)) ((HB0.out.kept hk).fld 10 _ rfl)) rfl) ?_
    refine fsteps_cons 13 rfl (fun a u hE hD hk => f_new (o := ⟨some 15, _, _, _, _, _⟩) (.slice (some ⟨u.heap.size, 0, none⟩) 6 6) _ rfl (wanted_none rfl _) (exec_ints 6 _ [(c.seq), (c.id), (c.price), (c.qty), (c.shw), (c.stop)] rfl rfl (by omega) (by omega) (by show [(0, a.eval (.tmp 4)), (1, a.eval (.tmp 6)), (2, a.eval (.tmp 8)), (3, a.eval (.tmp 10)), (4, a.eval (.tmp 12)), (5, a.eval (.tmp 14))] = [(0, .int .i64 c.seq), (1, .int .i64 c.id), (2, .int .i64 c.price), (3, .int .i64 c.qty), (4, .int .i64 c.shw), (5, .int .i64 c.stop)]; rw [show a.eval (.tmp 4) = .int .i64 c.seq from (hD 1 4 (by kernel_rfl)), show a.eval (.tmp 6) = .int .i64 c.id from (hD 3 6 (by kernel_rfl)), show a.eval (.tmp 8) = .int .i64 c.price from (hD 5 8 (by kernel_rfl)), show a.eval (.tmp 10) = .int .i64 c.qty from (hD 7 10 (by kernel_rfl)), show a.eval (.tmp 12) = .int .i64 c.shw from (hD 9 12 (by kernel_rfl)), show a.eval (.tmp 14) = .int .i64 c.stop from (hD 11 14 (by kernel_rfl))])) (ints_new u [(c.seq), (c.id), (c.price), (c.qty), (c.shw), (c.stop)] 6 rfl) ((Keep.refl _ u).alloc _)) ?_
    refine fsteps_cons 14 rfl (fun a u hE hD hk => f_call (o := ⟨some 16, _, _, _, _, _⟩) 40 #[.int .i64 1073741824, a.eval (.tmp 15)] rfl (wanted_none rfl _) (exec_call 40 _ [.const (.int .i64 1073741824), .tmp 15] _ [.int .i64 1073741824, a.eval (.tmp 15)] Try.func40 (by kernel_rfl) (by kernel_rfl) rfl rfl u) (mwithin_any _ _ _ u (hD 12 15 (by kernel_rfl)) (by simp))) ?_
    refine fsteps_cons 15 rfl (fun a u hE hD hk => f_val (o := ⟨some 17, _, _, _, _, _⟩) (.bool (win 1073741824 [c.seq, c.id, c.price, c.qty, c.shw, c.stop])) rfl (wanted_none rfl _) (exec_move (.tmp 16) (.bool (win 1073741824 [c.seq, c.id, c.price, c.qty, c.shw, c.stop])) rfl (hD 13 16 (by kernel_rfl))) rfl) ?_
    refine fsteps_cons 16 rfl (fun a u hE hD hk => f_if ((win 1073741824 [c.seq, c.id, c.price, c.qty, c.shw, c.stop])) rfl rfl rfl (hD 14 17 (by kernel_rfl)) (fun hb => f_val (o := ⟨some 18, _, _, _, _, _⟩) (.pointer (some ⟨g, 5, none⟩)) rfl (wanted_b rfl rfl (hD 14 17 (by kernel_rfl)) (eq_true_of hb)) (exec_fld 28 5 5 (.tmp 1) (g) rfl (hE 1 (.pointer (some ⟨g, 0, none⟩)) (by kernel_rfl) (by kernel_rfl)) (by kernel_rfl)) rfl)) ?_
    refine fsteps_cons 17 rfl (fun a u hE hD hk => f_if ((win 1073741824 [c.seq, c.id, c.price, c.qty, c.shw, c.stop])) rfl rfl rfl (hD 14 17 (by kernel_rfl)) (fun hb => f_val (o := ⟨some 19, _, _, _, _, _⟩) (.int .i64 c.side) rfl (wanted_b rfl rfl (hD 14 17 (by kernel_rfl)) (eq_true_of hb)) (exec_loadi 3 Try.underlying3 (.tmp 18) ⟨g, 5, none⟩ (.int .i64 c.side) rfl ((hD 15 18 (by kernel_rfl)).1 hb) ((HB0.out.kept hk).fld 5 _ rfl)) rfl)) ?_
    refine fsteps_cons 18 rfl (fun a u hE hD hk => f_if ((win 1073741824 [c.seq, c.id, c.price, c.qty, c.shw, c.stop])) rfl rfl rfl (hD 14 17 (by kernel_rfl)) (fun hb => f_val (o := ⟨some 20, _, _, _, _, _⟩) (.pointer (some ⟨g, 6, none⟩)) rfl (wanted_b rfl rfl (hD 14 17 (by kernel_rfl)) (eq_true_of hb)) (exec_fld 28 6 6 (.tmp 1) (g) rfl (hE 1 (.pointer (some ⟨g, 0, none⟩)) (by kernel_rfl) (by kernel_rfl)) (by kernel_rfl)) rfl)) ?_
    refine fsteps_cons 19 rfl (fun a u hE hD hk => f_if ((win 1073741824 [c.seq, c.id, c.price, c.qty, c.shw, c.stop])) rfl rfl rfl (hD 14 17 (by kernel_rfl)) (fun hb => f_val (o := ⟨some 21, _, _, _, _, _⟩) (.int .i64 c.ord) rfl (wanted_b rfl rfl (hD 14 17 (by kernel_rfl)) (eq_true_of hb)) (exec_loadi 3 Try.underlying3 (.tmp 20) ⟨g, 6, none⟩ (.int .i64 c.ord) rfl ((hD 17 20 (by kernel_rfl)).1 hb) ((HB0.out.kept hk).fld 6 _ rfl)) rfl)) ?_
    refine fsteps_cons 20 rfl (fun a u hE hD hk => f_if ((win 1073741824 [c.seq, c.id, c.price, c.qty, c.shw, c.stop])) rfl rfl rfl (hD 14 17 (by kernel_rfl)) (fun hb => f_val (o := ⟨some 22, _, _, _, _, _⟩) (.pointer (some ⟨g, 12, none⟩)) rfl (wanted_b rfl rfl (hD 14 17 (by kernel_rfl)) (eq_true_of hb)) (exec_fld 28 12 12 (.tmp 1) (g) rfl (hE 1 (.pointer (some ⟨g, 0, none⟩)) (by kernel_rfl) (by kernel_rfl)) (by kernel_rfl)) rfl)) ?_
    refine fsteps_cons 21 rfl (fun a u hE hD hk => f_if ((win 1073741824 [c.seq, c.id, c.price, c.qty, c.shw, c.stop])) rfl rfl rfl (hD 14 17 (by kernel_rfl)) (fun hb => f_val (o := ⟨some 23, _, _, _, _, _⟩) (.int .i64 c.fa) rfl (wanted_b rfl rfl (hD 14 17 (by kernel_rfl)) (eq_true_of hb)) (exec_loadi 3 Try.underlying3 (.tmp 22) ⟨g, 12, none⟩ (.int .i64 c.fa) rfl ((hD 19 22 (by kernel_rfl)).1 hb) ((HB0.out.kept hk).fld 12 _ rfl)) rfl)) ?_
    refine fsteps_cons 22 rfl (fun a u hE hD hk => f_if ((win 1073741824 [c.seq, c.id, c.price, c.qty, c.shw, c.stop])) rfl rfl rfl (hD 14 17 (by kernel_rfl)) (fun hb => f_val (o := ⟨some 24, _, _, _, _, _⟩) (.pointer (some ⟨g, 13, none⟩)) rfl (wanted_b rfl rfl (hD 14 17 (by kernel_rfl)) (eq_true_of hb)) (exec_fld 28 13 13 (.tmp 1) (g) rfl (hE 1 (.pointer (some ⟨g, 0, none⟩)) (by kernel_rfl) (by kernel_rfl)) (by kernel_rfl)) rfl)) ?_
    refine fsteps_cons 23 rfl (fun a u hE hD hk => f_if ((win 1073741824 [c.seq, c.id, c.price, c.qty, c.shw, c.stop])) rfl rfl rfl (hD 14 17 (by kernel_rfl)) (fun hb => f_val (o := ⟨some 25, _, _, _, _, _⟩) (.int .i64 c.fb) rfl (wanted_b rfl rfl (hD 14 17 (by kernel_rfl)) (eq_true_of hb)) (exec_loadi 3 Try.underlying3 (.tmp 24) ⟨g, 13, none⟩ (.int .i64 c.fb) rfl ((hD 21 24 (by kernel_rfl)).1 hb) ((HB0.out.kept hk).fld 13 _ rfl)) rfl)) ?_
    refine fsteps_cons 24 rfl (fun a u hE hD hk => f_if ((win 1073741824 [c.seq, c.id, c.price, c.qty, c.shw, c.stop])) rfl rfl rfl (hD 14 17 (by kernel_rfl)) (fun hb => f_new (o := ⟨some 26, _, _, _, _, _⟩) (.slice (some ⟨u.heap.size, 0, none⟩) 4 4) _ rfl (wanted_b rfl rfl (hD 14 17 (by kernel_rfl)) (eq_true_of hb)) (exec_ints 4 _ [(c.side), (c.ord), (c.fa), (c.fb)] rfl rfl (by omega) (by omega) (by show [(0, a.eval (.tmp 19)), (1, a.eval (.tmp 21)), (2, a.eval (.tmp 23)), (3, a.eval (.tmp 25))] = [(0, .int .i64 c.side), (1, .int .i64 c.ord), (2, .int .i64 c.fa), (3, .int .i64 c.fb)]; rw [show a.eval (.tmp 19) = .int .i64 c.side from ((hD 16 19 (by kernel_rfl)).1 hb), show a.eval (.tmp 21) = .int .i64 c.ord from ((hD 18 21 (by kernel_rfl)).1 hb), show a.eval (.tmp 23) = .int .i64 c.fa from ((hD 20 23 (by kernel_rfl)).1 hb), show a.eval (.tmp 25) = .int .i64 c.fb from ((hD 22 25 (by kernel_rfl)).1 hb)])) (ints_new u [(c.side), (c.ord), (c.fa), (c.fb)] 4 rfl) ((Keep.refl _ u).alloc _))) ?_
    refine fsteps_cons 25 rfl (fun a u hE hD hk => f_if ((win 1073741824 [c.seq, c.id, c.price, c.qty, c.shw, c.stop])) rfl rfl rfl (hD 14 17 (by kernel_rfl)) (fun hb => f_call (o := ⟨some 27, _, _, _, _, _⟩) 40 #[.int .i64 255, a.eval (.tmp 26)] rfl (wanted_b rfl rfl (hD 14 17 (by kernel_rfl)) (eq_true_of hb)) (exec_call 40 _ [.const (.int .i64 255), .tmp 26] _ [.int .i64 255, a.eval (.tmp 26)] Try.func40 (by kernel_rfl) (by kernel_rfl) rfl rfl u) (mwithin_any _ _ _ u ((hD 23 26 (by kernel_rfl)).1 hb) (by simp)))) ?_
    refine fsteps_cons 26 rfl (fun a u hE hD hk => f_val (o := ⟨some 28, _, _, _, _, _⟩) (.bool ((win 1073741824 [c.seq, c.id, c.price, c.qty, c.shw, c.stop]) && (win 255 [c.side, c.ord, c.fa, c.fb]))) rfl (wanted_none rfl _) (exec_pickand (.tmp 17) (.tmp 27) (.const (.bool false)) ((win 1073741824 [c.seq, c.id, c.price, c.qty, c.shw, c.stop])) ((win 255 [c.side, c.ord, c.fa, c.fb])) rfl (hD 14 17 (by kernel_rfl)) (fun hb => ((hD 24 27 (by kernel_rfl)).1 hb)) rfl) rfl) ?_
    refine fsteps_cons 27 rfl (fun a u hE hD hk => f_val (o := ⟨some 29, _, _, _, _, _⟩) (.bool ((win 1073741824 [c.seq, c.id, c.price, c.qty, c.shw, c.stop]) && (win 255 [c.side, c.ord, c.fa, c.fb]))) rfl (wanted_none rfl _) (exec_move (.tmp 28) (.bool ((win 1073741824 [c.seq, c.id, c.price, c.qty, c.shw, c.stop]) && (win 255 [c.side, c.ord, c.fa, c.fb]))) rfl (hD 25 28 (by kernel_rfl))) rfl) ?_
    refine fsteps_cons 28 rfl (fun a u hE hD hk => f_if (((win 1073741824 [c.seq, c.id, c.price, c.qty, c.shw, c.stop]) && (win 255 [c.side, c.ord, c.fa, c.fb]))) rfl rfl rfl (hD 26 29 (by kernel_rfl)) (fun hb => f_val (o := ⟨some 30, _, _, _, _, _⟩) (.pointer (some ⟨g, 2, none⟩)) rfl (wanted_b rfl rfl (hD 26 29 (by kernel_rfl)) (eq_true_of hb)) (exec_fld 28 2 2 (.tmp 1) (g) rfl (hE 1 (.pointer (some ⟨g, 0, none⟩)) (by kernel_rfl) (by kernel_rfl)) (by kernel_rfl)) rfl)) ?_
    refine fsteps_cons 29 rfl (fun a u hE hD hk => f_if (((win 1073741824 [c.seq, c.id, c.price, c.qty, c.shw, c.stop]) && (win 255 [c.side, c.ord, c.fa, c.fb]))) rfl rfl rfl (hD 26 29 (by kernel_rfl)) (fun hb => f_val (o := ⟨some 31, _, _, _, _, _⟩) (.int .i64 c.tr) rfl (wanted_b rfl rfl (hD 26 29 (by kernel_rfl)) (eq_true_of hb)) (exec_loadi 3 Try.underlying3 (.tmp 30) ⟨g, 2, none⟩ (.int .i64 c.tr) rfl ((hD 27 30 (by kernel_rfl)).1 hb) ((HB0.out.kept hk).fld 2 _ rfl)) rfl)) ?_
    refine fsteps_cons 30 rfl (fun a u hE hD hk => f_if (((win 1073741824 [c.seq, c.id, c.price, c.qty, c.shw, c.stop]) && (win 255 [c.side, c.ord, c.fa, c.fb]))) rfl rfl rfl (hD 26 29 (by kernel_rfl)) (fun hb => f_new (o := ⟨some 32, _, _, _, _, _⟩) (.slice (some ⟨u.heap.size, 0, none⟩) 1 1) _ rfl (wanted_b rfl rfl (hD 26 29 (by kernel_rfl)) (eq_true_of hb)) (exec_ints 1 _ [(c.tr)] rfl rfl (by omega) (by omega) (by show [(0, a.eval (.tmp 31))] = [(0, .int .i64 c.tr)]; rw [show a.eval (.tmp 31) = .int .i64 c.tr from ((hD 28 31 (by kernel_rfl)).1 hb)])) (ints_new u [(c.tr)] 1 rfl) ((Keep.refl _ u).alloc _))) ?_
    refine fsteps_cons 31 rfl (fun a u hE hD hk => f_if (((win 1073741824 [c.seq, c.id, c.price, c.qty, c.shw, c.stop]) && (win 255 [c.side, c.ord, c.fa, c.fb]))) rfl rfl rfl (hD 26 29 (by kernel_rfl)) (fun hb => f_call (o := ⟨some 33, _, _, _, _, _⟩) 40 #[.int .i64 31, a.eval (.tmp 32)] rfl (wanted_b rfl rfl (hD 26 29 (by kernel_rfl)) (eq_true_of hb)) (exec_call 40 _ [.const (.int .i64 31), .tmp 32] _ [.int .i64 31, a.eval (.tmp 32)] Try.func40 (by kernel_rfl) (by kernel_rfl) rfl rfl u) (mwithin_any _ _ _ u ((hD 29 32 (by kernel_rfl)).1 hb) (by simp)))) ?_
    refine fsteps_cons 32 rfl (fun a u hE hD hk => f_val (o := ⟨some 34, _, _, _, _, _⟩) (.bool (((win 1073741824 [c.seq, c.id, c.price, c.qty, c.shw, c.stop]) && (win 255 [c.side, c.ord, c.fa, c.fb])) && (win 31 [c.tr]))) rfl (wanted_none rfl _) (exec_pickand (.tmp 29) (.tmp 33) (.const (.bool false)) (((win 1073741824 [c.seq, c.id, c.price, c.qty, c.shw, c.stop]) && (win 255 [c.side, c.ord, c.fa, c.fb]))) ((win 31 [c.tr])) rfl (hD 26 29 (by kernel_rfl)) (fun hb => ((hD 30 33 (by kernel_rfl)).1 hb)) rfl) rfl) ?_
    refine fsteps_cons 33 rfl (fun a u hE hD hk => f_val (o := ⟨some 35, _, _, _, _, _⟩) (.bool (((win 1073741824 [c.seq, c.id, c.price, c.qty, c.shw, c.stop]) && (win 255 [c.side, c.ord, c.fa, c.fb])) && (win 31 [c.tr]))) rfl (wanted_none rfl _) (exec_move (.tmp 34) (.bool (((win 1073741824 [c.seq, c.id, c.price, c.qty, c.shw, c.stop]) && (win 255 [c.side, c.ord, c.fa, c.fb])) && (win 31 [c.tr]))) rfl (hD 31 34 (by kernel_rfl))) rfl) ?_
    refine fsteps_cons 34 rfl (fun a u hE hD hk => f_if ((((win 1073741824 [c.seq, c.id, c.price, c.qty, c.shw, c.stop]) && (win 255 [c.side, c.ord, c.fa, c.fb])) && (win 31 [c.tr]))) rfl rfl rfl (hD 32 35 (by kernel_rfl)) (fun hb => f_val (o := ⟨some 36, _, _, _, _, _⟩) (.pointer (some ⟨g, 0, none⟩)) rfl (wanted_b rfl rfl (hD 32 35 (by kernel_rfl)) (eq_true_of hb)) (exec_fld 28 0 0 (.tmp 1) (g) rfl (hE 1 (.pointer (some ⟨g, 0, none⟩)) (by kernel_rfl) (by kernel_rfl)) (by kernel_rfl)) rfl)) ?_
    refine fsteps_cons 35 rfl (fun a u hE hD hk => f_if ((((win 1073741824 [c.seq, c.id, c.price, c.qty, c.shw, c.stop]) && (win 255 [c.side, c.ord, c.fa, c.fb])) && (win 31 [c.tr]))) rfl rfl rfl (hD 32 35 (by kernel_rfl)) (fun hb => f_val (o := ⟨some 37, _, _, _, _, _⟩) (.int .i64 c.k) rfl (wanted_b rfl rfl (hD 32 35 (by kernel_rfl)) (eq_true_of hb)) (exec_loadi 3 Try.underlying3 (.tmp 36) ⟨g, 0, none⟩ (.int .i64 c.k) rfl ((hD 33 36 (by kernel_rfl)).1 hb) ((HB0.out.kept hk).fld 0 _ rfl)) rfl)) ?_
    refine fsteps_cons 36 rfl (fun a u hE hD hk => f_if ((((win 1073741824 [c.seq, c.id, c.price, c.qty, c.shw, c.stop]) && (win 255 [c.side, c.ord, c.fa, c.fb])) && (win 31 [c.tr]))) rfl rfl rfl (hD 32 35 (by kernel_rfl)) (fun hb => f_call (o := ⟨some 38, _, _, _, _, _⟩) 41 #[.int .i64 c.k] rfl (wanted_b rfl rfl (hD 32 35 (by kernel_rfl)) (eq_true_of hb)) (exec_call 41 _ [.tmp 37] _ [.int .i64 c.k] Try.func41 (by kernel_rfl) (by kernel_rfl) rfl (show [a.eval (.tmp 37)] = [.int .i64 c.k] from (by rw [show a.eval (.tmp 37) = .int .i64 c.k from ((hD 34 37 (by kernel_rfl)).1 hb)] <;> rfl)) u) (lastInst_any _ u))) ?_
    refine fsteps_cons 37 rfl (fun a u hE hD hk => f_if ((((win 1073741824 [c.seq, c.id, c.price, c.qty, c.shw, c.stop]) && (win 255 [c.side, c.ord, c.fa, c.fb])) && (win 31 [c.tr]))) rfl rfl rfl (hD 32 35 (by kernel_rfl)) (fun hb => f_val (o := ⟨some 39, _, _, _, _, _⟩) (.pointer (some ⟨g, 3, none⟩)) rfl (wanted_b rfl rfl (hD 32 35 (by kernel_rfl)) (eq_true_of hb)) (exec_fld 28 3 3 (.tmp 1) (g) rfl (hE 1 (.pointer (some ⟨g, 0, none⟩)) (by kernel_rfl) (by kernel_rfl)) (by kernel_rfl)) rfl)) ?_
    refine fsteps_cons 38 rfl (fun a u hE hD hk => f_if ((((win 1073741824 [c.seq, c.id, c.price, c.qty, c.shw, c.stop]) && (win 255 [c.side, c.ord, c.fa, c.fb])) && (win 31 [c.tr]))) rfl rfl rfl (hD 32 35 (by kernel_rfl)) (fun hb => f_val (o := ⟨some 40, _, _, _, _, _⟩) (.int .i64 c.inst) rfl (wanted_b rfl rfl (hD 32 35 (by kernel_rfl)) (eq_true_of hb)) (exec_loadi 3 Try.underlying3 (.tmp 39) ⟨g, 3, none⟩ (.int .i64 c.inst) rfl ((hD 36 39 (by kernel_rfl)).1 hb) ((HB0.out.kept hk).fld 3 _ rfl)) rfl)) ?_
    refine fsteps_cons 39 rfl (fun a u hE hD hk => f_if ((((win 1073741824 [c.seq, c.id, c.price, c.qty, c.shw, c.stop]) && (win 255 [c.side, c.ord, c.fa, c.fb])) && (win 31 [c.tr]))) rfl rfl rfl (hD 32 35 (by kernel_rfl)) (fun hb => f_new (o := ⟨some 41, _, _, _, _, _⟩) (.slice (some ⟨u.heap.size, 0, none⟩) 1 1) _ rfl (wanted_b rfl rfl (hD 32 35 (by kernel_rfl)) (eq_true_of hb)) (exec_ints 1 _ [(c.inst)] rfl rfl (by omega) (by omega) (by show [(0, a.eval (.tmp 40))] = [(0, .int .i64 c.inst)]; rw [show a.eval (.tmp 40) = .int .i64 c.inst from ((hD 37 40 (by kernel_rfl)).1 hb)])) (ints_new u [(c.inst)] 1 rfl) ((Keep.refl _ u).alloc _))) ?_
    refine fsteps_cons 40 rfl (fun a u hE hD hk => f_if ((((win 1073741824 [c.seq, c.id, c.price, c.qty, c.shw, c.stop]) && (win 255 [c.side, c.ord, c.fa, c.fb])) && (win 31 [c.tr]))) rfl rfl rfl (hD 32 35 (by kernel_rfl)) (fun hb => f_call (o := ⟨some 42, _, _, _, _, _⟩) 40 #[.int .i64 (lastB c.k), a.eval (.tmp 41)] rfl (wanted_b rfl rfl (hD 32 35 (by kernel_rfl)) (eq_true_of hb)) (exec_call 40 _ [.tmp 38, .tmp 41] _ [.int .i64 (lastB c.k), a.eval (.tmp 41)] Try.func40 (by kernel_rfl) (by kernel_rfl) rfl (show [a.eval (.tmp 38), a.eval (.tmp 41)] = [.int .i64 (lastB c.k), a.eval (.tmp 41)] from (by rw [show a.eval (.tmp 38) = .int .i64 (lastB c.k) from ((hD 35 38 (by kernel_rfl)).1 hb)] <;> rfl)) u) (mwithin_any _ _ _ u ((hD 38 41 (by kernel_rfl)).1 hb) (by simp)))) ?_
    refine fsteps_cons 41 rfl (fun a u hE hD hk => f_val (o := ⟨some 43, _, _, _, _, _⟩) (.bool ((((win 1073741824 [c.seq, c.id, c.price, c.qty, c.shw, c.stop]) && (win 255 [c.side, c.ord, c.fa, c.fb])) && (win 31 [c.tr])) && (win (lastB c.k) [c.inst]))) rfl (wanted_none rfl _) (exec_pickand (.tmp 35) (.tmp 42) (.const (.bool false)) ((((win 1073741824 [c.seq, c.id, c.price, c.qty, c.shw, c.stop]) && (win 255 [c.side, c.ord, c.fa, c.fb])) && (win 31 [c.tr]))) ((win (lastB c.k) [c.inst])) rfl (hD 32 35 (by kernel_rfl)) (fun hb => ((hD 39 42 (by kernel_rfl)).1 hb)) rfl) rfl) ?_
    refine fsteps_cons 42 rfl (fun a u hE hD hk => f_val (o := ⟨some 44, _, _, _, _, _⟩) (.bool ((((win 1073741824 [c.seq, c.id, c.price, c.qty, c.shw, c.stop]) && (win 255 [c.side, c.ord, c.fa, c.fb])) && (win 31 [c.tr])) && (win (lastB c.k) [c.inst]))) rfl (wanted_none rfl _) (exec_move (.tmp 43) (.bool ((((win 1073741824 [c.seq, c.id, c.price, c.qty, c.shw, c.stop]) && (win 255 [c.side, c.ord, c.fa, c.fb])) && (win 31 [c.tr])) && (win (lastB c.k) [c.inst]))) rfl (hD 40 43 (by kernel_rfl))) rfl) ?_
    refine fsteps_cons 43 rfl (fun a u hE hD hk => f_if (((((win 1073741824 [c.seq, c.id, c.price, c.qty, c.shw, c.stop]) && (win 255 [c.side, c.ord, c.fa, c.fb])) && (win 31 [c.tr])) && (win (lastB c.k) [c.inst]))) rfl rfl rfl (hD 41 44 (by kernel_rfl)) (fun hb => f_val (o := ⟨some 45, _, _, _, _, _⟩) (.pointer (some ⟨g, 0, none⟩)) rfl (wanted_b rfl rfl (hD 41 44 (by kernel_rfl)) (eq_true_of hb)) (exec_fld 28 0 0 (.tmp 1) (g) rfl (hE 1 (.pointer (some ⟨g, 0, none⟩)) (by kernel_rfl) (by kernel_rfl)) (by kernel_rfl)) rfl)) ?_
    refine fsteps_cons 44 rfl (fun a u hE hD hk => f_if (((((win 1073741824 [c.seq, c.id, c.price, c.qty, c.shw, c.stop]) && (win 255 [c.side, c.ord, c.fa, c.fb])) && (win 31 [c.tr])) && (win (lastB c.k) [c.inst]))) rfl rfl rfl (hD 41 44 (by kernel_rfl)) (fun hb => f_val (o := ⟨some 46, _, _, _, _, _⟩) (.int .i64 c.k) rfl (wanted_b rfl rfl (hD 41 44 (by kernel_rfl)) (eq_true_of hb)) (exec_loadi 3 Try.underlying3 (.tmp 45) ⟨g, 0, none⟩ (.int .i64 c.k) rfl ((hD 42 45 (by kernel_rfl)).1 hb) ((HB0.out.kept hk).fld 0 _ rfl)) rfl)) ?_
    refine fsteps_cons 45 rfl (fun a u hE hD hk => f_if (((((win 1073741824 [c.seq, c.id, c.price, c.qty, c.shw, c.stop]) && (win 255 [c.side, c.ord, c.fa, c.fb])) && (win 31 [c.tr])) && (win (lastB c.k) [c.inst]))) rfl rfl rfl (hD 41 44 (by kernel_rfl)) (fun hb => f_val (o := ⟨some 47, _, _, _, _, _⟩) (.pointer (some ⟨g, 11, none⟩)) rfl (wanted_b rfl rfl (hD 41 44 (by kernel_rfl)) (eq_true_of hb)) (exec_fld 28 11 11 (.tmp 1) (g) rfl (hE 1 (.pointer (some ⟨g, 0, none⟩)) (by kernel_rfl) (by kernel_rfl)) (by kernel_rfl)) rfl)) ?_
    refine fsteps_cons 46 rfl (fun a u hE hD hk => f_if (((((win 1073741824 [c.seq, c.id, c.price, c.qty, c.shw, c.stop]) && (win 255 [c.side, c.ord, c.fa, c.fb])) && (win 31 [c.tr])) && (win (lastB c.k) [c.inst]))) rfl rfl rfl (hD 41 44 (by kernel_rfl)) (fun hb => f_val (o := ⟨some 48, _, _, _, _, _⟩) (.int .i64 c.what) rfl (wanted_b rfl rfl (hD 41 44 (by kernel_rfl)) (eq_true_of hb)) (exec_loadi 3 Try.underlying3 (.tmp 47) ⟨g, 11, none⟩ (.int .i64 c.what) rfl ((hD 44 47 (by kernel_rfl)).1 hb) ((HB0.out.kept hk).fld 11 _ rfl)) rfl)) ?_
    refine fsteps_cons 47 rfl (fun a u hE hD hk => f_if (((((win 1073741824 [c.seq, c.id, c.price, c.qty, c.shw, c.stop]) && (win 255 [c.side, c.ord, c.fa, c.fb])) && (win 31 [c.tr])) && (win (lastB c.k) [c.inst]))) rfl rfl rfl (hD 41 44 (by kernel_rfl)) (fun hb => f_call (o := ⟨some 49, _, _, _, _, _⟩) 42 #[.int .i64 c.k, .int .i64 c.what] rfl (wanted_b rfl rfl (hD 41 44 (by kernel_rfl)) (eq_true_of hb)) (exec_call 42 _ [.tmp 46, .tmp 48] _ [.int .i64 c.k, .int .i64 c.what] Try.func42 (by kernel_rfl) (by kernel_rfl) rfl (show [a.eval (.tmp 46), a.eval (.tmp 48)] = [.int .i64 c.k, .int .i64 c.what] from (by rw [show a.eval (.tmp 46) = .int .i64 c.k from ((hD 43 46 (by kernel_rfl)).1 hb), show a.eval (.tmp 48) = .int .i64 c.what from ((hD 45 48 (by kernel_rfl)).1 hb)] <;> rfl)) u) (isWhat_any _ _ u))) ?_
    refine fsteps_cons 48 rfl (fun a u hE hD hk => f_val (o := ⟨some 50, _, _, _, _, _⟩) (.bool (((((win 1073741824 [c.seq, c.id, c.price, c.qty, c.shw, c.stop]) && (win 255 [c.side, c.ord, c.fa, c.fb])) && (win 31 [c.tr])) && (win (lastB c.k) [c.inst])) && (whatB c.k c.what))) rfl (wanted_none rfl _) (exec_pickand (.tmp 44) (.tmp 49) (.const (.bool false)) (((((win 1073741824 [c.seq, c.id, c.price, c.qty, c.shw, c.stop]) && (win 255 [c.side, c.ord, c.fa, c.fb])) && (win 31 [c.tr])) && (win (lastB c.k) [c.inst]))) ((whatB c.k c.what)) rfl (hD 41 44 (by kernel_rfl)) (fun hb => ((hD 46 49 (by kernel_rfl)).1 hb)) rfl) rfl) ?_
    exact fsteps_nil
  intro gv w1 hV k1
  rw [show dstsOf _ 48 = [3, 4, 5, 6, 7, 8, 9, 10, 11, 12, 13, 14, 15, 16, 17, 18, 19, 20, 21, 22, 23, 24, 25, 26, 27, 28, 29, 30, 31, 32, 33, 34, 35, 36, 37, 38, 39, 40, 41, 42, 43, 44, 45, 46, 47, 48, 49, 50] by kernel_rfl]
  simp only [List.foldl_cons, List.foldl_nil, List.setIfInBounds_toArray, List.set_cons_succ, List.set_cons_zero, List.drop_succ_cons, List.drop_zero]
  rw [show gv 50 = .bool (((((win 1073741824 [c.seq, c.id, c.price, c.qty, c.shw, c.stop]) && (win 255 [c.side, c.ord, c.fa, c.fb])) && (win 31 [c.tr])) && (win (lastB c.k) [c.inst])) && (whatB c.k c.what)) from hV 47 50 (by kernel_rfl)]
  clear hV
  have kw1 := kw0.trans k1
  go_wp2
  go_ret
  exact ⟨_, rfl, rfl, kw1⟩
end Go.Proofs.Ytdmeiffofmagjaa
