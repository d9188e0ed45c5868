/-
  Contracts of package wire's reader: Read, take, number, U8, U32, End. Conditions: lengths far below 2^47.
-/
import Derived.Test.YtdmeiffofmagjaaBeM
import Derived.Laws.BitsAllLaws
namespace Go.Proofs.Ytdmeiffofmagjaa
open Go.RowKit
set_option linter.unusedVariables false

/-- a reader's state -/
structure RS where
  xs : List UInt8
  pos : Nat
  bad : Bool

def RS.ok (s : RS) : Prop := s.pos ≤ s.xs.length ∧ s.xs.length ≤ 1000000

/-- the reader at block g, its copy, of L bytes, at block b -/
def RdL (w : World) (g b L : Nat) (s : RS) : Prop := Hid (s.xs.length = L) ∧ Blk w g 70 [.slice (some ⟨b, 0, none⟩) L L, .int .i64 (s.pos : Int), .bool s.bad] ∧ Row8 w b L s.xs ∧ g ≠ b
def Rd (w : World) (g b : Nat) (s : RS) : Prop := ∃ L, RdL w g b L s

theorem Rd.keep {S : Nat → Prop} {w w' : World} {g b : Nat} {s : RS} (h : Rd w g b s) (hk : Keep S w w') (hg : ¬ S g) (hb : ¬ S b) : Rd w' g b s := by
  obtain ⟨L, h0, h1, h2, h3⟩ := h
  exact ⟨L, h0, h1.keep hk hg, h2.keep hk hb, h3⟩
theorem Rd.kept {w w' : World} {g b : Nat} {s : RS} (h : Rd w g b s) (hk : Kept w w') : Rd w' g b s := h.keep hk (fun h => h) (fun h => h)
theorem Rd.lt {w : World} {g b : Nat} {s : RS} (h : Rd w g b s) : g < w.heap.size ∧ b < w.heap.size := by
  obtain ⟨L, h0, h1, h2, h3⟩ := h
  exact ⟨h1.lt, h2.lt⟩
theorem RdL.drewN {w : World} {g b L : Nat} {s : RS} (h : RdL w g b L s) (n : Nat) : RdL (w.drewN n) g b L s := h
theorem RdL.setBad {w : World} {g b L : Nat} {s : RS} (h : RdL w g b L s) (v : Bool) : RdL (w.setCell ⟨g, 2, none⟩ (.bool v)) g b L { s with bad := v } := by
  obtain ⟨h0, h1, h2, h3⟩ := h
  refine ⟨h0, ?_, h2.keep (Keep.setCell (Keep.refl (· = g) w) (fun _ => rfl) _) (fun h => h3 h.symm), h3⟩
  simpa using h1.set_ 2 (.bool v)
theorem RdL.setPos {w : World} {g b L : Nat} {s : RS} (h : RdL w g b L s) (p : Nat) (v : Int) (hv : v = p) : RdL (w.setCell ⟨g, 1, none⟩ (.int .i64 v)) g b L { s with pos := p } := by
  obtain ⟨h0, h1, h2, h3⟩ := h
  subst hv
  refine ⟨h0, ?_, h2.keep (Keep.setCell (Keep.refl (· = g) w) (fun _ => rfl) _) (fun h => h3 h.symm), h3⟩
  simpa using h1.set_ 1 (.int .i64 p)
theorem keep_set {w : World} {g i : Nat} (v : Value) (n : Nat) : Keep (· = g) w ((w.drewN n).setCell ⟨g, i, none⟩ v) := Keep.setCell ((Keep.refl (· = g) w).drewN n) (fun _ => rfl) _

set_option maxHeartbeats 400000 in
theorem read_any (A : Option Addr) (n c : Nat) (xs : List UInt8) (w : World) (hx : R8 w A xs) (hn : n ≤ 1000000) (hl : Hid (xs.length = n)) :
    Calls Try.prog 29 #[.slice A n c] w fun e w' => ∃ g b, e = .returned (.pointer (some ⟨g, 0, none⟩)) ∧ w.heap.size ≤ g ∧ w.heap.size ≤ b ∧ Rd w' g b ⟨xs, 0, false⟩ ∧ Kept w w' := by
  have hmk := fun u => run_make8 n n (Nat.le_refl _) (by omega) u
  have HB := Lib.hid (blk_made w 5 (.int .u8 0) n)
  have hk0 : Kept w (w.alloc (.cells (madeCells #[.int .u8 0] n) 5)) := (Keep.refl _ w).alloc _
  go_enter Try.func29, Try.ntmps29
  go_wp2_with (refine wpList_copy_splice (o := ⟨some 9, _, _, _, _, _⟩) rfl (.tmp 7) (.tmp 8) 23 23 rfl 5 Try.underlying23 info8s _ _ _ _ _ _ rfl rfl w.heap.size 0 _ _ HB.out (cells8 xs) ?c1 ?c2 ?c3 (cells8_one xs) w.heap.size w hk0.toBelow (Nat.le_refl _) ?_)
  case c1 => rw [len8, hl.out]; simp
  case c2 =>
    intro hpos
    rw [len8] at hpos
    obtain ⟨ad, rfl, _⟩ := hx.at_ hpos
    exact ⟨ad, rfl, (hx.kept hk0).cells⟩
  case c3 => rw [len8, hl.out]; simp
  intro w1 HG hb1
  have hk1 : Kept w w1 := Below.toKept hb1
  have hr1 : Row8 w1 w.heap.size n xs := by
    have h := HG.out
    have e : splice (List.replicate n (Value.int .u8 0)) 0 (cells8 xs) = cells8 xs ++ [] := by
      simp [splice, len8, hl.out]
    rw [e] at h
    exact ⟨_, h, by simp [hl.out], by unfold maxLen; omega⟩
  have hlt := hr1.lt
  clear HG hb1 HB hk0
  go_wp2
  go_ret
  have hl' := hl.out
  subst hl'
  exact ⟨w1.heap.size, w.heap.size, rfl, hk1.size, Nat.le_refl _, ⟨_, rfl, Blk.new _ _ _, hr1.kept ((Keep.refl _ _).alloc _), by omega⟩, Keep.alloc hk1 _⟩

def RS.take (s : RS) (n : Nat) : RS × List UInt8 :=
  if s.bad = true ∨ s.xs.length - s.pos < n then ({ s with bad := true }, []) else ({ s with pos := s.pos + n }, (s.xs.drop s.pos).take n)

theorem RS.take_ok {s : RS} (h : s.ok) (n : Nat) : (s.take n).1.ok := by
  unfold RS.take RS.ok at *
  split
  · exact h
  · simp only; omega

/-- what take leaves -/
def Took (w : World) (g b : Nat) (s : RS) (n : Nat) (e : Ending) (w' : World) : Prop := ∃ A m c, e = .returned (.slice A m c) ∧ Hid ((s.take n).2.length = m) ∧ Rd w' g b (s.take n).1 ∧ R8 w' A (s.take n).2 ∧ Keep (· = g) w w'

theorem took_bad {w : World} {g b L : Nat} {s : RS} {n : Nat} (h : RdL w g b L s) (hc : s.bad = true ∨ L - s.pos < n) (k : Nat) : Took w g b s n (.returned (.slice none 0 0)) ((w.drewN k).setCell ⟨g, 2, none⟩ (.bool true)) := by
  have e : s.take n = ({ s with bad := true }, []) := by unfold RS.take; rw [h.1.out, if_pos hc]
  refine ⟨none, 0, 0, rfl, by rw [e]; rfl, ?_, by rw [e]; exact R8.nil _ _, keep_set _ _⟩
  rw [e]
  exact ⟨L, (h.drewN k).setBad true⟩
theorem took_good {w : World} {g b L : Nat} {s : RS} {n : Nat} (h : RdL w g b L s) (hb : s.bad = false) (hc : n ≤ L - s.pos) (hp : s.pos ≤ L) (k j : Nat) (o c : Nat) (ho : o = s.pos ∨ n = 0) (v : Int) (hv : v = ((s.pos + n : Nat) : Int)) :
    Took w g b s n (.returned (.slice (some ⟨b, o, none⟩) n c)) (((w.drewN k).setCell ⟨g, 1, none⟩ (.int .i64 v)).drewN j) := by
  have hl := h.1.out
  have e : s.take n = ({ s with pos := s.pos + n }, (s.xs.drop s.pos).take n) := by unfold RS.take; rw [hl, if_neg (by rw [hb]; simp; omega)]
  have hr : RdL ((w.drewN k).setCell ⟨g, 1, none⟩ (.int .i64 v)) g b L { s with pos := s.pos + n } := (h.drewN k).setPos _ v hv
  refine ⟨_, n, c, rfl, by rw [e]; show _ = _; simp; omega, by rw [e]; exact ⟨L, hr.drewN j⟩, ?_, (keep_set _ _).drewN j⟩
  rw [e]
  intro i x hx
  rw [List.getElem?_take] at hx
  split at hx
  · rename_i hi
    rw [List.getElem?_drop] at hx
    obtain ⟨ad, ha, hcell⟩ := hr.2.2.1.r8 _ x hx
    injection ha with ha
    subst ha
    refine ⟨_, rfl, ?_⟩
    have ho' : o = s.pos := by omega
    subst ho'
    have hadd : (⟨b, s.pos, none⟩ : Addr).add i = ⟨b, s.pos + i, none⟩ := by unfold Addr.add; split <;> simp_all
    rw [add_lit] at hcell
    rw [hadd]
    exact hcell
  · cases hx

set_option maxHeartbeats 400000 in
theorem take_any (g b : Nat) (s : RS) (n : Nat) (w : World) (hr : Rd w g b s) (hok : s.ok) (hn : n ≤ 255) :
    Calls Try.prog 51 #[.pointer (some ⟨g, 0, none⟩), .int .i64 n] w (Took w g b s n) := by
  obtain ⟨L, hr⟩ := hr
  have hlen : L ≤ 1000000 := by rw [← hr.1.out]; exact hok.2
  have hp : s.pos ≤ L := by rw [← hr.1.out]; exact hok.1
  have hb := hr.2.1
  have c0 := hb.cell 0
  have c1 := hb.cell 1
  have c2 := hb.cell 2
  have f1 := hb.frozen 1
  have f2 := hb.frozen 2
  simp only [List.getElem?_cons_zero, List.getElem?_cons_succ] at c0 c1 c2
  clear hb
  obtain ⟨hbad⟩ : Nonempty (s.bad = true ∨ s.bad = false) := ⟨by cases s.bad <;> simp⟩
  rcases hbad with hbad | hbad
  · have T := Lib.hid (fun k => took_bad (n := n) hr (.inl hbad) k)
    rw [hbad] at c2
    clear hbad hr
    go_enter Try.func51, Try.ntmps51
    go_wp2
    go_quiet (fail)
    go_wp2
    go_ret
    exact T.out _
  · rw [hbad] at c2
    by_cases hlt : L - s.pos < n
    · have T := Lib.hid (fun k => took_bad (n := n) hr (.inr hlt) k)
      have hd : decide ((L : Int) - (s.pos : Int) < (n : Int)) = true := by simp; omega
      clear hbad hr
      go_enter Try.func51, Try.ntmps51
      go_wp2
      go_quiet (fail)
      go_wp2
      go_ret
      exact T.out _
    · have T := Lib.hid (fun k j o c ho v hv => took_good (n := n) hr hbad (by omega) hp k j o c ho v hv)
      have hd : decide ((L : Int) - (s.pos : Int) < (n : Int)) = false := by simp; omega
      clear hbad hr
      go_enter Try.func51, Try.ntmps51
      go_wp2
      go_quiet (fail)
      go_wp2
      go_quiet (fail)
      go_wp2
      all_goals go_ret
      all_goals exact T.out _ _ _ _ (by omega) _ (by omega)

/-- the number that bytes spell -/
def val (xs : List UInt8) : Nat := xs.foldl (fun n c => n * 256 + c.toNat) 0
theorem val_snoc (xs : List UInt8) (c : UInt8) : val (xs ++ [c]) = val xs * 256 + c.toNat := by simp [val]
theorem val_cons (xs : List UInt8) : ∀ n : Nat, xs.foldl (fun n c => n * 256 + c.toNat) n = n * 256 ^ xs.length + val xs := by
  induction xs with
  | nil => intro n; simp [val]
  | cons c xs ih =>
    intro n
    simp only [val, List.foldl_cons, List.length_cons, Nat.pow_succ]
    rw [ih, ih (0 * 256 + c.toNat), Nat.add_mul, Nat.zero_mul, Nat.zero_add, Nat.mul_comm (256 ^ xs.length) 256, Nat.mul_assoc]
    omega
theorem val_lt (xs : List UInt8) : val xs < 256 ^ xs.length := by
  induction xs with
  | nil => simp [val]
  | cons c xs ih =>
    unfold val
    rw [List.foldl_cons, val_cons, List.length_cons, Nat.pow_succ]
    have := c.toNat_lt
    have h : (0 * 256 + c.toNat) * 256 ^ xs.length ≤ 255 * 256 ^ xs.length := Nat.mul_le_mul_right _ (by omega)
    omega
theorem or_byte (v : Nat) (hv : v < 72057594037927936) (c : UInt8) : bits BinOp.or IntKind.u64 ((v : Int) * 256) (IntKind.u64.wrap (c.toNat : Int)) = ((v * 256 + c.toNat : Nat) : Int) := by
  have hc := c.toNat_lt
  have hw : IntKind.u64.wrap (c.toNat : Int) = (c.toNat : Int) := by rw [IntKind.wrap_u64]; omega
  have e : ((v : Int) * 256) = ((v * 256 : Nat) : Int) := by omega
  rw [hw, e, u64_or_nat _ _ (by omega) (by omega), nat_join 8 (v * 256) c.toNat (by omega) (by omega)]

def RS.num (s : RS) (n : Nat) : RS × Nat := ((s.take n).1, val (s.take n).2)

/-- what a number's reader leaves -/
def Num (w : World) (g b : Nat) (s : RS) (n : Nat) (k : IntKind) (e : Ending) (w' : World) : Prop := e = .returned (.int k (val (s.take n).2 : Int)) ∧ Rd w' g b (s.take n).1 ∧ Keep (· = g) w w'

set_option maxHeartbeats 400000 in
theorem rnumber_any (g b : Nat) (s : RS) (n : Nat) (w : World) (hr : Rd w g b s) (hok : s.ok) (hn : n ≤ 8) :
    Calls Try.prog 50 #[.pointer (some ⟨g, 0, none⟩), .int .i64 n] w (Num w g b s n .u64) := by
  go_enter Try.func50, Try.ntmps50
  go_wp2_with fail
  refine (take_any g b s n w hr hok (by omega)).mono ?_
  rintro e w1 ⟨A, m, c, rfl, hm, hr1, hR, hk⟩
  have hm8 : m ≤ 8 := by
    rw [← hm.out]
    unfold RS.take
    split
    · simp
    · simp; omega
  obtain ⟨ys, hys⟩ : ∃ ys, ys = (s.take n).2 := ⟨_, rfl⟩
  rw [← hys] at hm hR
  have HY := Lib.hid hys
  clear hys
  go_wp2
  go_loop [5, 12] (fun v i => ∃ k : Nat, k ≤ m ∧ i = .int .i64 k ∧ v = .int .u64 (val (ys.take k) : Int)) (fun _ i => m - (intOf i).toNat)
  case atStart => exact ⟨0, Nat.zero_le _, rfl, rfl⟩
  case round =>
    obtain ⟨k, hkm, rfl, rfl⟩ := hrel
    by_cases hlt : k < m
    · obtain ⟨ad, rfl, hc⟩ := hR.at_ (k := k) (by rw [hm.out]; exact hlt)
      have hlt' : k < ys.length := by rw [hm.out]; exact hlt
      have hv : val (ys.take k) < 72057594037927936 := by
        have h := val_lt (ys.take k)
        have h2 : (ys.take k).length ≤ 7 := by simp; omega
        have h3 := Nat.pow_le_pow_right (show 0 < 256 by omega) h2
        omega
      have HV := Lib.hid (or_byte _ hv ys[k])
      have HT : Hid (val (ys.take (k + 1)) = val (ys.take k) * 256 + ys[k].toNat) := by
        show _ = _
        rw [List.take_succ_eq_append_getElem hlt', val_snoc]
      go_wp2
      exact ⟨⟨k + 1, by omega, by go_num, by rw [HV.out, HT.out]⟩, by simp [intOf]; omega⟩
    · go_wp2
      go_ret
      refine ⟨?_, hr1, hk⟩
      have hm' := hm.out
      rw [← HY.out]
      exact ret_int (by rw [List.take_of_length_le (by omega)])

theorem take_len (s : RS) (n : Nat) : (s.take n).2.length ≤ n := by
  unfold RS.take
  split
  · simp
  · simp; omega
theorem val_take (s : RS) (n : Nat) : val (s.take n).2 < 256 ^ n := Nat.lt_of_lt_of_le (val_lt _) (Nat.pow_le_pow_right (by omega) (take_len s n))

theorem rnumber_lit (g b : Nat) (s : RS) (n : Nat) (i : Int) (w : World) (hi : i = n) (hr : Rd w g b s) (hok : s.ok) (hn : n ≤ 8) :
    Calls Try.prog 50 #[.pointer (some ⟨g, 0, none⟩), .int .i64 i] w (Num w g b s n .u64) := by
  subst hi
  exact rnumber_any g b s n w hr hok hn

set_option maxHeartbeats 400000 in
theorem ru8_any (g b : Nat) (s : RS) (w : World) (hr : Rd w g b s) (hok : s.ok) :
    Calls Try.prog 43 #[.pointer (some ⟨g, 0, none⟩)] w (Num w g b s 1 .i64) := by
  have hv := val_take s 1
  go_enter Try.func43, Try.ntmps43
  go_wp2_with fail
  refine (rnumber_lit g b s 1 _ w rfl hr hok (by omega)).mono ?_
  rintro e w1 ⟨rfl, hr1, hk⟩
  go_wp2
  go_ret
  refine ⟨ret_int ?_, hr1, hk⟩
  first | rfl | (rw [IntKind.wrap_i64]; omega)

set_option maxHeartbeats 400000 in
theorem ru32_any (g b : Nat) (s : RS) (w : World) (hr : Rd w g b s) (hok : s.ok) :
    Calls Try.prog 52 #[.pointer (some ⟨g, 0, none⟩)] w (Num w g b s 4 .u32) := by
  have hv := val_take s 4
  go_enter Try.func52, Try.ntmps52
  go_wp2_with fail
  refine (rnumber_lit g b s 4 _ w rfl hr hok (by omega)).mono ?_
  rintro e w1 ⟨rfl, hr1, hk⟩
  go_wp2
  go_ret
  refine ⟨ret_int ?_, hr1, hk⟩
  first | rfl | (rw [IntKind.wrap_u32']; omega)

def RS.fin (s : RS) : Bool := !s.bad && s.pos == s.xs.length

set_option maxHeartbeats 400000 in
theorem end_any (g b : Nat) (s : RS) (w : World) (hr : Rd w g b s) (hok : s.ok) :
    Calls Try.prog 33 #[.pointer (some ⟨g, 0, none⟩)] w fun e w' => e = .returned (.bool s.fin) ∧ ∃ k, w' = w.drewN k := by
  obtain ⟨L, h0, hb, h2, h3⟩ := hr
  have c0 := hb.cell 0
  have c1 := hb.cell 1
  have c2 := hb.cell 2
  simp only [List.getElem?_cons_zero, List.getElem?_cons_succ] at c0 c1 c2
  have hF : s.fin = (!s.bad && s.pos == L) := by unfold RS.fin; rw [h0.out]
  rw [hF]
  clear hF
  obtain ⟨hbad⟩ : Nonempty (s.bad = true ∨ s.bad = false) := ⟨by cases s.bad <;> simp⟩
  rcases hbad with hbad | hbad
  · rw [hbad] at c2 ⊢
    clear hbad hb
    go_enter Try.func33, Try.ntmps33
    go_wp2
    go_quiet (fail)
    go_wp2
    go_ret
    exact ⟨ret_bool (by simp), _, rfl⟩
  · rw [hbad] at c2 ⊢
    clear hbad hb
    by_cases he : s.pos = L
    · have hd : ((s.pos : Int) == (L : Int)) = true := by simp [he]
      have HE := Lib.hid he
      clear he
      go_enter Try.func33, Try.ntmps33
      go_wp2
      go_quiet (fail)
      go_wp2
      go_ret
      exact ⟨ret_bool (by simp [HE.out]), _, rfl⟩
    · have hd : ((s.pos : Int) == (L : Int)) = false := by simp; omega
      have HE := Lib.hid he
      clear he
      go_enter Try.func33, Try.ntmps33
      go_wp2
      go_quiet (fail)
      go_wp2
      go_ret
      exact ⟨ret_bool (by simp [HE.out]), _, rfl⟩
end Go.Proofs.Ytdmeiffofmagjaa
