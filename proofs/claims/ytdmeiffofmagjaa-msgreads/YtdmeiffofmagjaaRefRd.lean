/-
  Contracts of the document's own reader, package jobberref1: take, U8, U32, Sum. Conditions: lengths far below 2^47.
-/
import Derived.Test.YtdmeiffofmagjaaWireS
namespace Go.Proofs.Ytdmeiffofmagjaa
open Go.RowKit
set_option linter.unusedVariables false

/-- the document's reader at block g, over the slice A of L bytes -/
def FRd (w : World) (g : Nat) (A : Option Addr) (L c : Nat) (s : RS) : Prop :=
  Hid (s.xs.length = L) ∧ Blk w g 58 [.slice A L c, .int .i64 (s.pos : Int), .bool s.bad] ∧ R8 w A s.xs ∧ (∀ ad, A = some ad → s.xs ≠ [] → ¬ ad.block = g) ∧ L ≤ c

theorem FRd.keep {S : Nat → Prop} {w w' : World} {g : Nat} {A : Option Addr} {L c : Nat} {s : RS} (h : FRd w g A L c s) (hk : Keep S w w') (hg : ¬ S g) (hA : ∀ ad, A = some ad → s.xs ≠ [] → ¬ S ad.block) : FRd w' g A L c s :=
  ⟨h.1, h.2.1.keep hk hg, h.2.2.1.keep hk hA, h.2.2.2⟩
theorem FRd.kept {w w' : World} {g : Nat} {A : Option Addr} {L c : Nat} {s : RS} (h : FRd w g A L c s) (hk : Kept w w') : FRd w' g A L c s := h.keep hk (fun h => h) (fun _ _ _ h => h)
theorem FRd.setBad {w : World} {g L c : Nat} {A : Option Addr} {s : RS} (h : FRd w g A L c s) (v : Bool) : FRd (w.setCell ⟨g, 2, none⟩ (.bool v)) g A L c { s with bad := v } := by
  obtain ⟨h0, h1, h2, h3⟩ := h
  refine ⟨h0, ?_, h2.keep (keep_set0 (g := g) _) (fun ad e hn => h3.1 ad e hn), h3⟩
  simpa using h1.set_ 2 (.bool v)
theorem FRd.setPos {w : World} {g L c : Nat} {A : Option Addr} {s : RS} (h : FRd w g A L c s) (p : Nat) (v : Int) (hv : v = p) : FRd (w.setCell ⟨g, 1, none⟩ (.int .i64 v)) g A L c { s with pos := p } := by
  obtain ⟨h0, h1, h2, h3⟩ := h
  subst hv
  refine ⟨h0, ?_, h2.keep (keep_set0 (g := g) _) (fun ad e hn => h3.1 ad e hn), h3⟩
  simpa using h1.set_ 1 (.int .i64 p)
theorem FRd.drewN {w : World} {g L c : Nat} {A : Option Addr} {s : RS} (h : FRd w g A L c s) (n : Nat) : FRd (w.drewN n) g A L c s := h
theorem FRd.cells {w : World} {g L c : Nat} {A : Option Addr} {s : RS} (h : FRd w g A L c s) : w.cell? ⟨g, 0, none⟩ = some (.slice A L c) ∧ w.cell? ⟨g, 1, none⟩ = some (.int .i64 (s.pos : Int)) ∧ w.cell? ⟨g, 2, none⟩ = some (.bool s.bad) ∧ w.frozen? ⟨g, 1, none⟩ = false ∧ w.frozen? ⟨g, 2, none⟩ = false :=
  ⟨h.2.1.cell 0, h.2.1.cell 1, h.2.1.cell 2, h.2.1.frozen 1, h.2.1.frozen 2⟩

/-- what take leaves -/
def FTook (w : World) (g : Nat) (A : Option Addr) (L c : Nat) (s : RS) (n : Nat) (e : Ending) (w' : World) : Prop :=
  ∃ B m d, e = .returned (.slice B m d) ∧ Hid ((s.take n).2.length = m) ∧ FRd w' g A L c (s.take n).1 ∧ R8 w' B (s.take n).2 ∧ ((s.take n).1.bad = true → B = none ∧ m = 0 ∧ d = 0) ∧ (∀ bd, B = some bd → (s.take n).2 ≠ [] → ∃ ad, A = some ad ∧ bd.block = ad.block ∧ s.xs ≠ []) ∧ Keep (· = g) w w'

theorem ftook_bad {w : World} {g L c : Nat} {A : Option Addr} {s : RS} {n : Nat} (h : FRd w g A L c s) (hc : s.bad = true ∨ L - s.pos < n) (k : Nat) : FTook w g A L c s n (.returned (.slice none 0 0)) ((w.drewN k).setCell ⟨g, 2, none⟩ (.bool true)) := by
  have e : s.take n = ({ s with bad := true }, []) := by unfold RS.take; rw [h.1.out, if_pos hc]
  refine ⟨none, 0, 0, rfl, by rw [e]; rfl, ?_, by rw [e]; exact R8.nil _ _, fun _ => ⟨rfl, rfl, rfl⟩, fun bd h => (by cases h), keep_set _ _⟩
  rw [e]
  exact (h.drewN k).setBad true
theorem ftook_good {w : World} {g L c : Nat} {A : Option Addr} {s : RS} {n : Nat} (h : FRd w g A L c s) (hb : s.bad = false) (hc : n ≤ L - s.pos) (hp : s.pos ≤ L) (k : Nat) (B : Option Addr) (d : Nat) (hB : 0 < n → B = A.map (·.add s.pos)) (v : Int) (hv : v = ((s.pos + n : Nat) : Int)) :
    FTook w g A L c s n (.returned (.slice B n d)) ((w.drewN k).setCell ⟨g, 1, none⟩ (.int .i64 v)) := by
  have hl := h.1.out
  have e : s.take n = ({ s with pos := s.pos + n }, (s.xs.drop s.pos).take n) := by unfold RS.take; rw [hl, if_neg (by rw [hb]; simp; omega)]
  have hr : FRd ((w.drewN k).setCell ⟨g, 1, none⟩ (.int .i64 v)) g A L c { s with pos := s.pos + n } := (h.drewN k).setPos _ v hv
  refine ⟨B, n, d, rfl, by rw [e]; show _ = _; simp; omega, by rw [e]; exact hr, ?_, by rw [e]; simp [hb], ?_, keep_set _ _⟩
  rotate_left
  · intro bd h1 h2
    rw [e] at h2
    have hn0 : 0 < n := by
      rcases Nat.eq_zero_or_pos n with h0 | h0
      · subst h0; simp at h2
      · exact h0
    rw [hB hn0] at h1
    cases A with
    | none => cases h1
    | some ad =>
      simp at h1
      subst h1
      exact ⟨ad, rfl, block_add _ _, fun h => by rw [h] at hl; simp at hl; omega⟩
  rw [e]
  intro i x hx
  rw [List.getElem?_take] at hx
  split at hx
  · rename_i hi
    rw [List.getElem?_drop] at hx
    obtain ⟨ad, ha, hcell⟩ := hr.2.2.1 _ x hx
    rw [hB (by omega), ha]
    refine ⟨_, rfl, ?_⟩
    rw [add_add]
    exact hcell
  · cases hx

set_option maxHeartbeats 400000 in
theorem ftake_any (g L c : Nat) (A : Option Addr) (s : RS) (n : Nat) (w : World) (hr : FRd w g A L c s) (hok : s.ok) (hn : n ≤ 255) (hcc : c ≤ maxLen) :
    Calls Try.prog 47 #[.pointer (some ⟨g, 0, none⟩), .int .i64 n] w (FTook w g A L c s n) := by
  unfold maxLen at hcc
  have hlen : L ≤ 1000000 := by rw [← hr.1.out]; exact hok.2
  have hp : s.pos ≤ L := by rw [← hr.1.out]; exact hok.1
  have hLc := hr.2.2.2.2
  obtain ⟨c0, c1, c2, f1, f2⟩ := hr.cells
  obtain ⟨hbad⟩ : Nonempty (s.bad = true ∨ s.bad = false) := ⟨by cases s.bad <;> simp⟩
  rcases hbad with hbad | hbad
  · have T := Lib.hid (fun k => ftook_bad (n := n) hr (.inl hbad) k)
    rw [hbad] at c2
    clear hbad hr
    go_enter Try.func47, Try.ntmps47
    go_wp2
    go_quiet (fail)
    go_wp2
    go_ret
    exact T.out _
  · rw [hbad] at c2
    by_cases hlt : L - s.pos < n
    · have T := Lib.hid (fun k => ftook_bad (n := n) hr (.inr hlt) k)
      have hd : decide ((L : Int) - (s.pos : Int) < (n : Int)) = true := by simp; omega
      clear hbad hr
      go_enter Try.func47, Try.ntmps47
      go_wp2
      go_quiet (fail)
      go_wp2
      go_ret
      exact T.out _
    · have T := Lib.hid (fun k B d hB v hv => ftook_good (n := n) hr hbad (by omega) hp k B d hB v hv)
      have hd : decide ((L : Int) - (s.pos : Int) < (n : Int)) = false := by simp; omega
      clear hbad hr
      go_enter Try.func47, Try.ntmps47
      go_wp2
      go_quiet (fail)
      go_wp2
      go_quiet (fail)
      go_wp2
      · go_ret
        have T' := T.out
        rw [h] at T'
        exact T' _ _ _ (fun h0 => by omega) _ (by omega)
      · go_ret
        exact T.out _ _ _ (fun _ => rfl) _ (by omega)

theorem ftake_lit (g L c : Nat) (A : Option Addr) (s : RS) (n : Nat) (i : Int) (w : World) (hi : i = n) (hr : FRd w g A L c s) (hok : s.ok) (hn : n ≤ 255) (hcc : c ≤ maxLen) :
    Calls Try.prog 47 #[.pointer (some ⟨g, 0, none⟩), .int .i64 i] w (FTook w g A L c s n) := by
  subst hi
  exact ftake_any g L c A s n w hr hok hn hcc

theorem take_bad_iff (s : RS) (n : Nat) (hn : 0 < n) : ((s.take n).1.bad = true ∧ (s.take n).2 = []) ∨ ((s.take n).1.bad = false ∧ (s.take n).2.length = n) := by
  unfold RS.take
  split
  · exact .inl ⟨rfl, rfl⟩
  · rename_i h
    right
    simp only [not_or] at h
    refine ⟨by simpa using h.1, ?_⟩
    simp
    omega

/-- 'b == nil' -/
theorem run_nil8 (B : Option Addr) (n d : Nat) (w : World) : (binOp .eql 23 (.slice B n d) (.slice none 0 0)).run Try.prog w = .ok (.bool B.isNone) w :=
  Lib.run_eql_slice_nil w 23 5 B n d 0 0 Try.underlying23

def FNum (w : World) (g : Nat) (A : Option Addr) (L c : Nat) (s : RS) (n : Nat) (k : IntKind) (e : Ending) (w' : World) : Prop := e = .returned (.int k (val (s.take n).2 : Int)) ∧ FRd w' g A L c (s.take n).1 ∧ Keep (· = g) w w'

set_option maxHeartbeats 400000 in
theorem gu8_any (g L c : Nat) (A : Option Addr) (s : RS) (w : World) (hr : FRd w g A L c s) (hok : s.ok) (hcc : c ≤ maxLen) :
    Calls Try.prog 34 #[.pointer (some ⟨g, 0, none⟩)] w (FNum w g A L c s 1 .i64) := by
  go_enter Try.func34, Try.ntmps34
  go_wp2_with fail
  refine (ftake_lit g L c A s 1 _ w rfl hr hok (by omega) hcc).mono ?_
  rintro e w1 ⟨B, m, d, rfl, hm, hr1, hR, hbd, hBA, hk⟩
  have hnil := run_nil8 B m d
  rcases take_bad_iff s 1 (by omega) with ⟨h1, h2⟩ | ⟨h1, h2⟩
  · obtain ⟨rfl, rfl, rfl⟩ := hbd h1
    have F := Lib.hid (show FNum w g A L c s 1 .i64 (.returned (.int .i64 0)) w1 from ⟨by rw [h2]; rfl, hr1, hk⟩)
    clear h1 h2 hr1 hk hR hbd hBA
    go_wp2
    go_ret
    exact F.out
  · obtain ⟨y, hy⟩ := List.length_eq_one_iff.1 h2
    rw [hy] at hR
    obtain ⟨ad, rfl, hc⟩ := hR 0 y rfl
    have hm1 : m = 1 := by rw [← hm.out, hy]; rfl
    subst hm1
    have hyb := y.toNat_lt
    have F := Lib.hid (show FNum w g A L c s 1 .i64 (.returned (.int .i64 (y.toNat : Int))) w1 from ⟨by rw [hy]; simp [val], hr1, hk⟩)
    have hc0 : w1.cell? ad = some (.int .u8 (y.toNat : Int)) := by simpa [Addr.add] using hc
    clear h1 h2 hr1 hk hR hbd hBA hy hm hc
    go_wp2
    go_ret
    exact F.out

theorem or4 (y0 y1 y2 y3 : UInt8) : bits BinOp.or IntKind.u32 (bits BinOp.or IntKind.u32 (bits BinOp.or IntKind.u32 ((y0.toNat : Int) * 16777216) ((y1.toNat : Int) * 65536)) ((y2.toNat : Int) * 256)) (y3.toNat : Int) = ((val [y0, y1, y2, y3] : Nat) : Int) := by
  have h0 := y0.toNat_lt
  have h1 := y1.toNat_lt
  have h2 := y2.toNat_lt
  have h3 := y3.toNat_lt
  have e0 : ((y0.toNat : Int) * 16777216) = ((y0.toNat * 16777216 : Nat) : Int) := by omega
  have e1 : ((y1.toNat : Int) * 65536) = ((y1.toNat * 65536 : Nat) : Int) := by omega
  have e2 : ((y2.toNat : Int) * 256) = ((y2.toNat * 256 : Nat) : Int) := by omega
  rw [e0, e1, e2, u32_or_nat _ _ (by omega) (by omega), nat_join 24 _ _ (by omega) (by omega), u32_or_nat _ _ (by omega) (by omega), nat_join 16 _ _ (by omega) (by omega), u32_or_nat _ _ (by omega) (by omega), nat_join 8 _ _ (by omega) (by omega)]
  simp [val]
  omega

set_option maxHeartbeats 400000 in
theorem gu32_any (g L c : Nat) (A : Option Addr) (s : RS) (w : World) (hr : FRd w g A L c s) (hok : s.ok) (hcc : c ≤ maxLen) :
    Calls Try.prog 48 #[.pointer (some ⟨g, 0, none⟩)] w (FNum w g A L c s 4 .u32) := by
  go_enter Try.func48, Try.ntmps48
  go_wp2_with fail
  refine (ftake_lit g L c A s 4 _ w rfl hr hok (by omega) hcc).mono ?_
  rintro e w1 ⟨B, m, d, rfl, hm, hr1, hR, hbd, hBA, hk⟩
  have hnil := run_nil8 B m d
  rcases take_bad_iff s 4 (by omega) with ⟨h1, h2⟩ | ⟨h1, h2⟩
  · obtain ⟨rfl, rfl, rfl⟩ := hbd h1
    have F := Lib.hid (show FNum w g A L c s 4 .u32 (.returned (.int .u32 0)) w1 from ⟨by rw [h2]; rfl, hr1, hk⟩)
    clear h1 h2 hr1 hk hR hbd hBA
    go_wp2
    go_ret
    exact F.out
  · obtain ⟨y0, y1, y2, y3, hy⟩ : ∃ y0 y1 y2 y3, (s.take 4).2 = [y0, y1, y2, y3] := by
      match hq : (s.take 4).2, h2 with
      | [y0, y1, y2, y3], _ => exact ⟨y0, y1, y2, y3, rfl⟩
    rw [hy] at hR
    obtain ⟨ad, rfl, hc⟩ := hR 0 y0 rfl
    have hcc (k : Nat) (y : UInt8) (h : [y0, y1, y2, y3][k]? = some y) : w1.cell? (ad.add k) = some (.int .u8 (y.toNat : Int)) := by
      obtain ⟨ad', e, hc⟩ := hR k y h
      injection e with e
      subst e
      exact hc
    have hc0 := hcc 0 y0 rfl
    have hc1 := hcc 1 y1 rfl
    have hc2 := hcc 2 y2 rfl
    have hc3 := hcc 3 y3 rfl
    have hm1 : m = 4 := by rw [← hm.out, hy]; rfl
    subst hm1
    have hb0 := y0.toNat_lt
    have hb1 := y1.toNat_lt
    have hb2 := y2.toNat_lt
    have hb3 := y3.toNat_lt
    have F := Lib.hid (fun z (hz : z = ((val [y0, y1, y2, y3] : Nat) : Int)) k => show FNum w g A L c s 4 .u32 (.returned (.int .u32 z)) (w1.drewN k) from ⟨by rw [hy, hz], hr1, hk.drewN k⟩)
    have hs : ad.spot = none := by simpa [Addr.add] using World.cell?_spot hc0
    obtain ⟨ab, ao, asp⟩ := ad
    simp only at hs
    subst hs
    simp only [Go.WideShapes.add_plain, Nat.add_zero] at hc0 hc1 hc2 hc3
    clear h1 h2 hr1 hk hR hbd hBA hy hm hc hcc
    go_wp2
    go_quiet (fail)
    go_wp2
    go_ret
    exact F.out _ (or4 y0 y1 y2 y3) _

def GSum (w : World) (g : Nat) (A : Option Addr) (L c : Nat) (s : RS) (e : Ending) (w' : World) : Prop := e = .returned (.agg (cells8 s.sum.2).toArray) ∧ FRd w' g A L c s.sum.1 ∧ Keep (· = g) w w'

/-- the array on the way -/
def sumTo (ys : List UInt8) (k : Nat) : List Value := cells8 (ys.take k) ++ z32.drop k
theorem sumTo_zero (ys : List UInt8) : sumTo ys 0 = z32 := by simp [sumTo, cells8]
theorem sumTo_full (ys : List UInt8) (h : ys.length = 32) : sumTo ys 32 = cells8 ys := by
  unfold sumTo
  rw [List.take_of_length_le (by omega), List.drop_of_length_le (by simp [z32]), List.append_nil]
theorem sumTo_length (ys : List UInt8) (k : Nat) (hk : k ≤ 32) (h : ys.length = 32) : (sumTo ys k).length = 32 := by
  simp [sumTo, len8, z32]; omega
theorem sumTo_cell (ys : List UInt8) (k : Nat) (hk : k < 32) (h : ys.length = 32) : (sumTo ys k)[k]? = some (.int .u8 0) := by
  unfold sumTo z32
  have hl : (cells8 (ys.take k)).length = k := by rw [len8, List.length_take]; omega
  rw [List.getElem?_append_right (by omega), hl, List.drop_replicate, List.getElem?_replicate, if_pos (by omega)]
theorem sumTo_set (ys : List UInt8) (k : Nat) (hk : k < ys.length) (h : ys.length = 32) : (sumTo ys k).set k (.int .u8 (ys[k].toNat : Int)) = sumTo ys (k + 1) := by
  unfold sumTo z32
  have hl : (cells8 (ys.take k)).length = k := by rw [len8, List.length_take]; omega
  rw [List.drop_replicate, List.drop_replicate]
  obtain ⟨j, hj⟩ : ∃ j, 32 - k = j + 1 := ⟨31 - k, by omega⟩
  rw [hj, List.set_append_right _ _ (by omega), hl, Nat.sub_self, List.replicate_succ, List.set_cons_zero, List.take_succ_eq_append_getElem hk, cells8_append, List.append_assoc]
  have e : 32 - (k + 1) = j := by omega
  rw [e]
  rfl

theorem sum_of_take (s : RS) (h : (s.take 32).2 = []) : s.sum.2 = zeros32 := by unfold RS.sum; simp [h]
theorem sum_of_take' (s : RS) (h : (s.take 32).2.length = 32) : s.sum.2 = (s.take 32).2 := by unfold RS.sum; simp [h]

set_option maxHeartbeats 1600000 in
theorem gsum_any (g L c : Nat) (A : Option Addr) (s : RS) (w : World) (hr : FRd w g A L c s) (hok : s.ok) (hcc : c ≤ maxLen) :
    Calls Try.prog 35 #[.pointer (some ⟨g, 0, none⟩)] w (GSum w g A L c s) := by
  have hglt := hr.2.1.lt
  have hAlt : ∀ ad, A = some ad → s.xs ≠ [] → ad.block < w.heap.size := fun ad e hn => by have h := hr.2.2.1; rw [e] at h; exact h.lt hn
  go_enter Try.func35, Try.ntmps35
  go_wp2_with (refine wpl_alloc (o := ⟨some 2, _, _, _, _, _⟩) _ rfl 26 rfl z32 sum_zero ?_)
  intro wa hba hsa hka
  go_wp2_with (refine wpl_alloc (o := ⟨some 3, _, _, _, _, _⟩) _ rfl 26 rfl z32 sum_zero ?_)
  intro wb hbb hsb hkb
  have hrb := hr.kept (hka.trans hkb)
  have hba' := hba.kept hkb
  have hkw : Kept w wb := hka.trans hkb
  have hne : ¬ w.heap.size + 1 = g := by omega
  have hne2 : ¬ w.heap.size = g := by omega
  have hsz : w.heap.size + 1 < wb.heap.size := by omega
  clear hba hka hkb hr hsa hsb
  go_wp2_with fail
  refine (ftake_lit g L c A s 32 _ wb rfl hrb hok (by omega) hcc).mono ?_
  rintro e w1 ⟨B, m, d, rfl, hm, hr1, hR, hbd, hBA, hk⟩
  have b1 := hbb.keep hk hne
  have b2 := hba'.keep hk hne2
  have hk1 : Keep (· = g) w w1 := Keep.trans (hkw.mono (T := (· = g)) (fun _ _ h => h.elim)) hk (fun _ _ h => h)
  clear hbb hba' hk hrb hkw hbd
  obtain ⟨ys, hys⟩ : ∃ ys, ys = (s.take 32).2 := ⟨_, rfl⟩
  have hall := take_all s 32
  have hfin : Hid (sumTo ys m = cells8 s.sum.2) := by
    show _ = _
    rcases hall with h | h
    · rw [sum_of_take' s h, ← hys]
      rw [← hys] at h hm
      rw [← hm.out, h, sumTo_full ys h]
    · rw [sum_of_take s h]
      rw [h] at hys hm
      rw [← hm.out, hys]
      rfl
  have hs1 : Hid (s.sum.1 = (s.take 32).1) := rfl
  rw [← hys] at hR hm hBA hall
  have hxs : (s.take 32).1.xs = s.xs := RS.take_xs s 32
  have HX := Lib.hid hxs
  have HA := Lib.hid hall
  have hm32 : m ≤ 32 := by
    rw [← hm.out]
    rcases hall with h | h
    · omega
    · rw [h]; simp
  clear hys hall hxs
  go_wp2
  go_loopw [9] (fun i wr => ∃ k : Nat, k ≤ m ∧ i = .int .i64 k ∧ Blk wr (w.heap.size + 1) 26 (sumTo ys k) ∧ Keep (· = w.heap.size + 1) w1 wr) (fun i _ => m - (intOf i).toNat)
  case atStart => exact ⟨0, Nat.zero_le _, rfl, by rw [sumTo_zero]; exact b1, Keep.refl _ _⟩
  case round =>
    obtain ⟨k, hkm, rfl, hb, hkr⟩ := hrel
    by_cases hlt : k < m
    · have hlt' : k < ys.length := by rw [hm.out]; exact hlt
      have hys : ys.length = 32 := by
        rcases HA.out with h | h
        · exact h
        · rw [h] at hlt'; simp at hlt'
      obtain ⟨bd, rfl, hc⟩ := hR.at_ hlt'
      obtain ⟨ad, rfl, hbb, hxn⟩ := hBA bd rfl (fun h => by rw [h] at hys; simp at hys)
      have hbl := hAlt ad rfl hxn
      have hc' : wr.cell? (bd.add k) = some (.int .u8 (ys[k].toNat : Int)) := by
        have hlt1 := World.block_lt_of_cell? w1 _ hc
        rw [block_add] at hlt1
        rw [World.cell?_of_block (w := w1) (by rw [block_add]; exact hkr.block _ hlt1 (by omega)), hc]
      have hc0 : wr.cell? ⟨w.heap.size + 1, k, none⟩ = some (.int .u8 0) := by rw [hb.cell, sumTo_cell ys k (by omega) hys]
      have hf := hb.frozen k
      have hset := hb.set_ k (.int .u8 (ys[k].toNat : Int))
      rw [sumTo_set ys k hlt' hys] at hset
      have HS := Lib.hid hset
      have hks : Keep (· = w.heap.size + 1) w1 (wr.setCell ⟨w.heap.size + 1, k, none⟩ (.int .u8 (ys[k].toNat : Int))) := Keep.setCell hkr (fun _ => rfl) _
      have hk32 : k < 32 := by omega
      clear hset hb hc hys
      go_wp2
      exact ⟨⟨k + 1, by omega, by go_num, HS.out, hks⟩, by simp [intOf]; omega⟩
    · have e : k = m := by omega
      subst e
      rw [hfin.out] at hb
      have b2' := b2.keep hkr (by omega)
      have hl32 : (cells8 s.sum.2).length = 32 := by rw [len8, sum_len]
      have HL := Lib.hid hl32
      have hr2 : FRd wr g A L c s.sum.1 := by
        rw [hs1.out]
        refine hr1.keep hkr (by omega) (fun ad e hn => ?_)
        rw [HX.out] at hn
        have := hAlt ad e hn
        omega
      have hk2 : Keep (· = g) w wr := hk1.trans hkr (fun i hi h => by omega)
      clear hl32 b1 b2 hr1 hk1 hkr hR hBA
      go_wp2_with (first | (refine wpl_load_row (o := ⟨some 18, _, _, _, _, _⟩) _ rfl 26 (.tmp 3) rfl (w.heap.size + 1) rfl 26 _ 32 5 hb Try.underlying26 (by rw [HL.out]; exact sum_size) ?_) | (refine wpl_store_row (o := ⟨none, _, _, _, _, _⟩) _ rfl 26 (.tmp 2) (.tmp 18) rfl w.heap.size (cells8 s.sum.2) rfl rfl 26 z32 b2' (by rw [HL.out]; exact sum_size) (by rw [HL.out]; rfl) (cells8_one _) ?_; intro wd hbd hkd hsd))
      refine bodyPost_ret (results_cell_row (p := 2) (ty := 26) rfl _ _ w.heap.size 26 (cells8 s.sum.2).toArray (0, 0) _ rfl hbd Try.underlying26 rfl (by have := HL.out; simpa [this] using sum_size)) rfl ?_
      refine ⟨rfl, hr2.keep hkd (by omega) (fun ad e hn => ?_), hk2.trans hkd (fun i hi h => by omega)⟩
      have hn' : s.xs ≠ [] := by rw [← HX.out, ← hs1.out]; exact hn
      have := hAlt ad e hn'
      omega
end Go.Proofs.Ytdmeiffofmagjaa
