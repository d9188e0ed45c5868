/-
  Contracts of package msg's bytes and words, of the document's u32s: numbers behind bytes. Conditions: lengths.
-/
import Derived.Test.YtdmeiffofmagjaaCmd
import Derived.Test.YtdmeiffofmagjaaWireU8
import Derived.Test.YtdmeiffofmagjaaWireN
import Derived.Test.YtdmeiffofmagjaaRefN32
import Derived.Test.YtdmeiffofmagjaaRefU8
namespace Go.Proofs.Ytdmeiffofmagjaa
open Go.RowKit
set_option linter.unusedVariables false

/-- a number's lowest byte; its lowest four -/
def u8 (x : Int) : UInt8 := UInt8.ofNat (x % 256).toNat
def u8s (l : List Int) : List UInt8 := l.map u8
def w32 (x : Int) : List UInt8 := be (x % 4294967296).toNat 4
def w32s (l : List Int) : List UInt8 := l.flatMap w32
theorem u8s_len (l : List Int) : (u8s l).length = l.length := by simp [u8s]
theorem w32_len (x : Int) : (w32 x).length = 4 := be_length _ _
theorem w32s_len (l : List Int) : (w32s l).length = 4 * l.length := by
  induction l with
  | nil => rfl
  | cons x l ih =>
    unfold w32s at ih ⊢
    rw [List.flatMap_cons, List.length_append, ih, w32_len, List.length_cons]
    omega
theorem u8s_take (l : List Int) (k : Nat) (h : k < l.length) : u8s (l.take (k + 1)) = u8s (l.take k) ++ [u8 l[k]] := by
  unfold u8s
  rw [List.take_succ_eq_append_getElem h, List.map_append]
  rfl
theorem w32s_take (l : List Int) (k : Nat) (h : k < l.length) : w32s (l.take (k + 1)) = w32s (l.take k) ++ w32 l[k] := by
  unfold w32s
  rw [List.take_succ_eq_append_getElem h, List.flatMap_append]
  simp
theorem Wrote.ownV {w w' : World} {base n : Nat} {xs : List UInt8} {e : Ending} (h : Wrote w n xs e w') (hb : base ≤ w.heap.size) (hn : xs.length = n) : ∃ A c, e = .returned (.slice A n c) ∧ Own8 w' base A n c xs ∧ Kept w w' := by
  obtain ⟨g, d, he, hg, hr, hk⟩ := h
  exact ⟨_, d, he, .inr ⟨g, rfl, by omega, hn, hr⟩, hk⟩

theorem u8_own (base n c : Nat) (A : Option Addr) (xs : List UInt8) (x : Int) (w : World) (h : Own8 w base A n c xs) (hb : base ≤ w.heap.size) (hn : n ≤ 1000000) :
    Calls Try.prog 38 #[.slice A n c, .int .i64 x] w fun e w' => ∃ A' c', e = .returned (.slice A' (n + 1) c') ∧ Own8 w' base A' (n + 1) c' (xs ++ [u8 x]) ∧ Kept w w' :=
  (u8_any A n c xs x w h.r8 hn h.len).mono fun e w' h2 => h2.ownV hb (by rw [List.length_append, h.len]; rfl)
theorem u32_own (base n c : Nat) (A : Option Addr) (xs : List UInt8) (x y : Int) (w : World) (hy : y = x % 4294967296) (h : Own8 w base A n c xs) (hb : base ≤ w.heap.size) (hn : n ≤ 1000000) :
    Calls Try.prog 39 #[.slice A n c, .int .u32 y] w fun e w' => ∃ A' c', e = .returned (.slice A' (n + 4) c') ∧ Own8 w' base A' (n + 4) c' (xs ++ w32 x) ∧ Kept w w' := by
  subst hy
  exact (u32_any A n c xs (x % 4294967296) w h.r8 hn h.len (by omega) (by omega)).mono fun e w' h2 => h2.ownV hb (by rw [List.length_append, h.len, be_length])
theorem fu32_own (base n c : Nat) (A : Option Addr) (xs : List UInt8) (x y : Int) (w : World) (hy : y = x % 4294967296) (h : Own8 w base A n c xs) (hb : base ≤ w.heap.size) (hn : n ≤ 1000000) :
    Calls Try.prog 46 #[.slice A n c, .int .u32 y] w fun e w' => ∃ A' c', e = .returned (.slice A' (n + 4) c') ∧ Own8 w' base A' (n + 4) c' (xs ++ w32 x) ∧ Kept w w' := by
  subst hy
  exact (fu32_any A n c xs (x % 4294967296) w h.r8 h.cap.2.2 hn h.len (by omega) (by omega)).mono fun e w' h2 => h2.ownV hb (by rw [List.length_append, h.len, be_length])
theorem fu8_gives (v : Value) (x : Int) (base : Nat) (xs : List UInt8) (w : World) (hv : OwnV base w v xs) (hb : base ≤ w.heap.size) (hx : xs.length ≤ 1000) : Gives 31 #[v, .int .i64 x] w (.own base (xs ++ [u8 x])) := by
  obtain ⟨A, n, c, rfl, h⟩ := hv
  have hn := h.len
  refine (fu8_any A n c xs x w h.r8 h.cap.2.2 (by omega) h.len).mono fun e w' h2 => ?_
  obtain ⟨A', c', he, ho, hk⟩ := h2.ownV hb (by rw [List.length_append, h.len]; rfl)
  exact ⟨_, he, ⟨A', _, c', rfl, ho⟩, hk⟩

set_option maxHeartbeats 800000 in
theorem bytes_any (v vn : Value) (base : Nat) (xs : List UInt8) (l : List Int) (w : World) (hv : OwnV base w v xs) (hn : IntsV w vn l) (hb : base ≤ w.heap.size) (hx : xs.length ≤ 1000) (hl : l.length ≤ 100) : Gives 23 #[v, vn] w (.own base (xs ++ u8s l)) := by
  obtain ⟨A, m, c, rfl, hA⟩ := hv
  obtain ⟨g, n, rfl, hln, hB⟩ := hn
  have hm := hA.len
  have HA := Lib.hid hA
  have HL := Lib.hid hln
  have HB := Lib.hid hB
  have hm1 : m ≤ 1000 := by omega
  have hn1 : n ≤ 100 := by omega
  clear hA hB hm hln hx hl
  unfold Gives
  go_enter Try.func23, Try.ntmps23
  go_wp2
  go_loopw [0, 9] (fun p i wr => ∃ (k j c' : Nat) (A' : Option Addr), k ≤ n ∧ i = .int .i64 k ∧ p = .slice A' j c' ∧ j ≤ 1000 + 4 * k ∧ Hid (Own8 wr base A' j c' (xs ++ u8s (l.take k))) ∧ Kept w wr) (fun _ i _ => n - (intOf i).toNat)
  case atStart => exact ⟨0, m, c, A, Nat.zero_le _, rfl, rfl, by omega, by show Own8 _ _ _ _ _ _; simpa [u8s] using HA.out, Kept.refl w⟩
  case round =>
    obtain ⟨k, j, c', A', hk, rfl, rfl, hj, hO, hkr⟩ := hrel
    by_cases hlt : k < n
    · have hlt' : k < l.length := by rw [HL.out]; exact hlt
      have hc : wr.cell? ⟨g, k, none⟩ = some (.int .i64 l[k]) := by
        rw [(HB.out.kept hkr).cell]
        simp [i64s, List.getElem?_eq_getElem hlt']
      obtain ⟨x, hx⟩ : ∃ x, x = l[k] := ⟨_, rfl⟩
      have HT := Lib.hid (u8s_take l k hlt')
      rw [← hx] at hc HT
      have hbr : base ≤ wr.heap.size := by have := hkr.size; omega
      clear hx hlt'
      go_wp2_with fail
      refine (u8_own base j c' A' _ x wr hO.out hbr (by omega)).mono ?_
      rintro e w2 ⟨A2, c2, rfl, hO2, hk2⟩
      rw [List.append_assoc, ← HT.out] at hO2
      have hkw := hkr.trans hk2
      go_wp2
      exact ⟨⟨k + 1, _, c2, A2, by omega, by go_num, rfl, by omega, hO2, hkw⟩, by simp [intOf]; omega⟩
    · go_wp2
      go_ret
      have e : k = n := by omega
      subst e
      have hO2 := hO.out
      rw [List.take_of_length_le (by rw [HL.out]; omega)] at hO2
      exact ⟨_, rfl, ⟨A', j, c', rfl, hO2⟩, hkr⟩

set_option maxHeartbeats 800000 in
theorem words_any (v vn : Value) (base : Nat) (xs : List UInt8) (l : List Int) (w : World) (hv : OwnV base w v xs) (hn : IntsV w vn l) (hb : base ≤ w.heap.size) (hx : xs.length ≤ 1000) (hl : l.length ≤ 100) : Gives 25 #[v, vn] w (.own base (xs ++ w32s l)) := by
  obtain ⟨A, m, c, rfl, hA⟩ := hv
  obtain ⟨g, n, rfl, hln, hB⟩ := hn
  have hm := hA.len
  have HA := Lib.hid hA
  have HL := Lib.hid hln
  have HB := Lib.hid hB
  have hm1 : m ≤ 1000 := by omega
  have hn1 : n ≤ 100 := by omega
  clear hA hB hm hln hx hl
  unfold Gives
  go_enter Try.func25, Try.ntmps25
  go_wp2
  go_loopw [0, 9] (fun p i wr => ∃ (k j c' : Nat) (A' : Option Addr), k ≤ n ∧ i = .int .i64 k ∧ p = .slice A' j c' ∧ j ≤ 1000 + 4 * k ∧ Hid (Own8 wr base A' j c' (xs ++ w32s (l.take k))) ∧ Kept w wr) (fun _ i _ => n - (intOf i).toNat)
  case atStart => exact ⟨0, m, c, A, Nat.zero_le _, rfl, rfl, by omega, by show Own8 _ _ _ _ _ _; simpa [w32s] using HA.out, Kept.refl w⟩
  case round =>
    obtain ⟨k, j, c', A', hk, rfl, rfl, hj, hO, hkr⟩ := hrel
    by_cases hlt : k < n
    · have hlt' : k < l.length := by rw [HL.out]; exact hlt
      have hc : wr.cell? ⟨g, k, none⟩ = some (.int .i64 l[k]) := by
        rw [(HB.out.kept hkr).cell]
        simp [i64s, List.getElem?_eq_getElem hlt']
      obtain ⟨x, hx⟩ : ∃ x, x = l[k] := ⟨_, rfl⟩
      have HT := Lib.hid (w32s_take l k hlt')
      rw [← hx] at hc HT
      have hbr : base ≤ wr.heap.size := by have := hkr.size; omega
      clear hx hlt'
      go_wp2_with fail
      refine (u32_own base j c' A' _ x _ wr rfl hO.out hbr (by omega)).mono ?_
      rintro e w2 ⟨A2, c2, rfl, hO2, hk2⟩
      rw [List.append_assoc, ← HT.out] at hO2
      have hkw := hkr.trans hk2
      go_wp2
      exact ⟨⟨k + 1, _, c2, A2, by omega, by go_num, rfl, by omega, hO2, hkw⟩, by simp [intOf]; omega⟩
    · go_wp2
      go_ret
      have e : k = n := by omega
      subst e
      have hO2 := hO.out
      rw [List.take_of_length_le (by rw [HL.out]; omega)] at hO2
      exact ⟨_, rfl, ⟨A', j, c', rfl, hO2⟩, hkr⟩

set_option maxHeartbeats 800000 in
theorem u32s_any (v vn : Value) (base : Nat) (xs : List UInt8) (l : List Int) (w : World) (hv : OwnV base w v xs) (hn : IntsV w vn l) (hb : base ≤ w.heap.size) (hx : xs.length ≤ 1000) (hl : l.length ≤ 100) : Gives 32 #[v, vn] w (.own base (xs ++ w32s l)) := by
  obtain ⟨A, m, c, rfl, hA⟩ := hv
  obtain ⟨g, n, rfl, hln, hB⟩ := hn
  have hm := hA.len
  have HA := Lib.hid hA
  have HL := Lib.hid hln
  have HB := Lib.hid hB
  have hm1 : m ≤ 1000 := by omega
  have hn1 : n ≤ 100 := by omega
  clear hA hB hm hln hx hl
  unfold Gives
  go_enter Try.func32, Try.ntmps32
  go_wp2
  go_loopw [0, 9] (fun p i wr => ∃ (k j c' : Nat) (A' : Option Addr), k ≤ n ∧ i = .int .i64 k ∧ p = .slice A' j c' ∧ j ≤ 1000 + 4 * k ∧ Hid (Own8 wr base A' j c' (xs ++ w32s (l.take k))) ∧ Kept w wr) (fun _ i _ => n - (intOf i).toNat)
  case atStart => exact ⟨0, m, c, A, Nat.zero_le _, rfl, rfl, by omega, by show Own8 _ _ _ _ _ _; simpa [w32s] using HA.out, Kept.refl w⟩
  case round =>
    obtain ⟨k, j, c', A', hk, rfl, rfl, hj, hO, hkr⟩ := hrel
    by_cases hlt : k < n
    · have hlt' : k < l.length := by rw [HL.out]; exact hlt
      have hc : wr.cell? ⟨g, k, none⟩ = some (.int .i64 l[k]) := by
        rw [(HB.out.kept hkr).cell]
        simp [i64s, List.getElem?_eq_getElem hlt']
      obtain ⟨x, hx⟩ : ∃ x, x = l[k] := ⟨_, rfl⟩
      have HT := Lib.hid (w32s_take l k hlt')
      rw [← hx] at hc HT
      have hbr : base ≤ wr.heap.size := by have := hkr.size; omega
      clear hx hlt'
      go_wp2_with fail
      refine (fu32_own base j c' A' _ x _ wr rfl hO.out hbr (by omega)).mono ?_
      rintro e w2 ⟨A2, c2, rfl, hO2, hk2⟩
      rw [List.append_assoc, ← HT.out] at hO2
      have hkw := hkr.trans hk2
      go_wp2
      exact ⟨⟨k + 1, _, c2, A2, by omega, by go_num, rfl, by omega, hO2, hkw⟩, by simp [intOf]; omega⟩
    · go_wp2
      go_ret
      have e : k = n := by omega
      subst e
      have hO2 := hO.out
      rw [List.take_of_length_le (by rw [HL.out]; omega)] at hO2
      exact ⟨_, rfl, ⟨A', j, c', rfl, hO2⟩, hkr⟩
end Go.Proofs.Ytdmeiffofmagjaa
