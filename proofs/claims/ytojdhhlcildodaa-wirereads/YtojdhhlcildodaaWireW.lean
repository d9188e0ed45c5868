/-
  Contracts of package wire's writers: number, U8, U32, U64, Text. Conditions: lengths far below 2^47.
-/
import Derived.Test.YtojdhhlcildodaaLib
namespace Go.Proofs.Ytojdhhlcildodaa
open Go.RowKit
set_option linter.unusedVariables false

/-- the lowest size bytes of n, the most significant first -/
def be (n : Nat) : Nat → List UInt8
  | 0 => []
  | k + 1 => UInt8.ofNat (n / 256 ^ k) :: be n k

theorem be_length (n k : Nat) : (be n k).length = k := by induction k with
  | zero => rfl
  | succ k ih => simp [be, ih]
theorem be_take_succ (n size k : Nat) (hk : k < size) : (be n size).take (k + 1) = (be n size).take k ++ [UInt8.ofNat (n / 256 ^ (size - 1 - k))] := by
  have h : ∀ size k, k < size → (be n size)[k]? = some (UInt8.ofNat (n / 256 ^ (size - 1 - k))) := by
    intro size
    induction size with
    | zero => intro k hk; omega
    | succ s ih =>
      intro k hk
      cases k with
      | zero => simp [be]
      | succ k =>
        simp only [be, List.getElem?_cons_succ]
        rw [ih k (by omega)]
        congr 4
        omega
  rw [List.take_add_one, h size k hk]
  rfl

theorem byte_of (x : Int) (hx : 0 ≤ x) (k : Nat) : x / 2 ^ (8 * k) % 256 = ((UInt8.ofNat (x.toNat / 256 ^ k)).toNat : Int) := by
  obtain ⟨y, rfl⟩ := Int.eq_ofNat_of_zero_le hx
  have h : (2 : Int) ^ (8 * k) = ((256 ^ k : Nat) : Int) := by
    rw [Int.pow_mul, Int.natCast_pow]
    rfl
  rw [h]
  simp

set_option maxHeartbeats 400000 in
theorem number_any (A : Option Addr) (n c : Nat) (xs : List UInt8) (x : Int) (size : Nat) (w : World) (hx : R8 w A xs) (hn : n ≤ 1000000) (hl : Hid (xs.length = n)) (hs : size ≤ 8) (hx0 : 0 ≤ x) (hx1 : x < 18446744073709551616) :
    Calls Try.prog 38 #[.slice A n c, .int .u64 x, .int .i64 size] w fun e w' => ∃ g d, e = .returned (.slice (some ⟨g, 0, none⟩) (n + size) d) ∧ w.heap.size ≤ g ∧ Row8 w' g d (xs ++ be x.toNat size) ∧ Kept w w' := by
  have hmk : ∀ u : World, (Instr.makeSlice 24 (.int .i64 (n : Int)) (.int .i64 ((n : Int) + (size : Int)))).run Try.prog u =
      .ok (.slice (some ⟨u.heap.size, 0, none⟩) n (n + size)) (u.alloc (.cells (madeCells #[.int .u8 0] (n + size)) 5)) := fun u => by
    have h := run_make8 n (n + size) (by omega) (by omega) u
    rw [Int.natCast_add] at h
    exact h
  have HB := Lib.hid (blk_made w 5 (.int .u8 0) (n + size))
  have hk0 : Kept w (w.alloc (.cells (madeCells #[.int .u8 0] (n + size)) 5)) := (Keep.refl _ w).alloc _
  go_enter Try.func38, Try.ntmps38
  go_wp2_with (refine wpList_copy_splice (o := ⟨some 18, _, _, _, _, _⟩) rfl (.tmp 16) (.tmp 17) 24 24 rfl 5 Try.underlying24 info8s _ _ _ _ _ _ rfl rfl w.heap.size 0 _ _ HB.out (cells8 xs) ?c1 ?c2 ?c3 (cells8_one xs) w.heap.size w hk0.toBelow (Nat.le_refl _) ?_)
  case c1 => rw [len8, hl.out]; simp
  case c2 =>
    intro hpos
    rw [len8] at hpos
    obtain ⟨ad, rfl, _⟩ := hx.at_ hpos
    exact ⟨ad, rfl, (hx.kept hk0).cells⟩
  case c3 => rw [len8, hl.out]; simp
  intro w1 HG hb1
  have hk1 : Kept w w1 := Below.toKept hb1
  have hr1 : Row8 w1 w.heap.size (n + size) xs := by
    have h := HG.out
    have e : splice (List.replicate (n + size) (Value.int .u8 0)) 0 (cells8 xs) = cells8 xs ++ List.replicate size (.int .u8 0) := by
      simp [splice, len8, hl.out]
    rw [e] at h
    exact ⟨_, h, by simp [hl.out], by unfold maxLen; omega⟩
  clear HG hb1 HB hk0
  go_wp2
  go_loopw [7, 8] (fun out left wr => ∃ k : Nat, k ≤ size ∧ left = .int .i64 ((size : Int) - 1 - k) ∧ out = .slice (some ⟨w.heap.size, 0, none⟩) (n + k) (n + size) ∧ Kept w wr ∧ Row8 wr w.heap.size (n + size) (xs ++ (be x.toNat size).take k)) (fun _ left _ => ((intOf left) + 1).toNat)
  case atStart => exact ⟨0, Nat.zero_le _, by simp, rfl, hk1, by simpa using hr1⟩
  case round =>
    obtain ⟨k, hk, rfl, rfl, hkr, hrow⟩ := hrel
    by_cases hlt : k < size
    · have hz := byte_of x hx0 (size - 1 - k)
      have HZ := Lib.hid hz
      have HT := Lib.hid (be_take_succ x.toNat size k hlt)
      have hlen : Hid ((xs ++ (be x.toNat size).take k).length = n + k) := by
        show _ = _
        rw [List.length_append, hl.out, List.length_take, be_length, Nat.min_eq_left hk]
      clear hz
      have hkr' := hkr.alloc (.cells #[.int .u8 (x / 2 ^ (8 * (size - 1 - k)) % 256)] 5)
      have hrow' := hrow.kept ((Keep.refl _ wr).alloc (.cells #[.int .u8 (x / 2 ^ (8 * (size - 1 - k)) % 256)] 5))
      have hsz := hkr.size
      go_wp2_with (at_builtin; refine wpl_append1 _ rfl (.tmp 25) (.tmp 31) rfl w.heap.size (n + size) (n + k) _ rfl hlen.out hrow' wr.heap.size _ _ rfl (by simp) HZ.out (by omega) ?_)
      intro w2 hrow2 hk2
      have hkept2 := hkr'.trans hk2 (fun i hi h => by omega)
      clear hkr' hrow' hrow hkr hk2
      go_wp2
      exact ⟨⟨k + 1, by omega, by go_num, rfl, hkept2, by rw [HT.out]; exact hrow2⟩, by simp [intOf]; omega⟩
    · go_wp2
      go_ret
      have e : k = size := by omega
      subst e
      exact ⟨_, _, rfl, Nat.le_refl _, by rw [List.take_of_length_le (by rw [be_length]; exact Nat.le_refl _)] at hrow; exact hrow, hkr⟩

/-- what a writer leaves: a new row -/
def Wrote (w : World) (n : Nat) (xs : List UInt8) (e : Ending) (w' : World) : Prop := ∃ g d, e = .returned (.slice (some ⟨g, 0, none⟩) n d) ∧ w.heap.size ≤ g ∧ Row8 w' g d xs ∧ Kept w w'

theorem number_lit (A : Option Addr) (n c : Nat) (xs : List UInt8) (x s : Int) (size : Nat) (w : World) (hs : s = size) (hx : R8 w A xs) (hn : n ≤ 1000000) (hl : Hid (xs.length = n)) (hsz : size ≤ 8) (hx0 : 0 ≤ x) (hx1 : x < 18446744073709551616) :
    Calls Try.prog 38 #[.slice A n c, .int .u64 x, .int .i64 s] w (Wrote w (n + size) (xs ++ be x.toNat size)) := by
  subst hs
  exact number_any A n c xs x size w hx hn hl hsz hx0 hx1

theorem be_one (x : Int) : be (IntKind.u64.wrap x).toNat 1 = [UInt8.ofNat (x % 256).toNat] := by
  have h : UInt8.ofNat (IntKind.u64.wrap x).toNat = UInt8.ofNat (x % 256).toNat := by
    apply UInt8.toNat.inj
    simp only [UInt8.toNat_ofNat', IntKind.wrap, IntKind.signed, IntKind.bits]
    simp
    omega
  simp [be, h]

set_option maxHeartbeats 400000 in
theorem u8_any (A : Option Addr) (n c : Nat) (xs : List UInt8) (x : Int) (w : World) (hx : R8 w A xs) (hn : n ≤ 1000000) (hl : Hid (xs.length = n)) :
    Calls Try.prog 18 #[.slice A n c, .int .i64 x] w (Wrote w (n + 1) (xs ++ [UInt8.ofNat (x % 256).toNat])) := by
  have hb : 0 ≤ IntKind.u64.wrap x ∧ IntKind.u64.wrap x < 18446744073709551616 := by
    simp only [IntKind.wrap, IntKind.signed, IntKind.bits]
    simp
    omega
  have HB := Lib.hid hb
  clear hb
  go_enter Try.func18, Try.ntmps18
  go_wp2_with fail
  refine (number_lit _ _ _ xs _ _ 1 _ rfl hx hn hl (by omega) HB.out.1 HB.out.2).mono ?_
  rintro e w1 ⟨g, d, rfl, hg, hrow, hk⟩
  rw [be_one] at hrow
  go_wp2
  go_ret
  exact ⟨g, d, rfl, hg, hrow, hk⟩

set_option maxHeartbeats 400000 in
theorem u32_any (A : Option Addr) (n c : Nat) (xs : List UInt8) (x : Int) (w : World) (hx : R8 w A xs) (hn : n ≤ 1000000) (hl : Hid (xs.length = n)) (hx0 : 0 ≤ x) (hx1 : x < 4294967296) :
    Calls Try.prog 13 #[.slice A n c, .int .u32 x] w (Wrote w (n + 4) (xs ++ be x.toNat 4)) := by
  go_enter Try.func13, Try.ntmps13
  go_wp2_with fail
  refine (number_lit _ _ _ xs _ _ 4 _ rfl hx hn hl (by omega) hx0 (by omega)).mono ?_
  rintro e w1 ⟨g, d, rfl, hg, hrow, hk⟩
  go_wp2
  go_ret
  exact ⟨g, d, rfl, hg, hrow, hk⟩

set_option maxHeartbeats 400000 in
theorem u64_any (A : Option Addr) (n c : Nat) (xs : List UInt8) (x : Int) (w : World) (hx : R8 w A xs) (hn : n ≤ 1000000) (hl : Hid (xs.length = n)) (hx0 : 0 ≤ x) (hx1 : x < 18446744073709551616) :
    Calls Try.prog 21 #[.slice A n c, .int .u64 x] w (Wrote w (n + 8) (xs ++ be x.toNat 8)) := by
  go_enter Try.func21, Try.ntmps21
  go_wp2_with fail
  refine (number_lit _ _ _ xs _ _ 8 _ rfl hx hn hl (by omega) hx0 hx1).mono ?_
  rintro e w1 ⟨g, d, rfl, hg, hrow, hk⟩
  go_wp2
  go_ret
  exact ⟨g, d, rfl, hg, hrow, hk⟩

theorem min255 (s : ByteArray) : ((UInt8.ofNat (min s.size 255)).toNat) = min s.size 255 := by simp; omega

/-- the text's bytes as they are written -/
def txt (s : ByteArray) : List UInt8 := UInt8.ofNat (min s.size 255) :: s.data.toList.take 255
theorem txt_length (s : ByteArray) : (txt s).length = 1 + min s.size 255 := by
  have : s.data.toList.length = s.size := by rw [Array.length_toList]; rfl
  simp only [txt, List.length_cons, List.length_take, this]
  omega

theorem ofNat_len (k : Nat) (h : k ≤ 255) : UInt8.ofNat ((k : Int) % 256).toNat = UInt8.ofNat k := by
  have e : ((k : Int) % 256).toNat = k := by omega
  rw [e]

theorem ba_len (s : ByteArray) : s.data.toList.length = s.size := by rw [Array.length_toList]; rfl

set_option maxHeartbeats 400000 in
theorem text_short (A : Option Addr) (n c : Nat) (xs : List UInt8) (s : ByteArray) (w : World) (hx : R8 w A xs) (hn : n ≤ 900000) (hl : Hid (xs.length = n)) (hs : s.size ≤ 255) :
    Calls Try.prog 14 #[.slice A n c, .string s] w (Wrote w (n + 1 + s.size) (xs ++ UInt8.ofNat s.size :: s.data.toList)) := by
  have hmin : min (s.size : Int) 255 = (s.size : Int) := by omega
  go_enter Try.func14, Try.ntmps14
  go_wp2_with fail
  refine (u8_any _ _ _ xs _ _ hx (by omega) hl).mono ?_
  rintro e w1 ⟨g, d, rfl, hg, hrow, hk⟩
  rw [ofNat_len _ hs] at hrow
  have HL : Hid ((xs ++ [UInt8.ofNat s.size]).length = n + 1) := by show _ = _; rw [List.length_append, hl.out]; rfl
  go_wp2_with (at_builtin; refine wpl_append_str _ rfl (.tmp 13) (.tmp 14) rfl w.heap.size g d (n + 1) _ rfl HL.out hrow hg s rfl (by omega) ?_)
  intro w2 g' c' hrow2 hb2 hk2
  have hk3 := Keep.trans hk hk2 (fun i hi h => by omega)
  go_wp2
  go_ret
  refine ⟨g', c', rfl, hb2, ?_, hk3⟩
  simpa using hrow2

set_option maxHeartbeats 400000 in
theorem text_long (A : Option Addr) (n c : Nat) (xs : List UInt8) (s : ByteArray) (w : World) (hx : R8 w A xs) (hn : n ≤ 900000) (hl : Hid (xs.length = n)) (hs : 255 < s.size) (hs' : s.size ≤ maxLen) :
    Calls Try.prog 14 #[.slice A n c, .string s] w (Wrote w (n + 1 + 255) (xs ++ 255 :: s.data.toList.take 255)) := by
  unfold maxLen at hs'
  have hmin : min 255 s.size = 255 := by omega
  go_enter Try.func14, Try.ntmps14
  go_wp2_with fail
  refine (u8_any _ _ _ xs _ _ hx (by omega) hl).mono ?_
  rintro e w1 ⟨g, d, rfl, hg, hrow, hk⟩
  have HL : Hid ((xs ++ [UInt8.ofNat ((255 : Int) % 256).toNat]).length = n + 1) := by show _ = _; rw [List.length_append, hl.out]; rfl
  have hsz : (s.extract 0 255).size = 255 := by rw [ByteArray.size_extract]; omega
  have HZ := Lib.hid hsz
  clear hsz
  go_wp2_with (at_builtin; refine wpl_append_str _ rfl (.tmp 13) (.tmp 14) rfl w.heap.size g d (n + 1) _ rfl HL.out hrow hg _ rfl (by have := HZ.out; omega) ?_)
  intro w2 g' c' hrow2 hb2 hk2
  have hk3 := Keep.trans hk hk2 (fun i hi h => by omega)
  go_wp2
  go_ret
  refine ⟨g', c', rfl, hb2, ?_, hk3⟩
  simpa using hrow2

theorem text_any (A : Option Addr) (n c : Nat) (xs : List UInt8) (s : ByteArray) (w : World) (hx : R8 w A xs) (hn : n ≤ 900000) (hl : Hid (xs.length = n)) (hs : s.size ≤ maxLen) :
    Calls Try.prog 14 #[.slice A n c, .string s] w (Wrote w (n + 1 + min s.size 255) (xs ++ txt s)) := by
  by_cases h : s.size ≤ 255
  · have e : min s.size 255 = s.size := by omega
    unfold txt
    rw [e, List.take_of_length_le (by rw [ba_len]; exact h)]
    exact text_short A n c xs s w hx hn hl h
  · have e : min s.size 255 = 255 := by omega
    unfold txt
    rw [e]
    exact text_long A n c xs s w hx hn hl (by omega) hs
end Go.Proofs.Ytojdhhlcildodaa
