/-
  SHA-256 as plain mathematics on integers, in the words in which a walk meets it. No condition.
-/
import Derived.Test.YtholpkaicmckfaaDoorBeM
import Derived.Laws.BitsAllLaws
namespace Go.Proofs.YtholpkaicmckfaaDoor
open Go.RowKit
set_option linter.unusedVariables false

theorem bits32_bd (op : BinOp) (x y : Int) : 0 ≤ bits op .u32 x y ∧ bits op .u32 x y < 4294967296 := by
  unfold bits
  simp only [IntKind.wrap_u32']
  omega
theorem or32_comm (x y : Int) : bits .or .u32 x y = bits .or .u32 y x := by
  simp only [bits, BitVec.or_comm]

/-- a word turned to the right -/
def rotr (x : Int) (s : Nat) : Int := bits .or .u32 (x / 2 ^ s) (x * 2 ^ (32 - s) % 4294967296)
theorem rotr_bd (x : Int) (s : Nat) : 0 ≤ rotr x s ∧ rotr x s < 4294967296 := bits32_bd _ _ _

theorem and31 : ∀ s : Fin 32, 0 < s.val → bits .and .u64 (18446744073709551616 - (s.val : Int)) 31 = ((32 - s.val : Nat) : Int) := by decide +kernel

/-- the eight words on the way -/
structure St where
  a : Int
  b : Int
  c : Int
  d : Int
  e : Int
  f : Int
  g : Int
  h : Int
def St.list (s : St) : List Int := [s.a, s.b, s.c, s.d, s.e, s.f, s.g, s.h]

def bch (e f g : Int) : Int := bits .xor .u32 (bits .and .u32 e f) (bits .and .u32 (bits .xor .u32 IntKind.u32.max e) g)
def bmaj (a b c : Int) : Int := bits .xor .u32 (bits .xor .u32 (bits .and .u32 a b) (bits .and .u32 a c)) (bits .and .u32 b c)
def big1 (e : Int) : Int := bits .xor .u32 (bits .xor .u32 (rotr e 6) (rotr e 11)) (rotr e 25)
def big0 (a : Int) : Int := bits .xor .u32 (bits .xor .u32 (rotr a 2) (rotr a 13)) (rotr a 22)
def sml0 (x : Int) : Int := bits .xor .u32 (bits .xor .u32 (rotr x 7) (rotr x 18)) (x / 8)
def sml1 (x : Int) : Int := bits .xor .u32 (bits .xor .u32 (rotr x 17) (rotr x 19)) (x / 1024)
def t1of (s : St) (k x : Int) : Int := (s.h + big1 s.e + bch s.e s.f s.g + k + x) % 4294967296
def t2of (s : St) : Int := (big0 s.a + bmaj s.a s.b s.c) % 4294967296
/-- one round -/
def St.rnd (s : St) (k x : Int) : St := ⟨(t1of s k x + t2of s) % 4294967296, s.a, s.b, s.c, (s.d + t1of s k x) % 4294967296, s.e, s.f, s.g⟩

def K64 : List Int := [1116352408, 1899447441, 3049323471, 3921009573, 961987163, 1508970993, 2453635748, 2870763221, 3624381080, 310598401, 607225278, 1426881987, 1925078388, 2162078206, 2614888103, 3248222580,
  3835390401, 4022224774, 264347078, 604807628, 770255983, 1249150122, 1555081692, 1996064986, 2554220882, 2821834349, 2952996808, 3210313671, 3336571891, 3584528711, 113926993, 338241895,
  666307205, 773529912, 1294757372, 1396182291, 1695183700, 1986661051, 2177026350, 2456956037, 2730485921, 2820302411, 3259730800, 3345764771, 3516065817, 3600352804, 4094571909, 275423344,
  430227734, 506948616, 659060556, 883997877, 958139571, 1322822218, 1537002063, 1747873779, 1955562222, 2024104815, 2227730452, 2361852424, 2428436474, 2756734187, 3204031479, 3329325298]
def H0 : St := ⟨1779033703, 3144134277, 1013904242, 2773480762, 1359893119, 2600822924, 528734635, 1541459225⟩

def rounds (ws : List Int) (s : St) : Nat → St
  | 0 => s
  | k + 1 => (rounds ws s k).rnd (K64.getD k 0) (ws.getD k 0)

/-- the word behind a row of words -/
def nextw (ws : List Int) (k : Nat) : Int := (ws.getD k 0 + ws.getD (k + 9) 0 + sml0 (ws.getD (k + 1) 0) + sml1 (ws.getD (k + 14) 0)) % 4294967296
/-- sixteen words, and k more -/
def sched (m : List Int) : Nat → List Int
  | 0 => m
  | k + 1 => sched m k ++ [nextw (sched m k) k]

/-- the word of four bytes -/
def wrd (a b c d : UInt8) : Int := ((a.toNat * 16777216 + b.toNat * 65536 + c.toNat * 256 + d.toNat : Nat) : Int)
/-- a block's words -/
def wrds : List UInt8 → List Int
  | a :: b :: c :: d :: r => wrd a b c d :: wrds r
  | _ => []

def St.add (s t : St) : St := ⟨(s.a + t.a) % 4294967296, (s.b + t.b) % 4294967296, (s.c + t.c) % 4294967296, (s.d + t.d) % 4294967296, (s.e + t.e) % 4294967296, (s.f + t.f) % 4294967296, (s.g + t.g) % 4294967296, (s.h + t.h) % 4294967296⟩
/-- a block worked into the words -/
def comp (s : St) (blk : List UInt8) : St := s.add (rounds (sched (wrds blk) 48) s 64)

/-- the first k blocks of xs -/
def blocks (xs : List UInt8) : Nat → St
  | 0 => H0
  | k + 1 => comp (blocks xs k) ((xs.drop (64 * k)).take 64)

/-- what a message of n bytes is followed by -/
def tailOf (n : Nat) : List UInt8 := 128 :: (List.replicate ((119 - n % 64) % 64) 0 ++ be (8 * n) 8)
/-- the eight words as bytes -/
def St.bytes (s : St) : List UInt8 := s.list.flatMap fun x => be x.toNat 4
/-- the sum -/
def shaOf (xs : List UInt8) : List UInt8 := (blocks (xs ++ tailOf xs.length) ((xs ++ tailOf xs.length).length / 64)).bytes

/-- words that are words -/
def St.ok (s : St) : Prop := ∀ x ∈ s.list, 0 ≤ x ∧ x < 4294967296

theorem shaNil : shaOf [] = [0xe3, 0xb0, 0xc4, 0x42, 0x98, 0xfc, 0x1c, 0x14, 0x9a, 0xfb, 0xf4, 0xc8, 0x99, 0x6f, 0xb9, 0x24, 0x27, 0xae, 0x41, 0xe4, 0x64, 0x9b, 0x93, 0x4c, 0xa4, 0x95, 0x99, 0x1b, 0x78, 0x52, 0xb8, 0x55] := by kernel_rfl
theorem shaAbc : shaOf [97, 98, 99] = [0xba, 0x78, 0x16, 0xbf, 0x8f, 0x01, 0xcf, 0xea, 0x41, 0x41, 0x40, 0xde, 0x5d, 0xae, 0x22, 0x23, 0xb0, 0x03, 0x61, 0xa3, 0x96, 0x17, 0x7a, 0x9c, 0xb4, 0x10, 0xff, 0x61, 0xf2, 0x00, 0x15, 0xad] := by kernel_rfl
end Go.Proofs.YtholpkaicmckfaaDoor
