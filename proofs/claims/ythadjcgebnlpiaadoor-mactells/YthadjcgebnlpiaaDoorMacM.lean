/-
  HMAC-SHA256 as plain mathematics over shaOf; what xor of bytes is to a walk; chapter 3's runs. No condition.
-/
import Derived.Test.YthadjcgebnlpiaaDoorShaSum
namespace Go.Proofs.YthadjcgebnlpiaaDoor
open Go.RowKit
set_option linter.unusedVariables false

theorem xor8 (x y : UInt8) : bits .xor .u8 (x.toNat : Int) (y.toNat : Int) = ((x ^^^ y).toNat : Int) := by
  rw [u8_xor_nat _ _ x.toNat_lt y.toNat_lt, UInt8.toNat_xor]
theorem or8 (x y : UInt8) : bits .or .u8 (x.toNat : Int) (y.toNat : Int) = ((x ||| y).toNat : Int) := by
  rw [u8_or_nat _ _ x.toNat_lt y.toNat_lt, UInt8.toNat_or]

/-- each byte xored with m -/
def xb (m : UInt8) (xs : List UInt8) : List UInt8 := xs.map (· ^^^ m)
theorem xb_length (m : UInt8) (xs : List UInt8) : (xb m xs).length = xs.length := by simp [xb]
/-- the key, or its sum where it is long -/
def short (key : List UInt8) : List UInt8 := if 64 < key.length then shaOf key else key
/-- the key's 64 bytes -/
def padK (key : List UInt8) : List UInt8 := short key ++ List.replicate (64 - (short key).length) 0
def hmac (key b : List UInt8) : List UInt8 := shaOf (xb 92 (padK key) ++ shaOf (xb 54 (padK key) ++ b))

theorem short_length (key : List UInt8) : (short key).length ≤ 64 := by
  unfold short
  split
  · rw [shaOf_length]; omega
  · omega
theorem padK_length (key : List UInt8) : (padK key).length = 64 := by
  have := short_length key
  simp [padK]
  omega
theorem hmac_length (key b : List UInt8) : (hmac key b).length = 32 := shaOf_length _
theorem padK_zeros (key : List UInt8) (k : Nat) (h : key.length + k ≤ 64) : padK (key ++ List.replicate k 0) = padK key := by
  have e1 : short key = key := by unfold short; rw [if_neg (by omega)]
  have e2 : short (key ++ List.replicate k 0) = key ++ List.replicate k 0 := by unfold short; rw [if_neg (by simp; omega)]
  unfold padK
  rw [e1, e2, List.append_assoc, List.replicate_append_replicate]
  congr 2
  simp
  omega
theorem hmac_zeros (key b : List UInt8) (k : Nat) (h : key.length + k ≤ 64) : hmac (key ++ List.replicate k 0) b = hmac key b := by
  unfold hmac
  rw [padK_zeros key k h]

def hi1 : List UInt8 := [72, 105, 32, 84, 104, 101, 114, 101]
def hi2 : List UInt8 := [119, 104, 97, 116, 32, 100, 111, 32, 121, 97, 32, 119, 97, 110, 116, 32, 102, 111, 114, 32, 110, 111, 116, 104, 105, 110, 103, 63]
def tag1 : List UInt8 := [0xb0, 0x34, 0x4c, 0x61, 0xd8, 0xdb, 0x38, 0x53, 0x5c, 0xa8, 0xaf, 0xce, 0xaf, 0x0b, 0xf1, 0x2b, 0x88, 0x1d, 0xc2, 0x00, 0xc9, 0x83, 0x3d, 0xa7, 0x26, 0xe9, 0x37, 0x6c, 0x2e, 0x32, 0xcf, 0xf7]
def tag2 : List UInt8 := [0x5b, 0xdc, 0xc1, 0x46, 0xbf, 0x60, 0x75, 0x4e, 0x6a, 0x04, 0x24, 0x26, 0x08, 0x95, 0x75, 0xc7, 0x5a, 0x00, 0x3f, 0x08, 0x9d, 0x27, 0x39, 0x83, 0x9d, 0xec, 0x58, 0xb9, 0x64, 0xec, 0x38, 0x43]
def key1 : List UInt8 := [11, 11, 11, 11, 11, 11, 11, 11, 11, 11, 11, 11, 11, 11, 11, 11, 11, 11, 11, 11]
def key2 : List UInt8 := [74, 101, 102, 101]
theorem run1 : hmac key1 hi1 = tag1 := by kernel_rfl
theorem run2 : hmac key2 hi2 = tag2 := by kernel_rfl
end Go.Proofs.YthadjcgebnlpiaaDoor
