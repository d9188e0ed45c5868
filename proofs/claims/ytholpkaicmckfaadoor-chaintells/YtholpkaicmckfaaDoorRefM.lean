/-
  The document's own SHA-256: its words on the way, and what its memory holds. No condition.
-/
import Derived.Test.YtholpkaicmckfaaDoorShaSum
import Derived.Test.YtholpkaicmckfaaDoorRefN
namespace Go.Proofs.YtholpkaicmckfaaDoor
open Go.RowKit
set_option linter.unusedVariables false

/-- the first i words, noughts behind -/
def wTo (m : List Int) (i : Nat) : List Int := (sched m (i - 16)).take i ++ List.replicate (64 - i) 0
theorem wTo_length (m : List Int) (i : Nat) (hm : m.length = 16) (h : i ≤ 64) : (wTo m i).length = 64 := by
  simp [wTo, sched_length, hm]; omega
theorem wTo_low (m : List Int) (i : Nat) (hm : m.length = 16) (hi : i < 16) (x : Int) (hx : m[i]? = some x) : (cells32 (wTo m i)).set i (.int .u32 x) = cells32 (wTo m (i + 1)) := by
  rw [cells32_set]
  congr 1
  have e1 : i - 16 = 0 := by omega
  have e2 : i + 1 - 16 = 0 := by omega
  unfold wTo
  rw [e1, e2]
  simp only [sched]
  rw [set_at _ _ _ i (by rw [List.length_take]; omega) (by omega), List.take_add_one, hx, show 64 - i - 1 = 64 - (i + 1) by omega]
  rfl
theorem wTo_high (m : List Int) (i : Nat) (hm : m.length = 16) (h1 : 16 ≤ i) : wTo m i = schedTo m i := by
  unfold wTo schedTo
  rw [List.take_of_length_le (by rw [sched_length]; omega)]
theorem wTo_full (m : List Int) (hm : m.length = 16) : wTo m 64 = sched m 48 := by
  rw [wTo_high m 64 hm (by omega)]
  simp [schedTo]
theorem wTo_zero (m : List Int) : cells32 (wTo m 0) = z64 := by
  simp [wTo, cells32, z64]

theorem or4 (a b c d : Nat) (ha : a < 256) (hb : b < 256) (hc : c < 256) (hd : d < 256) :
    bits .or .u32 (bits .or .u32 (bits .or .u32 ((a : Int) * 16777216) ((b : Int) * 65536)) ((c : Int) * 256)) (d : Int) = ((a * 16777216 + b * 65536 + c * 256 + d : Nat) : Int) := by
  have e1 : (a : Int) * 16777216 = ((a * 16777216 : Nat) : Int) := by omega
  have e2 : (b : Int) * 65536 = ((b * 65536 : Nat) : Int) := by omega
  have e3 : (c : Int) * 256 = ((c * 256 : Nat) : Int) := by omega
  rw [e1, e2, e3, u32_or_nat _ _ (by omega) (by omega), nat_join 24 (a * 16777216) (b * 65536) (by omega) (by omega), u32_or_nat _ _ (by omega) (by omega),
    nat_join 16 (a * 16777216 + b * 65536) (c * 256) (by omega) (by omega), u32_or_nat _ _ (by omega) (by omega), nat_join 8 (a * 16777216 + b * 65536 + c * 256) d (by omega) (by omega)]

theorem blk_len (M : List UInt8) (k : Nat) (h : 64 * (k + 1) ≤ M.length) : ((M.drop (64 * k)).take 64).length = 64 := by
  rw [List.length_take, List.length_drop]; omega
theorem blk_at (M : List UInt8) (k i : Nat) (h : 64 * (k + 1) ≤ M.length) (hi : i < 64) : ((M.drop (64 * k)).take 64).getD i 0 = M.getD (64 * k + i) 0 := by
  rw [List.getD_eq_getElem?_getD, List.getElem?_take, if_pos hi, List.getElem?_drop, ← List.getD_eq_getElem?_getD]
/-- word i of block k -/
theorem blk_word (M : List UInt8) (k i P : Nat) (hP : P = 64 * k) (h : 64 * (k + 1) ≤ M.length) (hi : i < 16) :
    (wrds ((M.drop (64 * k)).take 64))[i]? = some (wrd (M.getD (P + 4 * i) 0) (M.getD (P + 4 * i + 1) 0) (M.getD (P + 4 * i + 2) 0) (M.getD (P + 4 * i + 3) 0)) := by
  subst hP
  rw [wrds_at i _ (by rw [blk_len M k h]; omega), blk_at M k _ h (by omega), blk_at M k _ h (by omega), blk_at M k _ h (by omega), blk_at M k _ h (by omega)]
  simp only [Nat.add_assoc]

/-- what stays through a block's work -/
structure Base (w wr : World) (gm cm gh gk : Nat) (M : List UInt8) (hs : List Int) : Prop where
  kept : Kept w wr
  res : Blk wr w.heap.size 30 z32
  row : Row8 wr gm cm M
  h : Blk wr gh 51 (cells32 hs)
  k : Blk wr gk 57 (cells32 K64)
/-- the blocks lie in this order -/
structure Lie (w : World) (gm gh gk : Nat) : Prop where
  a : w.heap.size < gm
  b : gm < gh
  c : gh < gk
theorem Base.keep {S : Nat → Prop} {w wr wr' : World} {gm cm gh gk : Nat} {M : List UInt8} {hs : List Int} (h : Base w wr gm cm gh gk M hs) (hk : Keep S wr wr') (hl : Lie w gm gh gk) (hS : ∀ i, S i → gk < i) : Base w wr' gm cm gh gk M hs := by
  have h1 := hl.a
  have h2 := hl.b
  have h3 := hl.c
  have no : ∀ i, i ≤ gk → ¬ S i := fun i hi hs => by have := hS i hs; omega
  exact ⟨Keep.trans h.kept hk (fun i hi hs => absurd hs (no i (by omega))), h.res.keep hk (no _ (by omega)), h.row.keep hk (no _ (by omega)), h.h.keep hk (no _ (by omega)), h.k.keep hk (no _ (by omega))⟩
theorem Base.more {w wr wr' : World} {gm cm gh gk : Nat} {M : List UInt8} {hs : List Int} (h : Base w wr gm cm gh gk M hs) (hk : Kept wr wr') (hl : Lie w gm gh gk) : Base w wr' gm cm gh gk M hs := h.keep hk hl (fun _ h => h.elim)
theorem Base.drewN {w wr : World} {gm cm gh gk : Nat} {M : List UInt8} {hs : List Int} (h : Base w wr gm cm gh gk M hs) (n : Nat) : Base w (wr.drewN n) gm cm gh gk M hs := ⟨Keep.drewN h.kept n, h.res, h.row, h.h, h.k⟩
theorem Base.lt {w wr : World} {gm cm gh gk : Nat} {M : List UInt8} {hs : List Int} (h : Base w wr gm cm gh gk M hs) : gk < wr.heap.size := h.k.lt
/-- a store into a block behind them -/
theorem Base.set_ {w wr : World} {gm cm gh gk : Nat} {M : List UInt8} {hs : List Int} (h : Base w wr gm cm gh gk M hs) (hl : Lie w gm gh gk) {g i : Nat} (hg : gk < g) (v : Value) : Base w (wr.setCell ⟨g, i, none⟩ v) gm cm gh gk M hs :=
  h.keep (S := (· = g)) (Keep.setCell (p := ⟨g, i, none⟩) (Keep.refl (· = g) wr) (fun _ => rfl) v) hl (fun i e => by subst e; exact hg)
/-- a store into such a block: what stays, what turns -/
theorem Base.put {w wr : World} {gm cm gh gk : Nat} {M : List UInt8} {hs : List Int} (h : Base w wr gm cm gh gk M hs) (hl : Lie w gm gh gk) {g i : Nat} (hg : gk < g) {t : TypeId} {ds ds' : List Value} {v : Value} (hb : Blk wr g t ds) (he : ds.set i v = ds') :
    Base w (wr.setCell ⟨g, i, none⟩ v) gm cm gh gk M hs ∧ Blk (wr.setCell ⟨g, i, none⟩ v) g t ds' := by
  refine ⟨h.set_ hl hg v, ?_⟩
  have := hb.set_ i v
  rw [he] at this
  exact this
/-- a store into the words themselves -/
theorem Base.putH {w wr : World} {gm cm gh gk : Nat} {M : List UInt8} {hs hs' : List Int} (h : Base w wr gm cm gh gk M hs) (hl : Lie w gm gh gk) {i : Nat} {x : Int} (he : hs.set i x = hs') : Base w (wr.setCell ⟨gh, i, none⟩ (.int .u32 x)) gm cm gh gk M hs' := by
  have h1 := hl.a
  have h2 := hl.b
  have h3 := hl.c
  have hk : Keep (· = gh) wr (wr.setCell ⟨gh, i, none⟩ (.int .u32 x)) := Keep.setCell (p := ⟨gh, i, none⟩) (Keep.refl (· = gh) wr) (fun _ => rfl) _
  refine ⟨Keep.trans h.kept hk (fun i hi e => by omega), h.res.keep hk (by omega), h.row.keep hk (by omega), ?_, h.k.keep hk (by omega)⟩
  have := h.h.set_ i (.int .u32 x)
  rw [cells32_set, he] at this
  exact this
/-- four bytes of a word stored -/
theorem out4 {w wr : World} {O : Nat} (t : St) (ht : t.ok) (i : Nat) (hi : i < 8) (x : Int) (hx : x = t.list.getD i 0) (hk : Kept w wr) (hb : Blk wr w.heap.size 30 z32) (ho : Blk wr O 30 (cells8 (bytesTo t (4 * i)))) (hn : ¬ O < w.heap.size) (hne : w.heap.size < O) :
    Kept w ((((wr.setCell ⟨O, 4 * i, none⟩ (.int .u8 (x / 16777216))).setCell ⟨O, 4 * i + 1, none⟩ (.int .u8 (x / 65536 % 256))).setCell ⟨O, 4 * i + 2, none⟩ (.int .u8 (x / 256 % 256))).setCell ⟨O, 4 * i + 3, none⟩ (.int .u8 (x % 256))) ∧
    Blk ((((wr.setCell ⟨O, 4 * i, none⟩ (.int .u8 (x / 16777216))).setCell ⟨O, 4 * i + 1, none⟩ (.int .u8 (x / 65536 % 256))).setCell ⟨O, 4 * i + 2, none⟩ (.int .u8 (x / 256 % 256))).setCell ⟨O, 4 * i + 3, none⟩ (.int .u8 (x % 256))) w.heap.size 30 z32 ∧
    Blk ((((wr.setCell ⟨O, 4 * i, none⟩ (.int .u8 (x / 16777216))).setCell ⟨O, 4 * i + 1, none⟩ (.int .u8 (x / 65536 % 256))).setCell ⟨O, 4 * i + 2, none⟩ (.int .u8 (x / 256 % 256))).setCell ⟨O, 4 * i + 3, none⟩ (.int .u8 (x % 256))) O 30 (cells8 (bytesTo t (4 * (i + 1)))) := by
  have hxb := getD_bd t.list ht i
  rw [← hx] at hxb
  obtain ⟨b0, h0, e0⟩ := bytes_at t ht i 0 hi (by omega) x hx
  obtain ⟨b1, h1, e1⟩ := bytes_at t ht i 1 hi (by omega) x hx
  obtain ⟨b2, h2, e2⟩ := bytes_at t ht i 2 hi (by omega) x hx
  obtain ⟨b3, h3, e3⟩ := bytes_at t ht i 3 hi (by omega) x hx
  have g0 : x / 16777216 = ((b0.toNat : Nat) : Int) := by rw [← e0]; show x / 16777216 = x / 2 ^ 24 % 256; omega
  have g1 : x / 65536 % 256 = ((b1.toNat : Nat) : Int) := by rw [← e1]; rfl
  have g2 : x / 256 % 256 = ((b2.toNat : Nat) : Int) := by rw [← e2]; rfl
  have g3 : x % 256 = ((b3.toNat : Nat) : Int) := by rw [← e3]; show x % 256 = x / 2 ^ 0 % 256; simp
  rw [g0, g1, g2, g3]
  have R0 := arr_set hk hb ho hn hne (bytesTo_set t (4 * i) (by omega) b0 h0)
  have R1 := arr_set R0.1 R0.2.1 R0.2.2 hn hne (bytesTo_set t (4 * i + 1) (by omega) b1 h1)
  have R2 := arr_set R1.1 R1.2.1 R1.2.2 hn hne (bytesTo_set t (4 * i + 2) (by omega) b2 h2)
  exact arr_set R2.1 R2.2.1 R2.2.2 hn hne (bytesTo_set t (4 * i + 3) (by omega) b3 h3)
theorem out_cell {wr : World} {O p : Nat} {t : St} (ho : Blk wr O 30 (cells8 (bytesTo t p))) (q : Nat) (hp : p ≤ 32) (hq : q < 32) : ∃ v, wr.cell? ⟨O, q, none⟩ = some v := by
  rw [ho.cell]
  exact ⟨_, List.getElem?_eq_getElem (by rw [len8, bytesTo_length t p hp]; exact hq)⟩
end Go.Proofs.YtholpkaicmckfaaDoor
