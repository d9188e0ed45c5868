/-
  What a hash has received, as plain facts on blocks of bytes. No condition.
-/
import Derived.Test.YtholpkaicmckfaaDoorShaMix
namespace Go.Proofs.YtholpkaicmckfaaDoor
open Go.RowKit
set_option linter.unusedVariables false

theorem blocks_append (xs ys : List UInt8) (k : Nat) (h : 64 * k ≤ xs.length) : blocks (xs ++ ys) k = blocks xs k := by
  induction k with
  | zero => rfl
  | succ k ih =>
    simp only [blocks]
    rw [ih (by omega), List.drop_append_of_le_length (by omega), List.take_append_of_le_length (by rw [List.length_drop]; omega)]
theorem add_ok (s t : St) : (s.add t).ok := by
  intro y hy
  have h1 : ∀ z : Int, 0 ≤ z % 4294967296 ∧ z % 4294967296 < 4294967296 := fun z => by omega
  simp only [St.add, St.list, List.mem_cons, List.not_mem_nil, or_false] at hy
  rcases hy with rfl | rfl | rfl | rfl | rfl | rfl | rfl | rfl <;> exact h1 _
theorem H0_ok : H0.ok := by
  intro y hy
  simp only [H0, St.list, List.mem_cons, List.not_mem_nil, or_false] at hy
  omega
theorem blocks_ok (xs : List UInt8) (k : Nat) : (blocks xs k).ok := by
  cases k with
  | zero => exact H0_ok
  | succ k => exact add_ok _ _

/-- xs have come: the words and the block -/
structure Fed (xs : List UInt8) (s : St) (bs : List UInt8) : Prop where
  len : bs.length = 64
  rest : bs.take (xs.length % 64) = xs.drop (xs.length / 64 * 64)
  words : s = blocks xs (xs.length / 64)

theorem Fed.ok {xs : List UInt8} {s : St} {bs : List UInt8} (h : Fed xs s bs) : s.ok := by
  rw [h.words]
  exact blocks_ok _ _
theorem Fed.nil (bs : List UInt8) (h : bs.length = 64) : Fed [] H0 bs := ⟨h, rfl, rfl⟩
theorem splice_take (bs zs : List UInt8) (r : Nat) (hr : r ≤ bs.length) : (splice bs r zs).take (r + zs.length) = bs.take r ++ zs := by
  unfold splice
  rw [← List.append_assoc, List.take_append_of_le_length (by rw [List.length_append, List.length_take]; omega), List.take_of_length_le (by rw [List.length_append, List.length_take]; omega)]
theorem Fed.part {xs : List UInt8} {s : St} {bs : List UInt8} (h : Fed xs s bs) (zs : List UInt8) (hz : xs.length % 64 + zs.length < 64) : Fed (xs ++ zs) s (splice bs (xs.length % 64) zs) := by
  have e1 : (xs.length + zs.length) / 64 = xs.length / 64 := by omega
  have e2 : (xs.length + zs.length) % 64 = xs.length % 64 + zs.length := by omega
  refine ⟨?_, ?_, ?_⟩
  · rw [length_splice _ _ _ (by rw [h.len]; omega), h.len]
  · rw [List.length_append, e1, e2, splice_take _ _ _ (by rw [h.len]; omega), h.rest, List.drop_append_of_le_length (by omega)]
  · rw [List.length_append, e1, blocks_append _ _ _ (by omega)]
    exact h.words
theorem Fed.full {xs : List UInt8} {s : St} {bs : List UInt8} (h : Fed xs s bs) (zs : List UInt8) (hz : xs.length % 64 + zs.length = 64) :
    Fed (xs ++ zs) (comp s (splice bs (xs.length % 64) zs)) (splice bs (xs.length % 64) zs) := by
  have e1 : (xs.length + zs.length) / 64 = xs.length / 64 + 1 := by omega
  have e2 : (xs.length + zs.length) % 64 = 0 := by omega
  have hl : (splice bs (xs.length % 64) zs).length = 64 := by rw [length_splice _ _ _ (by rw [h.len]; omega), h.len]
  have hs := splice_take bs zs (xs.length % 64) (by rw [h.len]; omega)
  rw [hz, List.take_of_length_le (by omega), h.rest] at hs
  refine ⟨hl, ?_, ?_⟩
  · rw [List.length_append, e1, e2, List.take_zero, List.drop_of_length_le (by rw [List.length_append]; omega)]
  · rw [List.length_append, e1]
    simp only [blocks]
    rw [blocks_append _ _ _ (by omega), ← h.words, hs, Nat.mul_comm 64, List.drop_append_of_le_length (by omega), List.take_of_length_le]
    rw [List.length_append, List.length_drop]
    omega

theorem cells8_splice (bs zs : List UInt8) (r : Nat) : cells8 (splice bs r zs) = splice (cells8 bs) r (cells8 zs) := by
  simp [splice, cells8]
theorem hcells_splice (s : St) (bs zs : List UInt8) (n r : Nat) (hl : bs.length = 64) (hr : r + zs.length ≤ 64) : splice (hcells s bs n) (8 + r) (cells8 zs) = hcells s (splice bs r zs) n := by
  have e : (cells32 s.list).length = 8 := by rw [len32]; rfl
  unfold hcells
  rw [cells8_splice]
  unfold splice
  have e1 : (cells32 s.list ++ (cells8 bs ++ [Value.int .i64 (n : Int)])).take (8 + r) = cells32 s.list ++ (cells8 bs).take r := by
    rw [List.take_append, e, List.take_of_length_le (by omega), Nat.add_sub_cancel_left, List.take_append_of_le_length (by rw [len8]; omega)]
  have e2 : (cells32 s.list ++ (cells8 bs ++ [Value.int .i64 (n : Int)])).drop (8 + r + (cells8 zs).length) = (cells8 bs).drop (r + (cells8 zs).length) ++ [Value.int .i64 (n : Int)] := by
    have e3 : 8 + r + (cells8 zs).length - 8 = r + (cells8 zs).length := by omega
    rw [List.drop_append, e, List.drop_of_length_le (by omega), List.nil_append, e3, List.drop_append_of_le_length (by rw [len8, len8]; omega)]
  rw [e1, e2]
  simp
theorem hcells_setn (s : St) (bs : List UInt8) (n m : Nat) (hl : bs.length = 64) : (hcells s bs n).set 72 (.int .i64 (m : Int)) = hcells s bs m := by
  have e : (cells32 s.list).length = 8 := by rw [len32]; rfl
  unfold hcells
  rw [List.set_append_right _ _ (by omega), e, List.set_append_right _ _ (by rw [len8]; omega), len8, hl]
  rfl
theorem hcells_length (s : St) (bs : List UInt8) (n : Nat) (hl : bs.length = 64) : (hcells s bs n).length = 73 := by
  simp [hcells, len32, len8, hl, St.list]

/-- a hash in memory that has received xs -/
def HS (w : World) (g : Nat) (xs : List UInt8) : Prop := ∃ s bs, Fed xs s bs ∧ Blk w g 54 (hcells s bs xs.length)
theorem HS.keep {S : Nat → Prop} {w w' : World} {g : Nat} {xs : List UInt8} (h : HS w g xs) (hk : Keep S w w') (hn : ¬ S g) : HS w' g xs := by
  obtain ⟨s, bs, hf, hb⟩ := h
  exact ⟨s, bs, hf, hb.keep hk hn⟩
theorem HS.kept {w w' : World} {g : Nat} {xs : List UInt8} (h : HS w g xs) (hk : Kept w w') : HS w' g xs := h.keep hk (fun h => h)
theorem HS.lt {w : World} {g : Nat} {xs : List UInt8} (h : HS w g xs) : g < w.heap.size := by
  obtain ⟨s, bs, hf, hb⟩ := h
  exact hb.lt
theorem HS.drewN {w : World} {g : Nat} {xs : List UInt8} (h : HS w g xs) (n : Nat) : HS (w.drewN n) g xs := h

theorem Glob.keep {S : Nat → Prop} {w w' : World} (h : Glob w) (hk : Keep S w w') (h0 : ¬ S 0) (h1 : ¬ S 1) : Glob w' := by
  obtain ⟨⟨t, fr, e⟩, ⟨t', fr', e'⟩⟩ := h
  exact ⟨⟨t, fr, (hk.block 0 (Array.getElem?_eq_some_iff.1 e).1 h0).trans e⟩, ⟨t', fr', (hk.block 1 (Array.getElem?_eq_some_iff.1 e').1 h1).trans e'⟩⟩
theorem Glob.kept {w w' : World} (h : Glob w) (hk : Kept w w') : Glob w' := h.keep hk (fun h => h) (fun h => h)
theorem Glob.ne {w : World} {g : Nat} {xs : List UInt8} (h : Glob w) (hs : HS w g xs) : g ≠ 0 ∧ g ≠ 1 := by
  obtain ⟨⟨t, fr, e⟩, ⟨t', fr', e'⟩⟩ := h
  obtain ⟨s, bs, hf, hb⟩ := hs
  have hl := hcells_length s bs xs.length hf.len
  unfold Blk at hb
  constructor
  · rintro rfl
    rw [e] at hb
    injection hb with hb
    injection hb with hb
    have := congrArg Array.size hb
    rw [List.size_toArray, List.size_toArray, len32, hl] at this
    simp [St.list] at this
  · rintro rfl
    rw [e'] at hb
    injection hb with hb
    injection hb with hb
    have := congrArg Array.size hb
    rw [List.size_toArray, List.size_toArray, len32, hl] at this
    simp [K64] at this
theorem Glob.same {w w' : World} {g : Nat} {xs : List UInt8} (h : Glob w) (hs : HS w g xs) (hk : Keep (· = g) w w') : Glob w' :=
  h.keep hk (fun e => (h.ne hs).1 e.symm) (fun e => (h.ne hs).2 e.symm)
end Go.Proofs.YtholpkaicmckfaaDoor
