/-
  Sums held against each other; slices of bytes that come in, or are constants; a byte at a time. No condition.
-/
import Derived.Test.YtholpkaicmckfaaDoorShaSum
import Derived.Test.YtholpkaicmckfaaDoorClose
namespace Go.Proofs.YtholpkaicmckfaaDoor
open Go.RowKit
set_option linter.unusedVariables false

/-- a run of cells, as an array, behind a guard that says yes -/
theorem wpl_load_partw {ops : Array Oper} {rest : List Oper} {o : Oper} {a : Act} {Q : Exit → Act → World → Prop} (w : World) (hw : Region.wanted o (yielded ops a.tmps) = true) (ty : TypeId) (x : Operand) (hop : o.op = .load ty x)
    (g : Nat) (hx : a.eval x = .pointer (some ⟨g, 0, none⟩)) (t : TypeId) (cs : List Value) (n : Nat) (e : TypeId) (hb : Blk w g t cs) (hu : Tryd.prog.underlying ty = some (.array n e))
    (hi : (Tryd.prog.info? ty).map (·.size) = some cs.length) (h : wpList Tryd.prog ops Q rest (a.put o.dst (.agg cs.toArray)) w) : wpList Tryd.prog ops Q (o :: rest) a w :=
  wpList_wanted hw fun K hK => wp_load_row ty x hop g hx t cs.toArray (0, 0) _ hb hu rfl (by simpa using hi) (hK _ _ h)

theorem r8_marked (w : World) (xs : List UInt8) (t : TypeId) (fr : Nat × Nat) : R8 (w.alloc (.cells (cells8 xs).toArray t fr)) (some ⟨w.heap.size, 0, none⟩) xs := by
  intro k x hx
  refine ⟨_, rfl, ?_⟩
  rw [add_lit, World.cell?_alloc_mark]
  simp [cells8, hx]

/-- a[i:i+1] -/
theorem slice_one (A : Option Addr) (ad : Addr) (m c i : Nat) (hA : A = some ad) (hi : i < m) (hm : m ≤ c) (hc : c ≤ maxLen) (u : World) :
    (Instr.slice 22 (.slice A m c) (some (.int .i64 (i : Int))) (some (.int .i64 ((i : Int) + 1))) none).run Tryd.prog u = .ok (.slice (some (ad.add i)) 1 (c - i)) u := by
  subst hA
  obtain ⟨i0, hi0, hz0, hz1, hz2⟩ := info_parts info8
  have e : Tryd.prog.elem 22 = 5 := by kernel_rfl
  have h := run_slice_lh (P := Tryd.prog) (w := u) 22 (some ad) m c Tryd.underlying22 .i64 .i64 (i : Int) ((i : Int) + 1) (by omega) (by omega) (by omega)
  have hne : ¬ c = i := by omega
  have e1 : ((i : Int) + 1).toNat = i + 1 := by omega
  rw [h, e, e1]
  simp [sizeOf, typeInfo, hi0, hz1, sliced, hne]

theorem one_is {w : World} {A : Option Addr} {ad : Addr} {xs : List UInt8} {m c i g : Nat} (hR : R8 w A xs) (hA : A = some ad) (hl : xs.length = m) (hi : i < m) (hm : m ≤ c) (hc : c ≤ maxLen) (hg : ad.block ≠ g) :
    SliceIs w g (.slice (some (ad.add i)) 1 (c - i)) [xs.getD i 0] := by
  subst hA
  refine ⟨_, 1, c - i, rfl, rfl, ?_, by omega, by omega, fun a h _ => ?_⟩
  · intro k x hx
    match k, hx with
    | 0, hx =>
      simp at hx
      subst hx
      obtain ⟨ad', e, hc⟩ := hR i (xs.getD i 0) (by rw [List.getD_eq_getElem?_getD, List.getElem?_eq_getElem (by omega)]; rfl)
      injection e with e
      subst e
      exact ⟨_, rfl, by rw [add_add]; simpa using hc⟩
  · injection h with h
    subst h
    rw [block_add]
    exact hg
theorem take_one (xs : List UInt8) (i m : Nat) (hl : xs.length = m) (hi : i < m) : xs.take i ++ [xs.getD i 0] = xs.take (i + 1) := by
  rw [List.take_add_one, List.getD_eq_getElem?_getD, List.getElem?_eq_getElem (by omega)]
  rfl

/-- one byte more -/
theorem write_one (g i m c : Nat) (A : Option Addr) (ad : Addr) (xs : List UInt8) (w wr : World) (hR : R8 w A xs) (hA : A = some ad) (hl : xs.length = m) (hi : i < m) (hm : m ≤ c) (hc : c ≤ maxLen) (hg : ¬ g < w.heap.size) (hk : Kept w wr) (hs : HS wr g (xs.take i)) (hG : Glob wr) (hmm : m ≤ 1000) :
    Calls Tryd.prog 24 #[.pointer (some ⟨g, 0, none⟩), .slice (some (ad.add i)) 1 (c - i)] wr fun e w' => e = .returned (.tuple #[]) ∧ HS w' g (xs.take (i + 1)) ∧ Keep (· = g) wr w' ∧ Glob w' := by
  have hb : ad.block ≠ g := by
    have := (hA ▸ hR : R8 w (some ad) xs).lt (fun e => by rw [e] at hl; simp at hl; omega)
    omega
  refine (write_any g (xs.take i) _ [xs.getD i 0] wr hG hs (one_is (hR.kept hk) hA hl hi hm hc hb) (by rw [List.length_take]; omega) (by simp)).mono fun e w' ⟨h1, h2, h3⟩ => ⟨h1, ?_, h3, hG.same hs h3⟩
  rw [take_one xs i m hl hi] at h2
  exact h2

theorem take_more (xs : List UInt8) (i m : Nat) (hl : xs.length = m) (hi : ¬ i < m) : xs.take i = xs.take (i + 1) := by
  rw [List.take_of_length_le (by omega), List.take_of_length_le (by omega)]

theorem eq_same (S : List UInt8) (h : S.length = 32) : ∀ u : World, (Op.equalIn 10000 30 (.agg (cells8 S).toArray) (.agg (cells8 S).toArray)).run Tryd.prog u = .ok true u := fun u => by
  have h := run_arr8 30 32 Tryd.underlying30 S S h h u
  rw [decide_eq_true rfl] at h
  exact h

theorem Bytes.at_ {w : World} {A : Option Addr} {n c : Nat} {xs : List UInt8} (hR : R8 w A xs) (hl : Hid (xs.length = n)) (hnc : n ≤ c) (hc : c ≤ maxLen) : ∀ g, w.heap.size ≤ g → SliceIs w g (.slice A n c) xs := by
  intro g hg
  refine ⟨A, n, c, rfl, hl, hR, hnc, hc, fun ad h hne e => ?_⟩
  subst h
  have := hR.lt hne
  omega

/-- copy of bytes into a row, whatever comes in: nil too -/
theorem wpl_copy8o {ops : Array Oper} {rest : List Oper} {o : Oper} {a : Act} {Q : Exit → Act → World → Prop} (w : World) (hg : o.guard = none) (d s : Operand)
    (hop : o.op = .call { callee := .builtin .copy, args := #[d, s], argTypes := #[22, 22] }) (g off dLen dCap : Nat) (A : Option Addr) (sLen sCap : Nat) (hd : a.eval d = .slice (some ⟨g, off, none⟩) dLen dCap) (hs : a.eval s = .slice A sLen sCap)
    (cur : List Value) (t : TypeId) (hb : Blk w g t cur) (ys : List UInt8) (hn : ys.length = Nat.min sLen dLen) (hR : R8 w A ys) (hfit : off + ys.length ≤ cur.length)
    (hK : ∀ w', Blk w' g t (splice cur off (cells8 ys)) → Keep (· = g) w w' → w'.heap.size = w.heap.size → wpList Tryd.prog ops Q rest (a.put o.dst (.int .i64 (ys.length : Int))) w') : wpList Tryd.prog ops Q (o :: rest) a w := by
  cases ys with
  | nil =>
    refine wpList_copy_nothing hg d s _ _ hop 5 Tryd.underlying22 info8s (some ⟨g, off, none⟩) A dLen dCap sLen sCap hd hs (by simpa using hn.symm) ?_
    exact hK w (by simpa [splice, cells8] using hb) (Keep.refl _ _) rfl
  | cons y ys =>
    obtain ⟨ad, rfl, -⟩ := hR 0 y rfl
    exact wpl_copy8 w hg d s hop g off dLen dCap ad sLen sCap hd hs cur t hb (y :: ys) hn hR hfit hK

/-- x[:] of an array of n bytes -/
theorem slice_arr (t : TypeId) (n g o : Nat) (ht : Tryd.prog.underlying t = some (.array n 5)) (h0 : 0 < n) (e1 : Tryd.prog.arrayLen t = n) (e2 : Tryd.prog.elem t = 5) (u : World) : (Instr.sliceAt t (.pointer (some ⟨g, o, none⟩)) none none none).run Tryd.prog u = .ok (.slice (some ⟨g, o, none⟩) n n) u := by
  obtain ⟨i0, hi, hz0, hz1, hz2⟩ := info_parts info8
  have h := run_sliceAt_array_all (P := Tryd.prog) (w := u) t ⟨g, o, none⟩ (by rw [e1, e2]; exact ht)
  have hne : ¬ n = 0 := by omega
  rw [h, e1, e2]
  simp [sizeOf, typeInfo, hi, hz1, hne, slicedAt, Addr.add]
theorem slice_sum (g o : Nat) : ∀ u : World, (Instr.sliceAt 30 (.pointer (some ⟨g, o, none⟩)) none none none).run Tryd.prog u = .ok (.slice (some ⟨g, o, none⟩) 32 32) u :=
  slice_arr _ 32 g o Tryd.underlying30 (by omega) (by kernel_rfl) (by kernel_rfl)
theorem Blk.r8 {w : World} {g : Nat} {t : TypeId} {xs : List UInt8} (h : Blk w g t (cells8 xs)) : R8 w (some ⟨g, 0, none⟩) xs := by
  intro k x hx
  refine ⟨_, rfl, ?_⟩
  rw [add_lit, h.cell]
  simp [cells8, hx]
theorem Bytes.keep {S : Nat → Prop} {w w' : World} {v : Value} {xs : List UInt8} (h : Bytes w v xs) (hk : Keep S w w') (hn : ∀ ad n c, v = .slice (some ad) n c → xs ≠ [] → ¬ S ad.block) : Bytes w' v xs := by
  obtain ⟨A, n, c, rfl, hl, hx, h1, h2, h3⟩ := h
  exact ⟨A, n, c, rfl, hl, hx.keep hk (fun ad e hne => hn ad n c (by rw [e]) hne), h1, h2, h3⟩
theorem Bytes.kept {w w' : World} {v : Value} {xs : List UInt8} (h : Bytes w v xs) (hk : Kept w w') : Bytes w' v xs := h.keep hk (fun _ _ _ _ _ h => h)
/-- a constant's bytes, laid anew -/
theorem bytes_marked (w : World) (xs : List UInt8) (fr : Nat × Nat) (c : Nat) (hc : xs.length ≤ c) (hm : c ≤ 1000000) : Bytes (w.alloc (.cells (cells8 xs).toArray 5 fr)) (.slice (some ⟨w.heap.size, 0, none⟩) xs.length c) xs :=
  ⟨_, _, c, rfl, rfl, r8_marked w xs _ fr, hc, by unfold maxLen; omega, fun h => by cases h⟩
end Go.Proofs.YtholpkaicmckfaaDoor
