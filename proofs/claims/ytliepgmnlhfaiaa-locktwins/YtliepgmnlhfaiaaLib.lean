/-
  Plain helpers: frames of worlds, blocks known whole, slices that read as bytes. No condition.
-/
import Derived.Test.YtliepgmnlhfaiaaRows
import Derived.WalkKit
import Derived.WalkSpells
import Derived.WalkLawsBesides
import Derived.Lib.Hide
import Derived.BigQuiet
import Derived.Deep.QuietTactic
import Derived.Deep.RegionWith
import Derived.Laws.CopyOwn
import Derived.Lib.AppendStr
import Derived.Laws.AppendOwnNone
namespace Go.Proofs.Ytliepgmnlhfaiaa
open Go.RowKit
set_option linter.unusedVariables false
set_option maxRecDepth 100000

theorem ret_bool {a b : Bool} (h : a = b) : Ending.returned (.bool a) = .returned (.bool b) := by rw [h]
theorem ret_int {k : IntKind} {a b : Int} (h : a = b) : Ending.returned (.int k a) = .returned (.int k b) := by rw [h]

/-- all blocks of w but those of S are in w' as they were -/
structure Keep (S : Nat → Prop) (w w' : World) : Prop where
  os : w'.os = w.os
  tape : w'.tape = w.tape
  output : w'.output = w.output
  size : w.heap.size ≤ w'.heap.size
  block : ∀ k, k < w.heap.size → ¬ S k → w'.heap[k]? = w.heap[k]?

/-- no block of w has turned -/
def Kept (w w' : World) : Prop := Keep (fun _ => False) w w'

theorem Keep.refl (S : Nat → Prop) (w : World) : Keep S w w := ⟨rfl, rfl, rfl, Nat.le_refl _, fun _ _ _ => rfl⟩
theorem Keep.trans {S T : Nat → Prop} {a b c : World} (h : Keep S a b) (k : Keep T b c) (hT : ∀ i, i < a.heap.size → T i → S i) : Keep S a c :=
  ⟨k.os.trans h.os, k.tape.trans h.tape, k.output.trans h.output, Nat.le_trans h.size k.size, fun i hi hn =>
    (k.block i (Nat.lt_of_lt_of_le hi h.size) (fun ht => hn (hT i hi ht))).trans (h.block i hi hn)⟩
theorem Keep.mono {S T : Nat → Prop} {a b : World} (h : Keep S a b) (hT : ∀ i, i < a.heap.size → S i → T i) : Keep T a b :=
  ⟨h.os, h.tape, h.output, h.size, fun i hi hn => h.block i hi (fun hs => hn (hT i hi hs))⟩
theorem Keep.drewN {S : Nat → Prop} {a w : World} (h : Keep S a w) (n : Nat) : Keep S a (w.drewN n) := ⟨h.os, h.tape, h.output, h.size, h.block⟩
theorem Keep.drew {S : Nat → Prop} {a w : World} (h : Keep S a w) : Keep S a w.drew := ⟨h.os, h.tape, h.output, h.size, h.block⟩
theorem Keep.undrew {S : Nat → Prop} {a w : World} (h : Keep S a.drew w) : Keep S a w := ⟨h.os, h.tape, h.output, h.size, h.block⟩
theorem Keep.undrewN {S : Nat → Prop} {a w : World} {n : Nat} (h : Keep S (a.drewN n) w) : Keep S a w := ⟨h.os, h.tape, h.output, h.size, h.block⟩
theorem Keep.alloc {S : Nat → Prop} {a w : World} (h : Keep S a w) (o : Obj) : Keep S a (w.alloc o) :=
  ⟨h.os, h.tape, h.output, Nat.le_trans h.size (by simp), fun i hi hn => (Below.heap_alloc w o i (Nat.lt_of_lt_of_le hi h.size)).trans (h.block i hi hn)⟩
theorem Keep.setCell {S : Nat → Prop} {a w : World} (h : Keep S a w) {p : Addr} (hp : p.block < a.heap.size → S p.block) (u : Value) : Keep S a (w.setCell p u) :=
  ⟨h.os, h.tape, h.output, by simpa [World.setCell] using h.size, fun i hi hn => (Below.heap_setCell w p u i (by
    rintro rfl
    exact hn (hp hi))).trans (h.block i hi hn)⟩
theorem Keep.grown {S : Nat → Prop} {a w w' : World} {row : Option Nat} (h : Keep S a w) (hg : w.grownBy w' row) (hr : ∀ k, row = some k → k < a.heap.size → S k) : Keep S a w' :=
  ⟨hg.os.trans h.os, hg.tape.trans h.tape, hg.output.trans h.output, Nat.le_trans h.size hg.size, fun i hi hn =>
    (hg.block i (Nat.lt_of_lt_of_le hi h.size) (fun e => hn (hr i e.symm hi))).trans (h.block i hi hn)⟩
theorem Keep.below {S : Nat → Prop} {a w w' : World} {B : Nat} (h : Keep S a w) (hb : Below B w w') (hB : ∀ k, B ≤ k → k < a.heap.size → S k) : Keep S a w' :=
  ⟨hb.os.trans h.os, hb.tape.trans h.tape, hb.output.trans h.output, Nat.le_trans h.size hb.size, fun i hi hn =>
    (hb.block i (Nat.lt_of_not_le (fun hBi => hn (hB i hBi hi)))).trans (h.block i hi hn)⟩
theorem Kept.refl (w : World) : Kept w w := Keep.refl _ w
theorem Kept.trans {a b c : World} (h : Kept a b) (k : Kept b c) : Kept a c := Keep.trans h k (fun _ _ h => h)
theorem Kept.trans' {a b c : World} {g : Nat} (h : Kept a b) (k : Keep (· = g) b c) (hg : ¬ g < a.heap.size) : Kept a c := Keep.trans h k (fun i hi e => hg (by subst e; exact hi))
theorem Keep.kept {S : Nat → Prop} {a b c : World} (h : Keep S a b) (k : Kept b c) : Keep S a c := h.trans k (fun _ _ h => h.elim)
theorem Keep.cell {S : Nat → Prop} {w w' : World} (h : Keep S w w') {a : Addr} {v : Value} (hc : w.cell? a = some v) (hn : ¬ S a.block) : w'.cell? a = some v := (World.cell?_of_block (w := w) (h.block _ (World.block_lt_of_cell? w a hc) hn)).trans hc
theorem Kept.cell {w w' : World} (h : Kept w w') {a : Addr} {v : Value} (hc : w.cell? a = some v) : w'.cell? a = some v := (World.cell?_of_block (w := w) (h.block _ (World.block_lt_of_cell? w a hc) (fun h => h))).trans hc
theorem Kept.toBelow {w w' : World} (h : Kept w w') : Below w.heap.size w w' := ⟨h.os, h.tape, h.output, h.size, fun k hk => h.block k hk (fun h => h)⟩
theorem Below.toKept {w w' : World} (h : Below w.heap.size w w') : Kept w w' := ⟨h.os, h.tape, h.output, h.size, fun k hk _ => h.block k hk⟩
theorem keep_of_below {B : Nat} {w w' : World} (hb : Below B w w') : Keep (B ≤ ·) w w' := ⟨hb.os, hb.tape, hb.output, hb.size, fun k _ hn => hb.block k (Nat.lt_of_not_le hn)⟩
theorem kept_drewN (w : World) (n : Nat) : Kept w (w.drewN n) := (Keep.refl _ w).drewN n

/-- block g is these cells, none of them frozen -/
def Blk (w : World) (g : Nat) (t : TypeId) (cs : List Value) : Prop := w.heap[g]? = some (.cells cs.toArray t (0, 0))

theorem Blk.lt {w : World} {g : Nat} {t : TypeId} {cs : List Value} (h : Blk w g t cs) : g < w.heap.size := (Array.getElem?_eq_some_iff.1 h).1
theorem Blk.cell {w : World} {g : Nat} {t : TypeId} {cs : List Value} (h : Blk w g t cs) (i : Nat) : w.cell? ⟨g, i, none⟩ = cs[i]? := by
  rw [cell_of_row w g i cs.toArray t (0, 0) h]; simp
theorem Blk.frozen {w : World} {g : Nat} {t : TypeId} {cs : List Value} (h : Blk w g t cs) (i : Nat) : w.frozen? ⟨g, i, none⟩ = false := by
  unfold Blk at h
  simp [World.frozen?, h]
theorem Blk.keep {S : Nat → Prop} {w w' : World} {g : Nat} {t : TypeId} {cs : List Value} (h : Blk w g t cs) (hk : Keep S w w') (hn : ¬ S g) : Blk w' g t cs := (hk.block g h.lt hn).trans h
theorem Blk.kept {w w' : World} {g : Nat} {t : TypeId} {cs : List Value} (h : Blk w g t cs) (hk : Kept w w') : Blk w' g t cs := h.keep hk (fun h => h)
theorem Blk.new (w : World) (t : TypeId) (cs : List Value) : Blk (w.alloc (.cells cs.toArray t)) w.heap.size t cs := heap_alloc_new w _
theorem Blk.alloc {w : World} {g : Nat} {t : TypeId} {cs : List Value} (h : Blk w g t cs) (o : Obj) : Blk (w.alloc o) g t cs := (Below.heap_alloc w o g h.lt).trans h
theorem Blk.drewN {w : World} {g : Nat} {t : TypeId} {cs : List Value} (h : Blk w g t cs) (n : Nat) : Blk (w.drewN n) g t cs := h
theorem Blk.set_ {w : World} {g : Nat} {t : TypeId} {cs : List Value} (h : Blk w g t cs) (i : Nat) (u : Value) : Blk (w.setCell ⟨g, i, none⟩ u) g t (cs.set i u) := by
  unfold Blk at h ⊢
  simp [World.setCell, Array.getElem?_modify, h]
theorem Blk.far {w : World} {g : Nat} {t : TypeId} {cs : List Value} (h : Blk w g t cs) {p : Addr} (hp : g ≠ p.block) (u : Value) : Blk (w.setCell p u) g t cs := (Below.heap_setCell w p u g hp).trans h

/-- the cells of bytes -/
def cells8 (xs : List UInt8) : List Value := xs.map fun x => .int .u8 (x.toNat : Int)
theorem len8 (xs : List UInt8) : (cells8 xs).length = xs.length := by simp [cells8]
theorem cells8_append (xs ys : List UInt8) : cells8 (xs ++ ys) = cells8 xs ++ cells8 ys := by simp [cells8]
theorem cells8_one (xs : List UInt8) : ∀ u ∈ cells8 xs, u.oneCell' = true := by
  intro u hu
  simp only [cells8, List.mem_map] at hu
  obtain ⟨x, _, rfl⟩ := hu
  rfl

/-- a slice value that reads as these bytes -/
def R8 (w : World) (A : Option Addr) (xs : List UInt8) : Prop :=
  ∀ k x, xs[k]? = some x → ∃ ad, A = some ad ∧ w.cell? (ad.add k) = some (.int .u8 (x.toNat : Int))
theorem R8.at_ {w : World} {A : Option Addr} {xs : List UInt8} (h : R8 w A xs) {k : Nat} (hk : k < xs.length) : ∃ ad, A = some ad ∧ w.cell? (ad.add k) = some (.int .u8 (xs[k].toNat : Int)) :=
  h k _ (List.getElem?_eq_getElem hk)
theorem R8.nil (w : World) (A : Option Addr) : R8 w A [] := fun k x h => by simp at h
theorem R8.cells {w : World} {ad : Addr} {xs : List UInt8} (h : R8 w (some ad) xs) : ∀ j v, (cells8 xs)[j]? = some v → w.cell? (ad.add j) = some v := by
  intro j v hv
  simp only [cells8, List.getElem?_map, Option.map_eq_some_iff] at hv
  obtain ⟨x, hx, rfl⟩ := hv
  obtain ⟨ad', e, hc⟩ := h j x hx
  injection e with e
  subst e
  exact hc
theorem block_add (a : Addr) (n : Nat) : (a.add n).block = a.block := by unfold Addr.add; split <;> rfl
theorem add_add (a : Addr) (i j : Nat) : (a.add i).add j = a.add (i + j) := by
  unfold Addr.add
  by_cases hi : i = 0 <;> by_cases hj : j = 0 <;> simp [hi, hj, Nat.add_assoc]
theorem add_lit (g j : Nat) : (⟨g, 0, none⟩ : Addr).add j = ⟨g, j, none⟩ := by unfold Addr.add; split <;> simp_all
theorem R8.keep {S : Nat → Prop} {w w' : World} {A : Option Addr} {xs : List UInt8} (h : R8 w A xs) (hk : Keep S w w') (hn : ∀ ad, A = some ad → xs ≠ [] → ¬ S ad.block) : R8 w' A xs := by
  intro k x hx
  obtain ⟨ad, rfl, hc⟩ := h k x hx
  refine ⟨ad, rfl, ?_⟩
  have hlt := World.block_lt_of_cell? w (ad.add k) hc
  rw [block_add] at hlt
  rw [World.cell?_of_block (w := w) (by rw [block_add]; exact hk.block _ hlt (hn ad rfl (fun e => by rw [e] at hx; simp at hx))), hc]
theorem R8.lt {w : World} {ad : Addr} {xs : List UInt8} (h : R8 w (some ad) xs) (hn : xs ≠ []) : ad.block < w.heap.size := by
  cases xs with
  | nil => exact (hn rfl).elim
  | cons x xs =>
    obtain ⟨ad', e, hc⟩ := h 0 x rfl
    injection e with e
    subst e
    have hlt := World.block_lt_of_cell? w _ hc
    rwa [block_add] at hlt
theorem R8.kept {w w' : World} {A : Option Addr} {xs : List UInt8} (h : R8 w A xs) (hk : Kept w w') : R8 w' A xs := h.keep hk (fun _ _ _ h => h)

/-- block g is a row of capacity c that begins with these bytes -/
def Row8 (w : World) (g c : Nat) (xs : List UInt8) : Prop := ∃ rest : List Value, Blk w g 5 (cells8 xs ++ rest) ∧ xs.length + rest.length = c ∧ c ≤ maxLen
theorem Row8.lt {w : World} {g c : Nat} {xs : List UInt8} (h : Row8 w g c xs) : g < w.heap.size := by obtain ⟨_, h, _⟩ := h; exact h.lt
theorem Row8.le {w : World} {g c : Nat} {xs : List UInt8} (h : Row8 w g c xs) : xs.length ≤ c := by obtain ⟨_, _, h, _⟩ := h; omega
theorem Row8.keep {S : Nat → Prop} {w w' : World} {g c : Nat} {xs : List UInt8} (h : Row8 w g c xs) (hk : Keep S w w') (hn : ¬ S g) : Row8 w' g c xs := by
  obtain ⟨r, h, e⟩ := h
  exact ⟨r, h.keep hk hn, e⟩
theorem Row8.kept {w w' : World} {g c : Nat} {xs : List UInt8} (h : Row8 w g c xs) (hk : Kept w w') : Row8 w' g c xs := h.keep hk (fun h => h)
theorem Row8.r8 {w : World} {g c : Nat} {xs : List UInt8} (h : Row8 w g c xs) : R8 w (some ⟨g, 0, none⟩) xs := by
  obtain ⟨r, h, _⟩ := h
  intro k x hx
  refine ⟨_, rfl, ?_⟩
  rw [add_lit, h.cell, List.getElem?_append_left (by rw [len8]; exact (List.getElem?_eq_some_iff.1 hx).1)]
  simp [cells8, hx]
theorem Row8.own {w : World} {g c base : Nat} {xs : List UInt8} (h : Row8 w g c xs) (hb : base ≤ g) : w.ownsRow base 5 1 (.slice (some ⟨g, 0, none⟩) xs.length c) xs.length (cells8 xs) := by
  obtain ⟨r, h, e, hm⟩ := h
  refine ⟨by simp [len8], .inr ⟨g, c, _, rfl, hb, h, by omega, hm, by simp [len8]; omega, ?_⟩⟩
  simp only [Nat.mul_one]
  rw [← len8]
  simp
theorem Row8.of_own {w : World} {g c n base : Nat} {xs : List UInt8} (h : w.ownsRow base 5 1 (.slice (some ⟨g, 0, none⟩) n c) n (cells8 xs)) : Row8 w g c xs := by
  have hl := h.1
  rw [len8] at hl
  rcases h.2 with ⟨h0, _⟩ | ⟨g', cap, cur, hv, _, hh, h1, h2, h3, h4⟩
  · cases h0
  · injection hv with ha _ hc
    injection ha with ha
    injection ha with hg
    subst hg hc
    refine ⟨cur.toList.drop n, ?_, by simp; omega, h2⟩
    show w.heap[g]? = _
    rw [hh, ← h4]
    simp
theorem info8 : (Try.prog.info? 5).map (fun i => (i.zero, i.size, i.bytes)) = some (some (.int .u8 0), 1, 1) := by kernel_rfl
theorem info8s : (Try.prog.info? 5).map (·.size) = some 1 := by kernel_rfl

theorem blk_made (w : World) (t : TypeId) (z : Value) (n : Nat) : Blk (w.alloc (.cells (madeCells #[z] n) t)) w.heap.size t (List.replicate n z) := by
  have := Blk.new w t (madeCells #[z] n).toList
  rw [Array.toArray_toList] at this
  rw [toList_madeCells_one] at this
  exact this

theorem Row8.of_own_any {w : World} {v : Value} {n base : Nat} {xs : List UInt8} (h : w.ownsRow base 5 1 v n (cells8 xs)) (hn : v = .slice none 0 0 → False) : ∃ g c, v = .slice (some ⟨g, 0, none⟩) n c ∧ base ≤ g ∧ Row8 w g c xs := by
  rcases h.2 with ⟨h0, _⟩ | ⟨g, cap, cur, hv, hb, _⟩
  · exact (hn h0).elim
  · subst hv
    exact ⟨g, cap, rfl, hb, Row8.of_own h⟩

theorem strCells8 (s : ByteArray) : Lib.strCells s = cells8 s.data.toList := rfl

theorem wpList_wanted {P : Program} {ops : Array Oper} {rest : List Oper} {o : Oper} {a : Act} {w : World} {Q : Exit → Act → World → Prop} (hw : Region.wanted o (yielded ops a.tmps) = true)
    (h : ∀ K : Act → World → Prop, (∀ a w, wpList P ops Q rest a w → K a w) → o.wp P a w K Q) : wpList P ops Q (o :: rest) a w := by
  unfold wpList
  rw [if_pos hw]
  exact .inl (h _ (fun _ _ h => h))

theorem wpl_alloc {ops : Array Oper} {rest : List Oper} {o : Oper} {a : Act} {Q : Exit → Act → World → Prop} (w : World) (hg : o.guard = none) (t : TypeId) (hop : o.op = Op.alloc t)
    (z : List Value) (hz : (Try.prog.info? t).map (·.zero) = some (some (.agg z.toArray)))
    (hK : ∀ w', Blk w' w.heap.size t z → w'.heap.size = w.heap.size + 1 → Kept w w' → wpList Try.prog ops Q rest (a.put o.dst (.pointer (some ⟨w.heap.size, 0, none⟩))) w') :
    wpList Try.prog ops Q (o :: rest) a w := by
  refine wpList_plain hg fun K hK' => ?_
  cases hq : Try.prog.info? t with
  | none => simp [hq] at hz
  | some i =>
    have hzz : i.zero = some (.agg z.toArray) := by simpa [hq] using hz
    unfold Oper.wp execOp
    simp only [hop]
    simp [Instr.alloc, zeroValue, typeInfo, hq, hzz, newVar, Value.cells, go_sem]
    exact hK' _ _ (hK _ (Blk.new w t z) (by simp) ((Keep.refl _ w).alloc _))

theorem wpl_load_row {ops : Array Oper} {rest : List Oper} {o : Oper} {a : Act} {Q : Exit → Act → World → Prop} (w : World) (hg : o.guard = none) (ty : TypeId) (x : Operand) (hop : o.op = .load ty x)
    (g : Nat) (hx : a.eval x = .pointer (some ⟨g, 0, none⟩)) (t : TypeId) (cs : List Value) (n : Nat) (e : TypeId) (hb : Blk w g t cs)
    (hu : Try.prog.underlying ty = some (.array n e)) (hi : (Try.prog.info? ty).map (·.size) = some cs.length)
    (h : wpList Try.prog ops Q rest (a.put o.dst (.agg cs.toArray)) w) : wpList Try.prog ops Q (o :: rest) a w :=
  wpList_load_row hg ty x hop g hx t cs.toArray (0, 0) _ hb hu rfl (by simpa using hi) h

theorem wpl_store_row {ops : Array Oper} {rest : List Oper} {o : Oper} {a : Act} {Q : Exit → Act → World → Prop} (w : World) (hg : o.guard = none) (ty : TypeId) (x y : Operand) (hop : o.op = .store ty x y)
    (g : Nat) (cells : List Value) (hx : a.eval x = .pointer (some ⟨g, 0, none⟩)) (hy : a.eval y = .agg cells.toArray)
    (t : TypeId) (old : List Value) (hb : Blk w g t old) (hi : (Try.prog.info? ty).map (·.size) = some cells.length)
    (hold : old.length = cells.length) (h1 : ∀ u ∈ cells, u.oneCell' = true)
    (h : ∀ w', Blk w' g t cells → Keep (· = g) w w' → w'.heap.size = w.heap.size → wpList Try.prog ops Q rest (a.put o.dst undef) w') : wpList Try.prog ops Q (o :: rest) a w := by
  refine wpList_store_row hg ty x y hop g cells.toArray hx hy t old.toArray hb (by simpa using hi) (by simpa using hold) (by simpa using h1) (h _ ?_ ?_ ?_)
  · exact setRow_heap w g _ _ t _ hb
  · exact ⟨rfl, rfl, rfl, by simp [World.setRow], fun k _ hk => setRow_other w g k _ (fun e => hk (by omega))⟩
  · simp [World.setRow]

theorem row8_new (w : World) (xs : List UInt8) (h : xs.length ≤ maxLen) : Row8 (w.alloc (.cells (cells8 xs).toArray 5)) w.heap.size xs.length xs := ⟨[], by rw [List.append_nil]; exact Blk.new w _ _, by simp, h⟩

end Go.Proofs.Ytliepgmnlhfaiaa
