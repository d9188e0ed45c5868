/-
  Structs of ints and a sum behind them (a command, a note), by value and in a block of their own: what operations at them yield. No condition.
-/
import Derived.Test.YtliepgmnlhfaiaaExec
import Derived.Test.YtliepgmnlhfaiaaArr
import Derived.Test.YtliepgmnlhfaiaaFree
import Derived.Great.BuildSlice
import Derived.Laws.StructEq
namespace Go.Proofs.Ytliepgmnlhfaiaa
open Go.RowKit
set_option linter.unusedVariables false
set_option maxRecDepth 100000

def i64s (l : List Int) : List Value := l.map fun x => .int .i64 x
/-- the cells: ints, then bytes -/
def stc (l : List Int) (t : List UInt8) : List Value := i64s l ++ cells8 t
theorem i64s_len (l : List Int) : (i64s l).length = l.length := by simp [i64s]
theorem stc_len (l : List Int) (t : List UInt8) : (stc l t).length = l.length + t.length := by simp [stc, i64s_len, len8]
theorem i64s_one (l : List Int) : ∀ u ∈ i64s l, u.oneCell' = true := by
  intro u hu
  simp only [i64s, List.mem_map] at hu
  obtain ⟨x, _, rfl⟩ := hu
  rfl
theorem stc_one (l : List Int) (t : List UInt8) : ∀ u ∈ stc l t, u.oneCell' = true := by
  intro u hu
  rcases List.mem_append.1 hu with h | h
  · exact i64s_one l u h
  · exact cells8_one t u h
theorem stc_int (l : List Int) (t : List UInt8) (i : Nat) (x : Int) (h : l[i]? = some x) : (stc l t)[i]? = some (.int .i64 x) := by
  have hi := (List.getElem?_eq_some_iff.1 h).1
  unfold stc
  rw [List.getElem?_append_left (by rw [i64s_len]; exact hi)]
  simp [i64s, h]
theorem stc_set (l : List Int) (t : List UInt8) (i : Nat) (x : Int) (h : i < l.length) : (stc l t).set i (.int .i64 x) = stc (l.set i x) t := by
  unfold stc
  rw [List.set_append_left _ _ (by rw [i64s_len]; exact h)]
  simp [i64s, List.map_set]
theorem stc_setByte (l : List Int) (t : List UInt8) (i : Nat) (x : UInt8) : (stc l t).set (l.length + i) (.int .u8 (x.toNat : Int)) = stc l (t.set i x) := by
  unfold stc
  rw [List.set_append_right _ _ (by rw [i64s_len]; omega), i64s_len, show l.length + i - l.length = i by omega]
  simp [cells8, List.map_set]

theorem Blk.fld {w : World} {g : Nat} {T : TypeId} {l : List Int} {t : List UInt8} (h : Blk w g T (stc l t)) (i : Nat) (x : Int) (hi : l[i]? = some x) : w.cell? ⟨g, i, none⟩ = some (.int .i64 x) := (h.cell i).trans (stc_int l t i x hi)
theorem Blk.setFld {w : World} {g : Nat} {T : TypeId} {l : List Int} {t : List UInt8} (h : Blk w g T (stc l t)) (i : Nat) (x : Int) (hi : i < l.length) : Blk (w.setCell ⟨g, i, none⟩ (.int .i64 x)) g T (stc (l.set i x) t) := by
  have := h.set_ i (.int .i64 x)
  rwa [stc_set l t i x hi] at this
theorem Blk.tagAt {w : World} {g : Nat} {T : TypeId} {l : List Int} {t : List UInt8} (h : Blk w g T (stc l t)) (n : Nat) (hn : l.length = n) : w.rangeAt g n (cells8 t) := by
  intro j v hv
  subst hn
  rw [h.cell]
  unfold stc
  rw [List.getElem?_append_right (by rw [i64s_len]; omega), i64s_len, show l.length + j - l.length = j by omega]
  exact hv
theorem Blk.there {w : World} {g : Nat} {T : TypeId} {cs : List Value} (h : Blk w g T cs) (o n : Nat) (hn : o + n ≤ cs.length) : w.there g o n := by
  intro j hj
  refine ⟨?_, h.frozen _⟩
  rw [h.cell, List.getElem?_eq_getElem (by omega)]
  rfl
theorem Blk.setTag {w : World} {g : Nat} {T : TypeId} {l : List Int} {t : List UInt8} (h : Blk w g T (stc l t)) (n : Nat) (hn : l.length = n) (t' : List UInt8) (ht : t'.length = t.length) : Blk (w.setCells g n (cells8 t')) g T (stc l t') ∧ Keep (· = g) w (w.setCells g n (cells8 t')) := by
  subst hn
  have gen : ∀ (cs : List Value) (k : Nat) (u : World) (xs : List Value), Blk u g T xs → k + cs.length ≤ xs.length → Blk (u.setCells g k cs) g T (xs.take k ++ cs ++ xs.drop (k + cs.length)) ∧ Keep (· = g) u (u.setCells g k cs) := by
    intro cs
    induction cs with
    | nil =>
      intro k u xs hx hk
      refine ⟨?_, Keep.refl _ _⟩
      simpa [World.setCells] using hx
    | cons c cs ih =>
      intro k u xs hx hk
      simp only [List.length_cons] at hk
      have h1 := hx.set_ k c
      obtain ⟨h2, k2⟩ := ih (k + 1) _ _ h1 (by simp; omega)
      have e : (xs.set k c).take (k + 1) ++ cs ++ (xs.set k c).drop (k + 1 + cs.length) = xs.take k ++ (c :: cs) ++ xs.drop (k + (c :: cs).length) := by
        rw [List.drop_set_of_lt (by omega), List.take_succ_eq_append_getElem (by simp; omega)]
        simp [List.take_set_of_le, Nat.add_assoc, Nat.add_comm 1]
      rw [e] at h2
      refine ⟨?_, ?_⟩
      · simpa [World.setCells] using h2
      · have k1 : Keep (· = g) u (u.setCell ⟨g, k, none⟩ c) := Keep.setCell (Keep.refl (· = g) u) (fun _ => rfl) _
        have := k1.trans k2 (fun _ _ h => h)
        simpa [World.setCells] using this
  have hl : l.length + (cells8 t').length ≤ (stc l t).length := by rw [stc_len, len8, ht]; omega
  obtain ⟨h1, k1⟩ := gen (cells8 t') l.length w _ h hl
  refine ⟨?_, k1⟩
  have e : (stc l t).take l.length ++ cells8 t' ++ (stc l t).drop (l.length + (cells8 t').length) = stc l t' := by
    unfold stc
    rw [List.take_append_of_le_length (by rw [i64s_len]; omega), List.take_of_length_le (by rw [i64s_len]; omega), List.drop_of_length_le (by rw [List.length_append, i64s_len, len8, len8, ht]; omega), List.append_nil]
  rw [e] at h1
  exact h1

/-- is field i of struct t at this place -/
def fldB (P : Program) (t : TypeId) (i off : Nat) : Bool := match P.underlying t with
  | some (.struct fs) => match fs[i]? with
    | some f => f.offset == off && (match P.info? f.type with | some inf => inf.size != 0 | none => false)
    | none => false
  | _ => false

section
variable {a : Act} {o : Oper} {u : World}
theorem exec_fld (t : TypeId) (i off : Nat) (x : Operand) (g : Nat) (hop : o.op = .fieldAddr t x i) (hx : a.eval x = .pointer (some ⟨g, 0, none⟩)) (hB : fldB Try.prog t i off = true) :
    (execOp a.eval o).run Try.prog u = .ok (.value (.pointer (some ⟨g, off, none⟩))) u := by
  unfold fldB at hB
  cases hu : Try.prog.underlying t with
  | none => rw [hu] at hB; cases hB
  | some d =>
    rw [hu] at hB
    cases d <;> try (cases hB; done)
    rename_i fs
    simp only at hB
    cases hf : fs[i]? with
    | none => rw [hf] at hB; cases hB
    | some f =>
      rw [hf] at hB
      simp only at hB
      cases hi : Try.prog.info? f.type with
      | none => rw [hi] at hB; simp at hB
      | some inf =>
        rw [hi] at hB
        simp only [Bool.and_eq_true, beq_iff_eq, bne_iff_ne] at hB
        obtain ⟨h1, h2⟩ := hB
        unfold execOp
        simp only [hop, hx]
        simp [Instr.fieldAt, run_underlying hu, hf, Sem.run_bind, Instr.sureAddr, fieldPlace, sizeOf, typeInfo, hi, h2, h1, Addr.add_mid]
theorem exec_loadi (t : TypeId) (hu : Try.prog.underlying t = some (.int .i64)) (x : Operand) (ad : Addr) (v : Value) (hop : o.op = .load t x) (hx : a.eval x = .pointer (some ad)) (hc : u.cell? ad = some v) :
    (execOp a.eval o).run Try.prog u = .ok (.value v) u := by
  unfold execOp
  simp only [hop, hx, Instr.loadAt, Instr.sureAddr, Sem.run_bind, Sem.run_pure, Result.andThen_ok]
  simp [loadVar, isAgg, run_underlying hu, Sem.run_bind, hc, go_sem]
/-- a whole struct -/
theorem exec_loadS (ty : TypeId) (x : Operand) (g : Nat) (t : TypeId) (cs : List Value) (fs : Array Field) (hop : o.op = .load ty x) (hx : a.eval x = .pointer (some ⟨g, 0, none⟩)) (hb : Blk u g t cs)
    (hu : Try.prog.underlying ty = some (.struct fs)) (hi : (Try.prog.info? ty).map (·.size) = some cs.length) : (execOp a.eval o).run Try.prog u = .ok (.value (.agg cs.toArray)) u := by
  unfold execOp
  simp only [hop, hx, Instr.loadAt, Instr.sureAddr, Sem.run_bind, Sem.run_pure, Result.andThen_ok, run_loadVar_row u g t ty cs.toArray (0, 0) _ hb hu rfl (by simpa using hi)]
/-- an array within a block -/
theorem exec_loadT (ty : TypeId) (x : Operand) (b of : Nat) (cs : List Value) (n : Nat) (e : TypeId) (hop : o.op = .load ty x) (hx : a.eval x = .pointer (some ⟨b, of, none⟩)) (hc : u.rangeAt b of cs)
    (hu : Try.prog.underlying ty = some (.array n e)) (hi : (Try.prog.info? ty).map (·.size) = some cs.length) : (execOp a.eval o).run Try.prog u = .ok (.value (.agg cs.toArray)) u := by
  unfold execOp
  simp only [hop, hx, Instr.loadAt, Instr.sureAddr, Sem.run_bind, Sem.run_pure, Result.andThen_ok, run_loadVar_mid u b of ty cs _ hc hu rfl hi]
theorem exec_box (t : TypeId) (x : Operand) (cs : List Value) (hop : o.op = .box t x) (hx : a.eval x = .agg cs.toArray) : (execOp a.eval o).run Try.prog u = .ok (.value (.pointer (some ⟨u.heap.size, 0, none⟩))) (u.alloc (.cells cs.toArray t)) := by
  unfold execOp
  simp only [hop, hx]
  simp [Instr.box, newVar, Value.cells, go_sem]
theorem exec_build (t : TypeId) (parts : List (Nat × Operand)) (cs : List Value) (hop : o.op = .build t parts.toArray) (h : Try.prog.built t (parts.map fun (i, x) => (i, a.eval x)) = some cs.toArray) : (execOp a.eval o).run Try.prog u = .ok (.value (.agg cs.toArray)) u := by
  unfold execOp
  have h' : Try.prog.built t (parts.toArray.map fun (i, x) => (i, a.eval x)).toList = some cs.toArray := by rw [Array.toList_map]; exact h
  simp only [hop, Sem.run_bind, run_build u t _ _ h', Result.andThen_ok]
  rfl
theorem exec_extract (x : Operand) (vs : List Value) (i : Nat) (v : Value) (hop : o.op = .extract x i) (hx : a.eval x = .tuple vs.toArray) (hi : vs[i]? = some v) : (execOp a.eval o).run Try.prog u = .ok (.value v) u := by
  unfold execOp
  simp only [hop, hx]
  have : vs.toArray[i]? = some v := by simpa using hi
  simp [Instr.extract, this]
theorem exec_to32 (x : Operand) (p r : Int) (hop : o.op = .convert 3 53 x) (hx : a.eval x = .int .i64 p) (hr : p % 4294967296 = r) : (execOp a.eval o).run Try.prog u = .ok (.value (.int .u32 r)) u := by
  subst hr
  unfold execOp
  simp only [hop, hx]
  have hw : IntKind.u32.wrap p = p % 4294967296 := by rw [IntKind.wrap_u32']
  simp [go_sem, hw]
/-- []int{..} -/
theorem exec_ints (n : Nat) (parts : List (Nat × Operand)) (l : List Int) (hop : o.op = .buildSlice 40 n parts.toArray) (hn : l.length = n) (h0 : 0 < n) (h1 : n ≤ 100)
    (hp : (parts.map fun (i, x) => (i, a.eval x)) = ((i64s l).zipIdx 0).map fun x => (x.2, x.1)) : (execOp a.eval o).run Try.prog u = .ok (.value (.slice (some ⟨u.heap.size, 0, none⟩) n n)) (u.alloc (.cells (i64s l).toArray 3)) := by
  have hinfo : (Try.prog.info? 3).map (fun i => (i.zero, i.size)) = some (some (.int .i64 0), 1) := by kernel_rfl
  cases hq : Try.prog.info? 3 with
  | none => simp [hq] at hinfo
  | some ie =>
    have h2 : ie.zero = some (.int .i64 0) ∧ ie.size = 1 := by simpa [hq] using hinfo
    have hr := run_buildSlice (P := Try.prog) u 40 3 n (parts.toArray.map fun (i, x) => (i, a.eval x)) (i64s l).toArray ie (.int .i64 0) Try.underlying40 hq h2.1 (by rw [h2.2]; omega) (by rw [h2.2]; omega) (by
      rw [Array.toList_map, hp, h2.2]
      exact Great.fill_flat _ _ (fun v hv => by simp only [i64s, List.mem_map] at hv; obtain ⟨m, _, rfl⟩ := hv; rfl) (by simp [i64s_len, hn]))
    unfold execOp
    simp only [hop, Sem.run_bind, hr, Result.andThen_ok]
    rfl
end

/-- a slice of ints of its own -/
def IntsV (w : World) (v : Value) (l : List Int) : Prop := ∃ g n, v = .slice (some ⟨g, 0, none⟩) n n ∧ l.length = n ∧ Blk w g 3 (i64s l)
theorem IntsV.kept {w w' : World} {v : Value} {l : List Int} (h : IntsV w v l) (hk : Kept w w') : IntsV w' v l := by
  obtain ⟨g, n, e, hn, hb⟩ := h
  exact ⟨g, n, e, hn, hb.kept hk⟩
def Kn.ints (l : List Int) : Kn := ⟨fun v w => IntsV w v l, fun _ _ _ h hk => h.kept hk⟩
theorem ints_new (u : World) (l : List Int) (n : Nat) (hn : l.length = n) : IntsV (u.alloc (.cells (i64s l).toArray 3)) (.slice (some ⟨u.heap.size, 0, none⟩) n n) l := ⟨_, n, rfl, hn, Blk.new u _ _⟩
/-- a slice of bytes that is nil or lies at or behind base -/
def OwnV (base : Nat) (w : World) (v : Value) (xs : List UInt8) : Prop := ∃ A n c, v = .slice A n c ∧ Own8 w base A n c xs
theorem OwnV.kept {base : Nat} {w w' : World} {v : Value} {xs : List UInt8} (h : OwnV base w v xs) (hk : Kept w w') : OwnV base w' v xs := by
  obtain ⟨A, n, c, e, h⟩ := h
  exact ⟨A, n, c, e, h.kept hk⟩
theorem OwnV.bytes {base : Nat} {w : World} {v : Value} {xs : List UInt8} (h : OwnV base w v xs) : Bytes w v xs := by
  obtain ⟨A, n, c, rfl, h⟩ := h
  exact ⟨A, n, c, rfl, h.len, h.r8, h.cap.1, h.cap.2.1, h.cap.2.2⟩
theorem OwnV.nil (base : Nat) (w : World) : OwnV base w (.slice none 0 0) [] := ⟨none, 0, 0, rfl, Own8.nil _ _⟩
theorem OwnV.of_row {base : Nat} {w : World} {g n c : Nat} {xs : List UInt8} (h : Row8 w g c xs) (hb : base ≤ g) (hn : xs.length = n) : OwnV base w (.slice (some ⟨g, 0, none⟩) n c) xs := ⟨_, n, c, rfl, .inr ⟨g, rfl, hb, hn, h⟩⟩
theorem OwnV.low {base base' : Nat} {w : World} {v : Value} {xs : List UInt8} (h : OwnV base w v xs) (hb : base' ≤ base) : OwnV base' w v xs := by
  obtain ⟨A, n, c, e, h⟩ := h
  rcases h with h | ⟨g, e1, h1, h2, h3⟩
  · exact ⟨A, n, c, e, .inl h⟩
  · exact ⟨A, n, c, e, .inr ⟨g, e1, Nat.le_trans hb h1, h2, h3⟩⟩
def Kn.own (base : Nat) (xs : List UInt8) : Kn := ⟨fun v w => OwnV base w v xs, fun _ _ _ h hk => h.kept hk⟩
def Kn.bytes (xs : List UInt8) : Kn := ⟨fun v w => Bytes w v xs, fun _ _ _ h hk => h.kept hk⟩
/-- what a call gives -/
def Gives (f : Nat) (args : Array Value) (w : World) (K : Kn) : Prop := Calls Try.prog f args w fun e w' => ∃ v, e = .returned v ∧ K.p v w' ∧ Kept w w'
theorem gives_eq {f : Nat} {args : Array Value} {w : World} {c : Value} (h : Calls Try.prog f args w fun e w' => e = .returned c ∧ Kept w w') : Gives f args w (.eq c) := h.mono fun e w' ⟨he, hk⟩ => ⟨c, he, rfl, hk⟩
end Go.Proofs.Ytliepgmnlhfaiaa
