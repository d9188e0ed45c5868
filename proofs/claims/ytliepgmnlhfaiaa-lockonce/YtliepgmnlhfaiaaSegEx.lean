/-
  Entries and Hits (an order and a number), rows of them and of orders; what operations at them yield. No condition.
-/
import Derived.Test.YtliepgmnlhfaiaaSegOp
namespace Go.Proofs.Ytliepgmnlhfaiaa
open Go.RowKit
set_option linter.unusedVariables false
set_option maxRecDepth 100000

/-- an order and a number: an entry of a level, a Hit -/
structure Ent where
  o : Ord
  n : Int
deriving DecidableEq
def Ent.l (e : Ent) : List Int := [e.o.tr, e.o.id, e.o.firm, e.o.side, e.o.k, e.o.price, e.o.qty, e.o.shw, e.o.stop, e.n]
def Ent.cells (e : Ent) : List Value := stc e.l []
def Ent.v (e : Ent) : Value := .agg e.cells.toArray
theorem Ent.len10 (e : Ent) : e.cells.length = 10 := by unfold Ent.cells; rw [stc_len]; rfl
theorem Ord.len9 (o : Ord) : o.cells.length = 9 := o.cells_len trivial
theorem Ent.one (e : Ent) : ∀ u ∈ e.cells, u.oneCell' = true := stc_one _ _
theorem Ord.one1 (c : Ord) : ∀ u ∈ c.cells, u.oneCell' = true := stc_one _ _
theorem Ent.ext_l {c d : Ent} (h : c.l = d.l) : c = d := by
  obtain ⟨⟨_, _, _, _, _, _, _, _, _⟩, _⟩ := c
  obtain ⟨⟨_, _, _, _, _, _, _, _, _⟩, _⟩ := d
  simp only [Ent.l, List.cons.injEq] at h
  simp_all
def ents (X : List Ent) : List Value := X.flatMap Ent.cells
def ords (X : List Ord) : List Value := X.flatMap Ord.cells
theorem ents_len (X : List Ent) : (ents X).length = X.length * 10 := flat_len _ 10 Ent.len10 X
theorem ords_len (X : List Ord) : (ords X).length = X.length * 9 := flat_len _ 9 Ord.len9 X
theorem ents_one (X : List Ent) : ∀ u ∈ ents X, u.oneCell' = true := by
  intro u hu
  obtain ⟨x, _, h⟩ := List.mem_flatMap.1 hu
  exact x.one u h
theorem ords_one (X : List Ord) : ∀ u ∈ ords X, u.oneCell' = true := by
  intro u hu
  obtain ⟨x, _, h⟩ := List.mem_flatMap.1 hu
  exact x.one1 u h
theorem ents_snoc (X : List Ent) (e : Ent) : ents (X ++ [e]) = ents X ++ e.cells := by simp [ents]
theorem ords_snoc (X : List Ord) (e : Ord) : ords (X ++ [e]) = ords X ++ e.cells := by simp [ords]

def zeroE : Ent := ⟨⟨0, 0, 0, 0, 0, 0, 0, 0, 0⟩, 0⟩
def zeroO : Ord := ⟨0, 0, 0, 0, 0, 0, 0, 0, 0⟩
/-- known: a new block -/
def Kn.fresh (base : Nat) (T : TypeId) (z : List Value) : Kn := ⟨fun v w => ∃ g, v = .pointer (some ⟨g, 0, none⟩) ∧ base ≤ g ∧ Blk w g T z, fun _ _ _ ⟨g, h1, h2, h3⟩ hk => ⟨g, h1, h2, h3.kept hk⟩⟩
/-- known: a slice at or behind base -/
def Kn.sl (base : Nat) (T : TypeId) (k n : Nat) (cs : List Value) : Kn := ⟨fun v w => Sl w T k v n cs ∧ ∀ b, v.ownBlock = some b → base ≤ b, fun _ _ _ h hk => ⟨h.1.kept hk, h.2⟩⟩

theorem fold_setS (l : List Value) : ∀ (k : Nat) (pre suf : List Value), pre.length = k → suf.length = l.length →
    (l.zipIdx k).foldl (fun (cs : Array Value) (x : Value × Nat) => cs.setIfInBounds x.2 x.1) (pre ++ suf).toArray = (pre ++ l).toArray := by
  induction l with
  | nil =>
    intro k pre suf h1 h2
    have : suf = [] := List.eq_nil_of_length_eq_zero (by simpa using h2)
    subst this
    rfl
  | cons v l ih =>
    intro k pre suf h1 h2
    cases suf with
    | nil => simp at h2
    | cons s suf =>
      rw [List.zipIdx_cons, List.foldl_cons]
      have e : (pre ++ s :: suf).toArray.setIfInBounds k v = ((pre ++ [v]) ++ suf).toArray := by
        simp [List.set_append_right _ _ (show pre.length ≤ k by omega), h1]
      show List.foldl _ ((pre ++ s :: suf).toArray.setIfInBounds k v) _ = _
      rw [e, ih (k + 1) (pre ++ [v]) suf (by simp [h1]) (by simpa using h2)]
      simp
section
variable {a : Act} {o : Oper} {u : World}
theorem exec_nilp (x : Operand) (ad : Addr) (hop : o.op = .nilCheck x) (hx : a.eval x = .pointer (some ad)) : (execOp a.eval o).run Try.prog u = .ok (.value (.pointer (some ad))) u := by
  unfold execOp
  simp only [hop, hx]
  simp [go_sem]
theorem exec_fldo (t : TypeId) (i fo : Nat) (x : Operand) (g off off' : Nat) (hop : o.op = .fieldAddr t x i) (hx : a.eval x = .pointer (some ⟨g, off, none⟩)) (hB : fldB Try.prog t i fo = true) (he : off + fo = off') :
    (execOp a.eval o).run Try.prog u = .ok (.value (.pointer (some ⟨g, off', none⟩))) u := by
  subst he
  unfold fldB at hB
  cases hu : Try.prog.underlying t with
  | none => rw [hu] at hB; cases hB
  | some d =>
    rw [hu] at hB
    cases d <;> try (cases hB; done)
    rename_i fs
    simp only at hB
    cases hf : fs[i]? with
    | none => rw [hf] at hB; cases hB
    | some f =>
      rw [hf] at hB
      simp only at hB
      cases hi : Try.prog.info? f.type with
      | none => rw [hi] at hB; simp at hB
      | some inf =>
        rw [hi] at hB
        simp only [Bool.and_eq_true, beq_iff_eq, bne_iff_ne] at hB
        obtain ⟨h1, h2⟩ := hB
        unfold execOp
        simp only [hop, hx]
        simp [Instr.fieldAt, run_underlying hu, hf, Sem.run_bind, Instr.sureAddr, fieldPlace, sizeOf, typeInfo, hi, h2, h1, Addr.add_mid]
theorem exec_ixo {t T : TypeId} {k bytes : Nat} (ht : SlT t T k bytes) (x y : Operand) (g off n c i off' : Nat) (I : Int) (hop : o.op = .indexAddr t x y) (hx : a.eval x = .slice (some ⟨g, off, none⟩) n c) (hy : a.eval y = .int .i64 I) (hI : I = (i : Int)) (hi : i < n) (he : off + i * k = off') :
    (execOp a.eval o).run Try.prog u = .ok (.value (.pointer (some ⟨g, off', none⟩))) u := by
  subst he hI
  obtain ⟨z, hz, _, _⟩ := ht.info
  obtain ⟨i0, hi0, _, hz1, _⟩ := info_parts hz
  have hin : (0 : Int) ≤ (i : Int) ∧ (i : Int) < (n : Int) := by omega
  unfold execOp
  simp only [hop, hx, hy]
  simp [Instr.indexAt, asIntOf, run_underlying ht.und, Sem.run_bind, sizeOf, typeInfo, hi0, hz1, Addr.add_mid, hi, Instr.sureAddr]
theorem exec_ldv (t e : TypeId) (hu : Try.prog.underlying t = some (.slice e)) (x : Operand) (ad : Addr) (v : Value) (hop : o.op = .load t x) (hx : a.eval x = .pointer (some ad)) (hc : u.cell? ad = some v) :
    (execOp a.eval o).run Try.prog u = .ok (.value v) u := by
  unfold execOp
  simp only [hop, hx, Instr.loadAt, Instr.sureAddr, Sem.run_bind, Sem.run_pure, Result.andThen_ok]
  simp [loadVar, isAgg, run_underlying hu, Sem.run_bind, hc, go_sem]
theorem exec_ldS (ty : TypeId) (fs : Array Field) (x : Operand) (b of : Nat) (cs : List Value) (hop : o.op = .load ty x) (hx : a.eval x = .pointer (some ⟨b, of, none⟩)) (hc : u.rangeAt b of cs)
    (hu : Try.prog.underlying ty = some (.struct fs)) (hi : (Try.prog.info? ty).map (·.size) = some cs.length) : (execOp a.eval o).run Try.prog u = .ok (.value (.agg cs.toArray)) u := by
  unfold execOp
  simp only [hop, hx, Instr.loadAt, Instr.sureAddr, Sem.run_bind, Sem.run_pure, Result.andThen_ok, run_loadVar_mid u b of ty cs _ hc hu rfl hi]
theorem exec_lenS (x : Operand) {t T : TypeId} {k bytes : Nat} (ht : SlT t T k bytes) (v : Value) (n : Nat) (cs : List Value) (w : World) (hop : o.op = .call { callee := .builtin .len, args := #[x], argTypes := #[t] }) (hx : a.eval x = v) (hv : Sl w T k v n cs) : (execOp a.eval o).run Try.prog u = .ok (.value (.int .i64 (n : Int))) u := by
  obtain ⟨_, A, c, rfl, _⟩ := hv
  exact exec_len x t T ht.und A n c hop hx
theorem exec_appS {t T : TypeId} {k bytes : Nat} (ht : SlT t T k bytes) (s x : Operand) (v y : Value) (hop : o.op = Op.call { callee := Callee.builtin Builtin.append, args := #[s, x], argTypes := #[t, t] }) (hs : a.eval s = v) (hx : a.eval x = y) (v' : Value) (u' : World)
    (h : (Builtin.append_ #[t, t] o.type #[v, y]).run Try.prog u = .ok v' u') : (execOp a.eval o).run Try.prog u = .ok (.value v') u' := by
  unfold execOp
  simp only [hop, resolve, invoke, builtin, Sem.run_bind, Sem.run_pure, Result.andThen_ok, List.map_toArray, List.map_cons, List.map_nil, hs, hx, h]
theorem exec_slcS {t T : TypeId} {k bytes : Nat} (ht : SlT t T k bytes) (x : Operand) (lo hi mx : Option Operand) (v vr : Value) (hop : o.op = .slice t x lo hi mx) (hx : a.eval x = v) (h : (Instr.slice t v (lo.map a.eval) (hi.map a.eval) (mx.map a.eval)).run Try.prog u = .ok vr u) : (execOp a.eval o).run Try.prog u = .ok (.value vr) u := by
  unfold execOp
  simp only [hop, hx, Sem.run_bind]
  have he : Try.prog.underlying t = some (.slice (Try.prog.elem t)) := by rw [ht.elem]; exact ht.und
  rw [run_sliceAt_slice (h := he), h]
  rfl
theorem exec_alc (t : TypeId) (z : List Value) (hop : o.op = .alloc t) (hz : (Try.prog.info? t).map (·.zero) = some (some (.agg z.toArray))) : (execOp a.eval o).run Try.prog u = .ok (.value (.pointer (some ⟨u.heap.size, 0, none⟩))) (u.alloc (.cells z.toArray t)) := by
  cases hq : Try.prog.info? t with
  | none => simp [hq] at hz
  | some i =>
    have hzz : i.zero = some (.agg z.toArray) := by simpa [hq] using hz
    unfold execOp
    simp only [hop]
    simp [Instr.alloc, zeroValue, typeInfo, hq, hzz, newVar, Value.cells, go_sem]
/-- []T{v}, v a struct -/
theorem exec_oneS {t T : TypeId} {k bytes : Nat} (ht : SlT t T k bytes) (x : Operand) (cs : List Value) (hk1 : k ≤ 1000) (hop : o.op = .buildSlice t 1 #[(0, x)]) (hx : a.eval x = .agg cs.toArray) (hl : cs.length = k) :
    (execOp a.eval o).run Try.prog u = .ok (.value (.slice (some ⟨u.heap.size, 0, none⟩) 1 1)) (u.alloc (.cells cs.toArray T)) := by
  obtain ⟨z, hz, hz2, _⟩ := ht.info
  obtain ⟨i0, hi0, hz0, hz1, _⟩ := info_parts hz
  have hp := ht.pos
  have hf := fold_setS cs 0 [] (List.map (fun j => z.cells[j % z.cells.size]!) (List.range k)) rfl (by simp [hl])
  unfold execOp
  simp only [hop, List.map_toArray, List.map_cons, List.map_nil, hx]
  have hn : ¬ k = 0 := by omega
  have hc : (Value.agg cs.toArray).cells = cs.toArray := rfl
  have hb : ¬ 16777216 < k := by omega
  simp [Instr.buildSlice, run_underlying ht.und, sizeOf, typeInfo, hi0, hz0, hz1, zeroValue, Instr.fill, newRow, hc, hl, hn, hb]
  have e : Array.map (fun x => z.cells[x % z.cells.size]!) (Array.range k) = (List.map (fun j => z.cells[j % z.cells.size]!) (List.range k)).toArray := by
    apply Array.toList_inj.1
    simp
  rw [e]
  simp only [List.nil_append] at hf
  rw [hf]
end
end Go.Proofs.Ytliepgmnlhfaiaa
