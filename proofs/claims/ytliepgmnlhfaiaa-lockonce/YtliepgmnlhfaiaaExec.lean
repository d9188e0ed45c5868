/-
  What single operations yield, in whatever world, as equations on their run. No condition.
-/
import Derived.Test.YtliepgmnlhfaiaaRec0
import Derived.Test.YtliepgmnlhfaiaaSched
import Derived.Test.YtliepgmnlhfaiaaOwn8
import Derived.Test.YtliepgmnlhfaiaaXor8
namespace Go.Proofs.Ytliepgmnlhfaiaa
open Go.RowKit
set_option linter.unusedVariables false
set_option maxRecDepth 100000

section
variable {a : Act} {o : Oper} {u : World}
theorem exec_pickF (c x y : Operand) (v : Value) (hop : o.op = .pick c x y) (hc : a.eval c = .bool false) (hy : a.eval y = v) : (execOp a.eval o).run Try.prog u = .ok (.value v) u := by
  unfold execOp
  simp only [hop, hc, hy]
  simp [go_sem]
theorem exec_len (x : Operand) (t e : TypeId) (ht : Try.prog.underlying t = some (.slice e)) (A : Option Addr) (n c : Nat) (hop : o.op = .call { callee := .builtin .len, args := #[x], argTypes := #[t] }) (hx : a.eval x = .slice A n c) : (execOp a.eval o).run Try.prog u = .ok (.value (.int .i64 (n : Int))) u := by
  unfold execOp
  simp only [hop, resolve, invoke, builtin, Sem.run_bind, Sem.run_pure, Result.andThen_ok, List.map_toArray, List.map_cons, List.map_nil, hx]
  simp [Builtin.len_, run_underlying ht, go_sem]
theorem exec_not (t : TypeId) (x : Operand) (b : Bool) (hop : o.op = .unOp .not t x) (hx : a.eval x = .bool b) : (execOp a.eval o).run Try.prog u = .ok (.value (.bool (!b))) u := by
  unfold execOp
  simp only [hop, hx]
  simp [go_sem]
/-- comparisons of ints -/
theorem exec_eqi (x y : Operand) (t' : TypeId) (p q : Int) (b : Bool) (hop : o.op = .binOp .eql 3 x y t') (hx : a.eval x = .int .i64 p) (hy : a.eval y = .int .i64 q) (hb : (p == q) = b) : (execOp a.eval o).run Try.prog u = .ok (.value (.bool b)) u := by
  subst hb
  unfold execOp
  simp only [hop, hx, hy]
  simp [go_sem]
theorem exec_neqi (x y : Operand) (t' : TypeId) (p q : Int) (b : Bool) (hop : o.op = .binOp .neq 3 x y t') (hx : a.eval x = .int .i64 p) (hy : a.eval y = .int .i64 q) (hb : (p != q) = b) : (execOp a.eval o).run Try.prog u = .ok (.value (.bool b)) u := by
  subst hb
  unfold execOp
  simp only [hop, hx, hy]
  simp [go_sem]
theorem exec_subi (x y : Operand) (t' : TypeId) (p q r : Int) (hop : o.op = .binOp .sub 3 x y t') (hx : a.eval x = .int .i64 p) (hy : a.eval y = .int .i64 q) (hr : p - q = r) (h0 : -9223372036854775808 ≤ r) (h1 : r ≤ 9223372036854775807) : (execOp a.eval o).run Try.prog u = .ok (.value (.int .i64 r)) u := by
  subst hr
  unfold execOp
  simp only [hop, hx, hy]
  have hw : IntKind.i64.wrap (p - q) = p - q := by rw [IntKind.wrap_i64]; omega
  simp [go_sem, hw]
/-- x[:h] of a slice -/
theorem exec_upto (t e : TypeId) (k : Nat) (x y : Operand) (A : Option Addr) (n c m : Nat) (hop : o.op = .slice t x none (some y) none) (ht : Try.prog.underlying t = some (.slice e)) (hk : (Try.prog.info? e).map (·.size) = some k) (hx : a.eval x = .slice A n c) (hy : a.eval y = .int .i64 (m : Int)) (hm : m ≤ c) : (execOp a.eval o).run Try.prog u = .ok (.value (.slice A m c)) u := by
  unfold execOp
  simp only [hop, hx, Option.map_some, Option.map_none, hy]
  have he : Try.prog.elem t = e := by simp [Program.elem, ht]
  have h := run_slice_h (P := Try.prog) (w := u) t A n c (by rw [he]; exact ht) .i64 (m : Int) (by omega) (by omega)
  cases hq : Try.prog.info? e with
  | none => simp [hq] at hk
  | some t0 =>
    simp [Instr.sliceAt, run_underlying ht, Sem.run_bind, h, he, sizeOf, typeInfo, hq, sliced, Addr.add]
theorem exec_and31 (x : Operand) (t' : TypeId) (p : Int) (r : Nat) (hop : o.op = .binOp .and 3 x (.const (.int .i64 31)) t') (hx : a.eval x = .int .i64 p) (hr : p % 32 = (r : Int)) : (execOp a.eval o).run Try.prog u = .ok (.value (.int .i64 (r : Int))) u := by
  have he : a.eval (.const (.int .i64 31)) = .int .i64 31 := rfl
  unfold execOp
  simp only [hop, hx, he]
  simp [go_sem, i64_and31, hr]
theorem exec_xor8 (x y : Operand) (t' : TypeId) (p q : UInt8) (hop : o.op = .binOp .xor 5 x y t') (hx : a.eval x = .int .u8 (p.toNat : Int)) (hy : a.eval y = .int .u8 (q.toNat : Int)) : (execOp a.eval o).run Try.prog u = .ok (.value (.int .u8 ((p ^^^ q).toNat : Int))) u := by
  unfold execOp
  simp only [hop, hx, hy]
  simp only [binOp, ← xor8]
  simp [go_sem]
/-- an element's address of an array by its pointer -/
theorem exec_elem (t e : TypeId) (n k : Nat) (x y : Operand) (b of i : Nat) (hop : o.op = .indexAddr t x y) (ht : Try.prog.underlying t = some (.array n e)) (hk : (Try.prog.info? e).map (·.size) = some k)
    (hx : a.eval x = .pointer (some ⟨b, of, none⟩)) (hy : a.eval y = .int .i64 (i : Int)) (hi : i < n) : (execOp a.eval o).run Try.prog u = .ok (.value (.pointer (some ⟨b, of + i * k, none⟩))) u := by
  have hin : (0 : Int) ≤ (i : Int) ∧ (i : Int) < (n : Int) := by omega
  cases hq : Try.prog.info? e with
  | none => simp [hq] at hk
  | some t0 =>
    have hs : t0.size = k := by simpa [hq] using hk
    unfold execOp
    simp only [hop, hx, hy]
    simp [Instr.indexAt, asIntOf, run_underlying ht, Sem.run_bind, sizeOf, typeInfo, hq, hs, Addr.add_mid, hi, Instr.sureAddr]
theorem exec_load8 (x : Operand) (ad : Addr) (v : Value) (hop : o.op = .load 5 x) (hx : a.eval x = .pointer (some ad)) (hc : u.cell? ad = some v) :
    (execOp a.eval o).run Try.prog u = .ok (.value v) u := by
  unfold execOp
  simp only [hop, hx, Instr.loadAt, Instr.sureAddr, Sem.run_bind, Sem.run_pure, Result.andThen_ok]
  have hu : Try.prog.underlying 5 = some (.int .u8) := Try.underlying5
  simp [loadVar, isAgg, run_underlying hu, Sem.run_bind, hc, go_sem]
/-- one cell stored -/
theorem exec_store1 (ty : TypeId) (x y : Operand) (b of : Nat) (v : Value) (hop : o.op = .store ty x y) (hi : (Try.prog.info? ty).map (·.size) = some 1) (hx : a.eval x = .pointer (some ⟨b, of, none⟩)) (hy : a.eval y = v) (hv : v.cells = #[v]) (h1 : v.oneCell' = true) (ht : u.there b of 1) :
    (execOp a.eval o).run Try.prog u = .ok .skip (u.setCell ⟨b, of, none⟩ v) := by
  have h := run_storeCells_cells (P := Try.prog) b of [v] 0 u (fun j hj => by simpa using (ht j (by simpa using hj)).1) (fun j hj => by simpa using (ht j (by simpa using hj)).2) (fun w hw => by simp at hw; subst hw; exact h1)
  cases hq : Try.prog.info? ty with
  | none => simp [hq] at hi
  | some i =>
    have hs : i.size = 1 := by simpa [hq] using hi
    simp only [Nat.add_zero] at h
    unfold execOp
    simp only [hop, hx, hy, Instr.storeAt, Instr.sureAddr, Sem.run_bind, Sem.run_pure, Result.andThen_ok]
    simp [storeVar, sizeOf, typeInfo, hq, hv, hs, h, World.setCells]
theorem wpl_skip {ops : Array Oper} {rest : List Oper} {Q : Exit → Act → World → Prop} (w' : World) (hg : o.guard = none) (h : (execOp a.eval o).run Try.prog u = .ok .skip w') (hK : wpList Try.prog ops Q rest (a.put o.dst undef) w') : wpList Try.prog ops Q (o :: rest) a u :=
  wpList_plain hg fun K hK' => by
    unfold Oper.wp
    rw [h]
    exact hK' _ _ hK
theorem exec_min (x y : Operand) (ts : Array TypeId) (p q : Int) (r : Int) (hop : o.op = .call { callee := .builtin .min, args := #[x, y], argTypes := ts }) (hx : a.eval x = .int .i64 p) (hy : a.eval y = .int .i64 q) (hr : (if q < p then q else p) = r) : (execOp a.eval o).run Try.prog u = .ok (.value (.int .i64 r)) u := by
  subst hr
  unfold execOp
  simp only [hop, resolve, invoke, builtin, Sem.run_bind, Sem.run_pure, Result.andThen_ok, List.map_toArray, List.map_cons, List.map_nil, hx, hy]
  simp [go_sem]
/-- []T{} -/
theorem exec_none (t e : TypeId) (k : Nat) (hop : o.op = .buildSlice t 0 #[]) (ht : Try.prog.underlying t = some (.slice e)) (hk : (Try.prog.info? e).map (·.size) = some k) : (execOp a.eval o).run Try.prog u = .ok (.value (.slice (some ⟨u.heap.size, 0, none⟩) 0 0)) (u.alloc (.cells #[] e)) := by
  cases hq : Try.prog.info? e with
  | none => simp [hq] at hk
  | some t0 =>
    unfold execOp
    simp only [hop]
    simp [Instr.buildSlice, run_underlying ht, sizeOf, typeInfo, hq, Instr.fill, newRow, Array.range_zero']
/-- []T{v}, T of one cell -/
theorem exec_one (t e : TypeId) (x : Operand) (v : Value) (z : Value) (hop : o.op = .buildSlice t 1 #[(0, x)]) (ht : Try.prog.underlying t = some (.slice e)) (hk : (Try.prog.info? e).map (fun i => (i.zero, i.size)) = some (some z, 1)) (hv : v.cells = #[v]) (hx : a.eval x = v) : (execOp a.eval o).run Try.prog u = .ok (.value (.slice (some ⟨u.heap.size, 0, none⟩) 1 1)) (u.alloc (.cells #[v] e)) := by
  cases hq : Try.prog.info? e with
  | none => simp [hq] at hk
  | some t0 =>
    have h1 : t0.zero = some z ∧ t0.size = 1 := by simpa [hq] using hk
    unfold execOp
    simp only [hop, List.map_toArray, List.map_cons, List.map_nil, hx]
    simp [Instr.buildSlice, run_underlying ht, sizeOf, typeInfo, hq, h1.1, h1.2, zeroValue, Instr.fill, newRow, hv, Array.range, Array.zipIdx]
    congr 2
    apply Array.ext
    · simp [h1.2]
    · intro i h1 h2
      have : i = 0 := by simpa using h2
      subst this
      simp
end

section
variable {a : Act} {o : Oper} {Q : Exit → Act → World → Prop} {K : Act → World → Prop}
/-- append of elements onto a row of the call's own, which may be nil -/
theorem op_append_g (w : World) (s x : Operand) (t e : TypeId)
    (hop : o.op = Op.call { callee := Callee.builtin Builtin.append, args := #[s, x], argTypes := #[t, t] }) (z : Value) (k bytes : Nat) (ht : Try.prog.underlying t = some (.slice e))
    (hinfo : (Try.prog.info? e).map (fun i => (i.zero, i.size, i.bytes)) = some (some z, k, bytes)) (hzs : z.cells.size = k) (hk : 0 < k)
    (base n c : Nat) (A : Option Addr) (cs : List Value) (hs : a.eval s = .slice A n c) (hown : OwnG w base e k A n c cs) (hbase : base ≤ w.heap.size)
    (ad : Addr) (m d : Nat) (news : List Value) (hx : a.eval x = .slice (some ad) m d) (hl : news.length = m * k) (hnews : ∀ j u, news[j]? = some u → w.cell? (ad.add j) = some u) (h1 : ∀ u ∈ news, u.oneCell' = true)
    (h63 : n + m ≤ maxLen) (hlim : (n + m) * bytes ≤ 140737488355328)
    (hK : ∀ w' A' c', OwnG w' base e k A' (n + m) c' (cs ++ news) → Keep (fun b => ∃ ad, A = some ad ∧ ad.block = b) w w' → K (a.put o.dst (.slice A' (n + m) c')) w') :
    o.wp Try.prog a w K Q := by
  obtain ⟨i0, hi, hz0, hz1, hz2⟩ := info_parts hinfo
  refine wp_append_own w s x t hop base e i0 z k bytes ht hi hz0 hz1 hz2 hzs hk (.slice A n c) n cs hs hown ad m d news hx hl hnews h1 h63 hlim hbase ?_
  intro v' w' hown' hgr hnil
  have hv : ∃ A' c', v' = .slice A' (n + m) c' := by
    rcases hown'.2 with ⟨e1, e2⟩ | ⟨g, cap, cur, e1, _⟩
    · exact ⟨none, 0, by rw [e1, e2]⟩
    · exact ⟨_, _, e1⟩
  obtain ⟨A', c', rfl⟩ := hv
  refine hK w' A' c' hown' ((Keep.refl _ w).grown hgr (fun b hb _ => ?_))
  cases A with
  | none => simp [Value.ownBlock] at hb
  | some ad => exact ⟨ad, rfl, by simpa [Value.ownBlock] using hb⟩
/-- an array stored into a block of its own -/
theorem op_store_row (w : World) (ty : TypeId) (x y : Operand) (hop : o.op = .store ty x y)
    (g : Nat) (cells : List Value) (hx : a.eval x = .pointer (some ⟨g, 0, none⟩)) (hy : a.eval y = .agg cells.toArray)
    (t : TypeId) (old : List Value) (hb : Blk w g t old) (hi : (Try.prog.info? ty).map (·.size) = some cells.length)
    (hold : old.length = cells.length) (h1 : ∀ u ∈ cells, u.oneCell' = true)
    (h : ∀ w', Blk w' g t cells → Keep (· = g) w w' → w'.heap.size = w.heap.size → K (a.put o.dst undef) w') : o.wp Try.prog a w K Q := by
  refine wp_store_row ty x y hop g cells.toArray hx hy t old.toArray hb (by simpa using hi) (by simpa using hold) (by simpa using h1) (h _ ?_ ?_ ?_)
  · exact setRow_heap w g _ _ t _ hb
  · exact ⟨rfl, rfl, rfl, by simp [World.setRow], fun k _ hk => setRow_other w g k _ (fun e => hk (by omega))⟩
  · simp [World.setRow]
end
end Go.Proofs.Ytliepgmnlhfaiaa
