/-
  Levels in memory; more of what operations yield: pairs, stores, comparisons of orders and Hits. No condition.
-/
import Derived.Test.YtlbkehpdohihlaaLvlM
import Derived.Test.YtlbkehpdohihlaaFreeT
import Derived.Deep.DeepCutAuto
namespace Go.Proofs.Ytlbkehpdohihlaa
open Go.RowKit
set_option linter.unusedVariables false

/-- block p is a level: its price, its entries; F: the blocks that are its own -/
def Lvl (T E : TypeId) (w : World) (F : Nat → Prop) (p : Nat) (X : List Ent) : Prop :=
  F p ∧ (∀ b, F b → b < w.heap.size) ∧ ∃ v, Blk w p T [.int .i64 7, v] ∧ Sl w E 10 v X.length (ents X) ∧ ∀ b, v.ownBlock = some b → F b ∧ b ≠ p
theorem Lvl.keep {S F : Nat → Prop} {T E : TypeId} {w w' : World} {p : Nat} {X : List Ent} (h : Lvl T E w F p X) (hk : Keep S w w') (hn : ∀ b, F b → ¬ S b) : Lvl T E w' F p X := by
  obtain ⟨h1, h2, v, h3, h4, h5⟩ := h
  exact ⟨h1, fun b hb => Nat.lt_of_lt_of_le (h2 b hb) hk.size, v, h3.keep hk (hn p h1), h4.keep hk (fun b hb => hn b (h5 b hb).1), h5⟩
theorem Lvl.kept {F : Nat → Prop} {T E : TypeId} {w w' : World} {p : Nat} {X : List Ent} (h : Lvl T E w F p X) (hk : Kept w w') : Lvl T E w' F p X := h.keep hk (fun _ _ h => h)
/-- the blocks are the old ones or new ones -/
def Grow (w : World) (F F' : Nat → Prop) : Prop := ∀ b, F' b → F b ∨ w.heap.size ≤ b
theorem Grow.refl (w : World) (F : Nat → Prop) : Grow w F F := fun b h => .inl h
theorem Grow.trans {w w' : World} {F F' F'' : Nat → Prop} (h : Grow w F F') (h' : Grow w' F' F'') (hs : w.heap.size ≤ w'.heap.size) : Grow w F F'' := fun b hb => by
  rcases h' b hb with h1 | h1
  · exact h b h1
  · exact .inr (by omega)
theorem Grow.keep {w w' w'' : World} {F F' : Nat → Prop} (h : Grow w F F') (hk : Keep F w w') (hk' : Keep F' w' w'') : Keep F w w'' := hk.trans hk' (fun b hb h1 => by
  rcases h b h1 with h2 | h2
  · exact h2
  · omega)

theorem ent_ord {w : World} {g off : Nat} {e : Ent} (h : w.rangeAt g off e.cells) : w.rangeAt g off e.o.cells := range_take h 9
theorem sl_one (u : World) (T : TypeId) (k : Nat) (cs : List Value) (base : Nat) (hl : cs.length = k) (hk : k ≤ 1000) (hb : base ≤ u.heap.size) :
    Sl (u.alloc (.cells cs.toArray T)) T k (.slice (some ⟨u.heap.size, 0, none⟩) 1 1) 1 cs ∧ ∀ b, (Value.slice (some ⟨u.heap.size, 0, none⟩) 1 1).ownBlock = some b → base ≤ b := by
  refine ⟨⟨by omega, _, 1, rfl, Nat.le_refl _, by unfold maxLen; omega, fun h => (by cases h), fun ad had => ?_⟩, fun b hb' => by simp [Value.ownBlock] at hb'; omega⟩
  injection had with had
  subst had
  exact ⟨_, 0, cs, rfl, Blk.new u T cs, by omega, by rw [List.drop_zero, List.take_of_length_le (by omega)]⟩
/-- known: []T{} -/
def Kn.emp (base : Nat) (T : TypeId) : Kn := ⟨fun v w => ∃ g, v = .slice (some ⟨g, 0, none⟩) 0 0 ∧ base ≤ g ∧ Blk w g T [], fun _ _ _ ⟨g, h1, h2, h3⟩ hk => ⟨g, h1, h2, h3.kept hk⟩⟩
/-- append onto []T{} -/
theorem run_append_emp {t T : TypeId} {k bytes : Nat} (ht : SlT t T k bytes) (ty : TypeId) (w : World) (v x : Value) (m base : Nat) (ds : List Value) (hv : (Kn.emp base T).p v w) (hx : Sl w T k x m ds) (h1 : ∀ u ∈ ds, u.oneCell' = true) (h63 : m ≤ 1000000) (hlim : bytes ≤ 1000) (hb : base ≤ w.heap.size) :
    ∃ v' w', (Builtin.append_ #[t, t] ty #[v, x]).run Try.prog w = .ok v' w' ∧ (Kn.sl base T k m ds).p v' w' ∧ Kept w w' := by
  obtain ⟨g, rfl, hg, hB⟩ := hv
  have hv : Sl w T k (.slice (some ⟨g, 0, none⟩) 0 0) 0 [] := ⟨by simp, _, 0, rfl, Nat.le_refl _, Nat.zero_le _, fun h => (by cases h), fun ad had => by
    injection had with had
    subst had
    exact ⟨g, 0, [], rfl, hB, by simp, by simp⟩⟩
  have hmb : m * bytes ≤ 1000000 * 1000 := Nat.mul_le_mul h63 hlim
  obtain ⟨v', w', hr, hs, hk, ho⟩ := run_append_sl ht ty w _ x 0 m [] ds hv hx h1 (by unfold maxLen; omega) (by rw [Nat.zero_add]; omega)
  rw [Nat.zero_add, List.nil_append] at hs
  refine ⟨v', w', hr, ⟨hs, fun b hb' => ?_⟩, ?_⟩
  · rcases ho b hb' with h | h
    · simp [Value.ownBlock] at h
      omega
    · omega
  · -- the empty block is not turned
    refine ⟨hk.os, hk.tape, hk.output, hk.size, fun b hb' _ => ?_⟩
    by_cases e : b = g
    · subst e
      obtain ⟨z, hz, hz2, _⟩ := ht.info
      obtain ⟨i0, hi, hz0, hz1, hzb⟩ := info_parts hz
      obtain ⟨hl2, B, d, rfl, hd1, hd2, hd3, hd4⟩ := hx
      cases B with
      | none =>
        have := hd3 rfl
        subst this
        have : m = 0 := by omega
        subst this
        have e1 : (Builtin.append_ #[t, t] ty #[.slice (some ⟨b, 0, none⟩) 0 0, .slice none 0 0]).run Try.prog w = .ok (.slice (some ⟨b, 0, none⟩) 0 0) w := by
          simp [Builtin.append_, run_underlying ht.und, sizeOf, typeInfo, hi, Builtin.lenOf, Builtin.firstCells, loadCells, storeCells]
        rw [e1] at hr
        injection hr with _ hr
        rw [hr]
      | some ad =>
        obtain ⟨g2, off2, cur2, rfl, hB2, hle2, htk2⟩ := hd4 _ rfl
        have hnews : ∀ j u, ds[j]? = some u → w.cell? ((⟨g2, off2, none⟩ : Addr).add j) = some u := fun j u hu => by rw [Addr.add_mid]; exact seg_cell hB2 htk2 j u hu
        by_cases hm : m = 0
        · subst hm
          have : ds = [] := List.eq_nil_of_length_eq_zero (by omega)
          subst this
          subst hz1
          have e1 := run_append_room_cells (P := Try.prog) w t ty T i0 ht.und hi b 0 0 0 ⟨g2, off2, none⟩ 0 d [] (by simp) hnews h1 (by omega) (by simp) (by simp)
          rw [e1] at hr
          injection hr with _ hr
          rw [← hr]
          simp [World.setCells]
        · obtain ⟨v2, w2, hr2, hown, hgr⟩ := run_append_arg_grows (P := Try.prog) w t ty T i0 z k bytes ht.und hi hz0 hz1 hzb hz2 ht.pos ⟨b, 0, none⟩ 0 0 [] (by simp) (by simp) ⟨g2, off2, none⟩ m d ds hl2 hnews (by omega) (by unfold maxLen; omega) (by rw [Nat.zero_add]; omega)
          rw [hr2] at hr
          injection hr with _ hr
          rw [← hr]
          exact hgr.block b hb' (by simp)
    · exact hk.block b hb' (by simp [Value.ownBlock]; omega)

theorem builtE (o : Ord) (n : Int) : Try.prog.built 61 [(0, o.v), (1, .int .i64 n)] = some (Ent.mk o n).cells.toArray := by kernel_rfl
theorem builtR (o : Ord) (n : Int) : Try.prog.built 64 [(0, o.v), (1, .int .i64 n)] = some (Ent.mk o n).cells.toArray := by kernel_rfl
theorem builtH (o : Ord) (n : Int) : Try.prog.built 35 [(0, o.v), (1, .int .i64 n)] = some (Ent.mk o n).cells.toArray := by kernel_rfl
/-- a key of two numbers -/
def key2 (x y : Int) : Value := .agg #[.int .i64 x, .int .i64 y]
theorem built2 (x y : Int) : Try.prog.built 47 [(0, .int .i64 x), (1, .int .i64 y)] = some [.int .i64 x, .int .i64 y].toArray := by kernel_rfl
section
variable {a : Act} {o : Oper} {u : World}
theorem exec_boxi (t : TypeId) (x : Operand) (v : Value) (hop : o.op = .box t x) (hx : a.eval x = v) (hv : v.cells = #[v]) : (execOp a.eval o).run Try.prog u = .ok (.value (.pointer (some ⟨u.heap.size, 0, none⟩))) (u.alloc (.cells [v].toArray t)) := by
  unfold execOp
  simp only [hop, hx]
  simp only [Instr.box, newVar, hv]
  simp [go_sem]
def lv0 : List Value := [.int .i64 7, .slice none 0 0]
theorem builtL : Try.prog.built 58 [(0, .int .i64 7)] = some lv0.toArray := by kernel_rfl
theorem exec_blvl (x : Operand) (hop : o.op = .build 58 #[(0, x)]) (hx : a.eval x = .int .i64 7) : (execOp a.eval o).run Try.prog u = .ok (.value (.agg lv0.toArray)) u :=
  exec_build 58 [(0, x)] lv0 hop (by simp only [List.map_cons, List.map_nil, hx]; exact builtL)
theorem exec_bent (t : TypeId) (hb : ∀ (o : Ord) (n : Int), Try.prog.built t [(0, o.v), (1, .int .i64 n)] = some (Ent.mk o n).cells.toArray) (x y : Operand) (c : Ord) (n : Int) (hop : o.op = .build t #[(0, x), (1, y)]) (hx : a.eval x = c.v) (hy : a.eval y = .int .i64 n) : (execOp a.eval o).run Try.prog u = .ok (.value (Ent.mk c n).v) u :=
  exec_build t [(0, x), (1, y)] (Ent.mk c n).cells hop (by simp only [List.map_cons, List.map_nil, hx, hy]; exact hb c n)
theorem exec_pair (x y : Operand) (p q : Int) (hop : o.op = .build 47 #[(0, x), (1, y)]) (hx : a.eval x = .int .i64 p) (hy : a.eval y = .int .i64 q) : (execOp a.eval o).run Try.prog u = .ok (.value (key2 p q)) u :=
  exec_build _ [(0, x), (1, y)] [.int .i64 p, .int .i64 q] hop (by simp only [List.map_cons, List.map_nil, hx, hy]; exact built2 p q)
end
section
variable {ops : Array Oper} {Q : Exit → Act → World → Prop} {a : Act} {w : World} {o : Oper} {rest : List Oper}
/-- one cell stored into a block that is known whole -/
theorem l_st1 (ty : TypeId) (g i : Nat) (T : TypeId) (cs : List Value) (v : Value) (x y : Operand) (hw : Region.wanted o (yielded ops a.tmps) = true) (hop : o.op = .store ty x y) (hsz : (Try.prog.info? ty).map (·.size) = some 1) (hx : a.eval x = .pointer (some ⟨g, i, none⟩)) (hy : a.eval y = v) (hv : v.cells = #[v]) (h1 : v.oneCell' = true) (hb : Blk w g T cs) (hi : i < cs.length)
    (hK : ∀ w', Blk w' g T (cs.set i v) → Keep (· = g) w w' → w'.heap.size = w.heap.size → wpList Try.prog ops Q rest (a.put o.dst undef) w') : wpList Try.prog ops Q (o :: rest) a w :=
  l_store (w.setCell ⟨g, i, none⟩ v) hw (exec_store1 ty x y g i v hop hsz hx hy hv h1 (hb.there i 1 (by omega))) (hK _ (hb.set_ i v) (Keep.setCell (Keep.refl (· = g) w) (fun _ => rfl) _) (by simp [World.setCell]))
/-- one number stored into an entry of a row -/
theorem l_rowi (T : TypeId) (g off n c i j : Nat) (X : List Ent) (e e' : Ent) (z : Int) (ad : Addr) (x y : Operand) (hw : Region.wanted o (yielded ops a.tmps) = true) (hop : o.op = .store 3 x y) (hx : a.eval x = .pointer (some ad)) (hy : a.eval y = .int .i64 z) (had : ad = ⟨g, off + (i * 10 + j), none⟩)
    (hs : Sl w T 10 (.slice (some ⟨g, off, none⟩) n c) n (ents X)) (hn : n = X.length) (he : X[i]? = some e) (hj : j < 10) (he' : e'.cells = e.cells.set j (.int .i64 z))
    (hK : ∀ w', Sl w' T 10 (.slice (some ⟨g, off, none⟩) n c) n (ents (X.set i e')) → Keep (· = g) w w' → w'.heap.size = w.heap.size → wpList Try.prog ops Q rest (a.put o.dst undef) w') : wpList Try.prog ops Q (o :: rest) a w := by
  subst had
  have hi := (List.getElem?_eq_some_iff.1 he).1
  have hm : (i + 1) * 10 ≤ n * 10 := Nat.mul_le_mul_right 10 (by omega)
  obtain ⟨h1, h2, h3, h4⟩ := hs.setCell (i * 10 + j) (.int .i64 z) (by omega)
  refine l_store _ hw (exec_store1 3 x y g _ (.int .i64 z) hop (by kernel_rfl) hx hy rfl rfl h4) (hK _ ?_ h2 h3)
  have := flat_setCell Ent.cells 10 Ent.len10 X i j (.int .i64 z) e e' he hj he'
  unfold ents at h1 ⊢
  rw [← this]
  exact h1
end
theorem sl_cells {w : World} {T : TypeId} {k n : Nat} {v : Value} {cs : List Value} (h : Sl w T k v n cs) : v.cells = #[v] := by
  obtain ⟨_, A, c, rfl, _⟩ := h
  rfl
theorem sl_onec {w : World} {T : TypeId} {k n : Nat} {v : Value} {cs : List Value} (h : Sl w T k v n cs) : v.oneCell' = true := by
  obtain ⟨_, A, c, rfl, _⟩ := h
  rfl
theorem Sl.rng {w : World} {T : TypeId} {n c g off : Nat} {X : List Ent} (h : Sl w T 10 (.slice (some ⟨g, off, none⟩) n c) n (ents X)) (i : Nat) (e : Ent) (he : X[i]? = some e) : w.rangeAt g (off + i * 10) e.cells := by
  obtain ⟨hl, A, c', e', h1, h2, h3, h4⟩ := h
  injection e' with e1 e2 e3
  subst e1 e3
  obtain ⟨g', off', cur, e, hB, h5, h6⟩ := h4 _ rfl
  injection e with e1 e2
  subst e1 e2
  have := range_take (range_drop (seg_cell hB h6) (i * 10)) 10
  rw [show ((ents X).drop (i * 10)).take 10 = _ from flat_at Ent.cells 10 Ent.len10 X i _ he] at this
  exact this
theorem Sl.rngO {w : World} {T : TypeId} {n c g off : Nat} {X : List Ord} (h : Sl w T 9 (.slice (some ⟨g, off, none⟩) n c) n (ords X)) (i : Nat) (e : Ord) (he : X[i]? = some e) : w.rangeAt g (off + i * 9) e.cells := by
  obtain ⟨hl, A, c', e', h1, h2, h3, h4⟩ := h
  injection e' with e1 e2 e3
  subst e1 e3
  obtain ⟨g', off', cur, e, hB, h5, h6⟩ := h4 _ rfl
  injection e with e1 e2
  subst e1 e2
  have := range_take (range_drop (seg_cell hB h6) (i * 9)) 9
  rw [show ((ords X).drop (i * 9)).take 9 = _ from flat_at Ord.cells 9 Ord.len9 X i _ he] at this
  exact this
/-- it lies somewhere, where it has elements -/
theorem Sl.some_ {w : World} {T : TypeId} {k n : Nat} {v : Value} {cs : List Value} (h : Sl w T k v n cs) (hn : 0 < n) : ∃ g off c, v = .slice (some ⟨g, off, none⟩) n c := by
  obtain ⟨g, off, c, _, h, _⟩ := h.at_ hn
  exact ⟨g, off, c, h⟩
/-- a struct as a result -/
theorem results_cell {fn : Func} {p : Tmp} {ty : TypeId} {fs : Array Field} (h : fn.results = #[.cell p ty]) (tmps : Array Value) (w : World) (g : Nat) (T : TypeId) (cs : List Value) (hp : tmps.getD p undef = .pointer (some ⟨g, 0, none⟩)) (hg : Blk w g T cs) (hu : Try.prog.underlying ty = some (.struct fs)) (hl : (Try.prog.info? ty).map (·.size) = some cs.length) :
    (results fn tmps).run Try.prog w = .ok (.agg cs.toArray) w := by
  have hp' : tmps[p]?.getD undef = .pointer (some ⟨g, 0, none⟩) := by simpa using hp
  have hr := run_loadVar_row (P := Try.prog) w g T ty cs.toArray (0, 0) _ hg hu rfl (by simpa using hl)
  simp [results, h, hp', asAddr, hr]
theorem results_cell2 {fn : Func} {p q : Tmp} {ty : TypeId} {fs : Array Field} (h : fn.results = #[.cell p ty, .tmp q]) (tmps : Array Value) (w : World) (g : Nat) (T : TypeId) (cs : List Value) (b : Bool) (hp : tmps.getD p undef = .pointer (some ⟨g, 0, none⟩)) (hq : tmps.getD q undef = .bool b) (hg : Blk w g T cs) (hu : Try.prog.underlying ty = some (.struct fs)) (hl : (Try.prog.info? ty).map (·.size) = some cs.length) :
    (results fn tmps).run Try.prog w = .ok (.tuple #[.agg cs.toArray, .bool b]) w := by
  have hp' : tmps[p]?.getD undef = .pointer (some ⟨g, 0, none⟩) := by simpa using hp
  have hq' : tmps[q]?.getD undef = .bool b := by simpa using hq
  have hr := run_loadVar_row (P := Try.prog) w g T ty cs.toArray (0, 0) _ hg hu rfl (by simpa using hl)
  simp [results, h, hp', hq', asAddr, hr]
/-! whether two orders, two Hits are the same -/
theorem run_eqInts (d n : Nat) (w : World) (l m : List Int) (s t : List UInt8) (hl : l.length = n) (hm : m.length = n) : ∀ (k : Nat) (fs : List Field), k ≤ n →
    fs.map (fun f => (f.name == "_", f.type, f.offset)) = (List.range' (n - k) k).map (fun i => (false, 3, i)) →
    (Op.eqFields (d + 1) (stc l s).toArray (stc m t).toArray fs).run Try.prog w = .ok (decide (l.drop (n - k) = m.drop (n - k))) w
  | 0, fs, hk, h => by
    match fs, h with
    | [], h => simp [Op.eqFields, List.drop_of_length_le, hl, hm]
    | f :: fs, h => simp at h
  | k + 1, fs, hk, h => by
    match fs, h with
    | [], h => simp at h
    | f :: fs, h =>
      have e0 : n - (k + 1) + 1 = n - k := by omega
      simp only [List.range'_succ, List.map_cons, List.cons.injEq, Prod.mk.injEq, e0] at h
      obtain ⟨⟨h1, h2, h3⟩, h4⟩ := h
      have ih := run_eqInts d n w l m s t hl hm k fs (by omega) h4
      have hx : (l)[n - (k + 1)]? = some (l[n - (k + 1)]'(by omega)) := List.getElem?_eq_getElem (by omega)
      have hy : (m)[n - (k + 1)]? = some (m[n - (k + 1)]'(by omega)) := List.getElem?_eq_getElem (by omega)
      rw [run_eqInt d _ _ w f fs _ _ h1 h2 (by rw [h3]; simpa using stc_int l s _ _ hx) (by rw [h3]; simpa using stc_int m t _ _ hy) _ ih]
      congr 1
      rw [List.drop_eq_getElem_cons (by omega : n - (k + 1) < l.length), List.drop_eq_getElem_cons (by omega : n - (k + 1) < m.length), e0]
      rw [Bool.eq_iff_iff]
      simp
theorem ord_fields : (Try.prog.fieldsOf 25).toList.map (fun f => (f.name == "_", f.type, f.offset)) = (List.range' 0 9).map (fun i => (false, 3, i)) := by kernel_rfl
theorem run_eqOrd (d : Nat) (c e : Ord) (w : World) : (Op.equalIn (d + 2) 25 c.v e.v).run Try.prog w = .ok (decide (c = e)) w := by
  unfold Ord.v
  rw [run_equalIn_struct w (d + 1) 25 _ _ (by kernel_rfl) (by kernel_rfl)]
  unfold Ord.cells
  rw [run_eqInts d 9 w c.l e.l [] [] rfl rfl 9 _ (by omega) (by rw [Nat.sub_self]; exact ord_fields)]
  congr 1
  rw [Bool.eq_iff_iff]
  simp only [Nat.sub_self, List.drop_zero, decide_eq_true_eq]
  exact ⟨fun h => Ord.ext_l h, fun h => by rw [h]⟩
theorem run_partO (xs : Array Value) (o : Ord) (hx : xs.extract 0 9 = o.cells.toArray) (w : World) : (part 25 xs 0).run Try.prog w = .ok o.v w := by
  have hs := ord_size
  cases hq : Try.prog.info? 25 with
  | none => simp [hq] at hs
  | some i =>
    have h2 : i.size = 9 := by simpa [hq] using hs
    have hagg : (isAgg 25).run Try.prog w = .ok true w := by
      unfold isAgg
      rw [Sem.run_bind, run_underlying Try.underlying25 w]
      rfl
    simp [part, Sem.run_bind, hagg, sizeOf, typeInfo, hq, h2, hx, Ord.v]
theorem hit_fields : (Try.prog.fieldsOf 35).toList.map (fun f => (f.name == "_", f.type, f.offset)) = [(false, 25, 0), (false, 3, 9)] := by kernel_rfl
theorem run_eqHit (c e : Ent) (w : World) : (Op.equalIn 10000 35 c.v e.v).run Try.prog w = .ok (decide (c = e)) w := by
  unfold Ent.v
  rw [run_equalIn_struct w 9999 35 _ _ (by kernel_rfl) (by kernel_rfl)]
  have hf := hit_fields
  generalize (Try.prog.fieldsOf 35).toList = fs at hf
  match fs, hf with
  | [], hf => cases hf
  | [f], hf => simp at hf
  | f :: g :: f' :: fs, hf => simp at hf
  | [f, g], hf =>
    simp only [List.map_cons, List.map_nil, List.cons.injEq, Prod.mk.injEq, and_true] at hf
    obtain ⟨⟨h1, h2, h3⟩, ⟨h4, h5, h6⟩⟩ := hf
    have hn' : f.name ≠ "_" := by simpa using h1
    have e1 := run_partO c.cells.toArray c.o rfl w
    have e2 := run_partO e.cells.toArray e.o rfl w
    rw [← h2, ← h3] at e1 e2
    have e3 := run_eqInt 9998 c.cells.toArray e.cells.toArray w g [] c.n e.n h4 h5 (by rw [h6]; rfl) (by rw [h6]; rfl) true (by simp [Op.eqFields])
    have e4 := run_eqOrd 9997 c.o e.o w
    rw [← h2] at e4
    simp only [Op.eqFields, if_pos hn', Sem.run_bind, e1, e2, e4, Result.andThen_ok] at e3 ⊢
    by_cases hce : c.o = e.o
    · simp only [hce, decide_true, Bool.not_true, Bool.false_eq_true, if_false]
      rw [e3]
      congr 1
      rw [Bool.eq_iff_iff]
      simp only [Bool.and_true, beq_iff_eq, decide_eq_true_eq]
      constructor
      · intro h
        cases c; cases e
        simp_all
      · intro h
        rw [h]
    · have hne : c ≠ e := fun h => hce (by rw [h])
      simp [hce, hne]
section
variable {a : Act} {o : Oper} {u : World}
theorem exec_eqO (x y : Operand) (t' : TypeId) (c e : Ord) (hop : o.op = .binOp .eql 25 x y t') (hx : a.eval x = c.v) (hy : a.eval y = e.v) : (execOp a.eval o).run Try.prog u = .ok (.value (.bool (decide (c = e)))) u := by
  have h := run_eqOrd 9998 c e u
  unfold Ord.v at h hx hy
  unfold execOp
  simp only [hop, hx, hy, Sem.run_bind]
  rw [run_eqGuard_agg u .eql 25 x y _ _ (by kernel_rfl)]
  simp only [Result.andThen_ok, run_eql_struct, h]
  rfl
theorem exec_neO (x y : Operand) (t' : TypeId) (c e : Ord) (hop : o.op = .binOp .neq 25 x y t') (hx : a.eval x = c.v) (hy : a.eval y = e.v) : (execOp a.eval o).run Try.prog u = .ok (.value (.bool (decide (c ≠ e)))) u := by
  have h := run_eqOrd 9998 c e u
  unfold Ord.v at h hx hy
  unfold execOp
  simp only [hop, hx, hy, Sem.run_bind]
  rw [run_eqGuard_agg u .neq 25 x y _ _ (by kernel_rfl)]
  simp only [Result.andThen_ok, run_neq_struct, h]
  simp [go_sem]
theorem exec_neH (x y : Operand) (t' : TypeId) (c e : Ent) (hop : o.op = .binOp .neq 35 x y t') (hx : a.eval x = c.v) (hy : a.eval y = e.v) : (execOp a.eval o).run Try.prog u = .ok (.value (.bool (decide (c ≠ e)))) u := by
  have h := run_eqHit c e u
  unfold Ent.v at h hx hy
  unfold execOp
  simp only [hop, hx, hy, Sem.run_bind]
  rw [run_eqGuard_agg u .neq 35 x y _ _ (by kernel_rfl)]
  simp only [Result.andThen_ok, run_neq_struct, h]
  simp [go_sem]
theorem exec_neHb (b : Bool) (x y : Operand) (t' : TypeId) (c e : Ent) (hop : o.op = .binOp .neq 35 x y t') (hx : a.eval x = c.v) (hy : a.eval y = e.v) (hb : decide (c ≠ e) = b) : (execOp a.eval o).run Try.prog u = .ok (.value (.bool b)) u := by rw [← hb]; exact exec_neH x y t' c e hop hx hy
theorem exec_neOb (b : Bool) (x y : Operand) (t' : TypeId) (c e : Ord) (hop : o.op = .binOp .neq 25 x y t') (hx : a.eval x = c.v) (hy : a.eval y = e.v) (hb : decide (c ≠ e) = b) : (execOp a.eval o).run Try.prog u = .ok (.value (.bool b)) u := by rw [← hb]; exact exec_neO x y t' c e hop hx hy
end
theorem take_next {α : Type} {xs ys : List α} {k : Nat} (h : xs.take k = ys.take k) (he : xs[k]? = ys[k]?) : xs.take (k + 1) = ys.take (k + 1) := by
  rw [List.take_add_one, List.take_add_one, h, he]
theorem take_whole {α : Type} {xs ys : List α} {k : Nat} (h : xs.take k = ys.take k) (h1 : xs.length ≤ k) (h2 : ys.length ≤ k) : xs = ys := by
  rwa [List.take_of_length_le h1, List.take_of_length_le h2] at h
end Go.Proofs.Ytlbkehpdohihlaa
