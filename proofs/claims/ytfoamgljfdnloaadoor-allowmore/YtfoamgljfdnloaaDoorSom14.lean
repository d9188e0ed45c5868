/-
  Asks of chapter 14's statements; the traders made of them (jobberlaw14.some); a phase among the arguments. No condition.
-/
import Derived.Test.YtfoamgljfdnloaaDoorSom13
import Derived.Test.YtfoamgljfdnloaaDoorAlM
namespace Go.Proofs.YtfoamgljfdnloaaDoor
open Go.RowKit Go.ChangeShapes Go.WideShapes Go.ChangeAt
set_option linter.unusedVariables false
set_option maxRecDepth 100000

structure Ab where
  n : Int
  firm : Int
  desk : Int
  roles : Int
  insts : Int
  off : Bool
deriving Inhabited
def Ab.cells (q : Ab) : List Value := [.int .i64 q.n, .int .i64 q.firm, .int .i64 q.desk, .int .i64 q.roles, .int .i64 q.insts, .bool q.off]
def Ab.v (q : Ab) : Value := .agg q.cells.toArray
theorem Ab.len6b (q : Ab) : q.cells.length = 6 := rfl
theorem Ab.one (q : Ab) : ∀ u ∈ q.cells, u.oneCell' = true := by
  intro u hu
  simp only [Ab.cells, List.mem_cons, List.not_mem_nil, or_false] at hu
  rcases hu with rfl | rfl | rfl | rfl | rfl | rfl <;> rfl
def zeroAb : Ab := ⟨0, 0, 0, 0, 0, false⟩
theorem slAb : SlT 31 55 6 48 := ⟨Tryd.underlying31, by kernel_rfl, ⟨zeroAb.v, by kernel_rfl, rfl, by intro u hu; exact zeroAb.one u (by simpa [Ab.v, Value.cells] using hu)⟩, by omega⟩
abbrev Abs (W : World) (v : Value) (l : List Ab) : Prop := Args 6 Ab.cells (fun _ => True) W v l
theorem ab_fields : (Tryd.prog.fieldsOf 55).toList.map (fun f => (f.type, f.offset)) = [(3, 0), (3, 1), (3, 2), (3, 3), (3, 4), (4, 5)] := by kernel_rfl
theorem sh_ab {H : Type} {enc : TypeId × Value → H} {W : World} (fuel : Nat) (cs : List Value) (x : DataW H × List MemPlace) (h : DataW.trod enc Tryd.prog W 0 (fun _ => true) true fuel 55 cs = some x) : ∃ q : Ab, cs = q.cells ∧ True := by
  have hu : Tryd.prog.underlying 55 = some (.struct (Tryd.prog.fieldsOf 55)) := by kernel_rfl
  have hcells : Tryd.prog.cellsOf 55 = 6 := by kernel_rfl
  obtain ⟨ys, m, _, _, hlen, hyl, hf⟩ := DataW.trod_struct hu h
  rw [hcells] at hlen
  have hq := ab_fields
  have hsz : (Tryd.prog.fieldsOf 55).size = 6 := by kernel_rfl
  rw [hsz] at hyl
  clear hsz
  generalize hfs : Tryd.prog.fieldsOf 55 = fa at hf hq
  obtain ⟨fs⟩ := fa
  simp only at hq
  have hl : fs.length = 6 := by simpa using congrArg List.length hq
  match fs, hl with
  | [f0, f1, f2, f3, f4, f5], _ =>
    simp only [List.map_cons, List.map_nil, List.cons.injEq, Prod.mk.injEq, and_true] at hq
    obtain ⟨⟨t0, o0⟩, ⟨t1, o1⟩, ⟨t2, o2⟩, ⟨t3, o3⟩, ⟨t4, o4⟩, ⟨t5, o5⟩⟩ := hq
    have c1 : Tryd.prog.cellsOf 3 = 1 := by kernel_rfl
    have c2 : Tryd.prog.cellsOf 4 = 1 := by kernel_rfl
    have int_ : ∀ (i : Nat) (f : Field), ([f0, f1, f2, f3, f4, f5] : List Field).toArray[i]? = some f → f.type = 3 → f.offset = i → i < 6 → ∃ a : Int, cs[i]? = some (.int .i64 a) := by
      intro i f hfi ht ho hi6
      have g := hf i f hfi
      rw [ho, ht, c1, List.getElem?_eq_getElem (by rw [hyl]; exact hi6)] at g
      obtain ⟨a, e, _, wa⟩ := DataW.trod_int Tryd.underlying3 g
      refine ⟨a, ?_⟩
      have := congrArg (·[0]?) e
      simpa [List.getElem?_take, List.getElem?_drop] using this
    obtain ⟨a0, e0⟩ := int_ 0 f0 rfl t0 o0 (by omega)
    obtain ⟨a1, e1⟩ := int_ 1 f1 rfl t1 o1 (by omega)
    obtain ⟨a2, e2⟩ := int_ 2 f2 rfl t2 o2 (by omega)
    obtain ⟨a3, e3⟩ := int_ 3 f3 rfl t3 o3 (by omega)
    obtain ⟨a4, e4⟩ := int_ 4 f4 rfl t4 o4 (by omega)
    obtain ⟨b, e5⟩ : ∃ b : Bool, cs[5]? = some (.bool b) := by
      have g := hf 5 f5 rfl
      rw [o5, t5, c2, List.getElem?_eq_getElem (by rw [hyl]; omega)] at g
      obtain ⟨a, e, _⟩ := DataW.trod_bool Tryd.underlying4 g
      refine ⟨a, ?_⟩
      have := congrArg (·[0]?) e
      simpa [List.getElem?_take, List.getElem?_drop] using this
    refine ⟨⟨a0, a1, a2, a3, a4, b⟩, ?_, trivial⟩
    clear hf h
    revert e0 e1 e2 e3 e4 e5
    match cs, hlen with
    | [c0, c1, c2, c3, c4, c5], _ =>
      intro e0 e1 e2 e3 e4 e5
      simp only [List.getElem?_cons_zero, List.getElem?_cons_succ, Option.some.injEq] at e0 e1 e2 e3 e4 e5
      subst e0 e1 e2 e3 e4 e5
      rfl
theorem open_abs {H : Type} {enc : TypeId × Value → H} {W : World} {b0 : Nat} {v : Value} {d : DataW H} {p : List MemPlace} (hv : Value.okWide Tryd.prog W .any b0 31 v)
    (h : DataW.Trod enc Tryd.prog W 0 (fun _ => true) true 31 v d p) : ∃ l, Abs W v l := open_args 6 Ab.cells (fun _ => True) Tryd.underlying31 (by kernel_rfl) (by omega) sh_ab hv h

/-! a phase among the arguments -/
theorem sh_bools {H : Type} {enc : TypeId × Value → H} {W : World} (fuel : Nat) (cs : List Value) (x : DataW H × List MemPlace) (h : DataW.trod enc Tryd.prog W 0 (fun _ => true) true fuel 26 cs = some x) : ∃ l : List Bool, cs = l.map Value.bool ∧ l.length = 8 := by
  obtain ⟨ys, m, rfl, hx, hl, hn, hall⟩ := DataW.trod_array Tryd.underlying26 h
  have hc8 : Tryd.prog.cellsOf 26 = 8 := by kernel_rfl
  have hc1 : Tryd.prog.cellsOf 4 = 1 := by kernel_rfl
  rw [hc8] at hl
  rw [hc1] at hall
  have hcell : ∀ i, i < 8 → ∃ a : Bool, cs[i]? = some (.bool a) := by
    intro i hi
    have h1 := hall i hi
    rw [List.getElem?_eq_getElem (by omega)] at h1
    obtain ⟨a, e, _⟩ := DataW.trod_bool Tryd.underlying4 h1
    refine ⟨a, ?_⟩
    have := congrArg (·[0]?) e
    simpa [List.getElem?_take, List.getElem?_drop] using this
  obtain ⟨a0, e0⟩ := hcell 0 (by omega)
  obtain ⟨a1, e1⟩ := hcell 1 (by omega)
  obtain ⟨a2, e2⟩ := hcell 2 (by omega)
  obtain ⟨a3, e3⟩ := hcell 3 (by omega)
  obtain ⟨a4, e4⟩ := hcell 4 (by omega)
  obtain ⟨a5, e5⟩ := hcell 5 (by omega)
  obtain ⟨a6, e6⟩ := hcell 6 (by omega)
  obtain ⟨a7, e7⟩ := hcell 7 (by omega)
  refine ⟨[a0, a1, a2, a3, a4, a5, a6, a7], ?_, rfl⟩
  clear hall hcell h
  revert e0 e1 e2 e3 e4 e5 e6 e7
  match cs, hl with
  | [c0, c1, c2, c3, c4, c5, c6, c7], _ =>
    intro e0 e1 e2 e3 e4 e5 e6 e7
    simp only [List.getElem?_cons_zero, List.getElem?_cons_succ, Option.some.injEq] at e0 e1 e2 e3 e4 e5 e6 e7
    subst e0 e1 e2 e3 e4 e5 e6 e7
    rfl
theorem sh_eight {H : Type} {enc : TypeId × Value → H} {W : World} (fuel : Nat) (cs : List Value) (x : DataW H × List MemPlace) (h : DataW.trod enc Tryd.prog W 0 (fun _ => true) true fuel 27 cs = some x) : ∃ l : List Int, cs = l.map (Value.int .i64) ∧ l.length = 8 := by
  obtain ⟨ys, m, rfl, hx, hl, hn, hall⟩ := DataW.trod_array Tryd.underlying27 h
  have hc8 : Tryd.prog.cellsOf 27 = 8 := by kernel_rfl
  have hc1 : Tryd.prog.cellsOf 3 = 1 := by kernel_rfl
  rw [hc8] at hl
  rw [hc1] at hall
  have hcell : ∀ i, i < 8 → ∃ a : Int, cs[i]? = some (.int .i64 a) := by
    intro i hi
    have h1 := hall i hi
    rw [List.getElem?_eq_getElem (by omega)] at h1
    obtain ⟨a, e, _⟩ := DataW.trod_int Tryd.underlying3 h1
    refine ⟨a, ?_⟩
    have := congrArg (·[0]?) e
    simpa [List.getElem?_take, List.getElem?_drop] using this
  obtain ⟨a0, e0⟩ := hcell 0 (by omega)
  obtain ⟨a1, e1⟩ := hcell 1 (by omega)
  obtain ⟨a2, e2⟩ := hcell 2 (by omega)
  obtain ⟨a3, e3⟩ := hcell 3 (by omega)
  obtain ⟨a4, e4⟩ := hcell 4 (by omega)
  obtain ⟨a5, e5⟩ := hcell 5 (by omega)
  obtain ⟨a6, e6⟩ := hcell 6 (by omega)
  obtain ⟨a7, e7⟩ := hcell 7 (by omega)
  refine ⟨[a0, a1, a2, a3, a4, a5, a6, a7], ?_, rfl⟩
  clear hall hcell h
  revert e0 e1 e2 e3 e4 e5 e6 e7
  match cs, hl with
  | [c0, c1, c2, c3, c4, c5, c6, c7], _ =>
    intro e0 e1 e2 e3 e4 e5 e6 e7
    simp only [List.getElem?_cons_zero, List.getElem?_cons_succ, Option.some.injEq] at e0 e1 e2 e3 e4 e5 e6 e7
    subst e0 e1 e2 e3 e4 e5 e6 e7
    rfl
theorem phs_fields : (Tryd.prog.fieldsOf 29).toList.map (fun f => (f.type, f.offset)) = [(26, 0), (26, 8), (27, 16)] := by kernel_rfl
theorem sh_phs {H : Type} {enc : TypeId × Value → H} {W : World} (fuel : Nat) (cs : List Value) (x : DataW H × List MemPlace) (h : DataW.trod enc Tryd.prog W 0 (fun _ => true) true fuel 29 cs = some x) : ∃ p : Phs, cs = p.cells := by
  have hu : Tryd.prog.underlying 29 = some (.struct (Tryd.prog.fieldsOf 29)) := by kernel_rfl
  have hcells : Tryd.prog.cellsOf 29 = 24 := by kernel_rfl
  obtain ⟨ys, m, _, _, hlen, hyl, hf⟩ := DataW.trod_struct hu h
  rw [hcells] at hlen
  have hq := phs_fields
  have hsz : (Tryd.prog.fieldsOf 29).size = 3 := by kernel_rfl
  rw [hsz] at hyl
  clear hsz
  generalize hfs : Tryd.prog.fieldsOf 29 = fa at hf hq
  obtain ⟨fs⟩ := fa
  simp only at hq
  have hl : fs.length = 3 := by simpa using congrArg List.length hq
  match fs, hl with
  | [f0, f1, f2], _ =>
    simp only [List.map_cons, List.map_nil, List.cons.injEq, Prod.mk.injEq, and_true] at hq
    obtain ⟨⟨t0, o0⟩, ⟨t1, o1⟩, ⟨t2, o2⟩⟩ := hq
    have cb : Tryd.prog.cellsOf 26 = 8 := by kernel_rfl
    have ci : Tryd.prog.cellsOf 27 = 8 := by kernel_rfl
    have g0 := hf 0 f0 rfl
    have g1 := hf 1 f1 rfl
    have g2 := hf 2 f2 rfl
    rw [o0, t0, cb, List.getElem?_eq_getElem (by rw [hyl]; omega)] at g0
    rw [o1, t1, cb, List.getElem?_eq_getElem (by rw [hyl]; omega)] at g1
    rw [o2, t2, ci, List.getElem?_eq_getElem (by rw [hyl]; omega)] at g2
    obtain ⟨l0, e0, z0⟩ := sh_bools _ _ _ g0
    obtain ⟨l1, e1, z1⟩ := sh_bools _ _ _ g1
    obtain ⟨l2, e2, z2⟩ := sh_eight _ _ _ g2
    refine ⟨⟨l0, l1, l2, z0, z1, z2⟩, ?_⟩
    unfold Phs.cells
    simp only
    rw [← e0, ← e1, ← e2, List.drop_zero, List.take_of_length_le (l := cs.drop 16) (by rw [List.length_drop]; omega)]
    rw [show cs.drop 16 = (cs.drop 8).drop 8 by rw [List.drop_drop], List.take_append_drop, List.take_append_drop]
theorem open_phs {H : Type} {enc : TypeId × Value → H} {W : World} {b0 : Nat} {v : Value} {d : DataW H} {p : List MemPlace} (hv : Value.okWide Tryd.prog W .any b0 29 v)
    (h : DataW.Trod enc Tryd.prog W 0 (fun _ => true) true 29 v d p) : ∃ c : Phs, v = c.v := by
  simp only [Value.okWide, Tryd.underlying29] at hv
  obtain ⟨cs, rfl, hsz, _⟩ := hv
  obtain ⟨fuel, hf⟩ := h
  obtain ⟨c, e⟩ := sh_phs _ _ _ hf
  simp only [Value.cells] at e
  refine ⟨c, ?_⟩
  unfold Phs.v
  congr 1
  apply Array.toList_inj.1
  rw [e]

/-- the place of an ask, and its trader -/
def Ab.k (q : Ab) : Nat := (wi q.n 0 31).toNat
theorem Ab.k_lt (q : Ab) : q.k < 32 := by
  have h := wi_in q.n 0 31 (by omega)
  unfold Ab.k
  omega
theorem Ab.k_is (q : Ab) : ((q.k : Nat) : Int) = wi q.n 0 31 := by
  have h := wi_in q.n 0 31 (by omega)
  unfold Ab.k
  omega
def mkO (a b c d : Int) (o : Bool) : Trd := ⟨a, b, c, d, o, List.replicate 32 0, rfl⟩
def Ab.t (q : Ab) : Trd := mkO (wi q.firm 0 3) (wi q.desk 0 2) (wi q.roles 1 15) (wi q.insts 0 255) q.off
theorem builtO (a b c d : Int) (o : Bool) : Tryd.prog.built 35 [(0, .int .i64 a), (1, .int .i64 b), (2, .int .i64 c), (3, .int .i64 d), (4, .bool o)] = some (mkO a b c d o).cells.toArray := by kernel_rfl
theorem exec_mkO {a : Act} {o : Oper} {u : World} (x0 x1 x2 x3 x4 : Operand) (p q r t : Int) (b : Bool) (hop : o.op = .build 35 #[(0, x0), (1, x1), (2, x2), (3, x3), (4, x4)]) (h0 : a.eval x0 = .int .i64 p) (h1 : a.eval x1 = .int .i64 q) (h2 : a.eval x2 = .int .i64 r) (h3 : a.eval x3 = .int .i64 t) (h4 : a.eval x4 = .bool b) : (execOp a.eval o).run Tryd.prog u = .ok (.value (mkO p q r t b).v) u :=
  exec_build _ [(0, x0), (1, x1), (2, x2), (3, x3), (4, x4)] (mkO p q r t b).cells hop (by
    simp only [List.map_cons, List.map_nil, h0, h1, h2, h3, h4]
    exact builtO p q r t b)
/-- the list, so far -/
def absL (l : List Ab) : Trds := l.foldl (fun X q => X.put q.k q.t) zeroX
theorem absL_next (l : List Ab) (i : Nat) (q : Ab) (h : l[i]? = some q) : absL (l.take (i + 1)) = (absL (l.take i)).put q.k q.t := by
  unfold absL
  rw [List.take_add_one, h, List.foldl_append]
  rfl
theorem absL_all (l : List Ab) (i : Nat) (h : l.length ≤ i ∨ i = 40) (h40 : i ≤ 40) : absL (l.take i) = absL (l.take 40) := by
  rcases h with h | h
  · rw [List.take_of_length_le h, List.take_of_length_le (by omega)]
  · rw [h]
theorem mkO_good (q : Ab) : q.t.bad = false := by
  have h1 := wi_in q.firm 0 3 (by omega)
  have h2 := wi_in q.desk 0 2 (by omega)
  have h3 := wi_in q.roles 1 15 (by omega)
  have h4 := wi_in q.insts 0 255 (by omega)
  unfold Trd.bad Trd.may Trd.right Ab.t mkO
  simp only
  rw [upB_true (by omega) (by omega), upB_true (by omega) (by omega), upB_true (by omega) (by omega), upB_true (by omega) (by omega), decide_eq_true (show wi q.roles 1 15 ≠ 0 by omega)]
  simp
theorem zero_good0 : zeroT.bad = false := by decide +kernel
theorem absL_good (l : List Ab) : ∀ X : Trds, X.Ok → (l.foldl (fun X q => X.put q.k q.t) X).Ok := by
  induction l with
  | nil => exact fun X h => h
  | cons q l ih =>
    intro X h
    refine ih _ fun i hi => ?_
    rw [Trds.at_put _ _ _ _ q.k_lt]
    split
    · exact mkO_good q
    · exact h i hi
theorem abs_good (l : List Ab) : (absL l).Ok := absL_good l zeroX fun i hi => by rw [zeroX_at]; exact zero_good0
set_option maxRecDepth 100000 in
set_option maxHeartbeats 3200000 in
theorem abs_any (w : World) (v : Value) (l : List Ab) (hl : Abs w v l) : Gives 11 #[v] w (.eq (absL (l.take 40)).v) := by
  refine gives_eq ?_
  have HA := Lib.hid hl
  obtain ⟨A, n, c, rfl, hn, hm⟩ : ∃ A n c, v = .slice A n c ∧ l.length = n ∧ n ≤ maxLen := by
    obtain ⟨A, n, c, h1, h2, _, h3, _⟩ := hl
    exact ⟨A, n, c, h1, h2, h3⟩
  clear hl
  unfold maxLen at hm
  have HN := Lib.hid hn
  clear hn
  obtain ⟨R, hR⟩ : ∃ R, absL (l.take 40) = R := ⟨_, rfl⟩
  have HR := Lib.hid hR
  rw [hR]
  clear hR
  obtain ⟨w1, hw1⟩ : ∃ w1, w.alloc (.cells zeroX.cells.toArray 36) = w1 := ⟨_, rfl⟩
  obtain ⟨w2, hw2⟩ : ∃ w2, w1.alloc (.cells zeroX.cells.toArray 36) = w2 := ⟨_, rfl⟩
  have k1 : Kept w w1 := by rw [← hw1]; exact (Keep.refl _ w).alloc _
  have k2 : Kept w1 w2 := by rw [← hw2]; exact (Keep.refl _ w1).alloc _
  have hN1 : Blk w1 w.heap.size 36 zeroX.cells := by rw [← hw1]; exact Blk.new w _ _
  have hX2 : Blk w2 w1.heap.size 36 zeroX.cells := by rw [← hw2]; exact Blk.new w1 _ _
  have s1 : w1.heap.size = w.heap.size + 1 := by rw [← hw1]; simp
  go_enter Tryd.func11, Tryd.ntmps11
  go_upto_region 0 with fail
  refine wp_region_lit ?_
  refine l_new (o := ⟨some 2, _, _, _, _, _⟩) (.pointer (some ⟨w.heap.size, 0, none⟩)) w1 rfl (by rw [← hw1]; exact exec_alc 36 zeroX.cells rfl zX) ?_
  simp only [Act.put, List.setIfInBounds_toArray, List.set_cons_succ, List.set_cons_zero]
  refine wpList_nil ?_
  go_upto_region 1 with fail
  refine wp_region_lit ?_
  refine l_new (o := ⟨some 3, _, _, _, _, _⟩) (.pointer (some ⟨w1.heap.size, 0, none⟩)) w2 rfl (by rw [← hw2]; exact exec_alc 36 zeroX.cells rfl zX) ?_
  simp only [Act.put, List.setIfInBounds_toArray, List.set_cons_succ, List.set_cons_zero]
  refine wpList_nil ?_
  have HN2 := Lib.hid (hN1.kept k2)
  have HX2 := Lib.hid hX2
  have kw2 := k1.trans k2
  have z2 := hX2.lt
  clear hN1 hX2 hw1 hw2 k1 k2
  obtain ⟨gr, hgr⟩ : ∃ g, w.heap.size = g := ⟨_, rfl⟩
  obtain ⟨gx, hgx⟩ : ∃ g, w1.heap.size = g := ⟨_, rfl⟩
  rw [hgr] at HN2 s1 ⊢
  rw [hgx] at HX2 s1 z2 ⊢
  clear hgx
  go_wp2_with fail
  go_loopw [4] (fun q wr => ∃ i : Nat, q = .int .i64 (i : Int) ∧ i ≤ 40 ∧ i ≤ n ∧ Hid (Blk wr gx 36 (absL (l.take i)).cells) ∧ Keep (· = gx) w2 wr) (fun q _ => 40 - (intOf q).toNat)
  case atStart => exact ⟨0, rfl, by omega, by omega, HX2, Keep.refl _ _⟩
  case round =>
    obtain ⟨i, rfl, hi, hin, HXr, hkr⟩ := hrel
    by_cases hlt : i < n ∧ i < 40
    · obtain ⟨hin', hi20⟩ := hlt
      have hil : i < l.length := by rw [HN.out]; exact hin'
      obtain ⟨q, hq⟩ : ∃ q, l[i]? = some q := ⟨_, List.getElem?_eq_getElem hil⟩
      have HNx := Lib.hid (absL_next l i q hq)
      generalize absL (l.take i) = Y at HXr HNx
      obtain ⟨A', n', c', e1, _, _, _, h4⟩ := HA.out
      injection e1 with e1 e2 e3
      subst e1 e2 e3
      obtain ⟨g, off, rfl, hr⟩ := h4 i q hq
      have HE := Lib.hid (range_keep (range_kept hr kw2) hkr (by
        have h0 := hr 0 _ (show q.cells[0]? = some (.int .i64 q.n) from rfl)
        have : g < w.heap.size := World.block_lt_of_cell? w _ h0
        omega))
      clear h4 hr hq hil
      go_upto_region 3 with fail
      refine wp_text 8 [.eq (.int .i64 (i : Int)), .eq (.slice (some ⟨g, off, none⟩) n c), .eq (.int .i64 (n : Int)), .eq (.bool true), .eq (.bool true), .eq (.int .i64 (i : Int)), .eq (.bool true), .eq (.bool true)] rfl (by kernel_rfl) ?_ ?_
      · refine sv 1 rfl rfl rfl (fun a u hE hD hk => exec_move (.tmp 4) _ rfl (hE 4 (.int .i64 (i : Int)) (by kernel_rfl) (by kernel_rfl))) ?_
        refine sv 2 rfl rfl rfl (fun a u hE hD hk => exec_move (.tmp 0) _ rfl (hE 0 (.slice (some ⟨g, off, none⟩) n c) (by kernel_rfl) (by kernel_rfl))) ?_
        refine sv 3 rfl rfl rfl (fun a u hE hD hk => exec_len (.tmp 6) _ _ slAb.und (some ⟨g, off, none⟩) n c rfl (hD 1 6 (by kernel_rfl))) ?_
        refine fsteps_cons 4 rfl (fun a u hE hD hk => f_as (show ((decide (((i : Int) : Int) < ((n : Int) : Int))) : Bool) = true from decide_eq_true (by omega)) (f_val (o := ⟨some 8, _, _, _, _, _⟩) (.bool (decide (((i : Int) : Int) < ((n : Int) : Int)))) rfl (wanted_none rfl _) (exec_ltn (p := (i : Int)) (q := (n : Int)) rfl (hD 0 5 (by kernel_rfl)) (hD 2 7 (by kernel_rfl))) rfl)) ?_
        refine sv 5 rfl rfl rfl (fun a u hE hD hk => exec_move (.tmp 8) _ rfl (hD 3 8 (by kernel_rfl))) ?_
        refine fsteps_cons 6 rfl (fun a u hE hD hk => f_val (o := ⟨some 10, _, _, _, _, _⟩) (.int .i64 (i : Int)) rfl (wanted_at (b := true) true rfl rfl (hD 4 9 (by kernel_rfl))) (exec_move (.tmp 4) _ rfl (hE 4 (.int .i64 (i : Int)) (by kernel_rfl) (by kernel_rfl))) rfl) ?_
        refine fsteps_cons 7 rfl (fun a u hE hD hk => f_as (show ((decide (((i : Int) : Int) < (40 : Int))) : Bool) = true from decide_eq_true (by omega)) (f_val (o := ⟨some 11, _, _, _, _, _⟩) (.bool (decide (((i : Int) : Int) < (40 : Int)))) rfl (wanted_at (b := true) true rfl rfl (hD 4 9 (by kernel_rfl))) (exec_ltn (p := (i : Int)) (q := 40) rfl (hD 5 10 (by kernel_rfl)) rfl) rfl)) ?_
        refine sv 8 rfl rfl rfl (fun a u hE hD hk => exec_pick (.tmp 9) (.tmp 11) (.const (.bool false)) (.bool true) rfl (hD 4 9 (by kernel_rfl)) (hD 6 11 (by kernel_rfl))) ?_
        exact fsteps_nil
      intro gv w3 hV k3
      rw [show dstsOf _ 8 = [5, 6, 7, 8, 9, 10, 11, 12] by kernel_rfl]
      simp only [List.foldl_cons, List.foldl_nil, List.setIfInBounds_toArray, List.set_cons_succ, List.set_cons_zero, List.drop_succ_cons, List.drop_zero]
      rw [show gv 12 = .bool true from hV 7 12 (by kernel_rfl)]
      clear hV
      refine wpList_nil ?_
      have HE3 := Lib.hid (range_kept HE.out k3)
      have HX3 := Lib.hid (HXr.out.kept k3)
      obtain ⟨k, hk⟩ : ∃ k : Nat, q.k = k := ⟨_, rfl⟩
      have hk32 : k < 32 := by rw [← hk]; exact q.k_lt
      have HWk : Hid (wi q.n 0 31 = (k : Int)) := by show _ = _; rw [← hk]; exact q.k_is.symm
      obtain ⟨m, hmq⟩ : ∃ m, q.t = m := ⟨_, rfl⟩
      have HMq := Lib.hid hmq
      rw [hk, hmq] at HNx
      clear HE HXr hk hmq
      go_upto_region 5 with fail
      refine wp_free 36 [.eq (.slice (some ⟨g, off, none⟩) n c), .eq (.int .i64 (i : Int)), .eq (.pointer (some ⟨g, off + i * 6, none⟩)), .eq (.pointer (some ⟨g, off + i * 6, none⟩)), .eq (.int .i64 q.n), .eq (.int .i64 (k : Int)), .eq (.slice (some ⟨g, off, none⟩) n c), .eq (.int .i64 (i : Int)), .eq (.pointer (some ⟨g, off + i * 6, none⟩)), .eq (.pointer (some ⟨g, off + i * 6 + 1, none⟩)), .eq (.int .i64 q.firm), .eq (.int .i64 (wi q.firm 0 3)), .eq (.slice (some ⟨g, off, none⟩) n c), .eq (.int .i64 (i : Int)), .eq (.pointer (some ⟨g, off + i * 6, none⟩)), .eq (.pointer (some ⟨g, off + i * 6 + 2, none⟩)), .eq (.int .i64 q.desk), .eq (.int .i64 (wi q.desk 0 2)), .eq (.slice (some ⟨g, off, none⟩) n c), .eq (.int .i64 (i : Int)), .eq (.pointer (some ⟨g, off + i * 6, none⟩)), .eq (.pointer (some ⟨g, off + i * 6 + 3, none⟩)), .eq (.int .i64 q.roles), .eq (.int .i64 (wi q.roles 1 15)), .eq (.slice (some ⟨g, off, none⟩) n c), .eq (.int .i64 (i : Int)), .eq (.pointer (some ⟨g, off + i * 6, none⟩)), .eq (.pointer (some ⟨g, off + i * 6 + 4, none⟩)), .eq (.int .i64 q.insts), .eq (.int .i64 (wi q.insts 0 255)), .eq (.slice (some ⟨g, off, none⟩) n c), .eq (.int .i64 (i : Int)), .eq (.pointer (some ⟨g, off + i * 6, none⟩)), .eq (.pointer (some ⟨g, off + i * 6 + 5, none⟩)), .eq (.bool q.off), .eq (m.v)] (by kernel_rfl) rfl (by kernel_rfl) ?_ ?_
      · refine sv 1 rfl rfl rfl (fun a u hE hD hk => exec_move (.tmp 0) _ rfl (hE 0 (.slice (some ⟨g, off, none⟩) n c) (by kernel_rfl) (by kernel_rfl))) ?_
        refine sv 2 rfl rfl rfl (fun a u hE hD hk => exec_move (.tmp 4) _ rfl (hE 4 (.int .i64 (i : Int)) (by kernel_rfl) (by kernel_rfl))) ?_
        refine sv 3 rfl rfl rfl (fun a u hE hD hk => exec_ixo slAb (.tmp 15) (.tmp 16) (g) (off) n c i (off + i * 6) ((i : Int)) rfl (hD 0 15 (by kernel_rfl)) (hD 1 16 (by kernel_rfl)) (by first | rfl | omega) (hin') (by first | rfl | omega)) ?_
        refine sv 4 rfl rfl rfl (fun a u hE hD hk => exec_fldo 55 0 0 (.tmp 17) (g) (off + i * 6) (off + i * 6) rfl (hD 2 17 (by kernel_rfl)) (by kernel_rfl) rfl) ?_
        refine sv 5 rfl rfl rfl (fun a u hE hD hk => exec_loadi 3 Tryd.underlying3 (.tmp 18) ⟨g, off + i * 6, none⟩ (.int .i64 q.n) rfl (hD 3 18 (by kernel_rfl)) ((range_kept HE3.out hk) 0 _ rfl)) ?_
        refine fsteps_cons 6 rfl (fun a u hE hD hk => f_call (o := ⟨some 20, _, _, _, _, _⟩) 15 #[.int .i64 q.n, .int .i64 0, .int .i64 31] rfl (wanted_none rfl _) (exec_call 15 _ [.tmp 19, .const (.int .i64 0), .const (.int .i64 31)] _ [.int .i64 q.n, .int .i64 0, .int .i64 31] Tryd.func15 (by kernel_rfl) (by kernel_rfl) rfl (show [a.eval (.tmp 19), a.eval (.const (.int .i64 0)), a.eval (.const (.int .i64 31))] = [.int .i64 q.n, .int .i64 0, .int .i64 31] from (by rw [show a.eval (.tmp 19) = .int .i64 q.n from (hD 4 19 (by kernel_rfl))] <;> rfl)) u) (by rw [← HWk.out]; exact within_is q.n 0 31 u (by omega) (by omega) (by omega))) ?_
        refine sv 7 rfl rfl rfl (fun a u hE hD hk => exec_move (.tmp 0) _ rfl (hE 0 (.slice (some ⟨g, off, none⟩) n c) (by kernel_rfl) (by kernel_rfl))) ?_
        refine sv 8 rfl rfl rfl (fun a u hE hD hk => exec_move (.tmp 4) _ rfl (hE 4 (.int .i64 (i : Int)) (by kernel_rfl) (by kernel_rfl))) ?_
        refine sv 9 rfl rfl rfl (fun a u hE hD hk => exec_ixo slAb (.tmp 21) (.tmp 22) (g) (off) n c i (off + i * 6) ((i : Int)) rfl (hD 6 21 (by kernel_rfl)) (hD 7 22 (by kernel_rfl)) (by first | rfl | omega) (hin') (by first | rfl | omega)) ?_
        refine sv 10 rfl rfl rfl (fun a u hE hD hk => exec_fldo 55 1 1 (.tmp 23) (g) (off + i * 6) (off + i * 6 + 1) rfl (hD 8 23 (by kernel_rfl)) (by kernel_rfl) rfl) ?_
        refine sv 11 rfl rfl rfl (fun a u hE hD hk => exec_loadi 3 Tryd.underlying3 (.tmp 24) ⟨g, off + i * 6 + 1, none⟩ (.int .i64 q.firm) rfl (hD 9 24 (by kernel_rfl)) ((range_kept HE3.out hk) 1 _ rfl)) ?_
        refine fsteps_cons 12 rfl (fun a u hE hD hk => f_call (o := ⟨some 26, _, _, _, _, _⟩) 15 #[.int .i64 q.firm, .int .i64 0, .int .i64 3] rfl (wanted_none rfl _) (exec_call 15 _ [.tmp 25, .const (.int .i64 0), .const (.int .i64 3)] _ [.int .i64 q.firm, .int .i64 0, .int .i64 3] Tryd.func15 (by kernel_rfl) (by kernel_rfl) rfl (show [a.eval (.tmp 25), a.eval (.const (.int .i64 0)), a.eval (.const (.int .i64 3))] = [.int .i64 q.firm, .int .i64 0, .int .i64 3] from (by rw [show a.eval (.tmp 25) = .int .i64 q.firm from (hD 10 25 (by kernel_rfl))] <;> rfl)) u) (within_is q.firm 0 3 u (by omega) (by omega) (by omega))) ?_
        refine sv 13 rfl rfl rfl (fun a u hE hD hk => exec_move (.tmp 0) _ rfl (hE 0 (.slice (some ⟨g, off, none⟩) n c) (by kernel_rfl) (by kernel_rfl))) ?_
        refine sv 14 rfl rfl rfl (fun a u hE hD hk => exec_move (.tmp 4) _ rfl (hE 4 (.int .i64 (i : Int)) (by kernel_rfl) (by kernel_rfl))) ?_
        refine sv 15 rfl rfl rfl (fun a u hE hD hk => exec_ixo slAb (.tmp 27) (.tmp 28) (g) (off) n c i (off + i * 6) ((i : Int)) rfl (hD 12 27 (by kernel_rfl)) (hD 13 28 (by kernel_rfl)) (by first | rfl | omega) (hin') (by first | rfl | omega)) ?_
        refine sv 16 rfl rfl rfl (fun a u hE hD hk => exec_fldo 55 2 2 (.tmp 29) (g) (off + i * 6) (off + i * 6 + 2) rfl (hD 14 29 (by kernel_rfl)) (by kernel_rfl) rfl) ?_
        refine sv 17 rfl rfl rfl (fun a u hE hD hk => exec_loadi 3 Tryd.underlying3 (.tmp 30) ⟨g, off + i * 6 + 2, none⟩ (.int .i64 q.desk) rfl (hD 15 30 (by kernel_rfl)) ((range_kept HE3.out hk) 2 _ rfl)) ?_
        refine fsteps_cons 18 rfl (fun a u hE hD hk => f_call (o := ⟨some 32, _, _, _, _, _⟩) 15 #[.int .i64 q.desk, .int .i64 0, .int .i64 2] rfl (wanted_none rfl _) (exec_call 15 _ [.tmp 31, .const (.int .i64 0), .const (.int .i64 2)] _ [.int .i64 q.desk, .int .i64 0, .int .i64 2] Tryd.func15 (by kernel_rfl) (by kernel_rfl) rfl (show [a.eval (.tmp 31), a.eval (.const (.int .i64 0)), a.eval (.const (.int .i64 2))] = [.int .i64 q.desk, .int .i64 0, .int .i64 2] from (by rw [show a.eval (.tmp 31) = .int .i64 q.desk from (hD 16 31 (by kernel_rfl))] <;> rfl)) u) (within_is q.desk 0 2 u (by omega) (by omega) (by omega))) ?_
        refine sv 19 rfl rfl rfl (fun a u hE hD hk => exec_move (.tmp 0) _ rfl (hE 0 (.slice (some ⟨g, off, none⟩) n c) (by kernel_rfl) (by kernel_rfl))) ?_
        refine sv 20 rfl rfl rfl (fun a u hE hD hk => exec_move (.tmp 4) _ rfl (hE 4 (.int .i64 (i : Int)) (by kernel_rfl) (by kernel_rfl))) ?_
        refine sv 21 rfl rfl rfl (fun a u hE hD hk => exec_ixo slAb (.tmp 33) (.tmp 34) (g) (off) n c i (off + i * 6) ((i : Int)) rfl (hD 18 33 (by kernel_rfl)) (hD 19 34 (by kernel_rfl)) (by first | rfl | omega) (hin') (by first | rfl | omega)) ?_
        refine sv 22 rfl rfl rfl (fun a u hE hD hk => exec_fldo 55 3 3 (.tmp 35) (g) (off + i * 6) (off + i * 6 + 3) rfl (hD 20 35 (by kernel_rfl)) (by kernel_rfl) rfl) ?_
        refine sv 23 rfl rfl rfl (fun a u hE hD hk => exec_loadi 3 Tryd.underlying3 (.tmp 36) ⟨g, off + i * 6 + 3, none⟩ (.int .i64 q.roles) rfl (hD 21 36 (by kernel_rfl)) ((range_kept HE3.out hk) 3 _ rfl)) ?_
        refine fsteps_cons 24 rfl (fun a u hE hD hk => f_call (o := ⟨some 38, _, _, _, _, _⟩) 15 #[.int .i64 q.roles, .int .i64 1, .int .i64 15] rfl (wanted_none rfl _) (exec_call 15 _ [.tmp 37, .const (.int .i64 1), .const (.int .i64 15)] _ [.int .i64 q.roles, .int .i64 1, .int .i64 15] Tryd.func15 (by kernel_rfl) (by kernel_rfl) rfl (show [a.eval (.tmp 37), a.eval (.const (.int .i64 1)), a.eval (.const (.int .i64 15))] = [.int .i64 q.roles, .int .i64 1, .int .i64 15] from (by rw [show a.eval (.tmp 37) = .int .i64 q.roles from (hD 22 37 (by kernel_rfl))] <;> rfl)) u) (within_is q.roles 1 15 u (by omega) (by omega) (by omega))) ?_
        refine sv 25 rfl rfl rfl (fun a u hE hD hk => exec_move (.tmp 0) _ rfl (hE 0 (.slice (some ⟨g, off, none⟩) n c) (by kernel_rfl) (by kernel_rfl))) ?_
        refine sv 26 rfl rfl rfl (fun a u hE hD hk => exec_move (.tmp 4) _ rfl (hE 4 (.int .i64 (i : Int)) (by kernel_rfl) (by kernel_rfl))) ?_
        refine sv 27 rfl rfl rfl (fun a u hE hD hk => exec_ixo slAb (.tmp 39) (.tmp 40) (g) (off) n c i (off + i * 6) ((i : Int)) rfl (hD 24 39 (by kernel_rfl)) (hD 25 40 (by kernel_rfl)) (by first | rfl | omega) (hin') (by first | rfl | omega)) ?_
        refine sv 28 rfl rfl rfl (fun a u hE hD hk => exec_fldo 55 4 4 (.tmp 41) (g) (off + i * 6) (off + i * 6 + 4) rfl (hD 26 41 (by kernel_rfl)) (by kernel_rfl) rfl) ?_
        refine sv 29 rfl rfl rfl (fun a u hE hD hk => exec_loadi 3 Tryd.underlying3 (.tmp 42) ⟨g, off + i * 6 + 4, none⟩ (.int .i64 q.insts) rfl (hD 27 42 (by kernel_rfl)) ((range_kept HE3.out hk) 4 _ rfl)) ?_
        refine fsteps_cons 30 rfl (fun a u hE hD hk => f_call (o := ⟨some 44, _, _, _, _, _⟩) 15 #[.int .i64 q.insts, .int .i64 0, .int .i64 255] rfl (wanted_none rfl _) (exec_call 15 _ [.tmp 43, .const (.int .i64 0), .const (.int .i64 255)] _ [.int .i64 q.insts, .int .i64 0, .int .i64 255] Tryd.func15 (by kernel_rfl) (by kernel_rfl) rfl (show [a.eval (.tmp 43), a.eval (.const (.int .i64 0)), a.eval (.const (.int .i64 255))] = [.int .i64 q.insts, .int .i64 0, .int .i64 255] from (by rw [show a.eval (.tmp 43) = .int .i64 q.insts from (hD 28 43 (by kernel_rfl))] <;> rfl)) u) (within_is q.insts 0 255 u (by omega) (by omega) (by omega))) ?_
        refine sv 31 rfl rfl rfl (fun a u hE hD hk => exec_move (.tmp 0) _ rfl (hE 0 (.slice (some ⟨g, off, none⟩) n c) (by kernel_rfl) (by kernel_rfl))) ?_
        refine sv 32 rfl rfl rfl (fun a u hE hD hk => exec_move (.tmp 4) _ rfl (hE 4 (.int .i64 (i : Int)) (by kernel_rfl) (by kernel_rfl))) ?_
        refine sv 33 rfl rfl rfl (fun a u hE hD hk => exec_ixo slAb (.tmp 45) (.tmp 46) (g) (off) n c i (off + i * 6) ((i : Int)) rfl (hD 30 45 (by kernel_rfl)) (hD 31 46 (by kernel_rfl)) (by first | rfl | omega) (hin') (by first | rfl | omega)) ?_
        refine sv 34 rfl rfl rfl (fun a u hE hD hk => exec_fldo 55 5 5 (.tmp 47) (g) (off + i * 6) (off + i * 6 + 5) rfl (hD 32 47 (by kernel_rfl)) (by kernel_rfl) rfl) ?_
        refine sv 35 rfl rfl rfl (fun a u hE hD hk => exec_ldb 4 Tryd.underlying4 (.tmp 48) ⟨g, off + i * 6 + 5, none⟩ (.bool q.off) rfl (hD 33 48 (by kernel_rfl)) ((range_kept HE3.out hk) 5 _ rfl)) ?_
        refine sv 36 rfl rfl rfl (fun a u hE hD hk => by rw [← HMq.out]; exact exec_mkO (.tmp 26) (.tmp 32) (.tmp 38) (.tmp 44) (.tmp 49) _ _ _ _ _ rfl (hD 11 26 (by kernel_rfl)) (hD 17 32 (by kernel_rfl)) (hD 23 38 (by kernel_rfl)) (hD 29 44 (by kernel_rfl)) (hD 34 49 (by kernel_rfl))) ?_
        exact fsteps_nil
      intro gv w4 hV k4
      rw [show dstsOf _ 36 = [15, 16, 17, 18, 19, 20, 21, 22, 23, 24, 25, 26, 27, 28, 29, 30, 31, 32, 33, 34, 35, 36, 37, 38, 39, 40, 41, 42, 43, 44, 45, 46, 47, 48, 49, 50] by kernel_rfl]
      simp only [List.foldl_cons, List.foldl_nil, List.setIfInBounds_toArray, List.set_cons_succ, List.set_cons_zero, List.drop_succ_cons, List.drop_zero]
      rw [show gv 20 = .int .i64 (k : Int) from hV 5 20 (by kernel_rfl)]
      rw [show gv 50 = m.v from hV 35 50 (by kernel_rfl)]
      clear hV
      refine l_val (o := ⟨some 51, _, _, _, _, _⟩) (.pointer (some ⟨gx, k * 37, none⟩)) rfl (exec_ixA (.tmp 3) (.tmp 20) gx k _ rfl (by kernel_rfl) (by kernel_rfl) rfl hk32) ?_
      simp only [Act.put, List.setIfInBounds_toArray, List.set_cons_succ, List.set_cons_zero]
      refine l_putT (o := ⟨none, _, _, _, _, _⟩) gx k 36 Y m (.tmp 51) (.tmp 50) rfl rfl (by kernel_rfl) (by kernel_rfl) (HX3.out.kept k4) hk32 ?_
      intro w5 hB5 hk5 hs5
      simp only [Act.put]
      refine wpList_nil ?_
      rw [← HNx.out] at hB5
      have HB5 := Lib.hid hB5
      have kr5 : Keep (· = gx) w2 w5 := (hkr.kept (k3.trans k4)).trans hk5 (fun _ _ h => h)
      clear hB5 hk5 hs5 HX3 HE3 HNx HMq HWk k3 k4 hkr
      go_wp2
      exact ⟨⟨i + 1, by simp, by omega, by omega, HB5, kr5⟩, by simp [intOf]; omega⟩
    · have HLA := Lib.hid (absL_all l i (by rw [HN.out]; omega) hi)
      rw [HLA.out, HR.out] at HXr
      clear HLA HR
      have HNr := Lib.hid (HN2.out.keep hkr (by omega))
      clear HN2 HA
      go_upto_region 3 with fail
      refine wp_text 8 [.eq (.int .i64 (i : Int)), .eq (.slice A n c), .eq (.int .i64 (n : Int)), .eq (.bool (decide (((i : Int) : Int) < ((n : Int) : Int)))), .eq (.bool (decide (((i : Int) : Int) < ((n : Int) : Int)))), .cond (decide (((i : Int) : Int) < ((n : Int) : Int))) (.eq (.int .i64 (i : Int))), .cond (decide (((i : Int) : Int) < ((n : Int) : Int))) (.eq (.bool (decide (((i : Int) : Int) < (40 : Int))))), .eq (.bool false)] rfl (by kernel_rfl) ?_ ?_
      · refine sv 1 rfl rfl rfl (fun a u hE hD hk => exec_move (.tmp 4) _ rfl (hE 4 (.int .i64 (i : Int)) (by kernel_rfl) (by kernel_rfl))) ?_
        refine sv 2 rfl rfl rfl (fun a u hE hD hk => exec_move (.tmp 0) _ rfl (hE 0 (.slice A n c) (by kernel_rfl) (by kernel_rfl))) ?_
        refine sv 3 rfl rfl rfl (fun a u hE hD hk => exec_len (.tmp 6) _ _ slAb.und A n c rfl (hD 1 6 (by kernel_rfl))) ?_
        refine sv 4 rfl rfl rfl (fun a u hE hD hk => exec_ltn (p := (i : Int)) (q := (n : Int)) rfl (hD 0 5 (by kernel_rfl)) (hD 2 7 (by kernel_rfl))) ?_
        refine sv 5 rfl rfl rfl (fun a u hE hD hk => exec_move (.tmp 8) _ rfl (hD 3 8 (by kernel_rfl))) ?_
        refine fsteps_cons 6 rfl (fun a u hE hD hk => f_if ((decide (((i : Int) : Int) < ((n : Int) : Int)))) rfl rfl rfl (hD 4 9 (by kernel_rfl)) (fun hb => f_val (o := ⟨some 10, _, _, _, _, _⟩) (.int .i64 (i : Int)) rfl (wanted_b rfl rfl (hD 4 9 (by kernel_rfl)) (eq_true_of hb)) (exec_move (.tmp 4) _ rfl (hE 4 (.int .i64 (i : Int)) (by kernel_rfl) (by kernel_rfl))) rfl)) ?_
        refine fsteps_cons 7 rfl (fun a u hE hD hk => f_if ((decide (((i : Int) : Int) < ((n : Int) : Int)))) rfl rfl rfl (hD 4 9 (by kernel_rfl)) (fun hb => f_val (o := ⟨some 11, _, _, _, _, _⟩) (.bool (decide (((i : Int) : Int) < (40 : Int)))) rfl (wanted_b rfl rfl (hD 4 9 (by kernel_rfl)) (eq_true_of hb)) (exec_ltn (p := (i : Int)) (q := 40) rfl ((hD 5 10 (by kernel_rfl)).1 hb) rfl) rfl)) ?_
        refine fsteps_cons 8 rfl (fun a u hE hD hk => f_as (show (((decide (((i : Int) : Int) < ((n : Int) : Int))) && (decide (((i : Int) : Int) < (40 : Int)))) : Bool) = false from (by rw [Bool.and_eq_false_iff]; simp only [decide_eq_false_iff_not]; omega)) (f_val (o := ⟨some 12, _, _, _, _, _⟩) (.bool ((decide (((i : Int) : Int) < ((n : Int) : Int))) && (decide (((i : Int) : Int) < (40 : Int))))) rfl (wanted_none rfl _) (exec_pickand (.tmp 9) (.tmp 11) (.const (.bool false)) ((decide (((i : Int) : Int) < ((n : Int) : Int)))) ((decide (((i : Int) : Int) < (40 : Int)))) rfl (hD 4 9 (by kernel_rfl)) (fun hb2 => ((hD 6 11 (by kernel_rfl)).1 hb2)) rfl) rfl)) ?_
        exact fsteps_nil
      intro gv wa hV ka
      rw [show dstsOf _ 8 = [5, 6, 7, 8, 9, 10, 11, 12] by kernel_rfl]
      simp only [List.foldl_cons, List.foldl_nil, List.setIfInBounds_toArray, List.set_cons_succ, List.set_cons_zero, List.drop_succ_cons, List.drop_zero]
      rw [show gv 12 = .bool false from hV 7 12 (by kernel_rfl)]
      clear hV
      refine wpList_nil ?_
      have HXd := Lib.hid (HXr.out.kept ka)
      have HNd := Lib.hid (HNr.out.kept ka)
      have kwd : Kept w wa := kw2.trans' (hkr.kept ka) (by omega)
      clear HXr HNr hkr ka
      go_upto_region 6 with fail
      refine wp_text 1 [.eq (R.v)] rfl (by kernel_rfl) ?_ ?_
      · refine sv 1 rfl rfl rfl (fun a u hE hD hk => exec_ldX R (.tmp 3) (gx) _ rfl (hE 3 (.pointer (some ⟨gx, 0, none⟩)) (by kernel_rfl) (by kernel_rfl)) (HXd.out.kept hk)) ?_
        exact fsteps_nil
      intro gv we hV ke
      rw [show dstsOf _ 1 = [52] by kernel_rfl]
      simp only [List.foldl_cons, List.foldl_nil, List.setIfInBounds_toArray, List.set_cons_succ, List.set_cons_zero, List.drop_succ_cons, List.drop_zero]
      rw [show gv 52 = R.v from hV 0 52 (by kernel_rfl)]
      clear hV
      refine l_setS (o := ⟨none, _, _, _, _, _⟩) 36 gr 36 zeroX.cells R.cells (.tmp 2) (.tmp 52) rfl rfl (by kernel_rfl) (by kernel_rfl) (HNd.out.kept ke) (by rw [Trds.len]; exact szX) (by rw [Trds.len, Trds.len]) (Trds.one _) ?_
      intro wf hBf hkf hsf
      simp only [Act.put]
      refine wpList_nil ?_
      have kwf : Kept w wf := (kwd.trans ke).trans' hkf (by omega)
      clear HXd HNd hkf hsf ke
      go_wp2
      refine bodyPost_ret (results_cellX (p := 2) rfl _ _ gr _ R rfl hBf) rfl ?_
      exact ⟨rfl, kwf⟩
end Go.Proofs.YtfoamgljfdnloaaDoor
