/-
  Traders and lists of 32 of them: their cells; what operations at them yield; bits of a word. No condition.
-/
import Derived.Test.YtfoamgljfdnloaaDoorSegEx
import Derived.Test.YtfoamgljfdnloaaDoorCmd
import Derived.Test.YtfoamgljfdnloaaDoorClose
import Derived.Test.YtfoamgljfdnloaaDoorCloseC
import Derived.Test.YtfoamgljfdnloaaDoorWi
import Derived.Laws.BitsAllLaws
namespace Go.Proofs.YtfoamgljfdnloaaDoor
open Go.RowKit Go.ChangeShapes Go.WideShapes Go.ChangeAt
set_option linter.unusedVariables false
set_option maxRecDepth 100000

structure Trd where
  firm : Int
  desk : Int
  roles : Int
  insts : Int
  off : Bool
  key : List UInt8
  hk : key.length = 32
theorem Trd.ext_ {c d : Trd} (h1 : c.firm = d.firm) (h2 : c.desk = d.desk) (h3 : c.roles = d.roles) (h4 : c.insts = d.insts) (h5 : c.off = d.off) (h6 : c.key = d.key) : c = d := by
  cases c
  cases d
  simp only at h1 h2 h3 h4 h5 h6
  subst h1 h2 h3 h4 h5 h6
  rfl
instance : DecidableEq Trd := fun c d => decidable_of_iff (c.firm = d.firm ∧ c.desk = d.desk ∧ c.roles = d.roles ∧ c.insts = d.insts ∧ c.off = d.off ∧ c.key = d.key)
  ⟨fun ⟨h1, h2, h3, h4, h5, h6⟩ => Trd.ext_ h1 h2 h3 h4 h5 h6, fun h => by subst h; exact ⟨rfl, rfl, rfl, rfl, rfl, rfl⟩⟩
def Trd.cells (t : Trd) : List Value := .int .i64 t.firm :: .int .i64 t.desk :: .int .i64 t.roles :: .int .i64 t.insts :: .bool t.off :: cells8 t.key
def Trd.v (t : Trd) : Value := .agg t.cells.toArray
theorem Trd.len37 (t : Trd) : t.cells.length = 37 := by
  show (cells8 t.key).length + 1 + 1 + 1 + 1 + 1 = 37
  rw [len8, t.hk]
theorem Trd.one (t : Trd) : ∀ u ∈ t.cells, u.oneCell' = true := by
  intro u hu
  simp only [Trd.cells, List.mem_cons] at hu
  rcases hu with rfl | rfl | rfl | rfl | rfl | h
  · rfl
  · rfl
  · rfl
  · rfl
  · rfl
  · exact cells8_one _ u h
def zeroT : Trd := ⟨0, 0, 0, 0, false, List.replicate 32 0, rfl⟩
theorem szT : (Tryd.prog.info? 35).map (·.size) = some 37 := by kernel_rfl
theorem zT : (Tryd.prog.info? 35).map (·.zero) = some (some (.agg zeroT.cells.toArray)) := by kernel_rfl

/-- 32 traders -/
structure Trds where
  L : List Trd
  h : L.length = 32
def Trds.at_ (X : Trds) (i : Nat) : Trd := X.L.getD i zeroT
theorem Trds.some_ (X : Trds) {i : Nat} (hi : i < 32) : X.L[i]? = some (X.at_ i) := by
  unfold Trds.at_
  rw [List.getElem?_eq_getElem (by rw [X.h]; exact hi), List.getD_eq_getElem?_getD, List.getElem?_eq_getElem (by rw [X.h]; exact hi)]
  rfl
theorem Trds.ext_ {X Y : Trds} (h : ∀ i, i < 32 → X.at_ i = Y.at_ i) : X = Y := by
  obtain ⟨L, hL⟩ := X
  obtain ⟨M, hM⟩ := Y
  have : L = M := by
    apply List.ext_getElem?
    intro i
    by_cases hi : i < 32
    · have h1 := Trds.some_ ⟨L, hL⟩ hi
      have h2 := Trds.some_ ⟨M, hM⟩ hi
      simp only at h1 h2
      rw [h1, h2, h i hi]
    · rw [List.getElem?_eq_none (by omega), List.getElem?_eq_none (by omega)]
  subst this
  rfl
def Trds.put (X : Trds) (i : Nat) (y : Trd) : Trds := ⟨X.L.set i y, by rw [List.length_set]; exact X.h⟩
theorem Trds.at_put (X : Trds) (i j : Nat) (y : Trd) (hi : i < 32) : (X.put i y).at_ j = if i = j then y else X.at_ j := by
  unfold Trds.at_ Trds.put
  simp only [List.getD_eq_getElem?_getD]
  by_cases h : i = j
  · subst h
    rw [if_pos rfl, List.getElem?_set_self (by rw [X.h]; exact hi)]
    rfl
  · rw [if_neg h, List.getElem?_set_ne h]
def Trds.cells (X : Trds) : List Value := X.L.flatMap Trd.cells
def Trds.v (X : Trds) : Value := .agg X.cells.toArray
theorem Trds.len (X : Trds) : X.cells.length = 1184 := by
  unfold Trds.cells
  rw [flat_len _ 37 Trd.len37, X.h]
theorem Trds.one (X : Trds) : ∀ u ∈ X.cells, u.oneCell' = true := by
  intro u hu
  obtain ⟨x, _, h⟩ := List.mem_flatMap.1 hu
  exact x.one u h
theorem Trds.part (X : Trds) {i : Nat} (hi : i < 32) : (X.cells.drop (i * 37)).take 37 = (X.at_ i).cells := flat_at Trd.cells 37 Trd.len37 X.L i _ (X.some_ hi)
theorem Trds.put_cells (X : Trds) (i : Nat) (y : Trd) (hi : i < 32) : X.cells.take (i * 37) ++ y.cells ++ X.cells.drop (i * 37 + 37) = (X.put i y).cells := flat_set Trd.cells 37 Trd.len37 X.L i y (by rw [X.h]; exact hi)
theorem Trds.set_cell (X : Trds) (i j : Nat) (u : Value) (y : Trd) (hi : i < 32) (hj : j < 37) (hy : y.cells = (X.at_ i).cells.set j u) : X.cells.set (i * 37 + j) u = (X.put i y).cells := flat_setCell Trd.cells 37 Trd.len37 X.L i j u _ y (X.some_ hi) hj hy
def zeroX : Trds := ⟨List.replicate 32 zeroT, by rw [List.length_replicate]⟩
theorem szX : (Tryd.prog.info? 36).map (·.size) = some 1184 := by kernel_rfl
theorem zX : (Tryd.prog.info? 36).map (·.zero) = some (some (.agg zeroX.cells.toArray)) := by kernel_rfl
theorem zeroX_at (i : Nat) : zeroX.at_ i = zeroT := by
  unfold Trds.at_ zeroX
  simp only [List.getD_eq_getElem?_getD, List.getElem?_replicate]
  split <;> rfl

theorem trd_und : Tryd.prog.underlying 36 = some (.array 32 35) := Tryd.underlying36
theorem trds_range {w : World} {g : Nat} {T : TypeId} {X : Trds} (h : Blk w g T X.cells) {i : Nat} (hi : i < 32) : w.rangeAt g (i * 37) (X.at_ i).cells := seg_cell h (X.part hi)
/-- a trader stored into its place -/
theorem Blk.putT {w : World} {g : Nat} {T : TypeId} {X : Trds} (h : Blk w g T X.cells) (i : Nat) (y : Trd) (hi : i < 32) : Blk (w.setCells g (i * 37) y.cells) g T (X.put i y).cells ∧ Keep (· = g) w (w.setCells g (i * 37) y.cells) ∧ (w.setCells g (i * 37) y.cells).heap.size = w.heap.size := by
  have hl : i * 37 + y.cells.length ≤ X.cells.length := by rw [y.len37, X.len]; omega
  obtain ⟨h1, h2, h3⟩ := Blk.setCells y.cells (i * 37) w X.cells h hl
  rw [y.len37, X.put_cells i y hi] at h1
  exact ⟨h1, h2, h3⟩

theorem run_partTrd (xs : Array Value) (off : Nat) (t : Trd) (hx : xs.extract off (off + 37) = t.cells.toArray) (w : World) : (Go.part 35 xs off).run Tryd.prog w = .ok t.v w := by
  have hs := szT
  cases hq : Tryd.prog.info? 35 with
  | none => simp [hq] at hs
  | some i =>
    have h2 : i.size = 37 := by simpa [hq] using hs
    have hagg : (isAgg 35).run Tryd.prog w = .ok true w := by
      unfold isAgg
      rw [Sem.run_bind, run_underlying Tryd.underlying35 w]
      rfl
    simp [Go.part, Sem.run_bind, hagg, sizeOf, typeInfo, hq, h2, hx, Trd.v]
theorem extract_part (X : Trds) {i : Nat} (hi : i < 32) : X.cells.toArray.extract (i * 37) (i * 37 + 37) = (X.at_ i).cells.toArray := by
  apply Array.toList_inj.1
  rw [List.extract_toArray, List.extract_eq_take_drop, show i * 37 + 37 - i * 37 = 37 by omega]
  show _ = (X.at_ i).cells
  rw [X.part hi]

/-! whether two traders are the same -/
theorem run_eqBoolF (d : Nat) (xs ys : Array Value) (w : World) (f : Field) (fs : List Field) (x y : Bool) (hn : (f.name == "_") = false) (ht : f.type = 4) (hx : xs[f.offset]? = some (.bool x)) (hy : ys[f.offset]? = some (.bool y)) (r : Bool) (hr : (Op.eqFields (d + 1) xs ys fs).run Tryd.prog w = .ok r w) :
    (Op.eqFields (d + 1) xs ys (f :: fs)).run Tryd.prog w = .ok (x == y && r) w := by
  have hn' : f.name ≠ "_" := by simpa using hn
  have e1 := run_part_plain w (show Tryd.prog.plainKey 4 = true by kernel_rfl) hx
  have e2 := run_part_plain w (show Tryd.prog.plainKey 4 = true by kernel_rfl) hy
  rw [← ht] at e1 e2
  simp only [Op.eqFields, if_pos hn', Sem.run_bind, e1, e2, Result.andThen_ok]
  rw [ht, run_equalIn_bool' w d 4 _ _ Tryd.underlying4]
  cases hxy : (x == y) with
  | false => simp
  | true => simp [hr]
theorem trd_fields : (Tryd.prog.fieldsOf 35).toList.map (fun f => (f.name == "_", f.type, f.offset)) = [(false, 3, 0), (false, 3, 1), (false, 3, 2), (false, 3, 3), (false, 4, 4), (false, 33, 5)] := by kernel_rfl
theorem trd_tag (t : Trd) : t.cells.toArray.extract 5 (5 + 32) = (cells8 t.key).toArray := by
  apply Array.toList_inj.1
  rw [List.extract_toArray, List.extract_eq_take_drop]
  show ((cells8 t.key).take 32) = cells8 t.key
  rw [List.take_of_length_le (by rw [len8, t.hk]; omega)]
theorem run_eqTrd (c e : Trd) (w : World) : (Op.equalIn 10000 35 c.v e.v).run Tryd.prog w = .ok (decide (c = e)) w := by
  unfold Trd.v
  rw [run_equalIn_struct w 9999 35 _ _ (by kernel_rfl) (by kernel_rfl)]
  have hf := trd_fields
  generalize (Tryd.prog.fieldsOf 35).toList = fs at hf
  have hl : fs.length = 6 := by simpa using congrArg List.length hf
  match fs, hl with
  | [f0, f1, f2, f3, f4, f5], _ =>
    simp only [List.map_cons, List.map_nil, List.cons.injEq, Prod.mk.injEq, and_true] at hf
    obtain ⟨⟨n0, t0, o0⟩, ⟨n1, t1, o1⟩, ⟨n2, t2, o2⟩, ⟨n3, t3, o3⟩, ⟨n4, t4, o4⟩, ⟨n5, t5, o5⟩⟩ := hf
    have r5 := run_eqTag 9997 c.cells.toArray e.cells.toArray w f5 c.key e.key n5 t5 (by rw [o5]; exact trd_tag c) (by rw [o5]; exact trd_tag e) c.hk e.hk
    have r4 := run_eqBoolF 9998 c.cells.toArray e.cells.toArray w f4 [f5] c.off e.off n4 t4 (by rw [o4]; rfl) (by rw [o4]; rfl) _ r5
    have r3 := run_eqInt 9998 c.cells.toArray e.cells.toArray w f3 [f4, f5] c.insts e.insts n3 t3 (by rw [o3]; rfl) (by rw [o3]; rfl) _ r4
    have r2 := run_eqInt 9998 c.cells.toArray e.cells.toArray w f2 [f3, f4, f5] c.roles e.roles n2 t2 (by rw [o2]; rfl) (by rw [o2]; rfl) _ r3
    have r1 := run_eqInt 9998 c.cells.toArray e.cells.toArray w f1 [f2, f3, f4, f5] c.desk e.desk n1 t1 (by rw [o1]; rfl) (by rw [o1]; rfl) _ r2
    have r0 := run_eqInt 9998 c.cells.toArray e.cells.toArray w f0 [f1, f2, f3, f4, f5] c.firm e.firm n0 t0 (by rw [o0]; rfl) (by rw [o0]; rfl) _ r1
    rw [r0]
    congr 1
    rw [Bool.eq_iff_iff]
    simp only [Bool.and_eq_true, beq_iff_eq, decide_eq_true_eq]
    exact ⟨fun ⟨h1, h2, h3, h4, h5, h6⟩ => Trd.ext_ h1 h2 h3 h4 h5 h6, fun h => by subst h; exact ⟨rfl, rfl, rfl, rfl, rfl, rfl⟩⟩

/-! bits of a word -/
/-- the set of those below k that p says -/
def setM (p : Nat → Bool) : Nat → Nat
  | 0 => 0
  | k + 1 => if p k = true then setM p k ||| 2 ^ k else setM p k
theorem setM_bit (p : Nat → Bool) (k i : Nat) : (setM p k).testBit i = (decide (i < k) && p i) := by
  induction k with
  | zero => simp [setM]
  | succ k ih =>
    unfold setM
    split
    · rename_i h
      rw [Nat.testBit_or, ih, Nat.testBit_two_pow]
      by_cases h1 : i = k
      · subst h1
        simp [h]
      · by_cases h2 : i < k
        · simp [h2, show i < k + 1 by omega, show ¬ k = i by omega]
        · simp [h2, show ¬ i < k + 1 by omega, show ¬ k = i by omega]
    · rename_i h
      rw [ih]
      by_cases h1 : i = k
      · subst h1
        simp [h]
      · by_cases h2 : i < k
        · simp [h2, show i < k + 1 by omega]
        · simp [h2, show ¬ i < k + 1 by omega]
theorem setM_lt (p : Nat → Bool) (k : Nat) : setM p k < 2 ^ k := by
  apply Nat.lt_pow_two_of_testBit
  intro i hi
  rw [setM_bit, decide_eq_false (by omega)]
  rfl
theorem pow32 {k : Nat} (hk : k ≤ 32) : 2 ^ k ≤ 4294967296 := Nat.le_trans (Nat.pow_le_pow_right (n := 2) (by omega) hk) (by decide)
theorem setM_ext {p q : Nat → Bool} {k : Nat} (h : ∀ i, i < k → p i = q i) : setM p k = setM q k := by
  apply Nat.eq_of_testBit_eq
  intro i
  rw [setM_bit, setM_bit]
  by_cases hi : i < k
  · rw [h i hi]
  · rw [decide_eq_false hi]
    rfl

section
variable {a : Act} {o : Oper} {u : World}
/-- x[i] of an array by value -/
theorem exec_ixV (X : Trds) (i : Nat) (I : Int) (x y : Operand) (hop : o.op = .index 36 x y) (hx : a.eval x = X.v) (hy : a.eval y = .int .i64 I) (hI : I = (i : Int)) (hi : i < 32) : (execOp a.eval o).run Tryd.prog u = .ok (.value (X.at_ i).v) u := by
  subst hI
  have hs := szT
  cases hq : Tryd.prog.info? 35 with
  | none => simp [hq] at hs
  | some inf =>
    have h2 : inf.size = 37 := by simpa [hq] using hs
    have hp := run_partTrd X.cells.toArray (i * 37) (X.at_ i) (extract_part X hi) u
    have hin : (0 : Int) ≤ (i : Int) ∧ (i : Int) < ((32 : Nat) : Int) := by omega
    unfold execOp
    simp only [hop, hx, hy, Trds.v]
    simp [Instr.index, asIntOf, run_underlying trd_und, Sem.run_bind, sizeOf, typeInfo, hq, h2, hp, hi]
/-- &x[i] of an array where it lies -/
theorem exec_ixA (x y : Operand) (g i : Nat) (I : Int) (hop : o.op = .indexAddr 36 x y) (hx : a.eval x = .pointer (some ⟨g, 0, none⟩)) (hy : a.eval y = .int .i64 I) (hI : I = (i : Int)) (hi : i < 32) : (execOp a.eval o).run Tryd.prog u = .ok (.value (.pointer (some ⟨g, i * 37, none⟩))) u := by
  subst hI
  have hs := szT
  cases hq : Tryd.prog.info? 35 with
  | none => simp [hq] at hs
  | some inf =>
    have h2 : inf.size = 37 := by simpa [hq] using hs
    have hin : (0 : Int) ≤ (i : Int) ∧ (i : Int) < ((32 : Nat) : Int) := by omega
    unfold execOp
    simp only [hop, hx, hy]
    simp [Instr.indexAt, asIntOf, run_underlying trd_und, Sem.run_bind, sizeOf, typeInfo, hq, h2, Addr.add_mid, hi, Instr.sureAddr]
/-- the whole array, where it lies -/
theorem exec_ldX (X : Trds) (x : Operand) (g : Nat) (T : TypeId) (hop : o.op = .load 36 x) (hx : a.eval x = .pointer (some ⟨g, 0, none⟩)) (hb : Blk u g T X.cells) : (execOp a.eval o).run Tryd.prog u = .ok (.value X.v) u :=
  exec_loadT 36 x g 0 X.cells 32 35 hop hx (blk_range hb) trd_und (by rw [X.len]; exact szX)
/-- a struct of nothing but the array -/
theorem exec_bTree (T : TypeId) (X : Trds) (x : Operand) (hT : (Tryd.prog.info? T).map (·.zero) = some (some (.agg zeroX.cells.toArray))) (hF : (match Tryd.prog.underlying T with | some (.struct fs) => fs.toList.mapM (fun f => (Tryd.prog.info? f.type).map fun i => (f.offset, i.size)) | _ => none) = some [(0, 1184)]) (hop : o.op = .build T #[(0, x)]) (hx : a.eval x = X.v) : (execOp a.eval o).run Tryd.prog u = .ok (.value X.v) u := by
  refine exec_build T [(0, x)] X.cells hop ?_
  simp only [List.map_cons, List.map_nil, hx]
  unfold Program.built
  cases hi : Tryd.prog.info? T with
  | none => simp [hi] at hT
  | some it =>
    have hz : it.zero = some (.agg zeroX.cells.toArray) := by simpa [hi] using hT
    cases hu : Tryd.prog.underlying T with
    | none => rw [hu] at hF; cases hF
    | some d =>
      rw [hu] at hF
      cases d <;> try (cases hF; done)
      rename_i fs
      simp only at hF
      simp only [hz, hF]
      have hf := fold_setS X.cells 0 [] zeroX.cells rfl (by rw [zeroX.len, X.len])
      have hs : X.cells.toArray.size = 1184 := by simpa using X.len
      have hs2 : zeroX.cells.toArray.size = 1184 := by simpa using zeroX.len
      have hc : X.v.cells = X.cells.toArray := rfl
      have hc2 : (Value.agg zeroX.cells.toArray).cells = zeroX.cells.toArray := rfl
      simp only [Instr.fill, hc, hc2, List.getElem?_toArray, List.getElem?_cons_zero, hs, hs2]
      simp
      simp only [List.nil_append] at hf
      exact hf
theorem exec_eqTrd (x y : Operand) (t' : TypeId) (c d : Trd) (b : Bool) (hop : o.op = .binOp .eql 35 x y t') (hx : a.eval x = c.v) (hy : a.eval y = d.v) (hb : decide (c = d) = b) : (execOp a.eval o).run Tryd.prog u = .ok (.value (.bool b)) u := by
  subst hb
  have h := run_eqTrd c d u
  unfold Trd.v at h hx hy
  unfold execOp
  simp only [hop, hx, hy, Sem.run_bind]
  rw [run_eqGuard_agg u .eql 35 x y _ _ (by kernel_rfl)]
  simp only [Result.andThen_ok, run_eql_struct, h]
  rfl
theorem exec_neTrd (x y : Operand) (t' : TypeId) (c d : Trd) (b : Bool) (hop : o.op = .binOp .neq 35 x y t') (hx : a.eval x = c.v) (hy : a.eval y = d.v) (hb : decide (c ≠ d) = b) : (execOp a.eval o).run Tryd.prog u = .ok (.value (.bool b)) u := by
  subst hb
  have h := run_eqTrd c d u
  unfold Trd.v at h hx hy
  unfold execOp
  simp only [hop, hx, hy, Sem.run_bind]
  rw [run_eqGuard_agg u .neq 35 x y _ _ (by kernel_rfl)]
  simp only [Result.andThen_ok, run_neq_struct, h]
  simp
/-- a field of a trader by value -/
theorem exec_fldV (i : Nat) (c : Trd) (v : Value) (f : Field) (x : Operand) (hop : o.op = .field 35 x i) (hx : a.eval x = c.v) (hf : (Tryd.prog.fieldsOf 35)[i]? = some f) (hp : Tryd.prog.plainKey f.type = true) (hv : c.cells[f.offset]? = some v) : (execOp a.eval o).run Tryd.prog u = .ok (.value v) u := by
  have hu : Tryd.prog.underlying 35 = some (.struct (Tryd.prog.fieldsOf 35)) := by kernel_rfl
  have e := run_part_plain u hp (xs := c.cells.toArray) (by simpa using hv)
  unfold execOp
  simp only [hop, hx, Trd.v]
  simp [Instr.field, run_underlying hu, Sem.run_bind, hf, asAgg, e]
theorem exec_orU (x y : Operand) (ty t' : TypeId) (p q : Nat) (hop : o.op = .binOp .or ty x y t') (hx : a.eval x = .int .u64 (p : Int)) (hy : a.eval y = .int .u64 (q : Int)) (hp : p < 18446744073709551616) (hq : q < 18446744073709551616) : (execOp a.eval o).run Tryd.prog u = .ok (.value (.int .u64 ((p ||| q : Nat) : Int))) u := by
  have h := u64_or_nat p q hp hq
  unfold execOp
  simp only [hop, hx, hy]
  simp [go_sem, h]
theorem exec_andnU (x y : Operand) (ty t' : TypeId) (p q : Nat) (hop : o.op = .binOp .and ty x y t') (hx : a.eval x = .int .u64 (p : Int)) (hy : a.eval y = .int .u64 (q : Int)) (hp : p < 18446744073709551616) (hq : q < 18446744073709551616) : (execOp a.eval o).run Tryd.prog u = .ok (.value (.int .u64 ((p &&& q : Nat) : Int))) u := by
  have h := u64_and_nat p q hp hq
  unfold execOp
  simp only [hop, hx, hy]
  simp [go_sem, h]
theorem exec_andNotU (x y : Operand) (ty t' : TypeId) (p q : Nat) (hop : o.op = .binOp .andNot ty x y t') (hx : a.eval x = .int .u64 (p : Int)) (hy : a.eval y = .int .u64 (q : Int)) (hp : p < 18446744073709551616) (hq : q < 18446744073709551616) : (execOp a.eval o).run Tryd.prog u = .ok (.value (.int .u64 ((p &&& (18446744073709551615 - q) : Nat) : Int))) u := by
  have h := u64_andNot_nat p q hp hq
  unfold execOp
  simp only [hop, hx, hy]
  simp [go_sem, h]
theorem exec_shrnU (x y : Operand) (ty t' : TypeId) (p j : Nat) (hop : o.op = .binOp .shr ty x y t') (hx : a.eval x = .int .u64 (p : Int)) (hy : a.eval y = .int .i64 (j : Int)) (hj : j ≤ 63) : (execOp a.eval o).run Tryd.prog u = .ok (.value (.int .u64 ((p / 2 ^ j : Nat) : Int))) u := by
  unfold execOp
  simp only [hop, hx, hy]
  simp [go_sem]
theorem exec_eqnU (x y : Operand) (ty t' : TypeId) (p q : Int) (hop : o.op = .binOp .eql ty x y t') (hx : a.eval x = .int .u64 p) (hy : a.eval y = .int .u64 q) : (execOp a.eval o).run Tryd.prog u = .ok (.value (.bool (decide (p = q)))) u := by
  unfold execOp
  simp only [hop, hx, hy]
  simp [go_sem]
  rw [Bool.eq_iff_iff]; simp
theorem exec_nenU (x y : Operand) (ty t' : TypeId) (p q : Int) (hop : o.op = .binOp .neq ty x y t') (hx : a.eval x = .int .u64 p) (hy : a.eval y = .int .u64 q) : (execOp a.eval o).run Tryd.prog u = .ok (.value (.bool (decide (p ≠ q)))) u := by
  unfold execOp
  simp only [hop, hx, hy]
  simp [go_sem]
  rw [Bool.eq_iff_iff]; simp
end

/-! a trader among the arguments -/
def Trd.wf (c : Trd) : Prop := ∀ y ∈ [c.firm, c.desk, c.roles, c.insts], (Lit.int .i64 y).wf = true
theorem sh_trd {H : Type} {enc : TypeId × Value → H} {W : World} (fuel : Nat) (cs : List Value) (x : DataW H × List MemPlace) (h : DataW.trod enc Tryd.prog W 0 (fun _ => true) true fuel 35 cs = some x) : ∃ c : Trd, cs = c.cells ∧ c.wf := by
  have hu : Tryd.prog.underlying 35 = some (.struct (Tryd.prog.fieldsOf 35)) := by kernel_rfl
  have hcells : Tryd.prog.cellsOf 35 = 37 := by kernel_rfl
  obtain ⟨ys, m, _, _, hlen, hyl, hf⟩ := DataW.trod_struct hu h
  rw [hcells] at hlen
  have hq := trd_fields
  have hsz : (Tryd.prog.fieldsOf 35).size = 6 := by kernel_rfl
  rw [hsz] at hyl
  clear hsz
  generalize hfs : Tryd.prog.fieldsOf 35 = fa at hf hq
  obtain ⟨fs⟩ := fa
  simp only at hq
  have hl : fs.length = 6 := by simpa using congrArg List.length hq
  match fs, hl with
  | [f0, f1, f2, f3, f4, f5], _ =>
    simp only [List.map_cons, List.map_nil, List.cons.injEq, Prod.mk.injEq, and_true] at hq
    obtain ⟨⟨n0, t0, o0⟩, ⟨n1, t1, o1⟩, ⟨n2, t2, o2⟩, ⟨n3, t3, o3⟩, ⟨n4, t4, o4⟩, ⟨n5, t5, o5⟩⟩ := hq
    have c1 : Tryd.prog.cellsOf 3 = 1 := by kernel_rfl
    have c2 : Tryd.prog.cellsOf 4 = 1 := by kernel_rfl
    have c3 : Tryd.prog.cellsOf 33 = 32 := by kernel_rfl
    have int_ : ∀ (i : Nat) (f : Field), ([f0, f1, f2, f3, f4, f5] : List Field).toArray[i]? = some f → f.type = 3 → f.offset = i → i < 6 → ∃ a : Int, cs[i]? = some (.int .i64 a) ∧ (Lit.int .i64 a).wf = true := by
      intro i f hfi ht ho hi6
      have g := hf i f hfi
      rw [ho, ht, c1, List.getElem?_eq_getElem (by rw [hyl]; exact hi6)] at g
      obtain ⟨a, e, _, wa⟩ := DataW.trod_int Tryd.underlying3 g
      refine ⟨a, ?_, wa⟩
      have := congrArg (·[0]?) e
      simpa [List.getElem?_take, List.getElem?_drop] using this
    obtain ⟨a0, e0, w0⟩ := int_ 0 f0 rfl t0 o0 (by omega)
    obtain ⟨a1, e1, w1⟩ := int_ 1 f1 rfl t1 o1 (by omega)
    obtain ⟨a2, e2, w2⟩ := int_ 2 f2 rfl t2 o2 (by omega)
    obtain ⟨a3, e3, w3⟩ := int_ 3 f3 rfl t3 o3 (by omega)
    obtain ⟨b, e4⟩ : ∃ b : Bool, cs[4]? = some (.bool b) := by
      have g := hf 4 f4 rfl
      rw [o4, t4, c2, List.getElem?_eq_getElem (by rw [hyl]; omega)] at g
      obtain ⟨a, e, _⟩ := DataW.trod_bool Tryd.underlying4 g
      refine ⟨a, ?_⟩
      have := congrArg (·[0]?) e
      simpa [List.getElem?_take, List.getElem?_drop] using this
    obtain ⟨s, hs, hsl⟩ : ∃ s : List UInt8, cs.drop 5 = cells8 s ∧ s.length = 32 := by
      have g := hf 5 f5 rfl
      rw [o5, t5, c3, List.getElem?_eq_getElem (by rw [hyl]; omega), List.take_of_length_le (by simp; omega)] at g
      exact sh_sum _ _ _ g
    refine ⟨⟨a0, a1, a2, a3, b, s, hsl⟩, ?_, ?_⟩
    · unfold Trd.cells
      simp only
      rw [← hs]
      clear hs hf h
      revert e0 e1 e2 e3 e4
      match cs, hlen with
      | c0 :: c1 :: c2 :: c3 :: c4 :: r, _ =>
        intro e0 e1 e2 e3 e4
        simp only [List.getElem?_cons_zero, List.getElem?_cons_succ, Option.some.injEq] at e0 e1 e2 e3 e4
        subst e0 e1 e2 e3 e4
        rfl
    · intro y hy
      simp only [List.mem_cons, List.not_mem_nil, or_false] at hy
      rcases hy with rfl | rfl | rfl | rfl <;> assumption
theorem open_trd {H : Type} {enc : TypeId × Value → H} {W : World} {b0 : Nat} {v : Value} {d : DataW H} {p : List MemPlace} (hv : Value.okWide Tryd.prog W .any b0 35 v)
    (h : DataW.Trod enc Tryd.prog W 0 (fun _ => true) true 35 v d p) : ∃ c : Trd, v = c.v ∧ c.wf := by
  simp only [Value.okWide, Tryd.underlying35] at hv
  obtain ⟨cs, rfl, hsz, _⟩ := hv
  obtain ⟨fuel, hf⟩ := h
  obtain ⟨c, e, hw⟩ := sh_trd _ _ _ hf
  simp only [Value.cells] at e
  refine ⟨c, ?_, hw⟩
  unfold Trd.v
  congr 1
  apply Array.toList_inj.1
  rw [e]
end Go.Proofs.YtfoamgljfdnloaaDoor
