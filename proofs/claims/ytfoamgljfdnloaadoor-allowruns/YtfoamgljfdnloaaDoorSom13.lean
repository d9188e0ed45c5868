/-
  Asks of chapter 13's statements; the traders made of them (jobberlaw13.some). No condition.
-/
import Derived.Test.YtfoamgljfdnloaaDoorTreN
import Derived.Test.YtfoamgljfdnloaaDoorArgsM
namespace Go.Proofs.YtfoamgljfdnloaaDoor
open Go.RowKit Go.ChangeShapes Go.WideShapes Go.ChangeAt
set_option linter.unusedVariables false
set_option maxRecDepth 100000

structure Aq where
  n : Int
  firm : Int
  desk : Int
  roles : Int
  insts : Int
deriving Inhabited
def Aq.l (q : Aq) : List Int := [q.n, q.firm, q.desk, q.roles, q.insts]
def Aq.cells (q : Aq) : List Value := stc q.l []
def Aq.v (q : Aq) : Value := .agg q.cells.toArray
theorem Aq.len5q (q : Aq) : q.cells.length = 5 := by unfold Aq.cells; rw [stc_len]; rfl
theorem Aq.one (q : Aq) : ∀ u ∈ q.cells, u.oneCell' = true := stc_one _ _
def zeroAq : Aq := ⟨0, 0, 0, 0, 0⟩
def Aq.wf (q : Aq) : Prop := ∀ y ∈ q.l, (Lit.int .i64 y).wf = true
abbrev Aqs (W : World) (v : Value) (l : List Aq) : Prop := Args 5 Aq.cells Aq.wf W v l
/-- the place of an ask, and its trader -/
def Aq.k (q : Aq) : Nat := (wi q.n 0 31).toNat
theorem Aq.k_lt (q : Aq) : q.k < 32 := by
  have h := wi_in q.n 0 31 (by omega)
  unfold Aq.k
  omega
theorem Aq.k_is (q : Aq) : ((q.k : Nat) : Int) = wi q.n 0 31 := by
  have h := wi_in q.n 0 31 (by omega)
  unfold Aq.k
  omega
def mkT (a b c d : Int) : Trd := ⟨a, b, c, d, false, List.replicate 32 0, rfl⟩
def Aq.t (q : Aq) : Trd := mkT (wi q.firm 0 3) (wi q.desk 0 2) (wi q.roles 1 15) (wi q.insts 0 255)
theorem builtT (a b c d : Int) : Tryd.prog.built 35 [(0, .int .i64 a), (1, .int .i64 b), (2, .int .i64 c), (3, .int .i64 d)] = some (mkT a b c d).cells.toArray := by kernel_rfl
theorem exec_mkT {a : Act} {o : Oper} {u : World} (x0 x1 x2 x3 : Operand) (p q r t : Int) (hop : o.op = .build 35 #[(0, x0), (1, x1), (2, x2), (3, x3)]) (h0 : a.eval x0 = .int .i64 p) (h1 : a.eval x1 = .int .i64 q) (h2 : a.eval x2 = .int .i64 r) (h3 : a.eval x3 = .int .i64 t) : (execOp a.eval o).run Tryd.prog u = .ok (.value (mkT p q r t).v) u :=
  exec_build _ [(0, x0), (1, x1), (2, x2), (3, x3)] (mkT p q r t).cells hop (by
    simp only [List.map_cons, List.map_nil, h0, h1, h2, h3]
    exact builtT p q r t)
/-- the list, so far -/
def someL (l : List Aq) : Trds := l.foldl (fun X q => X.put q.k q.t) zeroX
theorem someL_next (l : List Aq) (i : Nat) (q : Aq) (h : l[i]? = some q) : someL (l.take (i + 1)) = (someL (l.take i)).put q.k q.t := by
  unfold someL
  rw [List.take_add_one, h, List.foldl_append]
  rfl
def someM (l : List Aq) (at_ : Int) (raw : Trd) : Trds := if 0 ≤ at_ ∧ at_ < 32 then (someL (l.take 40)).put at_.toNat raw else someL (l.take 40)
theorem someM_none (l : List Aq) (raw : Trd) : someM l (-1) raw = someL (l.take 40) := by unfold someM; rw [if_neg (by omega)]
theorem someL_all (l : List Aq) (i : Nat) (h : l.length ≤ i ∨ i = 40) (h40 : i ≤ 40) : someL (l.take i) = someL (l.take 40) := by
  rcases h with h | h
  · rw [List.take_of_length_le h, List.take_of_length_le (by omega)]
  · rw [h]
/-- a trader stored into its place of an array -/
theorem l_putT {ops : Array Oper} {Q : Exit → Act → World → Prop} {a : Act} {w : World} {o : Oper} {rest : List Oper} (g i : Nat) (T : TypeId) (X : Trds) (t : Trd) (x y : Operand) (hw : Region.wanted o (yielded ops a.tmps) = true) (hop : o.op = .store 35 x y) (hx : a.eval x = .pointer (some ⟨g, i * 37, none⟩)) (hy : a.eval y = t.v) (hb : Blk w g T X.cells) (hi : i < 32)
    (hK : ∀ w', Blk w' g T (X.put i t).cells → Keep (· = g) w w' → w'.heap.size = w.heap.size → wpList Tryd.prog ops Q rest (a.put o.dst undef) w') : wpList Tryd.prog ops Q (o :: rest) a w := by
  obtain ⟨h1, h2, h3⟩ := hb.putT i t hi
  have hth : w.there g (i * 37) t.cells.toArray.size := hb.there (i * 37) _ (by rw [X.len]; simp [t.len37]; omega)
  have hsz : (Tryd.prog.info? 35).map (·.size) = some t.cells.toArray.size := by
    rw [show t.cells.toArray.size = 37 by simp [t.len37]]
    exact szT
  have hr := run_storeVar_mid (P := Tryd.prog) w g (i * 37) 35 t.cells.toArray hth hsz (by simpa using t.one)
  refine l_store (w.setCells g (i * 37) t.cells) hw ?_ (hK _ h1 h2 h3)
  unfold execOp
  simp only [hop, hx, hy, Trd.v, Instr.storeAt, Instr.sureAddr, Sem.run_bind, Sem.run_pure, Result.andThen_ok, hr]
theorem results_cellX {fn : Func} {p : Tmp} (h : fn.results = #[.cell p 36]) (tmps : Array Value) (w : World) (g : Nat) (T : TypeId) (X : Trds) (hp : tmps.getD p undef = .pointer (some ⟨g, 0, none⟩)) (hg : Blk w g T X.cells) :
    (results fn tmps).run Tryd.prog w = .ok X.v w := by
  have hp' : tmps[p]?.getD undef = .pointer (some ⟨g, 0, none⟩) := by simpa using hp
  have hr := run_loadVar_row (P := Tryd.prog) w g T 36 X.cells.toArray (0, 0) _ hg trd_und rfl (by rw [szX]; simp [X.len])
  simp [results, h, hp', asAddr, hr, Trds.v]
end Go.Proofs.YtfoamgljfdnloaaDoor
