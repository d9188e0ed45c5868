/-
  Package allow as mathematics: a phase of trading, the rules, what may be done; the operations that a phase wants. No condition.
-/
import Derived.Test.YtfoamgljfdnloaaDoorTreN
namespace Go.Proofs.YtfoamgljfdnloaaDoor
open Go.RowKit
set_option linter.unusedVariables false
set_option maxRecDepth 100000

/-! a phase: what is halted, who is killed, whom a firm sponsors -/
structure Phs where
  h : List Bool
  k : List Bool
  g : List Int
  hl : h.length = 8
  kl : k.length = 8
  gl : g.length = 8
def Phs.cells (p : Phs) : List Value := p.h.map Value.bool ++ (p.k.map Value.bool ++ p.g.map (Value.int .i64))
def Phs.v (p : Phs) : Value := .agg p.cells.toArray
def Phs.hal (p : Phs) (i : Nat) : Bool := p.h.getD i false
def Phs.kil (p : Phs) (i : Nat) : Bool := p.k.getD i false
def Phs.gra (p : Phs) (i : Nat) : Int := p.g.getD i 0
theorem Phs.len24 (p : Phs) : p.cells.length = 24 := by
  unfold Phs.cells
  simp [p.hl, p.kl, p.gl]
theorem Phs.one (p : Phs) : ∀ u ∈ p.cells, u.oneCell' = true := by
  intro u hu
  unfold Phs.cells at hu
  simp only [List.mem_append, List.mem_map] at hu
  rcases hu with ⟨b, _, rfl⟩ | ⟨b, _, rfl⟩ | ⟨b, _, rfl⟩ <;> rfl
theorem Phs.at_h (p : Phs) {i : Nat} (hi : i < 8) : p.cells[i]? = some (.bool (p.hal i)) := by
  unfold Phs.cells Phs.hal
  rw [List.getElem?_append_left (by rw [List.length_map, p.hl]; exact hi), List.getElem?_map, List.getD_eq_getElem?_getD, List.getElem?_eq_getElem (by rw [p.hl]; exact hi)]
  rfl
theorem Phs.at_k (p : Phs) {i : Nat} (hi : i < 8) : p.cells[8 + i]? = some (.bool (p.kil i)) := by
  unfold Phs.cells Phs.kil
  rw [List.getElem?_append_right (by rw [List.length_map, p.hl]; omega), List.length_map, p.hl, Nat.add_sub_cancel_left, List.getElem?_append_left (by rw [List.length_map, p.kl]; exact hi), List.getElem?_map, List.getD_eq_getElem?_getD, List.getElem?_eq_getElem (by rw [p.kl]; exact hi)]
  rfl
theorem Phs.at_g (p : Phs) {i : Nat} (hi : i < 8) : p.cells[16 + i]? = some (.int .i64 (p.gra i)) := by
  unfold Phs.cells Phs.gra
  rw [List.getElem?_append_right (by rw [List.length_map, p.hl]; omega), List.length_map, p.hl, List.getElem?_append_right (by rw [List.length_map, p.kl]; omega), List.length_map, p.kl, show 16 + i - 8 - 8 = i by omega, List.getElem?_map, List.getD_eq_getElem?_getD, List.getElem?_eq_getElem (by rw [p.gl]; exact hi)]
  rfl
def zeroP : Phs := ⟨List.replicate 8 false, List.replicate 8 false, List.replicate 8 0, rfl, rfl, rfl⟩
theorem zPh : (Tryd.prog.info? 29).map (·.zero) = some (some (.agg zeroP.cells.toArray)) := by kernel_rfl
theorem szP : (Tryd.prog.info? 29).map (·.size) = some 24 := by kernel_rfl
def Phs.setH (p : Phs) (i : Nat) (b : Bool) : Phs := ⟨p.h.set i b, p.k, p.g, by rw [List.length_set]; exact p.hl, p.kl, p.gl⟩
def Phs.setK (p : Phs) (i : Nat) (b : Bool) : Phs := ⟨p.h, p.k.set i b, p.g, p.hl, by rw [List.length_set]; exact p.kl, p.gl⟩
def Phs.setG (p : Phs) (i : Nat) (n : Int) : Phs := ⟨p.h, p.k, p.g.set i n, p.hl, p.kl, by rw [List.length_set]; exact p.gl⟩
theorem Phs.set_h (p : Phs) {i : Nat} (b : Bool) (hi : i < 8) : p.cells.set i (.bool b) = (p.setH i b).cells := by
  unfold Phs.cells Phs.setH
  simp only
  rw [List.set_append_left _ _ (by rw [List.length_map, p.hl]; exact hi), List.map_set]
theorem Phs.set_k (p : Phs) {i : Nat} (b : Bool) (hi : i < 8) : p.cells.set (8 + i) (.bool b) = (p.setK i b).cells := by
  unfold Phs.cells Phs.setK
  simp only
  rw [List.set_append_right _ _ (by rw [List.length_map, p.hl]; omega), List.length_map, p.hl, Nat.add_sub_cancel_left, List.set_append_left _ _ (by rw [List.length_map, p.kl]; exact hi), List.map_set]
theorem Phs.set_g (p : Phs) {i : Nat} (n : Int) (hi : i < 8) : p.cells.set (16 + i) (.int .i64 n) = (p.setG i n).cells := by
  unfold Phs.cells Phs.setG
  simp only
  rw [List.set_append_right _ _ (by rw [List.length_map, p.hl]; omega), List.length_map, p.hl, List.set_append_right _ _ (by rw [List.length_map, p.kl]; omega), List.length_map, p.kl, show 16 + i - 8 - 8 = i by omega, List.map_set]
theorem Phs.hal_setH (p : Phs) {i : Nat} (hi : i < 8) (b : Bool) : (p.setH i b).hal i = b := by
  unfold Phs.hal Phs.setH
  simp only [List.getD_eq_getElem?_getD]
  rw [List.getElem?_set_self (by rw [p.hl]; exact hi)]
  rfl
theorem Phs.kil_setK (p : Phs) {i : Nat} (hi : i < 8) (b : Bool) : (p.setK i b).kil i = b := by
  unfold Phs.kil Phs.setK
  simp only [List.getD_eq_getElem?_getD]
  rw [List.getElem?_set_self (by rw [p.kl]; exact hi)]
  rfl
theorem Phs.gra_setG (p : Phs) {i j : Nat} (h : i ≠ j) (n : Int) : (p.setG i n).gra j = p.gra j := by
  unfold Phs.gra Phs.setG
  simp only [List.getD_eq_getElem?_getD]
  rw [List.getElem?_set_ne h]

/-! the rules -/
structure Rul where
  do_ : Int
  roles : Int
  ties : Int
def Rul.l (r : Rul) : List Int := [r.do_, r.roles, r.ties]
def Rul.cells (r : Rul) : List Value := stc r.l []
def Rul.v (r : Rul) : Value := .agg r.cells.toArray
theorem Rul.len3r (r : Rul) : r.cells.length = 3 := by unfold Rul.cells; rw [stc_len]; rfl
theorem Rul.one (r : Rul) : ∀ u ∈ r.cells, u.oneCell' = true := stc_one _ _
def zeroU : Rul := ⟨0, 0, 0⟩
theorem szU : (Tryd.prog.info? 65).map (·.size) = some 3 := by kernel_rfl
theorem zU : (Tryd.prog.info? 65).map (·.zero) = some (some (.agg zeroU.cells.toArray)) := by kernel_rfl
def rulL : List Rul := [⟨1, 1, 32⟩, ⟨2, 0, 1⟩, ⟨2, 2, 4⟩, ⟨2, 4, 8⟩, ⟨2, 4, 16⟩, ⟨2, 8, 0⟩, ⟨3, 4, 10⟩, ⟨3, 8, 2⟩, ⟨4, 8, 0⟩]
def rulAt (i : Nat) : Rul := rulL.getD i zeroU
def rulC : List Value := rulL.flatMap Rul.cells
def rulV : Value := .agg rulC.toArray
theorem rul_some {i : Nat} (hi : i < 9) : rulL[i]? = some (rulAt i) := by
  unfold rulAt
  rw [List.getD_eq_getElem?_getD, List.getElem?_eq_getElem (by exact hi)]
  rfl
theorem rul_part {i : Nat} (hi : i < 9) : (rulC.drop (i * 3)).take 3 = (rulAt i).cells := flat_at Rul.cells 3 Rul.len3r rulL i _ (rul_some hi)
/-- the table holds its text -/
def RulIn (w : World) : Prop := ∃ t fr, w.heap[0]? = some (.cells rulC.toArray t fr)
theorem RulIn.keep {S : Nat → Prop} {w w' : World} (h : RulIn w) (hk : Keep S w w') (h0 : ¬ S 0) : RulIn w' := by
  obtain ⟨t, fr, e⟩ := h
  exact ⟨t, fr, (hk.block 0 (Array.getElem?_eq_some_iff.1 e).1 h0).trans e⟩
theorem RulIn.kept {w w' : World} (h : RulIn w) (hk : Kept w w') : RulIn w' := by
  obtain ⟨t, fr, e⟩ := h
  exact ⟨t, fr, (hk.block 0 (Array.getElem?_eq_some_iff.1 e).1 (fun h => h)).trans e⟩
theorem RulIn.lt {w : World} (h : RulIn w) : 0 < w.heap.size := by
  obtain ⟨t, fr, e⟩ := h
  exact (Array.getElem?_eq_some_iff.1 e).1
theorem rul_und : Tryd.prog.underlying 66 = some (.array 9 65) := Tryd.underlying66
theorem run_partU (xs : Array Value) (off : Nat) (t : Rul) (hx : xs.extract off (off + 3) = t.cells.toArray) (w : World) : (Go.part 65 xs off).run Tryd.prog w = .ok t.v w := by
  have hs := szU
  cases hq : Tryd.prog.info? 65 with
  | none => simp [hq] at hs
  | some i =>
    have h2 : i.size = 3 := by simpa [hq] using hs
    have hagg : (isAgg 65).run Tryd.prog w = .ok true w := by
      unfold isAgg
      rw [Sem.run_bind, run_underlying Tryd.underlying65 w]
      rfl
    simp [Go.part, Sem.run_bind, hagg, sizeOf, typeInfo, hq, h2, hx, Rul.v]
theorem extract_rul {i : Nat} (hi : i < 9) : rulC.toArray.extract (i * 3) (i * 3 + 3) = (rulAt i).cells.toArray := by
  apply Array.toList_inj.1
  rw [List.extract_toArray, List.extract_eq_take_drop, show i * 3 + 3 - i * 3 = 3 by omega]
  show _ = (rulAt i).cells
  rw [rul_part hi]

/-! bits -/
def shI (p q : Int) : Int := p.fdiv (2 ^ (min q.toNat 64))
def anI (p q : Int) : Int := bits .and .i64 p q
def orI (p q : Int) : Int := bits .or .i64 p q
def hasB (b n : Int) : Bool := decide (anI (shI b n) 1 = 1)
def allB (b a : Int) : Bool := decide (anI b a = a)
def whenI (b : Bool) (t : Int) : Int := if b = true then t else 0
theorem anI_mod (n : Int) : anI n 1 = n % 2 := by
  have h63 : (BitVec.ofInt 64 1).toNat = 2 ^ 1 - 1 := by decide
  have key : (BitVec.ofInt 64 n &&& BitVec.ofInt 64 1).toNat = (n % ((2 ^ 64 : Nat) : Int)).toNat % 2 ^ 1 := by
    rw [BitVec.toNat_and, BitVec.toNat_ofInt, h63, Nat.and_two_pow_sub_one_eq_mod]
  show IntKind.i64.wrap ((BitVec.ofInt 64 n &&& BitVec.ofInt 64 1).toNat : Nat) = n % 2
  rw [key, IntKind.wrap_i64]
  omega
section
variable {a : Act} {o : Oper} {u : World}
theorem exec_shrI (x y : Operand) (ty t' : TypeId) (p q : Int) (hop : o.op = .binOp .shr ty x y t') (hx : a.eval x = .int .i64 p) (hy : a.eval y = .int .i64 q) (h0 : 0 ≤ q) : (execOp a.eval o).run Tryd.prog u = .ok (.value (.int .i64 (shI p q))) u := by
  unfold execOp
  simp only [hop, hx, hy]
  simp [go_sem, Op.shift, shI, show ¬ q < 0 by omega, IntKind.bits]
theorem exec_andI (x y : Operand) (ty t' : TypeId) (p q : Int) (hop : o.op = .binOp .and ty x y t') (hx : a.eval x = .int .i64 p) (hy : a.eval y = .int .i64 q) : (execOp a.eval o).run Tryd.prog u = .ok (.value (.int .i64 (anI p q))) u := by
  unfold execOp
  simp only [hop, hx, hy]
  simp [go_sem, anI]
theorem exec_orI (x y : Operand) (ty t' : TypeId) (p q : Int) (hop : o.op = .binOp .or ty x y t') (hx : a.eval x = .int .i64 p) (hy : a.eval y = .int .i64 q) : (execOp a.eval o).run Tryd.prog u = .ok (.value (.int .i64 (orI p q))) u := by
  unfold execOp
  simp only [hop, hx, hy]
  simp [go_sem, orI]
/-- an element of one cell of an array where it lies -/
theorem exec_ixC (t e : TypeId) (n : Nat) (x y : Operand) (g off off' i : Nat) (I : Int) (hop : o.op = .indexAddr t x y) (ht : Tryd.prog.underlying t = some (.array n e)) (hs : (Tryd.prog.info? e).map (·.size) = some 1) (hx : a.eval x = .pointer (some ⟨g, off, none⟩)) (hy : a.eval y = .int .i64 I) (hI : I = (i : Int)) (hi : i < n) (he : off + i = off') : (execOp a.eval o).run Tryd.prog u = .ok (.value (.pointer (some ⟨g, off', none⟩))) u := by
  subst hI he
  cases hq : Tryd.prog.info? e with
  | none => simp [hq] at hs
  | some inf =>
    have h2 : inf.size = 1 := by simpa [hq] using hs
    have hin : (0 : Int) ≤ (i : Int) ∧ (i : Int) < (n : Int) := by omega
    unfold execOp
    simp only [hop, hx, hy]
    simp [Instr.indexAt, asIntOf, run_underlying ht, Sem.run_bind, sizeOf, typeInfo, hq, h2, Addr.add_mid, hi, Instr.sureAddr]
/-- a rule of the table by value -/
theorem exec_ixU (i : Nat) (x y : Operand) (hop : o.op = .index 66 x y) (hx : a.eval x = rulV) (hy : a.eval y = .int .i64 (i : Int)) (hi : i < 9) : (execOp a.eval o).run Tryd.prog u = .ok (.value (rulAt i).v) u := by
  have hs := szU
  cases hq : Tryd.prog.info? 65 with
  | none => simp [hq] at hs
  | some inf =>
    have h2 : inf.size = 3 := by simpa [hq] using hs
    have hp := run_partU rulC.toArray (i * 3) (rulAt i) (extract_rul hi) u
    have hin : (0 : Int) ≤ (i : Int) ∧ (i : Int) < ((9 : Nat) : Int) := by omega
    unfold execOp
    simp only [hop, hx, hy, rulV]
    simp [Instr.index, asIntOf, run_underlying rul_und, Sem.run_bind, sizeOf, typeInfo, hq, h2, hp, hi]
/-- the table, whole -/
theorem exec_ldG (hop : o.op = .load 66 (.global 0)) (hb : RulIn u) : (execOp a.eval o).run Tryd.prog u = .ok (.value rulV) u := by
  obtain ⟨t, fr, h⟩ := hb
  have hx : a.eval (.global 0) = .pointer (some ⟨0, 0, none⟩) := rfl
  have hi : (Tryd.prog.info? 66).map (·.size) = some rulC.toArray.size := by kernel_rfl
  unfold execOp
  simp only [hop, hx, Instr.loadAt, Instr.sureAddr, Sem.run_bind, Sem.run_pure, Result.andThen_ok, run_loadVar_row u 0 t 66 rulC.toArray fr _ h rul_und rfl hi]
  rfl
end

/-- a cell of a phase, of a trader's numbers, stored -/
theorem l_putB {ops : Array Oper} {Q : Exit → Act → World → Prop} {a : Act} {w : World} {o : Oper} {rest : List Oper} (g off : Nat) (T : TypeId) (cs cs' : List Value) (b : Bool) (x z : Operand) (hw : Region.wanted o (yielded ops a.tmps) = true) (hop : o.op = .store 4 x z) (hx : a.eval x = .pointer (some ⟨g, off, none⟩)) (hz : a.eval z = .bool b) (hb : Blk w g T cs) (hl : off < cs.length) (hc : cs.set off (.bool b) = cs')
    (hK : ∀ w', Blk w' g T cs' → Keep (· = g) w w' → w'.heap.size = w.heap.size → wpList Tryd.prog ops Q rest (a.put o.dst undef) w') : wpList Tryd.prog ops Q (o :: rest) a w := by
  have hB2 := hb.set_ off (.bool b)
  rw [hc] at hB2
  exact l_store (w.setCell ⟨g, off, none⟩ (.bool b)) hw (exec_store1 4 x z g off (.bool b) hop (by kernel_rfl) hx hz rfl rfl (hb.there off 1 (by omega))) (hK _ hB2 (Keep.setCell (Keep.refl (· = g) w) (fun _ => rfl) _) (by simp [World.setCell]))
theorem l_putN {ops : Array Oper} {Q : Exit → Act → World → Prop} {a : Act} {w : World} {o : Oper} {rest : List Oper} (g off : Nat) (T : TypeId) (cs cs' : List Value) (n : Int) (x z : Operand) (hw : Region.wanted o (yielded ops a.tmps) = true) (hop : o.op = .store 3 x z) (hx : a.eval x = .pointer (some ⟨g, off, none⟩)) (hz : a.eval z = .int .i64 n) (hb : Blk w g T cs) (hl : off < cs.length) (hc : cs.set off (.int .i64 n) = cs')
    (hK : ∀ w', Blk w' g T cs' → Keep (· = g) w w' → w'.heap.size = w.heap.size → wpList Tryd.prog ops Q rest (a.put o.dst undef) w') : wpList Tryd.prog ops Q (o :: rest) a w := by
  have hB2 := hb.set_ off (.int .i64 n)
  rw [hc] at hB2
  exact l_store (w.setCell ⟨g, off, none⟩ (.int .i64 n)) hw (exec_store1 3 x z g off (.int .i64 n) hop (by kernel_rfl) hx hz rfl rfl (hb.there off 1 (by omega))) (hK _ hB2 (Keep.setCell (Keep.refl (· = g) w) (fun _ => rfl) _) (by simp [World.setCell]))

/-! what the landed code reckons, and what the document's own does -/
def ruleB (roles do_ ties : Int) (i : Nat) : Bool := (decide ((rulAt i).do_ = do_) && allB roles (rulAt i).roles) && allB ties (rulAt i).ties
def entB (roles do_ ties : Int) : Bool := (List.range 9).any (ruleB roles do_ ties)
def entV (roles do_ ties : Int) : Int := if entB roles do_ ties = true then 0 else 7
theorem entV_yes {roles do_ ties : Int} {i : Nat} (hi : i < 9) (h : ruleB roles do_ ties i = true) : entV roles do_ ties = 0 := by
  unfold entV entB
  rw [if_pos (List.any_eq_true.2 ⟨i, List.mem_range.2 hi, h⟩)]
theorem entV_no {roles do_ ties : Int} (h : ∀ i, i < 9 → ruleB roles do_ ties i = false) : entV roles do_ ties = 7 := by
  unfold entV entB
  rw [if_neg]
  intro e
  obtain ⟨i, hi, e⟩ := List.any_eq_true.1 e
  rw [h i (List.mem_range.1 hi)] at e
  cases e
def evenB (d : Int) : Bool := decide (d = 2) || decide (d = 4)
def tieV (x y : Trd) (p : Phs) : Int := if x.firm ≠ y.firm then whenI (hasB (p.gra x.firm.toNat) y.firm) 16 else orI 8 (whenI (decide (x.desk = y.desk)) 4)
def tradeV (x : Trd) (p : Phs) (inst : Int) : Int := if inst < 0 ∨ 8 ≤ inst then 1 else if (decide (entV x.roles 1 (whenI (hasB x.insts inst) 32) = 0) && p.hal inst.toNat) = true then 9 else entV x.roles 1 (whenI (hasB x.insts inst) 32)
def actV (X : Trds) (p : Phs) (n d other : Int) : Int := if X.there other = true then entV (X.get n).roles d (orI (orI (whenI (decide (n = other)) 1) (whenI (decide (n ≠ other)) 2)) (tieV (X.get n) (X.get other) p)) else 6
def offB (x : Trd) (p : Phs) (d : Int) : Bool := x.off || (p.kil x.firm.toNat && !evenB d)
def mayV (X : Trds) (p : Phs) (n d inst other : Int) : Int := if X.there n = true then (if offB (X.get n) p d = true then 7 else if d = 1 then tradeV (X.get n) p inst else if d = 2 ∨ d = 3 then actV X p n d other else if d = 4 then entV (X.get n).roles 4 0 else 1) else 6
def Trds.Ok (X : Trds) : Prop := ∀ i, i < 32 → (X.at_ i).bad = false
theorem Trds.Ok.facts {X : Trds} (h : X.Ok) {n : Int} (ht : X.there n = true) : (0 ≤ (X.get n).firm ∧ (X.get n).firm ≤ 7) ∧ (0 ≤ (X.get n).roles ∧ (X.get n).roles ≤ 15 ∧ (X.get n).roles ≠ 0) := by
  obtain ⟨i, hi, rfl⟩ := there_lt ht
  rw [get_in ht]
  rw [there_in hi] at ht
  have hr : (X.at_ i).roles ≠ 0 := by simpa using ht
  have hb := h i hi
  unfold Trd.bad at hb
  have hz : X.at_ i ≠ zeroT := fun e => hr (by rw [e]; rfl)
  rw [decide_eq_true hz, Bool.true_and] at hb
  have hm : (X.at_ i).may = true := by simpa using hb
  unfold Trd.may Trd.right upB at hm
  simp only [Bool.and_eq_true, decide_eq_true_eq] at hm
  omega
end Go.Proofs.YtfoamgljfdnloaaDoor
