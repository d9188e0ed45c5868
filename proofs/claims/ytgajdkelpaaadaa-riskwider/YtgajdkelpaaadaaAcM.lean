/-
  Package acct as mathematics: what traders have open, and their positions; how either accounts lay them. No condition.
-/
import Derived.Test.YtgajdkelpaaadaaCel
import Derived.Test.YtgajdkelpaaadaaWi
namespace Go.Proofs.Ytgajdkelpaaadaa
open Go.RowKit
set_option linter.unusedVariables false
set_option maxRecDepth 100000

/-! numbers laid one behind another -/
def lay (k : Nat) (f : Nat → Int) : List Value := (List.range k).map fun j => .int .i64 (f j)
theorem lay_len (k : Nat) (f : Nat → Int) : (lay k f).length = k := by unfold lay; simp
theorem lay_one (k : Nat) (f : Nat → Int) : ∀ u ∈ lay k f, u.oneCell' = true := by
  intro u hu
  unfold lay at hu
  obtain ⟨j, _, rfl⟩ := List.mem_map.1 hu
  rfl
theorem lay_at {k : Nat} (f : Nat → Int) {j : Nat} (hj : j < k) : (lay k f)[j]? = some (.int .i64 (f j)) := by
  unfold lay
  rw [List.getElem?_map, List.getElem?_range hj]
  rfl
theorem lay_ext {k : Nat} {f g : Nat → Int} (h : ∀ j, j < k → f j = g j) : lay k f = lay k g := by
  unfold lay
  exact List.map_congr_left fun j hj => by rw [h j (List.mem_range.1 hj)]
theorem lay_set {k : Nat} (f : Nat → Int) {j : Nat} (hj : j < k) (x : Int) : (lay k f).set j (.int .i64 x) = lay k (fun m => if m = j then x else f m) := by
  apply List.ext_getElem?
  intro m
  by_cases hm : m < k
  · rw [lay_at _ hm]
    by_cases e : m = j
    · subst e
      rw [List.getElem?_set_self (by rw [lay_len]; exact hm), if_pos rfl]
    · rw [List.getElem?_set_ne (Ne.symm e), lay_at _ hm, if_neg e]
  · rw [List.getElem?_eq_none (by rw [List.length_set, lay_len]; omega), List.getElem?_eq_none (by rw [lay_len]; omega)]
theorem lay_take {k : Nat} (f : Nat → Int) {a n : Nat} (h : a + n ≤ k) {w : World} {g : Nat} {T : TypeId} (hB : Blk w g T (lay k f)) : w.rangeAt g a (lay n fun j => f (a + j)) := by
  intro j v hv
  have hj : j < n := by have := (List.getElem?_eq_some_iff.1 hv).1; rwa [lay_len] at this
  rw [lay_at _ hj] at hv
  rw [hB.cell, lay_at _ (by omega)]
  exact hv
theorem lay_cell {k : Nat} {f : Nat → Int} {w : World} {g : Nat} {T : TypeId} (hB : Blk w g T (lay k f)) {j : Nat} (hj : j < k) {x : Int} (h : f j = x) : w.cell? ⟨g, j, none⟩ = some (.int .i64 x) := by rw [hB.cell, lay_at _ hj, h]

/-! what is open, and the positions -/
structure Bal where
  o : Nat → Nat → Int
  p : Nat → Nat → Int
def zeroB : Bal := ⟨fun _ _ => 0, fun _ _ => 0⟩
def upd (f : Nat → Nat → Int) (n i : Nat) (x : Int) : Nat → Nat → Int := fun a b => if a = n ∧ b = i then x else f a b
theorem upd_self (f : Nat → Nat → Int) (n i : Nat) (x : Int) : upd f n i x n i = x := if_pos ⟨rfl, rfl⟩
theorem upd_ne (f : Nat → Nat → Int) {n i a b : Nat} (x : Int) (h : a ≠ n ∨ b ≠ i) : upd f n i x a b = f a b := if_neg (by omega)
def Bal.lf (B : Bal) (j : Nat) : Int := if j < 256 then B.o (j / 8) (j % 8) else B.p ((j - 256) / 8) (j % 8)
def Bal.rf (B : Bal) (L : Nat → Int) (j : Nat) : Int := if j < 128 then L j else if (j - 128) % 16 < 8 then B.o ((j - 128) / 16) (j % 8) else B.p ((j - 128) / 16) (j % 8)
def Bal.lc (B : Bal) : List Value := lay 512 B.lf
/-- the document's: L: the limits ahead of them -/
def Bal.rc (B : Bal) (L : Nat → Int) : List Value := lay 640 (B.rf L)
theorem lf_o (B : Bal) {n i : Nat} (hn : n < 32) (hi : i < 8) : B.lf (n * 8 + i) = B.o n i := by
  unfold Bal.lf
  rw [if_pos (by omega), show (n * 8 + i) / 8 = n by omega, show (n * 8 + i) % 8 = i by omega]
theorem lf_p (B : Bal) {n i : Nat} (hi : i < 8) : B.lf (256 + n * 8 + i) = B.p n i := by
  unfold Bal.lf
  rw [if_neg (by omega), show (256 + n * 8 + i - 256) / 8 = n by omega, show (256 + n * 8 + i) % 8 = i by omega]
theorem rf_o (B : Bal) (L : Nat → Int) {n i : Nat} (hi : i < 8) : B.rf L (128 + n * 16 + i) = B.o n i := by
  unfold Bal.rf
  rw [if_neg (by omega), if_pos (by omega), show (128 + n * 16 + i - 128) / 16 = n by omega, show (128 + n * 16 + i) % 8 = i by omega]
theorem rf_p (B : Bal) (L : Nat → Int) {n i : Nat} (hi : i < 8) : B.rf L (128 + n * 16 + 8 + i) = B.p n i := by
  unfold Bal.rf
  rw [if_neg (by omega), if_neg (by omega), show (128 + n * 16 + 8 + i - 128) / 16 = n by omega, show (128 + n * 16 + 8 + i) % 8 = i by omega]
theorem lc_setO (B : Bal) {n i : Nat} (hn : n < 32) (hi : i < 8) (x : Int) : B.lc.set (n * 8 + i) (.int .i64 x) = (Bal.mk (upd B.o n i x) B.p).lc := by
  unfold Bal.lc
  rw [lay_set _ (by omega)]
  refine lay_ext fun j hj => ?_
  unfold Bal.lf upd
  dsimp only
  by_cases h : j < 256
  · rw [if_pos h, if_pos h]
    by_cases e : j = n * 8 + i
    · rw [if_pos e, if_pos (by omega)]
    · rw [if_neg e, if_neg (by omega)]
  · rw [if_neg h, if_neg h, if_neg (by omega)]
theorem lc_setP (B : Bal) {n i : Nat} (hn : n < 32) (hi : i < 8) (x : Int) : B.lc.set (256 + n * 8 + i) (.int .i64 x) = (Bal.mk B.o (upd B.p n i x)).lc := by
  unfold Bal.lc
  rw [lay_set _ (by omega)]
  refine lay_ext fun j hj => ?_
  unfold Bal.lf upd
  dsimp only
  by_cases h : j < 256
  · rw [if_pos h, if_pos h, if_neg (by omega)]
  · rw [if_neg h, if_neg h]
    by_cases e : j = 256 + n * 8 + i
    · rw [if_pos e, if_pos (by omega)]
    · rw [if_neg e, if_neg (by omega)]
theorem rc_setO (B : Bal) (L : Nat → Int) {n i : Nat} (hn : n < 32) (hi : i < 8) (x : Int) : (B.rc L).set (128 + n * 16 + i) (.int .i64 x) = (Bal.mk (upd B.o n i x) B.p).rc L := by
  unfold Bal.rc
  rw [lay_set _ (by omega)]
  refine lay_ext fun j hj => ?_
  unfold Bal.rf upd
  dsimp only
  by_cases h : j < 128
  · rw [if_pos h, if_pos h, if_neg (by omega)]
  · rw [if_neg h, if_neg h]
    by_cases h2 : (j - 128) % 16 < 8
    · rw [if_pos h2, if_pos h2]
      by_cases e : j = 128 + n * 16 + i
      · rw [if_pos e, if_pos (by omega)]
      · rw [if_neg e, if_neg (by omega)]
    · rw [if_neg h2, if_neg h2, if_neg (by omega)]
theorem rc_setP (B : Bal) (L : Nat → Int) {n i : Nat} (hn : n < 32) (hi : i < 8) (x : Int) : (B.rc L).set (128 + n * 16 + 8 + i) (.int .i64 x) = (Bal.mk B.o (upd B.p n i x)).rc L := by
  unfold Bal.rc
  rw [lay_set _ (by omega)]
  refine lay_ext fun j hj => ?_
  unfold Bal.rf upd
  dsimp only
  by_cases h : j < 128
  · rw [if_pos h, if_pos h, if_neg (by omega)]
  · rw [if_neg h, if_neg h]
    by_cases h2 : (j - 128) % 16 < 8
    · rw [if_pos h2, if_pos h2, if_neg (by omega)]
    · rw [if_neg h2, if_neg h2]
      by_cases e : j = 128 + n * 16 + 8 + i
      · rw [if_pos e, if_pos (by omega)]
      · rw [if_neg e, if_neg (by omega)]

/-! who and where -/
def wiB (n lo hi : Int) : Bool := decide (lo ≤ n) && decide (n ≤ hi)
theorem wiB_iff {n lo hi : Int} : wiB n lo hi = true ↔ lo ≤ n ∧ n ≤ hi := by unfold wiB; simp
theorem wiB_not {n lo hi : Int} : wiB n lo hi = false ↔ n < lo ∨ hi < n := by
  rw [← Bool.not_eq_true, wiB_iff]
  omega
def thB (n i : Int) : Bool := wiB n 0 31 && wiB i 0 7
theorem thB_yes {n i : Int} (h : thB n i = true) : ∃ a b : Nat, a < 32 ∧ b < 8 ∧ n = (a : Int) ∧ i = (b : Int) := by
  unfold thB at h
  rw [Bool.and_eq_true, wiB_iff, wiB_iff] at h
  exact ⟨n.toNat, i.toNat, by omega, by omega, by omega, by omega⟩
theorem thB_in {a b : Nat} (ha : a < 32) (hb : b < 8) : thB (a : Int) (b : Int) = true := by
  unfold thB
  rw [Bool.and_eq_true, wiB_iff, wiB_iff]
  omega
theorem th_eq (n i : Int) : thB n i = (((decide (0 ≤ n) && decide (n < 32)) && decide (0 ≤ i)) && decide (i < 8)) := by
  unfold thB wiB
  rw [Bool.eq_iff_iff]
  simp only [Bool.and_eq_true, decide_eq_true_eq]
  omega
def pick2 (f : Nat → Nat → Int) (n i : Int) : Int := if thB n i = true then f n.toNat i.toNat else 0
theorem pick2_in (f : Nat → Nat → Int) {a b : Nat} (ha : a < 32) (hb : b < 8) : pick2 f (a : Int) (b : Int) = f a b := by unfold pick2; rw [if_pos (thB_in ha hb)]; rfl
theorem pick2_out (f : Nat → Nat → Int) {n i : Int} (h : thB n i = false) : pick2 f n i = 0 := by unfold pick2; rw [if_neg (by rw [h]; simp)]
def sumTo (f : Nat → Int) : Nat → Int
  | 0 => 0
  | k + 1 => sumTo f k + f k
theorem sumTo_in {f : Nat → Int} {lo hi : Int} (h : ∀ j, lo ≤ f j ∧ f j ≤ hi) (k : Nat) : lo * k ≤ sumTo f k ∧ sumTo f k ≤ hi * k := by
  induction k with
  | zero => simp [sumTo]
  | succ k ih =>
    have := h k
    unfold sumTo
    rw [Int.natCast_succ, Int.mul_add, Int.mul_add, Int.mul_one, Int.mul_one]
    omega
theorem sumTo_ext {f g : Nat → Int} {k : Nat} (h : ∀ j, j < k → f j = g j) : sumTo f k = sumTo g k := by
  induction k with
  | zero => rfl
  | succ k ih =>
    unfold sumTo
    rw [ih (fun j hj => h j (by omega)), h k (by omega)]
theorem sumTo_zero (k : Nat) : sumTo (fun _ => 0) k = 0 := by
  induction k with
  | zero => rfl
  | succ k ih => unfold sumTo; rw [ih]; rfl
def Bal.oAt (B : Bal) (n i : Int) : Int := pick2 B.o n i
def Bal.pAt (B : Bal) (n i : Int) : Int := pick2 B.p n i
def Bal.all (B : Bal) (n : Int) : Int := sumTo (fun k => B.oAt n (k : Int)) 8
theorem all_in (B : Bal) {a : Nat} (ha : a < 32) : B.all (a : Int) = sumTo (fun k => B.o a k) 8 := sumTo_ext fun j hj => pick2_in _ ha hj
theorem all_out (B : Bal) {n : Int} (h : wiB n 0 31 = false) : B.all n = 0 := by
  exact (sumTo_ext (g := fun _ => 0) fun j hj => pick2_out _ (by unfold thB; rw [h]; rfl)).trans (sumTo_zero _)
structure Bal.Ok (B : Bal) : Prop where
  o : ∀ n i, 0 ≤ B.o n i ∧ B.o n i ≤ 1099511627776
  p : ∀ n i, -1099511627776 ≤ B.p n i ∧ B.p n i ≤ 1099511627776
theorem ok_zero : zeroB.Ok := ⟨fun _ _ => by show (0 : Int) ≤ 0 ∧ (0 : Int) ≤ 1099511627776; omega, fun _ _ => by show (-1099511627776 : Int) ≤ 0 ∧ (0 : Int) ≤ 1099511627776; omega⟩
theorem pick2_bound {f : Nat → Nat → Int} {lo hi : Int} (h : ∀ n i, lo ≤ f n i ∧ f n i ≤ hi) (h0 : lo ≤ 0) (h1 : 0 ≤ hi) (n i : Int) : lo ≤ pick2 f n i ∧ pick2 f n i ≤ hi := by
  unfold pick2
  split
  · exact h _ _
  · exact ⟨h0, h1⟩
theorem upd_bound {f : Nat → Nat → Int} {lo hi x : Int} (h : ∀ n i, lo ≤ f n i ∧ f n i ≤ hi) (hx : lo ≤ x ∧ x ≤ hi) (n i : Nat) : ∀ a b, lo ≤ upd f n i x a b ∧ upd f n i x a b ≤ hi := by
  intro a b
  unfold upd
  split
  · exact hx
  · exact h _ _

/-! Opens, Trades -/
def opB (B : Bal) (n i q : Int) : Bool := (thB n i && wiB q (-1048576) 1048576) && wiB (B.oAt n i + q) 0 1099511627776
def opM (B : Bal) (n i q : Int) : Bal := if opB B n i q = true then ⟨upd B.o n.toNat i.toNat (B.oAt n i + q), B.p⟩ else B
def sgn (s q : Int) : Int := if s = 2 then -q else q
def sdB (s : Int) : Bool := decide (s = 1) || decide (s = 2)
def trB (B : Bal) (n i s q : Int) : Bool := ((thB n i && wiB q 1 1048576) && sdB s) && wiB (B.pAt n i + sgn s q) (-1099511627776) 1099511627776
def trM (B : Bal) (n i s q : Int) : Bal := if trB B n i s q = true then ⟨B.o, upd B.p n.toNat i.toNat (B.pAt n i + sgn s q)⟩ else B
theorem Bal.Ok.op {B : Bal} (h : B.Ok) (n i q : Int) : (opM B n i q).Ok := by
  unfold opM
  by_cases e : opB B n i q = true
  · rw [if_pos e]
    unfold opB at e
    rw [Bool.and_eq_true, wiB_iff] at e
    exact ⟨upd_bound h.o e.2 _ _, h.p⟩
  · rw [if_neg e]
    exact h
theorem Bal.Ok.tr {B : Bal} (h : B.Ok) (n i s q : Int) : (trM B n i s q).Ok := by
  unfold trM
  by_cases e : trB B n i s q = true
  · rw [if_pos e]
    unfold trB at e
    rw [Bool.and_eq_true, wiB_iff] at e
    exact ⟨h.o, upd_bound h.p e.2 _ _⟩
  · rw [if_neg e]
    exact h
theorem Bal.Ok.all_ {B : Bal} (h : B.Ok) (n : Int) (k : Nat) (hk : k ≤ 8) : 0 ≤ sumTo (fun k => B.oAt n (k : Int)) k ∧ sumTo (fun k => B.oAt n (k : Int)) k ≤ 8796093022208 := by
  have := sumTo_in (f := fun k => B.oAt n (k : Int)) (lo := 0) (hi := 1099511627776) (fun j => pick2_bound h.o (by omega) (by omega) _ _) k
  omega
theorem op_in {B : Bal} {a b : Nat} (ha : a < 32) (hb : b < 8) {q : Int} (h0 : -1048576 ≤ q) (h1 : q ≤ 1048576) (h2 : 0 ≤ B.o a b + q) (h3 : B.o a b + q ≤ 1099511627776) : opB B (a : Int) (b : Int) q = true ∧ opM B (a : Int) (b : Int) q = ⟨upd B.o a b (B.o a b + q), B.p⟩ := by
  have e : opB B (a : Int) (b : Int) q = true := by
    unfold opB Bal.oAt
    rw [pick2_in _ ha hb, thB_in ha hb, wiB_iff.2 ⟨h0, h1⟩, wiB_iff.2 ⟨h2, h3⟩]
    rfl
  refine ⟨e, ?_⟩
  unfold opM
  rw [if_pos e]
  unfold Bal.oAt
  rw [pick2_in _ ha hb]
  rfl
theorem op_no {B : Bal} {n i q : Int} (h : opB B n i q = false) : opM B n i q = B := by unfold opM; rw [if_neg (by rw [h]; simp)]
theorem tr_in {B : Bal} {a b : Nat} (ha : a < 32) (hb : b < 8) {s q : Int} (h0 : 1 ≤ q) (h1 : q ≤ 1048576) (hs : sdB s = true) (h2 : -1099511627776 ≤ B.p a b + sgn s q) (h3 : B.p a b + sgn s q ≤ 1099511627776) : trB B (a : Int) (b : Int) s q = true ∧ trM B (a : Int) (b : Int) s q = ⟨B.o, upd B.p a b (B.p a b + sgn s q)⟩ := by
  have e : trB B (a : Int) (b : Int) s q = true := by
    unfold trB Bal.pAt
    rw [pick2_in _ ha hb, thB_in ha hb, wiB_iff.2 ⟨h0, h1⟩, hs, wiB_iff.2 ⟨h2, h3⟩]
    rfl
  refine ⟨e, ?_⟩
  unfold trM
  rw [if_pos e]
  unfold Bal.pAt
  rw [pick2_in _ ha hb]
  rfl
theorem tr_no {B : Bal} {n i s q : Int} (h : trB B n i s q = false) : trM B n i s q = B := by unfold trM; rw [if_neg (by rw [h]; simp)]

/-! the types -/
theorem zAc : (Try.prog.info? 53).map (·.zero) = some (some (.agg zeroB.lc.toArray)) := by kernel_rfl
theorem szI1 : (Try.prog.info? 3).map (·.size) = some 1 := by kernel_rfl
theorem sz8 : (Try.prog.info? 38).map (·.size) = some 8 := by kernel_rfl
theorem und8 : Try.prog.underlying 38 = some (.array 8 3) := Try.underlying38
theorem z8 : (Try.prog.info? 38).map (·.zero) = some (some (.agg (lay 8 fun _ => 0).toArray)) := by kernel_rfl
section
variable {a : Act} {o : Oper} {u : World}
/-- the whole array of eight, wherever it lies -/
theorem exec_ld8 (x : Operand) (g off : Nat) (f : Nat → Int) (hop : o.op = .load 38 x) (hx : a.eval x = .pointer (some ⟨g, off, none⟩)) (hc : u.rangeAt g off (lay 8 f)) : (execOp a.eval o).run Try.prog u = .ok (.value (.agg (lay 8 f).toArray)) u :=
  exec_loadT 38 x g off (lay 8 f) 8 3 hop hx hc und8 (by rw [lay_len]; exact sz8)
/-- one of eight numbers, by value -/
theorem exec_ix8 (f : Nat → Int) (i : Nat) (I : Int) (x y : Operand) (hop : o.op = .index 38 x y) (hx : a.eval x = .agg (lay 8 f).toArray) (hy : a.eval y = .int .i64 I) (hI : I = (i : Int)) (hi : i < 8) : (execOp a.eval o).run Try.prog u = .ok (.value (.int .i64 (f i))) u := by
  subst hI
  have hs := szI1
  cases hq : Try.prog.info? 3 with
  | none => simp [hq] at hs
  | some inf =>
    have h2 : inf.size = 1 := by simpa [hq] using hs
    have hp : (Go.part 3 (lay 8 f).toArray i).run Try.prog u = .ok (.int .i64 (f i)) u := run_part_plain u plainI (by rw [List.getElem?_toArray]; exact lay_at f hi)
    have hin : (0 : Int) ≤ (i : Int) ∧ (i : Int) < ((8 : Nat) : Int) := by omega
    unfold execOp
    simp only [hop, hx, hy]
    simp [Instr.index, asIntOf, run_underlying und8, Sem.run_bind, sizeOf, typeInfo, hq, h2, hp, hi]
end
end Go.Proofs.Ytgajdkelpaaadaa
