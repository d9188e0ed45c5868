/-
  Commands and notes: their cells, and whether two are the same. No condition.
-/
import Derived.Test.YtfoamgljfdnloaaDoorStc
namespace Go.Proofs.YtfoamgljfdnloaaDoor
open Go.RowKit
set_option linter.unusedVariables false
set_option maxRecDepth 100000

structure Cmd where
  k : Int
  seq : Int
  tr : Int
  inst : Int
  id : Int
  side : Int
  ord : Int
  price : Int
  qty : Int
  shw : Int
  stop : Int
  what : Int
  fa : Int
  fb : Int
  tag : List UInt8
def Cmd.l (c : Cmd) : List Int := [c.k, c.seq, c.tr, c.inst, c.id, c.side, c.ord, c.price, c.qty, c.shw, c.stop, c.what, c.fa, c.fb]
theorem Cmd.ext_l {c d : Cmd} (h : c.l = d.l) (ht : c.tag = d.tag) : c = d := by
  cases c
  cases d
  simp only [Cmd.l, List.cons.injEq] at h ht
  simp_all
instance : DecidableEq Cmd := fun c d => decidable_of_iff (c.l = d.l ∧ c.tag = d.tag) ⟨fun h => Cmd.ext_l h.1 h.2, fun h => by subst h; exact ⟨rfl, rfl⟩⟩
def Cmd.cells (c : Cmd) : List Value := stc c.l c.tag
def Cmd.v (c : Cmd) : Value := .agg c.cells.toArray
theorem Cmd.cells_len (c : Cmd) (h : c.tag.length = 32) : c.cells.length = 46 := by unfold Cmd.cells; rw [stc_len, h]; rfl
structure Nte where
  k : Int
  err : Int
  seq : Int
  inst : Int
  id : Int
  no : Int
  side : Int
  price : Int
  qty : Int
  left : Int
  sum : List UInt8
def Nte.l (c : Nte) : List Int := [c.k, c.err, c.seq, c.inst, c.id, c.no, c.side, c.price, c.qty, c.left]
def Nte.cells (c : Nte) : List Value := stc c.l c.sum
def Nte.v (c : Nte) : Value := .agg c.cells.toArray
theorem Nte.cells_len (c : Nte) (h : c.sum.length = 32) : c.cells.length = 42 := by unfold Nte.cells; rw [stc_len, h]; rfl
theorem plainI : Tryd.prog.plainKey 3 = true := by kernel_rfl
theorem run_eqInt (d : Nat) (xs ys : Array Value) (w : World) (f : Field) (fs : List Field) (x y : Int) (hn : (f.name == "_") = false) (ht : f.type = 3) (hx : xs[f.offset]? = some (.int .i64 x)) (hy : ys[f.offset]? = some (.int .i64 y)) (r : Bool) (hr : (Op.eqFields (d + 1) xs ys fs).run Tryd.prog w = .ok r w) :
    (Op.eqFields (d + 1) xs ys (f :: fs)).run Tryd.prog w = .ok (x == y && r) w := by
  have hn' : f.name ≠ "_" := by simpa using hn
  have e1 := run_part_plain w plainI hx
  have e2 := run_part_plain w plainI hy
  rw [← ht] at e1 e2
  simp only [Op.eqFields, if_pos hn', Sem.run_bind, e1, e2, Result.andThen_ok]
  rw [ht, run_equalIn_int w d 3 .i64 .i64 _ _ Tryd.underlying3]
  cases hxy : (x == y) with
  | false => simp
  | true => simp [hr]
theorem run_partT (xs : Array Value) (off : Nat) (t : List UInt8) (ht : t.length = 32) (hx : xs.extract off (off + 32) = (cells8 t).toArray) (w : World) : (part 33 xs off).run Tryd.prog w = .ok (.agg (cells8 t).toArray) w := by
  have hs := sum_size
  cases hq : Tryd.prog.info? 33 with
  | none => simp [hq] at hs
  | some i =>
    have h2 : i.size = 32 := by simpa [hq] using hs
    have hagg : (isAgg 33).run Tryd.prog w = .ok true w := by
      unfold isAgg
      rw [Sem.run_bind, run_underlying Tryd.underlying33 w]
      rfl
    simp [part, Sem.run_bind, hagg, sizeOf, typeInfo, hq, h2, hx]
theorem run_eqTag (d : Nat) (xs ys : Array Value) (w : World) (f : Field) (x y : List UInt8) (hn : (f.name == "_") = false) (ht : f.type = 33) (hx : xs.extract f.offset (f.offset + 32) = (cells8 x).toArray) (hy : ys.extract f.offset (f.offset + 32) = (cells8 y).toArray) (lx : x.length = 32) (ly : y.length = 32) :
    (Op.eqFields (d + 2) xs ys [f]).run Tryd.prog w = .ok (decide (x = y)) w := by
  have hn' : f.name ≠ "_" := by simpa using hn
  have e1 := run_partT xs f.offset x lx hx w
  have e2 := run_partT ys f.offset y ly hy w
  rw [← ht] at e1 e2
  have e3 : (Op.equalIn (d + 2) 33 (.agg (cells8 x).toArray) (.agg (cells8 y).toArray)).run Tryd.prog w = .ok (decide (x = y)) w := by
    obtain ⟨i0, hi, hz0, hz1, hz2⟩ := info_parts info8
    have h := run_equalIn_array w (d + 1) (t := 33) (cells8 x).toArray (cells8 y).toArray Tryd.underlying33 hi
    rw [h, cells8of, run_eqItems8 d x y w _ (fun i hi => by simp at hi; omega), all_eq x y 32 lx ly]
  simp only [Op.eqFields, if_pos hn', Sem.run_bind, e1, e2, Result.andThen_ok]
  rw [ht, e3]
  cases hxy : decide (x = y) <;> simp
theorem extract_tag (l : List Int) (t : List UInt8) (n : Nat) (hn : l.length = n) (ht : t.length = 32) : (stc l t).toArray.extract n (n + 32) = (cells8 t).toArray := by
  subst hn
  apply Array.toList_inj.1
  simp only [List.extract_toArray, List.extract_eq_take_drop]
  unfold stc
  rw [List.drop_append_of_le_length (by rw [i64s_len]; omega), List.drop_of_length_le (by rw [i64s_len]; omega), List.nil_append, List.take_of_length_le (by rw [len8]; omega)]
/-- fields of ints, then a sum -/
theorem run_eqStc (d n : Nat) (w : World) (l m : List Int) (s t : List UInt8) (hl : l.length = n) (hm : m.length = n) (hs : s.length = 32) (ht : t.length = 32) : ∀ (k : Nat) (fs : List Field), k ≤ n →
    fs.map (fun f => (f.name == "_", f.type, f.offset)) = (List.range' (n - k) k).map (fun i => (false, 3, i)) ++ [(false, 33, n)] →
    (Op.eqFields (d + 2) (stc l s).toArray (stc m t).toArray fs).run Tryd.prog w = .ok (decide (l.drop (n - k) = m.drop (n - k)) && decide (s = t)) w
  | 0, fs, hk, h => by
    match fs, h with
    | [f], h =>
      simp at h
      obtain ⟨h1, h2, h3⟩ := h
      rw [run_eqTag d _ _ w f s t (by simpa using h1) h2 (by rw [h3]; exact extract_tag l s n hl hs) (by rw [h3]; exact extract_tag m t n hm ht) hs ht]
      simp [List.drop_of_length_le, hl, hm]
    | f :: f' :: fs, h => simp at h
  | k + 1, fs, hk, h => by
    match fs, h with
    | [], h => simp at h
    | f :: fs, h =>
      have e0 : n - (k + 1) + 1 = n - k := by omega
      simp only [List.range'_succ, List.map_cons, List.cons_append, List.cons.injEq, Prod.mk.injEq, e0] at h
      obtain ⟨⟨h1, h2, h3⟩, h4⟩ := h
      have ih := run_eqStc d n w l m s t hl hm hs ht k fs (by omega) h4
      have hx : (l)[n - (k + 1)]? = some (l[n - (k + 1)]'(by omega)) := List.getElem?_eq_getElem (by omega)
      have hy : (m)[n - (k + 1)]? = some (m[n - (k + 1)]'(by omega)) := List.getElem?_eq_getElem (by omega)
      rw [run_eqInt (d + 1) _ _ w f fs _ _ h1 h2 (by rw [h3]; simpa using stc_int l s _ _ hx) (by rw [h3]; simpa using stc_int m t _ _ hy) _ ih]
      congr 1
      rw [List.drop_eq_getElem_cons (by omega : n - (k + 1) < l.length), List.drop_eq_getElem_cons (by omega : n - (k + 1) < m.length), e0, ← Bool.and_assoc]
      congr 1
      rw [Bool.eq_iff_iff]
      simp

section
variable {a : Act} {o : Oper} {u : World}
end
end Go.Proofs.YtfoamgljfdnloaaDoor
