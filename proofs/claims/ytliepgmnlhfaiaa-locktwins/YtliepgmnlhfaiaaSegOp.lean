/-
  Slices of structs: parts, append, stores. No condition.
-/
import Derived.Test.YtliepgmnlhfaiaaSeg
namespace Go.Proofs.Ytliepgmnlhfaiaa
open Go.RowKit
set_option linter.unusedVariables false
set_option maxRecDepth 100000

/-- what is known of a slice type: its elements' type, size, zero, bytes -/
structure SlT (t T : TypeId) (k bytes : Nat) : Prop where
  und : Try.prog.underlying t = some (.slice T)
  elem : Try.prog.elem t = T
  info : ∃ z, (Try.prog.info? T).map (fun i => (i.zero, i.size, i.bytes)) = some (some z, k, bytes) ∧ z.cells.size = k ∧ ∀ u ∈ z.cells, u.oneCell' = true
  pos : 0 < k

/-- append -/
theorem run_append_sl {t T : TypeId} {k bytes : Nat} (ht : SlT t T k bytes) (ty : TypeId) (w : World) (v x : Value) (n m : Nat) (cs ds : List Value) (hv : Sl w T k v n cs) (hx : Sl w T k x m ds) (h1 : ∀ u ∈ ds, u.oneCell' = true) (h63 : n + m ≤ maxLen) (hlim : (n + m) * bytes ≤ 140737488355328) :
    ∃ v' w', (Builtin.append_ #[t, t] ty #[v, x]).run Try.prog w = .ok v' w' ∧ Sl w' T k v' (n + m) (cs ++ ds) ∧ Keep (fun b => v.ownBlock = some b) w w' ∧ ∀ b, v'.ownBlock = some b → v.ownBlock = some b ∨ w.heap.size ≤ b := by
  obtain ⟨z, hz, hz2, _⟩ := ht.info
  obtain ⟨i0, hi, hz0, hz1, hzb⟩ := info_parts hz
  obtain ⟨hl2, B, d, rfl, hd1, hd2, hd3, hd4⟩ := hx
  cases B with
  | none =>
    have := hd3 rfl
    subst this
    have : m = 0 := by omega
    subst this
    have : ds = [] := List.eq_nil_of_length_eq_zero (by omega)
    subst this
    refine ⟨v, w, ?_, by simpa using hv, Keep.refl _ _, fun b h => .inl h⟩
    obtain ⟨hl1, A, c, rfl, hc1, hc2, hc3, hc4⟩ := hv
    simp only [Builtin.append_, Sem.run_bind, Sem.run_pure, Result.andThen_ok, run_underlying ht.und, List.getElem?_toArray, List.getElem?_cons_zero, List.getElem?_cons_succ]
    cases A with
    | none => simp [sizeOf, typeInfo, hi, Builtin.lenOf, Builtin.firstCells, hc1]
    | some ad => simp [sizeOf, typeInfo, hi, Builtin.lenOf, Builtin.firstCells, loadCells, hc1, storeCells]
  | some ad =>
    obtain ⟨g2, off2, cur2, rfl, hB2, hle2, htk2⟩ := hd4 _ rfl
    have hnews : ∀ j u, ds[j]? = some u → w.cell? ((⟨g2, off2, none⟩ : Addr).add j) = some u := fun j u hu => by rw [Addr.add_mid]; exact seg_cell hB2 htk2 j u hu
    obtain ⟨hl1, A, c, rfl, hc1, hc2, hc3, hc4⟩ := hv
    cases A with
    | none =>
      have := hc3 rfl
      subst this
      have : n = 0 := by omega
      subst this
      have : cs = [] := List.eq_nil_of_length_eq_zero (by omega)
      subst this
      obtain ⟨v', w', hr, hown, hgr, _⟩ := run_append_own (P := Try.prog) w w.heap.size t ty T i0 z k bytes ht.und hi hz0 hz1 hzb hz2 ht.pos (.slice none 0 0) 0 [] (World.ownsRow_nil w _ T k) ⟨g2, off2, none⟩ m d ds hl2 hnews h1 h63 hlim (Nat.le_refl _)
      exact ⟨v', w', hr, Sl.of_own hown, (Keep.refl _ w).grown hgr (fun b hb _ => by simp [Value.ownBlock] at hb), fun b hb => .inr (own_of hown hb)⟩
    | some ad =>
      obtain ⟨g, off, cur, rfl, hB, hle, htk⟩ := hc4 _ rfl
      by_cases hroom : n + m ≤ c
      · subst hz1
        have hfit : off + n * i0.size + ds.length ≤ cur.length := by
          have := Nat.mul_le_mul_right i0.size hroom
          rw [Nat.add_mul] at this
          omega
        have hr := run_append_room_cells (P := Try.prog) w t ty T i0 ht.und hi g off n c ⟨g2, off2, none⟩ m d ds hl2 hnews h1 hroom
          (fun j hj => by rw [hB.cell, List.getElem?_eq_getElem (by omega)]; rfl) (fun j hj => hB.frozen _)
        obtain ⟨hB', hK, _⟩ := Blk.setCells ds (off + n * i0.size) w cur hB hfit
        refine ⟨_, _, hr, ⟨by rw [List.length_append, hl1, hl2, Nat.add_mul], _, c, rfl, hroom, hc2, fun h => (by cases h), fun ad had => ?_⟩, hK.mono (fun b _ hb => by subst hb; rfl), fun b hb => .inl hb⟩
        injection had with had
        subst had
        refine ⟨g, off, _, rfl, hB', ?_, ?_⟩
        · simp only [List.length_append, List.length_take, List.length_drop]
          omega
        · have e0 : (cur.take (off + n * i0.size)).length = off + n * i0.size := by rw [List.length_take]; omega
          rw [List.append_assoc, List.drop_append_of_le_length (by omega), List.drop_take, show off + n * i0.size - off = n * i0.size by omega, htk, ← List.append_assoc, List.take_append_of_le_length (by rw [List.length_append, hl1, hl2, Nat.add_mul]; omega), List.take_of_length_le (by rw [List.length_append, hl1, hl2, Nat.add_mul]; omega)]
      · obtain ⟨v', w', hr, hown, hgr⟩ := run_append_arg_grows (P := Try.prog) w t ty T i0 z k bytes ht.und hi hz0 hz1 hzb hz2 ht.pos ⟨g, off, none⟩ n c cs hl1 (fun j u hu => by rw [Addr.add_mid]; exact seg_cell hB htk j u hu) ⟨g2, off2, none⟩ m d ds hl2 hnews (by omega) h63 hlim
        exact ⟨v', w', hr, Sl.of_own hown, (Keep.refl _ w).grown hgr (fun b hb _ => by cases hb), fun b hb => .inr (own_of hown hb)⟩

/-- x[l:] -/
theorem slice_lS {t T : TypeId} {k bytes : Nat} (ht : SlT t T k bytes) (v : Value) (n l : Nat) (hl : l ≤ n) (cs : List Value) (w0 : World) (h : Sl w0 T k v n cs) :
    ∃ v', (∀ u, (Instr.slice t v (some (.int .i64 (l : Int))) none none).run Try.prog u = .ok v' u) ∧ v'.ownBlock = v.ownBlock ∧ ∀ w ds, Sl w T k v n ds → Sl w T k v' (n - l) (ds.drop (l * k)) := by
  obtain ⟨z, hz, hz2, _⟩ := ht.info
  obtain ⟨i0, hi, hz0, hz1, hzb⟩ := info_parts hz
  obtain ⟨hl1, A, c, rfl, hc1, hc2, hc3, _⟩ := h
  have hr := fun u => run_slice_l (P := Try.prog) (w := u) t A n c (by rw [ht.elem]; exact ht.und) .i64 (l : Int) (by omega) (by omega)
  cases A with
  | none =>
    have := hc3 rfl
    subst this
    have : n = 0 := by omega
    subst this
    have : l = 0 := by omega
    subst this
    refine ⟨.slice none 0 0, fun u => ?_, rfl, fun w ds h => by simpa using h⟩
    rw [hr, ht.elem]
    simp [sizeOf, typeInfo, hi, hz1, sliced]
  | some ad =>
    by_cases e : c = l
    · refine ⟨.slice (some ad) (n - l) (c - l), fun u => ?_, rfl, fun w ds h => ?_⟩
      · rw [hr, ht.elem]
        simp [sizeOf, typeInfo, hi, hz1, sliced, e]
      · obtain ⟨hl1, A, c', e', _, _, _, h4⟩ := h
        injection e' with e1 e2 e3
        subst e1 e3
        obtain ⟨g, off, cur, rfl, hB, h5, h6⟩ := h4 _ rfl
        have hnl : n - l = 0 := by omega
        refine ⟨by rw [List.length_drop, hl1, ← Nat.sub_mul], _, c - l, rfl, by omega, by omega, fun h => (by cases h), fun ad had => ?_⟩
        injection had with had
        subst had
        refine ⟨g, off, cur, rfl, hB, by rw [Nat.sub_mul]; omega, ?_⟩
        have : n * k ≤ l * k := Nat.mul_le_mul_right k (by omega)
        rw [hnl, Nat.zero_mul, List.take_zero, List.drop_of_length_le (by omega)]
    · have hr2 : ∀ u, (Instr.slice t (.slice (some ad) n c) (some (.int .i64 (l : Int))) none none).run Try.prog u = .ok (.slice (some (ad.add (l * k))) (n - l) (c - l)) u := by
        intro u
        rw [hr, ht.elem]
        simp [sizeOf, typeInfo, hi, hz1, sliced, e]
      refine ⟨_, hr2, by simp [Value.ownBlock, block_add], fun w ds h => ?_⟩
      obtain ⟨hl1, A, c', e', _, _, _, h4⟩ := h
      injection e' with e1 e2 e3
      subst e1 e3
      obtain ⟨g, off, cur, rfl, hB, h5, h6⟩ := h4 _ rfl
      refine ⟨by rw [List.length_drop, hl1, ← Nat.sub_mul], _, c - l, rfl, by omega, by omega, fun h => (by cases h), fun ad had => ?_⟩
      injection had with had
      subst had
      have hlc : l * k ≤ c * k := Nat.mul_le_mul_right k (by omega)
      refine ⟨g, off + l * k, cur, by rw [Addr.add_mid], hB, by rw [Nat.sub_mul]; omega, ?_⟩
      rw [← h6, List.drop_take, List.drop_drop, ← Nat.sub_mul]
/-- x[:h] -/
theorem slice_hS {t T : TypeId} {k bytes : Nat} (ht : SlT t T k bytes) (v : Value) (n l : Nat) (hl : l ≤ n) (cs : List Value) (w0 : World) (h : Sl w0 T k v n cs) :
    ∃ v', (∀ u, (Instr.slice t v none (some (.int .i64 (l : Int))) none).run Try.prog u = .ok v' u) ∧ v'.ownBlock = v.ownBlock ∧ ∀ w ds, Sl w T k v n ds → Sl w T k v' l (ds.take (l * k)) := by
  obtain ⟨z, hz, hz2, _⟩ := ht.info
  obtain ⟨i0, hi, hz0, hz1, hzb⟩ := info_parts hz
  obtain ⟨hl1, A, c, rfl, hc1, hc2, hc3, _⟩ := h
  have hr := fun u => run_slice_h (P := Try.prog) (w := u) t A n c (by rw [ht.elem]; exact ht.und) .i64 (l : Int) (by omega) (by omega)
  refine ⟨.slice A l c, fun u => ?_, by cases A <;> rfl, fun w ds h => ?_⟩
  · rw [hr, ht.elem]
    cases A with
    | none => simp [sizeOf, typeInfo, hi, hz1, sliced]
    | some ad => simp [sizeOf, typeInfo, hi, hz1, sliced, Addr.add]
  · obtain ⟨hl1, A', c', e', h1, h2, h3, h4⟩ := h
    injection e' with e1 e2 e3
    subst e1 e3
    have hlk : l * k ≤ n * k := Nat.mul_le_mul_right k hl
    refine ⟨by rw [List.length_take, hl1]; omega, _, c, rfl, by omega, h2, h3, fun ad had => ?_⟩
    obtain ⟨g, off, cur, rfl, hB, h5, h6⟩ := h4 ad had
    refine ⟨g, off, cur, rfl, hB, h5, ?_⟩
    rw [← h6, List.take_take, Nat.min_eq_left hlk]
/-- a store of cells into it -/
theorem Sl.setCells {w : World} {T : TypeId} {k n g off c : Nat} {cs : List Value} (h : Sl w T k (.slice (some ⟨g, off, none⟩) n c) n cs) (i : Nat) (ds : List Value) (hi : i + ds.length ≤ n * k) :
    Sl (w.setCells g (off + i) ds) T k (.slice (some ⟨g, off, none⟩) n c) n (cs.take i ++ ds ++ cs.drop (i + ds.length)) ∧ Keep (· = g) w (w.setCells g (off + i) ds) ∧ (w.setCells g (off + i) ds).heap.size = w.heap.size ∧ w.there g (off + i) ds.length := by
  obtain ⟨hl1, A, c', e', h1, h2, h3, h4⟩ := h
  injection e' with e1 e2 e3
  subst e1 e3
  obtain ⟨g', off', cur, e, hB, h5, h6⟩ := h4 _ rfl
  injection e with e1 e2
  subst e1 e2
  have hnc : n * k ≤ c * k := Nat.mul_le_mul_right k h1
  obtain ⟨hB', hK, hs⟩ := Blk.setCells ds (off + i) w cur hB (by omega)
  refine ⟨⟨by simp only [List.length_append, List.length_take, List.length_drop]; omega, _, c, rfl, h1, h2, h3, fun ad had => ?_⟩, hK, hs, hB.there _ _ (by omega)⟩
  injection had with had
  subst had
  refine ⟨g, off, _, rfl, hB', by simp only [List.length_append, List.length_take, List.length_drop]; omega, ?_⟩
  subst h6
  apply List.ext_getElem?
  intro m
  have e0 : (cur.take (off + i)).length = off + i := by rw [List.length_take]; omega
  have e3 : (((cur.drop off).take (n * k)).take i).length = i := by simp only [List.length_take, List.length_drop]; omega
  rw [List.getElem?_take, List.append_assoc, List.append_assoc, List.getElem?_append, e3, List.getElem?_drop, List.getElem?_append, e0, List.getElem?_append, List.getElem?_append]
  by_cases cm : m < n * k
  · rw [if_pos cm]
    by_cases c1 : m < i
    · rw [if_pos (by omega), if_pos c1]
      simp only [List.getElem?_take, List.getElem?_drop]
      rw [if_pos (by omega), if_pos (by omega), if_pos (by omega)]
    · rw [if_neg (by omega), if_neg c1]
      by_cases c2 : m - i < ds.length
      · rw [if_pos (by omega), if_pos c2]
        congr 1
        omega
      · rw [if_neg (by omega), if_neg c2]
        simp only [List.getElem?_take, List.getElem?_drop]
        rw [if_pos (by omega)]
        congr 1
        omega
  · rw [if_neg cm, if_neg (by omega), if_neg (by omega)]
    simp only [List.getElem?_take, List.getElem?_drop]
    rw [if_neg (by omega)]
theorem setCells_one (w : World) (g k : Nat) (u : Value) : w.setCells g k [u] = w.setCell ⟨g, k, none⟩ u := by simp [World.setCells]
theorem Sl.setCell {w : World} {T : TypeId} {k n g off c : Nat} {cs : List Value} (h : Sl w T k (.slice (some ⟨g, off, none⟩) n c) n cs) (i : Nat) (u : Value) (hi : i < n * k) :
    Sl (w.setCell ⟨g, off + i, none⟩ u) T k (.slice (some ⟨g, off, none⟩) n c) n (cs.set i u) ∧ Keep (· = g) w (w.setCell ⟨g, off + i, none⟩ u) ∧ (w.setCell ⟨g, off + i, none⟩ u).heap.size = w.heap.size ∧ w.there g (off + i) 1 := by
  have hl := h.len
  have := h.setCells i [u] (by simp; omega)
  rw [setCells_one] at this
  refine ⟨?_, this.2.1, this.2.2.1, this.2.2.2⟩
  have e : cs.take i ++ [u] ++ cs.drop (i + [u].length) = cs.set i u := by
    rw [List.set_eq_take_append_cons_drop, if_pos (by omega)]
    simp
  rw [← e]
  exact this.1
end Go.Proofs.Ytliepgmnlhfaiaa
