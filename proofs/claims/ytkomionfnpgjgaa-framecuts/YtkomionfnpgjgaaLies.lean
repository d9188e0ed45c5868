/-
  append onto a row of the call's own: the same row, or a new block; append of a row of slices that may be nil. No condition.
-/
import Derived.Test.YtkomionfnpgjgaaRowsE
namespace Go.Proofs.Ytkomionfnpgjgaa
open Go.RowKit
set_option linter.unusedVariables false

theorem RowsE.keepM {S : Nat → Prop} {w w' : World} {base : Nat} {vs : List Value} {L : List (List UInt8)} (h : RowsE w base vs L) (hk : Keep S w w') (hn : ∀ g n c, .slice (some ⟨g, 0, none⟩) n c ∈ vs → ¬ S g) : RowsE w' base vs L :=
  ⟨h.1, fun i v xs h1 h2 => by
    obtain ⟨g, c, e, hb, hr⟩ := h.2 i v xs h1 h2
    exact ⟨g, c, e, hb, hr.keep hk (hn g _ c (by rw [← e]; exact List.mem_of_getElem? h1))⟩⟩
theorem RowsE.lt {w : World} {base : Nat} {vs : List Value} {L : List (List UInt8)} (h : RowsE w base vs L) {g n c : Nat} (hm : .slice (some ⟨g, 0, none⟩) n c ∈ vs) : g < w.heap.size := by
  obtain ⟨i, hi, e⟩ := List.getElem_of_mem hm
  obtain ⟨g', c', e', _, hr⟩ := h.2 i _ (L[i]'(by rw [← h.1]; exact hi)) (List.getElem?_eq_getElem hi) (List.getElem?_eq_getElem (by rw [← h.1]; exact hi))
  rw [e] at e'
  injection e' with e'
  injection e' with e'
  injection e' with e'
  subst e'
  exact hr.lt

theorem wpl_append_lies8 {ops : Array Oper} {rest : List Oper} {o : Oper} {a : Act} {Q : Exit → Act → World → Prop} (w : World) (hw : Region.wanted o (yielded ops a.tmps) = true) (s x : Operand)
    (hop : o.op = Op.call { callee := Callee.builtin Builtin.append, args := #[s, x], argTypes := #[26, 26] })
    (base n c : Nat) (A : Option Addr) (xs : List UInt8) (hs : a.eval s = .slice A n c) (hown : Own8 w base A n c xs) (hbase : base ≤ w.heap.size)
    (ad : Addr) (m d : Nat) (ys : List UInt8) (hx : a.eval x = .slice (some ad) m d) (hm : ys.length = m) (hR : R8 w (some ad) ys) (hpos : 0 < m) (hlim : n + m ≤ 140737488355328)
    (hK : ∀ w' g' c', Row8 w' g' c' (xs ++ ys) → base ≤ g' → (A = some ⟨g', 0, none⟩ ∨ g' = w.heap.size) → Keep (fun k => ∃ ad, A = some ad ∧ ad.block = k) w w' → wpList Try.prog ops Q rest (a.put o.dst (.slice (some ⟨g', 0, none⟩) (n + m) c')) w') :
    wpList Try.prog ops Q (o :: rest) a w := by
  obtain ⟨i0, hi, hz0, hz1, hz2⟩ := info_parts info8
  subst hm
  refine wpList_wanted hw fun K hK' => wp_append_lies w s x _ hop base 5 i0 (.int .u8 0) 1 1 Try.underlying26 hi hz0 hz1 hz2 rfl (by omega) (.slice A n c) n (cells8 xs) hs hown.own
    ad ys.length d (cells8 ys) hx (by simp [len8]) hR.cells (cells8_one ys) hpos (by unfold maxLen; omega) (by omega) hbase w.heap.size rfl ?_
  intro g' c' w' hown' hgr hat hlt
  rw [← cells8_append] at hown'
  refine hK' _ _ (hK w' g' c' (Row8.of_own hown') ?_ ?_ ((Keep.refl _ w).grown hgr (fun k hk _ => ?_)))
  · obtain ⟨_, _, e, h, _⟩ := hown'.form (by omega)
    injection e with e
    injection e with e
    injection e with e
    subst e
    exact h
  · rcases hat with h | h
    · left
      cases A with
      | none => simp [Value.ownBlock] at h
      | some ad' =>
        rcases hown with ⟨e, _⟩ | ⟨g0, e, _, _, _⟩
        · cases e
        · injection e with e
          subst e
          simp [Value.ownBlock] at h
          subst h
          rfl
    · exact .inr h
  · cases A with
    | none => simp [Value.ownBlock] at hk
    | some ad => exact ⟨ad, rfl, by simpa [Value.ownBlock] using hk⟩

/-- append of a row of slices that may be nil -/
theorem wpl_append_rows {ops : Array Oper} {rest : List Oper} {o : Oper} {a : Act} {Q : Exit → Act → World → Prop} (w : World) (hw : Region.wanted o (yielded ops a.tmps) = true) (s x : Operand)
    (hop : o.op = Op.call { callee := Callee.builtin Builtin.append, args := #[s, x], argTypes := #[24, 24] })
    (base n c : Nat) (A : Option Addr) (cs : List Value) (hs : a.eval s = .slice A n c) (hown : OwnG w base 26 1 A n c cs) (hbase : base ≤ w.heap.size)
    (base' m d : Nat) (B : Option Addr) (ds : List Value) (hx : a.eval x = .slice B m d) (hB : OwnG w base' 26 1 B m d ds) (h1 : ∀ u ∈ ds, u.oneCell' = true) (hn : n + m ≤ 1000000)
    (hK : ∀ w' A' c', OwnG w' base 26 1 A' (n + m) c' (cs ++ ds) → Keep (fun b => ∃ ad, A = some ad ∧ ad.block = b) w w' → wpList Try.prog ops Q rest (a.put o.dst (.slice A' (n + m) c')) w') :
    wpList Try.prog ops Q (o :: rest) a w := by
  cases B with
  | none =>
    have hd := hB.cap.2.2 rfl
    have hm : m = 0 := by have := hB.cap.1; omega
    subst hd hm
    have hds : ds = [] := List.eq_nil_of_length_eq_zero (by have := hB.len; omega)
    subst hds
    obtain ⟨i0, hi, hz0, hz1, hz2⟩ := info_parts infoSl
    have hr := run_append_owned_none (P := Try.prog) w base 24 o.type 26 i0 1 Try.underlying24 hi (.slice A n c) n cs hown
    refine wpList_wanted hw fun K hK' => ?_
    unfold Oper.wp execOp
    simp only [hop, resolve, invoke, builtin, Sem.run_bind, Sem.run_pure, Result.andThen_ok, List.map_toArray, List.map_cons, List.map_nil, hs, hx, hr]
    exact hK' _ _ (hK w A c (by simpa using hown) (Keep.refl _ _))
  | some ad =>
    obtain ⟨g, rfl, _, _⟩ := hB.at_ ad rfl
    refine wpl_append_g w hw s x 24 26 hop (.slice none 0 0) 1 24 Try.underlying24 infoSl rfl (by omega) base n c A cs hs hown hbase ⟨g, 0, none⟩ m d ds hx (by have := hB.len; omega) ?_ h1 (by unfold maxLen; omega) (by omega) hK
    intro j u hu
    rw [add_lit, hB.cell j (by have := (List.getElem?_eq_some_iff.1 hu).1; rw [← hB.len]; exact this), hu]
/-- rows behind each other -/
theorem RowsE.append {w : World} {base : Nat} {vs us : List Value} {L M : List (List UInt8)} (h : RowsE w base vs L) (h' : RowsE w base us M) : RowsE w base (vs ++ us) (L ++ M) := by
  refine ⟨by simp [h.1, h'.1], fun i v xs h1 h2 => ?_⟩
  by_cases hi : i < vs.length
  · rw [List.getElem?_append_left hi] at h1
    rw [List.getElem?_append_left (by rw [← h.1]; exact hi)] at h2
    exact h.2 i v xs h1 h2
  · rw [List.getElem?_append_right (by omega)] at h1
    rw [List.getElem?_append_right (by rw [← h.1]; omega), ← h.1] at h2
    exact h'.2 _ v xs h1 h2
theorem RowsE.one {w : World} {base : Nat} {vs : List Value} {L : List (List UInt8)} (h : RowsE w base vs L) : ∀ u ∈ vs, u.oneCell' = true := by
  intro u hu
  obtain ⟨i, hi, e⟩ := List.getElem_of_mem hu
  obtain ⟨g', c', e', _, hr⟩ := h.2 i _ (L[i]'(by rw [← h.1]; exact hi)) (List.getElem?_eq_getElem hi) (List.getElem?_eq_getElem (by rw [← h.1]; exact hi))
  rw [← e, e']
  rfl
end Go.Proofs.Ytkomionfnpgjgaa
