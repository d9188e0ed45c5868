/-
  Rows of the call's own, of whatever elements: a slice that is nil or lies in a block of the call's own; append; rows of slices of bytes, rows of sums. No condition.
-/
import Derived.Test.YtliepgmnlhfaiaaCmp0
import Derived.Laws.OwnMore
namespace Go.Proofs.Ytliepgmnlhfaiaa
open Go.RowKit
set_option linter.unusedVariables false
set_option maxRecDepth 100000

/-- a slice of n elements of k cells each, of capacity c, nil or in a block at or behind base -/
def OwnG (w : World) (base : Nat) (e : TypeId) (k : Nat) (A : Option Addr) (n c : Nat) (cs : List Value) : Prop := w.ownsRow base e k (.slice A n c) n cs

theorem OwnG.nil (w : World) (base : Nat) (e : TypeId) (k : Nat) : OwnG w base e k none 0 0 [] := World.ownsRow_nil w base e k
theorem OwnG.len {w : World} {base k n c : Nat} {e : TypeId} {A : Option Addr} {cs : List Value} (h : OwnG w base e k A n c cs) : cs.length = n * k := h.1
theorem OwnG.cap {w : World} {base k n c : Nat} {e : TypeId} {A : Option Addr} {cs : List Value} (h : OwnG w base e k A n c cs) : n ≤ c ∧ c ≤ maxLen ∧ (A = none → c = 0) := by
  rcases h.2 with ⟨e1, e2⟩ | ⟨g, cap, cur, e1, _, _, h1, h2, _⟩
  · injection e1 with _ _ e3
    subst e2 e3
    exact ⟨Nat.le_refl _, Nat.zero_le _, fun _ => rfl⟩
  · injection e1 with e2 _ e3
    subst e3
    exact ⟨h1, h2, fun h => by rw [h] at e2; cases e2⟩
theorem OwnG.at_ {w : World} {base k n c : Nat} {e : TypeId} {A : Option Addr} {cs : List Value} (h : OwnG w base e k A n c cs) (ad : Addr) (ha : A = some ad) : ∃ g, ad = ⟨g, 0, none⟩ ∧ base ≤ g ∧ g < w.heap.size := by
  rcases h.2 with ⟨e1, _⟩ | ⟨g, cap, cur, e1, hb, hh, _⟩
  · injection e1 with e2
    rw [ha] at e2
    cases e2
  · injection e1 with e2
    rw [ha] at e2
    injection e2 with e2
    exact ⟨g, e2, hb, (Array.getElem?_eq_some_iff.1 hh).1⟩
theorem OwnG.some_ {w : World} {base k n c : Nat} {e : TypeId} {A : Option Addr} {cs : List Value} (h : OwnG w base e k A n c cs) (hn : 0 < n) : ∃ g, A = some ⟨g, 0, none⟩ ∧ base ≤ g ∧ g < w.heap.size := by
  cases A with
  | none =>
    have := h.cap
    have := this.2.2 rfl
    omega
  | some ad =>
    obtain ⟨g, rfl, h1, h2⟩ := h.at_ ad rfl
    exact ⟨g, rfl, h1, h2⟩
theorem OwnG.keep {S : Nat → Prop} {w w' : World} {base k n c : Nat} {e : TypeId} {A : Option Addr} {cs : List Value} (h : OwnG w base e k A n c cs) (hk : Keep S w w') (hn : ∀ ad, A = some ad → ¬ S ad.block) : OwnG w' base e k A n c cs := by
  rcases h.2 with ⟨e1, e2⟩ | ⟨g, cap, cur, e1, hb, hh, h1⟩
  · exact ⟨h.1, .inl ⟨e1, e2⟩⟩
  · refine ⟨h.1, .inr ⟨g, cap, cur, e1, hb, ?_, h1⟩⟩
    injection e1 with e2
    rw [hk.block g (Array.getElem?_eq_some_iff.1 hh).1 (hn _ e2)]
    exact hh
theorem OwnG.kept {w w' : World} {base k n c : Nat} {e : TypeId} {A : Option Addr} {cs : List Value} (h : OwnG w base e k A n c cs) (hk : Kept w w') : OwnG w' base e k A n c cs := h.keep hk (fun _ _ h => h)
theorem OwnG.drewN {w : World} {base k n c : Nat} {e : TypeId} {A : Option Addr} {cs : List Value} (h : OwnG w base e k A n c cs) (m : Nat) : OwnG (w.drewN m) base e k A n c cs := h.kept (kept_drewN w m)
theorem OwnG.low {w : World} {base base' k n c : Nat} {e : TypeId} {A : Option Addr} {cs : List Value} (h : OwnG w base e k A n c cs) (hb : base' ≤ base) : OwnG w base' e k A n c cs := by
  rcases h.2 with ⟨e1, e2⟩ | ⟨g, cap, cur, e1, hb', h1⟩
  · exact ⟨h.1, .inl ⟨e1, e2⟩⟩
  · exact ⟨h.1, .inr ⟨g, cap, cur, e1, Nat.le_trans hb hb', h1⟩⟩
theorem OwnG.cell {w : World} {base k n c g : Nat} {e : TypeId} {cs : List Value} (h : OwnG w base e k (some ⟨g, 0, none⟩) n c cs) (j : Nat) (hj : j < n * k) : w.cell? ⟨g, j, none⟩ = cs[j]? := World.ownsRow.cellAt h j hj
theorem OwnG.frozen {w : World} {base k n c g : Nat} {e : TypeId} {cs : List Value} (h : OwnG w base e k (some ⟨g, 0, none⟩) n c cs) (j : Nat) : w.frozen? ⟨g, j, none⟩ = false := World.ownsRow.frozenAt h j
theorem OwnG.set_ {w : World} {base k n c g : Nat} {e : TypeId} {cs : List Value} (h : OwnG w base e k (some ⟨g, 0, none⟩) n c cs) (j : Nat) (u : Value) : OwnG (w.setCell ⟨g, j, none⟩ u) base e k (some ⟨g, 0, none⟩) n c (cs.set j u) := (World.ownsRow.stored h j u).1

/-- append of elements onto a row of the call's own, which may be nil -/
theorem wpl_append_g {ops : Array Oper} {rest : List Oper} {o : Oper} {a : Act} {Q : Exit → Act → World → Prop} (w : World) (hw : Region.wanted o (yielded ops a.tmps) = true) (s x : Operand) (t e : TypeId)
    (hop : o.op = Op.call { callee := Callee.builtin Builtin.append, args := #[s, x], argTypes := #[t, t] }) (z : Value) (k bytes : Nat) (ht : Try.prog.underlying t = some (.slice e))
    (hinfo : (Try.prog.info? e).map (fun i => (i.zero, i.size, i.bytes)) = some (some z, k, bytes)) (hzs : z.cells.size = k) (hk : 0 < k)
    (base n c : Nat) (A : Option Addr) (cs : List Value) (hs : a.eval s = .slice A n c) (hown : OwnG w base e k A n c cs) (hbase : base ≤ w.heap.size)
    (ad : Addr) (m d : Nat) (news : List Value) (hx : a.eval x = .slice (some ad) m d) (hl : news.length = m * k) (hnews : ∀ j u, news[j]? = some u → w.cell? (ad.add j) = some u) (h1 : ∀ u ∈ news, u.oneCell' = true)
    (h63 : n + m ≤ maxLen) (hlim : (n + m) * bytes ≤ 140737488355328)
    (hK : ∀ w' A' c', OwnG w' base e k A' (n + m) c' (cs ++ news) → Keep (fun b => ∃ ad, A = some ad ∧ ad.block = b) w w' → wpList Try.prog ops Q rest (a.put o.dst (.slice A' (n + m) c')) w') :
    wpList Try.prog ops Q (o :: rest) a w := by
  obtain ⟨i0, hi, hz0, hz1, hz2⟩ := info_parts hinfo
  refine wpList_wanted hw fun K hK' => wp_append_own w s x t hop base e i0 z k bytes ht hi hz0 hz1 hz2 hzs hk (.slice A n c) n cs hs hown ad m d news hx hl hnews h1 h63 hlim hbase ?_
  intro v' w' hown' hgr hnil
  have hv : ∃ A' c', v' = .slice A' (n + m) c' := by
    rcases hown'.2 with ⟨e1, e2⟩ | ⟨g, cap, cur, e1, _⟩
    · exact ⟨none, 0, by rw [e1, e2]⟩
    · exact ⟨_, _, e1⟩
  obtain ⟨A', c', rfl⟩ := hv
  refine hK' _ _ (hK w' A' c' hown' ((Keep.refl _ w).grown hgr (fun b hb _ => ?_)))
  cases A with
  | none => simp [Value.ownBlock] at hb
  | some ad => exact ⟨ad, rfl, by simpa [Value.ownBlock] using hb⟩

/-- slice values that read as these rows of bytes -/
def RowsOf (w : World) (vs : List Value) (L : List (List UInt8)) : Prop := vs.length = L.length ∧ ∀ (i : Nat) (v : Value) (xs : List UInt8), vs[i]? = some v → L[i]? = some xs → Bytes w v xs
theorem RowsOf.nil (w : World) : RowsOf w [] [] := ⟨rfl, fun i v xs h => by simp at h⟩
theorem RowsOf.keep {S : Nat → Prop} {w w' : World} {vs : List Value} {L : List (List UInt8)} (h : RowsOf w vs L) (hk : Keep S w w') (hn : ∀ ad n c, .slice (some ad) n c ∈ vs → ¬ S ad.block) : RowsOf w' vs L :=
  ⟨h.1, fun i v xs h1 h2 => (h.2 i v xs h1 h2).keep hk (fun ad n c e _ => hn ad n c (by rw [← e]; exact List.mem_of_getElem? h1))⟩
theorem RowsOf.kept {w w' : World} {vs : List Value} {L : List (List UInt8)} (h : RowsOf w vs L) (hk : Kept w w') : RowsOf w' vs L := h.keep hk (fun _ _ _ _ h => h)
theorem RowsOf.snoc {w : World} {vs : List Value} {L : List (List UInt8)} {v : Value} {xs : List UInt8} (h : RowsOf w vs L) (hv : Bytes w v xs) : RowsOf w (vs ++ [v]) (L ++ [xs]) := by
  refine ⟨by simp [h.1], fun i u ys h1 h2 => ?_⟩
  by_cases hi : i < vs.length
  · rw [List.getElem?_append_left hi] at h1
    rw [List.getElem?_append_left (by rw [← h.1]; exact hi)] at h2
    exact h.2 i u ys h1 h2
  · rw [List.getElem?_append_right (by omega)] at h1
    rw [List.getElem?_append_right (by rw [← h.1]; omega), ← h.1] at h2
    cases hq : i - vs.length with
    | zero =>
      rw [hq] at h1 h2
      simp at h1 h2
      subst h1 h2
      exact hv
    | succ j => rw [hq] at h1; simp at h1
theorem RowsOf.set_ {w : World} {vs : List Value} {L : List (List UInt8)} {v : Value} {xs : List UInt8} (h : RowsOf w vs L) (i : Nat) (hv : Bytes w v xs) : RowsOf w (vs.set i v) (L.set i xs) := by
  refine ⟨by simp [h.1], fun j u ys h1 h2 => ?_⟩
  by_cases e : i = j
  · subst e
    by_cases hi : i < vs.length
    · rw [List.getElem?_set_self hi] at h1
      rw [List.getElem?_set_self (by rw [← h.1]; exact hi)] at h2
      injection h1 with h1
      injection h2 with h2
      subst h1 h2
      exact hv
    · rw [List.getElem?_eq_none (by simp; omega)] at h1
      cases h1
  · rw [List.getElem?_set_ne e] at h1 h2
    exact h.2 j u ys h1 h2
theorem RowsOf.take {w : World} {vs : List Value} {L : List (List UInt8)} (h : RowsOf w vs L) (n : Nat) : RowsOf w (vs.take n) (L.take n) := by
  refine ⟨by simp [h.1], fun i u ys h1 h2 => ?_⟩
  rw [List.getElem?_take] at h1 h2
  split at h1
  · rename_i hi
    rw [if_pos hi] at h2
    exact h.2 i u ys h1 h2
  · cases h1

/-- the cells of a row of sums -/
def sumCells (X : List (List UInt8)) : List Value := X.flatMap cells8
theorem sumCells_length (X : List (List UInt8)) (h : ∀ x ∈ X, x.length = 32) : (sumCells X).length = X.length * 32 := by
  induction X with
  | nil => rfl
  | cons x X ih =>
    have h1 := ih (fun y hy => h y (by simp [hy]))
    unfold sumCells at h1 ⊢
    rw [List.flatMap_cons, List.length_append, h1, len8, h x (by simp), List.length_cons]
    omega
theorem sumCells_at (X : List (List UInt8)) (h : ∀ x ∈ X, x.length = 32) (i j : Nat) (hj : j < 32) (x : List UInt8) (hx : X[i]? = some x) : (sumCells X)[i * 32 + j]? = (cells8 x)[j]? := by
  induction X generalizing i with
  | nil => simp at hx
  | cons y X ih =>
    unfold sumCells
    rw [List.flatMap_cons]
    cases i with
    | zero =>
      simp at hx
      subst hx
      rw [Nat.zero_mul, Nat.zero_add, List.getElem?_append_left (by rw [len8, h y (by simp)]; exact hj)]
    | succ i =>
      rw [List.getElem?_append_right (by rw [len8, h y (by simp)]; omega), len8, h y (by simp), show (i + 1) * 32 + j - 32 = i * 32 + j by omega]
      exact ih (fun z hz => h z (by simp [hz])) i (by simpa using hx)
theorem sumCells_snoc (X : List (List UInt8)) (x : List UInt8) : sumCells (X ++ [x]) = sumCells X ++ cells8 x := by simp [sumCells]
theorem sumCells_one (X : List (List UInt8)) : ∀ u ∈ sumCells X, u.oneCell' = true := by
  intro u hu
  obtain ⟨x, _, h⟩ := List.mem_flatMap.1 hu
  exact cells8_one x u h
end Go.Proofs.Ytliepgmnlhfaiaa
