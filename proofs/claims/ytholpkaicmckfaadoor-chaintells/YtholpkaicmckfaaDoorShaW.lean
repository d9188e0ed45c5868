/-
  The words of a block: plain facts. No condition.
-/
import Derived.Test.YtholpkaicmckfaaDoorShaT
namespace Go.Proofs.YtholpkaicmckfaaDoor
open Go.RowKit
set_option linter.unusedVariables false

def cells32 (xs : List Int) : List Value := xs.map fun x => .int .u32 x
theorem len32 (xs : List Int) : (cells32 xs).length = xs.length := by simp [cells32]
theorem cells32_append (xs ys : List Int) : cells32 (xs ++ ys) = cells32 xs ++ cells32 ys := by simp [cells32]
theorem cells32_one (xs : List Int) : ∀ u ∈ cells32 xs, u.oneCell' = true := by
  intro u hu
  simp only [cells32, List.mem_map] at hu
  obtain ⟨x, _, rfl⟩ := hu
  rfl
theorem cells32_at (xs : List Int) (k : Nat) (hk : k < xs.length) : (cells32 xs)[k]? = some (.int .u32 (xs.getD k 0)) := by
  rw [cells32, List.getElem?_map, List.getD_eq_getElem?_getD, List.getElem?_eq_getElem hk]; rfl
theorem cells32_set (xs : List Int) (k : Nat) (x : Int) : (cells32 xs).set k (.int .u32 x) = cells32 (xs.set k x) := by simp [cells32, List.map_set]

/-- words gathered byte by byte: one byte more -/
def ldStep (ws : List Int) (k : Nat) (b : UInt8) : List Int := ws.set (k / 4) (bits .or .u32 (ws.getD (k / 4) 0 * 256 % 4294967296) ((b.toNat : Int) % 4294967296))
def ld (bs : List UInt8) : Nat → List Int
  | 0 => List.replicate 64 0
  | k + 1 => ldStep (ld bs k) k (bs.getD k 0)
theorem ld_length (bs : List UInt8) (k : Nat) : (ld bs k).length = 64 := by
  induction k with
  | zero => rfl
  | succ k ih => simp [ld, ldStep, ih]

theorem ld_set (bs : List UInt8) (k : Nat) (x : Int) (b : UInt8) (hx : x = (ld bs k).getD (k / 4) 0) (hb : b = bs.getD k 0) :
    (cells32 (ld bs k)).set (k / 4) (.int .u32 (bits .or .u32 (x * 256 % 4294967296) ((b.toNat : Int) % 4294967296))) = cells32 (ld bs (k + 1)) := by
  rw [cells32_set, hx, hb]
  rfl

theorem or_join (x b : Nat) (hx : x < 16777216) (hb : b < 256) : bits .or .u32 ((x : Int) * 256 % 4294967296) ((b : Int) % 4294967296) = ((x * 256 + b : Nat) : Int) := by
  have e1 : (x : Int) * 256 % 4294967296 = ((x * 256 : Nat) : Int) := by omega
  have e2 : (b : Int) % 4294967296 = (b : Int) := by omega
  rw [e1, e2, u32_or_nat _ _ (by omega) (by omega), nat_join 8 (x * 256) b (by omega) (by omega)]

theorem set_at (L : List Int) (r : Nat) (v : Int) (j : Nat) (hj : L.length = j) (hr : 0 < r) : (L ++ List.replicate r 0).set j v = (L ++ [v]) ++ List.replicate (r - 1) 0 := by
  subst hj
  obtain ⟨r', rfl⟩ : ∃ r', r = r' + 1 := ⟨r - 1, by omega⟩
  rw [List.set_append_right _ _ (Nat.le_refl _)]
  simp [List.replicate_succ]
theorem getD_at (L R : List Int) (v : Int) (j : Nat) (hj : L.length = j) : ((L ++ [v]) ++ R).getD j 0 = v := by
  subst hj
  simp
theorem set_again (L R : List Int) (v u : Int) (j : Nat) (hj : L.length = j) : ((L ++ [v]) ++ R).set j u = (L ++ [u]) ++ R := by
  subst hj
  simp

theorem wrds_length (bs : List UInt8) : (wrds bs).length = bs.length / 4 := by
  match bs with
  | a :: b :: c :: d :: r => simp [wrds, wrds_length r]; omega
  | [] => rfl
  | [_] => simp [wrds]
  | [_, _] => simp [wrds]
  | [_, _, _] => simp [wrds]
theorem wrds_at (j : Nat) : ∀ bs : List UInt8, 4 * j + 3 < bs.length → (wrds bs)[j]? = some (wrd (bs.getD (4 * j) 0) (bs.getD (4 * j + 1) 0) (bs.getD (4 * j + 2) 0) (bs.getD (4 * j + 3) 0)) := by
  induction j with
  | zero =>
    intro bs h
    match bs, h with
    | a :: b :: c :: d :: r, _ => simp [wrds]
  | succ j ih =>
    intro bs h
    match bs, h with
    | a :: b :: c :: d :: r, h =>
      simp only [wrds, List.getElem?_cons_succ]
      rw [ih r (by simp at h; omega)]
      have e : 4 * (j + 1) = 4 * j + 4 := by omega
      simp [e]
theorem wrd_bd (a b c d : UInt8) : 0 ≤ wrd a b c d ∧ wrd a b c d < 4294967296 := by
  have := a.toNat_lt
  have := b.toNat_lt
  have := c.toNat_lt
  have := d.toNat_lt
  unfold wrd
  omega
theorem wrds_bd (bs : List UInt8) : ∀ x ∈ wrds bs, 0 ≤ x ∧ x < 4294967296 := by
  match bs with
  | a :: b :: c :: d :: r =>
    intro x hx
    simp only [wrds, List.mem_cons] at hx
    rcases hx with rfl | hx
    · exact wrd_bd _ _ _ _
    · exact wrds_bd r x hx
  | [] => simp [wrds]
  | [_] => simp [wrds]
  | [_, _] => simp [wrds]
  | [_, _, _] => simp [wrds]

theorem ld_four (bs : List UInt8) (hl : bs.length = 64) (j : Nat) (hj : j ≤ 16) : ld bs (4 * j) = (wrds bs).take j ++ List.replicate (64 - j) 0 := by
  induction j with
  | zero => simp [ld]
  | succ j ih =>
    have ih := ih (by omega)
    have hlen : ((wrds bs).take j).length = j := by rw [List.length_take, wrds_length, hl]; omega
    have e4 : 4 * (j + 1) = 4 * j + 4 := by omega
    have d0 : 4 * j / 4 = j := by omega
    have d1 : (4 * j + 1) / 4 = j := by omega
    have d2 : (4 * j + 2) / 4 = j := by omega
    have d3 : (4 * j + 3) / 4 = j := by omega
    have h0 : ((wrds bs).take j ++ List.replicate (64 - j) 0).getD j 0 = 0 := by
      rw [List.getD_eq_getElem?_getD, List.getElem?_append_right (by omega), hlen, Nat.sub_self, List.getElem?_replicate]
      split <;> rfl
    have w2 := wrds_at j bs (by omega)
    have q0 := (bs.getD (4 * j) 0).toNat_lt
    have q1 := (bs.getD (4 * j + 1) 0).toNat_lt
    have q2 := (bs.getD (4 * j + 2) 0).toNat_lt
    have q3 := (bs.getD (4 * j + 3) 0).toNat_lt
    have j0 := or_join 0 (bs.getD (4 * j) 0).toNat (by omega) (by omega)
    have j1 := or_join (0 * 256 + (bs.getD (4 * j) 0).toNat) (bs.getD (4 * j + 1) 0).toNat (by omega) (by omega)
    have j2 := or_join ((0 * 256 + (bs.getD (4 * j) 0).toNat) * 256 + (bs.getD (4 * j + 1) 0).toNat) (bs.getD (4 * j + 2) 0).toNat (by omega) (by omega)
    have j3 := or_join (((0 * 256 + (bs.getD (4 * j) 0).toNat) * 256 + (bs.getD (4 * j + 1) 0).toNat) * 256 + (bs.getD (4 * j + 2) 0).toNat) (bs.getD (4 * j + 3) 0).toNat (by omega) (by omega)
    rw [e4]
    simp only [ld]
    rw [ih]
    simp only [ldStep, d0, d1, d2, d3, h0]
    rw [set_at _ _ _ j hlen (by omega), getD_at _ _ _ j hlen, set_again _ _ _ _ j hlen, getD_at _ _ _ j hlen, set_again _ _ _ _ j hlen, getD_at _ _ _ j hlen, set_again _ _ _ _ j hlen]
    have z : ((0 : Nat) : Int) = 0 := rfl
    rw [z] at j0
    rw [j0, j1, j2, j3]
    have e5 : 64 - j - 1 = 64 - (j + 1) := by omega
    have hw : (((((0 * 256 + (bs.getD (4 * j) 0).toNat) * 256 + (bs.getD (4 * j + 1) 0).toNat) * 256 + (bs.getD (4 * j + 2) 0).toNat) * 256 + (bs.getD (4 * j + 3) 0).toNat : Nat) : Int) = wrd (bs.getD (4 * j) 0) (bs.getD (4 * j + 1) 0) (bs.getD (4 * j + 2) 0) (bs.getD (4 * j + 3) 0) := by
      unfold wrd
      omega
    rw [e5, List.take_add_one, w2, hw]
    rfl
theorem ld64 (bs : List UInt8) (hl : bs.length = 64) : ld bs 64 = wrds bs ++ List.replicate 48 0 := by
  have h := ld_four bs hl 16 (by omega)
  rw [List.take_of_length_le (by rw [wrds_length, hl]; omega)] at h
  exact h

theorem sched_length (m : List Int) (k : Nat) : (sched m k).length = m.length + k := by
  induction k with
  | zero => rfl
  | succ k ih => simp [sched, ih]; omega
theorem nextw_bd (ws : List Int) (k : Nat) : 0 ≤ nextw ws k ∧ nextw ws k < 4294967296 := by
  unfold nextw
  omega
theorem sched_bd (m : List Int) (hm : ∀ x ∈ m, 0 ≤ x ∧ x < 4294967296) (k : Nat) : ∀ x ∈ sched m k, 0 ≤ x ∧ x < 4294967296 := by
  induction k with
  | zero => exact hm
  | succ k ih =>
    intro x hx
    simp only [sched, List.mem_append, List.mem_singleton] at hx
    rcases hx with hx | rfl
    · exact ih x hx
    · exact nextw_bd _ _
theorem getD_bd (l : List Int) (h : ∀ x ∈ l, 0 ≤ x ∧ x < 4294967296) (k : Nat) : 0 ≤ l.getD k 0 ∧ l.getD k 0 < 4294967296 := by
  rw [List.getD_eq_getElem?_getD]
  cases hk : l[k]? with
  | none => simp
  | some x => exact h x (List.mem_of_getElem? hk)
/-- on the way: the words so far, noughts behind -/
def schedTo (m : List Int) (n : Nat) : List Int := sched m (n - 16) ++ List.replicate (64 - n) 0
theorem schedTo_length (m : List Int) (n : Nat) (hm : m.length = 16) (h1 : 16 ≤ n) (h2 : n ≤ 64) : (schedTo m n).length = 64 := by
  simp [schedTo, sched_length, hm]; omega
theorem schedTo_getD (m : List Int) (n k : Nat) (hm : m.length = 16) (h1 : 16 ≤ n) (hk : k < n) : (schedTo m n).getD k 0 = (sched m (n - 16)).getD k 0 := by
  unfold schedTo
  rw [List.getD_eq_getElem?_getD, List.getElem?_append_left (by rw [sched_length]; omega), ← List.getD_eq_getElem?_getD]
theorem schedTo_set (m : List Int) (n : Nat) (hm : m.length = 16) (h1 : 16 ≤ n) (h2 : n < 64) (a b c d : Int) (ha : a = (schedTo m n).getD (n - 16) 0) (hb : b = (schedTo m n).getD (n - 7) 0) (hc : c = (schedTo m n).getD (n - 15) 0) (hd : d = (schedTo m n).getD (n - 2) 0) :
    (cells32 (schedTo m n)).set n (.int .u32 ((a + b + sml0 c + sml1 d) % 4294967296)) = cells32 (schedTo m (n + 1)) := by
  rw [cells32_set]
  rw [schedTo_getD m n _ hm h1 (by omega)] at ha hb hc hd
  have hn : n + 1 - 16 = (n - 16) + 1 := by omega
  have e9 : n - 16 + 9 = n - 7 := by omega
  have e1 : n - 16 + 1 = n - 15 := by omega
  have e14 : n - 16 + 14 = n - 2 := by omega
  have hv : ((a + b + sml0 c + sml1 d) % 4294967296) = nextw (sched m (n - 16)) (n - 16) := by
    unfold nextw
    rw [e9, e1, e14, ← ha, ← hb, ← hc, ← hd]
  rw [hv]
  unfold schedTo
  rw [set_at _ _ _ n (by rw [sched_length]; omega) (by omega), hn]
  rfl
theorem schedTo_bd (m : List Int) (hm : ∀ x ∈ m, 0 ≤ x ∧ x < 4294967296) (n k : Nat) : 0 ≤ (schedTo m n).getD k 0 ∧ (schedTo m n).getD k 0 < 4294967296 := by
  apply getD_bd
  intro x hx
  simp only [schedTo, List.mem_append] at hx
  rcases hx with hx | hx
  · exact sched_bd m hm _ x hx
  · have := List.eq_of_mem_replicate hx
    omega
end Go.Proofs.YtholpkaicmckfaaDoor
