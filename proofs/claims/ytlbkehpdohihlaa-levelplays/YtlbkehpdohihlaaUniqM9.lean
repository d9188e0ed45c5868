/-
  Levels in which each trader and id stands once, as mathematics: where an order stands, what is left without it. No condition.
-/
import Derived.Test.YtlbkehpdohihlaaTakes9
import Derived.Test.YtlbkehpdohihlaaLvlR
import Derived.Test.YtlbkehpdohihlaaFreeV
namespace Go.Proofs.Ytlbkehpdohihlaa
open Go.RowKit
set_option linter.unusedVariables false

def Ent.key (e : Ent) : Int × Int := (e.o.tr, e.o.id)
/-- each trader and id once -/
def Uniq (X : List Ent) : Prop := (X.map Ent.key).Nodup
theorem is_key {t i : Int} {e : Ent} : e.is t i = true ↔ e.key = (t, i) := by
  unfold Ent.is Ent.key
  simp
/-- what takes keep -/
theorem takeM_inv (Pr : List Ent → Prop) (hst : ∀ e R n, Pr (e :: R) → Pr (nextM e n R)) (firm : Int) : ∀ (k : Nat) (q : Int) (X : List Ent), q.toNat ≤ k → Good X → Pr X → Pr (takeM firm q X).2.2 := by
  intro k
  induction k with
  | zero =>
    intro q X hk hX hP
    rw [takeM_zero firm q X (by omega)]
    exact hP
  | succ k ih =>
    intro q X hk hX hP
    by_cases hq : q ≤ 0
    · rw [takeM_zero firm q X hq]
      exact hP
    · cases X with
      | nil => rw [takeM_nil]; exact hP
      | cons e R =>
        have hb := hX.bound (e := e) (by simp)
        by_cases hf : e.o.firm = firm
        · rw [takeM_own firm q e R (by omega) (by omega) hf]
          exact hP
        · rw [takeM_go firm q e R (by omega) (by omega) hf]
          have h1 := mn_le q e.n
          have h2 := mn_pos q e.n (by omega) (by omega)
          exact ih (q - mn q e.n) (nextM e (mn q e.n) R) (by omega) (next_good hX (by omega) h1.2) (hst e R _ hP)
theorem next_uniq (e : Ent) (R : List Ent) (n : Int) (h : Uniq (e :: R)) : Uniq (nextM e n R) := by
  unfold Uniq at h ⊢
  rw [List.map_cons, List.nodup_cons] at h
  unfold nextM
  split
  · exact h.2
  · split
    · rw [List.map_append, List.map_cons, List.map_nil]
      rw [List.nodup_append]
      refine ⟨h.2, by simp, fun a ha b hb => ?_⟩
      simp at hb
      subst hb
      intro e1
      rw [e1] at ha
      exact h.1 ha
    · rw [List.map_cons, List.nodup_cons]
      exact h
theorem fillM_uniq : ∀ (l : List Ask) (K : List (Int × Int)), (∀ o ∈ fillM K l, (o.tr, o.id) ∉ K) ∧ ((fillM K l).map fun o => (o.tr, o.id)).Nodup
  | [], K => by simp [fillM]
  | q :: l, K => by
    unfold fillM
    split
    · exact fillM_uniq l K
    · rename_i hK
      obtain ⟨h1, h2⟩ := fillM_uniq l (K ++ [(q.o.tr, q.o.id)])
      refine ⟨fun o ho => ?_, ?_⟩
      · rcases List.mem_cons.1 ho with rfl | ho
        · exact hK
        · exact fun h => h1 o ho (List.mem_append_left _ h)
      · rw [List.map_cons, List.nodup_cons]
        refine ⟨fun h => ?_, h2⟩
        obtain ⟨o, ho, e⟩ := List.mem_map.1 h
        exact h1 o ho (by rw [e]; simp)
theorem fill_uniq (l : List Ask) : Uniq (fillE [] l) := by
  unfold Uniq fillE
  rw [List.map_map]
  exact (fillM_uniq l []).2
theorem idx_uniq {X : List Ent} (h : Uniq X) {k : Nat} {e : Ent} (he : X[k]? = some e) : idxM e.o.tr e.o.id X = k := by
  refine idx_of (fun j x hj hx => ?_) he (by unfold Ent.is; simp)
  cases hm : x.is e.o.tr e.o.id with
  | false => rfl
  | true =>
    exfalso
    have h1 := is_key.1 hm
    have h2 : (X.map Ent.key)[j]? = (X.map Ent.key)[k]? := by
      rw [List.getElem?_map, List.getElem?_map, hx, he]
      show some x.key = some e.key
      rw [h1]
      rfl
    have hk := (List.getElem?_eq_some_iff.1 he).1
    have hj' : j < (X.map Ent.key).length := by rw [List.length_map]; omega
    have := (List.getElem?_inj hj' h).1 h2
    omega
theorem idx_gone {X : List Ent} (h : Uniq X) {k : Nat} {e : Ent} (he : X[k]? = some e) : (X.eraseIdx k)[idxM e.o.tr e.o.id (X.eraseIdx k)]? = none := by
  rw [List.getElem?_eq_none]
  rw [idx_none]
  · exact Nat.le_refl _
  · intro j x hj hx
    cases hm : x.is e.o.tr e.o.id with
    | false => rfl
    | true =>
      exfalso
      have h1 := is_key.1 hm
      have hmem : x.key ∈ (X.eraseIdx k).map Ent.key := List.mem_map.2 ⟨x, List.mem_of_getElem? hx, rfl⟩
      obtain ⟨hk, rfl⟩ := List.getElem?_eq_some_iff.1 he
      rw [List.eraseIdx_eq_take_drop_succ, List.map_append] at hmem
      have h2 : X = X.take k ++ X[k] :: X.drop (k + 1) := by
        rw [← List.drop_eq_getElem_cons hk, List.take_append_drop]
      have h3 := h
      unfold Uniq at h3
      rw [h2, List.map_append, List.map_cons, List.nodup_append] at h3
      obtain ⟨_, h4, h5⟩ := h3
      rw [List.nodup_cons] at h4
      have e1 : x.key = X[k].key := h1
      rw [e1] at hmem
      rcases List.mem_append.1 hmem with h6 | h6
      · exact h5 _ h6 X[k].key (by simp) rfl
      · exact h4.1 h6
theorem erase_sums {X : List Ent} {k : Nat} {e : Ent} (he : X[k]? = some e) : wholeM (X.eraseIdx k) = wholeM X - e.o.qty ∧ seenM (X.eraseIdx k) = seenM X - e.n := by
  obtain ⟨hk, rfl⟩ := List.getElem?_eq_some_iff.1 he
  have h2 : X = X.take k ++ X[k] :: X.drop (k + 1) := by
    rw [← List.drop_eq_getElem_cons hk, List.take_append_drop]
  rw [List.eraseIdx_eq_take_drop_succ, wholeM_append, seenM_append]
  have h3 : wholeM X = wholeM (X.take k) + (X[k].o.qty + wholeM (X.drop (k + 1))) := by
    conv => lhs; rw [h2, wholeM_append, wholeM_cons]
  have h4 : seenM X = seenM (X.take k) + (X[k].n + seenM (X.drop (k + 1))) := by
    conv => lhs; rw [h2, seenM_append, seenM_cons]
  omega
theorem erase_good {X : List Ent} (h : Good X) (k : Nat) : Good (X.eraseIdx k) := by
  cases he : X[k]? with
  | none =>
    rw [List.eraseIdx_of_length_le (by have := List.getElem?_eq_none_iff.1 he; omega)]
    exact h
  | some e =>
    refine ⟨fun x hx => h.ok x (List.mem_of_mem_eraseIdx hx), ?_⟩
    have := (erase_sums he).1
    have h1 := h.few
    have h2 := h.bound (List.mem_of_getElem? he)
    omega
theorem remove_is {X : List Ent} (h : Uniq X) {k : Nat} {e : Ent} (he : X[k]? = some e) : removeM e.o.tr e.o.id X = (e.o, true, X.eraseIdx k) := by
  unfold removeM
  rw [idx_uniq h he, he]
theorem remove_gone {X : List Ent} (h : Uniq X) {k : Nat} {e : Ent} (he : X[k]? = some e) : removeM e.o.tr e.o.id (X.eraseIdx k) = (zeroO, false, X.eraseIdx k) := by
  unfold removeM
  rw [idx_gone h he]
theorem i64_and7 (n : Int) : bits .and .i64 n 7 = n % 8 := by
  have h63 : (BitVec.ofInt 64 7).toNat = 2 ^ 3 - 1 := by decide
  have key : (BitVec.ofInt 64 n &&& BitVec.ofInt 64 7).toNat = (n % ((2 ^ 64 : Nat) : Int)).toNat % 2 ^ 3 := by
    rw [BitVec.toNat_and, BitVec.toNat_ofInt, h63, Nat.and_two_pow_sub_one_eq_mod]
  show IntKind.i64.wrap ((BitVec.ofInt 64 n &&& BitVec.ofInt 64 7).toNat : Nat) = n % 8
  rw [key, IntKind.wrap_i64]
  omega
theorem exec_and7 {a : Act} {o : Oper} {u : World} (x : Operand) (t' : TypeId) (p : Int) (hop : o.op = .binOp .and 3 x (.const (.int .i64 7)) t') (hx : a.eval x = .int .i64 p) : (execOp a.eval o).run Try.prog u = .ok (.value (.int .i64 (p % 8))) u := by
  have he : a.eval (.const (.int .i64 7)) = .int .i64 7 := rfl
  unfold execOp
  simp only [hop, hx, he]
  simp [go_sem, i64_and7]
end Go.Proofs.Ytlbkehpdohihlaa
