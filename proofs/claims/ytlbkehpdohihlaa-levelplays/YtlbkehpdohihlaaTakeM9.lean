/-
  Of a level's takes, as mathematics: what is shown; how a take ends; a take in two parts; levels of asks. No condition.
-/
import Derived.Test.YtlbkehpdohihlaaAsk9
namespace Go.Proofs.Ytlbkehpdohihlaa
open Go.RowKit
set_option linter.unusedVariables false

/-- no more is seen than is to be shown -/
def Shy (X : List Ent) : Prop := ∀ e ∈ X, 0 < e.o.shw → e.n ≤ e.o.shw
/-- none is of this firm -/
def NoFirm (f : Int) (X : List Ent) : Prop := ∀ e ∈ X, e.o.firm ≠ f
theorem tip_shy (o : Ord) : 0 < (Ent.of o).o.shw → (Ent.of o).n ≤ (Ent.of o).o.shw := by
  intro h
  unfold Ent.of at h ⊢
  simp only at h ⊢
  unfold Ord.tip
  rw [if_pos h]
  exact (mn_le _ _).1
theorem next_mem {e : Ent} {n : Int} {R : List Ent} {x : Ent} (hx : x ∈ nextM e n R) : x ∈ R ∨ x = Ent.of (e.sub n).o ∨ x = e.sub n := by
  unfold nextM at hx
  split at hx
  · exact .inl hx
  · split at hx
    · rcases List.mem_append.1 hx with hx | hx
      · exact .inl hx
      · exact .inr (.inl (by simpa using hx))
    · rcases List.mem_cons.1 hx with hx | hx
      · exact .inr (.inr hx)
      · exact .inl hx
theorem next_shy {e : Ent} {n : Int} {R : List Ent} (h : Shy (e :: R)) (h1 : 0 ≤ n) : Shy (nextM e n R) := by
  intro x hx hs
  rcases next_mem hx with hx | rfl | rfl
  · exact h x (by simp [hx]) hs
  · exact tip_shy _ hs
  · have := h e (by simp) hs
    simp only [Ent.sub, Ord.q] at hs ⊢
    omega
theorem next_firm {f : Int} {e : Ent} {n : Int} {R : List Ent} (h : NoFirm f (e :: R)) : NoFirm f (nextM e n R) := by
  intro x hx
  rcases next_mem hx with hx | rfl | rfl
  · exact h x (by simp [hx])
  · exact h e (by simp)
  · exact h e (by simp)
/-- how a take ends -/
theorem takeM_end (firm : Int) : ∀ (k : Nat) (q : Int) (X : List Ent), q.toNat ≤ k → 0 ≤ q → Good X → Shy X →
    (∀ h ∈ (takeM firm q X).1, 0 < h.o.shw → h.n ≤ h.o.shw) ∧
    ((takeM firm q X).2.1 = true → ∃ e R, (takeM firm q X).2.2 = e :: R ∧ e.o.firm = firm ∧ seenM (takeM firm q X).1 < q) ∧
    ((takeM firm q X).2.1 = false → seenM (takeM firm q X).1 = q ∨ (takeM firm q X).2.2 = []) := by
  intro k
  induction k with
  | zero =>
    intro q X hk hq hX hS
    rw [takeM_zero firm q X (by omega)]
    exact ⟨by simp, by simp, fun _ => .inl (by simp [seenM, sumI]; omega)⟩
  | succ k ih =>
    intro q X hk hq0 hX hS
    by_cases hq : q ≤ 0
    · rw [takeM_zero firm q X hq]
      exact ⟨by simp, by simp, fun _ => .inl (by simp [seenM, sumI]; omega)⟩
    · cases X with
      | nil => rw [takeM_nil]; exact ⟨by simp, by simp, fun _ => .inr rfl⟩
      | cons e R =>
        have hb := hX.bound (e := e) (by simp)
        by_cases hf : e.o.firm = firm
        · rw [takeM_own firm q e R (by omega) (by omega) hf]
          exact ⟨by simp, fun _ => ⟨e, R, rfl, hf, by simp [seenM, sumI]; omega⟩, by simp⟩
        · rw [takeM_go firm q e R (by omega) (by omega) hf]
          have h1 := mn_le q e.n
          have h2 := mn_pos q e.n (by omega) (by omega)
          obtain ⟨i1, i2, i3⟩ := ih (q - mn q e.n) (nextM e (mn q e.n) R) (by omega) (by omega) (next_good hX (by omega) h1.2) (next_shy hS (by omega))
          refine ⟨?_, fun h => ?_, fun h => ?_⟩
          · intro h hh hs
            rcases List.mem_cons.1 hh with rfl | hh
            · have := hS e (by simp) hs
              simp only
              omega
            · exact i1 h hh hs
          · obtain ⟨e', R', q1, q2, q3⟩ := i2 h
            refine ⟨e', R', q1, q2, ?_⟩
            simp only [seenM_cons]
            omega
          · rcases i3 h with h | h
            · left
              simp only [seenM_cons]
              omega
            · exact .inr h

theorem sub_sub (e : Ent) (a b : Int) : (e.sub a).sub b = e.sub (a + b) := by
  unfold Ent.sub Ord.q
  simp only
  rw [show e.o.qty - a - b = e.o.qty - (a + b) by omega, show e.n - a - b = e.n - (a + b) by omega]
theorem next_sub (e : Ent) (a b : Int) (R : List Ent) : nextM (e.sub a) b R = nextM e (a + b) R := by
  unfold nextM
  rw [sub_sub]
  have e1 : (e.sub a).o.qty - b = e.o.qty - (a + b) := by simp only [Ent.sub, Ord.q]; omega
  have e2 : (e.sub a).n - b = e.n - (a + b) := by simp only [Ent.sub]; omega
  rw [e1, e2]
/-- two parts are one -/
theorem takeM_two (f : Int) : ∀ (k : Nat) (m n : Int) (X : List Ent), m.toNat ≤ k → 0 ≤ m → 0 ≤ n → Good X → NoFirm f X → (takeM f (m + n) X).2.2 = (takeM f n (takeM f m X).2.2).2.2 := by
  intro k
  induction k with
  | zero =>
    intro m n X hk hm hn hX hF
    have : m = 0 := by omega
    subst this
    rw [takeM_zero f 0 X (by omega), Int.zero_add]
  | succ k ih =>
    intro m n X hk hm hn hX hF
    by_cases hm0 : m ≤ 0
    · have : m = 0 := by omega
      subst this
      rw [takeM_zero f 0 X (by omega), Int.zero_add]
    · cases X with
      | nil => rw [takeM_nil, takeM_nil, takeM_nil]
      | cons e R =>
        have hb := hX.bound (e := e) (by simp)
        have hf := hF e (by simp)
        by_cases hc : e.n ≤ m
        · have e1 : mn m e.n = e.n := by unfold mn; split <;> omega
          have e2 : mn (m + n) e.n = e.n := by unfold mn; split <;> omega
          rw [takeM_go f m e R (by omega) (by omega) hf, takeM_go f (m + n) e R (by omega) (by omega) hf, e1, e2]
          simp only
          rw [show m + n - e.n = (m - e.n) + n by omega]
          exact ih (m - e.n) n _ (by omega) (by omega) hn (next_good hX (by omega) (by omega)) (next_firm hF)
        · have e1 : mn m e.n = m := by unfold mn; split <;> omega
          have e3 : nextM e m R = e.sub m :: R := by unfold nextM; rw [if_neg (by omega), if_neg (by omega)]
          rw [takeM_go f m e R (by omega) (by omega) hf, e1, e3, Int.sub_self, takeM_zero f 0 _ (by omega)]
          simp only
          by_cases hn0 : n ≤ 0
          · have : n = 0 := by omega
            subst this
            rw [Int.add_zero, takeM_zero f 0 _ (by omega), takeM_go f m e R (by omega) (by omega) hf, e1, e3, Int.sub_self, takeM_zero f 0 _ (by omega)]
          · have e4 : (e.sub m).n = e.n - m := rfl
            have e5 : mn (m + n) e.n = m + mn n (e.n - m) := by unfold mn; split <;> split <;> omega
            rw [takeM_go f (m + n) e R (by omega) (by omega) hf, takeM_go f n (e.sub m) R (by omega) (by rw [e4]; omega) hf, e4, e5, next_sub]
            simp only
            rw [show m + n - (m + mn n (e.n - m)) = n - mn n (e.n - m) by omega]

/-! levels of asks -/
theorem fillM_facts : ∀ (l : List Ask) (K : List (Int × Int)), (fillM K l).length ≤ l.length ∧ ∀ o ∈ fillM K l, ∃ q ∈ l, o = q.o
  | [], K => by simp [fillM]
  | q :: l, K => by
    unfold fillM
    split
    · obtain ⟨h1, h2⟩ := fillM_facts l K
      exact ⟨by simp; omega, fun o ho => by obtain ⟨x, hx, e⟩ := h2 o ho; exact ⟨x, by simp [hx], e⟩⟩
    · obtain ⟨h1, h2⟩ := fillM_facts l (K ++ [(q.o.tr, q.o.id)])
      refine ⟨by simp; omega, fun o ho => ?_⟩
      rcases List.mem_cons.1 ho with rfl | ho
      · exact ⟨q, by simp, rfl⟩
      · obtain ⟨x, hx, e⟩ := h2 o ho
        exact ⟨x, by simp [hx], e⟩
theorem ask_qty (q : Ask) : 1 ≤ q.o.qty ∧ q.o.qty ≤ 12 := wi_in q.c 1 12 (by omega)
theorem fillE_facts (K : List (Int × Int)) (l : List Ask) : (fillE K l).length ≤ l.length ∧ ∀ e ∈ fillE K l, ∃ q ∈ l, e = Ent.of q.o := by
  obtain ⟨h1, h2⟩ := fillM_facts l K
  unfold fillE
  refine ⟨by rw [List.length_map]; exact h1, fun e he => ?_⟩
  obtain ⟨o, ho, rfl⟩ := List.mem_map.1 he
  obtain ⟨q, hq, rfl⟩ := h2 o ho
  exact ⟨q, hq, rfl⟩
theorem whole_few (X : List Ent) (h : ∀ e ∈ X, e.o.qty ≤ 12) : wholeM X ≤ 12 * X.length := by
  induction X with
  | nil => simp [wholeM, sumI]
  | cons e X ih =>
    have h1 := ih (fun x hx => h x (by simp [hx]))
    have h2 := h e (by simp)
    rw [wholeM_cons]
    simp only [List.length_cons]
    omega
theorem fill_good (K : List (Int × Int)) (l : List Ask) (h : l.length ≤ 1000) : Good (fillE K l) := by
  obtain ⟨h1, h2⟩ := fillE_facts K l
  refine ⟨fun e he => ?_, ?_⟩
  · obtain ⟨q, _, rfl⟩ := h2 e he
    exact tip_ok _ (ask_qty q).1
  · have := whole_few (fillE K l) (fun e he => by
      obtain ⟨q, _, rfl⟩ := h2 e he
      exact (ask_qty q).2)
    omega
theorem fill_shy (K : List (Int × Int)) (l : List Ask) : Shy (fillE K l) := by
  intro e he
  obtain ⟨q, _, rfl⟩ := (fillE_facts K l).2 e he
  exact tip_shy _
theorem fill_firm (K : List (Int × Int)) (l : List Ask) : NoFirm 9 (fillE K l) := by
  intro e he
  obtain ⟨q, _, rfl⟩ := (fillE_facts K l).2 e he
  have h1 := wi_in q.a 0 3 (by omega)
  have := half_in _ h1.1 h1.2
  show (wi q.a 0 3).tdiv 2 ≠ 9
  omega
end Go.Proofs.Ytlbkehpdohihlaa
