/-
  Package lock as mathematics: a lock (tries, ticks, how many wrong answers stand, until when it is shut), what Failed and Clear make of it. No condition.
-/
import Derived.Test.YtliepgmnlhfaiaaBukM
namespace Go.Proofs.Ytliepgmnlhfaiaa
open Go.RowKit
set_option linter.unusedVariables false
set_option maxRecDepth 100000

structure Lok where
  n : Int
  t : Int
  k : Int
  u : Int
def Lok.l (L : Lok) : List Int := [L.n, L.t, L.k, L.u]
def Lok.cells (L : Lok) : List Value := stc L.l []
theorem Lok.len4k (L : Lok) : L.cells.length = 4 := by unfold Lok.cells; rw [stc_len]; rfl
structure Lok.Ok (L : Lok) : Prop where
  n0 : 1 ≤ L.n
  n1 : L.n ≤ 1048576
  t0 : 1 ≤ L.t
  t1 : L.t ≤ 1099511627776
  k0 : 0 ≤ L.k
  k1 : L.k ≤ L.n
  u0 : 0 ≤ L.u
  u1 : L.u ≤ 2199023255552
def Lok.none_ (n t : Int) : Lok := ⟨n, t, 0, 0⟩
theorem lok_ok {n t : Int} (h : newB n t = true) : (Lok.none_ n t).Ok := by
  obtain ⟨⟨h0, h1⟩, h2, h3⟩ := newB_iff.1 h
  exact ⟨h0, h1, h2, h3, Int.le_refl _, by show (0 : Int) ≤ n; omega, Int.le_refl _, by show (0 : Int) ≤ _; omega⟩
def Lok.shut (L : Lok) (now : Int) : Bool := decide (L.k = L.n) && decide (now < L.u)
theorem Lok.shut_iff {L : Lok} {now : Int} : L.shut now = true ↔ L.k = L.n ∧ now < L.u := by unfold Lok.shut; rw [Bool.and_eq_true, decide_eq_true_eq, decide_eq_true_eq]
theorem Lok.open_iff {L : Lok} {now : Int} : L.shut now = false ↔ (L.k = L.n → L.u ≤ now) := by
  rw [← Bool.not_eq_true, Lok.shut_iff]
  constructor
  · intro h hk; exact Int.not_lt.1 fun hu => h ⟨hk, hu⟩
  · rintro h ⟨hk, hu⟩; have := h hk; omega
/-- how many stand when the next wrong answer comes -/
def Lok.base (L : Lok) : Int := if L.k = L.n then 0 else L.k
def Lok.one (L : Lok) (now : Int) : Lok := ⟨L.n, L.t, L.base + 1, if L.base + 1 = L.n then now + L.t else L.u⟩
def Lok.failM (L : Lok) (now : Int) : Lok := if L.shut now = true then L else L.one now
def Lok.clrM (L : Lok) : Lok := ⟨L.n, L.t, 0, L.u⟩
def Lok.clrR (L : Lok) : Lok := ⟨L.n, L.t, 0, 0⟩
theorem Lok.Ok.base_in {L : Lok} (h : L.Ok) : 0 ≤ L.base ∧ L.base + 1 ≤ L.n := by
  obtain ⟨n0, n1, t0, t1, k0, k1, u0, u1⟩ := h
  unfold Lok.base
  split <;> omega
theorem Lok.Ok.one {L : Lok} (h : L.Ok) {now : Int} (h0 : 0 ≤ now) (h1 : now ≤ 1099511627776) : (L.one now).Ok := by
  obtain ⟨c0, c1⟩ := h.base_in
  obtain ⟨n0, n1, t0, t1, k0, k1, u0, u1⟩ := h
  refine ⟨n0, n1, t0, t1, by show 0 ≤ L.base + 1; omega, c1, ?_, ?_⟩
  · show 0 ≤ (if L.base + 1 = L.n then now + L.t else L.u); split <;> omega
  · show (if L.base + 1 = L.n then now + L.t else L.u) ≤ _; split <;> omega
theorem Lok.Ok.fail {L : Lok} (h : L.Ok) {now : Int} (h0 : 0 ≤ now) (h1 : now ≤ 1099511627776) : (L.failM now).Ok := by
  unfold Lok.failM
  split
  · exact h
  · exact h.one h0 h1
theorem Lok.Ok.clr {L : Lok} (h : L.Ok) : L.clrM.Ok := by
  obtain ⟨n0, n1, t0, t1, k0, k1, u0, u1⟩ := h
  exact ⟨n0, n1, t0, t1, Int.le_refl _, by show (0 : Int) ≤ L.n; omega, u0, u1⟩
theorem Lok.Ok.clr' {L : Lok} (h : L.Ok) : L.clrR.Ok := by
  obtain ⟨n0, n1, t0, t1, k0, k1, u0, u1⟩ := h
  exact ⟨n0, n1, t0, t1, Int.le_refl _, by show (0 : Int) ≤ L.n; omega, Int.le_refl _, by show (0 : Int) ≤ _; omega⟩
theorem lfail_n (L : Lok) (now : Int) : (L.failM now).n = L.n ∧ (L.failM now).t = L.t := by
  unfold Lok.failM Lok.one
  split <;> exact ⟨rfl, rfl⟩
theorem lfail_shut {L : Lok} {now : Int} (h : L.shut now = true) : L.failM now = L := by unfold Lok.failM; rw [if_pos h]
theorem lfail_open {L : Lok} {now : Int} (h : L.shut now = false) : L.failM now = L.one now := by unfold Lok.failM; rw [h]; exact if_neg Bool.false_ne_true
theorem lone_facts {L : Lok} {now : Int} (h : ¬ L.k = L.n) : (L.one now).n = L.n ∧ (L.one now).t = L.t ∧ (L.one now).k = L.k + 1 ∧ (L.k + 1 = L.n → (L.one now).u = now + L.t) := by
  have e : L.base = L.k := if_neg h
  refine ⟨rfl, rfl, by show L.base + 1 = _; rw [e], fun hq => ?_⟩
  show (if L.base + 1 = L.n then now + L.t else L.u) = _
  rw [e, if_pos hq]
theorem lone_once {L : Lok} (h : L.Ok) (hn : L.n = 1) (now : Int) : (L.one now).k = 1 ∧ (L.one now).u = now + L.t := by
  obtain ⟨b0, b1⟩ := h.base_in
  have e : L.base + 1 = L.n := by omega
  refine ⟨by show L.base + 1 = 1; omega, ?_⟩
  show (if L.base + 1 = L.n then now + L.t else L.u) = _
  rw [if_pos e]
theorem lshut_no {L : Lok} (h : ¬ L.k = L.n) (now : Int) : L.shut now = false := Lok.open_iff.2 fun hk => absurd hk h
/-- two locks that answer alike: until when counts only while all tries are had -/
structure Lok.Like (A R : Lok) : Prop where
  n : A.n = R.n
  t : A.t = R.t
  k : A.k = R.k
  u : A.k = A.n → A.u = R.u
theorem Lok.Like.shut {A R : Lok} (h : Lok.Like A R) (x : Int) : A.shut x = R.shut x := by
  obtain ⟨hn, ht, hk, hu⟩ := h
  unfold Lok.shut
  rw [← hn, ← hk]
  by_cases hq : A.k = A.n
  · rw [hu hq]
  · rw [decide_eq_false hq, Bool.false_and, Bool.false_and]
theorem Lok.Like.fail {A R : Lok} (h : Lok.Like A R) (x : Int) : Lok.Like (A.failM x) (R.failM x) := by
  have hs := h.shut x
  unfold Lok.failM
  rw [← hs]
  split
  · exact h
  obtain ⟨hn, ht, hk, hu⟩ := h
  have hb : A.base = R.base := by unfold Lok.base; rw [hn, hk]
  refine ⟨hn, ht, by show A.base + 1 = R.base + 1; rw [hb], fun hq => ?_⟩
  have hq' : A.base + 1 = A.n := hq
  show (if A.base + 1 = A.n then x + A.t else A.u) = if R.base + 1 = R.n then x + R.t else R.u
  rw [← hb, ← hn, ← ht, if_pos hq', if_pos hq']
theorem Lok.Like.clr {A R : Lok} (h : Lok.Like A R) (h1 : 1 ≤ A.n) : Lok.Like A.clrM R.clrR := ⟨h.n, h.t, rfl, fun hq => absurd (show (0 : Int) = A.n from hq) (by omega)⟩
end Go.Proofs.Ytliepgmnlhfaiaa
