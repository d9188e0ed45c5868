/-
  A slice of bytes of the call's own, nil or not, appended to. Conditions: lengths far below 2^47.
-/
import Derived.Test.YtdmeiffofmagjaaBeM
namespace Go.Proofs.Ytdmeiffofmagjaa
open Go.RowKit
set_option linter.unusedVariables false

/-- a slice that is nil, or a row of the call's own, of these bytes -/
def Own8 (w : World) (base : Nat) (A : Option Addr) (n c : Nat) (xs : List UInt8) : Prop := (A = none ∧ n = 0 ∧ c = 0 ∧ xs = []) ∨ (∃ g, A = some ⟨g, 0, none⟩ ∧ base ≤ g ∧ xs.length = n ∧ Row8 w g c xs)
theorem Own8.nil (w : World) (base : Nat) : Own8 w base none 0 0 [] := .inl ⟨rfl, rfl, rfl, rfl⟩
theorem Own8.len {w : World} {base n c : Nat} {A : Option Addr} {xs : List UInt8} (h : Own8 w base A n c xs) : xs.length = n := by
  rcases h with ⟨_, rfl, _, rfl⟩ | ⟨g, _, _, h, _⟩
  · rfl
  · exact h
theorem Own8.r8 {w : World} {base n c : Nat} {A : Option Addr} {xs : List UInt8} (h : Own8 w base A n c xs) : R8 w A xs := by
  rcases h with ⟨_, rfl, _, rfl⟩ | ⟨g, rfl, _, _, h⟩
  · exact R8.nil _ _
  · exact h.r8
theorem Own8.cap {w : World} {base n c : Nat} {A : Option Addr} {xs : List UInt8} (h : Own8 w base A n c xs) : n ≤ c ∧ c ≤ maxLen ∧ (A = none → c = 0) := by
  rcases h with ⟨_, rfl, rfl, rfl⟩ | ⟨g, rfl, _, hl, h⟩
  · exact ⟨Nat.le_refl _, by unfold maxLen; omega, fun _ => rfl⟩
  · have h1 := h.le
    obtain ⟨_, _, _, h2⟩ := h
    exact ⟨by omega, h2, fun h => by cases h⟩
theorem Own8.at_ {w : World} {base n c : Nat} {A : Option Addr} {xs : List UInt8} (h : Own8 w base A n c xs) (ad : Addr) (e : A = some ad) : base ≤ ad.block ∧ ad.block < w.heap.size := by
  rcases h with ⟨rfl, _⟩ | ⟨g, rfl, hb, _, h⟩
  · cases e
  · injection e with e
    subst e
    exact ⟨hb, h.lt⟩
theorem Own8.keep {S : Nat → Prop} {w w' : World} {base n c : Nat} {A : Option Addr} {xs : List UInt8} (h : Own8 w base A n c xs) (hk : Keep S w w') (hn : ∀ ad, A = some ad → ¬ S ad.block) : Own8 w' base A n c xs := by
  rcases h with h | ⟨g, rfl, hb, hl, h⟩
  · exact .inl h
  · exact .inr ⟨g, rfl, hb, hl, h.keep hk (hn ⟨g, 0, none⟩ rfl)⟩
theorem Own8.kept {w w' : World} {base n c : Nat} {A : Option Addr} {xs : List UInt8} (h : Own8 w base A n c xs) (hk : Kept w w') : Own8 w' base A n c xs := h.keep hk (fun _ _ h => h)
theorem Own8.own {w : World} {base n c : Nat} {A : Option Addr} {xs : List UInt8} (h : Own8 w base A n c xs) : w.ownsRow base 5 1 (.slice A n c) n (cells8 xs) := by
  rcases h with ⟨rfl, rfl, rfl, rfl⟩ | ⟨g, rfl, hb, hl, h⟩
  · exact World.ownsRow_nil _ _ _ _
  · have := h.own hb
    rw [hl] at this
    exact this
theorem Own8.of_own {w : World} {base n : Nat} {v : Value} {xs : List UInt8} (h : w.ownsRow base 5 1 v n (cells8 xs)) : ∃ A c, v = .slice A n c ∧ Own8 w base A n c xs := by
  have hl := h.1
  rw [len8] at hl
  rcases h.2 with ⟨rfl, h0⟩ | ⟨g, cap, cur, rfl, hb, _⟩
  · subst h0
    have hx : xs = [] := List.eq_nil_of_length_eq_zero (by simpa using hl)
    subst hx
    exact ⟨none, 0, rfl, Own8.nil _ _⟩
  · exact ⟨_, cap, rfl, .inr ⟨g, rfl, hb, by omega, Row8.of_own h⟩⟩

theorem wpl_append_own8 {ops : Array Oper} {rest : List Oper} {o : Oper} {a : Act} {Q : Exit → Act → World → Prop} (w : World) (hw : Region.wanted o (yielded ops a.tmps) = true) (s x : Operand)
    (hop : o.op = Op.call { callee := Callee.builtin Builtin.append, args := #[s, x], argTypes := #[23, 23] })
    (base n c : Nat) (A : Option Addr) (xs : List UInt8) (hs : a.eval s = .slice A n c) (hown : Own8 w base A n c xs) (hbase : base ≤ w.heap.size)
    (B : Option Addr) (m d : Nat) (ys : List UInt8) (hx : a.eval x = .slice B m d) (hm : ys.length = m) (hR : R8 w B ys) (hB : B = none → d = 0) (hlim : n + m ≤ 140737488355328)
    (hK : ∀ w' A' c', Own8 w' base A' (n + m) c' (xs ++ ys) → Keep (fun k => ∃ ad, A = some ad ∧ ad.block = k) w w' → wpList Try.prog ops Q rest (a.put o.dst (.slice A' (n + m) c')) w') :
    wpList Try.prog ops Q (o :: rest) a w := by
  obtain ⟨i0, hi, hz0, hz1, hz2⟩ := info_parts info8
  subst hm
  cases B with
  | none =>
    have hd := hB rfl
    subst hd
    have hy : ys = [] := by
      cases ys with
      | nil => rfl
      | cons y ys =>
        obtain ⟨ad, h1, _⟩ := hR 0 y rfl
        cases h1
    subst hy
    have hr := run_append_owned_none (P := Try.prog) w base 23 o.type 5 i0 1 Try.underlying23 hi (.slice A n c) n (cells8 xs) hown.own
    refine wpList_wanted hw fun K hK' => ?_
    unfold Oper.wp execOp
    simp only [hop, resolve, invoke, builtin, Sem.run_bind, Sem.run_pure, Result.andThen_ok, List.map_toArray, List.map_cons, List.map_nil, hs, hx, List.length_nil, hr]
    exact hK' _ _ (hK w A c (by simpa using hown) (Keep.refl _ _))
  | some ad =>
    refine wpList_wanted hw fun K hK' => wp_append_own w s x _ hop base 5 i0 (.int .u8 0) 1 1 Try.underlying23 hi hz0 hz1 hz2 rfl (by omega) (.slice A n c) n (cells8 xs) hs hown.own
      ad ys.length d (cells8 ys) hx (by simp [len8]) hR.cells (cells8_one ys) (by unfold maxLen; omega) (by omega) hbase ?_
    intro v' w' hown' hgr hnil
    rw [← cells8_append] at hown'
    obtain ⟨A', c', rfl, ho⟩ := Own8.of_own hown'
    refine hK' _ _ (hK w' A' c' ho ((Keep.refl _ w).grown hgr (fun k hk _ => ?_)))
    cases A with
    | none => simp [Value.ownBlock] at hk
    | some ad => exact ⟨ad, rfl, by simpa [Value.ownBlock] using hk⟩
end Go.Proofs.Ytdmeiffofmagjaa
