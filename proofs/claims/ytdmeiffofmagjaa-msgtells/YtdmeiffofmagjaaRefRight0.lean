/-
  The contract of the document's RightCmd: whether a command is right. Condition: its tag has 32 bytes.
-/
import Derived.Test.YtdmeiffofmagjaaMsgE
import Derived.Deep.DeepCutAuto
namespace Go.Proofs.Ytdmeiffofmagjaa
open Go.RowKit
set_option linter.unusedVariables false

theorem s_setf {ops : Array Oper} {S : World → Prop} {Q : Exit → Act → World → Prop} {a : Act} {w : World} {j : Nat} {o : Oper} {r : List (Nat × Nat)} (g i : Nat) (T : TypeId) (l : List Int) (t : List UInt8) (v : Int) (x y : Operand) (ho : ops[j]? = some o) (hw : Region.wanted o (yielded ops a.tmps) = true) (hop : o.op = .store 3 x y)
    (hx : a.eval x = .pointer (some ⟨g, i, none⟩)) (hy : a.eval y = .int .i64 v) (hb : Blk w g T (stc l t)) (hi : i < l.length) (hS : ∀ w', Keep (· = g) w w' → S w')
    (hK : ∀ w', Blk w' g T (stc (l.set i v) t) → Keep (· = g) w w' → wpSch Try.prog ops S Q r (a.put o.dst undef) w') : wpSch Try.prog ops S Q ((j, 1) :: r) a w := by
  have hlen : i + 1 ≤ (stc l t).length := by rw [stc_len]; omega
  have hk : Keep (· = g) w (w.setCell ⟨g, i, none⟩ (.int .i64 v)) := Keep.setCell (Keep.refl (· = g) w) (fun _ => rfl) _
  exact s_store (w.setCell ⟨g, i, none⟩ (.int .i64 v)) ho hw (exec_store1 3 x y g i (.int .i64 v) hop (by kernel_rfl) hx hy rfl rfl (hb.there i 1 hlen)) (hS _ hk) (hK _ (hb.setFld i v hi) hk)

theorem in_is (n lo hi : Int) (b : Bool) (w : World) (h : b = rng n lo hi) : Gives 30 #[.int .i64 n, .int .i64 lo, .int .i64 hi] w (.eq (.bool b)) := by
  subst h
  exact in_any n lo hi w
def okB (c : Cmd) : Bool := if c.k = 6 then rng c.what 1 3 else if c.k = 9 then rng c.what 1 9 else true
/-- right, as the document's own function asks it -/
def Cmd.rref (c : Cmd) : Bool := (((((((((((((okB c && decide (c = c.bare)) && rng c.tr 0 31) && rng c.seq 0 1073741824) && rng c.inst 0 (lastB c.k)) && rng c.id 0 1073741824) && rng c.side 0 255) && rng c.ord 0 255) && rng c.price 0 1073741824) && rng c.qty 0 1073741824) && rng c.shw 0 1073741824) && rng c.stop 0 1073741824) && rng c.fa 0 255) && rng c.fb 0 255)
theorem bare_what (c : Cmd) (h6 : c.k ≠ 6) (h9 : c.k ≠ 9) : c.bare.what = 0 := by
  unfold Cmd.bare
  repeat' split
  all_goals first | rfl | contradiction
theorem rref_right (c : Cmd) (hk : isKindB c.k = true) : c.rref = c.right := by
  rw [Bool.eq_iff_iff]
  simp only [Cmd.rref, Cmd.right, Cmd.inR, win, List.all_cons, List.all_nil, Bool.and_eq_true, Bool.and_true, hk, true_and, decide_eq_true_eq]
  constructor
  · rintro ⟨⟨⟨⟨⟨⟨⟨⟨⟨⟨⟨⟨⟨h1, h2⟩, h3⟩, h4⟩, h5⟩, h6⟩, h7⟩, h8⟩, h9⟩, h10⟩, h11⟩, h12⟩, h13⟩, h14⟩
    refine ⟨⟨⟨⟨⟨⟨h4, h6, h9, h10, h11, h12⟩, h7, h8, h13, h14⟩, h3⟩, h5⟩, ?_⟩, h2⟩
    unfold okB at h1
    unfold whatB
    by_cases e6 : c.k = 6
    · rw [if_pos e6] at h1 ⊢
      exact h1
    · rw [if_neg e6] at h1 ⊢
      by_cases e9 : c.k = 9
      · rw [if_pos e9] at h1 ⊢
        exact h1
      · rw [if_neg e9]
        have := bare_what c e6 e9
        rw [← h2] at this
        simpa using this
  · rintro ⟨⟨⟨⟨⟨⟨h4, h6, h9, h10, h11, h12⟩, h7, h8, h13, h14⟩, h3⟩, h5⟩, hw⟩, h2⟩
    refine ⟨⟨⟨⟨⟨⟨⟨⟨⟨⟨⟨⟨⟨?_, h2⟩, h3⟩, h4⟩, h5⟩, h6⟩, h7⟩, h8⟩, h9⟩, h10⟩, h11⟩, h12⟩, h13⟩, h14⟩
    unfold whatB at hw
    unfold okB
    by_cases e6 : c.k = 6
    · rw [if_pos e6] at hw ⊢
      exact hw
    · rw [if_neg e6] at hw ⊢
      by_cases e9 : c.k = 9
      · rw [if_pos e9] at hw ⊢
        exact hw
      · rw [if_neg e9]

end Go.Proofs.Ytdmeiffofmagjaa
