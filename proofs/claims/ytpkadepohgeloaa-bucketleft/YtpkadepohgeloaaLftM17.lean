/-
  A bucket asked at whatever moments, as mathematics: how far its reference time lies behind the latest moment. No condition.
-/
import Derived.Test.YtpkadepohgeloaaBukM
namespace Go.Proofs.Ytpkadepohgeloaa
open Go.RowKit
set_option linter.unusedVariables false
set_option maxRecDepth 100000

structure Lft (n r : Int) (B : Bkt) (la : Int) : Prop where
  ok : B.Ok
  eb : B.b = n
  er : B.r = r
  t : B.t ≤ la
  gap : la - B.t < r
theorem Lft.zero {n r : Int} (h : newB n r = true) : Lft n r (Bkt.full n r) 0 :=
  ⟨full_ok h, rfl, rfl, Int.le_refl _, by
    have := newB_iff.1 h
    show (0 : Int) - 0 < r
    omega⟩
theorem Lft.seen {n r la now : Int} {B : Bkt} (h : Lft n r B la) (h1 : now ≤ 1099511627776) : Lft n r (B.seenM now) (if la < now then now else la) ∧ (now < la - r → B.seenM now = B) := by
  obtain ⟨eb, er⟩ := seen_b B now
  have hok := h.ok.seen h1
  have hr0 := h.ok.r0
  have ht := h.t
  have hg := h.gap
  have e1 := h.er
  have e2 := h.eb
  by_cases hlt : B.t < now
  · obtain ⟨c0, c1, c2, c3, c4⟩ := Bkt.came_in h.ok hlt
    have es : B.seenM now = B.fillM now := by unfold Bkt.seenM; rw [if_pos hlt]
    rw [es] at eb er hok ⊢
    refine ⟨?_, fun hf => by omega⟩
    by_cases hq : B.b - B.k ≤ B.came now
    · have ef : B.fillM now = ⟨B.b, B.r, B.b, now⟩ := by unfold Bkt.fillM; rw [if_pos hq]
      rw [ef] at hok ⊢
      refine ⟨hok, e2, e1, ?_, ?_⟩
      · show now ≤ _
        split <;> omega
      · show _ - now < r
        split <;> omega
    · have ef : B.fillM now = ⟨B.b, B.r, B.k + B.came now, B.t + B.came now * B.r⟩ := by unfold Bkt.fillM; rw [if_neg hq]
      rw [ef] at hok ⊢
      refine ⟨hok, e2, e1, ?_, ?_⟩
      · show B.t + _ ≤ _
        split <;> omega
      · show _ - (B.t + B.came now * B.r) < r
        split <;> omega
  · have es : B.seenM now = B := by unfold Bkt.seenM; rw [if_neg hlt]
    rw [es, if_neg (by omega)]
    exact ⟨h, fun _ => rfl⟩
theorem Lft.step {n r la now : Int} {B : Bkt} (h : Lft n r B la) (h1 : now ≤ 1099511627776) :
    Lft n r (B.took now) (if la < now then now else la) ∧ (B.can now = false → (B.took now).k = 0) ∧ (B.can now = true → 0 ≤ (B.took now).k ∧ (B.took now).k < n) ∧ (now < la - r → B.can now = decide (0 < B.k) ∧ (B.can now = true → (B.took now).k = B.k - 1)) := by
  obtain ⟨hS, hsame⟩ := h.seen h1
  have ht := h.ok.take h1
  obtain ⟨eb, er⟩ := took_b B now
  have hk0 := h.ok.k0
  unfold Bkt.can
  unfold Bkt.took at ht eb er ⊢
  obtain ⟨S, e⟩ : ∃ S, B.seenM now = S := ⟨_, rfl⟩
  rw [e] at hS hsame ht eb er ⊢
  have hs0 := hS.ok.k0
  have hs1 := hS.ok.k1
  have hs2 := hS.eb
  by_cases hz : S.k = 0
  · rw [if_pos hz, decide_eq_true hz]
    refine ⟨hS, fun _ => hz, fun hf => (by cases hf), fun hf => ⟨?_, fun hf => (by cases hf)⟩⟩
    have hB := hsame hf
    rw [← hB, hz]
    rfl
  · rw [if_neg hz] at ht eb er ⊢
    rw [decide_eq_false hz]
    refine ⟨⟨ht, hs2, hS.er, hS.t, hS.gap⟩, fun hf => (by cases hf), fun _ => ?_, fun hf => ?_⟩
    · show 0 ≤ S.k - 1 ∧ S.k - 1 < n
      omega
    · have hB := hsame hf
      rw [← hB]
      refine ⟨?_, fun _ => rfl⟩
      rw [decide_eq_true (by omega)]
      rfl
end Go.Proofs.Ytpkadepohgeloaa
