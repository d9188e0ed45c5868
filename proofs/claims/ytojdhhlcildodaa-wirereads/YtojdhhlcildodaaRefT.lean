/-
  Contracts of the document's own reader, package jobberref1, more: Text, End. Conditions: lengths far below 2^47.
-/
import Derived.Test.YtojdhhlcildodaaRefR
namespace Go.Proofs.Ytojdhhlcildodaa
open Go.RowKit
set_option linter.unusedVariables false

theorem text_ref_bad (s s1 : RS) (n : Nat) (most : Int) (h1 : s1 = (s.take 1).1) (hn : n = val (s.take 1).2) (h : s1.bad = true ∨ most < (n : Int) ∨ s1.xs.length - s1.pos < n) : s.text most = ({ s1 with pos := s.pos, bad := true }, []) := by
  unfold RS.text
  simp only
  rw [← hn, ← h1]
  by_cases hm : most < (n : Int)
  · rw [if_pos hm]
    simp [RS.take]
  · rw [if_neg hm]
    have hc : s1.bad = true ∨ s1.xs.length - s1.pos < n := by
      rcases h with h | h | h
      · exact .inl h
      · exact (hm h).elim
      · exact .inr h
    have e : s1.take n = ({ s1 with bad := true }, []) := by unfold RS.take; rw [if_pos hc]
    rw [e]
    simp
theorem text_ref_good (s s1 : RS) (n : Nat) (most : Int) (h1 : s1 = (s.take 1).1) (hn : n = val (s.take 1).2) (hb : s1.bad = false) (hm : ¬ most < (n : Int)) (hl : ¬ s1.xs.length - s1.pos < n) : s.text most = s1.take n := by
  unfold RS.text
  simp only
  rw [← hn, ← h1, if_neg hm]
  have e : s1.take n = ({ s1 with pos := s1.pos + n }, (s1.xs.drop s1.pos).take n) := by unfold RS.take; rw [if_neg (by rw [hb]; simp; omega)]
  rw [e]
  simp [hb]

def GTxt (w : World) (g : Nat) (A : Option Addr) (L c : Nat) (s : RS) (most : Int) (e : Ending) (w' : World) : Prop := e = .returned (.string ⟨(s.text most).2.toArray⟩) ∧ FRd w' g A L c (s.text most).1 ∧ Keep (· = g) w w'

theorem gtxt_bad {w w1 : World} {g L c : Nat} {A : Option Addr} {s s1 : RS} {most : Int} (ht : s.text most = ({ s1 with pos := s.pos, bad := true }, [])) (hr : FRd w1 g A L c s1) (hk : Keep (· = g) w w1) (k : Nat) :
    GTxt w g A L c s most (.returned (.string ⟨#[]⟩)) (((w1.drewN k).setCell ⟨g, 1, none⟩ (.int .i64 (s.pos : Int))).setCell ⟨g, 2, none⟩ (.bool true)) := by
  refine ⟨by rw [ht], ?_, ?_⟩
  · rw [ht]
    exact ((hr.drewN k).setPos s.pos _ rfl).setBad true
  · exact keep_tr (keep_tr (hk.drewN k) (keep_set0 _)) (keep_set0 _)

set_option maxHeartbeats 1600000 in
theorem gtext_any (g L c : Nat) (A : Option Addr) (s : RS) (most : Int) (w : World) (hr : FRd w g A L c s) (hok : s.ok) (hcc : c ≤ maxLen) :
    Calls Try.prog 33 #[.pointer (some ⟨g, 0, none⟩), .int .i64 most] w (GTxt w g A L c s most) := by
  have hcc' := hcc
  unfold maxLen at hcc
  have hv := val_take s 1
  have hok1 := RS.take_ok hok 1
  obtain ⟨n, hn⟩ : ∃ n, n = val (s.take 1).2 := ⟨_, rfl⟩
  obtain ⟨s1, hs1⟩ : ∃ s1, s1 = (s.take 1).1 := ⟨_, rfl⟩
  rw [← hn] at hv
  rw [← hs1] at hok1
  have TB := Lib.hid (fun h => text_ref_bad s s1 n most hs1 hn h)
  have TG := Lib.hid (fun h1 h2 h3 => text_ref_good s s1 n most hs1 hn h1 h2 h3)
  have HN := Lib.hid hn
  have HS := Lib.hid hs1
  clear hn hs1
  obtain ⟨a0, a1, a2, q1, q2⟩ := hr.cells
  go_enter Try.func33, Try.ntmps33
  go_wp2_with fail
  refine (gu8_any g L c A s w hr hok hcc').mono ?_
  rintro e w1 ⟨rfl, hr1, hk1⟩
  rw [← HN.out]
  rw [← HS.out] at hr1
  have hlen : L ≤ 1000000 := by rw [← hr1.1.out]; exact hok1.2
  have hp : s1.pos ≤ L := by rw [← hr1.1.out]; exact hok1.1
  have HL := hr1.1
  obtain ⟨c0, c1, c2, f1, f2⟩ := hr1.cells
  clear a0 a1 a2 q1 q2 hr
  have hf2 : (w1.setCell ⟨g, 1, none⟩ (.int .i64 (s.pos : Int))).cell? ⟨g, 2, none⟩ = some (.bool s1.bad) := (World.cell?_setCell_other w1 _ _ _ (by simp)).trans c2
  obtain ⟨hbad⟩ : Nonempty (s1.bad = true ∨ s1.bad = false) := ⟨by cases s1.bad <;> simp⟩
  rcases hbad with hbad | hbad
  · have F := Lib.hid (fun k => gtxt_bad (TB.out (.inl hbad)) hr1 hk1 k)
    rw [hbad] at c2 hf2
    clear hbad hr1
    go_wp2
    go_quiet (fail)
    go_wp2
    go_ret
    exact F.out _
  · rw [hbad] at c2 hf2
    by_cases hm : most < (n : Int)
    · have F := Lib.hid (fun k => gtxt_bad (TB.out (.inr (.inl hm))) hr1 hk1 k)
      have hd : decide (most < (n : Int)) = true := by simpa using hm
      clear hbad hr1
      go_wp2
      go_quiet (fail)
      go_wp2
      go_ret
      exact F.out _
    · have hd : decide (most < (n : Int)) = false := by simpa using hm
      by_cases hlt : L - s1.pos < n
      · have F := Lib.hid (fun k => gtxt_bad (TB.out (.inr (.inr (by rw [HL.out]; exact hlt)))) hr1 hk1 k)
        have hd2 : decide ((L : Int) - (s1.pos : Int) < (n : Int)) = true := by simp; omega
        clear hbad hr1
        go_wp2
        go_quiet (fail)
        go_wp2
        go_ret
        exact F.out _
      · have hd2 : decide ((L : Int) - (s1.pos : Int) < (n : Int)) = false := by simp; omega
        have T := Lib.hid (TG.out hbad (by omega) (by have := HL.out; omega))
        clear hbad
        go_wp2
        go_quiet (fail)
        have hr2 := hr1.drewN nq
        go_wp2_with fail
        refine (ftake_any g L c A s1 n _ hr2 hok1 (by omega) hcc').mono ?_
        rintro e w2 ⟨B, m, d, rfl, hml, hr3, hR, -, -, hk2⟩
        have hcv := run_str8 w2 B m d _ hR hml.out
        have hk3 := keep_tr (hk1.drewN nq) hk2
        rw [← T.out] at hr3 hcv
        go_wp2
        go_ret
        exact ⟨rfl, hr3, hk3⟩

set_option maxHeartbeats 400000 in
theorem gend_any (g L c : Nat) (A : Option Addr) (s : RS) (w : World) (hr : FRd w g A L c s) :
    Calls Try.prog 35 #[.pointer (some ⟨g, 0, none⟩)] w fun e w' => e = .returned (.bool s.fin) ∧ ∃ k, w' = w.drewN k := by
  obtain ⟨c0, c1, c2, f1, f2⟩ := hr.cells
  have hF : s.fin = (!s.bad && s.pos == L) := by unfold RS.fin; rw [hr.1.out]
  rw [hF]
  clear hF
  obtain ⟨hbad⟩ : Nonempty (s.bad = true ∨ s.bad = false) := ⟨by cases s.bad <;> simp⟩
  rcases hbad with hbad | hbad
  · rw [hbad] at c2 ⊢
    clear hbad hr
    go_enter Try.func35, Try.ntmps35
    go_wp2
    go_quiet (fail)
    go_wp2
    go_ret
    exact ⟨ret_bool (by simp), _, rfl⟩
  · rw [hbad] at c2 ⊢
    clear hbad hr
    by_cases he : s.pos = L
    · have hd : ((s.pos : Int) == (L : Int)) = true := by simp [he]
      have HE := Lib.hid he
      clear he
      go_enter Try.func35, Try.ntmps35
      go_wp2
      go_quiet (fail)
      go_wp2
      go_ret
      exact ⟨ret_bool (by simp [HE.out]), _, rfl⟩
    · have hd : ((s.pos : Int) == (L : Int)) = false := by simp; omega
      have HE := Lib.hid he
      clear he
      go_enter Try.func35, Try.ntmps35
      go_wp2
      go_quiet (fail)
      go_wp2
      go_ret
      exact ⟨ret_bool (by simp [HE.out]), _, rfl⟩
end Go.Proofs.Ytojdhhlcildodaa
