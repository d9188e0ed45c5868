/-
 The contracts of jobberlaw10.filled (a book of asks) and jobberlaw10.whole (the quantity of orders). Condition: no more than 60 asks are taken.
-/
import Derived.Test.YtfpfpmhkkgfdbaaQF05
import Derived.Test.YtfpfpmhkkgfdbaaMFKeep10
import Derived.Deep.DeepCutAuto
set_option linter.unusedVariables false
namespace Go.Proofs.Ytfpfpmhkkgfdbaa
open Go.RowKit
set_option maxRecDepth 100000
def fillB (l : List Kq) : Bok := l.foldl (fun B q => (B.add q.o).2) Bok.zero
theorem fillB_snoc (l : List Kq) (q : Kq) : fillB (l ++ [q]) = ((fillB l).add q.o).2 := by unfold fillB; rw [List.foldl_append]; rfl
theorem fillB_next (l : List Kq) (i : Nat) (q : Kq) (h : l[i]? = some q) : fillB (l.take (i + 1)) = ((fillB (l.take i)).add q.o).2 := by
 rw [List.take_add_one, h]
 exact fillB_snoc _ _
theorem fillB_inv (l : List Kq) : Inv (fillB l) ∧ (fillB l).no ≤ 1048576 * l.length := by
 unfold fillB
 suffices h : ∀ (l : List Kq) (B : Bok) (n : Nat), Inv B ∧ B.no ≤ 1048576 * n → Inv (l.foldl (fun B q => (B.add q.o).2) B) ∧ (l.foldl (fun B q => (B.add q.o).2) B).no ≤ 1048576 * ((n + l.length : Nat) : Int) by
  have := h l Bok.zero 0 ⟨Inv.zero, by simp [Bok.zero]⟩
  simpa using this
 intro l
 induction l with
 | nil => intro B n h; simpa using h
 | cons q l ih =>
  intro B n h
  have h1 := inv_add (o := q.o) h.1
  have := ih (B.add q.o).2 (n + 1) ⟨h1.1, by have := h.2; omega⟩
  rw [List.foldl_cons]
  simpa [Nat.add_assoc, Nat.add_comm 1] using this
set_option maxRecDepth 100000 in
set_option maxHeartbeats 1600000 in
theorem bfilled_any (v : Value) (l : List Kq) (N : Nat) (w : World) (hl : Kqs w v l) (hN : N ≤ 60) : Calls Try.prog 31 #[v, .int .i64 (N : Int)] w fun e w' => ∃ p F, e = .returned (.pointer (some ⟨p, 0, none⟩)) ∧ Bk w' F p (fillB (l.take N)) ∧ Grow w (fun _ => False) F ∧ Kept w w' := by
 have HA := Lib.hid hl
 obtain ⟨A, n, c, rfl, hn, hm⟩ : ∃ A n c, v = .slice A n c ∧ l.length = n ∧ n ≤ maxLen := by
  obtain ⟨A, n, c, h1, h2, _, h3, _⟩ := hl
  exact ⟨A, n, c, h1, h2, h3⟩
 clear hl
 unfold maxLen at hm
 have HN := Lib.hid hn
 clear hn
 go_enter Try.func31, Try.ntmps31
 go_upto_region 1 with fail
 refine wp_region_lit ?_
 refine l_call (o := ⟨some 7, _, _, _, _, _⟩) 14 #[] rfl (exec_call 14 _ [] _ _ Try.func14 (by kernel_rfl) (by kernel_rfl) rfl (by kernel_rfl) _) ?_
 refine (bnew_any w).mono ?_
 rintro r w1 ⟨p, F, rfl, hL1, hG1, k1⟩
 refine ⟨_, rfl, ?_⟩
 simp only [Act.put, sA, sS, sZ]
 refine l_val (o := ⟨some 5, _, _, _, _, _⟩) (.pointer (some ⟨p, 0, none⟩)) rfl (exec_assign (.tmp 7) (.pointer (some ⟨p, 0, none⟩)) rfl (by kernel_rfl)) ?_
 simp only [Act.put, sA, sS, sZ]
 refine wpList_nil ?_
 have HL1 : Hid (Bk w1 F p (fillB (l.take 0))) := by rw [List.take_zero]; exact Lib.hid hL1
 have HG1 := Lib.hid hG1
 clear hL1 hG1
 go_wp2_with fail
 go_loopw [6] (fun t wr => ∃ (i : Nat) (F' : Nat → Prop), t = .int .i64 (i : Int) ∧ i ≤ N ∧ i ≤ n ∧ Hid (Bk wr F' p (fillB (l.take i))) ∧ Hid (Grow w (fun _ => False) F') ∧ Kept w wr) (fun t _ => N - (intOf t).toNat)
 case atStart => exact ⟨0, F, rfl, by omega, by omega, HL1, HG1, k1⟩
 case round =>
  obtain ⟨i, F', rfl, hi, hin, HLr, HGr, hkr⟩ := hrel
  by_cases hlt : i < n ∧ i < N
  ·obtain ⟨hin', hi20⟩ := hlt
   have hil : i < l.length := by rw [HN.out]; exact hin'
   obtain ⟨q, hq⟩ : ∃ q, l[i]? = some q := ⟨_, List.getElem?_eq_getElem hil⟩
   have HNx := Lib.hid (fillB_next l i q hq)
   have hI := fillB_inv (l.take i)
   have HNo : Hid ((fillB (l.take i)).no ≤ 1000000000000) := by
    have h1 := hI.2
    have h2 : (l.take i).length ≤ 60 := by rw [List.length_take]; omega
    show _ ≤ _
    omega
   have HI := Lib.hid hI.1
   clear hI
   generalize fillB (l.take i) = B at HLr HNx HNo HI
   obtain ⟨A', n', c', e1, _, _, _, h4⟩ := HA.out
   injection e1 with e1 e2 e3
   subst e1 e2 e3
   obtain ⟨g, off, rfl, hr⟩ := h4 i q hq
   have HE := Lib.hid (range_kept hr hkr)
   clear h4 hr hq hil
   go_upto_region 5 with fail
   refine wp_text 6 [.eq (.pointer (some ⟨p, 0, none⟩)), .eq (.slice (some ⟨g, off, none⟩) n c), .eq (.int .i64 (i : Int)), .eq (.pointer (some ⟨g, off + i * 7, none⟩)), .eq (q.v), .eq (q.o.v)] rfl (by kernel_rfl) ?_ ?_
   ·refine sv 1 rfl rfl rfl (fun a u hE hD hk => exec_move (.tmp 5) _ rfl (hE 5 (.pointer (some ⟨p, 0, none⟩)) (by kernel_rfl) (by kernel_rfl))) ?_
    refine sv 2 rfl rfl rfl (fun a u hE hD hk => exec_move (.tmp 0) _ rfl (hE 0 (.slice (some ⟨g, off, none⟩) n c) (by kernel_rfl) (by kernel_rfl))) ?_
    refine sv 3 rfl rfl rfl (fun a u hE hD hk => exec_move (.tmp 6) _ rfl (hE 6 (.int .i64 (i : Int)) (by kernel_rfl) (by kernel_rfl))) ?_
    refine sv 4 rfl rfl rfl (fun a u hE hD hk => exec_ixo slK (.tmp 24) (.tmp 25) (g) (off) n c i (off + i * 7) ((i : Int)) rfl (hD 1 24 (by kernel_rfl)) (hD 2 25 (by kernel_rfl)) (by first | rfl | omega) (hin') (by first | rfl | omega)) ?_
    refine sv 5 rfl rfl rfl (fun a u hE hD hk => exec_ldS 48 _ (.tmp 26) (g) (off + i * 7) (q.cells) rfl (hD 3 26 (by kernel_rfl)) (range_kept HE.out hk) Try.underlying48 (by rw [q.len7]; exact szK)) ?_
    refine fsteps_cons 6 rfl (fun a u hE hD hk => f_call (o := ⟨some 28, _, _, _, _, _⟩) 22 #[q.v] rfl (wanted_none rfl _) (exec_call 22 _ [.tmp 27] _ [q.v] Try.func22 (by kernel_rfl) (by kernel_rfl) rfl (show [a.eval (.tmp 27)] = [q.v] from (by rw [show a.eval (.tmp 27) = q.v from (hD 4 27 (by kernel_rfl))] <;> rfl)) u) (korder_any q u)) ?_
    exact fsteps_nil
   intro gv w3 hV k3
   rw [show dstsOf _ 6 = [23, 24, 25, 26, 27, 28] by kernel_rfl]
   simp only [fC, fN, sA, sS, sZ, dS, dZ]
   rw [show gv 23 = .pointer (some ⟨p, 0, none⟩) from hV 0 23 (by kernel_rfl)]
   rw [show gv 28 = q.o.v from hV 5 28 (by kernel_rfl)]
   clear hV
   refine l_call (o := ⟨some 29, _, _, _, _, _⟩) 15 #[.pointer (some ⟨p, 0, none⟩), q.o.v] rfl (exec_call 15 _ [.tmp 23, .tmp 28] _ _ Try.func15 (by kernel_rfl) (by kernel_rfl) rfl (by kernel_rfl) _) ?_
   refine (badd_any w3 F' p B q.o (HLr.out.kept k3) HI.out HNo.out).mono ?_
   rintro r w4 ⟨F4, vf, rfl, hB4, _, _, hG4, hk4⟩
   refine ⟨_, rfl, ?_⟩
   simp only [Act.put, sA, sS, sZ]
   refine wpList_nil ?_
   have z3 := k3.size
   have zr := hkr.size
   have HGlt : Hid (∀ x, F' x → w.heap.size ≤ x) := fun x hx => (HGr.out x hx).elim (fun h => h.elim) id
   have HB4 : Hid (Bk w4 F4 p (fillB (l.take (i + 1)))) := by rw [HNx.out]; exact Lib.hid hB4
   have HG4 : Hid (Grow w (fun _ => False) F4) := fun x hx => by
    rcases hG4 x hx with h | h
    ·exact HGr.out x h
    ·exact .inr (by omega)
   have kw4 : Kept w w4 := Keep.trans (hkr.trans k3) hk4 (fun b hb h => by have := HGlt.out b h; omega)
   clear hB4 hG4 hk4 HLr HGr hkr HE HI HNo HNx k3
   go_wp2
   exact ⟨⟨i + 1, F4, by go_num, by omega, by omega, HB4, HG4, kw4⟩, by simp [intOf]; omega⟩
  ·have HE : Hid (Bk wr F' p (fillB (l.take N))) := by
    have : l.take N = l.take i := by
     by_cases h : i = N
     ·rw [h]
     ·have : l.length = n := HN.out
      rw [List.take_of_length_le (by omega), List.take_of_length_le (by omega)]
    rw [this]
    exact HLr
   clear HLr
   by_cases h1 : i < n
   ·have h2 : ¬ i < N := by omega
    clear hlt
    go_wp2
    go_ret
    exact ⟨p, F', rfl, HE.out, HGr.out, hkr⟩
   ·clear hlt
    go_wp2
    go_ret
    exact ⟨p, F', rfl, HE.out, HGr.out, hkr⟩
end Go.Proofs.Ytfpfpmhkkgfdbaa
