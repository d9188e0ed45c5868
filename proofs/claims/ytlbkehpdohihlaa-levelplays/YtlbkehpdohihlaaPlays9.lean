/-
  The contract of jobberlaw9.LevelPlays: any calls: it answers true. No condition.
-/
import Derived.Test.YtlbkehpdohihlaaFirst9
import Derived.Test.YtlbkehpdohihlaaLvlY
import Derived.Test.YtlbkehpdohihlaaSame6
namespace Go.Proofs.Ytlbkehpdohihlaa
open Go.RowKit
set_option linter.unusedVariables false

/-- the program's level and the document's own, beside what was met -/
structure Play (w0 wr : World) (p r b : Nat) (F G : Nat → Prop) (X Y : List Ent) (K : List (Int × Int)) : Prop where
  x : Lvl 58 61 wr F p X
  y : Lvl 42 64 wr G r Y
  m : Met wr b K
  fb : ¬ F b
  gb : ¬ G b
  fg : ∀ c, F c → ¬ G c
  f0 : ∀ c, F c → w0.heap.size ≤ c
  g0 : ∀ c, G c → w0.heap.size ≤ c
  b0 : w0.heap.size ≤ b
  k : Kept w0 wr
theorem Play.kept {w0 wr w' : World} {p r b : Nat} {F G : Nat → Prop} {X Y : List Ent} {K : List (Int × Int)} (h : Play w0 wr p r b F G X Y K) (hk : Kept wr w') : Play w0 w' p r b F G X Y K := ⟨h.x.kept hk, h.y.kept hk, h.m.kept hk, h.fb, h.gb, h.fg, h.f0, h.g0, h.b0, h.k.trans hk⟩
theorem Play.stepX {w0 wr w' : World} {p r b : Nat} {F F' G : Nat → Prop} {X X' Y : List Ent} {K : List (Int × Int)} (h : Play w0 wr p r b F G X Y K) (hx : Lvl 58 61 w' F' p X') (hg : Grow wr F F') (hk : Keep F wr w') : Play w0 w' p r b F' G X' Y K := by
  have hs := h.k.size
  refine ⟨hx, h.y.keep hk (fun c hc hF => h.fg c hF hc), h.m.keep hk h.fb, fun hF => ?_, h.gb, fun c hF hG => ?_, fun c hF => ?_, h.g0, h.b0, Keep.trans h.k hk (fun c hc hF => by have := h.f0 c hF; omega)⟩
  · rcases hg b hF with h1 | h1
    · exact h.fb h1
    · have := h.m.lt; omega
  · rcases hg c hF with h1 | h1
    · exact h.fg c h1 hG
    · have := h.y.2.1 c hG; omega
  · rcases hg c hF with h1 | h1
    · exact h.f0 c h1
    · omega
theorem Play.stepY {w0 wr w' : World} {p r b : Nat} {F G G' : Nat → Prop} {X Y Y' : List Ent} {K : List (Int × Int)} (h : Play w0 wr p r b F G X Y K) (hy : Lvl 42 64 w' G' r Y') (hg : Grow wr G G') (hk : Keep G wr w') : Play w0 w' p r b F G' X Y' K := by
  have hs := h.k.size
  refine ⟨h.x.keep hk (fun c hc hG => h.fg c hc hG), hy, h.m.keep hk h.gb, h.fb, fun hG => ?_, fun c hF hG => ?_, h.f0, fun c hG => ?_, h.b0, Keep.trans h.k hk (fun c hc hG => by have := h.g0 c hG; omega)⟩
  · rcases hg b hG with h1 | h1
    · exact h.gb h1
    · have := h.m.lt; omega
  · rcases hg c hG with h1 | h1
    · exact h.fg c hF h1
    · have := h.x.2.1 c hF; omega
  · rcases hg c hG with h1 | h1
    · exact h.g0 c h1
    · omega
theorem Play.stepM {w0 wr w' : World} {p r b : Nat} {F G : Nat → Prop} {X Y : List Ent} {K K' : List (Int × Int)} (h : Play w0 wr p r b F G X Y K) (hm : Met w' b K') (hk : Keep (· = b) wr w') : Play w0 w' p r b F G X Y K' :=
  ⟨h.x.keep hk (fun c hc e => h.fb (by rw [← e]; exact hc)), h.y.keep hk (fun c hc e => h.gb (by rw [← e]; exact hc)), hm, h.fb, h.gb, h.fg, h.f0, h.g0, h.b0, Keep.trans h.k hk (fun c hc e => by subst e; have := h.b0; omega)⟩
/-- a level behind so many calls -/
def Fit (X : List Ent) (i : Nat) : Prop := (∀ e ∈ X, e.ok) ∧ wholeM X ≤ 12 * i
theorem Fit.good {X : List Ent} {i : Nat} (h : Fit X i) (hi : i ≤ 1000) : Good X := ⟨h.1, by have := h.2; omega⟩
theorem Fit.next {X : List Ent} {i : Nat} (h : Fit X i) : Fit X (i + 1) := ⟨h.1, by have := h.2; omega⟩
theorem Fit.add {X : List Ent} {i : Nat} (h : Fit X i) (q : Ask) : Fit (X ++ [Ent.of q.o]) (i + 1) := by
  have hq := ask_qty q
  refine ⟨fun e he => ?_, ?_⟩
  · rcases List.mem_append.1 he with he | he
    · exact h.1 e he
    · simp at he
      subst he
      exact tip_ok _ hq.1
  · have := h.2
    rw [wholeM_append, wholeM_cons]
    have e1 : (Ent.of q.o).o.qty = q.o.qty := rfl
    rw [e1]
    simp only [wholeM, List.map_nil, sumI_nil] at this ⊢
    omega
theorem Fit.take {X : List Ent} {i : Nat} (h : Fit X i) (hi : i ≤ 1000) (firm q : Int) : Fit (takeM firm q X).2.2 (i + 1) := by
  obtain ⟨h1, h2, _, h4, _⟩ := takeM_facts firm q.toNat q X (Nat.le_refl _) (h.good hi)
  have := h.2
  exact ⟨h1.ok, by omega⟩
theorem Fit.remove {X : List Ent} {i : Nat} (h : Fit X i) (hi : i ≤ 1000) (t d : Int) : Fit (removeM t d X).2.2 (i + 1) := by
  unfold removeM
  cases he : X[idxM t d X]? with
  | none => exact h.next
  | some e =>
    simp only
    refine ⟨(erase_good (h.good hi) _).ok, ?_⟩
    have h1 := (erase_sums he).1
    have h2 := h.2
    have h3 := (h.good hi).bound (List.mem_of_getElem? he)
    omega
theorem Fit.less {X : List Ent} {i : Nat} (h : Fit X i) (hi : i ≤ 1000) (t d q : Int) : Fit (lessM t d q X).2 (i + 1) := by
  unfold lessM
  cases he : X[idxM t d X]? with
  | none => exact h.next
  | some e =>
    simp only
    split
    · rename_i hq
      have hk := (List.getElem?_eq_some_iff.1 he).1
      have hb := (h.good hi).bound (List.mem_of_getElem? he)
      have h1 := mn_le e.n q
      have h2 := mn_pos e.n q (by omega) (by omega)
      refine ⟨fun x hx => ?_, ?_⟩
      · rcases List.mem_or_eq_of_mem_set hx with hx | rfl
        · exact h.1 x hx
        · unfold Ent.ok
          simp only [Ord.q]
          omega
      · have h3 := h.2
        obtain ⟨_, rfl⟩ := List.getElem?_eq_some_iff.1 he
        have h4 : X = X.take (idxM t d X) ++ X[idxM t d X] :: X.drop (idxM t d X + 1) := by
          rw [← List.drop_eq_getElem_cons hk, List.take_append_drop]
        have h5 : wholeM X = wholeM (X.take (idxM t d X)) + (X[idxM t d X].o.qty + wholeM (X.drop (idxM t d X + 1))) := by
          conv => lhs; rw [h4, wholeM_append, wholeM_cons]
        rw [List.set_eq_take_append_cons_drop, if_pos hk, wholeM_append, wholeM_cons]
        simp only [Ord.q]
        omega
    · exact h.next
theorem builtLR : Try.prog.built 42 [(0, .int .i64 7)] = some lv0.toArray := by kernel_rfl
theorem exec_blvlR {a : Act} {o : Oper} {u : World} (hop : o.op = .build 42 #[(0, .const (.int .i64 7))]) : (execOp a.eval o).run Try.prog u = .ok (.value (.agg lv0.toArray)) u :=
  exec_build 42 [(0, .const (.int .i64 7))] lv0 hop builtLR

set_option maxRecDepth 100000 in
set_option maxHeartbeats 12800000 in
theorem levelPlays_any (v : Value) (l : List Ask) (w : World) (hl : Asks w v l) : Calls Try.prog 4 #[v] w fun e w' => e = .returned (.bool true) ∧ Kept w w' := by
  have HA := Lib.hid hl
  obtain ⟨A, n, c, rfl, hn, hwf, hm, _⟩ := hl
  unfold maxLen at hm
  have HN := Lib.hid hn
  have HWF := Lib.hid hwf
  clear hn hwf
  go_enter Try.func4, Try.ntmps4
  go_upto_region 1 with fail
  refine wp_region_lit ?_
  refine l_call (o := ⟨some 18, _, _, _, _, _⟩) 9 #[.int .i64 7] rfl (exec_call 9 _ [.const (.int .i64 7)] _ _ Try.func9 (by kernel_rfl) (by kernel_rfl) rfl (by kernel_rfl) _) ?_
  refine (new_any w).mono ?_
  rintro r0 w1 ⟨p, F0, rfl, hL1, hG1, k1⟩
  refine ⟨_, rfl, ?_⟩
  simp only [Act.put, List.setIfInBounds_toArray, List.set_cons_succ, List.set_cons_zero]
  refine l_val (o := ⟨some 19, _, _, _, _, _⟩) (.agg lv0.toArray) rfl (exec_blvlR rfl) ?_
  simp only [Act.put, List.setIfInBounds_toArray, List.set_cons_succ, List.set_cons_zero]
  refine l_new (o := ⟨some 20, _, _, _, _, _⟩) (.pointer (some ⟨w1.heap.size, 0, none⟩)) (w1.alloc (.cells lv0.toArray 42)) rfl (exec_box 42 (.tmp 19) lv0 rfl (by kernel_rfl)) ?_
  have hB2 : Blk (w1.alloc (.cells lv0.toArray 42)) w1.heap.size 42 lv0 := Blk.new w1 _ _
  have k2 : Kept w1 (w1.alloc (.cells lv0.toArray 42)) := (Keep.refl _ w1).alloc _
  generalize w1.alloc (.cells lv0.toArray 42) = w2 at hB2 k2 ⊢
  obtain ⟨r, hr⟩ : ∃ r, r = w1.heap.size := ⟨_, rfl⟩
  rw [← hr] at hB2 ⊢
  simp only [Act.put, List.setIfInBounds_toArray, List.set_cons_succ, List.set_cons_zero]
  refine l_val (o := ⟨some 3, _, _, _, _, _⟩) (.pointer (some ⟨p, 0, none⟩)) rfl (exec_assign (.tmp 18) (.pointer (some ⟨p, 0, none⟩)) rfl (by kernel_rfl)) ?_
  simp only [Act.put, List.setIfInBounds_toArray, List.set_cons_succ, List.set_cons_zero]
  refine l_val (o := ⟨some 4, _, _, _, _, _⟩) (.pointer (some ⟨r, 0, none⟩)) rfl (exec_assign (.tmp 20) (.pointer (some ⟨r, 0, none⟩)) rfl (by kernel_rfl)) ?_
  simp only [Act.put, List.setIfInBounds_toArray, List.set_cons_succ, List.set_cons_zero]
  refine wpList_nil ?_
  have HL2 := Lib.hid (hL1.kept k2)
  have HY2 : Hid (Lvl 42 64 w2 (· = r) r []) := ⟨rfl, fun b hb => by subst hb; exact hB2.lt, _, hB2, Sl.nil _ _ _, fun b hb => by simp [Value.ownBlock] at hb⟩
  have HF0 : Hid (∀ b, F0 b → w.heap.size ≤ b) := fun b hb => (hG1 b hb).elim (fun h => h.elim) id
  have HFL : Hid (∀ b, F0 b → b < w1.heap.size) := hL1.2.1
  have kw2 := k1.trans k2
  have z1 := k1.size
  have z2 := hB2.lt
  clear hL1 hG1 hB2 k1 k2
  go_upto_region 4 with fail
  refine wp_text 1 [.met w2.heap.size] rfl (by kernel_rfl) ?_ ?_
  · refine fsteps_cons 1 rfl (fun a u hE hD hk => f_new (o := ⟨some 23, _, _, _, _, _⟩) (.map (some u.heap.size)) _ rfl (wanted_none rfl _) (exec_mkmap rfl) ⟨_, rfl, hk.size, Met.new u⟩ ((Keep.refl _ u).alloc _)) ?_
    exact fsteps_nil
  intro gv w3 hV k3
  rw [show dstsOf _ 1 = [23] by kernel_rfl]
  simp only [List.foldl_cons, List.foldl_nil, List.setIfInBounds_toArray, List.set_cons_succ, List.set_cons_zero, List.drop_succ_cons, List.drop_zero]
  have hv23 : (.met w2.heap.size : Kn).p (gv 23) w3 := hV 0 23 (by kernel_rfl)
  generalize gv 23 = v23 at hv23 ⊢
  clear hV
  obtain ⟨b, rfl, hb, hM⟩ := hv23
  refine l_val (o := ⟨some 5, _, _, _, _, _⟩) (.map (some b)) rfl (exec_assign (.tmp 23) (.map (some b)) rfl (by kernel_rfl)) ?_
  simp only [Act.put, List.setIfInBounds_toArray, List.set_cons_succ, List.set_cons_zero]
  refine wpList_nil ?_
  have HP3 : Hid (Play w w3 p r b F0 (· = r) [] [] []) := ⟨HL2.out.kept k3, HY2.out.kept k3, hM, fun h => by have := HFL.out b h; omega, fun h => by omega, fun c h e => by have := HFL.out c h; omega, HF0.out, fun c e => by omega, by omega, kw2.trans k3⟩
  clear hM HL2 HY2 k3 kw2 HF0 HFL
  go_wp2_with fail
  go_loopw [6] (fun t wr => ∃ (i : Nat) (F G : Nat → Prop) (X : List Ent) (K : List (Int × Int)), t = .int .i64 (i : Int) ∧ i ≤ 50 ∧ i ≤ n ∧ Hid (Play w wr p r b F G X X K) ∧ Hid (Fit X i)) (fun t _ => 50 - (intOf t).toNat)
  case atStart => exact ⟨0, F0, (· = r), [], [], rfl, by omega, by omega, HP3, ⟨by simp, by simp [wholeM, sumI]⟩⟩
  case round =>
    obtain ⟨i, F, G, X, K, rfl, hi, hin, HP, HI⟩ := hrel
    by_cases hlt : i < n ∧ i < 50
    · obtain ⟨hin', hi50⟩ := hlt
      have hil : i < l.length := by rw [HN.out]; exact hin'
      obtain ⟨q, hq⟩ : ∃ q, l[i]? = some q := ⟨_, List.getElem?_eq_getElem hil⟩
      have HQ := Lib.hid (HWF.out q (List.mem_of_getElem? hq))
      obtain ⟨A', n', c', e1, _, _, _, h4⟩ := HA.out
      injection e1 with e1 e2 e3
      subst e1 e2 e3
      obtain ⟨g, off, rfl, hr⟩ := h4 i q hq
      have HE := Lib.hid (range_kept hr HP.out.k)
      have HXG := Lib.hid (HI.out.good (by omega))
      clear h4 hr hq hil
      go_upto_region 8 with fail
      refine wp_text 5 [.eq (.slice (some ⟨g, off, none⟩) n c), .eq (.int .i64 (i : Int)), .eq (.pointer (some ⟨g, off + i * 5, none⟩)), .eq (q.v), .fresh wr.heap.size 45 zeroA.cells] rfl (by kernel_rfl) ?_ ?_
      · refine fsteps_cons 1 rfl (fun a u hE hD hk => f_val (o := ⟨some 34, _, _, _, _, _⟩) (.slice (some ⟨g, off, none⟩) n c) rfl (wanted_none rfl _) (exec_move (.tmp 0) (.slice (some ⟨g, off, none⟩) n c) rfl (hE 0 (.slice (some ⟨g, off, none⟩) n c) (by kernel_rfl) (by kernel_rfl))) rfl) ?_
        refine fsteps_cons 2 rfl (fun a u hE hD hk => f_val (o := ⟨some 35, _, _, _, _, _⟩) (.int .i64 (i : Int)) rfl (wanted_none rfl _) (exec_move (.tmp 6) (.int .i64 (i : Int)) rfl (hE 6 (.int .i64 (i : Int)) (by kernel_rfl) (by kernel_rfl))) rfl) ?_
        refine fsteps_cons 3 rfl (fun a u hE hD hk => f_val (o := ⟨some 36, _, _, _, _, _⟩) (.pointer (some ⟨g, off + i * 5, none⟩)) rfl (wanted_none rfl _) (exec_ixo slA (.tmp 34) (.tmp 35) (g) (off) n c i (off + i * 5) ((i : Int)) rfl (hD 0 34 (by kernel_rfl)) (hD 1 35 (by kernel_rfl)) (by first | rfl | omega) (hin') (by first | rfl | omega)) rfl) ?_
        refine fsteps_cons 4 rfl (fun a u hE hD hk => f_val (o := ⟨some 37, _, _, _, _, _⟩) (q.v) rfl (wanted_none rfl _) (exec_ldS 45 _ (.tmp 36) (g) (off + i * 5) (q.cells) rfl (hD 2 36 (by kernel_rfl)) (range_kept HE.out hk) Try.underlying45 (by rw [q.len5]; exact szA)) rfl) ?_
        refine fsteps_cons 5 rfl (fun a u hE hD hk => f_new (o := ⟨some 7, _, _, _, _, _⟩) (.pointer (some ⟨u.heap.size, 0, none⟩)) _ rfl (wanted_none rfl _) (exec_alc 45 zeroA.cells rfl zA) ⟨_, rfl, hk.size, Blk.new u _ _⟩ ((Keep.refl _ u).alloc _)) ?_
        exact fsteps_nil
      intro gv w4 hV k4
      rw [show dstsOf _ 5 = [34, 35, 36, 37, 7] by kernel_rfl]
      simp only [List.foldl_cons, List.foldl_nil, List.setIfInBounds_toArray, List.set_cons_succ, List.set_cons_zero, List.drop_succ_cons, List.drop_zero]
      have hv7 : (.fresh wr.heap.size 45 zeroA.cells : Kn).p (gv 7) w4 := hV 4 7 (by kernel_rfl)
      generalize gv 7 = v7 at hv7 ⊢
      rw [show gv 37 = q.v from hV 3 37 (by kernel_rfl)]
      clear hV
      obtain ⟨b7, rfl, hb7, hB7⟩ := hv7
      refine l_setS (o := ⟨none, _, _, _, _, _⟩) 45 b7 45 zeroA.cells q.cells (.tmp 7) (.tmp 37) rfl rfl (by kernel_rfl) (by kernel_rfl) hB7 (by rw [Ask.len5]; exact szA) (by rw [Ask.len5, Ask.len5]) (Ask.one _) ?_
      intro w5 hC5 hk5 hs5
      simp only [Act.put]
      refine wpList_nil ?_
      have kr5 : Kept wr w5 := k4.trans' hk5 (by omega)
      have HP5 := Lib.hid (HP.out.kept kr5)
      have HC5 := Lib.hid (blk_range hC5)
      have l7 := hC5.lt
      have z5 := kr5.size
      have HFL : Hid (∀ x, F x → x < wr.heap.size) := HP.out.x.2.1
      have HGL : Hid (∀ x, G x → x < wr.heap.size) := HP.out.y.2.1
      have hbl := HP.out.m.lt
      clear hB7 hC5 hk5 k4 HE HP kr5 hs5
      go_upto_region 10 with fail
      refine wp_text 2 [.eq (.pointer (some ⟨b7, 0, none⟩)), .eq (.int .i64 q.k)] rfl (by kernel_rfl) ?_ ?_
      · refine fsteps_cons 1 rfl (fun a u hE hD hk => f_val (o := ⟨some 38, _, _, _, _, _⟩) (.pointer (some ⟨b7, 0, none⟩)) rfl (wanted_none rfl _) (exec_fldo 45 0 0 (.tmp 7) (b7) (0) (0) rfl (hE 7 (.pointer (some ⟨b7, 0, none⟩)) (by kernel_rfl) (by kernel_rfl)) (by kernel_rfl) rfl) rfl) ?_
        refine fsteps_cons 2 rfl (fun a u hE hD hk => f_val (o := ⟨some 39, _, _, _, _, _⟩) (.int .i64 q.k) rfl (wanted_none rfl _) (exec_loadi 3 Try.underlying3 (.tmp 38) ⟨b7, 0, none⟩ (.int .i64 q.k) rfl (hD 0 38 (by kernel_rfl)) (range_int (range_kept HC5.out hk) 0 _ rfl)) rfl) ?_
        exact fsteps_nil
      intro gv w6 hV k6
      rw [show dstsOf _ 2 = [38, 39] by kernel_rfl]
      simp only [List.foldl_cons, List.foldl_nil, List.setIfInBounds_toArray, List.set_cons_succ, List.set_cons_zero, List.drop_succ_cons, List.drop_zero]
      rw [show gv 39 = .int .i64 q.k from hV 1 39 (by kernel_rfl)]
      clear hV
      refine wpList_nil ?_
      have HP6 := Lib.hid (HP5.out.kept k6)
      have HC6 := Lib.hid (range_kept HC5.out k6)
      have z6 := k6.size
      clear HP5 HC5 k6
      by_cases h1 : q.k = 1
      · skip

        go_upto_region 11 with fail
        refine wp_text 1 [.eq (.bool true)] rfl (by kernel_rfl) ?_ ?_
        · refine fsteps_cons 1 rfl (fun a u hE hD hk => f_as (show ((decide ((q.k : Int) = (1 : Int))) : Bool) = true from decide_eq_true h1) (f_val (o := ⟨some 41, _, _, _, _, _⟩) (.bool (decide ((q.k : Int) = (1 : Int)))) rfl (wanted_none rfl _) (exec_eqn (p := q.k) (q := 1) rfl (hE 39 (.int .i64 q.k) (by kernel_rfl) (by kernel_rfl)) rfl) rfl)) ?_
          exact fsteps_nil
        intro gv w7 hV k7
        rw [show dstsOf _ 1 = [41] by kernel_rfl]
        simp only [List.foldl_cons, List.foldl_nil, List.setIfInBounds_toArray, List.set_cons_succ, List.set_cons_zero, List.drop_succ_cons, List.drop_zero]
        rw [show gv 41 = .bool true from hV 0 41 (by kernel_rfl)]
        clear hV
        refine l_val (o := ⟨some 40, _, _, _, _, _⟩) (.bool true) rfl (exec_assign (.tmp 41) (.bool true) rfl (by kernel_rfl)) ?_
        simp only [Act.put, List.setIfInBounds_toArray, List.set_cons_succ, List.set_cons_zero]
        refine wpList_nil ?_
        have HP7 := Lib.hid (HP6.out.kept k7)
        have HC7 := Lib.hid (range_kept HC6.out k7)
        have z7 := k7.size
        clear HP6 HC6 k7
        go_upto_region 12 with fail
        refine wp_text 3 [.eq (q.v), .eq (q.o.v), .fresh w7.heap.size 25 zeroO.cells] rfl (by kernel_rfl) ?_ ?_
        · refine fsteps_cons 1 rfl (fun a u hE hD hk => f_val (o := ⟨some 42, _, _, _, _, _⟩) (q.v) rfl (wanted_none rfl _) (exec_ldS 45 _ (.tmp 7) (b7) (0) (q.cells) rfl (hE 7 (.pointer (some ⟨b7, 0, none⟩)) (by kernel_rfl) (by kernel_rfl)) (range_kept HC7.out hk) Try.underlying45 (by rw [q.len5]; exact szA)) rfl) ?_
          refine fsteps_cons 2 rfl (fun a u hE hD hk => f_call (o := ⟨some 43, _, _, _, _, _⟩) 16 #[q.v] rfl (wanted_none rfl _) (exec_call 16 _ [.tmp 42] _ [q.v] Try.func16 (by kernel_rfl) (by kernel_rfl) rfl (show [a.eval (.tmp 42)] = [q.v] from (by rw [show a.eval (.tmp 42) = q.v from (hD 0 42 (by kernel_rfl))] <;> rfl)) u) (made_any q u)) ?_
          refine fsteps_cons 3 rfl (fun a u hE hD hk => f_new (o := ⟨some 9, _, _, _, _, _⟩) (.pointer (some ⟨u.heap.size, 0, none⟩)) _ rfl (wanted_none rfl _) (exec_alc 25 zeroO.cells rfl zO) ⟨_, rfl, hk.size, Blk.new u _ _⟩ ((Keep.refl _ u).alloc _)) ?_
          exact fsteps_nil
        intro gv w8 hV k8
        rw [show dstsOf _ 3 = [42, 43, 9] by kernel_rfl]
        simp only [List.foldl_cons, List.foldl_nil, List.setIfInBounds_toArray, List.set_cons_succ, List.set_cons_zero, List.drop_succ_cons, List.drop_zero]
        have hv9 : (.fresh w7.heap.size 25 zeroO.cells : Kn).p (gv 9) w8 := hV 2 9 (by kernel_rfl)
        generalize gv 9 = v9 at hv9 ⊢
        rw [show gv 43 = q.o.v from hV 1 43 (by kernel_rfl)]
        clear hV
        obtain ⟨b9, rfl, hb9, hB9⟩ := hv9
        refine l_setS (o := ⟨none, _, _, _, _, _⟩) 25 b9 25 zeroO.cells q.o.cells (.tmp 9) (.tmp 43) rfl rfl (by kernel_rfl) (by kernel_rfl) hB9 (by rw [Ord.len9]; exact ord_size) (by rw [Ord.len9, Ord.len9]) (Ord.one1 _) ?_
        intro w9 hC9 hk9 hs9
        simp only [Act.put]
        refine wpList_nil ?_
        have k79 : Kept w7 w9 := k8.trans' hk9 (by omega)
        have HP9 := Lib.hid (HP7.out.kept k79)
        have HO9 := Lib.hid (blk_range hC9)
        have l9 := hC9.lt
        have z9 := k79.size
        clear hB9 hC9 hk9 k8 k79 HP7 HC7 hs9 h1
        have HIA := Lib.hid (HI.out.add q)
        have HWK := Lib.hid (ask_tr q)
        obtain ⟨o, ho⟩ : ∃ o, q.o = o := ⟨_, rfl⟩
        rw [ho] at HO9 HIA HWK ⊢
        clear ho
        by_cases hmem : (o.tr, o.id) ∈ K
        · go_upto_region 13 with fail
          refine wp_text 7 [.eq (.map (some b)), .eq (.pointer (some ⟨b9, 0, none⟩)), .eq (.int .i64 o.tr), .eq (.pointer (some ⟨b9, 1, none⟩)), .eq (.int .i64 o.id), .eq (key2 (o.tr) (o.id)), .eq (.bool true)] rfl (by kernel_rfl) ?_ ?_
          · refine fsteps_cons 1 rfl (fun a u hE hD hk => f_val (o := ⟨some 44, _, _, _, _, _⟩) (.map (some b)) rfl (wanted_none rfl _) (exec_move (.tmp 5) (.map (some b)) rfl (hE 5 (.map (some b)) (by kernel_rfl) (by kernel_rfl))) rfl) ?_
            refine fsteps_cons 2 rfl (fun a u hE hD hk => f_val (o := ⟨some 45, _, _, _, _, _⟩) (.pointer (some ⟨b9, 0, none⟩)) rfl (wanted_none rfl _) (exec_fldo 25 0 0 (.tmp 9) (b9) (0) (0) rfl (hE 9 (.pointer (some ⟨b9, 0, none⟩)) (by kernel_rfl) (by kernel_rfl)) (by kernel_rfl) rfl) rfl) ?_
            refine fsteps_cons 3 rfl (fun a u hE hD hk => f_val (o := ⟨some 46, _, _, _, _, _⟩) (.int .i64 o.tr) rfl (wanted_none rfl _) (exec_loadi 3 Try.underlying3 (.tmp 45) ⟨b9, 0, none⟩ (.int .i64 o.tr) rfl (hD 1 45 (by kernel_rfl)) (range_int (range_kept HO9.out hk) 0 _ rfl)) rfl) ?_
            refine fsteps_cons 4 rfl (fun a u hE hD hk => f_val (o := ⟨some 47, _, _, _, _, _⟩) (.pointer (some ⟨b9, 1, none⟩)) rfl (wanted_none rfl _) (exec_fldo 25 1 1 (.tmp 9) (b9) (0) (1) rfl (hE 9 (.pointer (some ⟨b9, 0, none⟩)) (by kernel_rfl) (by kernel_rfl)) (by kernel_rfl) rfl) rfl) ?_
            refine fsteps_cons 5 rfl (fun a u hE hD hk => f_val (o := ⟨some 48, _, _, _, _, _⟩) (.int .i64 o.id) rfl (wanted_none rfl _) (exec_loadi 3 Try.underlying3 (.tmp 47) ⟨b9, 1, none⟩ (.int .i64 o.id) rfl (hD 3 47 (by kernel_rfl)) (range_int (range_kept HO9.out hk) 1 _ rfl)) rfl) ?_
            refine fsteps_cons 6 rfl (fun a u hE hD hk => f_val (o := ⟨some 49, _, _, _, _, _⟩) (key2 (o.tr) (o.id)) rfl (wanted_none rfl _) (exec_pair (.tmp 46) (.tmp 48) (o.tr) (o.id) rfl (hD 2 46 (by kernel_rfl)) (hD 4 48 (by kernel_rfl))) rfl) ?_
            refine fsteps_cons 7 rfl (fun a u hE hD hk => f_val (o := ⟨some 50, _, _, _, _, _⟩) (.bool true) rfl (wanted_none rfl _) (exec_lookb true (.tmp 44) (.tmp 49) b K o.tr o.id rfl (hD 0 44 (by kernel_rfl)) (hD 5 49 (by kernel_rfl)) HWK.out.1 HWK.out.2 (HP9.out.m.kept hk) (decide_eq_true hmem)) rfl) ?_
            exact fsteps_nil
          intro gv w10 hV k10
          rw [show dstsOf _ 7 = [44, 45, 46, 47, 48, 49, 50] by kernel_rfl]
          simp only [List.foldl_cons, List.foldl_nil, List.setIfInBounds_toArray, List.set_cons_succ, List.set_cons_zero, List.drop_succ_cons, List.drop_zero]
          rw [show gv 50 = .bool true from hV 6 50 (by kernel_rfl)]
          clear hV
          refine wpList_nil ?_
          have HP10 := Lib.hid (HP9.out.kept k10)
          have HI10 := Lib.hid HI.out.next
          clear HP9 k10 HO9 HWK HIA HI hmem
          go_wp2
          exact ⟨⟨i + 1, F, G, X, K, by go_num, by omega, by omega, HP10, HI10⟩, by simp [intOf]; omega⟩
        · go_upto_region 13 with fail
          refine wp_text 7 [.eq (.map (some b)), .eq (.pointer (some ⟨b9, 0, none⟩)), .eq (.int .i64 o.tr), .eq (.pointer (some ⟨b9, 1, none⟩)), .eq (.int .i64 o.id), .eq (key2 (o.tr) (o.id)), .eq (.bool false)] rfl (by kernel_rfl) ?_ ?_
          · refine fsteps_cons 1 rfl (fun a u hE hD hk => f_val (o := ⟨some 44, _, _, _, _, _⟩) (.map (some b)) rfl (wanted_none rfl _) (exec_move (.tmp 5) (.map (some b)) rfl (hE 5 (.map (some b)) (by kernel_rfl) (by kernel_rfl))) rfl) ?_
            refine fsteps_cons 2 rfl (fun a u hE hD hk => f_val (o := ⟨some 45, _, _, _, _, _⟩) (.pointer (some ⟨b9, 0, none⟩)) rfl (wanted_none rfl _) (exec_fldo 25 0 0 (.tmp 9) (b9) (0) (0) rfl (hE 9 (.pointer (some ⟨b9, 0, none⟩)) (by kernel_rfl) (by kernel_rfl)) (by kernel_rfl) rfl) rfl) ?_
            refine fsteps_cons 3 rfl (fun a u hE hD hk => f_val (o := ⟨some 46, _, _, _, _, _⟩) (.int .i64 o.tr) rfl (wanted_none rfl _) (exec_loadi 3 Try.underlying3 (.tmp 45) ⟨b9, 0, none⟩ (.int .i64 o.tr) rfl (hD 1 45 (by kernel_rfl)) (range_int (range_kept HO9.out hk) 0 _ rfl)) rfl) ?_
            refine fsteps_cons 4 rfl (fun a u hE hD hk => f_val (o := ⟨some 47, _, _, _, _, _⟩) (.pointer (some ⟨b9, 1, none⟩)) rfl (wanted_none rfl _) (exec_fldo 25 1 1 (.tmp 9) (b9) (0) (1) rfl (hE 9 (.pointer (some ⟨b9, 0, none⟩)) (by kernel_rfl) (by kernel_rfl)) (by kernel_rfl) rfl) rfl) ?_
            refine fsteps_cons 5 rfl (fun a u hE hD hk => f_val (o := ⟨some 48, _, _, _, _, _⟩) (.int .i64 o.id) rfl (wanted_none rfl _) (exec_loadi 3 Try.underlying3 (.tmp 47) ⟨b9, 1, none⟩ (.int .i64 o.id) rfl (hD 3 47 (by kernel_rfl)) (range_int (range_kept HO9.out hk) 1 _ rfl)) rfl) ?_
            refine fsteps_cons 6 rfl (fun a u hE hD hk => f_val (o := ⟨some 49, _, _, _, _, _⟩) (key2 (o.tr) (o.id)) rfl (wanted_none rfl _) (exec_pair (.tmp 46) (.tmp 48) (o.tr) (o.id) rfl (hD 2 46 (by kernel_rfl)) (hD 4 48 (by kernel_rfl))) rfl) ?_
            refine fsteps_cons 7 rfl (fun a u hE hD hk => f_val (o := ⟨some 50, _, _, _, _, _⟩) (.bool false) rfl (wanted_none rfl _) (exec_lookb false (.tmp 44) (.tmp 49) b K o.tr o.id rfl (hD 0 44 (by kernel_rfl)) (hD 5 49 (by kernel_rfl)) HWK.out.1 HWK.out.2 (HP9.out.m.kept hk) (decide_eq_false hmem)) rfl) ?_
            exact fsteps_nil
          intro gv w10 hV k10
          rw [show dstsOf _ 7 = [44, 45, 46, 47, 48, 49, 50] by kernel_rfl]
          simp only [List.foldl_cons, List.foldl_nil, List.setIfInBounds_toArray, List.set_cons_succ, List.set_cons_zero, List.drop_succ_cons, List.drop_zero]
          rw [show gv 50 = .bool false from hV 6 50 (by kernel_rfl)]
          clear hV
          refine wpList_nil ?_
          have HP10 := Lib.hid (HP9.out.kept k10)
          have HO10 := Lib.hid (range_kept HO9.out k10)
          have z10 := k10.size
          clear HP9 HO9 k10
          go_upto_region 14 with fail
          refine wp_text 6 [.eq (.map (some b)), .eq (.pointer (some ⟨b9, 0, none⟩)), .eq (.int .i64 o.tr), .eq (.pointer (some ⟨b9, 1, none⟩)), .eq (.int .i64 o.id), .eq (key2 (o.tr) (o.id))] rfl (by kernel_rfl) ?_ ?_
          · refine fsteps_cons 1 rfl (fun a u hE hD hk => f_val (o := ⟨some 51, _, _, _, _, _⟩) (.map (some b)) rfl (wanted_none rfl _) (exec_move (.tmp 5) (.map (some b)) rfl (hE 5 (.map (some b)) (by kernel_rfl) (by kernel_rfl))) rfl) ?_
            refine fsteps_cons 2 rfl (fun a u hE hD hk => f_val (o := ⟨some 52, _, _, _, _, _⟩) (.pointer (some ⟨b9, 0, none⟩)) rfl (wanted_none rfl _) (exec_fldo 25 0 0 (.tmp 9) (b9) (0) (0) rfl (hE 9 (.pointer (some ⟨b9, 0, none⟩)) (by kernel_rfl) (by kernel_rfl)) (by kernel_rfl) rfl) rfl) ?_
            refine fsteps_cons 3 rfl (fun a u hE hD hk => f_val (o := ⟨some 53, _, _, _, _, _⟩) (.int .i64 o.tr) rfl (wanted_none rfl _) (exec_loadi 3 Try.underlying3 (.tmp 52) ⟨b9, 0, none⟩ (.int .i64 o.tr) rfl (hD 1 52 (by kernel_rfl)) (range_int (range_kept HO10.out hk) 0 _ rfl)) rfl) ?_
            refine fsteps_cons 4 rfl (fun a u hE hD hk => f_val (o := ⟨some 54, _, _, _, _, _⟩) (.pointer (some ⟨b9, 1, none⟩)) rfl (wanted_none rfl _) (exec_fldo 25 1 1 (.tmp 9) (b9) (0) (1) rfl (hE 9 (.pointer (some ⟨b9, 0, none⟩)) (by kernel_rfl) (by kernel_rfl)) (by kernel_rfl) rfl) rfl) ?_
            refine fsteps_cons 5 rfl (fun a u hE hD hk => f_val (o := ⟨some 55, _, _, _, _, _⟩) (.int .i64 o.id) rfl (wanted_none rfl _) (exec_loadi 3 Try.underlying3 (.tmp 54) ⟨b9, 1, none⟩ (.int .i64 o.id) rfl (hD 3 54 (by kernel_rfl)) (range_int (range_kept HO10.out hk) 1 _ rfl)) rfl) ?_
            refine fsteps_cons 6 rfl (fun a u hE hD hk => f_val (o := ⟨some 56, _, _, _, _, _⟩) (key2 (o.tr) (o.id)) rfl (wanted_none rfl _) (exec_pair (.tmp 53) (.tmp 55) (o.tr) (o.id) rfl (hD 2 53 (by kernel_rfl)) (hD 4 55 (by kernel_rfl))) rfl) ?_
            exact fsteps_nil
          intro gv w11 hV k11
          rw [show dstsOf _ 6 = [51, 52, 53, 54, 55, 56] by kernel_rfl]
          simp only [List.foldl_cons, List.foldl_nil, List.setIfInBounds_toArray, List.set_cons_succ, List.set_cons_zero, List.drop_succ_cons, List.drop_zero]
          rw [show gv 51 = .map (some b) from hV 0 51 (by kernel_rfl)]
          rw [show gv 56 = key2 (o.tr) (o.id) from hV 5 56 (by kernel_rfl)]
          clear hV
          refine l_mput (o := ⟨none, _, _, _, _, _⟩) (.tmp 51) (.tmp 56) (.const (.bool true)) b K o.tr o.id rfl rfl (by kernel_rfl) (by kernel_rfl) rfl HWK.out.1 HWK.out.2 (HP10.out.m.kept k11) hmem ?_
          intro w12 hM12 hk12 hs12
          simp only [Act.put]
          refine wpList_nil ?_
          have HP12 := Lib.hid ((HP10.out.kept k11).stepM hM12 hk12)
          have HO12 := Lib.hid (range_keep (range_kept HO10.out k11) hk12 (by omega))
          have z12 : w10.heap.size ≤ w12.heap.size := by have := k11.size; omega
          clear hM12 hk12 k11 HP10 HO10 HWK hmem
          go_upto_region 15 with fail
          refine wp_text 2 [.eq (.pointer (some ⟨p, 0, none⟩)), .eq (o.v)] rfl (by kernel_rfl) ?_ ?_
          · refine fsteps_cons 1 rfl (fun a u hE hD hk => f_val (o := ⟨some 57, _, _, _, _, _⟩) (.pointer (some ⟨p, 0, none⟩)) rfl (wanted_none rfl _) (exec_move (.tmp 3) (.pointer (some ⟨p, 0, none⟩)) rfl (hE 3 (.pointer (some ⟨p, 0, none⟩)) (by kernel_rfl) (by kernel_rfl))) rfl) ?_
            refine fsteps_cons 2 rfl (fun a u hE hD hk => f_val (o := ⟨some 58, _, _, _, _, _⟩) (o.v) rfl (wanted_none rfl _) (exec_ldS 25 _ (.tmp 9) (b9) (0) (o.cells) rfl (hE 9 (.pointer (some ⟨b9, 0, none⟩)) (by kernel_rfl) (by kernel_rfl)) (range_kept HO12.out hk) Try.underlying25 (by rw [o.len9]; exact ord_size)) rfl) ?_
            exact fsteps_nil
          intro gv w13 hV k13
          rw [show dstsOf _ 2 = [57, 58] by kernel_rfl]
          simp only [List.foldl_cons, List.foldl_nil, List.setIfInBounds_toArray, List.set_cons_succ, List.set_cons_zero, List.drop_succ_cons, List.drop_zero]
          rw [show gv 57 = .pointer (some ⟨p, 0, none⟩) from hV 0 57 (by kernel_rfl)]
          rw [show gv 58 = o.v from hV 1 58 (by kernel_rfl)]
          clear hV
          refine l_call (o := ⟨some 59, _, _, _, _, _⟩) 10 #[.pointer (some ⟨p, 0, none⟩), o.v] rfl (exec_call 10 _ [.tmp 57, .tmp 58] _ _ Try.func10 (by kernel_rfl) (by kernel_rfl) rfl (by kernel_rfl) _) ?_
          refine (add_any w13 F p X o (HP12.out.x.kept k13) HXG.out.len).mono ?_
          rintro r0 w14 ⟨F2, rfl, hL14, hG14, hk14⟩
          refine ⟨_, rfl, ?_⟩
          simp only [Act.put, List.setIfInBounds_toArray, List.set_cons_succ, List.set_cons_zero]
          refine wpList_nil ?_
          have HP14 := Lib.hid ((HP12.out.kept k13).stepX hL14 hG14 hk14)
          have HO14 := Lib.hid (range_keep (range_kept HO12.out k13) hk14 (fun h => by have := HFL.out b9 h; omega))
          have z14 : w12.heap.size ≤ w14.heap.size := by have := k13.size; have := hk14.size; omega
          clear hL14 hG14 hk14 k13 HP12 HO12
          go_upto_region 16 with fail
          refine wp_text 2 [.eq (.pointer (some ⟨r, 0, none⟩)), .eq (o.v)] rfl (by kernel_rfl) ?_ ?_
          · refine fsteps_cons 1 rfl (fun a u hE hD hk => f_val (o := ⟨some 60, _, _, _, _, _⟩) (.pointer (some ⟨r, 0, none⟩)) rfl (wanted_none rfl _) (exec_move (.tmp 4) (.pointer (some ⟨r, 0, none⟩)) rfl (hE 4 (.pointer (some ⟨r, 0, none⟩)) (by kernel_rfl) (by kernel_rfl))) rfl) ?_
            refine fsteps_cons 2 rfl (fun a u hE hD hk => f_val (o := ⟨some 61, _, _, _, _, _⟩) (o.v) rfl (wanted_none rfl _) (exec_ldS 25 _ (.tmp 9) (b9) (0) (o.cells) rfl (hE 9 (.pointer (some ⟨b9, 0, none⟩)) (by kernel_rfl) (by kernel_rfl)) (range_kept HO14.out hk) Try.underlying25 (by rw [o.len9]; exact ord_size)) rfl) ?_
            exact fsteps_nil
          intro gv w15 hV k15
          rw [show dstsOf _ 2 = [60, 61] by kernel_rfl]
          simp only [List.foldl_cons, List.foldl_nil, List.setIfInBounds_toArray, List.set_cons_succ, List.set_cons_zero, List.drop_succ_cons, List.drop_zero]
          rw [show gv 60 = .pointer (some ⟨r, 0, none⟩) from hV 0 60 (by kernel_rfl)]
          rw [show gv 61 = o.v from hV 1 61 (by kernel_rfl)]
          clear hV
          refine l_call (o := ⟨some 62, _, _, _, _, _⟩) 17 #[.pointer (some ⟨r, 0, none⟩), o.v] rfl (exec_call 17 _ [.tmp 60, .tmp 61] _ _ Try.func17 (by kernel_rfl) (by kernel_rfl) rfl (by kernel_rfl) _) ?_
          refine (radd_any w15 G r X o (HP14.out.y.kept k15) HXG.out.len).mono ?_
          rintro r0 w16 ⟨G2, rfl, hL16, hG16, hk16⟩
          refine ⟨_, rfl, ?_⟩
          simp only [Act.put, List.setIfInBounds_toArray, List.set_cons_succ, List.set_cons_zero]
          refine wpList_nil ?_
          have HP16 := Lib.hid ((HP14.out.kept k15).stepY hL16 hG16 hk16)
          clear hL16 hG16 hk16 k15 HP14 HO14
          obtain ⟨Y, hY⟩ : ∃ Y, X ++ [Ent.of o] = Y := ⟨_, rfl⟩
          obtain ⟨K2, hK2⟩ : ∃ K2, K ++ [(o.tr, o.id)] = K2 := ⟨_, rfl⟩
          rw [hY, hK2] at HP16
          rw [hY] at HIA
          have HI2 := HIA
          have HYG := Lib.hid (HI2.out.good (by omega))
          clear hY hK2 HIA HI HXG HFL HGL
          obtain ⟨_, _, vy, hBy, hSy, _⟩ := HP16.out.y
          obtain ⟨ny, hny⟩ : ∃ ny, Y.length = ny := ⟨_, rfl⟩
          rw [hny] at hSy
          have HBy := Lib.hid hBy
          have HSy := Lib.hid hSy
          have HNy := Lib.hid hny
          clear hBy hSy hny
          go_upto_region 27 with fail
          refine wp_free 38 [.eq (.bool true), .eq (.bool false), .eq (.bool false), .eq (.pointer (some ⟨p, 0, none⟩)), .eq (.int .i64 7), .eq (.bool false), .eq (.bool false), .eq (.bool false), .eq (.pointer (some ⟨p, 0, none⟩)), .eq (.int .i64 (seenM Y)), .eq (.pointer (some ⟨r, 0, none⟩)), .eq (.int .i64 (seenM Y)), .eq (.bool false), .eq (.bool false), .eq (.bool false), .eq (.pointer (some ⟨p, 0, none⟩)), .eq (.int .i64 (wholeM Y)), .eq (.pointer (some ⟨r, 0, none⟩)), .eq (.int .i64 (wholeM Y)), .eq (.bool false), .eq (.bool false), .eq (.bool false), .eq (.pointer (some ⟨p, 0, none⟩)), .eq (.int .i64 (Y.length : Int)), .eq (.pointer (some ⟨r, 0, none⟩)), .eq (.pointer (some ⟨r, 0, none⟩)), .eq (.pointer (some ⟨r, 1, none⟩)), .eq (vy), .eq (.int .i64 (ny : Int)), .eq (.bool false), .eq (.bool false), .eq (.bool false), .eq (.pointer (some ⟨p, 0, none⟩)), .sl 0 25 9 Y.length (ords (Y.map (·.o))), .eq (.pointer (some ⟨r, 0, none⟩)), .sl 0 25 9 Y.length (ords (Y.map (·.o))), .eq (.bool true), .eq (.bool false)] (by kernel_rfl) rfl (by kernel_rfl) ?_ ?_
          · refine fsteps_cons 1 rfl (fun a u hE hD hk => f_val (o := ⟨some 138, _, _, _, _, _⟩) (.bool true) rfl (wanted_none rfl _) (exec_move (.tmp 8) (.bool true) rfl (hE 8 (.bool true) (by kernel_rfl) (by kernel_rfl))) rfl) ?_
            refine fsteps_cons 2 rfl (fun a u hE hD hk => f_val (o := ⟨some 139, _, _, _, _, _⟩) (.bool false) rfl (wanted_none rfl _) (exec_not _ (.tmp 138) true rfl (hD 0 138 (by kernel_rfl))) rfl) ?_
            refine fsteps_cons 3 rfl (fun a u hE hD hk => f_val (o := ⟨some 140, _, _, _, _, _⟩) (.bool false) rfl (wanted_none rfl _) (exec_move (.tmp 139) (.bool false) rfl (hD 1 139 (by kernel_rfl))) rfl) ?_
            refine fsteps_cons 4 rfl (fun a u hE hD hk => f_val (o := ⟨some 141, _, _, _, _, _⟩) (.pointer (some ⟨p, 0, none⟩)) rfl (wanted_at (b := false) false rfl rfl (hD 2 140 (by kernel_rfl))) (exec_move (.tmp 3) (.pointer (some ⟨p, 0, none⟩)) rfl (hE 3 (.pointer (some ⟨p, 0, none⟩)) (by kernel_rfl) (by kernel_rfl))) rfl) ?_
            refine fsteps_cons 5 rfl (fun a u hE hD hk => f_call (o := ⟨some 142, _, _, _, _, _⟩) 23 #[.pointer (some ⟨p, 0, none⟩)] rfl (wanted_at (b := false) false rfl rfl (hD 2 140 (by kernel_rfl))) (exec_call 23 _ [.tmp 141] _ [.pointer (some ⟨p, 0, none⟩)] Try.func23 (by kernel_rfl) (by kernel_rfl) rfl (show [a.eval (.tmp 141)] = [.pointer (some ⟨p, 0, none⟩)] from (by rw [show a.eval (.tmp 141) = .pointer (some ⟨p, 0, none⟩) from (hD 3 141 (by kernel_rfl))] <;> rfl)) u) (price_any u F2 p Y (HP16.out.x.kept hk))) ?_
            refine fsteps_cons 6 rfl (fun a u hE hD hk => f_as (show ((decide ((7 : Int) ≠ (7 : Int))) : Bool) = false from rfl) (f_val (o := ⟨some 143, _, _, _, _, _⟩) (.bool (decide ((7 : Int) ≠ (7 : Int)))) rfl (wanted_at (b := false) false rfl rfl (hD 2 140 (by kernel_rfl))) (exec_nen (p := 7) (q := 7) rfl (hD 4 142 (by kernel_rfl)) rfl) rfl)) ?_
            refine fsteps_cons 7 rfl (fun a u hE hD hk => f_val (o := ⟨some 144, _, _, _, _, _⟩) (.bool false) rfl (wanted_none rfl _) (exec_pickF (.tmp 140) (.const (.bool true)) (.tmp 143) (.bool false) rfl (hD 2 140 (by kernel_rfl)) (hD 5 143 (by kernel_rfl))) rfl) ?_
            refine fsteps_cons 8 rfl (fun a u hE hD hk => f_val (o := ⟨some 145, _, _, _, _, _⟩) (.bool false) rfl (wanted_none rfl _) (exec_move (.tmp 144) (.bool false) rfl (hD 6 144 (by kernel_rfl))) rfl) ?_
            refine fsteps_cons 9 rfl (fun a u hE hD hk => f_val (o := ⟨some 146, _, _, _, _, _⟩) (.pointer (some ⟨p, 0, none⟩)) rfl (wanted_at (b := false) false rfl rfl (hD 7 145 (by kernel_rfl))) (exec_move (.tmp 3) (.pointer (some ⟨p, 0, none⟩)) rfl (hE 3 (.pointer (some ⟨p, 0, none⟩)) (by kernel_rfl) (by kernel_rfl))) rfl) ?_
            refine fsteps_cons 10 rfl (fun a u hE hD hk => f_call (o := ⟨some 147, _, _, _, _, _⟩) 12 #[.pointer (some ⟨p, 0, none⟩)] rfl (wanted_at (b := false) false rfl rfl (hD 7 145 (by kernel_rfl))) (exec_call 12 _ [.tmp 146] _ [.pointer (some ⟨p, 0, none⟩)] Try.func12 (by kernel_rfl) (by kernel_rfl) rfl (show [a.eval (.tmp 146)] = [.pointer (some ⟨p, 0, none⟩)] from (by rw [show a.eval (.tmp 146) = .pointer (some ⟨p, 0, none⟩) from (hD 8 146 (by kernel_rfl))] <;> rfl)) u) (seen_any u F2 p Y (HP16.out.x.kept hk) HYG.out)) ?_
            refine fsteps_cons 11 rfl (fun a u hE hD hk => f_val (o := ⟨some 148, _, _, _, _, _⟩) (.pointer (some ⟨r, 0, none⟩)) rfl (wanted_at (b := false) false rfl rfl (hD 7 145 (by kernel_rfl))) (exec_move (.tmp 4) (.pointer (some ⟨r, 0, none⟩)) rfl (hE 4 (.pointer (some ⟨r, 0, none⟩)) (by kernel_rfl) (by kernel_rfl))) rfl) ?_
            refine fsteps_cons 12 rfl (fun a u hE hD hk => f_call (o := ⟨some 149, _, _, _, _, _⟩) 24 #[.pointer (some ⟨r, 0, none⟩)] rfl (wanted_at (b := false) false rfl rfl (hD 7 145 (by kernel_rfl))) (exec_call 24 _ [.tmp 148] _ [.pointer (some ⟨r, 0, none⟩)] Try.func24 (by kernel_rfl) (by kernel_rfl) rfl (show [a.eval (.tmp 148)] = [.pointer (some ⟨r, 0, none⟩)] from (by rw [show a.eval (.tmp 148) = .pointer (some ⟨r, 0, none⟩) from (hD 10 148 (by kernel_rfl))] <;> rfl)) u) (rseen_any u G2 r Y (HP16.out.y.kept hk) HYG.out)) ?_
            refine fsteps_cons 13 rfl (fun a u hE hD hk => f_as (show ((decide (((seenM Y) : Int) ≠ ((seenM Y) : Int))) : Bool) = false from decide_eq_false (fun h => h rfl)) (f_val (o := ⟨some 150, _, _, _, _, _⟩) (.bool (decide (((seenM Y) : Int) ≠ ((seenM Y) : Int)))) rfl (wanted_at (b := false) false rfl rfl (hD 7 145 (by kernel_rfl))) (exec_nen (p := (seenM Y)) (q := (seenM Y)) rfl (hD 9 147 (by kernel_rfl)) (hD 11 149 (by kernel_rfl))) rfl)) ?_
            refine fsteps_cons 14 rfl (fun a u hE hD hk => f_val (o := ⟨some 151, _, _, _, _, _⟩) (.bool false) rfl (wanted_none rfl _) (exec_pickF (.tmp 145) (.const (.bool true)) (.tmp 150) (.bool false) rfl (hD 7 145 (by kernel_rfl)) (hD 12 150 (by kernel_rfl))) rfl) ?_
            refine fsteps_cons 15 rfl (fun a u hE hD hk => f_val (o := ⟨some 152, _, _, _, _, _⟩) (.bool false) rfl (wanted_none rfl _) (exec_move (.tmp 151) (.bool false) rfl (hD 13 151 (by kernel_rfl))) rfl) ?_
            refine fsteps_cons 16 rfl (fun a u hE hD hk => f_val (o := ⟨some 153, _, _, _, _, _⟩) (.pointer (some ⟨p, 0, none⟩)) rfl (wanted_at (b := false) false rfl rfl (hD 14 152 (by kernel_rfl))) (exec_move (.tmp 3) (.pointer (some ⟨p, 0, none⟩)) rfl (hE 3 (.pointer (some ⟨p, 0, none⟩)) (by kernel_rfl) (by kernel_rfl))) rfl) ?_
            refine fsteps_cons 17 rfl (fun a u hE hD hk => f_call (o := ⟨some 154, _, _, _, _, _⟩) 25 #[.pointer (some ⟨p, 0, none⟩)] rfl (wanted_at (b := false) false rfl rfl (hD 14 152 (by kernel_rfl))) (exec_call 25 _ [.tmp 153] _ [.pointer (some ⟨p, 0, none⟩)] Try.func25 (by kernel_rfl) (by kernel_rfl) rfl (show [a.eval (.tmp 153)] = [.pointer (some ⟨p, 0, none⟩)] from (by rw [show a.eval (.tmp 153) = .pointer (some ⟨p, 0, none⟩) from (hD 15 153 (by kernel_rfl))] <;> rfl)) u) (whole_any u F2 p Y (HP16.out.x.kept hk) HYG.out)) ?_
            refine fsteps_cons 18 rfl (fun a u hE hD hk => f_val (o := ⟨some 155, _, _, _, _, _⟩) (.pointer (some ⟨r, 0, none⟩)) rfl (wanted_at (b := false) false rfl rfl (hD 14 152 (by kernel_rfl))) (exec_move (.tmp 4) (.pointer (some ⟨r, 0, none⟩)) rfl (hE 4 (.pointer (some ⟨r, 0, none⟩)) (by kernel_rfl) (by kernel_rfl))) rfl) ?_
            refine fsteps_cons 19 rfl (fun a u hE hD hk => f_call (o := ⟨some 156, _, _, _, _, _⟩) 26 #[.pointer (some ⟨r, 0, none⟩)] rfl (wanted_at (b := false) false rfl rfl (hD 14 152 (by kernel_rfl))) (exec_call 26 _ [.tmp 155] _ [.pointer (some ⟨r, 0, none⟩)] Try.func26 (by kernel_rfl) (by kernel_rfl) rfl (show [a.eval (.tmp 155)] = [.pointer (some ⟨r, 0, none⟩)] from (by rw [show a.eval (.tmp 155) = .pointer (some ⟨r, 0, none⟩) from (hD 17 155 (by kernel_rfl))] <;> rfl)) u) (rwhole_any u G2 r Y (HP16.out.y.kept hk) HYG.out)) ?_
            refine fsteps_cons 20 rfl (fun a u hE hD hk => f_as (show ((decide (((wholeM Y) : Int) ≠ ((wholeM Y) : Int))) : Bool) = false from decide_eq_false (fun h => h rfl)) (f_val (o := ⟨some 157, _, _, _, _, _⟩) (.bool (decide (((wholeM Y) : Int) ≠ ((wholeM Y) : Int)))) rfl (wanted_at (b := false) false rfl rfl (hD 14 152 (by kernel_rfl))) (exec_nen (p := (wholeM Y)) (q := (wholeM Y)) rfl (hD 16 154 (by kernel_rfl)) (hD 18 156 (by kernel_rfl))) rfl)) ?_
            refine fsteps_cons 21 rfl (fun a u hE hD hk => f_val (o := ⟨some 158, _, _, _, _, _⟩) (.bool false) rfl (wanted_none rfl _) (exec_pickF (.tmp 152) (.const (.bool true)) (.tmp 157) (.bool false) rfl (hD 14 152 (by kernel_rfl)) (hD 19 157 (by kernel_rfl))) rfl) ?_
            refine fsteps_cons 22 rfl (fun a u hE hD hk => f_val (o := ⟨some 159, _, _, _, _, _⟩) (.bool false) rfl (wanted_none rfl _) (exec_move (.tmp 158) (.bool false) rfl (hD 20 158 (by kernel_rfl))) rfl) ?_
            refine fsteps_cons 23 rfl (fun a u hE hD hk => f_val (o := ⟨some 160, _, _, _, _, _⟩) (.pointer (some ⟨p, 0, none⟩)) rfl (wanted_at (b := false) false rfl rfl (hD 21 159 (by kernel_rfl))) (exec_move (.tmp 3) (.pointer (some ⟨p, 0, none⟩)) rfl (hE 3 (.pointer (some ⟨p, 0, none⟩)) (by kernel_rfl) (by kernel_rfl))) rfl) ?_
            refine fsteps_cons 24 rfl (fun a u hE hD hk => f_call (o := ⟨some 161, _, _, _, _, _⟩) 27 #[.pointer (some ⟨p, 0, none⟩)] rfl (wanted_at (b := false) false rfl rfl (hD 21 159 (by kernel_rfl))) (exec_call 27 _ [.tmp 160] _ [.pointer (some ⟨p, 0, none⟩)] Try.func27 (by kernel_rfl) (by kernel_rfl) rfl (show [a.eval (.tmp 160)] = [.pointer (some ⟨p, 0, none⟩)] from (by rw [show a.eval (.tmp 160) = .pointer (some ⟨p, 0, none⟩) from (hD 22 160 (by kernel_rfl))] <;> rfl)) u) (len_any u F2 p Y (HP16.out.x.kept hk))) ?_
            refine fsteps_cons 25 rfl (fun a u hE hD hk => f_val (o := ⟨some 162, _, _, _, _, _⟩) (.pointer (some ⟨r, 0, none⟩)) rfl (wanted_at (b := false) false rfl rfl (hD 21 159 (by kernel_rfl))) (exec_move (.tmp 4) (.pointer (some ⟨r, 0, none⟩)) rfl (hE 4 (.pointer (some ⟨r, 0, none⟩)) (by kernel_rfl) (by kernel_rfl))) rfl) ?_
            refine fsteps_cons 26 rfl (fun a u hE hD hk => f_val (o := ⟨some 163, _, _, _, _, _⟩) (.pointer (some ⟨r, 0, none⟩)) rfl (wanted_at (b := false) false rfl rfl (hD 21 159 (by kernel_rfl))) (exec_nilp (.tmp 162) ⟨r, 0, none⟩ rfl (hD 24 162 (by kernel_rfl))) rfl) ?_
            refine fsteps_cons 27 rfl (fun a u hE hD hk => f_val (o := ⟨some 164, _, _, _, _, _⟩) (.pointer (some ⟨r, 1, none⟩)) rfl (wanted_at (b := false) false rfl rfl (hD 21 159 (by kernel_rfl))) (exec_fldo 42 1 1 (.tmp 163) (r) (0) (1) rfl (hD 25 163 (by kernel_rfl)) (by kernel_rfl) rfl) rfl) ?_
            refine fsteps_cons 28 rfl (fun a u hE hD hk => f_val (o := ⟨some 165, _, _, _, _, _⟩) (vy) rfl (wanted_at (b := false) false rfl rfl (hD 21 159 (by kernel_rfl))) (exec_ldv 40 _ Try.underlying40 (.tmp 164) ⟨r, 1, none⟩ (vy) rfl (hD 26 164 (by kernel_rfl)) (by rw [(HBy.out.kept hk).cell]; rfl)) rfl) ?_
            refine fsteps_cons 29 rfl (fun a u hE hD hk => f_val (o := ⟨some 166, _, _, _, _, _⟩) (.int .i64 (ny : Int)) rfl (wanted_at (b := false) false rfl rfl (hD 21 159 (by kernel_rfl))) (exec_lenS (.tmp 165) slR (vy) (ny) _ _ rfl (hD 27 165 (by kernel_rfl)) HSy.out) rfl) ?_
            refine fsteps_cons 30 rfl (fun a u hE hD hk => f_as (show ((decide (((Y.length : Int) : Int) ≠ ((ny : Int) : Int))) : Bool) = false from decide_eq_false (fun h => h (by rw [HNy.out]))) (f_val (o := ⟨some 167, _, _, _, _, _⟩) (.bool (decide (((Y.length : Int) : Int) ≠ ((ny : Int) : Int)))) rfl (wanted_at (b := false) false rfl rfl (hD 21 159 (by kernel_rfl))) (exec_nen (p := (Y.length : Int)) (q := (ny : Int)) rfl (hD 23 161 (by kernel_rfl)) (hD 28 166 (by kernel_rfl))) rfl)) ?_
            refine fsteps_cons 31 rfl (fun a u hE hD hk => f_val (o := ⟨some 168, _, _, _, _, _⟩) (.bool false) rfl (wanted_none rfl _) (exec_pickF (.tmp 159) (.const (.bool true)) (.tmp 167) (.bool false) rfl (hD 21 159 (by kernel_rfl)) (hD 29 167 (by kernel_rfl))) rfl) ?_
            refine fsteps_cons 32 rfl (fun a u hE hD hk => f_val (o := ⟨some 169, _, _, _, _, _⟩) (.bool false) rfl (wanted_none rfl _) (exec_move (.tmp 168) (.bool false) rfl (hD 30 168 (by kernel_rfl))) rfl) ?_
            refine fsteps_cons 33 rfl (fun a u hE hD hk => f_val (o := ⟨some 170, _, _, _, _, _⟩) (.pointer (some ⟨p, 0, none⟩)) rfl (wanted_at (b := false) false rfl rfl (hD 31 169 (by kernel_rfl))) (exec_move (.tmp 3) (.pointer (some ⟨p, 0, none⟩)) rfl (hE 3 (.pointer (some ⟨p, 0, none⟩)) (by kernel_rfl) (by kernel_rfl))) rfl) ?_
            refine fsteps_cons 34 rfl (fun a u hE hD hk => f_call (o := ⟨some 171, _, _, _, _, _⟩) 13 #[.pointer (some ⟨p, 0, none⟩)] rfl (wanted_at (b := false) false rfl rfl (hD 31 169 (by kernel_rfl))) (exec_call 13 _ [.tmp 170] _ [.pointer (some ⟨p, 0, none⟩)] Try.func13 (by kernel_rfl) (by kernel_rfl) rfl (show [a.eval (.tmp 170)] = [.pointer (some ⟨p, 0, none⟩)] from (by rw [show a.eval (.tmp 170) = .pointer (some ⟨p, 0, none⟩) from (hD 32 170 (by kernel_rfl))] <;> rfl)) u) ((orders_any u F2 p Y (HP16.out.x.kept hk) HYG.out).mono (fun e w' ⟨v, h1, h2, h3⟩ => ⟨v, h1, ⟨h2.1, fun b hb => Nat.zero_le _⟩, h3⟩))) ?_
            refine fsteps_cons 35 rfl (fun a u hE hD hk => f_val (o := ⟨some 172, _, _, _, _, _⟩) (.pointer (some ⟨r, 0, none⟩)) rfl (wanted_at (b := false) false rfl rfl (hD 31 169 (by kernel_rfl))) (exec_move (.tmp 4) (.pointer (some ⟨r, 0, none⟩)) rfl (hE 4 (.pointer (some ⟨r, 0, none⟩)) (by kernel_rfl) (by kernel_rfl))) rfl) ?_
            refine fsteps_cons 36 rfl (fun a u hE hD hk => f_call (o := ⟨some 173, _, _, _, _, _⟩) 28 #[.pointer (some ⟨r, 0, none⟩)] rfl (wanted_at (b := false) false rfl rfl (hD 31 169 (by kernel_rfl))) (exec_call 28 _ [.tmp 172] _ [.pointer (some ⟨r, 0, none⟩)] Try.func28 (by kernel_rfl) (by kernel_rfl) rfl (show [a.eval (.tmp 172)] = [.pointer (some ⟨r, 0, none⟩)] from (by rw [show a.eval (.tmp 172) = .pointer (some ⟨r, 0, none⟩) from (hD 34 172 (by kernel_rfl))] <;> rfl)) u) ((rorders_any u G2 r Y (HP16.out.y.kept hk) HYG.out).mono (fun e w' ⟨v, h1, h2, h3⟩ => ⟨v, h1, ⟨h2.1, fun b hb => Nat.zero_le _⟩, h3⟩))) ?_
            refine fsteps_cons 37 rfl (fun a u hE hD hk => f_call (o := ⟨some 174, _, _, _, _, _⟩) 15 #[a.eval (.tmp 171), a.eval (.tmp 173)] rfl (wanted_at (b := false) false rfl rfl (hD 31 169 (by kernel_rfl))) (exec_call 15 _ [.tmp 171, .tmp 173] _ [a.eval (.tmp 171), a.eval (.tmp 173)] Try.func15 (by kernel_rfl) (by kernel_rfl) rfl rfl u) (same_self _ _ Y u ((hD 33 171 (by kernel_rfl))).1 ((hD 35 173 (by kernel_rfl))).1 HYG.out.len)) ?_
            refine fsteps_cons 38 rfl (fun a u hE hD hk => f_val (o := ⟨some 175, _, _, _, _, _⟩) (.bool false) rfl (wanted_at (b := false) false rfl rfl (hD 31 169 (by kernel_rfl))) (exec_not _ (.tmp 174) true rfl (hD 36 174 (by kernel_rfl))) rfl) ?_
            exact fsteps_nil
          intro gv wz hV kz
          rw [show dstsOf _ 38 = [138, 139, 140, 141, 142, 143, 144, 145, 146, 147, 148, 149, 150, 151, 152, 153, 154, 155, 156, 157, 158, 159, 160, 161, 162, 163, 164, 165, 166, 167, 168, 169, 170, 171, 172, 173, 174, 175] by kernel_rfl]
          simp only [List.foldl_cons, List.foldl_nil, List.setIfInBounds_toArray, List.set_cons_succ, List.set_cons_zero, List.drop_succ_cons, List.drop_zero]
          rw [show gv 169 = .bool false from hV 31 169 (by kernel_rfl)]
          rw [show gv 175 = .bool false from hV 37 175 (by kernel_rfl)]
          clear hV
          refine l_val (o := ⟨some 176, _, _, _, _, _⟩) (.bool false) rfl (exec_pickF (.tmp 169) (.const (.bool true)) (.tmp 175) (.bool false) rfl (by kernel_rfl) (by kernel_rfl)) ?_
          simp only [Act.put, List.setIfInBounds_toArray, List.set_cons_succ, List.set_cons_zero]
          refine wpList_nil ?_
          have HPz := Lib.hid (HP16.out.kept kz)
          clear HP16 kz HBy HSy HNy
          go_wp2
          exact ⟨⟨i + 1, F2, G2, Y, K2, by go_num, by omega, by omega, HPz, HI2⟩, by simp [intOf]; omega⟩
      · by_cases h2 : q.k = 2
        · skip

          go_upto_region 11 with fail
          refine wp_text 1 [.eq (.bool false)] rfl (by kernel_rfl) ?_ ?_
          · refine fsteps_cons 1 rfl (fun a u hE hD hk => f_as (show ((decide ((q.k : Int) = (1 : Int))) : Bool) = false from decide_eq_false h1) (f_val (o := ⟨some 41, _, _, _, _, _⟩) (.bool (decide ((q.k : Int) = (1 : Int)))) rfl (wanted_none rfl _) (exec_eqn (p := q.k) (q := 1) rfl (hE 39 (.int .i64 q.k) (by kernel_rfl) (by kernel_rfl)) rfl) rfl)) ?_
            exact fsteps_nil
          intro gv w7 hV k7
          rw [show dstsOf _ 1 = [41] by kernel_rfl]
          simp only [List.foldl_cons, List.foldl_nil, List.setIfInBounds_toArray, List.set_cons_succ, List.set_cons_zero, List.drop_succ_cons, List.drop_zero]
          rw [show gv 41 = .bool false from hV 0 41 (by kernel_rfl)]
          clear hV
          refine l_val (o := ⟨some 40, _, _, _, _, _⟩) (.bool false) rfl (exec_assign (.tmp 41) (.bool false) rfl (by kernel_rfl)) ?_
          simp only [Act.put, List.setIfInBounds_toArray, List.set_cons_succ, List.set_cons_zero]
          refine wpList_nil ?_
          have HP7 := Lib.hid (HP6.out.kept k7)
          have HC7 := Lib.hid (range_kept HC6.out k7)
          have z7 := k7.size
          clear HP6 HC6 k7
          go_upto_region 17 with fail
          refine wp_text 1 [.eq (.bool true)] rfl (by kernel_rfl) ?_ ?_
          · refine fsteps_cons 1 rfl (fun a u hE hD hk => f_as (show ((decide ((q.k : Int) = (2 : Int))) : Bool) = true from decide_eq_true h2) (f_val (o := ⟨some 64, _, _, _, _, _⟩) (.bool (decide ((q.k : Int) = (2 : Int)))) rfl (wanted_none rfl _) (exec_eqn (p := q.k) (q := 2) rfl (hE 39 (.int .i64 q.k) (by kernel_rfl) (by kernel_rfl)) rfl) rfl)) ?_
            exact fsteps_nil
          intro gv w8 hV k8
          rw [show dstsOf _ 1 = [64] by kernel_rfl]
          simp only [List.foldl_cons, List.foldl_nil, List.setIfInBounds_toArray, List.set_cons_succ, List.set_cons_zero, List.drop_succ_cons, List.drop_zero]
          rw [show gv 64 = .bool true from hV 0 64 (by kernel_rfl)]
          clear hV
          refine l_val (o := ⟨some 63, _, _, _, _, _⟩) (.bool true) rfl (exec_assign (.tmp 64) (.bool true) rfl (by kernel_rfl)) ?_
          simp only [Act.put, List.setIfInBounds_toArray, List.set_cons_succ, List.set_cons_zero]
          refine wpList_nil ?_
          have HP8 := Lib.hid (HP7.out.kept k8)
          have HC8 := Lib.hid (range_kept HC7.out k8)
          have z8 := k8.size
          clear HP7 HC7 k8
          clear h1 h2
          have hqb : q.b ≤ 9223372036854775807 := (lit_lo q.b (HQ.out q.b (by simp [Ask.l]))).2
          have HIT := Lib.hid (HI.out.take (by omega) q.a q.b)
          go_upto_region 18 with fail
          refine wp_text 5 [.eq (.pointer (some ⟨p, 0, none⟩)), .eq (.pointer (some ⟨b7, 1, none⟩)), .eq (.int .i64 q.a), .eq (.pointer (some ⟨b7, 2, none⟩)), .eq (.int .i64 q.b)] rfl (by kernel_rfl) ?_ ?_
          · refine fsteps_cons 1 rfl (fun a u hE hD hk => f_val (o := ⟨some 66, _, _, _, _, _⟩) (.pointer (some ⟨p, 0, none⟩)) rfl (wanted_none rfl _) (exec_move (.tmp 3) (.pointer (some ⟨p, 0, none⟩)) rfl (hE 3 (.pointer (some ⟨p, 0, none⟩)) (by kernel_rfl) (by kernel_rfl))) rfl) ?_
            refine fsteps_cons 2 rfl (fun a u hE hD hk => f_val (o := ⟨some 67, _, _, _, _, _⟩) (.pointer (some ⟨b7, 1, none⟩)) rfl (wanted_none rfl _) (exec_fldo 45 1 1 (.tmp 7) (b7) (0) (1) rfl (hE 7 (.pointer (some ⟨b7, 0, none⟩)) (by kernel_rfl) (by kernel_rfl)) (by kernel_rfl) rfl) rfl) ?_
            refine fsteps_cons 3 rfl (fun a u hE hD hk => f_val (o := ⟨some 68, _, _, _, _, _⟩) (.int .i64 q.a) rfl (wanted_none rfl _) (exec_loadi 3 Try.underlying3 (.tmp 67) ⟨b7, 1, none⟩ (.int .i64 q.a) rfl (hD 1 67 (by kernel_rfl)) (range_int (range_kept HC8.out hk) 1 _ rfl)) rfl) ?_
            refine fsteps_cons 4 rfl (fun a u hE hD hk => f_val (o := ⟨some 69, _, _, _, _, _⟩) (.pointer (some ⟨b7, 2, none⟩)) rfl (wanted_none rfl _) (exec_fldo 45 2 2 (.tmp 7) (b7) (0) (2) rfl (hE 7 (.pointer (some ⟨b7, 0, none⟩)) (by kernel_rfl) (by kernel_rfl)) (by kernel_rfl) rfl) rfl) ?_
            refine fsteps_cons 5 rfl (fun a u hE hD hk => f_val (o := ⟨some 70, _, _, _, _, _⟩) (.int .i64 q.b) rfl (wanted_none rfl _) (exec_loadi 3 Try.underlying3 (.tmp 69) ⟨b7, 2, none⟩ (.int .i64 q.b) rfl (hD 3 69 (by kernel_rfl)) (range_int (range_kept HC8.out hk) 2 _ rfl)) rfl) ?_
            exact fsteps_nil
          intro gv w9 hV k9
          rw [show dstsOf _ 5 = [66, 67, 68, 69, 70] by kernel_rfl]
          simp only [List.foldl_cons, List.foldl_nil, List.setIfInBounds_toArray, List.set_cons_succ, List.set_cons_zero, List.drop_succ_cons, List.drop_zero]
          rw [show gv 66 = .pointer (some ⟨p, 0, none⟩) from hV 0 66 (by kernel_rfl)]
          rw [show gv 68 = .int .i64 q.a from hV 2 68 (by kernel_rfl)]
          rw [show gv 70 = .int .i64 q.b from hV 4 70 (by kernel_rfl)]
          clear hV
          refine l_call (o := ⟨some 71, _, _, _, _, _⟩) 11 #[.pointer (some ⟨p, 0, none⟩), .int .i64 q.a, .int .i64 q.b] rfl (exec_call 11 _ [.tmp 66, .tmp 68, .tmp 70] _ _ Try.func11 (by kernel_rfl) (by kernel_rfl) rfl (by kernel_rfl) _) ?_
          refine (take_any w9 F p X q.a q.b (HP8.out.x.kept k9) HXG.out hqb).mono ?_
          rintro r0 w10 ⟨F2, va, rfl, hL10, hS10, hO10, hG10, hk10⟩
          refine ⟨_, rfl, ?_⟩
          simp only [Act.put, List.setIfInBounds_toArray, List.set_cons_succ, List.set_cons_zero]
          refine l_val (o := ⟨some 65, _, _, _, _, _⟩) (.tuple #[va, .bool (takeM q.a q.b X).2.1]) rfl (exec_move (.tmp 71) (.tuple #[va, .bool (takeM q.a q.b X).2.1]) rfl (by kernel_rfl)) ?_
          simp only [Act.put, List.setIfInBounds_toArray, List.set_cons_succ, List.set_cons_zero]
          refine l_val (o := ⟨some 72, _, _, _, _, _⟩) (va) rfl (exec_extract (.tmp 65) [va, .bool (takeM q.a q.b X).2.1] 0 (va) rfl (by kernel_rfl) rfl) ?_
          simp only [Act.put, List.setIfInBounds_toArray, List.set_cons_succ, List.set_cons_zero]
          refine l_val (o := ⟨some 73, _, _, _, _, _⟩) (.bool (takeM q.a q.b X).2.1) rfl (exec_extract (.tmp 65) [va, .bool (takeM q.a q.b X).2.1] 1 (.bool (takeM q.a q.b X).2.1) rfl (by kernel_rfl) rfl) ?_
          simp only [Act.put, List.setIfInBounds_toArray, List.set_cons_succ, List.set_cons_zero]
          refine l_val (o := ⟨some 10, _, _, _, _, _⟩) (va) rfl (exec_assign (.tmp 72) (va) rfl (by kernel_rfl)) ?_
          simp only [Act.put, List.setIfInBounds_toArray, List.set_cons_succ, List.set_cons_zero]
          refine l_val (o := ⟨some 11, _, _, _, _, _⟩) (.bool (takeM q.a q.b X).2.1) rfl (exec_assign (.tmp 73) (.bool (takeM q.a q.b X).2.1) rfl (by kernel_rfl)) ?_
          simp only [Act.put, List.setIfInBounds_toArray, List.set_cons_succ, List.set_cons_zero]
          refine wpList_nil ?_
          have z9 := k9.size
          have z10 := hk10.size
          have HP10 := Lib.hid ((HP8.out.kept k9).stepX hL10 hG10 hk10)
          have HC10 := Lib.hid (range_keep (range_kept HC8.out k9) hk10 (fun h => by have := HFL.out b7 h; omega))
          have HA10 := Lib.hid hS10
          have HAL : Hid (∀ x, va.ownBlock = some x → ¬ G x) := fun x hx h => by have h1 := (hO10 x hx).1; have h2 := HGL.out x h; omega
          clear hL10 hS10 hO10 hG10 hk10 k9 HP8 HC8
          go_upto_region 19 with fail
          refine wp_text 5 [.eq (.pointer (some ⟨r, 0, none⟩)), .eq (.pointer (some ⟨b7, 1, none⟩)), .eq (.int .i64 q.a), .eq (.pointer (some ⟨b7, 2, none⟩)), .eq (.int .i64 q.b)] rfl (by kernel_rfl) ?_ ?_
          · refine fsteps_cons 1 rfl (fun a u hE hD hk => f_val (o := ⟨some 75, _, _, _, _, _⟩) (.pointer (some ⟨r, 0, none⟩)) rfl (wanted_none rfl _) (exec_move (.tmp 4) (.pointer (some ⟨r, 0, none⟩)) rfl (hE 4 (.pointer (some ⟨r, 0, none⟩)) (by kernel_rfl) (by kernel_rfl))) rfl) ?_
            refine fsteps_cons 2 rfl (fun a u hE hD hk => f_val (o := ⟨some 76, _, _, _, _, _⟩) (.pointer (some ⟨b7, 1, none⟩)) rfl (wanted_none rfl _) (exec_fldo 45 1 1 (.tmp 7) (b7) (0) (1) rfl (hE 7 (.pointer (some ⟨b7, 0, none⟩)) (by kernel_rfl) (by kernel_rfl)) (by kernel_rfl) rfl) rfl) ?_
            refine fsteps_cons 3 rfl (fun a u hE hD hk => f_val (o := ⟨some 77, _, _, _, _, _⟩) (.int .i64 q.a) rfl (wanted_none rfl _) (exec_loadi 3 Try.underlying3 (.tmp 76) ⟨b7, 1, none⟩ (.int .i64 q.a) rfl (hD 1 76 (by kernel_rfl)) (range_int (range_kept HC10.out hk) 1 _ rfl)) rfl) ?_
            refine fsteps_cons 4 rfl (fun a u hE hD hk => f_val (o := ⟨some 78, _, _, _, _, _⟩) (.pointer (some ⟨b7, 2, none⟩)) rfl (wanted_none rfl _) (exec_fldo 45 2 2 (.tmp 7) (b7) (0) (2) rfl (hE 7 (.pointer (some ⟨b7, 0, none⟩)) (by kernel_rfl) (by kernel_rfl)) (by kernel_rfl) rfl) rfl) ?_
            refine fsteps_cons 5 rfl (fun a u hE hD hk => f_val (o := ⟨some 79, _, _, _, _, _⟩) (.int .i64 q.b) rfl (wanted_none rfl _) (exec_loadi 3 Try.underlying3 (.tmp 78) ⟨b7, 2, none⟩ (.int .i64 q.b) rfl (hD 3 78 (by kernel_rfl)) (range_int (range_kept HC10.out hk) 2 _ rfl)) rfl) ?_
            exact fsteps_nil
          intro gv w11 hV k11
          rw [show dstsOf _ 5 = [75, 76, 77, 78, 79] by kernel_rfl]
          simp only [List.foldl_cons, List.foldl_nil, List.setIfInBounds_toArray, List.set_cons_succ, List.set_cons_zero, List.drop_succ_cons, List.drop_zero]
          rw [show gv 75 = .pointer (some ⟨r, 0, none⟩) from hV 0 75 (by kernel_rfl)]
          rw [show gv 77 = .int .i64 q.a from hV 2 77 (by kernel_rfl)]
          rw [show gv 79 = .int .i64 q.b from hV 4 79 (by kernel_rfl)]
          clear hV
          refine l_call (o := ⟨some 80, _, _, _, _, _⟩) 18 #[.pointer (some ⟨r, 0, none⟩), .int .i64 q.a, .int .i64 q.b] rfl (exec_call 18 _ [.tmp 75, .tmp 77, .tmp 79] _ _ Try.func18 (by kernel_rfl) (by kernel_rfl) rfl (by kernel_rfl) _) ?_
          refine (rtake_any w11 G r X q.a q.b (HP10.out.y.kept k11) HXG.out hqb).mono ?_
          rintro r0 w12 ⟨G2, vb, rfl, hL12, hS12, hO12, hG12, hk12⟩
          refine ⟨_, rfl, ?_⟩
          simp only [Act.put, List.setIfInBounds_toArray, List.set_cons_succ, List.set_cons_zero]
          refine l_val (o := ⟨some 74, _, _, _, _, _⟩) (.tuple #[vb, .bool (takeM q.a q.b X).2.1]) rfl (exec_move (.tmp 80) (.tuple #[vb, .bool (takeM q.a q.b X).2.1]) rfl (by kernel_rfl)) ?_
          simp only [Act.put, List.setIfInBounds_toArray, List.set_cons_succ, List.set_cons_zero]
          refine l_val (o := ⟨some 81, _, _, _, _, _⟩) (vb) rfl (exec_extract (.tmp 74) [vb, .bool (takeM q.a q.b X).2.1] 0 (vb) rfl (by kernel_rfl) rfl) ?_
          simp only [Act.put, List.setIfInBounds_toArray, List.set_cons_succ, List.set_cons_zero]
          refine l_val (o := ⟨some 82, _, _, _, _, _⟩) (.bool (takeM q.a q.b X).2.1) rfl (exec_extract (.tmp 74) [vb, .bool (takeM q.a q.b X).2.1] 1 (.bool (takeM q.a q.b X).2.1) rfl (by kernel_rfl) rfl) ?_
          simp only [Act.put, List.setIfInBounds_toArray, List.set_cons_succ, List.set_cons_zero]
          refine l_val (o := ⟨some 12, _, _, _, _, _⟩) (vb) rfl (exec_assign (.tmp 81) (vb) rfl (by kernel_rfl)) ?_
          simp only [Act.put, List.setIfInBounds_toArray, List.set_cons_succ, List.set_cons_zero]
          refine l_val (o := ⟨some 13, _, _, _, _, _⟩) (.bool (takeM q.a q.b X).2.1) rfl (exec_assign (.tmp 82) (.bool (takeM q.a q.b X).2.1) rfl (by kernel_rfl)) ?_
          simp only [Act.put, List.setIfInBounds_toArray, List.set_cons_succ, List.set_cons_zero]
          refine wpList_nil ?_
          have HP12 := Lib.hid ((HP10.out.kept k11).stepY hL12 hG12 hk12)
          have HA12 := Lib.hid ((HA10.out.kept k11).keep hk12 (fun x hx h => HAL.out x hx h))
          have HB12 := Lib.hid hS12
          clear hL12 hS12 hO12 hG12 hk12 k11 HP10 HC10 HA10 HAL
          have hHL : (takeM q.a q.b X).1.length ≤ 1000000 := by
            obtain ⟨t1, t2, t3, t4, t5⟩ := takeM_facts q.a q.b.toNat q.b X (Nat.le_refl _) HXG.out
            have h1 := HXG.out.few
            have h2 := whole_ge t1.ok
            omega
          generalize takeM q.a q.b X = tk at HP12 HA12 HB12 hHL HIT ⊢
          obtain ⟨H, self, Y⟩ := tk
          simp only at HP12 HA12 HB12 hHL HIT ⊢
          go_upto_region 20 with fail
          refine wp_text 8 [.eq (va), .eq (vb), .eq (.bool true), .eq (.bool true), .eq (.bool self), .eq (.bool self), .eq (.bool true), .eq (.bool true)] rfl (by kernel_rfl) ?_ ?_
          · refine fsteps_cons 1 rfl (fun a u hE hD hk => f_val (o := ⟨some 83, _, _, _, _, _⟩) (va) rfl (wanted_none rfl _) (exec_move (.tmp 10) (va) rfl (hE 10 (va) (by kernel_rfl) (by kernel_rfl))) rfl) ?_
            refine fsteps_cons 2 rfl (fun a u hE hD hk => f_val (o := ⟨some 84, _, _, _, _, _⟩) (vb) rfl (wanted_none rfl _) (exec_move (.tmp 12) (vb) rfl (hE 12 (vb) (by kernel_rfl) (by kernel_rfl))) rfl) ?_
            refine fsteps_cons 3 rfl (fun a u hE hD hk => f_call (o := ⟨some 85, _, _, _, _, _⟩) 14 #[va, vb] rfl (wanted_none rfl _) (exec_call 14 _ [.tmp 83, .tmp 84] _ [va, vb] Try.func14 (by kernel_rfl) (by kernel_rfl) rfl (show [a.eval (.tmp 83), a.eval (.tmp 84)] = [va, vb] from (by rw [show a.eval (.tmp 83) = va from (hD 0 83 (by kernel_rfl)), show a.eval (.tmp 84) = vb from (hD 1 84 (by kernel_rfl))] <;> rfl)) u) ((by have := sameH_any va vb 0 0 H H u (HA12.out.kept hk) (HB12.out.kept hk) hHL hHL; rw [decide_eq_true rfl] at this; exact this))) ?_
            refine fsteps_cons 4 rfl (fun a u hE hD hk => f_val (o := ⟨some 86, _, _, _, _, _⟩) (.bool true) rfl (wanted_none rfl _) (exec_move (.tmp 85) (.bool true) rfl (hD 2 85 (by kernel_rfl))) rfl) ?_
            refine fsteps_cons 5 rfl (fun a u hE hD hk => f_val (o := ⟨some 87, _, _, _, _, _⟩) (.bool self) rfl (wanted_at (b := true) true rfl rfl (hD 3 86 (by kernel_rfl))) (exec_move (.tmp 11) (.bool self) rfl (hE 11 (.bool self) (by kernel_rfl) (by kernel_rfl))) rfl) ?_
            refine fsteps_cons 6 rfl (fun a u hE hD hk => f_val (o := ⟨some 88, _, _, _, _, _⟩) (.bool self) rfl (wanted_at (b := true) true rfl rfl (hD 3 86 (by kernel_rfl))) (exec_move (.tmp 13) (.bool self) rfl (hE 13 (.bool self) (by kernel_rfl) (by kernel_rfl))) rfl) ?_
            refine fsteps_cons 7 rfl (fun a u hE hD hk => f_val (o := ⟨some 89, _, _, _, _, _⟩) (.bool true) rfl (wanted_at (b := true) true rfl rfl (hD 3 86 (by kernel_rfl))) (exec_eqb (.tmp 87) (.tmp 88) _ self self true rfl (hD 4 87 (by kernel_rfl)) (hD 5 88 (by kernel_rfl)) (by simp)) rfl) ?_
            refine fsteps_cons 8 rfl (fun a u hE hD hk => f_val (o := ⟨some 90, _, _, _, _, _⟩) (.bool true) rfl (wanted_none rfl _) (exec_pick (.tmp 86) (.tmp 89) (.const (.bool false)) (.bool true) rfl (hD 3 86 (by kernel_rfl)) (hD 6 89 (by kernel_rfl))) rfl) ?_
            exact fsteps_nil
          intro gv w13 hV k13
          rw [show dstsOf _ 8 = [83, 84, 85, 86, 87, 88, 89, 90] by kernel_rfl]
          simp only [List.foldl_cons, List.foldl_nil, List.setIfInBounds_toArray, List.set_cons_succ, List.set_cons_zero, List.drop_succ_cons, List.drop_zero]
          rw [show gv 90 = .bool true from hV 7 90 (by kernel_rfl)]
          clear hV
          refine l_val (o := ⟨some 8, _, _, _, _, _⟩) (.bool true) rfl (exec_assign (.tmp 90) (.bool true) rfl (by kernel_rfl)) ?_
          simp only [Act.put, List.setIfInBounds_toArray, List.set_cons_succ, List.set_cons_zero]
          refine wpList_nil ?_
          have HP13 := Lib.hid (HP12.out.kept k13)
          have HI2 := HIT
          have HYG := Lib.hid (HI2.out.good (by omega))
          obtain ⟨K2, hK2⟩ : ∃ K2, K = K2 := ⟨_, rfl⟩
          subst hK2
          clear k13 HP12 HA12 HB12 hHL HIT HI HXG HFL HGL
          obtain ⟨_, _, vy, hBy, hSy, _⟩ := HP13.out.y
          obtain ⟨ny, hny⟩ : ∃ ny, Y.length = ny := ⟨_, rfl⟩
          rw [hny] at hSy
          have HBy := Lib.hid hBy
          have HSy := Lib.hid hSy
          have HNy := Lib.hid hny
          clear hBy hSy hny
          go_upto_region 27 with fail
          refine wp_free 38 [.eq (.bool true), .eq (.bool false), .eq (.bool false), .eq (.pointer (some ⟨p, 0, none⟩)), .eq (.int .i64 7), .eq (.bool false), .eq (.bool false), .eq (.bool false), .eq (.pointer (some ⟨p, 0, none⟩)), .eq (.int .i64 (seenM Y)), .eq (.pointer (some ⟨r, 0, none⟩)), .eq (.int .i64 (seenM Y)), .eq (.bool false), .eq (.bool false), .eq (.bool false), .eq (.pointer (some ⟨p, 0, none⟩)), .eq (.int .i64 (wholeM Y)), .eq (.pointer (some ⟨r, 0, none⟩)), .eq (.int .i64 (wholeM Y)), .eq (.bool false), .eq (.bool false), .eq (.bool false), .eq (.pointer (some ⟨p, 0, none⟩)), .eq (.int .i64 (Y.length : Int)), .eq (.pointer (some ⟨r, 0, none⟩)), .eq (.pointer (some ⟨r, 0, none⟩)), .eq (.pointer (some ⟨r, 1, none⟩)), .eq (vy), .eq (.int .i64 (ny : Int)), .eq (.bool false), .eq (.bool false), .eq (.bool false), .eq (.pointer (some ⟨p, 0, none⟩)), .sl 0 25 9 Y.length (ords (Y.map (·.o))), .eq (.pointer (some ⟨r, 0, none⟩)), .sl 0 25 9 Y.length (ords (Y.map (·.o))), .eq (.bool true), .eq (.bool false)] (by kernel_rfl) rfl (by kernel_rfl) ?_ ?_
          · refine fsteps_cons 1 rfl (fun a u hE hD hk => f_val (o := ⟨some 138, _, _, _, _, _⟩) (.bool true) rfl (wanted_none rfl _) (exec_move (.tmp 8) (.bool true) rfl (hE 8 (.bool true) (by kernel_rfl) (by kernel_rfl))) rfl) ?_
            refine fsteps_cons 2 rfl (fun a u hE hD hk => f_val (o := ⟨some 139, _, _, _, _, _⟩) (.bool false) rfl (wanted_none rfl _) (exec_not _ (.tmp 138) true rfl (hD 0 138 (by kernel_rfl))) rfl) ?_
            refine fsteps_cons 3 rfl (fun a u hE hD hk => f_val (o := ⟨some 140, _, _, _, _, _⟩) (.bool false) rfl (wanted_none rfl _) (exec_move (.tmp 139) (.bool false) rfl (hD 1 139 (by kernel_rfl))) rfl) ?_
            refine fsteps_cons 4 rfl (fun a u hE hD hk => f_val (o := ⟨some 141, _, _, _, _, _⟩) (.pointer (some ⟨p, 0, none⟩)) rfl (wanted_at (b := false) false rfl rfl (hD 2 140 (by kernel_rfl))) (exec_move (.tmp 3) (.pointer (some ⟨p, 0, none⟩)) rfl (hE 3 (.pointer (some ⟨p, 0, none⟩)) (by kernel_rfl) (by kernel_rfl))) rfl) ?_
            refine fsteps_cons 5 rfl (fun a u hE hD hk => f_call (o := ⟨some 142, _, _, _, _, _⟩) 23 #[.pointer (some ⟨p, 0, none⟩)] rfl (wanted_at (b := false) false rfl rfl (hD 2 140 (by kernel_rfl))) (exec_call 23 _ [.tmp 141] _ [.pointer (some ⟨p, 0, none⟩)] Try.func23 (by kernel_rfl) (by kernel_rfl) rfl (show [a.eval (.tmp 141)] = [.pointer (some ⟨p, 0, none⟩)] from (by rw [show a.eval (.tmp 141) = .pointer (some ⟨p, 0, none⟩) from (hD 3 141 (by kernel_rfl))] <;> rfl)) u) (price_any u F2 p Y (HP13.out.x.kept hk))) ?_
            refine fsteps_cons 6 rfl (fun a u hE hD hk => f_as (show ((decide ((7 : Int) ≠ (7 : Int))) : Bool) = false from rfl) (f_val (o := ⟨some 143, _, _, _, _, _⟩) (.bool (decide ((7 : Int) ≠ (7 : Int)))) rfl (wanted_at (b := false) false rfl rfl (hD 2 140 (by kernel_rfl))) (exec_nen (p := 7) (q := 7) rfl (hD 4 142 (by kernel_rfl)) rfl) rfl)) ?_
            refine fsteps_cons 7 rfl (fun a u hE hD hk => f_val (o := ⟨some 144, _, _, _, _, _⟩) (.bool false) rfl (wanted_none rfl _) (exec_pickF (.tmp 140) (.const (.bool true)) (.tmp 143) (.bool false) rfl (hD 2 140 (by kernel_rfl)) (hD 5 143 (by kernel_rfl))) rfl) ?_
            refine fsteps_cons 8 rfl (fun a u hE hD hk => f_val (o := ⟨some 145, _, _, _, _, _⟩) (.bool false) rfl (wanted_none rfl _) (exec_move (.tmp 144) (.bool false) rfl (hD 6 144 (by kernel_rfl))) rfl) ?_
            refine fsteps_cons 9 rfl (fun a u hE hD hk => f_val (o := ⟨some 146, _, _, _, _, _⟩) (.pointer (some ⟨p, 0, none⟩)) rfl (wanted_at (b := false) false rfl rfl (hD 7 145 (by kernel_rfl))) (exec_move (.tmp 3) (.pointer (some ⟨p, 0, none⟩)) rfl (hE 3 (.pointer (some ⟨p, 0, none⟩)) (by kernel_rfl) (by kernel_rfl))) rfl) ?_
            refine fsteps_cons 10 rfl (fun a u hE hD hk => f_call (o := ⟨some 147, _, _, _, _, _⟩) 12 #[.pointer (some ⟨p, 0, none⟩)] rfl (wanted_at (b := false) false rfl rfl (hD 7 145 (by kernel_rfl))) (exec_call 12 _ [.tmp 146] _ [.pointer (some ⟨p, 0, none⟩)] Try.func12 (by kernel_rfl) (by kernel_rfl) rfl (show [a.eval (.tmp 146)] = [.pointer (some ⟨p, 0, none⟩)] from (by rw [show a.eval (.tmp 146) = .pointer (some ⟨p, 0, none⟩) from (hD 8 146 (by kernel_rfl))] <;> rfl)) u) (seen_any u F2 p Y (HP13.out.x.kept hk) HYG.out)) ?_
            refine fsteps_cons 11 rfl (fun a u hE hD hk => f_val (o := ⟨some 148, _, _, _, _, _⟩) (.pointer (some ⟨r, 0, none⟩)) rfl (wanted_at (b := false) false rfl rfl (hD 7 145 (by kernel_rfl))) (exec_move (.tmp 4) (.pointer (some ⟨r, 0, none⟩)) rfl (hE 4 (.pointer (some ⟨r, 0, none⟩)) (by kernel_rfl) (by kernel_rfl))) rfl) ?_
            refine fsteps_cons 12 rfl (fun a u hE hD hk => f_call (o := ⟨some 149, _, _, _, _, _⟩) 24 #[.pointer (some ⟨r, 0, none⟩)] rfl (wanted_at (b := false) false rfl rfl (hD 7 145 (by kernel_rfl))) (exec_call 24 _ [.tmp 148] _ [.pointer (some ⟨r, 0, none⟩)] Try.func24 (by kernel_rfl) (by kernel_rfl) rfl (show [a.eval (.tmp 148)] = [.pointer (some ⟨r, 0, none⟩)] from (by rw [show a.eval (.tmp 148) = .pointer (some ⟨r, 0, none⟩) from (hD 10 148 (by kernel_rfl))] <;> rfl)) u) (rseen_any u G2 r Y (HP13.out.y.kept hk) HYG.out)) ?_
            refine fsteps_cons 13 rfl (fun a u hE hD hk => f_as (show ((decide (((seenM Y) : Int) ≠ ((seenM Y) : Int))) : Bool) = false from decide_eq_false (fun h => h rfl)) (f_val (o := ⟨some 150, _, _, _, _, _⟩) (.bool (decide (((seenM Y) : Int) ≠ ((seenM Y) : Int)))) rfl (wanted_at (b := false) false rfl rfl (hD 7 145 (by kernel_rfl))) (exec_nen (p := (seenM Y)) (q := (seenM Y)) rfl (hD 9 147 (by kernel_rfl)) (hD 11 149 (by kernel_rfl))) rfl)) ?_
            refine fsteps_cons 14 rfl (fun a u hE hD hk => f_val (o := ⟨some 151, _, _, _, _, _⟩) (.bool false) rfl (wanted_none rfl _) (exec_pickF (.tmp 145) (.const (.bool true)) (.tmp 150) (.bool false) rfl (hD 7 145 (by kernel_rfl)) (hD 12 150 (by kernel_rfl))) rfl) ?_
            refine fsteps_cons 15 rfl (fun a u hE hD hk => f_val (o := ⟨some 152, _, _, _, _, _⟩) (.bool false) rfl (wanted_none rfl _) (exec_move (.tmp 151) (.bool false) rfl (hD 13 151 (by kernel_rfl))) rfl) ?_
            refine fsteps_cons 16 rfl (fun a u hE hD hk => f_val (o := ⟨some 153, _, _, _, _, _⟩) (.pointer (some ⟨p, 0, none⟩)) rfl (wanted_at (b := false) false rfl rfl (hD 14 152 (by kernel_rfl))) (exec_move (.tmp 3) (.pointer (some ⟨p, 0, none⟩)) rfl (hE 3 (.pointer (some ⟨p, 0, none⟩)) (by kernel_rfl) (by kernel_rfl))) rfl) ?_
            refine fsteps_cons 17 rfl (fun a u hE hD hk => f_call (o := ⟨some 154, _, _, _, _, _⟩) 25 #[.pointer (some ⟨p, 0, none⟩)] rfl (wanted_at (b := false) false rfl rfl (hD 14 152 (by kernel_rfl))) (exec_call 25 _ [.tmp 153] _ [.pointer (some ⟨p, 0, none⟩)] Try.func25 (by kernel_rfl) (by kernel_rfl) rfl (show [a.eval (.tmp 153)] = [.pointer (some ⟨p, 0, none⟩)] from (by rw [show a.eval (.tmp 153) = .pointer (some ⟨p, 0, none⟩) from (hD 15 153 (by kernel_rfl))] <;> rfl)) u) (whole_any u F2 p Y (HP13.out.x.kept hk) HYG.out)) ?_
            refine fsteps_cons 18 rfl (fun a u hE hD hk => f_val (o := ⟨some 155, _, _, _, _, _⟩) (.pointer (some ⟨r, 0, none⟩)) rfl (wanted_at (b := false) false rfl rfl (hD 14 152 (by kernel_rfl))) (exec_move (.tmp 4) (.pointer (some ⟨r, 0, none⟩)) rfl (hE 4 (.pointer (some ⟨r, 0, none⟩)) (by kernel_rfl) (by kernel_rfl))) rfl) ?_
            refine fsteps_cons 19 rfl (fun a u hE hD hk => f_call (o := ⟨some 156, _, _, _, _, _⟩) 26 #[.pointer (some ⟨r, 0, none⟩)] rfl (wanted_at (b := false) false rfl rfl (hD 14 152 (by kernel_rfl))) (exec_call 26 _ [.tmp 155] _ [.pointer (some ⟨r, 0, none⟩)] Try.func26 (by kernel_rfl) (by kernel_rfl) rfl (show [a.eval (.tmp 155)] = [.pointer (some ⟨r, 0, none⟩)] from (by rw [show a.eval (.tmp 155) = .pointer (some ⟨r, 0, none⟩) from (hD 17 155 (by kernel_rfl))] <;> rfl)) u) (rwhole_any u G2 r Y (HP13.out.y.kept hk) HYG.out)) ?_
            refine fsteps_cons 20 rfl (fun a u hE hD hk => f_as (show ((decide (((wholeM Y) : Int) ≠ ((wholeM Y) : Int))) : Bool) = false from decide_eq_false (fun h => h rfl)) (f_val (o := ⟨some 157, _, _, _, _, _⟩) (.bool (decide (((wholeM Y) : Int) ≠ ((wholeM Y) : Int)))) rfl (wanted_at (b := false) false rfl rfl (hD 14 152 (by kernel_rfl))) (exec_nen (p := (wholeM Y)) (q := (wholeM Y)) rfl (hD 16 154 (by kernel_rfl)) (hD 18 156 (by kernel_rfl))) rfl)) ?_
            refine fsteps_cons 21 rfl (fun a u hE hD hk => f_val (o := ⟨some 158, _, _, _, _, _⟩) (.bool false) rfl (wanted_none rfl _) (exec_pickF (.tmp 152) (.const (.bool true)) (.tmp 157) (.bool false) rfl (hD 14 152 (by kernel_rfl)) (hD 19 157 (by kernel_rfl))) rfl) ?_
            refine fsteps_cons 22 rfl (fun a u hE hD hk => f_val (o := ⟨some 159, _, _, _, _, _⟩) (.bool false) rfl (wanted_none rfl _) (exec_move (.tmp 158) (.bool false) rfl (hD 20 158 (by kernel_rfl))) rfl) ?_
            refine fsteps_cons 23 rfl (fun a u hE hD hk => f_val (o := ⟨some 160, _, _, _, _, _⟩) (.pointer (some ⟨p, 0, none⟩)) rfl (wanted_at (b := false) false rfl rfl (hD 21 159 (by kernel_rfl))) (exec_move (.tmp 3) (.pointer (some ⟨p, 0, none⟩)) rfl (hE 3 (.pointer (some ⟨p, 0, none⟩)) (by kernel_rfl) (by kernel_rfl))) rfl) ?_
            refine fsteps_cons 24 rfl (fun a u hE hD hk => f_call (o := ⟨some 161, _, _, _, _, _⟩) 27 #[.pointer (some ⟨p, 0, none⟩)] rfl (wanted_at (b := false) false rfl rfl (hD 21 159 (by kernel_rfl))) (exec_call 27 _ [.tmp 160] _ [.pointer (some ⟨p, 0, none⟩)] Try.func27 (by kernel_rfl) (by kernel_rfl) rfl (show [a.eval (.tmp 160)] = [.pointer (some ⟨p, 0, none⟩)] from (by rw [show a.eval (.tmp 160) = .pointer (some ⟨p, 0, none⟩) from (hD 22 160 (by kernel_rfl))] <;> rfl)) u) (len_any u F2 p Y (HP13.out.x.kept hk))) ?_
            refine fsteps_cons 25 rfl (fun a u hE hD hk => f_val (o := ⟨some 162, _, _, _, _, _⟩) (.pointer (some ⟨r, 0, none⟩)) rfl (wanted_at (b := false) false rfl rfl (hD 21 159 (by kernel_rfl))) (exec_move (.tmp 4) (.pointer (some ⟨r, 0, none⟩)) rfl (hE 4 (.pointer (some ⟨r, 0, none⟩)) (by kernel_rfl) (by kernel_rfl))) rfl) ?_
            refine fsteps_cons 26 rfl (fun a u hE hD hk => f_val (o := ⟨some 163, _, _, _, _, _⟩) (.pointer (some ⟨r, 0, none⟩)) rfl (wanted_at (b := false) false rfl rfl (hD 21 159 (by kernel_rfl))) (exec_nilp (.tmp 162) ⟨r, 0, none⟩ rfl (hD 24 162 (by kernel_rfl))) rfl) ?_
            refine fsteps_cons 27 rfl (fun a u hE hD hk => f_val (o := ⟨some 164, _, _, _, _, _⟩) (.pointer (some ⟨r, 1, none⟩)) rfl (wanted_at (b := false) false rfl rfl (hD 21 159 (by kernel_rfl))) (exec_fldo 42 1 1 (.tmp 163) (r) (0) (1) rfl (hD 25 163 (by kernel_rfl)) (by kernel_rfl) rfl) rfl) ?_
            refine fsteps_cons 28 rfl (fun a u hE hD hk => f_val (o := ⟨some 165, _, _, _, _, _⟩) (vy) rfl (wanted_at (b := false) false rfl rfl (hD 21 159 (by kernel_rfl))) (exec_ldv 40 _ Try.underlying40 (.tmp 164) ⟨r, 1, none⟩ (vy) rfl (hD 26 164 (by kernel_rfl)) (by rw [(HBy.out.kept hk).cell]; rfl)) rfl) ?_
            refine fsteps_cons 29 rfl (fun a u hE hD hk => f_val (o := ⟨some 166, _, _, _, _, _⟩) (.int .i64 (ny : Int)) rfl (wanted_at (b := false) false rfl rfl (hD 21 159 (by kernel_rfl))) (exec_lenS (.tmp 165) slR (vy) (ny) _ _ rfl (hD 27 165 (by kernel_rfl)) HSy.out) rfl) ?_
            refine fsteps_cons 30 rfl (fun a u hE hD hk => f_as (show ((decide (((Y.length : Int) : Int) ≠ ((ny : Int) : Int))) : Bool) = false from decide_eq_false (fun h => h (by rw [HNy.out]))) (f_val (o := ⟨some 167, _, _, _, _, _⟩) (.bool (decide (((Y.length : Int) : Int) ≠ ((ny : Int) : Int)))) rfl (wanted_at (b := false) false rfl rfl (hD 21 159 (by kernel_rfl))) (exec_nen (p := (Y.length : Int)) (q := (ny : Int)) rfl (hD 23 161 (by kernel_rfl)) (hD 28 166 (by kernel_rfl))) rfl)) ?_
            refine fsteps_cons 31 rfl (fun a u hE hD hk => f_val (o := ⟨some 168, _, _, _, _, _⟩) (.bool false) rfl (wanted_none rfl _) (exec_pickF (.tmp 159) (.const (.bool true)) (.tmp 167) (.bool false) rfl (hD 21 159 (by kernel_rfl)) (hD 29 167 (by kernel_rfl))) rfl) ?_
            refine fsteps_cons 32 rfl (fun a u hE hD hk => f_val (o := ⟨some 169, _, _, _, _, _⟩) (.bool false) rfl (wanted_none rfl _) (exec_move (.tmp 168) (.bool false) rfl (hD 30 168 (by kernel_rfl))) rfl) ?_
            refine fsteps_cons 33 rfl (fun a u hE hD hk => f_val (o := ⟨some 170, _, _, _, _, _⟩) (.pointer (some ⟨p, 0, none⟩)) rfl (wanted_at (b := false) false rfl rfl (hD 31 169 (by kernel_rfl))) (exec_move (.tmp 3) (.pointer (some ⟨p, 0, none⟩)) rfl (hE 3 (.pointer (some ⟨p, 0, none⟩)) (by kernel_rfl) (by kernel_rfl))) rfl) ?_
            refine fsteps_cons 34 rfl (fun a u hE hD hk => f_call (o := ⟨some 171, _, _, _, _, _⟩) 13 #[.pointer (some ⟨p, 0, none⟩)] rfl (wanted_at (b := false) false rfl rfl (hD 31 169 (by kernel_rfl))) (exec_call 13 _ [.tmp 170] _ [.pointer (some ⟨p, 0, none⟩)] Try.func13 (by kernel_rfl) (by kernel_rfl) rfl (show [a.eval (.tmp 170)] = [.pointer (some ⟨p, 0, none⟩)] from (by rw [show a.eval (.tmp 170) = .pointer (some ⟨p, 0, none⟩) from (hD 32 170 (by kernel_rfl))] <;> rfl)) u) ((orders_any u F2 p Y (HP13.out.x.kept hk) HYG.out).mono (fun e w' ⟨v, h1, h2, h3⟩ => ⟨v, h1, ⟨h2.1, fun b hb => Nat.zero_le _⟩, h3⟩))) ?_
            refine fsteps_cons 35 rfl (fun a u hE hD hk => f_val (o := ⟨some 172, _, _, _, _, _⟩) (.pointer (some ⟨r, 0, none⟩)) rfl (wanted_at (b := false) false rfl rfl (hD 31 169 (by kernel_rfl))) (exec_move (.tmp 4) (.pointer (some ⟨r, 0, none⟩)) rfl (hE 4 (.pointer (some ⟨r, 0, none⟩)) (by kernel_rfl) (by kernel_rfl))) rfl) ?_
            refine fsteps_cons 36 rfl (fun a u hE hD hk => f_call (o := ⟨some 173, _, _, _, _, _⟩) 28 #[.pointer (some ⟨r, 0, none⟩)] rfl (wanted_at (b := false) false rfl rfl (hD 31 169 (by kernel_rfl))) (exec_call 28 _ [.tmp 172] _ [.pointer (some ⟨r, 0, none⟩)] Try.func28 (by kernel_rfl) (by kernel_rfl) rfl (show [a.eval (.tmp 172)] = [.pointer (some ⟨r, 0, none⟩)] from (by rw [show a.eval (.tmp 172) = .pointer (some ⟨r, 0, none⟩) from (hD 34 172 (by kernel_rfl))] <;> rfl)) u) ((rorders_any u G2 r Y (HP13.out.y.kept hk) HYG.out).mono (fun e w' ⟨v, h1, h2, h3⟩ => ⟨v, h1, ⟨h2.1, fun b hb => Nat.zero_le _⟩, h3⟩))) ?_
            refine fsteps_cons 37 rfl (fun a u hE hD hk => f_call (o := ⟨some 174, _, _, _, _, _⟩) 15 #[a.eval (.tmp 171), a.eval (.tmp 173)] rfl (wanted_at (b := false) false rfl rfl (hD 31 169 (by kernel_rfl))) (exec_call 15 _ [.tmp 171, .tmp 173] _ [a.eval (.tmp 171), a.eval (.tmp 173)] Try.func15 (by kernel_rfl) (by kernel_rfl) rfl rfl u) (same_self _ _ Y u ((hD 33 171 (by kernel_rfl))).1 ((hD 35 173 (by kernel_rfl))).1 HYG.out.len)) ?_
            refine fsteps_cons 38 rfl (fun a u hE hD hk => f_val (o := ⟨some 175, _, _, _, _, _⟩) (.bool false) rfl (wanted_at (b := false) false rfl rfl (hD 31 169 (by kernel_rfl))) (exec_not _ (.tmp 174) true rfl (hD 36 174 (by kernel_rfl))) rfl) ?_
            exact fsteps_nil
          intro gv wz hV kz
          rw [show dstsOf _ 38 = [138, 139, 140, 141, 142, 143, 144, 145, 146, 147, 148, 149, 150, 151, 152, 153, 154, 155, 156, 157, 158, 159, 160, 161, 162, 163, 164, 165, 166, 167, 168, 169, 170, 171, 172, 173, 174, 175] by kernel_rfl]
          simp only [List.foldl_cons, List.foldl_nil, List.setIfInBounds_toArray, List.set_cons_succ, List.set_cons_zero, List.drop_succ_cons, List.drop_zero]
          rw [show gv 169 = .bool false from hV 31 169 (by kernel_rfl)]
          rw [show gv 175 = .bool false from hV 37 175 (by kernel_rfl)]
          clear hV
          refine l_val (o := ⟨some 176, _, _, _, _, _⟩) (.bool false) rfl (exec_pickF (.tmp 169) (.const (.bool true)) (.tmp 175) (.bool false) rfl (by kernel_rfl) (by kernel_rfl)) ?_
          simp only [Act.put, List.setIfInBounds_toArray, List.set_cons_succ, List.set_cons_zero]
          refine wpList_nil ?_
          have HPz := Lib.hid (HP13.out.kept kz)
          clear HP13 kz HBy HSy HNy
          go_wp2
          exact ⟨⟨i + 1, F2, G2, Y, K, by go_num, by omega, by omega, HPz, HI2⟩, by simp [intOf]; omega⟩
        · by_cases h3 : q.k = 3
          · skip

            go_upto_region 11 with fail
            refine wp_text 1 [.eq (.bool false)] rfl (by kernel_rfl) ?_ ?_
            · refine fsteps_cons 1 rfl (fun a u hE hD hk => f_as (show ((decide ((q.k : Int) = (1 : Int))) : Bool) = false from decide_eq_false h1) (f_val (o := ⟨some 41, _, _, _, _, _⟩) (.bool (decide ((q.k : Int) = (1 : Int)))) rfl (wanted_none rfl _) (exec_eqn (p := q.k) (q := 1) rfl (hE 39 (.int .i64 q.k) (by kernel_rfl) (by kernel_rfl)) rfl) rfl)) ?_
              exact fsteps_nil
            intro gv w7 hV k7
            rw [show dstsOf _ 1 = [41] by kernel_rfl]
            simp only [List.foldl_cons, List.foldl_nil, List.setIfInBounds_toArray, List.set_cons_succ, List.set_cons_zero, List.drop_succ_cons, List.drop_zero]
            rw [show gv 41 = .bool false from hV 0 41 (by kernel_rfl)]
            clear hV
            refine l_val (o := ⟨some 40, _, _, _, _, _⟩) (.bool false) rfl (exec_assign (.tmp 41) (.bool false) rfl (by kernel_rfl)) ?_
            simp only [Act.put, List.setIfInBounds_toArray, List.set_cons_succ, List.set_cons_zero]
            refine wpList_nil ?_
            have HP7 := Lib.hid (HP6.out.kept k7)
            have HC7 := Lib.hid (range_kept HC6.out k7)
            have z7 := k7.size
            clear HP6 HC6 k7
            go_upto_region 17 with fail
            refine wp_text 1 [.eq (.bool false)] rfl (by kernel_rfl) ?_ ?_
            · refine fsteps_cons 1 rfl (fun a u hE hD hk => f_as (show ((decide ((q.k : Int) = (2 : Int))) : Bool) = false from decide_eq_false h2) (f_val (o := ⟨some 64, _, _, _, _, _⟩) (.bool (decide ((q.k : Int) = (2 : Int)))) rfl (wanted_none rfl _) (exec_eqn (p := q.k) (q := 2) rfl (hE 39 (.int .i64 q.k) (by kernel_rfl) (by kernel_rfl)) rfl) rfl)) ?_
              exact fsteps_nil
            intro gv w8 hV k8
            rw [show dstsOf _ 1 = [64] by kernel_rfl]
            simp only [List.foldl_cons, List.foldl_nil, List.setIfInBounds_toArray, List.set_cons_succ, List.set_cons_zero, List.drop_succ_cons, List.drop_zero]
            rw [show gv 64 = .bool false from hV 0 64 (by kernel_rfl)]
            clear hV
            refine l_val (o := ⟨some 63, _, _, _, _, _⟩) (.bool false) rfl (exec_assign (.tmp 64) (.bool false) rfl (by kernel_rfl)) ?_
            simp only [Act.put, List.setIfInBounds_toArray, List.set_cons_succ, List.set_cons_zero]
            refine wpList_nil ?_
            have HP8 := Lib.hid (HP7.out.kept k8)
            have HC8 := Lib.hid (range_kept HC7.out k8)
            have z8 := k8.size
            clear HP7 HC7 k8
            go_upto_region 21 with fail
            refine wp_text 1 [.eq (.bool true)] rfl (by kernel_rfl) ?_ ?_
            · refine fsteps_cons 1 rfl (fun a u hE hD hk => f_as (show ((decide ((q.k : Int) = (3 : Int))) : Bool) = true from decide_eq_true h3) (f_val (o := ⟨some 92, _, _, _, _, _⟩) (.bool (decide ((q.k : Int) = (3 : Int)))) rfl (wanted_none rfl _) (exec_eqn (p := q.k) (q := 3) rfl (hE 39 (.int .i64 q.k) (by kernel_rfl) (by kernel_rfl)) rfl) rfl)) ?_
              exact fsteps_nil
            intro gv w9 hV k9
            rw [show dstsOf _ 1 = [92] by kernel_rfl]
            simp only [List.foldl_cons, List.foldl_nil, List.setIfInBounds_toArray, List.set_cons_succ, List.set_cons_zero, List.drop_succ_cons, List.drop_zero]
            rw [show gv 92 = .bool true from hV 0 92 (by kernel_rfl)]
            clear hV
            refine l_val (o := ⟨some 91, _, _, _, _, _⟩) (.bool true) rfl (exec_assign (.tmp 92) (.bool true) rfl (by kernel_rfl)) ?_
            simp only [Act.put, List.setIfInBounds_toArray, List.set_cons_succ, List.set_cons_zero]
            refine wpList_nil ?_
            have HP9 := Lib.hid (HP8.out.kept k9)
            have HC9 := Lib.hid (range_kept HC8.out k9)
            have z9 := k9.size
            clear HP8 HC8 k9
            clear h1 h2 h3
            have HIT := Lib.hid (HI.out.remove (by omega) q.a q.b)
            go_upto_region 22 with fail
            refine wp_text 5 [.eq (.pointer (some ⟨p, 0, none⟩)), .eq (.pointer (some ⟨b7, 1, none⟩)), .eq (.int .i64 q.a), .eq (.pointer (some ⟨b7, 2, none⟩)), .eq (.int .i64 q.b)] rfl (by kernel_rfl) ?_ ?_
            · refine fsteps_cons 1 rfl (fun a u hE hD hk => f_val (o := ⟨some 94, _, _, _, _, _⟩) (.pointer (some ⟨p, 0, none⟩)) rfl (wanted_none rfl _) (exec_move (.tmp 3) (.pointer (some ⟨p, 0, none⟩)) rfl (hE 3 (.pointer (some ⟨p, 0, none⟩)) (by kernel_rfl) (by kernel_rfl))) rfl) ?_
              refine fsteps_cons 2 rfl (fun a u hE hD hk => f_val (o := ⟨some 95, _, _, _, _, _⟩) (.pointer (some ⟨b7, 1, none⟩)) rfl (wanted_none rfl _) (exec_fldo 45 1 1 (.tmp 7) (b7) (0) (1) rfl (hE 7 (.pointer (some ⟨b7, 0, none⟩)) (by kernel_rfl) (by kernel_rfl)) (by kernel_rfl) rfl) rfl) ?_
              refine fsteps_cons 3 rfl (fun a u hE hD hk => f_val (o := ⟨some 96, _, _, _, _, _⟩) (.int .i64 q.a) rfl (wanted_none rfl _) (exec_loadi 3 Try.underlying3 (.tmp 95) ⟨b7, 1, none⟩ (.int .i64 q.a) rfl (hD 1 95 (by kernel_rfl)) (range_int (range_kept HC9.out hk) 1 _ rfl)) rfl) ?_
              refine fsteps_cons 4 rfl (fun a u hE hD hk => f_val (o := ⟨some 97, _, _, _, _, _⟩) (.pointer (some ⟨b7, 2, none⟩)) rfl (wanted_none rfl _) (exec_fldo 45 2 2 (.tmp 7) (b7) (0) (2) rfl (hE 7 (.pointer (some ⟨b7, 0, none⟩)) (by kernel_rfl) (by kernel_rfl)) (by kernel_rfl) rfl) rfl) ?_
              refine fsteps_cons 5 rfl (fun a u hE hD hk => f_val (o := ⟨some 98, _, _, _, _, _⟩) (.int .i64 q.b) rfl (wanted_none rfl _) (exec_loadi 3 Try.underlying3 (.tmp 97) ⟨b7, 2, none⟩ (.int .i64 q.b) rfl (hD 3 97 (by kernel_rfl)) (range_int (range_kept HC9.out hk) 2 _ rfl)) rfl) ?_
              exact fsteps_nil
            intro gv w10 hV k10
            rw [show dstsOf _ 5 = [94, 95, 96, 97, 98] by kernel_rfl]
            simp only [List.foldl_cons, List.foldl_nil, List.setIfInBounds_toArray, List.set_cons_succ, List.set_cons_zero, List.drop_succ_cons, List.drop_zero]
            rw [show gv 94 = .pointer (some ⟨p, 0, none⟩) from hV 0 94 (by kernel_rfl)]
            rw [show gv 96 = .int .i64 q.a from hV 2 96 (by kernel_rfl)]
            rw [show gv 98 = .int .i64 q.b from hV 4 98 (by kernel_rfl)]
            clear hV
            refine l_call (o := ⟨some 99, _, _, _, _, _⟩) 19 #[.pointer (some ⟨p, 0, none⟩), .int .i64 q.a, .int .i64 q.b] rfl (exec_call 19 _ [.tmp 94, .tmp 96, .tmp 98] _ _ Try.func19 (by kernel_rfl) (by kernel_rfl) rfl (by kernel_rfl) _) ?_
            refine (remove_any w10 F p X q.a q.b (HP9.out.x.kept k10) HXG.out.len).mono ?_
            rintro r0 w11 ⟨rfl, hL11, hk11, _⟩
            refine ⟨_, rfl, ?_⟩
            simp only [Act.put, List.setIfInBounds_toArray, List.set_cons_succ, List.set_cons_zero]
            refine l_val (o := ⟨some 93, _, _, _, _, _⟩) (.tuple #[(removeM q.a q.b X).1.v, .bool (removeM q.a q.b X).2.1]) rfl (exec_move (.tmp 99) (.tuple #[(removeM q.a q.b X).1.v, .bool (removeM q.a q.b X).2.1]) rfl (by kernel_rfl)) ?_
            simp only [Act.put, List.setIfInBounds_toArray, List.set_cons_succ, List.set_cons_zero]
            refine l_val (o := ⟨some 100, _, _, _, _, _⟩) ((removeM q.a q.b X).1.v) rfl (exec_extract (.tmp 93) [(removeM q.a q.b X).1.v, .bool (removeM q.a q.b X).2.1] 0 ((removeM q.a q.b X).1.v) rfl (by kernel_rfl) rfl) ?_
            simp only [Act.put, List.setIfInBounds_toArray, List.set_cons_succ, List.set_cons_zero]
            refine l_val (o := ⟨some 101, _, _, _, _, _⟩) (.bool (removeM q.a q.b X).2.1) rfl (exec_extract (.tmp 93) [(removeM q.a q.b X).1.v, .bool (removeM q.a q.b X).2.1] 1 (.bool (removeM q.a q.b X).2.1) rfl (by kernel_rfl) rfl) ?_
            simp only [Act.put, List.setIfInBounds_toArray, List.set_cons_succ, List.set_cons_zero]
            refine l_alloc (o := ⟨some 14, _, _, _, _, _⟩) 25 zeroO.cells rfl rfl zO ?_
            intro w12 hB12 z12 k12
            obtain ⟨b14, hb14⟩ : ∃ b14, b14 = w11.heap.size := ⟨_, rfl⟩
            rw [← hb14] at hB12 ⊢
            simp only [Act.put, List.setIfInBounds_toArray, List.set_cons_succ, List.set_cons_zero]
            refine l_setS (o := ⟨none, _, _, _, _, _⟩) 25 b14 25 zeroO.cells (removeM q.a q.b X).1.cells (.tmp 14) (.tmp 100) rfl rfl (by kernel_rfl) (by kernel_rfl) hB12 (by rw [Ord.len9]; exact ord_size) (by rw [Ord.len9, Ord.len9]) (Ord.one1 _) ?_
            intro w13 hC13 hk13 hs13
            simp only [Act.put]
            refine l_val (o := ⟨some 15, _, _, _, _, _⟩) (.bool (removeM q.a q.b X).2.1) rfl (exec_assign (.tmp 101) (.bool (removeM q.a q.b X).2.1) rfl (by kernel_rfl)) ?_
            simp only [Act.put, List.setIfInBounds_toArray, List.set_cons_succ, List.set_cons_zero]
            refine wpList_nil ?_
            have z10 := k10.size
            have z11 := hk11.size
            have k1113 : Kept w11 w13 := k12.trans' hk13 (by omega)
            have HP13 := Lib.hid (((HP9.out.kept k10).stepX hL11 (Grow.refl _ _) hk11).kept k1113)
            have HC13 := Lib.hid (range_kept (range_keep (range_kept HC9.out k10) hk11 (fun h => by have := HFL.out b7 h; omega)) k1113)
            have HO13 := Lib.hid (blk_range hC13)
            have z13 := k1113.size
            have l14 := hC13.lt
            clear hL11 hk11 hB12 k12 hC13 hk13 k10 k1113 HP9 HC9 hs13
            go_upto_region 23 with fail
            refine wp_text 5 [.eq (.pointer (some ⟨r, 0, none⟩)), .eq (.pointer (some ⟨b7, 1, none⟩)), .eq (.int .i64 q.a), .eq (.pointer (some ⟨b7, 2, none⟩)), .eq (.int .i64 q.b)] rfl (by kernel_rfl) ?_ ?_
            · refine fsteps_cons 1 rfl (fun a u hE hD hk => f_val (o := ⟨some 103, _, _, _, _, _⟩) (.pointer (some ⟨r, 0, none⟩)) rfl (wanted_none rfl _) (exec_move (.tmp 4) (.pointer (some ⟨r, 0, none⟩)) rfl (hE 4 (.pointer (some ⟨r, 0, none⟩)) (by kernel_rfl) (by kernel_rfl))) rfl) ?_
              refine fsteps_cons 2 rfl (fun a u hE hD hk => f_val (o := ⟨some 104, _, _, _, _, _⟩) (.pointer (some ⟨b7, 1, none⟩)) rfl (wanted_none rfl _) (exec_fldo 45 1 1 (.tmp 7) (b7) (0) (1) rfl (hE 7 (.pointer (some ⟨b7, 0, none⟩)) (by kernel_rfl) (by kernel_rfl)) (by kernel_rfl) rfl) rfl) ?_
              refine fsteps_cons 3 rfl (fun a u hE hD hk => f_val (o := ⟨some 105, _, _, _, _, _⟩) (.int .i64 q.a) rfl (wanted_none rfl _) (exec_loadi 3 Try.underlying3 (.tmp 104) ⟨b7, 1, none⟩ (.int .i64 q.a) rfl (hD 1 104 (by kernel_rfl)) (range_int (range_kept HC13.out hk) 1 _ rfl)) rfl) ?_
              refine fsteps_cons 4 rfl (fun a u hE hD hk => f_val (o := ⟨some 106, _, _, _, _, _⟩) (.pointer (some ⟨b7, 2, none⟩)) rfl (wanted_none rfl _) (exec_fldo 45 2 2 (.tmp 7) (b7) (0) (2) rfl (hE 7 (.pointer (some ⟨b7, 0, none⟩)) (by kernel_rfl) (by kernel_rfl)) (by kernel_rfl) rfl) rfl) ?_
              refine fsteps_cons 5 rfl (fun a u hE hD hk => f_val (o := ⟨some 107, _, _, _, _, _⟩) (.int .i64 q.b) rfl (wanted_none rfl _) (exec_loadi 3 Try.underlying3 (.tmp 106) ⟨b7, 2, none⟩ (.int .i64 q.b) rfl (hD 3 106 (by kernel_rfl)) (range_int (range_kept HC13.out hk) 2 _ rfl)) rfl) ?_
              exact fsteps_nil
            intro gv w14 hV k14
            rw [show dstsOf _ 5 = [103, 104, 105, 106, 107] by kernel_rfl]
            simp only [List.foldl_cons, List.foldl_nil, List.setIfInBounds_toArray, List.set_cons_succ, List.set_cons_zero, List.drop_succ_cons, List.drop_zero]
            rw [show gv 103 = .pointer (some ⟨r, 0, none⟩) from hV 0 103 (by kernel_rfl)]
            rw [show gv 105 = .int .i64 q.a from hV 2 105 (by kernel_rfl)]
            rw [show gv 107 = .int .i64 q.b from hV 4 107 (by kernel_rfl)]
            clear hV
            refine l_call (o := ⟨some 108, _, _, _, _, _⟩) 20 #[.pointer (some ⟨r, 0, none⟩), .int .i64 q.a, .int .i64 q.b] rfl (exec_call 20 _ [.tmp 103, .tmp 105, .tmp 107] _ _ Try.func20 (by kernel_rfl) (by kernel_rfl) rfl (by kernel_rfl) _) ?_
            refine (rremove_any w14 G r X q.a q.b (HP13.out.y.kept k14) HXG.out.len).mono ?_
            rintro r0 w15 ⟨G2, rfl, hL15, hG15, hk15⟩
            refine ⟨_, rfl, ?_⟩
            simp only [Act.put, List.setIfInBounds_toArray, List.set_cons_succ, List.set_cons_zero]
            refine l_val (o := ⟨some 102, _, _, _, _, _⟩) (.tuple #[(removeM q.a q.b X).1.v, .bool (removeM q.a q.b X).2.1]) rfl (exec_move (.tmp 108) (.tuple #[(removeM q.a q.b X).1.v, .bool (removeM q.a q.b X).2.1]) rfl (by kernel_rfl)) ?_
            simp only [Act.put, List.setIfInBounds_toArray, List.set_cons_succ, List.set_cons_zero]
            refine l_val (o := ⟨some 109, _, _, _, _, _⟩) ((removeM q.a q.b X).1.v) rfl (exec_extract (.tmp 102) [(removeM q.a q.b X).1.v, .bool (removeM q.a q.b X).2.1] 0 ((removeM q.a q.b X).1.v) rfl (by kernel_rfl) rfl) ?_
            simp only [Act.put, List.setIfInBounds_toArray, List.set_cons_succ, List.set_cons_zero]
            refine l_val (o := ⟨some 110, _, _, _, _, _⟩) (.bool (removeM q.a q.b X).2.1) rfl (exec_extract (.tmp 102) [(removeM q.a q.b X).1.v, .bool (removeM q.a q.b X).2.1] 1 (.bool (removeM q.a q.b X).2.1) rfl (by kernel_rfl) rfl) ?_
            simp only [Act.put, List.setIfInBounds_toArray, List.set_cons_succ, List.set_cons_zero]
            refine l_alloc (o := ⟨some 16, _, _, _, _, _⟩) 25 zeroO.cells rfl rfl zO ?_
            intro w16 hB16 z16 k16
            obtain ⟨b16, hb16⟩ : ∃ b16, b16 = w15.heap.size := ⟨_, rfl⟩
            rw [← hb16] at hB16 ⊢
            simp only [Act.put, List.setIfInBounds_toArray, List.set_cons_succ, List.set_cons_zero]
            refine l_setS (o := ⟨none, _, _, _, _, _⟩) 25 b16 25 zeroO.cells (removeM q.a q.b X).1.cells (.tmp 16) (.tmp 109) rfl rfl (by kernel_rfl) (by kernel_rfl) hB16 (by rw [Ord.len9]; exact ord_size) (by rw [Ord.len9, Ord.len9]) (Ord.one1 _) ?_
            intro w17 hC17 hk17 hs17
            simp only [Act.put]
            refine l_val (o := ⟨some 17, _, _, _, _, _⟩) (.bool (removeM q.a q.b X).2.1) rfl (exec_assign (.tmp 110) (.bool (removeM q.a q.b X).2.1) rfl (by kernel_rfl)) ?_
            simp only [Act.put, List.setIfInBounds_toArray, List.set_cons_succ, List.set_cons_zero]
            refine wpList_nil ?_
            have z14 := k14.size
            have z15 := hk15.size
            have k1517 : Kept w15 w17 := k16.trans' hk17 (by omega)
            have HP17 := Lib.hid (((HP13.out.kept k14).stepY hL15 hG15 hk15).kept k1517)
            have HO17 := Lib.hid (range_kept (range_keep (range_kept HO13.out k14) hk15 (fun h => by have := HGL.out b14 h; omega)) k1517)
            have HQ17 := Lib.hid (blk_range hC17)
            clear hL15 hG15 hk15 hB16 k16 hC17 hk17 k14 k1517 HP13 HC13 HO13 hs17
            generalize removeM q.a q.b X = tk at HP17 HO17 HQ17 HIT ⊢
            obtain ⟨ro, rb, Y⟩ := tk
            simp only at HP17 HO17 HQ17 HIT ⊢
            go_upto_region 24 with fail
            refine wp_text 8 [.eq (ro.v), .eq (ro.v), .eq (.bool true), .eq (.bool true), .eq (.bool rb), .eq (.bool rb), .eq (.bool true), .eq (.bool true)] rfl (by kernel_rfl) ?_ ?_
            · refine fsteps_cons 1 rfl (fun a u hE hD hk => f_val (o := ⟨some 111, _, _, _, _, _⟩) (ro.v) rfl (wanted_none rfl _) (exec_ldS 25 _ (.tmp 14) (b14) (0) (ro.cells) rfl (hE 14 (.pointer (some ⟨b14, 0, none⟩)) (by kernel_rfl) (by kernel_rfl)) (range_kept HO17.out hk) Try.underlying25 (by rw [ro.len9]; exact ord_size)) rfl) ?_
              refine fsteps_cons 2 rfl (fun a u hE hD hk => f_val (o := ⟨some 112, _, _, _, _, _⟩) (ro.v) rfl (wanted_none rfl _) (exec_ldS 25 _ (.tmp 16) (b16) (0) (ro.cells) rfl (hE 16 (.pointer (some ⟨b16, 0, none⟩)) (by kernel_rfl) (by kernel_rfl)) (range_kept HQ17.out hk) Try.underlying25 (by rw [ro.len9]; exact ord_size)) rfl) ?_
              refine fsteps_cons 3 rfl (fun a u hE hD hk => f_val (o := ⟨some 113, _, _, _, _, _⟩) (.bool true) rfl (wanted_none rfl _) (exec_eqOb true (.tmp 111) (.tmp 112) _ ro ro rfl (hD 0 111 (by kernel_rfl)) (hD 1 112 (by kernel_rfl)) (decide_eq_true rfl)) rfl) ?_
              refine fsteps_cons 4 rfl (fun a u hE hD hk => f_val (o := ⟨some 114, _, _, _, _, _⟩) (.bool true) rfl (wanted_none rfl _) (exec_move (.tmp 113) (.bool true) rfl (hD 2 113 (by kernel_rfl))) rfl) ?_
              refine fsteps_cons 5 rfl (fun a u hE hD hk => f_val (o := ⟨some 115, _, _, _, _, _⟩) (.bool rb) rfl (wanted_at (b := true) true rfl rfl (hD 3 114 (by kernel_rfl))) (exec_move (.tmp 15) (.bool rb) rfl (hE 15 (.bool rb) (by kernel_rfl) (by kernel_rfl))) rfl) ?_
              refine fsteps_cons 6 rfl (fun a u hE hD hk => f_val (o := ⟨some 116, _, _, _, _, _⟩) (.bool rb) rfl (wanted_at (b := true) true rfl rfl (hD 3 114 (by kernel_rfl))) (exec_move (.tmp 17) (.bool rb) rfl (hE 17 (.bool rb) (by kernel_rfl) (by kernel_rfl))) rfl) ?_
              refine fsteps_cons 7 rfl (fun a u hE hD hk => f_val (o := ⟨some 117, _, _, _, _, _⟩) (.bool true) rfl (wanted_at (b := true) true rfl rfl (hD 3 114 (by kernel_rfl))) (exec_eqb (.tmp 115) (.tmp 116) _ rb rb true rfl (hD 4 115 (by kernel_rfl)) (hD 5 116 (by kernel_rfl)) (by simp)) rfl) ?_
              refine fsteps_cons 8 rfl (fun a u hE hD hk => f_val (o := ⟨some 118, _, _, _, _, _⟩) (.bool true) rfl (wanted_none rfl _) (exec_pick (.tmp 114) (.tmp 117) (.const (.bool false)) (.bool true) rfl (hD 3 114 (by kernel_rfl)) (hD 6 117 (by kernel_rfl))) rfl) ?_
              exact fsteps_nil
            intro gv w18 hV k18
            rw [show dstsOf _ 8 = [111, 112, 113, 114, 115, 116, 117, 118] by kernel_rfl]
            simp only [List.foldl_cons, List.foldl_nil, List.setIfInBounds_toArray, List.set_cons_succ, List.set_cons_zero, List.drop_succ_cons, List.drop_zero]
            rw [show gv 118 = .bool true from hV 7 118 (by kernel_rfl)]
            clear hV
            refine l_val (o := ⟨some 8, _, _, _, _, _⟩) (.bool true) rfl (exec_assign (.tmp 118) (.bool true) rfl (by kernel_rfl)) ?_
            simp only [Act.put, List.setIfInBounds_toArray, List.set_cons_succ, List.set_cons_zero]
            refine wpList_nil ?_
            have HP18 := Lib.hid (HP17.out.kept k18)
            have HI2 := HIT
            have HYG := Lib.hid (HI2.out.good (by omega))
            obtain ⟨F2, hF2⟩ : ∃ F2, F = F2 := ⟨_, rfl⟩
            subst hF2
            clear k18 HP17 HO17 HQ17 HIT HI HXG HFL HGL
            obtain ⟨_, _, vy, hBy, hSy, _⟩ := HP18.out.y
            obtain ⟨ny, hny⟩ : ∃ ny, Y.length = ny := ⟨_, rfl⟩
            rw [hny] at hSy
            have HBy := Lib.hid hBy
            have HSy := Lib.hid hSy
            have HNy := Lib.hid hny
            clear hBy hSy hny
            go_upto_region 27 with fail
            refine wp_free 38 [.eq (.bool true), .eq (.bool false), .eq (.bool false), .eq (.pointer (some ⟨p, 0, none⟩)), .eq (.int .i64 7), .eq (.bool false), .eq (.bool false), .eq (.bool false), .eq (.pointer (some ⟨p, 0, none⟩)), .eq (.int .i64 (seenM Y)), .eq (.pointer (some ⟨r, 0, none⟩)), .eq (.int .i64 (seenM Y)), .eq (.bool false), .eq (.bool false), .eq (.bool false), .eq (.pointer (some ⟨p, 0, none⟩)), .eq (.int .i64 (wholeM Y)), .eq (.pointer (some ⟨r, 0, none⟩)), .eq (.int .i64 (wholeM Y)), .eq (.bool false), .eq (.bool false), .eq (.bool false), .eq (.pointer (some ⟨p, 0, none⟩)), .eq (.int .i64 (Y.length : Int)), .eq (.pointer (some ⟨r, 0, none⟩)), .eq (.pointer (some ⟨r, 0, none⟩)), .eq (.pointer (some ⟨r, 1, none⟩)), .eq (vy), .eq (.int .i64 (ny : Int)), .eq (.bool false), .eq (.bool false), .eq (.bool false), .eq (.pointer (some ⟨p, 0, none⟩)), .sl 0 25 9 Y.length (ords (Y.map (·.o))), .eq (.pointer (some ⟨r, 0, none⟩)), .sl 0 25 9 Y.length (ords (Y.map (·.o))), .eq (.bool true), .eq (.bool false)] (by kernel_rfl) rfl (by kernel_rfl) ?_ ?_
            · refine fsteps_cons 1 rfl (fun a u hE hD hk => f_val (o := ⟨some 138, _, _, _, _, _⟩) (.bool true) rfl (wanted_none rfl _) (exec_move (.tmp 8) (.bool true) rfl (hE 8 (.bool true) (by kernel_rfl) (by kernel_rfl))) rfl) ?_
              refine fsteps_cons 2 rfl (fun a u hE hD hk => f_val (o := ⟨some 139, _, _, _, _, _⟩) (.bool false) rfl (wanted_none rfl _) (exec_not _ (.tmp 138) true rfl (hD 0 138 (by kernel_rfl))) rfl) ?_
              refine fsteps_cons 3 rfl (fun a u hE hD hk => f_val (o := ⟨some 140, _, _, _, _, _⟩) (.bool false) rfl (wanted_none rfl _) (exec_move (.tmp 139) (.bool false) rfl (hD 1 139 (by kernel_rfl))) rfl) ?_
              refine fsteps_cons 4 rfl (fun a u hE hD hk => f_val (o := ⟨some 141, _, _, _, _, _⟩) (.pointer (some ⟨p, 0, none⟩)) rfl (wanted_at (b := false) false rfl rfl (hD 2 140 (by kernel_rfl))) (exec_move (.tmp 3) (.pointer (some ⟨p, 0, none⟩)) rfl (hE 3 (.pointer (some ⟨p, 0, none⟩)) (by kernel_rfl) (by kernel_rfl))) rfl) ?_
              refine fsteps_cons 5 rfl (fun a u hE hD hk => f_call (o := ⟨some 142, _, _, _, _, _⟩) 23 #[.pointer (some ⟨p, 0, none⟩)] rfl (wanted_at (b := false) false rfl rfl (hD 2 140 (by kernel_rfl))) (exec_call 23 _ [.tmp 141] _ [.pointer (some ⟨p, 0, none⟩)] Try.func23 (by kernel_rfl) (by kernel_rfl) rfl (show [a.eval (.tmp 141)] = [.pointer (some ⟨p, 0, none⟩)] from (by rw [show a.eval (.tmp 141) = .pointer (some ⟨p, 0, none⟩) from (hD 3 141 (by kernel_rfl))] <;> rfl)) u) (price_any u F p Y (HP18.out.x.kept hk))) ?_
              refine fsteps_cons 6 rfl (fun a u hE hD hk => f_as (show ((decide ((7 : Int) ≠ (7 : Int))) : Bool) = false from rfl) (f_val (o := ⟨some 143, _, _, _, _, _⟩) (.bool (decide ((7 : Int) ≠ (7 : Int)))) rfl (wanted_at (b := false) false rfl rfl (hD 2 140 (by kernel_rfl))) (exec_nen (p := 7) (q := 7) rfl (hD 4 142 (by kernel_rfl)) rfl) rfl)) ?_
              refine fsteps_cons 7 rfl (fun a u hE hD hk => f_val (o := ⟨some 144, _, _, _, _, _⟩) (.bool false) rfl (wanted_none rfl _) (exec_pickF (.tmp 140) (.const (.bool true)) (.tmp 143) (.bool false) rfl (hD 2 140 (by kernel_rfl)) (hD 5 143 (by kernel_rfl))) rfl) ?_
              refine fsteps_cons 8 rfl (fun a u hE hD hk => f_val (o := ⟨some 145, _, _, _, _, _⟩) (.bool false) rfl (wanted_none rfl _) (exec_move (.tmp 144) (.bool false) rfl (hD 6 144 (by kernel_rfl))) rfl) ?_
              refine fsteps_cons 9 rfl (fun a u hE hD hk => f_val (o := ⟨some 146, _, _, _, _, _⟩) (.pointer (some ⟨p, 0, none⟩)) rfl (wanted_at (b := false) false rfl rfl (hD 7 145 (by kernel_rfl))) (exec_move (.tmp 3) (.pointer (some ⟨p, 0, none⟩)) rfl (hE 3 (.pointer (some ⟨p, 0, none⟩)) (by kernel_rfl) (by kernel_rfl))) rfl) ?_
              refine fsteps_cons 10 rfl (fun a u hE hD hk => f_call (o := ⟨some 147, _, _, _, _, _⟩) 12 #[.pointer (some ⟨p, 0, none⟩)] rfl (wanted_at (b := false) false rfl rfl (hD 7 145 (by kernel_rfl))) (exec_call 12 _ [.tmp 146] _ [.pointer (some ⟨p, 0, none⟩)] Try.func12 (by kernel_rfl) (by kernel_rfl) rfl (show [a.eval (.tmp 146)] = [.pointer (some ⟨p, 0, none⟩)] from (by rw [show a.eval (.tmp 146) = .pointer (some ⟨p, 0, none⟩) from (hD 8 146 (by kernel_rfl))] <;> rfl)) u) (seen_any u F p Y (HP18.out.x.kept hk) HYG.out)) ?_
              refine fsteps_cons 11 rfl (fun a u hE hD hk => f_val (o := ⟨some 148, _, _, _, _, _⟩) (.pointer (some ⟨r, 0, none⟩)) rfl (wanted_at (b := false) false rfl rfl (hD 7 145 (by kernel_rfl))) (exec_move (.tmp 4) (.pointer (some ⟨r, 0, none⟩)) rfl (hE 4 (.pointer (some ⟨r, 0, none⟩)) (by kernel_rfl) (by kernel_rfl))) rfl) ?_
              refine fsteps_cons 12 rfl (fun a u hE hD hk => f_call (o := ⟨some 149, _, _, _, _, _⟩) 24 #[.pointer (some ⟨r, 0, none⟩)] rfl (wanted_at (b := false) false rfl rfl (hD 7 145 (by kernel_rfl))) (exec_call 24 _ [.tmp 148] _ [.pointer (some ⟨r, 0, none⟩)] Try.func24 (by kernel_rfl) (by kernel_rfl) rfl (show [a.eval (.tmp 148)] = [.pointer (some ⟨r, 0, none⟩)] from (by rw [show a.eval (.tmp 148) = .pointer (some ⟨r, 0, none⟩) from (hD 10 148 (by kernel_rfl))] <;> rfl)) u) (rseen_any u G2 r Y (HP18.out.y.kept hk) HYG.out)) ?_
              refine fsteps_cons 13 rfl (fun a u hE hD hk => f_as (show ((decide (((seenM Y) : Int) ≠ ((seenM Y) : Int))) : Bool) = false from decide_eq_false (fun h => h rfl)) (f_val (o := ⟨some 150, _, _, _, _, _⟩) (.bool (decide (((seenM Y) : Int) ≠ ((seenM Y) : Int)))) rfl (wanted_at (b := false) false rfl rfl (hD 7 145 (by kernel_rfl))) (exec_nen (p := (seenM Y)) (q := (seenM Y)) rfl (hD 9 147 (by kernel_rfl)) (hD 11 149 (by kernel_rfl))) rfl)) ?_
              refine fsteps_cons 14 rfl (fun a u hE hD hk => f_val (o := ⟨some 151, _, _, _, _, _⟩) (.bool false) rfl (wanted_none rfl _) (exec_pickF (.tmp 145) (.const (.bool true)) (.tmp 150) (.bool false) rfl (hD 7 145 (by kernel_rfl)) (hD 12 150 (by kernel_rfl))) rfl) ?_
              refine fsteps_cons 15 rfl (fun a u hE hD hk => f_val (o := ⟨some 152, _, _, _, _, _⟩) (.bool false) rfl (wanted_none rfl _) (exec_move (.tmp 151) (.bool false) rfl (hD 13 151 (by kernel_rfl))) rfl) ?_
              refine fsteps_cons 16 rfl (fun a u hE hD hk => f_val (o := ⟨some 153, _, _, _, _, _⟩) (.pointer (some ⟨p, 0, none⟩)) rfl (wanted_at (b := false) false rfl rfl (hD 14 152 (by kernel_rfl))) (exec_move (.tmp 3) (.pointer (some ⟨p, 0, none⟩)) rfl (hE 3 (.pointer (some ⟨p, 0, none⟩)) (by kernel_rfl) (by kernel_rfl))) rfl) ?_
              refine fsteps_cons 17 rfl (fun a u hE hD hk => f_call (o := ⟨some 154, _, _, _, _, _⟩) 25 #[.pointer (some ⟨p, 0, none⟩)] rfl (wanted_at (b := false) false rfl rfl (hD 14 152 (by kernel_rfl))) (exec_call 25 _ [.tmp 153] _ [.pointer (some ⟨p, 0, none⟩)] Try.func25 (by kernel_rfl) (by kernel_rfl) rfl (show [a.eval (.tmp 153)] = [.pointer (some ⟨p, 0, none⟩)] from (by rw [show a.eval (.tmp 153) = .pointer (some ⟨p, 0, none⟩) from (hD 15 153 (by kernel_rfl))] <;> rfl)) u) (whole_any u F p Y (HP18.out.x.kept hk) HYG.out)) ?_
              refine fsteps_cons 18 rfl (fun a u hE hD hk => f_val (o := ⟨some 155, _, _, _, _, _⟩) (.pointer (some ⟨r, 0, none⟩)) rfl (wanted_at (b := false) false rfl rfl (hD 14 152 (by kernel_rfl))) (exec_move (.tmp 4) (.pointer (some ⟨r, 0, none⟩)) rfl (hE 4 (.pointer (some ⟨r, 0, none⟩)) (by kernel_rfl) (by kernel_rfl))) rfl) ?_
              refine fsteps_cons 19 rfl (fun a u hE hD hk => f_call (o := ⟨some 156, _, _, _, _, _⟩) 26 #[.pointer (some ⟨r, 0, none⟩)] rfl (wanted_at (b := false) false rfl rfl (hD 14 152 (by kernel_rfl))) (exec_call 26 _ [.tmp 155] _ [.pointer (some ⟨r, 0, none⟩)] Try.func26 (by kernel_rfl) (by kernel_rfl) rfl (show [a.eval (.tmp 155)] = [.pointer (some ⟨r, 0, none⟩)] from (by rw [show a.eval (.tmp 155) = .pointer (some ⟨r, 0, none⟩) from (hD 17 155 (by kernel_rfl))] <;> rfl)) u) (rwhole_any u G2 r Y (HP18.out.y.kept hk) HYG.out)) ?_
              refine fsteps_cons 20 rfl (fun a u hE hD hk => f_as (show ((decide (((wholeM Y) : Int) ≠ ((wholeM Y) : Int))) : Bool) = false from decide_eq_false (fun h => h rfl)) (f_val (o := ⟨some 157, _, _, _, _, _⟩) (.bool (decide (((wholeM Y) : Int) ≠ ((wholeM Y) : Int)))) rfl (wanted_at (b := false) false rfl rfl (hD 14 152 (by kernel_rfl))) (exec_nen (p := (wholeM Y)) (q := (wholeM Y)) rfl (hD 16 154 (by kernel_rfl)) (hD 18 156 (by kernel_rfl))) rfl)) ?_
              refine fsteps_cons 21 rfl (fun a u hE hD hk => f_val (o := ⟨some 158, _, _, _, _, _⟩) (.bool false) rfl (wanted_none rfl _) (exec_pickF (.tmp 152) (.const (.bool true)) (.tmp 157) (.bool false) rfl (hD 14 152 (by kernel_rfl)) (hD 19 157 (by kernel_rfl))) rfl) ?_
              refine fsteps_cons 22 rfl (fun a u hE hD hk => f_val (o := ⟨some 159, _, _, _, _, _⟩) (.bool false) rfl (wanted_none rfl _) (exec_move (.tmp 158) (.bool false) rfl (hD 20 158 (by kernel_rfl))) rfl) ?_
              refine fsteps_cons 23 rfl (fun a u hE hD hk => f_val (o := ⟨some 160, _, _, _, _, _⟩) (.pointer (some ⟨p, 0, none⟩)) rfl (wanted_at (b := false) false rfl rfl (hD 21 159 (by kernel_rfl))) (exec_move (.tmp 3) (.pointer (some ⟨p, 0, none⟩)) rfl (hE 3 (.pointer (some ⟨p, 0, none⟩)) (by kernel_rfl) (by kernel_rfl))) rfl) ?_
              refine fsteps_cons 24 rfl (fun a u hE hD hk => f_call (o := ⟨some 161, _, _, _, _, _⟩) 27 #[.pointer (some ⟨p, 0, none⟩)] rfl (wanted_at (b := false) false rfl rfl (hD 21 159 (by kernel_rfl))) (exec_call 27 _ [.tmp 160] _ [.pointer (some ⟨p, 0, none⟩)] Try.func27 (by kernel_rfl) (by kernel_rfl) rfl (show [a.eval (.tmp 160)] = [.pointer (some ⟨p, 0, none⟩)] from (by rw [show a.eval (.tmp 160) = .pointer (some ⟨p, 0, none⟩) from (hD 22 160 (by kernel_rfl))] <;> rfl)) u) (len_any u F p Y (HP18.out.x.kept hk))) ?_
              refine fsteps_cons 25 rfl (fun a u hE hD hk => f_val (o := ⟨some 162, _, _, _, _, _⟩) (.pointer (some ⟨r, 0, none⟩)) rfl (wanted_at (b := false) false rfl rfl (hD 21 159 (by kernel_rfl))) (exec_move (.tmp 4) (.pointer (some ⟨r, 0, none⟩)) rfl (hE 4 (.pointer (some ⟨r, 0, none⟩)) (by kernel_rfl) (by kernel_rfl))) rfl) ?_
              refine fsteps_cons 26 rfl (fun a u hE hD hk => f_val (o := ⟨some 163, _, _, _, _, _⟩) (.pointer (some ⟨r, 0, none⟩)) rfl (wanted_at (b := false) false rfl rfl (hD 21 159 (by kernel_rfl))) (exec_nilp (.tmp 162) ⟨r, 0, none⟩ rfl (hD 24 162 (by kernel_rfl))) rfl) ?_
              refine fsteps_cons 27 rfl (fun a u hE hD hk => f_val (o := ⟨some 164, _, _, _, _, _⟩) (.pointer (some ⟨r, 1, none⟩)) rfl (wanted_at (b := false) false rfl rfl (hD 21 159 (by kernel_rfl))) (exec_fldo 42 1 1 (.tmp 163) (r) (0) (1) rfl (hD 25 163 (by kernel_rfl)) (by kernel_rfl) rfl) rfl) ?_
              refine fsteps_cons 28 rfl (fun a u hE hD hk => f_val (o := ⟨some 165, _, _, _, _, _⟩) (vy) rfl (wanted_at (b := false) false rfl rfl (hD 21 159 (by kernel_rfl))) (exec_ldv 40 _ Try.underlying40 (.tmp 164) ⟨r, 1, none⟩ (vy) rfl (hD 26 164 (by kernel_rfl)) (by rw [(HBy.out.kept hk).cell]; rfl)) rfl) ?_
              refine fsteps_cons 29 rfl (fun a u hE hD hk => f_val (o := ⟨some 166, _, _, _, _, _⟩) (.int .i64 (ny : Int)) rfl (wanted_at (b := false) false rfl rfl (hD 21 159 (by kernel_rfl))) (exec_lenS (.tmp 165) slR (vy) (ny) _ _ rfl (hD 27 165 (by kernel_rfl)) HSy.out) rfl) ?_
              refine fsteps_cons 30 rfl (fun a u hE hD hk => f_as (show ((decide (((Y.length : Int) : Int) ≠ ((ny : Int) : Int))) : Bool) = false from decide_eq_false (fun h => h (by rw [HNy.out]))) (f_val (o := ⟨some 167, _, _, _, _, _⟩) (.bool (decide (((Y.length : Int) : Int) ≠ ((ny : Int) : Int)))) rfl (wanted_at (b := false) false rfl rfl (hD 21 159 (by kernel_rfl))) (exec_nen (p := (Y.length : Int)) (q := (ny : Int)) rfl (hD 23 161 (by kernel_rfl)) (hD 28 166 (by kernel_rfl))) rfl)) ?_
              refine fsteps_cons 31 rfl (fun a u hE hD hk => f_val (o := ⟨some 168, _, _, _, _, _⟩) (.bool false) rfl (wanted_none rfl _) (exec_pickF (.tmp 159) (.const (.bool true)) (.tmp 167) (.bool false) rfl (hD 21 159 (by kernel_rfl)) (hD 29 167 (by kernel_rfl))) rfl) ?_
              refine fsteps_cons 32 rfl (fun a u hE hD hk => f_val (o := ⟨some 169, _, _, _, _, _⟩) (.bool false) rfl (wanted_none rfl _) (exec_move (.tmp 168) (.bool false) rfl (hD 30 168 (by kernel_rfl))) rfl) ?_
              refine fsteps_cons 33 rfl (fun a u hE hD hk => f_val (o := ⟨some 170, _, _, _, _, _⟩) (.pointer (some ⟨p, 0, none⟩)) rfl (wanted_at (b := false) false rfl rfl (hD 31 169 (by kernel_rfl))) (exec_move (.tmp 3) (.pointer (some ⟨p, 0, none⟩)) rfl (hE 3 (.pointer (some ⟨p, 0, none⟩)) (by kernel_rfl) (by kernel_rfl))) rfl) ?_
              refine fsteps_cons 34 rfl (fun a u hE hD hk => f_call (o := ⟨some 171, _, _, _, _, _⟩) 13 #[.pointer (some ⟨p, 0, none⟩)] rfl (wanted_at (b := false) false rfl rfl (hD 31 169 (by kernel_rfl))) (exec_call 13 _ [.tmp 170] _ [.pointer (some ⟨p, 0, none⟩)] Try.func13 (by kernel_rfl) (by kernel_rfl) rfl (show [a.eval (.tmp 170)] = [.pointer (some ⟨p, 0, none⟩)] from (by rw [show a.eval (.tmp 170) = .pointer (some ⟨p, 0, none⟩) from (hD 32 170 (by kernel_rfl))] <;> rfl)) u) ((orders_any u F p Y (HP18.out.x.kept hk) HYG.out).mono (fun e w' ⟨v, h1, h2, h3⟩ => ⟨v, h1, ⟨h2.1, fun b hb => Nat.zero_le _⟩, h3⟩))) ?_
              refine fsteps_cons 35 rfl (fun a u hE hD hk => f_val (o := ⟨some 172, _, _, _, _, _⟩) (.pointer (some ⟨r, 0, none⟩)) rfl (wanted_at (b := false) false rfl rfl (hD 31 169 (by kernel_rfl))) (exec_move (.tmp 4) (.pointer (some ⟨r, 0, none⟩)) rfl (hE 4 (.pointer (some ⟨r, 0, none⟩)) (by kernel_rfl) (by kernel_rfl))) rfl) ?_
              refine fsteps_cons 36 rfl (fun a u hE hD hk => f_call (o := ⟨some 173, _, _, _, _, _⟩) 28 #[.pointer (some ⟨r, 0, none⟩)] rfl (wanted_at (b := false) false rfl rfl (hD 31 169 (by kernel_rfl))) (exec_call 28 _ [.tmp 172] _ [.pointer (some ⟨r, 0, none⟩)] Try.func28 (by kernel_rfl) (by kernel_rfl) rfl (show [a.eval (.tmp 172)] = [.pointer (some ⟨r, 0, none⟩)] from (by rw [show a.eval (.tmp 172) = .pointer (some ⟨r, 0, none⟩) from (hD 34 172 (by kernel_rfl))] <;> rfl)) u) ((rorders_any u G2 r Y (HP18.out.y.kept hk) HYG.out).mono (fun e w' ⟨v, h1, h2, h3⟩ => ⟨v, h1, ⟨h2.1, fun b hb => Nat.zero_le _⟩, h3⟩))) ?_
              refine fsteps_cons 37 rfl (fun a u hE hD hk => f_call (o := ⟨some 174, _, _, _, _, _⟩) 15 #[a.eval (.tmp 171), a.eval (.tmp 173)] rfl (wanted_at (b := false) false rfl rfl (hD 31 169 (by kernel_rfl))) (exec_call 15 _ [.tmp 171, .tmp 173] _ [a.eval (.tmp 171), a.eval (.tmp 173)] Try.func15 (by kernel_rfl) (by kernel_rfl) rfl rfl u) (same_self _ _ Y u ((hD 33 171 (by kernel_rfl))).1 ((hD 35 173 (by kernel_rfl))).1 HYG.out.len)) ?_
              refine fsteps_cons 38 rfl (fun a u hE hD hk => f_val (o := ⟨some 175, _, _, _, _, _⟩) (.bool false) rfl (wanted_at (b := false) false rfl rfl (hD 31 169 (by kernel_rfl))) (exec_not _ (.tmp 174) true rfl (hD 36 174 (by kernel_rfl))) rfl) ?_
              exact fsteps_nil
            intro gv wz hV kz
            rw [show dstsOf _ 38 = [138, 139, 140, 141, 142, 143, 144, 145, 146, 147, 148, 149, 150, 151, 152, 153, 154, 155, 156, 157, 158, 159, 160, 161, 162, 163, 164, 165, 166, 167, 168, 169, 170, 171, 172, 173, 174, 175] by kernel_rfl]
            simp only [List.foldl_cons, List.foldl_nil, List.setIfInBounds_toArray, List.set_cons_succ, List.set_cons_zero, List.drop_succ_cons, List.drop_zero]
            rw [show gv 169 = .bool false from hV 31 169 (by kernel_rfl)]
            rw [show gv 175 = .bool false from hV 37 175 (by kernel_rfl)]
            clear hV
            refine l_val (o := ⟨some 176, _, _, _, _, _⟩) (.bool false) rfl (exec_pickF (.tmp 169) (.const (.bool true)) (.tmp 175) (.bool false) rfl (by kernel_rfl) (by kernel_rfl)) ?_
            simp only [Act.put, List.setIfInBounds_toArray, List.set_cons_succ, List.set_cons_zero]
            refine wpList_nil ?_
            have HPz := Lib.hid (HP18.out.kept kz)
            clear HP18 kz HBy HSy HNy
            go_wp2
            exact ⟨⟨i + 1, F, G2, Y, K, by go_num, by omega, by omega, HPz, HI2⟩, by simp [intOf]; omega⟩
          · by_cases h4 : q.k = 4
            · skip

              go_upto_region 11 with fail
              refine wp_text 1 [.eq (.bool false)] rfl (by kernel_rfl) ?_ ?_
              · refine fsteps_cons 1 rfl (fun a u hE hD hk => f_as (show ((decide ((q.k : Int) = (1 : Int))) : Bool) = false from decide_eq_false h1) (f_val (o := ⟨some 41, _, _, _, _, _⟩) (.bool (decide ((q.k : Int) = (1 : Int)))) rfl (wanted_none rfl _) (exec_eqn (p := q.k) (q := 1) rfl (hE 39 (.int .i64 q.k) (by kernel_rfl) (by kernel_rfl)) rfl) rfl)) ?_
                exact fsteps_nil
              intro gv w7 hV k7
              rw [show dstsOf _ 1 = [41] by kernel_rfl]
              simp only [List.foldl_cons, List.foldl_nil, List.setIfInBounds_toArray, List.set_cons_succ, List.set_cons_zero, List.drop_succ_cons, List.drop_zero]
              rw [show gv 41 = .bool false from hV 0 41 (by kernel_rfl)]
              clear hV
              refine l_val (o := ⟨some 40, _, _, _, _, _⟩) (.bool false) rfl (exec_assign (.tmp 41) (.bool false) rfl (by kernel_rfl)) ?_
              simp only [Act.put, List.setIfInBounds_toArray, List.set_cons_succ, List.set_cons_zero]
              refine wpList_nil ?_
              have HP7 := Lib.hid (HP6.out.kept k7)
              have HC7 := Lib.hid (range_kept HC6.out k7)
              have z7 := k7.size
              clear HP6 HC6 k7
              go_upto_region 17 with fail
              refine wp_text 1 [.eq (.bool false)] rfl (by kernel_rfl) ?_ ?_
              · refine fsteps_cons 1 rfl (fun a u hE hD hk => f_as (show ((decide ((q.k : Int) = (2 : Int))) : Bool) = false from decide_eq_false h2) (f_val (o := ⟨some 64, _, _, _, _, _⟩) (.bool (decide ((q.k : Int) = (2 : Int)))) rfl (wanted_none rfl _) (exec_eqn (p := q.k) (q := 2) rfl (hE 39 (.int .i64 q.k) (by kernel_rfl) (by kernel_rfl)) rfl) rfl)) ?_
                exact fsteps_nil
              intro gv w8 hV k8
              rw [show dstsOf _ 1 = [64] by kernel_rfl]
              simp only [List.foldl_cons, List.foldl_nil, List.setIfInBounds_toArray, List.set_cons_succ, List.set_cons_zero, List.drop_succ_cons, List.drop_zero]
              rw [show gv 64 = .bool false from hV 0 64 (by kernel_rfl)]
              clear hV
              refine l_val (o := ⟨some 63, _, _, _, _, _⟩) (.bool false) rfl (exec_assign (.tmp 64) (.bool false) rfl (by kernel_rfl)) ?_
              simp only [Act.put, List.setIfInBounds_toArray, List.set_cons_succ, List.set_cons_zero]
              refine wpList_nil ?_
              have HP8 := Lib.hid (HP7.out.kept k8)
              have HC8 := Lib.hid (range_kept HC7.out k8)
              have z8 := k8.size
              clear HP7 HC7 k8
              go_upto_region 21 with fail
              refine wp_text 1 [.eq (.bool false)] rfl (by kernel_rfl) ?_ ?_
              · refine fsteps_cons 1 rfl (fun a u hE hD hk => f_as (show ((decide ((q.k : Int) = (3 : Int))) : Bool) = false from decide_eq_false h3) (f_val (o := ⟨some 92, _, _, _, _, _⟩) (.bool (decide ((q.k : Int) = (3 : Int)))) rfl (wanted_none rfl _) (exec_eqn (p := q.k) (q := 3) rfl (hE 39 (.int .i64 q.k) (by kernel_rfl) (by kernel_rfl)) rfl) rfl)) ?_
                exact fsteps_nil
              intro gv w9 hV k9
              rw [show dstsOf _ 1 = [92] by kernel_rfl]
              simp only [List.foldl_cons, List.foldl_nil, List.setIfInBounds_toArray, List.set_cons_succ, List.set_cons_zero, List.drop_succ_cons, List.drop_zero]
              rw [show gv 92 = .bool false from hV 0 92 (by kernel_rfl)]
              clear hV
              refine l_val (o := ⟨some 91, _, _, _, _, _⟩) (.bool false) rfl (exec_assign (.tmp 92) (.bool false) rfl (by kernel_rfl)) ?_
              simp only [Act.put, List.setIfInBounds_toArray, List.set_cons_succ, List.set_cons_zero]
              refine wpList_nil ?_
              have HP9 := Lib.hid (HP8.out.kept k9)
              have HC9 := Lib.hid (range_kept HC8.out k9)
              have z9 := k9.size
              clear HP8 HC8 k9
              go_upto_region 25 with fail
              refine wp_text 1 [.eq (.bool true)] rfl (by kernel_rfl) ?_ ?_
              · refine fsteps_cons 1 rfl (fun a u hE hD hk => f_as (show ((decide ((q.k : Int) = (4 : Int))) : Bool) = true from decide_eq_true h4) (f_val (o := ⟨some 120, _, _, _, _, _⟩) (.bool (decide ((q.k : Int) = (4 : Int)))) rfl (wanted_none rfl _) (exec_eqn (p := q.k) (q := 4) rfl (hE 39 (.int .i64 q.k) (by kernel_rfl) (by kernel_rfl)) rfl) rfl)) ?_
                exact fsteps_nil
              intro gv w10 hV k10
              rw [show dstsOf _ 1 = [120] by kernel_rfl]
              simp only [List.foldl_cons, List.foldl_nil, List.setIfInBounds_toArray, List.set_cons_succ, List.set_cons_zero, List.drop_succ_cons, List.drop_zero]
              rw [show gv 120 = .bool true from hV 0 120 (by kernel_rfl)]
              clear hV
              refine l_val (o := ⟨some 119, _, _, _, _, _⟩) (.bool true) rfl (exec_assign (.tmp 120) (.bool true) rfl (by kernel_rfl)) ?_
              simp only [Act.put, List.setIfInBounds_toArray, List.set_cons_succ, List.set_cons_zero]
              refine wpList_nil ?_
              have HP10 := Lib.hid (HP9.out.kept k10)
              have HC10 := Lib.hid (range_kept HC9.out k10)
              have z10 := k10.size
              clear HP9 HC9 k10
              clear h1 h2 h3 h4
              have HIT := Lib.hid (HI.out.less (by omega) q.a q.b q.c)
              have hnF : ¬ F b7 := fun h => by have := HFL.out b7 h; omega
              obtain ⟨tk, htk⟩ : ∃ tk, lessM q.a q.b q.c X = tk := ⟨_, rfl⟩
              have HTK := Lib.hid htk
              clear htk
              rw [HTK.out] at HIT
              obtain ⟨lb, Y⟩ := tk
              simp only at HIT
              go_upto_region 26 with fail
              refine wp_freeV 15 7 [0, 1, 2, 3, 4, 5, 6, 8, 9, 10, 11, 12, 13, 14] [.eq (.pointer (some ⟨p, 0, none⟩)), .eq (.pointer (some ⟨b7, 1, none⟩)), .eq (.int .i64 q.a), .eq (.pointer (some ⟨b7, 2, none⟩)), .eq (.int .i64 q.b), .eq (.pointer (some ⟨b7, 3, none⟩)), .eq (.int .i64 q.c), .both (.bool lb) (fun u => Lvl 58 61 u F p Y) (fun w w' h hk => h.kept hk), .eq (.pointer (some ⟨r, 0, none⟩)), .eq (.pointer (some ⟨b7, 1, none⟩)), .eq (.int .i64 q.a), .eq (.pointer (some ⟨b7, 2, none⟩)), .eq (.int .i64 q.b), .eq (.pointer (some ⟨b7, 3, none⟩)), .eq (.int .i64 q.c)] (F) (by kernel_rfl) rfl (by omega) (by kernel_rfl) (by kernel_rfl) ?_ ?_ (fun a u hE hD hk => v_call (o := ⟨some 128, _, _, _, _, _⟩) 21 #[.pointer (some ⟨p, 0, none⟩), .int .i64 q.a, .int .i64 q.b, .int .i64 q.c] rfl (wanted_none rfl _) (exec_call 21 _ [.tmp 121, .tmp 123, .tmp 125, .tmp 127] _ [.pointer (some ⟨p, 0, none⟩), .int .i64 q.a, .int .i64 q.b, .int .i64 q.c] Try.func21 (by kernel_rfl) (by kernel_rfl) rfl (show [a.eval (.tmp 121), a.eval (.tmp 123), a.eval (.tmp 125), a.eval (.tmp 127)] = [.pointer (some ⟨p, 0, none⟩), .int .i64 q.a, .int .i64 q.b, .int .i64 q.c] from (by rw [show a.eval (.tmp 121) = .pointer (some ⟨p, 0, none⟩) from (hD 0 121 (by kernel_rfl)), show a.eval (.tmp 123) = .int .i64 q.a from (hD 2 123 (by kernel_rfl)), show a.eval (.tmp 125) = .int .i64 q.b from (hD 4 125 (by kernel_rfl)), show a.eval (.tmp 127) = .int .i64 q.c from (hD 6 127 (by kernel_rfl))] <;> rfl)) u) ((less_any u F p X q.a q.b q.c (HP10.out.x.kept hk) HXG.out.len).mono (fun r w' ⟨h1, h2, h3, _⟩ => ⟨_, by rw [HTK.out] at h1; exact h1, ⟨rfl, by rw [HTK.out] at h2; exact h2⟩, h3⟩))) ?_
              · intro i hi
                have hi2 : i = 0 ∨ i = 1 ∨ i = 2 ∨ i = 3 ∨ i = 4 ∨ i = 5 ∨ i = 6 ∨ i = 8 ∨ i = 9 ∨ i = 10 ∨ i = 11 ∨ i = 12 ∨ i = 13 ∨ i = 14 := by simpa using hi
                rcases hi2 with rfl | rfl | rfl | rfl | rfl | rfl | rfl | rfl | rfl | rfl | rfl | rfl | rfl | rfl
                · exact Kn.safe_eq _ _
                · exact Kn.safe_eq _ _
                · exact Kn.safe_eq _ _
                · exact Kn.safe_eq _ _
                · exact Kn.safe_eq _ _
                · exact Kn.safe_eq _ _
                · exact Kn.safe_eq _ _
                · exact Kn.safe_eq _ _
                · exact Kn.safe_eq _ _
                · exact Kn.safe_eq _ _
                · exact Kn.safe_eq _ _
                · exact Kn.safe_eq _ _
                · exact Kn.safe_eq _ _
                · exact Kn.safe_eq _ _
              · refine vsteps_cons 1 rfl (fun a u hE hD hk => f_val (o := ⟨some 121, _, _, _, _, _⟩) (.pointer (some ⟨p, 0, none⟩)) rfl (wanted_none rfl _) (exec_move (.tmp 3) (.pointer (some ⟨p, 0, none⟩)) rfl (hE 3 (.pointer (some ⟨p, 0, none⟩)) (by kernel_rfl) (by kernel_rfl))) rfl) ?_
                refine vsteps_cons 2 rfl (fun a u hE hD hk => f_val (o := ⟨some 122, _, _, _, _, _⟩) (.pointer (some ⟨b7, 1, none⟩)) rfl (wanted_none rfl _) (exec_fldo 45 1 1 (.tmp 7) (b7) (0) (1) rfl (hE 7 (.pointer (some ⟨b7, 0, none⟩)) (by kernel_rfl) (by kernel_rfl)) (by kernel_rfl) rfl) rfl) ?_
                refine vsteps_cons 3 rfl (fun a u hE hD hk => f_val (o := ⟨some 123, _, _, _, _, _⟩) (.int .i64 q.a) rfl (wanted_none rfl _) (exec_loadi 3 Try.underlying3 (.tmp 122) ⟨b7, 1, none⟩ (.int .i64 q.a) rfl (hD 1 122 (by kernel_rfl)) (range_int (range_keep HC10.out hk (hnF)) 1 _ rfl)) rfl) ?_
                refine vsteps_cons 4 rfl (fun a u hE hD hk => f_val (o := ⟨some 124, _, _, _, _, _⟩) (.pointer (some ⟨b7, 2, none⟩)) rfl (wanted_none rfl _) (exec_fldo 45 2 2 (.tmp 7) (b7) (0) (2) rfl (hE 7 (.pointer (some ⟨b7, 0, none⟩)) (by kernel_rfl) (by kernel_rfl)) (by kernel_rfl) rfl) rfl) ?_
                refine vsteps_cons 5 rfl (fun a u hE hD hk => f_val (o := ⟨some 125, _, _, _, _, _⟩) (.int .i64 q.b) rfl (wanted_none rfl _) (exec_loadi 3 Try.underlying3 (.tmp 124) ⟨b7, 2, none⟩ (.int .i64 q.b) rfl (hD 3 124 (by kernel_rfl)) (range_int (range_keep HC10.out hk (hnF)) 2 _ rfl)) rfl) ?_
                refine vsteps_cons 6 rfl (fun a u hE hD hk => f_val (o := ⟨some 126, _, _, _, _, _⟩) (.pointer (some ⟨b7, 3, none⟩)) rfl (wanted_none rfl _) (exec_fldo 45 3 3 (.tmp 7) (b7) (0) (3) rfl (hE 7 (.pointer (some ⟨b7, 0, none⟩)) (by kernel_rfl) (by kernel_rfl)) (by kernel_rfl) rfl) rfl) ?_
                refine vsteps_cons 7 rfl (fun a u hE hD hk => f_val (o := ⟨some 127, _, _, _, _, _⟩) (.int .i64 q.c) rfl (wanted_none rfl _) (exec_loadi 3 Try.underlying3 (.tmp 126) ⟨b7, 3, none⟩ (.int .i64 q.c) rfl (hD 5 126 (by kernel_rfl)) (range_int (range_keep HC10.out hk (hnF)) 3 _ rfl)) rfl) ?_
                refine vsteps_turn 8 rfl rfl ?_
                refine vsteps_cons 9 rfl (fun a u hE hD hk => f_val (o := ⟨some 129, _, _, _, _, _⟩) (.pointer (some ⟨r, 0, none⟩)) rfl (wanted_none rfl _) (exec_move (.tmp 4) (.pointer (some ⟨r, 0, none⟩)) rfl (hE 4 (.pointer (some ⟨r, 0, none⟩)) (by kernel_rfl) (by kernel_rfl))) rfl) ?_
                refine vsteps_cons 10 rfl (fun a u hE hD hk => f_val (o := ⟨some 130, _, _, _, _, _⟩) (.pointer (some ⟨b7, 1, none⟩)) rfl (wanted_none rfl _) (exec_fldo 45 1 1 (.tmp 7) (b7) (0) (1) rfl (hE 7 (.pointer (some ⟨b7, 0, none⟩)) (by kernel_rfl) (by kernel_rfl)) (by kernel_rfl) rfl) rfl) ?_
                refine vsteps_cons 11 rfl (fun a u hE hD hk => f_val (o := ⟨some 131, _, _, _, _, _⟩) (.int .i64 q.a) rfl (wanted_none rfl _) (exec_loadi 3 Try.underlying3 (.tmp 130) ⟨b7, 1, none⟩ (.int .i64 q.a) rfl (hD 9 130 (by kernel_rfl)) (range_int (range_keep HC10.out hk (hnF)) 1 _ rfl)) rfl) ?_
                refine vsteps_cons 12 rfl (fun a u hE hD hk => f_val (o := ⟨some 132, _, _, _, _, _⟩) (.pointer (some ⟨b7, 2, none⟩)) rfl (wanted_none rfl _) (exec_fldo 45 2 2 (.tmp 7) (b7) (0) (2) rfl (hE 7 (.pointer (some ⟨b7, 0, none⟩)) (by kernel_rfl) (by kernel_rfl)) (by kernel_rfl) rfl) rfl) ?_
                refine vsteps_cons 13 rfl (fun a u hE hD hk => f_val (o := ⟨some 133, _, _, _, _, _⟩) (.int .i64 q.b) rfl (wanted_none rfl _) (exec_loadi 3 Try.underlying3 (.tmp 132) ⟨b7, 2, none⟩ (.int .i64 q.b) rfl (hD 11 132 (by kernel_rfl)) (range_int (range_keep HC10.out hk (hnF)) 2 _ rfl)) rfl) ?_
                refine vsteps_cons 14 rfl (fun a u hE hD hk => f_val (o := ⟨some 134, _, _, _, _, _⟩) (.pointer (some ⟨b7, 3, none⟩)) rfl (wanted_none rfl _) (exec_fldo 45 3 3 (.tmp 7) (b7) (0) (3) rfl (hE 7 (.pointer (some ⟨b7, 0, none⟩)) (by kernel_rfl) (by kernel_rfl)) (by kernel_rfl) rfl) rfl) ?_
                refine vsteps_cons 15 rfl (fun a u hE hD hk => f_val (o := ⟨some 135, _, _, _, _, _⟩) (.int .i64 q.c) rfl (wanted_none rfl _) (exec_loadi 3 Try.underlying3 (.tmp 134) ⟨b7, 3, none⟩ (.int .i64 q.c) rfl (hD 13 134 (by kernel_rfl)) (range_int (range_keep HC10.out hk (hnF)) 3 _ rfl)) rfl) ?_
                exact vsteps_nil
              intro gv w11 hV k11
              rw [show dstsOf _ 15 = [121, 122, 123, 124, 125, 126, 127, 128, 129, 130, 131, 132, 133, 134, 135] by kernel_rfl]
              simp only [List.foldl_cons, List.foldl_nil, List.setIfInBounds_toArray, List.set_cons_succ, List.set_cons_zero, List.drop_succ_cons, List.drop_zero]
              rw [show gv 129 = .pointer (some ⟨r, 0, none⟩) from hV 8 129 (by kernel_rfl)]
              rw [show gv 131 = .int .i64 q.a from hV 10 131 (by kernel_rfl)]
              rw [show gv 133 = .int .i64 q.b from hV 12 133 (by kernel_rfl)]
              rw [show gv 135 = .int .i64 q.c from hV 14 135 (by kernel_rfl)]
              have hi128 : (fun u => Lvl 58 61 u F p Y) w11 := (hV 7 128 (by kernel_rfl)).2
              rw [show gv 128 = .bool lb from (hV 7 128 (by kernel_rfl)).1]
              clear hV
              have HP11 := Lib.hid (HP10.out.stepX hi128 (Grow.refl _ _) k11)
              refine l_call (o := ⟨some 136, _, _, _, _, _⟩) 22 #[.pointer (some ⟨r, 0, none⟩), .int .i64 q.a, .int .i64 q.b, .int .i64 q.c] rfl (exec_call 22 _ [.tmp 129, .tmp 131, .tmp 133, .tmp 135] _ _ Try.func22 (by kernel_rfl) (by kernel_rfl) rfl (by kernel_rfl) _) ?_
              refine (rless_any w11 G r X q.a q.b q.c HP11.out.y HXG.out.len).mono ?_
              rintro r0 w12 ⟨G2, hr0, hL12, hG12, hk12⟩
              rw [HTK.out] at hr0 hL12
              subst hr0
              refine ⟨_, rfl, ?_⟩
              simp only [Act.put, List.setIfInBounds_toArray, List.set_cons_succ, List.set_cons_zero]
              refine l_val (o := ⟨some 137, _, _, _, _, _⟩) (.bool true) rfl (exec_eqb (.tmp 128) (.tmp 136) _ lb lb true rfl (by kernel_rfl) (by kernel_rfl) (by simp)) ?_
              simp only [Act.put, List.setIfInBounds_toArray, List.set_cons_succ, List.set_cons_zero]
              refine l_val (o := ⟨some 8, _, _, _, _, _⟩) (.bool true) rfl (exec_assign (.tmp 137) (.bool true) rfl (by kernel_rfl)) ?_
              simp only [Act.put, List.setIfInBounds_toArray, List.set_cons_succ, List.set_cons_zero]
              refine wpList_nil ?_
              have HP12 := Lib.hid (HP11.out.stepY hL12 hG12 hk12)
              have HI2 := HIT
              have HYG := Lib.hid (HI2.out.good (by omega))
              clear hL12 hG12 hk12 hi128 k11 HP11 HP10 HC10 HIT HI HXG HFL HGL HTK
              obtain ⟨_, _, vy, hBy, hSy, _⟩ := HP12.out.y
              obtain ⟨ny, hny⟩ : ∃ ny, Y.length = ny := ⟨_, rfl⟩
              rw [hny] at hSy
              have HBy := Lib.hid hBy
              have HSy := Lib.hid hSy
              have HNy := Lib.hid hny
              clear hBy hSy hny
              go_upto_region 27 with fail
              refine wp_free 38 [.eq (.bool true), .eq (.bool false), .eq (.bool false), .eq (.pointer (some ⟨p, 0, none⟩)), .eq (.int .i64 7), .eq (.bool false), .eq (.bool false), .eq (.bool false), .eq (.pointer (some ⟨p, 0, none⟩)), .eq (.int .i64 (seenM Y)), .eq (.pointer (some ⟨r, 0, none⟩)), .eq (.int .i64 (seenM Y)), .eq (.bool false), .eq (.bool false), .eq (.bool false), .eq (.pointer (some ⟨p, 0, none⟩)), .eq (.int .i64 (wholeM Y)), .eq (.pointer (some ⟨r, 0, none⟩)), .eq (.int .i64 (wholeM Y)), .eq (.bool false), .eq (.bool false), .eq (.bool false), .eq (.pointer (some ⟨p, 0, none⟩)), .eq (.int .i64 (Y.length : Int)), .eq (.pointer (some ⟨r, 0, none⟩)), .eq (.pointer (some ⟨r, 0, none⟩)), .eq (.pointer (some ⟨r, 1, none⟩)), .eq (vy), .eq (.int .i64 (ny : Int)), .eq (.bool false), .eq (.bool false), .eq (.bool false), .eq (.pointer (some ⟨p, 0, none⟩)), .sl 0 25 9 Y.length (ords (Y.map (·.o))), .eq (.pointer (some ⟨r, 0, none⟩)), .sl 0 25 9 Y.length (ords (Y.map (·.o))), .eq (.bool true), .eq (.bool false)] (by kernel_rfl) rfl (by kernel_rfl) ?_ ?_
              · refine fsteps_cons 1 rfl (fun a u hE hD hk => f_val (o := ⟨some 138, _, _, _, _, _⟩) (.bool true) rfl (wanted_none rfl _) (exec_move (.tmp 8) (.bool true) rfl (hE 8 (.bool true) (by kernel_rfl) (by kernel_rfl))) rfl) ?_
                refine fsteps_cons 2 rfl (fun a u hE hD hk => f_val (o := ⟨some 139, _, _, _, _, _⟩) (.bool false) rfl (wanted_none rfl _) (exec_not _ (.tmp 138) true rfl (hD 0 138 (by kernel_rfl))) rfl) ?_
                refine fsteps_cons 3 rfl (fun a u hE hD hk => f_val (o := ⟨some 140, _, _, _, _, _⟩) (.bool false) rfl (wanted_none rfl _) (exec_move (.tmp 139) (.bool false) rfl (hD 1 139 (by kernel_rfl))) rfl) ?_
                refine fsteps_cons 4 rfl (fun a u hE hD hk => f_val (o := ⟨some 141, _, _, _, _, _⟩) (.pointer (some ⟨p, 0, none⟩)) rfl (wanted_at (b := false) false rfl rfl (hD 2 140 (by kernel_rfl))) (exec_move (.tmp 3) (.pointer (some ⟨p, 0, none⟩)) rfl (hE 3 (.pointer (some ⟨p, 0, none⟩)) (by kernel_rfl) (by kernel_rfl))) rfl) ?_
                refine fsteps_cons 5 rfl (fun a u hE hD hk => f_call (o := ⟨some 142, _, _, _, _, _⟩) 23 #[.pointer (some ⟨p, 0, none⟩)] rfl (wanted_at (b := false) false rfl rfl (hD 2 140 (by kernel_rfl))) (exec_call 23 _ [.tmp 141] _ [.pointer (some ⟨p, 0, none⟩)] Try.func23 (by kernel_rfl) (by kernel_rfl) rfl (show [a.eval (.tmp 141)] = [.pointer (some ⟨p, 0, none⟩)] from (by rw [show a.eval (.tmp 141) = .pointer (some ⟨p, 0, none⟩) from (hD 3 141 (by kernel_rfl))] <;> rfl)) u) (price_any u F p Y (HP12.out.x.kept hk))) ?_
                refine fsteps_cons 6 rfl (fun a u hE hD hk => f_as (show ((decide ((7 : Int) ≠ (7 : Int))) : Bool) = false from rfl) (f_val (o := ⟨some 143, _, _, _, _, _⟩) (.bool (decide ((7 : Int) ≠ (7 : Int)))) rfl (wanted_at (b := false) false rfl rfl (hD 2 140 (by kernel_rfl))) (exec_nen (p := 7) (q := 7) rfl (hD 4 142 (by kernel_rfl)) rfl) rfl)) ?_
                refine fsteps_cons 7 rfl (fun a u hE hD hk => f_val (o := ⟨some 144, _, _, _, _, _⟩) (.bool false) rfl (wanted_none rfl _) (exec_pickF (.tmp 140) (.const (.bool true)) (.tmp 143) (.bool false) rfl (hD 2 140 (by kernel_rfl)) (hD 5 143 (by kernel_rfl))) rfl) ?_
                refine fsteps_cons 8 rfl (fun a u hE hD hk => f_val (o := ⟨some 145, _, _, _, _, _⟩) (.bool false) rfl (wanted_none rfl _) (exec_move (.tmp 144) (.bool false) rfl (hD 6 144 (by kernel_rfl))) rfl) ?_
                refine fsteps_cons 9 rfl (fun a u hE hD hk => f_val (o := ⟨some 146, _, _, _, _, _⟩) (.pointer (some ⟨p, 0, none⟩)) rfl (wanted_at (b := false) false rfl rfl (hD 7 145 (by kernel_rfl))) (exec_move (.tmp 3) (.pointer (some ⟨p, 0, none⟩)) rfl (hE 3 (.pointer (some ⟨p, 0, none⟩)) (by kernel_rfl) (by kernel_rfl))) rfl) ?_
                refine fsteps_cons 10 rfl (fun a u hE hD hk => f_call (o := ⟨some 147, _, _, _, _, _⟩) 12 #[.pointer (some ⟨p, 0, none⟩)] rfl (wanted_at (b := false) false rfl rfl (hD 7 145 (by kernel_rfl))) (exec_call 12 _ [.tmp 146] _ [.pointer (some ⟨p, 0, none⟩)] Try.func12 (by kernel_rfl) (by kernel_rfl) rfl (show [a.eval (.tmp 146)] = [.pointer (some ⟨p, 0, none⟩)] from (by rw [show a.eval (.tmp 146) = .pointer (some ⟨p, 0, none⟩) from (hD 8 146 (by kernel_rfl))] <;> rfl)) u) (seen_any u F p Y (HP12.out.x.kept hk) HYG.out)) ?_
                refine fsteps_cons 11 rfl (fun a u hE hD hk => f_val (o := ⟨some 148, _, _, _, _, _⟩) (.pointer (some ⟨r, 0, none⟩)) rfl (wanted_at (b := false) false rfl rfl (hD 7 145 (by kernel_rfl))) (exec_move (.tmp 4) (.pointer (some ⟨r, 0, none⟩)) rfl (hE 4 (.pointer (some ⟨r, 0, none⟩)) (by kernel_rfl) (by kernel_rfl))) rfl) ?_
                refine fsteps_cons 12 rfl (fun a u hE hD hk => f_call (o := ⟨some 149, _, _, _, _, _⟩) 24 #[.pointer (some ⟨r, 0, none⟩)] rfl (wanted_at (b := false) false rfl rfl (hD 7 145 (by kernel_rfl))) (exec_call 24 _ [.tmp 148] _ [.pointer (some ⟨r, 0, none⟩)] Try.func24 (by kernel_rfl) (by kernel_rfl) rfl (show [a.eval (.tmp 148)] = [.pointer (some ⟨r, 0, none⟩)] from (by rw [show a.eval (.tmp 148) = .pointer (some ⟨r, 0, none⟩) from (hD 10 148 (by kernel_rfl))] <;> rfl)) u) (rseen_any u G2 r Y (HP12.out.y.kept hk) HYG.out)) ?_
                refine fsteps_cons 13 rfl (fun a u hE hD hk => f_as (show ((decide (((seenM Y) : Int) ≠ ((seenM Y) : Int))) : Bool) = false from decide_eq_false (fun h => h rfl)) (f_val (o := ⟨some 150, _, _, _, _, _⟩) (.bool (decide (((seenM Y) : Int) ≠ ((seenM Y) : Int)))) rfl (wanted_at (b := false) false rfl rfl (hD 7 145 (by kernel_rfl))) (exec_nen (p := (seenM Y)) (q := (seenM Y)) rfl (hD 9 147 (by kernel_rfl)) (hD 11 149 (by kernel_rfl))) rfl)) ?_
                refine fsteps_cons 14 rfl (fun a u hE hD hk => f_val (o := ⟨some 151, _, _, _, _, _⟩) (.bool false) rfl (wanted_none rfl _) (exec_pickF (.tmp 145) (.const (.bool true)) (.tmp 150) (.bool false) rfl (hD 7 145 (by kernel_rfl)) (hD 12 150 (by kernel_rfl))) rfl) ?_
                refine fsteps_cons 15 rfl (fun a u hE hD hk => f_val (o := ⟨some 152, _, _, _, _, _⟩) (.bool false) rfl (wanted_none rfl _) (exec_move (.tmp 151) (.bool false) rfl (hD 13 151 (by kernel_rfl))) rfl) ?_
                refine fsteps_cons 16 rfl (fun a u hE hD hk => f_val (o := ⟨some 153, _, _, _, _, _⟩) (.pointer (some ⟨p, 0, none⟩)) rfl (wanted_at (b := false) false rfl rfl (hD 14 152 (by kernel_rfl))) (exec_move (.tmp 3) (.pointer (some ⟨p, 0, none⟩)) rfl (hE 3 (.pointer (some ⟨p, 0, none⟩)) (by kernel_rfl) (by kernel_rfl))) rfl) ?_
                refine fsteps_cons 17 rfl (fun a u hE hD hk => f_call (o := ⟨some 154, _, _, _, _, _⟩) 25 #[.pointer (some ⟨p, 0, none⟩)] rfl (wanted_at (b := false) false rfl rfl (hD 14 152 (by kernel_rfl))) (exec_call 25 _ [.tmp 153] _ [.pointer (some ⟨p, 0, none⟩)] Try.func25 (by kernel_rfl) (by kernel_rfl) rfl (show [a.eval (.tmp 153)] = [.pointer (some ⟨p, 0, none⟩)] from (by rw [show a.eval (.tmp 153) = .pointer (some ⟨p, 0, none⟩) from (hD 15 153 (by kernel_rfl))] <;> rfl)) u) (whole_any u F p Y (HP12.out.x.kept hk) HYG.out)) ?_
                refine fsteps_cons 18 rfl (fun a u hE hD hk => f_val (o := ⟨some 155, _, _, _, _, _⟩) (.pointer (some ⟨r, 0, none⟩)) rfl (wanted_at (b := false) false rfl rfl (hD 14 152 (by kernel_rfl))) (exec_move (.tmp 4) (.pointer (some ⟨r, 0, none⟩)) rfl (hE 4 (.pointer (some ⟨r, 0, none⟩)) (by kernel_rfl) (by kernel_rfl))) rfl) ?_
                refine fsteps_cons 19 rfl (fun a u hE hD hk => f_call (o := ⟨some 156, _, _, _, _, _⟩) 26 #[.pointer (some ⟨r, 0, none⟩)] rfl (wanted_at (b := false) false rfl rfl (hD 14 152 (by kernel_rfl))) (exec_call 26 _ [.tmp 155] _ [.pointer (some ⟨r, 0, none⟩)] Try.func26 (by kernel_rfl) (by kernel_rfl) rfl (show [a.eval (.tmp 155)] = [.pointer (some ⟨r, 0, none⟩)] from (by rw [show a.eval (.tmp 155) = .pointer (some ⟨r, 0, none⟩) from (hD 17 155 (by kernel_rfl))] <;> rfl)) u) (rwhole_any u G2 r Y (HP12.out.y.kept hk) HYG.out)) ?_
                refine fsteps_cons 20 rfl (fun a u hE hD hk => f_as (show ((decide (((wholeM Y) : Int) ≠ ((wholeM Y) : Int))) : Bool) = false from decide_eq_false (fun h => h rfl)) (f_val (o := ⟨some 157, _, _, _, _, _⟩) (.bool (decide (((wholeM Y) : Int) ≠ ((wholeM Y) : Int)))) rfl (wanted_at (b := false) false rfl rfl (hD 14 152 (by kernel_rfl))) (exec_nen (p := (wholeM Y)) (q := (wholeM Y)) rfl (hD 16 154 (by kernel_rfl)) (hD 18 156 (by kernel_rfl))) rfl)) ?_
                refine fsteps_cons 21 rfl (fun a u hE hD hk => f_val (o := ⟨some 158, _, _, _, _, _⟩) (.bool false) rfl (wanted_none rfl _) (exec_pickF (.tmp 152) (.const (.bool true)) (.tmp 157) (.bool false) rfl (hD 14 152 (by kernel_rfl)) (hD 19 157 (by kernel_rfl))) rfl) ?_
                refine fsteps_cons 22 rfl (fun a u hE hD hk => f_val (o := ⟨some 159, _, _, _, _, _⟩) (.bool false) rfl (wanted_none rfl _) (exec_move (.tmp 158) (.bool false) rfl (hD 20 158 (by kernel_rfl))) rfl) ?_
                refine fsteps_cons 23 rfl (fun a u hE hD hk => f_val (o := ⟨some 160, _, _, _, _, _⟩) (.pointer (some ⟨p, 0, none⟩)) rfl (wanted_at (b := false) false rfl rfl (hD 21 159 (by kernel_rfl))) (exec_move (.tmp 3) (.pointer (some ⟨p, 0, none⟩)) rfl (hE 3 (.pointer (some ⟨p, 0, none⟩)) (by kernel_rfl) (by kernel_rfl))) rfl) ?_
                refine fsteps_cons 24 rfl (fun a u hE hD hk => f_call (o := ⟨some 161, _, _, _, _, _⟩) 27 #[.pointer (some ⟨p, 0, none⟩)] rfl (wanted_at (b := false) false rfl rfl (hD 21 159 (by kernel_rfl))) (exec_call 27 _ [.tmp 160] _ [.pointer (some ⟨p, 0, none⟩)] Try.func27 (by kernel_rfl) (by kernel_rfl) rfl (show [a.eval (.tmp 160)] = [.pointer (some ⟨p, 0, none⟩)] from (by rw [show a.eval (.tmp 160) = .pointer (some ⟨p, 0, none⟩) from (hD 22 160 (by kernel_rfl))] <;> rfl)) u) (len_any u F p Y (HP12.out.x.kept hk))) ?_
                refine fsteps_cons 25 rfl (fun a u hE hD hk => f_val (o := ⟨some 162, _, _, _, _, _⟩) (.pointer (some ⟨r, 0, none⟩)) rfl (wanted_at (b := false) false rfl rfl (hD 21 159 (by kernel_rfl))) (exec_move (.tmp 4) (.pointer (some ⟨r, 0, none⟩)) rfl (hE 4 (.pointer (some ⟨r, 0, none⟩)) (by kernel_rfl) (by kernel_rfl))) rfl) ?_
                refine fsteps_cons 26 rfl (fun a u hE hD hk => f_val (o := ⟨some 163, _, _, _, _, _⟩) (.pointer (some ⟨r, 0, none⟩)) rfl (wanted_at (b := false) false rfl rfl (hD 21 159 (by kernel_rfl))) (exec_nilp (.tmp 162) ⟨r, 0, none⟩ rfl (hD 24 162 (by kernel_rfl))) rfl) ?_
                refine fsteps_cons 27 rfl (fun a u hE hD hk => f_val (o := ⟨some 164, _, _, _, _, _⟩) (.pointer (some ⟨r, 1, none⟩)) rfl (wanted_at (b := false) false rfl rfl (hD 21 159 (by kernel_rfl))) (exec_fldo 42 1 1 (.tmp 163) (r) (0) (1) rfl (hD 25 163 (by kernel_rfl)) (by kernel_rfl) rfl) rfl) ?_
                refine fsteps_cons 28 rfl (fun a u hE hD hk => f_val (o := ⟨some 165, _, _, _, _, _⟩) (vy) rfl (wanted_at (b := false) false rfl rfl (hD 21 159 (by kernel_rfl))) (exec_ldv 40 _ Try.underlying40 (.tmp 164) ⟨r, 1, none⟩ (vy) rfl (hD 26 164 (by kernel_rfl)) (by rw [(HBy.out.kept hk).cell]; rfl)) rfl) ?_
                refine fsteps_cons 29 rfl (fun a u hE hD hk => f_val (o := ⟨some 166, _, _, _, _, _⟩) (.int .i64 (ny : Int)) rfl (wanted_at (b := false) false rfl rfl (hD 21 159 (by kernel_rfl))) (exec_lenS (.tmp 165) slR (vy) (ny) _ _ rfl (hD 27 165 (by kernel_rfl)) HSy.out) rfl) ?_
                refine fsteps_cons 30 rfl (fun a u hE hD hk => f_as (show ((decide (((Y.length : Int) : Int) ≠ ((ny : Int) : Int))) : Bool) = false from decide_eq_false (fun h => h (by rw [HNy.out]))) (f_val (o := ⟨some 167, _, _, _, _, _⟩) (.bool (decide (((Y.length : Int) : Int) ≠ ((ny : Int) : Int)))) rfl (wanted_at (b := false) false rfl rfl (hD 21 159 (by kernel_rfl))) (exec_nen (p := (Y.length : Int)) (q := (ny : Int)) rfl (hD 23 161 (by kernel_rfl)) (hD 28 166 (by kernel_rfl))) rfl)) ?_
                refine fsteps_cons 31 rfl (fun a u hE hD hk => f_val (o := ⟨some 168, _, _, _, _, _⟩) (.bool false) rfl (wanted_none rfl _) (exec_pickF (.tmp 159) (.const (.bool true)) (.tmp 167) (.bool false) rfl (hD 21 159 (by kernel_rfl)) (hD 29 167 (by kernel_rfl))) rfl) ?_
                refine fsteps_cons 32 rfl (fun a u hE hD hk => f_val (o := ⟨some 169, _, _, _, _, _⟩) (.bool false) rfl (wanted_none rfl _) (exec_move (.tmp 168) (.bool false) rfl (hD 30 168 (by kernel_rfl))) rfl) ?_
                refine fsteps_cons 33 rfl (fun a u hE hD hk => f_val (o := ⟨some 170, _, _, _, _, _⟩) (.pointer (some ⟨p, 0, none⟩)) rfl (wanted_at (b := false) false rfl rfl (hD 31 169 (by kernel_rfl))) (exec_move (.tmp 3) (.pointer (some ⟨p, 0, none⟩)) rfl (hE 3 (.pointer (some ⟨p, 0, none⟩)) (by kernel_rfl) (by kernel_rfl))) rfl) ?_
                refine fsteps_cons 34 rfl (fun a u hE hD hk => f_call (o := ⟨some 171, _, _, _, _, _⟩) 13 #[.pointer (some ⟨p, 0, none⟩)] rfl (wanted_at (b := false) false rfl rfl (hD 31 169 (by kernel_rfl))) (exec_call 13 _ [.tmp 170] _ [.pointer (some ⟨p, 0, none⟩)] Try.func13 (by kernel_rfl) (by kernel_rfl) rfl (show [a.eval (.tmp 170)] = [.pointer (some ⟨p, 0, none⟩)] from (by rw [show a.eval (.tmp 170) = .pointer (some ⟨p, 0, none⟩) from (hD 32 170 (by kernel_rfl))] <;> rfl)) u) ((orders_any u F p Y (HP12.out.x.kept hk) HYG.out).mono (fun e w' ⟨v, h1, h2, h3⟩ => ⟨v, h1, ⟨h2.1, fun b hb => Nat.zero_le _⟩, h3⟩))) ?_
                refine fsteps_cons 35 rfl (fun a u hE hD hk => f_val (o := ⟨some 172, _, _, _, _, _⟩) (.pointer (some ⟨r, 0, none⟩)) rfl (wanted_at (b := false) false rfl rfl (hD 31 169 (by kernel_rfl))) (exec_move (.tmp 4) (.pointer (some ⟨r, 0, none⟩)) rfl (hE 4 (.pointer (some ⟨r, 0, none⟩)) (by kernel_rfl) (by kernel_rfl))) rfl) ?_
                refine fsteps_cons 36 rfl (fun a u hE hD hk => f_call (o := ⟨some 173, _, _, _, _, _⟩) 28 #[.pointer (some ⟨r, 0, none⟩)] rfl (wanted_at (b := false) false rfl rfl (hD 31 169 (by kernel_rfl))) (exec_call 28 _ [.tmp 172] _ [.pointer (some ⟨r, 0, none⟩)] Try.func28 (by kernel_rfl) (by kernel_rfl) rfl (show [a.eval (.tmp 172)] = [.pointer (some ⟨r, 0, none⟩)] from (by rw [show a.eval (.tmp 172) = .pointer (some ⟨r, 0, none⟩) from (hD 34 172 (by kernel_rfl))] <;> rfl)) u) ((rorders_any u G2 r Y (HP12.out.y.kept hk) HYG.out).mono (fun e w' ⟨v, h1, h2, h3⟩ => ⟨v, h1, ⟨h2.1, fun b hb => Nat.zero_le _⟩, h3⟩))) ?_
                refine fsteps_cons 37 rfl (fun a u hE hD hk => f_call (o := ⟨some 174, _, _, _, _, _⟩) 15 #[a.eval (.tmp 171), a.eval (.tmp 173)] rfl (wanted_at (b := false) false rfl rfl (hD 31 169 (by kernel_rfl))) (exec_call 15 _ [.tmp 171, .tmp 173] _ [a.eval (.tmp 171), a.eval (.tmp 173)] Try.func15 (by kernel_rfl) (by kernel_rfl) rfl rfl u) (same_self _ _ Y u ((hD 33 171 (by kernel_rfl))).1 ((hD 35 173 (by kernel_rfl))).1 HYG.out.len)) ?_
                refine fsteps_cons 38 rfl (fun a u hE hD hk => f_val (o := ⟨some 175, _, _, _, _, _⟩) (.bool false) rfl (wanted_at (b := false) false rfl rfl (hD 31 169 (by kernel_rfl))) (exec_not _ (.tmp 174) true rfl (hD 36 174 (by kernel_rfl))) rfl) ?_
                exact fsteps_nil
              intro gv wz hV kz
              rw [show dstsOf _ 38 = [138, 139, 140, 141, 142, 143, 144, 145, 146, 147, 148, 149, 150, 151, 152, 153, 154, 155, 156, 157, 158, 159, 160, 161, 162, 163, 164, 165, 166, 167, 168, 169, 170, 171, 172, 173, 174, 175] by kernel_rfl]
              simp only [List.foldl_cons, List.foldl_nil, List.setIfInBounds_toArray, List.set_cons_succ, List.set_cons_zero, List.drop_succ_cons, List.drop_zero]
              rw [show gv 169 = .bool false from hV 31 169 (by kernel_rfl)]
              rw [show gv 175 = .bool false from hV 37 175 (by kernel_rfl)]
              clear hV
              refine l_val (o := ⟨some 176, _, _, _, _, _⟩) (.bool false) rfl (exec_pickF (.tmp 169) (.const (.bool true)) (.tmp 175) (.bool false) rfl (by kernel_rfl) (by kernel_rfl)) ?_
              simp only [Act.put, List.setIfInBounds_toArray, List.set_cons_succ, List.set_cons_zero]
              refine wpList_nil ?_
              have HPz := Lib.hid (HP12.out.kept kz)
              clear HP12 kz HBy HSy HNy
              go_wp2
              exact ⟨⟨i + 1, F, G2, Y, K, by go_num, by omega, by omega, HPz, HI2⟩, by simp [intOf]; omega⟩
            · skip

              go_upto_region 11 with fail
              refine wp_text 1 [.eq (.bool false)] rfl (by kernel_rfl) ?_ ?_
              · refine fsteps_cons 1 rfl (fun a u hE hD hk => f_as (show ((decide ((q.k : Int) = (1 : Int))) : Bool) = false from decide_eq_false h1) (f_val (o := ⟨some 41, _, _, _, _, _⟩) (.bool (decide ((q.k : Int) = (1 : Int)))) rfl (wanted_none rfl _) (exec_eqn (p := q.k) (q := 1) rfl (hE 39 (.int .i64 q.k) (by kernel_rfl) (by kernel_rfl)) rfl) rfl)) ?_
                exact fsteps_nil
              intro gv w7 hV k7
              rw [show dstsOf _ 1 = [41] by kernel_rfl]
              simp only [List.foldl_cons, List.foldl_nil, List.setIfInBounds_toArray, List.set_cons_succ, List.set_cons_zero, List.drop_succ_cons, List.drop_zero]
              rw [show gv 41 = .bool false from hV 0 41 (by kernel_rfl)]
              clear hV
              refine l_val (o := ⟨some 40, _, _, _, _, _⟩) (.bool false) rfl (exec_assign (.tmp 41) (.bool false) rfl (by kernel_rfl)) ?_
              simp only [Act.put, List.setIfInBounds_toArray, List.set_cons_succ, List.set_cons_zero]
              refine wpList_nil ?_
              have HP7 := Lib.hid (HP6.out.kept k7)
              have HC7 := Lib.hid (range_kept HC6.out k7)
              have z7 := k7.size
              clear HP6 HC6 k7
              go_upto_region 17 with fail
              refine wp_text 1 [.eq (.bool false)] rfl (by kernel_rfl) ?_ ?_
              · refine fsteps_cons 1 rfl (fun a u hE hD hk => f_as (show ((decide ((q.k : Int) = (2 : Int))) : Bool) = false from decide_eq_false h2) (f_val (o := ⟨some 64, _, _, _, _, _⟩) (.bool (decide ((q.k : Int) = (2 : Int)))) rfl (wanted_none rfl _) (exec_eqn (p := q.k) (q := 2) rfl (hE 39 (.int .i64 q.k) (by kernel_rfl) (by kernel_rfl)) rfl) rfl)) ?_
                exact fsteps_nil
              intro gv w8 hV k8
              rw [show dstsOf _ 1 = [64] by kernel_rfl]
              simp only [List.foldl_cons, List.foldl_nil, List.setIfInBounds_toArray, List.set_cons_succ, List.set_cons_zero, List.drop_succ_cons, List.drop_zero]
              rw [show gv 64 = .bool false from hV 0 64 (by kernel_rfl)]
              clear hV
              refine l_val (o := ⟨some 63, _, _, _, _, _⟩) (.bool false) rfl (exec_assign (.tmp 64) (.bool false) rfl (by kernel_rfl)) ?_
              simp only [Act.put, List.setIfInBounds_toArray, List.set_cons_succ, List.set_cons_zero]
              refine wpList_nil ?_
              have HP8 := Lib.hid (HP7.out.kept k8)
              have HC8 := Lib.hid (range_kept HC7.out k8)
              have z8 := k8.size
              clear HP7 HC7 k8
              go_upto_region 21 with fail
              refine wp_text 1 [.eq (.bool false)] rfl (by kernel_rfl) ?_ ?_
              · refine fsteps_cons 1 rfl (fun a u hE hD hk => f_as (show ((decide ((q.k : Int) = (3 : Int))) : Bool) = false from decide_eq_false h3) (f_val (o := ⟨some 92, _, _, _, _, _⟩) (.bool (decide ((q.k : Int) = (3 : Int)))) rfl (wanted_none rfl _) (exec_eqn (p := q.k) (q := 3) rfl (hE 39 (.int .i64 q.k) (by kernel_rfl) (by kernel_rfl)) rfl) rfl)) ?_
                exact fsteps_nil
              intro gv w9 hV k9
              rw [show dstsOf _ 1 = [92] by kernel_rfl]
              simp only [List.foldl_cons, List.foldl_nil, List.setIfInBounds_toArray, List.set_cons_succ, List.set_cons_zero, List.drop_succ_cons, List.drop_zero]
              rw [show gv 92 = .bool false from hV 0 92 (by kernel_rfl)]
              clear hV
              refine l_val (o := ⟨some 91, _, _, _, _, _⟩) (.bool false) rfl (exec_assign (.tmp 92) (.bool false) rfl (by kernel_rfl)) ?_
              simp only [Act.put, List.setIfInBounds_toArray, List.set_cons_succ, List.set_cons_zero]
              refine wpList_nil ?_
              have HP9 := Lib.hid (HP8.out.kept k9)
              have HC9 := Lib.hid (range_kept HC8.out k9)
              have z9 := k9.size
              clear HP8 HC8 k9
              go_upto_region 25 with fail
              refine wp_text 1 [.eq (.bool false)] rfl (by kernel_rfl) ?_ ?_
              · refine fsteps_cons 1 rfl (fun a u hE hD hk => f_as (show ((decide ((q.k : Int) = (4 : Int))) : Bool) = false from decide_eq_false h4) (f_val (o := ⟨some 120, _, _, _, _, _⟩) (.bool (decide ((q.k : Int) = (4 : Int)))) rfl (wanted_none rfl _) (exec_eqn (p := q.k) (q := 4) rfl (hE 39 (.int .i64 q.k) (by kernel_rfl) (by kernel_rfl)) rfl) rfl)) ?_
                exact fsteps_nil
              intro gv w10 hV k10
              rw [show dstsOf _ 1 = [120] by kernel_rfl]
              simp only [List.foldl_cons, List.foldl_nil, List.setIfInBounds_toArray, List.set_cons_succ, List.set_cons_zero, List.drop_succ_cons, List.drop_zero]
              rw [show gv 120 = .bool false from hV 0 120 (by kernel_rfl)]
              clear hV
              refine l_val (o := ⟨some 119, _, _, _, _, _⟩) (.bool false) rfl (exec_assign (.tmp 120) (.bool false) rfl (by kernel_rfl)) ?_
              simp only [Act.put, List.setIfInBounds_toArray, List.set_cons_succ, List.set_cons_zero]
              refine wpList_nil ?_
              have HP10 := Lib.hid (HP9.out.kept k10)
              have HC10 := Lib.hid (range_kept HC9.out k10)
              have z10 := k10.size
              clear HP9 HC9 k10
              clear h1 h2 h3 h4
              have HI2 := Lib.hid HI.out.next
              have HYG := HXG
              clear HC10 HI HXG HFL HGL
              obtain ⟨_, _, vy, hBy, hSy, _⟩ := HP10.out.y
              obtain ⟨ny, hny⟩ : ∃ ny, X.length = ny := ⟨_, rfl⟩
              rw [hny] at hSy
              have HBy := Lib.hid hBy
              have HSy := Lib.hid hSy
              have HNy := Lib.hid hny
              clear hBy hSy hny
              go_upto_region 27 with fail
              refine wp_free 38 [.eq (.bool true), .eq (.bool false), .eq (.bool false), .eq (.pointer (some ⟨p, 0, none⟩)), .eq (.int .i64 7), .eq (.bool false), .eq (.bool false), .eq (.bool false), .eq (.pointer (some ⟨p, 0, none⟩)), .eq (.int .i64 (seenM X)), .eq (.pointer (some ⟨r, 0, none⟩)), .eq (.int .i64 (seenM X)), .eq (.bool false), .eq (.bool false), .eq (.bool false), .eq (.pointer (some ⟨p, 0, none⟩)), .eq (.int .i64 (wholeM X)), .eq (.pointer (some ⟨r, 0, none⟩)), .eq (.int .i64 (wholeM X)), .eq (.bool false), .eq (.bool false), .eq (.bool false), .eq (.pointer (some ⟨p, 0, none⟩)), .eq (.int .i64 (X.length : Int)), .eq (.pointer (some ⟨r, 0, none⟩)), .eq (.pointer (some ⟨r, 0, none⟩)), .eq (.pointer (some ⟨r, 1, none⟩)), .eq (vy), .eq (.int .i64 (ny : Int)), .eq (.bool false), .eq (.bool false), .eq (.bool false), .eq (.pointer (some ⟨p, 0, none⟩)), .sl 0 25 9 X.length (ords (X.map (·.o))), .eq (.pointer (some ⟨r, 0, none⟩)), .sl 0 25 9 X.length (ords (X.map (·.o))), .eq (.bool true), .eq (.bool false)] (by kernel_rfl) rfl (by kernel_rfl) ?_ ?_
              · refine fsteps_cons 1 rfl (fun a u hE hD hk => f_val (o := ⟨some 138, _, _, _, _, _⟩) (.bool true) rfl (wanted_none rfl _) (exec_move (.tmp 8) (.bool true) rfl (hE 8 (.bool true) (by kernel_rfl) (by kernel_rfl))) rfl) ?_
                refine fsteps_cons 2 rfl (fun a u hE hD hk => f_val (o := ⟨some 139, _, _, _, _, _⟩) (.bool false) rfl (wanted_none rfl _) (exec_not _ (.tmp 138) true rfl (hD 0 138 (by kernel_rfl))) rfl) ?_
                refine fsteps_cons 3 rfl (fun a u hE hD hk => f_val (o := ⟨some 140, _, _, _, _, _⟩) (.bool false) rfl (wanted_none rfl _) (exec_move (.tmp 139) (.bool false) rfl (hD 1 139 (by kernel_rfl))) rfl) ?_
                refine fsteps_cons 4 rfl (fun a u hE hD hk => f_val (o := ⟨some 141, _, _, _, _, _⟩) (.pointer (some ⟨p, 0, none⟩)) rfl (wanted_at (b := false) false rfl rfl (hD 2 140 (by kernel_rfl))) (exec_move (.tmp 3) (.pointer (some ⟨p, 0, none⟩)) rfl (hE 3 (.pointer (some ⟨p, 0, none⟩)) (by kernel_rfl) (by kernel_rfl))) rfl) ?_
                refine fsteps_cons 5 rfl (fun a u hE hD hk => f_call (o := ⟨some 142, _, _, _, _, _⟩) 23 #[.pointer (some ⟨p, 0, none⟩)] rfl (wanted_at (b := false) false rfl rfl (hD 2 140 (by kernel_rfl))) (exec_call 23 _ [.tmp 141] _ [.pointer (some ⟨p, 0, none⟩)] Try.func23 (by kernel_rfl) (by kernel_rfl) rfl (show [a.eval (.tmp 141)] = [.pointer (some ⟨p, 0, none⟩)] from (by rw [show a.eval (.tmp 141) = .pointer (some ⟨p, 0, none⟩) from (hD 3 141 (by kernel_rfl))] <;> rfl)) u) (price_any u F p X (HP10.out.x.kept hk))) ?_
                refine fsteps_cons 6 rfl (fun a u hE hD hk => f_as (show ((decide ((7 : Int) ≠ (7 : Int))) : Bool) = false from rfl) (f_val (o := ⟨some 143, _, _, _, _, _⟩) (.bool (decide ((7 : Int) ≠ (7 : Int)))) rfl (wanted_at (b := false) false rfl rfl (hD 2 140 (by kernel_rfl))) (exec_nen (p := 7) (q := 7) rfl (hD 4 142 (by kernel_rfl)) rfl) rfl)) ?_
                refine fsteps_cons 7 rfl (fun a u hE hD hk => f_val (o := ⟨some 144, _, _, _, _, _⟩) (.bool false) rfl (wanted_none rfl _) (exec_pickF (.tmp 140) (.const (.bool true)) (.tmp 143) (.bool false) rfl (hD 2 140 (by kernel_rfl)) (hD 5 143 (by kernel_rfl))) rfl) ?_
                refine fsteps_cons 8 rfl (fun a u hE hD hk => f_val (o := ⟨some 145, _, _, _, _, _⟩) (.bool false) rfl (wanted_none rfl _) (exec_move (.tmp 144) (.bool false) rfl (hD 6 144 (by kernel_rfl))) rfl) ?_
                refine fsteps_cons 9 rfl (fun a u hE hD hk => f_val (o := ⟨some 146, _, _, _, _, _⟩) (.pointer (some ⟨p, 0, none⟩)) rfl (wanted_at (b := false) false rfl rfl (hD 7 145 (by kernel_rfl))) (exec_move (.tmp 3) (.pointer (some ⟨p, 0, none⟩)) rfl (hE 3 (.pointer (some ⟨p, 0, none⟩)) (by kernel_rfl) (by kernel_rfl))) rfl) ?_
                refine fsteps_cons 10 rfl (fun a u hE hD hk => f_call (o := ⟨some 147, _, _, _, _, _⟩) 12 #[.pointer (some ⟨p, 0, none⟩)] rfl (wanted_at (b := false) false rfl rfl (hD 7 145 (by kernel_rfl))) (exec_call 12 _ [.tmp 146] _ [.pointer (some ⟨p, 0, none⟩)] Try.func12 (by kernel_rfl) (by kernel_rfl) rfl (show [a.eval (.tmp 146)] = [.pointer (some ⟨p, 0, none⟩)] from (by rw [show a.eval (.tmp 146) = .pointer (some ⟨p, 0, none⟩) from (hD 8 146 (by kernel_rfl))] <;> rfl)) u) (seen_any u F p X (HP10.out.x.kept hk) HYG.out)) ?_
                refine fsteps_cons 11 rfl (fun a u hE hD hk => f_val (o := ⟨some 148, _, _, _, _, _⟩) (.pointer (some ⟨r, 0, none⟩)) rfl (wanted_at (b := false) false rfl rfl (hD 7 145 (by kernel_rfl))) (exec_move (.tmp 4) (.pointer (some ⟨r, 0, none⟩)) rfl (hE 4 (.pointer (some ⟨r, 0, none⟩)) (by kernel_rfl) (by kernel_rfl))) rfl) ?_
                refine fsteps_cons 12 rfl (fun a u hE hD hk => f_call (o := ⟨some 149, _, _, _, _, _⟩) 24 #[.pointer (some ⟨r, 0, none⟩)] rfl (wanted_at (b := false) false rfl rfl (hD 7 145 (by kernel_rfl))) (exec_call 24 _ [.tmp 148] _ [.pointer (some ⟨r, 0, none⟩)] Try.func24 (by kernel_rfl) (by kernel_rfl) rfl (show [a.eval (.tmp 148)] = [.pointer (some ⟨r, 0, none⟩)] from (by rw [show a.eval (.tmp 148) = .pointer (some ⟨r, 0, none⟩) from (hD 10 148 (by kernel_rfl))] <;> rfl)) u) (rseen_any u G r X (HP10.out.y.kept hk) HYG.out)) ?_
                refine fsteps_cons 13 rfl (fun a u hE hD hk => f_as (show ((decide (((seenM X) : Int) ≠ ((seenM X) : Int))) : Bool) = false from decide_eq_false (fun h => h rfl)) (f_val (o := ⟨some 150, _, _, _, _, _⟩) (.bool (decide (((seenM X) : Int) ≠ ((seenM X) : Int)))) rfl (wanted_at (b := false) false rfl rfl (hD 7 145 (by kernel_rfl))) (exec_nen (p := (seenM X)) (q := (seenM X)) rfl (hD 9 147 (by kernel_rfl)) (hD 11 149 (by kernel_rfl))) rfl)) ?_
                refine fsteps_cons 14 rfl (fun a u hE hD hk => f_val (o := ⟨some 151, _, _, _, _, _⟩) (.bool false) rfl (wanted_none rfl _) (exec_pickF (.tmp 145) (.const (.bool true)) (.tmp 150) (.bool false) rfl (hD 7 145 (by kernel_rfl)) (hD 12 150 (by kernel_rfl))) rfl) ?_
                refine fsteps_cons 15 rfl (fun a u hE hD hk => f_val (o := ⟨some 152, _, _, _, _, _⟩) (.bool false) rfl (wanted_none rfl _) (exec_move (.tmp 151) (.bool false) rfl (hD 13 151 (by kernel_rfl))) rfl) ?_
                refine fsteps_cons 16 rfl (fun a u hE hD hk => f_val (o := ⟨some 153, _, _, _, _, _⟩) (.pointer (some ⟨p, 0, none⟩)) rfl (wanted_at (b := false) false rfl rfl (hD 14 152 (by kernel_rfl))) (exec_move (.tmp 3) (.pointer (some ⟨p, 0, none⟩)) rfl (hE 3 (.pointer (some ⟨p, 0, none⟩)) (by kernel_rfl) (by kernel_rfl))) rfl) ?_
                refine fsteps_cons 17 rfl (fun a u hE hD hk => f_call (o := ⟨some 154, _, _, _, _, _⟩) 25 #[.pointer (some ⟨p, 0, none⟩)] rfl (wanted_at (b := false) false rfl rfl (hD 14 152 (by kernel_rfl))) (exec_call 25 _ [.tmp 153] _ [.pointer (some ⟨p, 0, none⟩)] Try.func25 (by kernel_rfl) (by kernel_rfl) rfl (show [a.eval (.tmp 153)] = [.pointer (some ⟨p, 0, none⟩)] from (by rw [show a.eval (.tmp 153) = .pointer (some ⟨p, 0, none⟩) from (hD 15 153 (by kernel_rfl))] <;> rfl)) u) (whole_any u F p X (HP10.out.x.kept hk) HYG.out)) ?_
                refine fsteps_cons 18 rfl (fun a u hE hD hk => f_val (o := ⟨some 155, _, _, _, _, _⟩) (.pointer (some ⟨r, 0, none⟩)) rfl (wanted_at (b := false) false rfl rfl (hD 14 152 (by kernel_rfl))) (exec_move (.tmp 4) (.pointer (some ⟨r, 0, none⟩)) rfl (hE 4 (.pointer (some ⟨r, 0, none⟩)) (by kernel_rfl) (by kernel_rfl))) rfl) ?_
                refine fsteps_cons 19 rfl (fun a u hE hD hk => f_call (o := ⟨some 156, _, _, _, _, _⟩) 26 #[.pointer (some ⟨r, 0, none⟩)] rfl (wanted_at (b := false) false rfl rfl (hD 14 152 (by kernel_rfl))) (exec_call 26 _ [.tmp 155] _ [.pointer (some ⟨r, 0, none⟩)] Try.func26 (by kernel_rfl) (by kernel_rfl) rfl (show [a.eval (.tmp 155)] = [.pointer (some ⟨r, 0, none⟩)] from (by rw [show a.eval (.tmp 155) = .pointer (some ⟨r, 0, none⟩) from (hD 17 155 (by kernel_rfl))] <;> rfl)) u) (rwhole_any u G r X (HP10.out.y.kept hk) HYG.out)) ?_
                refine fsteps_cons 20 rfl (fun a u hE hD hk => f_as (show ((decide (((wholeM X) : Int) ≠ ((wholeM X) : Int))) : Bool) = false from decide_eq_false (fun h => h rfl)) (f_val (o := ⟨some 157, _, _, _, _, _⟩) (.bool (decide (((wholeM X) : Int) ≠ ((wholeM X) : Int)))) rfl (wanted_at (b := false) false rfl rfl (hD 14 152 (by kernel_rfl))) (exec_nen (p := (wholeM X)) (q := (wholeM X)) rfl (hD 16 154 (by kernel_rfl)) (hD 18 156 (by kernel_rfl))) rfl)) ?_
                refine fsteps_cons 21 rfl (fun a u hE hD hk => f_val (o := ⟨some 158, _, _, _, _, _⟩) (.bool false) rfl (wanted_none rfl _) (exec_pickF (.tmp 152) (.const (.bool true)) (.tmp 157) (.bool false) rfl (hD 14 152 (by kernel_rfl)) (hD 19 157 (by kernel_rfl))) rfl) ?_
                refine fsteps_cons 22 rfl (fun a u hE hD hk => f_val (o := ⟨some 159, _, _, _, _, _⟩) (.bool false) rfl (wanted_none rfl _) (exec_move (.tmp 158) (.bool false) rfl (hD 20 158 (by kernel_rfl))) rfl) ?_
                refine fsteps_cons 23 rfl (fun a u hE hD hk => f_val (o := ⟨some 160, _, _, _, _, _⟩) (.pointer (some ⟨p, 0, none⟩)) rfl (wanted_at (b := false) false rfl rfl (hD 21 159 (by kernel_rfl))) (exec_move (.tmp 3) (.pointer (some ⟨p, 0, none⟩)) rfl (hE 3 (.pointer (some ⟨p, 0, none⟩)) (by kernel_rfl) (by kernel_rfl))) rfl) ?_
                refine fsteps_cons 24 rfl (fun a u hE hD hk => f_call (o := ⟨some 161, _, _, _, _, _⟩) 27 #[.pointer (some ⟨p, 0, none⟩)] rfl (wanted_at (b := false) false rfl rfl (hD 21 159 (by kernel_rfl))) (exec_call 27 _ [.tmp 160] _ [.pointer (some ⟨p, 0, none⟩)] Try.func27 (by kernel_rfl) (by kernel_rfl) rfl (show [a.eval (.tmp 160)] = [.pointer (some ⟨p, 0, none⟩)] from (by rw [show a.eval (.tmp 160) = .pointer (some ⟨p, 0, none⟩) from (hD 22 160 (by kernel_rfl))] <;> rfl)) u) (len_any u F p X (HP10.out.x.kept hk))) ?_
                refine fsteps_cons 25 rfl (fun a u hE hD hk => f_val (o := ⟨some 162, _, _, _, _, _⟩) (.pointer (some ⟨r, 0, none⟩)) rfl (wanted_at (b := false) false rfl rfl (hD 21 159 (by kernel_rfl))) (exec_move (.tmp 4) (.pointer (some ⟨r, 0, none⟩)) rfl (hE 4 (.pointer (some ⟨r, 0, none⟩)) (by kernel_rfl) (by kernel_rfl))) rfl) ?_
                refine fsteps_cons 26 rfl (fun a u hE hD hk => f_val (o := ⟨some 163, _, _, _, _, _⟩) (.pointer (some ⟨r, 0, none⟩)) rfl (wanted_at (b := false) false rfl rfl (hD 21 159 (by kernel_rfl))) (exec_nilp (.tmp 162) ⟨r, 0, none⟩ rfl (hD 24 162 (by kernel_rfl))) rfl) ?_
                refine fsteps_cons 27 rfl (fun a u hE hD hk => f_val (o := ⟨some 164, _, _, _, _, _⟩) (.pointer (some ⟨r, 1, none⟩)) rfl (wanted_at (b := false) false rfl rfl (hD 21 159 (by kernel_rfl))) (exec_fldo 42 1 1 (.tmp 163) (r) (0) (1) rfl (hD 25 163 (by kernel_rfl)) (by kernel_rfl) rfl) rfl) ?_
                refine fsteps_cons 28 rfl (fun a u hE hD hk => f_val (o := ⟨some 165, _, _, _, _, _⟩) (vy) rfl (wanted_at (b := false) false rfl rfl (hD 21 159 (by kernel_rfl))) (exec_ldv 40 _ Try.underlying40 (.tmp 164) ⟨r, 1, none⟩ (vy) rfl (hD 26 164 (by kernel_rfl)) (by rw [(HBy.out.kept hk).cell]; rfl)) rfl) ?_
                refine fsteps_cons 29 rfl (fun a u hE hD hk => f_val (o := ⟨some 166, _, _, _, _, _⟩) (.int .i64 (ny : Int)) rfl (wanted_at (b := false) false rfl rfl (hD 21 159 (by kernel_rfl))) (exec_lenS (.tmp 165) slR (vy) (ny) _ _ rfl (hD 27 165 (by kernel_rfl)) HSy.out) rfl) ?_
                refine fsteps_cons 30 rfl (fun a u hE hD hk => f_as (show ((decide (((X.length : Int) : Int) ≠ ((ny : Int) : Int))) : Bool) = false from decide_eq_false (fun h => h (by rw [HNy.out]))) (f_val (o := ⟨some 167, _, _, _, _, _⟩) (.bool (decide (((X.length : Int) : Int) ≠ ((ny : Int) : Int)))) rfl (wanted_at (b := false) false rfl rfl (hD 21 159 (by kernel_rfl))) (exec_nen (p := (X.length : Int)) (q := (ny : Int)) rfl (hD 23 161 (by kernel_rfl)) (hD 28 166 (by kernel_rfl))) rfl)) ?_
                refine fsteps_cons 31 rfl (fun a u hE hD hk => f_val (o := ⟨some 168, _, _, _, _, _⟩) (.bool false) rfl (wanted_none rfl _) (exec_pickF (.tmp 159) (.const (.bool true)) (.tmp 167) (.bool false) rfl (hD 21 159 (by kernel_rfl)) (hD 29 167 (by kernel_rfl))) rfl) ?_
                refine fsteps_cons 32 rfl (fun a u hE hD hk => f_val (o := ⟨some 169, _, _, _, _, _⟩) (.bool false) rfl (wanted_none rfl _) (exec_move (.tmp 168) (.bool false) rfl (hD 30 168 (by kernel_rfl))) rfl) ?_
                refine fsteps_cons 33 rfl (fun a u hE hD hk => f_val (o := ⟨some 170, _, _, _, _, _⟩) (.pointer (some ⟨p, 0, none⟩)) rfl (wanted_at (b := false) false rfl rfl (hD 31 169 (by kernel_rfl))) (exec_move (.tmp 3) (.pointer (some ⟨p, 0, none⟩)) rfl (hE 3 (.pointer (some ⟨p, 0, none⟩)) (by kernel_rfl) (by kernel_rfl))) rfl) ?_
                refine fsteps_cons 34 rfl (fun a u hE hD hk => f_call (o := ⟨some 171, _, _, _, _, _⟩) 13 #[.pointer (some ⟨p, 0, none⟩)] rfl (wanted_at (b := false) false rfl rfl (hD 31 169 (by kernel_rfl))) (exec_call 13 _ [.tmp 170] _ [.pointer (some ⟨p, 0, none⟩)] Try.func13 (by kernel_rfl) (by kernel_rfl) rfl (show [a.eval (.tmp 170)] = [.pointer (some ⟨p, 0, none⟩)] from (by rw [show a.eval (.tmp 170) = .pointer (some ⟨p, 0, none⟩) from (hD 32 170 (by kernel_rfl))] <;> rfl)) u) ((orders_any u F p X (HP10.out.x.kept hk) HYG.out).mono (fun e w' ⟨v, h1, h2, h3⟩ => ⟨v, h1, ⟨h2.1, fun b hb => Nat.zero_le _⟩, h3⟩))) ?_
                refine fsteps_cons 35 rfl (fun a u hE hD hk => f_val (o := ⟨some 172, _, _, _, _, _⟩) (.pointer (some ⟨r, 0, none⟩)) rfl (wanted_at (b := false) false rfl rfl (hD 31 169 (by kernel_rfl))) (exec_move (.tmp 4) (.pointer (some ⟨r, 0, none⟩)) rfl (hE 4 (.pointer (some ⟨r, 0, none⟩)) (by kernel_rfl) (by kernel_rfl))) rfl) ?_
                refine fsteps_cons 36 rfl (fun a u hE hD hk => f_call (o := ⟨some 173, _, _, _, _, _⟩) 28 #[.pointer (some ⟨r, 0, none⟩)] rfl (wanted_at (b := false) false rfl rfl (hD 31 169 (by kernel_rfl))) (exec_call 28 _ [.tmp 172] _ [.pointer (some ⟨r, 0, none⟩)] Try.func28 (by kernel_rfl) (by kernel_rfl) rfl (show [a.eval (.tmp 172)] = [.pointer (some ⟨r, 0, none⟩)] from (by rw [show a.eval (.tmp 172) = .pointer (some ⟨r, 0, none⟩) from (hD 34 172 (by kernel_rfl))] <;> rfl)) u) ((rorders_any u G r X (HP10.out.y.kept hk) HYG.out).mono (fun e w' ⟨v, h1, h2, h3⟩ => ⟨v, h1, ⟨h2.1, fun b hb => Nat.zero_le _⟩, h3⟩))) ?_
                refine fsteps_cons 37 rfl (fun a u hE hD hk => f_call (o := ⟨some 174, _, _, _, _, _⟩) 15 #[a.eval (.tmp 171), a.eval (.tmp 173)] rfl (wanted_at (b := false) false rfl rfl (hD 31 169 (by kernel_rfl))) (exec_call 15 _ [.tmp 171, .tmp 173] _ [a.eval (.tmp 171), a.eval (.tmp 173)] Try.func15 (by kernel_rfl) (by kernel_rfl) rfl rfl u) (same_self _ _ X u ((hD 33 171 (by kernel_rfl))).1 ((hD 35 173 (by kernel_rfl))).1 HYG.out.len)) ?_
                refine fsteps_cons 38 rfl (fun a u hE hD hk => f_val (o := ⟨some 175, _, _, _, _, _⟩) (.bool false) rfl (wanted_at (b := false) false rfl rfl (hD 31 169 (by kernel_rfl))) (exec_not _ (.tmp 174) true rfl (hD 36 174 (by kernel_rfl))) rfl) ?_
                exact fsteps_nil
              intro gv wz hV kz
              rw [show dstsOf _ 38 = [138, 139, 140, 141, 142, 143, 144, 145, 146, 147, 148, 149, 150, 151, 152, 153, 154, 155, 156, 157, 158, 159, 160, 161, 162, 163, 164, 165, 166, 167, 168, 169, 170, 171, 172, 173, 174, 175] by kernel_rfl]
              simp only [List.foldl_cons, List.foldl_nil, List.setIfInBounds_toArray, List.set_cons_succ, List.set_cons_zero, List.drop_succ_cons, List.drop_zero]
              rw [show gv 169 = .bool false from hV 31 169 (by kernel_rfl)]
              rw [show gv 175 = .bool false from hV 37 175 (by kernel_rfl)]
              clear hV
              refine l_val (o := ⟨some 176, _, _, _, _, _⟩) (.bool false) rfl (exec_pickF (.tmp 169) (.const (.bool true)) (.tmp 175) (.bool false) rfl (by kernel_rfl) (by kernel_rfl)) ?_
              simp only [Act.put, List.setIfInBounds_toArray, List.set_cons_succ, List.set_cons_zero]
              refine wpList_nil ?_
              have HPz := Lib.hid (HP10.out.kept kz)
              clear HP10 kz HBy HSy HNy
              go_wp2
              exact ⟨⟨i + 1, F, G, X, K, by go_num, by omega, by omega, HPz, HI2⟩, by simp [intOf]; omega⟩
    · have hcond : ((decide ((i : Int) < (n : Int)) && decide ((i : Int) < 50)) : Bool) = false := by
        by_cases h1 : (i : Int) < (n : Int)
        · have h2 : ¬ ((i : Int) < 50) := by omega
          simp [h2]
        · simp [h1]
      go_upto_region 6 with fail
      refine wp_text 8 [.eq (.int .i64 (i : Int)), .eq (.slice A n c), .eq (.int .i64 (n : Int)), .eq (.bool (decide (((i : Int) : Int) < ((n : Int) : Int)))), .eq (.bool (decide (((i : Int) : Int) < ((n : Int) : Int)))), .cond (decide (((i : Int) : Int) < ((n : Int) : Int))) (.eq (.int .i64 (i : Int))), .cond (decide (((i : Int) : Int) < ((n : Int) : Int))) (.eq (.bool (decide (((i : Int) : Int) < (50 : Int))))), .eq (.bool false)] rfl (by kernel_rfl) ?_ ?_
      · refine fsteps_cons 1 rfl (fun a u hE hD hk => f_val (o := ⟨some 24, _, _, _, _, _⟩) (.int .i64 (i : Int)) rfl (wanted_none rfl _) (exec_move (.tmp 6) (.int .i64 (i : Int)) rfl (hE 6 (.int .i64 (i : Int)) (by kernel_rfl) (by kernel_rfl))) rfl) ?_
        refine fsteps_cons 2 rfl (fun a u hE hD hk => f_val (o := ⟨some 25, _, _, _, _, _⟩) (.slice A n c) rfl (wanted_none rfl _) (exec_move (.tmp 0) (.slice A n c) rfl (hE 0 (.slice A n c) (by kernel_rfl) (by kernel_rfl))) rfl) ?_
        refine fsteps_cons 3 rfl (fun a u hE hD hk => f_val (o := ⟨some 26, _, _, _, _, _⟩) (.int .i64 (n : Int)) rfl (wanted_none rfl _) (exec_len (.tmp 25) _ _ slA.und A n c rfl (hD 1 25 (by kernel_rfl))) rfl) ?_
        refine fsteps_cons 4 rfl (fun a u hE hD hk => f_val (o := ⟨some 27, _, _, _, _, _⟩) (.bool (decide (((i : Int) : Int) < ((n : Int) : Int)))) rfl (wanted_none rfl _) (exec_ltn (p := (i : Int)) (q := (n : Int)) rfl (hD 0 24 (by kernel_rfl)) (hD 2 26 (by kernel_rfl))) rfl) ?_
        refine fsteps_cons 5 rfl (fun a u hE hD hk => f_val (o := ⟨some 28, _, _, _, _, _⟩) (.bool (decide (((i : Int) : Int) < ((n : Int) : Int)))) rfl (wanted_none rfl _) (exec_move (.tmp 27) (.bool (decide (((i : Int) : Int) < ((n : Int) : Int)))) rfl (hD 3 27 (by kernel_rfl))) rfl) ?_
        refine fsteps_cons 6 rfl (fun a u hE hD hk => f_if ((decide (((i : Int) : Int) < ((n : Int) : Int)))) rfl rfl rfl (hD 4 28 (by kernel_rfl)) (fun hb => f_val (o := ⟨some 29, _, _, _, _, _⟩) (.int .i64 (i : Int)) rfl (wanted_b rfl rfl (hD 4 28 (by kernel_rfl)) (eq_true_of hb)) (exec_move (.tmp 6) (.int .i64 (i : Int)) rfl (hE 6 (.int .i64 (i : Int)) (by kernel_rfl) (by kernel_rfl))) rfl)) ?_
        refine fsteps_cons 7 rfl (fun a u hE hD hk => f_if ((decide (((i : Int) : Int) < ((n : Int) : Int)))) rfl rfl rfl (hD 4 28 (by kernel_rfl)) (fun hb => f_val (o := ⟨some 30, _, _, _, _, _⟩) (.bool (decide (((i : Int) : Int) < (50 : Int)))) rfl (wanted_b rfl rfl (hD 4 28 (by kernel_rfl)) (eq_true_of hb)) (exec_ltn (p := (i : Int)) (q := 50) rfl ((hD 5 29 (by kernel_rfl)).1 hb) rfl) rfl)) ?_
        refine fsteps_cons 8 rfl (fun a u hE hD hk => f_as (show (((decide (((i : Int) : Int) < ((n : Int) : Int))) && (decide (((i : Int) : Int) < (50 : Int)))) : Bool) = false from hcond) (f_val (o := ⟨some 31, _, _, _, _, _⟩) (.bool ((decide (((i : Int) : Int) < ((n : Int) : Int))) && (decide (((i : Int) : Int) < (50 : Int))))) rfl (wanted_none rfl _) (exec_pickand (.tmp 28) (.tmp 30) (.const (.bool false)) ((decide (((i : Int) : Int) < ((n : Int) : Int)))) ((decide (((i : Int) : Int) < (50 : Int)))) rfl (hD 4 28 (by kernel_rfl)) (fun hb2 => ((hD 6 30 (by kernel_rfl)).1 hb2)) rfl) rfl)) ?_
        exact fsteps_nil
      intro gv w4 hV k4
      rw [show dstsOf _ 8 = [24, 25, 26, 27, 28, 29, 30, 31] by kernel_rfl]
      simp only [List.foldl_cons, List.foldl_nil, List.setIfInBounds_toArray, List.set_cons_succ, List.set_cons_zero, List.drop_succ_cons, List.drop_zero]
      rw [show gv 31 = .bool false from hV 7 31 (by kernel_rfl)]
      clear hV
      refine wpList_nil ?_
      have kw4 := HP.out.k.trans k4
      clear hcond hlt k4
      go_upto_region 29 with fail
      refine wp_text 1 [.eq (.bool true)] rfl (by kernel_rfl) ?_ ?_
      · refine fsteps_cons 1 rfl (fun a u hE hD hk => f_call (o := ⟨some 177, _, _, _, _, _⟩) 3 #[] rfl (wanted_none rfl _) (exec_call 3 _ [] _ [] Try.func3 (by kernel_rfl) (by kernel_rfl) rfl rfl u) (runs_gives u)) ?_
        exact fsteps_nil
      intro gv w5 hV k5
      rw [show dstsOf _ 1 = [177] by kernel_rfl]
      simp only [List.foldl_cons, List.foldl_nil, List.setIfInBounds_toArray, List.set_cons_succ, List.set_cons_zero, List.drop_succ_cons, List.drop_zero]
      rw [show gv 177 = .bool true from hV 0 177 (by kernel_rfl)]
      clear hV
      refine l_val (o := ⟨some 2, _, _, _, _, _⟩) (.bool true) rfl (exec_assign (.tmp 177) (.bool true) rfl (by kernel_rfl)) ?_
      simp only [Act.put, List.setIfInBounds_toArray, List.set_cons_succ, List.set_cons_zero]
      refine wpList_nil ?_
      go_wp2
      go_ret
      exact ⟨rfl, kw4.trans k5⟩
end Go.Proofs.Ytlbkehpdohihlaa
