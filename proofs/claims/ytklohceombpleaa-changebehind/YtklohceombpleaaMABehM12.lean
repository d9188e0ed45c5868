/-
 An order that rests without a trade stands last at its price; quantities of a filled market. No condition.
-/
import Derived.Test.YtklohceombpleaaQA05
import Derived.Test.YtklohceombpleaaMACntM11
set_option linter.unusedVariables false
namespace Go.Proofs.Ytklohceombpleaa
open Go.RowKit
set_option maxRecDepth 100000
def lastP (p : Int) (a : Ord) (X : List Ord) : Ord := X.foldl (fun a y => if y.price = p then y else a) a
theorem lastP_append (p : Int) (a : Ord) (X Y : List Ord) : lastP p a (X ++ Y) = lastP p (lastP p a X) Y := List.foldl_append
theorem lastP_off (p : Int) : ∀ (X : List Ord) (a : Ord), (∀ y ∈ X, y.price ≠ p) → lastP p a X = a
 | [], a, _ => rfl
 | y :: X, a, h => by
  have e : lastP p a (y :: X) = lastP p (if y.price = p then y else a) X := rfl
  rw [e, if_neg (h y List.mem_cons_self), lastP_off p X a (fun z hz => h z (List.mem_cons_of_mem _ hz))]
theorem lastP_next (p : Int) (a : Ord) (X : List Ord) (k : Nat) (y : Ord) (h : X[k]? = some y) : lastP p a (X.take (k + 1)) = if y.price = p then y else lastP p a (X.take k) := by
 rw [List.take_add_one, h, Option.toList_some, lastP_append]
 rfl
theorem levs_price {s : Int} {l : Lev} {R : List Lev} (h : Sid s (l :: R)) : (∀ y ∈ l.2.map (·.o), y.price = l.1) ∧ ∀ y ∈ ordsL R, ∃ r : Int, y.price = r ∧ bet s l.1 r = true := by
 refine ⟨fun y hy => ?_, fun y hy => ?_⟩
 ·obtain ⟨e, he, rfl⟩ := List.mem_map.1 hy
  exact (h.at_ l List.mem_cons_self e he).price
 ·obtain ⟨r, hr, e, _, he, rfl⟩ := ordsL_at h.tail y hy
  exact ⟨r.1, he.price, (List.pairwise_cons.1 h.srt).1 r hr⟩
theorem bet_ne {s x y : Int} (h : bet s x y = true) : y ≠ x := by
 unfold bet at h
 split at h <;> simp at h <;> omega
theorem bet_away {s p x y : Int} (h1 : ¬ bet s x p = true) (h2 : x ≠ p) (h3 : bet s x y = true) : y ≠ p := by
 unfold bet at h1 h3
 split at h1 <;> rename_i hs
 ·rw [if_pos hs] at h3
  simp at h1 h3
  omega
 ·rw [if_neg hs] at h3
  simp at h1 h3
  omega
theorem lastP_rest {s : Int} {c : Ord} (hs : c.side = s) : ∀ (L : List Lev) (a : Ord), Sid s L → lastP c.price a (ordsL (restM c L)) = c
 | [], a, _ => by
  have e : ordsL (restM c []) = [c] := rfl
  rw [e]
  exact if_pos rfl
 | l :: R, a, h => by
  obtain ⟨h1, h2⟩ := levs_price h
  unfold restM
  by_cases hb : bet c.side l.1 c.price = true
  ·rw [if_pos hb, ordsL_cons2, lastP_append, lastP_rest hs R _ h.tail]
  ·rw [if_neg hb]
   by_cases he : l.1 = c.price
   ·rw [if_pos he, ordsL_cons2, List.map_append, List.append_assoc, lastP_append, lastP_append, lastP_off]
    ·exact if_pos rfl
    ·intro y hy
     obtain ⟨r, hr, hbr⟩ := h2 y hy
     have := bet_ne hbr
     omega
   ·rw [if_neg he, ordsL_cons2, lastP_append, ordsL_cons2, lastP_append, lastP_off, lastP_off]
    ·exact if_pos rfl
    ·intro y hy
     have := h1 y hy
     omega
    ·intro y hy
     obtain ⟨r, hr, hbr⟩ := h2 y hy
     rw [hs] at hb
     have := bet_away hb he hbr
     omega
theorem add_rests {B : Bok} {o : Ord} (hr : (B.add o).1.rests = true) : B.err o = 0 ∧ ∃ n, (B.add o).2.sd o.side = restM (o.cut n) (B.sd o.side) ∧ ((B.add o).1.f = [] → (B.add o).2.last = B.last) := by
 have he : B.err o = 0 := by
  refine Classical.byContradiction fun h => ?_
  rw [add_err h] at hr
  cases hr
 have hs := right_side (err_zero he).1
 have hst : B.stays o = true := by
  unfold Bok.add at hr
  rw [if_neg (fun h => h he)] at hr
  exact hr
 refine ⟨he, (B.matched o).left, ?_, ?_⟩
 ·unfold Bok.add
  rw [if_neg (fun h => h he)]
  simp only [hst, if_true]
  rw [(sd_put hs _).1]
  congr 1
  have h1 := (sd_put (B := B) hs (B.matched o).L).2.2.1
  unfold Bok.traded
  rcases hs with h | h <;> rw [h] at h1 ⊢ <;> exact h1
 ·intro hf
  have hf2 : (B.matched o).f = [] := by
   unfold Bok.add at hf
   rw [if_neg (fun h => h he)] at hf
   exact hf
  unfold Bok.add
  rw [if_neg (fun h => h he)]
  simp only [hst, if_true]
  rw [(put_no _ _ _).2]
  unfold Bok.traded
  simp only
  rw [hf2]
  rfl
theorem add_cons (M : Mkt) (o : Ord) : ∃ r, (M.add o).1 = (M.arrive o).1 :: r := by
 unfold Mkt.add
 split
 ·exact ⟨[], rfl⟩
 ·exact ⟨_, rfl⟩
theorem rests_last {M : Mkt} (hI : InvK M) (hq : Quiet M) {c : Ord} (hr : (M.arrive c).1.c.rests = true) (hf : (M.arrive c).1.c.f = []) (a : Ord) : ∃ y, lastP c.price a (ordsL ((M.add c).2.b.sd c.side)) = y ∧ y.tr = c.tr ∧ y.id = c.id := by
 have he : M.err c = 0 := by
  refine Classical.byContradiction fun h => ?_
  unfold Mkt.arrive at hr
  rw [if_pos h] at hr
  cases hr
 have hw : ¬ M.waits c = true := by
  intro h
  unfold Mkt.arrive at hr
  rw [if_neg (fun h => h he), if_pos h] at hr
  cases hr
 have ha : M.arrive c = (⟨(M.b.enter c).1, false⟩, ⟨(M.b.enter c).2, M.w⟩) := by
  unfold Mkt.arrive
  rw [if_neg (fun h => h he), if_neg hw]
 rw [ha] at hr hf
 have hr2 : (M.b.add c.free).1.rests = true := hr
 have hf2 : (M.b.add c.free).1.f = [] := hf
 obtain ⟨he2, n, h1, h2⟩ := add_rests hr2
 have h3 := h2 hf2
 have hcas : (Mkt.mk (M.b.enter c).2 M.w).cas = ([], ⟨(M.b.enter c).2, M.w⟩) := by
  refine cas_none (List.getElem?_eq_none ?_)
  refine Nat.le_of_eq (Eq.symm (List.findIdx_eq_length.2 fun o ho => ?_))
  have e : (M.b.enter c).2.last = M.b.last := h3
  simp only
  rw [e]
  exact hq o ho
 have hM : (M.add c).2 = ⟨(M.b.enter c).2, M.w⟩ := by
  unfold Mkt.add
  rw [ha]
  simp only
  rw [hcas]
  split <;> rfl
 have hs := right_side (err_zero he2).1
 have hsd : (M.add c).2.b.sd c.side = restM (c.free.cut n) (M.b.sd c.side) := by
  rw [hM]
  exact h1
 have hS : Sid c.side (M.b.sd c.side) := by
  have hs' : c.side = 1 ∨ c.side = 2 := hs
  rcases hs' with h | h <;> rw [h]
  ·exact hI.inv.two.mine
  ·exact hI.inv.two.theirs
 refine ⟨c.free.cut n, ?_, rfl, rfl⟩
 rw [hsd]
 exact lastP_rest (c := c.free.cut n) rfl (M.b.sd c.side) a hS
theorem quiet_out {M : Mkt} (h : Quiet M) (t i : Int) : Quiet (M.remove t i).2.2 := by
 have hb : (M.b.remove t i).2.2.last = M.b.last := by
  unfold Bok.remove
  split
  ·rfl
  ·split <;> rfl
 unfold Mkt.remove
 split
 ·intro o ho
  show o.hit (M.b.remove t i).2.2.last = false
  rw [hb]
  exact h o ho
 ·split
  ·exact h
  ·exact fun o ho => h o (List.mem_of_mem_eraseIdx ho)
theorem arrive_o (M : Mkt) (o : Ord) : (M.arrive o).1.c.o = o := by
 unfold Mkt.arrive
 split
 ·rfl
 ·split <;> rfl
theorem add_whM {M : Mkt} (h : InvK M) {o : Ord} (hr : o.right = true) : whM (M.add o).2 ≤ whM M + o.qty := by
 obtain ⟨h1, h2⟩ := add_sum h hr
 obtain ⟨r, hc⟩ := add_cons M o
 have h3 := (sG_in _ 0 h2).1
 have hq := right_qty hr
 rw [hc] at h1 h3
 rw [show sC 0 ((M.arrive o).1 :: r) = cX 0 (M.arrive o).1 + sC 1 r from rfl, sC_later r 1 (by omega)] at h1
 have h4 : cX 0 (M.arrive o).1 ≤ o.qty := by
  unfold cX
  rw [arrive_o]
  split <;> omega
 omega
theorem fill_whM : ∀ (l : List Kq) (M : Mkt), InvK M → whM (l.foldl (fun M (q : Kq) => (M.add q.so).2) M) ≤ whM M + 12 * (l.length : Int)
 | [], M, _ => by simp
 | q :: l, M, h => by
  have h1 := add_whM h q.sright
  have h2 := fill_whM l _ (h.add q.so)
  have h3 : q.so.qty ≤ 12 := q.right.2.2
  rw [List.foldl_cons, List.length_cons]
  omega
theorem sum_ge : ∀ (X : List Ord), (∀ o ∈ X, o.Fair) → 0 ≤ sumI (X.map (·.qty)) ∧ ∀ o ∈ X, o.qty ≤ sumI (X.map (·.qty))
 | [], _ => ⟨by simp [sumI], fun o ho => by cases ho⟩
 | x :: X, h => by
  obtain ⟨h1, h2⟩ := sum_ge X (fun o ho => h o (List.mem_cons_of_mem _ ho))
  have hx := (h x List.mem_cons_self).qty0
  rw [List.map_cons, sumI_cons]
  refine ⟨by omega, fun o ho => ?_⟩
  rcases List.mem_cons.1 ho with rfl | ho
  ·omega
  ·have := h2 o ho
   omega
theorem fill_qty (l : List Kq) : ∀ o ∈ (fillM (l.take 40)).all, o.qty ≤ 480 := by
 intro o ho
 have h1 := fill_whM (l.take 40) Mkt.zero InvK.zero
 have h2 := (sum_ge _ (fillM_inv (l.take 40)).1.fair).2 o ho
 have h3 : (l.take 40).length ≤ 40 := by rw [List.length_take]; omega
 have h4 : whM Mkt.zero = 0 := by decide
 have h5 : whM (fillM (l.take 40)) = sumI ((fillM (l.take 40)).all.map (·.qty)) := rfl
 unfold fillM at h2 h5
 omega
theorem lessL_true {t i q : Int} : ∀ {L : List Lev}, (lessL t i q L).1 = true → ∃ o ∈ ordsL L, o.tr = t ∧ o.id = i ∧ q ≤ o.qty
 | [], h => by cases h
 | l :: R, h => by
  rw [ordsL_cons2]
  rw [lessL] at h
  by_cases hb : (lessM t i q l.2).1 = true
  ·unfold lessM at hb
   cases he : l.2[idxM t i l.2]? with
   | none => rw [he] at hb; cases hb
   | some e =>
    rw [he] at hb
    simp only at hb
    by_cases hq : 1 ≤ q ∧ q ≤ e.o.qty
    ·have hm := List.mem_of_getElem? he
     have hl := (List.getElem?_eq_some_iff.1 he).1
     obtain ⟨e2, he2, hi⟩ := idx_is hl
     rw [he] at he2
     injection he2 with he2
     subst he2
     have hi2 : Ord.is t i e.o = true := hi
     simp only [Ord.is, Bool.and_eq_true, decide_eq_true_eq] at hi2
     exact ⟨e.o, List.mem_append_left _ (List.mem_map.2 ⟨e, hm, rfl⟩), hi2.1, hi2.2, hq.2⟩
    ·rw [if_neg hq] at hb
     cases hb
  ·rw [if_neg hb] at h
   obtain ⟨o, ho, h2⟩ := lessL_true (L := R) h
   exact ⟨o, List.mem_append_right _ ho, h2⟩
theorem less_big {M : Mkt} (h : InvK M) {k : Nat} {x : Ord} (hx : M.all[k]? = some x) {q : Int} (hq : x.qty < q) : (M.less x.tr x.id q).1 = false := by
 refine Bool.eq_false_iff.2 fun ht => ?_
 have hb : (lessL x.tr x.id q M.b.buys).1 = true ∨ (lessL x.tr x.id q M.b.sells).1 = true := by
  unfold Mkt.less Bok.less at ht
  by_cases h1 : (lessL x.tr x.id q M.b.buys).1 = true
  ·exact .inl h1
  ·rw [if_neg h1] at ht
   by_cases h2 : (lessL x.tr x.id q M.b.sells).1 = true
   ·exact .inr h2
   ·rw [if_neg h2] at ht
    cases ht
 have hm : ∃ o ∈ M.all, o.tr = x.tr ∧ o.id = x.id ∧ q ≤ o.qty := by
  unfold Mkt.all
  rcases hb with hb | hb
  ·obtain ⟨o, ho, h2⟩ := lessL_true hb
   exact ⟨o, List.mem_append_left _ (List.mem_append_left _ ho), h2⟩
  ·obtain ⟨o, ho, h2⟩ := lessL_true hb
   exact ⟨o, List.mem_append_left _ (List.mem_append_right _ ho), h2⟩
 obtain ⟨o, ho, h1, h2, h3⟩ := hm
 obtain ⟨j, hj⟩ := List.getElem?_of_mem ho
 have e1 := idx_at h.nodup hx
 have e2 := idx_at h.nodup hj
 rw [h1, h2, e1] at e2
 subst e2
 rw [hx] at hj
 injection hj with hj
 subst hj
 omega
theorem amend_more {M : Mkt} (h : InvK M) {k : Nat} {x : Ord} (hx : M.all[k]? = some x) (hk : k + M.w.length < M.all.length) {q : Int} (h1 : x.qty < q) (h2 : q ≤ 1048576) : M.amend x.tr x.id x.price q = ((M.back x.tr x.id (x.chg x.price q)).1, 0, (M.back x.tr x.id (x.chg x.price q)).2) := by
 obtain ⟨s1, s2, s3⟩ := book_stt h hx hk
 have hq := s3.qty0
 have hp : 1 ≤ x.price ∧ x.price ≤ 1048576 := by unfold Ord.stt at s1; omega
 unfold Mkt.amend
 rw [find_all_at h hx, if_neg (by simp), if_neg (by rw [book_right s1 s2 hp ⟨by omega, h2⟩]; simp), if_neg (by rw [less_big h hx h1]; simp)]
theorem amend_behind {M : Mkt} (h : InvK M) (hqu : Quiet M) {x c : Ord} (hc : c.tr = x.tr ∧ c.id = x.id ∧ c.price = x.price ∧ c.side = x.side) : ∃ x0 r, (M.back x.tr x.id c).1 = x0 :: r ∧ (x0.c.rests = true → x0.c.f = [] → ∃ y, lastP x.price zeroO (ordsL ((M.back x.tr x.id c).2.b.sd x.side)) = y ∧ y.tr = x.tr ∧ y.id = x.id) := by
 obtain ⟨r, hr⟩ := add_cons (M.remove x.tr x.id).2.2 c
 refine ⟨_, r, hr, fun h1 h2 => ?_⟩
 obtain ⟨y, e1, e2, e3⟩ := rests_last (h.remove x.tr x.id).1 (quiet_out hqu x.tr x.id) h1 h2 zeroO
 rw [hc.2.2.1, hc.2.2.2] at e1
 exact ⟨y, e1, by rw [e2, hc.1], by rw [e3, hc.2.1]⟩
end Go.Proofs.Ytklohceombpleaa
