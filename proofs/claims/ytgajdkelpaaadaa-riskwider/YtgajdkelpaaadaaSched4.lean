/-
  Regions that draw their order: what only reads first; then new blocks, however many, in whatever order; then stores in their order. A field stored in such a region. No condition.
-/
import Derived.Test.YtgajdkelpaaadaaSched3
namespace Go.Proofs.Ytgajdkelpaaadaa
open Go.RowKit
set_option linter.unusedVariables false
set_option maxRecDepth 100000

section
variable {P : Program} {ops : Array Oper} {S : World → Prop} {Q : Exit → Act → World → Prop}

/-- the operations of A (place, slot) are new blocks, and ready in whatever order -/
def allocsB (ops : Array Oper) (t : TypeId) : Nat → List (Nat × Nat) → Array Bool → Bool
  | 0, A, _ => A.isEmpty
  | n + 1, A, ls => (Region.ready .any ops ls == A.map (·.1)) && !A.isEmpty && A.all fun x => allocOf ops t x.1 x.2 && allocsB ops t n (A.erase x) (ls.setIfInBounds x.1 true)
def marks (A : List (Nat × Nat)) (ls : Array Bool) : Array Bool := A.foldl (fun l x => l.setIfInBounds x.1 true) ls
def puts (β : Nat → Nat) (A : List (Nat × Nat)) (a : Act) : Act := A.foldl (fun a x => a.put (some x.2) (.pointer (some ⟨β x.2, 0, none⟩))) a
/-- no two of one slot -/
def apartB (A : List (Nat × Nat)) : Bool := decide ((A.map (·.2)).Nodup)

theorem marks_erase (A : List (Nat × Nat)) (x : Nat × Nat) (hx : x ∈ A) (ls : Array Bool) : marks (A.erase x) (ls.setIfInBounds x.1 true) = marks A ls := by
  have h := (List.perm_cons_erase hx).foldl_eq' (f := fun (l : Array Bool) (y : Nat × Nat) => l.setIfInBounds y.1 true) (fun y _ z _ l => by
    by_cases e : y.1 = z.1
    · simp only [e]
    · exact Array.setIfInBounds_comm _ _ (by omega)) ls
  exact h.symm
theorem puts_erase (β : Nat → Nat) (A : List (Nat × Nat)) (x : Nat × Nat) (hx : x ∈ A) (a : Act) : puts β (A.erase x) (a.put (some x.2) (.pointer (some ⟨β x.2, 0, none⟩))) = puts β A a := by
  have h := (List.perm_cons_erase hx).foldl_eq' (f := fun (a : Act) (y : Nat × Nat) => a.put (some y.2) (.pointer (some ⟨β y.2, 0, none⟩))) (fun y _ z _ a => by
    by_cases e : y.2 = z.2
    · simp only [e]
    · exact put_comm2 _ _ _ _ _ (by omega)) a
  exact h.symm
theorem puts_congr {β γ : Nat → Nat} : ∀ (A : List (Nat × Nat)) (a : Act), (∀ x ∈ A, β x.2 = γ x.2) → puts β A a = puts γ A a
  | [], _, _ => rfl
  | x :: A, a, h => by
    show puts β A (a.put (some x.2) (.pointer (some ⟨β x.2, 0, none⟩))) = puts γ A (a.put (some x.2) (.pointer (some ⟨γ x.2, 0, none⟩)))
    rw [h x (by simp)]
    exact puts_congr A _ fun y hy => h y (by simp [hy])

theorem X_allocs {weak : Nat → Bool} {t : TypeId} {z : List Value} (hz : (P.info? t).map (·.zero) = some (some (.agg z.toArray))) (hSa : ∀ u u', S u → Kept u u' → S u') (f : Nat) :
    ∀ (n : Nat) (A : List (Nat × Nat)) (ls : Array Bool) (a : Act) (w : World), S w → (A.map (·.2)).Nodup → allocsB ops t n A ls = true →
    (∀ (β : Nat → Nat) u, (∀ x ∈ A, w.heap.size ≤ β x.2 ∧ Blk u (β x.2) t z) → (∀ x ∈ A, ∀ y ∈ A, x.2 ≠ y.2 → β x.2 ≠ β y.2) → Kept w u → wpX P .any ops Q S weak f (marks A ls) (puts β A a) u) → wpX P .any ops Q S weak (n + f) ls a w
  | 0, A, ls, a, w, hS, hd, hB, h => by
    obtain rfl : A = [] := by simpa [allocsB] using hB
    rw [Nat.zero_add]
    exact h (fun _ => 0) w (fun x hx => by cases hx) (fun x hx => by cases hx) (Kept.refl w)
  | n + 1, A, ls, a, w, hS, hd, hB, h => by
    simp only [allocsB, Bool.and_eq_true, beq_iff_eq, List.all_eq_true] at hB
    obtain ⟨⟨hr, hne⟩, hall⟩ := hB
    rw [show n + 1 + f = (n + f) + 1 by omega]
    refine ⟨fun h0 => ?_, fun i hi => ?_⟩
    · rw [hr] at h0
      have : A = [] := by simpa using h0
      subst this
      cases hne
    · rw [hr] at hi
      obtain ⟨x, hx, rfl⟩ := List.mem_map.1 hi
      obtain ⟨h1, h2⟩ := hall x hx
      have hnd : (x :: A.erase x).map (·.2) |>.Nodup := ((List.perm_cons_erase hx).map _).nodup_iff.1 hd
      rw [List.map_cons, List.nodup_cons] at hnd
      have hxe : ∀ y ∈ A.erase x, y.2 ≠ x.2 := fun y hy e => hnd.1 (List.mem_map.2 ⟨y, hy, e⟩)
      refine wpOp_alloc hz h1 fun w1 b1 z1 k1 => ⟨fun _ hs => hSa _ _ hs k1, X_allocs hz hSa f n (A.erase x) _ _ w1 (hSa _ _ hS k1) hnd.2 h2 fun β u hβ hβd ku => ?_⟩
      have g := h (fun j => if j = x.2 then w.heap.size else β j) u (fun y hy => ?_) (fun y hy z' hz' hne' => ?_) (k1.trans ku)
      · rw [← marks_erase A x hx, ← puts_erase _ A x hx] at g
        simp only [if_true] at g
        rw [puts_congr (γ := β) (A.erase x) _ (fun y hy => if_neg (hxe y hy))] at g
        exact g
      · by_cases e : y.2 = x.2
        · simp only [e, if_true]
          exact ⟨Nat.le_refl _, b1.kept ku⟩
        · simp only [if_neg e]
          have hye : y ∈ A.erase x := by
            rcases List.mem_cons.1 ((List.perm_cons_erase hx).mem_iff.1 hy) with rfl | h'
            · exact (e rfl).elim
            · exact h'
          have := hβ y hye
          exact ⟨by omega, this.2⟩
      · have lies : ∀ y ∈ A, y.2 ≠ x.2 → y ∈ A.erase x := fun y hy e => by
          rcases List.mem_cons.1 ((List.perm_cons_erase hx).mem_iff.1 hy) with rfl | h'
          · exact (e rfl).elim
          · exact h'
        by_cases e : y.2 = x.2
        · by_cases e' : z'.2 = x.2
          · exact (hne' (e.trans e'.symm)).elim
          · simp only [e, if_true, if_neg e']
            have := (hβ z' (lies z' hz' e')).1
            omega
        · by_cases e' : z'.2 = x.2
          · simp only [e', if_true, if_neg e]
            have := (hβ y (lies y hy e)).1
            omega
          · simp only [if_neg e, if_neg e']
            exact hβd y (lies y hy e) z' (lies z' hz' e') hne'

/-- may it be walked so -/
def allocs2B (ops : Array Oper) (pre : List Nat) (t : TypeId) (A : List (Nat × Nat)) (post : List (Nat × Nat)) : Bool :=
  Region.noSelect ops && (pre.length + (A.length + post.length) == ops.size) && preB ops pre (Array.replicate ops.size false) && apartB A && allocsB ops t A.length A (preLs pre (Array.replicate ops.size false))
  && schB ops [] post (marks A (preLs pre (Array.replicate ops.size false))) false
theorem wp_allocs {id : Nat} {a : Act} {w : World} {l : List Oper} (pre : List Nat) (t : TypeId) (z : List Value) (A : List (Nat × Nat)) (post : List (Nat × Nat)) (hm : P.follows .mixedOrders = true) (hz : (P.info? t).map (·.zero) = some (some (.agg z.toArray))) (hB : allocs2B l.toArray pre t A post = true)
    (h : wpPre P l.toArray (fun u => Kept w u) pre a (fun a' => ∀ (β : Nat → Nat) u, (∀ x ∈ A, w.heap.size ≤ β x.2 ∧ Blk u (β x.2) t z) → (∀ x ∈ A, ∀ y ∈ A, x.2 ≠ y.2 → β x.2 ≠ β y.2) → Kept w u →
      wpSch P l.toArray (fun u => Kept w u) (NoPanic Q) post (puts β A a') u)) : (Code.region id l.toArray true).wp P Q a w := by
  simp only [allocs2B, apartB, Bool.and_eq_true, beq_iff_eq, decide_eq_true_eq] at hB
  obtain ⟨⟨⟨⟨⟨hs, hlen⟩, hpre⟩, hd⟩, hA⟩, hpost⟩ := hB
  refine wp_region_noPanic (wp_region_any hm ?_)
  have kd : Kept w w.drew := Keep.drew (Keep.refl _ w)
  have := X_pre (P := P) (S := fun u => Kept w u) (Q := NoPanic Q) hs (fun c a d v w h => (h : False).elim) (A.length + post.length) w.drew kd pre (Array.replicate l.toArray.size false) a hpre ?_
  · have h4 := wpAny_of_X _ _ _ _ this
    rw [show pre.length + (A.length + post.length) = l.toArray.size by omega] at h4
    exact h4
  · have gen : ∀ (pre : List Nat) (a : Act) (K K' : Act → Prop), (∀ a, K a → K' a) → wpPre P l.toArray (fun u => Kept w u) pre a K → wpPre P l.toArray (fun u => Kept w u) pre a K' := by
      intro pre
      induction pre with
      | nil => intro a K K' hk h; exact hk a h
      | cons i r ih =>
        rintro a K K' hk ⟨o, v, ho, hy, h⟩
        exact ⟨o, v, ho, hy, ih _ K K' hk h⟩
    refine gen pre a _ _ (fun a' ha' => ?_) h
    refine X_allocs hz (fun u u' h k => h.trans k) post.length A.length A _ a' w.drew kd hd hA fun β u hβ hβd ku => ?_
    exact X_of_sch (P := P) (S := fun u => Kept w u) hs (fun c a d v w h => (h : False).elim) post false _ _ u (fun _ => kd.trans ku) hpost (ha' β u hβ hβd (kd.trans ku))
end

section
variable {ops : Array Oper} {S : World → Prop} {Q : Exit → Act → World → Prop} {a : Act} {w : World} {i : Nat} {o : Oper}
/-- one field stored -/
theorem s_setf {r : List (Nat × Nat)} (g j : Nat) (T : TypeId) (l : List Int) (t : List UInt8) (v : Int) (x y : Operand) (ho : ops[i]? = some o) (hw : Region.wanted o (yielded ops a.tmps) = true) (hop : o.op = .store 3 x y) (hx : a.eval x = .pointer (some ⟨g, j, none⟩)) (hy : a.eval y = .int .i64 v) (hb : Blk w g T (stc l t)) (hi : j < l.length) (hS : ∀ w', Keep (· = g) w w' → S w')
    (hK : ∀ w', Blk w' g T (stc (l.set j v) t) → Keep (· = g) w w' → w'.heap.size = w.heap.size → wpSch Try.prog ops S Q r (a.put o.dst undef) w') : wpSch Try.prog ops S Q ((i, 1) :: r) a w := by
  have hlen : j + 1 ≤ (stc l t).length := by rw [stc_len]; omega
  have hk : Keep (· = g) w (w.setCell ⟨g, j, none⟩ (.int .i64 v)) := Keep.setCell (Keep.refl (· = g) w) (fun _ => rfl) _
  exact s_store (w.setCell ⟨g, j, none⟩ (.int .i64 v)) ho hw (exec_store1 3 x y g j (.int .i64 v) hop (by kernel_rfl) hx hy rfl rfl (hb.there j 1 hlen)) (hS _ hk) (hK _ (hb.setFld j v hi) hk (by simp [World.setCell]))
end
end Go.Proofs.Ytgajdkelpaaadaa
