/-
  Regions that draw their order: what only reads first; then two or three new blocks in whatever order; then stores in their order. No condition.
-/
import Derived.Test.YtgajdkelpaaadaaSched
import Derived.Test.YtgajdkelpaaadaaCmd
namespace Go.Proofs.Ytgajdkelpaaadaa
open Go.RowKit
set_option linter.unusedVariables false
set_option maxRecDepth 100000

section
variable {P : Program} {ops : Array Oper} {S : World → Prop} {Q : Exit → Act → World → Prop}

/-- operations that yield one value in every world of the class -/
def wpPre (P : Program) (ops : Array Oper) (S : World → Prop) : List Nat → Act → (Act → Prop) → Prop
  | [], a, K => K a
  | i :: r, a, K => ∃ o v, ops[i]? = some o ∧ YieldsIf P ops S o v a ∧ wpPre P ops S r (a.put o.dst v) K
def preLs : List Nat → Array Bool → Array Bool
  | [], ls => ls
  | i :: r, ls => preLs r (ls.setIfInBounds i true)
def preB (ops : Array Oper) : List Nat → Array Bool → Bool
  | [], _ => true
  | i :: r, ls => (Region.ready .any ops ls).contains i && Region.free .any ops ls i && preB ops r (ls.setIfInBounds i true)

theorem X_pre (hs : Region.noSelect ops = true) (hQ : ∀ c a d v w, Q (.panic c) (a.put d v) w → Q (.panic c) a w) (f : Nat) (w : World) (hS : S w) : ∀ (pre : List Nat) (ls : Array Bool) (a : Act), preB ops pre ls = true →
    wpPre P ops S pre a (fun a' => wpX P .any ops Q S (fun i => ([] : List Nat).contains i) f (preLs pre ls) a' w) → wpX P .any ops Q S (fun i => ([] : List Nat).contains i) (pre.length + f) ls a w
  | [], ls, a, _, h => by
    rw [List.length_nil, Nat.zero_add]
    exact h
  | i :: r, ls, a, hB, h => by
    obtain ⟨o, v, ho, hy, h⟩ := h
    simp only [preB, Bool.and_eq_true] at hB
    have e : (i :: r).length + f = (r.length + f) + 1 := by rw [List.length_cons]; omega
    rw [e]
    exact wpX_first (Si := S) ho (Region.noSelect_spec hs) (fun c a w => hQ c a o.dst v w) (fun j oj hoj hno w w' hw hT => hT rfl hw) (r.length + f) ls a w (Region.free_spec ho hB.1.2) (by simpa using hB.1.1) hy hS (X_pre hs hQ f w hS r _ _ hB.2 h)

/-- one new block -/
def allocOf (ops : Array Oper) (t : TypeId) (i d : Nat) : Bool := match ops[i]? with
  | some o => (match o.op with | .alloc t' => t' == t | _ => false) && o.guard.isNone && o.dst == some d
  | none => false
theorem wpOp_alloc {t : TypeId} {z : List Value} (hz : (P.info? t).map (·.zero) = some (some (.agg z.toArray))) {i d : Nat} (hB : allocOf ops t i d = true) {K : Act → World → Prop} {a : Act} {w : World}
    (hK : ∀ w', Blk w' w.heap.size t z → w'.heap.size = w.heap.size + 1 → Kept w w' → K (a.put (some d) (.pointer (some ⟨w.heap.size, 0, none⟩))) w') : wpOp P ops Q i K a w := by
  unfold allocOf at hB
  unfold wpOp
  cases ho : ops[i]? with
  | none => rw [ho] at hB; cases hB
  | some o =>
    rw [ho] at hB
    simp only [Bool.and_eq_true, beq_iff_eq, Option.isNone_iff_eq_none] at hB
    obtain ⟨⟨h1, h2⟩, h3⟩ := hB
    have hop : o.op = .alloc t := by
      cases hq : o.op <;> rw [hq] at h1 <;> first | (cases h1; done) | (simp at h1; rw [h1])
    have hw : Region.wanted o (yielded ops a.tmps) = true := by simp [Region.wanted, h2]
    simp only [hw, if_true]
    refine .inl ?_
    cases hq : P.info? t with
    | none => simp [hq] at hz
    | some i0 =>
      have hzz : i0.zero = some (.agg z.toArray) := by simpa [hq] using hz
      unfold Oper.wp execOp
      simp only [hop]
      simp [Instr.alloc, zeroValue, typeInfo, hq, hzz, newVar, Value.cells, go_sem]
      rw [h3]
      exact hK _ (Blk.new w t z) (by simp) ((Keep.refl _ w).alloc _)

theorem put_comm2 (a : Act) (d e : Nat) (u v : Value) (h : d ≠ e) : (a.put (some d) u).put (some e) v = (a.put (some e) v).put (some d) u := by
  simp only [Act.put]
  rw [Array.setIfInBounds_comm _ _ h]

theorem X_alloc2 {weak : Nat → Bool} {t : TypeId} {z : List Value} (hz : (P.info? t).map (·.zero) = some (some (.agg z.toArray))) (hSa : ∀ u u', S u → Kept u u' → S u') {i j d e : Nat} (hij : i ≠ j) (hde : d ≠ e) (hi : allocOf ops t i d = true) (hj : allocOf ops t j e = true) (f : Nat) (ls : Array Bool) (a : Act) (w : World) (hS : S w)
    (hr : Region.ready .any ops ls = [i, j]) (hri : Region.ready .any ops (ls.setIfInBounds i true) = [j]) (hrj : Region.ready .any ops (ls.setIfInBounds j true) = [i])
    (h : ∀ b c u, b ≠ c → w.heap.size ≤ b → w.heap.size ≤ c → Blk u b t z → Blk u c t z → Kept w u → wpX P .any ops Q S weak f ((ls.setIfInBounds i true).setIfInBounds j true) ((a.put (some d) (.pointer (some ⟨b, 0, none⟩))).put (some e) (.pointer (some ⟨c, 0, none⟩))) u) :
    wpX P .any ops Q S weak (f + 2) ls a w := by
  refine ⟨fun h0 => (by rw [h0] at hr; cases hr), fun x hx => ?_⟩
  rw [hr] at hx
  have hx' : x = i ∨ x = j := by simpa using hx
  rcases hx' with rfl | rfl
  · refine wpOp_alloc hz hi fun w1 b1 z1 k1 => ⟨fun _ hs => hSa _ _ hs k1, ⟨fun h0 => (by rw [h0] at hri; cases hri), fun y hy => ?_⟩⟩
    rw [hri] at hy
    obtain rfl : y = j := by simpa using hy
    refine wpOp_alloc hz hj fun w2 b2 z2 k2 => ⟨fun _ hs => hSa _ _ hs k2, ?_⟩
    exact h w.heap.size w1.heap.size w2 (by omega) (Nat.le_refl _) (by omega) (b1.kept k2) b2 (k1.trans k2)
  · refine wpOp_alloc hz hj fun w1 b1 z1 k1 => ⟨fun _ hs => hSa _ _ hs k1, ⟨fun h0 => (by rw [h0] at hrj; cases hrj), fun y hy => ?_⟩⟩
    rw [hrj] at hy
    obtain rfl : y = i := by simpa using hy
    refine wpOp_alloc hz hi fun w2 b2 z2 k2 => ⟨fun _ hs => hSa _ _ hs k2, ?_⟩
    have := h w1.heap.size w.heap.size w2 (by omega) (by omega) (Nat.le_refl _) b2 (b1.kept k2) (k1.trans k2)
    rw [Array.setIfInBounds_comm _ _ hij, put_comm2 _ _ _ _ _ hde] at this
    exact this
theorem X_alloc3 {weak : Nat → Bool} {t : TypeId} {z : List Value} (hz : (P.info? t).map (·.zero) = some (some (.agg z.toArray))) (hSa : ∀ u u', S u → Kept u u' → S u') {i j k d e g : Nat} (hij : i ≠ j) (hik : i ≠ k) (hjk : j ≠ k) (hde : d ≠ e) (hdg : d ≠ g) (heg : e ≠ g) (hi : allocOf ops t i d = true) (hj : allocOf ops t j e = true) (hk : allocOf ops t k g = true) (f : Nat) (ls : Array Bool) (a : Act) (w : World) (hS : S w)
    (hr : Region.ready .any ops ls = [i, j, k])
    (r1 : Region.ready .any ops (ls.setIfInBounds i true) = [j, k]) (r2 : Region.ready .any ops ((ls.setIfInBounds i true).setIfInBounds j true) = [k]) (r3 : Region.ready .any ops ((ls.setIfInBounds i true).setIfInBounds k true) = [j])
    (r4 : Region.ready .any ops (ls.setIfInBounds j true) = [i, k]) (r5 : Region.ready .any ops ((ls.setIfInBounds j true).setIfInBounds i true) = [k]) (r6 : Region.ready .any ops ((ls.setIfInBounds j true).setIfInBounds k true) = [i])
    (r7 : Region.ready .any ops (ls.setIfInBounds k true) = [i, j]) (r8 : Region.ready .any ops ((ls.setIfInBounds k true).setIfInBounds i true) = [j]) (r9 : Region.ready .any ops ((ls.setIfInBounds k true).setIfInBounds j true) = [i])
    (h : ∀ b c q u, b ≠ c → b ≠ q → c ≠ q → w.heap.size ≤ b → w.heap.size ≤ c → w.heap.size ≤ q → Blk u b t z → Blk u c t z → Blk u q t z → Kept w u →
      wpX P .any ops Q S weak f (((ls.setIfInBounds i true).setIfInBounds j true).setIfInBounds k true) (((a.put (some d) (.pointer (some ⟨b, 0, none⟩))).put (some e) (.pointer (some ⟨c, 0, none⟩))).put (some g) (.pointer (some ⟨q, 0, none⟩))) u) :
    wpX P .any ops Q S weak (f + 3) ls a w := by
  refine ⟨fun h0 => (by rw [h0] at hr; cases hr), fun x hx => ?_⟩
  rw [hr] at hx
  have hx' : x = i ∨ x = j ∨ x = k := by simpa using hx
  rcases hx' with rfl | rfl | rfl
  · refine wpOp_alloc hz hi fun w1 b1 z1 k1 => ⟨fun _ hs => hSa _ _ hs k1, X_alloc2 hz hSa hjk heg hj hk f _ _ w1 (hSa _ _ hS k1) r1 r2 r3 fun c q u hcq hc hq Bc Bq ku => ?_⟩
    exact h w.heap.size c q u (by omega) (by omega) hcq (Nat.le_refl _) (by omega) (by omega) (b1.kept ku) Bc Bq (k1.trans ku)
  · refine wpOp_alloc hz hj fun w1 b1 z1 k1 => ⟨fun _ hs => hSa _ _ hs k1, X_alloc2 hz hSa hik hdg hi hk f _ _ w1 (hSa _ _ hS k1) r4 r5 r6 fun b q u hbq hb hq Bb Bq ku => ?_⟩
    have := h b w.heap.size q u (by omega) hbq (by omega) (by omega) (Nat.le_refl _) (by omega) Bb (b1.kept ku) Bq (k1.trans ku)
    rw [Array.setIfInBounds_comm _ _ hij, put_comm2 _ _ _ _ _ hde] at this
    exact this
  · refine wpOp_alloc hz hk fun w1 b1 z1 k1 => ⟨fun _ hs => hSa _ _ hs k1, X_alloc2 hz hSa hij hde hi hj f _ _ w1 (hSa _ _ hS k1) r7 r8 r9 fun b c u hbc hb hc Bb Bc ku => ?_⟩
    have := h b c w.heap.size u hbc (by omega) (by omega) (by omega) (by omega) (Nat.le_refl _) Bb Bc (b1.kept ku) (k1.trans ku)
    rw [Array.setIfInBounds_comm (xs := ls.setIfInBounds i true) _ _ hjk, Array.setIfInBounds_comm (xs := ls) _ _ hik, put_comm2 _ _ _ _ _ heg, put_comm2 a _ _ _ _ hdg] at this
    exact this

/-- may it be walked so -/
def alloc2B (ops : Array Oper) (pre : List Nat) (t : TypeId) (i j d e : Nat) (post : List (Nat × Nat)) : Bool :=
  let l1 := preLs pre (Array.replicate ops.size false)
  Region.noSelect ops && (pre.length + 2 + post.length == ops.size) && preB ops pre (Array.replicate ops.size false) && i != j && d != e && allocOf ops t i d && allocOf ops t j e
  && (Region.ready .any ops l1 == [i, j]) && (Region.ready .any ops (l1.setIfInBounds i true) == [j]) && (Region.ready .any ops (l1.setIfInBounds j true) == [i])
  && schB ops [] post ((l1.setIfInBounds i true).setIfInBounds j true) false
theorem wp_alloc2 {id : Nat} {a : Act} {w : World} {l : List Oper} (pre : List Nat) (t : TypeId) (z : List Value) (i j d e : Nat) (post : List (Nat × Nat)) (hm : P.follows .mixedOrders = true) (hz : (P.info? t).map (·.zero) = some (some (.agg z.toArray))) (hB : alloc2B l.toArray pre t i j d e post = true)
    (h : wpPre P l.toArray (fun u => Kept w u) pre a (fun a' => ∀ b c u, b ≠ c → w.heap.size ≤ b → w.heap.size ≤ c → Blk u b t z → Blk u c t z → Kept w u →
      wpSch P l.toArray (fun u => Kept w u) (NoPanic Q) post ((a'.put (some d) (.pointer (some ⟨b, 0, none⟩))).put (some e) (.pointer (some ⟨c, 0, none⟩))) u)) : (Code.region id l.toArray true).wp P Q a w := by
  simp only [alloc2B, Bool.and_eq_true, beq_iff_eq, bne_iff_ne] at hB
  obtain ⟨⟨⟨⟨⟨⟨⟨⟨⟨⟨hs, hlen⟩, hpre⟩, hij⟩, hde⟩, hi⟩, hj⟩, h1⟩, h2⟩, h3⟩, hpost⟩ := hB
  refine wp_region_noPanic (wp_region_any hm ?_)
  have kd : Kept w w.drew := Keep.drew (Keep.refl _ w)
  have := X_pre (P := P) (S := fun u => Kept w u) (Q := NoPanic Q) hs (fun c a d v w h => (h : False).elim) (post.length + 2) w.drew kd pre (Array.replicate l.toArray.size false) a hpre ?_
  · have h4 := wpAny_of_X _ _ _ _ this
    rw [show pre.length + (post.length + 2) = l.toArray.size by omega] at h4
    exact h4
  · have gen : ∀ (pre : List Nat) (a : Act) (K K' : Act → Prop), (∀ a, K a → K' a) → wpPre P l.toArray (fun u => Kept w u) pre a K → wpPre P l.toArray (fun u => Kept w u) pre a K' := by
      intro pre
      induction pre with
      | nil => intro a K K' hk h; exact hk a h
      | cons i r ih =>
        rintro a K K' hk ⟨o, v, ho, hy, h⟩
        exact ⟨o, v, ho, hy, ih _ K K' hk h⟩
    refine gen pre a _ _ (fun a' ha' => ?_) h
    refine X_alloc2 hz (fun u u' h k => h.trans k) hij hde hi hj post.length _ a' w.drew kd h1 h2 h3 fun b c u hbc hb hc Bb Bc ku => ?_
    exact X_of_sch (P := P) (S := fun u => Kept w u) hs (fun c a d v w h => (h : False).elim) post false _ _ u (fun _ => kd.trans ku) hpost (ha' b c u hbc hb hc Bb Bc (kd.trans ku))
def alloc3B (ops : Array Oper) (pre : List Nat) (t : TypeId) (i j k d e g : Nat) (post : List (Nat × Nat)) : Bool :=
  let l1 := preLs pre (Array.replicate ops.size false)
  Region.noSelect ops && (pre.length + 3 + post.length == ops.size) && preB ops pre (Array.replicate ops.size false) && (i != j && i != k && j != k && d != e && d != g && e != g) && (allocOf ops t i d && allocOf ops t j e && allocOf ops t k g)
  && (Region.ready .any ops l1 == [i, j, k])
  && (Region.ready .any ops (l1.setIfInBounds i true) == [j, k]) && (Region.ready .any ops ((l1.setIfInBounds i true).setIfInBounds j true) == [k]) && (Region.ready .any ops ((l1.setIfInBounds i true).setIfInBounds k true) == [j])
  && (Region.ready .any ops (l1.setIfInBounds j true) == [i, k]) && (Region.ready .any ops ((l1.setIfInBounds j true).setIfInBounds i true) == [k]) && (Region.ready .any ops ((l1.setIfInBounds j true).setIfInBounds k true) == [i])
  && (Region.ready .any ops (l1.setIfInBounds k true) == [i, j]) && (Region.ready .any ops ((l1.setIfInBounds k true).setIfInBounds i true) == [j]) && (Region.ready .any ops ((l1.setIfInBounds k true).setIfInBounds j true) == [i])
  && schB ops [] post (((l1.setIfInBounds i true).setIfInBounds j true).setIfInBounds k true) false
theorem wp_alloc3 {id : Nat} {a : Act} {w : World} {l : List Oper} (pre : List Nat) (t : TypeId) (z : List Value) (i j k d e g : Nat) (post : List (Nat × Nat)) (hm : P.follows .mixedOrders = true) (hz : (P.info? t).map (·.zero) = some (some (.agg z.toArray))) (hB : alloc3B l.toArray pre t i j k d e g post = true)
    (h : wpPre P l.toArray (fun u => Kept w u) pre a (fun a' => ∀ b c q u, b ≠ c → b ≠ q → c ≠ q → w.heap.size ≤ b → w.heap.size ≤ c → w.heap.size ≤ q → Blk u b t z → Blk u c t z → Blk u q t z → Kept w u →
      wpSch P l.toArray (fun u => Kept w u) (NoPanic Q) post (((a'.put (some d) (.pointer (some ⟨b, 0, none⟩))).put (some e) (.pointer (some ⟨c, 0, none⟩))).put (some g) (.pointer (some ⟨q, 0, none⟩))) u)) : (Code.region id l.toArray true).wp P Q a w := by
  simp only [alloc3B, Bool.and_eq_true, beq_iff_eq, bne_iff_ne] at hB
  obtain ⟨⟨⟨⟨⟨⟨⟨⟨⟨⟨⟨⟨⟨⟨⟨hs, hlen⟩, hpre⟩, ⟨⟨⟨⟨⟨hij, hik⟩, hjk⟩, hde⟩, hdg⟩, heg⟩⟩, ⟨⟨hi, hj⟩, hk⟩⟩, h0⟩, h1⟩, h2⟩, h3⟩, h4⟩, h5⟩, h6⟩, h7⟩, h8⟩, h9⟩, hpost⟩ := hB
  refine wp_region_noPanic (wp_region_any hm ?_)
  have kd : Kept w w.drew := Keep.drew (Keep.refl _ w)
  have := X_pre (P := P) (S := fun u => Kept w u) (Q := NoPanic Q) hs (fun c a d v w h => (h : False).elim) (post.length + 3) w.drew kd pre (Array.replicate l.toArray.size false) a hpre ?_
  · have h4 := wpAny_of_X _ _ _ _ this
    rw [show pre.length + (post.length + 3) = l.toArray.size by omega] at h4
    exact h4
  · have gen : ∀ (pre : List Nat) (a : Act) (K K' : Act → Prop), (∀ a, K a → K' a) → wpPre P l.toArray (fun u => Kept w u) pre a K → wpPre P l.toArray (fun u => Kept w u) pre a K' := by
      intro pre
      induction pre with
      | nil => intro a K K' hk h; exact hk a h
      | cons i r ih =>
        rintro a K K' hk ⟨o, v, ho, hy, h⟩
        exact ⟨o, v, ho, hy, ih _ K K' hk h⟩
    refine gen pre a _ _ (fun a' ha' => ?_) h
    refine X_alloc3 hz (fun u u' h k => h.trans k) hij hik hjk hde hdg heg hi hj hk post.length _ a' w.drew kd h0 h1 h2 h3 h4 h5 h6 h7 h8 h9 fun b c q u hbc hbq hcq hb hc hq Bb Bc Bq ku => ?_
    exact X_of_sch (P := P) (S := fun u => Kept w u) hs (fun c a d v w h => (h : False).elim) post false _ _ u (fun _ => kd.trans ku) hpost (ha' b c q u hbc hbq hcq hb hc hq Bb Bc Bq (kd.trans ku))
end

section
variable {ops : Array Oper} {S : World → Prop} {Q : Exit → Act → World → Prop} {a : Act} {w : World} {i : Nat} {o : Oper}
theorem p_val {r : List Nat} {K : Act → Prop} (v : Value) (ho : ops[i]? = some o) (hw : Region.wanted o (yielded ops a.tmps) = true) (h : ∀ u, S u → (execOp a.eval o).run Try.prog u = .ok (.value v) u) (hK : wpPre Try.prog ops S r (a.put o.dst v) K) : wpPre Try.prog ops S (i :: r) a K := ⟨o, v, ho, .inl ⟨hw, h⟩, hK⟩
/-- a struct stored whole into a block of its own -/
theorem s_setS {r : List (Nat × Nat)} (ty : TypeId) (g : Nat) (T : TypeId) (old cells : List Value) (x y : Operand) (ho : ops[i]? = some o) (hw : Region.wanted o (yielded ops a.tmps) = true) (hop : o.op = .store ty x y) (hx : a.eval x = .pointer (some ⟨g, 0, none⟩)) (hy : a.eval y = .agg cells.toArray) (hb : Blk w g T old) (hi : (Try.prog.info? ty).map (·.size) = some cells.length) (hold : old.length = cells.length) (h1 : ∀ u ∈ cells, u.oneCell' = true) (hS : ∀ w', Keep (· = g) w w' → S w')
    (hK : ∀ w', Blk w' g T cells → Keep (· = g) w w' → wpSch Try.prog ops S Q r (a.put o.dst undef) w') : wpSch Try.prog ops S Q ((i, 1) :: r) a w :=
  s_oper ho hw fun K hK' => op_store_row w ty x y hop g cells hx hy T old hb hi hold h1 (fun w' h2 h3 h4 => hK' _ _ (hS w' h3) (hK w' h2 h3))
end
end Go.Proofs.Ytgajdkelpaaadaa
