/-
  The document's own link and links: jobberref1.Link, jobberref1.Links. Condition: lengths far below 2^47.
-/
import Derived.Test.YtholpkaicmckfaaDoorChnLinks
import Derived.Test.YtholpkaicmckfaaDoorRefSha
namespace Go.Proofs.YtholpkaicmckfaaDoor
open Go.RowKit
set_option linter.unusedVariables false

set_option maxRecDepth 100000 in
set_option maxHeartbeats 1600000 in
theorem refLink_any (p b : List UInt8) (v : Value) (w : World) (hp : p.length = 32) (hv : Bytes w v b) (hbl : b.length ≤ 90000) :
    Calls Tryd.prog 15 #[.agg (cells8 p).toArray, v] w fun e w' => e = .returned (.agg (cells8 (linkOf p b)).toArray) ∧ Kept w w' := by
  have hs32 := slice_sum
  obtain ⟨A, n, c, rfl, hl, hR, hnc, hc, hA⟩ := hv
  have hn : n ≤ 90000 := by have := hl.out; omega
  obtain ⟨S, hS⟩ : ∃ S, S = linkOf p b := ⟨_, rfl⟩
  have HS : Hid (∀ t, t = shaOf (p ++ (be n 4 ++ b)) → t = S) := fun t h => by rw [h, hS, linkOf, hl.out]
  have hSl : S.length = 32 := by rw [hS, linkOf_length]
  have HL : Hid ((cells8 S).length = 32) := by show _ = _; rw [len8, hSl]
  have hiS := size_arr S hSl
  have hzS := zlen_arr S hSl
  have hpl := Lib.hid hp
  have HR := Lib.hid hR
  have HA := Lib.hid hA
  rw [← hS]
  clear hS hSl hp hR hA
  go_enter Tryd.func15, Tryd.ntmps15
  go_upto_region 1 with ((with_reducible show wpList _ _ _ _ _ _); (first
    | ((with_reducible refine wpl_value (o := ⟨some 2, _, _, _, _, _⟩) _ _ _ rfl (exec_box _ _ _ 30 (.tmp 0) (cells8 p).toArray rfl rfl) ?_); have hbp : Blk (w.alloc (.cells (cells8 p).toArray 30)) w.heap.size 30 (cells8 p) := Blk.new w _ _; have hk0 : Kept w (w.alloc (.cells (cells8 p).toArray 30)) := (Keep.refl _ w).alloc _; generalize w.alloc (.cells (cells8 p).toArray 30) = w0 at hbp hk0 ⊢)
    | ((with_reducible refine wpl_alloc (o := ⟨some 4, _, _, _, _, _⟩) _ rfl 30 rfl z32 sum_zero ?_); intro w1 hb1 hs1 hk1; clear hs1)))
  have hkw1 := hk0.trans hk1
  have hz0 := hk0.size
  have hlt1 := hb1.lt
  have R0 := Lib.hid (row8_new w1 [] (by simp))
  have k0 : Kept w1 (w1.alloc (.cells (cells8 []).toArray 5)) := (Keep.refl _ w1).alloc _
  have HP := Lib.hid ((hbp.kept hk1).kept k0).r8
  go_wp2_with (at_builtin; refine wpl_append8 _ rfl (.tmp 5) (.tmp 6) rfl w1.heap.size w1.heap.size 0 0 [] rfl rfl R0.out (Nat.le_refl _) (some ⟨w.heap.size, 0, none⟩) 32 32 p rfl hpl.out HP.out (by intro h; cases h) (by omega) ?_)
  intro w2 g2 c2 hrow2 hg2 hk2
  have hkw2 : Kept w1 w2 := Kept.trans' k0 hk2 (by omega)
  have hb2 := hb1.kept hkw2
  have hl0 : Hid (([] : List UInt8).length = 0) := rfl
  clear hk2 k0 R0 HP hbp hk0 hk1 hb1
  go_wp2_with fail
  refine (fu32_any none 0 0 [] (n : Int) w2 (R8.nil _ _) (fun _ => rfl) (by omega) hl0 (by omega) (by omega)).mono ?_
  rintro e w3 ⟨g3, d3, rfl, hg3, hrow3, hk3⟩
  rw [List.nil_append, Int.toNat_natCast] at hrow3
  have hkw3 := hkw2.trans hk3
  have hb3 := hb2.kept hk3
  have hrow23 := hrow2.kept hk3
  have hl2 : Hid (([] ++ p).length = 0 + 32) := by show _ = _; rw [List.nil_append, hpl.out]
  have hl3 : Hid ((be n 4).length = 0 + 4) := be_length _ _
  clear hk3 hb2 hrow2 hkw2
  go_wp2_with (at_builtin; refine wpl_append8 _ rfl (.tmp 7) (.tmp 11) rfl w1.heap.size g2 c2 (0 + 32) ([] ++ p) rfl hl2.out hrow23 hg2 (some ⟨g3, 0, none⟩) (0 + 4) d3 (be n 4) rfl hl3.out hrow3.r8 (by intro h; cases h) (by omega) ?_)
  intro w4 g4 c4 hrow4 hg4 hk4
  have hkw4 : Kept w1 w4 := Kept.trans' hkw3 hk4 (by omega)
  have hb4 := hb3.keep hk4 (by omega)
  have hl4 : Hid ((([] ++ p) ++ be n 4).length = 0 + 32 + (0 + 4)) := by show _ = _; rw [List.length_append, hl2.out, hl3.out]
  clear hk4 hb3 hrow3 hrow23 hkw3
  go_wp2_with (at_builtin; refine wpl_append8 _ rfl (.tmp 12) (.tmp 13) rfl w1.heap.size g4 c4 (0 + 32 + (0 + 4)) _ rfl hl4.out hrow4 hg4 A n c b rfl hl.out (HR.out.kept (hkw1.trans hkw4)) HA.out (by omega) ?_)
  intro w5 g5 c5 hrow5 hg5 hk5
  have hkw5 : Kept w1 w5 := Kept.trans' hkw4 hk5 (by omega)
  have hb5 := hb4.keep hk5 (by omega)
  have hl5 : Hid ((p ++ (be n 4 ++ b)).length = 36 + n) := by show _ = _; rw [List.length_append, List.length_append, be_length, hpl.out, hl.out]; omega
  clear hk5 hb4 hrow4 hkw4
  go_wp2_with fail
  refine (refSha_any _ _ c5 _ w5 hrow5.r8 (by intro h; cases h) hl5 (by omega)).mono ?_
  rintro e w6 ⟨rfl, hk6⟩
  rw [HS.out _ rfl]
  have hkw6 := hkw1.trans (hkw5.trans hk6)
  have hb6 := hb5.kept hk6
  clear hk6 hb5 hrow5 hkw5 HS
  go_wp2_with ((with_reducible show wpList _ _ _ _ _ _); ((with_reducible refine wpl_store_row (o := ⟨none, _, _, _, _, _⟩) _ rfl 30 (.tmp 4) (.tmp 15) rfl w0.heap.size (cells8 S) ?hp ?hv 30 z32 hb6 hiS.out hzS.out (cells8_one _) ?_); (case hp => rfl); (case hv => rfl); intro wd hbd hkd hsd))
  refine bodyPost_ret (results_cell_row (p := 4) (ty := 30) rfl _ _ w0.heap.size 30 (cells8 S).toArray (0, 0) _ rfl hbd Tryd.underlying30 rfl (by have := HL.out; simpa [this] using sum_size)) rfl ?_
  exact ⟨rfl, Kept.trans' hkw6 hkd (by omega)⟩

theorem fold_set (l : List Value) : ∀ (k : Nat) (pre suf : List Value), pre.length = k → suf.length = l.length →
    (l.zipIdx k).foldl (fun (cs : Array Value) (x : Value × Nat) => cs.setIfInBounds x.2 x.1) (pre ++ suf).toArray = (pre ++ l).toArray := by
  induction l with
  | nil =>
    intro k pre suf h1 h2
    have : suf = [] := List.eq_nil_of_length_eq_zero (by simpa using h2)
    subst this
    rfl
  | cons v l ih =>
    intro k pre suf h1 h2
    cases suf with
    | nil => simp at h2
    | cons s suf =>
      rw [List.zipIdx_cons, List.foldl_cons]
      have e : (pre ++ s :: suf).toArray.setIfInBounds k v = ((pre ++ [v]) ++ suf).toArray := by
        simp [List.set_append_right _ _ (show pre.length ≤ k by omega), h1]
      show List.foldl _ ((pre ++ s :: suf).toArray.setIfInBounds k v) _ = _
      rw [e, ih (k + 1) (pre ++ [v]) suf (by simp [h1]) (by simpa using h2)]
      simp
/-- []T{v}, T of k cells -/
theorem exec_oneA {a : Act} {o : Oper} {u : World} (t e : TypeId) (k : Nat) (x : Operand) (cs : List Value) (z : Value) (hop : o.op = .buildSlice t 1 #[(0, x)]) (ht : Tryd.prog.underlying t = some (.slice e)) (hk : (Tryd.prog.info? e).map (fun i => (i.zero, i.size)) = some (some z, k)) (hk0 : 0 < k) (hk1 : k ≤ 1000) (hz : z.cells.size = k) (hl : cs.length = k) (hx : a.eval x = .agg cs.toArray) :
    (execOp a.eval o).run Tryd.prog u = .ok (.value (.slice (some ⟨u.heap.size, 0, none⟩) 1 1)) (u.alloc (.cells cs.toArray e)) := by
  cases hq : Tryd.prog.info? e with
  | none => simp [hq] at hk
  | some t0 =>
    have h1 : t0.zero = some z ∧ t0.size = k := by simpa [hq] using hk
    have hf := fold_set cs 0 [] (List.map (fun j => z.cells[j % z.cells.size]!) (List.range k)) rfl (by simp [hl])
    unfold execOp
    simp only [hop, List.map_toArray, List.map_cons, List.map_nil, hx]
    have hn : ¬ k = 0 := by omega
    have hc : (Value.agg cs.toArray).cells = cs.toArray := rfl
    have hb : ¬ 16777216 < k := by omega
    simp [Instr.buildSlice, run_underlying ht, sizeOf, typeInfo, hq, h1.1, h1.2, zeroValue, Instr.fill, newRow, hc, hl, hn, hb]
    have e : Array.map (fun x => z.cells[x % z.cells.size]!) (Array.range k) = (List.map (fun j => z.cells[j % z.cells.size]!) (List.range k)).toArray := by
      apply Array.toList_inj.1
      simp
    rw [e]
    simp only [List.nil_append] at hf
    rw [hf]
end Go.Proofs.YtholpkaicmckfaaDoor
