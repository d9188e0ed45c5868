/-
  The contract of sha.Hash.Write. Conditions: lengths far below 2^47; the bytes don't lie in the hash itself.
-/
import Derived.Test.YtholpkaicmckfaaDoorShaB
namespace Go.Proofs.YtholpkaicmckfaaDoor
open Go.RowKit
set_option linter.unusedVariables false

/-- a slice of bytes beside block g -/
def SliceIs (w : World) (g : Nat) (v : Value) (zs : List UInt8) : Prop := ∃ A n c, v = .slice A n c ∧ Hid (zs.length = n) ∧ R8 w A zs ∧ n ≤ c ∧ c ≤ maxLen ∧ (∀ ad, A = some ad → zs ≠ [] → ad.block ≠ g)
def lenOf : Value → Nat
  | .slice _ n _ => n
  | _ => 0

theorem R8.dropAdd {w : World} {ad : Addr} {zs : List UInt8} (h : R8 w (some ad) zs) (t : Nat) : R8 w (some (ad.add t)) (zs.drop t) := by
  intro k x hx
  rw [List.getElem?_drop] at hx
  obtain ⟨ad', e, hc⟩ := h (t + k) x hx
  injection e with e
  subst e
  exact ⟨_, rfl, by rw [add_add]; exact hc⟩

/-- b[t:] -/
theorem slice_from (w : World) (ad : Addr) (n c t : Nat) (zs : List UInt8) (hl : zs.length = n) (hx : R8 w (some ad) zs) (hnc : n ≤ c) (ht : t ≤ n) (g : Nat) (hg : ad.block ≠ g) :
    ∃ A, (∀ u, (Instr.slice 22 (.slice (some ad) n c) (some (.int .i64 (t : Int))) none none).run Tryd.prog u = .ok (.slice A (n - t) (c - t)) u) ∧ R8 w A (zs.drop t) ∧ (∀ a, A = some a → a.block ≠ g) := by
  obtain ⟨i0, hi, hz0, hz1, hz2⟩ := info_parts info8
  refine ⟨if c = t then some ad else some (ad.add t), fun u => ?_, ?_, ?_⟩
  · have h := run_slice_l (P := Tryd.prog) (w := u) 22 (some ad) n c Tryd.underlying22 .i64 (t : Int) (by omega) (by omega)
    have e : Tryd.prog.elem 22 = 5 := by kernel_rfl
    rw [h, e]
    simp [sizeOf, typeInfo, hi, hz1, sliced]
  · split
    · have : zs.drop t = [] := List.drop_eq_nil_of_le (by omega)
      rw [this]
      exact R8.nil _ _
    · exact hx.dropAdd t
  · intro a ha
    split at ha
    · injection ha with ha
      subst ha
      exact hg
    · injection ha with ha
      subst ha
      rw [block_add]
      exact hg

/-- block[r:], block an array of 64 bytes -/
theorem slice_block (g o r : Nat) (hr : r < 64) (u : World) : (Instr.sliceAt 52 (.pointer (some ⟨g, o, none⟩)) (some (.int .i64 (r : Int))) none none).run Tryd.prog u = .ok (.slice (some ⟨g, o + r, none⟩) (64 - r) (64 - r)) u := by
  obtain ⟨i0, hi, hz0, hz1, hz2⟩ := info_parts info8
  have e1 : Tryd.prog.arrayLen 52 = 64 := by kernel_rfl
  have e2 : Tryd.prog.elem 52 = 5 := by kernel_rfl
  have h := run_sliceAt_array_l (P := Tryd.prog) (w := u) 52 ⟨g, o, none⟩ (by kernel_rfl) .i64 (r : Int) (by omega) (by rw [e1]; omega)
  rw [h, e1, e2]
  have hne : ¬ 64 = r := by omega
  simp [sizeOf, typeInfo, hi, hz1, hne, slicedAt, Addr.add]

/-- copy of bytes into a row -/
theorem wpl_copy8 {ops : Array Oper} {rest : List Oper} {o : Oper} {a : Act} {Q : Exit → Act → World → Prop} (w : World) (hg : o.guard = none) (d s : Operand)
    (hop : o.op = .call { callee := .builtin .copy, args := #[d, s], argTypes := #[22, 22] }) (g off dLen dCap : Nat) (ad : Addr) (sLen sCap : Nat) (hd : a.eval d = .slice (some ⟨g, off, none⟩) dLen dCap) (hs : a.eval s = .slice (some ad) sLen sCap)
    (cur : List Value) (t : TypeId) (hb : Blk w g t cur) (ys : List UInt8) (hn : ys.length = Nat.min sLen dLen) (hR : R8 w (some ad) ys) (hfit : off + ys.length ≤ cur.length)
    (hK : ∀ w', Blk w' g t (splice cur off (cells8 ys)) → Keep (· = g) w w' → w'.heap.size = w.heap.size → wpList Tryd.prog ops Q rest (a.put o.dst (.int .i64 (ys.length : Int))) w') : wpList Tryd.prog ops Q (o :: rest) a w := by
  refine wpList_copy_own hg d s _ _ hop 5 Tryd.underlying22 info8s g off dLen dCap ad sLen sCap hd hs cur.toArray t hb (cells8 ys) (by rw [len8]; exact hn) hR.cells (by rw [len8]; simpa using hfit) (cells8_one ys) ?_
  have h := hK (w.setRow g (cur.take off ++ (cells8 ys ++ cur.drop (off + (cells8 ys).length))).toArray) (setRow_heap w g _ _ t _ hb) ⟨rfl, rfl, rfl, by simp [World.setRow], fun k _ hk => setRow_other w g k _ (fun e => hk (by omega))⟩ (by simp [World.setRow])
  rw [len8] at h ⊢
  exact h

theorem hash_n {w : World} {g : Nat} {s : St} {bs : List UInt8} {N t : Nat} (hb : Blk w g 54 (hcells s bs N)) (hl : bs.length = 64) :
    Blk (w.setCell ⟨g, 72, none⟩ (.int .i64 ((N : Int) + (t : Int)))) g 54 (hcells s bs (N + t)) := by
  have h := hb.set_ 72 (.int .i64 ((N : Int) + (t : Int)))
  rw [← Int.natCast_add, hcells_setn s bs N (N + t) hl, Int.natCast_add] at h
  exact h

/-- the end of a round of Write -/
theorem write_end {w w2 w5 : World} {g : Nat} {xs ys ps zs : List UInt8} {A2 : Option Addr} {n c t j N : Nat} {s : St} {bs : List UInt8} (hk : Keep (· = g) w w2) (hk2 : Keep (· = g) w2 w5) (hR : R8 w2 A2 (zs.drop t)) (hA : ∀ a, A2 = some a → a.block ≠ g)
    (hdd : zs.drop t = ys.drop (j + t)) (hpp : ps ++ zs.take t = xs ++ ys.take (j + t)) (hNt : (ps ++ zs.take t).length = N + t) (hF : Fed (ps ++ zs.take t) s bs) (hb : Blk w5 g 54 (hcells s bs (N + t)))
    (hnn : (ys.drop (j + t)).length = n - t) (hcap : n - t ≤ c - t ∧ c - t ≤ maxLen) (hG : Glob w) (hne : g ≠ 0 ∧ g ≠ 1) :
    SliceIs w5 g (.slice A2 (n - t) (c - t)) (ys.drop (j + t)) ∧ HS w5 g (xs ++ ys.take (j + t)) ∧ Keep (· = g) w w5 ∧ Glob w5 := by
  have hk5 : Keep (· = g) w w5 := hk.trans hk2 (fun _ _ h => h)
  refine ⟨⟨A2, n - t, c - t, rfl, hnn, ?_, hcap.1, hcap.2, fun ad h _ => hA ad h⟩, ?_, hk5, hG.keep hk5 (fun e => hne.1 e.symm) (fun e => hne.2 e.symm)⟩
  · rw [← hdd]
    exact hR.keep hk2 (fun ad h _ e => hA ad h e)
  · rw [← hNt] at hb
    rw [← hpp]
    exact ⟨s, bs, hF, hb⟩

set_option maxRecDepth 100000 in
set_option maxHeartbeats 800000 in
theorem write_any (g : Nat) (xs : List UInt8) (v : Value) (ys : List UInt8) (w : World) (hG : Glob w) (hs : HS w g xs) (hv : SliceIs w g v ys) (hxl : xs.length ≤ 1000000) (hyl : ys.length ≤ 1000000) :
    Calls Tryd.prog 24 #[.pointer (some ⟨g, 0, none⟩), v] w fun e w' => e = .returned (.tuple #[]) ∧ HS w' g (xs ++ ys) ∧ Keep (· = g) w w' := by
  go_enter Tryd.func24, Tryd.ntmps24
  go_wp2_with fail
  go_loopw [1] (fun b wr => ∃ j : Nat, j ≤ ys.length ∧ SliceIs wr g b (ys.drop j) ∧ HS wr g (xs ++ ys.take j) ∧ Keep (· = g) w wr ∧ Glob wr) (fun b _ => lenOf b)
  case atStart => exact ⟨0, Nat.zero_le _, by simpa using hv, by simpa using hs, Keep.refl _ _, hG⟩
  case round =>
    obtain ⟨j, hj, ⟨A, n, c, rfl, hl, hR, hnc, hcm, hA⟩, hsr, hkr, hGr⟩ := hrel
    by_cases hlt : 0 < n
    · have hmx := hcm
      unfold maxLen at hmx
      obtain ⟨zs, hzs⟩ : ∃ zs, zs = ys.drop j := ⟨_, rfl⟩
      obtain ⟨ps, hps⟩ : ∃ ps, ps = xs ++ ys.take j := ⟨_, rfl⟩
      rw [← hzs] at hl hR hA
      rw [← hps] at hsr
      have hzl := hl.out
      have hpl : ps.length = xs.length + j := by rw [hps, List.length_append, List.length_take]; omega
      have hzl2 : zs.length = ys.length - j := by rw [hzs, List.length_drop]
      have hne0 := hGr.ne hsr
      obtain ⟨s, bs, hF, hb⟩ := hsr
      obtain ⟨ad, rfl, -⟩ := hR.at_ (k := 0) (by omega)
      have hadg : ad.block ≠ g := hA ad rfl (fun e => by rw [e] at hzl; simp only [List.length_nil] at hzl; omega)
      obtain ⟨N, hN⟩ : ∃ N, N = ps.length := ⟨_, rfl⟩
      obtain ⟨r, hr⟩ : ∃ r, r = ps.length % 64 := ⟨_, rfl⟩
      have hr64 : r < 64 := by omega
      obtain ⟨t, ht⟩ : ∃ t, t = min n (64 - r) := ⟨_, rfl⟩
      have ht1 : t ≤ n := by omega
      have ht2 : t ≤ 64 - r := by omega
      have ht3 : 0 < t := by omega
      have hNb : N ≤ 3000000 := by omega
      have hri : (N : Int) % 64 = (r : Int) := by omega
      have htl : (zs.take t).length = t := by rw [List.length_take]; omega
      have hbl := hF.len
      obtain ⟨A2, hsl, hR2, hA2⟩ := slice_from wr ad n c t zs hzl hR hnc ht1 g hadg
      have hsb := slice_block g 8 r hr64
      have cN : wr.cell? ⟨g, 72, none⟩ = some (.int .i64 (N : Int)) := by rw [hb.cell, hN]; exact hcells_n s bs _ hbl
      rw [← hN] at hb
      obtain ⟨bs2, hbs2⟩ : ∃ bs2, bs2 = splice bs r (zs.take t) := ⟨_, rfl⟩
      have hbl2 : bs2.length = 64 := by rw [hbs2, length_splice _ _ _ (by rw [htl]; omega), hbl]
      have hE := hcells_splice s bs (zs.take t) N r hbl (by rw [htl]; omega)
      rw [← hbs2] at hE
      have HE := Lib.hid hE
      have HL := Lib.hid htl
      have hmin : Hid ((zs.take t).length = Nat.min n (64 - r)) := by show _ = _; rw [htl, ht]
      have hfit : Hid (8 + r + (zs.take t).length ≤ (hcells s bs N).length) := by show _ ≤ _; rw [htl, hcells_length s bs N hbl]; omega
      have HN := Lib.hid hN
      have HR := Lib.hid hr
      have HBl2 := Lib.hid hbl2
      have HBs2 := Lib.hid hbs2
      have HF := Lib.hid hF
      have Hps := Lib.hid hps
      have Hzs := Lib.hid hzs
      have hj2 : j + t ≤ ys.length := by omega
      have hnn : Hid ((ys.drop (j + t)).length = n - t) := by show _ = _; rw [List.length_drop]; omega
      have hdd : Hid (zs.drop t = ys.drop (j + t)) := by show _ = _; rw [hzs, List.drop_drop]
      have hpp : Hid (ps ++ zs.take t = xs ++ ys.take (j + t)) := by
        show _ = _
        rw [hps, hzs, List.append_assoc, List.take_add]
      have hNt : Hid ((ps ++ zs.take t).length = N + t) := by show _ = _; rw [List.length_append, htl, hN]
      have hz0 : Hid (8 + 64 = 72) := rfl
      have hR3 : R8 wr (some ad) (zs.take t) := fun k x hx => hR k x (by rw [List.getElem?_take] at hx; split at hx <;> simp_all)
      have hcap : Hid (n - t ≤ c - t ∧ c - t ≤ maxLen) := by show _ ∧ _; omega
      by_cases hfull : r + t = 64
      · have hq : ((N : Int) + (t : Int)) % 64 = 0 := by omega
        have hf2 := hF.full (zs.take t) (by rw [← hr, htl]; exact hfull)
        rw [← hr, ← hbs2] at hf2
        have HF2 := Lib.hid hf2
        clear hf2 hzs hps hzl hpl hzl2 hN hr ht hfull htl hbl hbl2 hE hbs2 hF
        go_wp2_with fail
        refine wp_quiet_tail 10 (by kernel_rfl) (by kernel_rfl) ?_
        simp only [List.take_succ_cons, List.take_zero, List.drop_succ_cons, List.drop_zero]
        repeat (go_big_quiet_step (fail))
        refine wpQuiet_nil ?_
        intro _ hw'
        obtain ⟨nr, hw''⟩ := hw'
        subst hw''
        have hb' := hb.drewN nr
        have hk' := hkr.drewN nr
        have hR2' : R8 (wr.drewN nr) A2 (zs.drop t) := hR2
        have hR3' : R8 (wr.drewN nr) (some ad) (zs.take t) := hR3
        generalize wr.drewN nr = w2 at hb' hk' hR2' hR3' ⊢
        clear hb hkr hR2 hR3 hR cN hl
        go_wp2_with ((with_reducible show wpList _ _ _ _ _ _); ((with_reducible refine wpl_copy8 (o := ⟨some 18, _, _, _, _, _⟩) _ rfl (.tmp 16) (.tmp 17) rfl g (8 + r) (64 - r) (64 - r) ad n c ?hd ?hs (hcells s bs N) 54 hb' (zs.take t) hmin.out hR3' hfit.out ?_); (case hd => rfl); (case hs => rfl); intro w3 hb3 hk3 hs3; rw [HL.out]; rw [HE.out] at hb3; have c3 : w3.cell? ⟨g, 72, none⟩ = some (.int .i64 (N : Int)) := (hb3.cell 72).trans (hcells_n s bs2 N HBl2.out); have f3 : w3.frozen? ⟨g, 72, none⟩ = false := hb3.frozen 72))
        have hb4 := hash_n (t := t) hb3 HBl2.out
        have hk4 : Keep (· = g) w2 (w3.setCell ⟨g, 72, none⟩ (.int .i64 ((N : Int) + (t : Int)))) := Keep.setCell hk3 (fun _ => rfl) _
        have hG4 : Glob (w3.setCell ⟨g, 72, none⟩ (.int .i64 ((N : Int) + (t : Int)))) := hG.keep (hk'.trans hk4 (fun _ _ h => h)) (fun e => hne0.1 e.symm) (fun e => hne0.2 e.symm)
        refine (mix_any g s bs2 (N + t) _ hb4 HBl2 HF.out.ok hG4).mono ?_
        rintro e w5 ⟨rfl, hb5, hk5⟩
        have R := write_end (c := c) hk' (hk4.trans hk5 (fun _ _ h => h)) hR2' hA2 hdd.out hpp.out hNt.out HF2.out hb5 hnn.out hcap.out hG hne0
        clear hb5 hk5 hb4 hk4 hG4 hb3 hk3
        go_wp2
        exact ⟨⟨j + t, hj2, R⟩, by simp [lenOf]; omega⟩
      · have hq : (((N : Int) + (t : Int)) % 64 == 0) = false := by rw [beq_eq_false_iff_ne]; omega
        have hf2 := hF.part (zs.take t) (by rw [← hr, htl]; omega)
        rw [← hr, ← hbs2] at hf2
        have HF2 := Lib.hid hf2
        clear hf2 hzs hps hzl hpl hzl2 hN hr ht hfull htl hbl hbl2 hE hbs2 hF
        go_wp2_with fail
        refine wp_quiet_tail 10 (by kernel_rfl) (by kernel_rfl) ?_
        simp only [List.take_succ_cons, List.take_zero, List.drop_succ_cons, List.drop_zero]
        repeat (go_big_quiet_step (fail))
        refine wpQuiet_nil ?_
        intro _ hw'
        obtain ⟨nr, hw''⟩ := hw'
        subst hw''
        have hb' := hb.drewN nr
        have hk' := hkr.drewN nr
        have hR2' : R8 (wr.drewN nr) A2 (zs.drop t) := hR2
        have hR3' : R8 (wr.drewN nr) (some ad) (zs.take t) := hR3
        generalize wr.drewN nr = w2 at hb' hk' hR2' hR3' ⊢
        clear hb hkr hR2 hR3 hR cN hl
        go_wp2_with ((with_reducible show wpList _ _ _ _ _ _); ((with_reducible refine wpl_copy8 (o := ⟨some 18, _, _, _, _, _⟩) _ rfl (.tmp 16) (.tmp 17) rfl g (8 + r) (64 - r) (64 - r) ad n c ?hd ?hs (hcells s bs N) 54 hb' (zs.take t) hmin.out hR3' hfit.out ?_); (case hd => rfl); (case hs => rfl); intro w3 hb3 hk3 hs3; rw [HL.out]; rw [HE.out] at hb3; have c3 : w3.cell? ⟨g, 72, none⟩ = some (.int .i64 (N : Int)) := (hb3.cell 72).trans (hcells_n s bs2 N HBl2.out); have f3 : w3.frozen? ⟨g, 72, none⟩ = false := hb3.frozen 72))
        have hb4 := hash_n (t := t) hb3 HBl2.out
        have hk4 : Keep (· = g) w2 (w3.setCell ⟨g, 72, none⟩ (.int .i64 ((N : Int) + (t : Int)))) := Keep.setCell hk3 (fun _ => rfl) _
        have R := write_end (c := c) hk' hk4 hR2' hA2 hdd.out hpp.out hNt.out HF2.out hb4 hnn.out hcap.out hG hne0
        exact ⟨⟨j + t, hj2, R⟩, by simp [lenOf]; omega⟩
    · go_wp2
      go_end0
      have h0 := hl.out
      rw [List.length_drop] at h0
      rw [List.take_of_length_le (by omega)] at hsr
      exact ⟨rfl, hsr, hkr⟩
end Go.Proofs.YtholpkaicmckfaaDoor
