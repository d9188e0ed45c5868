/-
  The contract of sha.Hash.mix. No condition but the tables' contents.
-/
import Derived.Test.YtholpkaicmckfaaDoorShaS
import Derived.ChangeKeysEq
namespace Go.Proofs.YtholpkaicmckfaaDoor
open Go.RowKit
set_option linter.unusedVariables false

/-- the two tables hold what their text says -/
structure Glob (w : World) : Prop where
  first : ∃ t fr, w.heap[0]? = some (.cells (cells32 H0.list).toArray t fr)
  round : ∃ t fr, w.heap[1]? = some (.cells (cells32 K64).toArray t fr)

/-- a hash in memory -/
def hcells (s : St) (bs : List UInt8) (n : Nat) : List Value := cells32 s.list ++ (cells8 bs ++ [.int .i64 (n : Int)])
theorem hcells_word (s : St) (bs : List UInt8) (n k : Nat) (hk : k < 8) : (hcells s bs n)[k]? = some (.int .u32 (s.list.getD k 0)) := by
  unfold hcells
  rw [List.getElem?_append_left (by rw [len32]; exact hk), cells32_at _ _ (by exact hk)]
theorem hcells_byte (s : St) (bs : List UInt8) (n k : Nat) (hl : bs.length = 64) (hk : k < 64) : (hcells s bs n)[8 + k]? = some (.int .u8 ((bs.getD k 0).toNat : Int)) := by
  unfold hcells
  have e : (cells32 s.list).length = 8 := by rw [len32]; rfl
  rw [List.getElem?_append_right (by omega), e, Nat.add_sub_cancel_left, List.getElem?_append_left (by rw [len8]; omega), cells8, List.getElem?_map, List.getD_eq_getElem?_getD, List.getElem?_eq_getElem (by omega)]
  rfl
theorem hcells_n (s : St) (bs : List UInt8) (n : Nat) (hl : bs.length = 64) : (hcells s bs n)[72]? = some (.int .i64 (n : Int)) := by
  unfold hcells
  have e : (cells32 s.list).length = 8 := by rw [len32]; rfl
  rw [List.getElem?_append_right (by omega), e, List.getElem?_append_right (by rw [len8]; omega), len8, hl]
  rfl

theorem index_row (w : World) (t e : TypeId) (n : Nat) (xs : List Int) (k : Nat) (ht : Tryd.prog.underlying t = some (.array n e)) (he : (Tryd.prog.info? e).map (·.size) = some 1) (hp : Tryd.prog.plainKey e = true) (hk : k < n) (hl : xs.length = n) :
    (Instr.index t (.agg (cells32 xs).toArray) (.int .i64 (k : Int))).run Tryd.prog w = .ok (.int .u32 (xs.getD k 0)) w := by
  have hc : (cells32 xs).toArray[k * 1]? = some (.int .u32 (xs.getD k 0)) := by
    rw [Nat.mul_one, List.getElem?_toArray, cells32_at _ _ (by omega)]
  have hp := run_part_plain w hp hc
  cases hq : Tryd.prog.info? e with
  | none => simp [hq] at he
  | some i =>
    have hs : i.size = 1 := by simpa [hq] using he
    have h1 : (0 : Int) ≤ (k : Int) ∧ (k : Int) < (n : Int) := by omega
    rw [Nat.mul_one] at hp
    simp [Instr.index, asIntOf, Sem.run_bind, run_underlying ht w, sizeOf, typeInfo, hq, hs, hp]
    intro h
    omega

theorem rounds_step (S : List Int) (s t : St) (k : Nat) (kk x : Int) (ht : t = rounds S s k) (hkk : kk = K64.getD k 0) (hx : x = S.getD k 0) : t.rnd kk x = rounds S s (k + 1) := by
  rw [ht, hkk, hx]
  rfl
theorem rnd_ok (t : St) (kk x : Int) (h : t.ok) : (t.rnd kk x).ok := by
  intro y hy
  have h1 : ∀ z : Int, 0 ≤ z % 4294967296 ∧ z % 4294967296 < 4294967296 := fun z => by omega
  simp only [St.rnd, St.list, List.mem_cons, List.not_mem_nil, or_false] at hy
  rcases hy with rfl | rfl | rfl | rfl | rfl | rfl | rfl | rfl
  · exact h1 _
  · exact h _ (by simp [St.list])
  · exact h _ (by simp [St.list])
  · exact h _ (by simp [St.list])
  · exact h1 _
  · exact h _ (by simp [St.list])
  · exact h _ (by simp [St.list])
  · exact h _ (by simp [St.list])

/-- the words on the way to their sums -/
def addTo (s t : St) (j : Nat) : List Int := (s.add t).list.take j ++ s.list.drop j
def hcl (ws : List Int) (bs : List UInt8) (n : Nat) : List Value := cells32 ws ++ (cells8 bs ++ [.int .i64 (n : Int)])
theorem addTo_length (s t : St) (j : Nat) (hj : j < 8) : (addTo s t j).length = 8 := by
  simp [addTo, St.list]
  omega
theorem addTo_getD (s t : St) (j : Nat) (hj : j < 8) : (addTo s t j).getD j 0 = s.list.getD j 0 := by
  match j, hj with
  | 0, _ => rfl
  | 1, _ => rfl
  | 2, _ => rfl
  | 3, _ => rfl
  | 4, _ => rfl
  | 5, _ => rfl
  | 6, _ => rfl
  | 7, _ => rfl
theorem addTo_set (s t : St) (j : Nat) (hj : j < 8) : (addTo s t j).set j ((s.list.getD j 0 + t.list.getD j 0) % 4294967296) = addTo s t (j + 1) := by
  match j, hj with
  | 0, _ => rfl
  | 1, _ => rfl
  | 2, _ => rfl
  | 3, _ => rfl
  | 4, _ => rfl
  | 5, _ => rfl
  | 6, _ => rfl
  | 7, _ => rfl
theorem hcl_word (s t : St) (bs : List UInt8) (n j : Nat) (hj : j < 8) : (hcl (addTo s t j) bs n)[j]? = some (.int .u32 (s.list.getD j 0)) := by
  unfold hcl
  rw [List.getElem?_append_left (by rw [len32, addTo_length s t j hj]; exact hj), cells32_at _ _ (by rw [addTo_length s t j hj]; exact hj), addTo_getD s t j hj]
theorem hcl_set (s t : St) (bs : List UInt8) (n j : Nat) (y z : Int) (hj : j < 8) (hy : y = s.list.getD j 0) (hz : z = t.list.getD j 0) :
    (hcl (addTo s t j) bs n).set j (.int .u32 ((y + z) % 4294967296)) = hcl (addTo s t (j + 1)) bs n := by
  unfold hcl
  rw [List.set_append_left _ _ (by rw [len32, addTo_length s t j hj]; exact hj), cells32_set, hy, hz, addTo_set s t j hj]

def MixRel (S : List Int) (s : St) (w : World) (v4 v5 v6 v7 v8 v9 v10 v11 i : Value) (wr : World) : Prop :=
  ∃ (k m : Nat) (t : St), k ≤ 64 ∧ i = .int .i64 k ∧ wr = w.drewN m ∧ Hid (t = rounds S s k) ∧ Hid (t.ok) ∧ v4 = .int .u32 t.a ∧ v5 = .int .u32 t.b ∧ v6 = .int .u32 t.c ∧ v7 = .int .u32 t.d ∧ v8 = .int .u32 t.e ∧ v9 = .int .u32 t.f ∧ v10 = .int .u32 t.g ∧ v11 = .int .u32 t.h

set_option maxRecDepth 100000 in
set_option maxHeartbeats 800000 in
theorem mix_any (g : Nat) (s : St) (bs : List UInt8) (n : Nat) (w : World) (hb : Blk w g 54 (hcells s bs n)) (hl : Hid (bs.length = 64)) (hok : Hid s.ok) (hG : Glob w) :
    Calls Tryd.prog 31 #[.pointer (some ⟨g, 0, none⟩)] w fun e w' => e = .returned (.tuple #[]) ∧ Blk w' g 54 (hcells (comp s bs) bs n) ∧ Keep (· = g) w w' := by
  obtain ⟨S, hS⟩ : ∃ S, S = sched (wrds bs) 48 := ⟨_, rfl⟩
  have HSl : Hid (S.length = 64) := by show _ = _; rw [hS, sched_length, wrds_length, hl.out]
  have hSb := sched_bd (wrds bs) (wrds_bd bs) 48
  rw [← hS] at hSb
  have HSb := Lib.hid hSb
  have HS := Lib.hid hS
  have HC : Hid (∀ t, t = rounds S s 64 → comp s bs = s.add t) := by
    intro t ht
    rw [ht, hS]
    rfl
  clear hS hSb
  have hglt := hb.lt
  go_enter Tryd.func31, Tryd.ntmps31
  go_wp2_with fail
  refine (sched_any g 8 bs w hl (fun k hk => by rw [hb.cell]; exact hcells_byte s bs n k hl.out hk)).mono ?_
  rintro e w1 ⟨rfl, hk1⟩
  rw [← HS.out]
  have hb1 := hb.kept hk1
  obtain ⟨tg, fr, hg1⟩ := hG.round
  have hg1' := (hk1.block 1 (Array.getElem?_eq_some_iff.1 hg1).1 (fun h => h)).trans hg1
  have hz := hk1.size
  have hi64 : (Tryd.prog.info? 57).map (·.size) = some (cells32 S).length := by rw [len32, HSl.out]; exact a64_size
  have HI := Lib.hid hi64
  have hzl : z64.length = (cells32 S).length := by rw [len32, HSl.out]; rfl
  have HZ := Lib.hid hzl
  clear hg1 hi64 hzl HS hb hG
  go_wp2_with ((with_reducible show wpList _ _ _ _ _ _); (first | ((with_reducible refine wpl_alloc (o := ⟨some 2, _, _, _, _, _⟩) _ rfl 57 rfl z64 a64_zero ?_); intro w2 hba hsa hka) | ((with_reducible refine wpl_store_row (o := ⟨none, _, _, _, _, _⟩) _ rfl 57 (.tmp 2) (.tmp 23) rfl w1.heap.size (cells32 S) ?hp ?hv 57 z64 hba HI.out HZ.out (cells32_one _) ?_); (case hp => rfl); (case hv => rfl); intro w3 hbd hkd hsd)))
  have hk2 : Kept w1 w3 := Kept.trans' hka hkd (by omega)
  have hkw : Kept w w3 := hk1.trans hk2
  have hb3 := hb1.kept hk2
  have hg3 := (hk2.block 1 (Array.getElem?_eq_some_iff.1 hg1').1 (fun h => h)).trans hg1'
  have hne : ¬ w1.heap.size = g := by omega
  have c0 : w3.cell? ⟨g, 0, none⟩ = some (.int .u32 s.a) := (hb3.cell 0).trans (hcells_word s bs n 0 (by omega))
  have c1 : w3.cell? ⟨g, 1, none⟩ = some (.int .u32 s.b) := (hb3.cell 1).trans (hcells_word s bs n 1 (by omega))
  have c2 : w3.cell? ⟨g, 2, none⟩ = some (.int .u32 s.c) := (hb3.cell 2).trans (hcells_word s bs n 2 (by omega))
  have c3 : w3.cell? ⟨g, 3, none⟩ = some (.int .u32 s.d) := (hb3.cell 3).trans (hcells_word s bs n 3 (by omega))
  have c4 : w3.cell? ⟨g, 4, none⟩ = some (.int .u32 s.e) := (hb3.cell 4).trans (hcells_word s bs n 4 (by omega))
  have c5 : w3.cell? ⟨g, 5, none⟩ = some (.int .u32 s.f) := (hb3.cell 5).trans (hcells_word s bs n 5 (by omega))
  have c6 : w3.cell? ⟨g, 6, none⟩ = some (.int .u32 s.g) := (hb3.cell 6).trans (hcells_word s bs n 6 (by omega))
  have c7 : w3.cell? ⟨g, 7, none⟩ = some (.int .u32 s.h) := (hb3.cell 7).trans (hcells_word s bs n 7 (by omega))
  clear hka hkd hsa hsd hba hb1 hk1 hk2 hg1' HI HZ
  have HG := Lib.hid hg3
  clear hg3
  go_quiet (fail)
  have hbd4 := hbd.drewN nq
  have hb4 := hb3.drewN nq
  have hk4 : Kept w (w3.drewN nq) := hkw.drewN nq
  have hg4 : Hid ((w3.drewN nq).heap[1]? = some (.cells (cells32 K64).toArray tg fr)) := HG.out
  generalize w3.drewN nq = w4 at hbd4 hb4 hk4 hg4 ⊢
  clear c0 c1 c2 c3 c4 c5 c6 c7 hbd hb3 hkw HG
  go_wp2_with ((with_reducible show wpList _ _ _ _ _ _); ((with_reducible refine wpList_load_row (o := ⟨some 59, _, _, _, _, _⟩) rfl 57 (.global 1) rfl 1 ?hx tg (cells32 K64).toArray fr _ hg4.out Tryd.underlying57 ?hd ?hi ?_); (case hx => rfl); (case hd => rfl); (case hi => kernel_rfl)))
  go_loopw [4, 5, 6, 7, 8, 9, 10, 11, 60] (MixRel S s w4) (fun _ _ _ _ _ _ _ _ i _ => 64 - (intOf i).toNat)
  case atStart => exact ⟨0, 0, s, Nat.zero_le _, rfl, rfl, rfl, hok, rfl, rfl, rfl, rfl, rfl, rfl, rfl, rfl⟩
  case round =>
    obtain ⟨k, m, t, hk, rfl, rfl, HT, Hok, rfl, rfl, rfl, rfl, rfl, rfl, rfl, rfl⟩ := hrel
    by_cases hlt : k < 64
    · have hix := fun u => index_row u 57 41 64 K64 k Tryd.underlying57 (by kernel_rfl) (by kernel_rfl) hlt rfl
      obtain ⟨kk, hkk⟩ : ∃ kk, kk = K64.getD k 0 := ⟨_, rfl⟩
      obtain ⟨x, hx⟩ : ∃ x, x = S.getD k 0 := ⟨_, rfl⟩
      have hcx : w4.cell? ⟨w1.heap.size, k, none⟩ = some (.int .u32 x) := by rw [hbd4.cell, cells32_at _ _ (by rw [HSl.out]; exact hlt), hx]
      rw [← hkk] at hix
      have ba := Hok.out t.a (by simp [St.list])
      have be := Hok.out t.e (by simp [St.list])
      have HR := Lib.hid (rounds_step S s t k kk x HT.out hkk hx)
      have HRok := Lib.hid (rnd_ok t kk x Hok.out)
      clear hkk hx
      go_wp2_with fail
      go_quiet (exact turn_q _ _ _ (by omega) (by omega) (by omega) (by omega) ⟨_, rfl⟩)
      go_wp2_with (go_at_call 37; refine (turn_of _ _ _ (by omega) (by omega) (by omega) (by omega)).mono ?_; rintro e w' ⟨rfl, rfl⟩)
      exact ⟨⟨k + 1, m + nq, t.rnd kk x, by omega, by go_num, rfl, HR, HRok, rfl, rfl, rfl, rfl, rfl, rfl, rfl, rfl⟩, by simp [intOf]; omega⟩
    · obtain rfl : k = 64 := by omega
      have HCt := Lib.hid (HC.out t HT.out)
      clear HT HC HSl HSb hg4 hbd4
      have hb5 := hb4.drewN m
      have hk5 : Kept w (w4.drewN m) := hk4.drewN m
      generalize w4.drewN m = w5 at hb5 hk5 ⊢
      clear hb4 hk4
      go_wp2_with fail
      go_loopw [133] (fun i wr => ∃ j : Nat, j ≤ 8 ∧ i = .int .i64 j ∧ Keep (· = g) w wr ∧ Blk wr g 54 (hcl (addTo s t j) bs n)) (fun i _ => 8 - (intOf i).toNat)
      case atStart => exact ⟨0, Nat.zero_le _, rfl, hk5.mono (fun _ _ h => h.elim), hb5⟩
      case round =>
        obtain ⟨j, hj, rfl, hkr, hbr⟩ := hrel
        by_cases hlt : j < 8
        · have hix : ∀ u, (Instr.index 51 (.agg #[.int .u32 t.a, .int .u32 t.b, .int .u32 t.c, .int .u32 t.d, .int .u32 t.e, .int .u32 t.f, .int .u32 t.g, .int .u32 t.h]) (.int .i64 (j : Int))).run Tryd.prog u = .ok (.int .u32 (t.list.getD j 0)) u :=
            fun u => index_row u 51 41 8 t.list j Tryd.underlying51 (by kernel_rfl) (by kernel_rfl) hlt rfl
          obtain ⟨z, hz⟩ : ∃ z, z = t.list.getD j 0 := ⟨_, rfl⟩
          obtain ⟨y, hy⟩ : ∃ y, y = s.list.getD j 0 := ⟨_, rfl⟩
          have hcy : wr.cell? ⟨g, j, none⟩ = some (.int .u32 y) := by rw [hbr.cell, hcl_word s t bs n j hlt, hy]
          have hfy : wr.frozen? ⟨g, j, none⟩ = false := hbr.frozen _
          rw [← hz] at hix
          have HE := Lib.hid (hcl_set s t bs n j y z hlt hy hz)
          clear hz hy
          go_wp2_with fail
          refine wp_quiet_tail 9 (by kernel_rfl) (by kernel_rfl) ?_
          simp only [List.take_succ_cons, List.take_zero, List.drop_succ_cons, List.drop_zero]
          repeat (go_big_quiet_step (fail))
          refine wpQuiet_nil ?_
          intro _ hw'
          obtain ⟨nr, hw''⟩ := hw'
          subst hw''
          have hset := (hbr.drewN nr).set_ j (.int .u32 ((y + z) % 4294967296))
          rw [HE.out] at hset
          have HSet := Lib.hid hset
          have hks : Keep (· = g) w ((wr.drewN nr).setCell ⟨g, j, none⟩ (.int .u32 ((y + z) % 4294967296))) := Keep.setCell (hkr.drewN nr) (fun _ => rfl) _
          clear hset
          go_wp2
          exact ⟨⟨j + 1, by omega, by go_num, hks, HSet.out⟩, by simp [intOf]; omega⟩
        · obtain rfl : j = 8 := by omega
          go_wp2
          go_end0
          refine ⟨rfl, ?_, hkr⟩
          rw [HCt.out]
          exact hbr
end Go.Proofs.YtholpkaicmckfaaDoor
