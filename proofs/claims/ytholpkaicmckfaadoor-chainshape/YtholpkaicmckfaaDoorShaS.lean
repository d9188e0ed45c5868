/-
  The contract of sha.schedule. No condition.
-/
import Derived.Test.YtholpkaicmckfaaDoorShaW
import Derived.Test.YtholpkaicmckfaaDoorTail
import Derived.Deep.DeepCutAuto
namespace Go.Proofs.YtholpkaicmckfaaDoor
open Go.RowKit
set_option linter.unusedVariables false

def z64 : List Value := List.replicate 64 (.int .u32 0)
theorem a64_zero : (Tryd.prog.info? 57).map (·.zero) = some (some (.agg z64.toArray)) := by kernel_rfl
theorem a64_size : (Tryd.prog.info? 57).map (·.size) = some 64 := by kernel_rfl

/-- a cell of a row of the call's own is set -/
theorem arr_set {w wr : World} {g h : Nat} {t u : TypeId} {cs ds ds' : List Value} {k : Nat} {v : Value} (hk : Kept w wr) (hg : Blk wr g t cs) (hh : Blk wr h u ds) (hn : ¬ h < w.heap.size) (hne : g < h) (he : ds.set k v = ds') :
    Kept w (wr.setCell ⟨h, k, none⟩ v) ∧ Blk (wr.setCell ⟨h, k, none⟩ v) g t cs ∧ Blk (wr.setCell ⟨h, k, none⟩ v) h u ds' := by
  refine ⟨Keep.setCell hk (fun h => (hn h).elim) _, hg.far (by simp; omega) _, ?_⟩
  have := hh.set_ k v
  rw [he] at this
  exact this

set_option maxRecDepth 100000 in
set_option maxHeartbeats 800000 in
theorem sched_any (g o : Nat) (bs : List UInt8) (w : World) (hl : Hid (bs.length = 64)) (hx : ∀ k, k < 64 → w.cell? ⟨g, o + k, none⟩ = some (.int .u8 ((bs.getD k 0).toNat : Int))) :
    Calls Tryd.prog 36 #[.pointer (some ⟨g, o, none⟩)] w fun e w' => e = .returned (.agg (cells32 (sched (wrds bs) 48)).toArray) ∧ Kept w w' := by
  have HX := Lib.hid hx
  obtain ⟨m, hm⟩ : ∃ m, m = wrds bs := ⟨_, rfl⟩
  have hml : Hid (m.length = 16) := by show _ = _; rw [hm, wrds_length, hl.out]
  have hmb := wrds_bd bs
  rw [← hm] at hmb
  rw [← hm]
  have HMB := Lib.hid hmb
  have HM := Lib.hid hm
  obtain ⟨S, hS⟩ : ∃ S, S = sched m 48 := ⟨_, rfl⟩
  have HSl : Hid ((cells32 S).length = 64) := by show _ = _; rw [hS, len32, sched_length, hml.out]
  rw [← hS]
  have HS := Lib.hid hS
  clear hx hm hmb hS
  go_enter Tryd.func36, Tryd.ntmps36
  go_wp2_with (refine wpl_alloc (o := ⟨some 2, _, _, _, _, _⟩) _ rfl 57 rfl z64 a64_zero ?_)
  intro wa hba hsa hka
  have HSA := Lib.hid hsa
  clear hsa
  go_wp2_with (refine wpl_alloc (o := ⟨some 3, _, _, _, _, _⟩) _ rfl 57 rfl z64 a64_zero ?_)
  intro wb hbb hsb hkb
  have hba' := hba.kept hkb
  have hkw : Kept w wb := hka.trans hkb
  have hza : w.heap.size < wa.heap.size := by have := HSA.out; omega
  have hnw : ¬ wa.heap.size < w.heap.size := by omega
  clear hsb hba hka hkb
  go_wp2_with fail
  go_loopw [10] (fun i wr => ∃ k : Nat, k ≤ 64 ∧ i = .int .i64 k ∧ Kept w wr ∧ Blk wr w.heap.size 57 z64 ∧ Blk wr wa.heap.size 57 (cells32 (ld bs k))) (fun i _ => 64 - (intOf i).toNat)
  case atStart => exact ⟨0, Nat.zero_le _, rfl, hkw, hba', hbb⟩
  case round =>
    obtain ⟨k, hk, rfl, hkr, hb2, hb3⟩ := hrel
    by_cases hlt : k < 64
    · have hc := hkr.cell (HX.out k hlt)
      obtain ⟨b, hb⟩ : ∃ b, b = bs.getD k 0 := ⟨_, rfl⟩
      rw [← hb] at hc
      have hll : (ld bs k).length = 64 := ld_length bs k
      obtain ⟨x, hx⟩ : ∃ x, x = (ld bs k).getD (k / 4) 0 := ⟨_, rfl⟩
      have hc3 : wr.cell? ⟨wa.heap.size, k / 4, none⟩ = some (.int .u32 x) := by
        rw [hb3.cell, hx, cells32_at _ _ (by omega)]
      have hf3 : wr.frozen? ⟨wa.heap.size, k / 4, none⟩ = false := hb3.frozen _
      have HE := Lib.hid (ld_set bs k x b hx hb)
      clear hx hb hll
      go_wp2_with fail
      go_quiet (fail)
      go_wp2
      have R := arr_set (hkr.drewN nq) (hb2.drewN nq) (hb3.drewN nq) hnw hza HE.out
      exact ⟨⟨k + 1, by omega, by go_num, R.1, R.2.1, R.2.2⟩, by simp [intOf]; omega⟩
    · obtain rfl : k = 64 := by omega
      rw [ld64 bs hl.out, ← HM.out] at hb3
      clear HM hlt HX hkw hba' hbb
      go_wp2_with fail
      go_loopw [6] (fun i wr => ∃ n : Nat, 16 ≤ n ∧ n ≤ 64 ∧ i = .int .i64 n ∧ Kept w wr ∧ Blk wr w.heap.size 57 z64 ∧ Blk wr wa.heap.size 57 (cells32 (schedTo m n))) (fun i _ => 64 - (intOf i).toNat)
      case atStart => exact ⟨16, Nat.le_refl _, by omega, rfl, hkr, hb2, hb3⟩
      case round =>
        obtain ⟨n, hn1, hn2, rfl, hkr, hb2, hb3⟩ := hrel
        by_cases hlt : n < 64
        · have hll : (schedTo m n).length = 64 := schedTo_length m n hml.out hn1 hn2
          obtain ⟨a, ha⟩ : ∃ a, a = (schedTo m n).getD (n - 16) 0 := ⟨_, rfl⟩
          obtain ⟨b, hb⟩ : ∃ a, a = (schedTo m n).getD (n - 7) 0 := ⟨_, rfl⟩
          obtain ⟨c, hc⟩ : ∃ a, a = (schedTo m n).getD (n - 15) 0 := ⟨_, rfl⟩
          obtain ⟨d, hd⟩ : ∃ a, a = (schedTo m n).getD (n - 2) 0 := ⟨_, rfl⟩
          have HE := Lib.hid (schedTo_set m n hml.out hn1 hlt a b c d ha hb hc hd)
          have ba := schedTo_bd m HMB.out n (n - 16)
          have bb := schedTo_bd m HMB.out n (n - 7)
          have bc := schedTo_bd m HMB.out n (n - 15)
          have bd := schedTo_bd m HMB.out n (n - 2)
          have ca : wr.cell? ⟨wa.heap.size, n - 16, none⟩ = some (.int .u32 a) := by rw [hb3.cell, ha, cells32_at _ _ (by omega)]
          have cb : wr.cell? ⟨wa.heap.size, n - 7, none⟩ = some (.int .u32 b) := by rw [hb3.cell, hb, cells32_at _ _ (by omega)]
          have cc : wr.cell? ⟨wa.heap.size, n - 15, none⟩ = some (.int .u32 c) := by rw [hb3.cell, hc, cells32_at _ _ (by omega)]
          have cd : wr.cell? ⟨wa.heap.size, n - 2, none⟩ = some (.int .u32 d) := by rw [hb3.cell, hd, cells32_at _ _ (by omega)]
          rw [← ha] at ba
          rw [← hb] at bb
          rw [← hc] at bc
          rw [← hd] at bd
          have cn : wr.cell? ⟨wa.heap.size, n, none⟩ = some (.int .u32 ((schedTo m n).getD n 0)) := by rw [hb3.cell, cells32_at _ _ (by omega)]
          have fn : wr.frozen? ⟨wa.heap.size, n, none⟩ = false := hb3.frozen _
          clear ha hb hc hd hll
          go_wp2_with fail
          go_quiet (fail)
          go_wp2_with fail
          refine wp_quiet_tail 29 (by kernel_rfl) (by kernel_rfl) ?_
          simp only [List.take_succ_cons, List.take_zero, List.drop_succ_cons, List.drop_zero]
          repeat (go_big_quiet_step (exact turn_q _ _ _ (by omega) (by omega) (by omega) (by omega) ⟨_, rfl⟩))
          refine wpQuiet_nil ?_
          intro _ hw'
          obtain ⟨nr, hw''⟩ := hw'
          subst hw''
          go_wp2
          have R := arr_set (hkr.drewN (nq + nr)) (hb2.drewN (nq + nr)) (hb3.drewN (nq + nr)) hnw hza HE.out
          exact ⟨⟨n + 1, by omega, by omega, by go_num, R.1, R.2.1, R.2.2⟩, by simp [intOf]; omega⟩
        · obtain rfl : n = 64 := by omega
          have e : schedTo m 64 = S := by rw [HS.out]; simp [schedTo]
          rw [e] at hb3
          clear e HS
          go_upto_region 12 with fail
          have hi64 : (Tryd.prog.info? 57).map (·.size) = some (cells32 S).length := by rw [HSl.out]; exact a64_size
          have HI := Lib.hid hi64
          have hzl : z64.length = (cells32 S).length := by rw [HSl.out]; rfl
          have HZ := Lib.hid hzl
          clear hi64 hzl
          go_wp2_with ((with_reducible show wpList _ _ _ _ _ _); (first | ((with_reducible refine wpl_load_row (o := ⟨some 69, _, _, _, _, _⟩) _ rfl 57 (.tmp 3) rfl wa.heap.size ?hx 57 (cells32 S) 64 41 hb3 Tryd.underlying57 HI.out ?_); case hx => rfl) | ((with_reducible refine wpl_store_row (o := ⟨none, _, _, _, _, _⟩) _ rfl 57 (.tmp 2) (.tmp 69) rfl w.heap.size (cells32 S) ?hp ?hv 57 z64 hb2 HI.out HZ.out (cells32_one _) ?_); (case hp => rfl); (case hv => rfl); intro wd hbd hkd hsd)))
          refine bodyPost_ret (results_cell_row (p := 2) (ty := 57) rfl _ _ w.heap.size 57 (cells32 S).toArray (0, 0) _ rfl hbd Tryd.underlying57 rfl (by have := HSl.out; simpa [this] using a64_size)) rfl ?_
          exact ⟨rfl, Kept.trans' hkr hkd (by omega)⟩
end Go.Proofs.YtholpkaicmckfaaDoor
