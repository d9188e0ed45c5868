/-
  The contract of package wire's Reader.Sum. Conditions: lengths far below 2^47.
-/
import Derived.Test.YtdmeiffofmagjaaWireRx
import Derived.Test.YtdmeiffofmagjaaArr
import Derived.Deep.RegionLaw
import Derived.Deep.DeepCutAuto
namespace Go.Proofs.Ytdmeiffofmagjaa
open Go.RowKit
set_option linter.unusedVariables false

def zeros32 : List UInt8 := List.replicate 32 0

/-- the sum's reader -/
def RS.sum (s : RS) : RS × List UInt8 := ((s.take 32).1, if (s.take 32).2.length = 32 then (s.take 32).2 else zeros32)

def SumOf (w : World) (g b : Nat) (s : RS) (e : Ending) (w' : World) : Prop := e = .returned (.agg (cells8 s.sum.2).toArray) ∧ Rd w' g b s.sum.1 ∧ Keep (· = g) w w'


theorem take_lit (g b : Nat) (s : RS) (n : Nat) (i : Int) (w : World) (hi : i = n) (hr : Rd w g b s) (hok : s.ok) (hn : n ≤ 255) :
    Calls Try.prog 51 #[.pointer (some ⟨g, 0, none⟩), .int .i64 i] w (Took w g b s n) := by
  subst hi
  exact take_any g b s n w hr hok hn

theorem take_all (s : RS) (n : Nat) : (s.take n).2.length = n ∨ (s.take n).2 = [] := by
  unfold RS.take
  split
  · exact .inr rfl
  · left; simp; omega
theorem splice_sum (s : RS) : splice z32 0 (cells8 (s.take 32).2) = cells8 s.sum.2 := by
  unfold RS.sum
  rcases take_all s 32 with h | h
  · simp only [h, if_true]
    simp [splice, len8, h, z32]
  · rw [h]
    rfl
theorem sum_len (s : RS) : s.sum.2.length = 32 := by
  unfold RS.sum
  simp only
  split
  · assumption
  · rfl

theorem sum_side {wb w1 : World} {g x m : Nat} {s : RS} {A : Option Addr} (hbb : Blk wb x 26 z32) (hk3 : Keep (· = g) wb w1) (hne : ¬ x = g) (hl : Hid ((s.take 32).2.length = m)) (hR : R8 w1 A (s.take 32).2) :
    Blk w1 x 26 z32 ∧ (cells8 (s.take 32).2).length = Nat.min m 32 ∧
    (0 < (cells8 (s.take 32).2).length → some (⟨x, 0, none⟩ : Addr) = some ⟨x, 0, none⟩ ∧ ∃ ad, A = some ad ∧ ∀ j v, (cells8 (s.take 32).2)[j]? = some v → w1.cell? (ad.add j) = some v) ∧ 0 + (cells8 (s.take 32).2).length ≤ z32.length := by
  have hm32 : (s.take 32).2.length ≤ 32 := take_len s 32
  have hl' := hl.out
  refine ⟨hbb.keep hk3 hne, ?_, fun hpos => ⟨rfl, ?_⟩, ?_⟩
  · rw [len8, hl']
    exact (Nat.min_eq_left (by omega)).symm
  · rw [len8] at hpos
    obtain ⟨ad, rfl, _⟩ := hR.at_ hpos
    exact ⟨ad, rfl, hR.cells⟩
  · rw [len8]
    show _ ≤ 32
    omega

theorem sum_cut {w wa wb w1 w2 : World} {g b : Nat} {s : RS} (hkw : Kept w wb) (hba : Blk wb w.heap.size 26 z32) (hrb : Rd wb g b s) (hlt : g < w.heap.size ∧ b < w.heap.size) (hza : w.heap.size < wa.heap.size)
    (hne : ¬ wa.heap.size = g) (hga : g ≠ w.heap.size) (hk3 : Keep (· = g) wb w1) (hr3 : Rd w1 g b (s.take 32).1) (HG : Hid (w2.heap[wa.heap.size]? = some (.cells (splice z32 0 (cells8 (s.take 32).2)).toArray 26 (0, 0)))) (hb2 : Below wa.heap.size w1 w2) :
    Blk w2 w.heap.size 26 z32 ∧ Blk w2 wa.heap.size 26 (cells8 s.sum.2) ∧ Rd w2 g b s.sum.1 ∧ Keep (· = g) w w2 := by
  have hk := keep_of_below hb2
  refine ⟨(hba.keep hk3 (fun h => hga h.symm)).keep hk (by omega), ?_, hr3.keep hk (by omega) (by omega), ?_⟩
  · have h := HG.out
    rw [splice_sum] at h
    exact h
  · refine Keep.trans (Keep.trans (hkw.mono (T := (· = g)) (fun _ _ h => h.elim)) hk3 (fun _ _ h => h)) hk (fun i hi h => ?_)
    omega


set_option maxHeartbeats 400000 in
theorem rsum_any (g b : Nat) (s : RS) (w : World) (hr : Rd w g b s) (hok : s.ok) :
    Calls Try.prog 44 #[.pointer (some ⟨g, 0, none⟩)] w (SumOf w g b s) := by
  go_enter Try.func44, Try.ntmps44
  go_wp2_with (refine wpl_alloc (o := ⟨some 2, _, _, _, _, _⟩) _ rfl 26 rfl z32 sum_zero ?_)
  intro wa hba hsa hka
  have hra := hr.kept hka
  have HSA := Lib.hid hsa
  have hlt := hr.lt
  have hga : g ≠ w.heap.size := by omega
  clear hsa
  go_wp2_with (refine wpl_alloc (o := ⟨some 3, _, _, _, _, _⟩) _ rfl 26 rfl z32 sum_zero ?_)
  intro wb hbb hsb hkb
  have hrb := hra.kept hkb
  have hba' := hba.kept hkb
  have hkw : Kept w wb := hka.trans hkb
  clear hsb
  have hza : w.heap.size < wa.heap.size := by have := HSA.out; omega
  have hne : ¬ wa.heap.size = g := by omega
  go_upto_region 2 with fail
  go_cut [] (fun wx => Blk wx w.heap.size 26 z32 ∧ Blk wx wa.heap.size 26 (cells8 s.sum.2) ∧ Rd wx g b s.sum.1 ∧ Keep (· = g) w wx)
  case first =>
    go_region_law (first | (refine step_copy_splice rfl (.tmp 4) (.tmp 6) 23 23 rfl 5 Try.underlying23 info8s _ _ _ _ _ _ rfl rfl wa.heap.size 0 z32 26 hB1 (cells8 (s.take 32).2) hcl hcp hcf (cells8_one _) wa.heap.size w1 (Below.refl _ _) (Nat.le_refl _) ?_; intro w2 HG hb2) | (go_simp; go_at_call 51; refine (take_lit g b s 32 _ _ rfl ?_ hok (by omega)).mono ?_; exact hrb; rintro e w1 ⟨A, m, c, rfl, hl, hr3, hR, hk3⟩; obtain ⟨hB1, hcl, hcp, hcf⟩ := sum_side hbb hk3.undrew hne hl hR))
    all_goals (go_wp2_with fail; go_meet)
    all_goals exact sum_cut hkw hba' hrb hlt hza hne hga hk3.undrew hr3 HG hb2
  case rest =>
    obtain ⟨h1, h2, h3, h4⟩ := hcut
    have hl32 : (cells8 s.sum.2).length = 32 := by rw [len8, sum_len]
    have HL := Lib.hid hl32
    clear hl32
    go_wp2_with (first | (refine wpl_load_row (o := ⟨some 8, _, _, _, _, _⟩) _ rfl 26 (.tmp 3) rfl wa.heap.size rfl 26 _ 32 5 h2 Try.underlying26 (by rw [HL.out]; exact sum_size) ?_) | (refine wpl_store_row (o := ⟨none, _, _, _, _, _⟩) _ rfl 26 (.tmp 2) (.tmp 8) rfl w.heap.size (cells8 s.sum.2) rfl rfl 26 z32 h1 (by rw [HL.out]; exact sum_size) (by rw [HL.out]; rfl) (cells8_one _) ?_; intro wd hbd hkd hsd))
    refine bodyPost_ret (results_cell_row (p := 2) (ty := 26) rfl _ _ w.heap.size 26 (cells8 s.sum.2).toArray (0, 0) _ rfl hbd Try.underlying26 rfl (by have := HL.out; simpa [this] using sum_size)) rfl ?_
    exact ⟨rfl, h3.keep hkd (by omega) (by omega), h4.trans hkd (fun i hi h => by omega)⟩
end Go.Proofs.Ytdmeiffofmagjaa
