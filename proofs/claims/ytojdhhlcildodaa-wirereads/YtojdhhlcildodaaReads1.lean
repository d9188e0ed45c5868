/-
  The walk of jobberlaw1.WireReads. No condition.
-/
import Derived.Test.YtojdhhlcildodaaRuns1
import Derived.Test.YtojdhhlcildodaaRefT
import Derived.Test.YtojdhhlcildodaaRoomy
import Derived.Test.YtojdhhlcildodaaArr
import Derived.Test.YtojdhhlcildodaaClose
import Derived.Deep.CutBlock
import Derived.Deep.RegionHeld3
import Derived.Deep.DeepCutAuto
namespace Go.Proofs.Ytojdhhlcildodaa
open Go.RowKit
set_option linter.unusedVariables false

theorem R8.take2 {w : World} {A : Option Addr} {xs : List UInt8} (h : R8 w A xs) (m : Nat) : R8 w A (xs.take m) := by
  intro k x hx
  rw [List.getElem?_take] at hx
  split at hx
  · exact h k x hx
  · cases hx
theorem R8.pad2 {w : World} {g c : Nat} {xs : List UInt8} {mk : UInt8} (h : Row8 w g c (pad xs mk)) : R8 w (some ⟨g, 0, none⟩) xs := by
  intro k x hk
  exact h.r8 k x (by unfold pad; rw [List.getElem?_append_left (by exact (List.getElem?_eq_some_iff.1 hk).1)]; exact hk)

/-- both readers in one state -/
def Both (w wr : World) (g b f : Nat) (A : Option Addr) (m c : Nat) (xs : List UInt8) (s : RS) : Prop := Kept w wr ∧ Rd wr g b s ∧ FRd wr f A m c s ∧ s.ok ∧ s.xs = xs

theorem RS.text_xs (s : RS) (most : Int) : (s.text most).1.xs = s.xs := by
  unfold RS.text
  simp only
  split
  · simp only [RS.take_xs]
    split <;> simp [RS.take_xs]
  · rw [RS.take_xs]
    split <;> simp [RS.take_xs]

theorem quietL {P : Program} {f : FuncId} {args : Array Value} {w : World} {n : Nat} {v : Value} (h : Calls P f args (w.drewN n) fun e w' => e = .returned v ∧ w.drewN n = w') :
    Calls P f args (w.drewN n) fun e w'' => e = .returned v ∧ ∃ m, w'' = w.drewN m := h.mono fun _ _ ⟨he, hm⟩ => ⟨he, n, hm.symm⟩

/-- one step of both -/
theorem Both.step {w wr w1 w2 : World} {g b f m c : Nat} {A : Option Addr} {xs : List UInt8} {s s' : RS} (h : Both w wr g b f A m c xs s) (hfg : ¬ f = g) (hfb : ¬ f = b) (hgw : ¬ g < w.heap.size) (hfw : ¬ f < w.heap.size)
    (hAx : ∀ ad, A = some ad → xs ≠ [] → ad.block < w.heap.size)
    (hk1 : Keep (· = g) wr w1) (h1 : Rd w1 g b s') (hk2 : Keep (· = f) w1 w2) (h2 : FRd w2 f A m c s') (hok : s'.ok) (hxs : s'.xs = s.xs) : Both w w2 g b f A m c xs s' := by
  refine ⟨(h.1.trans' hk1 hgw).trans' hk2 hfw, h1.keep hk2 (fun e => hfg e.symm) (fun e => hfb e.symm), h2, hok, hxs.trans h.2.2.2.2⟩
theorem Both.mid {w wr w1 : World} {g b f m c : Nat} {A : Option Addr} {xs : List UInt8} {s : RS} (h : Both w wr g b f A m c xs s) (hfg : ¬ f = g) (hgw : ¬ g < w.heap.size)
    (hAx : ∀ ad, A = some ad → xs ≠ [] → ad.block < w.heap.size) (hk1 : Keep (· = g) wr w1) : FRd w1 f A m c s :=
  h.2.2.1.keep hk1 hfg (fun ad e hn he => by rw [h.2.2.2.2] at hn; have := hAx ad e hn; omega)

set_option maxRecDepth 100000 in
set_option maxHeartbeats 4000000 in
theorem wireReads_any (v1 v2 : Value) (xs0 : List UInt8) (l : List (Int × Int)) (w : World) (h1 : Bytes w v1 xs0) (h2 : Elems w v2 2 Ints2 l) :
    Calls Try.prog 5 #[v1, v2] w fun e w' => e = .returned (.bool true) ∧ Kept w w' := by
  obtain ⟨A, n0, c, rfl, hl0, hx0, hnc, hc, hA⟩ := h1
  obtain ⟨B, n2, c2, rfl, hl2, hx2, hnc2, hc2⟩ := h2
  have hcc := hc
  unfold maxLen at hc hc2
  obtain ⟨m, hm⟩ : ∃ m, m = min n0 200 := ⟨_, rfl⟩
  have hm1 : m ≤ 200 := by omega
  have hm2 : m ≤ n0 := by omega
  have hmin : (if (200 : Int) < (n0 : Int) then (200 : Int) else (n0 : Int)) = (m : Int) := by split <;> omega
  have hl : Hid ((xs0.take m).length = m) := by show _ = _; rw [List.length_take, hl0.out]; omega
  have hx := hx0.take2 m
  obtain ⟨xs, hxs⟩ : ∃ xs, xs = xs0.take m := ⟨_, rfl⟩
  rw [← hxs] at hl hx
  clear hm hl0 hx0 hxs
  go_enter Try.func5, Try.ntmps5
  go_wp2_with fail
  refine (roomy_any A m c xs 7 7 _ rfl hx (by omega) hl).mono ?_
  rintro e w1 ⟨gf, rfl, hgf, hrow, hk1⟩
  go_wp2_with fail
  refine (read_any _ m _ xs _ (R8.pad2 hrow) (by omega) hl).mono ?_
  rintro e w2 ⟨g, b, rfl, hg, hb, hrd, hk2⟩
  have hgf1 := hrow.lt
  replace hrow := hrow.kept hk2
  have hk3 := hk1.trans hk2
  have hgl := hrd.lt
  have hz1 := hk1.size
  have hz2 := hk2.size
  clear hk1 hk2
  go_wp2_with fail
  obtain ⟨f, hf⟩ : ∃ f, f = w2.heap.size := ⟨_, rfl⟩
  have hB0 : Both w (w2.alloc (.cells #[.slice A m c, .int .i64 0, .bool false] 41)) g b f A m c xs ⟨xs, 0, false⟩ := by
    have hka : Kept w2 (w2.alloc (.cells #[.slice A m c, .int .i64 0, .bool false] 41)) := (Keep.refl _ w2).alloc _
    refine ⟨hk3.trans hka, hrd.kept hka, ⟨hl, ?_, hx.kept (hk3.trans hka), ?_, by omega⟩, ⟨Nat.zero_le _, by show _ ≤ _; rw [hl.out]; omega⟩, rfl⟩
    · rw [hf]; exact Blk.new w2 _ [.slice A m c, .int .i64 0, .bool false]
    · intro ad e hn
      rw [e] at hx
      have := hx.lt hn
      omega
  have hrow0 := hrow.kept ((Keep.refl _ w2).alloc (.cells #[.slice A m c, .int .i64 0, .bool false] 41))
  have hgfl := hrow.lt
  have hfg : ¬ f = g := by omega
  have hfb : ¬ f = b := by omega
  have hgfg : ¬ gf = g := by omega
  have hgff : ¬ gf = f := by omega
  have hgw : ¬ g < w.heap.size := by omega
  have hfw : ¬ f < w.heap.size := by omega
  have hbw : ¬ b < w.heap.size := by omega
  have HF := Lib.hid hf
  rw [← hf]
  have hAx : ∀ ad, A = some ad → xs ≠ [] → ad.block < w.heap.size := fun ad e hn => by rw [e] at hx; exact hx.lt hn
  have HX := Lib.hid hx
  clear hk3 hrd hrow hf hx
  go_loopw [8] (fun i wr => ∃ (k : Nat) (s : RS), k ≤ n2 ∧ i = .int .i64 k ∧ Both w wr g b f A m c xs s ∧ Row8 wr gf (m + 80) (pad xs 7)) (fun i _ => n2 - (intOf i).toNat)
  case atStart => exact ⟨0, _, Nat.zero_le _, rfl, hB0, hrow0⟩
  case round =>
    obtain ⟨k, s, hkn, rfl, hB, hrow⟩ := hrel
    by_cases hlt : k < n2
    · by_cases hlt2 : k < 30
      · obtain ⟨ab, ao, cs, rfl, hsh, -, hcell⟩ := hx2 k _ (List.getElem?_eq_getElem (by rw [hl2.out]; exact hlt))
        obtain ⟨rfl, -, -⟩ := hsh
        have hc0 := hcell 0 _ rfl
        have hc1 := hcell 1 _ rfl
        obtain ⟨kd, hkd⟩ : ∃ kd, kd = (l[k]'(by rw [hl2.out]; exact hlt)).1 := ⟨_, rfl⟩
        obtain ⟨av, hav⟩ : ∃ av, av = (l[k]'(by rw [hl2.out]; exact hlt)).2 := ⟨_, rfl⟩
        rw [← hkd] at hc0
        rw [← hav] at hc1
        replace hc0 : wr.cell? ⟨ab, ao + k * 2, none⟩ = some (.int .i64 kd) := hB.1.cell hc0
        replace hc1 : wr.cell? ⟨ab, ao + k * 2 + 1, none⟩ = some (.int .i64 av) := hB.1.cell (by rw [Nat.add_assoc]; exact hc1)
        have habl : ab < w.heap.size := World.block_lt_of_cell? w _ (hcell 0 _ rfl)
        have habg : ¬ ab = g := by omega
        have habf : ¬ ab = f := by omega
        clear hcell hkd hav
        go_upto_block 2 with fail
        go_cut [9] from 27 to 113 (fun ok wc => ∃ s', ok = .bool true ∧ Both w wc g b f A m c xs s' ∧ Row8 wc gf (m + 80) (pad xs 7))
        case first =>
          by_cases hk1 : kd = 1
          · subst hk1
            clear hc1
            go_wp2_with fail
            refine (ru8_any g b s _ hB.2.1 hB.2.2.2.1).mono ?_
            rintro e wa ⟨rfl, hra, hka⟩
            have hfa := hB.mid hfg hgw hAx hka
            go_wp2_with fail
            refine (gu8_any f m c A s _ hfa hB.2.2.2.1 hcc).mono ?_
            rintro e wb ⟨rfl, hrb, hkb⟩
            have hB2 := hB.step hfg hfb hgw hfw hAx hka hra hkb hrb (RS.take_ok hB.2.2.2.1 1) (RS.take_xs s 1)
            have hrow2 := (hrow.keep hka hgfg).keep hkb hgff
            clear hB hrow hka hra hkb hrb hfa
            go_wp2
            go_meet
            exact ⟨_, rfl, hB2, hrow2⟩
          by_cases hk2 : kd = 2
          · subst hk2
            clear hc1
            go_wp2_with fail
            refine (ru32_any g b s _ hB.2.1 hB.2.2.2.1).mono ?_
            rintro e wa ⟨rfl, hra, hka⟩
            have hfa := hB.mid hfg hgw hAx hka
            go_wp2_with fail
            refine (gu32_any f m c A s _ hfa hB.2.2.2.1 hcc).mono ?_
            rintro e wb ⟨rfl, hrb, hkb⟩
            have hB2 := hB.step hfg hfb hgw hfw hAx hka hra hkb hrb (RS.take_ok hB.2.2.2.1 4) (RS.take_xs s 4)
            have hrow2 := (hrow.keep hka hgfg).keep hkb hgff
            clear hB hrow hka hra hkb hrb hfa
            go_wp2
            go_meet
            exact ⟨_, rfl, hB2, hrow2⟩
          by_cases hk3 : kd = 3
          · subst hk3
            clear hc1
            go_wp2_with fail
            refine (ru64_any g b s _ hB.2.1 hB.2.2.2.1).mono ?_
            rintro e wa ⟨rfl, hra, hka⟩
            have hfa := hB.mid hfg hgw hAx hka
            go_wp2_with fail
            refine (gu64_any f m c A s _ hfa hB.2.2.2.1 hcc).mono ?_
            rintro e wb ⟨rfl, hrb, hkb⟩
            have hB2 := hB.step hfg hfb hgw hfw hAx hka hra hkb hrb (RS.take_ok hB.2.2.2.1 8) (RS.take_xs s 8)
            have hrow2 := (hrow.keep hka hgfg).keep hkb hgff
            clear hB hrow hka hra hkb hrb hfa
            go_wp2
            go_meet
            exact ⟨_, rfl, hB2, hrow2⟩
          by_cases hk4 : kd = 4
          · subst hk4
            clear hc1
            have heq := run_arr8 47 32 Try.underlying47 s.sum.2 s.sum.2 (sum_len s) (sum_len s)
            rw [decide_eq_true rfl] at heq
            go_wp2_with fail
            refine (rsum_any g b s _ hB.2.1 hB.2.2.2.1).mono ?_
            rintro e wa ⟨rfl, hra, hka⟩
            have hfa := hB.mid hfg hgw hAx hka
            go_wp2_with fail
            refine (gsum_any f m c A s _ hfa hB.2.2.2.1 hcc).mono ?_
            rintro e wb ⟨rfl, hrb, hkb⟩
            have hB2 := hB.step hfg hfb hgw hfw hAx hka hra hkb hrb (RS.take_ok hB.2.2.2.1 32) (RS.take_xs s 32)
            have hrow2 := (hrow.keep hka hgfg).keep hkb hgff
            clear hB hrow hka hra hkb hrb hfa
            go_wp2
            go_meet
            exact ⟨_, rfl, hB2, hrow2⟩
          by_cases hk5 : kd = 5
          · subst hk5
            have hbr : Rd wr.drew g b s := hB.2.1
            have hca0 : wr.drew.cell? ⟨ab, ao + k * 2 + 1, none⟩ = some (.int .i64 av) := hc1
            go_wp2_with fail
            go_region_held3 (fun w' => w'.cell? ⟨ab, ao + k * 2 + 1, none⟩ = some (.int .i64 av)) (first | exact hc1 | exact hca0 | exact hca1 | exact hca2)
              (first
                | (go_at_call 11; refine (rtext_any g b s av _ hbr hB.2.2.2.1).mono ?_; rintro e wa ⟨rfl, hra, hka⟩; have hfa := hB.mid hfg hgw hAx hka.undrew; have hca1 := hka.cell hca0 habg)
                | (go_at_call 33; refine (gtext_any f m c A s av _ hfa hB.2.2.2.1 hcc).mono ?_; rintro e wb ⟨rfl, hrb, hkb⟩; have hca2 := hkb.cell hca1 habf))
            have hB2 := hB.step hfg hfb hgw hfw hAx hka.undrew hra hkb hrb (RS.text_ok hB.2.2.2.1 av) (RS.text_xs s av)
            have hrow2 := (hrow.keep hka.undrew hgfg).keep hkb hgff
            clear hB hrow hka hra hkb hrb hfa hca0 hca1 hca2 hbr hc1
            go_wp2
            go_meet
            exact ⟨_, rfl, hB2, hrow2⟩
          by_cases hk6 : kd = 6
          · subst hk6
            clear hc1
            go_wp2_with fail
            refine (end_any g b s _ hB.2.1 hB.2.2.2.1).mono ?_
            rintro e wa ⟨rfl, ka, rfl⟩
            have hfa : FRd (wr.drewN ka) f A m c s := hB.2.2.1
            go_wp2_with fail
            refine (gend_any f m c A s _ hfa).mono ?_
            rintro e wb ⟨rfl, kb, rfl⟩
            have hB2 : Both w ((wr.drewN ka).drewN kb) g b f A m c xs s := ⟨(hB.1.drewN ka).drewN kb, hB.2⟩
            have hrow2 : Row8 ((wr.drewN ka).drewN kb) gf (m + 80) (pad xs 7) := hrow
            rw [World.drewN_drewN] at hB2 hrow2
            clear hB hrow hfa
            go_wp2
            go_meet
            exact ⟨_, rfl, hB2, hrow2⟩
          clear hc1
          go_wp2
          go_meet
          exact ⟨_, rfl, hB, hrow⟩
        case rest =>
          obtain ⟨s', rfl, hB', hrow'⟩ := hcut
          obtain ⟨d0, d1, d2, -, -⟩ := hB'.2.2.1.cells
          go_wp2_with fail
          go_quiet ((first | (go_at_call 16; exact quietL (at_any g b s' _ hB'.2.1)) | (go_at_call 15; exact quietL (bad_any g b s' _ hB'.2.1))))
          have hB2 : Both w (wc.drewN nq) g b f A m c xs s' := ⟨hB'.1.drewN nq, hB'.2⟩
          have hrow2 : Row8 (wc.drewN nq) gf (m + 80) (pad xs 7) := hrow'
          clear hB' hrow'
          go_wp2
          exact ⟨⟨k + 1, s', by omega, by go_num, hB2, hrow2⟩, by simp [intOf]; omega⟩
      · go_wp2_with fail
        refine (intact_any A gf m _ xs 7 7 _ rfl hrow (HX.out.kept hB.1) (by omega) hl).mono ?_
        rintro e w8 ⟨rfl, k8, rfl⟩
        have hkk := hB.1.drewN k8
        go_wp2_with fail
        refine (wireRuns_any _).mono ?_
        rintro e w9 ⟨rfl, hk⟩
        have hk9 := Kept.trans hkk hk
        go_wp2
        go_ret
        exact ⟨rfl, hk9⟩
    · go_wp2_with fail
      refine (intact_any A gf m _ xs 7 7 _ rfl hrow (HX.out.kept hB.1) (by omega) hl).mono ?_
      rintro e w8 ⟨rfl, k8, rfl⟩
      have hkk := hB.1.drewN k8
      go_wp2_with fail
      refine (wireRuns_any _).mono ?_
      rintro e w9 ⟨rfl, hk⟩
      have hk9 := Kept.trans hkk hk
      go_wp2
      go_ret
      exact ⟨rfl, hk9⟩
end Go.Proofs.Ytojdhhlcildodaa
