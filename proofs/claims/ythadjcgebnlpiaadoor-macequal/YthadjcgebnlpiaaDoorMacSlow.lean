/-
  The Once within a Mac: at the first call of Tag the two pads are made, later ones find them. One goroutine; the lock is free.
-/
import Derived.Test.YthadjcgebnlpiaaDoorMacPads
import Derived.Test.YthadjcgebnlpiaaDoorOnce
import Derived.Laws.NewBlocks
namespace Go.Proofs.YthadjcgebnlpiaaDoor
open Go.RowKit
set_option linter.unusedVariables false

theorem mcells_st (kv : Value) (d st st' : Int) (inn out : List UInt8) : (mcells kv d st inn out).set 2 (.int .i32 st') = mcells kv d st' inn out := rfl
theorem mcells_d (kv : Value) (d d' st : Int) (inn out : List UInt8) : (mcells kv d st inn out).set 1 (.int .u32 d') = mcells kv d' st inn out := rfl

set_option maxRecDepth 100000 in
set_option maxHeartbeats 1600000 in
theorem slow_any (g : Nat) (kv : Value) (key inn out : List UInt8) (w : World) (hG : Glob w) (hg2 : 2 ≤ g) (hb : Blk w g 52 (mcells kv 0 0 inn out)) (hi : inn.length = 64) (ho : out.length = 64) (hv : ∀ w', Keep (· = g) w w' → Bytes w' kv key) (hkl : key.length ≤ 900000) :
    Calls Tryd.prog 27 #[.pointer (some ⟨g, 1, none⟩), .func (.func 19) #[.pointer (some ⟨g, 0, none⟩)] #[]] w fun e w' => e = .returned (.tuple #[]) ∧ Blk w' g 52 (mcells kv 1 0 (xb 54 (padK key)) (xb 92 (padK key))) ∧ Keep (· = g) w w' := by
  have hb1 : Blk (w.setCell ⟨g, 2, none⟩ (.int .i32 1)) g 52 (mcells kv 0 1 inn out) := hb.set_ 2 (.int .i32 1)
  have hk1 : Keep (· = g) w (w.setCell ⟨g, 2, none⟩ (.int .i32 1)) := Keep.setCell (S := (· = g)) (Keep.refl _ w) (p := ⟨g, 2, none⟩) (fun _ => rfl) _
  have c2 : w.cell? ⟨g, 2, none⟩ = some (.int .i32 0) := hb.cell 2
  have f2 := hb.frozen 2
  have hG1 := hG.keep hk1 (by omega) (by omega)
  have hnot : ∀ (x : Bool) (w : World), (Op.unary .not (.bool x)).run Tryd.prog w = .ok (.bool (!x)) w := fun _ _ => rfl
  go_enter_defers Tryd.func27, Tryd.ntmps27
  go_wp2_with (go_at_call 35; refine (lock_free ⟨g, 2, none⟩ _ c2 f2).mono ?_; rintro e w' ⟨rfl, rfl⟩)
  generalize w.setCell ⟨g, 2, none⟩ (.int .i32 1) = w1 at hb1 hk1 hG1 ⊢
  have c1 : w1.cell? ⟨g, 1, none⟩ = some (.int .u32 0) := hb1.cell 1
  go_wp2_with (go_at_call 26; refine (load_any ⟨g, 1, none⟩ 0 _ c1).mono ?_; rintro e w' ⟨rfl, rfl⟩)
  refine (pads_any g kv 0 1 key inn out w' hG1 hb1 hi ho (hv w' hk1) hkl).mono ?_
  rintro e w2 ⟨rfl, hb2, hk2⟩
  have hkw2 : Keep (· = g) w w2 := hk1.trans hk2 (fun _ _ h => h)
  clear hk1 hk2 hb1 hG1 c1 c2 f2 hb hi ho hv hkl
  go_wp2
  refine leaves_cons (f := 37) (args := #[.pointer (some ⟨g, 1, none⟩), .bool true]) (by simp) (by simp [go_sem]) ?_
  refine (store_deferred ⟨g, 1, none⟩ (.int .u32 0) .returning _ (hb2.cell 1) (hb2.frozen 1)).mono ?_
  rintro e u' w'' ⟨rfl, rfl, rfl⟩
  have hb3 : Blk (w2.drew.setCell ⟨g, 1, none⟩ (.int .u32 1)) g 52 (mcells kv 1 1 (xb 54 (padK key)) (xb 92 (padK key))) := Blk.set_ (w := w2.drew) hb2 1 (.int .u32 1)
  have hk3 : Keep (· = g) w (w2.drew.setCell ⟨g, 1, none⟩ (.int .u32 1)) := Keep.setCell (S := (· = g)) hkw2.drew (p := ⟨g, 1, none⟩) (fun _ => rfl) _
  refine leaves_cons (f := 36) (args := #[.pointer (some ⟨g, 2, none⟩)]) (by simp [settle]) (by simp [go_sem]) ?_
  refine (unlock_deferred ⟨g, 2, none⟩ _ _ (hb3.cell 2) (hb3.frozen 2)).mono ?_
  rintro e u' w'' ⟨rfl, rfl, rfl⟩
  have hb4 : Blk ((w2.drew.setCell ⟨g, 1, none⟩ (.int .u32 1)).setCell ⟨g, 2, none⟩ (.int .i32 0)) g 52 (mcells kv 1 0 (xb 54 (padK key)) (xb 92 (padK key))) := hb3.set_ 2 (.int .i32 0)
  have hk4 : Keep (· = g) w ((w2.drew.setCell ⟨g, 1, none⟩ (.int .u32 1)).setCell ⟨g, 2, none⟩ (.int .i32 0)) := Keep.setCell (S := (· = g)) hk3 (p := ⟨g, 2, none⟩) (fun _ => rfl) _
  simp [Leaves, settle, results, Tryd.results27]
  exact ⟨hb4, hk4⟩

set_option maxRecDepth 100000 in
set_option maxHeartbeats 1600000 in
theorem do_first (g : Nat) (kv : Value) (key inn out : List UInt8) (w : World) (hG : Glob w) (hg2 : 2 ≤ g) (hb : Blk w g 52 (mcells kv 0 0 inn out)) (hi : inn.length = 64) (ho : out.length = 64) (hv : ∀ w', Keep (· = g) w w' → Bytes w' kv key) (hkl : key.length ≤ 900000) :
    Calls Tryd.prog 18 #[.pointer (some ⟨g, 1, none⟩), .func (.func 19) #[.pointer (some ⟨g, 0, none⟩)] #[]] w fun e w' => e = .returned (.tuple #[]) ∧ Blk w' g 52 (mcells kv 1 0 (xb 54 (padK key)) (xb 92 (padK key))) ∧ Keep (· = g) w w' := by
  have c1 : w.cell? ⟨g, 1, none⟩ = some (.int .u32 0) := hb.cell 1
  have hnot : ∀ (x : Bool) (w : World), (Op.unary .not (.bool x)).run Tryd.prog w = .ok (.bool (!x)) w := fun _ _ => rfl
  go_enter Tryd.func18, Tryd.ntmps18
  go_wp2_with (go_at_call 26; refine (load_any ⟨g, 1, none⟩ 0 _ c1).mono ?_; rintro e w' ⟨rfl, hw⟩; subst hw)
  refine (slow_any g kv key inn out _ hG hg2 hb hi ho hv hkl).mono ?_
  rintro e w2 ⟨rfl, h2, h3⟩
  go_wp2
  go_end0
  exact ⟨rfl, h2, h3⟩

/-- done already: the function is not called -/
theorem do_done (a : Addr) (fv : Value) (w : World) (h0 : w.cell? a = some (.int .u32 1)) (hoff : ∃ g o, a = ⟨g, o, none⟩) :
    Calls Tryd.prog 18 #[.pointer (some a), fv] w fun e w' => e = .returned (.tuple #[]) ∧ w' = w := by
  have hnot : ∀ (x : Bool) (w : World), (Op.unary .not (.bool x)).run Tryd.prog w = .ok (.bool (!x)) w := fun _ _ => rfl
  obtain ⟨g, o, rfl⟩ := hoff
  go_enter Tryd.func18, Tryd.ntmps18
  go_wp2_with (go_at_call 26; refine (load_any ⟨g, o, none⟩ 1 _ h0).mono ?_; rintro e w' ⟨rfl, hw⟩; subst hw)
  go_end0
  exact ⟨rfl, rfl⟩
end Go.Proofs.YthadjcgebnlpiaaDoor
