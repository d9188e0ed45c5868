/-
  A deframer in memory; contracts of package frame's New, Bad, Left, spoil, Put. Conditions: lengths far below 2^47.
-/
import Derived.Test.YtkomionfnpgjgaaFrmJoin
import Derived.Test.YtkomionfnpgjgaaRowsE
import Derived.Test.YtkomionfnpgjgaaWireU8
namespace Go.Proofs.Ytkomionfnpgjgaa
open Go.RowKit
set_option linter.unusedVariables false

/-- a deframer (of type t) at block g: whether it is bad, and what is left, in a row of its own -/
def DF (t : TypeId) (w : World) (g : Nat) (bad : Bool) (left : List UInt8) : Prop := ∃ A n c, Blk w g t [.slice A n c, .bool bad] ∧ Own8 w 0 A n c left
/-- a row of bytes and a block of another type are two -/
theorem row_ne {w : World} {g g' c' : Nat} {t : TypeId} {cs : List Value} {xs : List UInt8} (h : Blk w g t cs) (h' : Row8 w g' c' xs) (ht : t ≠ 5) : g' ≠ g := by
  rintro rfl
  obtain ⟨_, hb, _⟩ := h'
  unfold Blk at hb h
  rw [hb] at h
  injection h with h
  injection h with _ h _
  exact ht h.symm
theorem DF.keep {S : Nat → Prop} {t : TypeId} {w w' : World} {g : Nat} {bad : Bool} {left : List UInt8} (h : DF t w g bad left) (hk : Keep S w w') (hg : ¬ S g) (hr : ∀ g c xs, Row8 w g c xs → ¬ S g) : DF t w' g bad left := by
  obtain ⟨A, n, c, hb, ho⟩ := h
  refine ⟨A, n, c, hb.keep hk hg, ?_⟩
  rcases ho with h | ⟨g', rfl, h1, h2, h3⟩
  · exact .inl h
  · exact .inr ⟨g', rfl, h1, h2, h3.keep hk (hr _ _ _ h3)⟩
theorem DF.kept {t : TypeId} {w w' : World} {g : Nat} {bad : Bool} {left : List UInt8} (h : DF t w g bad left) (hk : Kept w w') : DF t w' g bad left := h.keep hk (fun h => h) (fun _ _ _ _ h => h)
/-- what another deframer does -/
theorem DF.besides {t s : TypeId} {w w' : World} {g g' : Nat} {bad bad' : Bool} {left left' : List UInt8} (h : DF t w g bad left) (h' : DF s w g' bad' left') (hk : Keep (· = g') w w') (hg : g ≠ g') (hs : s ≠ 5) : DF t w' g bad left := by
  obtain ⟨A, n, c, hb, _⟩ := h'
  exact h.keep hk hg (fun _ _ _ hr => row_ne hb hr hs)
theorem DF.lt {t : TypeId} {w : World} {g : Nat} {bad : Bool} {left : List UInt8} (h : DF t w g bad left) : g < w.heap.size := by
  obtain ⟨A, n, c, hb, _⟩ := h
  exact hb.lt
theorem RowsE.besides {s : TypeId} {w w' : World} {base g' : Nat} {bad' : Bool} {left' : List UInt8} {vs : List Value} {L : List (List UInt8)} (h : RowsE w base vs L) (h' : DF s w g' bad' left') (hk : Keep (· = g') w w') (hs : s ≠ 5) : RowsE w' base vs L := by
  obtain ⟨A, n, c, hb, _⟩ := h'
  exact h.keep hk (fun _ _ _ hr => row_ne hb hr hs)

set_option maxHeartbeats 400000 in
theorem new_any (w : World) : Calls Try.prog 9 #[] w fun e w' => e = .returned (.pointer (some ⟨w.heap.size, 0, none⟩)) ∧ DF 45 w' w.heap.size false [] ∧ Kept w w' := by
  go_enter Try.func9, Try.ntmps9
  go_wp2
  go_ret
  exact ⟨rfl, ⟨none, 0, 0, Blk.new _ _ _, Own8.nil _ _⟩, (Keep.refl _ w).alloc _⟩

set_option maxHeartbeats 400000 in
theorem bad_any (g : Nat) (bad : Bool) (left : List UInt8) (w : World) (h : DF 45 w g bad left) : Calls Try.prog 12 #[.pointer (some ⟨g, 0, none⟩)] w fun e w' => e = .returned (.bool bad) ∧ w = w' := by
  obtain ⟨A, n, c, hb, ho⟩ := h
  have c1 := hb.cell 1
  simp only [List.getElem?_cons_zero, List.getElem?_cons_succ] at c1
  clear hb ho
  go_enter Try.func12, Try.ntmps12
  go_wp2
  go_ret
  exact ⟨rfl, rfl⟩

set_option maxHeartbeats 400000 in
theorem left_any (g m : Nat) (bad : Bool) (left : List UInt8) (w : World) (h : DF 45 w g bad left) (hm : left.length = m) : Calls Try.prog 13 #[.pointer (some ⟨g, 0, none⟩)] w fun e w' => e = .returned (.int .i64 (m : Int)) ∧ w = w' := by
  obtain ⟨A, n, c, hb, ho⟩ := h
  have hl := ho.len
  rw [hm] at hl
  subst hl
  have c0 := hb.cell 0
  simp only [List.getElem?_cons_zero] at c0
  clear hb ho hm
  go_enter Try.func13, Try.ntmps13
  go_wp2
  go_ret
  exact ⟨rfl, rfl⟩

set_option maxHeartbeats 400000 in
theorem spoil_any (g n c : Nat) (A : Option Addr) (bad : Bool) (w : World) (hb : Blk w g 45 [.slice A n c, .bool bad]) : Calls Try.prog 24 #[.pointer (some ⟨g, 0, none⟩)] w fun e w' => e = .returned (.tuple #[]) ∧ DF 45 w' g true [] ∧ Keep (· = g) w w' := by
  have c0 := hb.cell 0
  have c1 := hb.cell 1
  have f0 := hb.frozen 0
  have f1 := hb.frozen 1
  simp only [List.getElem?_cons_zero, List.getElem?_cons_succ] at c0 c1
  have HB := Lib.hid ((hb.set_ 0 (.slice none 0 0)).set_ 1 (.bool true))
  clear hb
  go_enter Try.func24, Try.ntmps24
  go_wp2
  go_end0
  exact ⟨rfl, ⟨none, 0, 0, HB.out, Own8.nil _ _⟩, Keep.setCell (Keep.setCell (Keep.refl (· = g) w) (fun _ => rfl) _) (fun _ => rfl) _⟩

/-- a slice that is nil, or a new row -/
def PutIn (w w' : World) (v : Value) (xs : List UInt8) : Prop := ∃ A c, v = .slice A xs.length c ∧ Own8 w' w.heap.size A xs.length c xs

set_option maxHeartbeats 800000 in
theorem put_any (A : Option Addr) (n c : Nat) (xs : List UInt8) (w : World) (hx : R8 w A xs) (hl : Hid (xs.length = n)) (hA : A = none → c = 0) (hn : n ≤ 1000000) :
    Calls Try.prog 18 #[.slice A n c] w fun e w' => ∃ v, e = .returned v ∧ PutIn w w' v (putOf xs) ∧ Kept w w' := by
  by_cases hv : 1 ≤ n ∧ n ≤ 256
  · obtain ⟨h1, h2⟩ := hv
    have HP := Lib.hid (putOf_ok (b := xs) (by rw [hl.out]; exact h1) (by rw [hl.out]; exact h2))
    have HX := Lib.hid hx
    have HAn := Lib.hid hA
    clear hx hA
    go_enter Try.func18, Try.ntmps18
    go_wp2_with fail
    refine (valid_any n true w (decide_eq_true ⟨h1, h2⟩).symm).mono ?_
    rintro e w1 ⟨rfl, rfl⟩
    go_wp2_with fail
    refine (u8_any none 0 0 [] _ w (R8.nil _ _) (by omega) rfl).mono ?_
    rintro e w1 ⟨g1, d1, rfl, hg1, R1, k1⟩
    have HR1 := Lib.hid R1
    clear R1
    go_wp2_with fail
    refine (u8_any _ 1 d1 _ _ w1 HR1.out.r8 (by omega) (by rfl)).mono ?_
    rintro e w2 ⟨g2, d2, rfl, hg2, R2, k2⟩
    have k12 := k1.trans k2
    have hsz := k1.size
    have HX2 := Lib.hid (HX.out.kept k12)
    have HR2 := Lib.hid R2
    clear R2 HX HR1
    go_wp2_with (at_builtin; refine wpl_append8 _ rfl (.tmp 13) (.tmp 14) rfl w.heap.size g2 d2 2 _ rfl rfl HR2.out (by omega) A n c xs rfl hl.out HX2.out HAn.out (by omega) ?_)
    intro w3 g3 c3 R3 hg3 k3
    have k13 : Kept w w3 := Kept.trans' k12 k3 (by omega)
    have e3 : ([] ++ [UInt8.ofNat ((n : Int) / 256 % 256).toNat] ++ [UInt8.ofNat ((n : Int) % 256).toNat] ++ xs : List UInt8) = putOf xs := by
      rw [HP.out, hl.out]
      have a1 : ((n : Int) / 256 % 256).toNat = n / 256 := by omega
      have a2 : ((n : Int) % 256).toNat = n % 256 := by omega
      rw [a1, a2]
      rfl
    have HL : Hid ((putOf xs).length = n + 2) := by show _ = _; rw [HP.out, ← hl.out]; rfl
    have R4 := Lib.hid (e3 ▸ R3 : Row8 w3 g3 c3 (putOf xs))
    clear R3 e3 HR2
    go_wp2
    go_ret
    refine ⟨_, rfl, ⟨some ⟨g3, 0, none⟩, c3, ?_, .inr ⟨g3, rfl, hg3, rfl, R4.out⟩⟩, k13⟩
    rw [HL.out, Nat.add_comm n 2]
    rfl
  · have HP := Lib.hid (putOf_no (b := xs) (by rw [hl.out]; omega))
    clear hx hA
    go_enter Try.func18, Try.ntmps18
    go_wp2_with fail
    refine (valid_any n false w (decide_eq_false hv).symm).mono ?_
    rintro e w1 ⟨rfl, rfl⟩
    go_wp2
    go_ret
    rw [HP.out]
    exact ⟨_, rfl, ⟨none, 0, rfl, Own8.nil _ _⟩, Kept.refl _⟩
end Go.Proofs.Ytkomionfnpgjgaa
