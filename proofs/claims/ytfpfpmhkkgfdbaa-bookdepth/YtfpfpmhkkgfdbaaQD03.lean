/-
 Laws and contracts that the walks rest on, part 3. No condition.
-/
import Derived.Test.YtfpfpmhkkgfdbaaQD02
set_option linter.unusedVariables false
namespace Go.Proofs.Ytfpfpmhkkgfdbaa
open Go.RowKit
set_option maxRecDepth 100000
def sideCs (s : Int) (v u : Value) (last no : Int) : List Value := if s = 1 then bkCells v u last no else bkCells u v last no
theorem sideCs_len (s : Int) (v u : Value) (last no : Int) : (sideCs s v u last no).length = 6 := by unfold sideCs; split <;> rfl
theorem sideCs_side {s : Int} (hs : s = 1 ∨ s = 2) (v u : Value) (last no : Int) : (sideCs s v u last no)[offS s]? = some (.int .i64 s) := by rcases hs with rfl | rfl <;> rfl
theorem sideCs_get (s : Int) (v u : Value) (last no : Int) : (sideCs s v u last no)[offS s + 1]? = some v := by unfold sideCs offS; split <;> rfl
theorem sideCs_set (s : Int) (v v' u : Value) (last no : Int) : (sideCs s v u last no).set (offS s + 1) v' = sideCs s v' u last no := by unfold sideCs offS; split <;> rfl
theorem sideCs_last (s : Int) (v u : Value) (last no x : Int) : (sideCs s v u last no).set 4 (.int .i64 x) = sideCs s v u x no := by unfold sideCs; split <;> rfl
theorem sideCs_no (s : Int) (v u : Value) (last no x : Int) : (sideCs s v u last no).set 5 (.int .i64 x) = sideCs s v u last x := by unfold sideCs; split <;> rfl
theorem offS_le (s : Int) : offS s + 1 ≤ 3 := by unfold offS; split <;> omega
def Bok.to (B : Bok) (s : Int) (L : List Lev) (last no : Int) : Bok := { B.put s L with last := last, no := no }
theorem Bok.to_self {B : Bok} {s : Int} (hs : s = 1 ∨ s = 2) : B.to s (B.sd s) B.last B.no = B := by rcases hs with rfl | rfl <;> rfl
theorem Bok.to_to {B : Bok} {s : Int} (hs : s = 1 ∨ s = 2) (L M : List Lev) (l n l' n' : Int) : (B.to s L l n).to s M l' n' = B.to s M l' n' := by rcases hs with rfl | rfl <;> rfl
theorem Bok.to_sd {B : Bok} {s : Int} (hs : s = 1 ∨ s = 2) (L : List Lev) (l n : Int) : (B.to s L l n).sd s = L := by rcases hs with rfl | rfl <;> rfl
def Rejoin (w : World) (F : Nat → Prop) (p : Nat) (B : Bok) (s : Int) (u : Value) (Fs : Nat → Prop) : Prop :=
 ∀ (w' : World) (v' : Value) (L' : List Lev) (Fs' : Nat → Prop) (last no : Int), Keep (fun b => Fs b ∨ b = p) w w' → Blk w' p 75 (sideCs s v' u last no) → Way 110 112 97 w' Fs' v' L' → Grow w Fs Fs' → ∃ F', Bk w' F' p (B.to s L' last no) ∧ Grow w F F' ∧ Keep F w w' ∧ ∀ b, F b → F' b
theorem Bk.open_ {w : World} {F : Nat → Prop} {p : Nat} {B : Bok} (h : Bk w F p B) {s : Int} (hs : s = 1 ∨ s = 2) :
  ∃ v u Z G Fs, levs Z = B.sd s ∧ WayZ 110 112 97 w Fs v Z G ∧ Blk w p 75 (sideCs s v u B.last B.no) ∧ (∀ b, Fs b → F b ∧ b ≠ p) ∧ F p ∧ (∀ b, F b → b < w.heap.size) ∧ Rejoin w F p B s u Fs := by
 obtain ⟨h1, h2, v1, v2, F1, F2, hB, hW1, hW2, h3, h4⟩ := h
 have hpl := h2 p h1
 rcases hs with rfl | rfl
 ·obtain ⟨Z, G, e, hz⟩ := hW1
  refine ⟨v1, v2, Z, G, F1, e, hz, hB, fun b hb => ⟨(h3 b hb).1, (h3 b hb).2.1⟩, h1, h2, ?_⟩
  intro w' v' L' Fs' last no hk hB' hW' hG
  have hlt := hW'.lt
  have hkF : Keep F w w' := hk.mono (fun b _ hb => hb.elim (fun h => (h3 b h).1) (fun h => by subst h; exact h1))
  refine ⟨fun b => F b ∨ Fs' b, ⟨.inl h1, fun b hb => hb.elim (fun h => Nat.lt_of_lt_of_le (h2 b h) hk.size) (hlt b), v', v2, Fs', F2, hB', hW', hW2.keep hk (fun b hb h => h.elim (fun h => (h3 b h).2.2 hb) (fun h => (h4 b hb).2 h)), fun b hb => ?_, fun b hb => ⟨.inl (h4 b hb).1, (h4 b hb).2⟩⟩, fun b hb => hb.elim .inl (fun h => (hG b h).imp (fun h => (h3 b h).1) id), hkF, fun b hb => .inl hb⟩
  refine ⟨.inr hb, ?_, ?_⟩
  ·rcases hG b hb with h | h
   ·exact (h3 b h).2.1
   ·omega
  ·rcases hG b hb with h | h
   ·exact (h3 b h).2.2
   ·intro h'
    have := h2 b (h4 b h').1
    omega
 ·obtain ⟨Z, G, e, hz⟩ := hW2
  refine ⟨v2, v1, Z, G, F2, e, hz, hB, h4, h1, h2, ?_⟩
  intro w' v' L' Fs' last no hk hB' hW' hG
  have hlt := hW'.lt
  have hkF : Keep F w w' := hk.mono (fun b _ hb => hb.elim (fun h => (h4 b h).1) (fun h => by subst h; exact h1))
  refine ⟨fun b => F b ∨ Fs' b, ⟨.inl h1, fun b hb => hb.elim (fun h => Nat.lt_of_lt_of_le (h2 b h) hk.size) (hlt b), v1, v', F1, Fs', hB', hW1.keep hk (fun b hb h => h.elim (fun h => (h3 b hb).2.2 h) (fun h => (h3 b hb).2.1 h)), hW', fun b hb => ⟨.inl (h3 b hb).1, (h3 b hb).2.1, fun h' => ?_⟩, fun b hb => ⟨.inr hb, ?_⟩⟩, fun b hb => hb.elim .inl (fun h => (hG b h).imp (fun h => (h4 b h).1) id), hkF, fun b hb => .inl hb⟩
  ·rcases hG b h' with h | h
   ·exact (h3 b hb).2.2 h
   ·have := h2 b (h3 b hb).1
    omega
  ·rcases hG b hb with h | h
   ·exact (h4 b h).2
   ·omega
theorem ptrs_drop (X : Zs) (i : Nat) : (ptrs X).drop (i * 1) = ptrs (X.drop i) := by rw [Nat.mul_one, ptrs, ptrs, List.map_drop]
theorem ptrs_take (X : Zs) (i : Nat) : (ptrs X).take (i * 1) = ptrs (X.take i) := by rw [Nat.mul_one, ptrs, ptrs, List.map_take]
theorem ptrs_len1 (X : Zs) : (ptrs X).length = X.length * 1 := by rw [ptrs_len, Nat.mul_one]
def zP1 : List Value := [.pointer none]
theorem zP1_len : zP1.length = 1 := rfl
theorem zP1_one : ∀ u ∈ zP1, u.oneCell' = true := by intro u hu; simp [zP1] at hu; subst hu; rfl
theorem zeroVP (w : World) : (zeroValue 97).run Try.prog w = .ok (.pointer none) w := by kernel_rfl
theorem exec_clrP {a : Act} {o : Oper} {u : World} {t T : TypeId} {bytes : Nat} (ht : SlT t T 1 bytes) (hz0 : ∀ w, (zeroValue T).run Try.prog w = .ok (.pointer none) w) (x : Operand) (g off c : Nat) (hop : o.op = .call { callee := .builtin .clear, args := #[x], argTypes := #[t] }) (hx : a.eval x = .slice (some ⟨g, off, none⟩) 1 c) (hth : u.there g off 1) :
  (execOp a.eval o).run Try.prog u = .ok (.value (.tuple #[])) (u.setCells g off zP1) := by
 have hzc : (Builtin.zeroCells #[Value.pointer none] 1).toList = zP1 := by simp [Builtin.zeroCells, zP1]
 have hst := run_storeCells_cells (P := Try.prog) g off zP1 0 u (fun j hj => by simpa using (hth j (by simpa [zP1] using hj)).1) (fun j hj => by simpa using (hth j (by simpa [zP1] using hj)).2) zP1_one
 simp only [Nat.add_zero] at hst
 have hr : (Builtin.clear_ #[t] o.type #[.slice (some ⟨g, off, none⟩) 1 c]).run Try.prog u = .ok (.tuple #[]) (u.setCells g off zP1) := by
  simp [Builtin.clear_, run_underlying ht.und, hz0, Value.cells, hzc, hst]
 unfold execOp
 simp only [hop, resolve, invoke, builtin, Sem.run_bind, Sem.run_pure, Result.andThen_ok, List.map_toArray, List.map_cons, List.map_nil, hx, hr]
theorem append_inP (g off n c k : Nat) (X : Zs) (v2 : Value) (w : World) (hS : Sl w 97 1 (.slice (some ⟨g, off, none⟩) n c) n (ptrs X)) (hn : X.length = n) (hkn : k < n) (hnc : n ≤ c) (h2 : Sl w 97 1 v2 (n - (k + 1)) (ptrs (X.drop (k + 1)))) (ho : v2.ownBlock = some g) (ty : TypeId) :
  (Builtin.append_ #[71, 71] ty #[.slice (some ⟨g, off, none⟩) k c, v2]).run Try.prog w = .ok (.slice (some ⟨g, off, none⟩) (n - 1) c) (w.setCells g (off + k * 1) (ptrs (X.drop (k + 1)))) := by
 obtain ⟨z, hz, hz2, _⟩ := slQ.info
 obtain ⟨i0, hi, hz0, hz1, hzb⟩ := info_parts hz
 have hl : (ptrs (X.drop (k + 1))).length = (n - (k + 1)) * 1 := by rw [ptrs_len1, List.length_drop, hn]
 obtain ⟨_, _, _, ht⟩ := hS.setCells (k * 1) (ptrs (X.drop (k + 1))) (by rw [hl]; omega)
 obtain ⟨hl2, A, d, rfl, _, _, _, h4⟩ := h2
 cases A with
 | none => simp [Value.ownBlock] at ho
 | some ad =>
  obtain ⟨g2, off2, cur2, rfl, hB2, hle2, htk2⟩ := h4 _ rfl
  have hr := run_append_room_cells (P := Try.prog) w 71 ty 97 i0 slQ.und hi g off k c ⟨g2, off2, none⟩ (n - (k + 1)) d (ptrs (X.drop (k + 1))) (by rw [hz1, hl]) (fun j u hu => by rw [Addr.add_mid]; exact seg_cell hB2 htk2 j u hu) (ptrs_one _) (by omega)
   (fun j hj => by rw [hz1]; exact (ht j hj).1) (fun j hj => by rw [hz1]; exact (ht j hj).2)
  rw [hr, hz1, show k + (n - (k + 1)) = n - 1 by omega]
set_option maxRecDepth 100000 in
set_option maxHeartbeats 1600000 in
theorem ldelete_any (g off n c k : Nat) (X : Zs) (w : World) (hS : Sl w 97 1 (.slice (some ⟨g, off, none⟩) n c) n (ptrs X)) (hn : X.length = n) (hkn : k < n) (hlen : n ≤ 100000000) :
  Calls Try.prog 91 #[.slice (some ⟨g, off, none⟩) n c, .int .i64 (k : Int), .int .i64 ((k : Int) + 1)] w fun r w' => r = .returned (.slice (some ⟨g, off, none⟩) (n - 1) c) ∧ Sl w' 97 1 (.slice (some ⟨g, off, none⟩) (n - 1) c) (n - 1) (ptrs (X.eraseIdx k)) ∧ Keep (· = g) w w' := by
 have hnc : n ≤ c := by obtain ⟨_, A, c', e', h1, _⟩ := hS; injection e' with _ _ e3; subst e3; exact h1
 obtain ⟨vx, hvx⟩ := run_lhm slQ (some ⟨g, off, none⟩) n c k (k + 1) (by omega) (by omega) hnc
 obtain ⟨v1, hv1, ho1, hs1⟩ := slice_hS slQ _ n k (by omega) _ w hS
 obtain ⟨v2, hv2, ho2, hs2⟩ := slice_lS slQ _ n (k + 1) (by omega) _ w hS
 have e1 : v1 = .slice (some ⟨g, off, none⟩) k c := by
  obtain ⟨z, hz, hz2, _⟩ := slQ.info
  obtain ⟨i0, hi, hz0, hz1, hzb⟩ := info_parts hz
  have := hv1 w
  rw [run_slice_h (P := Try.prog) (w := w) 71 (some ⟨g, off, none⟩) n c (by rw [slQ.elem]; exact slQ.und) .i64 (k : Int) (by omega) (by omega), slQ.elem] at this
  simp [sizeOf, typeInfo, hi, hz1, sliced, Addr.add] at this
  exact this.symm
 subst e1
 have HX2 : Hid (∀ w, Sl w 97 1 (.slice (some ⟨g, off, none⟩) n c) n (ptrs X) → Sl w 97 1 v2 (n - (k + 1)) (ptrs (X.drop (k + 1)))) := fun w h => by
  have := hs2 w _ h
  rw [show (ptrs X).drop ((k + 1) * 1) = ptrs (X.drop (k + 1)) from ptrs_drop X (k + 1)] at this
  exact this
 have HVX := Lib.hid hvx
 have HV1 := Lib.hid hv1
 have HV2 := Lib.hid hv2
 have HO2 := Lib.hid ho2
 have HS := Lib.hid hS
 have HN := Lib.hid hn
 have hcast : ((k + 1 : Nat) : Int) = (k : Int) + 1 := by omega
 rw [hcast] at HVX HV2
 clear hvx hv1 hv2 ho1 ho2 hs1 hs2 hS hn
 have hne : ((k : Int) == (k : Int) + 1) = false := by simp; omega
 go_enter Try.func91, Try.ntmps91
 go_upto_region 1 with fail
 refine wp_text 6 [.eq (.slice (some ⟨g, off, none⟩) n c), .eq (.int .i64 (k : Int)), .eq (.int .i64 ((k : Int) + 1)), .eq (.slice (some ⟨g, off, none⟩) n c), .eq (.int .i64 (n : Int)), .eq (vx)] rfl (by kernel_rfl) ?_ ?_
 ·refine sv 1 rfl rfl rfl (fun a u hE hD hk => exec_move (.tmp 0) _ rfl (hE 0 (.slice (some ⟨g, off, none⟩) n c) (by kernel_rfl) (by kernel_rfl))) ?_
  refine sv 2 rfl rfl rfl (fun a u hE hD hk => exec_move (.tmp 1) _ rfl (hE 1 (.int .i64 (k : Int)) (by kernel_rfl) (by kernel_rfl))) ?_
  refine sv 3 rfl rfl rfl (fun a u hE hD hk => exec_move (.tmp 2) _ rfl (hE 2 (.int .i64 ((k : Int) + 1)) (by kernel_rfl) (by kernel_rfl))) ?_
  refine sv 4 rfl rfl rfl (fun a u hE hD hk => exec_move (.tmp 0) _ rfl (hE 0 (.slice (some ⟨g, off, none⟩) n c) (by kernel_rfl) (by kernel_rfl))) ?_
  refine sv 5 rfl rfl rfl (fun a u hE hD hk => exec_len (.tmp 11) _ _ slQ.und (some ⟨g, off, none⟩) n c rfl (hD 3 11 (by kernel_rfl))) ?_
  refine sv 6 rfl rfl rfl (fun a u hE hD hk => exec_slcLHM slQ (.tmp 8) (.tmp 9) (.tmp 10) (.tmp 12) _ vx _ _ _ rfl (hD 0 8 (by kernel_rfl)) (hD 1 9 (by kernel_rfl)) (hD 2 10 (by kernel_rfl)) (hD 4 12 (by kernel_rfl)) (HVX.out u)) ?_
  exact fsteps_nil
 intro gv w1 hV k1
 rw [show dstsOf _ 6 = [8, 9, 10, 11, 12, 13] by kernel_rfl]
 simp only [fC, fN, sA, sS, sZ, dS, dZ]
 clear hV
 refine wpList_nil ?_
 go_upto_region 2 with fail
 refine wp_text 3 [.eq (.int .i64 (k : Int)), .eq (.int .i64 ((k : Int) + 1)), .eq (.bool false)] rfl (by kernel_rfl) ?_ ?_
 ·refine sv 1 rfl rfl rfl (fun a u hE hD hk => exec_move (.tmp 1) _ rfl (hE 1 (.int .i64 (k : Int)) (by kernel_rfl) (by kernel_rfl))) ?_
  refine sv 2 rfl rfl rfl (fun a u hE hD hk => exec_move (.tmp 2) _ rfl (hE 2 (.int .i64 ((k : Int) + 1)) (by kernel_rfl) (by kernel_rfl))) ?_
  refine fsteps_cons 3 rfl (fun a u hE hD hk => f_as (show ((decide (((k : Int) : Int) = (((k : Int) + 1) : Int))) : Bool) = false from decide_eq_false (by omega)) (f_val (o := ⟨some 16, _, _, _, _, _⟩) (.bool (decide (((k : Int) : Int) = (((k : Int) + 1) : Int)))) rfl (wanted_none rfl _) (exec_eqn (p := (k : Int)) (q := ((k : Int) + 1)) rfl (hD 0 14 (by kernel_rfl)) (hD 1 15 (by kernel_rfl))) rfl)) ?_
  exact fsteps_nil
 intro gv w2 hV k2
 rw [show dstsOf _ 3 = [14, 15, 16] by kernel_rfl]
 simp only [fC, fN, sA, sS, sZ, dS, dZ]
 rw [show gv 16 = .bool false from hV 2 16 (by kernel_rfl)]
 clear hV
 refine wpList_nil ?_
 clear hne
 go_upto_region 4 with fail
 refine wp_text 3 [.eq (.slice (some ⟨g, off, none⟩) n c), .eq (.int .i64 (n : Int)), .eq (.int .i64 (n : Int))] rfl (by kernel_rfl) ?_ ?_
 ·refine sv 1 rfl rfl rfl (fun a u hE hD hk => exec_move (.tmp 0) _ rfl (hE 0 (.slice (some ⟨g, off, none⟩) n c) (by kernel_rfl) (by kernel_rfl))) ?_
  refine sv 2 rfl rfl rfl (fun a u hE hD hk => exec_len (.tmp 18) _ _ slQ.und (some ⟨g, off, none⟩) n c rfl (hD 0 18 (by kernel_rfl))) ?_
  refine sv 3 rfl rfl rfl (fun a u hE hD hk => exec_assign (.tmp 19) _ rfl (hD 1 19 (by kernel_rfl))) ?_
  exact fsteps_nil
 intro gv w3 hV k3
 rw [show dstsOf _ 3 = [18, 19, 7] by kernel_rfl]
 simp only [fC, fN, sA, sS, sZ, dS, dZ]
 rw [show gv 7 = .int .i64 (n : Int) from hV 2 7 (by kernel_rfl)]
 clear hV
 refine wpList_nil ?_
 have kw3 := (k1.trans k2).trans k3
 clear k1 k2 k3
 go_upto_region 5 with fail
 refine wp_free 6 [.eq (.slice (some ⟨g, off, none⟩) n c), .eq (.int .i64 (k : Int)), .eq (.slice (some ⟨g, off, none⟩) k c), .eq (.slice (some ⟨g, off, none⟩) n c), .eq (.int .i64 ((k : Int) + 1)), .eq (v2)] (by kernel_rfl) rfl (by kernel_rfl) ?_ ?_
 ·refine sv 1 rfl rfl rfl (fun a u hE hD hk => exec_move (.tmp 0) _ rfl (hE 0 (.slice (some ⟨g, off, none⟩) n c) (by kernel_rfl) (by kernel_rfl))) ?_
  refine sv 2 rfl rfl rfl (fun a u hE hD hk => exec_move (.tmp 1) _ rfl (hE 1 (.int .i64 (k : Int)) (by kernel_rfl) (by kernel_rfl))) ?_
  refine sv 3 rfl rfl rfl (fun a u hE hD hk => exec_slcH slQ (.tmp 20) (.tmp 21) _ _ _ rfl (hD 0 20 (by kernel_rfl)) (hD 1 21 (by kernel_rfl)) (HV1.out u)) ?_
  refine sv 4 rfl rfl rfl (fun a u hE hD hk => exec_move (.tmp 0) _ rfl (hE 0 (.slice (some ⟨g, off, none⟩) n c) (by kernel_rfl) (by kernel_rfl))) ?_
  refine sv 5 rfl rfl rfl (fun a u hE hD hk => exec_move (.tmp 2) _ rfl (hE 2 (.int .i64 ((k : Int) + 1)) (by kernel_rfl) (by kernel_rfl))) ?_
  refine sv 6 rfl rfl rfl (fun a u hE hD hk => exec_slcL slQ (.tmp 23) (.tmp 24) _ v2 _ rfl (hD 3 23 (by kernel_rfl)) (hD 4 24 (by kernel_rfl)) (HV2.out u)) ?_
  exact fsteps_nil
 intro gv w4 hV k4
 rw [show dstsOf _ 6 = [20, 21, 22, 23, 24, 25] by kernel_rfl]
 simp only [fC, fN, sA, sS, sZ, dS, dZ]
 rw [show gv 22 = .slice (some ⟨g, off, none⟩) k c from hV 2 22 (by kernel_rfl)]
 rw [show gv 25 = v2 from hV 5 25 (by kernel_rfl)]
 clear hV
 have kw4 := kw3.trans k4
 have hS4 := HS.out.kept kw4
 have hX4 := HX2.out w4 hS4
 have hr4 : ∀ ty, (Builtin.append_ #[71, 71] ty #[.slice (some ⟨g, off, none⟩) k c, v2]).run Try.prog w4 = .ok (.slice (some ⟨g, off, none⟩) (n - 1) c) (w4.setCells g (off + k * 1) (ptrs (X.drop (k + 1)))) := fun ty => append_inP g off n c k X v2 w4 hS4 HN.out hkn hnc hX4 (by rw [HO2.out]; rfl) ty
 refine l_new (o := ⟨some 26, _, _, _, _, _⟩) (.slice (some ⟨g, off, none⟩) (n - 1) c) (w4.setCells g (off + k * 1) (ptrs (X.drop (k + 1)))) rfl (exec_appS slQ (.tmp 22) (.tmp 25) (.slice (some ⟨g, off, none⟩) k c) v2 rfl (by kernel_rfl) (by kernel_rfl) _ _ (hr4 _)) ?_
 simp only [Act.put, sA, sS, sZ]
 refine l_val (o := ⟨some 0, _, _, _, _, _⟩) (.slice (some ⟨g, off, none⟩) (n - 1) c) rfl (exec_assign (.tmp 26) (.slice (some ⟨g, off, none⟩) (n - 1) c) rfl (by kernel_rfl)) ?_
 simp only [Act.put, List.setIfInBounds_toArray, List.set_cons_zero]
 refine wpList_nil ?_
 have hlenE : (ptrs (X.drop (k + 1))).length = (n - (k + 1)) * 1 := by rw [ptrs_len1, List.length_drop, HN.out]
 obtain ⟨hS5, hk5, hz5, _⟩ := hS4.setCells (k * 1) (ptrs (X.drop (k + 1))) (by rw [hlenE]; omega)
 have HS5 : Hid (Sl (w4.setCells g (off + k * 1) (ptrs (X.drop (k + 1)))) 97 1 (.slice (some ⟨g, off, none⟩) n c) n (ptrs (X.eraseIdx k ++ X.drop (n - 1)))) := by
  rw [show (ptrs X).take (k * 1) = ptrs (X.take k) from ptrs_take X k, hlenE, show k * 1 + (n - (k + 1)) * 1 = (n - 1) * 1 by omega, show (ptrs X).drop ((n - 1) * 1) = ptrs (X.drop (n - 1)) from ptrs_drop X (n - 1)] at hS5
  show Sl _ _ _ _ _ _
  rw [List.eraseIdx_eq_take_drop_succ]
  rw [ptrs_append, ptrs_append]
  exact hS5
 have K5 : Keep (· = g) w (w4.setCells g (off + k * 1) (ptrs (X.drop (k + 1)))) := (Keep.mono (T := (· = g)) kw4 (fun _ _ h => h.elim)).trans hk5 (fun _ _ h => h)
 generalize w4.setCells g (off + k * 1) (ptrs (X.drop (k + 1))) = w5 at HS5 K5 ⊢
 clear hr4 hX4 hS4 hS5 hk5 hz5 kw4 kw3 k4 HX2 HV1 HV2 HVX HO2 HS hlenE
 obtain ⟨m, hm⟩ : ∃ m, n - 1 = m := ⟨_, rfl⟩
 have hmn : n = m + 1 := by omega
 rw [hm] at HS5 ⊢
 go_upto_region 6 with fail
 refine wp_text 5 [.eq (.slice (some ⟨g, off, none⟩) m c), .eq (.slice (some ⟨g, off, none⟩) m c), .eq (.int .i64 (m : Int)), .eq (.int .i64 (n : Int)), .eq (.slice (some ⟨g, off + m * 1, none⟩) (n - m) (c - m))] rfl (by kernel_rfl) ?_ ?_
 ·refine sv 1 rfl rfl rfl (fun a u hE hD hk => exec_move (.tmp 0) _ rfl (hE 0 (.slice (some ⟨g, off, none⟩) m c) (by kernel_rfl) (by kernel_rfl))) ?_
  refine sv 2 rfl rfl rfl (fun a u hE hD hk => exec_move (.tmp 0) _ rfl (hE 0 (.slice (some ⟨g, off, none⟩) m c) (by kernel_rfl) (by kernel_rfl))) ?_
  refine sv 3 rfl rfl rfl (fun a u hE hD hk => exec_len (.tmp 28) _ _ slQ.und (some ⟨g, off, none⟩) m c rfl (hD 1 28 (by kernel_rfl))) ?_
  refine sv 4 rfl rfl rfl (fun a u hE hD hk => exec_move (.tmp 7) _ rfl (hE 7 (.int .i64 (n : Int)) (by kernel_rfl) (by kernel_rfl))) ?_
  refine sv 5 rfl rfl rfl (fun a u hE hD hk => exec_slcLH slQ (.tmp 27) (.tmp 29) (.tmp 30) _ _ _ _ rfl (hD 0 27 (by kernel_rfl)) (hD 2 29 (by kernel_rfl)) (hD 3 30 (by kernel_rfl)) (run_lh slQ g off m c m n (by omega) (by omega) u)) ?_
  exact fsteps_nil
 intro gv w6 hV k6
 rw [show dstsOf _ 5 = [27, 28, 29, 30, 31] by kernel_rfl]
 simp only [fC, fN, sA, sS, sZ, dS, dZ]
 rw [show gv 31 = .slice (some ⟨g, off + m * 1, none⟩) (n - m) (c - m) from hV 4 31 (by kernel_rfl)]
 clear hV
 obtain ⟨hS6, hk6, hz6, ht6⟩ := (HS5.out.kept k6).setCells (m * 1) zP1 (by rw [zP1_len]; omega)
 rw [zP1_len] at ht6
 have h1 : n - m = 1 := by omega
 refine l_new (o := ⟨none, _, _, _, _, _⟩) (.tuple #[]) (w6.setCells g (off + m * 1) zP1) rfl (exec_clrP slQ zeroVP (.tmp 31) g (off + m * 1) (c - m) rfl (by rw [← h1]; kernel_rfl) ht6) ?_
 simp only [Act.put]
 refine wpList_nil ?_
 have hS7 : Sl (w6.setCells g (off + m * 1) zP1) 97 1 (.slice (some ⟨g, off, none⟩) m c) m (ptrs (X.eraseIdx k)) := by
  have h2 := hS6.shrink (m := m) (by omega)
  have h3 : (X.eraseIdx k).length = m := by rw [List.length_eraseIdx, if_pos (by rw [HN.out]; exact hkn), HN.out]; omega
  rw [List.append_assoc, List.take_append_of_le_length (by rw [List.length_take, ptrs_len1, List.length_append, h3]; omega), List.take_take, Nat.min_self] at h2
  have h4 : (ptrs (X.eraseIdx k ++ X.drop m)).take (m * 1) = ptrs (X.eraseIdx k) := by
   rw [show (ptrs (X.eraseIdx k ++ X.drop m)).take (m * 1) = ptrs ((X.eraseIdx k ++ X.drop m).take m) from ptrs_take _ m, List.take_append_of_le_length (by omega), List.take_of_length_le (by omega)]
  rw [h4] at h2
  exact h2
 have HS7 := Lib.hid hS7
 have K7 : Keep (· = g) w (w6.setCells g (off + m * 1) zP1) := (K5.kept k6).trans hk6 (fun _ _ h => h)
 generalize w6.setCells g (off + m * 1) zP1 = w7 at HS7 K7 ⊢
 clear hS6 hS7 hk6 hz6 ht6 K5 HS5 k6
 go_wp2
 go_ret
 rw [hm]
 exact ⟨rfl, HS7.out, K7⟩
def dropE (A R : List Lev) (l : Lev) : List Lev := if l.2.isEmpty = true then A ++ R else A ++ l :: R
set_option maxRecDepth 100000 in
set_option maxHeartbeats 1600000 in
theorem drop_if_any (w : World) (F : Nat → Prop) (p : Nat) (B : Bok) (s : Int) (A R : List Lev) (l : Lev) (i : Nat) (h : Bk w F p B) (hs : s = 1 ∨ s = 2) (hL : B.sd s = A ++ l :: R) (hi : A.length = i) (hn : A.length + 1 + R.length ≤ 1000) (hX : l.2.length ≤ 100000000) :
  Calls Try.prog 69 #[.pointer (some ⟨p, offS s, none⟩), .int .i64 (i : Int)] w fun r w' => ∃ F', r = .returned (.tuple #[]) ∧ Bk w' F' p (B.to s (dropE A R l) B.last B.no) ∧ Grow w F F' ∧ Keep F w w' ∧ ∀ b, F b → F' b := by
 obtain ⟨v, u0, Z, G, Fs, eL, hW, hB, hFs, hp, hlt, hJ⟩ := h.open_ hs
 have HJ := Lib.hid hJ
 have HK := Lib.hid h
 obtain ⟨n, hnZ⟩ : ∃ n, Z.length = n := ⟨_, rfl⟩
 have hlen : A.length + 1 + R.length = n := by
  rw [← hnZ, ← levs_len, eL, hL]
  simp
  omega
 have hin : i < n := by omega
 obtain ⟨gs, os, c, rfl⟩ := hW.some_ (by omega)
 rw [hnZ] at hW hB
 obtain ⟨z, hz⟩ : ∃ z, Z[i]? = some z := ⟨Z[i]'(by omega), List.getElem?_eq_getElem (by omega)⟩
 have hzl : z.2 = l := by
  have h1 := levs_at hz
  rw [eL, hL, ← hi, List.getElem?_append_right (Nat.le_refl _), Nat.sub_self] at h1
  simpa using h1.symm
 obtain ⟨q, pr, X⟩ := z
 subst hzl
 have hnZ1 : n ≤ 1000 := by omega
 have HZR : Hid (levs (Z.eraseIdx i) = A ++ R) := by
  show _ = _
  have e0 : levs (Z.eraseIdx i) = (levs Z).eraseIdx i := by simp [levs, List.eraseIdx_eq_take_drop_succ, List.map_take, List.map_drop]
  rw [e0, eL, hL, ← hi, List.eraseIdx_append_of_length_le (Nat.le_refl _), Nat.sub_self]
  rfl
 have HV : Hid (w.cell? ⟨p, offS s + 1, none⟩ = some (.slice (some ⟨gs, os, none⟩) n c)) := by
  show _ = _
  rw [hB.cell]
  exact sideCs_get s _ _ _ _
 have HC := Lib.hid (hW.cell hz)
 have HLV := Lib.hid (hW.lv (q, pr, X) (List.mem_of_getElem? hz))
 have HB := Lib.hid hB
 have HW := Lib.hid hW
 have HSL := Lib.hid hW.sl
 rw [hnZ] at HSL
 have HN := Lib.hid hnZ
 have HL := Lib.hid hL
 have HFs := Lib.hid hFs
 have hgs : Fs gs := (hW.own gs rfl).1
 have hgp : gs ≠ p := (hFs gs hgs).2
 have hpl := hlt p hp
 have hgl := hlt gs (hFs gs hgs).1
 have ho3 := offS_le s
 clear hW hB eL hJ hz hFs hL h hlt hlen hi hn hnZ
 obtain ⟨x, hx⟩ : ∃ x, X.length = x := ⟨_, rfl⟩
 have HX := Lib.hid hx
 have hX : x ≤ 100000000 := by rw [← hx]; exact hX
 clear hx
 by_cases hx0 : x = 0
 ·have HE : Hid (dropE A R (pr, X) = A ++ R) := by
   show _ = _
   unfold dropE
   rw [if_pos (by simp only [List.isEmpty_iff]; exact List.eq_nil_of_length_eq_zero (by rw [HX.out]; exact hx0))]
  go_enter Try.func69, Try.ntmps69
  go_upto_region 0 with fail
  refine wp_text 9 [.eq (.pointer (some ⟨p, offS s, none⟩)), .eq (.pointer (some ⟨p, offS s, none⟩)), .eq (.pointer (some ⟨p, offS s + 1, none⟩)), .eq (.slice (some ⟨gs, os, none⟩) n c), .eq (.int .i64 (i : Int)), .eq (.pointer (some ⟨gs, os + i * 1, none⟩)), .eq (.pointer (some ⟨q, 0, none⟩)), .eq (.int .i64 (x : Int)), .eq (.bool true)] rfl (by kernel_rfl) ?_ ?_
  ·refine sv 1 rfl rfl rfl (fun a u hE hD hk => exec_move (.tmp 0) _ rfl (hE 0 (.pointer (some ⟨p, offS s, none⟩)) (by kernel_rfl) (by kernel_rfl))) ?_
   refine sv 2 rfl rfl rfl (fun a u hE hD hk => exec_nilp (.tmp 4) ⟨p, offS s, none⟩ rfl (hD 0 4 (by kernel_rfl))) ?_
   refine sv 3 rfl rfl rfl (fun a u hE hD hk => exec_fldo 73 1 1 (.tmp 5) (p) (offS s) (offS s + 1) rfl (hD 1 5 (by kernel_rfl)) (by kernel_rfl) rfl) ?_
   refine sv 4 rfl rfl rfl (fun a u hE hD hk => exec_ldv 71 _ Try.underlying71 (.tmp 6) ⟨p, offS s + 1, none⟩ (.slice (some ⟨gs, os, none⟩) n c) rfl (hD 2 6 (by kernel_rfl)) (Kept.cell hk (HV.out))) ?_
   refine sv 5 rfl rfl rfl (fun a u hE hD hk => exec_move (.tmp 1) _ rfl (hE 1 (.int .i64 (i : Int)) (by kernel_rfl) (by kernel_rfl))) ?_
   refine sv 6 rfl rfl rfl (fun a u hE hD hk => exec_ixo slQ (.tmp 7) (.tmp 8) (gs) (os) n c i (os + i * 1) ((i : Int)) rfl (hD 3 7 (by kernel_rfl)) (hD 4 8 (by kernel_rfl)) (by first | rfl | omega) (hin) (by first | rfl | omega)) ?_
   refine sv 7 rfl rfl rfl (fun a u hE hD hk => exec_ldp 97 _ Try.underlying97 (.tmp 9) ⟨gs, os + i * 1, none⟩ (.pointer (some ⟨q, 0, none⟩)) rfl (hD 5 9 (by kernel_rfl)) (Kept.cell hk (HC.out))) ?_
   refine fsteps_cons 8 rfl (fun a u hE hD hk => f_call (o := ⟨some 11, _, _, _, _, _⟩) 83 #[.pointer (some ⟨q, 0, none⟩)] rfl (wanted_none rfl _) (exec_call 83 _ [.tmp 10] _ [.pointer (some ⟨q, 0, none⟩)] Try.func83 (by kernel_rfl) (by kernel_rfl) rfl (show [a.eval (.tmp 10)] = [.pointer (some ⟨q, 0, none⟩)] from (by rw [show a.eval (.tmp 10) = .pointer (some ⟨q, 0, none⟩) from (hD 6 10 (by kernel_rfl))] <;> rfl)) u) ((by rw [← HX.out]; exact len_any u _ q X (HLV.out.kept hk)))) ?_
   refine fsteps_cons 9 rfl (fun a u hE hD hk => f_as (show ((decide (((x : Int) : Int) = (0 : Int))) : Bool) = true from decide_eq_true (by omega)) (f_val (o := ⟨some 12, _, _, _, _, _⟩) (.bool (decide (((x : Int) : Int) = (0 : Int)))) rfl (wanted_none rfl _) (exec_eqn (p := (x : Int)) (q := 0) rfl (hD 7 11 (by kernel_rfl)) rfl) rfl)) ?_
   exact fsteps_nil
  intro gv w1 hV k1
  rw [show dstsOf _ 9 = [4, 5, 6, 7, 8, 9, 10, 11, 12] by kernel_rfl]
  simp only [fC, fN, sA, sS, sZ, dS, dZ]
  rw [show gv 12 = .bool true from hV 8 12 (by kernel_rfl)]
  clear hV
  refine wpList_nil ?_
  have HB1 := Lib.hid (HB.out.kept k1)
  have HV1 := Lib.hid (k1.cell HV.out)
  have HS1 := Lib.hid (HSL.out.kept k1)
  have HW1 := Lib.hid (HW.out.kept k1)
  clear HB HV HC HLV HSL
  go_upto_region 1 with fail
  refine wp_text 8 [.eq (.pointer (some ⟨p, offS s, none⟩)), .eq (.pointer (some ⟨p, offS s, none⟩)), .eq (.pointer (some ⟨p, offS s, none⟩)), .eq (.pointer (some ⟨p, offS s + 1, none⟩)), .eq (.slice (some ⟨gs, os, none⟩) n c), .eq (.int .i64 (i : Int)), .eq (.int .i64 (i : Int)), .eq (.int .i64 (((i : Int) : Int) + (1 : Int)))] rfl (by kernel_rfl) ?_ ?_
  ·refine sv 1 rfl rfl rfl (fun a u hE hD hk => exec_move (.tmp 0) _ rfl (hE 0 (.pointer (some ⟨p, offS s, none⟩)) (by kernel_rfl) (by kernel_rfl))) ?_
   refine sv 2 rfl rfl rfl (fun a u hE hD hk => exec_move (.tmp 0) _ rfl (hE 0 (.pointer (some ⟨p, offS s, none⟩)) (by kernel_rfl) (by kernel_rfl))) ?_
   refine sv 3 rfl rfl rfl (fun a u hE hD hk => exec_nilp (.tmp 14) ⟨p, offS s, none⟩ rfl (hD 1 14 (by kernel_rfl))) ?_
   refine sv 4 rfl rfl rfl (fun a u hE hD hk => exec_fldo 73 1 1 (.tmp 15) (p) (offS s) (offS s + 1) rfl (hD 2 15 (by kernel_rfl)) (by kernel_rfl) rfl) ?_
   refine sv 5 rfl rfl rfl (fun a u hE hD hk => exec_ldv 71 _ Try.underlying71 (.tmp 16) ⟨p, offS s + 1, none⟩ (.slice (some ⟨gs, os, none⟩) n c) rfl (hD 3 16 (by kernel_rfl)) (Kept.cell hk (HV1.out))) ?_
   refine sv 6 rfl rfl rfl (fun a u hE hD hk => exec_move (.tmp 1) _ rfl (hE 1 (.int .i64 (i : Int)) (by kernel_rfl) (by kernel_rfl))) ?_
   refine sv 7 rfl rfl rfl (fun a u hE hD hk => exec_move (.tmp 1) _ rfl (hE 1 (.int .i64 (i : Int)) (by kernel_rfl) (by kernel_rfl))) ?_
   refine sv 8 rfl rfl rfl (fun a u hE hD hk => exec_addn (p := ((i : Int))) (q := (1)) (((i : Int) : Int) + (1 : Int)) rfl (hD 6 19 (by kernel_rfl)) rfl rfl (by omega) (by omega)) ?_
   exact fsteps_nil
  intro gv w2 hV k2
  rw [show dstsOf _ 8 = [13, 14, 15, 16, 17, 18, 19, 20] by kernel_rfl]
  simp only [fC, fN, sA, sS, sZ, dS, dZ]
  rw [show gv 17 = .slice (some ⟨gs, os, none⟩) n c from hV 4 17 (by kernel_rfl)]
  rw [show gv 18 = .int .i64 (i : Int) from hV 5 18 (by kernel_rfl)]
  rw [show gv 20 = .int .i64 (((i : Int) : Int) + (1 : Int)) from hV 7 20 (by kernel_rfl)]
  rw [show gv 13 = .pointer (some ⟨p, offS s, none⟩) from hV 0 13 (by kernel_rfl)]
  clear hV
  refine l_call (o := ⟨some 21, _, _, _, _, _⟩) 91 #[.slice (some ⟨gs, os, none⟩) n c, .int .i64 (i : Int), .int .i64 (((i : Int) : Int) + (1 : Int))] rfl (exec_call 91 _ [.tmp 17, .tmp 18, .tmp 20] _ _ Try.func91 (by kernel_rfl) (by kernel_rfl) rfl (by kernel_rfl) _) ?_
  refine (ldelete_any gs os n c i Z w2 (HS1.out.kept k2) HN.out hin (by omega)).mono ?_
  rintro r w3 ⟨rfl, hS3, hk3⟩
  refine ⟨_, rfl, ?_⟩
  simp only [Act.put, sA, sS, sZ]
  refine l_val (o := ⟨some 22, _, _, _, _, _⟩) (.pointer (some ⟨p, offS s, none⟩)) rfl (exec_nilp (.tmp 13) ⟨p, offS s, none⟩ rfl (by kernel_rfl)) ?_
  simp only [Act.put, sA, sS, sZ]
  refine l_val (o := ⟨some 23, _, _, _, _, _⟩) (.pointer (some ⟨p, offS s + 1, none⟩)) rfl (exec_fldo 73 1 1 (.tmp 22) (p) (offS s) (offS s + 1) rfl (by kernel_rfl) (by kernel_rfl) rfl) ?_
  simp only [Act.put, sA, sS, sZ]
  refine l_st1 (o := ⟨none, _, _, _, _, _⟩) 71 p (offS s + 1) 75 _ (.slice (some ⟨gs, os, none⟩) (n - 1) c) (.tmp 23) (.tmp 21) rfl rfl (by kernel_rfl) (by kernel_rfl) (by kernel_rfl) rfl rfl ((HB1.out.kept k2).keep hk3 (fun e => hgp e.symm)) (by rw [sideCs_len]; omega) ?_
  intro w4 hB4 hk4 hs4
  simp only [Act.put]
  refine wpList_nil ?_
  rw [sideCs_set] at hB4
  have k12 := k1.trans k2
  have K4 : Keep (fun b => Fs b ∨ b = p) w w4 := (((Keep.mono (T := fun b => Fs b ∨ b = p) k12 (fun _ _ h => h.elim)).trans hk3 (fun b _ hb => by subst hb; exact .inl hgs))).trans hk4 (fun b _ hb => by subst hb; exact .inr rfl)
  have hlZ : (Z.eraseIdx i).length = n - 1 := by rw [List.length_eraseIdx, if_pos (by rw [HN.out]; exact hin), HN.out]
  obtain ⟨Fs', hW', hG', hk', _⟩ := (HW.out.kept k12).fewer (w' := w3) (v' := .slice (some ⟨gs, os, none⟩) (n - 1) c) (Z' := Z.eraseIdx i) (List.eraseIdx_sublist Z i)
   (hk3.mono (fun b _ hb => by subst hb; rfl)) (by rw [hlZ]; exact hS3) (fun b hb => .inl hb)
  have hG2 := hG'.wide k12.size
  have hW4 := hW'.keep hk4 (fun b hb e => by
   subst e
   rcases hG2 b hb with h | h
   ·exact (HFs.out b h).2 rfl
   ·omega)
  obtain ⟨F', q1, q2, q3, q4⟩ := HJ.out w4 _ _ _ _ _ K4 hB4 ⟨_, _, HZR.out, hW4⟩ hG2
  go_wp2
  go_end0
  exact ⟨rfl, F', by rw [HE.out]; exact q1, q2, q3, q4⟩
 ·have HE : Hid (B.to s (dropE A R (pr, X)) B.last B.no = B) := by
   show _ = _
   unfold dropE
   rw [if_neg (fun h => hx0 (by have h' : X = [] := List.isEmpty_iff.1 h; rw [← HX.out, h']; rfl)), ← HL.out, Bok.to_self hs]
  go_enter Try.func69, Try.ntmps69
  go_upto_region 0 with fail
  refine wp_text 9 [.eq (.pointer (some ⟨p, offS s, none⟩)), .eq (.pointer (some ⟨p, offS s, none⟩)), .eq (.pointer (some ⟨p, offS s + 1, none⟩)), .eq (.slice (some ⟨gs, os, none⟩) n c), .eq (.int .i64 (i : Int)), .eq (.pointer (some ⟨gs, os + i * 1, none⟩)), .eq (.pointer (some ⟨q, 0, none⟩)), .eq (.int .i64 (x : Int)), .eq (.bool false)] rfl (by kernel_rfl) ?_ ?_
  ·refine sv 1 rfl rfl rfl (fun a u hE hD hk => exec_move (.tmp 0) _ rfl (hE 0 (.pointer (some ⟨p, offS s, none⟩)) (by kernel_rfl) (by kernel_rfl))) ?_
   refine sv 2 rfl rfl rfl (fun a u hE hD hk => exec_nilp (.tmp 4) ⟨p, offS s, none⟩ rfl (hD 0 4 (by kernel_rfl))) ?_
   refine sv 3 rfl rfl rfl (fun a u hE hD hk => exec_fldo 73 1 1 (.tmp 5) (p) (offS s) (offS s + 1) rfl (hD 1 5 (by kernel_rfl)) (by kernel_rfl) rfl) ?_
   refine sv 4 rfl rfl rfl (fun a u hE hD hk => exec_ldv 71 _ Try.underlying71 (.tmp 6) ⟨p, offS s + 1, none⟩ (.slice (some ⟨gs, os, none⟩) n c) rfl (hD 2 6 (by kernel_rfl)) (Kept.cell hk (HV.out))) ?_
   refine sv 5 rfl rfl rfl (fun a u hE hD hk => exec_move (.tmp 1) _ rfl (hE 1 (.int .i64 (i : Int)) (by kernel_rfl) (by kernel_rfl))) ?_
   refine sv 6 rfl rfl rfl (fun a u hE hD hk => exec_ixo slQ (.tmp 7) (.tmp 8) (gs) (os) n c i (os + i * 1) ((i : Int)) rfl (hD 3 7 (by kernel_rfl)) (hD 4 8 (by kernel_rfl)) (by first | rfl | omega) (hin) (by first | rfl | omega)) ?_
   refine sv 7 rfl rfl rfl (fun a u hE hD hk => exec_ldp 97 _ Try.underlying97 (.tmp 9) ⟨gs, os + i * 1, none⟩ (.pointer (some ⟨q, 0, none⟩)) rfl (hD 5 9 (by kernel_rfl)) (Kept.cell hk (HC.out))) ?_
   refine fsteps_cons 8 rfl (fun a u hE hD hk => f_call (o := ⟨some 11, _, _, _, _, _⟩) 83 #[.pointer (some ⟨q, 0, none⟩)] rfl (wanted_none rfl _) (exec_call 83 _ [.tmp 10] _ [.pointer (some ⟨q, 0, none⟩)] Try.func83 (by kernel_rfl) (by kernel_rfl) rfl (show [a.eval (.tmp 10)] = [.pointer (some ⟨q, 0, none⟩)] from (by rw [show a.eval (.tmp 10) = .pointer (some ⟨q, 0, none⟩) from (hD 6 10 (by kernel_rfl))] <;> rfl)) u) ((by rw [← HX.out]; exact len_any u _ q X (HLV.out.kept hk)))) ?_
   refine fsteps_cons 9 rfl (fun a u hE hD hk => f_as (show ((decide (((x : Int) : Int) = (0 : Int))) : Bool) = false from decide_eq_false (by omega)) (f_val (o := ⟨some 12, _, _, _, _, _⟩) (.bool (decide (((x : Int) : Int) = (0 : Int)))) rfl (wanted_none rfl _) (exec_eqn (p := (x : Int)) (q := 0) rfl (hD 7 11 (by kernel_rfl)) rfl) rfl)) ?_
   exact fsteps_nil
  intro gv w1 hV k1
  rw [show dstsOf _ 9 = [4, 5, 6, 7, 8, 9, 10, 11, 12] by kernel_rfl]
  simp only [fC, fN, sA, sS, sZ, dS, dZ]
  rw [show gv 12 = .bool false from hV 8 12 (by kernel_rfl)]
  clear hV
  refine wpList_nil ?_
  have hk1 := HK.out.kept k1
  go_wp2
  go_end0
  exact ⟨rfl, F, by rw [HE.out]; exact hk1, Grow.refl _ _, Keep.mono (T := F) k1 (fun _ _ h => h.elim), fun _ h => h⟩
end Go.Proofs.Ytfpfpmhkkgfdbaa
namespace Go.Proofs.Ytfpfpmhkkgfdbaa
open Go.RowKit
set_option maxRecDepth 100000
theorem Blk.shape {w : World} {g : Nat} {t : TypeId} {cs : List Value} (h : Blk w g t cs) : w.shape? g = some (t, cs.length) := by
 unfold Blk at h
 unfold World.shape?
 rw [h]
 simp
theorem Sl.longer {w : World} {T : TypeId} {k n c m g off : Nat} {cs : List Value} (h : Sl w T k (.slice (some ⟨g, off, none⟩) n c) n cs) (hm : m ≤ c) (hn : n ≤ m) : ∃ ds, ds.length = m * k ∧ Sl w T k (.slice (some ⟨g, off, none⟩) m c) m ds ∧ ds.take (n * k) = cs := by
 obtain ⟨hl1, A', c', e', h1, h2, h3, h4⟩ := h
 injection e' with e1 e2 e3
 subst e1 e3
 obtain ⟨g', off', cur, e, hB, h5, h6⟩ := h4 _ rfl
 injection e with e1 e2
 subst e1 e2
 have hmc : m * k ≤ c * k := Nat.mul_le_mul_right k hm
 have hnm : n * k ≤ m * k := Nat.mul_le_mul_right k hn
 refine ⟨(cur.drop off).take (m * k), by rw [List.length_take, List.length_drop]; omega, ⟨by rw [List.length_take, List.length_drop]; omega, _, c, rfl, hm, h2, fun h => (by cases h), fun ad had => ?_⟩, by rw [List.take_take, Nat.min_eq_left hnm]; exact h6⟩
 injection had with had
 subst had
 exact ⟨g, off, cur, rfl, hB, h5, rfl⟩
theorem Sl.cap {w : World} {T : TypeId} {k n c : Nat} {A : Option Addr} {cs : List Value} (h : Sl w T k (.slice A n c) n cs) : n ≤ c ∧ c ≤ maxLen ∧ (A = none → c = 0) := by
 obtain ⟨_, A', c', e', h1, h2, h3, _⟩ := h
 injection e' with e1 e2 e3
 subst e1 e3
 exact ⟨h1, h2, h3⟩
theorem Sl.slice_ {w : World} {T : TypeId} {k n : Nat} {v : Value} {cs : List Value} (h : Sl w T k v n cs) : ∃ A c, v = .slice A n c := by
 obtain ⟨_, A, c, e, _⟩ := h
 exact ⟨A, c, e⟩
theorem zeros_len {z : Value} {k : Nat} (hz : z.cells.size = k) (m : Nat) : (Builtin.zeroCells z.cells m).toList.length = m * k := by simp [Builtin.zeroCells, hz]
theorem run_append_zeros {t tn T : TypeId} {k bytes : Nat} (ht : SlT t T k bytes) (htn : Try.prog.underlying tn = some (.int .i64)) (ty : TypeId) (w : World) (A : Option Addr) (n c m : Nat) (cs : List Value) (h : Sl w T k (.slice A n c) n cs) (hm : 0 < m) (hc : c < n + m) (h63 : n + m ≤ maxLen) (hlim : (n + m) * bytes ≤ 140737488355328) (hpos : 0 < bytes) :
  ∃ g' c' w' zs, (Builtin.append_ #[t, tn] ty #[.slice A n c, .int .i64 (m : Int)]).run Try.prog w = .ok (.slice (some ⟨g', 0, none⟩) (n + m) c') w' ∧ Sl w' T k (.slice (some ⟨g', 0, none⟩) (n + m) c') (n + m) (cs ++ zs) ∧ zs.length = m * k ∧ Kept w w' ∧ w.heap.size ≤ g' := by
 obtain ⟨z, hz, hz2, _⟩ := ht.info
 obtain ⟨i0, hi, hz0, hz1, hzb⟩ := info_parts hz
 obtain ⟨hl, A', c2, e', h1, h2, h3, h4⟩ := h
 injection e' with e1 e2 e3
 subst e1 e3
 have hold : (Builtin.firstCells i0.size n (.slice A n c)).run Try.prog w.drew = .ok cs.toArray w.drew := by
  cases A with
  | none =>
   have := h3 rfl
   have hn0 : n = 0 := by omega
   subst hn0
   have : cs = [] := List.eq_nil_of_length_eq_zero (by omega)
   subst this
   exact run_firstCells_none w.drew i0.size 0 0 c
  | some ad =>
   obtain ⟨g, off, cur, rfl, hB, h5, h6⟩ := h4 _ rfl
   exact run_firstCells_some w.drew i0.size n ⟨g, off, none⟩ n c cs (by rw [hz1]; exact hl) (fun j v hj => by rw [Addr.add_lit]; exact seg_cell hB h6 j v hj)
 have hmb : m * bytes ≤ (n + m) * bytes := Nat.mul_le_mul_right _ (by omega)
 have hr := Lib.run_append_grow_zeros (P := Try.prog) w t tn ty T i0 z .i64 .i64 ht.und htn hi hz0 A n c cs hold m hm (by rw [hz1]; exact ht.pos) hc (by unfold maxLen at h63; omega) (by rw [hzb]; omega) (by rw [hzb]; exact growslice_fits hc hlim)
 have hge := grownCap_ge w (n + m) c T
 have hle := grownCap_le_maxLen w (n + m) c T h63
 generalize grownCap w (n + m) c T = G at hr hge hle
 refine ⟨w.heap.size, G, _, (Builtin.zeroCells z.cells m).toList, hr, ⟨by rw [List.length_append, hl, zeros_len hz2, Nat.add_mul], _, G, rfl, hge, hle, fun h => (by cases h), fun ad had => ?_⟩, zeros_len hz2 m, ((Keep.refl _ w).drew).alloc _, Nat.le_refl _⟩
 injection had with had
 subst had
 refine ⟨w.heap.size, 0, (cs.toArray ++ Builtin.zeroCells z.cells m ++ Builtin.zeroCells z.cells (G - (n + m))).toList, rfl, ?_, ?_, ?_⟩
 ·have := Blk.new w.drew T (cs.toArray ++ Builtin.zeroCells z.cells m ++ Builtin.zeroCells z.cells (G - (n + m))).toList
  rw [Array.toArray_toList] at this
  exact this
 ·simp only [Array.toList_append, List.length_append, zeros_len hz2, hl, Nat.zero_add, ← Nat.add_mul]
  exact Nat.mul_le_mul_right k (by omega)
 ·rw [List.drop_zero, Array.toList_append, Array.toList_append, List.take_append_of_le_length (by simp only [List.length_append, zeros_len hz2, hl, ← Nat.add_mul]; exact Nat.le_refl _), List.take_of_length_le (by simp only [List.length_append, zeros_len hz2, hl, ← Nat.add_mul]; exact Nat.le_refl _)]
section
variable {a : Act} {o : Oper} {u : World} {t T : TypeId} {k bytes : Nat}
theorem exec_appZ (ht : SlT t T k bytes) (tn : TypeId) (s x : Operand) (v : Value) (m : Int) (hop : o.op = Op.call { callee := Callee.builtin Builtin.append, args := #[s, x], argTypes := #[t, tn] }) (hs : a.eval s = v) (hx : a.eval x = .int .i64 m) (v' : Value) (u' : World)
  (h : (Builtin.append_ #[t, tn] o.type #[v, .int .i64 m]).run Try.prog u = .ok v' u') : (execOp a.eval o).run Try.prog u = .ok (.value v') u' := by
 unfold execOp
 simp only [hop, resolve, invoke, builtin, Sem.run_bind, Sem.run_pure, Result.andThen_ok, List.map_toArray, List.map_cons, List.map_nil, hs, hx, h]
theorem exec_capS (x : Operand) (A : Option Addr) (n c : Nat) (ht : Try.prog.underlying t = some (.slice T)) (hop : o.op = .call { callee := .builtin .cap, args := #[x], argTypes := #[t] }) (hx : a.eval x = .slice A n c) : (execOp a.eval o).run Try.prog u = .ok (.value (.int .i64 (c : Int))) u := by
 unfold execOp
 simp only [hop, resolve, invoke, builtin, Sem.run_bind, Sem.run_pure, Result.andThen_ok, List.map_toArray, List.map_cons, List.map_nil, hx]
 simp [Builtin.cap_, run_underlying ht, go_sem]
theorem run_h (ht : SlT t T k bytes) (A : Option Addr) (n c h : Nat) (h3 : h ≤ c) (hA : A = none → c = 0) (u : World) : (Instr.slice t (.slice A n c) none (some (.int .i64 (h : Int))) none).run Try.prog u = .ok (.slice A h c) u := by
 obtain ⟨z, hz, hz2, _⟩ := ht.info
 obtain ⟨i0, hi, hz0, hz1, hzb⟩ := info_parts hz
 rw [run_slice_h (P := Try.prog) (w := u) t A n c (by rw [ht.elem]; exact ht.und) .i64 (h : Int) (by omega) (by omega), ht.elem]
 cases A with
 | none => simp [sizeOf, typeInfo, hi, hz1, sliced]
 | some ad => simp [sizeOf, typeInfo, hi, hz1, sliced, Addr.add]
theorem run_l (ht : SlT t T k bytes) (g off n c l : Nat) (h1 : l ≤ n) (h3 : l < c) (u : World) : (Instr.slice t (.slice (some ⟨g, off, none⟩) n c) (some (.int .i64 (l : Int))) none none).run Try.prog u = .ok (.slice (some ⟨g, off + l * k, none⟩) (n - l) (c - l)) u := by
 obtain ⟨z, hz, hz2, _⟩ := ht.info
 obtain ⟨i0, hi, hz0, hz1, hzb⟩ := info_parts hz
 rw [run_slice_l (P := Try.prog) (w := u) t (some ⟨g, off, none⟩) n c (by rw [ht.elem]; exact ht.und) .i64 (l : Int) (by omega) (by omega), ht.elem]
 have : ¬ c = l := by omega
 simp [sizeOf, typeInfo, hi, hz1, sliced, this, Addr.add_mid]
theorem exec_cpyS (d x : Operand) (v y : Value) (hop : o.op = Op.call { callee := Callee.builtin Builtin.copy, args := #[d, x], argTypes := #[t, t] }) (hd : a.eval d = v) (hx : a.eval x = y) (v' : Value) (u' : World)
  (h : (Builtin.copy_ #[t, t] o.type #[v, y]).run Try.prog u = .ok v' u') : (execOp a.eval o).run Try.prog u = .ok (.value v') u' := by
 unfold execOp
 simp only [hop, resolve, invoke, builtin, Sem.run_bind, Sem.run_pure, Result.andThen_ok, List.map_toArray, List.map_cons, List.map_nil, hd, hx, h]
theorem run_copy_sl (ht : SlT t T 1 bytes) (ty : TypeId) (g off n c i l d : Nat) (cs ds : List Value) (w : World) (h : Sl w T 1 (.slice (some ⟨g, off, none⟩) n c) n cs) (g2 off2 l2 c2 : Nat) (hd : w.rangeAt g2 off2 ds) (hl : ds.length = Nat.min l2 l) (hi : i + ds.length ≤ n) (h1 : ∀ u ∈ ds, u.oneCell' = true) :
  (Builtin.copy_ #[t, t] ty #[.slice (some ⟨g, off + i, none⟩) l d, .slice (some ⟨g2, off2, none⟩) l2 c2]).run Try.prog w = .ok (goInt ds.length) (w.setCells g (off + i) ds) ∧
  Sl (w.setCells g (off + i) ds) T 1 (.slice (some ⟨g, off, none⟩) n c) n (cs.take i ++ ds ++ cs.drop (i + ds.length)) ∧ Keep (· = g) w (w.setCells g (off + i) ds) := by
 obtain ⟨z, hz, hz2, _⟩ := ht.info
 obtain ⟨i0, hi0, hz0, hz1, hzb⟩ := info_parts hz
 obtain ⟨q1, q2, q3, q4⟩ := h.setCells i ds (by omega)
 refine ⟨?_, q1, q2⟩
 exact run_copy_cells w t t ty T g (off + i) l d ⟨g2, off2, none⟩ l2 c2 ds ht.und (by rw [hi0]; simp [hz1]) hl (fun j v hj => by rw [Addr.add_lit]; exact hd j v hj) (fun j hj => (q4 j hj).1) (fun j hj => (q4 j hj).2) h1
end
end Go.Proofs.Ytfpfpmhkkgfdbaa
namespace Go.Proofs.Ytfpfpmhkkgfdbaa
open Go.RowKit
set_option maxRecDepth 100000
theorem exec_ovl {a : Act} {o : Oper} {u : World} (x y : Operand) (ts : Array TypeId) (g1 off1 l1 c1 g2 off2 l2 c2 : Nat) (T1 T2 : TypeId) (cs1 cs2 : List Value) (hop : o.op = .call { callee := .value (.func 106), args := #[x, y], argTypes := ts }) (hx : a.eval x = .slice (some ⟨g1, off1, none⟩) l1 c1) (hy : a.eval y = .slice (some ⟨g2, off2, none⟩) l2 c2)
  (h1 : Blk u g1 T1 cs1) (h2 : Blk u g2 T2 cs2) (hne : g1 ≠ g2) (h0 : cs2.length ≠ 0) : (execOp a.eval o).run Try.prog u = .ok (.value (.bool false)) u := by
 have hz : ∀ w, (Go.sizeOf 97).run Try.prog w = .ok 1 w := by
  intro w
  obtain ⟨z, hz, hz2, _⟩ := slQ.info
  obtain ⟨i0, hi, hz0, hz1, hzb⟩ := info_parts hz
  simp [Go.sizeOf, typeInfo, hi, hz1]
 have hov : (callFunc 106 #[.slice (some ⟨g1, off1, none⟩) l1 c1, .slice (some ⟨g2, off2, none⟩) l2 c2]).run Try.prog u = .ok (.value (.bool false)) u := by
  rw [run_callFunc_extern Try.func106 (by kernel_rfl) (by kernel_rfl) (by kernel_rfl) (e := Extern.SlicesOverlaps.overlaps #[71, 71] #[4]) (by kernel_rfl),
   Lib.run_overlaps_apart u 71 4 97 slQ.und 1 hz ⟨g1, off1, none⟩ ⟨g2, off2, none⟩ l1 c1 l2 c2 hne T1 T2 cs1.length cs2.length h1.shape h2.shape h0 (h1.frozen _) (h1.frozen _)]
  rfl
 have e : a.eval (.func 106) = .func (.func 106) #[] #[] := rfl
 unfold execOp
 simp only [hop, resolve, invoke, e, List.map_toArray, List.map_cons, List.map_nil, hx, hy, Sem.run_bind]
 simp [Deferred.ofValue, hov]
def insP (Z : Zs) (i : Nat) (q : Nat) : List Value := (ptrs Z).take i ++ [.pointer (some ⟨q, 0, none⟩)] ++ (ptrs Z).drop i
def InsIn (w : World) (v : Value) (n : Nat) (Z : Zs) (i q : Nat) (r : Ending) (w' : World) : Prop := ∃ v', r = .returned v' ∧ Sl w' 97 1 v' (n + 1) (insP Z i q) ∧ Keep (fun b => v.ownBlock = some b) w w' ∧ ∀ b, v'.ownBlock = some b → v.ownBlock = some b ∨ w.heap.size ≤ b
set_option maxRecDepth 100000 in
set_option maxHeartbeats 1600000 in
theorem linsert_end (w : World) (v : Value) (n : Nat) (Z : Zs) (g1 q : Nat) (hS : Sl w 97 1 v n (ptrs Z)) (hn : n ≤ 1000) (h1 : Blk w g1 97 [.pointer (some ⟨q, 0, none⟩)]) :
  Calls Try.prog 92 #[v, .int .i64 (n : Int), .slice (some ⟨g1, 0, none⟩) 1 1] w (InsIn w v n Z n q) := by
 obtain ⟨vx, hvx, _, _⟩ := slice_lS slQ v n n (Nat.le_refl _) _ w hS
 have HVX := Lib.hid hvx
 have HS := Lib.hid hS
 have H1 := Lib.hid h1
 have HX : Hid (∀ u, Kept w u → Sl u 97 1 (.slice (some ⟨g1, 0, none⟩) 1 1) 1 [.pointer (some ⟨q, 0, none⟩)]) := fun u k => ⟨rfl, _, 1, rfl, Nat.le_refl _, by decide, fun h => (by cases h), fun ad had => (by
  injection had with had
  subst had
  exact ⟨g1, 0, _, rfl, h1.kept k, by simp, rfl⟩)⟩
 clear hvx hS h1
 go_enter Try.func92, Try.ntmps92
 go_upto_region 1 with fail
 refine wp_text 3 [.eq (v), .eq (.int .i64 (n : Int)), .eq (vx)] rfl (by kernel_rfl) ?_ ?_
 ·refine sv 1 rfl rfl rfl (fun a u hE hD hk => exec_move (.tmp 0) _ rfl (hE 0 (v) (by kernel_rfl) (by kernel_rfl))) ?_
  refine sv 2 rfl rfl rfl (fun a u hE hD hk => exec_move (.tmp 1) _ rfl (hE 1 (.int .i64 (n : Int)) (by kernel_rfl) (by kernel_rfl))) ?_
  refine sv 3 rfl rfl rfl (fun a u hE hD hk => exec_slcL slQ (.tmp 10) (.tmp 11) v vx _ rfl (hD 0 10 (by kernel_rfl)) (hD 1 11 (by kernel_rfl)) (HVX.out u)) ?_
  exact fsteps_nil
 intro gv wa hV ka
 rw [show dstsOf _ 3 = [10, 11, 12] by kernel_rfl]
 simp only [fC, fN, sA, sS, sZ, dS, dZ]
 clear hV
 refine wpList_nil ?_
 have HSa := Lib.hid (HS.out.kept ka)
 go_upto_region 2 with fail
 refine wp_text 3 [.eq (.slice (some ⟨g1, 0, none⟩) 1 1), .eq (.int .i64 (1 : Int)), .eq (.int .i64 (1 : Int))] rfl (by kernel_rfl) ?_ ?_
 ·refine sv 1 rfl rfl rfl (fun a u hE hD hk => exec_move (.tmp 2) _ rfl (hE 2 (.slice (some ⟨g1, 0, none⟩) 1 1) (by kernel_rfl) (by kernel_rfl))) ?_
  refine sv 2 rfl rfl rfl (fun a u hE hD hk => exec_len (.tmp 13) _ _ slQ.und (some ⟨g1, 0, none⟩) 1 1 rfl (hD 0 13 (by kernel_rfl))) ?_
  refine sv 3 rfl rfl rfl (fun a u hE hD hk => exec_assign (.tmp 14) _ rfl (hD 1 14 (by kernel_rfl))) ?_
  exact fsteps_nil
 intro gv wb hV kb
 rw [show dstsOf _ 3 = [13, 14, 7] by kernel_rfl]
 simp only [fC, fN, sA, sS, sZ, dS, dZ]
 rw [show gv 7 = .int .i64 (1 : Int) from hV 2 7 (by kernel_rfl)]
 clear hV
 refine wpList_nil ?_
 have HSb := Lib.hid (HSa.out.kept kb)
 have kab := ka.trans kb
 clear ka kb HSa HVX
 go_upto_region 5 with fail
 refine wp_text 3 [.eq (v), .eq (.int .i64 (n : Int)), .eq (.int .i64 (n : Int))] rfl (by kernel_rfl) ?_ ?_
 ·refine sv 1 rfl rfl rfl (fun a u hE hD hk => exec_move (.tmp 0) _ rfl (hE 0 (v) (by kernel_rfl) (by kernel_rfl))) ?_
  refine sv 2 rfl rfl rfl (fun a u hE hD hk => exec_lenS (.tmp 18) slQ (v) (n) _ _ rfl (hD 0 18 (by kernel_rfl)) HSb.out) ?_
  refine sv 3 rfl rfl rfl (fun a u hE hD hk => exec_assign (.tmp 19) _ rfl (hD 1 19 (by kernel_rfl))) ?_
  exact fsteps_nil
 intro gv wc hV kc
 rw [show dstsOf _ 3 = [18, 19, 8] by kernel_rfl]
 simp only [fC, fN, sA, sS, sZ, dS, dZ]
 rw [show gv 8 = .int .i64 (n : Int) from hV 2 8 (by kernel_rfl)]
 clear hV
 refine wpList_nil ?_
 have kac := kab.trans kc
 have HSc := Lib.hid (HS.out.kept kac)
 clear kab kc HSb
 go_upto_region 6 with fail
 refine wp_text 3 [.eq (.int .i64 (n : Int)), .eq (.int .i64 (n : Int)), .eq (.bool true)] rfl (by kernel_rfl) ?_ ?_
 ·refine sv 1 rfl rfl rfl (fun a u hE hD hk => exec_move (.tmp 1) _ rfl (hE 1 (.int .i64 (n : Int)) (by kernel_rfl) (by kernel_rfl))) ?_
  refine sv 2 rfl rfl rfl (fun a u hE hD hk => exec_move (.tmp 8) _ rfl (hE 8 (.int .i64 (n : Int)) (by kernel_rfl) (by kernel_rfl))) ?_
  refine fsteps_cons 3 rfl (fun a u hE hD hk => f_as (show ((decide (((n : Int) : Int) = ((n : Int) : Int))) : Bool) = true from decide_eq_true rfl) (f_val (o := ⟨some 22, _, _, _, _, _⟩) (.bool (decide (((n : Int) : Int) = ((n : Int) : Int)))) rfl (wanted_none rfl _) (exec_eqn (p := (n : Int)) (q := (n : Int)) rfl (hD 0 20 (by kernel_rfl)) (hD 1 21 (by kernel_rfl))) rfl)) ?_
  exact fsteps_nil
 intro gv wd hV kd
 rw [show dstsOf _ 3 = [20, 21, 22] by kernel_rfl]
 simp only [fC, fN, sA, sS, sZ, dS, dZ]
 rw [show gv 22 = .bool true from hV 2 22 (by kernel_rfl)]
 clear hV
 refine wpList_nil ?_
 have kad := kac.trans kd
 have HSd := Lib.hid (HS.out.kept kad)
 clear kac kd HSc
 go_upto_region 7 with fail
 refine wp_text 2 [.eq (v), .eq (.slice (some ⟨g1, 0, none⟩) 1 1)] rfl (by kernel_rfl) ?_ ?_
 ·refine sv 1 rfl rfl rfl (fun a u hE hD hk => exec_move (.tmp 0) _ rfl (hE 0 (v) (by kernel_rfl) (by kernel_rfl))) ?_
  refine sv 2 rfl rfl rfl (fun a u hE hD hk => exec_move (.tmp 2) _ rfl (hE 2 (.slice (some ⟨g1, 0, none⟩) 1 1) (by kernel_rfl) (by kernel_rfl))) ?_
  exact fsteps_nil
 intro gv we hV ke
 rw [show dstsOf _ 2 = [23, 24] by kernel_rfl]
 simp only [fC, fN, sA, sS, sZ, dS, dZ]
 rw [show gv 23 = v from hV 0 23 (by kernel_rfl)]
 rw [show gv 24 = .slice (some ⟨g1, 0, none⟩) 1 1 from hV 1 24 (by kernel_rfl)]
 clear hV
 have kae := kad.trans ke
 obtain ⟨v4, w4, hr4, hs4, hk4, ho4⟩ := run_append_sl slQ 71 we v (.slice (some ⟨g1, 0, none⟩) 1 1) n 1 _ _ (HSd.out.kept ke) (HX.out _ kae) (by intro u hu; simp at hu; subst hu; rfl) (by unfold maxLen; omega) (by omega)
 refine l_new (o := ⟨some 25, _, _, _, _, _⟩) v4 w4 rfl (exec_appS slQ (.tmp 23) (.tmp 24) v (.slice (some ⟨g1, 0, none⟩) 1 1) rfl (by kernel_rfl) (by kernel_rfl) v4 w4 hr4) ?_
 simp only [Act.put, sA, sS, sZ]
 refine l_val (o := ⟨some 6, _, _, _, _, _⟩) (v4) rfl (exec_assign (.tmp 25) (v4) rfl (by kernel_rfl)) ?_
 simp only [Act.put, sA, sS, sZ]
 refine wpList_nil ?_
 have zz := kae.size
 have HR : Hid (InsIn w v n Z n q (.returned v4) w4) := by
  refine ⟨v4, rfl, ?_, (Keep.mono (T := fun b => v.ownBlock = some b) kae (fun _ _ h => h.elim)).trans hk4 (fun _ _ h => h), fun b hb => (ho4 b hb).imp id (fun h => by omega)⟩
  have hl : (ptrs Z).length = n := by have := HS.out.len; omega
  unfold insP
  rw [List.take_of_length_le (by omega), List.drop_of_length_le (by omega), List.append_nil]
  exact hs4
 clear hs4 hk4 ho4
 go_wp2
 go_ret
 exact HR.out
set_option maxRecDepth 100000 in
set_option maxHeartbeats 1600000 in
theorem linsert_grow (w : World) (v : Value) (n i : Nat) (Z : Zs) (g1 q : Nat) (hS : Sl w 97 1 v n (ptrs Z)) (hn : n ≤ 1000) (hi : i < n) (h1 : Blk w g1 97 [.pointer (some ⟨q, 0, none⟩)]) (hne : ∀ b, v.ownBlock = some b → b ≠ g1) (hc : ∀ A c, v = .slice A n c → c < n + 1) :
  Calls Try.prog 92 #[v, .int .i64 (i : Int), .slice (some ⟨g1, 0, none⟩) 1 1] w (InsIn w v n Z i q) := by
 have hv0 := hS.some_ (by omega : 0 < n)
 obtain ⟨g, off, c, rfl⟩ := hv0
 obtain ⟨hnc, hcm, _⟩ := hS.cap
 have hcm' : c ≤ 9223372036854775807 := by unfold maxLen at hcm; omega
 have hgg : g ≠ g1 := fun e => hne g rfl e
 have hroom := hc _ _ rfl
 have HS := Lib.hid hS
 clear hc
 have H1 := Lib.hid h1
 have hl : (ptrs Z).length = n := by have := hS.len; omega
 clear hS h1 hne
 go_enter Try.func92, Try.ntmps92
 go_upto_region 1 with fail
 refine wp_text 3 [.eq (.slice (some ⟨g, off, none⟩) n c), .eq (.int .i64 (i : Int)), .eq (.slice (some ⟨g, off + i * 1, none⟩) (n - i) (c - i))] rfl (by kernel_rfl) ?_ ?_
 ·refine sv 1 rfl rfl rfl (fun a u hE hD hk => exec_move (.tmp 0) _ rfl (hE 0 (.slice (some ⟨g, off, none⟩) n c) (by kernel_rfl) (by kernel_rfl))) ?_
  refine sv 2 rfl rfl rfl (fun a u hE hD hk => exec_move (.tmp 1) _ rfl (hE 1 (.int .i64 (i : Int)) (by kernel_rfl) (by kernel_rfl))) ?_
  refine sv 3 rfl rfl rfl (fun a u hE hD hk => exec_slcL slQ (.tmp 10) (.tmp 11) _ _ _ rfl (hD 0 10 (by kernel_rfl)) (hD 1 11 (by kernel_rfl)) (run_l slQ g off n c i (by omega) (by omega) u)) ?_
  exact fsteps_nil
 intro gv wa hV ka
 rw [show dstsOf _ 3 = [10, 11, 12] by kernel_rfl]
 simp only [fC, fN, sA, sS, sZ, dS, dZ]
 clear hV
 refine wpList_nil ?_
 go_upto_region 2 with fail
 refine wp_text 3 [.eq (.slice (some ⟨g1, 0, none⟩) 1 1), .eq (.int .i64 (1 : Int)), .eq (.int .i64 (1 : Int))] rfl (by kernel_rfl) ?_ ?_
 ·refine sv 1 rfl rfl rfl (fun a u hE hD hk => exec_move (.tmp 2) _ rfl (hE 2 (.slice (some ⟨g1, 0, none⟩) 1 1) (by kernel_rfl) (by kernel_rfl))) ?_
  refine sv 2 rfl rfl rfl (fun a u hE hD hk => exec_len (.tmp 13) _ _ slQ.und (some ⟨g1, 0, none⟩) 1 1 rfl (hD 0 13 (by kernel_rfl))) ?_
  refine sv 3 rfl rfl rfl (fun a u hE hD hk => exec_assign (.tmp 14) _ rfl (hD 1 14 (by kernel_rfl))) ?_
  exact fsteps_nil
 intro gv wb hV kb
 rw [show dstsOf _ 3 = [13, 14, 7] by kernel_rfl]
 simp only [fC, fN, sA, sS, sZ, dS, dZ]
 rw [show gv 7 = .int .i64 (1 : Int) from hV 2 7 (by kernel_rfl)]
 clear hV
 refine wpList_nil ?_
 have kab := ka.trans kb
 clear ka kb
 go_upto_region 5 with fail
 refine wp_text 3 [.eq (.slice (some ⟨g, off, none⟩) n c), .eq (.int .i64 (n : Int)), .eq (.int .i64 (n : Int))] rfl (by kernel_rfl) ?_ ?_
 ·refine sv 1 rfl rfl rfl (fun a u hE hD hk => exec_move (.tmp 0) _ rfl (hE 0 (.slice (some ⟨g, off, none⟩) n c) (by kernel_rfl) (by kernel_rfl))) ?_
  refine sv 2 rfl rfl rfl (fun a u hE hD hk => exec_len (.tmp 18) _ _ slQ.und (some ⟨g, off, none⟩) n c rfl (hD 0 18 (by kernel_rfl))) ?_
  refine sv 3 rfl rfl rfl (fun a u hE hD hk => exec_assign (.tmp 19) _ rfl (hD 1 19 (by kernel_rfl))) ?_
  exact fsteps_nil
 intro gv wc hV kc
 rw [show dstsOf _ 3 = [18, 19, 8] by kernel_rfl]
 simp only [fC, fN, sA, sS, sZ, dS, dZ]
 rw [show gv 8 = .int .i64 (n : Int) from hV 2 8 (by kernel_rfl)]
 clear hV
 refine wpList_nil ?_
 have kac := kab.trans kc
 clear kab kc
 go_upto_region 6 with fail
 refine wp_text 3 [.eq (.int .i64 (i : Int)), .eq (.int .i64 (n : Int)), .eq (.bool false)] rfl (by kernel_rfl) ?_ ?_
 ·refine sv 1 rfl rfl rfl (fun a u hE hD hk => exec_move (.tmp 1) _ rfl (hE 1 (.int .i64 (i : Int)) (by kernel_rfl) (by kernel_rfl))) ?_
  refine sv 2 rfl rfl rfl (fun a u hE hD hk => exec_move (.tmp 8) _ rfl (hE 8 (.int .i64 (n : Int)) (by kernel_rfl) (by kernel_rfl))) ?_
  refine fsteps_cons 3 rfl (fun a u hE hD hk => f_as (show ((decide (((i : Int) : Int) = ((n : Int) : Int))) : Bool) = false from decide_eq_false (by omega)) (f_val (o := ⟨some 22, _, _, _, _, _⟩) (.bool (decide (((i : Int) : Int) = ((n : Int) : Int)))) rfl (wanted_none rfl _) (exec_eqn (p := (i : Int)) (q := (n : Int)) rfl (hD 0 20 (by kernel_rfl)) (hD 1 21 (by kernel_rfl))) rfl)) ?_
  exact fsteps_nil
 intro gv wd hV kd
 rw [show dstsOf _ 3 = [20, 21, 22] by kernel_rfl]
 simp only [fC, fN, sA, sS, sZ, dS, dZ]
 rw [show gv 22 = .bool false from hV 2 22 (by kernel_rfl)]
 clear hV
 refine wpList_nil ?_
 have kad := kac.trans kd
 clear kac kd
 go_upto_region 8 with fail
 refine wp_text 6 [.eq (.int .i64 (n : Int)), .eq (.int .i64 1), .eq (.int .i64 (((n : Int) : Int) + (1 : Int))), .eq (.slice (some ⟨g, off, none⟩) n c), .eq (.int .i64 (c : Int)), .eq (.bool true)] rfl (by kernel_rfl) ?_ ?_
 ·refine sv 1 rfl rfl rfl (fun a u hE hD hk => exec_move (.tmp 8) _ rfl (hE 8 (.int .i64 (n : Int)) (by kernel_rfl) (by kernel_rfl))) ?_
  refine sv 2 rfl rfl rfl (fun a u hE hD hk => exec_move (.tmp 7) _ rfl (hE 7 (.int .i64 1) (by kernel_rfl) (by kernel_rfl))) ?_
  refine sv 3 rfl rfl rfl (fun a u hE hD hk => exec_addn (p := ((n : Int))) (q := (1)) (((n : Int) : Int) + (1 : Int)) rfl (hD 0 26 (by kernel_rfl)) (hD 1 27 (by kernel_rfl)) rfl (by omega) (by omega)) ?_
  refine sv 4 rfl rfl rfl (fun a u hE hD hk => exec_move (.tmp 0) _ rfl (hE 0 (.slice (some ⟨g, off, none⟩) n c) (by kernel_rfl) (by kernel_rfl))) ?_
  refine sv 5 rfl rfl rfl (fun a u hE hD hk => exec_capS (.tmp 29) (some ⟨g, off, none⟩) n c slQ.und rfl (hD 3 29 (by kernel_rfl))) ?_
  refine fsteps_cons 6 rfl (fun a u hE hD hk => f_as (show ((decide (((c : Int) : Int) < ((((n : Int) : Int) + (1 : Int)) : Int))) : Bool) = true from decide_eq_true (by omega)) (f_val (o := ⟨some 31, _, _, _, _, _⟩) (.bool (decide (((c : Int) : Int) < ((((n : Int) : Int) + (1 : Int)) : Int)))) rfl (wanted_none rfl _) (exec_gtn (p := (((n : Int) : Int) + (1 : Int))) (q := (c : Int)) rfl (hD 2 28 (by kernel_rfl)) (hD 4 30 (by kernel_rfl))) rfl)) ?_
  exact fsteps_nil
 intro gv we hV ke
 rw [show dstsOf _ 6 = [26, 27, 28, 29, 30, 31] by kernel_rfl]
 simp only [fC, fN, sA, sS, sZ, dS, dZ]
 rw [show gv 31 = .bool true from hV 5 31 (by kernel_rfl)]
 clear hV
 refine wpList_nil ?_
 have kae := kad.trans ke
 clear kad ke
 have HSe := Lib.hid (HS.out.kept kae)
 have H1e := Lib.hid (H1.out.kept kae)
 have hgl : g < w.heap.size := HS.out.lt rfl
 have hcast : (n : Int) + 1 - (i : Int) = ((n + 1 - i : Nat) : Int) := by omega
 go_upto_region 9 with fail
 refine wp_text 8 [.eq (.slice (some ⟨g, off, none⟩) n c), .eq (.int .i64 (i : Int)), .eq (.slice (some ⟨g, off, none⟩) i c), .eq (.int .i64 (n : Int)), .eq (.int .i64 1), .eq (.int .i64 (((n : Int) : Int) + (1 : Int))), .eq (.int .i64 (i : Int)), .eq (.int .i64 ((n + 1 - i : Nat) : Int))] rfl (by kernel_rfl) ?_ ?_
 ·refine sv 1 rfl rfl rfl (fun a u hE hD hk => exec_move (.tmp 0) _ rfl (hE 0 (.slice (some ⟨g, off, none⟩) n c) (by kernel_rfl) (by kernel_rfl))) ?_
  refine sv 2 rfl rfl rfl (fun a u hE hD hk => exec_move (.tmp 1) _ rfl (hE 1 (.int .i64 (i : Int)) (by kernel_rfl) (by kernel_rfl))) ?_
  refine sv 3 rfl rfl rfl (fun a u hE hD hk => exec_slcH slQ (.tmp 32) (.tmp 33) _ _ _ rfl (hD 0 32 (by kernel_rfl)) (hD 1 33 (by kernel_rfl)) (run_h slQ (some ⟨g, off, none⟩) n c i (by omega) (fun h => by cases h) u)) ?_
  refine sv 4 rfl rfl rfl (fun a u hE hD hk => exec_move (.tmp 8) _ rfl (hE 8 (.int .i64 (n : Int)) (by kernel_rfl) (by kernel_rfl))) ?_
  refine sv 5 rfl rfl rfl (fun a u hE hD hk => exec_move (.tmp 7) _ rfl (hE 7 (.int .i64 1) (by kernel_rfl) (by kernel_rfl))) ?_
  refine sv 6 rfl rfl rfl (fun a u hE hD hk => exec_addn (p := ((n : Int))) (q := (1)) (((n : Int) : Int) + (1 : Int)) rfl (hD 3 35 (by kernel_rfl)) (hD 4 36 (by kernel_rfl)) rfl (by omega) (by omega)) ?_
  refine sv 7 rfl rfl rfl (fun a u hE hD hk => exec_move (.tmp 1) _ rfl (hE 1 (.int .i64 (i : Int)) (by kernel_rfl) (by kernel_rfl))) ?_
  refine sv 8 rfl rfl rfl (fun a u hE hD hk => exec_subn ((n + 1 - i : Nat) : Int) (p := (n : Int) + 1) (q := (i : Int)) rfl (hD 5 37 (by kernel_rfl)) (hD 6 38 (by kernel_rfl)) hcast (by omega) (by omega)) ?_
  exact fsteps_nil
 intro gv wf hV kf
 rw [show dstsOf _ 8 = [32, 33, 34, 35, 36, 37, 38, 39] by kernel_rfl]
 simp only [fC, fN, sA, sS, sZ, dS, dZ]
 rw [show gv 34 = .slice (some ⟨g, off, none⟩) i c from hV 2 34 (by kernel_rfl)]
 rw [show gv 39 = .int .i64 ((n + 1 - i : Nat) : Int) from hV 7 39 (by kernel_rfl)]
 clear hV
 have kaf := kae.trans kf
 obtain ⟨gn, cn, wg, zs, hrz, hsz, hzl, hkz, hgn⟩ := run_append_zeros slQ Try.underlying3 71 wf (some ⟨g, off, none⟩) i c (n + 1 - i) _ ((HSe.out.kept kf).shrink (m := i) (by omega)) (by omega) (by omega) (by unfold maxLen; omega) (by omega) (by omega)
 have hrz2 : ∀ ty, (Builtin.append_ #[71, 3] ty #[.slice (some ⟨g, off, none⟩) i c, .int .i64 ((n + 1 - i : Nat) : Int)]).run Try.prog wf = .ok (.slice (some ⟨gn, 0, none⟩) (n + 1) cn) wg := fun ty => by rw [show i + (n + 1 - i) = n + 1 by omega] at hrz; exact hrz
 refine l_new (o := ⟨some 40, _, _, _, _, _⟩) _ wg rfl (exec_appZ slQ 3 (.tmp 34) (.tmp 39) _ _ rfl (by kernel_rfl) (by kernel_rfl) _ wg (hrz2 _)) ?_
 simp only [Act.put, sA, sS, sZ]
 refine l_val (o := ⟨some 9, _, _, _, _, _⟩) (.slice (some ⟨gn, 0, none⟩) (n + 1) cn) rfl (exec_assign (.tmp 40) (.slice (some ⟨gn, 0, none⟩) (n + 1) cn) rfl (by kernel_rfl)) ?_
 simp only [Act.put, sA, sS, sZ]
 refine wpList_nil ?_
 rw [show i + (n + 1 - i) = n + 1 by omega] at hsz
 have kag := kaf.trans hkz
 have HSg := Lib.hid hsz
 have H1g := Lib.hid (H1.out.kept kag)
 have HS0 := Lib.hid (HS.out.kept kag)
 have zf := kaf.size
 have zg := hkz.size
 have hcn := HSg.out.cap.1
 have hzl1 : zs.length = n + 1 - i := by omega
 have hgn1 : gn ≠ g1 := fun e => by have := (H1.out.lt); omega
 have hgng : gn ≠ g := by omega
 clear hsz hrz hrz2 hkz H1e HSe kf hzl
 have hti : ((ptrs Z).take (i * 1)).length = i := by rw [List.length_take]; omega
 go_upto_region 10 with fail
 refine wp_text 4 [.eq (.slice (some ⟨gn, 0, none⟩) (n + 1) cn), .eq (.int .i64 (i : Int)), .eq (.slice (some ⟨gn, 0 + i * 1, none⟩) (n + 1 - i) (cn - i)), .eq (.slice (some ⟨g1, 0, none⟩) 1 1)] rfl (by kernel_rfl) ?_ ?_
 ·refine sv 1 rfl rfl rfl (fun a u hE hD hk => exec_move (.tmp 9) _ rfl (hE 9 (.slice (some ⟨gn, 0, none⟩) (n + 1) cn) (by kernel_rfl) (by kernel_rfl))) ?_
  refine sv 2 rfl rfl rfl (fun a u hE hD hk => exec_move (.tmp 1) _ rfl (hE 1 (.int .i64 (i : Int)) (by kernel_rfl) (by kernel_rfl))) ?_
  refine sv 3 rfl rfl rfl (fun a u hE hD hk => exec_slcL slQ (.tmp 41) (.tmp 42) _ _ _ rfl (hD 0 41 (by kernel_rfl)) (hD 1 42 (by kernel_rfl)) (run_l slQ gn 0 (n + 1) cn i (by omega) (by omega) u)) ?_
  refine sv 4 rfl rfl rfl (fun a u hE hD hk => exec_move (.tmp 2) _ rfl (hE 2 (.slice (some ⟨g1, 0, none⟩) 1 1) (by kernel_rfl) (by kernel_rfl))) ?_
  exact fsteps_nil
 intro gv wh hV kh
 rw [show dstsOf _ 4 = [41, 42, 43, 44] by kernel_rfl]
 simp only [fC, fN, sA, sS, sZ, dS, dZ]
 rw [show gv 43 = .slice (some ⟨gn, 0 + i * 1, none⟩) (n + 1 - i) (cn - i) from hV 2 43 (by kernel_rfl)]
 rw [show gv 44 = .slice (some ⟨g1, 0, none⟩) 1 1 from hV 3 44 (by kernel_rfl)]
 clear hV
 have hcpy := run_copy_sl slQ 3 gn 0 (n + 1) cn i (n + 1 - i) (cn - i) _ [.pointer (some ⟨q, 0, none⟩)] wh (HSg.out.kept kh) g1 0 1 1 (blk_range (H1g.out.kept kh)) (by simp [Nat.min_def]; omega) (by simp; omega) (by intro u hu; simp at hu; subst hu; rfl)
 rw [show 0 + i = 0 + i * 1 by omega] at hcpy
 obtain ⟨hcr, hcs, hck⟩ := hcpy
 refine l_new (o := ⟨some 45, _, _, _, _, _⟩) (goInt 1) _ rfl (exec_cpyS (.tmp 43) (.tmp 44) _ _ rfl (by kernel_rfl) (by kernel_rfl) _ _ hcr) ?_
 simp only [Act.put, sA, sS, sZ]
 refine wpList_nil ?_
 generalize wh.setCells gn (0 + i * 1) [.pointer (some ⟨q, 0, none⟩)] = wi at hcs hck ⊢
 have e1 : ((ptrs Z).take (i * 1) ++ zs).take i = (ptrs Z).take i := by rw [List.take_append_of_le_length (by omega), List.take_of_length_le (by omega), Nat.mul_one]
 have e2 : ((ptrs Z).take (i * 1) ++ zs).drop (i + [Value.pointer (some ⟨q, 0, none⟩)].length) = zs.drop 1 := by
  rw [List.drop_append, List.drop_of_length_le (by simp; omega), List.nil_append, hti]
  congr 1
  simp
 rw [e1, e2] at hcs
 have HSi := Lib.hid hcs
 have HS0i := Lib.hid ((HS0.out.kept kh).keep hck (fun b hb e => by simp [Value.ownBlock] at hb; omega))
 have K1 : Keep (· = gn) wg wi := Keep.any kh hck
 have hgi : gn ≠ g := hgng
 clear hcs hck hcr kh HSg H1g HS0 e1 e2
 obtain ⟨dd, hdd⟩ : ∃ dd, (ptrs Z).drop i = dd := ⟨_, rfl⟩
 have hdl : dd.length = n - i := by rw [← hdd, List.length_drop]; omega
 have HDR : Hid (∀ u, Sl u 97 1 (.slice (some ⟨g, off, none⟩) n c) n (ptrs Z) → u.rangeAt g (off + i * 1) dd) := fun u h => by
  obtain ⟨_, A, c', e', _, _, _, h4⟩ := h
  injection e' with e1 e2 e3
  subst e1 e3
  obtain ⟨g', off', cur, e, hB, h5, h6⟩ := h4 _ rfl
  injection e with e1 e2
  subst e1 e2
  have := range_drop (seg_cell hB h6) i
  rw [hdd] at this
  rw [Nat.mul_one]
  exact this
 go_upto_region 11 with fail
 refine wp_free 8 [.eq (.slice (some ⟨gn, 0, none⟩) (n + 1) cn), .eq (.int .i64 (i : Int)), .eq (.int .i64 1), .eq (.int .i64 ((i + 1 : Nat) : Int)), .eq (.slice (some ⟨gn, 0 + (i + 1) * 1, none⟩) (n + 1 - (i + 1)) (cn - (i + 1))), .eq (.slice (some ⟨g, off, none⟩) n c), .eq (.int .i64 (i : Int)), .eq (.slice (some ⟨g, off + i * 1, none⟩) (n - i) (c - i))] (by kernel_rfl) rfl (by kernel_rfl) ?_ ?_
 ·refine sv 1 rfl rfl rfl (fun a u hE hD hk => exec_move (.tmp 9) _ rfl (hE 9 (.slice (some ⟨gn, 0, none⟩) (n + 1) cn) (by kernel_rfl) (by kernel_rfl))) ?_
  refine sv 2 rfl rfl rfl (fun a u hE hD hk => exec_move (.tmp 1) _ rfl (hE 1 (.int .i64 (i : Int)) (by kernel_rfl) (by kernel_rfl))) ?_
  refine sv 3 rfl rfl rfl (fun a u hE hD hk => exec_move (.tmp 7) _ rfl (hE 7 (.int .i64 1) (by kernel_rfl) (by kernel_rfl))) ?_
  refine sv 4 rfl rfl rfl (fun a u hE hD hk => exec_addn ((i + 1 : Nat) : Int) (p := (i : Int)) (q := 1) rfl (hD 1 47 (by kernel_rfl)) (hD 2 48 (by kernel_rfl)) (by omega) (by omega) (by omega)) ?_
  refine sv 5 rfl rfl rfl (fun a u hE hD hk => exec_slcL slQ (.tmp 46) (.tmp 49) _ _ _ rfl (hD 0 46 (by kernel_rfl)) (hD 3 49 (by kernel_rfl)) (run_l slQ gn 0 (n + 1) cn (i + 1) (by omega) (by omega) u)) ?_
  refine sv 6 rfl rfl rfl (fun a u hE hD hk => exec_move (.tmp 0) _ rfl (hE 0 (.slice (some ⟨g, off, none⟩) n c) (by kernel_rfl) (by kernel_rfl))) ?_
  refine sv 7 rfl rfl rfl (fun a u hE hD hk => exec_move (.tmp 1) _ rfl (hE 1 (.int .i64 (i : Int)) (by kernel_rfl) (by kernel_rfl))) ?_
  refine sv 8 rfl rfl rfl (fun a u hE hD hk => exec_slcL slQ (.tmp 51) (.tmp 52) _ _ _ rfl (hD 5 51 (by kernel_rfl)) (hD 6 52 (by kernel_rfl)) (run_l slQ g off n c i (by omega) (by omega) u)) ?_
  exact fsteps_nil
 intro gv wj hV kj
 rw [show dstsOf _ 8 = [46, 47, 48, 49, 50, 51, 52, 53] by kernel_rfl]
 simp only [fC, fN, sA, sS, sZ, dS, dZ]
 rw [show gv 50 = .slice (some ⟨gn, 0 + (i + 1) * 1, none⟩) (n + 1 - (i + 1)) (cn - (i + 1)) from hV 4 50 (by kernel_rfl)]
 rw [show gv 53 = .slice (some ⟨g, off + i * 1, none⟩) (n - i) (c - i) from hV 7 53 (by kernel_rfl)]
 clear hV
 have hcpy := run_copy_sl slQ 3 gn 0 (n + 1) cn (i + 1) (n + 1 - (i + 1)) (cn - (i + 1)) _ dd wj (HSi.out.kept kj) g (off + i * 1) (n - i) (c - i) (HDR.out wj (HS0i.out.kept kj)) (by rw [hdl]; simp only [Nat.min_def]; split <;> omega) (by omega) (fun u hu => ptrs_one Z u (by rw [← hdd] at hu; exact List.mem_of_mem_drop hu))
 rw [show 0 + (i + 1) = 0 + (i + 1) * 1 by omega] at hcpy
 obtain ⟨hcr, hcs, hck⟩ := hcpy
 refine l_new (o := ⟨some 54, _, _, _, _, _⟩) (goInt dd.length) _ rfl (exec_cpyS (.tmp 50) (.tmp 53) _ _ rfl (by kernel_rfl) (by kernel_rfl) _ _ hcr) ?_
 simp only [Act.put, sA, sS, sZ]
 refine wpList_nil ?_
 generalize wj.setCells gn (0 + (i + 1) * 1) dd = wk at hcs hck ⊢
 have hti2 : ((ptrs Z).take i).length = i := by rw [List.length_take]; omega
 have HR : Hid (InsIn w (.slice (some ⟨g, off, none⟩) n c) n Z i q (.returned (.slice (some ⟨gn, 0, none⟩) (n + 1) cn)) wk) := by
  refine ⟨_, rfl, ?_, ?_, fun b hb => .inr (by simp [Value.ownBlock] at hb; omega)⟩
  ·have e3 : ((ptrs Z).take i ++ [Value.pointer (some ⟨q, 0, none⟩)] ++ zs.drop 1).take (i + 1) = (ptrs Z).take i ++ [Value.pointer (some ⟨q, 0, none⟩)] := by
    rw [List.take_append_of_le_length (by simp only [List.length_append, hti2, List.length_cons, List.length_nil]; omega), List.take_of_length_le (by simp only [List.length_append, hti2, List.length_cons, List.length_nil]; omega)]
   have e4 : ((ptrs Z).take i ++ [Value.pointer (some ⟨q, 0, none⟩)] ++ zs.drop 1).drop (i + 1 + dd.length) = [] := by
    rw [List.drop_of_length_le]
    simp only [List.length_append, hti2, List.length_drop, List.length_cons, List.length_nil]
    omega
   rw [e3, e4, List.append_nil] at hcs
   unfold insP
   rw [hdd]
   exact hcs
  ·have k2 : Keep (· = gn) wg wk := (K1.kept kj).trans hck (fun _ _ h => h)
   exact (Keep.mono (T := fun b => (Value.slice (some ⟨g, off, none⟩) n c).ownBlock = some b) kag (fun _ _ h => h.elim)).trans k2 (fun b hb h => by omega)
 clear hcs hck hcr
 go_wp2
 go_ret
 exact HR.out
set_option maxRecDepth 100000 in
set_option maxHeartbeats 1600000 in
theorem linsert_room (w : World) (v : Value) (n i : Nat) (Z : Zs) (g1 q : Nat) (hS : Sl w 97 1 v n (ptrs Z)) (hn : n ≤ 1000) (hi : i < n) (h1 : Blk w g1 97 [.pointer (some ⟨q, 0, none⟩)]) (hne : ∀ b, v.ownBlock = some b → b ≠ g1) (hc : ∀ A c, v = .slice A n c → n + 1 ≤ c) :
  Calls Try.prog 92 #[v, .int .i64 (i : Int), .slice (some ⟨g1, 0, none⟩) 1 1] w (InsIn w v n Z i q) := by
 have hv0 := hS.some_ (by omega : 0 < n)
 obtain ⟨g, off, c, rfl⟩ := hv0
 obtain ⟨hnc, hcm, _⟩ := hS.cap
 have hcm' : c ≤ 9223372036854775807 := by unfold maxLen at hcm; omega
 have hgg : g ≠ g1 := fun e => hne g rfl e
 have hroom := hc _ _ rfl
 have HS := Lib.hid hS
 clear hc
 have H1 := Lib.hid h1
 have hl : (ptrs Z).length = n := by have := hS.len; omega
 clear hS h1 hne
 go_enter Try.func92, Try.ntmps92
 go_upto_region 1 with fail
 refine wp_text 3 [.eq (.slice (some ⟨g, off, none⟩) n c), .eq (.int .i64 (i : Int)), .eq (.slice (some ⟨g, off + i * 1, none⟩) (n - i) (c - i))] rfl (by kernel_rfl) ?_ ?_
 ·refine sv 1 rfl rfl rfl (fun a u hE hD hk => exec_move (.tmp 0) _ rfl (hE 0 (.slice (some ⟨g, off, none⟩) n c) (by kernel_rfl) (by kernel_rfl))) ?_
  refine sv 2 rfl rfl rfl (fun a u hE hD hk => exec_move (.tmp 1) _ rfl (hE 1 (.int .i64 (i : Int)) (by kernel_rfl) (by kernel_rfl))) ?_
  refine sv 3 rfl rfl rfl (fun a u hE hD hk => exec_slcL slQ (.tmp 10) (.tmp 11) _ _ _ rfl (hD 0 10 (by kernel_rfl)) (hD 1 11 (by kernel_rfl)) (run_l slQ g off n c i (by omega) (by omega) u)) ?_
  exact fsteps_nil
 intro gv wa hV ka
 rw [show dstsOf _ 3 = [10, 11, 12] by kernel_rfl]
 simp only [fC, fN, sA, sS, sZ, dS, dZ]
 clear hV
 refine wpList_nil ?_
 go_upto_region 2 with fail
 refine wp_text 3 [.eq (.slice (some ⟨g1, 0, none⟩) 1 1), .eq (.int .i64 (1 : Int)), .eq (.int .i64 (1 : Int))] rfl (by kernel_rfl) ?_ ?_
 ·refine sv 1 rfl rfl rfl (fun a u hE hD hk => exec_move (.tmp 2) _ rfl (hE 2 (.slice (some ⟨g1, 0, none⟩) 1 1) (by kernel_rfl) (by kernel_rfl))) ?_
  refine sv 2 rfl rfl rfl (fun a u hE hD hk => exec_len (.tmp 13) _ _ slQ.und (some ⟨g1, 0, none⟩) 1 1 rfl (hD 0 13 (by kernel_rfl))) ?_
  refine sv 3 rfl rfl rfl (fun a u hE hD hk => exec_assign (.tmp 14) _ rfl (hD 1 14 (by kernel_rfl))) ?_
  exact fsteps_nil
 intro gv wb hV kb
 rw [show dstsOf _ 3 = [13, 14, 7] by kernel_rfl]
 simp only [fC, fN, sA, sS, sZ, dS, dZ]
 rw [show gv 7 = .int .i64 (1 : Int) from hV 2 7 (by kernel_rfl)]
 clear hV
 refine wpList_nil ?_
 have kab := ka.trans kb
 clear ka kb
 go_upto_region 5 with fail
 refine wp_text 3 [.eq (.slice (some ⟨g, off, none⟩) n c), .eq (.int .i64 (n : Int)), .eq (.int .i64 (n : Int))] rfl (by kernel_rfl) ?_ ?_
 ·refine sv 1 rfl rfl rfl (fun a u hE hD hk => exec_move (.tmp 0) _ rfl (hE 0 (.slice (some ⟨g, off, none⟩) n c) (by kernel_rfl) (by kernel_rfl))) ?_
  refine sv 2 rfl rfl rfl (fun a u hE hD hk => exec_len (.tmp 18) _ _ slQ.und (some ⟨g, off, none⟩) n c rfl (hD 0 18 (by kernel_rfl))) ?_
  refine sv 3 rfl rfl rfl (fun a u hE hD hk => exec_assign (.tmp 19) _ rfl (hD 1 19 (by kernel_rfl))) ?_
  exact fsteps_nil
 intro gv wc hV kc
 rw [show dstsOf _ 3 = [18, 19, 8] by kernel_rfl]
 simp only [fC, fN, sA, sS, sZ, dS, dZ]
 rw [show gv 8 = .int .i64 (n : Int) from hV 2 8 (by kernel_rfl)]
 clear hV
 refine wpList_nil ?_
 have kac := kab.trans kc
 clear kab kc
 go_upto_region 6 with fail
 refine wp_text 3 [.eq (.int .i64 (i : Int)), .eq (.int .i64 (n : Int)), .eq (.bool false)] rfl (by kernel_rfl) ?_ ?_
 ·refine sv 1 rfl rfl rfl (fun a u hE hD hk => exec_move (.tmp 1) _ rfl (hE 1 (.int .i64 (i : Int)) (by kernel_rfl) (by kernel_rfl))) ?_
  refine sv 2 rfl rfl rfl (fun a u hE hD hk => exec_move (.tmp 8) _ rfl (hE 8 (.int .i64 (n : Int)) (by kernel_rfl) (by kernel_rfl))) ?_
  refine fsteps_cons 3 rfl (fun a u hE hD hk => f_as (show ((decide (((i : Int) : Int) = ((n : Int) : Int))) : Bool) = false from decide_eq_false (by omega)) (f_val (o := ⟨some 22, _, _, _, _, _⟩) (.bool (decide (((i : Int) : Int) = ((n : Int) : Int)))) rfl (wanted_none rfl _) (exec_eqn (p := (i : Int)) (q := (n : Int)) rfl (hD 0 20 (by kernel_rfl)) (hD 1 21 (by kernel_rfl))) rfl)) ?_
  exact fsteps_nil
 intro gv wd hV kd
 rw [show dstsOf _ 3 = [20, 21, 22] by kernel_rfl]
 simp only [fC, fN, sA, sS, sZ, dS, dZ]
 rw [show gv 22 = .bool false from hV 2 22 (by kernel_rfl)]
 clear hV
 refine wpList_nil ?_
 have kad := kac.trans kd
 clear kac kd
 go_upto_region 8 with fail
 refine wp_text 6 [.eq (.int .i64 (n : Int)), .eq (.int .i64 1), .eq (.int .i64 (((n : Int) : Int) + (1 : Int))), .eq (.slice (some ⟨g, off, none⟩) n c), .eq (.int .i64 (c : Int)), .eq (.bool false)] rfl (by kernel_rfl) ?_ ?_
 ·refine sv 1 rfl rfl rfl (fun a u hE hD hk => exec_move (.tmp 8) _ rfl (hE 8 (.int .i64 (n : Int)) (by kernel_rfl) (by kernel_rfl))) ?_
  refine sv 2 rfl rfl rfl (fun a u hE hD hk => exec_move (.tmp 7) _ rfl (hE 7 (.int .i64 1) (by kernel_rfl) (by kernel_rfl))) ?_
  refine sv 3 rfl rfl rfl (fun a u hE hD hk => exec_addn (p := ((n : Int))) (q := (1)) (((n : Int) : Int) + (1 : Int)) rfl (hD 0 26 (by kernel_rfl)) (hD 1 27 (by kernel_rfl)) rfl (by omega) (by omega)) ?_
  refine sv 4 rfl rfl rfl (fun a u hE hD hk => exec_move (.tmp 0) _ rfl (hE 0 (.slice (some ⟨g, off, none⟩) n c) (by kernel_rfl) (by kernel_rfl))) ?_
  refine sv 5 rfl rfl rfl (fun a u hE hD hk => exec_capS (.tmp 29) (some ⟨g, off, none⟩) n c slQ.und rfl (hD 3 29 (by kernel_rfl))) ?_
  refine fsteps_cons 6 rfl (fun a u hE hD hk => f_as (show ((decide (((c : Int) : Int) < ((((n : Int) : Int) + (1 : Int)) : Int))) : Bool) = false from decide_eq_false (by omega)) (f_val (o := ⟨some 31, _, _, _, _, _⟩) (.bool (decide (((c : Int) : Int) < ((((n : Int) : Int) + (1 : Int)) : Int)))) rfl (wanted_none rfl _) (exec_gtn (p := (((n : Int) : Int) + (1 : Int))) (q := (c : Int)) rfl (hD 2 28 (by kernel_rfl)) (hD 4 30 (by kernel_rfl))) rfl)) ?_
  exact fsteps_nil
 intro gv we hV ke
 rw [show dstsOf _ 6 = [26, 27, 28, 29, 30, 31] by kernel_rfl]
 simp only [fC, fN, sA, sS, sZ, dS, dZ]
 rw [show gv 31 = .bool false from hV 5 31 (by kernel_rfl)]
 clear hV
 refine wpList_nil ?_
 have kae := kad.trans ke
 clear kad ke
 have HSe := Lib.hid (HS.out.kept kae)
 have H1e := Lib.hid (H1.out.kept kae)
 have hgl : g < w.heap.size := HS.out.lt rfl
 obtain ⟨ds, hdsl, hS1, hds⟩ := HSe.out.longer (m := n + 1) hroom (by omega)
 have HSL := Lib.hid hS1
 have HDS := Lib.hid hds
 have hcur : ∃ T cs, Blk we g T cs ∧ cs.length ≠ 0 := by
  obtain ⟨_, A, c', e', _, _, _, h4⟩ := hS1
  injection e' with e1 e2 e3
  subst e1 e3
  obtain ⟨g', off', cur, e, hB, h5, h6⟩ := h4 _ rfl
  injection e with e1 e2
  subst e1 e2
  exact ⟨_, cur, hB, by omega⟩
 obtain ⟨TG, cg, hBg, hcg0⟩ := hcur
 have HBG := Lib.hid hBg
 have hdsl : ds.length = n + 1 := by omega
 clear hS1 hds HSe hBg
 go_upto_region 13 with fail
 refine wp_text 5 [.eq (.slice (some ⟨g, off, none⟩) n c), .eq (.int .i64 (n : Int)), .eq (.int .i64 1), .eq (.int .i64 ((n + 1 : Nat) : Int)), .eq (.slice (some ⟨g, off, none⟩) (n + 1) c)] rfl (by kernel_rfl) ?_ ?_
 ·refine sv 1 rfl rfl rfl (fun a u hE hD hk => exec_move (.tmp 0) _ rfl (hE 0 (.slice (some ⟨g, off, none⟩) n c) (by kernel_rfl) (by kernel_rfl))) ?_
  refine sv 2 rfl rfl rfl (fun a u hE hD hk => exec_move (.tmp 8) _ rfl (hE 8 (.int .i64 (n : Int)) (by kernel_rfl) (by kernel_rfl))) ?_
  refine sv 3 rfl rfl rfl (fun a u hE hD hk => exec_move (.tmp 7) _ rfl (hE 7 (.int .i64 1) (by kernel_rfl) (by kernel_rfl))) ?_
  refine sv 4 rfl rfl rfl (fun a u hE hD hk => exec_addn ((n + 1 : Nat) : Int) (p := (n : Int)) (q := 1) rfl (hD 1 57 (by kernel_rfl)) (hD 2 58 (by kernel_rfl)) (by omega) (by omega) (by omega)) ?_
  refine sv 5 rfl rfl rfl (fun a u hE hD hk => exec_slcH slQ (.tmp 56) (.tmp 59) _ _ _ rfl (hD 0 56 (by kernel_rfl)) (hD 3 59 (by kernel_rfl)) (run_h slQ (some ⟨g, off, none⟩) n c (n + 1) (by omega) (fun h => by cases h) u)) ?_
  exact fsteps_nil
 intro gv wf hV kf
 rw [show dstsOf _ 5 = [56, 57, 58, 59, 60] by kernel_rfl]
 simp only [fC, fN, sA, sS, sZ, dS, dZ]
 rw [show gv 60 = .slice (some ⟨g, off, none⟩) (n + 1) c from hV 4 60 (by kernel_rfl)]
 clear hV
 refine l_val (o := ⟨some 0, _, _, _, _, _⟩) (.slice (some ⟨g, off, none⟩) (n + 1) c) rfl (exec_assign (.tmp 60) (.slice (some ⟨g, off, none⟩) (n + 1) c) rfl (by kernel_rfl)) ?_
 simp only [Act.put, List.setIfInBounds_toArray, List.set_cons_zero]
 refine wpList_nil ?_
 have kaf := kae.trans kf
 have HSf := Lib.hid (HSL.out.kept kf)
 have HBf := Lib.hid (HBG.out.kept kf)
 have H1f := Lib.hid (H1.out.kept kaf)
 clear HSL HBG H1e kf
 obtain ⟨m, hm⟩ : ∃ m, n + 1 = m := ⟨_, rfl⟩
 rw [hm] at HSf hdsl ⊢
 go_upto_region 14 with fail
 refine wp_text 7 [.eq (.slice (some ⟨g1, 0, none⟩) 1 1), .eq (.slice (some ⟨g, off, none⟩) m c), .eq (.int .i64 (i : Int)), .eq (.int .i64 1), .eq (.int .i64 ((i + 1 : Nat) : Int)), .eq (.slice (some ⟨g, off + (i + 1) * 1, none⟩) (m - (i + 1)) (c - (i + 1))), .eq (.bool false)] rfl (by kernel_rfl) ?_ ?_
 ·refine sv 1 rfl rfl rfl (fun a u hE hD hk => exec_move (.tmp 2) _ rfl (hE 2 (.slice (some ⟨g1, 0, none⟩) 1 1) (by kernel_rfl) (by kernel_rfl))) ?_
  refine sv 2 rfl rfl rfl (fun a u hE hD hk => exec_move (.tmp 0) _ rfl (hE 0 (.slice (some ⟨g, off, none⟩) m c) (by kernel_rfl) (by kernel_rfl))) ?_
  refine sv 3 rfl rfl rfl (fun a u hE hD hk => exec_move (.tmp 1) _ rfl (hE 1 (.int .i64 (i : Int)) (by kernel_rfl) (by kernel_rfl))) ?_
  refine sv 4 rfl rfl rfl (fun a u hE hD hk => exec_move (.tmp 7) _ rfl (hE 7 (.int .i64 1) (by kernel_rfl) (by kernel_rfl))) ?_
  refine sv 5 rfl rfl rfl (fun a u hE hD hk => exec_addn ((i + 1 : Nat) : Int) (p := (i : Int)) (q := 1) rfl (hD 2 63 (by kernel_rfl)) (hD 3 64 (by kernel_rfl)) (by omega) (by omega) (by omega)) ?_
  refine sv 6 rfl rfl rfl (fun a u hE hD hk => exec_slcL slQ (.tmp 62) (.tmp 65) _ _ _ rfl (hD 1 62 (by kernel_rfl)) (hD 4 65 (by kernel_rfl)) (run_l slQ g off m c (i + 1) (by omega) (by omega) u)) ?_
  refine sv 7 rfl rfl rfl (fun a u hE hD hk => exec_ovl (.tmp 61) (.tmp 66) _ g1 0 1 1 g (off + (i + 1) * 1) (m - (i + 1)) (c - (i + 1)) _ _ _ _ rfl (hD 0 61 (by kernel_rfl)) (hD 5 66 (by kernel_rfl)) (H1f.out.kept hk) (HBf.out.kept hk) (fun e => hgg e.symm) hcg0) ?_
  exact fsteps_nil
 intro gv wg hV kg
 rw [show dstsOf _ 7 = [61, 62, 63, 64, 65, 66, 67] by kernel_rfl]
 simp only [fC, fN, sA, sS, sZ, dS, dZ]
 rw [show gv 67 = .bool false from hV 6 67 (by kernel_rfl)]
 clear hV
 refine l_val (o := ⟨some 68, _, _, _, _, _⟩) (.bool true) rfl (exec_not _ (.tmp 67) false rfl (by kernel_rfl)) ?_
 simp only [Act.put, sA, sS, sZ]
 refine wpList_nil ?_
 have kag := kaf.trans kg
 have HSg := Lib.hid (HSf.out.kept kg)
 have H1g := Lib.hid (H1.out.kept kag)
 clear HSf HBf H1f kg
 obtain ⟨dd, hdd⟩ : ∃ dd, (ptrs Z).drop i = dd := ⟨_, rfl⟩
 have hdl : dd.length = n - i := by rw [← hdd, List.length_drop]; omega
 have HD1 : Hid ((ds.drop i).take (n - i) = dd) := by
  show _ = _
  rw [← hdd, ← HDS.out, List.drop_take, Nat.mul_one]
 have HDT : Hid (ds.take i = (ptrs Z).take i) := by
  show _ = _
  rw [← HDS.out, List.take_take, Nat.min_eq_left (by omega)]
 have HDR : Hid (∀ u, Sl u 97 1 (.slice (some ⟨g, off, none⟩) m c) m ds → u.rangeAt g (off + i * 1) dd) := fun u h => by
  obtain ⟨_, A, c', e', _, _, _, h4⟩ := h
  injection e' with e1 e2 e3
  subst e1 e3
  obtain ⟨g', off', cur, e, hB, h5, h6⟩ := h4 _ rfl
  injection e with e1 e2
  subst e1 e2
  have := range_take (range_drop (seg_cell hB h6) i) (n - i)
  rw [HD1.out] at this
  rw [Nat.mul_one]
  exact this
 go_upto_region 15 with fail
 refine wp_free 8 [.eq (.slice (some ⟨g, off, none⟩) m c), .eq (.int .i64 (i : Int)), .eq (.int .i64 1), .eq (.int .i64 ((i + 1 : Nat) : Int)), .eq (.slice (some ⟨g, off + (i + 1) * 1, none⟩) (m - (i + 1)) (c - (i + 1))), .eq (.slice (some ⟨g, off, none⟩) m c), .eq (.int .i64 (i : Int)), .eq (.slice (some ⟨g, off + i * 1, none⟩) (m - i) (c - i))] (by kernel_rfl) rfl (by kernel_rfl) ?_ ?_
 ·refine sv 1 rfl rfl rfl (fun a u hE hD hk => exec_move (.tmp 0) _ rfl (hE 0 (.slice (some ⟨g, off, none⟩) m c) (by kernel_rfl) (by kernel_rfl))) ?_
  refine sv 2 rfl rfl rfl (fun a u hE hD hk => exec_move (.tmp 1) _ rfl (hE 1 (.int .i64 (i : Int)) (by kernel_rfl) (by kernel_rfl))) ?_
  refine sv 3 rfl rfl rfl (fun a u hE hD hk => exec_move (.tmp 7) _ rfl (hE 7 (.int .i64 1) (by kernel_rfl) (by kernel_rfl))) ?_
  refine sv 4 rfl rfl rfl (fun a u hE hD hk => exec_addn ((i + 1 : Nat) : Int) (p := (i : Int)) (q := 1) rfl (hD 1 70 (by kernel_rfl)) (hD 2 71 (by kernel_rfl)) (by omega) (by omega) (by omega)) ?_
  refine sv 5 rfl rfl rfl (fun a u hE hD hk => exec_slcL slQ (.tmp 69) (.tmp 72) _ _ _ rfl (hD 0 69 (by kernel_rfl)) (hD 3 72 (by kernel_rfl)) (run_l slQ g off m c (i + 1) (by omega) (by omega) u)) ?_
  refine sv 6 rfl rfl rfl (fun a u hE hD hk => exec_move (.tmp 0) _ rfl (hE 0 (.slice (some ⟨g, off, none⟩) m c) (by kernel_rfl) (by kernel_rfl))) ?_
  refine sv 7 rfl rfl rfl (fun a u hE hD hk => exec_move (.tmp 1) _ rfl (hE 1 (.int .i64 (i : Int)) (by kernel_rfl) (by kernel_rfl))) ?_
  refine sv 8 rfl rfl rfl (fun a u hE hD hk => exec_slcL slQ (.tmp 74) (.tmp 75) _ _ _ rfl (hD 5 74 (by kernel_rfl)) (hD 6 75 (by kernel_rfl)) (run_l slQ g off m c i (by omega) (by omega) u)) ?_
  exact fsteps_nil
 intro gv wj hV kj
 rw [show dstsOf _ 8 = [69, 70, 71, 72, 73, 74, 75, 76] by kernel_rfl]
 simp only [fC, fN, sA, sS, sZ, dS, dZ]
 rw [show gv 73 = .slice (some ⟨g, off + (i + 1) * 1, none⟩) (m - (i + 1)) (c - (i + 1)) from hV 4 73 (by kernel_rfl)]
 rw [show gv 76 = .slice (some ⟨g, off + i * 1, none⟩) (m - i) (c - i) from hV 7 76 (by kernel_rfl)]
 clear hV
 have hcpy := run_copy_sl slQ 3 g off m c (i + 1) (m - (i + 1)) (c - (i + 1)) _ dd wj (HSg.out.kept kj) g (off + i * 1) (m - i) (c - i) (HDR.out wj (HSg.out.kept kj)) (by rw [hdl]; simp only [Nat.min_def]; split <;> omega) (by omega) (fun u hu => ptrs_one Z u (by rw [← hdd] at hu; exact List.mem_of_mem_drop hu))
 rw [show off + (i + 1) = off + (i + 1) * 1 by omega] at hcpy
 obtain ⟨hcr, hcs, hck⟩ := hcpy
 refine l_new (o := ⟨some 77, _, _, _, _, _⟩) (goInt dd.length) _ rfl (exec_cpyS (.tmp 73) (.tmp 76) _ _ rfl (by kernel_rfl) (by kernel_rfl) _ _ hcr) ?_
 simp only [Act.put, sA, sS, sZ]
 refine wpList_nil ?_
 generalize wj.setCells g (off + (i + 1) * 1) dd = wk at hcs hck ⊢
 have HSk := Lib.hid hcs
 have H1k := Lib.hid ((H1g.out.kept kj).keep hck (fun e => hgg e.symm))
 have K1 : Keep (· = g) wg wk := Keep.any kj hck
 clear hcs hck hcr kj HSg H1g
 go_upto_region 16 with fail
 refine wp_text 4 [.eq (.slice (some ⟨g, off, none⟩) m c), .eq (.int .i64 (i : Int)), .eq (.slice (some ⟨g, off + i * 1, none⟩) (m - i) (c - i)), .eq (.slice (some ⟨g1, 0, none⟩) 1 1)] rfl (by kernel_rfl) ?_ ?_
 ·refine sv 1 rfl rfl rfl (fun a u hE hD hk => exec_move (.tmp 0) _ rfl (hE 0 (.slice (some ⟨g, off, none⟩) m c) (by kernel_rfl) (by kernel_rfl))) ?_
  refine sv 2 rfl rfl rfl (fun a u hE hD hk => exec_move (.tmp 1) _ rfl (hE 1 (.int .i64 (i : Int)) (by kernel_rfl) (by kernel_rfl))) ?_
  refine sv 3 rfl rfl rfl (fun a u hE hD hk => exec_slcL slQ (.tmp 78) (.tmp 79) _ _ _ rfl (hD 0 78 (by kernel_rfl)) (hD 1 79 (by kernel_rfl)) (run_l slQ g off m c i (by omega) (by omega) u)) ?_
  refine sv 4 rfl rfl rfl (fun a u hE hD hk => exec_move (.tmp 2) _ rfl (hE 2 (.slice (some ⟨g1, 0, none⟩) 1 1) (by kernel_rfl) (by kernel_rfl))) ?_
  exact fsteps_nil
 intro gv wh hV kh
 rw [show dstsOf _ 4 = [78, 79, 80, 81] by kernel_rfl]
 simp only [fC, fN, sA, sS, sZ, dS, dZ]
 rw [show gv 80 = .slice (some ⟨g, off + i * 1, none⟩) (m - i) (c - i) from hV 2 80 (by kernel_rfl)]
 rw [show gv 81 = .slice (some ⟨g1, 0, none⟩) 1 1 from hV 3 81 (by kernel_rfl)]
 clear hV
 have hcpy := run_copy_sl slQ 3 g off m c i (m - i) (c - i) _ [.pointer (some ⟨q, 0, none⟩)] wh (HSk.out.kept kh) g1 0 1 1 (blk_range (H1k.out.kept kh)) (by simp [Nat.min_def]; omega) (by simp; omega) (by intro u hu; simp at hu; subst hu; rfl)
 rw [show off + i = off + i * 1 by omega] at hcpy
 obtain ⟨hcr, hcs, hck⟩ := hcpy
 refine l_new (o := ⟨some 82, _, _, _, _, _⟩) (goInt 1) _ rfl (exec_cpyS (.tmp 80) (.tmp 81) _ _ rfl (by kernel_rfl) (by kernel_rfl) _ _ hcr) ?_
 simp only [Act.put, sA, sS, sZ]
 refine wpList_nil ?_
 generalize wh.setCells g (off + i * 1) [.pointer (some ⟨q, 0, none⟩)] = wi at hcs hck ⊢
 have HR : Hid (InsIn w (.slice (some ⟨g, off, none⟩) n c) n Z i q (.returned (.slice (some ⟨g, off, none⟩) m c)) wi) := by
  refine ⟨_, rfl, ?_, ?_, fun b hb => .inl hb⟩
  ·have hti : (ds.take (i + 1)).length = i + 1 := by rw [List.length_take]; omega
   have e3 : (ds.take (i + 1) ++ dd ++ ds.drop (i + 1 + dd.length)).take i = (ptrs Z).take i := by
    rw [List.append_assoc, List.take_append_of_le_length (by omega), List.take_take, Nat.min_eq_left (by omega)]
    exact HDT.out
   have e4 : (ds.take (i + 1) ++ dd ++ ds.drop (i + 1 + dd.length)).drop (i + [Value.pointer (some ⟨q, 0, none⟩)].length) = dd := by
    rw [show ds.drop (i + 1 + dd.length) = [] from List.drop_of_length_le (by omega), List.append_nil, List.drop_append, List.drop_of_length_le (by simp; omega), List.nil_append, hti]
    simp
   rw [e3, e4, ← hm] at hcs
   unfold insP
   rw [hdd, ← hm]
   exact hcs
  ·have k2 : Keep (· = g) wg wi := (K1.kept kh).trans hck (fun _ _ h => h)
   exact (Keep.mono (T := fun b => (Value.slice (some ⟨g, off, none⟩) n c).ownBlock = some b) kag (fun _ _ h => h.elim)).trans k2 (fun b hb h => by subst h; rfl)
 clear hcs hck hcr
 go_wp2
 go_ret
 exact HR.out
theorem linsert_any (w : World) (v : Value) (n i : Nat) (Z : Zs) (g1 q : Nat) (hS : Sl w 97 1 v n (ptrs Z)) (hn : n ≤ 1000) (hi : i ≤ n) (h1 : Blk w g1 97 [.pointer (some ⟨q, 0, none⟩)]) (hne : ∀ b, v.ownBlock = some b → b ≠ g1) :
  Calls Try.prog 92 #[v, .int .i64 (i : Int), .slice (some ⟨g1, 0, none⟩) 1 1] w (InsIn w v n Z i q) := by
 by_cases h : i = n
 ·subst h
  exact linsert_end w v i Z g1 q hS hn h1
 ·obtain ⟨A, c, rfl⟩ := hS.slice_
  by_cases hc : n + 1 ≤ c
  ·exact linsert_room w _ n i Z g1 q hS hn (by omega) h1 hne (fun A' c' e => by injection e with _ _ e3; omega)
  ·exact linsert_grow w _ n i Z g1 q hS hn (by omega) h1 hne (fun A' c' e => by injection e with _ _ e3; omega)
end Go.Proofs.Ytfpfpmhkkgfdbaa
namespace Go.Proofs.Ytfpfpmhkkgfdbaa
open Go.RowKit
set_option maxRecDepth 100000
theorem LvsOk.one {L : List Lev} (h : LvsOk L) {l : Lev} (hl : l ∈ L) : l.2.length ≤ 64 := by
 obtain ⟨a, b, rfl⟩ := List.append_of_mem hl
 have := h.few
 rw [entL_append, entL_cons, List.length_append, List.length_append] at this
 omega
theorem split_at {Z : Zs} {k : Nat} {z : Nat × Lev} (h : Z[k]? = some z) : Z = Z.take k ++ z :: Z.drop (k + 1) := by
 obtain ⟨hk, rfl⟩ := List.getElem?_eq_some_iff.1 h
 rw [← List.drop_eq_getElem_cons hk, List.take_append_drop]
end Go.Proofs.Ytfpfpmhkkgfdbaa
namespace Go.Proofs.Ytfpfpmhkkgfdbaa
open Go.RowKit
set_option maxRecDepth 100000
section
variable {P : Program} {ops : Array Oper} {Q : Exit → Act → World → Prop} {V : List Kn} {n m : Nat} {a0 : Act} {w0 : World} {S : Nat → Prop}
def Kn.safe (S : Nat → Prop) (K : Kn) : Prop := ∀ v w w', K.p v w → Keep S w w' → K.p v w'
theorem Kn.safe_eq (S : Nat → Prop) (c : Value) : (Kn.eq c).safe S := fun _ _ _ h _ => h
structure VInv (ops : Array Oper) (V : List Kn) (n m : Nat) (a0 : Act) (w0 : World) (S : Nat → Prop) (ls : Array Bool) (a : Act) (w : World) : Prop where
 head : HeadInv .any ops n ls
 defers : a.defers = a0.defers
 size : a.tmps.size = a0.tmps.size
 env : ∀ t, (∀ i, i < n → ls.getD i false = true → dstOf ops i ≠ some t) → a.tmps[t]? = a0.tmps[t]?
 vals : ∀ i d, i < n → ls.getD i false = true → dstOf ops i = some d → (knOf V i).p (a.tmps.getD d undef) w
 keep : Keep S w0 w
 kept : ls.getD m false = false → Kept w0 w
def VStep (P : Program) (ops : Array Oper) (Q : Exit → Act → World → Prop) (V : List Kn) (n : Nat) (a0 : Act) (w0 : World) (S : Nat → Prop) (i : Nat) (K : Kn) : Prop :=
 ∀ a w, FEnv ops n a0 a → FDep ops V i a w → Keep S w0 w → wpOp P ops Q i (FPost ops i K a w) a w
def VTurn (P : Program) (ops : Array Oper) (Q : Exit → Act → World → Prop) (V : List Kn) (n : Nat) (a0 : Act) (w0 : World) (S : Nat → Prop) (m : Nat) (K : Kn) : Prop :=
 ∀ a w, FEnv ops n a0 a → FDep ops V m a w → Kept w0 w → wpOp P ops Q m (fun a' w' => ∃ v, a' = a.put (dstOf ops m) v ∧ K.p v w' ∧ Keep S w w') a w
def VSteps (P : Program) (ops : Array Oper) (Q : Exit → Act → World → Prop) (V : List Kn) (n m : Nat) (a0 : Act) (w0 : World) (S : Nat → Prop) : Nat → List Kn → Prop
 | _, [] => True
 | i, K :: Ks => (i ≠ m → VStep P ops Q V n a0 w0 S i K) ∧ VSteps P ops Q V n m a0 w0 S (i + 1) Ks
theorem vsteps_nil {i : Nat} : VSteps P ops Q V n m a0 w0 S i [] := trivial
theorem vsteps_cons {i : Nat} (j : Nat) {K : Kn} {Ks : List Kn} (hj : j = i + 1) (h : VStep P ops Q V n a0 w0 S i K) (hr : VSteps P ops Q V n m a0 w0 S j Ks) : VSteps P ops Q V n m a0 w0 S i (K :: Ks) := ⟨fun _ => h, by subst hj; exact hr⟩
theorem vsteps_turn {i : Nat} (j : Nat) {K : Kn} {Ks : List Kn} (hj : j = i + 1) (hm : i = m) (hr : VSteps P ops Q V n m a0 w0 S j Ks) : VSteps P ops Q V n m a0 w0 S i (K :: Ks) := ⟨fun h => (h hm).elim, by subst hj; exact hr⟩
theorem vsteps_at : ∀ (Ks : List Kn) (i : Nat), VSteps P ops Q V n m a0 w0 S i Ks → ∀ k K, Ks[k]? = some K → i + k ≠ m → VStep P ops Q V n a0 w0 S (i + k) K
 | [], _, _, k, K, h, _ => by simp at h
 | K0 :: Ks, i, h, 0, K, hk, hm => by simp at hk; subst hk; exact h.1 hm
 | K0 :: Ks, i, h, k + 1, K, hk, hm => by
  have := vsteps_at Ks (i + 1) h.2 k K (by simpa using hk) (by omega)
  rw [show i + (k + 1) = i + 1 + k by omega]
  exact this
def lateB (ops : Array Oper) (n m : Nat) (early : List Nat) : Bool := (List.range n).all fun i => i == m || early.contains i || (List.range i).any fun j => (j == m || !early.contains j) && Region.waitsFor .any ops i j
theorem freeV_go (early : List Nat) (hnV : V.length = n) (hmn : m < n) (hB : freeB ops n a0.tmps.size = true) (hL : lateB ops n m early = true) (hsafe : ∀ i, i ∈ early → (knOf V i).safe S) (hst : ∀ i K, V[i]? = some K → i ≠ m → VStep P ops Q V n a0 w0 S i K) (htn : VTurn P ops Q V n a0 w0 S m (knOf V m))
  (hfin : ∀ a w, VInv ops V n m a0 w0 S (Array.replicate n true ++ Array.replicate (ops.size - n) false) a w → wpAny P .any ops Q (ops.size - n) (Array.replicate n true ++ Array.replicate (ops.size - n) false) a w) :
  ∀ (f : Nat) (U : List Nat) (ls : Array Bool) (a : Act) (w : World), U.length = f → U.Nodup → (∀ i, i ∈ U ↔ i < n ∧ ls.getD i true = false) → VInv ops V n m a0 w0 S ls a w → wpAny P .any ops Q (f + (ops.size - n)) ls a w := by
 obtain ⟨hn, hsc, hseq, hall⟩ := freeB_facts hB
 have hop : ∀ i, i < n → ∃ o d, ops[i]? = some o ∧ o.dst = some d ∧ d < a0.tmps.size ∧ (∀ j, j < i → dstOf ops j ≠ some d) ∧ ∀ e ∈ o.after, Region.binds .any e = true → e.on < i := by
  intro i hi
  have h := List.all_eq_true.1 hall i (by simpa using hi)
  cases ho : ops[i]? with
  | none => rw [ho] at h; cases h
  | some o =>
   rw [ho] at h
   simp only [Bool.and_eq_true] at h
   cases hd : o.dst with
   | none => rw [hd] at h; cases h.1
   | some d =>
    rw [hd] at h
    simp only [Bool.and_eq_true, decide_eq_true_eq, List.all_eq_true, List.mem_range, bne_iff_ne] at h
    refine ⟨o, d, rfl, hd, h.1.1, h.1.2, fun e he hb => ?_⟩
    have h2 := (Array.all_eq_true_iff_forall_mem.1 h.2) e he
    simpa [hb] using h2
 intro f
 induction f with
 | zero =>
  intro U ls a w hU _ hmem inv
  have hnil : U = [] := List.eq_nil_of_length_eq_zero hU
  have hls : ls = Array.replicate n true ++ Array.replicate (ops.size - n) false := by
   apply Array.ext
   ·simp [inv.head.size]; omega
   ·intro i h1 h2
    have hsz := inv.head.size
    by_cases hi : i < n
    ·have h3 : ¬ (i < n ∧ ls.getD i true = false) := by
      intro h
      have := (hmem i).2 h
      rw [hnil] at this
      cases this
     have h4 : ls.getD i true = true := by
      cases hq : ls.getD i true with
      | true => rfl
      | false => exact (h3 ⟨hi, hq⟩).elim
     rw [Array.getElem_append_left (by simpa using hi)]
     simp [h1] at h4
     simp [h4]
    ·have h4 := inv.head.tail i (by omega) (by omega)
     rw [Array.getElem_append_right (by simpa using hi)]
     simp [h1] at h4
     simp [h4]
  rw [Nat.zero_add]
  subst hls
  exact hfin a w inv
 | succ f ih =>
  intro U ls a w hU hnd hmem inv
  have hsz := inv.head.size
  rw [show f + 1 + (ops.size - n) = (f + (ops.size - n)) + 1 by omega]
  obtain ⟨u, hu⟩ : ∃ u, u ∈ U := by
   cases U with
   | nil => simp at hU
   | cons u U => exact ⟨u, by simp⟩
  obtain ⟨hun, huf⟩ := (hmem u).1 hu
  refine ⟨fun h0 => ?_, fun i hi => ?_⟩
  ·exfalso
   have key : ∀ k i, i ≤ k → i < n → ls.getD i true = true := by
    intro k
    induction k using Nat.strongRecOn with
    | _ k ihk =>
     intro i hik hin
     cases hq : ls.getD i true with
     | true => rfl
     | false =>
      obtain ⟨o, d, ho, _, _, _, haft⟩ := hop i hin
      have : i ∈ Region.ready .any ops ls := mem_ready.2 ⟨hq, o, ho, fun e he hb => by
       have hlt := haft e he hb
       have := ihk (k - 1) (by omega) e.on (by omega) (by omega)
       exact getD_tf this (by omega)⟩
      rw [h0] at this
      cases this
   rw [key u u (Nat.le_refl _) hun] at huf
   cases huf
  ·have hin : i < n := Nat.lt_of_not_le fun h => tail_waits (hsc (Nat.lt_of_le_of_lt h (by obtain ⟨_, o1, ho1, _⟩ := mem_ready.1 hi; exact (Array.getElem?_eq_some_iff.1 ho1).1))).1 (hsc (Nat.lt_of_le_of_lt h (by obtain ⟨_, o1, ho1, _⟩ := mem_ready.1 hi; exact (Array.getElem?_eq_some_iff.1 ho1).1))).2 (Nat.lt_of_le_of_lt h (by obtain ⟨_, o1, ho1, _⟩ := mem_ready.1 hi; exact (Array.getElem?_eq_some_iff.1 ho1).1)) inv.head _ u rfl hun huf i h hi
   obtain ⟨hiun, oi, hoi, hdeps⟩ := mem_ready.1 hi
   obtain ⟨o, d, ho, hd, hdlt, hne, haft⟩ := hop i hin
   obtain rfl : oi = o := Option.some.inj (hoi.symm.trans ho)
   have hdi : dstOf ops i = some d := by simp [dstOf, ho, hd]
   have hiff : ls.getD i false = false := getD_both hiun
   have hne' : ∀ j, j < n → j ≠ i → dstOf ops j ≠ some d := by
    intro j hj hij hjd
    by_cases hji : j < i
    ·exact hne j hji hjd
    ·obtain ⟨oj, dj, hoj, hdj, _, hnej, _⟩ := hop j hj
     have : dj = d := by
      have h1 : dstOf ops j = some dj := by simp [dstOf, hoj, hdj]
      rw [h1] at hjd
      injection hjd
     subst this
     exact hnej i (by omega) hdi
   have hdlt' : d < a.tmps.size := by rw [inv.size]; exact hdlt
   have hself : ∀ v, (a.put (some d) v).tmps.getD d undef = v := fun v => by simp [Act.put, hdlt']
   have hoth : ∀ v j e, j < n → j ≠ i → dstOf ops j = some e → (a.put (some d) v).tmps.getD e undef = a.tmps.getD e undef := by
    intro v j e hj hji he
    have : d ≠ e := fun h => hne' j hj hji (by rw [he, h])
    simp only [Act.put, Array.getD_eq_getD_getElem?, slot_set]
    rw [if_neg (fun h => this h.1)]
   have hfe : FEnv ops n a0 a := by
    intro t v ht hv
    have ht' : ∀ k, k < n → ls.getD k false = true → dstOf ops k ≠ some t := fun k hkn _ => by simpa using List.all_eq_true.1 ht k (by simpa using hkn)
    have h1 := inv.env t ht'
    rw [← hv]
    simp only [Act.eval, Array.getD_eq_getD_getElem?, h1]
   have hU' : ∀ k, k ∈ U.erase i ↔ k < n ∧ (ls.setIfInBounds i true).getD k true = false := by
    intro k
    rw [hnd.mem_erase_iff, hmem k]
    by_cases hki : k = i
    ·subst hki
     simp
    ·rw [getD_set_ne true (fun h => hki h.symm)]
     simp [hki]
   have henv : ∀ v t, (∀ k, k < n → (ls.setIfInBounds i true).getD k false = true → dstOf ops k ≠ some t) → (a.put (some d) v).tmps[t]? = a0.tmps[t]? := by
    intro v t ht
    have h1 := inv.env t (fun k hkn hl => ht k hkn (getD_set_true hl))
    have h2 : d ≠ t := fun h => ht i hin (by simp [show i < ls.size by omega]) (by rw [hdi, h])
    simp only [Act.put, slot_set]
    rw [if_neg (fun h => h2 h.1), h1]
   have hlen : (U.erase i).length = f := by rw [List.length_erase_of_mem ((hmem i).2 ⟨hin, hiun⟩)]; omega
   have hsetk : ∀ k, k ≠ i → (ls.setIfInBounds i true).getD k false = ls.getD k false := fun k hk => getD_set_ne false (fun h => hk h.symm)
   have hseti : (ls.setIfInBounds i true).getD i false = true := by simp [show i < ls.size by omega]
   have hdep : FDep ops V i a w := by
    intro j e hje
    simp only [Bool.and_eq_true, beq_iff_eq, ho, Option.map_some, Option.some.injEq, Array.any_eq_true'] at hje
    obtain ⟨⟨x, hx, hxb, hxj⟩, hdj⟩ := hje
    subst hxj
    exact inv.vals x.on e (by have := haft x hx hxb; omega) (hdeps x hx hxb) hdj
   have hK : V[i]? = some (knOf V i) := by
    unfold knOf
    rw [List.getD_eq_getElem?_getD, List.getElem?_eq_getElem (by omega)]
    rfl
   by_cases him : i = m
   ·subst him
    have hk := inv.kept hiff
    have hlate : ∀ j, j < n → ls.getD j false = true → j ∈ early := by
     intro j
     induction j using Nat.strongRecOn with
     | _ j ihj =>
      intro hj hlj
      have h := List.all_eq_true.1 hL j (by simpa using hj)
      simp only [Bool.or_eq_true, beq_iff_eq, List.any_eq_true, List.mem_range, Bool.and_eq_true, Bool.not_eq_true', List.contains_iff_mem] at h
      rcases h with (h | h) | ⟨q, hq1, hq2, hq3⟩
      ·subst h
       rw [hiff] at hlj
       cases hlj
      ·exact h
      ·exfalso
       obtain ⟨oj, dj, hoj, _, _, _, _⟩ := hop j hj
       obtain ⟨e, he, hb, heq⟩ := waits_on hq3 hoj
       have hlq := inv.head.closed j oj hoj hlj e he hb
       rw [heq] at hlq
       rcases hq2 with h | h
       ·subst h
        rw [hiff] at hlq
        cases hlq
       ·have := ihj q hq1 (by omega) hlq
        have h' : early.contains q = true := by simpa using this
        rw [h'] at h
        cases h
    refine wpOp_mono ?_ (htn a w hfe hdep hk)
    rintro a' w' ⟨v, rfl, hKp, hkS⟩
    rw [hdi]
    refine ih (U.erase i) _ _ w' hlen (hnd.erase _) hU' ⟨inv.head.set hi hin, inv.defers, by simp [Act.put, inv.size], henv v, fun k e hkn hlk he => ?_, inv.keep.trans hkS (fun _ _ h => h), fun hl => ?_⟩
    ·by_cases hki : k = i
     ·subst hki
      rw [hdi] at he
      injection he with he
      subst he
      rw [hself]
      exact hKp
     ·rw [hsetk k hki] at hlk
      rw [hoth v k e hkn hki he]
      exact hsafe k (hlate k hkn hlk) _ _ _ (inv.vals k e hkn hlk he) hkS
    ·rw [hseti] at hl
     cases hl
   ·refine wpOp_mono ?_ (hst i _ hK him a w hfe hdep inv.keep)
    rintro a' w' ⟨v, rfl, hv, hk⟩
    rw [hdi]
    refine ih (U.erase i) _ _ w' hlen (hnd.erase _) hU' ⟨inv.head.set hi hin, inv.defers, by simp [Act.put, inv.size], henv v, fun k e hkn hlk he => ?_, inv.keep.kept hk, fun hl => ?_⟩
    ·by_cases hki : k = i
     ·subst hki
      rw [hdi] at he
      injection he with he
      subst he
      rw [hself]
      exact hv
     ·rw [hsetk k hki] at hlk
      rw [hoth v k e hkn hki he]
      exact (knOf V k).st _ _ _ (inv.vals k e hkn hlk he) hk
    ·rw [hsetk m (fun h => him h.symm)] at hl
     exact (inv.kept hl).trans hk
theorem actV_filled {a : Act} {w : World} {ls : Array Bool} (hl : ∀ i, i < n → ls.getD i false = true) (inv : VInv ops V n m a0 w0 S ls a w) : a = ⟨(dstsOf ops n).foldl (fun t d => t.setIfInBounds d (a.tmps.getD d undef)) a0.tmps, a0.defers⟩ := by
 obtain ⟨t, df⟩ := a
 have h1 := inv.defers
 simp only at h1
 subst h1
 congr 1
 apply Array.ext_getElem?
 intro e
 rw [fold_slots]
 have hsz := inv.size
 simp only at hsz
 by_cases hm : e ∈ dstsOf ops n
 ·by_cases hlt : e < a0.tmps.size
  ·rw [if_pos ⟨hm, hlt⟩]
   have : e < t.size := by omega
   simp [this]
  ·rw [if_neg (fun h => hlt h.2), Array.getElem?_eq_none (by omega), Array.getElem?_eq_none (by omega)]
 ·rw [if_neg (fun h => hm h.1)]
  exact inv.env e (fun i hi _ h => hm (List.mem_filterMap.2 ⟨i, by simpa using hi, h⟩))
theorem wp_freeV {id : Nat} {a : Act} {w : World} {l : List Oper} (n m : Nat) (early : List Nat) (V : List Kn) (S : Nat → Prop) (hmo : P.follows Departure.mixedOrders = true) (hV : V.length = n) (hmn : m < n) (hB : freeB l.toArray n a.tmps.size = true) (hL : lateB l.toArray n m early = true)
  (hsafe : ∀ i, i ∈ early → (knOf V i).safe S) (hs : VSteps P l.toArray Q V n m a w S 0 V) (hm : VTurn P l.toArray Q V n a w S m (knOf V m))
  (hf : ∀ (g : Nat → Value) w', FVals l.toArray V g w' → Keep S w w' → wpList P l.toArray Q (l.drop n) ⟨(dstsOf l.toArray n).foldl (fun t d => t.setIfInBounds d (g d)) a.tmps, a.defers⟩ w') : (Code.region id l.toArray true).wp P Q a w := by
 have hB' := hB
 obtain ⟨hn, _, hseq, _⟩ := freeB_facts hB'
 have hn' : n ≤ l.length := by simpa using hn
 have hdl : (l.drop n).length = l.toArray.size - n := by simp
 refine wp_region_any hmo ?_
 have := freeV_go (P := P) (Q := Q) (w0 := w) early hV hmn hB hL hsafe (fun i K hK him => by
  have := vsteps_at V 0 hs i K hK (by omega)
  rwa [Nat.zero_add] at this) hm (fun b u inv => ?_) n (List.range n) (Array.replicate l.toArray.size false) a w.drew (by simp) List.nodup_range ?_ ?_
 ·have e : n + (l.toArray.size - n) = l.toArray.size := by omega
  rw [e] at this
  exact this
 ·have hl : ∀ i, i < n → (Array.replicate n true ++ Array.replicate (l.toArray.size - n) false).getD i false = true := by
   intro i hi
   have hlt : i < (Array.replicate n true ++ Array.replicate (l.toArray.size - n) false).size := by simp; omega
   rw [Array.getD, dif_pos hlt]
   show (Array.replicate n true ++ Array.replicate (l.toArray.size - n) false)[i] = true
   rw [Array.getElem_append_left (by simpa using hi)]
   simp
  have h4 := hf (fun d => b.tmps.getD d undef) u (fun i d hid => by
   simp only [Bool.and_eq_true, decide_eq_true_eq, beq_iff_eq] at hid
   exact inv.vals i d (by omega) (hl i (by omega)) hid.2) inv.keep
  rw [← actV_filled hl inv] at h4
  have := wpAny_of_seq (P := P) (md := .any) (ops := l.toArray) (Q' := Q) (l.drop n) n _ b u (fun j => by simp) (by rw [hdl]; exact hseq) h4
  rw [hdl] at this
  exact this
 ·intro i
  rw [List.mem_range]
  constructor
  ·intro hi
   exact ⟨hi, getD_in (by simp; omega) (getD_replicate_false _ _)⟩
  ·exact fun h => h.1
 ·refine ⟨⟨by simp, fun j oj _ hl => (by rw [getD_replicate_false] at hl; cases hl), fun t _ ht => getD_in (by simpa using ht) (getD_replicate_false _ _)⟩, rfl, rfl, fun _ _ => rfl, fun i d _ hl => (by rw [getD_replicate_false] at hl; cases hl), Keep.drew (Keep.refl _ w), fun _ => Keep.drew (Keep.refl _ w)⟩
variable {a : Act} {w : World} {o : Oper} {K : Kn}
theorem v_call (f : Nat) (args : Array Value) (ho : ops[m]? = some o) (hw : Region.wanted o (yielded ops a.tmps) = true) (h : (execOp a.eval o).run P w = .ok (.enter f args) w)
  (hc : Calls P f args w fun e w' => ∃ v, e = .returned v ∧ K.p v w' ∧ Keep S w w') : wpOp P ops Q m (fun a' w' => ∃ v, a' = a.put (dstOf ops m) v ∧ K.p v w' ∧ Keep S w w') a w := by
 unfold wpOp
 simp only [ho, hw, if_true]
 refine .inl ?_
 unfold Oper.wp
 rw [h, Oper.upon_enter]
 refine hc.mono ?_
 rintro e w' ⟨v, rfl, hv, hk⟩
 exact ⟨v, by simp [dstOf, ho], hv, hk⟩
end
end Go.Proofs.Ytfpfpmhkkgfdbaa
namespace Go.Proofs.Ytfpfpmhkkgfdbaa
open Go.RowKit
set_option maxRecDepth 100000
theorem restM_at {o : Ord} {R : List Lev} : ∀ {A : List Lev}, (∀ x ∈ A, bet o.side x.1 o.price = true) → restM o (A ++ R) = A ++ restM o R
 | [], _ => rfl
 | a :: A, hA => by
  rw [List.cons_append, restM, if_pos (hA a (by simp)), restM_at (fun x hx => hA x (by simp [hx]))]
  rfl
def Kn.newl (base : Nat) (pr : Int) : Kn := ⟨fun v w => ∃ q F, v = .pointer (some ⟨q, 0, none⟩) ∧ Lvl pr 110 112 w F q [] ∧ ∀ b, F b → base ≤ b, fun _ _ _ ⟨q, F, h1, h2, h3⟩ hk => ⟨q, F, h1, h2.kept hk, h3⟩⟩
def Kn.onel (base : Nat) (pr : Int) : Kn := ⟨fun v w => ∃ g q F, v = .slice (some ⟨g, 0, none⟩) 1 1 ∧ Blk w g 97 [.pointer (some ⟨q, 0, none⟩)] ∧ Lvl pr 110 112 w F q [] ∧ (∀ b, F b → base ≤ b) ∧ base ≤ g ∧ ¬ F g, fun _ _ _ ⟨g, q, F, h1, h2, h3, h4⟩ hk => ⟨g, q, F, h1, h2.kept hk, h3.kept hk, h4⟩⟩
theorem Kn.safe_newl {S : Nat → Prop} {base : Nat} {pr : Int} (h : ∀ b, base ≤ b → ¬ S b) : (Kn.newl base pr).safe S := fun _ _ _ ⟨q, F, h1, h2, h3⟩ hk => ⟨q, F, h1, h2.keep hk (fun b hb => h b (h3 b hb)), h3⟩
theorem Kn.safe_onel {S : Nat → Prop} {base : Nat} {pr : Int} (h : ∀ b, base ≤ b → ¬ S b) : (Kn.onel base pr).safe S := fun _ _ _ ⟨g, q, F, h1, h2, h3, h4, h5, h6⟩ hk => ⟨g, q, F, h1, h2.keep hk (h g h5), h3.keep hk (fun b hb => h b (h4 b hb)), h4, h5, h6⟩
def Kn.ins (base : Nat) (pr : Int) (v : Value) (n : Nat) (Z : Zs) (i : Nat) : Kn := ⟨fun v' w => ∃ q F, Sl w 97 1 v' (n + 1) (insP Z i q) ∧ Lvl pr 110 112 w F q [] ∧ (∀ b, F b → base ≤ b) ∧ ∀ b, v'.ownBlock = some b → (v.ownBlock = some b ∨ base ≤ b) ∧ ¬ F b, fun _ _ _ ⟨q, F, h1, h2, h3⟩ hk => ⟨q, F, h1.kept hk, h2.kept hk, h3⟩⟩
theorem ins_kn (u W : World) (v : Value) (n i : Nat) (Z : Zs) (g1 q : Nat) (pr : Int) (F : Nat → Prop) (hk : Kept W u) (hS : Sl W 97 1 v n (ptrs Z)) (hn : n ≤ 1000) (hi : i ≤ n) (h1 : Blk u g1 97 [.pointer (some ⟨q, 0, none⟩)]) (hl : Lvl pr 110 112 u F q []) (hf : ∀ b, F b → W.heap.size ≤ b) (hg : W.heap.size ≤ g1) (ho : ∀ b, v.ownBlock = some b → b < W.heap.size) :
  Calls Try.prog 92 #[v, .int .i64 (i : Int), .slice (some ⟨g1, 0, none⟩) 1 1] u fun e w' => ∃ v', e = .returned v' ∧ (Kn.ins W.heap.size pr v n Z i).p v' w' ∧ Keep (fun b => v.ownBlock = some b) u w' := by
 have hz := hk.size
 refine (linsert_any u v n i Z g1 q (hS.kept hk) hn hi h1 (fun b hb e => by have := ho b hb; omega)).mono ?_
 rintro r w' ⟨v', rfl, h2, h3, h4⟩
 refine ⟨v', rfl, ⟨q, F, h2, hl.keep h3 (fun b hb h => by have := ho b h; have := hf b hb; omega), hf, fun b hb => ⟨(h4 b hb).imp id (fun h => by omega), fun h => ?_⟩⟩, h3⟩
 rcases h4 b hb with h5 | h5
 ·have := ho b h5
  have := hf b h
  omega
 ·have := hl.2.1 b h
  omega
def AtIn (w : World) (Fs : Nat → Prop) (p : Nat) (s : Int) (u0 : Value) (last no : Int) (L : List Lev) (price : Int) (r : Ending) (w' : World) : Prop :=
 ∃ q X ZA ZR v' Fs' G', r = .returned (.pointer (some ⟨q, 0, none⟩)) ∧ WayZ 110 112 97 w' Fs' v' (ZA ++ (q, price, X) :: ZR) G' ∧ Blk w' p 75 (sideCs s v' u0 last no) ∧ Grow w Fs Fs' ∧ Keep (fun b => Fs b ∨ b = p) w w' ∧ X.length ≤ 64 ∧ ∀ o : Ord, o.side = s → o.price = price → restM o L = levs ZA ++ (price, X ++ [Ent.of o]) :: levs ZR
set_option maxRecDepth 100000 in
set_option maxHeartbeats 3200000 in
theorem at_any (w : World) (Fs : Nat → Prop) (p : Nat) (s price : Int) (v u0 : Value) (last no : Int) (Z : Zs) (G : Nat → Nat → Prop) (L : List Lev) (hs : s = 1 ∨ s = 2) (hW : WayZ 110 112 97 w Fs v Z G) (hB : Blk w p 75 (sideCs s v u0 last no)) (hFs : ∀ b, Fs b → b ≠ p) (eL : levs Z = L) (hL : LvsOk L) :
  Calls Try.prog 70 #[.pointer (some ⟨p, offS s, none⟩), .int .i64 price] w (AtIn w Fs p s u0 last no L price) := by
 have hn64 : Z.length ≤ 64 := by have := hL.len; rw [← eL, levs_len] at this; exact this
 have HV : Hid (w.cell? ⟨p, offS s + 1, none⟩ = some v) := by show _ = _; rw [hB.cell]; exact sideCs_get s _ _ _ _
 have HS : Hid (w.cell? ⟨p, offS s, none⟩ = some (.int .i64 s)) := by show _ = _; rw [hB.cell]; exact sideCs_side hs _ _ _ _
 have HB := Lib.hid hB
 have HW := Lib.hid hW
 have HL := Lib.hid hL
 have EL := Lib.hid eL
 obtain ⟨n, hn⟩ : ∃ n, Z.length = n := ⟨_, rfl⟩
 have HSL := Lib.hid hW.sl
 rw [hn] at HSL hn64
 have HN := Lib.hid hn
 have hpl := hB.lt
 have ho3 := offS_le s
 clear hB hW hL eL hn
 go_enter Try.func70, Try.ntmps70
 go_upto_region 1 with fail
 refine wp_text 1 [.eq (.int .i64 0)] rfl (by kernel_rfl) ?_ ?_
 ·refine sv 1 rfl rfl rfl (fun a u hE hD hk => exec_assign (.const (.int .i64 0)) _ rfl rfl) ?_
  exact fsteps_nil
 intro gv w0 hV k0
 rw [show dstsOf _ 1 = [5] by kernel_rfl]
 simp only [fC, fN, sA, sS, sZ, dS, dZ]
 rw [show gv 5 = .int .i64 0 from hV 0 5 (by kernel_rfl)]
 clear hV
 refine wpList_nil ?_
 go_wp2_with fail
 go_loopw [5] (fun x wr => ∃ (k : Nat), k ≤ n ∧ x = .int .i64 k ∧ Hid (∀ x ∈ L.take k, bet s x.1 price = true) ∧ Kept w wr) (fun x _ => n - (intOf x).toNat)
 case atStart => exact ⟨0, Nat.zero_le _, rfl, by intro x hx; simp at hx, k0⟩
 case round =>
  obtain ⟨i, hi, rfl, HM, hkr⟩ := hrel
  have HVr := Lib.hid (hkr.cell HV.out)
  have HSr := Lib.hid (hkr.cell HS.out)
  by_cases hlt : i < n
  ·skip
   obtain ⟨gs, os, c, rfl⟩ := HSL.out.some_ (by omega)
   obtain ⟨z, hz⟩ : ∃ z, Z[i]? = some z := ⟨Z[i]'(by rw [HN.out]; omega), List.getElem?_eq_getElem (by rw [HN.out]; omega)⟩
   obtain ⟨q, pr, X⟩ := z
   have HC := Lib.hid ((HW.out.kept hkr).cell hz)
   have HZ := Lib.hid (split_at hz)
   have HLV := Lib.hid ((HW.out.kept hkr).lv (q, pr, X) (List.mem_of_getElem? hz))
   have HX := Lib.hid (HL.out.one (l := (pr, X)) (by rw [← EL.out]; exact levs_mem (List.mem_of_getElem? hz)))
   have HA : Hid (L[i]? = some (pr, X)) := by show _ = _; rw [← EL.out]; exact levs_at hz
   clear hz
   go_upto_region 2 with fail
   refine wp_free 22 [.eq (.int .i64 (i : Int)), .eq (.pointer (some ⟨p, offS s, none⟩)), .eq (.pointer (some ⟨p, offS s, none⟩)), .eq (.pointer (some ⟨p, offS s + 1, none⟩)), .eq (.slice (some ⟨gs, os, none⟩) n c), .eq (.int .i64 (n : Int)), .eq (.bool true), .eq (.bool true), .eq (.pointer (some ⟨p, offS s, none⟩)), .eq (.pointer (some ⟨p, offS s, none⟩)), .eq (.pointer (some ⟨p, offS s, none⟩)), .eq (.int .i64 s), .eq (.pointer (some ⟨p, offS s, none⟩)), .eq (.pointer (some ⟨p, offS s, none⟩)), .eq (.pointer (some ⟨p, offS s + 1, none⟩)), .eq (.slice (some ⟨gs, os, none⟩) n c), .eq (.int .i64 (i : Int)), .eq (.pointer (some ⟨gs, os + i * 1, none⟩)), .eq (.pointer (some ⟨q, 0, none⟩)), .eq (.int .i64 pr), .eq (.int .i64 price), .eq (.bool (bet s pr price))] (by kernel_rfl) rfl (by kernel_rfl) ?_ ?_
   ·refine sv 1 rfl rfl rfl (fun a u hE hD hk => exec_move (.tmp 5) _ rfl (hE 5 (.int .i64 (i : Int)) (by kernel_rfl) (by kernel_rfl))) ?_
    refine sv 2 rfl rfl rfl (fun a u hE hD hk => exec_move (.tmp 0) _ rfl (hE 0 (.pointer (some ⟨p, offS s, none⟩)) (by kernel_rfl) (by kernel_rfl))) ?_
    refine sv 3 rfl rfl rfl (fun a u hE hD hk => exec_nilp (.tmp 7) ⟨p, offS s, none⟩ rfl (hD 1 7 (by kernel_rfl))) ?_
    refine sv 4 rfl rfl rfl (fun a u hE hD hk => exec_fldo 73 1 1 (.tmp 8) (p) (offS s) (offS s + 1) rfl (hD 2 8 (by kernel_rfl)) (by kernel_rfl) rfl) ?_
    refine sv 5 rfl rfl rfl (fun a u hE hD hk => exec_ldv 71 _ Try.underlying71 (.tmp 9) ⟨p, offS s + 1, none⟩ (.slice (some ⟨gs, os, none⟩) n c) rfl (hD 3 9 (by kernel_rfl)) (Kept.cell hk (HVr.out))) ?_
    refine sv 6 rfl rfl rfl (fun a u hE hD hk => exec_len (.tmp 10) _ _ slQ.und (some ⟨gs, os, none⟩) n c rfl (hD 4 10 (by kernel_rfl))) ?_
    refine fsteps_cons 7 rfl (fun a u hE hD hk => f_as (show ((decide (((i : Int) : Int) < ((n : Int) : Int))) : Bool) = true from decide_eq_true (by omega)) (f_val (o := ⟨some 12, _, _, _, _, _⟩) (.bool (decide (((i : Int) : Int) < ((n : Int) : Int)))) rfl (wanted_none rfl _) (exec_ltn (p := (i : Int)) (q := (n : Int)) rfl (hD 0 6 (by kernel_rfl)) (hD 5 11 (by kernel_rfl))) rfl)) ?_
    refine sv 8 rfl rfl rfl (fun a u hE hD hk => exec_move (.tmp 12) _ rfl (hD 6 12 (by kernel_rfl))) ?_
    refine fsteps_cons 9 rfl (fun a u hE hD hk => f_val (o := ⟨some 14, _, _, _, _, _⟩) (.pointer (some ⟨p, offS s, none⟩)) rfl (wanted_at (b := true) true rfl rfl (hD 7 13 (by kernel_rfl))) (exec_move (.tmp 0) _ rfl (hE 0 (.pointer (some ⟨p, offS s, none⟩)) (by kernel_rfl) (by kernel_rfl))) rfl) ?_
    refine fsteps_cons 10 rfl (fun a u hE hD hk => f_val (o := ⟨some 15, _, _, _, _, _⟩) (.pointer (some ⟨p, offS s, none⟩)) rfl (wanted_at (b := true) true rfl rfl (hD 7 13 (by kernel_rfl))) (exec_nilp (.tmp 14) ⟨p, offS s, none⟩ rfl (hD 8 14 (by kernel_rfl))) rfl) ?_
    refine fsteps_cons 11 rfl (fun a u hE hD hk => f_val (o := ⟨some 16, _, _, _, _, _⟩) (.pointer (some ⟨p, offS s, none⟩)) rfl (wanted_at (b := true) true rfl rfl (hD 7 13 (by kernel_rfl))) (exec_fldo 73 0 0 (.tmp 15) (p) (offS s) (offS s) rfl (hD 9 15 (by kernel_rfl)) (by kernel_rfl) rfl) rfl) ?_
    refine fsteps_cons 12 rfl (fun a u hE hD hk => f_val (o := ⟨some 17, _, _, _, _, _⟩) (.int .i64 s) rfl (wanted_at (b := true) true rfl rfl (hD 7 13 (by kernel_rfl))) (exec_loadi 3 Try.underlying3 (.tmp 16) ⟨p, offS s, none⟩ (.int .i64 s) rfl (hD 10 16 (by kernel_rfl)) (Kept.cell hk (HSr.out))) rfl) ?_
    refine fsteps_cons 13 rfl (fun a u hE hD hk => f_val (o := ⟨some 18, _, _, _, _, _⟩) (.pointer (some ⟨p, offS s, none⟩)) rfl (wanted_at (b := true) true rfl rfl (hD 7 13 (by kernel_rfl))) (exec_move (.tmp 0) _ rfl (hE 0 (.pointer (some ⟨p, offS s, none⟩)) (by kernel_rfl) (by kernel_rfl))) rfl) ?_
    refine fsteps_cons 14 rfl (fun a u hE hD hk => f_val (o := ⟨some 19, _, _, _, _, _⟩) (.pointer (some ⟨p, offS s, none⟩)) rfl (wanted_at (b := true) true rfl rfl (hD 7 13 (by kernel_rfl))) (exec_nilp (.tmp 18) ⟨p, offS s, none⟩ rfl (hD 12 18 (by kernel_rfl))) rfl) ?_
    refine fsteps_cons 15 rfl (fun a u hE hD hk => f_val (o := ⟨some 20, _, _, _, _, _⟩) (.pointer (some ⟨p, offS s + 1, none⟩)) rfl (wanted_at (b := true) true rfl rfl (hD 7 13 (by kernel_rfl))) (exec_fldo 73 1 1 (.tmp 19) (p) (offS s) (offS s + 1) rfl (hD 13 19 (by kernel_rfl)) (by kernel_rfl) rfl) rfl) ?_
    refine fsteps_cons 16 rfl (fun a u hE hD hk => f_val (o := ⟨some 21, _, _, _, _, _⟩) (.slice (some ⟨gs, os, none⟩) n c) rfl (wanted_at (b := true) true rfl rfl (hD 7 13 (by kernel_rfl))) (exec_ldv 71 _ Try.underlying71 (.tmp 20) ⟨p, offS s + 1, none⟩ (.slice (some ⟨gs, os, none⟩) n c) rfl (hD 14 20 (by kernel_rfl)) (Kept.cell hk (HVr.out))) rfl) ?_
    refine fsteps_cons 17 rfl (fun a u hE hD hk => f_val (o := ⟨some 22, _, _, _, _, _⟩) (.int .i64 (i : Int)) rfl (wanted_at (b := true) true rfl rfl (hD 7 13 (by kernel_rfl))) (exec_move (.tmp 5) _ rfl (hE 5 (.int .i64 (i : Int)) (by kernel_rfl) (by kernel_rfl))) rfl) ?_
    refine fsteps_cons 18 rfl (fun a u hE hD hk => f_val (o := ⟨some 23, _, _, _, _, _⟩) (.pointer (some ⟨gs, os + i * 1, none⟩)) rfl (wanted_at (b := true) true rfl rfl (hD 7 13 (by kernel_rfl))) (exec_ixo slQ (.tmp 21) (.tmp 22) (gs) (os) n c i (os + i * 1) ((i : Int)) rfl (hD 15 21 (by kernel_rfl)) (hD 16 22 (by kernel_rfl)) (by first | rfl | omega) (hlt) (by first | rfl | omega)) rfl) ?_
    refine fsteps_cons 19 rfl (fun a u hE hD hk => f_val (o := ⟨some 24, _, _, _, _, _⟩) (.pointer (some ⟨q, 0, none⟩)) rfl (wanted_at (b := true) true rfl rfl (hD 7 13 (by kernel_rfl))) (exec_ldp 97 _ Try.underlying97 (.tmp 23) ⟨gs, os + i * 1, none⟩ (.pointer (some ⟨q, 0, none⟩)) rfl (hD 17 23 (by kernel_rfl)) (Kept.cell hk (HC.out))) rfl) ?_
    refine fsteps_cons 20 rfl (fun a u hE hD hk => f_call (o := ⟨some 25, _, _, _, _, _⟩) 68 #[.pointer (some ⟨q, 0, none⟩)] rfl (wanted_at (b := true) true rfl rfl (hD 7 13 (by kernel_rfl))) (exec_call 68 _ [.tmp 24] _ [.pointer (some ⟨q, 0, none⟩)] Try.func68 (by kernel_rfl) (by kernel_rfl) rfl (show [a.eval (.tmp 24)] = [.pointer (some ⟨q, 0, none⟩)] from (by rw [show a.eval (.tmp 24) = .pointer (some ⟨q, 0, none⟩) from (hD 18 24 (by kernel_rfl))] <;> rfl)) u) (price_any u _ q X (HLV.out.kept hk))) ?_
    refine fsteps_cons 21 rfl (fun a u hE hD hk => f_val (o := ⟨some 26, _, _, _, _, _⟩) (.int .i64 price) rfl (wanted_at (b := true) true rfl rfl (hD 7 13 (by kernel_rfl))) (exec_move (.tmp 1) _ rfl (hE 1 (.int .i64 price) (by kernel_rfl) (by kernel_rfl))) rfl) ?_
    refine fsteps_cons 22 rfl (fun a u hE hD hk => f_call (o := ⟨some 27, _, _, _, _, _⟩) 36 #[.int .i64 s, .int .i64 pr, .int .i64 price] rfl (wanted_at (b := true) true rfl rfl (hD 7 13 (by kernel_rfl))) (exec_call 36 _ [.tmp 17, .tmp 25, .tmp 26] _ [.int .i64 s, .int .i64 pr, .int .i64 price] Try.func36 (by kernel_rfl) (by kernel_rfl) rfl (show [a.eval (.tmp 17), a.eval (.tmp 25), a.eval (.tmp 26)] = [.int .i64 s, .int .i64 pr, .int .i64 price] from (by rw [show a.eval (.tmp 17) = .int .i64 s from (hD 11 17 (by kernel_rfl)), show a.eval (.tmp 25) = .int .i64 pr from (hD 19 25 (by kernel_rfl)), show a.eval (.tmp 26) = .int .i64 price from (hD 20 26 (by kernel_rfl))] <;> rfl)) u) (better_any s pr price u)) ?_
    exact fsteps_nil
   intro gv w1 hV k1
   rw [show dstsOf _ 22 = [6, 7, 8, 9, 10, 11, 12, 13, 14, 15, 16, 17, 18, 19, 20, 21, 22, 23, 24, 25, 26, 27] by kernel_rfl]
   simp only [fC, fN, sA, sS, sZ, dS, dZ]
   rw [show gv 13 = .bool true from hV 7 13 (by kernel_rfl)]
   rw [show gv 27 = .bool (bet s pr price) from hV 21 27 (by kernel_rfl)]
   clear hV
   refine l_val (o := ⟨some 28, _, _, _, _, _⟩) (.bool (bet s pr price)) rfl (exec_pick (.tmp 13) (.tmp 27) (.const (.bool false)) (.bool (bet s pr price)) rfl (by kernel_rfl) (by kernel_rfl)) ?_
   simp only [Act.put, sA, sS, sZ]
   refine wpList_nil ?_
   have kw1 := hkr.trans k1
   have HC1 := Lib.hid (k1.cell HC.out)
   have HLV1 := Lib.hid (HLV.out.kept k1)
   have HV1 := Lib.hid (kw1.cell HV.out)
   have HSL1 := Lib.hid (HSL.out.kept kw1)
   clear HC HLV HVr HSr k1
   cases hb : bet s pr price with
   | true =>
    have HM1 : Hid (∀ x ∈ L.take (i + 1), bet s x.1 price = true) := by
     intro x hx
     rw [List.take_add_one, HA.out] at hx
     rcases List.mem_append.1 hx with hx | hx
     ·exact HM.out x hx
     ·simp at hx
      subst hx
      exact hb
    clear HM hb
    go_wp2
    exact ⟨⟨i + 1, by omega, by go_num, HM1, kw1⟩, by simp [intOf]; omega⟩
   | false =>
    have HD : Hid (L = levs (Z.take i) ++ (pr, X) :: levs (Z.drop (i + 1))) := by
     show _ = _
     rw [← EL.out]
     conv => lhs; rw [HZ.out]
     rw [levs_append, levs_cons]
    have HT : Hid (∀ x ∈ levs (Z.take i), bet s x.1 price = true) := by
     have e2 : L.take i = levs (Z.take i) := by rw [← EL.out]; simp [levs, List.map_take]
     rw [e2] at HM
     exact HM.out
    have HBF := Lib.hid hb
    clear hb HM
    by_cases hpr : pr = price
    ·have HPR := Lib.hid hpr
     clear hpr
     go_upto_region 4 with fail
     refine wp_text 19 [.eq (.int .i64 (i : Int)), .eq (.pointer (some ⟨p, offS s, none⟩)), .eq (.pointer (some ⟨p, offS s, none⟩)), .eq (.pointer (some ⟨p, offS s + 1, none⟩)), .eq (.slice (some ⟨gs, os, none⟩) n c), .eq (.int .i64 (n : Int)), .eq (.bool false), .eq (.bool false), .eq (.pointer (some ⟨p, offS s, none⟩)), .eq (.pointer (some ⟨p, offS s, none⟩)), .eq (.pointer (some ⟨p, offS s + 1, none⟩)), .eq (.slice (some ⟨gs, os, none⟩) n c), .eq (.int .i64 (i : Int)), .eq (.pointer (some ⟨gs, os + i * 1, none⟩)), .eq (.pointer (some ⟨q, 0, none⟩)), .eq (.int .i64 pr), .eq (.int .i64 price), .eq (.bool false), .eq (.bool false)] rfl (by kernel_rfl) ?_ ?_
     ·refine sv 1 rfl rfl rfl (fun a u hE hD hk => exec_move (.tmp 5) _ rfl (hE 5 (.int .i64 (i : Int)) (by kernel_rfl) (by kernel_rfl))) ?_
      refine sv 2 rfl rfl rfl (fun a u hE hD hk => exec_move (.tmp 0) _ rfl (hE 0 (.pointer (some ⟨p, offS s, none⟩)) (by kernel_rfl) (by kernel_rfl))) ?_
      refine sv 3 rfl rfl rfl (fun a u hE hD hk => exec_nilp (.tmp 32) ⟨p, offS s, none⟩ rfl (hD 1 32 (by kernel_rfl))) ?_
      refine sv 4 rfl rfl rfl (fun a u hE hD hk => exec_fldo 73 1 1 (.tmp 33) (p) (offS s) (offS s + 1) rfl (hD 2 33 (by kernel_rfl)) (by kernel_rfl) rfl) ?_
      refine sv 5 rfl rfl rfl (fun a u hE hD hk => exec_ldv 71 _ Try.underlying71 (.tmp 34) ⟨p, offS s + 1, none⟩ (.slice (some ⟨gs, os, none⟩) n c) rfl (hD 3 34 (by kernel_rfl)) (Kept.cell hk (HV1.out))) ?_
      refine sv 6 rfl rfl rfl (fun a u hE hD hk => exec_lenS (.tmp 35) slQ (.slice (some ⟨gs, os, none⟩) n c) (n) _ _ rfl (hD 4 35 (by kernel_rfl)) HSL1.out) ?_
      refine fsteps_cons 7 rfl (fun a u hE hD hk => f_as (show ((decide (((i : Int) : Int) = ((n : Int) : Int))) : Bool) = false from decide_eq_false (by omega)) (f_val (o := ⟨some 37, _, _, _, _, _⟩) (.bool (decide (((i : Int) : Int) = ((n : Int) : Int)))) rfl (wanted_none rfl _) (exec_eqn (p := (i : Int)) (q := (n : Int)) rfl (hD 0 31 (by kernel_rfl)) (hD 5 36 (by kernel_rfl))) rfl)) ?_
      refine sv 8 rfl rfl rfl (fun a u hE hD hk => exec_move (.tmp 37) _ rfl (hD 6 37 (by kernel_rfl))) ?_
      refine fsteps_cons 9 rfl (fun a u hE hD hk => f_val (o := ⟨some 39, _, _, _, _, _⟩) (.pointer (some ⟨p, offS s, none⟩)) rfl (wanted_at (b := false) false rfl rfl (hD 7 38 (by kernel_rfl))) (exec_move (.tmp 0) _ rfl (hE 0 (.pointer (some ⟨p, offS s, none⟩)) (by kernel_rfl) (by kernel_rfl))) rfl) ?_
      refine fsteps_cons 10 rfl (fun a u hE hD hk => f_val (o := ⟨some 40, _, _, _, _, _⟩) (.pointer (some ⟨p, offS s, none⟩)) rfl (wanted_at (b := false) false rfl rfl (hD 7 38 (by kernel_rfl))) (exec_nilp (.tmp 39) ⟨p, offS s, none⟩ rfl (hD 8 39 (by kernel_rfl))) rfl) ?_
      refine fsteps_cons 11 rfl (fun a u hE hD hk => f_val (o := ⟨some 41, _, _, _, _, _⟩) (.pointer (some ⟨p, offS s + 1, none⟩)) rfl (wanted_at (b := false) false rfl rfl (hD 7 38 (by kernel_rfl))) (exec_fldo 73 1 1 (.tmp 40) (p) (offS s) (offS s + 1) rfl (hD 9 40 (by kernel_rfl)) (by kernel_rfl) rfl) rfl) ?_
      refine fsteps_cons 12 rfl (fun a u hE hD hk => f_val (o := ⟨some 42, _, _, _, _, _⟩) (.slice (some ⟨gs, os, none⟩) n c) rfl (wanted_at (b := false) false rfl rfl (hD 7 38 (by kernel_rfl))) (exec_ldv 71 _ Try.underlying71 (.tmp 41) ⟨p, offS s + 1, none⟩ (.slice (some ⟨gs, os, none⟩) n c) rfl (hD 10 41 (by kernel_rfl)) (Kept.cell hk (HV1.out))) rfl) ?_
      refine fsteps_cons 13 rfl (fun a u hE hD hk => f_val (o := ⟨some 43, _, _, _, _, _⟩) (.int .i64 (i : Int)) rfl (wanted_at (b := false) false rfl rfl (hD 7 38 (by kernel_rfl))) (exec_move (.tmp 5) _ rfl (hE 5 (.int .i64 (i : Int)) (by kernel_rfl) (by kernel_rfl))) rfl) ?_
      refine fsteps_cons 14 rfl (fun a u hE hD hk => f_val (o := ⟨some 44, _, _, _, _, _⟩) (.pointer (some ⟨gs, os + i * 1, none⟩)) rfl (wanted_at (b := false) false rfl rfl (hD 7 38 (by kernel_rfl))) (exec_ixo slQ (.tmp 42) (.tmp 43) (gs) (os) n c i (os + i * 1) ((i : Int)) rfl (hD 11 42 (by kernel_rfl)) (hD 12 43 (by kernel_rfl)) (by first | rfl | omega) (hlt) (by first | rfl | omega)) rfl) ?_
      refine fsteps_cons 15 rfl (fun a u hE hD hk => f_val (o := ⟨some 45, _, _, _, _, _⟩) (.pointer (some ⟨q, 0, none⟩)) rfl (wanted_at (b := false) false rfl rfl (hD 7 38 (by kernel_rfl))) (exec_ldp 97 _ Try.underlying97 (.tmp 44) ⟨gs, os + i * 1, none⟩ (.pointer (some ⟨q, 0, none⟩)) rfl (hD 13 44 (by kernel_rfl)) (Kept.cell hk (HC1.out))) rfl) ?_
      refine fsteps_cons 16 rfl (fun a u hE hD hk => f_call (o := ⟨some 46, _, _, _, _, _⟩) 68 #[.pointer (some ⟨q, 0, none⟩)] rfl (wanted_at (b := false) false rfl rfl (hD 7 38 (by kernel_rfl))) (exec_call 68 _ [.tmp 45] _ [.pointer (some ⟨q, 0, none⟩)] Try.func68 (by kernel_rfl) (by kernel_rfl) rfl (show [a.eval (.tmp 45)] = [.pointer (some ⟨q, 0, none⟩)] from (by rw [show a.eval (.tmp 45) = .pointer (some ⟨q, 0, none⟩) from (hD 14 45 (by kernel_rfl))] <;> rfl)) u) (price_any u _ q X (HLV1.out.kept hk))) ?_
      refine fsteps_cons 17 rfl (fun a u hE hD hk => f_val (o := ⟨some 47, _, _, _, _, _⟩) (.int .i64 price) rfl (wanted_at (b := false) false rfl rfl (hD 7 38 (by kernel_rfl))) (exec_move (.tmp 1) _ rfl (hE 1 (.int .i64 price) (by kernel_rfl) (by kernel_rfl))) rfl) ?_
      refine fsteps_cons 18 rfl (fun a u hE hD hk => f_as (show ((decide ((pr : Int) ≠ (price : Int))) : Bool) = false from decide_eq_false (by have := HPR.out; omega)) (f_val (o := ⟨some 48, _, _, _, _, _⟩) (.bool (decide ((pr : Int) ≠ (price : Int)))) rfl (wanted_at (b := false) false rfl rfl (hD 7 38 (by kernel_rfl))) (exec_nen (p := pr) (q := price) rfl (hD 15 46 (by kernel_rfl)) (hD 16 47 (by kernel_rfl))) rfl)) ?_
      refine sv 19 rfl rfl rfl (fun a u hE hD hk => exec_pickF (.tmp 38) (.const (.bool true)) (.tmp 48) (.bool false) rfl (hD 7 38 (by kernel_rfl)) (hD 17 48 (by kernel_rfl))) ?_
      exact fsteps_nil
     intro gv w2 hV kw2
     rw [show dstsOf _ 19 = [31, 32, 33, 34, 35, 36, 37, 38, 39, 40, 41, 42, 43, 44, 45, 46, 47, 48, 49] by kernel_rfl]
     simp only [fC, fN, sA, sS, sZ, dS, dZ]
     rw [show gv 49 = .bool false from hV 18 49 (by kernel_rfl)]
     clear hV
     refine wpList_nil ?_
     have kw2 := kw1.trans kw2
     have HV2 := Lib.hid (kw2.cell HV.out)
     have HC2 := Lib.hid ((HW.out.kept kw2).cell (z := (q, pr, X)) (i := i) (by rw [HZ.out, List.getElem?_append_right (by rw [List.length_take]; omega), List.length_take, HN.out, Nat.min_eq_left (by omega), Nat.sub_self]; rfl))
     clear HV1 HC1 HLV1 HSL1
     go_upto_region 6 with fail
     refine wp_text 8 [.eq (.pointer (some ⟨p, offS s, none⟩)), .eq (.pointer (some ⟨p, offS s, none⟩)), .eq (.pointer (some ⟨p, offS s + 1, none⟩)), .eq (.slice (some ⟨gs, os, none⟩) n c), .eq (.int .i64 (i : Int)), .eq (.pointer (some ⟨gs, os + i * 1, none⟩)), .eq (.pointer (some ⟨q, 0, none⟩)), .eq (.pointer (some ⟨q, 0, none⟩))] rfl (by kernel_rfl) ?_ ?_
     ·refine sv 1 rfl rfl rfl (fun a u hE hD hk => exec_move (.tmp 0) _ rfl (hE 0 (.pointer (some ⟨p, offS s, none⟩)) (by kernel_rfl) (by kernel_rfl))) ?_
      refine sv 2 rfl rfl rfl (fun a u hE hD hk => exec_nilp (.tmp 62) ⟨p, offS s, none⟩ rfl (hD 0 62 (by kernel_rfl))) ?_
      refine sv 3 rfl rfl rfl (fun a u hE hD hk => exec_fldo 73 1 1 (.tmp 63) (p) (offS s) (offS s + 1) rfl (hD 1 63 (by kernel_rfl)) (by kernel_rfl) rfl) ?_
      refine sv 4 rfl rfl rfl (fun a u hE hD hk => exec_ldv 71 _ Try.underlying71 (.tmp 64) ⟨p, offS s + 1, none⟩ (.slice (some ⟨gs, os, none⟩) n c) rfl (hD 2 64 (by kernel_rfl)) (Kept.cell hk (HV2.out))) ?_
      refine sv 5 rfl rfl rfl (fun a u hE hD hk => exec_move (.tmp 5) _ rfl (hE 5 (.int .i64 (i : Int)) (by kernel_rfl) (by kernel_rfl))) ?_
      refine sv 6 rfl rfl rfl (fun a u hE hD hk => exec_ixo slQ (.tmp 65) (.tmp 66) (gs) (os) n c i (os + i * 1) ((i : Int)) rfl (hD 3 65 (by kernel_rfl)) (hD 4 66 (by kernel_rfl)) (by first | rfl | omega) (hlt) (by first | rfl | omega)) ?_
      refine sv 7 rfl rfl rfl (fun a u hE hD hk => exec_ldp 97 _ Try.underlying97 (.tmp 67) ⟨gs, os + i * 1, none⟩ (.pointer (some ⟨q, 0, none⟩)) rfl (hD 5 67 (by kernel_rfl)) (Kept.cell hk (HC2.out))) ?_
      refine sv 8 rfl rfl rfl (fun a u hE hD hk => exec_assign (.tmp 68) _ rfl (hD 6 68 (by kernel_rfl))) ?_
      exact fsteps_nil
     intro gv wz hV kz
     rw [show dstsOf _ 8 = [62, 63, 64, 65, 66, 67, 68, 4] by kernel_rfl]
     simp only [fC, fN, sA, sS, sZ, dS, dZ]
     rw [show gv 4 = .pointer (some ⟨q, 0, none⟩) from hV 7 4 (by kernel_rfl)]
     clear hV
     refine wpList_nil ?_
     have kwz := kw2.trans kz
     have HR : Hid (∀ o : Ord, o.side = s → o.price = price → restM o L = levs (Z.take i) ++ (price, X ++ [Ent.of o]) :: levs (Z.drop (i + 1))) := fun o h1 h2 => by
      rw [HD.out, restM_at (by rw [h1, h2]; exact HT.out), restM, h1, h2, if_neg (by rw [HBF.out]; simp), if_pos HPR.out, HPR.out]
     have HWz : Hid (WayZ 110 112 97 wz Fs (.slice (some ⟨gs, os, none⟩) n c) (Z.take i ++ (q, price, X) :: Z.drop (i + 1)) G) := by show WayZ _ _ _ _ _ _ _ _; rw [← HPR.out, ← HZ.out]; exact HW.out.kept kwz
     have HBz := Lib.hid (HB.out.kept kwz)
     clear kz
     go_wp2
     go_ret
     exact ⟨q, X, Z.take i, Z.drop (i + 1), _, Fs, G, rfl, HWz.out, HBz.out, Grow.refl _ _, Keep.mono (T := fun b => Fs b ∨ b = p) kwz (fun _ _ h => h.elim), HX.out, HR.out⟩
    ·skip
     go_upto_region 4 with fail
     refine wp_text 19 [.eq (.int .i64 (i : Int)), .eq (.pointer (some ⟨p, offS s, none⟩)), .eq (.pointer (some ⟨p, offS s, none⟩)), .eq (.pointer (some ⟨p, offS s + 1, none⟩)), .eq (.slice (some ⟨gs, os, none⟩) n c), .eq (.int .i64 (n : Int)), .eq (.bool false), .eq (.bool false), .eq (.pointer (some ⟨p, offS s, none⟩)), .eq (.pointer (some ⟨p, offS s, none⟩)), .eq (.pointer (some ⟨p, offS s + 1, none⟩)), .eq (.slice (some ⟨gs, os, none⟩) n c), .eq (.int .i64 (i : Int)), .eq (.pointer (some ⟨gs, os + i * 1, none⟩)), .eq (.pointer (some ⟨q, 0, none⟩)), .eq (.int .i64 pr), .eq (.int .i64 price), .eq (.bool true), .eq (.bool true)] rfl (by kernel_rfl) ?_ ?_
     ·refine sv 1 rfl rfl rfl (fun a u hE hD hk => exec_move (.tmp 5) _ rfl (hE 5 (.int .i64 (i : Int)) (by kernel_rfl) (by kernel_rfl))) ?_
      refine sv 2 rfl rfl rfl (fun a u hE hD hk => exec_move (.tmp 0) _ rfl (hE 0 (.pointer (some ⟨p, offS s, none⟩)) (by kernel_rfl) (by kernel_rfl))) ?_
      refine sv 3 rfl rfl rfl (fun a u hE hD hk => exec_nilp (.tmp 32) ⟨p, offS s, none⟩ rfl (hD 1 32 (by kernel_rfl))) ?_
      refine sv 4 rfl rfl rfl (fun a u hE hD hk => exec_fldo 73 1 1 (.tmp 33) (p) (offS s) (offS s + 1) rfl (hD 2 33 (by kernel_rfl)) (by kernel_rfl) rfl) ?_
      refine sv 5 rfl rfl rfl (fun a u hE hD hk => exec_ldv 71 _ Try.underlying71 (.tmp 34) ⟨p, offS s + 1, none⟩ (.slice (some ⟨gs, os, none⟩) n c) rfl (hD 3 34 (by kernel_rfl)) (Kept.cell hk (HV1.out))) ?_
      refine sv 6 rfl rfl rfl (fun a u hE hD hk => exec_lenS (.tmp 35) slQ (.slice (some ⟨gs, os, none⟩) n c) (n) _ _ rfl (hD 4 35 (by kernel_rfl)) HSL1.out) ?_
      refine fsteps_cons 7 rfl (fun a u hE hD hk => f_as (show ((decide (((i : Int) : Int) = ((n : Int) : Int))) : Bool) = false from decide_eq_false (by omega)) (f_val (o := ⟨some 37, _, _, _, _, _⟩) (.bool (decide (((i : Int) : Int) = ((n : Int) : Int)))) rfl (wanted_none rfl _) (exec_eqn (p := (i : Int)) (q := (n : Int)) rfl (hD 0 31 (by kernel_rfl)) (hD 5 36 (by kernel_rfl))) rfl)) ?_
      refine sv 8 rfl rfl rfl (fun a u hE hD hk => exec_move (.tmp 37) _ rfl (hD 6 37 (by kernel_rfl))) ?_
      refine fsteps_cons 9 rfl (fun a u hE hD hk => f_val (o := ⟨some 39, _, _, _, _, _⟩) (.pointer (some ⟨p, offS s, none⟩)) rfl (wanted_at (b := false) false rfl rfl (hD 7 38 (by kernel_rfl))) (exec_move (.tmp 0) _ rfl (hE 0 (.pointer (some ⟨p, offS s, none⟩)) (by kernel_rfl) (by kernel_rfl))) rfl) ?_
      refine fsteps_cons 10 rfl (fun a u hE hD hk => f_val (o := ⟨some 40, _, _, _, _, _⟩) (.pointer (some ⟨p, offS s, none⟩)) rfl (wanted_at (b := false) false rfl rfl (hD 7 38 (by kernel_rfl))) (exec_nilp (.tmp 39) ⟨p, offS s, none⟩ rfl (hD 8 39 (by kernel_rfl))) rfl) ?_
      refine fsteps_cons 11 rfl (fun a u hE hD hk => f_val (o := ⟨some 41, _, _, _, _, _⟩) (.pointer (some ⟨p, offS s + 1, none⟩)) rfl (wanted_at (b := false) false rfl rfl (hD 7 38 (by kernel_rfl))) (exec_fldo 73 1 1 (.tmp 40) (p) (offS s) (offS s + 1) rfl (hD 9 40 (by kernel_rfl)) (by kernel_rfl) rfl) rfl) ?_
      refine fsteps_cons 12 rfl (fun a u hE hD hk => f_val (o := ⟨some 42, _, _, _, _, _⟩) (.slice (some ⟨gs, os, none⟩) n c) rfl (wanted_at (b := false) false rfl rfl (hD 7 38 (by kernel_rfl))) (exec_ldv 71 _ Try.underlying71 (.tmp 41) ⟨p, offS s + 1, none⟩ (.slice (some ⟨gs, os, none⟩) n c) rfl (hD 10 41 (by kernel_rfl)) (Kept.cell hk (HV1.out))) rfl) ?_
      refine fsteps_cons 13 rfl (fun a u hE hD hk => f_val (o := ⟨some 43, _, _, _, _, _⟩) (.int .i64 (i : Int)) rfl (wanted_at (b := false) false rfl rfl (hD 7 38 (by kernel_rfl))) (exec_move (.tmp 5) _ rfl (hE 5 (.int .i64 (i : Int)) (by kernel_rfl) (by kernel_rfl))) rfl) ?_
      refine fsteps_cons 14 rfl (fun a u hE hD hk => f_val (o := ⟨some 44, _, _, _, _, _⟩) (.pointer (some ⟨gs, os + i * 1, none⟩)) rfl (wanted_at (b := false) false rfl rfl (hD 7 38 (by kernel_rfl))) (exec_ixo slQ (.tmp 42) (.tmp 43) (gs) (os) n c i (os + i * 1) ((i : Int)) rfl (hD 11 42 (by kernel_rfl)) (hD 12 43 (by kernel_rfl)) (by first | rfl | omega) (hlt) (by first | rfl | omega)) rfl) ?_
      refine fsteps_cons 15 rfl (fun a u hE hD hk => f_val (o := ⟨some 45, _, _, _, _, _⟩) (.pointer (some ⟨q, 0, none⟩)) rfl (wanted_at (b := false) false rfl rfl (hD 7 38 (by kernel_rfl))) (exec_ldp 97 _ Try.underlying97 (.tmp 44) ⟨gs, os + i * 1, none⟩ (.pointer (some ⟨q, 0, none⟩)) rfl (hD 13 44 (by kernel_rfl)) (Kept.cell hk (HC1.out))) rfl) ?_
      refine fsteps_cons 16 rfl (fun a u hE hD hk => f_call (o := ⟨some 46, _, _, _, _, _⟩) 68 #[.pointer (some ⟨q, 0, none⟩)] rfl (wanted_at (b := false) false rfl rfl (hD 7 38 (by kernel_rfl))) (exec_call 68 _ [.tmp 45] _ [.pointer (some ⟨q, 0, none⟩)] Try.func68 (by kernel_rfl) (by kernel_rfl) rfl (show [a.eval (.tmp 45)] = [.pointer (some ⟨q, 0, none⟩)] from (by rw [show a.eval (.tmp 45) = .pointer (some ⟨q, 0, none⟩) from (hD 14 45 (by kernel_rfl))] <;> rfl)) u) (price_any u _ q X (HLV1.out.kept hk))) ?_
      refine fsteps_cons 17 rfl (fun a u hE hD hk => f_val (o := ⟨some 47, _, _, _, _, _⟩) (.int .i64 price) rfl (wanted_at (b := false) false rfl rfl (hD 7 38 (by kernel_rfl))) (exec_move (.tmp 1) _ rfl (hE 1 (.int .i64 price) (by kernel_rfl) (by kernel_rfl))) rfl) ?_
      refine fsteps_cons 18 rfl (fun a u hE hD hk => f_as (show ((decide ((pr : Int) ≠ (price : Int))) : Bool) = true from decide_eq_true hpr) (f_val (o := ⟨some 48, _, _, _, _, _⟩) (.bool (decide ((pr : Int) ≠ (price : Int)))) rfl (wanted_at (b := false) false rfl rfl (hD 7 38 (by kernel_rfl))) (exec_nen (p := pr) (q := price) rfl (hD 15 46 (by kernel_rfl)) (hD 16 47 (by kernel_rfl))) rfl)) ?_
      refine sv 19 rfl rfl rfl (fun a u hE hD hk => exec_pickF (.tmp 38) (.const (.bool true)) (.tmp 48) (.bool true) rfl (hD 7 38 (by kernel_rfl)) (hD 17 48 (by kernel_rfl))) ?_
      exact fsteps_nil
     intro gv w2 hV kw2
     rw [show dstsOf _ 19 = [31, 32, 33, 34, 35, 36, 37, 38, 39, 40, 41, 42, 43, 44, 45, 46, 47, 48, 49] by kernel_rfl]
     simp only [fC, fN, sA, sS, sZ, dS, dZ]
     rw [show gv 49 = .bool true from hV 18 49 (by kernel_rfl)]
     clear hV
     refine wpList_nil ?_
     have kW := kw1.trans kw2
     have HRM : ∀ o : Ord, o.side = s → o.price = price → restM o L = levs (Z.take i) ++ (price, [] ++ [Ent.of o]) :: levs (Z.drop i) := fun o h1 h2 => by
      have e5 : levs (Z.drop i) = (pr, X) :: levs (Z.drop (i + 1)) := by
       have : Z.drop i = (q, pr, X) :: Z.drop (i + 1) := by
        conv => lhs; rw [HZ.out]
        rw [List.drop_append, List.drop_of_length_le (by rw [List.length_take]; omega), List.nil_append, List.length_take, HN.out, Nat.min_eq_left (by omega), Nat.sub_self]
        rfl
       rw [this]
       rfl
      rw [e5, HD.out, restM_at (by rw [h1, h2]; exact HT.out), restM, h1, h2, if_neg (by rw [HBF.out]; simp), if_neg (fun h => hpr h)]
      rfl
     clear HV1 HC1 HLV1 HSL1
     have HWW := Lib.hid (HW.out.kept kW)
     have HBW := Lib.hid (HB.out.kept kW)
     have HVW := Lib.hid (kW.cell HV.out)
     have zW := kW.size
     have hSo : ∀ b, ((.slice (some ⟨gs, os, none⟩) n c) : Value).ownBlock = some b → b < w2.heap.size := fun b hb => HWW.out.sl.lt hb
     have HSo := Lib.hid hSo
     clear hSo
     go_upto_region 5 with fail
     refine wp_freeV 12 9 [0, 1, 2, 3, 4, 5, 6, 7, 8] [.eq (.pointer (some ⟨p, offS s, none⟩)), .eq (.pointer (some ⟨p, offS s, none⟩)), .eq (.pointer (some ⟨p, offS s, none⟩)), .eq (.pointer (some ⟨p, offS s + 1, none⟩)), .eq (.slice (some ⟨gs, os, none⟩) n c), .eq (.int .i64 (i : Int)), .eq (.int .i64 price), .newl w2.heap.size price, .onel w2.heap.size price, .ins w2.heap.size price (.slice (some ⟨gs, os, none⟩) n c) n Z i, .eq (.pointer (some ⟨p, offS s, none⟩)), .eq (.pointer (some ⟨p, offS s + 1, none⟩))] ((fun b => ((.slice (some ⟨gs, os, none⟩) n c) : Value).ownBlock = some b)) (by kernel_rfl) rfl (by omega) (by kernel_rfl) (by kernel_rfl) ?_ ?_ (fun a u hE hD hk => v_call (o := ⟨some 59, _, _, _, _, _⟩) 92 #[.slice (some ⟨gs, os, none⟩) n c, .int .i64 (i : Int), a.eval (.tmp 58)] rfl (wanted_none rfl _) (exec_call 92 _ [.tmp 54, .tmp 55, .tmp 58] _ [.slice (some ⟨gs, os, none⟩) n c, .int .i64 (i : Int), a.eval (.tmp 58)] Try.func92 (by kernel_rfl) (by kernel_rfl) rfl (show [a.eval (.tmp 54), a.eval (.tmp 55), a.eval (.tmp 58)] = [.slice (some ⟨gs, os, none⟩) n c, .int .i64 (i : Int), a.eval (.tmp 58)] from (by rw [show a.eval (.tmp 54) = .slice (some ⟨gs, os, none⟩) n c from (hD 4 54 (by kernel_rfl)), show a.eval (.tmp 55) = .int .i64 (i : Int) from (hD 5 55 (by kernel_rfl))] <;> rfl)) u) ((by obtain ⟨g1, q1, F1, hx, hb1, hl1, hf1, hg1, hn1⟩ := (hD 8 58 (by kernel_rfl)); rw [hx]; exact ins_kn u w2 (.slice (some ⟨gs, os, none⟩) n c) n i Z g1 q1 price F1 hk (by have h := HWW.out.sl; rw [HN.out] at h; exact h) (by omega) (by omega) hb1 hl1 hf1 hg1 HSo.out))) ?_
     ·intro i hi
      have hi2 : i = 0 ∨ i = 1 ∨ i = 2 ∨ i = 3 ∨ i = 4 ∨ i = 5 ∨ i = 6 ∨ i = 7 ∨ i = 8 := by simpa using hi
      rcases hi2 with rfl | rfl | rfl | rfl | rfl | rfl | rfl | rfl | rfl
      ·exact Kn.safe_eq _ _
      ·exact Kn.safe_eq _ _
      ·exact Kn.safe_eq _ _
      ·exact Kn.safe_eq _ _
      ·exact Kn.safe_eq _ _
      ·exact Kn.safe_eq _ _
      ·exact Kn.safe_eq _ _
      ·exact Kn.safe_newl (fun b hb h => by have := HSo.out b h; omega)
      ·exact Kn.safe_onel (fun b hb h => by have := HSo.out b h; omega)
     ·refine vsteps_cons 1 rfl (fun a u hE hD hk => f_val (o := ⟨some 50, _, _, _, _, _⟩) (.pointer (some ⟨p, offS s, none⟩)) rfl (wanted_none rfl _) (exec_move (.tmp 0) _ rfl (hE 0 (.pointer (some ⟨p, offS s, none⟩)) (by kernel_rfl) (by kernel_rfl))) rfl) ?_
      refine vsteps_cons 2 rfl (fun a u hE hD hk => f_val (o := ⟨some 51, _, _, _, _, _⟩) (.pointer (some ⟨p, offS s, none⟩)) rfl (wanted_none rfl _) (exec_move (.tmp 0) _ rfl (hE 0 (.pointer (some ⟨p, offS s, none⟩)) (by kernel_rfl) (by kernel_rfl))) rfl) ?_
      refine vsteps_cons 3 rfl (fun a u hE hD hk => f_val (o := ⟨some 52, _, _, _, _, _⟩) (.pointer (some ⟨p, offS s, none⟩)) rfl (wanted_none rfl _) (exec_nilp (.tmp 51) ⟨p, offS s, none⟩ rfl (hD 1 51 (by kernel_rfl))) rfl) ?_
      refine vsteps_cons 4 rfl (fun a u hE hD hk => f_val (o := ⟨some 53, _, _, _, _, _⟩) (.pointer (some ⟨p, offS s + 1, none⟩)) rfl (wanted_none rfl _) (exec_fldo 73 1 1 (.tmp 52) (p) (offS s) (offS s + 1) rfl (hD 2 52 (by kernel_rfl)) (by kernel_rfl) rfl) rfl) ?_
      refine vsteps_cons 5 rfl (fun a u hE hD hk => f_val (o := ⟨some 54, _, _, _, _, _⟩) (.slice (some ⟨gs, os, none⟩) n c) rfl (wanted_none rfl _) (exec_ldv 71 _ Try.underlying71 (.tmp 53) ⟨p, offS s + 1, none⟩ (.slice (some ⟨gs, os, none⟩) n c) rfl (hD 3 53 (by kernel_rfl)) (Keep.cell hk (HVW.out) ((fun e => (hFs p (HWW.out.own p e).1) rfl)))) rfl) ?_
      refine vsteps_cons 6 rfl (fun a u hE hD hk => f_val (o := ⟨some 55, _, _, _, _, _⟩) (.int .i64 (i : Int)) rfl (wanted_none rfl _) (exec_move (.tmp 5) _ rfl (hE 5 (.int .i64 (i : Int)) (by kernel_rfl) (by kernel_rfl))) rfl) ?_
      refine vsteps_cons 7 rfl (fun a u hE hD hk => f_val (o := ⟨some 56, _, _, _, _, _⟩) (.int .i64 price) rfl (wanted_none rfl _) (exec_move (.tmp 1) _ rfl (hE 1 (.int .i64 price) (by kernel_rfl) (by kernel_rfl))) rfl) ?_
      refine vsteps_cons 8 rfl (fun a u hE hD hk => f_call (o := ⟨some 57, _, _, _, _, _⟩) 93 #[.int .i64 price] rfl (wanted_none rfl _) (exec_call 93 _ [.tmp 56] _ [.int .i64 price] Try.func93 (by kernel_rfl) (by kernel_rfl) rfl (show [a.eval (.tmp 56)] = [.int .i64 price] from (by rw [show a.eval (.tmp 56) = .int .i64 price from (hD 6 56 (by kernel_rfl))] <;> rfl)) u) ((lnew_any price u).mono (fun e w' ⟨q, F, h1, h2, h3, h4⟩ => ⟨_, h1, ⟨q, F, rfl, h2, fun b hb => (h3 b hb).elim (fun h => h.elim) (fun h => Nat.le_trans hk.size h)⟩, h4⟩))) ?_
      refine vsteps_cons 9 rfl (fun a u hE hD hk => (by obtain ⟨q, F, hx, h2, h3⟩ := (hD 7 57 (by kernel_rfl)); exact f_new (o := ⟨some 58, _, _, _, _, _⟩) (.slice (some ⟨u.heap.size, 0, none⟩) 1 1) _ rfl (wanted_none rfl _) (exec_oneP slQ (.tmp 57) q rfl hx) ⟨u.heap.size, q, F, rfl, Blk.new u _ _, h2.kept ((Keep.refl _ u).alloc _), h3, hk.size, fun h => by have := h2.2.1 _ h; omega⟩ ((Keep.refl _ u).alloc _))) ?_
      refine vsteps_turn 10 rfl rfl ?_
      refine vsteps_cons 11 rfl (fun a u hE hD hk => f_val (o := ⟨some 60, _, _, _, _, _⟩) (.pointer (some ⟨p, offS s, none⟩)) rfl (wanted_none rfl _) (exec_nilp (.tmp 50) ⟨p, offS s, none⟩ rfl (hD 0 50 (by kernel_rfl))) rfl) ?_
      refine vsteps_cons 12 rfl (fun a u hE hD hk => f_val (o := ⟨some 61, _, _, _, _, _⟩) (.pointer (some ⟨p, offS s + 1, none⟩)) rfl (wanted_none rfl _) (exec_fldo 73 1 1 (.tmp 60) (p) (offS s) (offS s + 1) rfl (hD 10 60 (by kernel_rfl)) (by kernel_rfl) rfl) rfl) ?_
      exact vsteps_nil
     intro gv wn hV ki
     rw [show dstsOf _ 12 = [50, 51, 52, 53, 54, 55, 56, 57, 58, 59, 60, 61] by kernel_rfl]
     simp only [fC, fN, sA, sS, sZ, dS, dZ]
     rw [show gv 61 = .pointer (some ⟨p, offS s + 1, none⟩) from hV 11 61 (by kernel_rfl)]
     have hv59 : (.ins w2.heap.size price (.slice (some ⟨gs, os, none⟩) n c) n Z i : Kn).p (gv 59) wn := hV 9 59 (by kernel_rfl)
     generalize gv 59 = v59 at hv59 ⊢
     clear hV
     obtain ⟨q1, F1, hSn, hl1, hf1, hon⟩ := hv59
     obtain ⟨vn, hvn⟩ : ∃ x, x = v59 := ⟨_, rfl⟩
     subst hvn
     refine l_st1 (o := ⟨none, _, _, _, _, _⟩) 71 p (offS s + 1) 75 _ vn (.tmp 61) (.tmp 59) rfl rfl (by kernel_rfl) (by kernel_rfl) (by kernel_rfl) (sl_cells hSn) (sl_onec hSn) (HBW.out.keep ki (fun e => (hFs p (HWW.out.own p e).1) rfl)) (by rw [sideCs_len]; omega) ?_
     intro ws hBs hks hss
     simp only [Act.put]
     refine wpList_nil ?_
     rw [sideCs_set] at hBs
     have hZ : Z = Z.take i ++ Z.drop i := (List.take_append_drop i Z).symm
     have hAl : (Z.take i).length = i := by rw [List.length_take, HN.out]; omega
     have hins : insP Z i q1 = ptrs (Z.take i ++ (q1, price, ([] : List Ent)) :: Z.drop i) := by
      unfold insP
      rw [ptrs_append]
      simp [ptrs, List.map_take, List.map_drop]
     have hWi : WayZ 110 112 97 w2 Fs (.slice (some ⟨gs, os, none⟩) n c) (Z.take i ++ Z.drop i) G := by rw [← hZ]; exact HWW.out
     obtain ⟨Fs', G', hW', hG', hk', _⟩ := hWi.more (w' := wn) (v' := vn) (q := q1) (pr := price) (F1 := F1) ki
      (by rw [← hins, hAl, List.length_drop, HN.out, show i + 1 + (n - i) = n + 1 by omega]; exact hSn) hon hl1 hf1
     have hGw : Grow w Fs Fs' := hG'.wide zW
     have hpF : ¬ Fs' p := fun h => (hGw p h).elim (fun h => hFs p h rfl) (fun h => by omega)
     have hW6 := hW'.keep hks (fun b hb e => hpF (by rw [← e]; exact hb))
     have K6 : Keep (fun b => Fs b ∨ b = p) w ws := ((Keep.mono (T := fun b => Fs b ∨ b = p) kW (fun _ _ h => h.elim)).trans hk' (fun b _ h => .inl h)).trans hks (fun b _ h => .inr h)
     have HW6 := Lib.hid hW6
     have HB6 := Lib.hid hBs
     have hzi : (Z.take i ++ (q1, price, ([] : List Ent)) :: Z.drop i)[i]? = some (q1, price, []) := by
      rw [List.getElem?_append_right (by omega), hAl, Nat.sub_self]
      rfl
     have hlen6 : (Z.take i ++ (q1, price, ([] : List Ent)) :: Z.drop i).length = n + 1 := by
      rw [List.length_append, List.length_cons, hAl, List.length_drop, HN.out]
      omega
     obtain ⟨gs2, os2, c2, rfl⟩ := hW6.some_ (by rw [hlen6]; omega)
     rw [hlen6] at HW6 HB6 ⊢
     have HV6 : Hid (ws.cell? ⟨p, offS s + 1, none⟩ = some (.slice (some ⟨gs2, os2, none⟩) (n + 1) c2)) := by show _ = _; rw [HB6.out.cell]; exact sideCs_get s _ _ _ _
     have HC6 := Lib.hid (HW6.out.cell hzi)
     clear hBs hW' hW6 hk' hks hss hSn hon hl1 hWi hG' hins HWW HBW HVW ki HSo
     obtain ⟨m, hm⟩ : ∃ m, n + 1 = m := ⟨_, rfl⟩
     have him : i < m := by omega
     rw [hm] at HW6 HB6 HV6 hlen6 ⊢
     go_upto_region 6 with fail
     refine wp_text 8 [.eq (.pointer (some ⟨p, offS s, none⟩)), .eq (.pointer (some ⟨p, offS s, none⟩)), .eq (.pointer (some ⟨p, offS s + 1, none⟩)), .eq (.slice (some ⟨gs2, os2, none⟩) m c2), .eq (.int .i64 (i : Int)), .eq (.pointer (some ⟨gs2, os2 + i * 1, none⟩)), .eq (.pointer (some ⟨q1, 0, none⟩)), .eq (.pointer (some ⟨q1, 0, none⟩))] rfl (by kernel_rfl) ?_ ?_
     ·refine sv 1 rfl rfl rfl (fun a u hE hD hk => exec_move (.tmp 0) _ rfl (hE 0 (.pointer (some ⟨p, offS s, none⟩)) (by kernel_rfl) (by kernel_rfl))) ?_
      refine sv 2 rfl rfl rfl (fun a u hE hD hk => exec_nilp (.tmp 62) ⟨p, offS s, none⟩ rfl (hD 0 62 (by kernel_rfl))) ?_
      refine sv 3 rfl rfl rfl (fun a u hE hD hk => exec_fldo 73 1 1 (.tmp 63) (p) (offS s) (offS s + 1) rfl (hD 1 63 (by kernel_rfl)) (by kernel_rfl) rfl) ?_
      refine sv 4 rfl rfl rfl (fun a u hE hD hk => exec_ldv 71 _ Try.underlying71 (.tmp 64) ⟨p, offS s + 1, none⟩ (.slice (some ⟨gs2, os2, none⟩) m c2) rfl (hD 2 64 (by kernel_rfl)) (Kept.cell hk (HV6.out))) ?_
      refine sv 5 rfl rfl rfl (fun a u hE hD hk => exec_move (.tmp 5) _ rfl (hE 5 (.int .i64 (i : Int)) (by kernel_rfl) (by kernel_rfl))) ?_
      refine sv 6 rfl rfl rfl (fun a u hE hD hk => exec_ixo slQ (.tmp 65) (.tmp 66) (gs2) (os2) m c2 i (os2 + i * 1) ((i : Int)) rfl (hD 3 65 (by kernel_rfl)) (hD 4 66 (by kernel_rfl)) (by first | rfl | omega) (him) (by first | rfl | omega)) ?_
      refine sv 7 rfl rfl rfl (fun a u hE hD hk => exec_ldp 97 _ Try.underlying97 (.tmp 67) ⟨gs2, os2 + i * 1, none⟩ (.pointer (some ⟨q1, 0, none⟩)) rfl (hD 5 67 (by kernel_rfl)) (Kept.cell hk (HC6.out))) ?_
      refine sv 8 rfl rfl rfl (fun a u hE hD hk => exec_assign (.tmp 68) _ rfl (hD 6 68 (by kernel_rfl))) ?_
      exact fsteps_nil
     intro gv wz hV kz
     rw [show dstsOf _ 8 = [62, 63, 64, 65, 66, 67, 68, 4] by kernel_rfl]
     simp only [fC, fN, sA, sS, sZ, dS, dZ]
     rw [show gv 4 = .pointer (some ⟨q1, 0, none⟩) from hV 7 4 (by kernel_rfl)]
     clear hV
     refine wpList_nil ?_
     have HR := Lib.hid (HRM)
     go_wp2
     go_ret
     exact ⟨q1, [], Z.take i, Z.drop i, _, Fs', G', rfl, HW6.out.kept kz, HB6.out.kept kz, hGw, K6.kept kz, by simp, HR.out⟩
  ·have hin : i = n := by omega
   subst hin
   have HT : Hid (∀ x ∈ levs (Z.take i), bet s x.1 price = true) := by
    have e2 : L.take i = levs (Z.take i) := by rw [← EL.out]; simp [levs, List.map_take]
    rw [e2] at HM
    exact HM.out
   clear HM
   have HSLr := Lib.hid (HSL.out.kept hkr)
   go_upto_region 2 with fail
   refine wp_free 22 [.eq (.int .i64 (i : Int)), .eq (.pointer (some ⟨p, offS s, none⟩)), .eq (.pointer (some ⟨p, offS s, none⟩)), .eq (.pointer (some ⟨p, offS s + 1, none⟩)), .eq (v), .eq (.int .i64 (i : Int)), .eq (.bool false), .eq (.bool false), .eq undef, .eq undef, .eq undef, .eq undef, .eq undef, .eq undef, .eq undef, .eq undef, .eq undef, .eq undef, .eq undef, .eq undef, .eq undef, .eq undef] (by kernel_rfl) rfl (by kernel_rfl) ?_ ?_
   ·refine sv 1 rfl rfl rfl (fun a u hE hD hk => exec_move (.tmp 5) _ rfl (hE 5 (.int .i64 (i : Int)) (by kernel_rfl) (by kernel_rfl))) ?_
    refine sv 2 rfl rfl rfl (fun a u hE hD hk => exec_move (.tmp 0) _ rfl (hE 0 (.pointer (some ⟨p, offS s, none⟩)) (by kernel_rfl) (by kernel_rfl))) ?_
    refine sv 3 rfl rfl rfl (fun a u hE hD hk => exec_nilp (.tmp 7) ⟨p, offS s, none⟩ rfl (hD 1 7 (by kernel_rfl))) ?_
    refine sv 4 rfl rfl rfl (fun a u hE hD hk => exec_fldo 73 1 1 (.tmp 8) (p) (offS s) (offS s + 1) rfl (hD 2 8 (by kernel_rfl)) (by kernel_rfl) rfl) ?_
    refine sv 5 rfl rfl rfl (fun a u hE hD hk => exec_ldv 71 _ Try.underlying71 (.tmp 9) ⟨p, offS s + 1, none⟩ (v) rfl (hD 3 9 (by kernel_rfl)) (Kept.cell hk (HVr.out))) ?_
    refine sv 6 rfl rfl rfl (fun a u hE hD hk => exec_lenS (.tmp 10) slQ (v) (i) _ _ rfl (hD 4 10 (by kernel_rfl)) HSLr.out) ?_
    refine fsteps_cons 7 rfl (fun a u hE hD hk => f_as (show ((decide (((i : Int) : Int) < ((i : Int) : Int))) : Bool) = false from decide_eq_false (by omega)) (f_val (o := ⟨some 12, _, _, _, _, _⟩) (.bool (decide (((i : Int) : Int) < ((i : Int) : Int)))) rfl (wanted_none rfl _) (exec_ltn (p := (i : Int)) (q := (i : Int)) rfl (hD 0 6 (by kernel_rfl)) (hD 5 11 (by kernel_rfl))) rfl)) ?_
    refine sv 8 rfl rfl rfl (fun a u hE hD hk => exec_move (.tmp 12) _ rfl (hD 6 12 (by kernel_rfl))) ?_
    refine fsteps_cons 9 rfl (fun a u hE hD hk => f_skip (o := ⟨some 14, _, _, _, _, _⟩) rfl (wanted_at (b := true) false rfl rfl (hD 7 13 (by kernel_rfl))) rfl) ?_
    refine fsteps_cons 10 rfl (fun a u hE hD hk => f_skip (o := ⟨some 15, _, _, _, _, _⟩) rfl (wanted_at (b := true) false rfl rfl (hD 7 13 (by kernel_rfl))) rfl) ?_
    refine fsteps_cons 11 rfl (fun a u hE hD hk => f_skip (o := ⟨some 16, _, _, _, _, _⟩) rfl (wanted_at (b := true) false rfl rfl (hD 7 13 (by kernel_rfl))) rfl) ?_
    refine fsteps_cons 12 rfl (fun a u hE hD hk => f_skip (o := ⟨some 17, _, _, _, _, _⟩) rfl (wanted_at (b := true) false rfl rfl (hD 7 13 (by kernel_rfl))) rfl) ?_
    refine fsteps_cons 13 rfl (fun a u hE hD hk => f_skip (o := ⟨some 18, _, _, _, _, _⟩) rfl (wanted_at (b := true) false rfl rfl (hD 7 13 (by kernel_rfl))) rfl) ?_
    refine fsteps_cons 14 rfl (fun a u hE hD hk => f_skip (o := ⟨some 19, _, _, _, _, _⟩) rfl (wanted_at (b := true) false rfl rfl (hD 7 13 (by kernel_rfl))) rfl) ?_
    refine fsteps_cons 15 rfl (fun a u hE hD hk => f_skip (o := ⟨some 20, _, _, _, _, _⟩) rfl (wanted_at (b := true) false rfl rfl (hD 7 13 (by kernel_rfl))) rfl) ?_
    refine fsteps_cons 16 rfl (fun a u hE hD hk => f_skip (o := ⟨some 21, _, _, _, _, _⟩) rfl (wanted_at (b := true) false rfl rfl (hD 7 13 (by kernel_rfl))) rfl) ?_
    refine fsteps_cons 17 rfl (fun a u hE hD hk => f_skip (o := ⟨some 22, _, _, _, _, _⟩) rfl (wanted_at (b := true) false rfl rfl (hD 7 13 (by kernel_rfl))) rfl) ?_
    refine fsteps_cons 18 rfl (fun a u hE hD hk => f_skip (o := ⟨some 23, _, _, _, _, _⟩) rfl (wanted_at (b := true) false rfl rfl (hD 7 13 (by kernel_rfl))) rfl) ?_
    refine fsteps_cons 19 rfl (fun a u hE hD hk => f_skip (o := ⟨some 24, _, _, _, _, _⟩) rfl (wanted_at (b := true) false rfl rfl (hD 7 13 (by kernel_rfl))) rfl) ?_
    refine fsteps_cons 20 rfl (fun a u hE hD hk => f_skip (o := ⟨some 25, _, _, _, _, _⟩) rfl (wanted_at (b := true) false rfl rfl (hD 7 13 (by kernel_rfl))) rfl) ?_
    refine fsteps_cons 21 rfl (fun a u hE hD hk => f_skip (o := ⟨some 26, _, _, _, _, _⟩) rfl (wanted_at (b := true) false rfl rfl (hD 7 13 (by kernel_rfl))) rfl) ?_
    refine fsteps_cons 22 rfl (fun a u hE hD hk => f_skip (o := ⟨some 27, _, _, _, _, _⟩) rfl (wanted_at (b := true) false rfl rfl (hD 7 13 (by kernel_rfl))) rfl) ?_
    exact fsteps_nil
   intro gv w1 hV k1
   rw [show dstsOf _ 22 = [6, 7, 8, 9, 10, 11, 12, 13, 14, 15, 16, 17, 18, 19, 20, 21, 22, 23, 24, 25, 26, 27] by kernel_rfl]
   simp only [fC, fN, sA, sS, sZ, dS, dZ]
   rw [show gv 13 = .bool false from hV 7 13 (by kernel_rfl)]
   rw [show gv 27 = undef from hV 21 27 (by kernel_rfl)]
   clear hV
   refine l_val (o := ⟨some 28, _, _, _, _, _⟩) (.bool false) rfl (exec_pickF (.tmp 13) (.tmp 27) (.const (.bool false)) (.bool false) rfl (by kernel_rfl) rfl) ?_
   simp only [Act.put, sA, sS, sZ]
   refine wpList_nil ?_
   have kw1 := hkr.trans k1
   have HV1 := Lib.hid (kw1.cell HV.out)
   have HSL1 := Lib.hid (HSL.out.kept kw1)
   clear HVr HSr k1 HSLr
   go_upto_region 4 with fail
   refine wp_text 19 [.eq (.int .i64 (i : Int)), .eq (.pointer (some ⟨p, offS s, none⟩)), .eq (.pointer (some ⟨p, offS s, none⟩)), .eq (.pointer (some ⟨p, offS s + 1, none⟩)), .eq (v), .eq (.int .i64 (i : Int)), .eq (.bool true), .eq (.bool true), .eq undef, .eq undef, .eq undef, .eq undef, .eq undef, .eq undef, .eq undef, .eq undef, .eq undef, .eq undef, .eq (.bool true)] rfl (by kernel_rfl) ?_ ?_
   ·refine sv 1 rfl rfl rfl (fun a u hE hD hk => exec_move (.tmp 5) _ rfl (hE 5 (.int .i64 (i : Int)) (by kernel_rfl) (by kernel_rfl))) ?_
    refine sv 2 rfl rfl rfl (fun a u hE hD hk => exec_move (.tmp 0) _ rfl (hE 0 (.pointer (some ⟨p, offS s, none⟩)) (by kernel_rfl) (by kernel_rfl))) ?_
    refine sv 3 rfl rfl rfl (fun a u hE hD hk => exec_nilp (.tmp 32) ⟨p, offS s, none⟩ rfl (hD 1 32 (by kernel_rfl))) ?_
    refine sv 4 rfl rfl rfl (fun a u hE hD hk => exec_fldo 73 1 1 (.tmp 33) (p) (offS s) (offS s + 1) rfl (hD 2 33 (by kernel_rfl)) (by kernel_rfl) rfl) ?_
    refine sv 5 rfl rfl rfl (fun a u hE hD hk => exec_ldv 71 _ Try.underlying71 (.tmp 34) ⟨p, offS s + 1, none⟩ (v) rfl (hD 3 34 (by kernel_rfl)) (Kept.cell hk (HV1.out))) ?_
    refine sv 6 rfl rfl rfl (fun a u hE hD hk => exec_lenS (.tmp 35) slQ (v) (i) _ _ rfl (hD 4 35 (by kernel_rfl)) HSL1.out) ?_
    refine fsteps_cons 7 rfl (fun a u hE hD hk => f_as (show ((decide (((i : Int) : Int) = ((i : Int) : Int))) : Bool) = true from decide_eq_true (by omega)) (f_val (o := ⟨some 37, _, _, _, _, _⟩) (.bool (decide (((i : Int) : Int) = ((i : Int) : Int)))) rfl (wanted_none rfl _) (exec_eqn (p := (i : Int)) (q := (i : Int)) rfl (hD 0 31 (by kernel_rfl)) (hD 5 36 (by kernel_rfl))) rfl)) ?_
    refine sv 8 rfl rfl rfl (fun a u hE hD hk => exec_move (.tmp 37) _ rfl (hD 6 37 (by kernel_rfl))) ?_
    refine fsteps_cons 9 rfl (fun a u hE hD hk => f_skip (o := ⟨some 39, _, _, _, _, _⟩) rfl (wanted_at (b := false) true rfl rfl (hD 7 38 (by kernel_rfl))) rfl) ?_
    refine fsteps_cons 10 rfl (fun a u hE hD hk => f_skip (o := ⟨some 40, _, _, _, _, _⟩) rfl (wanted_at (b := false) true rfl rfl (hD 7 38 (by kernel_rfl))) rfl) ?_
    refine fsteps_cons 11 rfl (fun a u hE hD hk => f_skip (o := ⟨some 41, _, _, _, _, _⟩) rfl (wanted_at (b := false) true rfl rfl (hD 7 38 (by kernel_rfl))) rfl) ?_
    refine fsteps_cons 12 rfl (fun a u hE hD hk => f_skip (o := ⟨some 42, _, _, _, _, _⟩) rfl (wanted_at (b := false) true rfl rfl (hD 7 38 (by kernel_rfl))) rfl) ?_
    refine fsteps_cons 13 rfl (fun a u hE hD hk => f_skip (o := ⟨some 43, _, _, _, _, _⟩) rfl (wanted_at (b := false) true rfl rfl (hD 7 38 (by kernel_rfl))) rfl) ?_
    refine fsteps_cons 14 rfl (fun a u hE hD hk => f_skip (o := ⟨some 44, _, _, _, _, _⟩) rfl (wanted_at (b := false) true rfl rfl (hD 7 38 (by kernel_rfl))) rfl) ?_
    refine fsteps_cons 15 rfl (fun a u hE hD hk => f_skip (o := ⟨some 45, _, _, _, _, _⟩) rfl (wanted_at (b := false) true rfl rfl (hD 7 38 (by kernel_rfl))) rfl) ?_
    refine fsteps_cons 16 rfl (fun a u hE hD hk => f_skip (o := ⟨some 46, _, _, _, _, _⟩) rfl (wanted_at (b := false) true rfl rfl (hD 7 38 (by kernel_rfl))) rfl) ?_
    refine fsteps_cons 17 rfl (fun a u hE hD hk => f_skip (o := ⟨some 47, _, _, _, _, _⟩) rfl (wanted_at (b := false) true rfl rfl (hD 7 38 (by kernel_rfl))) rfl) ?_
    refine fsteps_cons 18 rfl (fun a u hE hD hk => f_skip (o := ⟨some 48, _, _, _, _, _⟩) rfl (wanted_at (b := false) true rfl rfl (hD 7 38 (by kernel_rfl))) rfl) ?_
    refine sv 19 rfl rfl rfl (fun a u hE hD hk => exec_pick (.tmp 38) (.const (.bool true)) (.tmp 48) (.bool true) rfl (hD 7 38 (by kernel_rfl)) rfl) ?_
    exact fsteps_nil
   intro gv w2 hV kw2
   rw [show dstsOf _ 19 = [31, 32, 33, 34, 35, 36, 37, 38, 39, 40, 41, 42, 43, 44, 45, 46, 47, 48, 49] by kernel_rfl]
   simp only [fC, fN, sA, sS, sZ, dS, dZ]
   rw [show gv 49 = .bool true from hV 18 49 (by kernel_rfl)]
   clear hV
   refine wpList_nil ?_
   have kW := kw1.trans kw2
   have HRM : ∀ o : Ord, o.side = s → o.price = price → restM o L = levs (Z.take i) ++ (price, [] ++ [Ent.of o]) :: levs (Z.drop i) := fun o h1 h2 => by
    have e5 : Z.drop i = [] := List.drop_of_length_le (by rw [HN.out]; omega)
    have e6 : L = levs (Z.take i) := by rw [← EL.out, List.take_of_length_le (by rw [HN.out]; omega)]
    rw [e5]
    have h3 := restM_at (o := o) (R := []) (A := L) (by rw [h1, h2, e6]; exact HT.out)
    rw [List.append_nil] at h3
    rw [h3, restM, h2, e6]
    rfl
   clear HV1 HSL1
   obtain ⟨n, hnn⟩ : ∃ n, n = i := ⟨_, rfl⟩
   have hn64 : n ≤ 64 := by omega
   have hin2 : i ≤ n := by omega
   have HN : Hid (Z.length = n) := by rw [hnn]; exact HN.out
   have HWW := Lib.hid (HW.out.kept kW)
   have HBW := Lib.hid (HB.out.kept kW)
   have HVW := Lib.hid (kW.cell HV.out)
   have zW := kW.size
   have hSo : ∀ b, (v : Value).ownBlock = some b → b < w2.heap.size := fun b hb => HWW.out.sl.lt hb
   have HSo := Lib.hid hSo
   clear hSo
   go_upto_region 5 with fail
   refine wp_freeV 12 9 [0, 1, 2, 3, 4, 5, 6, 7, 8] [.eq (.pointer (some ⟨p, offS s, none⟩)), .eq (.pointer (some ⟨p, offS s, none⟩)), .eq (.pointer (some ⟨p, offS s, none⟩)), .eq (.pointer (some ⟨p, offS s + 1, none⟩)), .eq (v), .eq (.int .i64 (i : Int)), .eq (.int .i64 price), .newl w2.heap.size price, .onel w2.heap.size price, .ins w2.heap.size price v n Z i, .eq (.pointer (some ⟨p, offS s, none⟩)), .eq (.pointer (some ⟨p, offS s + 1, none⟩))] ((fun b => (v : Value).ownBlock = some b)) (by kernel_rfl) rfl (by omega) (by kernel_rfl) (by kernel_rfl) ?_ ?_ (fun a u hE hD hk => v_call (o := ⟨some 59, _, _, _, _, _⟩) 92 #[v, .int .i64 (i : Int), a.eval (.tmp 58)] rfl (wanted_none rfl _) (exec_call 92 _ [.tmp 54, .tmp 55, .tmp 58] _ [v, .int .i64 (i : Int), a.eval (.tmp 58)] Try.func92 (by kernel_rfl) (by kernel_rfl) rfl (show [a.eval (.tmp 54), a.eval (.tmp 55), a.eval (.tmp 58)] = [v, .int .i64 (i : Int), a.eval (.tmp 58)] from (by rw [show a.eval (.tmp 54) = v from (hD 4 54 (by kernel_rfl)), show a.eval (.tmp 55) = .int .i64 (i : Int) from (hD 5 55 (by kernel_rfl))] <;> rfl)) u) ((by obtain ⟨g1, q1, F1, hx, hb1, hl1, hf1, hg1, hn1⟩ := (hD 8 58 (by kernel_rfl)); rw [hx]; exact ins_kn u w2 v n i Z g1 q1 price F1 hk (by have h := HWW.out.sl; rw [HN.out] at h; exact h) (by omega) (by omega) hb1 hl1 hf1 hg1 HSo.out))) ?_
   ·intro i hi
    have hi2 : i = 0 ∨ i = 1 ∨ i = 2 ∨ i = 3 ∨ i = 4 ∨ i = 5 ∨ i = 6 ∨ i = 7 ∨ i = 8 := by simpa using hi
    rcases hi2 with rfl | rfl | rfl | rfl | rfl | rfl | rfl | rfl | rfl
    ·exact Kn.safe_eq _ _
    ·exact Kn.safe_eq _ _
    ·exact Kn.safe_eq _ _
    ·exact Kn.safe_eq _ _
    ·exact Kn.safe_eq _ _
    ·exact Kn.safe_eq _ _
    ·exact Kn.safe_eq _ _
    ·exact Kn.safe_newl (fun b hb h => by have := HSo.out b h; omega)
    ·exact Kn.safe_onel (fun b hb h => by have := HSo.out b h; omega)
   ·refine vsteps_cons 1 rfl (fun a u hE hD hk => f_val (o := ⟨some 50, _, _, _, _, _⟩) (.pointer (some ⟨p, offS s, none⟩)) rfl (wanted_none rfl _) (exec_move (.tmp 0) _ rfl (hE 0 (.pointer (some ⟨p, offS s, none⟩)) (by kernel_rfl) (by kernel_rfl))) rfl) ?_
    refine vsteps_cons 2 rfl (fun a u hE hD hk => f_val (o := ⟨some 51, _, _, _, _, _⟩) (.pointer (some ⟨p, offS s, none⟩)) rfl (wanted_none rfl _) (exec_move (.tmp 0) _ rfl (hE 0 (.pointer (some ⟨p, offS s, none⟩)) (by kernel_rfl) (by kernel_rfl))) rfl) ?_
    refine vsteps_cons 3 rfl (fun a u hE hD hk => f_val (o := ⟨some 52, _, _, _, _, _⟩) (.pointer (some ⟨p, offS s, none⟩)) rfl (wanted_none rfl _) (exec_nilp (.tmp 51) ⟨p, offS s, none⟩ rfl (hD 1 51 (by kernel_rfl))) rfl) ?_
    refine vsteps_cons 4 rfl (fun a u hE hD hk => f_val (o := ⟨some 53, _, _, _, _, _⟩) (.pointer (some ⟨p, offS s + 1, none⟩)) rfl (wanted_none rfl _) (exec_fldo 73 1 1 (.tmp 52) (p) (offS s) (offS s + 1) rfl (hD 2 52 (by kernel_rfl)) (by kernel_rfl) rfl) rfl) ?_
    refine vsteps_cons 5 rfl (fun a u hE hD hk => f_val (o := ⟨some 54, _, _, _, _, _⟩) (v) rfl (wanted_none rfl _) (exec_ldv 71 _ Try.underlying71 (.tmp 53) ⟨p, offS s + 1, none⟩ (v) rfl (hD 3 53 (by kernel_rfl)) (Keep.cell hk (HVW.out) ((fun e => (hFs p (HWW.out.own p e).1) rfl)))) rfl) ?_
    refine vsteps_cons 6 rfl (fun a u hE hD hk => f_val (o := ⟨some 55, _, _, _, _, _⟩) (.int .i64 (i : Int)) rfl (wanted_none rfl _) (exec_move (.tmp 5) _ rfl (hE 5 (.int .i64 (i : Int)) (by kernel_rfl) (by kernel_rfl))) rfl) ?_
    refine vsteps_cons 7 rfl (fun a u hE hD hk => f_val (o := ⟨some 56, _, _, _, _, _⟩) (.int .i64 price) rfl (wanted_none rfl _) (exec_move (.tmp 1) _ rfl (hE 1 (.int .i64 price) (by kernel_rfl) (by kernel_rfl))) rfl) ?_
    refine vsteps_cons 8 rfl (fun a u hE hD hk => f_call (o := ⟨some 57, _, _, _, _, _⟩) 93 #[.int .i64 price] rfl (wanted_none rfl _) (exec_call 93 _ [.tmp 56] _ [.int .i64 price] Try.func93 (by kernel_rfl) (by kernel_rfl) rfl (show [a.eval (.tmp 56)] = [.int .i64 price] from (by rw [show a.eval (.tmp 56) = .int .i64 price from (hD 6 56 (by kernel_rfl))] <;> rfl)) u) ((lnew_any price u).mono (fun e w' ⟨q, F, h1, h2, h3, h4⟩ => ⟨_, h1, ⟨q, F, rfl, h2, fun b hb => (h3 b hb).elim (fun h => h.elim) (fun h => Nat.le_trans hk.size h)⟩, h4⟩))) ?_
    refine vsteps_cons 9 rfl (fun a u hE hD hk => (by obtain ⟨q, F, hx, h2, h3⟩ := (hD 7 57 (by kernel_rfl)); exact f_new (o := ⟨some 58, _, _, _, _, _⟩) (.slice (some ⟨u.heap.size, 0, none⟩) 1 1) _ rfl (wanted_none rfl _) (exec_oneP slQ (.tmp 57) q rfl hx) ⟨u.heap.size, q, F, rfl, Blk.new u _ _, h2.kept ((Keep.refl _ u).alloc _), h3, hk.size, fun h => by have := h2.2.1 _ h; omega⟩ ((Keep.refl _ u).alloc _))) ?_
    refine vsteps_turn 10 rfl rfl ?_
    refine vsteps_cons 11 rfl (fun a u hE hD hk => f_val (o := ⟨some 60, _, _, _, _, _⟩) (.pointer (some ⟨p, offS s, none⟩)) rfl (wanted_none rfl _) (exec_nilp (.tmp 50) ⟨p, offS s, none⟩ rfl (hD 0 50 (by kernel_rfl))) rfl) ?_
    refine vsteps_cons 12 rfl (fun a u hE hD hk => f_val (o := ⟨some 61, _, _, _, _, _⟩) (.pointer (some ⟨p, offS s + 1, none⟩)) rfl (wanted_none rfl _) (exec_fldo 73 1 1 (.tmp 60) (p) (offS s) (offS s + 1) rfl (hD 10 60 (by kernel_rfl)) (by kernel_rfl) rfl) rfl) ?_
    exact vsteps_nil
   intro gv wn hV ki
   rw [show dstsOf _ 12 = [50, 51, 52, 53, 54, 55, 56, 57, 58, 59, 60, 61] by kernel_rfl]
   simp only [fC, fN, sA, sS, sZ, dS, dZ]
   rw [show gv 61 = .pointer (some ⟨p, offS s + 1, none⟩) from hV 11 61 (by kernel_rfl)]
   have hv59 : (.ins w2.heap.size price v n Z i : Kn).p (gv 59) wn := hV 9 59 (by kernel_rfl)
   generalize gv 59 = v59 at hv59 ⊢
   clear hV
   obtain ⟨q1, F1, hSn, hl1, hf1, hon⟩ := hv59
   obtain ⟨vn, hvn⟩ : ∃ x, x = v59 := ⟨_, rfl⟩
   subst hvn
   refine l_st1 (o := ⟨none, _, _, _, _, _⟩) 71 p (offS s + 1) 75 _ vn (.tmp 61) (.tmp 59) rfl rfl (by kernel_rfl) (by kernel_rfl) (by kernel_rfl) (sl_cells hSn) (sl_onec hSn) (HBW.out.keep ki (fun e => (hFs p (HWW.out.own p e).1) rfl)) (by rw [sideCs_len]; omega) ?_
   intro ws hBs hks hss
   simp only [Act.put]
   refine wpList_nil ?_
   rw [sideCs_set] at hBs
   have hZ : Z = Z.take i ++ Z.drop i := (List.take_append_drop i Z).symm
   have hAl : (Z.take i).length = i := by rw [List.length_take, HN.out]; omega
   have hins : insP Z i q1 = ptrs (Z.take i ++ (q1, price, ([] : List Ent)) :: Z.drop i) := by
    unfold insP
    rw [ptrs_append]
    simp [ptrs, List.map_take, List.map_drop]
   have hWi : WayZ 110 112 97 w2 Fs v (Z.take i ++ Z.drop i) G := by rw [← hZ]; exact HWW.out
   obtain ⟨Fs', G', hW', hG', hk', _⟩ := hWi.more (w' := wn) (v' := vn) (q := q1) (pr := price) (F1 := F1) ki
    (by rw [← hins, hAl, List.length_drop, HN.out, show i + 1 + (n - i) = n + 1 by omega]; exact hSn) hon hl1 hf1
   have hGw : Grow w Fs Fs' := hG'.wide zW
   have hpF : ¬ Fs' p := fun h => (hGw p h).elim (fun h => hFs p h rfl) (fun h => by omega)
   have hW6 := hW'.keep hks (fun b hb e => hpF (by rw [← e]; exact hb))
   have K6 : Keep (fun b => Fs b ∨ b = p) w ws := ((Keep.mono (T := fun b => Fs b ∨ b = p) kW (fun _ _ h => h.elim)).trans hk' (fun b _ h => .inl h)).trans hks (fun b _ h => .inr h)
   have HW6 := Lib.hid hW6
   have HB6 := Lib.hid hBs
   have hzi : (Z.take i ++ (q1, price, ([] : List Ent)) :: Z.drop i)[i]? = some (q1, price, []) := by
    rw [List.getElem?_append_right (by omega), hAl, Nat.sub_self]
    rfl
   have hlen6 : (Z.take i ++ (q1, price, ([] : List Ent)) :: Z.drop i).length = n + 1 := by
    rw [List.length_append, List.length_cons, hAl, List.length_drop, HN.out]
    omega
   obtain ⟨gs2, os2, c2, rfl⟩ := hW6.some_ (by rw [hlen6]; omega)
   rw [hlen6] at HW6 HB6 ⊢
   have HV6 : Hid (ws.cell? ⟨p, offS s + 1, none⟩ = some (.slice (some ⟨gs2, os2, none⟩) (n + 1) c2)) := by show _ = _; rw [HB6.out.cell]; exact sideCs_get s _ _ _ _
   have HC6 := Lib.hid (HW6.out.cell hzi)
   clear hBs hW' hW6 hk' hks hss hSn hon hl1 hWi hG' hins HWW HBW HVW ki HSo
   obtain ⟨m, hm⟩ : ∃ m, n + 1 = m := ⟨_, rfl⟩
   have him : i < m := by omega
   rw [hm] at HW6 HB6 HV6 hlen6 ⊢
   go_upto_region 6 with fail
   refine wp_text 8 [.eq (.pointer (some ⟨p, offS s, none⟩)), .eq (.pointer (some ⟨p, offS s, none⟩)), .eq (.pointer (some ⟨p, offS s + 1, none⟩)), .eq (.slice (some ⟨gs2, os2, none⟩) m c2), .eq (.int .i64 (i : Int)), .eq (.pointer (some ⟨gs2, os2 + i * 1, none⟩)), .eq (.pointer (some ⟨q1, 0, none⟩)), .eq (.pointer (some ⟨q1, 0, none⟩))] rfl (by kernel_rfl) ?_ ?_
   ·refine sv 1 rfl rfl rfl (fun a u hE hD hk => exec_move (.tmp 0) _ rfl (hE 0 (.pointer (some ⟨p, offS s, none⟩)) (by kernel_rfl) (by kernel_rfl))) ?_
    refine sv 2 rfl rfl rfl (fun a u hE hD hk => exec_nilp (.tmp 62) ⟨p, offS s, none⟩ rfl (hD 0 62 (by kernel_rfl))) ?_
    refine sv 3 rfl rfl rfl (fun a u hE hD hk => exec_fldo 73 1 1 (.tmp 63) (p) (offS s) (offS s + 1) rfl (hD 1 63 (by kernel_rfl)) (by kernel_rfl) rfl) ?_
    refine sv 4 rfl rfl rfl (fun a u hE hD hk => exec_ldv 71 _ Try.underlying71 (.tmp 64) ⟨p, offS s + 1, none⟩ (.slice (some ⟨gs2, os2, none⟩) m c2) rfl (hD 2 64 (by kernel_rfl)) (Kept.cell hk (HV6.out))) ?_
    refine sv 5 rfl rfl rfl (fun a u hE hD hk => exec_move (.tmp 5) _ rfl (hE 5 (.int .i64 (i : Int)) (by kernel_rfl) (by kernel_rfl))) ?_
    refine sv 6 rfl rfl rfl (fun a u hE hD hk => exec_ixo slQ (.tmp 65) (.tmp 66) (gs2) (os2) m c2 i (os2 + i * 1) ((i : Int)) rfl (hD 3 65 (by kernel_rfl)) (hD 4 66 (by kernel_rfl)) (by first | rfl | omega) (him) (by first | rfl | omega)) ?_
    refine sv 7 rfl rfl rfl (fun a u hE hD hk => exec_ldp 97 _ Try.underlying97 (.tmp 67) ⟨gs2, os2 + i * 1, none⟩ (.pointer (some ⟨q1, 0, none⟩)) rfl (hD 5 67 (by kernel_rfl)) (Kept.cell hk (HC6.out))) ?_
    refine sv 8 rfl rfl rfl (fun a u hE hD hk => exec_assign (.tmp 68) _ rfl (hD 6 68 (by kernel_rfl))) ?_
    exact fsteps_nil
   intro gv wz hV kz
   rw [show dstsOf _ 8 = [62, 63, 64, 65, 66, 67, 68, 4] by kernel_rfl]
   simp only [fC, fN, sA, sS, sZ, dS, dZ]
   rw [show gv 4 = .pointer (some ⟨q1, 0, none⟩) from hV 7 4 (by kernel_rfl)]
   clear hV
   refine wpList_nil ?_
   have HR := Lib.hid (HRM)
   go_wp2
   go_ret
   exact ⟨q1, [], Z.take i, Z.drop i, _, Fs', G', rfl, HW6.out.kept kz, HB6.out.kept kz, hGw, K6.kept kz, by simp, HR.out⟩
end Go.Proofs.Ytfpfpmhkkgfdbaa
namespace Go.Proofs.Ytfpfpmhkkgfdbaa
open Go.RowKit
set_option maxRecDepth 100000
set_option maxHeartbeats 800000 in
theorem of_eq (w : World) (p : Nat) (s : Int) (hs : s = 1 ∨ s = 2) : Gives 43 #[.pointer (some ⟨p, 0, none⟩), .int .i64 s] w (.eq (.pointer (some ⟨p, offS s, none⟩))) := by
 refine gives_eq ?_
 rcases hs with rfl | rfl
 ·have HR : Hid (offS 1 = 0) := rfl
  go_enter Try.func43, Try.ntmps43
  go_upto_region 1 with fail
  refine wp_text 1 [.eq (.int .i64 1)] rfl (by kernel_rfl) ?_ ?_
  ·refine sv 1 rfl rfl rfl (fun a u hE hD hk => exec_move (.tmp 1) _ rfl (hE 1 (.int .i64 1) (by kernel_rfl) (by kernel_rfl))) ?_
   exact fsteps_nil
  intro gv w1 hV k1
  rw [show dstsOf _ 1 = [5] by kernel_rfl]
  simp only [fC, fN, sA, sS, sZ, dS, dZ]
  rw [show gv 5 = .int .i64 1 from hV 0 5 (by kernel_rfl)]
  clear hV
  refine wpList_nil ?_
  go_upto_region 2 with fail
  refine wp_text 2 [.eq (.bool true), .eq (.bool true)] rfl (by kernel_rfl) ?_ ?_
  ·refine fsteps_cons 1 rfl (fun a u hE hD hk => f_as (show ((decide ((1 : Int) = (1 : Int))) : Bool) = true from decide_eq_true rfl) (f_val (o := ⟨some 7, _, _, _, _, _⟩) (.bool (decide ((1 : Int) = (1 : Int)))) rfl (wanted_none rfl _) (exec_eqn (p := 1) (q := 1) rfl (hE 5 (.int .i64 1) (by kernel_rfl) (by kernel_rfl)) rfl) rfl)) ?_
   refine sv 2 rfl rfl rfl (fun a u hE hD hk => exec_assign (.tmp 7) _ rfl (hD 0 7 (by kernel_rfl))) ?_
   exact fsteps_nil
  intro gv w2 hV k2
  rw [show dstsOf _ 2 = [7, 6] by kernel_rfl]
  simp only [fC, fN, sA, sS, sZ, dS, dZ]
  rw [show gv 6 = .bool true from hV 1 6 (by kernel_rfl)]
  clear hV
  refine wpList_nil ?_
  go_upto_region 3 with fail
  refine wp_text 4 [.eq (.pointer (some ⟨p, 0, none⟩)), .eq (.pointer (some ⟨p, 0, none⟩)), .eq (.pointer (some ⟨p, 0, none⟩)), .eq (.pointer (some ⟨p, 0, none⟩))] rfl (by kernel_rfl) ?_ ?_
  ·refine sv 1 rfl rfl rfl (fun a u hE hD hk => exec_move (.tmp 0) _ rfl (hE 0 (.pointer (some ⟨p, 0, none⟩)) (by kernel_rfl) (by kernel_rfl))) ?_
   refine sv 2 rfl rfl rfl (fun a u hE hD hk => exec_nilp (.tmp 8) ⟨p, 0, none⟩ rfl (hD 0 8 (by kernel_rfl))) ?_
   refine sv 3 rfl rfl rfl (fun a u hE hD hk => exec_fldo 75 0 0 (.tmp 9) (p) (0) (0) rfl (hD 1 9 (by kernel_rfl)) (by kernel_rfl) rfl) ?_
   refine sv 4 rfl rfl rfl (fun a u hE hD hk => exec_assign (.tmp 10) _ rfl (hD 2 10 (by kernel_rfl))) ?_
   exact fsteps_nil
  intro gv w3 hV k3
  rw [show dstsOf _ 4 = [8, 9, 10, 4] by kernel_rfl]
  simp only [fC, fN, sA, sS, sZ, dS, dZ]
  rw [show gv 4 = .pointer (some ⟨p, 0, none⟩) from hV 3 4 (by kernel_rfl)]
  clear hV
  refine wpList_nil ?_
  have kw := (k1.trans k2).trans k3
  clear k1 k2 k3
  go_wp2
  go_ret
  exact ⟨by rw [HR.out]; rfl, kw⟩
 ·have HR : Hid (offS 2 = 2) := rfl
  go_enter Try.func43, Try.ntmps43
  go_upto_region 1 with fail
  refine wp_text 1 [.eq (.int .i64 2)] rfl (by kernel_rfl) ?_ ?_
  ·refine sv 1 rfl rfl rfl (fun a u hE hD hk => exec_move (.tmp 1) _ rfl (hE 1 (.int .i64 2) (by kernel_rfl) (by kernel_rfl))) ?_
   exact fsteps_nil
  intro gv w1 hV k1
  rw [show dstsOf _ 1 = [5] by kernel_rfl]
  simp only [fC, fN, sA, sS, sZ, dS, dZ]
  rw [show gv 5 = .int .i64 2 from hV 0 5 (by kernel_rfl)]
  clear hV
  refine wpList_nil ?_
  go_upto_region 2 with fail
  refine wp_text 2 [.eq (.bool false), .eq (.bool false)] rfl (by kernel_rfl) ?_ ?_
  ·refine fsteps_cons 1 rfl (fun a u hE hD hk => f_as (show ((decide ((2 : Int) = (1 : Int))) : Bool) = false from decide_eq_false (by decide)) (f_val (o := ⟨some 7, _, _, _, _, _⟩) (.bool (decide ((2 : Int) = (1 : Int)))) rfl (wanted_none rfl _) (exec_eqn (p := 2) (q := 1) rfl (hE 5 (.int .i64 2) (by kernel_rfl) (by kernel_rfl)) rfl) rfl)) ?_
   refine sv 2 rfl rfl rfl (fun a u hE hD hk => exec_assign (.tmp 7) _ rfl (hD 0 7 (by kernel_rfl))) ?_
   exact fsteps_nil
  intro gv w2 hV k2
  rw [show dstsOf _ 2 = [7, 6] by kernel_rfl]
  simp only [fC, fN, sA, sS, sZ, dS, dZ]
  rw [show gv 6 = .bool false from hV 1 6 (by kernel_rfl)]
  clear hV
  refine wpList_nil ?_
  go_upto_region 4 with fail
  refine wp_text 2 [.eq (.bool true), .eq (.bool true)] rfl (by kernel_rfl) ?_ ?_
  ·refine fsteps_cons 1 rfl (fun a u hE hD hk => f_as (show ((decide ((2 : Int) = (2 : Int))) : Bool) = true from decide_eq_true rfl) (f_val (o := ⟨some 12, _, _, _, _, _⟩) (.bool (decide ((2 : Int) = (2 : Int)))) rfl (wanted_none rfl _) (exec_eqn (p := 2) (q := 2) rfl (hE 5 (.int .i64 2) (by kernel_rfl) (by kernel_rfl)) rfl) rfl)) ?_
   refine sv 2 rfl rfl rfl (fun a u hE hD hk => exec_assign (.tmp 12) _ rfl (hD 0 12 (by kernel_rfl))) ?_
   exact fsteps_nil
  intro gv w3 hV k3
  rw [show dstsOf _ 2 = [12, 11] by kernel_rfl]
  simp only [fC, fN, sA, sS, sZ, dS, dZ]
  rw [show gv 11 = .bool true from hV 1 11 (by kernel_rfl)]
  clear hV
  refine wpList_nil ?_
  go_upto_region 5 with fail
  refine wp_text 4 [.eq (.pointer (some ⟨p, 0, none⟩)), .eq (.pointer (some ⟨p, 0, none⟩)), .eq (.pointer (some ⟨p, 2, none⟩)), .eq (.pointer (some ⟨p, 2, none⟩))] rfl (by kernel_rfl) ?_ ?_
  ·refine sv 1 rfl rfl rfl (fun a u hE hD hk => exec_move (.tmp 0) _ rfl (hE 0 (.pointer (some ⟨p, 0, none⟩)) (by kernel_rfl) (by kernel_rfl))) ?_
   refine sv 2 rfl rfl rfl (fun a u hE hD hk => exec_nilp (.tmp 13) ⟨p, 0, none⟩ rfl (hD 0 13 (by kernel_rfl))) ?_
   refine sv 3 rfl rfl rfl (fun a u hE hD hk => exec_fldo 75 1 2 (.tmp 14) (p) (0) (2) rfl (hD 1 14 (by kernel_rfl)) (by kernel_rfl) rfl) ?_
   refine sv 4 rfl rfl rfl (fun a u hE hD hk => exec_assign (.tmp 15) _ rfl (hD 2 15 (by kernel_rfl))) ?_
   exact fsteps_nil
  intro gv w4 hV k4
  rw [show dstsOf _ 4 = [13, 14, 15, 4] by kernel_rfl]
  simp only [fC, fN, sA, sS, sZ, dS, dZ]
  rw [show gv 4 = .pointer (some ⟨p, 2, none⟩) from hV 3 4 (by kernel_rfl)]
  clear hV
  refine wpList_nil ?_
  have kw := ((k1.trans k2).trans k3).trans k4
  clear k1 k2 k3 k4
  go_wp2
  go_ret
  exact ⟨by rw [HR.out]; rfl, kw⟩
set_option maxHeartbeats 800000 in
theorem against_any (w : World) (p : Nat) (c : Ord) (hs : c.side = 1 ∨ c.side = 2) : Gives 63 #[.pointer (some ⟨p, 0, none⟩), c.v] w (.eq (.pointer (some ⟨p, offS (3 - c.side), none⟩))) := by
 refine gives_eq ?_
 go_enter Try.func63, Try.ntmps63
 go_upto_region 0 with fail
 refine wp_text 2 [.fresh w.heap.size 25 (c.cells), .eq (.pointer none)] rfl (by kernel_rfl) ?_ ?_
 ·refine fsteps_cons 1 rfl (fun a u hE hD hk => f_new (o := ⟨some 3, _, _, _, _, _⟩) (.pointer (some ⟨u.heap.size, 0, none⟩)) _ rfl (wanted_none rfl _) (exec_box 25 (.tmp 1) (c.cells) rfl (hE 1 (c.v) (by kernel_rfl) (by kernel_rfl))) ⟨_, rfl, hk.size, Blk.new u _ _⟩ ((Keep.refl _ u).alloc _)) ?_
  refine sv 2 rfl rfl rfl (fun a u hE hD hk => exec_assign (.const (.pointer none)) _ rfl rfl) ?_
  exact fsteps_nil
 intro gv w1 hV k1
 rw [show dstsOf _ 2 = [3, 4] by kernel_rfl]
 simp only [fC, fN, sA, sS, sZ, dS, dZ]
 have hv3 : (.fresh w.heap.size 25 (c.cells) : Kn).p (gv 3) w1 := hV 0 3 (by kernel_rfl)
 generalize gv 3 = v3 at hv3 ⊢
 rw [show gv 4 = .pointer none from hV 1 4 (by kernel_rfl)]
 clear hV
 obtain ⟨g, rfl, hg, hB⟩ := hv3
 refine wpList_nil ?_
 have HB := Lib.hid (blk_range hB)
 clear hB
 rcases hs with hs | hs
 ·skip
  have HR : Hid (offS (3 - c.side) = 2) := by show _ = _; rw [hs] <;> rfl
  go_upto_region 1 with fail
  refine wp_text 3 [.eq (.pointer (some ⟨g, 3, none⟩)), .eq (.int .i64 c.side), .eq (.bool true)] rfl (by kernel_rfl) ?_ ?_
  ·refine sv 1 rfl rfl rfl (fun a u hE hD hk => exec_fldo 25 3 3 (.tmp 3) (g) (0) (3) rfl (hE 3 (.pointer (some ⟨g, 0, none⟩)) (by kernel_rfl) (by kernel_rfl)) (by kernel_rfl) rfl) ?_
   refine sv 2 rfl rfl rfl (fun a u hE hD hk => exec_loadi 3 Try.underlying3 (.tmp 5) ⟨g, 3, none⟩ (.int .i64 c.side) rfl (hD 0 5 (by kernel_rfl)) (range_int (range_kept HB.out hk) 3 _ rfl)) ?_
   refine fsteps_cons 3 rfl (fun a u hE hD hk => f_as (show ((decide ((c.side : Int) = (1 : Int))) : Bool) = true from decide_eq_true (by omega)) (f_val (o := ⟨some 7, _, _, _, _, _⟩) (.bool (decide ((c.side : Int) = (1 : Int)))) rfl (wanted_none rfl _) (exec_eqn (p := c.side) (q := 1) rfl (hD 1 6 (by kernel_rfl)) rfl) rfl)) ?_
   exact fsteps_nil
  intro gv w2 hV k2
  rw [show dstsOf _ 3 = [5, 6, 7] by kernel_rfl]
  simp only [fC, fN, sA, sS, sZ, dS, dZ]
  rw [show gv 7 = .bool true from hV 2 7 (by kernel_rfl)]
  clear hV
  refine wpList_nil ?_
  clear hs
  go_upto_region 2 with fail
  refine wp_text 4 [.eq (.pointer (some ⟨p, 0, none⟩)), .eq (.pointer (some ⟨p, 0, none⟩)), .eq (.pointer (some ⟨p, 2, none⟩)), .eq (.pointer (some ⟨p, 2, none⟩))] rfl (by kernel_rfl) ?_ ?_
  ·refine sv 1 rfl rfl rfl (fun a u hE hD hk => exec_move (.tmp 0) _ rfl (hE 0 (.pointer (some ⟨p, 0, none⟩)) (by kernel_rfl) (by kernel_rfl))) ?_
   refine sv 2 rfl rfl rfl (fun a u hE hD hk => exec_nilp (.tmp 8) ⟨p, 0, none⟩ rfl (hD 0 8 (by kernel_rfl))) ?_
   refine sv 3 rfl rfl rfl (fun a u hE hD hk => exec_fldo 75 1 2 (.tmp 9) (p) (0) (2) rfl (hD 1 9 (by kernel_rfl)) (by kernel_rfl) rfl) ?_
   refine sv 4 rfl rfl rfl (fun a u hE hD hk => exec_assign (.tmp 10) _ rfl (hD 2 10 (by kernel_rfl))) ?_
   exact fsteps_nil
  intro gv w3 hV k3
  rw [show dstsOf _ 4 = [8, 9, 10, 4] by kernel_rfl]
  simp only [fC, fN, sA, sS, sZ, dS, dZ]
  rw [show gv 4 = .pointer (some ⟨p, 2, none⟩) from hV 3 4 (by kernel_rfl)]
  clear hV
  refine wpList_nil ?_
  have kw := (k1.trans k2).trans k3
  clear k1 k2 k3
  go_wp2
  go_ret
  exact ⟨by rw [HR.out]; rfl, kw⟩
 ·skip
  have HR : Hid (offS (3 - c.side) = 0) := by show _ = _; rw [hs] <;> rfl
  go_upto_region 1 with fail
  refine wp_text 3 [.eq (.pointer (some ⟨g, 3, none⟩)), .eq (.int .i64 c.side), .eq (.bool false)] rfl (by kernel_rfl) ?_ ?_
  ·refine sv 1 rfl rfl rfl (fun a u hE hD hk => exec_fldo 25 3 3 (.tmp 3) (g) (0) (3) rfl (hE 3 (.pointer (some ⟨g, 0, none⟩)) (by kernel_rfl) (by kernel_rfl)) (by kernel_rfl) rfl) ?_
   refine sv 2 rfl rfl rfl (fun a u hE hD hk => exec_loadi 3 Try.underlying3 (.tmp 5) ⟨g, 3, none⟩ (.int .i64 c.side) rfl (hD 0 5 (by kernel_rfl)) (range_int (range_kept HB.out hk) 3 _ rfl)) ?_
   refine fsteps_cons 3 rfl (fun a u hE hD hk => f_as (show ((decide ((c.side : Int) = (1 : Int))) : Bool) = false from decide_eq_false (by omega)) (f_val (o := ⟨some 7, _, _, _, _, _⟩) (.bool (decide ((c.side : Int) = (1 : Int)))) rfl (wanted_none rfl _) (exec_eqn (p := c.side) (q := 1) rfl (hD 1 6 (by kernel_rfl)) rfl) rfl)) ?_
   exact fsteps_nil
  intro gv w2 hV k2
  rw [show dstsOf _ 3 = [5, 6, 7] by kernel_rfl]
  simp only [fC, fN, sA, sS, sZ, dS, dZ]
  rw [show gv 7 = .bool false from hV 2 7 (by kernel_rfl)]
  clear hV
  refine wpList_nil ?_
  clear hs
  go_upto_region 3 with fail
  refine wp_text 4 [.eq (.pointer (some ⟨p, 0, none⟩)), .eq (.pointer (some ⟨p, 0, none⟩)), .eq (.pointer (some ⟨p, 0, none⟩)), .eq (.pointer (some ⟨p, 0, none⟩))] rfl (by kernel_rfl) ?_ ?_
  ·refine sv 1 rfl rfl rfl (fun a u hE hD hk => exec_move (.tmp 0) _ rfl (hE 0 (.pointer (some ⟨p, 0, none⟩)) (by kernel_rfl) (by kernel_rfl))) ?_
   refine sv 2 rfl rfl rfl (fun a u hE hD hk => exec_nilp (.tmp 11) ⟨p, 0, none⟩ rfl (hD 0 11 (by kernel_rfl))) ?_
   refine sv 3 rfl rfl rfl (fun a u hE hD hk => exec_fldo 75 0 0 (.tmp 12) (p) (0) (0) rfl (hD 1 12 (by kernel_rfl)) (by kernel_rfl) rfl) ?_
   refine sv 4 rfl rfl rfl (fun a u hE hD hk => exec_assign (.tmp 13) _ rfl (hD 2 13 (by kernel_rfl))) ?_
   exact fsteps_nil
  intro gv w3 hV k3
  rw [show dstsOf _ 4 = [11, 12, 13, 4] by kernel_rfl]
  simp only [fC, fN, sA, sS, sZ, dS, dZ]
  rw [show gv 4 = .pointer (some ⟨p, 0, none⟩) from hV 3 4 (by kernel_rfl)]
  clear hV
  refine wpList_nil ?_
  have kw := (k1.trans k2).trans k3
  clear k1 k2 k3
  go_wp2
  go_ret
  exact ⟨by rw [HR.out]; rfl, kw⟩
set_option maxHeartbeats 800000 in
theorem mayRest_any (w : World) (c : Ord) : Gives 41 #[c.v] w (.eq (.bool (decide (c.k = 1) || decide (c.k = 5)))) := by
 refine gives_eq ?_
 go_enter Try.func41, Try.ntmps41
 go_upto_region 0 with fail
 refine wp_text 2 [.fresh w.heap.size 25 (c.cells), .eq (.bool false)] rfl (by kernel_rfl) ?_ ?_
 ·refine fsteps_cons 1 rfl (fun a u hE hD hk => f_new (o := ⟨some 1, _, _, _, _, _⟩) (.pointer (some ⟨u.heap.size, 0, none⟩)) _ rfl (wanted_none rfl _) (exec_box 25 (.tmp 0) (c.cells) rfl (hE 0 (c.v) (by kernel_rfl) (by kernel_rfl))) ⟨_, rfl, hk.size, Blk.new u _ _⟩ ((Keep.refl _ u).alloc _)) ?_
  refine sv 2 rfl rfl rfl (fun a u hE hD hk => exec_assign (.const (.bool false)) _ rfl rfl) ?_
  exact fsteps_nil
 intro gv w1 hV k1
 rw [show dstsOf _ 2 = [1, 2] by kernel_rfl]
 simp only [fC, fN, sA, sS, sZ, dS, dZ]
 have hv1 : (.fresh w.heap.size 25 (c.cells) : Kn).p (gv 1) w1 := hV 0 1 (by kernel_rfl)
 generalize gv 1 = v1 at hv1 ⊢
 rw [show gv 2 = .bool false from hV 1 2 (by kernel_rfl)]
 clear hV
 obtain ⟨g, rfl, hg, hB⟩ := hv1
 refine wpList_nil ?_
 have HB := Lib.hid (blk_range hB)
 clear hB
 go_upto_region 1 with fail
 refine wp_text 9 [.eq (.pointer (some ⟨g, 4, none⟩)), .eq (.int .i64 c.k), .eq (.bool (decide ((c.k : Int) = (1 : Int)))), .eq (.bool (decide ((c.k : Int) = (1 : Int)))), .cond (!(decide ((c.k : Int) = (1 : Int)))) (.eq (.pointer (some ⟨g, 4, none⟩))), .cond (!(decide ((c.k : Int) = (1 : Int)))) (.eq (.int .i64 c.k)), .cond (!(decide ((c.k : Int) = (1 : Int)))) (.eq (.bool (decide ((c.k : Int) = (5 : Int))))), .eq (.bool ((decide ((c.k : Int) = (1 : Int))) || (decide ((c.k : Int) = (5 : Int))))), .eq (.bool ((decide ((c.k : Int) = (1 : Int))) || (decide ((c.k : Int) = (5 : Int)))))] rfl (by kernel_rfl) ?_ ?_
 ·refine sv 1 rfl rfl rfl (fun a u hE hD hk => exec_fldo 25 4 4 (.tmp 1) (g) (0) (4) rfl (hE 1 (.pointer (some ⟨g, 0, none⟩)) (by kernel_rfl) (by kernel_rfl)) (by kernel_rfl) rfl) ?_
  refine sv 2 rfl rfl rfl (fun a u hE hD hk => exec_loadi 3 Try.underlying3 (.tmp 3) ⟨g, 4, none⟩ (.int .i64 c.k) rfl (hD 0 3 (by kernel_rfl)) (range_int (range_kept HB.out hk) 4 _ rfl)) ?_
  refine sv 3 rfl rfl rfl (fun a u hE hD hk => exec_eqn (p := c.k) (q := 1) rfl (hD 1 4 (by kernel_rfl)) rfl) ?_
  refine sv 4 rfl rfl rfl (fun a u hE hD hk => exec_move (.tmp 5) _ rfl (hD 2 5 (by kernel_rfl))) ?_
  refine fsteps_cons 5 rfl (fun a u hE hD hk => f_unless ((decide ((c.k : Int) = (1 : Int)))) rfl rfl rfl (hD 3 6 (by kernel_rfl)) (fun hb => f_val (o := ⟨some 7, _, _, _, _, _⟩) (.pointer (some ⟨g, 4, none⟩)) rfl (wanted_b rfl rfl (hD 3 6 (by kernel_rfl)) (eq_false_of hb)) (exec_fldo 25 4 4 (.tmp 1) (g) (0) (4) rfl (hE 1 (.pointer (some ⟨g, 0, none⟩)) (by kernel_rfl) (by kernel_rfl)) (by kernel_rfl) rfl) rfl)) ?_
  refine fsteps_cons 6 rfl (fun a u hE hD hk => f_unless ((decide ((c.k : Int) = (1 : Int)))) rfl rfl rfl (hD 3 6 (by kernel_rfl)) (fun hb => f_val (o := ⟨some 8, _, _, _, _, _⟩) (.int .i64 c.k) rfl (wanted_b rfl rfl (hD 3 6 (by kernel_rfl)) (eq_false_of hb)) (exec_loadi 3 Try.underlying3 (.tmp 7) ⟨g, 4, none⟩ (.int .i64 c.k) rfl ((hD 4 7 (by kernel_rfl)).1 hb) (range_int (range_kept HB.out hk) 4 _ rfl)) rfl)) ?_
  refine fsteps_cons 7 rfl (fun a u hE hD hk => f_unless ((decide ((c.k : Int) = (1 : Int)))) rfl rfl rfl (hD 3 6 (by kernel_rfl)) (fun hb => f_val (o := ⟨some 9, _, _, _, _, _⟩) (.bool (decide ((c.k : Int) = (5 : Int)))) rfl (wanted_b rfl rfl (hD 3 6 (by kernel_rfl)) (eq_false_of hb)) (exec_eqn (p := c.k) (q := 5) rfl ((hD 5 8 (by kernel_rfl)).1 hb) rfl) rfl)) ?_
  refine sv 8 rfl rfl rfl (fun a u hE hD hk => exec_pickor (.tmp 6) (.const (.bool true)) (.tmp 9) ((decide ((c.k : Int) = (1 : Int)))) ((decide ((c.k : Int) = (5 : Int)))) rfl (hD 3 6 (by kernel_rfl)) rfl (fun hb2 => ((hD 6 9 (by kernel_rfl)).1 hb2))) ?_
  refine sv 9 rfl rfl rfl (fun a u hE hD hk => exec_assign (.tmp 10) _ rfl (hD 7 10 (by kernel_rfl))) ?_
  exact fsteps_nil
 intro gv w2 hV k2
 rw [show dstsOf _ 9 = [3, 4, 5, 6, 7, 8, 9, 10, 2] by kernel_rfl]
 simp only [fC, fN, sA, sS, sZ, dS, dZ]
 rw [show gv 2 = .bool ((decide ((c.k : Int) = (1 : Int))) || (decide ((c.k : Int) = (5 : Int)))) from hV 8 2 (by kernel_rfl)]
 clear hV
 refine wpList_nil ?_
 have kw := k1.trans k2
 clear k1 k2
 go_wp2
 go_ret
 exact ⟨rfl, kw⟩
def Kn.at_ (base : Nat) (Fs : Nat → Prop) (p : Nat) (s : Int) (u0 : Value) (last no : Int) (L : List Lev) (price : Int) : Kn := ⟨fun v w => ∃ q X ZA ZR v' Fs' G', v = .pointer (some ⟨q, 0, none⟩) ∧ WayZ 110 112 97 w Fs' v' (ZA ++ (q, price, X) :: ZR) G' ∧ Blk w p 75 (sideCs s v' u0 last no) ∧ (∀ b, Fs' b → Fs b ∨ base ≤ b) ∧ X.length ≤ 64 ∧ ∀ o : Ord, o.side = s → o.price = price → restM o L = levs ZA ++ (price, X ++ [Ent.of o]) :: levs ZR,
 fun _ _ _ ⟨q, X, ZA, ZR, v', Fs', G', h1, h2, h3, h4⟩ hk => ⟨q, X, ZA, ZR, v', Fs', G', h1, h2.kept hk, h3.kept hk, h4⟩⟩
theorem at_kn (u W : World) (Fs : Nat → Prop) (p : Nat) (s price : Int) (v u0 : Value) (last no : Int) (Z : Zs) (G : Nat → Nat → Prop) (L : List Lev) (hk : Kept W u) (hs : s = 1 ∨ s = 2) (hW : WayZ 110 112 97 W Fs v Z G) (hB : Blk W p 75 (sideCs s v u0 last no)) (hFs : ∀ b, Fs b → b ≠ p) (eL : levs Z = L) (hL : LvsOk L) :
  Calls Try.prog 70 #[.pointer (some ⟨p, offS s, none⟩), .int .i64 price] u fun e w' => ∃ v, e = .returned v ∧ (Kn.at_ W.heap.size Fs p s u0 last no L price).p v w' ∧ Keep (fun b => Fs b ∨ b = p) u w' := by
 refine (at_any u Fs p s price v u0 last no Z G L hs (hW.kept hk) (hB.kept hk) hFs eL hL).mono ?_
 rintro r w' ⟨q, X, ZA, ZR, v', Fs', G', h1, h2, h3, h4, h5, h6, h7⟩
 exact ⟨_, h1, ⟨q, X, ZA, ZR, v', Fs', G', rfl, h2, h3, fun b hb => (h4 b hb).imp id (fun h => Nat.le_trans hk.size h), h6, h7⟩, h5⟩
theorem cut_l (o : Ord) (n : Int) : (stc ((o.l.set 6 n).set 7 (mn o.shw n)) []) = (o.cut n).cells := rfl
set_option maxRecDepth 100000 in
set_option maxHeartbeats 1600000 in
theorem rest_any (w : World) (F : Nat → Prop) (p : Nat) (B : Bok) (o : Ord) (n : Int) (h : Bk w F p B) (hs : o.side = 1 ∨ o.side = 2) (hL : LvsOk (B.sd o.side)) :
  Calls Try.prog 42 #[.pointer (some ⟨p, 0, none⟩), o.v, .int .i64 n] w fun r w' => ∃ F', r = .returned (.tuple #[]) ∧ Bk w' F' p (B.to o.side (restM (o.cut n) (B.sd o.side)) B.last B.no) ∧ Grow w F F' ∧ Keep F w w' := by
 obtain ⟨L, hLe⟩ : ∃ L, B.sd o.side = L := ⟨_, rfl⟩
 rw [hLe] at hL ⊢
 have HLE := Lib.hid hLe
 have hFl := h.lt
 have HK := Lib.hid h
 have HL := Lib.hid hL
 have hpF := h.1
 clear h hL hLe
 go_enter Try.func42, Try.ntmps42
 go_upto_region 0 with fail
 refine wp_text 1 [.fresh w.heap.size 25 (o.cells)] rfl (by kernel_rfl) ?_ ?_
 ·refine fsteps_cons 1 rfl (fun a u hE hD hk => f_new (o := ⟨some 4, _, _, _, _, _⟩) (.pointer (some ⟨u.heap.size, 0, none⟩)) _ rfl (wanted_none rfl _) (exec_box 25 (.tmp 1) (o.cells) rfl (hE 1 (o.v) (by kernel_rfl) (by kernel_rfl))) ⟨_, rfl, hk.size, Blk.new u _ _⟩ ((Keep.refl _ u).alloc _)) ?_
  exact fsteps_nil
 intro gv w0 hV k0
 rw [show dstsOf _ 1 = [4] by kernel_rfl]
 simp only [fC, fN, sA, sS, sZ, dS, dZ]
 have hv4 : (.fresh w.heap.size 25 (o.cells) : Kn).p (gv 4) w0 := hV 0 4 (by kernel_rfl)
 generalize gv 4 = v4 at hv4 ⊢
 clear hV
 obtain ⟨g, rfl, hg, hB⟩ := hv4
 refine wpList_nil ?_
 have z0 := k0.size
 have lg := hB.lt
 go_upto_region 1 with fail
 refine wp_text 2 [.eq (.int .i64 n), .eq (.pointer (some ⟨g, 6, none⟩))] rfl (by kernel_rfl) ?_ ?_
 ·refine sv 1 rfl rfl rfl (fun a u hE hD hk => exec_move (.tmp 2) _ rfl (hE 2 (.int .i64 n) (by kernel_rfl) (by kernel_rfl))) ?_
  refine sv 2 rfl rfl rfl (fun a u hE hD hk => exec_fldo 25 6 6 (.tmp 4) (g) (0) (6) rfl (hE 4 (.pointer (some ⟨g, 0, none⟩)) (by kernel_rfl) (by kernel_rfl)) (by kernel_rfl) rfl) ?_
  exact fsteps_nil
 intro gv w1 hV k1
 rw [show dstsOf _ 2 = [6, 7] by kernel_rfl]
 simp only [fC, fN, sA, sS, sZ, dS, dZ]
 rw [show gv 7 = .pointer (some ⟨g, 6, none⟩) from hV 1 7 (by kernel_rfl)]
 rw [show gv 6 = .int .i64 n from hV 0 6 (by kernel_rfl)]
 clear hV
 refine l_setf (o := ⟨none, _, _, _, _, _⟩) g 6 25 o.l [] n (.tmp 7) (.tmp 6) rfl rfl (by kernel_rfl) (by kernel_rfl) (hB.kept k1) (by simp [Ord.l]) ?_
 intro w2 hB2 hk2 hs2
 simp only [Act.put]
 refine wpList_nil ?_
 have k02 : Kept w w2 := (k0.trans k1).trans' hk2 (by omega)
 have HB2 := Lib.hid (blk_range hB2)
 have z2 := k1.size
 go_upto_region 2 with fail
 refine wp_text 5 [.eq (.pointer (some ⟨g, 7, none⟩)), .eq (.int .i64 o.shw), .eq (.int .i64 n), .eq (.int .i64 (mn (o.shw) (n))), .eq (.pointer (some ⟨g, 7, none⟩))] rfl (by kernel_rfl) ?_ ?_
 ·refine sv 1 rfl rfl rfl (fun a u hE hD hk => exec_fldo 25 7 7 (.tmp 4) (g) (0) (7) rfl (hE 4 (.pointer (some ⟨g, 0, none⟩)) (by kernel_rfl) (by kernel_rfl)) (by kernel_rfl) rfl) ?_
  refine sv 2 rfl rfl rfl (fun a u hE hD hk => exec_loadi 3 Try.underlying3 (.tmp 8) ⟨g, 7, none⟩ (.int .i64 o.shw) rfl (hD 0 8 (by kernel_rfl)) (by rw [(hB2.kept hk).cell]; rfl)) ?_
  refine sv 3 rfl rfl rfl (fun a u hE hD hk => exec_move (.tmp 2) _ rfl (hE 2 (.int .i64 n) (by kernel_rfl) (by kernel_rfl))) ?_
  refine sv 4 rfl rfl rfl (fun a u hE hD hk => exec_min (.tmp 9) (.tmp 10) _ (o.shw) (n) (mn (o.shw) (n)) rfl (hD 1 9 (by kernel_rfl)) (hD 2 10 (by kernel_rfl)) rfl) ?_
  refine sv 5 rfl rfl rfl (fun a u hE hD hk => exec_fldo 25 7 7 (.tmp 4) (g) (0) (7) rfl (hE 4 (.pointer (some ⟨g, 0, none⟩)) (by kernel_rfl) (by kernel_rfl)) (by kernel_rfl) rfl) ?_
  exact fsteps_nil
 intro gv w3 hV k3
 rw [show dstsOf _ 5 = [8, 9, 10, 11, 12] by kernel_rfl]
 simp only [fC, fN, sA, sS, sZ, dS, dZ]
 rw [show gv 12 = .pointer (some ⟨g, 7, none⟩) from hV 4 12 (by kernel_rfl)]
 rw [show gv 11 = .int .i64 (mn (o.shw) (n)) from hV 3 11 (by kernel_rfl)]
 clear hV
 refine l_setf (o := ⟨none, _, _, _, _, _⟩) g 7 25 (o.l.set 6 n) [] (mn o.shw n) (.tmp 12) (.tmp 11) rfl rfl (by kernel_rfl) (by kernel_rfl) (hB2.kept k3) (by simp [Ord.l]) ?_
 intro w4 hB4 hk4 hs4
 simp only [Act.put]
 refine wpList_nil ?_
 rw [cut_l] at hB4
 have k04 : Kept w w4 := (k02.trans k3).trans' hk4 (by omega)
 have HO := Lib.hid (blk_range hB4)
 have lg4 := hB4.lt
 clear hB hB2 hB4 hk2 hk4 hs2 hs4 k0 k1 k3 HB2 k02
 obtain ⟨c, hc⟩ : ∃ c, o.cut n = c := ⟨_, rfl⟩
 have hcs : c.side = o.side := by rw [← hc]; rfl
 have hcp : c.price = o.price := by rw [← hc]; rfl
 rw [hc] at HO
 obtain ⟨s, hse⟩ : ∃ s, o.side = s := ⟨_, rfl⟩
 have HSE : Hid (c.side = s) := by show _ = _; rw [hcs, hse]
 have HOS := Lib.hid hse
 have HCC := Lib.hid hc
 rw [hse] at hs HLE
 have HCP := Lib.hid hcp
 obtain ⟨v, u0, Z, G, Fs, eL, hW, hBk, hFs, hp, hlt, hJ⟩ := (HK.out.kept k04).open_ hs
 rw [HLE.out] at eL
 have HW := Lib.hid hW
 have HBk := Lib.hid hBk
 have EL := Lib.hid eL
 have HJ := Lib.hid hJ
 have hgS : ¬ (Fs g ∨ g = p) := fun h => by
  rcases h with h | h
  ·have := hFl g (hFs g h).1; omega
  ·have := hFl p hpF; omega
 have HFs := Lib.hid hFs
 clear hW hBk eL hJ hcs hcp hse hc hFs
 go_upto_region 3 with fail
 refine wp_freeV 8 6 [0, 1, 2, 3, 4, 5, 7] [.eq (.pointer (some ⟨p, 0, none⟩)), .eq (.pointer (some ⟨g, 3, none⟩)), .eq (.int .i64 c.side), .eq (.pointer (some ⟨p, offS s, none⟩)), .eq (.pointer (some ⟨g, 5, none⟩)), .eq (.int .i64 c.price), .at_ w4.heap.size Fs p s u0 B.last B.no L c.price, .eq (c.v)] ((fun b => Fs b ∨ b = p)) (by kernel_rfl) rfl (by omega) (by kernel_rfl) (by kernel_rfl) ?_ ?_ (fun a u hE hD hk => v_call (o := ⟨some 19, _, _, _, _, _⟩) 70 #[.pointer (some ⟨p, offS s, none⟩), .int .i64 c.price] rfl (wanted_none rfl _) (exec_call 70 _ [.tmp 16, .tmp 18] _ [.pointer (some ⟨p, offS s, none⟩), .int .i64 c.price] Try.func70 (by kernel_rfl) (by kernel_rfl) rfl (show [a.eval (.tmp 16), a.eval (.tmp 18)] = [.pointer (some ⟨p, offS s, none⟩), .int .i64 c.price] from (by rw [show a.eval (.tmp 16) = .pointer (some ⟨p, offS s, none⟩) from (hD 3 16 (by kernel_rfl)), show a.eval (.tmp 18) = .int .i64 c.price from (hD 5 18 (by kernel_rfl))] <;> rfl)) u) (at_kn u w4 Fs p s c.price v u0 B.last B.no Z G L hk hs HW.out HBk.out (fun b hb => (HFs.out b hb).2) EL.out HL.out)) ?_
 ·intro i hi
  have hi2 : i = 0 ∨ i = 1 ∨ i = 2 ∨ i = 3 ∨ i = 4 ∨ i = 5 ∨ i = 7 := by simpa using hi
  rcases hi2 with rfl | rfl | rfl | rfl | rfl | rfl | rfl
  ·exact Kn.safe_eq _ _
  ·exact Kn.safe_eq _ _
  ·exact Kn.safe_eq _ _
  ·exact Kn.safe_eq _ _
  ·exact Kn.safe_eq _ _
  ·exact Kn.safe_eq _ _
  ·exact Kn.safe_eq _ _
 ·refine vsteps_cons 1 rfl (fun a u hE hD hk => f_val (o := ⟨some 13, _, _, _, _, _⟩) (.pointer (some ⟨p, 0, none⟩)) rfl (wanted_none rfl _) (exec_move (.tmp 0) _ rfl (hE 0 (.pointer (some ⟨p, 0, none⟩)) (by kernel_rfl) (by kernel_rfl))) rfl) ?_
  refine vsteps_cons 2 rfl (fun a u hE hD hk => f_val (o := ⟨some 14, _, _, _, _, _⟩) (.pointer (some ⟨g, 3, none⟩)) rfl (wanted_none rfl _) (exec_fldo 25 3 3 (.tmp 4) (g) (0) (3) rfl (hE 4 (.pointer (some ⟨g, 0, none⟩)) (by kernel_rfl) (by kernel_rfl)) (by kernel_rfl) rfl) rfl) ?_
  refine vsteps_cons 3 rfl (fun a u hE hD hk => f_val (o := ⟨some 15, _, _, _, _, _⟩) (.int .i64 c.side) rfl (wanted_none rfl _) (exec_loadi 3 Try.underlying3 (.tmp 14) ⟨g, 3, none⟩ (.int .i64 c.side) rfl (hD 1 14 (by kernel_rfl)) (range_int (range_keep HO.out hk (hgS)) 3 _ rfl)) rfl) ?_
  refine vsteps_cons 4 rfl (fun a u hE hD hk => f_call (o := ⟨some 16, _, _, _, _, _⟩) 43 #[.pointer (some ⟨p, 0, none⟩), .int .i64 c.side] rfl (wanted_none rfl _) (exec_call 43 _ [.tmp 13, .tmp 15] _ [.pointer (some ⟨p, 0, none⟩), .int .i64 c.side] Try.func43 (by kernel_rfl) (by kernel_rfl) rfl (show [a.eval (.tmp 13), a.eval (.tmp 15)] = [.pointer (some ⟨p, 0, none⟩), .int .i64 c.side] from (by rw [show a.eval (.tmp 13) = .pointer (some ⟨p, 0, none⟩) from (hD 0 13 (by kernel_rfl)), show a.eval (.tmp 15) = .int .i64 c.side from (hD 2 15 (by kernel_rfl))] <;> rfl)) u) ((by rw [HSE.out]; exact of_eq u p s hs))) ?_
  refine vsteps_cons 5 rfl (fun a u hE hD hk => f_val (o := ⟨some 17, _, _, _, _, _⟩) (.pointer (some ⟨g, 5, none⟩)) rfl (wanted_none rfl _) (exec_fldo 25 5 5 (.tmp 4) (g) (0) (5) rfl (hE 4 (.pointer (some ⟨g, 0, none⟩)) (by kernel_rfl) (by kernel_rfl)) (by kernel_rfl) rfl) rfl) ?_
  refine vsteps_cons 6 rfl (fun a u hE hD hk => f_val (o := ⟨some 18, _, _, _, _, _⟩) (.int .i64 c.price) rfl (wanted_none rfl _) (exec_loadi 3 Try.underlying3 (.tmp 17) ⟨g, 5, none⟩ (.int .i64 c.price) rfl (hD 4 17 (by kernel_rfl)) (range_int (range_keep HO.out hk (hgS)) 5 _ rfl)) rfl) ?_
  refine vsteps_turn 7 rfl rfl ?_
  refine vsteps_cons 8 rfl (fun a u hE hD hk => f_val (o := ⟨some 20, _, _, _, _, _⟩) (c.v) rfl (wanted_none rfl _) (exec_ldS 25 _ (.tmp 4) (g) (0) (c.cells) rfl (hE 4 (.pointer (some ⟨g, 0, none⟩)) (by kernel_rfl) (by kernel_rfl)) (range_keep HO.out hk (hgS)) Try.underlying25 (by rw [c.len9]; exact ord_size)) rfl) ?_
  exact vsteps_nil
 intro gv w5 hV k5
 rw [show dstsOf _ 8 = [13, 14, 15, 16, 17, 18, 19, 20] by kernel_rfl]
 simp only [fC, fN, sA, sS, sZ, dS, dZ]
 have hv19 : (.at_ w4.heap.size Fs p s u0 B.last B.no L c.price : Kn).p (gv 19) w5 := hV 6 19 (by kernel_rfl)
 generalize gv 19 = v19 at hv19 ⊢
 rw [show gv 20 = c.v from hV 7 20 (by kernel_rfl)]
 clear hV
 obtain ⟨q, X, ZA, ZR, v', Fs', G', rfl, hW5, hB5, hG5, hX5, hM5⟩ := hv19
 have hq := hW5.lv (q, c.price, X) (by simp)
 have hqF := hW5.in_ (q, c.price, X) (by simp)
 refine l_call (o := ⟨some 21, _, _, _, _, _⟩) 71 #[.pointer (some ⟨q, 0, none⟩), c.v] rfl (exec_call 71 _ [.tmp 19, .tmp 20] _ _ Try.func71 (by kernel_rfl) (by kernel_rfl) rfl (by kernel_rfl) _) ?_
 refine (add_any w5 _ q X c hq (by omega)).mono ?_
 rintro r w6 ⟨F6, rfl, hl6, hg6, hk6⟩
 refine ⟨_, rfl, ?_⟩
 simp only [Act.put, sA, sS, sZ]
 refine wpList_nil ?_
 obtain ⟨Fs2, G2, hW6, hG6, hk6', _⟩ := hW5.turn hk6 hl6 hg6
 have z5 := k5.size
 have hpF5 : ¬ Fs' p := fun h => (hG5 p h).elim (fun h => (HFs.out p h).2 rfl) (fun h => by have := hFl p hpF; have := k04.size; omega)
 have hB6 := hB5.keep hk6' hpF5
 have K6 : Keep (fun b => Fs b ∨ b = p) w4 w6 := k5.trans hk6' (fun b hb h => (hG5 b h).elim .inl (fun h => by omega))
 have G6 : Grow w4 Fs Fs2 := fun b hb => (hG6 b hb).elim (fun h => hG5 b h) (fun h => .inr (by omega))
 obtain ⟨F', q1, q2, q3, _⟩ := HJ.out w6 _ _ _ _ _ K6 hB6 ⟨_, _, rfl, hW6⟩ G6
 have HR : Hid (Bk w6 F' p (B.to s (restM c L) B.last B.no)) := by
  show Bk _ _ _ _
  rw [hM5 c HSE.out rfl]
  rw [levs_append, levs_cons] at q1
  exact q1
 have Q2 : Grow w F F' := q2.wide k04.size
 have Q3 : Keep F w w6 := Keep.any k04 q3
 clear q1 hW6 hB6 K6 G6 hW5 hB5 hM5 hq hl6 hk6 hg6 hk6' hG6 q2 q3
 go_wp2
 go_end0
 rw [HCC.out, HOS.out]
 first | exact ⟨rfl, F', HR.out, Q2, Q3⟩ | exact ⟨F', rfl, HR.out, Q2, Q3⟩
end Go.Proofs.Ytfpfpmhkkgfdbaa
namespace Go.Proofs.Ytfpfpmhkkgfdbaa
open Go.RowKit
set_option maxRecDepth 100000
set_option maxRecDepth 100000 in
set_option maxHeartbeats 1600000 in
theorem growO_any (w : World) (v : Value) (n m : Nat) (cs : List Value) (hS : Sl w 25 9 v n cs) (hn : n + m ≤ 100000000) :
  Calls Try.prog 79 #[v, .int .i64 (m : Int)] w fun r w' => ∃ v', r = .returned v' ∧ Sl w' 25 9 v' n cs ∧ Kept w w' ∧ ∀ b, v'.ownBlock = some b → v.ownBlock = some b ∨ w.heap.size ≤ b := by
 obtain ⟨A, c, rfl⟩ := hS.slice_
 obtain ⟨hnc, hcm, hA⟩ := hS.cap
 have hcm' : c ≤ 9223372036854775807 := by unfold maxLen at hcm; omega
 have HS := Lib.hid hS
 have HA := Lib.hid hA
 clear hS hA hcm
 go_enter Try.func79, Try.ntmps79
 go_upto_region 1 with fail
 refine wp_text 2 [.eq (.int .i64 (m : Int)), .eq (.bool false)] rfl (by kernel_rfl) ?_ ?_
 ·refine sv 1 rfl rfl rfl (fun a u hE hD hk => exec_move (.tmp 1) _ rfl (hE 1 (.int .i64 (m : Int)) (by kernel_rfl) (by kernel_rfl))) ?_
  refine fsteps_cons 2 rfl (fun a u hE hD hk => f_as (show ((decide (((m : Int) : Int) < (0 : Int))) : Bool) = false from decide_eq_false (by omega)) (f_val (o := ⟨some 6, _, _, _, _, _⟩) (.bool (decide (((m : Int) : Int) < (0 : Int)))) rfl (wanted_none rfl _) (exec_ltn (p := (m : Int)) (q := 0) rfl (hD 0 5 (by kernel_rfl)) rfl) rfl)) ?_
  exact fsteps_nil
 intro gv w1 hV k1
 rw [show dstsOf _ 2 = [5, 6] by kernel_rfl]
 simp only [fC, fN, sA, sS, sZ, dS, dZ]
 rw [show gv 6 = .bool false from hV 1 6 (by kernel_rfl)]
 clear hV
 refine wpList_nil ?_
 go_upto_region 3 with fail
 refine wp_text 7 [.eq (.int .i64 (m : Int)), .eq (.slice A n c), .eq (.int .i64 (c : Int)), .eq (.slice A n c), .eq (.int .i64 (n : Int)), .eq (.int .i64 (((c : Int) : Int) - ((n : Int) : Int))), .eq (.int .i64 (((m : Int) : Int) - ((((c : Int) : Int) - ((n : Int) : Int)) : Int)))] rfl (by kernel_rfl) ?_ ?_
 ·refine sv 1 rfl rfl rfl (fun a u hE hD hk => exec_move (.tmp 1) _ rfl (hE 1 (.int .i64 (m : Int)) (by kernel_rfl) (by kernel_rfl))) ?_
  refine sv 2 rfl rfl rfl (fun a u hE hD hk => exec_move (.tmp 0) _ rfl (hE 0 (.slice A n c) (by kernel_rfl) (by kernel_rfl))) ?_
  refine sv 3 rfl rfl rfl (fun a u hE hD hk => exec_capS (.tmp 9) A n c slO.und rfl (hD 1 9 (by kernel_rfl))) ?_
  refine sv 4 rfl rfl rfl (fun a u hE hD hk => exec_move (.tmp 0) _ rfl (hE 0 (.slice A n c) (by kernel_rfl) (by kernel_rfl))) ?_
  refine sv 5 rfl rfl rfl (fun a u hE hD hk => exec_len (.tmp 11) _ _ slO.und A n c rfl (hD 3 11 (by kernel_rfl))) ?_
  refine sv 6 rfl rfl rfl (fun a u hE hD hk => exec_subn (p := ((c : Int))) (q := ((n : Int))) (((c : Int) : Int) - ((n : Int) : Int)) rfl (hD 2 10 (by kernel_rfl)) (hD 4 12 (by kernel_rfl)) rfl (by omega) (by omega)) ?_
  refine sv 7 rfl rfl rfl (fun a u hE hD hk => exec_subn (p := ((m : Int))) (q := ((((c : Int) : Int) - ((n : Int) : Int)))) (((m : Int) : Int) - ((((c : Int) : Int) - ((n : Int) : Int)) : Int)) rfl (hD 0 8 (by kernel_rfl)) (hD 5 13 (by kernel_rfl)) rfl (by omega) (by omega)) ?_
  exact fsteps_nil
 intro gv w2 hV k2
 rw [show dstsOf _ 7 = [8, 9, 10, 11, 12, 13, 14] by kernel_rfl]
 simp only [fC, fN, sA, sS, sZ, dS, dZ]
 rw [show gv 14 = .int .i64 (((m : Int) : Int) - ((((c : Int) : Int) - ((n : Int) : Int)) : Int)) from hV 6 14 (by kernel_rfl)]
 clear hV
 refine l_val (o := ⟨some 1, _, _, _, _, _⟩) (.int .i64 (((m : Int) : Int) - ((((c : Int) : Int) - ((n : Int) : Int)) : Int))) rfl (exec_assign (.tmp 14) (.int .i64 (((m : Int) : Int) - ((((c : Int) : Int) - ((n : Int) : Int)) : Int))) rfl (by kernel_rfl)) ?_
 simp only [Act.put, sA, sS, sZ]
 refine wpList_nil ?_
 have k02 := k1.trans k2
 clear k1 k2
 by_cases hr : (m : Int) - ((c : Int) - (n : Int)) > 0
 ·skip
  obtain ⟨ds, hds, hSL, hdt⟩ : ∃ ds : List Value, ds.length = c * 9 ∧ Sl w 25 9 (.slice A c c) c ds ∧ ds.take (n * 9) = cs := by
   cases A with
   | none =>
    have h0 := HA.out rfl
    subst h0
    have hn0 : n = 0 := by omega
    subst hn0
    have := HS.out.len
    exact ⟨cs, by omega, HS.out, by rw [List.take_of_length_le (by omega)]⟩
   | some ad =>
    obtain ⟨g, off, c', e⟩ : ∃ g off c', Value.slice (some ad) n c = .slice (some ⟨g, off, none⟩) n c' := by
     obtain ⟨_, A', c2, e', _, _, _, h4⟩ := HS.out
     injection e' with e1 e2 e3
     subst e1 e3
     obtain ⟨g, off, cur, rfl, _⟩ := h4 _ rfl
     exact ⟨g, off, c, rfl⟩
    injection e with e1 e2 e3
    injection e1 with e1
    subst e1
    exact HS.out.longer (Nat.le_refl c) hnc
  have HSL := Lib.hid hSL
  have HDT := Lib.hid hdt
  obtain ⟨j, hj⟩ : ∃ j : Nat, (m : Int) - ((c : Int) - (n : Int)) = (j : Int) := ⟨(m - (c - n)), by omega⟩
  rw [hj] at hr ⊢
  have hcj : c + j = n + m := by omega
  have hj0 : 0 < j := by omega
  clear hSL hdt hj
  go_upto_region 4 with fail
  refine wp_text 2 [.eq (.int .i64 (j : Int)), .eq (.bool true)] rfl (by kernel_rfl) ?_ ?_
  ·refine sv 1 rfl rfl rfl (fun a u hE hD hk => exec_move (.tmp 1) _ rfl (hE 1 (.int .i64 (j : Int)) (by kernel_rfl) (by kernel_rfl))) ?_
   refine fsteps_cons 2 rfl (fun a u hE hD hk => f_as (show ((decide ((0 : Int) < ((j : Int) : Int))) : Bool) = true from decide_eq_true (by omega)) (f_val (o := ⟨some 16, _, _, _, _, _⟩) (.bool (decide ((0 : Int) < ((j : Int) : Int)))) rfl (wanted_none rfl _) (exec_gtn (p := (j : Int)) (q := 0) rfl (hD 0 15 (by kernel_rfl)) rfl) rfl)) ?_
   exact fsteps_nil
  intro gv w3 hV k3
  rw [show dstsOf _ 2 = [15, 16] by kernel_rfl]
  simp only [fC, fN, sA, sS, sZ, dS, dZ]
  rw [show gv 16 = .bool true from hV 1 16 (by kernel_rfl)]
  clear hV
  refine wpList_nil ?_
  have k03 := k02.trans k3
  clear k02 k3
  go_upto_region 5 with fail
  refine wp_text 5 [.eq (.slice A n c), .eq (.slice A n c), .eq (.int .i64 (c : Int)), .eq (.slice A c c), .eq (.int .i64 (j : Int))] rfl (by kernel_rfl) ?_ ?_
  ·refine sv 1 rfl rfl rfl (fun a u hE hD hk => exec_move (.tmp 0) _ rfl (hE 0 (.slice A n c) (by kernel_rfl) (by kernel_rfl))) ?_
   refine sv 2 rfl rfl rfl (fun a u hE hD hk => exec_move (.tmp 0) _ rfl (hE 0 (.slice A n c) (by kernel_rfl) (by kernel_rfl))) ?_
   refine sv 3 rfl rfl rfl (fun a u hE hD hk => exec_capS (.tmp 18) A n c slO.und rfl (hD 1 18 (by kernel_rfl))) ?_
   refine sv 4 rfl rfl rfl (fun a u hE hD hk => exec_slcH slO (.tmp 17) (.tmp 19) _ _ _ rfl (hD 0 17 (by kernel_rfl)) (hD 2 19 (by kernel_rfl)) (run_h slO A n c c (Nat.le_refl _) HA.out u)) ?_
   refine sv 5 rfl rfl rfl (fun a u hE hD hk => exec_move (.tmp 1) _ rfl (hE 1 (.int .i64 (j : Int)) (by kernel_rfl) (by kernel_rfl))) ?_
   exact fsteps_nil
  intro gv w4 hV k4
  rw [show dstsOf _ 5 = [17, 18, 19, 20, 21] by kernel_rfl]
  simp only [fC, fN, sA, sS, sZ, dS, dZ]
  rw [show gv 20 = .slice A c c from hV 3 20 (by kernel_rfl)]
  rw [show gv 21 = .int .i64 (j : Int) from hV 4 21 (by kernel_rfl)]
  clear hV
  have k04 := k03.trans k4
  obtain ⟨gn, cn, w5, zs, hrz, hsz, hzl, hkz, hgn⟩ := run_append_zeros slO Try.underlying3 60 w4 A c c j _ (HSL.out.kept k04) hj0 (by omega) (by unfold maxLen; omega) (by omega) (by omega)
  refine l_new (o := ⟨some 22, _, _, _, _, _⟩) _ w5 rfl (exec_appZ slO 3 (.tmp 20) (.tmp 21) _ _ rfl (by kernel_rfl) (by kernel_rfl) _ w5 hrz) ?_
  simp only [Act.put, sA, sS, sZ]
  refine l_val (o := ⟨some 23, _, _, _, _, _⟩) (.slice A n c) rfl (exec_move (.tmp 0) (.slice A n c) rfl (by kernel_rfl)) ?_
  simp only [Act.put, sA, sS, sZ]
  refine l_val (o := ⟨some 24, _, _, _, _, _⟩) (.int .i64 (n : Int)) rfl (exec_len (.tmp 23) _ _ slO.und A n c rfl (by kernel_rfl)) ?_
  simp only [Act.put, sA, sS, sZ]
  refine l_val (o := ⟨some 25, _, _, _, _, _⟩) (.slice (some ⟨gn, 0, none⟩) n cn) rfl (exec_slcH slO (.tmp 22) (.tmp 24) _ _ _ rfl (by kernel_rfl) (by kernel_rfl) (run_h slO (some ⟨gn, 0, none⟩) (c + j) cn n (by have := hsz.cap.1; omega) (fun h => by cases h) w5)) ?_
  simp only [Act.put, sA, sS, sZ]
  refine l_val (o := ⟨some 0, _, _, _, _, _⟩) (.slice (some ⟨gn, 0, none⟩) n cn) rfl (exec_assign (.tmp 25) (.slice (some ⟨gn, 0, none⟩) n cn) rfl (by kernel_rfl)) ?_
  simp only [Act.put, List.setIfInBounds_toArray, List.set_cons_zero]
  refine wpList_nil ?_
  have zz := k04.size
  have HR : Hid (Sl w5 25 9 (.slice (some ⟨gn, 0, none⟩) n cn) n cs) := by
   have h1 := hsz.shrink (m := n) (by omega)
   have h2 := HS.out.len
   rw [List.take_append_of_le_length (by rw [hds]; exact Nat.mul_le_mul_right _ hnc), HDT.out] at h1
   exact h1
  have k05 := k04.trans hkz
  clear hsz hrz hkz k4 k03
  go_wp2
  go_ret
  exact ⟨_, rfl, HR.out, k05, fun b hb => .inr (by simp [Value.ownBlock] at hb; omega)⟩
 ·skip
  go_upto_region 4 with fail
  refine wp_text 2 [.eq (.int .i64 ((m : Int) - ((c : Int) - (n : Int)))), .eq (.bool false)] rfl (by kernel_rfl) ?_ ?_
  ·refine sv 1 rfl rfl rfl (fun a u hE hD hk => exec_move (.tmp 1) _ rfl (hE 1 (.int .i64 ((m : Int) - ((c : Int) - (n : Int)))) (by kernel_rfl) (by kernel_rfl))) ?_
   refine fsteps_cons 2 rfl (fun a u hE hD hk => f_as (show ((decide ((0 : Int) < (((m : Int) - ((c : Int) - (n : Int))) : Int))) : Bool) = false from decide_eq_false (by omega)) (f_val (o := ⟨some 16, _, _, _, _, _⟩) (.bool (decide ((0 : Int) < (((m : Int) - ((c : Int) - (n : Int))) : Int)))) rfl (wanted_none rfl _) (exec_gtn (p := ((m : Int) - ((c : Int) - (n : Int)))) (q := 0) rfl (hD 0 15 (by kernel_rfl)) rfl) rfl)) ?_
   exact fsteps_nil
  intro gv w3 hV k3
  rw [show dstsOf _ 2 = [15, 16] by kernel_rfl]
  simp only [fC, fN, sA, sS, sZ, dS, dZ]
  rw [show gv 16 = .bool false from hV 1 16 (by kernel_rfl)]
  clear hV
  refine wpList_nil ?_
  have k03 := k02.trans k3
  have HR := Lib.hid (HS.out.kept k03)
  clear k02 k3
  go_wp2
  go_ret
  exact ⟨_, rfl, HR.out, k03, fun b hb => .inl hb⟩
set_option maxRecDepth 100000 in
set_option maxHeartbeats 1600000 in
theorem growF_any (w : World) (v : Value) (n m : Nat) (cs : List Value) (hS : Sl w 36 21 v n cs) (hn : n + m ≤ 100000000) :
  Calls Try.prog 90 #[v, .int .i64 (m : Int)] w fun r w' => ∃ v', r = .returned v' ∧ Sl w' 36 21 v' n cs ∧ Kept w w' ∧ ∀ b, v'.ownBlock = some b → v.ownBlock = some b ∨ w.heap.size ≤ b := by
 obtain ⟨A, c, rfl⟩ := hS.slice_
 obtain ⟨hnc, hcm, hA⟩ := hS.cap
 have hcm' : c ≤ 9223372036854775807 := by unfold maxLen at hcm; omega
 have HS := Lib.hid hS
 have HA := Lib.hid hA
 clear hS hA hcm
 go_enter Try.func90, Try.ntmps90
 go_upto_region 1 with fail
 refine wp_text 2 [.eq (.int .i64 (m : Int)), .eq (.bool false)] rfl (by kernel_rfl) ?_ ?_
 ·refine sv 1 rfl rfl rfl (fun a u hE hD hk => exec_move (.tmp 1) _ rfl (hE 1 (.int .i64 (m : Int)) (by kernel_rfl) (by kernel_rfl))) ?_
  refine fsteps_cons 2 rfl (fun a u hE hD hk => f_as (show ((decide (((m : Int) : Int) < (0 : Int))) : Bool) = false from decide_eq_false (by omega)) (f_val (o := ⟨some 6, _, _, _, _, _⟩) (.bool (decide (((m : Int) : Int) < (0 : Int)))) rfl (wanted_none rfl _) (exec_ltn (p := (m : Int)) (q := 0) rfl (hD 0 5 (by kernel_rfl)) rfl) rfl)) ?_
  exact fsteps_nil
 intro gv w1 hV k1
 rw [show dstsOf _ 2 = [5, 6] by kernel_rfl]
 simp only [fC, fN, sA, sS, sZ, dS, dZ]
 rw [show gv 6 = .bool false from hV 1 6 (by kernel_rfl)]
 clear hV
 refine wpList_nil ?_
 go_upto_region 3 with fail
 refine wp_text 7 [.eq (.int .i64 (m : Int)), .eq (.slice A n c), .eq (.int .i64 (c : Int)), .eq (.slice A n c), .eq (.int .i64 (n : Int)), .eq (.int .i64 (((c : Int) : Int) - ((n : Int) : Int))), .eq (.int .i64 (((m : Int) : Int) - ((((c : Int) : Int) - ((n : Int) : Int)) : Int)))] rfl (by kernel_rfl) ?_ ?_
 ·refine sv 1 rfl rfl rfl (fun a u hE hD hk => exec_move (.tmp 1) _ rfl (hE 1 (.int .i64 (m : Int)) (by kernel_rfl) (by kernel_rfl))) ?_
  refine sv 2 rfl rfl rfl (fun a u hE hD hk => exec_move (.tmp 0) _ rfl (hE 0 (.slice A n c) (by kernel_rfl) (by kernel_rfl))) ?_
  refine sv 3 rfl rfl rfl (fun a u hE hD hk => exec_capS (.tmp 9) A n c slF.und rfl (hD 1 9 (by kernel_rfl))) ?_
  refine sv 4 rfl rfl rfl (fun a u hE hD hk => exec_move (.tmp 0) _ rfl (hE 0 (.slice A n c) (by kernel_rfl) (by kernel_rfl))) ?_
  refine sv 5 rfl rfl rfl (fun a u hE hD hk => exec_len (.tmp 11) _ _ slF.und A n c rfl (hD 3 11 (by kernel_rfl))) ?_
  refine sv 6 rfl rfl rfl (fun a u hE hD hk => exec_subn (p := ((c : Int))) (q := ((n : Int))) (((c : Int) : Int) - ((n : Int) : Int)) rfl (hD 2 10 (by kernel_rfl)) (hD 4 12 (by kernel_rfl)) rfl (by omega) (by omega)) ?_
  refine sv 7 rfl rfl rfl (fun a u hE hD hk => exec_subn (p := ((m : Int))) (q := ((((c : Int) : Int) - ((n : Int) : Int)))) (((m : Int) : Int) - ((((c : Int) : Int) - ((n : Int) : Int)) : Int)) rfl (hD 0 8 (by kernel_rfl)) (hD 5 13 (by kernel_rfl)) rfl (by omega) (by omega)) ?_
  exact fsteps_nil
 intro gv w2 hV k2
 rw [show dstsOf _ 7 = [8, 9, 10, 11, 12, 13, 14] by kernel_rfl]
 simp only [fC, fN, sA, sS, sZ, dS, dZ]
 rw [show gv 14 = .int .i64 (((m : Int) : Int) - ((((c : Int) : Int) - ((n : Int) : Int)) : Int)) from hV 6 14 (by kernel_rfl)]
 clear hV
 refine l_val (o := ⟨some 1, _, _, _, _, _⟩) (.int .i64 (((m : Int) : Int) - ((((c : Int) : Int) - ((n : Int) : Int)) : Int))) rfl (exec_assign (.tmp 14) (.int .i64 (((m : Int) : Int) - ((((c : Int) : Int) - ((n : Int) : Int)) : Int))) rfl (by kernel_rfl)) ?_
 simp only [Act.put, sA, sS, sZ]
 refine wpList_nil ?_
 have k02 := k1.trans k2
 clear k1 k2
 by_cases hr : (m : Int) - ((c : Int) - (n : Int)) > 0
 ·skip
  obtain ⟨ds, hds, hSL, hdt⟩ : ∃ ds : List Value, ds.length = c * 21 ∧ Sl w 36 21 (.slice A c c) c ds ∧ ds.take (n * 21) = cs := by
   cases A with
   | none =>
    have h0 := HA.out rfl
    subst h0
    have hn0 : n = 0 := by omega
    subst hn0
    have := HS.out.len
    exact ⟨cs, by omega, HS.out, by rw [List.take_of_length_le (by omega)]⟩
   | some ad =>
    obtain ⟨g, off, c', e⟩ : ∃ g off c', Value.slice (some ad) n c = .slice (some ⟨g, off, none⟩) n c' := by
     obtain ⟨_, A', c2, e', _, _, _, h4⟩ := HS.out
     injection e' with e1 e2 e3
     subst e1 e3
     obtain ⟨g, off, cur, rfl, _⟩ := h4 _ rfl
     exact ⟨g, off, c, rfl⟩
    injection e with e1 e2 e3
    injection e1 with e1
    subst e1
    exact HS.out.longer (Nat.le_refl c) hnc
  have HSL := Lib.hid hSL
  have HDT := Lib.hid hdt
  obtain ⟨j, hj⟩ : ∃ j : Nat, (m : Int) - ((c : Int) - (n : Int)) = (j : Int) := ⟨(m - (c - n)), by omega⟩
  rw [hj] at hr ⊢
  have hcj : c + j = n + m := by omega
  have hj0 : 0 < j := by omega
  clear hSL hdt hj
  go_upto_region 4 with fail
  refine wp_text 2 [.eq (.int .i64 (j : Int)), .eq (.bool true)] rfl (by kernel_rfl) ?_ ?_
  ·refine sv 1 rfl rfl rfl (fun a u hE hD hk => exec_move (.tmp 1) _ rfl (hE 1 (.int .i64 (j : Int)) (by kernel_rfl) (by kernel_rfl))) ?_
   refine fsteps_cons 2 rfl (fun a u hE hD hk => f_as (show ((decide ((0 : Int) < ((j : Int) : Int))) : Bool) = true from decide_eq_true (by omega)) (f_val (o := ⟨some 16, _, _, _, _, _⟩) (.bool (decide ((0 : Int) < ((j : Int) : Int)))) rfl (wanted_none rfl _) (exec_gtn (p := (j : Int)) (q := 0) rfl (hD 0 15 (by kernel_rfl)) rfl) rfl)) ?_
   exact fsteps_nil
  intro gv w3 hV k3
  rw [show dstsOf _ 2 = [15, 16] by kernel_rfl]
  simp only [fC, fN, sA, sS, sZ, dS, dZ]
  rw [show gv 16 = .bool true from hV 1 16 (by kernel_rfl)]
  clear hV
  refine wpList_nil ?_
  have k03 := k02.trans k3
  clear k02 k3
  go_upto_region 5 with fail
  refine wp_text 5 [.eq (.slice A n c), .eq (.slice A n c), .eq (.int .i64 (c : Int)), .eq (.slice A c c), .eq (.int .i64 (j : Int))] rfl (by kernel_rfl) ?_ ?_
  ·refine sv 1 rfl rfl rfl (fun a u hE hD hk => exec_move (.tmp 0) _ rfl (hE 0 (.slice A n c) (by kernel_rfl) (by kernel_rfl))) ?_
   refine sv 2 rfl rfl rfl (fun a u hE hD hk => exec_move (.tmp 0) _ rfl (hE 0 (.slice A n c) (by kernel_rfl) (by kernel_rfl))) ?_
   refine sv 3 rfl rfl rfl (fun a u hE hD hk => exec_capS (.tmp 18) A n c slF.und rfl (hD 1 18 (by kernel_rfl))) ?_
   refine sv 4 rfl rfl rfl (fun a u hE hD hk => exec_slcH slF (.tmp 17) (.tmp 19) _ _ _ rfl (hD 0 17 (by kernel_rfl)) (hD 2 19 (by kernel_rfl)) (run_h slF A n c c (Nat.le_refl _) HA.out u)) ?_
   refine sv 5 rfl rfl rfl (fun a u hE hD hk => exec_move (.tmp 1) _ rfl (hE 1 (.int .i64 (j : Int)) (by kernel_rfl) (by kernel_rfl))) ?_
   exact fsteps_nil
  intro gv w4 hV k4
  rw [show dstsOf _ 5 = [17, 18, 19, 20, 21] by kernel_rfl]
  simp only [fC, fN, sA, sS, sZ, dS, dZ]
  rw [show gv 20 = .slice A c c from hV 3 20 (by kernel_rfl)]
  rw [show gv 21 = .int .i64 (j : Int) from hV 4 21 (by kernel_rfl)]
  clear hV
  have k04 := k03.trans k4
  obtain ⟨gn, cn, w5, zs, hrz, hsz, hzl, hkz, hgn⟩ := run_append_zeros slF Try.underlying3 26 w4 A c c j _ (HSL.out.kept k04) hj0 (by omega) (by unfold maxLen; omega) (by omega) (by omega)
  refine l_new (o := ⟨some 22, _, _, _, _, _⟩) _ w5 rfl (exec_appZ slF 3 (.tmp 20) (.tmp 21) _ _ rfl (by kernel_rfl) (by kernel_rfl) _ w5 hrz) ?_
  simp only [Act.put, sA, sS, sZ]
  refine l_val (o := ⟨some 23, _, _, _, _, _⟩) (.slice A n c) rfl (exec_move (.tmp 0) (.slice A n c) rfl (by kernel_rfl)) ?_
  simp only [Act.put, sA, sS, sZ]
  refine l_val (o := ⟨some 24, _, _, _, _, _⟩) (.int .i64 (n : Int)) rfl (exec_len (.tmp 23) _ _ slF.und A n c rfl (by kernel_rfl)) ?_
  simp only [Act.put, sA, sS, sZ]
  refine l_val (o := ⟨some 25, _, _, _, _, _⟩) (.slice (some ⟨gn, 0, none⟩) n cn) rfl (exec_slcH slF (.tmp 22) (.tmp 24) _ _ _ rfl (by kernel_rfl) (by kernel_rfl) (run_h slF (some ⟨gn, 0, none⟩) (c + j) cn n (by have := hsz.cap.1; omega) (fun h => by cases h) w5)) ?_
  simp only [Act.put, sA, sS, sZ]
  refine l_val (o := ⟨some 0, _, _, _, _, _⟩) (.slice (some ⟨gn, 0, none⟩) n cn) rfl (exec_assign (.tmp 25) (.slice (some ⟨gn, 0, none⟩) n cn) rfl (by kernel_rfl)) ?_
  simp only [Act.put, List.setIfInBounds_toArray, List.set_cons_zero]
  refine wpList_nil ?_
  have zz := k04.size
  have HR : Hid (Sl w5 36 21 (.slice (some ⟨gn, 0, none⟩) n cn) n cs) := by
   have h1 := hsz.shrink (m := n) (by omega)
   have h2 := HS.out.len
   rw [List.take_append_of_le_length (by rw [hds]; exact Nat.mul_le_mul_right _ hnc), HDT.out] at h1
   exact h1
  have k05 := k04.trans hkz
  clear hsz hrz hkz k4 k03
  go_wp2
  go_ret
  exact ⟨_, rfl, HR.out, k05, fun b hb => .inr (by simp [Value.ownBlock] at hb; omega)⟩
 ·skip
  go_upto_region 4 with fail
  refine wp_text 2 [.eq (.int .i64 ((m : Int) - ((c : Int) - (n : Int)))), .eq (.bool false)] rfl (by kernel_rfl) ?_ ?_
  ·refine sv 1 rfl rfl rfl (fun a u hE hD hk => exec_move (.tmp 1) _ rfl (hE 1 (.int .i64 ((m : Int) - ((c : Int) - (n : Int)))) (by kernel_rfl) (by kernel_rfl))) ?_
   refine fsteps_cons 2 rfl (fun a u hE hD hk => f_as (show ((decide ((0 : Int) < (((m : Int) - ((c : Int) - (n : Int))) : Int))) : Bool) = false from decide_eq_false (by omega)) (f_val (o := ⟨some 16, _, _, _, _, _⟩) (.bool (decide ((0 : Int) < (((m : Int) - ((c : Int) - (n : Int))) : Int)))) rfl (wanted_none rfl _) (exec_gtn (p := ((m : Int) - ((c : Int) - (n : Int)))) (q := 0) rfl (hD 0 15 (by kernel_rfl)) rfl) rfl)) ?_
   exact fsteps_nil
  intro gv w3 hV k3
  rw [show dstsOf _ 2 = [15, 16] by kernel_rfl]
  simp only [fC, fN, sA, sS, sZ, dS, dZ]
  rw [show gv 16 = .bool false from hV 1 16 (by kernel_rfl)]
  clear hV
  refine wpList_nil ?_
  have k03 := k02.trans k3
  have HR := Lib.hid (HS.out.kept k03)
  clear k02 k3
  go_wp2
  go_ret
  exact ⟨_, rfl, HR.out, k03, fun b hb => .inl hb⟩
theorem slOO : SlT 104 60 1 24 := ⟨Try.underlying104, by kernel_rfl, ⟨.slice none 0 0, by kernel_rfl, rfl, by intro u hu; simp [Value.cells] at hu; subst hu; rfl⟩, by omega⟩
theorem exec_two1 {a : Act} {o : Oper} {u : World} {t T : TypeId} {bytes : Nat} (ht : SlT t T 1 bytes) (x y : Operand) (v1 v2 : Value) (hop : o.op = .buildSlice t 2 #[(0, x), (1, y)]) (hx : a.eval x = v1) (hy : a.eval y = v2) (h1 : v1.cells = #[v1]) (h2 : v2.cells = #[v2]) :
  (execOp a.eval o).run Try.prog u = .ok (.value (.slice (some ⟨u.heap.size, 0, none⟩) 2 2)) (u.alloc (.cells [v1, v2].toArray T)) := by
 obtain ⟨z, hz, hz2, _⟩ := ht.info
 obtain ⟨i0, hi, hz0, hz1, hzb⟩ := info_parts hz
 unfold execOp
 simp only [hop, List.map_toArray, List.map_cons, List.map_nil, hx, hy]
 have e : Array.map (fun x => z.cells[x % z.cells.size]!) (Array.range (2 * 1)) = #[z.cells[0 % z.cells.size]!, z.cells[1 % z.cells.size]!] := by
  apply Array.toList_inj.1
  simp [List.range_succ]
 have hr := run_buildSlice (P := Try.prog) u t T 2 #[(0, v1), (1, v2)] [v1, v2].toArray i0 z ht.und hi hz0 (by rw [hz1]; omega) (by rw [hz1]; omega) (by
  rw [hz1]
  simp only [Instr.fill, h1, h2, e]
  simp)
 simp only [Sem.run_bind, hr, Result.andThen_ok]
 rfl
def Cat (w : World) (g : Nat) (X Y : List Ord) : Prop := ∃ v1 v2, Blk w g 60 [v1, v2] ∧ Sl w 25 9 v1 X.length (ords X) ∧ Sl w 25 9 v2 Y.length (ords Y)
theorem Cat.kept {w w' : World} {g : Nat} {X Y : List Ord} (h : Cat w g X Y) (hk : Kept w w') : Cat w' g X Y := by
 obtain ⟨v1, v2, h1, h2, h3⟩ := h
 exact ⟨v1, v2, h1.kept hk, h2.kept hk, h3.kept hk⟩
def catP (X Y : List Ord) (i : Nat) : List Ord := if i = 0 then [] else if i = 1 then X else X ++ Y
def catE (X Y : List Ord) (i : Nat) : List Ord := if i = 0 then X else Y
theorem catP_next (X Y : List Ord) (i : Nat) (h : i < 2) : catP X Y (i + 1) = catP X Y i ++ catE X Y i := by
 rcases (by omega : i = 0 ∨ i = 1) with rfl | rfl <;> rfl
theorem catP_len (X Y : List Ord) (i : Nat) : (catP X Y i).length ≤ X.length + Y.length := by
 unfold catP
 repeat' split
 all_goals simp
theorem catE_len (X Y : List Ord) (i : Nat) : (catE X Y i).length ≤ X.length + Y.length := by
 unfold catE
 split <;> omega
def Kn.cat (base : Nat) (X Y : List Ord) : Kn := ⟨fun v w => ∃ g, v = .slice (some ⟨g, 0, none⟩) 2 2 ∧ base ≤ g ∧ Cat w g X Y, fun _ _ _ ⟨g, h1, h2, h3⟩ hk => ⟨g, h1, h2, h3.kept hk⟩⟩
set_option maxRecDepth 100000 in
set_option maxHeartbeats 1600000 in
theorem concat_any (w : World) (g : Nat) (X Y : List Ord) (h : Cat w g X Y) (hn : X.length + Y.length ≤ 1000000) : Gives 56 #[.slice (some ⟨g, 0, none⟩) 2 2] w (.sl w.heap.size 25 9 (X ++ Y).length (ords (X ++ Y))) := by
 obtain ⟨v1, v2, hB, h1, h2⟩ := h
 have HB := Lib.hid hB
 have HE : Hid (∀ i, i < 2 → ∃ v, w.cell? ⟨g, 0 + i * 1, none⟩ = some v ∧ Sl w 25 9 v (catE X Y i).length (ords (catE X Y i))) := fun i hi => by
  rcases (by omega : i = 0 ∨ i = 1) with rfl | rfl
  ·exact ⟨v1, hB.cell 0, h1⟩
  ·exact ⟨v2, hB.cell 1, h2⟩
 have HN := Lib.hid hn
 clear hB h1 h2 HB
 go_enter Try.func56, Try.ntmps56
 go_upto_region 1 with fail
 refine wp_text 1 [.eq (.int .i64 0)] rfl (by kernel_rfl) ?_ ?_
 ·refine sv 1 rfl rfl rfl (fun a u hE hD hk => exec_assign (.const (.int .i64 0)) _ rfl rfl) ?_
  exact fsteps_nil
 intro gv wa hV ka
 rw [show dstsOf _ 1 = [3] by kernel_rfl]
 simp only [fC, fN, sA, sS, sZ, dS, dZ]
 rw [show gv 3 = .int .i64 0 from hV 0 3 (by kernel_rfl)]
 clear hV
 refine wpList_nil ?_
 go_upto_region 2 with fail
 refine wp_text 3 [.eq (.slice (some ⟨g, 0, none⟩) 2 2), .eq (.int .i64 (2 : Int)), .eq (.int .i64 0)] rfl (by kernel_rfl) ?_ ?_
 ·refine sv 1 rfl rfl rfl (fun a u hE hD hk => exec_move (.tmp 0) _ rfl (hE 0 (.slice (some ⟨g, 0, none⟩) 2 2) (by kernel_rfl) (by kernel_rfl))) ?_
  refine sv 2 rfl rfl rfl (fun a u hE hD hk => exec_len (.tmp 9) _ _ slOO.und (some ⟨g, 0, none⟩) 2 2 rfl (hD 0 9 (by kernel_rfl))) ?_
  refine sv 3 rfl rfl rfl (fun a u hE hD hk => exec_move (.const (.int .i64 0)) _ rfl rfl) ?_
  exact fsteps_nil
 intro gv w0 hV k0
 rw [show dstsOf _ 3 = [9, 10, 11] by kernel_rfl]
 simp only [fC, fN, sA, sS, sZ, dS, dZ]
 rw [show gv 9 = .slice (some ⟨g, 0, none⟩) 2 2 from hV 0 9 (by kernel_rfl)]
 rw [show gv 10 = .int .i64 (2 : Int) from hV 1 10 (by kernel_rfl)]
 rw [show gv 11 = .int .i64 0 from hV 2 11 (by kernel_rfl)]
 clear hV
 refine wpList_nil ?_
 have k00 := ka.trans k0
 clear ka k0
 go_wp2_with fail
 go_loopw [3, 11] (fun t x wr => ∃ (i : Nat) (m : Nat), i ≤ 2 ∧ x = .int .i64 (i : Int) ∧ t = .int .i64 (m : Int) ∧ Hid (m = (catP X Y i).length) ∧ Kept w wr) (fun _ x _ => 2 - (intOf x).toNat)
 case atStart => exact ⟨0, 0, by omega, rfl, rfl, rfl, k00⟩
 case round =>
  obtain ⟨i, m, hi, rfl, rfl, HM, hkr⟩ := hrel
  by_cases hlt : i < 2
  ·skip
   obtain ⟨ve, hve, hse⟩ := HE.out i hlt
   have HC := Lib.hid (hkr.cell hve)
   have HSE := Lib.hid (hse.kept hkr)
   clear hve hse
   obtain ⟨e, he⟩ : ∃ e, (catE X Y i).length = e := ⟨_, rfl⟩
   have heN : e ≤ 1000000 := by have := catE_len X Y i; have := HN.out; omega
   have HM2 : Hid (m + e = (catP X Y (i + 1)).length) := by show _ = _; rw [catP_next X Y i hlt, List.length_append, HM.out, he]
   have hmN : m ≤ 1000000 := by have := catP_len X Y i; have := HN.out; have := HM.out; omega
   rw [he] at HSE
   clear he HM
   go_upto_region 4 with fail
   refine wp_text 3 [.eq (.pointer (some ⟨g, 0 + i * 1, none⟩)), .eq (ve), .eq (ve)] rfl (by kernel_rfl) ?_ ?_
   ·refine sv 1 rfl rfl rfl (fun a u hE hD hk => exec_ixo slOO (.tmp 9) (.tmp 11) (g) (0) 2 2 i (0 + i * 1) ((i : Int)) rfl (hE 9 (.slice (some ⟨g, 0, none⟩) 2 2) (by kernel_rfl) (by kernel_rfl)) (hE 11 (.int .i64 (i : Int)) (by kernel_rfl) (by kernel_rfl)) (by first | rfl | omega) (hlt) (by first | rfl | omega)) ?_
    refine sv 2 rfl rfl rfl (fun a u hE hD hk => exec_ldv 60 _ Try.underlying60 (.tmp 13) ⟨g, 0 + i * 1, none⟩ (ve) rfl (hD 0 13 (by kernel_rfl)) (Kept.cell hk (HC.out))) ?_
    refine sv 3 rfl rfl rfl (fun a u hE hD hk => exec_assign (.tmp 14) _ rfl (hD 1 14 (by kernel_rfl))) ?_
    exact fsteps_nil
   intro gv w1 hV k1
   rw [show dstsOf _ 3 = [13, 14, 5] by kernel_rfl]
   simp only [fC, fN, sA, sS, sZ, dS, dZ]
   rw [show gv 5 = ve from hV 2 5 (by kernel_rfl)]
   clear hV
   refine wpList_nil ?_
   have kw1 := hkr.trans k1
   have HSE1 := Lib.hid (HSE.out.kept k1)
   clear k1 HC HSE
   go_upto_region 5 with fail
   refine wp_text 4 [.eq (.int .i64 (m : Int)), .eq (ve), .eq (.int .i64 (e : Int)), .eq (.int .i64 (((m : Int) : Int) + ((e : Int) : Int)))] rfl (by kernel_rfl) ?_ ?_
   ·refine sv 1 rfl rfl rfl (fun a u hE hD hk => exec_move (.tmp 3) _ rfl (hE 3 (.int .i64 (m : Int)) (by kernel_rfl) (by kernel_rfl))) ?_
    refine sv 2 rfl rfl rfl (fun a u hE hD hk => exec_move (.tmp 5) _ rfl (hE 5 (ve) (by kernel_rfl) (by kernel_rfl))) ?_
    refine sv 3 rfl rfl rfl (fun a u hE hD hk => exec_lenS (.tmp 16) slO (ve) (e) _ _ rfl (hD 1 16 (by kernel_rfl)) HSE1.out) ?_
    refine sv 4 rfl rfl rfl (fun a u hE hD hk => exec_addn (p := ((m : Int))) (q := ((e : Int))) (((m : Int) : Int) + ((e : Int) : Int)) rfl (hD 0 15 (by kernel_rfl)) (hD 2 17 (by kernel_rfl)) rfl (by omega) (by omega)) ?_
    exact fsteps_nil
   intro gv w2 hV k2
   rw [show dstsOf _ 4 = [15, 16, 17, 18] by kernel_rfl]
   simp only [fC, fN, sA, sS, sZ, dS, dZ]
   rw [show gv 18 = .int .i64 (((m : Int) : Int) + ((e : Int) : Int)) from hV 3 18 (by kernel_rfl)]
   clear hV
   refine l_val (o := ⟨some 3, _, _, _, _, _⟩) (.int .i64 (((m : Int) : Int) + ((e : Int) : Int))) rfl (exec_assign (.tmp 18) (.int .i64 (((m : Int) : Int) + ((e : Int) : Int))) rfl (by kernel_rfl)) ?_
   simp only [Act.put, sA, sS, sZ]
   refine wpList_nil ?_
   have kw2 := kw1.trans k2
   clear k2 kw1 HSE1
   have hnn : ¬ ((m : Int) + (e : Int) < 0) := by omega
   go_wp2
   exact ⟨⟨i + 1, m + e, by omega, by go_num, by go_num, HM2, kw2⟩, by simp [intOf]; omega⟩
  ·have hi2 : i = 2 := by omega
   subst hi2
   have hm : m = (X ++ Y).length := HM.out
   have hmN : m ≤ 1000000 := by rw [hm, List.length_append]; exact HN.out
   have HMM := Lib.hid hm
   clear HM hm
   go_upto_region 9 with fail
   refine wp_text 3 [.eq (.int .i64 (m : Int)), .sl wr.heap.size 25 9 0 [], .sl wr.heap.size 25 9 0 []] rfl (by kernel_rfl) ?_ ?_
   ·refine sv 1 rfl rfl rfl (fun a u hE hD hk => exec_move (.tmp 3) _ rfl (hE 3 (.int .i64 (m : Int)) (by kernel_rfl) (by kernel_rfl))) ?_
    refine fsteps_cons 2 rfl (fun a u hE hD hk => f_call (o := ⟨some 24, _, _, _, _, _⟩) 79 #[.slice none 0 0, .int .i64 (m : Int)] rfl (wanted_none rfl _) (exec_call 79 _ [.const (.slice none 0 0), .tmp 23] _ [.slice none 0 0, .int .i64 (m : Int)] Try.func79 (by kernel_rfl) (by kernel_rfl) rfl (show [a.eval (.const (.slice none 0 0)), a.eval (.tmp 23)] = [.slice none 0 0, .int .i64 (m : Int)] from (by rw [show a.eval (.tmp 23) = .int .i64 (m : Int) from (hD 0 23 (by kernel_rfl))] <;> rfl)) u) ((growO_any u (.slice none 0 0) 0 m [] (Sl.nil _ _ _) (by omega)).mono (fun e w' ⟨v, h1, h2, h3, h4⟩ => ⟨v, h1, ⟨h2, fun b hb => (h4 b hb).elim (fun h => by simp [Value.ownBlock] at h) (fun h => Nat.le_trans hk.size h)⟩, h3⟩))) ?_
    refine fsteps_cons 3 rfl (fun a u hE hD hk => f_val (o := ⟨some 6, _, _, _, _, _⟩) (a.eval (.tmp 24)) rfl (wanted_none rfl _) (exec_assign (.tmp 24) _ rfl rfl) (hD 1 24 (by kernel_rfl))) ?_
    exact fsteps_nil
   intro gv w1 hV k1
   rw [show dstsOf _ 3 = [23, 24, 6] by kernel_rfl]
   simp only [fC, fN, sA, sS, sZ, dS, dZ]
   have hv6 : (.sl wr.heap.size 25 9 0 [] : Kn).p (gv 6) w1 := hV 2 6 (by kernel_rfl)
   generalize gv 6 = v6 at hv6 ⊢
   clear hV
   refine wpList_nil ?_
   have kw1 := hkr.trans k1
   have zr := hkr.size
   have HV1 : Hid ((Kn.sl w.heap.size 25 9 (catP X Y 0).length (ords (catP X Y 0))).p v6 w1) := ⟨hv6.1, fun b hb => Nat.le_trans zr (hv6.2 b hb)⟩
   clear hv6 k1 hkr zr
   go_upto_region 10 with fail
   refine wp_text 3 [.eq (.slice (some ⟨g, 0, none⟩) 2 2), .eq (.int .i64 (2 : Int)), .eq (.int .i64 0)] rfl (by kernel_rfl) ?_ ?_
   ·refine sv 1 rfl rfl rfl (fun a u hE hD hk => exec_move (.tmp 0) _ rfl (hE 0 (.slice (some ⟨g, 0, none⟩) 2 2) (by kernel_rfl) (by kernel_rfl))) ?_
    refine sv 2 rfl rfl rfl (fun a u hE hD hk => exec_len (.tmp 25) _ _ slOO.und (some ⟨g, 0, none⟩) 2 2 rfl (hD 0 25 (by kernel_rfl))) ?_
    refine sv 3 rfl rfl rfl (fun a u hE hD hk => exec_move (.const (.int .i64 0)) _ rfl rfl) ?_
    exact fsteps_nil
   intro gv w2 hV k2
   rw [show dstsOf _ 3 = [25, 26, 27] by kernel_rfl]
   simp only [fC, fN, sA, sS, sZ, dS, dZ]
   rw [show gv 25 = .slice (some ⟨g, 0, none⟩) 2 2 from hV 0 25 (by kernel_rfl)]
   rw [show gv 26 = .int .i64 (2 : Int) from hV 1 26 (by kernel_rfl)]
   rw [show gv 27 = .int .i64 0 from hV 2 27 (by kernel_rfl)]
   clear hV
   refine wpList_nil ?_
   have kw2 := kw1.trans k2
   have HV2 := Lib.hid ((Kn.sl w.heap.size 25 9 (catP X Y 0).length (ords (catP X Y 0))).st _ _ _ HV1.out k2)
   clear HV1 k2 kw1
   go_wp2_with fail
   go_loopw [6, 27] (fun t x wr => ∃ (i : Nat), i ≤ 2 ∧ x = .int .i64 (i : Int) ∧ Hid ((Kn.sl w.heap.size 25 9 (catP X Y i).length (ords (catP X Y i))).p t wr) ∧ Kept w wr) (fun _ x _ => 2 - (intOf x).toNat)
   case atStart => exact ⟨0, by omega, rfl, HV2.out, kw2⟩
   case round =>
    obtain ⟨i, hi, rfl, HV, hkr⟩ := hrel
    obtain ⟨vv, hvv⟩ : ∃ x, x = u6 := ⟨_, rfl⟩
    subst hvv
    by_cases hlt : i < 2
    ·skip
     obtain ⟨ve, hve, hse⟩ := HE.out i hlt
     have HC := Lib.hid (hkr.cell hve)
     have HSE := Lib.hid (hse.kept hkr)
     clear hve hse
     go_upto_region 12 with fail
     refine wp_text 3 [.eq (.pointer (some ⟨g, 0 + i * 1, none⟩)), .eq (ve), .eq (ve)] rfl (by kernel_rfl) ?_ ?_
     ·refine sv 1 rfl rfl rfl (fun a u hE hD hk => exec_ixo slOO (.tmp 25) (.tmp 27) (g) (0) 2 2 i (0 + i * 1) ((i : Int)) rfl (hE 25 (.slice (some ⟨g, 0, none⟩) 2 2) (by kernel_rfl) (by kernel_rfl)) (hE 27 (.int .i64 (i : Int)) (by kernel_rfl) (by kernel_rfl)) (by first | rfl | omega) (hlt) (by first | rfl | omega)) ?_
      refine sv 2 rfl rfl rfl (fun a u hE hD hk => exec_ldv 60 _ Try.underlying60 (.tmp 29) ⟨g, 0 + i * 1, none⟩ (ve) rfl (hD 0 29 (by kernel_rfl)) (Kept.cell hk (HC.out))) ?_
      refine sv 3 rfl rfl rfl (fun a u hE hD hk => exec_assign (.tmp 30) _ rfl (hD 1 30 (by kernel_rfl))) ?_
      exact fsteps_nil
     intro gv w3 hV k3
     rw [show dstsOf _ 3 = [29, 30, 8] by kernel_rfl]
     simp only [fC, fN, sA, sS, sZ, dS, dZ]
     rw [show gv 8 = ve from hV 2 8 (by kernel_rfl)]
     clear hV
     refine wpList_nil ?_
     have kw3 := hkr.trans k3
     have HSE3 := Lib.hid (HSE.out.kept k3)
     have HV3 := Lib.hid ((Kn.sl w.heap.size 25 9 (catP X Y i).length (ords (catP X Y i))).st _ _ _ HV.out k3)
     have z3 := kw3.size
     clear k3 HC HSE HV
     go_upto_region 13 with fail
     refine wp_text 2 [.eq (vv), .eq (ve)] rfl (by kernel_rfl) ?_ ?_
     ·refine sv 1 rfl rfl rfl (fun a u hE hD hk => exec_move (.tmp 6) _ rfl (hE 6 (vv) (by kernel_rfl) (by kernel_rfl))) ?_
      refine sv 2 rfl rfl rfl (fun a u hE hD hk => exec_move (.tmp 8) _ rfl (hE 8 (ve) (by kernel_rfl) (by kernel_rfl))) ?_
      exact fsteps_nil
     intro gv w4 hV k4
     rw [show dstsOf _ 2 = [31, 32] by kernel_rfl]
     simp only [fC, fN, sA, sS, sZ, dS, dZ]
     rw [show gv 31 = vv from hV 0 31 (by kernel_rfl)]
     rw [show gv 32 = ve from hV 1 32 (by kernel_rfl)]
     clear hV
     have hl1 := catE_len X Y i
     have hl2 := catP_len X Y i
     have hl3 := HN.out
     obtain ⟨v5, w5, hr5, hs5, hk5, ho5⟩ := run_append_sl slO 60 w4 vv ve _ _ _ _ (HV3.out.1.kept k4) (HSE3.out.kept k4) (ords_one _) (by unfold maxLen; omega) (by omega)
     refine l_new (o := ⟨some 33, _, _, _, _, _⟩) v5 w5 rfl (exec_appS slO (.tmp 31) (.tmp 32) vv ve rfl (by kernel_rfl) (by kernel_rfl) v5 w5 hr5) ?_
     simp only [Act.put, sA, sS, sZ]
     refine l_val (o := ⟨some 6, _, _, _, _, _⟩) (v5) rfl (exec_assign (.tmp 33) (v5) rfl (by kernel_rfl)) ?_
     simp only [Act.put, sA, sS, sZ]
     refine wpList_nil ?_
     have z4 := k4.size
     have kw5 : Kept w w5 := Keep.trans (kw3.trans k4) hk5 (fun b hb hb' => by have := HV3.out.2 b hb'; omega)
     have HV5 : Hid ((Kn.sl w.heap.size 25 9 (catP X Y (i + 1)).length (ords (catP X Y (i + 1)))).p v5 w5) := by
      refine ⟨?_, fun b hb => ?_⟩
      ·rw [catP_next X Y i hlt, List.length_append]
       unfold ords at hs5 ⊢
       rw [List.flatMap_append]
       exact hs5
      ·rcases ho5 b hb with h | h
       ·exact HV3.out.2 b h
       ·omega
     clear hs5 hk5 ho5 HV3 HSE3 hr5 hl1 hl2 hl3 k4 kw3
     go_wp2
     exact ⟨⟨i + 1, by omega, by go_num, HV5, kw5⟩, by simp [intOf]; omega⟩
    ·have hi2 : i = 2 := by omega
     subst hi2
     have HF : Hid ((Kn.sl w.heap.size 25 9 (X ++ Y).length (ords (X ++ Y))).p vv wr) := HV.out
     clear HV
     go_wp2
     go_ret
     exact ⟨vv, rfl, HF.out, hkr⟩
set_option maxRecDepth 100000 in
set_option maxHeartbeats 1600000 in
theorem bfind_any (w : World) (F : Nat → Prop) (p : Nat) (B : Bok) (t j : Int) (h : Bk w F p B) (hI : Inv B) : Gives 28 #[.pointer (some ⟨p, 0, none⟩), .int .i64 t, .int .i64 j] w (.eq (.tuple #[(B.find t j).1.v, .bool (B.find t j).2])) := by
 refine gives_eq ?_
 have HK := Lib.hid h
 have HI := Lib.hid hI
 have hlen : (ordsL B.buys).length ≤ 64 ∧ (ordsL B.sells).length ≤ 64 := by
  have h1 := hI.two.mine.few
  have h2 := hI.two.theirs.few
  rw [ordsL_len, ordsL_len]
  exact ⟨h1, h2⟩
 have HLN := Lib.hid hlen
 have HAL : Hid (ordsL B.buys ++ ordsL B.sells = B.all.map (·.o)) := by show _ = _; unfold ordsL Bok.all; rw [List.map_append]
 clear h hI hlen
 go_enter Try.func28, Try.ntmps28
 go_upto_region 0 with fail
 refine wp_text 2 [.fresh w.heap.size 25 zeroO.cells, .eq (.bool false)] rfl (by kernel_rfl) ?_ ?_
 ·refine fsteps_cons 1 rfl (fun a u hE hD hk => f_new (o := ⟨some 6, _, _, _, _, _⟩) (.pointer (some ⟨u.heap.size, 0, none⟩)) _ rfl (wanted_none rfl _) (exec_alc 25 zeroO.cells rfl zO) ⟨_, rfl, hk.size, Blk.new u _ _⟩ ((Keep.refl _ u).alloc _)) ?_
  refine sv 2 rfl rfl rfl (fun a u hE hD hk => exec_assign (.const (.bool false)) _ rfl rfl) ?_
  exact fsteps_nil
 intro gv wz hV kz
 rw [show dstsOf _ 2 = [6, 7] by kernel_rfl]
 simp only [fC, fN, sA, sS, sZ, dS, dZ]
 have hv6 : (.fresh w.heap.size 25 zeroO.cells : Kn).p (gv 6) wz := hV 0 6 (by kernel_rfl)
 generalize gv 6 = v6 at hv6 ⊢
 rw [show gv 7 = .bool false from hV 1 7 (by kernel_rfl)]
 clear hV
 obtain ⟨b6, rfl, hb6, hB6⟩ := hv6
 refine wpList_nil ?_
 have HB6 := Lib.hid hB6
 have l6 := hB6.lt
 have HKz := Lib.hid (HK.out.kept kz)
 clear hB6
 obtain ⟨X, hX⟩ : ∃ X, ordsL B.buys = X := ⟨_, rfl⟩
 obtain ⟨Y, hY⟩ : ∃ Y, ordsL B.sells = Y := ⟨_, rfl⟩
 rw [hX, hY] at HLN HAL
 have HX := Lib.hid hX
 have HY := Lib.hid hY
 clear hX hY
 obtain ⟨n, hn⟩ : ∃ n, (X ++ Y).length = n := ⟨_, rfl⟩
 have hn1 : n ≤ 128 := by rw [← hn, List.length_append]; have := HLN.out; omega
 have HN := Lib.hid hn
 clear hn
 go_upto_region 1 with fail
 refine wp_free 12 [.eq (.pointer (some ⟨p, 0, none⟩)), .eq (.pointer (some ⟨p, 0, none⟩)), .eq (.pointer (some ⟨p, 0, none⟩)), .sl wz.heap.size 25 9 X.length (ords X), .eq (.pointer (some ⟨p, 0, none⟩)), .eq (.pointer (some ⟨p, 0, none⟩)), .eq (.pointer (some ⟨p, 2, none⟩)), .sl wz.heap.size 25 9 Y.length (ords Y), .cat wz.heap.size X Y, .sl wz.heap.size 25 9 n (ords (X ++ Y)), .eq (.int .i64 (n : Int)), .eq (.int .i64 0)] (by kernel_rfl) rfl (by kernel_rfl) ?_ ?_
 ·refine sv 1 rfl rfl rfl (fun a u hE hD hk => exec_move (.tmp 0) _ rfl (hE 0 (.pointer (some ⟨p, 0, none⟩)) (by kernel_rfl) (by kernel_rfl))) ?_
  refine sv 2 rfl rfl rfl (fun a u hE hD hk => exec_nilp (.tmp 10) ⟨p, 0, none⟩ rfl (hD 0 10 (by kernel_rfl))) ?_
  refine sv 3 rfl rfl rfl (fun a u hE hD hk => exec_fldo 75 0 0 (.tmp 11) (p) (0) (0) rfl (hD 1 11 (by kernel_rfl)) (by kernel_rfl) rfl) ?_
  refine fsteps_cons 4 rfl (fun a u hE hD hk => f_call (o := ⟨some 13, _, _, _, _, _⟩) 57 #[.pointer (some ⟨p, 0, none⟩)] rfl (wanted_none rfl _) (exec_call 57 _ [.tmp 12] _ [.pointer (some ⟨p, 0, none⟩)] Try.func57 (by kernel_rfl) (by kernel_rfl) rfl (show [a.eval (.tmp 12)] = [.pointer (some ⟨p, 0, none⟩)] from (by rw [show a.eval (.tmp 12) = .pointer (some ⟨p, 0, none⟩) from (hD 2 12 (by kernel_rfl))] <;> rfl)) u) ((by obtain ⟨F', hL⟩ := (HKz.out.kept hk).lad (.inl rfl : (1 : Int) = 1 ∨ (1 : Int) = 2); have hd := gives_base (lorders_any u F' p 0 1 _ hL (HI.out.ok 1)) hk.size; rw [show ordsL (B.sd 1) = X from HX.out] at hd; exact hd))) ?_
  refine sv 5 rfl rfl rfl (fun a u hE hD hk => exec_move (.tmp 0) _ rfl (hE 0 (.pointer (some ⟨p, 0, none⟩)) (by kernel_rfl) (by kernel_rfl))) ?_
  refine sv 6 rfl rfl rfl (fun a u hE hD hk => exec_nilp (.tmp 14) ⟨p, 0, none⟩ rfl (hD 4 14 (by kernel_rfl))) ?_
  refine sv 7 rfl rfl rfl (fun a u hE hD hk => exec_fldo 75 1 2 (.tmp 15) (p) (0) (2) rfl (hD 5 15 (by kernel_rfl)) (by kernel_rfl) rfl) ?_
  refine fsteps_cons 8 rfl (fun a u hE hD hk => f_call (o := ⟨some 17, _, _, _, _, _⟩) 57 #[.pointer (some ⟨p, 2, none⟩)] rfl (wanted_none rfl _) (exec_call 57 _ [.tmp 16] _ [.pointer (some ⟨p, 2, none⟩)] Try.func57 (by kernel_rfl) (by kernel_rfl) rfl (show [a.eval (.tmp 16)] = [.pointer (some ⟨p, 2, none⟩)] from (by rw [show a.eval (.tmp 16) = .pointer (some ⟨p, 2, none⟩) from (hD 6 16 (by kernel_rfl))] <;> rfl)) u) ((by obtain ⟨F', hL⟩ := (HKz.out.kept hk).lad (.inr rfl : (2 : Int) = 1 ∨ (2 : Int) = 2); have hd := gives_base (lorders_any u F' p 2 2 _ hL (HI.out.ok 2)) hk.size; rw [show ordsL (B.sd 2) = Y from HY.out] at hd; exact hd))) ?_
  refine fsteps_cons 9 rfl (fun a u hE hD hk => f_new (o := ⟨some 18, _, _, _, _, _⟩) (.slice (some ⟨u.heap.size, 0, none⟩) 2 2) _ rfl (wanted_none rfl _) (exec_two1 slOO (.tmp 13) (.tmp 17) _ _ rfl rfl rfl (sl_cells (hD 3 13 (by kernel_rfl)).1) (sl_cells (hD 7 17 (by kernel_rfl)).1)) ⟨u.heap.size, rfl, hk.size, _, _, Blk.new u _ _, (hD 3 13 (by kernel_rfl)).1.kept ((Keep.refl _ u).alloc _), (hD 7 17 (by kernel_rfl)).1.kept ((Keep.refl _ u).alloc _)⟩ ((Keep.refl _ u).alloc _)) ?_
  refine fsteps_cons 10 rfl (fun a u hE hD hk => f_call (o := ⟨some 19, _, _, _, _, _⟩) 56 #[a.eval (.tmp 18)] rfl (wanted_none rfl _) (exec_call 56 _ [.tmp 18] _ [a.eval (.tmp 18)] Try.func56 (by kernel_rfl) (by kernel_rfl) rfl rfl u) ((by obtain ⟨gg, hx, hgb, hcat⟩ := (hD 8 18 (by kernel_rfl)); have hd := gives_base (concat_any u gg X Y hcat (by have := HLN.out; omega)) hk.size; rw [HN.out] at hd; rw [hx]; exact hd))) ?_
  refine sv 11 rfl rfl rfl (fun a u hE hD hk => exec_lenS (.tmp 19) slO (a.eval (.tmp 19)) n _ _ rfl rfl (hD 9 19 (by kernel_rfl)).1) ?_
  refine sv 12 rfl rfl rfl (fun a u hE hD hk => exec_move (.const (.int .i64 0)) _ rfl rfl) ?_
  exact fsteps_nil
 intro gv w0 hV k0
 rw [show dstsOf _ 12 = [10, 11, 12, 13, 14, 15, 16, 17, 18, 19, 20, 21] by kernel_rfl]
 simp only [fC, fN, sA, sS, sZ, dS, dZ]
 have hv19 : (.sl wz.heap.size 25 9 n (ords (X ++ Y)) : Kn).p (gv 19) w0 := hV 9 19 (by kernel_rfl)
 generalize gv 19 = v19 at hv19 ⊢
 rw [show gv 20 = .int .i64 (n : Int) from hV 10 20 (by kernel_rfl)]
 rw [show gv 21 = .int .i64 0 from hV 11 21 (by kernel_rfl)]
 clear hV
 refine wpList_nil ?_
 have HS0 := Lib.hid hv19.1
 have HB60 := Lib.hid (HB6.out.kept k0)
 have z0 := k0.size
 have k00 := kz.trans k0
 obtain ⟨vs, hvs⟩ : ∃ x, x = v19 := ⟨_, rfl⟩
 subst hvs
 clear hv19 HB6 HKz kz k0
 go_wp2_with fail
 go_loopw [21] (fun x wr => ∃ (i : Nat), i ≤ n ∧ x = .int .i64 (i : Int) ∧ Hid (∀ (j' : Nat) (x : Ent), j' < i → B.all[j']? = some x → x.is t j = false) ∧ Kept w0 wr) (fun x _ => n - (intOf x).toNat)
 case atStart => exact ⟨0, Nat.zero_le _, rfl, fun j' x hj => (by omega), Kept.refl _⟩
 case round =>
  obtain ⟨i, hi, rfl, HM, hkr⟩ := hrel
  have HAN : Hid (B.all.length = n) := by show _ = _; rw [← HN.out, HAL.out, List.length_map]
  by_cases hlt : i < n
  ·skip
   obtain ⟨g, off, c, rfl⟩ := HS0.out.some_ (by omega)
   obtain ⟨E, hE⟩ : ∃ E, B.all[i]? = some E := ⟨B.all[i]'(by rw [HAN.out]; exact hlt), List.getElem?_eq_getElem (by rw [HAN.out]; exact hlt)⟩
   obtain ⟨e, he⟩ : ∃ e, E.o = e := ⟨_, rfl⟩
   have HE : Hid (wr.rangeAt g (off + i * 9) e.cells) := range_kept (HS0.out.rngO i e (by rw [HAL.out, List.getElem?_map, hE, ← he]; rfl)) hkr
   have HEI := Lib.hid hE
   have HEO := Lib.hid he
   have HB6r := Lib.hid (HB60.out.kept hkr)
   clear hE he
   go_upto_region 3 with fail
   refine wp_text 3 [.eq (.pointer (some ⟨g, off + i * 9, none⟩)), .eq (e.v), .fresh wr.heap.size 25 zeroO.cells] rfl (by kernel_rfl) ?_ ?_
   ·refine sv 1 rfl rfl rfl (fun a u hE hD hk => exec_ixo slO (.tmp 19) (.tmp 21) (g) (off) n c i (off + i * 9) ((i : Int)) rfl (hE 19 (.slice (some ⟨g, off, none⟩) n c) (by kernel_rfl) (by kernel_rfl)) (hE 21 (.int .i64 (i : Int)) (by kernel_rfl) (by kernel_rfl)) (by first | rfl | omega) (hlt) (by first | rfl | omega)) ?_
    refine sv 2 rfl rfl rfl (fun a u hE hD hk => exec_ldS 25 _ (.tmp 23) (g) (off + i * 9) (e.cells) rfl (hD 0 23 (by kernel_rfl)) (range_kept HE.out hk) Try.underlying25 (by rw [e.len9]; exact ord_size)) ?_
    refine fsteps_cons 3 rfl (fun a u hE hD hk => f_new (o := ⟨some 9, _, _, _, _, _⟩) (.pointer (some ⟨u.heap.size, 0, none⟩)) _ rfl (wanted_none rfl _) (exec_alc 25 zeroO.cells rfl zO) ⟨_, rfl, hk.size, Blk.new u _ _⟩ ((Keep.refl _ u).alloc _)) ?_
    exact fsteps_nil
   intro gv w1 hV k1
   rw [show dstsOf _ 3 = [23, 24, 9] by kernel_rfl]
   simp only [fC, fN, sA, sS, sZ, dS, dZ]
   have hv9 : (.fresh wr.heap.size 25 zeroO.cells : Kn).p (gv 9) w1 := hV 2 9 (by kernel_rfl)
   generalize gv 9 = v9 at hv9 ⊢
   rw [show gv 24 = e.v from hV 1 24 (by kernel_rfl)]
   clear hV
   obtain ⟨b9, rfl, hb9, hB9⟩ := hv9
   refine l_setS (o := ⟨none, _, _, _, _, _⟩) 25 b9 25 zeroO.cells e.cells (.tmp 9) (.tmp 24) rfl rfl (by kernel_rfl) (by kernel_rfl) hB9 (by rw [Ord.len9]; exact ord_size) (by rw [Ord.len9, Ord.len9]) (Ord.one1 _) ?_
   intro w2 hB2 hk2 hs2
   simp only [Act.put]
   refine wpList_nil ?_
   have k12 : Kept wr w2 := k1.trans' hk2 (by omega)
   have kw2 := hkr.trans k12
   have HB9 := Lib.hid (blk_range hB2)
   have HB62 := Lib.hid (HB6r.out.kept k12)
   have zr := hkr.size
   clear hB9 hB2 hk2 hs2 k1 HE HB6r k12
   by_cases hc1 : e.tr = t
   ·by_cases hc2 : e.id = j
    ·have HR : Hid (B.find t j = (e, true)) := by
      show _ = _
      have h1 := idx_of HM.out HEI.out (by rw [← HEO.out] at hc1 hc2; simp [Ent.is, hc1, hc2])
      unfold Bok.find findE
      rw [h1, HEI.out]
      simp only
      rw [HEO.out]
     go_upto_region 4 with fail
     refine wp_text 9 [.eq (.pointer (some ⟨b9, 0, none⟩)), .eq (.int .i64 e.tr), .eq (.int .i64 t), .eq (.bool true), .eq (.bool true), .eq (.pointer (some ⟨b9, 1, none⟩)), .eq (.int .i64 e.id), .eq (.int .i64 j), .eq (.bool true)] rfl (by kernel_rfl) ?_ ?_
     ·refine sv 1 rfl rfl rfl (fun a u hE hD hk => exec_fldo 25 0 0 (.tmp 9) (b9) (0) (0) rfl (hE 9 (.pointer (some ⟨b9, 0, none⟩)) (by kernel_rfl) (by kernel_rfl)) (by kernel_rfl) rfl) ?_
      refine sv 2 rfl rfl rfl (fun a u hE hD hk => exec_loadi 3 Try.underlying3 (.tmp 25) ⟨b9, 0, none⟩ (.int .i64 e.tr) rfl (hD 0 25 (by kernel_rfl)) (range_int (range_kept HB9.out hk) 0 _ rfl)) ?_
      refine sv 3 rfl rfl rfl (fun a u hE hD hk => exec_move (.tmp 1) _ rfl (hE 1 (.int .i64 t) (by kernel_rfl) (by kernel_rfl))) ?_
      refine fsteps_cons 4 rfl (fun a u hE hD hk => f_as (show ((decide ((e.tr : Int) = (t : Int))) : Bool) = true from decide_eq_true hc1) (f_val (o := ⟨some 28, _, _, _, _, _⟩) (.bool (decide ((e.tr : Int) = (t : Int)))) rfl (wanted_none rfl _) (exec_eqn (p := e.tr) (q := t) rfl (hD 1 26 (by kernel_rfl)) (hD 2 27 (by kernel_rfl))) rfl)) ?_
      refine sv 5 rfl rfl rfl (fun a u hE hD hk => exec_move (.tmp 28) _ rfl (hD 3 28 (by kernel_rfl))) ?_
      refine fsteps_cons 6 rfl (fun a u hE hD hk => f_val (o := ⟨some 30, _, _, _, _, _⟩) (.pointer (some ⟨b9, 1, none⟩)) rfl (wanted_at (b := true) true rfl rfl (hD 4 29 (by kernel_rfl))) (exec_fldo 25 1 1 (.tmp 9) (b9) (0) (1) rfl (hE 9 (.pointer (some ⟨b9, 0, none⟩)) (by kernel_rfl) (by kernel_rfl)) (by kernel_rfl) rfl) rfl) ?_
      refine fsteps_cons 7 rfl (fun a u hE hD hk => f_val (o := ⟨some 31, _, _, _, _, _⟩) (.int .i64 e.id) rfl (wanted_at (b := true) true rfl rfl (hD 4 29 (by kernel_rfl))) (exec_loadi 3 Try.underlying3 (.tmp 30) ⟨b9, 1, none⟩ (.int .i64 e.id) rfl (hD 5 30 (by kernel_rfl)) (range_int (range_kept HB9.out hk) 1 _ rfl)) rfl) ?_
      refine fsteps_cons 8 rfl (fun a u hE hD hk => f_val (o := ⟨some 32, _, _, _, _, _⟩) (.int .i64 j) rfl (wanted_at (b := true) true rfl rfl (hD 4 29 (by kernel_rfl))) (exec_move (.tmp 2) _ rfl (hE 2 (.int .i64 j) (by kernel_rfl) (by kernel_rfl))) rfl) ?_
      refine fsteps_cons 9 rfl (fun a u hE hD hk => f_as (show ((decide ((e.id : Int) = (j : Int))) : Bool) = true from decide_eq_true hc2) (f_val (o := ⟨some 33, _, _, _, _, _⟩) (.bool (decide ((e.id : Int) = (j : Int)))) rfl (wanted_at (b := true) true rfl rfl (hD 4 29 (by kernel_rfl))) (exec_eqn (p := e.id) (q := j) rfl (hD 6 31 (by kernel_rfl)) (hD 7 32 (by kernel_rfl))) rfl)) ?_
      exact fsteps_nil
     intro gv w3 hV k3
     rw [show dstsOf _ 9 = [25, 26, 27, 28, 29, 30, 31, 32, 33] by kernel_rfl]
     simp only [fC, fN, sA, sS, sZ, dS, dZ]
     rw [show gv 29 = .bool true from hV 4 29 (by kernel_rfl)]
     rw [show gv 33 = .bool true from hV 8 33 (by kernel_rfl)]
     clear hV
     refine l_val (o := ⟨some 34, _, _, _, _, _⟩) (.bool true) rfl (exec_pick (.tmp 29) (.tmp 33) (.const (.bool false)) (.bool true) rfl (by kernel_rfl) (by kernel_rfl)) ?_
     simp only [Act.put, sA, sS, sZ]
     refine wpList_nil ?_
     have kw3 := kw2.trans k3
     have HB93 := Lib.hid (range_kept HB9.out k3)
     have HB63 := Lib.hid (HB62.out.kept k3)
     clear HM HB9 HB62 kw2 k3 hc1 hc2
     go_upto_region 5 with fail
     refine wp_text 1 [.eq (e.v)] rfl (by kernel_rfl) ?_ ?_
     ·refine sv 1 rfl rfl rfl (fun a u hE hD hk => exec_ldS 25 _ (.tmp 9) (b9) (0) (e.cells) rfl (hE 9 (.pointer (some ⟨b9, 0, none⟩)) (by kernel_rfl) (by kernel_rfl)) (range_kept HB93.out hk) Try.underlying25 (by rw [e.len9]; exact ord_size)) ?_
      exact fsteps_nil
     intro gv w4 hV k4
     rw [show dstsOf _ 1 = [35] by kernel_rfl]
     simp only [fC, fN, sA, sS, sZ, dS, dZ]
     rw [show gv 35 = e.v from hV 0 35 (by kernel_rfl)]
     clear hV
     refine l_setS (o := ⟨none, _, _, _, _, _⟩) 25 b6 25 zeroO.cells e.cells (.tmp 6) (.tmp 35) rfl rfl (by kernel_rfl) (by kernel_rfl) (HB63.out.kept k4) (by rw [Ord.len9]; exact ord_size) (by rw [Ord.len9, Ord.len9]) (Ord.one1 _) ?_
     intro w5 hB5 hk5 hs5
     simp only [Act.put]
     refine l_val (o := ⟨some 7, _, _, _, _, _⟩) (.bool true) rfl (exec_assign (.const (.bool true)) (.bool true) rfl (by kernel_rfl)) ?_
     simp only [Act.put, sA, sS, sZ]
     refine wpList_nil ?_
     go_wp2
     refine bodyPost_ret (results_cell2 (p := 6) (q := 7) rfl _ _ b6 _ e.cells true rfl rfl hB5 Try.underlying25 (by rw [Ord.len9]; exact ord_size)) rfl ?_
     rw [HR.out]
     exact ⟨rfl, ((k00.trans kw3).trans k4).trans' hk5 (by omega)⟩
    ·skip
     go_upto_region 4 with fail
     refine wp_text 9 [.eq (.pointer (some ⟨b9, 0, none⟩)), .eq (.int .i64 e.tr), .eq (.int .i64 t), .eq (.bool true), .eq (.bool true), .eq (.pointer (some ⟨b9, 1, none⟩)), .eq (.int .i64 e.id), .eq (.int .i64 j), .eq (.bool false)] rfl (by kernel_rfl) ?_ ?_
     ·refine sv 1 rfl rfl rfl (fun a u hE hD hk => exec_fldo 25 0 0 (.tmp 9) (b9) (0) (0) rfl (hE 9 (.pointer (some ⟨b9, 0, none⟩)) (by kernel_rfl) (by kernel_rfl)) (by kernel_rfl) rfl) ?_
      refine sv 2 rfl rfl rfl (fun a u hE hD hk => exec_loadi 3 Try.underlying3 (.tmp 25) ⟨b9, 0, none⟩ (.int .i64 e.tr) rfl (hD 0 25 (by kernel_rfl)) (range_int (range_kept HB9.out hk) 0 _ rfl)) ?_
      refine sv 3 rfl rfl rfl (fun a u hE hD hk => exec_move (.tmp 1) _ rfl (hE 1 (.int .i64 t) (by kernel_rfl) (by kernel_rfl))) ?_
      refine fsteps_cons 4 rfl (fun a u hE hD hk => f_as (show ((decide ((e.tr : Int) = (t : Int))) : Bool) = true from decide_eq_true hc1) (f_val (o := ⟨some 28, _, _, _, _, _⟩) (.bool (decide ((e.tr : Int) = (t : Int)))) rfl (wanted_none rfl _) (exec_eqn (p := e.tr) (q := t) rfl (hD 1 26 (by kernel_rfl)) (hD 2 27 (by kernel_rfl))) rfl)) ?_
      refine sv 5 rfl rfl rfl (fun a u hE hD hk => exec_move (.tmp 28) _ rfl (hD 3 28 (by kernel_rfl))) ?_
      refine fsteps_cons 6 rfl (fun a u hE hD hk => f_val (o := ⟨some 30, _, _, _, _, _⟩) (.pointer (some ⟨b9, 1, none⟩)) rfl (wanted_at (b := true) true rfl rfl (hD 4 29 (by kernel_rfl))) (exec_fldo 25 1 1 (.tmp 9) (b9) (0) (1) rfl (hE 9 (.pointer (some ⟨b9, 0, none⟩)) (by kernel_rfl) (by kernel_rfl)) (by kernel_rfl) rfl) rfl) ?_
      refine fsteps_cons 7 rfl (fun a u hE hD hk => f_val (o := ⟨some 31, _, _, _, _, _⟩) (.int .i64 e.id) rfl (wanted_at (b := true) true rfl rfl (hD 4 29 (by kernel_rfl))) (exec_loadi 3 Try.underlying3 (.tmp 30) ⟨b9, 1, none⟩ (.int .i64 e.id) rfl (hD 5 30 (by kernel_rfl)) (range_int (range_kept HB9.out hk) 1 _ rfl)) rfl) ?_
      refine fsteps_cons 8 rfl (fun a u hE hD hk => f_val (o := ⟨some 32, _, _, _, _, _⟩) (.int .i64 j) rfl (wanted_at (b := true) true rfl rfl (hD 4 29 (by kernel_rfl))) (exec_move (.tmp 2) _ rfl (hE 2 (.int .i64 j) (by kernel_rfl) (by kernel_rfl))) rfl) ?_
      refine fsteps_cons 9 rfl (fun a u hE hD hk => f_as (show ((decide ((e.id : Int) = (j : Int))) : Bool) = false from decide_eq_false hc2) (f_val (o := ⟨some 33, _, _, _, _, _⟩) (.bool (decide ((e.id : Int) = (j : Int)))) rfl (wanted_at (b := true) true rfl rfl (hD 4 29 (by kernel_rfl))) (exec_eqn (p := e.id) (q := j) rfl (hD 6 31 (by kernel_rfl)) (hD 7 32 (by kernel_rfl))) rfl)) ?_
      exact fsteps_nil
     intro gv w3 hV k3
     rw [show dstsOf _ 9 = [25, 26, 27, 28, 29, 30, 31, 32, 33] by kernel_rfl]
     simp only [fC, fN, sA, sS, sZ, dS, dZ]
     rw [show gv 29 = .bool true from hV 4 29 (by kernel_rfl)]
     rw [show gv 33 = .bool false from hV 8 33 (by kernel_rfl)]
     clear hV
     refine l_val (o := ⟨some 34, _, _, _, _, _⟩) (.bool false) rfl (exec_pick (.tmp 29) (.tmp 33) (.const (.bool false)) (.bool false) rfl (by kernel_rfl) (by kernel_rfl)) ?_
     simp only [Act.put, sA, sS, sZ]
     refine wpList_nil ?_
     have kw3 := kw2.trans k3
     have HM2 : Hid (∀ (j' : Nat) (x : Ent), j' < i + 1 → B.all[j']? = some x → x.is t j = false) := by
      intro j' x hj hx
      by_cases hjk : j' = i
      ·subst hjk
       rw [HEI.out] at hx
       injection hx with hx
       rw [← hx]
       have hE1 := HEO.out
       subst hE1
       simp [Ent.is]
       exact fun _ => hc2
      ·exact HM.out j' x (by omega) hx
     clear HM k3
     go_wp2
     exact ⟨⟨i + 1, by omega, by go_num, HM2, kw3⟩, by simp [intOf]; omega⟩
   ·skip
    go_upto_region 4 with fail
    refine wp_text 9 [.eq (.pointer (some ⟨b9, 0, none⟩)), .eq (.int .i64 e.tr), .eq (.int .i64 t), .eq (.bool false), .eq (.bool false), .eq undef, .eq undef, .eq undef, .eq undef] rfl (by kernel_rfl) ?_ ?_
    ·refine sv 1 rfl rfl rfl (fun a u hE hD hk => exec_fldo 25 0 0 (.tmp 9) (b9) (0) (0) rfl (hE 9 (.pointer (some ⟨b9, 0, none⟩)) (by kernel_rfl) (by kernel_rfl)) (by kernel_rfl) rfl) ?_
     refine sv 2 rfl rfl rfl (fun a u hE hD hk => exec_loadi 3 Try.underlying3 (.tmp 25) ⟨b9, 0, none⟩ (.int .i64 e.tr) rfl (hD 0 25 (by kernel_rfl)) (range_int (range_kept HB9.out hk) 0 _ rfl)) ?_
     refine sv 3 rfl rfl rfl (fun a u hE hD hk => exec_move (.tmp 1) _ rfl (hE 1 (.int .i64 t) (by kernel_rfl) (by kernel_rfl))) ?_
     refine fsteps_cons 4 rfl (fun a u hE hD hk => f_as (show ((decide ((e.tr : Int) = (t : Int))) : Bool) = false from decide_eq_false hc1) (f_val (o := ⟨some 28, _, _, _, _, _⟩) (.bool (decide ((e.tr : Int) = (t : Int)))) rfl (wanted_none rfl _) (exec_eqn (p := e.tr) (q := t) rfl (hD 1 26 (by kernel_rfl)) (hD 2 27 (by kernel_rfl))) rfl)) ?_
     refine sv 5 rfl rfl rfl (fun a u hE hD hk => exec_move (.tmp 28) _ rfl (hD 3 28 (by kernel_rfl))) ?_
     refine fsteps_cons 6 rfl (fun a u hE hD hk => f_skip (o := ⟨some 30, _, _, _, _, _⟩) rfl (wanted_at (b := true) false rfl rfl (hD 4 29 (by kernel_rfl))) rfl) ?_
     refine fsteps_cons 7 rfl (fun a u hE hD hk => f_skip (o := ⟨some 31, _, _, _, _, _⟩) rfl (wanted_at (b := true) false rfl rfl (hD 4 29 (by kernel_rfl))) rfl) ?_
     refine fsteps_cons 8 rfl (fun a u hE hD hk => f_skip (o := ⟨some 32, _, _, _, _, _⟩) rfl (wanted_at (b := true) false rfl rfl (hD 4 29 (by kernel_rfl))) rfl) ?_
     refine fsteps_cons 9 rfl (fun a u hE hD hk => f_skip (o := ⟨some 33, _, _, _, _, _⟩) rfl (wanted_at (b := true) false rfl rfl (hD 4 29 (by kernel_rfl))) rfl) ?_
     exact fsteps_nil
    intro gv w3 hV k3
    rw [show dstsOf _ 9 = [25, 26, 27, 28, 29, 30, 31, 32, 33] by kernel_rfl]
    simp only [fC, fN, sA, sS, sZ, dS, dZ]
    rw [show gv 29 = .bool false from hV 4 29 (by kernel_rfl)]
    rw [show gv 33 = undef from hV 8 33 (by kernel_rfl)]
    clear hV
    refine l_val (o := ⟨some 34, _, _, _, _, _⟩) (.bool false) rfl (exec_pickF (.tmp 29) (.tmp 33) (.const (.bool false)) (.bool false) rfl (by kernel_rfl) rfl) ?_
    simp only [Act.put, sA, sS, sZ]
    refine wpList_nil ?_
    have kw3 := kw2.trans k3
    have HM2 : Hid (∀ (j' : Nat) (x : Ent), j' < i + 1 → B.all[j']? = some x → x.is t j = false) := by
     intro j' x hj hx
     by_cases hjk : j' = i
     ·subst hjk
      rw [HEI.out] at hx
      injection hx with hx
      rw [← hx]
      have hE1 := HEO.out
      subst hE1
      simp [Ent.is]
      exact fun h => absurd h hc1
     ·exact HM.out j' x (by omega) hx
    clear HM k3
    go_wp2
    exact ⟨⟨i + 1, by omega, by go_num, HM2, kw3⟩, by simp [intOf]; omega⟩
  ·have HR : Hid (B.find t j = (zeroO, false)) := by
    show _ = _
    have h1 : idxM t j B.all = B.all.length := idx_none (fun j' x hj hx => HM.out j' x (by rw [HAN.out] at hj; omega) hx)
    unfold Bok.find findE
    rw [h1, List.getElem?_eq_none (Nat.le_refl _)]
   have HB6r := Lib.hid (HB60.out.kept hkr)
   clear HM
   go_upto_region 7 with fail
   refine wp_text 1 [.eq (zeroO.v)] rfl (by kernel_rfl) ?_ ?_
   ·refine sv 1 rfl rfl rfl (fun a u hE hD hk => exec_build 25 [] zeroO.cells rfl (by kernel_rfl)) ?_
    exact fsteps_nil
   intro gv w4 hV k4
   rw [show dstsOf _ 1 = [37] by kernel_rfl]
   simp only [fC, fN, sA, sS, sZ, dS, dZ]
   rw [show gv 37 = zeroO.v from hV 0 37 (by kernel_rfl)]
   clear hV
   refine l_setS (o := ⟨none, _, _, _, _, _⟩) 25 b6 25 zeroO.cells zeroO.cells (.tmp 6) (.tmp 37) rfl rfl (by kernel_rfl) (by kernel_rfl) (HB6r.out.kept k4) (by rw [Ord.len9]; exact ord_size) rfl (Ord.one1 _) ?_
   intro w5 hB5 hk5 hs5
   simp only [Act.put]
   refine l_val (o := ⟨some 7, _, _, _, _, _⟩) (.bool false) rfl (exec_assign (.const (.bool false)) (.bool false) rfl (by kernel_rfl)) ?_
   simp only [Act.put, sA, sS, sZ]
   refine wpList_nil ?_
   go_wp2
   refine bodyPost_ret (results_cell2 (p := 6) (q := 7) rfl _ _ b6 _ zeroO.cells false rfl rfl hB5 Try.underlying25 (by rw [Ord.len9]; exact ord_size)) rfl ?_
   rw [HR.out]
   exact ⟨rfl, ((k00.trans hkr).trans k4).trans' hk5 (by omega)⟩
end Go.Proofs.Ytfpfpmhkkgfdbaa
