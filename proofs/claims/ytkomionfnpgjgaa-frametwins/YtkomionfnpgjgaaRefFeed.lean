/-
  The document's own Feed and Frame (jobberref1): what comes out is what 'cut' says. Conditions: lengths far below 2^47.
-/
import Derived.Test.YtkomionfnpgjgaaFrmFeed
namespace Go.Proofs.Ytkomionfnpgjgaa
open Go.RowKit
set_option linter.unusedVariables false

section
variable {a : Act} {o : Oper} {u : World}
theorem exec_nilc (x : Operand) (ad : Addr) (hop : o.op = .nilCheck x) (hx : a.eval x = .pointer (some ad)) : (execOp a.eval o).run Try.prog u = .ok (.value (.pointer (some ad))) u := by
  unfold execOp
  simp only [hop, hx]
  simp [go_sem]
theorem exec_rest (x : Operand) (g : Nat) (hop : o.op = .fieldAddr 32 x 0) (hx : a.eval x = .pointer (some ⟨g, 0, none⟩)) : (execOp a.eval o).run Try.prog u = .ok (.value (.pointer (some ⟨g, 0, none⟩))) u := by
  unfold execOp
  simp only [hop, hx]
  simp [go_sem]
end
/-- how much a deframer at block g holds -/
def restLen (w : World) (g : Nat) : Nat := ((w.cell? ⟨g, 0, none⟩).map lenS).getD 0
theorem restLen_of {w : World} {g m c : Nat} {t : TypeId} {A : Option Addr} {v : Value} (h : Blk w g t [.slice A m c, v]) : restLen w g = m := by
  unfold restLen
  rw [h.cell 0]
  rfl
theorem fed_ref {t : TypeId} {w w' : World} {g k c : Nat} {A : Option Addr} {vs : List Value} {B : List (List UInt8)} {bad : Bool} {left : List UInt8} (kg : Keep (· = g) w w')
    (hg : OwnG w' w.heap.size 26 1 A k c vs) (he : RowsE w' w.heap.size vs B) (hD : DF t w' g bad left) : FedIn t w w' g (.slice A k c) B bad left := by
  have e := rows_len hg he
  subst e
  exact ⟨A, c, vs, rfl, hg, he, hD, kg⟩

set_option maxRecDepth 100000 in
set_option maxHeartbeats 3200000 in
theorem refFeed_good (g : Nat) (left b : List UInt8) (v : Value) (w : World) (h : DF 32 w g false left) (hv : Bytes w v b) (h1 : left.length ≤ 400000) (h2 : b.length ≤ 400000) :
    Calls Try.prog 15 #[.pointer (some ⟨g, 0, none⟩), v] w fun e w' => ∃ u, e = .returned u ∧ FedIn 32 w w' g u (cut (left ++ b)).1 (cut (left ++ b)).2.2 (cut (left ++ b)).2.1 := by
  obtain ⟨A0, n0, c0, hb, ho⟩ := h
  obtain ⟨V, nb, cb, rfl, hlb, hV, hnb, hcb, hVn⟩ := hv
  have hgw := hb.lt
  have q1 := hb.cell 1
  simp only [List.getElem?_cons_zero, List.getElem?_cons_succ] at q1
  have hl0 : Hid (left.length = n0) := ho.len
  have hn0 : n0 ≤ 400000 := by have := hl0.out; omega
  have hnb' : nb ≤ 400000 := by have := hlb.out; omega
  obtain ⟨s, hs⟩ : ∃ s, s = left ++ b := ⟨_, rfl⟩
  have hsl : Hid (s.length = n0 + nb) := by show _ = _; rw [hs, List.length_append, hl0.out, hlb.out]
  have HS := Lib.hid hs
  have k0 : Kept w (w.alloc (.cells #[] 5)) := (Keep.refl _ w).alloc _
  have hb0 := hb.kept k0
  have q0 := hb0.cell 0
  simp only [List.getElem?_cons_zero] at q0
  have R0 : Row8 (w.alloc (.cells #[] 5)) w.heap.size 0 [] := row8_new w [] (by unfold maxLen; simp)
  have HR0 := Lib.hid R0
  have HB := Lib.hid hb
  have HX0 := Lib.hid (ho.r8.kept k0)
  have HAn := Lib.hid ho.cap.2.2
  have HV := Lib.hid hV
  have HVn := Lib.hid hVn
  rw [← hs]
  clear hs hb ho hV hVn h1 h2 R0 hb0
  go_enter Try.func15, Try.ntmps15
  go_wp2_with (at_builtin; refine wpl_append8 _ rfl (.tmp 12) (.tmp 16) rfl w.heap.size w.heap.size 0 0 [] rfl rfl HR0.out (Nat.le_refl _) A0 n0 c0 left rfl hl0.out HX0.out HAn.out (by omega) ?_)
  intro w1 g1 c1 R1 hg1 k1
  have kw1 : Kept w w1 := Kept.trans' k0 k1 (by omega)
  have HR1 := Lib.hid R1
  have HV1 := Lib.hid (HV.out.kept kw1)
  clear R1 k1 HR0 HX0 k0 q0 HV HAn
  go_wp2_with (at_builtin; refine wpl_append8 _ rfl (.tmp 17) (.tmp 18) rfl w.heap.size g1 c1 n0 left rfl hl0.out HR1.out hg1 V nb cb b rfl hlb.out HV1.out HVn.out (by omega) ?_)
  intro w2 g2 c2 R2 hg2 k2
  have kw2 : Kept w w2 := Kept.trans' kw1 k2 (by omega)
  rw [← HS.out] at R2
  obtain ⟨N, hN⟩ : ∃ N, N = n0 + nb := ⟨_, rfl⟩
  rw [← hN] at hsl
  have hNle : N ≤ 800000 := by omega
  rw [← hN]
  have hb2 := HB.out.kept kw2
  have q0 := hb2.cell 0
  have f0 := hb2.frozen 0
  simp only [List.getElem?_cons_zero] at q0
  have hset := hb2.set_ 0 (.slice (some ⟨g2, 0, none⟩) N c2)
  have kset : Keep (· = g) w2 (w2.setCell ⟨g, 0, none⟩ (.slice (some ⟨g2, 0, none⟩) N c2)) := Keep.setCell (Keep.refl (· = g) w2) (fun _ => rfl) _
  have HB3 := Lib.hid hset
  have HR3 := Lib.hid (R2.keep kset (row_ne hb2 R2 (by decide)))
  have kg3 : Keep (· = g) w (w2.setCell ⟨g, 0, none⟩ (.slice (some ⟨g2, 0, none⟩) N c2)) := Keep.trans (Keep.mono kw2 (fun _ _ h => h.elim)) kset (fun _ _ h => h)
  have HI : Hid (cut s = ([] ++ (cut s).1, (cut s).2.1, (cut s).2.2)) := rfl
  clear R2 k2 HR1 HV1 hN hset kset hb2 kw1 kw2 HVn
  go_wp2_with fail
  go_loopw [5] (fun bs wr => ∃ (g1 m c' k c : Nat) (A : Option Addr) (vs : List Value) (B : List (List UInt8)) (r : List UInt8), bs = .slice A k c ∧ k + m ≤ N ∧ Hid (r.length = m) ∧ Hid (Blk wr g 32 [.slice (some ⟨g1, 0, none⟩) m c', .bool false]) ∧ Hid (Row8 wr g1 c' r) ∧ Hid (OwnG wr w.heap.size 26 1 A k c vs) ∧ Hid (RowsE wr w.heap.size vs B) ∧ Hid (cut s = (B ++ (cut r).1, (cut r).2.1, (cut r).2.2)) ∧ Keep (· = g) w wr) (fun _ wr => restLen wr g)
  case atStart => exact ⟨g2, N, c2, 0, 0, none, [], [], s, rfl, by omega, hsl, HB3, HR3, OwnG.nil _ _ _ _, RowsE.nil _ _, HI, kg3⟩
  case round =>
    obtain ⟨g1, m, c', k, c, A, vs, B, r, rfl, hkm, hlr, HBr, HR, HG, HE, HC, kr⟩ := hrel
    have hmc : m ≤ c' := by have := HR.out.le; rw [hlr.out] at this; exact this
    have q0 := HBr.out.cell 0
    have q1 := HBr.out.cell 1
    have f0 := HBr.out.frozen 0
    have f1 := HBr.out.frozen 1
    simp only [List.getElem?_cons_zero, List.getElem?_cons_succ] at q0 q1
    have hM : Hid (restLen wr g = m) := restLen_of HBr.out
    clear HB3 HR3 HI kg3
    by_cases hm2 : 2 ≤ m
    · have HX := HR.out.r8
      have H0 : Hid (wr.cell? ⟨g1, 0 + 0 * 1, none⟩ = some (.int .u8 ((r.getD 0 0).toNat : Int))) := by
        show _ = _
        obtain ⟨ad, e, h0⟩ := HX 0 (r.getD 0 0) (by rw [List.getD_eq_getElem?_getD, List.getElem?_eq_getElem (by rw [hlr.out]; omega)]; rfl)
        injection e with e
        subst e
        exact h0
      have H1 : Hid (wr.cell? ⟨g1, 0 + 1 * 1, none⟩ = some (.int .u8 ((r.getD 1 0).toNat : Int))) := by
        show _ = _
        obtain ⟨ad, e, h0⟩ := HX 1 (r.getD 1 0) (by rw [List.getD_eq_getElem?_getD, List.getElem?_eq_getElem (by rw [hlr.out]; omega)]; rfl)
        injection e with e
        subst e
        exact h0
      have HN0 : Hid (hdOf r = (r.getD 0 0).toNat * 256 + (r.getD 1 0).toNat) := rfl
      generalize r.getD 0 0 = x at H0 HN0
      generalize r.getD 1 0 = y at H1 HN0
      have Q0 := Lib.hid q0
      clear HX
      go_wp2_with fail
      refine wp_class_tail (C := fun u => ∃ k, u = wr.drewN k) 16 (by kernel_rfl) (by kernel_rfl) (⟨1, rfl⟩) ?_
      simp only [List.take_succ_cons, List.take_zero, List.drop_succ_cons, List.drop_zero]
      refine q_val (.pointer (some ⟨g, 0, none⟩)) (by kernel_rfl) (fun u hu => exec_move (.tmp 0) (.pointer (some ⟨g, 0, none⟩)) rfl (by kernel_rfl)) ?_
      simp only [Act.put, List.setIfInBounds_toArray, List.set_cons_succ, List.set_cons_zero]
      refine q_val (.pointer (some ⟨g, 0, none⟩)) (by kernel_rfl) (fun u hu => exec_nilc (.tmp 28) _ rfl (by kernel_rfl)) ?_
      simp only [Act.put, List.setIfInBounds_toArray, List.set_cons_succ, List.set_cons_zero]
      refine q_val (.pointer (some ⟨g, 0, none⟩)) (by kernel_rfl) (fun u hu => exec_rest (.tmp 29) g rfl (by kernel_rfl)) ?_
      simp only [Act.put, List.setIfInBounds_toArray, List.set_cons_succ, List.set_cons_zero]
      refine q_val (.slice (some ⟨g1, 0, none⟩) m c') (by kernel_rfl) (fun u hu => exec_load_sl (.tmp 30) ⟨g, 0, none⟩ _ rfl (by kernel_rfl) (by obtain ⟨k, rfl⟩ := hu; exact Q0.out)) ?_
      simp only [Act.put, List.setIfInBounds_toArray, List.set_cons_succ, List.set_cons_zero]
      refine q_val (.pointer (some ⟨g1, 0 + 0 * 1, none⟩)) (by kernel_rfl) (fun u hu => exec_index 26 5 1 (.tmp 31) (.const (.int .i64 0)) g1 0 m c' 0 rfl Try.underlying26 info8s (by kernel_rfl) (by kernel_rfl) (by omega)) ?_
      simp only [Act.put, List.setIfInBounds_toArray, List.set_cons_succ, List.set_cons_zero]
      refine q_val (.int .u8 (x.toNat : Int)) (by kernel_rfl) (fun u hu => exec_load8 (.tmp 32) ⟨g1, 0 + 0 * 1, none⟩ _ rfl (by kernel_rfl) (by obtain ⟨k, rfl⟩ := hu; exact H0.out)) ?_
      simp only [Act.put, List.setIfInBounds_toArray, List.set_cons_succ, List.set_cons_zero]
      refine q_val (.int .i64 (x.toNat : Int)) (by kernel_rfl) (fun u hu => exec_conv8 (.tmp 33) x rfl (by kernel_rfl)) ?_
      simp only [Act.put, List.setIfInBounds_toArray, List.set_cons_succ, List.set_cons_zero]
      refine q_val (.int .i64 ((x.toNat * 256 : Nat) : Int)) (by kernel_rfl) (fun u hu => exec_shl8 (.tmp 34) _ x rfl (by kernel_rfl)) ?_
      simp only [Act.put, List.setIfInBounds_toArray, List.set_cons_succ, List.set_cons_zero]
      refine q_val (.pointer (some ⟨g, 0, none⟩)) (by kernel_rfl) (fun u hu => exec_move (.tmp 0) (.pointer (some ⟨g, 0, none⟩)) rfl (by kernel_rfl)) ?_
      simp only [Act.put, List.setIfInBounds_toArray, List.set_cons_succ, List.set_cons_zero]
      refine q_val (.pointer (some ⟨g, 0, none⟩)) (by kernel_rfl) (fun u hu => exec_nilc (.tmp 36) _ rfl (by kernel_rfl)) ?_
      simp only [Act.put, List.setIfInBounds_toArray, List.set_cons_succ, List.set_cons_zero]
      refine q_val (.pointer (some ⟨g, 0, none⟩)) (by kernel_rfl) (fun u hu => exec_rest (.tmp 37) g rfl (by kernel_rfl)) ?_
      simp only [Act.put, List.setIfInBounds_toArray, List.set_cons_succ, List.set_cons_zero]
      refine q_val (.slice (some ⟨g1, 0, none⟩) m c') (by kernel_rfl) (fun u hu => exec_load_sl (.tmp 38) ⟨g, 0, none⟩ _ rfl (by kernel_rfl) (by obtain ⟨k, rfl⟩ := hu; exact Q0.out)) ?_
      simp only [Act.put, List.setIfInBounds_toArray, List.set_cons_succ, List.set_cons_zero]
      refine q_val (.pointer (some ⟨g1, 0 + 1 * 1, none⟩)) (by kernel_rfl) (fun u hu => exec_index 26 5 1 (.tmp 39) (.const (.int .i64 1)) g1 0 m c' 1 rfl Try.underlying26 info8s (by kernel_rfl) (by kernel_rfl) (by omega)) ?_
      simp only [Act.put, List.setIfInBounds_toArray, List.set_cons_succ, List.set_cons_zero]
      refine q_val (.int .u8 (y.toNat : Int)) (by kernel_rfl) (fun u hu => exec_load8 (.tmp 40) ⟨g1, 0 + 1 * 1, none⟩ _ rfl (by kernel_rfl) (by obtain ⟨k, rfl⟩ := hu; exact H1.out)) ?_
      simp only [Act.put, List.setIfInBounds_toArray, List.set_cons_succ, List.set_cons_zero]
      refine q_val (.int .i64 (y.toNat : Int)) (by kernel_rfl) (fun u hu => exec_conv8 (.tmp 41) y rfl (by kernel_rfl)) ?_
      simp only [Act.put, List.setIfInBounds_toArray, List.set_cons_succ, List.set_cons_zero]
      refine q_val (.int .i64 ((x.toNat * 256 + y.toNat : Nat) : Int)) (by kernel_rfl) (fun u hu => exec_or8 (.tmp 35) (.tmp 42) _ x y rfl (by kernel_rfl) (by kernel_rfl)) ?_
      simp only [Act.put, List.setIfInBounds_toArray, List.set_cons_succ, List.set_cons_zero]
      refine wpQuiet_nil ?_
      rintro _ ⟨k1, rfl⟩
      obtain ⟨n, hn⟩ : ∃ n, n = x.toNat * 256 + y.toNat := ⟨_, rfl⟩
      rw [← hn]
      have HN : Hid (n = hdOf r) := by show _ = _; rw [HN0.out, hn]
      have hn65 : n < 65536 := by rw [HN.out]; exact hdOf_lt r
      clear hn HN0 H0 H1 Q0 q0 q1 f0 f1
      have kd : Kept wr (wr.drewN k1) := kept_drewN wr k1
      generalize wr.drewN k1 = wx at kd ⊢
      have kx : Keep (· = g) w wx := kr.kept kd
      have HBx := Lib.hid (HBr.out.kept kd)
      have HRx := Lib.hid (HR.out.kept kd)
      have HGx := Lib.hid (HG.out.kept kd)
      have HEx := Lib.hid (HE.out.kept kd)
      have q0 := HBx.out.cell 0
      have q1 := HBx.out.cell 1
      have f0 := HBx.out.frozen 0
      have f1 := HBx.out.frozen 1
      simp only [List.getElem?_cons_zero, List.getElem?_cons_succ] at q0 q1
      clear kr HBr HR HG HE kd
      by_cases hval : 1 ≤ n ∧ n ≤ 256
      · obtain ⟨hv1, hv2⟩ := hval
        have hd1 : decide ((n : Int) < 1) = false := by simp; omega
        have hd2 : decide ((256 : Int) < (n : Int)) = false := by simp; omega
        have hok : Hid (¬ (hdOf r < 1 ∨ 256 < hdOf r)) := by show ¬ _; rw [← HN.out]; omega
        by_cases hlt : m < 2 + n
        · have hd : decide ((m : Int) - 2 < (n : Int)) = true := by simp; omega
          have HQ := Lib.hid (cut_stop HC.out (cut_wait (by rw [hlr.out]; exact hm2) hok.out (by rw [hlr.out, ← HN.out]; exact hlt)))
          have HF := Lib.hid (fed_ref kx HGx.out HEx.out ⟨_, _, _, HBx.out, .inr ⟨g1, rfl, Nat.zero_le _, hlr.out, HRx.out⟩⟩)
          go_wp2
          go_ret
          refine ⟨_, rfl, ?_⟩
          rw [HQ.out]
          exact HF.out
        · have hd : decide ((m : Int) - 2 < (n : Int)) = false := by simp; omega
          have HQ := Lib.hid (cut_step HC.out hok.out (by rw [hlr.out, ← HN.out]; omega))
          rw [← HN.out] at HQ
          obtain ⟨o1, hs1, hX1⟩ := slice_lh8 g1 0 m c' 2 (2 + n) 2 (2 + (n : Int)) r rfl (by omega) (by omega) (by omega)
          obtain ⟨o2, hs2, hX2⟩ := slice_l8 g1 0 m c' (2 + n) (2 + (n : Int)) r hlr.out (by omega) (by omega) hmc
          have e1 : 2 + n - 2 = n := by omega
          rw [e1] at hs1 hX1
          obtain ⟨bd, hbd⟩ : ∃ bd, bd = (r.drop 2).take n := ⟨_, rfl⟩
          obtain ⟨r2, hr2⟩ : ∃ r2, r2 = r.drop (2 + n) := ⟨_, rfl⟩
          obtain ⟨m2, hm2'⟩ : ∃ m2, m2 = m - (2 + n) := ⟨_, rfl⟩
          obtain ⟨cc, hcc⟩ : ∃ cc, cc = c' - (2 + n) := ⟨_, rfl⟩
          obtain ⟨cd, hcd⟩ : ∃ cd, cd = c' - 2 := ⟨_, rfl⟩
          have hbl : Hid (bd.length = n) := by show _ = _; rw [hbd, List.length_take, List.length_drop, hlr.out]; omega
          have hrl : Hid (r2.length = m2) := by show _ = _; rw [hr2, List.length_drop, hlr.out, hm2']
          rw [← hm2', ← hcc] at hs2
          rw [← hbd] at hX1
          rw [← hr2] at hX2
          rw [← hbd, ← hr2] at HQ
          rw [← hcd] at hs1
          have a1 : k + 1 + m2 ≤ N ∧ m2 < m := by omega
          clear hbd hr2 hm2' hcc hcd hok
          obtain ⟨a1, a4⟩ := a1
          have ka : Kept wx (wx.alloc (.cells #[] 5)) := (Keep.refl _ wx).alloc _
          have R0 : Row8 (wx.alloc (.cells #[] 5)) wx.heap.size 0 [] := row8_new wx [] (by unfold maxLen; simp)
          have HR0 := Lib.hid R0
          have HX1 := Lib.hid (hX1 _ (HRx.out.kept ka).r8)
          have qa := ka.cell q0
          have hsx := kx.size
          clear R0 hX1 q1 f1
          go_wp2_with (at_builtin; refine wpl_append8 _ rfl (.tmp 66) (.tmp 73) rfl wx.heap.size wx.heap.size 0 0 [] rfl rfl HR0.out (Nat.le_refl _) (some ⟨g1, o1, none⟩) n cd bd rfl hbl.out HX1.out (fun h => by cases h) (by omega) ?_)
          intro w3 g3 d3 R3 hg3 k3
          have kx3 : Kept wx w3 := Kept.trans' ka k3 (by omega)
          have B4 := heap_alloc_new w3 (.cells #[.slice (some ⟨g3, 0, none⟩) n d3] 26)
          have k4 : Kept w3 (w3.alloc (.cells #[.slice (some ⟨g3, 0, none⟩) n d3] 26)) := Keep.alloc (Keep.refl _ w3) _
          have N4 := World.news_of_block B4
          have kx4 := kx3.trans k4
          have HG4 := Lib.hid (HGx.out.kept kx4)
          have HE4 := Lib.hid (HEx.out.kept kx4)
          have HR4 := Lib.hid (HRx.out.kept kx4)
          have HB4 := Lib.hid (HBx.out.kept kx4)
          have HR3 := Lib.hid (R3.kept k4)
          have kg4 : Keep (· = g) w (w3.alloc (.cells #[.slice (some ⟨g3, 0, none⟩) n d3] 26)) := kx.kept kx4
          have hbs : Hid (w.heap.size ≤ (w3.alloc (.cells #[.slice (some ⟨g3, 0, none⟩) n d3] 26)).heap.size) := kg4.size
          have hb3 : Hid (w.heap.size ≤ g3) := by show _ ≤ _; omega
          clear k3 k4 kx3 kx4 R3 HGx HEx HRx HBx kx B4 HR0 HX1 ka q0 f0 qa
          go_wp2_with (at_builtin; refine wpl_append_g _ rfl (.tmp 65) (.tmp 75) 24 26 rfl (.slice none 0 0) 1 24 Try.underlying24 infoSl rfl (by omega) w.heap.size k c A vs rfl HG4.out hbs.out ⟨w3.heap.size, 0, none⟩ 1 1 [.slice (some ⟨g3, 0, none⟩) n d3] rfl rfl N4 (by simp [Value.oneCell']) (by unfold maxLen; omega) (by omega) ?_)
          intro w5 A5 c5 O5 k5
          have hne : ∀ g' c' xs, Row8 (w3.alloc (.cells #[.slice (some ⟨g3, 0, none⟩) n d3] 26)) g' c' xs → ¬ ∃ ad, A = some ad ∧ ad.block = g' := fun g' c' xs hr ⟨ad, e, h⟩ => by
            obtain ⟨g0, rfl, _, _⟩ := HG4.out.at_ ad e
            subst e
            exact own_ne HG4.out hr h.symm
          have W5 := (HE4.out.keep k5 hne).snoc hb3.out (HR3.out.keep k5 (hne _ _ _ HR3.out))
          have HR5 := Lib.hid (HR4.out.keep k5 (hne _ _ _ HR4.out))
          have HB5 := Lib.hid (HB4.out.keep k5 (fun ⟨ad, e, h⟩ => own_type HG4.out HB4.out (by decide) ad e h))
          have kg5 : Keep (· = g) w w5 := Keep.trans kg4 k5 (fun j hj ⟨ad, e, h⟩ => by obtain ⟨g', rfl, hb, _⟩ := HG4.out.at_ ad e; simp at h; omega)
          rw [hbl.out] at W5
          have HW5 := Lib.hid W5
          have HO5 := Lib.hid O5
          clear W5 O5 hne HE4 HR3 HR4 HG4 HB4 kg4 k5 N4 hbs hb3 HC
          have kb : Kept w5 (w5.alloc (.cells #[] 5)) := (Keep.refl _ w5).alloc _
          have R0 : Row8 (w5.alloc (.cells #[] 5)) w5.heap.size 0 [] := row8_new w5 [] (by unfold maxLen; simp)
          have HR0 := Lib.hid R0
          have HX2 := Lib.hid (hX2 _ (HR5.out.kept kb).r8)
          have q0 := (HB5.out.kept kb).cell 0
          simp only [List.getElem?_cons_zero] at q0
          have hs5 := kg5.size
          clear R0 hX2
          go_wp2_with (at_builtin; refine wpl_append8 _ rfl (.tmp 78) (.tmp 85) rfl w5.heap.size w5.heap.size 0 0 [] rfl rfl HR0.out (Nat.le_refl _) (some ⟨g1, o2, none⟩) m2 cc r2 rfl hrl.out HX2.out (fun h => by cases h) (by omega) ?_)
          intro w6 g6 c6 R6 hg6 k6
          have k56 : Kept w5 w6 := Kept.trans' kb k6 (by omega)
          have hb6 := HB5.out.kept k56
          have kset : Keep (· = g) w6 (w6.setCell ⟨g, 0, none⟩ (.slice (some ⟨g6, 0, none⟩) m2 c6)) := Keep.setCell (Keep.refl (· = g) w6) (fun _ => rfl) _
          have HB7 := Lib.hid (hb6.set_ 0 (.slice (some ⟨g6, 0, none⟩) m2 c6))
          have HR7 := Lib.hid (R6.keep kset (row_ne hb6 R6 (by decide)))
          have HO7 := Lib.hid ((HO5.out.kept k56).keep kset (own_type (HO5.out.kept k56) hb6 (by decide)))
          have HW7 := Lib.hid ((HW5.out.kept k56).keep kset (fun _ _ _ hr => row_ne hb6 hr (by decide)))
          have kg7 : Keep (· = g) w (w6.setCell ⟨g, 0, none⟩ (.slice (some ⟨g6, 0, none⟩) m2 c6)) := Keep.trans (kg5.kept k56) kset (fun _ _ h => h)
          have hM7 : Hid (restLen (w6.setCell ⟨g, 0, none⟩ (.slice (some ⟨g6, 0, none⟩) m2 c6)) g = m2) := restLen_of HB7.out
          have q6 := hb6.cell 0
          have f6 := hb6.frozen 0
          simp only [List.getElem?_cons_zero] at q6
          clear R6 k6 kb HR0 HX2 q0 hb6 kset HO5 HW5 HB5 HR5 kg5 k56
          go_wp2
          refine ⟨⟨g6, m2, c6, k + 1, c5, A5, _, _, r2, rfl, a1, hrl, HB7, HR7, HO7, HW7, HQ, kg7⟩, ?_⟩
          rw [hM.out, hM7.out]
          exact a4
      · have HQ := Lib.hid (cut_stop HC.out (cut_bad (by rw [hlr.out]; exact hm2) (by rw [← HN.out]; omega)))
        have kset : Keep (· = g) wx ((wx.setCell ⟨g, 1, none⟩ (.bool true)).setCell ⟨g, 0, none⟩ (.slice none 0 0)) := Keep.setCell (Keep.setCell (Keep.refl (· = g) wx) (fun _ => rfl) _) (fun _ => rfl) _
        have HF := Lib.hid (fed_ref (t := 32) (left := []) (Keep.trans kx kset (fun _ _ h => h)) (HGx.out.keep kset (own_type HGx.out HBx.out (by decide))) (HEx.out.keep kset (fun _ _ _ hr => row_ne HBx.out hr (by decide))) ⟨_, _, _, (HBx.out.set_ 1 (.bool true)).set_ 0 (.slice none 0 0), Own8.nil _ _⟩)
        clear kset
        by_cases hz : n < 1
        · have hd1 : decide ((n : Int) < 1) = true := by simp; omega
          go_wp2
          go_ret
          refine ⟨_, rfl, ?_⟩
          rw [HQ.out]
          exact HF.out
        · have hd1 : decide ((n : Int) < 1) = false := by simp; omega
          have hd2 : decide ((256 : Int) < (n : Int)) = true := by simp; omega
          go_wp2
          go_ret
          refine ⟨_, rfl, ?_⟩
          rw [HQ.out]
          exact HF.out
    · have HQ := Lib.hid (cut_stop HC.out (cut_short (by rw [hlr.out]; omega)))
      have HF := Lib.hid (fed_ref kr HG.out HE.out ⟨_, _, _, HBr.out, .inr ⟨g1, rfl, Nat.zero_le _, hlr.out, HR.out⟩⟩)
      go_wp2
      go_ret
      refine ⟨_, rfl, ?_⟩
      rw [HQ.out]
      exact HF.out

set_option maxHeartbeats 400000 in
theorem refFeed_any (g : Nat) (bad : Bool) (left b : List UInt8) (v : Value) (w : World) (h : DF 32 w g bad left) (hv : Bytes w v b) (h1 : left.length ≤ 400000) (h2 : b.length ≤ 400000) :
    Calls Try.prog 15 #[.pointer (some ⟨g, 0, none⟩), v] w fun e w' => ∃ u, e = .returned u ∧ FedIn 32 w w' g u (feedB bad left b) (feedX bad left b) (feedL bad left b) := by
  cases bad with
  | false => exact refFeed_good g left b v w h hv h1 h2
  | true =>
    have HD := Lib.hid h
    obtain ⟨A0, n0, c0, hb, ho⟩ := h
    obtain ⟨V, nb, cb, rfl, hlb, hV, hnb, hcb, hVn⟩ := hv
    have q1 := hb.cell 1
    simp only [List.getElem?_cons_zero, List.getElem?_cons_succ] at q1
    clear hb ho hV hVn
    go_enter Try.func15, Try.ntmps15
    go_wp2
    go_ret
    exact ⟨_, rfl, none, 0, [], rfl, OwnG.nil _ _ _ _, RowsE.nil _ _, HD.out, Keep.refl _ _⟩
end Go.Proofs.Ytkomionfnpgjgaa
