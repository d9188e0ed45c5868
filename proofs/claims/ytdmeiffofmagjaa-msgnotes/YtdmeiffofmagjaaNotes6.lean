/-
  The contract of jobberlaw6.MsgNotes: what a note's kind doesn't name changes no byte of it; what it does name does; it answers true. Condition: the sum has 32 bytes.
-/
import Derived.Test.YtdmeiffofmagjaaRuns6
import Derived.Test.YtdmeiffofmagjaaSched3
import Derived.Test.YtdmeiffofmagjaaWithin
import Derived.Test.YtdmeiffofmagjaaXor8
namespace Go.Proofs.Ytdmeiffofmagjaa
open Go.RowKit
set_option linter.unusedVariables false

theorem val_be4 (n : Nat) : val (be n 4) = n % 4294967296 := by
  simp only [be, val, List.foldl_cons, List.foldl_nil, UInt8.toNat_ofNat']
  omega
theorem w32_inj (x y : Int) (h : w32 x = w32 y) : x % 4294967296 = y % 4294967296 := by
  unfold w32 at h
  have h1 := congrArg val h
  rw [val_be4, val_be4] at h1
  omega
theorem nat_bit32 (N j : Nat) (hj : j < 32) : (N ^^^ 2 ^ j) % 4294967296 ≠ N % 4294967296 := by
  intro h
  have h2 : ((N ^^^ 2 ^ j) % 2 ^ 32).testBit j = (N % 2 ^ 32).testBit j := congrArg (fun m => Nat.testBit m j) h
  rw [Nat.testBit_mod_two_pow, Nat.testBit_mod_two_pow, Nat.testBit_xor, Nat.testBit_two_pow_self, decide_eq_true hj] at h2
  cases hq : N.testBit j <;> rw [hq] at h2 <;> simp at h2
theorem wrap_mod32 (X : Nat) : IntKind.i64.wrap (X : Int) % 4294967296 = (X : Int) % 4294967296 := by
  rw [IntKind.wrap_i64]
  omega
theorem mod_mod32 (x : Int) : (((x % ((2 ^ 64 : Nat) : Int)).toNat : Nat) : Int) % 4294967296 = x % 4294967296 := by omega
/-- a bit of the lowest 32 turned is seen there -/
theorem xor_bit (x : Int) (j : Nat) (hj : j ≤ 31) : w32 (bits .xor .i64 x ((2 ^ j : Nat) : Int)) ≠ w32 x := by
  intro h
  have h1 := w32_inj _ _ h
  have hp : 2 ^ j < 2 ^ 64 := Nat.pow_lt_pow_right (by omega) (by omega)
  have key : (BitVec.ofInt 64 x ^^^ BitVec.ofInt 64 ((2 ^ j : Nat) : Int)).toNat = (x % ((2 ^ 64 : Nat) : Int)).toNat ^^^ 2 ^ j := by
    rw [BitVec.toNat_xor, BitVec.toNat_ofInt, BitVec.ofInt_natCast, BitVec.toNat_ofNat, Nat.mod_eq_of_lt hp]
  have e : bits .xor .i64 x ((2 ^ j : Nat) : Int) = IntKind.i64.wrap ((BitVec.ofInt 64 x ^^^ BitVec.ofInt 64 ((2 ^ j : Nat) : Int)).toNat : Int) := rfl
  rw [e, key, wrap_mod32, ← mod_mod32 x] at h1
  clear e key hp h
  generalize (x % ((2 ^ 64 : Nat) : Int)).toNat = N at h1
  have h2 := nat_bit32 N j (by omega)
  generalize N ^^^ 2 ^ j = X at h1 h2
  omega
section
variable {a : Act} {o : Oper} {u : World}
theorem exec_shl1 (y : Operand) (t' : TypeId) (j : Nat) (hop : o.op = .binOp .shl 3 (.const (.int .i64 1)) y t') (hy : a.eval y = .int .i64 (j : Int)) (hj : j ≤ 31) : (execOp a.eval o).run Try.prog u = .ok (.value (.int .i64 ((2 ^ j : Nat) : Int))) u := by
  have he : a.eval (.const (.int .i64 1)) = .int .i64 1 := rfl
  have hp : 2 ^ j ≤ 2147483648 := Nat.pow_le_pow_right (n := 2) (by omega) hj
  have hwn : ∀ m : Nat, m ≤ 2147483648 → IntKind.i64.wrap (m : Int) = (m : Int) := fun m hm => by rw [IntKind.wrap_i64]; omega
  have hw : IntKind.i64.wrap ((2 : Int) ^ j) = (2 : Int) ^ j := by
    have h := hwn (2 ^ j) hp
    rw [Int.natCast_pow] at h
    exact h
  unfold execOp
  simp only [hop, hy, he]
  simp [go_sem, hw]
theorem exec_xori (x y : Operand) (t' : TypeId) (p q r : Int) (hop : o.op = .binOp .xor 3 x y t') (hx : a.eval x = .int .i64 p) (hy : a.eval y = .int .i64 q) (hr : r = bits .xor .i64 p q) : (execOp a.eval o).run Try.prog u = .ok (.value (.int .i64 r)) u := by
  subst hr
  unfold execOp
  simp only [hop, hx, hy]
  simp only [binOp]
  simp [go_sem]
end
theorem within_is (n : Int) (j : Nat) (w : World) (hj : n % 32 = (j : Int)) : Gives 21 #[.int .i64 n, .int .i64 0, .int .i64 31] w (.eq (.int .i64 (j : Int))) :=
  (within_any n 0 31 w (by omega) (by omega) (by omega)).mono fun e w' ⟨h1, h2⟩ => ⟨_, h1, by show Value.int _ _ = _; congr 1; omega, by rw [← h2]; exact Kept.refl w⟩
theorem nte_zero : (Try.prog.info? 32).map (·.zero) = some (some (.agg (Nte.z 0).cells.toArray)) := by kernel_rfl

def noteA (n : Nte) : Nte := { Nte.z 3 with seq := n.seq }
def noteB (n : Nte) : Nte := { Nte.z 7 with inst := n.inst, no := n.no, price := n.price, qty := n.qty }
theorem noteX_enc (n : Nte) : Nte.enc { n with k := 3 } = (noteA n).enc := by simp [Nte.enc, noteA, Nte.z]
theorem noteY_enc (n : Nte) : Nte.enc { n with k := 7 } = (noteB n).enc := by simp [Nte.enc, noteB, Nte.z]
theorem noteC_enc (n : Nte) (r : Int) (h : w32 r ≠ w32 n.seq) : (noteA n).enc ≠ Nte.enc { noteA n with seq := r } := by
  intro e
  simp [Nte.enc, noteA, Nte.z] at e
  exact h e.symm
theorem noteD_enc (n : Nte) (r : Int) (h : w32 r ≠ w32 n.price) : (noteB n).enc ≠ Nte.enc { noteB n with price := r } := by
  intro e
  simp [Nte.enc, noteB, Nte.z] at e
  exact h e.symm

set_option maxRecDepth 100000 in
set_option maxHeartbeats 6400000 in
theorem msgNotes_any (n : Nte) (k : Int) (w : World) (HT : Hid (n.sum.length = 32)) : Calls Try.prog 9 #[n.v, .int .i64 k] w fun e w' => e = .returned (.bool true) ∧ Kept w w' := by
  unfold Nte.v
  have HB0 : Hid (Blk (w.alloc (.cells n.cells.toArray 32)) w.heap.size 32 n.cells) := Blk.new w _ _
  have kw0 : Kept w (w.alloc (.cells n.cells.toArray 32)) := (Keep.refl _ w).alloc _
  obtain ⟨j, hj, hj31⟩ : ∃ j : Nat, k % 32 = (j : Int) ∧ j ≤ 31 := ⟨(k % 32).toNat, by omega, by omega⟩
  have HJ := Lib.hid hj
  clear hj
  obtain ⟨r1, hr1⟩ : ∃ r1, r1 = bits .xor .i64 n.seq ((2 ^ j : Nat) : Int) := ⟨_, rfl⟩
  obtain ⟨r2, hr2⟩ : ∃ r2, r2 = bits .xor .i64 n.price ((2 ^ j : Nat) : Int) := ⟨_, rfl⟩
  have N1 : Hid (w32 r1 ≠ w32 n.seq) := by rw [hr1]; exact xor_bit _ j hj31
  have N2 : Hid (w32 r2 ≠ w32 n.price) := by rw [hr2]; exact xor_bit _ j hj31
  have R1 := Lib.hid hr1
  have R2 := Lib.hid hr2
  clear hr1 hr2
  have TA : Hid ((noteA n).sum.length = 32) := zeros32_len
  have TB : Hid ((noteB n).sum.length = 32) := zeros32_len
  have T0 : Hid ((Nte.z 0).sum.length = 32) := zeros32_len
  go_enter Try.func9, Try.ntmps9
  go_upto_region 1 with fail
  generalize w.alloc (.cells n.cells.toArray 32) = w0 at HB0 kw0 ⊢
  obtain ⟨g, hg⟩ : ∃ g, g = w.heap.size := ⟨_, rfl⟩
  rw [← hg] at HB0 ⊢
  clear hg
  have hs0 : Hid (w.heap.size ≤ w0.heap.size) := kw0.size
  refine wp_alloc2 [0, 1, 2, 3, 4, 5, 6, 7, 8, 9, 10, 11] 32 (Nte.z 0).cells 12 13 5 6 [(14, 1), (15, 1)] (by kernel_rfl) nte_zero (by kernel_rfl) ?_
  refine p_val (o := ⟨some 11, _, _, _, _, _⟩) (.pointer (some ⟨g, 2, none⟩)) rfl rfl (fun u hu => exec_fld 32 2 2 (.tmp 2) g rfl (by kernel_rfl) (by kernel_rfl)) ?_
  simp only [Act.put, List.setIfInBounds_toArray, List.set_cons_succ, List.set_cons_zero]
  refine p_val (o := ⟨some 12, _, _, _, _, _⟩) (.int .i64 n.seq) rfl rfl (fun u hu => exec_loadi 3 Try.underlying3 (.tmp 11) ⟨g, 2, none⟩ (.int .i64 n.seq) rfl (by kernel_rfl) ((HB0.out.kept hu).fld 2 _ rfl)) ?_
  simp only [Act.put, List.setIfInBounds_toArray, List.set_cons_succ, List.set_cons_zero]
  refine p_val (o := ⟨some 13, _, _, _, _, _⟩) (noteA n).v rfl rfl (fun u hu => exec_build 32 _ (noteA n).cells rfl (by kernel_rfl)) ?_
  simp only [Act.put, List.setIfInBounds_toArray, List.set_cons_succ, List.set_cons_zero]
  refine p_val (o := ⟨some 14, _, _, _, _, _⟩) (.pointer (some ⟨g, 3, none⟩)) rfl rfl (fun u hu => exec_fld 32 3 3 (.tmp 2) g rfl (by kernel_rfl) (by kernel_rfl)) ?_
  simp only [Act.put, List.setIfInBounds_toArray, List.set_cons_succ, List.set_cons_zero]
  refine p_val (o := ⟨some 15, _, _, _, _, _⟩) (.int .i64 n.inst) rfl rfl (fun u hu => exec_loadi 3 Try.underlying3 (.tmp 14) ⟨g, 3, none⟩ (.int .i64 n.inst) rfl (by kernel_rfl) ((HB0.out.kept hu).fld 3 _ rfl)) ?_
  simp only [Act.put, List.setIfInBounds_toArray, List.set_cons_succ, List.set_cons_zero]
  refine p_val (o := ⟨some 16, _, _, _, _, _⟩) (.pointer (some ⟨g, 5, none⟩)) rfl rfl (fun u hu => exec_fld 32 5 5 (.tmp 2) g rfl (by kernel_rfl) (by kernel_rfl)) ?_
  simp only [Act.put, List.setIfInBounds_toArray, List.set_cons_succ, List.set_cons_zero]
  refine p_val (o := ⟨some 17, _, _, _, _, _⟩) (.int .i64 n.no) rfl rfl (fun u hu => exec_loadi 3 Try.underlying3 (.tmp 16) ⟨g, 5, none⟩ (.int .i64 n.no) rfl (by kernel_rfl) ((HB0.out.kept hu).fld 5 _ rfl)) ?_
  simp only [Act.put, List.setIfInBounds_toArray, List.set_cons_succ, List.set_cons_zero]
  refine p_val (o := ⟨some 18, _, _, _, _, _⟩) (.pointer (some ⟨g, 7, none⟩)) rfl rfl (fun u hu => exec_fld 32 7 7 (.tmp 2) g rfl (by kernel_rfl) (by kernel_rfl)) ?_
  simp only [Act.put, List.setIfInBounds_toArray, List.set_cons_succ, List.set_cons_zero]
  refine p_val (o := ⟨some 19, _, _, _, _, _⟩) (.int .i64 n.price) rfl rfl (fun u hu => exec_loadi 3 Try.underlying3 (.tmp 18) ⟨g, 7, none⟩ (.int .i64 n.price) rfl (by kernel_rfl) ((HB0.out.kept hu).fld 7 _ rfl)) ?_
  simp only [Act.put, List.setIfInBounds_toArray, List.set_cons_succ, List.set_cons_zero]
  refine p_val (o := ⟨some 20, _, _, _, _, _⟩) (.pointer (some ⟨g, 8, none⟩)) rfl rfl (fun u hu => exec_fld 32 8 8 (.tmp 2) g rfl (by kernel_rfl) (by kernel_rfl)) ?_
  simp only [Act.put, List.setIfInBounds_toArray, List.set_cons_succ, List.set_cons_zero]
  refine p_val (o := ⟨some 21, _, _, _, _, _⟩) (.int .i64 n.qty) rfl rfl (fun u hu => exec_loadi 3 Try.underlying3 (.tmp 20) ⟨g, 8, none⟩ (.int .i64 n.qty) rfl (by kernel_rfl) ((HB0.out.kept hu).fld 8 _ rfl)) ?_
  simp only [Act.put, List.setIfInBounds_toArray, List.set_cons_succ, List.set_cons_zero]
  refine p_val (o := ⟨some 22, _, _, _, _, _⟩) (noteB n).v rfl rfl (fun u hu => exec_build 32 _ (noteB n).cells rfl (by kernel_rfl)) ?_
  simp only [Act.put, List.setIfInBounds_toArray, List.set_cons_succ, List.set_cons_zero]
  intro ga gb u1 nab la lb A1 B1 ku1
  simp only [List.setIfInBounds_toArray, List.set_cons_succ, List.set_cons_zero]
  refine s_setS (o := ⟨none, _, _, _, _, _⟩) 32 ga 32 (Nte.z 0).cells (noteA n).cells (.tmp 5) (.tmp 13) rfl rfl rfl (by kernel_rfl) (by kernel_rfl) A1 (by rw [Nte.cells_len _ TA.out]; exact nte_size) (by rw [Nte.cells_len _ TA.out]; rfl) (stc_one _ _) (fun w' hk => Kept.trans' ku1 hk (by omega)) ?_
  intro u2 A2 k2
  have ku2 : Kept w0 u2 := Kept.trans' ku1 k2 (by omega)
  have B2 := B1.keep k2 (by omega)
  simp only [Act.put]
  refine s_setS (o := ⟨none, _, _, _, _, _⟩) 32 gb 32 (Nte.z 0).cells (noteB n).cells (.tmp 6) (.tmp 22) rfl rfl rfl (by kernel_rfl) (by kernel_rfl) B2 (by rw [Nte.cells_len _ TB.out]; exact nte_size) (by rw [Nte.cells_len _ TB.out]; rfl) (stc_one _ _) (fun w' hk => Kept.trans' ku2 hk (by omega)) ?_
  intro w1 B3 k3
  have ku3 : Kept w0 w1 := Kept.trans' ku2 k3 (by omega)
  have A3 := A2.keep k3 (by omega)
  simp only [Act.put]
  refine s_done ?_
  have HA : Hid (Blk w1 ga 32 (noteA n).cells) := A3
  have HB : Hid (Blk w1 gb 32 (noteB n).cells) := B3
  have H1 := Lib.hid (HB0.out.kept ku3)
  have kw1 := kw0.trans ku3
  have hla : Hid (w0.heap.size ≤ ga) := la
  have hlb : Hid (w0.heap.size ≤ gb) := lb
  have hl1 : Hid (ga < w1.heap.size ∧ gb < w1.heap.size) := ⟨HA.out.lt, HB.out.lt⟩
  clear A1 A2 A3 B1 B2 B3 k2 k3 ku1 ku2 ku3 nab la lb HB0 kw0
  go_upto_region 2 with fail
  refine wp_alloc2 [0, 1] 32 (Nte.z 0).cells 2 3 7 8 [(4, 1), (5, 1)] (by kernel_rfl) nte_zero (by kernel_rfl) ?_
  refine p_val (o := ⟨some 23, _, _, _, _, _⟩) (n).v rfl rfl (fun u hu => exec_loadS 32 (.tmp 2) g 32 (n).cells _ rfl (by kernel_rfl) (H1.out.kept hu) Try.underlying32 (by rw [Nte.cells_len _ HT.out]; exact nte_size)) ?_
  simp only [Act.put, List.setIfInBounds_toArray, List.set_cons_succ, List.set_cons_zero]
  refine p_val (o := ⟨some 24, _, _, _, _, _⟩) (n).v rfl rfl (fun u hu => exec_loadS 32 (.tmp 2) g 32 (n).cells _ rfl (by kernel_rfl) (H1.out.kept hu) Try.underlying32 (by rw [Nte.cells_len _ HT.out]; exact nte_size)) ?_
  simp only [Act.put, List.setIfInBounds_toArray, List.set_cons_succ, List.set_cons_zero]
  intro gx gy u1 nab la lb A1 B1 ku1
  simp only [List.setIfInBounds_toArray, List.set_cons_succ, List.set_cons_zero]
  refine s_setS (o := ⟨none, _, _, _, _, _⟩) 32 gx 32 (Nte.z 0).cells (n).cells (.tmp 7) (.tmp 23) rfl rfl rfl (by kernel_rfl) (by kernel_rfl) A1 (by rw [Nte.cells_len _ HT.out]; exact nte_size) (by rw [Nte.cells_len _ HT.out]; rfl) (stc_one _ _) (fun w' hk => Kept.trans' ku1 hk (by omega)) ?_
  intro u2 A2 k2
  have ku2 : Kept w1 u2 := Kept.trans' ku1 k2 (by omega)
  have B2 := B1.keep k2 (by omega)
  simp only [Act.put]
  refine s_setS (o := ⟨none, _, _, _, _, _⟩) 32 gy 32 (Nte.z 0).cells (n).cells (.tmp 8) (.tmp 24) rfl rfl rfl (by kernel_rfl) (by kernel_rfl) B2 (by rw [Nte.cells_len _ HT.out]; exact nte_size) (by rw [Nte.cells_len _ HT.out]; rfl) (stc_one _ _) (fun w' hk => Kept.trans' ku2 hk (by omega)) ?_
  intro w2 B3 k3
  have ku3 : Kept w1 w2 := Kept.trans' ku2 k3 (by omega)
  have A3 := A2.keep k3 (by omega)
  simp only [Act.put]
  refine s_done ?_
  have HX : Hid (Blk w2 gx 32 (stc n.l n.sum)) := A3
  have HY : Hid (Blk w2 gy 32 (stc n.l n.sum)) := B3
  have HA2 := Lib.hid (HA.out.kept ku3)
  have HB2 := Lib.hid (HB.out.kept ku3)
  have kw2 := kw1.trans ku3
  have hlx : Hid (w1.heap.size ≤ gx) := la
  have hly : Hid (w1.heap.size ≤ gy) := lb
  have hxy : Hid (gx ≠ gy) := nab
  have hs1 : Hid (w.heap.size ≤ w1.heap.size) := kw1.size
  clear A1 A2 A3 B1 B2 B3 k2 k3 ku1 ku2 ku3 nab la lb HA HB H1 kw1
  go_upto_region 3 with fail
  refine wp_region_lit ?_
  refine l_val (o := ⟨some 25, _, _, _, _, _⟩) (.pointer (some ⟨gx, 0, none⟩)) rfl (exec_fld 32 0 0 (.tmp 7) (gx) rfl (by kernel_rfl) (by kernel_rfl)) ?_
  simp only [Act.put, List.setIfInBounds_toArray, List.set_cons_succ, List.set_cons_zero]
  refine l_setf (o := ⟨none, _, _, _, _, _⟩) gx 0 32 n.l n.sum 3 (.tmp 25) (.const (.int .i64 3)) rfl rfl (by kernel_rfl) rfl HX.out (by simp [Nte.l]) ?_
  intro w3 X3 k3 z3
  have Y3 := HY.out.keep k3 (by have := hxy.out; omega)
  have HA3 := Lib.hid (HA2.out.keep k3 (by have := hl1.out; have := hlx.out; omega))
  have HB3 := Lib.hid (HB2.out.keep k3 (by have := hl1.out; have := hlx.out; omega))
  have kw3 : Kept w w3 := Kept.trans' kw2 k3 (by have := hs1.out; have := hlx.out; omega)
  simp only [Act.put]
  refine l_val (o := ⟨some 26, _, _, _, _, _⟩) (.pointer (some ⟨gy, 0, none⟩)) rfl (exec_fld 32 0 0 (.tmp 8) (gy) rfl (by kernel_rfl) (by kernel_rfl)) ?_
  simp only [Act.put, List.setIfInBounds_toArray, List.set_cons_succ, List.set_cons_zero]
  refine l_setf (o := ⟨none, _, _, _, _, _⟩) gy 0 32 n.l n.sum 7 (.tmp 26) (.const (.int .i64 7)) rfl rfl (by kernel_rfl) rfl Y3 (by simp [Nte.l]) ?_
  intro w4 Y4 k4 z4
  have X4 := X3.keep k4 (by have := hxy.out; omega)
  have HA4 := Lib.hid (HA3.out.keep k4 (by have := hl1.out; have := hly.out; omega))
  have HB4 := Lib.hid (HB3.out.keep k4 (by have := hl1.out; have := hly.out; omega))
  have kw4 : Kept w w4 := Kept.trans' kw3 k4 (by have := hs1.out; have := hly.out; omega)
  simp only [Act.put]
  refine wpList_nil ?_
  obtain ⟨nx, hnx⟩ : ∃ nx : Nte, nx = { n with k := 3 } := ⟨_, rfl⟩
  obtain ⟨ny, hny⟩ : ∃ ny : Nte, ny = { n with k := 7 } := ⟨_, rfl⟩
  have HX4 : Hid (Blk w4 gx 32 nx.cells) := by rw [hnx]; exact X4
  have HY4 : Hid (Blk w4 gy 32 ny.cells) := by rw [hny]; exact Y4
  have TX : Hid (nx.sum.length = 32) := by rw [hnx]; exact HT.out
  have TY : Hid (ny.sum.length = 32) := by rw [hny]; exact HT.out
  have EX : Hid (nx.enc = (noteA n).enc) := by rw [hnx]; exact noteX_enc n
  have EY : Hid (ny.enc = (noteB n).enc) := by rw [hny]; exact noteY_enc n
  obtain ⟨na, hna⟩ : ∃ na : Nte, na = noteA n := ⟨_, rfl⟩
  obtain ⟨nb, hnb⟩ : ∃ nb : Nte, nb = noteB n := ⟨_, rfl⟩
  have EC : Hid (na.enc ≠ Nte.enc { na with seq := r1 }) := by rw [hna]; exact noteC_enc n r1 N1.out
  have ED : Hid (nb.enc ≠ Nte.enc { nb with price := r2 }) := by rw [hnb]; exact noteD_enc n r2 N2.out
  have SA : Hid (na.seq = n.seq) := by rw [hna]; rfl
  have SB : Hid (nb.price = n.price) := by rw [hnb]; rfl
  rw [← hna] at HA4 TA EX
  rw [← hnb] at HB4 TB EY
  clear hnx hny hna hnb X3 X4 Y3 Y4 k3 k4 z3 z4 HA2 HB2 HA3 HB3 HX HY kw2 kw3
  go_upto_region 4 with fail
  refine wp_free 13 [.eq (na.v), .bytes na.enc, .eq (nx.v), .bytes na.enc, .eq (.bool true), .eq (.bool false), .eq (.bool false), .eq (nb.v), .bytes nb.enc, .eq (ny.v), .bytes nb.enc, .eq (.bool true), .eq (.bool false)] (by kernel_rfl) rfl (by kernel_rfl) ?_ ?_
  · refine fsteps_cons 1 rfl (fun a u hE hD hk => f_val (o := ⟨some 27, _, _, _, _, _⟩) (na.v) rfl (wanted_none rfl _) (exec_loadS 32 (.tmp 5) (ga) _ na.cells _ rfl (hE 5 (.pointer (some ⟨ga, 0, none⟩)) (by kernel_rfl) (by kernel_rfl)) (HA4.out.kept hk) Try.underlying32 (by rw [Nte.cells_len _ TA.out]; exact nte_size)) rfl) ?_
    refine fsteps_cons 2 rfl (fun a u hE hD hk => f_call (o := ⟨some 28, _, _, _, _, _⟩) 12 #[na.v] rfl (wanted_none rfl _) (exec_call 12 _ [.tmp 27] _ [na.v] Try.func12 (by kernel_rfl) (by kernel_rfl) rfl (show [a.eval (.tmp 27)] = [na.v] from (by rw [show a.eval (.tmp 27) = na.v from (hD 0 27 (by kernel_rfl))] <;> rfl)) u) (note_bytes na _ u TA rfl)) ?_
    refine fsteps_cons 3 rfl (fun a u hE hD hk => f_val (o := ⟨some 29, _, _, _, _, _⟩) (nx.v) rfl (wanted_none rfl _) (exec_loadS 32 (.tmp 7) (gx) _ nx.cells _ rfl (hE 7 (.pointer (some ⟨gx, 0, none⟩)) (by kernel_rfl) (by kernel_rfl)) (HX4.out.kept hk) Try.underlying32 (by rw [Nte.cells_len _ TX.out]; exact nte_size)) rfl) ?_
    refine fsteps_cons 4 rfl (fun a u hE hD hk => f_call (o := ⟨some 30, _, _, _, _, _⟩) 12 #[nx.v] rfl (wanted_none rfl _) (exec_call 12 _ [.tmp 29] _ [nx.v] Try.func12 (by kernel_rfl) (by kernel_rfl) rfl (show [a.eval (.tmp 29)] = [nx.v] from (by rw [show a.eval (.tmp 29) = nx.v from (hD 2 29 (by kernel_rfl))] <;> rfl)) u) (note_bytes nx _ u TX EX.out)) ?_
    refine fsteps_cons 5 rfl (fun a u hE hD hk => f_call (o := ⟨some 31, _, _, _, _, _⟩) 10 #[a.eval (.tmp 28), a.eval (.tmp 30)] rfl (wanted_none rfl _) (exec_call 10 _ [.tmp 28, .tmp 30] _ [a.eval (.tmp 28), a.eval (.tmp 30)] Try.func10 (by kernel_rfl) (by kernel_rfl) rfl rfl u) (same_v _ _ _ _ true u (hD 1 28 (by kernel_rfl)) (hD 3 30 (by kernel_rfl)) (by simp))) ?_
    refine fsteps_cons 6 rfl (fun a u hE hD hk => f_val (o := ⟨some 32, _, _, _, _, _⟩) (.bool false) rfl (wanted_none rfl _) (exec_not _ (.tmp 31) true rfl (hD 4 31 (by kernel_rfl))) rfl) ?_
    refine fsteps_cons 7 rfl (fun a u hE hD hk => f_val (o := ⟨some 33, _, _, _, _, _⟩) (.bool false) rfl (wanted_none rfl _) (exec_move (.tmp 32) (.bool false) rfl (hD 5 32 (by kernel_rfl))) rfl) ?_
    refine fsteps_cons 8 rfl (fun a u hE hD hk => f_val (o := ⟨some 34, _, _, _, _, _⟩) (nb.v) rfl (wanted_at (b := false) false rfl rfl (hD 6 33 (by kernel_rfl))) (exec_loadS 32 (.tmp 6) (gb) _ nb.cells _ rfl (hE 6 (.pointer (some ⟨gb, 0, none⟩)) (by kernel_rfl) (by kernel_rfl)) (HB4.out.kept hk) Try.underlying32 (by rw [Nte.cells_len _ TB.out]; exact nte_size)) rfl) ?_
    refine fsteps_cons 9 rfl (fun a u hE hD hk => f_call (o := ⟨some 35, _, _, _, _, _⟩) 12 #[nb.v] rfl (wanted_at (b := false) false rfl rfl (hD 6 33 (by kernel_rfl))) (exec_call 12 _ [.tmp 34] _ [nb.v] Try.func12 (by kernel_rfl) (by kernel_rfl) rfl (show [a.eval (.tmp 34)] = [nb.v] from (by rw [show a.eval (.tmp 34) = nb.v from (hD 7 34 (by kernel_rfl))] <;> rfl)) u) (note_bytes nb _ u TB rfl)) ?_
    refine fsteps_cons 10 rfl (fun a u hE hD hk => f_val (o := ⟨some 36, _, _, _, _, _⟩) (ny.v) rfl (wanted_at (b := false) false rfl rfl (hD 6 33 (by kernel_rfl))) (exec_loadS 32 (.tmp 8) (gy) _ ny.cells _ rfl (hE 8 (.pointer (some ⟨gy, 0, none⟩)) (by kernel_rfl) (by kernel_rfl)) (HY4.out.kept hk) Try.underlying32 (by rw [Nte.cells_len _ TY.out]; exact nte_size)) rfl) ?_
    refine fsteps_cons 11 rfl (fun a u hE hD hk => f_call (o := ⟨some 37, _, _, _, _, _⟩) 12 #[ny.v] rfl (wanted_at (b := false) false rfl rfl (hD 6 33 (by kernel_rfl))) (exec_call 12 _ [.tmp 36] _ [ny.v] Try.func12 (by kernel_rfl) (by kernel_rfl) rfl (show [a.eval (.tmp 36)] = [ny.v] from (by rw [show a.eval (.tmp 36) = ny.v from (hD 9 36 (by kernel_rfl))] <;> rfl)) u) (note_bytes ny _ u TY EY.out)) ?_
    refine fsteps_cons 12 rfl (fun a u hE hD hk => f_call (o := ⟨some 38, _, _, _, _, _⟩) 10 #[a.eval (.tmp 35), a.eval (.tmp 37)] rfl (wanted_at (b := false) false rfl rfl (hD 6 33 (by kernel_rfl))) (exec_call 10 _ [.tmp 35, .tmp 37] _ [a.eval (.tmp 35), a.eval (.tmp 37)] Try.func10 (by kernel_rfl) (by kernel_rfl) rfl rfl u) (same_v _ _ _ _ true u (hD 8 35 (by kernel_rfl)) (hD 10 37 (by kernel_rfl)) (by simp))) ?_
    refine fsteps_cons 13 rfl (fun a u hE hD hk => f_val (o := ⟨some 39, _, _, _, _, _⟩) (.bool false) rfl (wanted_at (b := false) false rfl rfl (hD 6 33 (by kernel_rfl))) (exec_not _ (.tmp 38) true rfl (hD 11 38 (by kernel_rfl))) rfl) ?_
    exact fsteps_nil
  intro gv w5 hV k5
  rw [show dstsOf _ 13 = [27, 28, 29, 30, 31, 32, 33, 34, 35, 36, 37, 38, 39] by kernel_rfl]
  simp only [List.foldl_cons, List.foldl_nil, List.setIfInBounds_toArray, List.set_cons_succ, List.set_cons_zero, List.drop_succ_cons, List.drop_zero]
  rw [show gv 33 = .bool false from hV 6 33 (by kernel_rfl)]
  rw [show gv 39 = .bool false from hV 12 39 (by kernel_rfl)]
  clear hV
  have HA5 := Lib.hid (HA4.out.kept k5)
  have HB5 := Lib.hid (HB4.out.kept k5)
  have kw5 := kw4.trans k5
  have hl5 : Hid (w.heap.size ≤ w5.heap.size) := kw5.size
  have hab5 : Hid (ga < w5.heap.size ∧ gb < w5.heap.size) := ⟨HA5.out.lt, HB5.out.lt⟩
  clear k5 HA4 HB4 HX4 HY4 kw4
  go_upto_region 6 with fail
  refine wp_alloc2 [0, 1] 32 (Nte.z 0).cells 2 3 9 10 [(4, 1), (5, 1)] (by kernel_rfl) nte_zero (by kernel_rfl) ?_
  refine p_val (o := ⟨some 41, _, _, _, _, _⟩) (na).v rfl rfl (fun u hu => exec_loadS 32 (.tmp 5) ga 32 (na).cells _ rfl (by kernel_rfl) (HA5.out.kept hu) Try.underlying32 (by rw [Nte.cells_len _ TA.out]; exact nte_size)) ?_
  simp only [Act.put, List.setIfInBounds_toArray, List.set_cons_succ, List.set_cons_zero]
  refine p_val (o := ⟨some 42, _, _, _, _, _⟩) (nb).v rfl rfl (fun u hu => exec_loadS 32 (.tmp 6) gb 32 (nb).cells _ rfl (by kernel_rfl) (HB5.out.kept hu) Try.underlying32 (by rw [Nte.cells_len _ TB.out]; exact nte_size)) ?_
  simp only [Act.put, List.setIfInBounds_toArray, List.set_cons_succ, List.set_cons_zero]
  intro gc gd u1 nab la lb A1 B1 ku1
  simp only [List.setIfInBounds_toArray, List.set_cons_succ, List.set_cons_zero]
  refine s_setS (o := ⟨none, _, _, _, _, _⟩) 32 gc 32 (Nte.z 0).cells (na).cells (.tmp 9) (.tmp 41) rfl rfl rfl (by kernel_rfl) (by kernel_rfl) A1 (by rw [Nte.cells_len _ TA.out]; exact nte_size) (by rw [Nte.cells_len _ TA.out]; rfl) (stc_one _ _) (fun w' hk => Kept.trans' ku1 hk (by omega)) ?_
  intro u2 A2 k2
  have ku2 : Kept w5 u2 := Kept.trans' ku1 k2 (by omega)
  have B2 := B1.keep k2 (by omega)
  simp only [Act.put]
  refine s_setS (o := ⟨none, _, _, _, _, _⟩) 32 gd 32 (Nte.z 0).cells (nb).cells (.tmp 10) (.tmp 42) rfl rfl rfl (by kernel_rfl) (by kernel_rfl) B2 (by rw [Nte.cells_len _ TB.out]; exact nte_size) (by rw [Nte.cells_len _ TB.out]; rfl) (stc_one _ _) (fun w' hk => Kept.trans' ku2 hk (by omega)) ?_
  intro w6 B3 k3
  have ku3 : Kept w5 w6 := Kept.trans' ku2 k3 (by omega)
  have A3 := A2.keep k3 (by omega)
  simp only [Act.put]
  refine s_done ?_
  have HC6 : Hid (Blk w6 gc 32 na.cells) := A3
  have HD6 : Hid (Blk w6 gd 32 nb.cells) := B3
  have HA6 := Lib.hid (HA5.out.kept ku3)
  have HB6 := Lib.hid (HB5.out.kept ku3)
  have kw6 := kw5.trans ku3
  have hlc : Hid (w5.heap.size ≤ gc) := la
  have hld : Hid (w5.heap.size ≤ gd) := lb
  have hcd : Hid (gc ≠ gd) := nab
  clear A1 A2 A3 B1 B2 B3 k2 k3 ku1 ku2 ku3 nab la lb HA5 HB5 kw5
  go_upto_region 7 with fail
  refine wp_free 6 [.eq (.pointer (some ⟨gc, 2, none⟩)), .eq (.int .i64 na.seq), .eq (.int .i64 k), .eq (.int .i64 (j : Int)), .eq (.int .i64 ((2 ^ j : Nat) : Int)), .eq (.int .i64 r1)] (by kernel_rfl) rfl (by kernel_rfl) ?_ ?_
  · refine fsteps_cons 1 rfl (fun a u hE hD hk => f_val (o := ⟨some 43, _, _, _, _, _⟩) (.pointer (some ⟨gc, 2, none⟩)) rfl (wanted_none rfl _) (exec_fld 32 2 2 (.tmp 9) (gc) rfl (hE 9 (.pointer (some ⟨gc, 0, none⟩)) (by kernel_rfl) (by kernel_rfl)) (by kernel_rfl)) rfl) ?_
    refine fsteps_cons 2 rfl (fun a u hE hD hk => f_val (o := ⟨some 44, _, _, _, _, _⟩) (.int .i64 na.seq) rfl (wanted_none rfl _) (exec_loadi 3 Try.underlying3 (.tmp 43) ⟨gc, 2, none⟩ (.int .i64 na.seq) rfl (hD 0 43 (by kernel_rfl)) ((HC6.out.kept hk).fld 2 _ rfl)) rfl) ?_
    refine fsteps_cons 3 rfl (fun a u hE hD hk => f_val (o := ⟨some 45, _, _, _, _, _⟩) (.int .i64 k) rfl (wanted_none rfl _) (exec_move (.tmp 1) (.int .i64 k) rfl (hE 1 (.int .i64 k) (by kernel_rfl) (by kernel_rfl))) rfl) ?_
    refine fsteps_cons 4 rfl (fun a u hE hD hk => f_call (o := ⟨some 46, _, _, _, _, _⟩) 21 #[.int .i64 k, .int .i64 0, .int .i64 31] rfl (wanted_none rfl _) (exec_call 21 _ [.tmp 45, .const (.int .i64 0), .const (.int .i64 31)] _ [.int .i64 k, .int .i64 0, .int .i64 31] Try.func21 (by kernel_rfl) (by kernel_rfl) rfl (show [a.eval (.tmp 45), a.eval (.const (.int .i64 0)), a.eval (.const (.int .i64 31))] = [.int .i64 k, .int .i64 0, .int .i64 31] from (by rw [show a.eval (.tmp 45) = .int .i64 k from (hD 2 45 (by kernel_rfl))] <;> rfl)) u) (within_is k j u HJ.out)) ?_
    refine fsteps_cons 5 rfl (fun a u hE hD hk => f_val (o := ⟨some 47, _, _, _, _, _⟩) (.int .i64 ((2 ^ j : Nat) : Int)) rfl (wanted_none rfl _) (exec_shl1 (.tmp 46) _ j rfl (hD 3 46 (by kernel_rfl)) hj31) rfl) ?_
    refine fsteps_cons 6 rfl (fun a u hE hD hk => f_val (o := ⟨some 48, _, _, _, _, _⟩) (.int .i64 r1) rfl (wanted_none rfl _) (exec_xori (.tmp 44) (.tmp 47) _ na.seq _ r1 rfl (hD 1 44 (by kernel_rfl)) (hD 4 47 (by kernel_rfl)) (by rw [SA.out]; exact R1.out)) rfl) ?_
    exact fsteps_nil
  intro gv w7 hV k7
  rw [show dstsOf _ 6 = [43, 44, 45, 46, 47, 48] by kernel_rfl]
  simp only [List.foldl_cons, List.foldl_nil, List.setIfInBounds_toArray, List.set_cons_succ, List.set_cons_zero, List.drop_succ_cons, List.drop_zero]
  rw [show gv 48 = .int .i64 r1 from hV 5 48 (by kernel_rfl)]
  clear hV
  refine l_val (o := ⟨some 49, _, _, _, _, _⟩) (.pointer (some ⟨gc, 2, none⟩)) rfl (exec_fld 32 2 2 (.tmp 9) gc rfl (by kernel_rfl) (by kernel_rfl)) ?_
  simp only [Act.put, List.setIfInBounds_toArray, List.set_cons_succ, List.set_cons_zero]
  refine l_setf (o := ⟨none, _, _, _, _, _⟩) gc 2 32 na.l na.sum r1 (.tmp 49) (.tmp 48) rfl rfl (by kernel_rfl) (by kernel_rfl) (HC6.out.kept k7) (by simp [Nte.l]) ?_
  intro w8 C8 k8 z8
  simp only [Act.put]
  refine wpList_nil ?_
  have HC8 : Hid (Blk w8 gc 32 (Nte.cells { na with seq := r1 })) := C8
  have HD8 := Lib.hid ((HD6.out.kept k7).keep k8 (by have := hcd.out; omega))
  have HA8 := Lib.hid ((HA6.out.kept k7).keep k8 (by have := hab5.out; have := hlc.out; omega))
  have HB8 := Lib.hid ((HB6.out.kept k7).keep k8 (by have := hab5.out; have := hlc.out; omega))
  have kw8 : Kept w w8 := Kept.trans' (kw6.trans k7) k8 (by have := hl5.out; have := hlc.out; omega)
  clear C8 k8 z8 k7 HC6 HD6 HA6 HB6 kw6
  go_upto_region 8 with fail
  refine wp_free 6 [.eq (.pointer (some ⟨gd, 7, none⟩)), .eq (.int .i64 nb.price), .eq (.int .i64 k), .eq (.int .i64 (j : Int)), .eq (.int .i64 ((2 ^ j : Nat) : Int)), .eq (.int .i64 r2)] (by kernel_rfl) rfl (by kernel_rfl) ?_ ?_
  · refine fsteps_cons 1 rfl (fun a u hE hD hk => f_val (o := ⟨some 50, _, _, _, _, _⟩) (.pointer (some ⟨gd, 7, none⟩)) rfl (wanted_none rfl _) (exec_fld 32 7 7 (.tmp 10) (gd) rfl (hE 10 (.pointer (some ⟨gd, 0, none⟩)) (by kernel_rfl) (by kernel_rfl)) (by kernel_rfl)) rfl) ?_
    refine fsteps_cons 2 rfl (fun a u hE hD hk => f_val (o := ⟨some 51, _, _, _, _, _⟩) (.int .i64 nb.price) rfl (wanted_none rfl _) (exec_loadi 3 Try.underlying3 (.tmp 50) ⟨gd, 7, none⟩ (.int .i64 nb.price) rfl (hD 0 50 (by kernel_rfl)) ((HD8.out.kept hk).fld 7 _ rfl)) rfl) ?_
    refine fsteps_cons 3 rfl (fun a u hE hD hk => f_val (o := ⟨some 52, _, _, _, _, _⟩) (.int .i64 k) rfl (wanted_none rfl _) (exec_move (.tmp 1) (.int .i64 k) rfl (hE 1 (.int .i64 k) (by kernel_rfl) (by kernel_rfl))) rfl) ?_
    refine fsteps_cons 4 rfl (fun a u hE hD hk => f_call (o := ⟨some 53, _, _, _, _, _⟩) 21 #[.int .i64 k, .int .i64 0, .int .i64 31] rfl (wanted_none rfl _) (exec_call 21 _ [.tmp 52, .const (.int .i64 0), .const (.int .i64 31)] _ [.int .i64 k, .int .i64 0, .int .i64 31] Try.func21 (by kernel_rfl) (by kernel_rfl) rfl (show [a.eval (.tmp 52), a.eval (.const (.int .i64 0)), a.eval (.const (.int .i64 31))] = [.int .i64 k, .int .i64 0, .int .i64 31] from (by rw [show a.eval (.tmp 52) = .int .i64 k from (hD 2 52 (by kernel_rfl))] <;> rfl)) u) (within_is k j u HJ.out)) ?_
    refine fsteps_cons 5 rfl (fun a u hE hD hk => f_val (o := ⟨some 54, _, _, _, _, _⟩) (.int .i64 ((2 ^ j : Nat) : Int)) rfl (wanted_none rfl _) (exec_shl1 (.tmp 53) _ j rfl (hD 3 53 (by kernel_rfl)) hj31) rfl) ?_
    refine fsteps_cons 6 rfl (fun a u hE hD hk => f_val (o := ⟨some 55, _, _, _, _, _⟩) (.int .i64 r2) rfl (wanted_none rfl _) (exec_xori (.tmp 51) (.tmp 54) _ nb.price _ r2 rfl (hD 1 51 (by kernel_rfl)) (hD 4 54 (by kernel_rfl)) (by rw [SB.out]; exact R2.out)) rfl) ?_
    exact fsteps_nil
  intro gv w9 hV k7
  rw [show dstsOf _ 6 = [50, 51, 52, 53, 54, 55] by kernel_rfl]
  simp only [List.foldl_cons, List.foldl_nil, List.setIfInBounds_toArray, List.set_cons_succ, List.set_cons_zero, List.drop_succ_cons, List.drop_zero]
  rw [show gv 55 = .int .i64 r2 from hV 5 55 (by kernel_rfl)]
  clear hV
  refine l_val (o := ⟨some 56, _, _, _, _, _⟩) (.pointer (some ⟨gd, 7, none⟩)) rfl (exec_fld 32 7 7 (.tmp 10) gd rfl (by kernel_rfl) (by kernel_rfl)) ?_
  simp only [Act.put, List.setIfInBounds_toArray, List.set_cons_succ, List.set_cons_zero]
  refine l_setf (o := ⟨none, _, _, _, _, _⟩) gd 7 32 nb.l nb.sum r2 (.tmp 56) (.tmp 55) rfl rfl (by kernel_rfl) (by kernel_rfl) (HD8.out.kept k7) (by simp [Nte.l]) ?_
  intro w10 D10 k10 z10
  simp only [Act.put]
  refine wpList_nil ?_
  have HD10_ : Hid (Blk w10 gd 32 (Nte.cells { nb with price := r2 })) := D10
  have HC10_ := Lib.hid ((HC8.out.kept k7).keep k10 (by have := hcd.out; omega))
  have HA10 := Lib.hid ((HA8.out.kept k7).keep k10 (by have := hab5.out; have := hld.out; omega))
  have HB10 := Lib.hid ((HB8.out.kept k7).keep k10 (by have := hab5.out; have := hld.out; omega))
  have kw10 : Kept w w10 := Kept.trans' (kw8.trans k7) k10 (by have := hl5.out; have := hld.out; omega)
  obtain ⟨nc, hnc⟩ : ∃ nc : Nte, nc = { na with seq := r1 } := ⟨_, rfl⟩
  obtain ⟨nd, hnd⟩ : ∃ nd : Nte, nd = { nb with price := r2 } := ⟨_, rfl⟩
  have HC10 : Hid (Blk w10 gc 32 nc.cells) := by rw [hnc]; exact HC10_.out
  have HD10 : Hid (Blk w10 gd 32 nd.cells) := by rw [hnd]; exact HD10_.out
  have TC : Hid (nc.sum.length = 32) := by rw [hnc]; exact TA.out
  have TD : Hid (nd.sum.length = 32) := by rw [hnd]; exact TB.out
  have FC : Hid (decide (na.enc = nc.enc) = false) := by rw [hnc]; exact decide_eq_false EC.out
  have FD : Hid (decide (nb.enc = nd.enc) = false) := by rw [hnd]; exact decide_eq_false ED.out
  clear D10 k10 z10 k7 HC8 HD8 HA8 HB8 kw8 HC10_ HD10_ hnc hnd
  go_upto_region 9 with fail
  refine wp_free 23 [.eq (na.v), .bytes na.enc, .eq (nc.v), .bytes nc.enc, .eq (.bool false), .eq (.bool true), .eq (.bool true), .eq (nb.v), .bytes nb.enc, .eq (nd.v), .bytes nd.enc, .eq (.bool false), .eq (.bool true), .eq (.bool true), .eq (.bool true), .eq ((Nte.z 0).v), .bytes [], .eq (.int .i64 ((0 : Nat) : Int)), .eq (.bool true), .eq (.bool true), .eq (.bool true), .eq (.bool true), .eq (.bool true)] (by kernel_rfl) rfl (by kernel_rfl) ?_ ?_
  · refine fsteps_cons 1 rfl (fun a u hE hD hk => f_val (o := ⟨some 57, _, _, _, _, _⟩) (na.v) rfl (wanted_none rfl _) (exec_loadS 32 (.tmp 5) (ga) _ na.cells _ rfl (hE 5 (.pointer (some ⟨ga, 0, none⟩)) (by kernel_rfl) (by kernel_rfl)) (HA10.out.kept hk) Try.underlying32 (by rw [Nte.cells_len _ TA.out]; exact nte_size)) rfl) ?_
    refine fsteps_cons 2 rfl (fun a u hE hD hk => f_call (o := ⟨some 58, _, _, _, _, _⟩) 12 #[na.v] rfl (wanted_none rfl _) (exec_call 12 _ [.tmp 57] _ [na.v] Try.func12 (by kernel_rfl) (by kernel_rfl) rfl (show [a.eval (.tmp 57)] = [na.v] from (by rw [show a.eval (.tmp 57) = na.v from (hD 0 57 (by kernel_rfl))] <;> rfl)) u) (note_bytes na _ u TA rfl)) ?_
    refine fsteps_cons 3 rfl (fun a u hE hD hk => f_val (o := ⟨some 59, _, _, _, _, _⟩) (nc.v) rfl (wanted_none rfl _) (exec_loadS 32 (.tmp 9) (gc) _ nc.cells _ rfl (hE 9 (.pointer (some ⟨gc, 0, none⟩)) (by kernel_rfl) (by kernel_rfl)) (HC10.out.kept hk) Try.underlying32 (by rw [Nte.cells_len _ TC.out]; exact nte_size)) rfl) ?_
    refine fsteps_cons 4 rfl (fun a u hE hD hk => f_call (o := ⟨some 60, _, _, _, _, _⟩) 12 #[nc.v] rfl (wanted_none rfl _) (exec_call 12 _ [.tmp 59] _ [nc.v] Try.func12 (by kernel_rfl) (by kernel_rfl) rfl (show [a.eval (.tmp 59)] = [nc.v] from (by rw [show a.eval (.tmp 59) = nc.v from (hD 2 59 (by kernel_rfl))] <;> rfl)) u) (note_bytes nc _ u TC rfl)) ?_
    refine fsteps_cons 5 rfl (fun a u hE hD hk => f_call (o := ⟨some 61, _, _, _, _, _⟩) 10 #[a.eval (.tmp 58), a.eval (.tmp 60)] rfl (wanted_none rfl _) (exec_call 10 _ [.tmp 58, .tmp 60] _ [a.eval (.tmp 58), a.eval (.tmp 60)] Try.func10 (by kernel_rfl) (by kernel_rfl) rfl rfl u) (same_v _ _ _ _ false u (hD 1 58 (by kernel_rfl)) (hD 3 60 (by kernel_rfl)) FC.out)) ?_
    refine fsteps_cons 6 rfl (fun a u hE hD hk => f_val (o := ⟨some 62, _, _, _, _, _⟩) (.bool true) rfl (wanted_none rfl _) (exec_not _ (.tmp 61) false rfl (hD 4 61 (by kernel_rfl))) rfl) ?_
    refine fsteps_cons 7 rfl (fun a u hE hD hk => f_val (o := ⟨some 63, _, _, _, _, _⟩) (.bool true) rfl (wanted_none rfl _) (exec_move (.tmp 62) (.bool true) rfl (hD 5 62 (by kernel_rfl))) rfl) ?_
    refine fsteps_cons 8 rfl (fun a u hE hD hk => f_val (o := ⟨some 64, _, _, _, _, _⟩) (nb.v) rfl (wanted_at (b := true) true rfl rfl (hD 6 63 (by kernel_rfl))) (exec_loadS 32 (.tmp 6) (gb) _ nb.cells _ rfl (hE 6 (.pointer (some ⟨gb, 0, none⟩)) (by kernel_rfl) (by kernel_rfl)) (HB10.out.kept hk) Try.underlying32 (by rw [Nte.cells_len _ TB.out]; exact nte_size)) rfl) ?_
    refine fsteps_cons 9 rfl (fun a u hE hD hk => f_call (o := ⟨some 65, _, _, _, _, _⟩) 12 #[nb.v] rfl (wanted_at (b := true) true rfl rfl (hD 6 63 (by kernel_rfl))) (exec_call 12 _ [.tmp 64] _ [nb.v] Try.func12 (by kernel_rfl) (by kernel_rfl) rfl (show [a.eval (.tmp 64)] = [nb.v] from (by rw [show a.eval (.tmp 64) = nb.v from (hD 7 64 (by kernel_rfl))] <;> rfl)) u) (note_bytes nb _ u TB rfl)) ?_
    refine fsteps_cons 10 rfl (fun a u hE hD hk => f_val (o := ⟨some 66, _, _, _, _, _⟩) (nd.v) rfl (wanted_at (b := true) true rfl rfl (hD 6 63 (by kernel_rfl))) (exec_loadS 32 (.tmp 10) (gd) _ nd.cells _ rfl (hE 10 (.pointer (some ⟨gd, 0, none⟩)) (by kernel_rfl) (by kernel_rfl)) (HD10.out.kept hk) Try.underlying32 (by rw [Nte.cells_len _ TD.out]; exact nte_size)) rfl) ?_
    refine fsteps_cons 11 rfl (fun a u hE hD hk => f_call (o := ⟨some 67, _, _, _, _, _⟩) 12 #[nd.v] rfl (wanted_at (b := true) true rfl rfl (hD 6 63 (by kernel_rfl))) (exec_call 12 _ [.tmp 66] _ [nd.v] Try.func12 (by kernel_rfl) (by kernel_rfl) rfl (show [a.eval (.tmp 66)] = [nd.v] from (by rw [show a.eval (.tmp 66) = nd.v from (hD 9 66 (by kernel_rfl))] <;> rfl)) u) (note_bytes nd _ u TD rfl)) ?_
    refine fsteps_cons 12 rfl (fun a u hE hD hk => f_call (o := ⟨some 68, _, _, _, _, _⟩) 10 #[a.eval (.tmp 65), a.eval (.tmp 67)] rfl (wanted_at (b := true) true rfl rfl (hD 6 63 (by kernel_rfl))) (exec_call 10 _ [.tmp 65, .tmp 67] _ [a.eval (.tmp 65), a.eval (.tmp 67)] Try.func10 (by kernel_rfl) (by kernel_rfl) rfl rfl u) (same_v _ _ _ _ false u (hD 8 65 (by kernel_rfl)) (hD 10 67 (by kernel_rfl)) FD.out)) ?_
    refine fsteps_cons 13 rfl (fun a u hE hD hk => f_val (o := ⟨some 69, _, _, _, _, _⟩) (.bool true) rfl (wanted_at (b := true) true rfl rfl (hD 6 63 (by kernel_rfl))) (exec_not _ (.tmp 68) false rfl (hD 11 68 (by kernel_rfl))) rfl) ?_
    refine fsteps_cons 14 rfl (fun a u hE hD hk => f_val (o := ⟨some 70, _, _, _, _, _⟩) (.bool true) rfl (wanted_none rfl _) (exec_pick (.tmp 63) (.tmp 69) (.const (.bool false)) (.bool true) rfl (hD 6 63 (by kernel_rfl)) (hD 12 69 (by kernel_rfl))) rfl) ?_
    refine fsteps_cons 15 rfl (fun a u hE hD hk => f_val (o := ⟨some 71, _, _, _, _, _⟩) (.bool true) rfl (wanted_none rfl _) (exec_move (.tmp 70) (.bool true) rfl (hD 13 70 (by kernel_rfl))) rfl) ?_
    refine fsteps_cons 16 rfl (fun a u hE hD hk => f_val (o := ⟨some 72, _, _, _, _, _⟩) ((Nte.z 0).v) rfl (wanted_at (b := true) true rfl rfl (hD 14 71 (by kernel_rfl))) (exec_build 32 [] (Nte.z 0).cells rfl (by kernel_rfl)) rfl) ?_
    refine fsteps_cons 17 rfl (fun a u hE hD hk => f_call (o := ⟨some 73, _, _, _, _, _⟩) 12 #[(Nte.z 0).v] rfl (wanted_at (b := true) true rfl rfl (hD 14 71 (by kernel_rfl))) (exec_call 12 _ [.tmp 72] _ [(Nte.z 0).v] Try.func12 (by kernel_rfl) (by kernel_rfl) rfl (show [a.eval (.tmp 72)] = [(Nte.z 0).v] from (by rw [show a.eval (.tmp 72) = (Nte.z 0).v from (hD 15 72 (by kernel_rfl))] <;> rfl)) u) (note_bytes (Nte.z 0) _ u T0 (by decide +kernel))) ?_
    refine fsteps_cons 18 rfl (fun a u hE hD hk => f_val (o := ⟨some 74, _, _, _, _, _⟩) (.int .i64 ((0 : Nat) : Int)) rfl (wanted_at (b := true) true rfl rfl (hD 14 71 (by kernel_rfl))) (exec_lenB (.tmp 73) [] 0 rfl (hD 16 73 (by kernel_rfl)) rfl) rfl) ?_
    refine fsteps_cons 19 rfl (fun a u hE hD hk => f_val (o := ⟨some 75, _, _, _, _, _⟩) (.bool true) rfl (wanted_at (b := true) true rfl rfl (hD 14 71 (by kernel_rfl))) (exec_cmpi .eql (.tmp 74) (.const (.int .i64 0)) _ ((0 : Nat) : Int) 0 true rfl (hD 17 74 (by kernel_rfl)) rfl (.inr (.inr (.inr (.inr (.inl ⟨rfl, by simp⟩)))))) rfl) ?_
    refine fsteps_cons 20 rfl (fun a u hE hD hk => f_val (o := ⟨some 76, _, _, _, _, _⟩) (.bool true) rfl (wanted_none rfl _) (exec_pick (.tmp 71) (.tmp 75) (.const (.bool false)) (.bool true) rfl (hD 14 71 (by kernel_rfl)) (hD 18 75 (by kernel_rfl))) rfl) ?_
    refine fsteps_cons 21 rfl (fun a u hE hD hk => f_val (o := ⟨some 77, _, _, _, _, _⟩) (.bool true) rfl (wanted_none rfl _) (exec_move (.tmp 76) (.bool true) rfl (hD 19 76 (by kernel_rfl))) rfl) ?_
    refine fsteps_cons 22 rfl (fun a u hE hD hk => f_call (o := ⟨some 78, _, _, _, _, _⟩) 3 #[] rfl (wanted_at (b := true) true rfl rfl (hD 20 77 (by kernel_rfl))) (exec_call 3 _ [] _ [] Try.func3 (by kernel_rfl) (by kernel_rfl) rfl rfl u) (runs_gives u)) ?_
    refine fsteps_cons 23 rfl (fun a u hE hD hk => f_val (o := ⟨some 79, _, _, _, _, _⟩) (.bool true) rfl (wanted_none rfl _) (exec_pick (.tmp 77) (.tmp 78) (.const (.bool false)) (.bool true) rfl (hD 20 77 (by kernel_rfl)) (hD 21 78 (by kernel_rfl))) rfl) ?_
    exact fsteps_nil
  intro gv w11 hV k11
  rw [show dstsOf _ 23 = [57, 58, 59, 60, 61, 62, 63, 64, 65, 66, 67, 68, 69, 70, 71, 72, 73, 74, 75, 76, 77, 78, 79] by kernel_rfl]
  simp only [List.foldl_cons, List.foldl_nil, List.setIfInBounds_toArray, List.set_cons_succ, List.set_cons_zero, List.drop_succ_cons, List.drop_zero]
  rw [show gv 79 = .bool true from hV 22 79 (by kernel_rfl)]
  clear hV
  have kw11 := kw10.trans k11
  go_wp2
  go_ret
  exact ⟨rfl, kw11⟩
end Go.Proofs.Ytdmeiffofmagjaa
