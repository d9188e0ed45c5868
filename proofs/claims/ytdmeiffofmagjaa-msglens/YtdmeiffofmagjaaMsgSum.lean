/-
  Commands and notes as bytes; the contract of package msg's sum (a sum behind bytes). Conditions: lengths.
-/
import Derived.Test.YtdmeiffofmagjaaMsgP
import Derived.Test.YtdmeiffofmagjaaArr
import Derived.Deep.DeepCutAuto
namespace Go.Proofs.Ytdmeiffofmagjaa
open Go.RowKit
set_option linter.unusedVariables false

/-- what a command's kind names, as bytes -/
def Cmd.body (c : Cmd) : List UInt8 :=
  if c.k = 1 then [u8 c.tr]
  else if c.k = 2 then c.tag
  else if c.k = 3 then w32 c.seq ++ ([u8 c.inst] ++ (w32 c.id ++ ([u8 c.side] ++ ([u8 c.ord] ++ (w32 c.price ++ (w32 c.qty ++ (w32 c.shw ++ w32 c.stop)))))))
  else if c.k = 4 then w32 c.seq ++ ([u8 c.inst] ++ (w32 c.id ++ [u8 c.tr]))
  else if c.k = 5 then w32 c.seq ++ ([u8 c.inst] ++ (w32 c.id ++ (w32 c.price ++ w32 c.qty)))
  else if c.k = 6 then w32 c.seq ++ ([u8 c.inst] ++ [u8 c.what])
  else if c.k = 9 then w32 c.seq ++ ([u8 c.what] ++ ([u8 c.fa] ++ [u8 c.fb]))
  else []
def Cmd.enc (c : Cmd) : List UInt8 := u8 c.k :: c.body
/-- a note as bytes -/
def Nte.enc (c : Nte) : List UInt8 :=
  if c.k = 1 then u8 c.k :: c.sum
  else if c.k = 2 then [u8 c.k]
  else if c.k = 3 then u8 c.k :: w32 c.seq
  else if c.k = 4 then u8 c.k :: (w32 c.seq ++ [u8 c.err])
  else if c.k = 5 then u8 c.k :: ([u8 c.inst] ++ (w32 c.id ++ (w32 c.no ++ (w32 c.price ++ (w32 c.qty ++ w32 c.left)))))
  else if c.k = 6 then u8 c.k :: ([u8 c.inst] ++ (w32 c.id ++ w32 c.left))
  else if c.k = 7 then u8 c.k :: ([u8 c.inst] ++ (w32 c.no ++ (w32 c.price ++ w32 c.qty)))
  else if c.k = 8 then u8 c.k :: ([u8 c.inst] ++ ([u8 c.side] ++ (w32 c.price ++ w32 c.qty)))
  else if c.k = 9 then [u8 c.k]
  else []

theorem append_types (t t' e ty : TypeId) (v x : Value) (ht : Try.prog.underlying t = some (.slice e)) (ht' : Try.prog.underlying t' = some (.slice e)) (w : World) : (Builtin.append_ #[t, t'] ty #[v, x]).run Try.prog w = (Builtin.append_ #[t', t'] ty #[v, x]).run Try.prog w := by
  simp only [Builtin.append_, List.getElem?_toArray, List.getElem?_cons_zero, List.getElem?_cons_succ, Sem.run_bind, run_underlying ht, run_underlying ht', Result.andThen_ok]

/-- append of bytes onto a named slice of the call's own -/
theorem op_append_own8 {o : Oper} {a : Act} {K : Act → World → Prop} {Q : Exit → Act → World → Prop} (w : World) (t : TypeId) (ht : Try.prog.underlying t = some (.slice 5)) (s x : Operand)
    (hop : o.op = Op.call { callee := Callee.builtin Builtin.append, args := #[s, x], argTypes := #[t, 23] })
    (base n c : Nat) (A : Option Addr) (xs : List UInt8) (hs : a.eval s = .slice A n c) (hown : Own8 w base A n c xs) (hbase : base ≤ w.heap.size)
    (ad : Addr) (m d : Nat) (ys : List UInt8) (hx : a.eval x = .slice (some ad) m d) (hm : ys.length = m) (hR : R8 w (some ad) ys) (hlim : n + m ≤ 140737488355328)
    (hK : ∀ w' A' c', Own8 w' base A' (n + m) c' (xs ++ ys) → Keep (base ≤ ·) w w' → K (a.put o.dst (.slice A' (n + m) c')) w') : o.wp Try.prog a w K Q := by
  obtain ⟨i0, hi, hz0, hz1, hz2⟩ := info_parts info8
  subst hm
  obtain ⟨v', w', hr, hown', hgr, hnil⟩ := run_append_own (P := Try.prog) w base 23 o.type 5 i0 (.int .u8 0) 1 1 Try.underlying23 hi hz0 hz1 hz2 rfl (by omega) (.slice A n c) n (cells8 xs) hown.own
      ad ys.length d (cells8 ys) (by simp [len8]) hR.cells (cells8_one ys) (by unfold maxLen; omega) (by omega) hbase
  rw [← append_types t 23 5 o.type _ _ ht Try.underlying23] at hr
  rw [← cells8_append] at hown'
  obtain ⟨A', c', rfl, ho⟩ := Own8.of_own hown'
  unfold Oper.wp execOp
  simp only [hop, resolve, invoke, builtin, Sem.run_bind, Sem.run_pure, Result.andThen_ok, List.map_toArray, List.map_cons, List.map_nil, hs, hx, hr]
  refine hK w' A' c' ho ((Keep.refl _ w).grown hgr (fun k hk _ => ?_))
  cases A with
  | none => simp [Value.ownBlock] at hk
  | some ad =>
    obtain ⟨h1, _⟩ := hown.at_ ad rfl
    have : ad.block = k := by simpa [Value.ownBlock] using hk
    omega

/-- x[:] of an array of n bytes -/
theorem slice_arr (t : TypeId) (n g o : Nat) (ht : Try.prog.underlying t = some (.array n 5)) (h0 : 0 < n) (e1 : Try.prog.arrayLen t = n) (e2 : Try.prog.elem t = 5) (u : World) : (Instr.sliceAt t (.pointer (some ⟨g, o, none⟩)) none none none).run Try.prog u = .ok (.slice (some ⟨g, o, none⟩) n n) u := by
  obtain ⟨i0, hi, hz0, hz1, hz2⟩ := info_parts info8
  have h := run_sliceAt_array_all (P := Try.prog) (w := u) t ⟨g, o, none⟩ (by rw [e1, e2]; exact ht)
  have hne : ¬ n = 0 := by omega
  rw [h, e1, e2]
  simp [sizeOf, typeInfo, hi, hz1, hne, slicedAt, Addr.add]
theorem slice_sum (g o : Nat) : ∀ u : World, (Instr.sliceAt 26 (.pointer (some ⟨g, o, none⟩)) none none none).run Try.prog u = .ok (.slice (some ⟨g, o, none⟩) 32 32) u :=
  slice_arr _ 32 g o Try.underlying26 (by omega) (by kernel_rfl) (by kernel_rfl)

theorem exec_sliceT {a : Act} {o : Oper} {u : World} (x : Operand) (g off : Nat) (hop : o.op = .slice 26 x none none none) (hx : a.eval x = .pointer (some ⟨g, off, none⟩)) : (execOp a.eval o).run Try.prog u = .ok (.value (.slice (some ⟨g, off, none⟩) 32 32)) u := by
  unfold execOp
  simp only [hop, hx, Option.map_none, Sem.run_bind, slice_sum g off u, Result.andThen_ok]
  rfl
theorem range_r8 {w : World} {b o : Nat} {xs : List UInt8} (h : w.rangeAt b o (cells8 xs)) : R8 w (some ⟨b, o, none⟩) xs := by
  intro k x hx
  refine ⟨_, rfl, ?_⟩
  rw [Addr.add_mid]
  exact h k _ (by simp [cells8, hx])

set_option maxHeartbeats 800000 in
theorem sum_any (v : Value) (base : Nat) (xs t : List UInt8) (w : World) (hv : OwnV base w v xs) (hb : base ≤ w.heap.size) (hx : xs.length ≤ 1000) (ht : Hid (t.length = 32)) :
    Calls Try.prog 24 #[v, .agg (cells8 t).toArray] w fun e w' => ∃ v', e = .returned v' ∧ OwnV base w' v' (xs ++ t) ∧ Keep (base ≤ ·) w w' := by
  obtain ⟨A, n, c, rfl, hA⟩ := hv
  have hn := hA.len
  have hn1 : n ≤ 1000 := by omega
  have k0 : Kept w (w.alloc (.cells (cells8 t).toArray 26)) := (Keep.refl _ w).alloc _
  have HA := Lib.hid (hA.kept k0)
  have HR := Lib.hid (r8_new w t 26)
  have hs := slice_sum w.heap.size 0
  clear hn hx hA
  have hb2 : base ≤ (w.alloc (.cells (cells8 t).toArray 26)).heap.size := by have := k0.size; omega
  go_enter Try.func24, Try.ntmps24
  go_wp2_with (at_builtin; refine wpList_wanted rfl fun K hK' => op_append_own8 _ 46 Try.underlying46 (.tmp 5) (.tmp 6) rfl base n c A xs rfl HA.out hb2 ⟨w.heap.size, 0, none⟩ 32 32 t rfl ht.out HR.out (by omega) ?_)
  intro w2 A2 c2 ho2 hk2
  refine hK' _ _ ?_
  have hk3 : Keep (base ≤ ·) w w2 := Keep.trans (k0.mono (T := (base ≤ ·)) (fun _ _ h => h.elim)) hk2 (fun _ _ h => h)
  go_wp2
  go_ret
  exact ⟨_, rfl, ⟨A2, _, c2, rfl, ho2⟩, hk3⟩
end Go.Proofs.Ytdmeiffofmagjaa
