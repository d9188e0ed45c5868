/-
  Commands and their bytes, as mathematics: which are right; a right one comes back from its bytes; lengths. No condition.
-/
import Derived.Test.YtdmeiffofmagjaaMsgM
import Derived.Test.YtdmeiffofmagjaaMsgSum
import Derived.Test.YtdmeiffofmagjaaMsgR
namespace Go.Proofs.Ytdmeiffofmagjaa
open Go.RowKit
set_option linter.unusedVariables false

/-- what the kind names, all else nought -/
def Cmd.bare (c : Cmd) : Cmd :=
  if c.k = 1 then { Cmd.z c.k with tr := c.tr }
  else if c.k = 2 then { Cmd.z c.k with tag := c.tag }
  else if c.k = 3 then { Cmd.z c.k with seq := c.seq, inst := c.inst, id := c.id, side := c.side, ord := c.ord, price := c.price, qty := c.qty, shw := c.shw, stop := c.stop }
  else if c.k = 4 then { Cmd.z c.k with seq := c.seq, inst := c.inst, id := c.id, tr := c.tr }
  else if c.k = 5 then { Cmd.z c.k with seq := c.seq, inst := c.inst, id := c.id, price := c.price, qty := c.qty }
  else if c.k = 6 then { Cmd.z c.k with seq := c.seq, inst := c.inst, what := c.what }
  else if c.k = 9 then { Cmd.z c.k with seq := c.seq, what := c.what, fa := c.fa, fb := c.fb }
  else Cmd.z c.k
def Cmd.right (c : Cmd) : Bool := (isKindB c.k && c.inR) && decide (c = c.bare)
theorem Cmd.bare_tag (c : Cmd) (h : c.tag.length = 32) : c.bare.tag.length = 32 := by
  unfold Cmd.bare
  repeat' split
  all_goals first | rfl | exact h

def Cmd.pieces (c : Cmd) : List (List UInt8) :=
  if c.k = 1 then [[u8 c.tr]]
  else if c.k = 2 then [c.tag]
  else if c.k = 3 then [w32 c.seq, [u8 c.inst], w32 c.id, [u8 c.side], [u8 c.ord], w32 c.price, w32 c.qty, w32 c.shw, w32 c.stop]
  else if c.k = 4 then [w32 c.seq, [u8 c.inst], w32 c.id, [u8 c.tr]]
  else if c.k = 5 then [w32 c.seq, [u8 c.inst], w32 c.id, w32 c.price, w32 c.qty]
  else if c.k = 6 then [w32 c.seq, [u8 c.inst], [u8 c.what]]
  else if c.k = 9 then [w32 c.seq, [u8 c.what], [u8 c.fa], [u8 c.fb]]
  else []
theorem Cmd.body_flat (c : Cmd) : c.body = c.pieces.flatten := by
  unfold Cmd.body Cmd.pieces
  repeat' split
  all_goals simp
theorem Cmd.pieces_len (c : Cmd) (h : c.tag.length = 32) : c.pieces.map List.length = plan c.k := by
  unfold plan Cmd.pieces
  repeat' split
  all_goals simp [w32_len, h]

/-- a reader that has pre behind it -/
def RS.mid (pre rest : List UInt8) : RS := ⟨pre ++ rest, pre.length, false⟩
theorem take_mid (pre p rest : List UInt8) : (RS.mid pre (p ++ rest)).take p.length = (RS.mid (pre ++ p) rest, p) := by
  unfold RS.take RS.mid
  simp only
  rw [if_neg (by simp)]
  simp
theorem takes_mid (rest : List UInt8) : ∀ (ps : List (List UInt8)) (pre : List UInt8), (RS.mid pre (ps.flatten ++ rest)).takes (ps.map List.length) = (RS.mid (pre ++ ps.flatten) rest, ps)
  | [], pre => by simp [RS.takes]
  | p :: ps, pre => by
    have ih := takes_mid rest ps (pre ++ p)
    simp only [List.map_cons, RS.takes, List.flatten_cons, List.append_assoc, take_mid]
    rw [ih]
    simp

theorem val_u8 (x : Int) (h : rng x 0 255 = true) : (val [u8 x] : Int) = x := by
  unfold rng at h
  simp at h
  simp [val, u8]
  omega
theorem val_w32 (x : Int) (h : rng x 0 1073741824 = true) : (val (w32 x) : Int) = x := by
  unfold rng at h
  simp at h
  have hx : (x % 4294967296).toNat = x.toNat := by omega
  unfold w32
  rw [hx]
  simp only [be, val, List.foldl_cons, List.foldl_nil, UInt8.toNat_ofNat']
  omega
theorem rng_wide {x lo hi hi' : Int} (h : rng x lo hi = true) (hh : hi ≤ hi') : rng x lo hi' = true := by
  unfold rng at h ⊢
  simp at h ⊢
  omega

structure InR (c : Cmd) : Prop where
  seq : rng c.seq 0 1073741824 = true
  id : rng c.id 0 1073741824 = true
  price : rng c.price 0 1073741824 = true
  qty : rng c.qty 0 1073741824 = true
  shw : rng c.shw 0 1073741824 = true
  stop : rng c.stop 0 1073741824 = true
  side : rng c.side 0 255 = true
  ord : rng c.ord 0 255 = true
  fa : rng c.fa 0 255 = true
  fb : rng c.fb 0 255 = true
  tr : rng c.tr 0 31 = true
  inst : rng c.inst 0 (lastB c.k) = true
  what : whatB c.k c.what = true
theorem inR_of {c : Cmd} (h : c.inR = true) : InR c := by
  simp only [Cmd.inR, win, List.all_cons, List.all_nil, Bool.and_eq_true, Bool.and_true] at h
  obtain ⟨⟨⟨⟨⟨h1, h2, h3, h4, h5, h6⟩, h7, h8, h9, h10⟩, h11⟩, h12⟩, h13⟩ := h
  exact ⟨h1, h2, h3, h4, h5, h6, h7, h8, h9, h10, h11, h12, h13⟩
theorem whatB_255 {k x : Int} (h : whatB k x = true) : rng x 0 255 = true := by
  unfold whatB rng at *
  split at h
  · simp at h ⊢; omega
  split at h
  · simp at h ⊢; omega
  · simp at h ⊢; omega
theorem lastB_255 {k x : Int} (h : rng x 0 (lastB k) = true) : rng x 0 255 = true := rng_wide h (by unfold lastB; split <;> omega)

theorem of_pieces (c : Cmd) (h : InR c) (ht : c.tag.length = 32) : Cmd.of c.k c.pieces = c.bare := by
  have e1 := val_w32 _ h.seq
  have e2 := val_w32 _ h.id
  have e3 := val_w32 _ h.price
  have e4 := val_w32 _ h.qty
  have e5 := val_w32 _ h.shw
  have e6 := val_w32 _ h.stop
  have e7 := val_u8 _ h.side
  have e8 := val_u8 _ h.ord
  have e9 := val_u8 _ h.fa
  have e10 := val_u8 _ h.fb
  have e11 := val_u8 _ (rng_wide h.tr (by omega))
  have e12 := val_u8 _ (lastB_255 h.inst)
  have e13 := val_u8 _ (whatB_255 h.what)
  unfold Cmd.of Cmd.bare Cmd.pieces
  by_cases h1 : c.k = 1
  · simp [h1, e11]
  by_cases h2 : c.k = 2
  · simp [h2, ht]
  by_cases h3 : c.k = 3
  · simp [h3, e1, e2, e3, e4, e5, e6, e7, e8, e12]
  by_cases h4 : c.k = 4
  · simp [h4, e1, e2, e11, e12]
  by_cases h5 : c.k = 5
  · simp [h5, e1, e2, e3, e4, e12]
  by_cases h6 : c.k = 6
  · simp [h6, e1, e12, e13]
  by_cases h9 : c.k = 9
  · simp [h9, e1, e9, e10, e13]
  simp [h1, h2, h3, h4, h5, h6, h9]

/-- a reader at the beginning -/
def RS.new (xs : List UInt8) : RS := ⟨xs, 0, false⟩
theorem new_take1 (x : UInt8) (xs : List UInt8) : (RS.new (x :: xs)).take 1 = (RS.mid [x] xs, [x]) := take_mid [] [x] xs
theorem enc_kind (c : Cmd) (hk : isKindB c.k = true) : (RS.new c.enc).kind = c.k := by
  unfold RS.kind Cmd.enc
  rw [new_take1]
  exact val_u8 _ (by unfold isKindB rng at hk; unfold rng; simp at hk ⊢; omega)
theorem enc_takes (c : Cmd) (hk : isKindB c.k = true) (ht : c.tag.length = 32) : ((RS.new c.enc).take 1).1.takes (plan c.k) = (RS.mid c.enc [], c.pieces) := by
  unfold Cmd.enc
  rw [new_take1]
  have := takes_mid [] c.pieces [u8 c.k]
  rw [c.pieces_len ht, List.append_nil, ← c.body_flat] at this
  exact this
theorem enc_back (c : Cmd) (hk : isKindB c.k = true) (hr : c.inR = true) (ht : c.tag.length = 32) : (RS.new c.enc).cmd = c.bare := by
  unfold RS.cmd
  rw [enc_kind c hk, enc_takes c hk ht]
  exact of_pieces c (inR_of hr) ht
theorem enc_rest (c : Cmd) (hk : isKindB c.k = true) (ht : c.tag.length = 32) : (RS.new c.enc).rest.fin = true := by
  unfold RS.rest
  rw [enc_kind c hk, enc_takes c hk ht]
  simp [RS.mid, RS.fin]

/-- what Get answers -/
def getB (xs : List UInt8) : Cmd × Bool := if ((RS.new xs).rest.fin && (RS.new xs).cmd.right) = true then ((RS.new xs).cmd, true) else (Cmd.z 0, false)
theorem getB_tag (xs : List UInt8) : (getB xs).1.tag.length = 32 := by
  unfold getB
  split
  · exact RS.cmd_tag _
  · rfl
structure Right (c : Cmd) : Prop where
  kind : isKindB c.k = true
  inR : c.inR = true
  bare : c = c.bare
theorem right_of {c : Cmd} (h : c.right = true) : Right c := by
  simp only [Cmd.right, Bool.and_eq_true, decide_eq_true_eq] at h
  exact ⟨h.1.1, h.1.2, h.2⟩
theorem get_back (c : Cmd) (hr : c.right = true) (ht : c.tag.length = 32) : getB c.enc = (c, true) := by
  have h := right_of hr
  have e : (RS.new c.enc).cmd = c := (enc_back c h.kind h.inR ht).trans h.bare.symm
  unfold getB
  rw [e, enc_rest c h.kind ht, hr]
  rfl
theorem enc_inj (a b : Cmd) (ha : a.right = true) (hb : b.right = true) (hta : a.tag.length = 32) (htb : b.tag.length = 32) (h : a.enc = b.enc) : a = b := by
  have h1 := get_back a ha hta
  have h2 := get_back b hb htb
  rw [h] at h1
  rw [h1] at h2
  injection h2
theorem enc_len (c : Cmd) (ht : c.tag.length = 32) : c.enc.length = 1 + (plan c.k).sum := by
  unfold Cmd.enc
  rw [List.length_cons, c.body_flat, List.length_flatten, c.pieces_len ht]
  omega
theorem plan_le (k : Int) : (plan k).sum ≤ 32 := by
  unfold plan
  repeat' split
  all_goals decide

theorem takes_bad : ∀ (ns : List Nat) (s : RS), s.bad = true → (s.takes ns).1.bad = true
  | [], _, h => h
  | n :: ns, s, h => by
    refine takes_bad ns _ ?_
    unfold RS.take
    rw [if_pos (.inl h)]
theorem takes_fin : ∀ (ns : List Nat) (s : RS), s.pos ≤ s.xs.length → (s.takes ns).1.fin = true → s.bad = false ∧ s.pos + ns.sum = s.xs.length
  | [], s, _, h => by
    simp [RS.takes, RS.fin] at h
    simpa using h
  | n :: ns, s, hp, h => by
    simp only [RS.takes] at h
    by_cases hb : s.bad = true ∨ s.xs.length - s.pos < n
    · have e : (s.take n).1.bad = true := by unfold RS.take; rw [if_pos hb]
      have := takes_bad ns _ e
      simp [RS.fin, this] at h
    · have e : (s.take n).1 = { s with pos := s.pos + n } := by unfold RS.take; rw [if_neg hb]
      rw [e] at h
      simp only [not_or] at hb
      obtain ⟨h1, h2⟩ := takes_fin ns _ (by simp only; omega) h
      simp only at h1 h2
      refine ⟨h1, ?_⟩
      rw [List.sum_cons]
      omega
/-- bytes that end where the kind says -/
theorem get_len (xs : List UInt8) (h : (RS.new xs).rest.fin = true) : ∃ x ys, xs = x :: ys ∧ xs.length = 1 + (plan (x.toNat : Int)).sum := by
  cases xs with
  | nil =>
    exfalso
    have hb : ((RS.new []).take 1).1.bad = true := rfl
    have := takes_bad (plan (RS.new []).kind) _ hb
    unfold RS.rest at h
    simp [RS.fin, this] at h
  | cons x ys =>
    refine ⟨x, ys, rfl, ?_⟩
    have hk : (RS.new (x :: ys)).kind = (x.toNat : Int) := by unfold RS.kind; rw [new_take1]; simp [val]
    unfold RS.rest at h
    rw [hk, new_take1] at h
    have := (takes_fin _ _ (by simp [RS.mid]) h).2
    simp [RS.mid] at this
    rw [List.length_cons]
    omega
theorem get_none (xs : List UInt8) (h : (RS.new xs).rest.fin = false) : getB xs = (Cmd.z 0, false) := by
  unfold getB
  rw [h]
  rfl
/-- other lengths are none -/
theorem get_short (c : Cmd) (hk : isKindB c.k = true) (ht : c.tag.length = 32) (xs : List UInt8) (hx : ∀ x ys, xs = x :: ys → x = u8 c.k) (hl : xs.length ≠ c.enc.length) : getB xs = (Cmd.z 0, false) := by
  refine get_none xs ?_
  cases hf : (RS.new xs).rest.fin with
  | false => rfl
  | true =>
    exfalso
    obtain ⟨x, ys, e, h⟩ := get_len xs hf
    have hx' := hx x ys e
    have hv : (x.toNat : Int) = c.k := by
      rw [hx']
      have := val_u8 c.k (by unfold isKindB rng at hk; unfold rng; simp at hk ⊢; omega)
      simpa [val] using this
    rw [hv, ← enc_len c ht] at h
    exact hl h
end Go.Proofs.Ytdmeiffofmagjaa
