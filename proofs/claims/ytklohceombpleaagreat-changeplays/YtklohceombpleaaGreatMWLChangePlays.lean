/-
 ChangePlays: any orders, any changes: each answer, what rests, what waits, what is open: the law answers true. No condition.
-/
import Derived.Test.YtklohceombpleaaGreatQW06
set_option linter.unusedVariables false
set_option maxRecDepth 100000
namespace Go.Proofs.YtklohceombpleaaGreat
open Go.RowKit Go.ChangeShapes Go.WideShapes Go.ChangeAt
open Go.ChangeMaps (open_string)
theorem changePlays_lifted (os:Os) (D:os.Started) (H:Type) (enc:TypeId × Value→H) :
  ReturnsInHanded {} Tryz.checked os 3 .any (Rows.changePlaysSpec.pre6 enc Tryz.prog Tryz.f3 Rows.changePlaysRow.domain false) (Rows.changePlaysSpec.post enc Tryz.prog Tryz.f3 false true false false):=by
 refine returnsInHanded_of_change (C:=Tryz.checked) Tryz.own D (by kernel_rfl) Tryz.func3
  (ChangeSpec.witness6 (enc:=enc) (C:=Tryz.checked) false ⟨#[],#[.slice none 0 0],[]⟩ 8 (by kernel_rfl) (by kernel_rfl) (by kernel_rfl) (by kernel_rfl)) ?_
 intro W base args ds gs before J U hcnd _
 have I:∀ (j:Nat) t v,Tryz.f3.params[j]?=some t→args[j]?=some v→Value.okWide Tryz.prog W .any base t v:=J
 have N:=U
 obtain ⟨p,q,O,hV,rfl,hfz,hnd⟩:=U
 have hA:DataW.TrodAll enc Tryz.prog W 0 (fun _=>true) true Tryz.f3.params.toList args.toList ds p:=O
 rw [Tryz.params3] at hA I
 obtain ⟨v0,vs0,d0,ds0,p0,q0,hargs,rfl,rfl,h0,r0⟩:=trodAll_cons hA
 obtain ⟨rfl,rfl,rfl⟩:=trodAll_nil r0
 obtain rfl:args=#[v0]:=by cases args;simp_all
 obtain ⟨rfl,rfl⟩:=trodVars_none hV
 obtain ⟨a0,w0⟩:=open_cqs (I 0 22 v0 rfl rfl) h0
 refine (changePlays_any _ a0 W w0).mono fun e W' ⟨he,hk⟩=>?_
 subst he
 exact ⟨_,rfl,law_post N rfl (by kernel_rfl) (by kernel_rfl) rfl hk⟩
theorem changePlays_holds:Rows.ChangePlaysSaid:=
 OpenClaim.holds_of_wide 3 Tryz.f3 rfl rfl rfl rfl rfl rfl rfl ⟨rfl,rfl,rfl,rfl,rfl⟩ rfl rfl rfl rfl rfl (by kernel_rfl) Tryz.func3 (by kernel_rfl)
  (of_decide_eq_true (by kernel_rfl)) (by unfold Func.isWrapper;first | (rw [if_pos (by decide +kernel)];kernel_rfl) | (rw [if_neg (by decide +kernel)];exact ⟨rfl,rfl⟩))
  (fun os j H enc _=>changePlays_lifted os j H enc)
end Go.Proofs.YtklohceombpleaaGreat
