/- CreditSays, where what it reads is of the bulk that the second statement bears: at every rows of pairs (rows, each of one risk, of years) the law (the mean of all, how much years and risks are spread, how much a risk's own mean counts, and the premiums, with their errors, are those that the document's own reckoning answers) answers true and leaves its arguments as they were: the row, and the card that ties the listed variables to the program's text. -/
import Derived.Deep.DeepWitnessRowRef
import Derived.Test.YtffghofheeleeaaGreatDoorKKMdqS
namespace Go.Proofs.YtffghofheeleeaaGreatDoor
open Go.Proofs.Tryz
open Go.ChangeShapes Go.WideShapes Go.ChangeAt Go.RowKit Go.Joins
set_option maxRecDepth 100000
set_option linter.unusedVariables false
theorem zsg (os:Os) (args:Array Value):laidMetH prog Rows.creditSaysUptoRow.laid ((World.doorLaid prog 400 os).forCall (fun _ _=>0) ⟨#[],args,[]⟩).memory :=
 laidMetH_of_parts3 (fuel:=8) (laidMet_of_run' 8 (by kernel_rfl) (by kernel_rfl)) (by kernel_rfl) (by kernel_rfl)
theorem contract (H:Type) (enc:TypeId × Value→H) (W:World) (base:Nat) (args:Array Value) (ds gs:List (DataW H)) (before:List MemPlace)
  (hval0:∀ (j:Nat) t v,Tryz.f5.params[j]? = some t→args[j]? = some v→Value.okWide prog W .any base t v)
  (hW:DataW.Whole enc prog Tryz.f5.params.toList Rows.creditSaysSpec.vars false W args.toList ds gs before) (hk:Rows.uptoSmall H (ds++gs)=true) (hL:laidMetH prog Rows.creditSaysUptoRow.laid W) :
  Calls prog 5 args W fun e W'=>∃ v,e=.returned v∧Rows.creditSaysSpec.post enc prog Tryz.f5 false true false false W args v W':=by
 have hval:∀ (j:Nat) t v,Tryz.f5.params[j]? = some t→args[j]? = some v→Value.okWide prog W .any base t v:=hval0
 have hW':=hW
 obtain⟨p,q,hA0,hV,rfl,hfz,hnd⟩:=hW
 have hA:DataW.TrodAll enc prog W 0 (fun _=>true) true Tryz.f5.params.toList args.toList ds p:=hA0
 rw[params5] at hA hval
 obtain⟨v0,d0,rfl,rfl,h0⟩:=trodAll_one hA
 obtain⟨rfl,rfl⟩:=trodVars_none hV
 obtain⟨htab,herr⟩:=zwh hL
 obtain⟨rs,hrs,hf,hl,hb0⟩:=qql (hval 0 60 v0 rfl rfl) h0
 clear hA0 hval0 hval hA
 have hB:=of_decide_eq_true (show decide _=true from hk)
 simp only[List.cons_append,List.nil_append,Rows.uptoBulkAll] at hB
 simp only[List.append_nil] at hW'
 have key:Calls prog 5 #[v0] W fun e w'=>e=.returned (.bool true)∧But [] W w':=zsi v0 rs W hrs hf (by omega) htab herr
 refine key.mono fun e W' ⟨he,hb⟩=>?_
 subst he
 have hbl:=hb.below
 have e1:Rows.creditSaysSpec.fn H ([d0]++[])={ results:=[.lit (.bool true)],args:=[d0] }:=by simp[Rows.creditSaysSpec]
 refine⟨_,rfl,_,_,_,[],p,[],hW',?_,?_,?_,hbl.frame _,fun h=>by cases h⟩
 ·rw[e1];exact trodAll_mk1 (shut_bool underlying4 true)
 ·rw[e1];exact trodAll_mk1 (Below.trod zix (by kernel_rfl) (of_decide_eq_true (by kernel_rfl)) h0 hbl hl)
 ·rw[e1];rfl
theorem qda (os:Os) {H:Type} (enc:TypeId × Value→H):∃ places,DataW.whole enc prog ((World.doorLaid prog 400 os).forCall (fun _ _=>0) ⟨#[],#[.slice none 0 0],[]⟩).memory Tryz.f5.params.toList Rows.creditSaysSpec.vars false (#[.slice none 0 0]:Array Value).toList 8=some ([.nil],[],places) :=
 ⟨[],by kernel_rfl⟩
theorem qds (os:Os) (started:os.Started) (H:Type) (enc:TypeId × Value→H) (F:Stop.Interp) :
  ReturnsInHanded {} Tryz.checked os 5 .any ((Rows.OpenSpec.upto Rows.creditSaysSpec).preRow enc prog Tryz.f5 Rows.creditSaysUptoRow.domain false Rows.creditSaysUptoRow.laid) (((Rows.OpenSpec.upto Rows.creditSaysSpec).at F).post enc prog Tryz.f5 false true false false):=by
 obtain⟨places,hx⟩:=qda os enc
 refine returnsInHanded_of_row (C:=Tryz.checked) (s:=Rows.OpenSpec.upto Rows.creditSaysSpec) own started (by kernel_rfl) func5
  (witness_row_atRef (enc:=enc) (C:=Tryz.checked) false (World.doorLaid prog 400 os) #[.slice none 0 0] rfl (by kernel_rfl) (by kernel_rfl) (by kernel_rfl)
   (OpenSpec.preRow_of_cond 8 hx (by kernel_rfl) (fun k hk=>by cases hk;kernel_rfl) (by kernel_rfl) (zsg os _))) ?_
 intro W base args ds gs before hval hW _ hcond _ hL _ _
 exact contract H enc W base args ds gs before hval hW (hcond _ rfl) hL
theorem row_holds:Rows.CreditSaysUptoSaid :=
 OpenClaim.holds_of_cond 5 Tryz.f5 rfl rfl rfl rfl rfl rfl rfl ⟨rfl,rfl,rfl,rfl,rfl⟩ rfl rfl rfl rfl rfl (by kernel_rfl) func5 (by kernel_rfl)
  (of_decide_eq_true (by kernel_rfl)) (by unfold Func.isWrapper;rw[if_neg (of_decide_eq_false (by kernel_rfl))];exact⟨rfl,rfl⟩)
  (fun os started H enc _ F=>by rw[OpenClaim.pre_eq_preRow];exact qds os started H enc F)
theorem card_holds:Rows.CreditSaysUptoCardSaid :=
 Claim7.holds_tied_plain_at .later [] [.data,.data,.data,.handle] true (true,"bb9be459c00949d529a805c48f836a04e89c244f1ea2bb0e7312d076c5b504a5") true
  row_holds (fun _ h=>by cases h) (by kernel_rfl) (fun _ h=>by cases h) creditSaysUpto_row_tie rfl ⟨rfl,rfl⟩ (by kernel_rfl) rfl
  (fun f fn hf hfn=>by
   obtain rfl:f = 5:=Option.some.inj ((show prog.funcNamed "tontine/tontinelaw.CreditSays" = some 5 by kernel_rfl).symm.trans hf) |>.symm
   obtain rfl:fn=Tryz.f5:=(Option.some.inj (func5.symm.trans hfn)).symm
   exact⟨by kernel_rfl,fun j t ht=>by
    rw[params5] at ht
    rcases j with _ | j
    ·obtain rfl : 60 = t:=by simpa using ht
     exact (show prog.wantsStandIn 60 = false by kernel_rfl)
    ·simp at ht⟩)
  (by kernel_rfl)
#print axioms card_holds
end Go.Proofs.YtffghofheeleeaaGreatDoor
