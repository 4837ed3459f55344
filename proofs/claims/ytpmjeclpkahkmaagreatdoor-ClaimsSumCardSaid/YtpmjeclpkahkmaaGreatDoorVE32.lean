/- ClaimsSum: two laws together, so many amounts together and as many as a number tells are what the document's own reckoning gives: the row, and the card that ties the listed variables to the program's text. -/
import Derived.Test.YtpmjeclpkahkmaaGreatDoorVCSj
import Derived.Test.YtpmjeclpkahkmaaGreatDoorVE32g
import Derived.Test.YtpmjeclpkahkmaaGreatDoorVE32h
namespace Go.Proofs.YtpmjeclpkahkmaaGreatDoor
open Go.Proofs.Tryz
open Go.ChangeShapes Go.WideShapes Go.ChangeAt Go.RowKit Go.Joins
set_option maxRecDepth 100000
set_option linter.unusedVariables false
theorem qgm (os:Os) (args:Array Value):laidMetH prog Rows.claimsSumRow.laid ((World.doorLaid prog 400 os).forCall (fun _ _=>0) ⟨#[],args,[]⟩).memory :=
 laidMetH_of_parts3 (fuel:=8) (laidMet_of_run' 8 (by kernel_rfl) (by kernel_rfl)) (by kernel_rfl) (by kernel_rfl)
theorem lifted (os:Os) (started:os.Started) (H:Type) (enc:TypeId × Value→H) :
  ReturnsInHanded {} Tryz.checked os 4 .any (fun w args=>(Rows.claimsSumSpec.pre enc prog Tryz.f4 [] false w args∧laidMetH prog Rows.claimsSumRow.laid w)∧sizedMet enc prog Tryz.f4 (OpenSpec.ofChange Rows.claimsSumSpec) false w args)
   (Rows.claimsSumSpec.post enc prog Tryz.f4 false true false false):=by(
refine zok (C:=Tryz.checked) own (X:=fun w _=>laidMetH prog Rows.claimsSumRow.laid w) (fun _ _ _ hh h=>h.of_heap hh) started (by kernel_rfl) func4
 (ChangeSpec.witness_shaped (enc:=enc) (C:=Tryz.checked) (os:=os) (X:=fun w _=>laidMetH prog Rows.claimsSumRow.laid w) false (World.doorLaid prog 400 os) #[.slice none 0 0,.slice none 0 0,.int .i64 0] 8 rfl (World.shaped_of_RefB (by kernel_rfl) (by kernel_rfl)) (by kernel_rfl) (by kernel_rfl) (by kernel_rfl) (qgm os _)) ?_
intro W base args ds gs before hval0 hW hL hsh
have hval:∀ (j:Nat) t v,Tryz.f4.params[j]? = some t→args[j]? = some v→Value.okWide prog W .any base t v:=hval0
have hW':=hW
obtain⟨p,q,hA0,hV,rfl,hfz,hnd⟩:=hW
have hA:DataW.TrodAll enc prog W 0 (fun _=>true) true Tryz.f4.params.toList args.toList ds p:=hA0
rw[params4] at hA hval
obtain⟨v0,v1,v2,d0,d1,d2,p0,p1,p2,rfl,rfl,rfl,h0,h1,h2⟩:=trodAll_three hA
obtain⟨rfl,rfl⟩:=trodVars_none hV
obtain⟨htab,herr⟩:=qiv hL
obtain⟨mx,hmx⟩:=qfs hsh
obtain⟨qs0,hqs0,hfit0,hlt0⟩:=ztl (hval 0 41 v0 rfl rfl) h0
obtain⟨qs1,hqs1,hfit1,hlt1⟩:=ztl (hval 1 41 v1 rfl rfl) h1
obtain⟨k2,rfl,rfl,rfl,wk2⟩:=open_int underlying3 (hval 2 3 v2 rfl rfl) h2
clear hA0 hval0 hval hA h2
simp only[List.append_nil] at hW'
have K2:-9223372036854775808≤k2∧k2<9223372036854775808:=by have:=bounds_i64 wk2;omega
have key:Calls prog 4 #[v0,v1,.int .i64 k2] W fun e w'=>e=.returned (.bool true)∧But [] W w':=zpa v0 v1 qs0 qs1 k2 mx W hqs0 hfit0 hqs1 hfit1 htab herr hmx
refine key.mono fun e W' ⟨he,hb⟩=>?_
subst he
have hbl:=hb.below
have e1:Rows.claimsSumSpec.fn H ([d0,d1,.lit (.int .i64 k2)]++[])={ results:=[.lit (.bool true)],args:=[d0,d1,.lit (.int .i64 k2)] }:=by simp[Rows.claimsSumSpec]
refine⟨_,rfl,_,_,_,[],p0++(p1++([])),[],hW',?_,?_,?_,hbl.frame _,fun h=>by cases h⟩
·rw[e1];exact trodAll_mk1 (shut_bool underlying4 true)
·rw[e1];exact trodAll_cons_mk (Below.trod zua (by kernel_rfl) (of_decide_eq_true (by kernel_rfl)) h0 hbl hlt0) (trodAll_mk2 (Below.trod zua (by kernel_rfl) (of_decide_eq_true (by kernel_rfl)) h1 hbl hlt1) (shut_int underlying3 wk2))
·rw[e1];rfl)
theorem row_holds:Rows.ClaimsSumSaid :=
 OpenClaim.holds_of_wide 4 Tryz.f4 rfl rfl rfl rfl rfl rfl rfl ⟨rfl,rfl,rfl,rfl,rfl⟩ rfl rfl rfl rfl rfl qdv func4 zwc
  (of_decide_eq_true qdw) (by unfold Func.isWrapper;rw[if_neg (of_decide_eq_false qin)];exact⟨rfl,rfl⟩)
  (fun os started H enc _=>lifted os started H enc)
theorem card_holds:Rows.ClaimsSumCardSaid:=qjj row_holds
#print axioms card_holds
end Go.Proofs.YtpmjeclpkahkmaaGreatDoor
