/- OrderSays: which of two laws is the greater one, and what shows it, is what the document's own reckoning gives: the row, and the card that ties the listed variables to the program's text. -/
import Derived.Test.YtagmkkiagjmimaaGreatDoorXEKs
import Derived.Test.YtagmkkiagjmimaaGreatDoorXKYw
namespace Go.Proofs.YtagmkkiagjmimaaGreatDoor
open Go.Proofs.Tryz
open Go.ChangeShapes Go.WideShapes Go.ChangeAt Go.RowKit Go.Joins
set_option maxRecDepth 100000
set_option linter.unusedVariables false
theorem qci (os:Os) (args:Array Value):laidMetH prog Rows.orderSaysRow.laid ((World.doorLaid prog 400 os).forCall (fun _ _=>0) ⟨#[],args,[]⟩).memory :=
 laidMetH_of_parts3 (fuel:=8) (laidMet_of_run' 8 (by kernel_rfl) (by kernel_rfl)) (by kernel_rfl) (by kernel_rfl)
theorem lifted (os:Os) (started:os.Started) (H:Type) (enc:TypeId × Value→H) :
   ReturnsInHanded {} Tryz.checked os 6 .any (fun w args=>(Rows.orderSaysSpec.pre enc prog Tryz.f6 [] false w args∧laidMetH prog Rows.orderSaysRow.laid w)∧sizedMet enc prog Tryz.f6 (OpenSpec.ofChange Rows.orderSaysSpec) false w args)
    (Rows.orderSaysSpec.post enc prog Tryz.f6 false true false false):=by(
 refine returnsInHanded_of_change_and (C:=Tryz.checked) (X:=fun w _=>laidMetH prog Rows.orderSaysRow.laid w) (fun _ _ _ hh h=>h.of_heap hh) own started (by kernel_rfl) func6
  (ChangeSpec.witness_shaped (enc:=enc) (C:=Tryz.checked) (os:=os) (X:=fun w _=>laidMetH prog Rows.orderSaysRow.laid w) false (World.doorLaid prog 400 os) #[.slice none 0 0,.slice none 0 0] 8 rfl (World.shaped_of_RefB (by kernel_rfl) (by kernel_rfl)) (by kernel_rfl) (by kernel_rfl) (by kernel_rfl) (qci os _)) ?_
 intro W base args ds gs before hval0 hW _ _ hL _
 have hval:∀ (j:Nat) t v,Tryz.f6.params[j]? = some t→args[j]? = some v→Value.okWide prog W .any base t v:=hval0
 have hW':=hW
 obtain⟨p,q,hA0,hV,rfl,hfz,hnd⟩:=hW
 have hA:DataW.TrodAll enc prog W 0 (fun _=>true) true Tryz.f6.params.toList args.toList ds p:=hA0
 rw[params6] at hA hval
 obtain⟨v0,v1,d0,d1,p0,p1,rfl,rfl,rfl,h0,h1⟩:=trodAll_two hA
 obtain⟨rfl,rfl⟩:=trodVars_none hV
 obtain⟨htab,herr⟩:=qek hL
 obtain⟨qs0,hqs0,hfit0,hlt0⟩:=zrt (hval 0 41 v0 rfl rfl) h0
 obtain⟨qs1,hqs1,hfit1,hlt1⟩:=zrt (hval 1 41 v1 rfl rfl) h1
 clear hA0 hval0 hval hA 
 simp only[List.append_nil] at hW'
 have key:Calls prog 6 #[v0,v1] W fun e w'=>e=.returned (.bool true)∧But [] W w':=zmu v0 v1 qs0 qs1 W hqs0 hfit0 hqs1 hfit1 htab herr
 refine key.mono fun e W' ⟨he,hb⟩=>?_
 subst he
 have hbl:=hb.below
 have e1:Rows.orderSaysSpec.fn H ([d0,d1]++[])={ results:=[.lit (.bool true)],args:=[d0,d1] }:=by simp[Rows.orderSaysSpec]
 refine⟨_,rfl,_,_,_,[],p0++(p1),[],hW',?_,?_,?_,hbl.frame _,fun h=>by cases h⟩
 ·rw[e1];exact trodAll_mk1 (shut_bool underlying4 true)
 ·rw[e1];exact trodAll_mk2 (Below.trod zsk (by kernel_rfl) (of_decide_eq_true (by kernel_rfl)) h0 hbl hlt0) (Below.trod zsk (by kernel_rfl) (of_decide_eq_true (by kernel_rfl)) h1 hbl hlt1)
 ·rw[e1];rfl)
theorem row_holds:Rows.OrderSaysSaid :=
 OpenClaim.holds_of_wide 6 Tryz.f6 rfl rfl rfl rfl rfl rfl rfl ⟨rfl,rfl,rfl,rfl,rfl⟩ rfl rfl rfl rfl rfl (by kernel_rfl) func6 (by kernel_rfl)
  (of_decide_eq_true (by kernel_rfl)) (by unfold Func.isWrapper;rw[if_neg (of_decide_eq_false (by kernel_rfl))];exact⟨rfl,rfl⟩)
  (fun os started H enc _=>lifted os started H enc)
theorem card_holds:Rows.OrderSaysCardSaid:=qex row_holds
#print axioms card_holds
end Go.Proofs.YtagmkkiagjmimaaGreatDoor
