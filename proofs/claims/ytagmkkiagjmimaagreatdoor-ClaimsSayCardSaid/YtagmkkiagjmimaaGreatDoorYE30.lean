/- ClaimsSay: what a law tells is what the document's own reckoning gives: the row, and the card that ties the listed variables to the program's text. -/
import Derived.Test.YtagmkkiagjmimaaGreatDoorYKYi
namespace Go.Proofs.YtagmkkiagjmimaaGreatDoor
open Go.Proofs.Tryz
open Go.ChangeShapes Go.WideShapes Go.ChangeAt Go.RowKit Go.Joins
set_option maxRecDepth 100000
set_option linter.unusedVariables false
theorem qfu (os:Os) (args:Array Value):laidMetH prog Rows.claimsSayRow.laid ((World.doorLaid prog 400 os).forCall (fun _ _=>0) ⟨#[],args,[]⟩).memory :=
 laidMetH_of_parts3 (fuel:=8) (laidMet_of_run' 8 (by kernel_rfl) (by kernel_rfl)) (by kernel_rfl) (by kernel_rfl)
theorem lifted (os:Os) (started:os.Started) (H:Type) (enc:TypeId × Value→H) :
   ReturnsInHanded {} Tryz.checked os 7 .any (fun w args=>(Rows.claimsSaySpec.pre enc prog Tryz.f7 [] false w args∧laidMetH prog Rows.claimsSayRow.laid w)∧sizedMet enc prog Tryz.f7 (OpenSpec.ofChange Rows.claimsSaySpec) false w args)
    (Rows.claimsSaySpec.post enc prog Tryz.f7 false true false false):=by(
 refine returnsInHanded_of_change_and (C:=Tryz.checked) (X:=fun w _=>laidMetH prog Rows.claimsSayRow.laid w) (fun _ _ _ hh h=>h.of_heap hh) own started (by kernel_rfl) func7
  (ChangeSpec.witness_shaped (enc:=enc) (C:=Tryz.checked) (os:=os) (X:=fun w _=>laidMetH prog Rows.claimsSayRow.laid w) false (World.doorLaid prog 400 os) #[.slice none 0 0,.agg #[.int .i64 0,.int .i64 0],.int .i64 0,.int .i64 0] 8 rfl (World.shaped_of_RefB (by kernel_rfl) (by kernel_rfl)) (by kernel_rfl) (by kernel_rfl) (by kernel_rfl) (qfu os _)) ?_
 intro W base args ds gs before hval0 hW _ _ hL _
 have hval:∀ (j:Nat) t v,Tryz.f7.params[j]? = some t→args[j]? = some v→Value.okWide prog W .any base t v:=hval0
 have hW':=hW
 obtain⟨p,q,hA0,hV,rfl,hfz,hnd⟩:=hW
 have hA:DataW.TrodAll enc prog W 0 (fun _=>true) true Tryz.f7.params.toList args.toList ds p:=hA0
 rw[params7] at hA hval
 obtain⟨v0,v1,v2,v3,d0,d1,d2,d3,p0,p1,p2,p3,rfl,rfl,rfl,h0,h1,h2,h3⟩:=trodAll_four hA
 obtain⟨rfl,rfl⟩:=trodVars_none hV
 obtain⟨htab,herr⟩:=qhv hL
 obtain⟨qs0,hqs0,hfit0,hlt0⟩:=qdb (hval 0 41 v0 rfl rfl) h0
 obtain⟨s1,t1,y1,z1,m1,rfl,rfl,rfl,hy1,hz1⟩:=open_agg2 underlying23 (by kernel_rfl) zwj (hval 1 23 v1 rfl rfl) h1
 obtain⟨a1,ea1,rfl,wa1⟩:=DataW.trod_int underlying3 hy1
 obtain⟨b1,eb1,rfl,wb1⟩:=DataW.trod_int underlying3 hz1
 simp at ea1 eb1
 subst ea1 eb1
 obtain⟨k2,rfl,rfl,rfl,wk2⟩:=open_int underlying3 (hval 2 3 v2 rfl rfl) h2
 obtain⟨k3,rfl,rfl,rfl,wk3⟩:=open_int underlying3 (hval 3 3 v3 rfl rfl) h3
 clear hA0 hval0 hval hA h1 h2 h3
 simp only[List.append_nil] at hW'
 have Ba1:-9223372036854775808≤a1∧a1<9223372036854775808:=by have:=bounds_i64 wa1;omega
 have Bb1:-9223372036854775808≤b1∧b1<9223372036854775808:=by have:=bounds_i64 wb1;omega
 have F1:Fits (a1,b1):=⟨Ba1.1,Ba1.2,Bb1.1,Bb1.2⟩
 have K2:-9223372036854775808≤k2∧k2<9223372036854775808:=by have:=bounds_i64 wk2;omega
 have K3:-9223372036854775808≤k3∧k3<9223372036854775808:=by have:=bounds_i64 wk3;omega
 have reads:∀ (x y:Int),(Lit.int .i64 x).wf=true→(Lit.int .i64 y).wf=true→∀ (W':World) (b:Nat) (sp:Nat→Bool) (hd:Bool),DataW.Trod enc prog W' b sp hd 23 (.agg #[.int .i64 x,.int .i64 y]) (.agg [.lit (.int .i64 x),.lit (.int .i64 y)]) []:=fun x y wx wy W' b sp hd =>
  shut_agg2 (y0:=(.lit (.int .i64 x),[])) (y1:=(.lit (.int .i64 y),[])) underlying23 (by kernel_rfl) zwj ⟨1,by simp[DataW.trod,underlying3,wx]⟩ ⟨1,by simp[DataW.trod,underlying3,wy]⟩
 have key:Calls prog 7 #[v0,.agg #[.int .i64 a1,.int .i64 b1],.int .i64 k2,.int .i64 k3] W fun e w'=>e=.returned (.bool true)∧But [] W w':=zof v0 qs0 a1 b1 k2 k3 W hqs0 hfit0 F1 K2 K3 htab herr
 refine key.mono fun e W' ⟨he,hb⟩=>?_
 subst he
 have hbl:=hb.below
 have e1:Rows.claimsSaySpec.fn H ([d0,.agg [.lit (.int .i64 a1),.lit (.int .i64 b1)],.lit (.int .i64 k2),.lit (.int .i64 k3)]++[])={ results:=[.lit (.bool true)],args:=[d0,.agg [.lit (.int .i64 a1),.lit (.int .i64 b1)],.lit (.int .i64 k2),.lit (.int .i64 k3)] }:=by simp[Rows.claimsSaySpec]
 refine⟨_,rfl,_,_,_,[],p0++([]++([]++([]))),[],hW',?_,?_,?_,hbl.frame _,fun h=>by cases h⟩
 ·rw[e1];exact trodAll_mk1 (shut_bool underlying4 true)
 ·rw[e1];exact trodAll_cons_mk (Below.trod qfj (by kernel_rfl) (of_decide_eq_true (by kernel_rfl)) h0 hbl hlt0) (trodAll_cons_mk (reads a1 b1 wa1 wb1 _ _ _ _) (trodAll_mk2 (shut_int underlying3 wk2) (shut_int underlying3 wk3)))
 ·rw[e1];rfl)
theorem row_holds:Rows.ClaimsSaySaid :=
 OpenClaim.holds_of_wide 7 Tryz.f7 rfl rfl rfl rfl rfl rfl rfl ⟨rfl,rfl,rfl,rfl,rfl⟩ rfl rfl rfl rfl rfl (by kernel_rfl) func7 (by kernel_rfl)
  (of_decide_eq_true (by kernel_rfl)) (by unfold Func.isWrapper;rw[if_neg (of_decide_eq_false (by kernel_rfl))];exact⟨rfl,rfl⟩)
  (fun os started H enc _=>lifted os started H enc)
theorem card_holds:Rows.ClaimsSayCardSaid:=qif row_holds
#print axioms card_holds
end Go.Proofs.YtagmkkiagjmimaaGreatDoor
