/- RuinSays: at every start, income, law (a row of pairs of whole numbers), number of years and r the law (how likely ruin is, and whether the bound holds, are what the reference reckons) answers true and leaves its arguments as they were: the row, and the card that ties the listed variables to the program's text. -/
import Derived.Test.YtagmkkiagjmimaaGreatDoorRRUf
namespace Go.Proofs.YtagmkkiagjmimaaGreatDoor
open Go.Proofs.Tryz
open Go.ChangeShapes Go.WideShapes Go.ChangeAt Go.RowKit Go.Joins
set_option maxRecDepth 100000
set_option linter.unusedVariables false
theorem qix (os:Os) (args:Array Value):laidMetH prog Rows.ruinSaysRow.laid ((World.doorLaid prog 400 os).forCall (fun _ _=>0) ⟨#[],args,[]⟩).memory :=
 laidMetH_of_parts3 (fuel:=8) (laidMet_of_run' 8 (by kernel_rfl) (by kernel_rfl)) (by kernel_rfl) (by kernel_rfl)
theorem zqr {H:Type} {enc:TypeId × Value→H} {P:Program} {w:World} {base:Nat} {spare:Nat→Bool} {held:Bool} {t0 t1 t2 t3 t4:TypeId} {args:Array Value} {ds:List (DataW H)} {ps:List MemPlace} (h:DataW.TrodAll enc P w base spare held [t0,t1,t2,t3,t4] args.toList ds ps) :
  ∃ v0 v1 v2 v3 v4 d0 d1 d2 d3 d4 p0 p1 p2 p3 p4,args=#[v0,v1,v2,v3,v4]∧ds=[d0,d1,d2,d3,d4]∧ps=p0++(p1++(p2++(p3++(p4))))∧DataW.Trod enc P w base spare held t0 v0 d0 p0∧DataW.Trod enc P w base spare held t1 v1 d1 p1∧DataW.Trod enc P w base spare held t2 v2 d2 p2∧DataW.Trod enc P w base spare held t3 v3 d3 p3∧DataW.Trod enc P w base spare held t4 v4 d4 p4:=by(
obtain⟨v0,vs0,d0,ds0,p0,q0,hargs,rfl,rfl,h0,r0⟩:=trodAll_cons h
obtain⟨v1,vs1,d1,ds1,p1,q1,rfl,rfl,rfl,h1,r1⟩:=trodAll_cons r0
obtain⟨v2,vs2,d2,ds2,p2,q2,rfl,rfl,rfl,h2,r2⟩:=trodAll_cons r1
obtain⟨v3,vs3,d3,ds3,p3,q3,rfl,rfl,rfl,h3,r3⟩:=trodAll_cons r2
obtain⟨v4,vs4,d4,ds4,p4,q4,rfl,rfl,rfl,h4,r4⟩:=trodAll_cons r3
obtain⟨rfl,rfl,rfl⟩:=trodAll_nil r4
exact⟨v0,v1,v2,v3,v4,d0,d1,d2,d3,d4,p0,p1,p2,p3,p4,by cases args;simp_all,rfl,by simp,h0,h1,h2,h3,h4⟩)
theorem lifted (os:Os) (started:os.Started) (H:Type) (enc:TypeId × Value→H) :
  ReturnsInHanded {} Tryz.checked os 4 .any (fun w args=>(Rows.ruinSaysSpec.pre enc prog Tryz.f4 [] false w args∧laidMetH prog Rows.ruinSaysRow.laid w)∧sizedMet enc prog Tryz.f4 (OpenSpec.ofChange Rows.ruinSaysSpec) false w args)
   (Rows.ruinSaysSpec.post enc prog Tryz.f4 false true false false):=by(
refine zom (C:=Tryz.checked) own (X:=fun w _=>laidMetH prog Rows.ruinSaysRow.laid w) (fun _ _ _ hh h=>h.of_heap hh) started (by kernel_rfl) func4
 (ChangeSpec.witness_shaped (enc:=enc) (C:=Tryz.checked) (os:=os) (X:=fun w _=>laidMetH prog Rows.ruinSaysRow.laid w) false (World.doorLaid prog 400 os) #[.int .i64 0,.int .i64 0,.slice none 0 0,.int .i64 0,.agg #[.int .i64 0,.int .i64 0]] 8 rfl (World.shaped_of_RefB (by kernel_rfl) (by kernel_rfl)) (by kernel_rfl) (by kernel_rfl) (by kernel_rfl) (qix os _)) ?_
intro W base args ds gs before hval0 hW hL hsh
have hval:∀ (j:Nat) t v,Tryz.f4.params[j]? = some t→args[j]? = some v→Value.okWide prog W .any base t v:=hval0
have hW':=hW
obtain⟨p,q,hA0,hV,rfl,hfz,hnd⟩:=hW
have hA:DataW.TrodAll enc prog W 0 (fun _=>true) true Tryz.f4.params.toList args.toList ds p:=hA0
rw[params4] at hA hval
obtain⟨v0,v1,v2,v3,v4,d0,d1,d2,d3,d4,p0,p1,p2,p3,p4,rfl,rfl,rfl,h0,h1,h2,h3,h4⟩:=zqr hA
obtain⟨rfl,rfl⟩:=trodVars_none hV
obtain⟨htab,herr⟩:=qlg hL
obtain⟨mx,hmx⟩:=qhz hsh
obtain⟨k0,rfl,rfl,rfl,wk0⟩:=open_int underlying3 (hval 0 3 v0 rfl rfl) h0
obtain⟨k1,rfl,rfl,rfl,wk1⟩:=open_int underlying3 (hval 1 3 v1 rfl rfl) h1
obtain⟨qs2,hqs2,hfit2,hlt2⟩:=qgd (hval 2 41 v2 rfl rfl) h2
obtain⟨k3,rfl,rfl,rfl,wk3⟩:=open_int underlying3 (hval 3 3 v3 rfl rfl) h3
obtain⟨s4,t4,y4,z4,m4,rfl,rfl,rfl,hy4,hz4⟩:=open_agg2 underlying23 (by kernel_rfl) zyt (hval 4 23 v4 rfl rfl) h4
obtain⟨a4,ea4,rfl,wa4⟩:=DataW.trod_int underlying3 hy4
obtain⟨b4,eb4,rfl,wb4⟩:=DataW.trod_int underlying3 hz4
simp at ea4 eb4
subst ea4 eb4
clear hA0 hval0 hval hA h0 h1 h3 h4
simp only[List.append_nil,List.nil_append] at hW'
have K0:-9223372036854775808≤k0∧k0<9223372036854775808:=by have:=bounds_i64 wk0;omega
have K1:-9223372036854775808≤k1∧k1<9223372036854775808:=by have:=bounds_i64 wk1;omega
have K3:-9223372036854775808≤k3∧k3<9223372036854775808:=by have:=bounds_i64 wk3;omega
have Ba4:-9223372036854775808≤a4∧a4<9223372036854775808:=by have:=bounds_i64 wa4;omega
have Bb4:-9223372036854775808≤b4∧b4<9223372036854775808:=by have:=bounds_i64 wb4;omega
have F4:Fits (a4,b4):=⟨Ba4.1,Ba4.2,Bb4.1,Bb4.2⟩
have reads:∀ (x y:Int),(Lit.int .i64 x).wf=true→(Lit.int .i64 y).wf=true→∀ (W':World) (b:Nat) (sp:Nat→Bool) (hd:Bool),DataW.Trod enc prog W' b sp hd 23 (.agg #[.int .i64 x,.int .i64 y]) (.agg [.lit (.int .i64 x),.lit (.int .i64 y)]) []:=fun x y wx wy W' b sp hd =>
 shut_agg2 (y0:=(.lit (.int .i64 x),[])) (y1:=(.lit (.int .i64 y),[])) underlying23 (by kernel_rfl) zyt ⟨1,by simp[DataW.trod,underlying3,wx]⟩ ⟨1,by simp[DataW.trod,underlying3,wy]⟩
have key:Calls prog 4 #[.int .i64 k0,.int .i64 k1,v2,.int .i64 k3,.agg #[.int .i64 a4,.int .i64 b4]] W fun e w'=>e=.returned (.bool true)∧But [] W w':=zrh v2 qs2 k0 k1 k3 a4 b4 mx W hqs2 hfit2 F4 htab herr hmx
refine key.mono fun e W' ⟨he,hb⟩=>?_
subst he
have hbl:=hb.below
have e1:Rows.ruinSaysSpec.fn H ([.lit (.int .i64 k0),.lit (.int .i64 k1),d2,.lit (.int .i64 k3),.agg [.lit (.int .i64 a4),.lit (.int .i64 b4)]]++[])={ results:=[.lit (.bool true)],args:=[.lit (.int .i64 k0),.lit (.int .i64 k1),d2,.lit (.int .i64 k3),.agg [.lit (.int .i64 a4),.lit (.int .i64 b4)]] }:=by simp[Rows.ruinSaysSpec]
refine⟨_,rfl,_,_,_,[],[]++([]++(p2++([]++([])))),[],hW',?_,?_,?_,hbl.frame _,fun h=>by cases h⟩
·rw[e1];exact trodAll_mk1 (shut_bool underlying4 true)
·rw[e1];exact trodAll_cons_mk (shut_int underlying3 wk0) (trodAll_cons_mk (shut_int underlying3 wk1) (trodAll_cons_mk (Below.trod qig (by kernel_rfl) (of_decide_eq_true (by kernel_rfl)) h2 hbl hlt2) (trodAll_mk2 (shut_int underlying3 wk3) (reads a4 b4 wa4 wb4 _ _ _ _))))
·rw[e1];rfl)
theorem row_holds:Rows.RuinSaysSaid :=
 OpenClaim.holds_of_wide 4 Tryz.f4 rfl rfl rfl rfl rfl rfl rfl ⟨rfl,rfl,rfl,rfl,rfl⟩ rfl rfl rfl rfl rfl (by kernel_rfl) func4 (by kernel_rfl)
  (of_decide_eq_true (by kernel_rfl)) (by unfold Func.isWrapper;rw[if_neg (of_decide_eq_false (by kernel_rfl))];exact⟨rfl,rfl⟩)
  (fun os started H enc _=>lifted os started H enc)
theorem card_holds:Rows.RuinSaysCardSaid :=
 Claim7.holds_tied_plain_at .later [] [.data,.data,.data,.handle] true (true,"2221625d58b73759a792136dd4801e66192dd0f08233eec995e92b97aa677481") true
  row_holds (fun _ h=>by cases h) (by kernel_rfl) (fun _ h=>by cases h) ruinSays_row_tie rfl ⟨rfl,rfl⟩ (by kernel_rfl) rfl
  (fun f fn hf hfn=>by
   obtain rfl:f = 4:=Option.some.inj ((show prog.funcNamed "tontine/tontinelaw.RuinSays" = some 4 by kernel_rfl).symm.trans hf) |>.symm
   obtain rfl:fn=Tryz.f4:=(Option.some.inj (func4.symm.trans hfn)).symm
   exact⟨by kernel_rfl,fun j t ht=>by
    rw[params4] at ht
    rcases j with _ | _ | _ | _ | _ | j
    ·obtain rfl : 3 = t:=by simpa using ht
     exact (show prog.wantsStandIn 3 = false by kernel_rfl)
    ·obtain rfl : 3 = t:=by simpa using ht
     exact (show prog.wantsStandIn 3 = false by kernel_rfl)
    ·obtain rfl : 41 = t:=by simpa using ht
     exact (show prog.wantsStandIn 41 = false by kernel_rfl)
    ·obtain rfl : 3 = t:=by simpa using ht
     exact (show prog.wantsStandIn 3 = false by kernel_rfl)
    ·obtain rfl : 23 = t:=by simpa using ht
     exact (show prog.wantsStandIn 23 = false by kernel_rfl)
    ·simp at ht⟩)
  (by kernel_rfl)
#print axioms card_holds
end Go.Proofs.YtagmkkiagjmimaaGreatDoor
