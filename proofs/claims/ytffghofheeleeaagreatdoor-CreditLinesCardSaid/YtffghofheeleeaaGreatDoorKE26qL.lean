/- CreditLines: at every three rows of pairs (chances, means, spreads of kinds), every number of years and every line, the law (the best line, and how much a line says amiss, with their errors, are those that the document's own reckoning answers) answers true and leaves its arguments as they were: the row, and the card that ties the listed variables to the program's text. -/
import Derived.Test.YtffghofheeleeaaGreatDoorKKLiqL
namespace Go.Proofs.YtffghofheeleeaaGreatDoor
open Go.Proofs.Tryz
open Go.ChangeShapes Go.WideShapes Go.ChangeAt Go.RowKit Go.Joins
set_option maxRecDepth 100000
set_option linter.unusedVariables false
theorem zsg (os:Os) (args:Array Value):laidMetH prog Rows.creditLinesRow.laid ((World.doorLaid prog 400 os).forCall (fun _ _=>0) ⟨#[],args,[]⟩).memory :=
 laidMetH_of_parts3 (fuel:=8) (laidMet_of_run' 8 (by kernel_rfl) (by kernel_rfl)) (by kernel_rfl) (by kernel_rfl)
theorem zvj {H:Type} {enc:TypeId × Value→H} {P:Program} {w:World} {base:Nat} {spare:Nat→Bool} {held:Bool} {t0 t1 t2 t3 t4 t5:TypeId} {args:Array Value} {ds:List (DataW H)} {ps:List MemPlace} (h:DataW.TrodAll enc P w base spare held [t0,t1,t2,t3,t4,t5] args.toList ds ps) :
  ∃ v0 v1 v2 v3 v4 v5 d0 d1 d2 d3 d4 d5 p0 p1 p2 p3 p4 p5,args=#[v0,v1,v2,v3,v4,v5]∧ds=[d0,d1,d2,d3,d4,d5]∧ps=p0++(p1++(p2++(p3++(p4++(p5)))))∧DataW.Trod enc P w base spare held t0 v0 d0 p0∧DataW.Trod enc P w base spare held t1 v1 d1 p1∧DataW.Trod enc P w base spare held t2 v2 d2 p2∧DataW.Trod enc P w base spare held t3 v3 d3 p3∧DataW.Trod enc P w base spare held t4 v4 d4 p4∧DataW.Trod enc P w base spare held t5 v5 d5 p5:=by
 obtain⟨v0,vs0,d0,ds0,p0,q0,hargs,rfl,rfl,h0,r0⟩:=trodAll_cons h
 obtain⟨v1,vs1,d1,ds1,p1,q1,rfl,rfl,rfl,h1,r1⟩:=trodAll_cons r0
 obtain⟨v2,vs2,d2,ds2,p2,q2,rfl,rfl,rfl,h2,r2⟩:=trodAll_cons r1
 obtain⟨v3,vs3,d3,ds3,p3,q3,rfl,rfl,rfl,h3,r3⟩:=trodAll_cons r2
 obtain⟨v4,vs4,d4,ds4,p4,q4,rfl,rfl,rfl,h4,r4⟩:=trodAll_cons r3
 obtain⟨v5,vs5,d5,ds5,p5,q5,rfl,rfl,rfl,h5,r5⟩:=trodAll_cons r4
 obtain⟨rfl,rfl,rfl⟩:=trodAll_nil r5
 exact⟨v0,v1,v2,v3,v4,v5,d0,d1,d2,d3,d4,d5,p0,p1,p2,p3,p4,p5,by cases args;simp_all,rfl,by simp,h0,h1,h2,h3,h4,h5⟩
theorem lifted (os:Os) (started:os.Started) (H:Type) (enc:TypeId × Value→H) :
  ReturnsInHanded {} Tryz.checked os 4 .any (fun w args=>(Rows.creditLinesSpec.pre enc prog Tryz.f4 [] false w args∧laidMetH prog Rows.creditLinesRow.laid w)∧sizedMet enc prog Tryz.f4 (OpenSpec.ofChange Rows.creditLinesSpec) false w args)
   (Rows.creditLinesSpec.post enc prog Tryz.f4 false true false false):=by
 refine returnsInHanded_of_change_and (C:=Tryz.checked) (X:=fun w _=>laidMetH prog Rows.creditLinesRow.laid w) (fun _ _ _ hh h=>h.of_heap hh) own started (by kernel_rfl) func4
  (ChangeSpec.witness_shaped (enc:=enc) (C:=Tryz.checked) (os:=os) (X:=fun w _=>laidMetH prog Rows.creditLinesRow.laid w) false (World.doorLaid prog 400 os) #[.slice none 0 0,.slice none 0 0,.slice none 0 0,.int .i64 0,.agg #[.int .i64 0,.int .i64 0],.agg #[.int .i64 0,.int .i64 0]] 8 rfl (World.shaped_of_RefB (by kernel_rfl) (by kernel_rfl)) (by kernel_rfl) (by kernel_rfl) (by kernel_rfl) (zsg os _)) ?_
 intro W base args ds gs before hval0 hW _ _ hL _
 have hval:∀ (j:Nat) t v,Tryz.f4.params[j]? = some t→args[j]? = some v→Value.okWide prog W .any base t v:=hval0
 have hW':=hW
 obtain⟨p,q,hA0,hV,rfl,hfz,hnd⟩:=hW
 have hA:DataW.TrodAll enc prog W 0 (fun _=>true) true Tryz.f4.params.toList args.toList ds p:=hA0
 rw[params4] at hA hval
 obtain⟨v0,v1,v2,v3,v4,v5,d0,d1,d2,d3,d4,d5,p0,p1,p2,p3,p4,p5,rfl,rfl,rfl,h0,h1,h2,h3,h4,h5⟩:=zvj hA
 obtain⟨rfl,rfl⟩:=trodVars_none hV
 obtain⟨htab,herr⟩:=zwh hL
 obtain⟨qs0,hqs0,hfit0,hlt0⟩:=zrb (hval 0 41 v0 rfl rfl) h0
 obtain⟨qs1,hqs1,hfit1,hlt1⟩:=zrb (hval 1 41 v1 rfl rfl) h1
 obtain⟨qs2,hqs2,hfit2,hlt2⟩:=zrb (hval 2 41 v2 rfl rfl) h2
 obtain⟨k3,rfl,rfl,rfl,wk3⟩:=open_int underlying3 (hval 3 3 v3 rfl rfl) h3
 obtain⟨s4,t4,y4,z4,m4,rfl,rfl,rfl,hy4,hz4⟩:=open_agg2 underlying23 (by kernel_rfl) znt (hval 4 23 v4 rfl rfl) h4
 obtain⟨a4,ea4,rfl,wa4⟩:=DataW.trod_int underlying3 hy4
 obtain⟨b4,eb4,rfl,wb4⟩:=DataW.trod_int underlying3 hz4
 simp at ea4 eb4
 subst ea4 eb4
 obtain⟨s5,t5,y5,z5,m5,rfl,rfl,rfl,hy5,hz5⟩:=open_agg2 underlying23 (by kernel_rfl) znt (hval 5 23 v5 rfl rfl) h5
 obtain⟨a5,ea5,rfl,wa5⟩:=DataW.trod_int underlying3 hy5
 obtain⟨b5,eb5,rfl,wb5⟩:=DataW.trod_int underlying3 hz5
 simp at ea5 eb5
 subst ea5 eb5
 clear hA0 hval0 hval hA h3 h4 h5
 simp only[List.append_nil] at hW'
 have K3:-9223372036854775808≤k3∧k3<9223372036854775808:=by have:=bounds_i64 wk3;omega
 have Ba4:-9223372036854775808≤a4∧a4<9223372036854775808:=by have:=bounds_i64 wa4;omega
 have Bb4:-9223372036854775808≤b4∧b4<9223372036854775808:=by have:=bounds_i64 wb4;omega
 have F4:Fits (a4,b4):=⟨Ba4.1,Ba4.2,Bb4.1,Bb4.2⟩
 have Ba5:-9223372036854775808≤a5∧a5<9223372036854775808:=by have:=bounds_i64 wa5;omega
 have Bb5:-9223372036854775808≤b5∧b5<9223372036854775808:=by have:=bounds_i64 wb5;omega
 have F5:Fits (a5,b5):=⟨Ba5.1,Ba5.2,Bb5.1,Bb5.2⟩
 have reads:∀ (x y:Int),(Lit.int .i64 x).wf=true→(Lit.int .i64 y).wf=true→∀ (W':World) (b:Nat) (sp:Nat→Bool) (hd:Bool),DataW.Trod enc prog W' b sp hd 23 (.agg #[.int .i64 x,.int .i64 y]) (.agg [.lit (.int .i64 x),.lit (.int .i64 y)]) []:=fun x y wx wy W' b sp hd =>
  shut_agg2 (y0:=(.lit (.int .i64 x),[])) (y1:=(.lit (.int .i64 y),[])) underlying23 (by kernel_rfl) znt ⟨1,by simp[DataW.trod,underlying3,wx]⟩ ⟨1,by simp[DataW.trod,underlying3,wy]⟩
 have key:Calls prog 4 #[v0,v1,v2,.int .i64 k3,.agg #[.int .i64 a4,.int .i64 b4],.agg #[.int .i64 a5,.int .i64 b5]] W fun e w'=>e=.returned (.bool true)∧But [] W w':=zpd v0 v1 v2 qs0 qs1 qs2 k3 a4 b4 a5 b5 W hqs0 hqs1 hqs2 hfit0 hfit1 hfit2 F4 F5 htab herr
 refine key.mono fun e W' ⟨he,hb⟩=>?_
 subst he
 have hbl:=hb.below
 have e1:Rows.creditLinesSpec.fn H ([d0,d1,d2,.lit (.int .i64 k3),.agg [.lit (.int .i64 a4),.lit (.int .i64 b4)],.agg [.lit (.int .i64 a5),.lit (.int .i64 b5)]]++[])={ results:=[.lit (.bool true)],args:=[d0,d1,d2,.lit (.int .i64 k3),.agg [.lit (.int .i64 a4),.lit (.int .i64 b4)],.agg [.lit (.int .i64 a5),.lit (.int .i64 b5)]] }:=by simp[Rows.creditLinesSpec]
 refine⟨_,rfl,_,_,_,[],p0++(p1++(p2++([]++([]++([]))))),[],hW',?_,?_,?_,hbl.frame _,fun h=>by cases h⟩
 ·rw[e1];exact trodAll_mk1 (shut_bool underlying4 true)
 ·rw[e1];exact trodAll_cons_mk (Below.trod zix (by kernel_rfl) (of_decide_eq_true (by kernel_rfl)) h0 hbl hlt0) (trodAll_cons_mk (Below.trod zix (by kernel_rfl) (of_decide_eq_true (by kernel_rfl)) h1 hbl hlt1) (trodAll_cons_mk (Below.trod zix (by kernel_rfl) (of_decide_eq_true (by kernel_rfl)) h2 hbl hlt2) (trodAll_cons_mk (shut_int underlying3 wk3) (trodAll_mk2 (reads a4 b4 wa4 wb4 _ _ _ _) (reads a5 b5 wa5 wb5 _ _ _ _)))))
 ·rw[e1];rfl
theorem row_holds:Rows.CreditLinesSaid :=
 OpenClaim.holds_of_wide 4 Tryz.f4 rfl rfl rfl rfl rfl rfl rfl ⟨rfl,rfl,rfl,rfl,rfl⟩ rfl rfl rfl rfl rfl (by kernel_rfl) func4 (by kernel_rfl)
  (of_decide_eq_true (by kernel_rfl)) (by unfold Func.isWrapper;rw[if_neg (of_decide_eq_false (by kernel_rfl))];exact⟨rfl,rfl⟩)
  (fun os started H enc _=>lifted os started H enc)
theorem card_holds:Rows.CreditLinesCardSaid :=
 Claim7.holds_tied_plain_at .later [] [.data,.data,.data,.handle] true (true,"bb9be459c00949d529a805c48f836a04e89c244f1ea2bb0e7312d076c5b504a5") true
  row_holds (fun _ h=>by cases h) (by kernel_rfl) (fun _ h=>by cases h) creditLines_row_tie rfl ⟨rfl,rfl⟩ (by kernel_rfl) rfl
  (fun f fn hf hfn=>by
   obtain rfl:f = 4:=Option.some.inj ((show prog.funcNamed "tontine/tontinelaw.CreditLines" = some 4 by kernel_rfl).symm.trans hf) |>.symm
   obtain rfl:fn=Tryz.f4:=(Option.some.inj (func4.symm.trans hfn)).symm
   exact⟨by kernel_rfl,fun j t ht=>by
    rw[params4] at ht
    rcases j with _ | _ | _ | _ | _ | _ | j
    ·obtain rfl : 41 = t:=by simpa using ht
     exact (show prog.wantsStandIn 41 = false by kernel_rfl)
    ·obtain rfl : 41 = t:=by simpa using ht
     exact (show prog.wantsStandIn 41 = false by kernel_rfl)
    ·obtain rfl : 41 = t:=by simpa using ht
     exact (show prog.wantsStandIn 41 = false by kernel_rfl)
    ·obtain rfl : 3 = t:=by simpa using ht
     exact (show prog.wantsStandIn 3 = false by kernel_rfl)
    ·obtain rfl : 23 = t:=by simpa using ht
     exact (show prog.wantsStandIn 23 = false by kernel_rfl)
    ·obtain rfl : 23 = t:=by simpa using ht
     exact (show prog.wantsStandIn 23 = false by kernel_rfl)
    ·simp at ht⟩)
  (by kernel_rfl)
#print axioms card_holds
end Go.Proofs.YtffghofheeleeaaGreatDoor
