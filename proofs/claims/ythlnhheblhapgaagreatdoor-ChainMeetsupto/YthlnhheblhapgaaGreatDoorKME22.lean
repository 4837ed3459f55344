/- ChainMeets, where what it reads is of the bulk that the second statement bears: at every years of rows of pairs, every row of pairs and every four numbers the law (Chapman and Kolmogorov: over a time between one comes where one comes at once; chances stay one together; to have been somewhere is no less likely than to be there) answers true and leaves its arguments as they were: the row, and the card that ties the listed variables to the program's text. -/
import Derived.Deep.DeepWitnessRowRef
import Derived.Test.YthlnhheblhapgaaGreatDoorKMEK
import Derived.Test.YthlnhheblhapgaaGreatDoorKMGX
namespace Go.Proofs.YthlnhheblhapgaaGreatDoor
open Go.ChangeShapes Go.WideShapes Go.ChangeAt Go.RowKit Go.Joins
set_option maxRecDepth 100000
set_option linter.unusedVariables false
theorem trodAll_six {H:Type} {enc:TypeId × Value→H} {P:Program} {w:World} {base:Nat} {spare:Nat→Bool} {held:Bool} {t0 t1 t2 t3 t4 t5:TypeId} {args:Array Value} {ds:List (DataW H)} {ps:List MemPlace} (h:DataW.TrodAll enc P w base spare held [t0,t1,t2,t3,t4,t5] args.toList ds ps) :
  ∃ v0 v1 v2 v3 v4 v5 d0 d1 d2 d3 d4 d5 p0 p1 p2 p3 p4 p5,args=#[v0,v1,v2,v3,v4,v5]∧ds=[d0,d1,d2,d3,d4,d5]∧ps=p0++(p1++(p2++(p3++(p4++p5))))∧DataW.Trod enc P w base spare held t0 v0 d0 p0∧DataW.Trod enc P w base spare held t1 v1 d1 p1∧DataW.Trod enc P w base spare held t2 v2 d2 p2∧DataW.Trod enc P w base spare held t3 v3 d3 p3∧DataW.Trod enc P w base spare held t4 v4 d4 p4∧DataW.Trod enc P w base spare held t5 v5 d5 p5:=by
 obtain ⟨v0,vs0,d0,ds0,p0,q0,hargs,rfl,rfl,h0,r0⟩:=trodAll_cons h
 obtain ⟨v1,vs1,d1,ds1,p1,q1,rfl,rfl,rfl,h1,r1⟩:=trodAll_cons r0
 obtain ⟨v2,vs2,d2,ds2,p2,q2,rfl,rfl,rfl,h2,r2⟩:=trodAll_cons r1
 obtain ⟨v3,vs3,d3,ds3,p3,q3,rfl,rfl,rfl,h3,r3⟩:=trodAll_cons r2
 obtain ⟨v4,vs4,d4,ds4,p4,q4,rfl,rfl,rfl,h4,r4⟩:=trodAll_cons r3
 obtain ⟨v5,vs5,d5,ds5,p5,q5,rfl,rfl,rfl,h5,r5⟩:=trodAll_cons r4
 obtain ⟨rfl,rfl,rfl⟩:=trodAll_nil r5
 exact ⟨v0,v1,v2,v3,v4,v5,d0,d1,d2,d3,d4,d5,p0,p1,p2,p3,p4,p5,by cases args;simp_all,rfl,by simp,h0,h1,h2,h3,h4,h5⟩
theorem door_met (os:Os) (args:Array Value):laidMetH Tryz.prog Rows.chainMeetsUptoRow.laid ((World.doorLaid Tryz.prog 400 os).forCall (fun _ _=>0) ⟨#[],args,[]⟩).memory :=
 laidMetH_of_parts3 (fuel:=8) (laidMet_of_run' 8 (by kernel_rfl) (by kernel_rfl)) (by kernel_rfl) (by kernel_rfl)
theorem pairs_in2 {H:Type} {enc:TypeId × Value→H} {W:World} {v:Value} {d:DataW H} {ps:List MemPlace} (hval:Value.okWide Tryz.prog W .any 0 23 v) (h:DataW.Trod enc Tryz.prog W 0 (fun _=>true) true 23 v d ps) :
  ∃ qs:List (Int × Int),QsAt W v qs∧(∀ q ∈ qs,Fits q)∧(∀ x ∈ ps,x.block<W.heap.size)∧qs.length+1≤Rows.uptoBulk d:=by
 obtain ⟨a,len,cap,rfl⟩:=okWide_slice Tryz.underlying23 hval
 obtain ⟨fuel,hf⟩:=h
 exact pairs_inT hf
theorem contract (H:Type) (enc:TypeId × Value→H) (W:World) (base:Nat) (args:Array Value) (ds gs:List (DataW H)) (before:List MemPlace)
  (hval0:∀ (j:Nat) t v,Tryz.f3.params[j]? = some t→args[j]? = some v→Value.okWide Tryz.prog W .any base t v)
  (hW:DataW.Whole enc Tryz.prog Tryz.f3.params.toList Rows.chainMeetsSpec.vars false W args.toList ds gs before) (hk:Rows.uptoSmall H (ds++gs)=true) (hL:laidMetH Tryz.prog Rows.chainMeetsUptoRow.laid W) (hsh:W.ShapedOpen Tryz.prog) :
  Calls Tryz.prog 3 args W fun e W'=>∃ v,e=.returned v∧Rows.chainMeetsSpec.post enc Tryz.prog Tryz.f3 false true false false W args v W':=by
 have hval:∀ (j:Nat) t v,Tryz.f3.params[j]? = some t→args[j]? = some v→Value.okWide Tryz.prog W .any base t v:=hval0
 have hW':=hW
 obtain ⟨p,q,hA0,hV,rfl,hfz,hnd⟩:=hW
 have hA:DataW.TrodAll enc Tryz.prog W 0 (fun _=>true) true Tryz.f3.params.toList args.toList ds p:=hA0
 rw [Tryz.params3] at hA hval
 obtain ⟨v0,v1,v2,v3,v4,v5,d0,d1,d2,d3,d4,d5,p0,p1,p2,p3,p4,p5,rfl,rfl,rfl,h0,h1,h2,h3,h4,h5⟩:=trodAll_six hA
 obtain ⟨rfl,rfl⟩:=trodVars_none hV
 obtain ⟨y2,rfl,rfl,rfl,w2⟩:=open_int Tryz.underlying3 (hval 2 3 v2 rfl rfl) h2
 obtain ⟨y3,rfl,rfl,rfl,w3⟩:=open_int Tryz.underlying3 (hval 3 3 v3 rfl rfl) h3
 obtain ⟨y4,rfl,rfl,rfl,w4⟩:=open_int Tryz.underlying3 (hval 4 3 v4 rfl rfl) h4
 obtain ⟨y5,rfl,rfl,rfl,w5⟩:=open_int Tryz.underlying3 (hval 5 3 v5 rfl rfl) h5
 obtain ⟨htab,herr⟩:=of_laid hL
 obtain ⟨mx,hmx⟩:=max_some hsh
 obtain ⟨rss,hrs,hf0,hl0,hb0⟩:=years_in (hval 0 22 v0 rfl rfl) h0
 obtain ⟨qs,hqs,hf1,hl1,hb1⟩:=pairs_in2 (hval 1 23 v1 rfl rfl) h1
 clear hA0 hval0 hval h2 h3 h4 h5 hA
 have hB:=of_decide_eq_true (show decide _=true from hk)
 simp only [List.cons_append,List.nil_append,Rows.uptoBulkAll] at hB
 simp only [List.append_nil] at hW'
 have B2:-9223372036854775808≤y2∧y2<9223372036854775808:=by have:=bounds_i64 w2;omega
 have B3:-9223372036854775808≤y3∧y3<9223372036854775808:=by have:=bounds_i64 w3;omega
 have B4:-9223372036854775808≤y4∧y4<9223372036854775808:=by have:=bounds_i64 w4;omega
 have B5:-9223372036854775808≤y5∧y5<9223372036854775808:=by have:=bounds_i64 w5;omega
 have rint:∀ (x:Int),(Lit.int .i64 x).wf=true→∀ (W':World) (b:Nat) (sp:Nat→Bool) (hd:Bool),DataW.Trod enc Tryz.prog W' b sp hd 3 (.int .i64 x) (.lit (.int .i64 x)) []:=fun x wx W' b sp hd=>shut_int Tryz.underlying3 wx
 have key:Calls Tryz.prog 3 #[v0,v1,.int .i64 y2,.int .i64 y3,.int .i64 y4,.int .i64 y5] W fun e w'=>e=.returned (.bool true)∧But [] W w':=chainMeets_any v0 rss v1 qs y2 y3 y4 y5 mx W hrs (by omega) hqs hf0 hf1 B2 B3 B4 B5 herr htab hmx
 refine key.mono fun e W' ⟨he,hb⟩=>?_
 subst he
 have hbl:=hb.below
 have e1:Rows.chainMeetsSpec.fn H ([d0,d1,.lit (.int .i64 y2),.lit (.int .i64 y3),.lit (.int .i64 y4),.lit (.int .i64 y5)]++[])={ results:=[.lit (.bool true)],args:=[d0,d1,.lit (.int .i64 y2),.lit (.int .i64 y3),.lit (.int .i64 y4),.lit (.int .i64 y5)] }:=by simp [Rows.chainMeetsSpec]
 refine ⟨_,rfl,_,_,_,[],p0++(p1++([]++([]++([]++[])))),[],hW',?_,?_,?_,hbl.frame _,fun h=>by cases h⟩
 ·rw [e1];exact trodAll_mk1 (shut_bool Tryz.underlying4 true)
 ·rw [e1];exact trodAll_cons_mk (Below.trod laid_out (by kernel_rfl) (of_decide_eq_true (by kernel_rfl)) h0 hbl hl0) (trodAll_cons_mk (Below.trod laid_out (by kernel_rfl) (of_decide_eq_true (by kernel_rfl)) h1 hbl hl1) (trodAll_cons_mk (rint y2 w2 _ _ _ _) (trodAll_cons_mk (rint y3 w3 _ _ _ _) (trodAll_mk2 (rint y4 w4 _ _ _ _) (rint y5 w5 _ _ _ _)))))
 ·rw [e1];rfl
theorem reads_door (os:Os) {H:Type} (enc:TypeId × Value→H):∃ places,DataW.whole enc Tryz.prog ((World.doorLaid Tryz.prog 400 os).forCall (fun _ _=>0) ⟨#[],#[.slice none 0 0,.slice none 0 0,.int .i64 0,.int .i64 0,.int .i64 0,.int .i64 0],[]⟩).memory Tryz.f3.params.toList Rows.chainMeetsSpec.vars false (#[.slice none 0 0,.slice none 0 0,.int .i64 0,.int .i64 0,.int .i64 0,.int .i64 0]:Array Value).toList 8=some ([.nil,.nil,.lit (.int .i64 0),.lit (.int .i64 0),.lit (.int .i64 0),.lit (.int .i64 0)],[],places) :=
 ⟨[],by kernel_rfl⟩
theorem liftedUpto (os:Os) (started:os.Started) (H:Type) (enc:TypeId × Value→H) (F:Stop.Interp) :
  ReturnsInHanded {} Tryz.checked os 3 .any ((Rows.OpenSpec.upto Rows.chainMeetsSpec).preRow enc Tryz.prog Tryz.f3 Rows.chainMeetsUptoRow.domain false Rows.chainMeetsUptoRow.laid) (((Rows.OpenSpec.upto Rows.chainMeetsSpec).at F).post enc Tryz.prog Tryz.f3 false true false false):=by
 obtain ⟨places,hx⟩:=reads_door os enc
 refine returnsInHanded_of_row (C:=Tryz.checked) (s:=Rows.OpenSpec.upto Rows.chainMeetsSpec) own started (by kernel_rfl) Tryz.func3
  (witness_row_atRef (enc:=enc) (C:=Tryz.checked) false (World.doorLaid Tryz.prog 400 os) #[.slice none 0 0,.slice none 0 0,.int .i64 0,.int .i64 0,.int .i64 0,.int .i64 0] rfl (by kernel_rfl) (by kernel_rfl) (by kernel_rfl)
   (OpenSpec.preRow_of_cond 8 hx (by kernel_rfl) (fun k hk=>by cases hk;kernel_rfl) (by kernel_rfl) (door_met os _))) ?_
 intro W base args ds gs before hval hW _ hcond _ hL hsh _
 exact contract H enc W base args ds gs before hval hW (hcond _ rfl) hL hsh
theorem row_holds:Rows.ChainMeetsUptoSaid :=
 OpenClaim.holds_of_cond 3 Tryz.f3 rfl rfl rfl rfl rfl rfl rfl ⟨rfl,rfl,rfl,rfl,rfl⟩ rfl rfl rfl rfl rfl (by kernel_rfl) Tryz.func3 (by kernel_rfl)
  (of_decide_eq_true (by kernel_rfl)) (by unfold Func.isWrapper;rw [if_neg (of_decide_eq_false (by kernel_rfl))];exact ⟨rfl,rfl⟩)
  (fun os started H enc _ F=>by rw [OpenClaim.pre_eq_preRow];exact liftedUpto os started H enc F)
theorem card_holds:Rows.ChainMeetsUptoCardSaid :=
 Claim7.holds_tied_plain_at .later [] [.data,.data,.data,.handle] true (true,"a68458ada5990ec567d1b02b5973e576566b4c0747d28ad5f3d0a04ce866ff71") true
  row_holds (fun _ h=>by cases h) (by kernel_rfl) (fun _ h=>by cases h) chainMeetsUpto_row_tie rfl ⟨rfl,rfl⟩ (by kernel_rfl) rfl
  (fun f fn hf hfn=>by
   obtain rfl:f = 3:=Option.some.inj ((show Tryz.prog.funcNamed "tontine/tontinekeep.ChainMeets" = some 3 by kernel_rfl).symm.trans hf) |>.symm
   obtain rfl:fn=Tryz.f3:=(Option.some.inj (Tryz.func3.symm.trans hfn)).symm
   exact ⟨by kernel_rfl,fun j t ht=>by
    rw [Tryz.params3] at ht
    rcases j with _ | _ | _ | _ | _ | _ | j
    ·obtain rfl : 22 = t:=by simpa using ht
     exact (show Tryz.prog.wantsStandIn 22 = false by kernel_rfl)
    ·obtain rfl : 23 = t:=by simpa using ht
     exact (show Tryz.prog.wantsStandIn 23 = false by kernel_rfl)
    ·obtain rfl : 3 = t:=by simpa using ht
     exact (show Tryz.prog.wantsStandIn 3 = false by kernel_rfl)
    ·obtain rfl : 3 = t:=by simpa using ht
     exact (show Tryz.prog.wantsStandIn 3 = false by kernel_rfl)
    ·obtain rfl : 3 = t:=by simpa using ht
     exact (show Tryz.prog.wantsStandIn 3 = false by kernel_rfl)
    ·obtain rfl : 3 = t:=by simpa using ht
     exact (show Tryz.prog.wantsStandIn 3 = false by kernel_rfl)
    ·simp at ht⟩)
  (by kernel_rfl)
#print axioms card_holds
end Go.Proofs.YthlnhheblhapgaaGreatDoor
