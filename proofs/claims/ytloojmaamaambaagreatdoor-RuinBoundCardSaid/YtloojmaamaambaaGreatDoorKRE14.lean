/- RuinBound: at every start, income, law ( -/
import Derived.Test.YtloojmaamaambaaGreatDoorKRIW
namespace Go.Proofs.YtloojmaamaambaaGreatDoor
open Go.ChangeShapes Go.WideShapes Go.ChangeAt Go.RowKit Go.Joins
set_option maxRecDepth 100000
set_option linter.unusedVariables false
theorem trodAll_five {H:Type} {enc:TypeId × Value→H} {P:Program} {w:World} {base:Nat} {spare:Nat→Bool} {held:Bool} {t0 t1 t2 t3 t4:TypeId} {args:Array Value} {ds:List (DataW H)} {ps:List MemPlace} (h:DataW.TrodAll enc P w base spare held [t0,t1,t2,t3,t4] args.toList ds ps) :
  ∃ v0 v1 v2 v3 v4 d0 d1 d2 d3 d4 p0 p1 p2 p3 p4,args=#[v0,v1,v2,v3,v4]∧ds=[d0,d1,d2,d3,d4]∧ps=p0++(p1++(p2++(p3++p4)))∧DataW.Trod enc P w base spare held t0 v0 d0 p0∧DataW.Trod enc P w base spare held t1 v1 d1 p1∧DataW.Trod enc P w base spare held t2 v2 d2 p2∧DataW.Trod enc P w base spare held t3 v3 d3 p3∧DataW.Trod enc P w base spare held t4 v4 d4 p4:=by
 obtain ⟨v0,vs0,d0,ds0,p0,q0,hargs,rfl,rfl,h0,r0⟩:=trodAll_cons h
 obtain ⟨v1,vs1,d1,ds1,p1,q1,rfl,rfl,rfl,h1,r1⟩:=trodAll_cons r0
 obtain ⟨v2,vs2,d2,ds2,p2,q2,rfl,rfl,rfl,h2,r2⟩:=trodAll_cons r1
 obtain ⟨v3,vs3,d3,ds3,p3,q3,rfl,rfl,rfl,h3,r3⟩:=trodAll_cons r2
 obtain ⟨v4,vs4,d4,ds4,p4,q4,rfl,rfl,rfl,h4,r4⟩:=trodAll_cons r3
 obtain ⟨rfl,rfl,rfl⟩:=trodAll_nil r4
 exact ⟨v0,v1,v2,v3,v4,d0,d1,d2,d3,d4,p0,p1,p2,p3,p4,by cases args;simp_all,rfl,by simp,h0,h1,h2,h3,h4⟩
theorem of_laid3 {W:World} (h:laidMetH Tryz.prog [("math/bits.deBruijn32tab",Rows.laid_math_bits_deBruijn32tab),("math/bits.deBruijn64tab",Rows.laid_math_bits_deBruijn64tab),("internal/strconv.uint64pow10",Rows.laid_internal_strconv_uint64pow10)] W):Lib.TabIs Tryz.prog W "internal/strconv.uint64pow10" .u64 Lib.pow10Tab:=by
 have h':laidMet Tryz.prog [("math/bits.deBruijn32tab",Rows.laid_math_bits_deBruijn32tab),("math/bits.deBruijn64tab",Rows.laid_math_bits_deBruijn64tab),("internal/strconv.uint64pow10",Rows.laid_internal_strconv_uint64pow10)] W:=h
 obtain ⟨ps,⟨g0,t0,cs0,f0,p0,q0,-,-,-,-,⟨g1,t1,cs1,f1,p1,q1,-,-,-,-,⟨g2,t2,cs2,f2,p2,q2,hg2,ht2,hv2,hd2,-,-⟩,-⟩,-⟩,-⟩:=h'
 obtain rfl:=Option.some.inj (gPow.symm.trans hg2)
 obtain rfl:=Option.some.inj (tPow.symm.trans ht2)
 rw [powData] at hd2
 unfold Lib.TabIs
 rw [hv2,← Lib.cells_of_tab Tryz.underlying267 Tryz.underlying26 cells1 cells20 hd2]
theorem door_met (os:Os) (args:Array Value):laidMetH Tryz.prog Rows.ruinBoundRow.laid ((World.doorLaid Tryz.prog 400 os).forCall (fun _ _=>0) ⟨#[],args,[]⟩).memory :=
 laidMetH_of_parts3 (fuel:=8) (laidMet_of_run' 8 (by kernel_rfl) (by kernel_rfl)) (by kernel_rfl) (by kernel_rfl)
theorem lifted (os:Os) (started:os.Started) (H:Type) (enc:TypeId × Value→H) :
  ReturnsInHanded {} Tryz.checked os 7 .any (fun w args=>(Rows.ruinBoundSpec.pre enc Tryz.prog Tryz.f7 [] false w args∧laidMetH Tryz.prog Rows.ruinBoundRow.laid w)∧sizedMet enc Tryz.prog Tryz.f7 (OpenSpec.ofChange Rows.ruinBoundSpec) false w args)
   (Rows.ruinBoundSpec.post enc Tryz.prog Tryz.f7 false true false false):=by
 refine returns_shape (C:=Tryz.checked) own (X:=fun w _=>laidMetH Tryz.prog Rows.ruinBoundRow.laid w) (fun _ _ _ hh h=>h.of_heap hh) started (by kernel_rfl) Tryz.func7
  (ChangeSpec.witness_shaped (enc:=enc) (C:=Tryz.checked) (os:=os) (X:=fun w _=>laidMetH Tryz.prog Rows.ruinBoundRow.laid w) false (World.doorLaid Tryz.prog 400 os) #[.int .i64 0,.int .i64 0,.slice none 0 0,.int .i64 0,.int .i64 0] 8 rfl (World.shaped_of_RefB (by kernel_rfl) (by kernel_rfl)) (by kernel_rfl) (by kernel_rfl) (by kernel_rfl) (door_met os _)) ?_
 intro W base args ds gs before hval0 hW hL hsh
 have hval:∀ (j:Nat) t v,Tryz.f7.params[j]? = some t→args[j]? = some v→Value.okWide Tryz.prog W .any base t v:=hval0
 have hW':=hW
 obtain ⟨p,q,hA0,hV,rfl,hfz,hnd⟩:=hW
 have hA:DataW.TrodAll enc Tryz.prog W 0 (fun _=>true) true Tryz.f7.params.toList args.toList ds p:=hA0
 rw [Tryz.params7] at hA hval
 obtain ⟨v0,v1,v2,v3,v4,d0,d1,d2,d3,d4,p0,p1,p2,p3,p4,rfl,rfl,rfl,h0,h1,h2,h3,h4⟩:=trodAll_five hA
 obtain ⟨rfl,rfl⟩:=trodVars_none hV
 obtain ⟨sx,rfl,rfl,rfl,ws⟩:=open_int Tryz.underlying3 (hval 0 3 v0 rfl rfl) h0
 obtain ⟨ix,rfl,rfl,rfl,wi'⟩:=open_int Tryz.underlying3 (hval 1 3 v1 rfl rfl) h1
 obtain ⟨yx,rfl,rfl,rfl,wy⟩:=open_int Tryz.underlying3 (hval 3 3 v3 rfl rfl) h3
 obtain ⟨bx,rfl,rfl,rfl,wb⟩:=open_int Tryz.underlying3 (hval 4 3 v4 rfl rfl) h4
 have htab:=of_laid3 hL
 obtain ⟨mx,hmx⟩:=max_some hsh
 obtain ⟨qs,hqs,hfit,hlt⟩:=pairs_in (hval 2 24 v2 rfl rfl) h2
 clear hA0 hval0 hval h0 h1 h3 h4 hA
 simp only [List.append_nil,List.nil_append] at hW'
 have Bs:-9223372036854775808≤sx∧sx<9223372036854775808:=by have:=bounds_i64 ws;omega
 have Bi:-9223372036854775808≤ix∧ix<9223372036854775808:=by have:=bounds_i64 wi';omega
 have By:-9223372036854775808≤yx∧yx<9223372036854775808:=by have:=bounds_i64 wy;omega
 have Bb:-9223372036854775808≤bx∧bx<9223372036854775808:=by have:=bounds_i64 wb;omega
 have rint:∀ (x:Int),(Lit.int .i64 x).wf=true→∀ (W':World) (b:Nat) (sp:Nat→Bool) (hd:Bool),DataW.Trod enc Tryz.prog W' b sp hd 3 (.int .i64 x) (.lit (.int .i64 x)) []:=fun x wx W' b sp hd=>shut_int Tryz.underlying3 wx
 have key:Calls Tryz.prog 7 #[.int .i64 sx,.int .i64 ix,v2,.int .i64 yx,.int .i64 bx] W fun e w'=>e=.returned (.bool true)∧But [] W w':=bound_any v2 qs sx ix yx bx Bs Bi By Bb mx W hqs hfit htab hmx
 refine key.mono fun e W' ⟨he,hb⟩=>?_
 subst he
 have hbl:=hb.below
 have e1:Rows.ruinBoundSpec.fn H ([.lit (.int .i64 sx),.lit (.int .i64 ix),d2,.lit (.int .i64 yx),.lit (.int .i64 bx)]++[])={ results:=[.lit (.bool true)],args:=[.lit (.int .i64 sx),.lit (.int .i64 ix),d2,.lit (.int .i64 yx),.lit (.int .i64 bx)] }:=by simp [Rows.ruinBoundSpec]
 refine ⟨_,rfl,_,_,_,[],[]++([]++(p2++([]++[]))),[],hW',?_,?_,?_,hbl.frame _,fun h=>by cases h⟩
 ·rw [e1];exact trodAll_mk1 (shut_bool Tryz.underlying4 true)
 ·rw [e1];exact trodAll_cons_mk (rint sx ws _ _ _ _) (trodAll_cons_mk (rint ix wi' _ _ _ _) (trodAll_cons_mk (Below.trod laid_out (by kernel_rfl) (of_decide_eq_true (by kernel_rfl)) h2 hbl hlt) (trodAll_mk2 (rint yx wy _ _ _ _) (rint bx wb _ _ _ _))))
 ·rw [e1];rfl
theorem row_holds:Rows.RuinBoundSaid :=
 OpenClaim.holds_of_wide 7 Tryz.f7 rfl rfl rfl rfl rfl rfl rfl ⟨rfl,rfl,rfl,rfl,rfl⟩ rfl rfl rfl rfl rfl (by kernel_rfl) Tryz.func7 (by kernel_rfl)
  (of_decide_eq_true (by kernel_rfl)) (by unfold Func.isWrapper;rw [if_neg (of_decide_eq_false (by kernel_rfl))];exact ⟨rfl,rfl⟩)
  (fun os started H enc _=>lifted os started H enc)
theorem card_holds:Rows.RuinBoundCardSaid :=
 Claim7.holds_tied_plain_at .later [] [.data,.data,.data] true (true,"4d3c00088ceb963bd83af4490b4efff3751756a27bf0e4ff69c560e29abee221") true
  row_holds (fun _ h=>by cases h) (by kernel_rfl) (fun _ h=>by cases h) ruinBound_row_tie rfl ⟨rfl,rfl⟩ (by kernel_rfl) rfl
  (fun f fn hf hfn=>by
   obtain rfl:f = 7:=Option.some.inj ((show Tryz.prog.funcNamed "tontine/tontinekeep.RuinBound" = some 7 by kernel_rfl).symm.trans hf) |>.symm
   obtain rfl:fn=Tryz.f7:=(Option.some.inj (Tryz.func7.symm.trans hfn)).symm
   exact ⟨by kernel_rfl,fun j t ht=>by
    rw [Tryz.params7] at ht
    rcases j with _ | _ | _ | _ | _ | j
    ·obtain rfl : 3 = t:=by simpa using ht
     exact (show Tryz.prog.wantsStandIn 3 = false by kernel_rfl)
    ·obtain rfl : 3 = t:=by simpa using ht
     exact (show Tryz.prog.wantsStandIn 3 = false by kernel_rfl)
    ·obtain rfl : 24 = t:=by simpa using ht
     exact (show Tryz.prog.wantsStandIn 24 = false by kernel_rfl)
    ·obtain rfl : 3 = t:=by simpa using ht
     exact (show Tryz.prog.wantsStandIn 3 = false by kernel_rfl)
    ·obtain rfl : 3 = t:=by simpa using ht
     exact (show Tryz.prog.wantsStandIn 3 = false by kernel_rfl)
    ·simp at ht⟩)
  (by kernel_rfl)
#print axioms card_holds
end Go.Proofs.YtloojmaamaambaaGreatDoor
