/- MatchPairs: at every debt and rate (pairs of whole numbers) and every three times the law (the two payments that meet a debt are those that the document's own reckoning answers) answers true and leaves its arguments as they were: the row, the tied card. -/
import Derived.Test.YtpfnnhjnakmnoaaGreatDoorRows
import Derived.Test.YtpfnnhjnakmnoaaGreatDoorTie
import Derived.Test.YtpfnnhjnakmnoaaGreatDoorCards
import Derived.Carry
import Derived.Lib.SmallJoins
import Derived.ProofKit
import Derived.OpenShut
import Derived.LaidMore
import Derived.LaidHandle
import Derived.Stop.Joined
import Derived.SevenTiedAt
import Derived.Test.YtpfnnhjnakmnoaaGreatDoorKMMpC
namespace Go.Proofs.YtpfnnhjnakmnoaaGreatDoor
open Go.ChangeShapes Go.WideShapes Go.ChangeAt Go.RowKit Go.Joins
set_option maxRecDepth 100000
set_option linter.unusedVariables false
theorem trodAll_five {H:Type} {enc:TypeId × Value→H} {P:Program} {w:World} {base:Nat} {spare:Nat→Bool} {held:Bool} {t0 t1 t2 t3 t4:TypeId} {args:Array Value} {ds:List (DataW H)} {ps:List MemPlace} (h:DataW.TrodAll enc P w base spare held [t0,t1,t2,t3,t4] args.toList ds ps) :
  ∃ v0 v1 v2 v3 v4 d0 d1 d2 d3 d4 p0 p1 p2 p3 p4,args=#[v0,v1,v2,v3,v4]∧ds=[d0,d1,d2,d3,d4]∧ps=p0++(p1++(p2++(p3++p4)))∧DataW.Trod enc P w base spare held t0 v0 d0 p0∧DataW.Trod enc P w base spare held t1 v1 d1 p1∧DataW.Trod enc P w base spare held t2 v2 d2 p2∧DataW.Trod enc P w base spare held t3 v3 d3 p3∧DataW.Trod enc P w base spare held t4 v4 d4 p4:=by
 obtain ⟨v0,vs0,d0,ds0,p0,q0,hargs,rfl,rfl,h0,r0⟩:=trodAll_cons h
 obtain ⟨v1,vs1,d1,ds1,p1,q1,rfl,rfl,rfl,h1,r1⟩:=trodAll_cons r0
 obtain ⟨v2,vs2,d2,ds2,p2,q2,rfl,rfl,rfl,h2,r2⟩:=trodAll_cons r1
 obtain ⟨v3,vs3,d3,ds3,p3,q3,rfl,rfl,rfl,h3,r3⟩:=trodAll_cons r2
 obtain ⟨v4,vs4,d4,ds4,p4,q4,rfl,rfl,rfl,h4,r4⟩:=trodAll_cons r3
 obtain ⟨rfl,rfl,rfl⟩:=trodAll_nil r4
 exact ⟨v0,v1,v2,v3,v4,d0,d1,d2,d3,d4,p0,p1,p2,p3,p4,by cases args;simp_all,rfl,by simp,h0,h1,h2,h3,h4⟩
theorem own:ownKnob Tryz.prog.godebug=none:=by kernel_rfl
theorem gPow:Tryz.prog.globalNamed "internal/strconv.uint64pow10" = some 1:=by kernel_rfl
theorem tPow:(Tryz.prog.globals[1]?).map (·.type)=some 248:=by kernel_rfl
theorem gErr:Tryz.prog.globalNamed "errors.errorType" = some 0:=by kernel_rfl
theorem rtErr:(Tryz.prog.cutTypes.find? (·.1== "internal/reflectlite.rtype")).map (·.2)=some 171:=by kernel_rfl
theorem oneRow:((List.range 293).filter fun t=>Tryz.prog.rowNamed t [101,114,114,111,114])=[29]:=by kernel_rfl
theorem tsize:Tryz.prog.types.size=293:=by kernel_rfl
theorem cells20:Tryz.prog.cellsOf 248 = 20:=by kernel_rfl
theorem cellsQ:Tryz.prog.cellsOf 23 = 2:=by kernel_rfl
theorem cells1:Tryz.prog.cellsOf 24 = 1:=by kernel_rfl
theorem powData:(Rows.laid_internal_strconv_uint64pow10:DataW Unit)=Lib.tabData .u64 Lib.pow10Tab:=by kernel_rfl
theorem door_met (os:Os) (args:Array Value):laidMetH Tryz.prog Rows.matchPairsRow.laid ((World.doorLaid Tryz.prog 400 os).forCall (fun _ _=>0) ⟨#[],args,[]⟩).memory :=
 laidMetH_of_parts3 (fuel:=8) (laidMet_of_run' 8 (by kernel_rfl) (by kernel_rfl)) (by kernel_rfl) (by kernel_rfl)
theorem of_laid {W:World} (h:laidMetH Tryz.prog Rows.matchPairsRow.laid W):Lib.TabIs Tryz.prog W "internal/strconv.uint64pow10" .u64 Lib.pow10Tab∧W.cell? ⟨0,0,none⟩=some (.iface 171 (.agg #[.pointer (some ⟨7,29,none⟩)])):=by
 have h':laidMet Tryz.prog [("math/bits.deBruijn32tab",Rows.laid_math_bits_deBruijn32tab),("math/bits.deBruijn64tab",Rows.laid_math_bits_deBruijn64tab),("internal/strconv.uint64pow10",Rows.laid_internal_strconv_uint64pow10)] W∧handlesMet Tryz.prog [("errors.errorType",Rows.laid_errors_errorType)] W:=h
 refine ⟨?_,?_⟩
 ·obtain ⟨ps,⟨g0,t0,cs0,f0,p0,q0,-,-,-,-,⟨g1,t1,cs1,f1,p1,q1,-,-,-,-,⟨g2,t2,cs2,f2,p2,q2,hg2,ht2,hv2,hd2,-,-⟩,-⟩,-⟩,-⟩:=h'.1
  obtain rfl:=Option.some.inj (gPow.symm.trans hg2)
  obtain rfl:=Option.some.inj (tPow.symm.trans ht2)
  rw [powData] at hd2
  unfold Lib.TabIs
  rw [hv2,← Lib.cells_of_tab Tryz.underlying248 Tryz.underlying24 cells1 cells20 hd2]
 ·obtain ⟨name,u,ty,e1,e2,e3,e4,e5⟩:=h'.2 _ (List.mem_singleton.2 rfl)
  have en:name=[101,114,114,111,114]:=(Option.some.inj e1).symm
  subst en
  obtain rfl:=Option.some.inj (rtErr.symm.trans e2)
  have hm:ty ∈ (List.range 293).filter fun t=>Tryz.prog.rowNamed t [101,114,114,111,114]:=List.mem_filter.2 ⟨List.mem_range.2 (by rw [← tsize];exact e3),e4⟩
  rw [oneRow] at hm
  obtain rfl:=List.mem_singleton.1 hm
  have hh:typeHandle Tryz.prog 29 = .pointer (some ⟨7,29,none⟩):=by kernel_rfl
  rw [hh] at e5
  simpa using World.var?_cell gErr e5 0
theorem lifted (os:Os) (started:os.Started) (H:Type) (enc:TypeId × Value→H) :
  ReturnsInHanded {} Tryz.checked os 4 .any (fun w args=>(Rows.matchPairsSpec.pre enc Tryz.prog Tryz.f4 [] false w args∧laidMetH Tryz.prog Rows.matchPairsRow.laid w)∧sizedMet enc Tryz.prog Tryz.f4 (OpenSpec.ofChange Rows.matchPairsSpec) false w args)
   (Rows.matchPairsSpec.post enc Tryz.prog Tryz.f4 false true false false):=by
 refine returnsInHanded_of_change_and (C:=Tryz.checked) (X:=fun w _=>laidMetH Tryz.prog Rows.matchPairsRow.laid w) (fun _ _ _ hh h=>h.of_heap hh) own started (by kernel_rfl) Tryz.func4
  (ChangeSpec.witness_shaped (enc:=enc) (C:=Tryz.checked) (os:=os) (X:=fun w _=>laidMetH Tryz.prog Rows.matchPairsRow.laid w) false (World.doorLaid Tryz.prog 400 os) #[.agg #[.int .i64 0,.int .i64 0],.int .i64 0,.int .i64 0,.int .i64 0,.agg #[.int .i64 0,.int .i64 0]] 8 rfl (World.shaped_of_RefB (by kernel_rfl) (by kernel_rfl)) (by kernel_rfl) (by kernel_rfl) (by kernel_rfl) (door_met os _)) ?_
 intro W base args ds gs before hval0 hW _ _ hL _
 have hval:∀ (j:Nat) t v,Tryz.f4.params[j]? = some t→args[j]? = some v→Value.okWide Tryz.prog W .any base t v:=hval0
 have hW':=hW
 obtain ⟨p,q,hA0,hV,rfl,hfz,hnd⟩:=hW
 have hA:DataW.TrodAll enc Tryz.prog W 0 (fun _=>true) true Tryz.f4.params.toList args.toList ds p:=hA0
 rw [Tryz.params4] at hA hval
 obtain ⟨v0,v1,v2,v3,v4,d0,d1,d2,d3,d4,p0,p1,p2,p3,p4,rfl,rfl,rfl,h0,h1,h2,h3,h4⟩:=trodAll_five hA
 obtain ⟨rfl,rfl⟩:=trodVars_none hV
 obtain ⟨s0,t0,y0,z0,m0,rfl,rfl,rfl,hy0,hz0⟩:=open_agg2 Tryz.underlying23 (by kernel_rfl) cellsQ (hval 0 23 v0 rfl rfl) h0
 obtain ⟨s1,t1,y1,z1,m1,rfl,rfl,rfl,hy1,hz1⟩:=open_agg2 Tryz.underlying23 (by kernel_rfl) cellsQ (hval 4 23 v4 rfl rfl) h4
 obtain ⟨a1,ea1,rfl,wa1⟩:=DataW.trod_int Tryz.underlying3 hy0
 obtain ⟨a2,ea2,rfl,wa2⟩:=DataW.trod_int Tryz.underlying3 hz0
 obtain ⟨b1,eb1,rfl,wb1⟩:=DataW.trod_int Tryz.underlying3 hy1
 obtain ⟨b2,eb2,rfl,wb2⟩:=DataW.trod_int Tryz.underlying3 hz1
 simp at ea1 ea2 eb1 eb2
 subst ea1 ea2 eb1 eb2
 obtain ⟨ka,rfl,rfl,rfl,wka⟩:=open_int Tryz.underlying3 (hval 1 3 v1 rfl rfl) h1
 obtain ⟨kh,rfl,rfl,rfl,wkh⟩:=open_int Tryz.underlying3 (hval 2 3 v2 rfl rfl) h2
 obtain ⟨kb,rfl,rfl,rfl,wkb⟩:=open_int Tryz.underlying3 (hval 3 3 v3 rfl rfl) h3
 obtain ⟨htab,herr⟩:=of_laid hL
 clear hA0 hval0 hval h0 h1 h2 h3 h4 hA
 simp only [List.append_nil] at hW'
 have Ba1:-9223372036854775808≤a1∧a1<9223372036854775808:=by have:=bounds_i64 wa1;omega
 have Ba2:-9223372036854775808≤a2∧a2<9223372036854775808:=by have:=bounds_i64 wa2;omega
 have Bb1:-9223372036854775808≤b1∧b1<9223372036854775808:=by have:=bounds_i64 wb1;omega
 have Bb2:-9223372036854775808≤b2∧b2<9223372036854775808:=by have:=bounds_i64 wb2;omega
 have reads:∀ (x y:Int),(Lit.int .i64 x).wf=true→(Lit.int .i64 y).wf=true→∀ (W':World) (b:Nat) (sp:Nat→Bool) (hd:Bool),DataW.Trod enc Tryz.prog W' b sp hd 23 (.agg #[.int .i64 x,.int .i64 y]) (.agg [.lit (.int .i64 x),.lit (.int .i64 y)]) []:=fun x y wx wy W' b sp hd =>
  shut_agg2 (y0:=(.lit (.int .i64 x),[])) (y1:=(.lit (.int .i64 y),[])) Tryz.underlying23 (by kernel_rfl) cellsQ ⟨1,by simp [DataW.trod,Tryz.underlying3,wx]⟩ ⟨1,by simp [DataW.trod,Tryz.underlying3,wy]⟩
 have key:Calls Tryz.prog 4 #[.agg #[.int .i64 a1,.int .i64 a2],.int .i64 ka,.int .i64 kh,.int .i64 kb,.agg #[.int .i64 b1,.int .i64 b2]] W fun e w'=>e=.returned (.bool true)∧But [] W w':=matchPairs_any a1 a2 ka kh kb b1 b2 W Ba1 Ba2 Bb1 Bb2 htab herr
 refine key.mono fun e W' ⟨he,hb⟩=>?_
 subst he
 have hbl:=hb.below
 have e1:Rows.matchPairsSpec.fn H ([.agg [.lit (.int .i64 a1),.lit (.int .i64 a2)],.lit (.int .i64 ka),.lit (.int .i64 kh),.lit (.int .i64 kb),.agg [.lit (.int .i64 b1),.lit (.int .i64 b2)]]++[])={ results:=[.lit (.bool true)],args:=[.agg [.lit (.int .i64 a1),.lit (.int .i64 a2)],.lit (.int .i64 ka),.lit (.int .i64 kh),.lit (.int .i64 kb),.agg [.lit (.int .i64 b1),.lit (.int .i64 b2)]] }:=by simp [Rows.matchPairsSpec]
 refine ⟨_,rfl,_,_,_,[],[],[],hW',?_,?_,?_,hbl.frame _,fun h=>by cases h⟩
 ·rw [e1];exact trodAll_mk1 (shut_bool Tryz.underlying4 true)
 ·rw [e1];exact trodAll_cons_mk (reads a1 a2 wa1 wa2 _ _ _ _) (trodAll_mk4 (shut_int Tryz.underlying3 wka) (shut_int Tryz.underlying3 wkh) (shut_int Tryz.underlying3 wkb) (reads b1 b2 wb1 wb2 _ _ _ _))
 ·rw [e1];rfl
theorem row_holds:Rows.MatchPairsSaid :=
 OpenClaim.holds_of_wide 4 Tryz.f4 rfl rfl rfl rfl rfl rfl rfl ⟨rfl,rfl,rfl,rfl,rfl⟩ rfl rfl rfl rfl rfl (by kernel_rfl) Tryz.func4 (by kernel_rfl)
  (of_decide_eq_true (by kernel_rfl)) (by unfold Func.isWrapper;rw [if_neg (of_decide_eq_false (by kernel_rfl))];exact ⟨rfl,rfl⟩)
  (fun os started H enc _=>lifted os started H enc)
theorem card_holds:Rows.MatchPairsCardSaid :=
 Claim7.holds_tied_plain_at .later [] [.data,.data,.data,.handle] true (true,"6be990017f929f1d3e7d8925d43c799f6d14cf3aa4f9a50d9ca2884aceb56679") true
  row_holds (fun _ h=>by cases h) (by kernel_rfl) (fun _ h=>by cases h) matchPairs_row_tie rfl ⟨rfl,rfl⟩ (by kernel_rfl) rfl
  (fun f fn hf hfn=>by
   obtain rfl:f = 4:=Option.some.inj ((show Tryz.prog.funcNamed "tontine/tontinelaw.MatchPairs" = some 4 by kernel_rfl).symm.trans hf) |>.symm
   obtain rfl:fn=Tryz.f4:=(Option.some.inj (Tryz.func4.symm.trans hfn)).symm
   exact ⟨by kernel_rfl,fun j t ht=>by
    rw [Tryz.params4] at ht
    rcases j with _ | _ | _ | _ | _ | j
    ·obtain rfl : 23 = t:=by simpa using ht
     exact (show Tryz.prog.wantsStandIn 23 = false by kernel_rfl)
    ·obtain rfl : 3 = t:=by simpa using ht
     exact (show Tryz.prog.wantsStandIn 3 = false by kernel_rfl)
    ·obtain rfl : 3 = t:=by simpa using ht
     exact (show Tryz.prog.wantsStandIn 3 = false by kernel_rfl)
    ·obtain rfl : 3 = t:=by simpa using ht
     exact (show Tryz.prog.wantsStandIn 3 = false by kernel_rfl)
    ·obtain rfl : 23 = t:=by simpa using ht
     exact (show Tryz.prog.wantsStandIn 23 = false by kernel_rfl)
    ·simp at ht⟩)
  (by kernel_rfl)
#print axioms card_holds
end Go.Proofs.YtpfnnhjnakmnoaaGreatDoor
