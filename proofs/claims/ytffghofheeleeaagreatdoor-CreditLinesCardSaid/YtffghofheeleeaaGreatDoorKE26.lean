/- CreditLines: at every three rows of pair -/
import Derived.Test.YtffghofheeleeaaGreatDoorRows
import Derived.Test.YtffghofheeleeaaGreatDoorTie
import Derived.Test.YtffghofheeleeaaGreatDoorCards
import Derived.Lib.SmallJoins
import Derived.ProofKit
import Derived.OpenShut
import Derived.LaidMore
import Derived.LaidHandle
import Derived.Stop.Joined
import Derived.SevenTiedAt
import Derived.Deep.SlicePairs
import Derived.Carry
import Derived.Test.YtffghofheeleeaaGreatDoorKKLi
namespace Go.Proofs.YtffghofheeleeaaGreatDoor
open Go.Proofs.Tryz
open Go.ChangeShapes Go.WideShapes Go.ChangeAt Go.RowKit Go.Joins
set_option maxRecDepth 100000
set_option linter.unusedVariables false
theorem own:ownKnob prog.godebug=none:=by kernel_rfl
theorem gPow:prog.globalNamed "internal/strconv.uint64pow10" = some 1:=by kernel_rfl
theorem tPow:(prog.globals[1]?).map (·.type)=some 239:=by kernel_rfl
theorem gErr:prog.globalNamed "errors.errorType" = some 0:=by kernel_rfl
theorem rtErr:(prog.cutTypes.find? (·.1=="internal/reflectlite.rtype")).map (·.2)=some 183:=by kernel_rfl
theorem oneRow:((List.range 277).filter fun t=>prog.rowNamed t [101,114,114,111,114])=[29]:=by kernel_rfl
theorem tsize:prog.types.size=277:=by kernel_rfl
theorem cells20:prog.cellsOf 239 = 20:=by kernel_rfl
theorem cellsQ:prog.cellsOf 23 = 2:=by kernel_rfl
theorem cells1:prog.cellsOf 24 = 1:=by kernel_rfl
theorem powData:(Rows.laid_internal_strconv_uint64pow10:DataW Unit)=Lib.tabData .u64 Lib.pow10Tab:=by kernel_rfl
theorem door_met (os:Os) (args:Array Value):laidMetH prog Rows.creditLinesRow.laid ((World.doorLaid prog 400 os).forCall (fun _ _=>0) ⟨#[],args,[]⟩).memory :=
 laidMetH_of_parts3 (fuel:=8) (laidMet_of_run' 8 (by kernel_rfl) (by kernel_rfl)) (by kernel_rfl) (by kernel_rfl)
theorem of_laid {W:World} (h:laidMetH prog Rows.creditLinesRow.laid W):Lib.TabIs prog W "internal/strconv.uint64pow10" .u64 Lib.pow10Tab∧W.cell? ⟨0,0,none⟩=some (.iface 183 (.agg #[.pointer (some ⟨6,29,none⟩)])):=by
 have h':laidMet prog [("math/bits.deBruijn32tab",Rows.laid_math_bits_deBruijn32tab),("math/bits.deBruijn64tab",Rows.laid_math_bits_deBruijn64tab),("internal/strconv.uint64pow10",Rows.laid_internal_strconv_uint64pow10)] W∧handlesMet prog [("errors.errorType",Rows.laid_errors_errorType)] W:=h
 refine⟨?_,?_⟩
 ·obtain⟨ps,⟨g0,t0,cs0,f0,p0,q0,-,-,-,-,⟨g1,t1,cs1,f1,p1,q1,-,-,-,-,⟨g2,t2,cs2,f2,p2,q2,hg2,ht2,hv2,hd2,-,-⟩,-⟩,-⟩,-⟩:=h'.1
  obtain rfl:=Option.some.inj (gPow.symm.trans hg2)
  obtain rfl:=Option.some.inj (tPow.symm.trans ht2)
  rw[powData] at hd2
  unfold Lib.TabIs
  rw[hv2,← Lib.cells_of_tab underlying239 underlying24 cells1 cells20 hd2]
 ·obtain⟨name,u,ty,e1,e2,e3,e4,e5⟩:=h'.2 _ (List.mem_singleton.2 rfl)
  have en:name=[101,114,114,111,114]:=(Option.some.inj e1).symm
  subst en
  obtain rfl:=Option.some.inj (rtErr.symm.trans e2)
  have hm:ty ∈ (List.range 277).filter fun t=>prog.rowNamed t [101,114,114,111,114]:=List.mem_filter.2 ⟨List.mem_range.2 (by rw[← tsize];exact e3),e4⟩
  rw[oneRow] at hm
  obtain rfl:=List.mem_singleton.1 hm
  have hh:typeHandle prog 29 = .pointer (some ⟨6,29,none⟩):=by kernel_rfl
  rw[hh] at e5
  simpa using World.var?_cell gErr e5 0
theorem laid_out:laidOutB prog=true:=by kernel_rfl
theorem cellsI:prog.cellsOf 3 = 1:=by kernel_rfl
theorem spot_none {w:World} {a:Addr} {v:Value} (h:w.cell? a=some v):a.spot=none:=by
 unfold World.cell? at h
 cases hs:a.spot with
 | none=>rfl
 | some _ =>
  rw[hs] at h
  cases hb:w.heap[a.block]? with
  | none=>rw[hb] at h;simp at h
  | some o=>rw[hb] at h;cases o <;> simp at h
theorem add_none (a:Addr) (k:Nat) (h:(a.add k).spot=none):a.add k=⟨a.block,a.off+k,none⟩∧(0<k∨a.spot=none):=by
 unfold Addr.add at *
 split at h
 ·rename_i hk
  subst hk
  refine⟨?_,.inr h⟩
  rw[if_pos rfl]
  cases a
  simp only at h
  subst h
  rfl
 ·rename_i hk
  exact⟨by rw[if_neg hk],.inl (by omega)⟩
theorem pairs_in {H:Type} {enc:TypeId × Value→H} {W:World} {v:Value} {d:DataW H} {ps:List MemPlace} (hval:Value.okWide prog W .any 0 41 v) (h:DataW.Trod enc prog W 0 (fun _=>true) true 41 v d ps) :
  ∃ qs:List (Int × Int),QsAt W v qs∧(∀ q ∈ qs,Fits q)∧∀ x ∈ ps,x.block<W.heap.size:=by
 obtain⟨a,len,cap,rfl⟩:=okWide_slice underlying41 hval
 obtain⟨fuel,hf⟩:=h
 rcases Deep.open_slice_pairs underlying41 underlying23 cellsQ rfl rfl cellsI cellsI hf with ⟨hc,hx⟩|⟨b,len',cap',m,k,V0,V1,D0,D1,P0,P1,hc,-,hl,hm,hmm,hx,hall⟩
 ·have hc':[Value.slice a len cap]=[.slice none 0 0]:=hc
  simp only[List.cons.injEq,Value.slice.injEq,and_true] at hc'
  obtain⟨rfl,rfl,rfl⟩:=hc'
  have:ps=[]:=(Prod.mk.inj hx).2
  subst this
  exact⟨[],⟨none,0,rfl,Nat.le_refl _,fun i q hq=>by simp at hq⟩,fun q hq=>by simp at hq,fun x hx=>by simp at hx⟩
 ·have hc':[Value.slice a len cap]=[.slice (some b) len' cap']:=hc
  simp only[List.cons.injEq,Value.slice.injEq,and_true] at hc'
  obtain⟨rfl,rfl,rfl⟩:=hc'
  have hlm:len≤m:=by rw[hmm];simpa using hl
  have each:∀ i,i<m→∃ q:Int × Int,Fits q∧W.cell? ⟨b.block,b.off+i*2,none⟩=some (.int .i64 q.1)∧W.cell? ⟨b.block,b.off+i*2+1,none⟩=some (.int .i64 q.2)∧P0 i=[]∧P1 i=[]:=fun i hi=>by
   obtain⟨c0,c1,t0,t1⟩:=hall i hi
   obtain⟨x,e1,e2,w1⟩:=DataW.trod_int underlying3 t0
   obtain⟨y,f1,f2,w2⟩:=DataW.trod_int underlying3 t1
   simp only[List.cons.injEq,and_true] at e1 f1
   rw[(add_none b _ (spot_none c0)).1,e1] at c0
   rw[(add_none b _ (spot_none c1)).1,f1] at c1
   have Bx:=bounds_i64 w1
   have By:=bounds_i64 w2
   exact⟨(x,y),⟨by omega,by omega,by omega,by omega⟩,c0,c1,(Prod.mk.inj e2).2,(Prod.mk.inj f2).2⟩
  have hspot:0<m→b.spot=none:=fun h0=>by
   obtain⟨c0,-⟩:=hall 0 h0
   have:=(add_none b _ (spot_none c0)).2
   simpa using this
  obtain⟨q,hq⟩:=Classical.axiomOfChoice (fun i:Nat=>(by
   by_cases hi:i<m
   ·obtain⟨q,h⟩:=each i hi
    exact⟨q,fun _=>h⟩
   ·exact⟨(0,0),fun h=>absurd h hi⟩:∃ q:Int × Int,i<m→Fits q∧W.cell? ⟨b.block,b.off+i*2,none⟩=some (.int .i64 q.1)∧W.cell? ⟨b.block,b.off+i*2+1,none⟩=some (.int .i64 q.2)∧P0 i=[]∧P1 i=[]))
  refine⟨(List.range len).map q,⟨some b,cap,by simp,by simpa using hl,fun i z hz=>?_⟩,fun z hz=>?_,fun x hx'=>?_⟩
  ·rw[List.getElem?_map] at hz
   by_cases hi:i<len
   ·rw[List.getElem?_range hi,Option.map_some] at hz
    obtain rfl:=Option.some.inj hz
    have hs:=hspot (by omega)
    refine⟨b.block,b.off,?_,(hq i (by omega)).2.1,(hq i (by omega)).2.2.1⟩
    cases b
    simp only at hs
    subst hs
    rfl
   ·rw[List.getElem?_eq_none (by simpa using hi)] at hz
    simp at hz
  ·obtain⟨i,hi,rfl⟩:=List.mem_map.1 hz
   exact (hq i (by have:=List.mem_range.1 hi;omega)).1
  ·have hps:ps=MemPlace.row b (m*2)++(List.range m).flatMap fun i=>P0 i++P1 i:=(Prod.mk.inj hx).2
   rw[hps] at hx'
   have hfl:((List.range m).flatMap fun i=>P0 i++P1 i)=[]:=by
    rw[List.flatMap_eq_nil_iff]
    intro i hi
    have h:=hq i (List.mem_range.1 hi)
    rw[h.2.2.2.1,h.2.2.2.2]
    rfl
   rw[hfl,List.append_nil] at hx'
   rcases Nat.eq_zero_or_pos m with h0 | h0
   ·subst h0
    simp[MemPlace.row] at hx'
   ·have hb:b.block<W.heap.size:=by
     have h:=ai (hq 0 h0).2.1
     exact h
    have:x.block=b.block:=by
     unfold MemPlace.row at hx'
     obtain⟨i,-,rfl⟩:=List.mem_map.1 hx'
     rfl
    omega
theorem trodAll_many {H:Type} {enc:TypeId × Value→H} {P:Program} {w:World} {base:Nat} {spare:Nat→Bool} {held:Bool} {t0 t1 t2 t3 t4 t5:TypeId} {args:Array Value} {ds:List (DataW H)} {ps:List MemPlace} (h:DataW.TrodAll enc P w base spare held [t0,t1,t2,t3,t4,t5] args.toList ds ps) :
  ∃ v0 v1 v2 v3 v4 v5 d0 d1 d2 d3 d4 d5 p0 p1 p2 p3 p4 p5,args=#[v0,v1,v2,v3,v4,v5]∧ds=[d0,d1,d2,d3,d4,d5]∧ps=p0++(p1++(p2++(p3++(p4++(p5)))))∧DataW.Trod enc P w base spare held t0 v0 d0 p0∧DataW.Trod enc P w base spare held t1 v1 d1 p1∧DataW.Trod enc P w base spare held t2 v2 d2 p2∧DataW.Trod enc P w base spare held t3 v3 d3 p3∧DataW.Trod enc P w base spare held t4 v4 d4 p4∧DataW.Trod enc P w base spare held t5 v5 d5 p5:=by
 obtain⟨v0,vs0,d0,ds0,p0,q0,hargs,rfl,rfl,h0,r0⟩:=trodAll_cons h
 obtain⟨v1,vs1,d1,ds1,p1,q1,rfl,rfl,rfl,h1,r1⟩:=trodAll_cons r0
 obtain⟨v2,vs2,d2,ds2,p2,q2,rfl,rfl,rfl,h2,r2⟩:=trodAll_cons r1
 obtain⟨v3,vs3,d3,ds3,p3,q3,rfl,rfl,rfl,h3,r3⟩:=trodAll_cons r2
 obtain⟨v4,vs4,d4,ds4,p4,q4,rfl,rfl,rfl,h4,r4⟩:=trodAll_cons r3
 obtain⟨v5,vs5,d5,ds5,p5,q5,rfl,rfl,rfl,h5,r5⟩:=trodAll_cons r4
 obtain⟨rfl,rfl,rfl⟩:=trodAll_nil r5
 exact⟨v0,v1,v2,v3,v4,v5,d0,d1,d2,d3,d4,d5,p0,p1,p2,p3,p4,p5,by cases args;simp_all,rfl,by simp,h0,h1,h2,h3,h4,h5⟩
theorem lifted (os:Os) (started:os.Started) (H:Type) (enc:TypeId × Value→H) :
  ReturnsInHanded {} Tryz.checked os 4 .any (fun w args=>(Rows.creditLinesSpec.pre enc prog Tryz.f4 [] false w args∧laidMetH prog Rows.creditLinesRow.laid w)∧sizedMet enc prog Tryz.f4 (OpenSpec.ofChange Rows.creditLinesSpec) false w args)
   (Rows.creditLinesSpec.post enc prog Tryz.f4 false true false false):=by
 refine returnsInHanded_of_change_and (C:=Tryz.checked) (X:=fun w _=>laidMetH prog Rows.creditLinesRow.laid w) (fun _ _ _ hh h=>h.of_heap hh) own started (by kernel_rfl) func4
  (ChangeSpec.witness_shaped (enc:=enc) (C:=Tryz.checked) (os:=os) (X:=fun w _=>laidMetH prog Rows.creditLinesRow.laid w) false (World.doorLaid prog 400 os) #[.slice none 0 0,.slice none 0 0,.slice none 0 0,.int .i64 0,.agg #[.int .i64 0,.int .i64 0],.agg #[.int .i64 0,.int .i64 0]] 8 rfl (World.shaped_of_RefB (by kernel_rfl) (by kernel_rfl)) (by kernel_rfl) (by kernel_rfl) (by kernel_rfl) (door_met os _)) ?_
 intro W base args ds gs before hval0 hW _ _ hL _
 have hval:∀ (j:Nat) t v,Tryz.f4.params[j]? = some t→args[j]? = some v→Value.okWide prog W .any base t v:=hval0
 have hW':=hW
 obtain⟨p,q,hA0,hV,rfl,hfz,hnd⟩:=hW
 have hA:DataW.TrodAll enc prog W 0 (fun _=>true) true Tryz.f4.params.toList args.toList ds p:=hA0
 rw[params4] at hA hval
 obtain⟨v0,v1,v2,v3,v4,v5,d0,d1,d2,d3,d4,d5,p0,p1,p2,p3,p4,p5,rfl,rfl,rfl,h0,h1,h2,h3,h4,h5⟩:=trodAll_many hA
 obtain⟨rfl,rfl⟩:=trodVars_none hV
 obtain⟨htab,herr⟩:=of_laid hL
 obtain⟨qs0,hqs0,hfit0,hlt0⟩:=pairs_in (hval 0 41 v0 rfl rfl) h0
 obtain⟨qs1,hqs1,hfit1,hlt1⟩:=pairs_in (hval 1 41 v1 rfl rfl) h1
 obtain⟨qs2,hqs2,hfit2,hlt2⟩:=pairs_in (hval 2 41 v2 rfl rfl) h2
 obtain⟨k3,rfl,rfl,rfl,wk3⟩:=open_int underlying3 (hval 3 3 v3 rfl rfl) h3
 obtain⟨s4,t4,y4,z4,m4,rfl,rfl,rfl,hy4,hz4⟩:=open_agg2 underlying23 (by kernel_rfl) cellsQ (hval 4 23 v4 rfl rfl) h4
 obtain⟨a4,ea4,rfl,wa4⟩:=DataW.trod_int underlying3 hy4
 obtain⟨b4,eb4,rfl,wb4⟩:=DataW.trod_int underlying3 hz4
 simp at ea4 eb4
 subst ea4 eb4
 obtain⟨s5,t5,y5,z5,m5,rfl,rfl,rfl,hy5,hz5⟩:=open_agg2 underlying23 (by kernel_rfl) cellsQ (hval 5 23 v5 rfl rfl) h5
 obtain⟨a5,ea5,rfl,wa5⟩:=DataW.trod_int underlying3 hy5
 obtain⟨b5,eb5,rfl,wb5⟩:=DataW.trod_int underlying3 hz5
 simp at ea5 eb5
 subst ea5 eb5
 clear hA0 hval0 hval hA h3 h4 h5
 simp only[List.append_nil,List.nil_append] at hW'
 have K3:-9223372036854775808≤k3∧k3<9223372036854775808:=by have:=bounds_i64 wk3;omega
 have Ba4:-9223372036854775808≤a4∧a4<9223372036854775808:=by have:=bounds_i64 wa4;omega
 have Bb4:-9223372036854775808≤b4∧b4<9223372036854775808:=by have:=bounds_i64 wb4;omega
 have F4:Fits (a4,b4):=⟨Ba4.1,Ba4.2,Bb4.1,Bb4.2⟩
 have Ba5:-9223372036854775808≤a5∧a5<9223372036854775808:=by have:=bounds_i64 wa5;omega
 have Bb5:-9223372036854775808≤b5∧b5<9223372036854775808:=by have:=bounds_i64 wb5;omega
 have F5:Fits (a5,b5):=⟨Ba5.1,Ba5.2,Bb5.1,Bb5.2⟩
 have reads:∀ (x y:Int),(Lit.int .i64 x).wf=true→(Lit.int .i64 y).wf=true→∀ (W':World) (b:Nat) (sp:Nat→Bool) (hd:Bool),DataW.Trod enc prog W' b sp hd 23 (.agg #[.int .i64 x,.int .i64 y]) (.agg [.lit (.int .i64 x),.lit (.int .i64 y)]) []:=fun x y wx wy W' b sp hd =>
  shut_agg2 (y0:=(.lit (.int .i64 x),[])) (y1:=(.lit (.int .i64 y),[])) underlying23 (by kernel_rfl) cellsQ ⟨1,by simp[DataW.trod,underlying3,wx]⟩ ⟨1,by simp[DataW.trod,underlying3,wy]⟩
 have key:Calls prog 4 #[v0,v1,v2,.int .i64 k3,.agg #[.int .i64 a4,.int .i64 b4],.agg #[.int .i64 a5,.int .i64 b5]] W fun e w'=>e=.returned (.bool true)∧But [] W w':=creditLines_any v0 v1 v2 qs0 qs1 qs2 k3 a4 b4 a5 b5 W hqs0 hqs1 hqs2 hfit0 hfit1 hfit2 F4 F5 htab herr
 refine key.mono fun e W' ⟨he,hb⟩=>?_
 subst he
 have hbl:=hb.below
 have e1:Rows.creditLinesSpec.fn H ([d0,d1,d2,.lit (.int .i64 k3),.agg [.lit (.int .i64 a4),.lit (.int .i64 b4)],.agg [.lit (.int .i64 a5),.lit (.int .i64 b5)]]++[])={ results:=[.lit (.bool true)],args:=[d0,d1,d2,.lit (.int .i64 k3),.agg [.lit (.int .i64 a4),.lit (.int .i64 b4)],.agg [.lit (.int .i64 a5),.lit (.int .i64 b5)]] }:=by simp[Rows.creditLinesSpec]
 refine⟨_,rfl,_,_,_,[],p0++(p1++(p2++([]++([]++([]))))),[],hW',?_,?_,?_,hbl.frame _,fun h=>by cases h⟩
 ·rw[e1];exact trodAll_mk1 (shut_bool underlying4 true)
 ·rw[e1];exact trodAll_cons_mk (Below.trod laid_out (by kernel_rfl) (of_decide_eq_true (by kernel_rfl)) h0 hbl hlt0) (trodAll_cons_mk (Below.trod laid_out (by kernel_rfl) (of_decide_eq_true (by kernel_rfl)) h1 hbl hlt1) (trodAll_cons_mk (Below.trod laid_out (by kernel_rfl) (of_decide_eq_true (by kernel_rfl)) h2 hbl hlt2) (trodAll_cons_mk (shut_int underlying3 wk3) (trodAll_mk2 (reads a4 b4 wa4 wb4 _ _ _ _) (reads a5 b5 wa5 wb5 _ _ _ _)))))
 ·rw[e1];rfl
theorem row_holds:Rows.CreditLinesSaid :=
 OpenClaim.holds_of_wide 4 Tryz.f4 rfl rfl rfl rfl rfl rfl rfl ⟨rfl,rfl,rfl,rfl,rfl⟩ rfl rfl rfl rfl rfl (by kernel_rfl) func4 (by kernel_rfl)
  (of_decide_eq_true (by kernel_rfl)) (by unfold Func.isWrapper;rw[if_neg (of_decide_eq_false (by kernel_rfl))];exact⟨rfl,rfl⟩)
  (fun os started H enc _=>lifted os started H enc)
theorem card_holds:Rows.CreditLinesCardSaid :=
 Claim7.holds_tied_plain_at .later [] [.data,.data,.data,.handle] true (true,"bb9be459c00949d529a805c48f836a04e89c244f1ea2bb0e7312d076c5b504a5") true
  row_holds (fun _ h=>by cases h) (by kernel_rfl) (fun _ h=>by cases h) creditLines_row_tie rfl ⟨rfl,rfl⟩ (by kernel_rfl) rfl
  (fun f fn hf hfn=>by
   obtain rfl:f = 4:=Option.some.inj ((show prog.funcNamed "tontine/tontinelaw.CreditLines" = some 4 by kernel_rfl).symm.trans hf) |>.symm
   obtain rfl:fn=Tryz.f4:=(Option.some.inj (func4.symm.trans hfn)).symm
   exact⟨by kernel_rfl,fun j t ht=>by
    rw[params4] at ht
    rcases j with _ | _ | _ | _ | _ | _ | j
    ·obtain rfl : 41 = t:=by simpa using ht
     exact (show prog.wantsStandIn 41 = false by kernel_rfl)
    ·obtain rfl : 41 = t:=by simpa using ht
     exact (show prog.wantsStandIn 41 = false by kernel_rfl)
    ·obtain rfl : 41 = t:=by simpa using ht
     exact (show prog.wantsStandIn 41 = false by kernel_rfl)
    ·obtain rfl : 3 = t:=by simpa using ht
     exact (show prog.wantsStandIn 3 = false by kernel_rfl)
    ·obtain rfl : 23 = t:=by simpa using ht
     exact (show prog.wantsStandIn 23 = false by kernel_rfl)
    ·obtain rfl : 23 = t:=by simpa using ht
     exact (show prog.wantsStandIn 23 = false by kernel_rfl)
    ·simp at ht⟩)
  (by kernel_rfl)
#print axioms card_holds
end Go.Proofs.YtffghofheeleeaaGreatDoor
