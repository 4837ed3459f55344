/- FlowSays: at every row of payments and every row of rates, each a pair of whole numbers, the law (discounts, what payments are worth now and what they come to are those that the document's own reckoning answers) answers true and leaves its arguments as they were: the row, and the card that ties the listed variables to the program's text. -/
import Derived.Test.YtollloafckcogaaGreatDoorRows
import Derived.Test.YtollloafckcogaaGreatDoorTie
import Derived.Test.YtollloafckcogaaGreatDoorCards
import Derived.Lib.SmallJoins
import Derived.ProofKit
import Derived.OpenShut
import Derived.LaidMore
import Derived.LaidHandle
import Derived.Stop.Joined
import Derived.SevenTiedAt
import Derived.Deep.SlicePairs
import Derived.Carry
import Derived.Test.YtollloafckcogaaGreatDoorKYFSf
namespace Go.Proofs.YtollloafckcogaaGreatDoor
open Go.ChangeShapes Go.WideShapes Go.ChangeAt Go.RowKit Go.Joins
set_option maxRecDepth 100000
set_option linter.unusedVariables false
theorem own:ownKnob Tryz.prog.godebug=none:=by kernel_rfl
theorem gPow:Tryz.prog.globalNamed "internal/strconv.uint64pow10" = some 1:=by kernel_rfl
theorem tPow:(Tryz.prog.globals[1]?).map (·.type)=some 230:=by kernel_rfl
theorem gErr:Tryz.prog.globalNamed "errors.errorType" = some 0:=by kernel_rfl
theorem rtErr:(Tryz.prog.cutTypes.find? (·.1== "internal/reflectlite.rtype")).map (·.2)=some 169:=by kernel_rfl
theorem oneRow:((List.range 268).filter fun t=>Tryz.prog.rowNamed t [101,114,114,111,114])=[29]:=by kernel_rfl
theorem tsize:Tryz.prog.types.size=268:=by kernel_rfl
theorem cells20:Tryz.prog.cellsOf 230 = 20:=by kernel_rfl
theorem cellsQ:Tryz.prog.cellsOf 23 = 2:=by kernel_rfl
theorem cells1:Tryz.prog.cellsOf 24 = 1:=by kernel_rfl
theorem powData:(Rows.laid_internal_strconv_uint64pow10:DataW Unit)=Lib.tabData .u64 Lib.pow10Tab:=by kernel_rfl
theorem door_met (os:Os) (args:Array Value):laidMetH Tryz.prog Rows.flowSaysRow.laid ((World.doorLaid Tryz.prog 400 os).forCall (fun _ _=>0) ⟨#[],args,[]⟩).memory :=
 laidMetH_of_parts3 (fuel:=8) (laidMet_of_run' 8 (by kernel_rfl) (by kernel_rfl)) (by kernel_rfl) (by kernel_rfl)
theorem of_laid {W:World} (h:laidMetH Tryz.prog Rows.flowSaysRow.laid W):Lib.TabIs Tryz.prog W "internal/strconv.uint64pow10" .u64 Lib.pow10Tab∧W.cell? ⟨0,0,none⟩=some (.iface 169 (.agg #[.pointer (some ⟨6,29,none⟩)])):=by
 have h':laidMet Tryz.prog [("math/bits.deBruijn32tab",Rows.laid_math_bits_deBruijn32tab),("math/bits.deBruijn64tab",Rows.laid_math_bits_deBruijn64tab),("internal/strconv.uint64pow10",Rows.laid_internal_strconv_uint64pow10)] W∧handlesMet Tryz.prog [("errors.errorType",Rows.laid_errors_errorType)] W:=h
 refine ⟨?_,?_⟩
 ·obtain ⟨ps,⟨g0,t0,cs0,f0,p0,q0,-,-,-,-,⟨g1,t1,cs1,f1,p1,q1,-,-,-,-,⟨g2,t2,cs2,f2,p2,q2,hg2,ht2,hv2,hd2,-,-⟩,-⟩,-⟩,-⟩:=h'.1
  obtain rfl:=Option.some.inj (gPow.symm.trans hg2)
  obtain rfl:=Option.some.inj (tPow.symm.trans ht2)
  rw [powData] at hd2
  unfold Lib.TabIs
  rw [hv2,← Lib.cells_of_tab Tryz.underlying230 Tryz.underlying24 cells1 cells20 hd2]
 ·obtain ⟨name,u,ty,e1,e2,e3,e4,e5⟩:=h'.2 _ (List.mem_singleton.2 rfl)
  have en:name=[101,114,114,111,114]:=(Option.some.inj e1).symm
  subst en
  obtain rfl:=Option.some.inj (rtErr.symm.trans e2)
  have hm:ty ∈ (List.range 268).filter fun t=>Tryz.prog.rowNamed t [101,114,114,111,114]:=List.mem_filter.2 ⟨List.mem_range.2 (by rw [← tsize];exact e3),e4⟩
  rw [oneRow] at hm
  obtain rfl:=List.mem_singleton.1 hm
  have hh:typeHandle Tryz.prog 29 = .pointer (some ⟨6,29,none⟩):=by kernel_rfl
  rw [hh] at e5
  simpa using World.var?_cell gErr e5 0
theorem laid_out:laidOutB Tryz.prog=true:=by kernel_rfl
theorem cellsI:Tryz.prog.cellsOf 3 = 1:=by kernel_rfl
theorem spot_none {w:World} {a:Addr} {v:Value} (h:w.cell? a=some v):a.spot=none:=by
 unfold World.cell? at h
 cases hs:a.spot with
 | none=>rfl
 | some _ =>
  rw [hs] at h
  cases hb:w.heap[a.block]? with
  | none=>rw [hb] at h;simp at h
  | some o=>rw [hb] at h;cases o <;> simp at h
theorem add_none (a:Addr) (k:Nat) (h:(a.add k).spot=none):a.add k=⟨a.block,a.off+k,none⟩∧(0<k∨a.spot=none):=by
 unfold Addr.add at *
 split at h
 ·rename_i hk
  subst hk
  refine ⟨?_,.inr h⟩
  rw [if_pos rfl]
  cases a
  simp only at h
  subst h
  rfl
 ·rename_i hk
  exact ⟨by rw [if_neg hk],.inl (by omega)⟩
theorem pairs_in {H:Type} {enc:TypeId × Value→H} {W:World} {v:Value} {d:DataW H} {ps:List MemPlace} (hval:Value.okWide Tryz.prog W .any 0 41 v) (h:DataW.Trod enc Tryz.prog W 0 (fun _=>true) true 41 v d ps) :
  ∃ qs:List (Int × Int),QsAt W v qs∧(∀ q ∈ qs,Fits q)∧∀ x ∈ ps,x.block<W.heap.size:=by
 obtain ⟨a,len,cap,rfl⟩:=okWide_slice Tryz.underlying41 hval
 obtain ⟨fuel,hf⟩:=h
 rcases Deep.open_slice_pairs Tryz.underlying41 Tryz.underlying23 cellsQ rfl rfl cellsI cellsI hf with ⟨hc,hx⟩ | ⟨b,len',cap',m,k,V0,V1,D0,D1,P0,P1,hc,-,hl,hm,hmm,hx,hall⟩
 ·have hc':[Value.slice a len cap]=[.slice none 0 0]:=hc
  simp only [List.cons.injEq,Value.slice.injEq,and_true] at hc'
  obtain ⟨rfl,rfl,rfl⟩:=hc'
  have:ps=[]:=(Prod.mk.inj hx).2
  subst this
  exact ⟨[],⟨none,0,rfl,Nat.le_refl _,fun i q hq=>by simp at hq⟩,fun q hq=>by simp at hq,fun x hx=>by simp at hx⟩
 ·have hc':[Value.slice a len cap]=[.slice (some b) len' cap']:=hc
  simp only [List.cons.injEq,Value.slice.injEq,and_true] at hc'
  obtain ⟨rfl,rfl,rfl⟩:=hc'
  have hlm:len≤m:=by rw [hmm];simpa using hl
  have each:∀ i,i<m→∃ q:Int × Int,Fits q∧W.cell? ⟨b.block,b.off+i*2,none⟩=some (.int .i64 q.1)∧W.cell? ⟨b.block,b.off+i*2+1,none⟩=some (.int .i64 q.2)∧P0 i=[]∧P1 i=[]:=fun i hi=>by
   obtain ⟨c0,c1,t0,t1⟩:=hall i hi
   obtain ⟨x,e1,e2,w1⟩:=DataW.trod_int Tryz.underlying3 t0
   obtain ⟨y,f1,f2,w2⟩:=DataW.trod_int Tryz.underlying3 t1
   simp only [List.cons.injEq,and_true] at e1 f1
   rw [(add_none b _ (spot_none c0)).1,e1] at c0
   rw [(add_none b _ (spot_none c1)).1,f1] at c1
   have Bx:=bounds_i64 w1
   have By:=bounds_i64 w2
   exact ⟨(x,y),⟨by omega,by omega,by omega,by omega⟩,c0,c1,(Prod.mk.inj e2).2,(Prod.mk.inj f2).2⟩
  have hspot:0<m→b.spot=none:=fun h0=>by
   obtain ⟨c0,-⟩:=hall 0 h0
   have:=(add_none b _ (spot_none c0)).2
   simpa using this
  obtain ⟨q,hq⟩:=Classical.axiomOfChoice (fun i:Nat=>(by
   by_cases hi:i<m
   ·obtain ⟨q,h⟩:=each i hi
    exact ⟨q,fun _=>h⟩
   ·exact ⟨(0,0),fun h=>absurd h hi⟩:∃ q:Int × Int,i<m→Fits q∧W.cell? ⟨b.block,b.off+i*2,none⟩=some (.int .i64 q.1)∧W.cell? ⟨b.block,b.off+i*2+1,none⟩=some (.int .i64 q.2)∧P0 i=[]∧P1 i=[]))
  refine ⟨(List.range len).map q,⟨some b,cap,by simp,by simpa using hl,fun i z hz=>?_⟩,fun z hz=>?_,fun x hx'=>?_⟩
  ·rw [List.getElem?_map] at hz
   by_cases hi:i<len
   ·rw [List.getElem?_range hi,Option.map_some] at hz
    obtain rfl:=Option.some.inj hz
    have hs:=hspot (by omega)
    refine ⟨b.block,b.off,?_,(hq i (by omega)).2.1,(hq i (by omega)).2.2.1⟩
    cases b
    simp only at hs
    subst hs
    rfl
   ·rw [List.getElem?_eq_none (by simpa using hi)] at hz
    simp at hz
  ·obtain ⟨i,hi,rfl⟩:=List.mem_map.1 hz
   exact (hq i (by have:=List.mem_range.1 hi;omega)).1
  ·have hps:ps=MemPlace.row b (m*2)++(List.range m).flatMap fun i=>P0 i++P1 i:=(Prod.mk.inj hx).2
   rw [hps] at hx'
   have hfl:((List.range m).flatMap fun i=>P0 i++P1 i)=[]:=by
    rw [List.flatMap_eq_nil_iff]
    intro i hi
    have h:=hq i (List.mem_range.1 hi)
    rw [h.2.2.2.1,h.2.2.2.2]
    rfl
   rw [hfl,List.append_nil] at hx'
   rcases Nat.eq_zero_or_pos m with h0 | h0
   ·subst h0
    simp [MemPlace.row] at hx'
   ·have hb:b.block<W.heap.size:=by
     have h:=lt_of_cell (hq 0 h0).2.1
     exact h
    have:x.block=b.block:=by
     unfold MemPlace.row at hx'
     obtain ⟨i,-,rfl⟩:=List.mem_map.1 hx'
     rfl
    omega
theorem lifted (os:Os) (started:os.Started) (H:Type) (enc:TypeId × Value→H) :
  ReturnsInHanded {} Tryz.checked os 4 .any (fun w args=>(Rows.flowSaysSpec.pre enc Tryz.prog Tryz.f4 [] false w args∧laidMetH Tryz.prog Rows.flowSaysRow.laid w)∧sizedMet enc Tryz.prog Tryz.f4 (OpenSpec.ofChange Rows.flowSaysSpec) false w args)
   (Rows.flowSaysSpec.post enc Tryz.prog Tryz.f4 false true false false):=by
 refine returnsInHanded_of_change_and (C:=Tryz.checked) (X:=fun w _=>laidMetH Tryz.prog Rows.flowSaysRow.laid w) (fun _ _ _ hh h=>h.of_heap hh) own started (by kernel_rfl) Tryz.func4
  (ChangeSpec.witness_shaped (enc:=enc) (C:=Tryz.checked) (os:=os) (X:=fun w _=>laidMetH Tryz.prog Rows.flowSaysRow.laid w) false (World.doorLaid Tryz.prog 400 os) #[.slice none 0 0,.slice none 0 0] 8 rfl (World.shaped_of_RefB (by kernel_rfl) (by kernel_rfl)) (by kernel_rfl) (by kernel_rfl) (by kernel_rfl) (door_met os _)) ?_
 intro W base args ds gs before hval0 hW _ _ hL _
 have hval:∀ (j:Nat) t v,Tryz.f4.params[j]? = some t→args[j]? = some v→Value.okWide Tryz.prog W .any base t v:=hval0
 have hW':=hW
 obtain ⟨p,q,hA0,hV,rfl,hfz,hnd⟩:=hW
 have hA:DataW.TrodAll enc Tryz.prog W 0 (fun _=>true) true Tryz.f4.params.toList args.toList ds p:=hA0
 rw [Tryz.params4] at hA hval
 obtain ⟨v0,v1,d0,d1,p0,p1,rfl,rfl,rfl,h0,h1⟩:=trodAll_two hA
 obtain ⟨rfl,rfl⟩:=trodVars_none hV
 obtain ⟨htab,herr⟩:=of_laid hL
 obtain ⟨qs0,hqs0,hfit0,hlt0⟩:=pairs_in (hval 0 41 v0 rfl rfl) h0
 obtain ⟨qs1,hqs1,hfit1,hlt1⟩:=pairs_in (hval 1 41 v1 rfl rfl) h1
 clear hA0 hval0 hval hA
 simp only [List.append_nil] at hW'
 have key:Calls Tryz.prog 4 #[v0,v1] W fun e w'=>e=.returned (.bool true)∧But [] W w':=flowSays_any v0 v1 qs0 qs1 W hqs0 hqs1 hfit0 hfit1 htab herr
 refine key.mono fun e W' ⟨he,hb⟩=>?_
 subst he
 have hbl:=hb.below
 have e1:Rows.flowSaysSpec.fn H ([d0,d1]++[])={ results:=[.lit (.bool true)],args:=[d0,d1] }:=by simp [Rows.flowSaysSpec]
 refine ⟨_,rfl,_,_,_,[],p0++p1,[],hW',?_,?_,?_,hbl.frame _,fun h=>by cases h⟩
 ·rw [e1];exact trodAll_mk1 (shut_bool Tryz.underlying4 true)
 ·rw [e1];exact trodAll_mk2 (Below.trod laid_out (by kernel_rfl) (of_decide_eq_true (by kernel_rfl)) h0 hbl hlt0) (Below.trod laid_out (by kernel_rfl) (of_decide_eq_true (by kernel_rfl)) h1 hbl hlt1)
 ·rw [e1];rfl
theorem row_holds:Rows.FlowSaysSaid :=
 OpenClaim.holds_of_wide 4 Tryz.f4 rfl rfl rfl rfl rfl rfl rfl ⟨rfl,rfl,rfl,rfl,rfl⟩ rfl rfl rfl rfl rfl (by kernel_rfl) Tryz.func4 (by kernel_rfl)
  (of_decide_eq_true (by kernel_rfl)) (by unfold Func.isWrapper;rw [if_neg (of_decide_eq_false (by kernel_rfl))];exact ⟨rfl,rfl⟩)
  (fun os started H enc _=>lifted os started H enc)
theorem card_holds:Rows.FlowSaysCardSaid :=
 Claim7.holds_tied_plain_at .later [] [.data,.data,.data,.handle] true (true,"ecd234836376cb3bfaea7c9b27eb47ae9985ef5c570e41463d91aad7f5044b02") true
  row_holds (fun _ h=>by cases h) (by kernel_rfl) (fun _ h=>by cases h) flowSays_row_tie rfl ⟨rfl,rfl⟩ (by kernel_rfl) rfl
  (fun f fn hf hfn=>by
   obtain rfl:f = 4:=Option.some.inj ((show Tryz.prog.funcNamed "tontine/tontinelaw.FlowSays" = some 4 by kernel_rfl).symm.trans hf) |>.symm
   obtain rfl:fn=Tryz.f4:=(Option.some.inj (Tryz.func4.symm.trans hfn)).symm
   exact ⟨by kernel_rfl,fun j t ht=>by
    rw [Tryz.params4] at ht
    rcases j with _ | _ | j
    ·obtain rfl : 41 = t:=by simpa using ht
     exact (show Tryz.prog.wantsStandIn 41 = false by kernel_rfl)
    ·obtain rfl : 41 = t:=by simpa using ht
     exact (show Tryz.prog.wantsStandIn 41 = false by kernel_rfl)
    ·simp at ht⟩)
  (by kernel_rfl)
#print axioms card_holds
end Go.Proofs.YtollloafckcogaaGreatDoor
