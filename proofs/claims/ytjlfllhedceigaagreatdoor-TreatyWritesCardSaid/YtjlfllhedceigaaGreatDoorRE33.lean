/- TreatyWrites: at all lines, whatever they are, what is written of a treaty, or that nothing may be written of it, is what the document's own words give: the law answers true and leaves its argument as it was: the row, and the card that ties the listed variables to the program's text. -/
import Derived.Test.YtjlfllhedceigaaGreatDoorRE33a
import Derived.Test.YtjlfllhedceigaaGreatDoorRE33h
import Derived.Test.YtjlfllhedceigaaGreatDoorRTWp
namespace Go.Proofs.YtjlfllhedceigaaGreatDoor
open Go.Proofs.Tryz
open Go.ChangeShapes Go.WideShapes Go.ChangeAt Go.RowKit Go.Joins
set_option maxRecDepth 100000
set_option linter.unusedVariables false
theorem qky:prog.globalNamed "errors.errorType" = some 0:=by kernel_rfl
theorem qki:(prog.cutTypes.find? (·.1== "internal/reflectlite.rtype")).map (·.2)=some 267:=by kernel_rfl
theorem qjf:((List.range 409).filter fun t=>prog.rowNamed t [101,114,114,111,114])=[29]:=by kernel_rfl
theorem qke:prog.types.size=409:=by kernel_rfl
theorem qgf:prog.cellsOf 237 = 3:=by kernel_rfl
theorem qju:prog.cellsOf 4 = 1:=by kernel_rfl
theorem qge:prog.cellsOf 238 = 15:=by kernel_rfl
theorem qdl:prog.globalNamed "tontine/treaty.forms" = some 1:=by kernel_rfl
theorem qie:(prog.globals[1]?).map (·.type)=some 238:=by kernel_rfl
theorem zfn {H:Type} {enc:TypeId × Value→H} {W:World} {sp:Nat→Bool} {hd:Bool} {c0 c1 c2:Value} {k:Int} {b:Bool} {s:List UInt8} {ps:List MemPlace} {n:Nat} (hf:DataW.trod enc prog W 0 sp hd n 237 [c0,c1,c2]=some (.agg [.lit (.int .i64 k),.lit (.bool b),.lit (.string s)],ps)) :
   c0=.int .i64 k∧c1=.bool b∧c2=.string ⟨s.toArray⟩:=by(
 obtain⟨y0,y1,y2,m,hx,-,g0,g1,g2⟩:=Deep.trod_struct3 underlying237 hf
 simp[ztn,qju,zre] at g0 g1 g2
 obtain⟨z0,e0,rfl,-⟩:=DataW.trod_int underlying3 g0
 obtain⟨z1,e1,rfl⟩:=DataW.trod_bool underlying4 g1
 obtain⟨z2,e2,rfl,-⟩:=DataW.trod_string underlying9 g2
 simp only[Prod.mk.injEq,DataW.agg.injEq,List.cons.injEq,DataW.lit.injEq,Lit.int.injEq,Lit.bool.injEq,Lit.string.injEq,and_true,true_and] at hx e0 e1 e2
 obtain⟨⟨rfl,rfl,rfl⟩,-⟩:=hx
 exact⟨e0,e1,e2⟩)
theorem qdm {H:Type} {enc:TypeId × Value→H} {W:World} {sp:Nat→Bool} {hd:Bool} {cs:List Value} {ps:List MemPlace} {n:Nat} (hf:DataW.trod enc prog W 0 sp hd n 238 cs=some (Rows.laid_tontine_treaty_forms,ps)):cs=fmL:=by(
 obtain⟨xs,m,-,hx,hl,hxl,hg⟩:=DataW.trod_array underlying238 hf
 rw[qge] at hl
 rw[qgf] at hg
 match xs,hxl,cs,hl with
 | [y0,y1,y2,y3,y4],_,[c0,c1,c2,c3,c4,c5,c6,c7,c8,c9,c10,c11,c12,c13,c14],_ =>
  have g0:=hg 0 (by omega)
  have g1:=hg 1 (by omega)
  have g2:=hg 2 (by omega)
  have g3:=hg 3 (by omega)
  have g4:=hg 4 (by omega)
  simp at g0 g1 g2 g3 g4
  obtain⟨d0,p0⟩:=y0
  obtain⟨d1,p1⟩:=y1
  obtain⟨d2,p2⟩:=y2
  obtain⟨d3,p3⟩:=y3
  obtain⟨d4,p4⟩:=y4
  have hx1:=congrArg Prod.fst hx
  unfold Rows.laid_tontine_treaty_forms at hx1
  simp only[List.map_cons,List.map_nil,DataW.agg.injEq,List.cons.injEq,and_true] at hx1
  obtain⟨rfl,rfl,rfl,rfl,rfl⟩:=hx1
  obtain⟨rfl,rfl,rfl⟩:=zfn g0
  obtain⟨rfl,rfl,rfl⟩:=zfn g1
  obtain⟨rfl,rfl,rfl⟩:=zfn g2
  obtain⟨rfl,rfl,rfl⟩:=zfn g3
  obtain⟨rfl,rfl,rfl⟩:=zfn g4
  rfl)
theorem qco {W:World} (h:laidMetH prog Rows.treatyWritesRow.laid W):Lib.TabIs prog W "internal/strconv.uint64pow10" .u64 Lib.pow10Tab∧uo W∧W.cell? ⟨0,0,none⟩=some (.iface 267 (.agg #[.pointer (some ⟨12,29,none⟩)])):=by(
 have h':laidMet prog [("math/bits.deBruijn32tab",Rows.laid_math_bits_deBruijn32tab),("math/bits.deBruijn64tab",Rows.laid_math_bits_deBruijn64tab),("internal/strconv.uint64pow10",Rows.laid_internal_strconv_uint64pow10),("unicode/utf8.acceptRanges",Rows.laid_unicode_utf8_acceptRanges),("tontine/treaty.forms",Rows.laid_tontine_treaty_forms),("unicode/utf8.first",Rows.laid_unicode_utf8_first)] W∧handlesMet prog [("errors.errorType",Rows.laid_errors_errorType)] W:=h
 obtain⟨ps,⟨g0,t0,cs0,f0,p0,q0,-,-,-,-,⟨g1,t1,cs1,f1,p1,q1,-,-,-,-,⟨g2,t2,cs2,f2,p2,q2,hg2,ht2,hv2,hd2,⟨g3,t3,cs3,f3,p3,q3,-,-,-,-,⟨g6,t6,cs6,f6,p6,q6,hg6,ht6,hv6,hd6,-,-⟩,-⟩,-⟩,-⟩,-⟩,-⟩:=h'.1
 refine⟨?_,fun k v hk=>?_,?_⟩
 ·(
 obtain rfl:=Option.some.inj (qkx.symm.trans hg2)
 obtain rfl:=Option.some.inj (qkr.symm.trans ht2)
 rw[qfm] at hd2
 unfold Lib.TabIs
 rw[hv2,← Lib.cells_of_tab underlying349 underlying24 qjv qgh hd2])
 ·obtain rfl:=Option.some.inj (qie.symm.trans (by rw[← hg6.symm.trans qdl |> Option.some.inj];exact ht6))
  have e:=qdm hd6
  rw[World.var?_cell qdl hv6 k,← Array.getElem?_toList,e]
  exact hk
 ·(
 obtain⟨name,u,ty,e1,e2,e3,e4,e5⟩:=h'.2 _ (List.mem_singleton.2 rfl)
 have en:name=[101,114,114,111,114]:=(Option.some.inj e1).symm
 subst en
 obtain rfl:=Option.some.inj (qki.symm.trans e2)
 have hm:ty ∈ (List.range 409).filter fun t=>prog.rowNamed t [101,114,114,111,114]:=List.mem_filter.2 ⟨List.mem_range.2 (by rw[← qke];exact e3),e4⟩
 rw[qjf] at hm
 obtain rfl:=List.mem_singleton.1 hm
 have hh:typeHandle prog 29 = .pointer (some ⟨12,29,none⟩):=by kernel_rfl
 rw[hh] at e5
 simpa using World.var?_cell qky e5 0))
noncomputable def wH (os:Os):World:={ World.holding prog os ⟨#[],#[],[]⟩ with heap:=(World.holding prog os ⟨#[],#[],[]⟩).heap.set! 0 (.cells #[.iface 267 (.agg #[.pointer (some ⟨12,29,none⟩)])] 193) }
def zzj (laid:List (String × DataW Unit)):List (String × DataW Unit):=laid.filter fun x=>x.2.handleName?.isNone
theorem zxj {P:Program} {w0:World} {laid:List (String × DataW Unit)} (args:Array Value) (hf:w0.layFits P laid []=true) (hi:w0.layIfaces P laid (w0.layVars P laid)=true):laidMet P laid ((w0.layVars P laid).forCall (fun _ _=>0) ⟨#[],args,[]⟩).memory:=by(
 have e1:(laid.filter fun x=>(laid.map (·.1)).contains x.1)=laid:=by
  rw[List.filter_eq_self]
  intro x hx
  rw[List.contains_iff_mem]
  exact List.mem_map_of_mem hx
 have e2:(laid.filter fun x=>!(laid.map (·.1)).contains x.1)=[]:=by
  rw[List.filter_eq_nil_iff]
  intro x hx
  rw[List.contains_iff_mem.2 (List.mem_map_of_mem hx)]
  exact Bool.false_ne_true
 have h:laidMet P laid (w0.layVars P laid):=laidMet_layVars (w0:=w0) (laid.map (·.1)) [] (by rw[e1]) (by rw[e1];exact hf) (by rw[e1];exact hi) (by rw[e2];exact LaidIn.none)
 exact h.of_heap (by simp[World.memory,World.forCall,Input.heap]))
theorem qkw (os:Os) (args:Array Value):laidMetH prog Rows.treatyWritesRow.laid (((wH os).layVars prog (zzj Rows.treatyWritesRow.laid)).forCall (fun _ _=>0) ⟨#[],args,[]⟩).memory :=
 laidMetH_of_parts (zxj args (by kernel_rfl) (by kernel_rfl)) (by kernel_rfl)
theorem lifted (os:Os) (started:os.Started) (H:Type) (enc:TypeId × Value→H) :
   ReturnsInHanded {} Tryz.checked os 5 .any (fun w args=>(Rows.treatyWritesSpec.pre enc prog Tryz.f5 [] false w args∧laidMetH prog Rows.treatyWritesRow.laid w)∧sizedMet enc prog Tryz.f5 (OpenSpec.ofChange Rows.treatyWritesSpec) false w args)
    (Rows.treatyWritesSpec.post enc prog Tryz.f5 false true false false):=by(
 refine zls (C:=Tryz.checked) own (X:=fun w _=>laidMetH prog Rows.treatyWritesRow.laid w) (fun _ _ _ hh h=>h.of_heap hh) started (by kernel_rfl) func5
  (ChangeSpec.witness_shaped (enc:=enc) (C:=Tryz.checked) (os:=os) (X:=fun w _=>laidMetH prog Rows.treatyWritesRow.laid w) false ((wH os).layVars prog (zzj Rows.treatyWritesRow.laid)) #[.slice none 0 0] 8 ((World.layVars_os _ _ _).trans rfl) (World.shaped_of_ZipB (by kernel_rfl) (by kernel_rfl)) (by kernel_rfl) (by kernel_rfl) (by kernel_rfl)
   (qkw os _)) ?_
 intro W base args ds gs before hval0 hW hL hsh
 have hval:∀ (j:Nat) t v,Tryz.f5.params[j]? = some t→args[j]? = some v→Value.okWide prog W .any base t v:=hval0
 have hW':=hW
 obtain⟨p,q,hA0,hV,rfl,hfz,hnd⟩:=hW
 have hA:DataW.TrodAll enc prog W 0 (fun _=>true) true Tryz.f5.params.toList args.toList ds p:=hA0
 rw[params5] at hA hval
 obtain⟨v0,d0,rfl,rfl,h0⟩:=trodAll_one hA
 obtain⟨rfl,rfl⟩:=trodVars_none hV
 obtain⟨htab,hF,herr⟩:=qco hL
 obtain⟨mx,hmx⟩:=qcu hsh
 obtain⟨ls,hls,hfit,hbig,hlt0⟩:=zwd (hval 0 41 v0 rfl rfl) h0
 clear hA0 hval0 hval hA
 simp only[List.append_nil] at hW'
 have key:Calls prog 5 #[v0] W fun e w'=>e=.returned (.bool true)∧But [] W w':=zgb v0 ls mx W hls hfit hbig htab hF hmx herr
 refine key.mono fun e W' ⟨he,hb⟩=>?_
 subst he
 have hbl:=hb.below
 have e1:Rows.treatyWritesSpec.fn H ([d0]++[])={ results:=[.lit (.bool true)],args:=[d0] }:=rfl
 refine⟨_,rfl,_,_,_,[],p,[],hW',?_,?_,?_,hbl.frame _,fun h=>by cases h⟩
 ·rw[e1];exact trodAll_mk1 (shut_bool underlying4 true)
 ·rw[e1];exact trodAll_mk1 (Below.trod qdb (by kernel_rfl) (of_decide_eq_true (by kernel_rfl)) h0 hbl hlt0)
 ·rw[e1];rfl)
theorem row_holds:Rows.TreatyWritesSaid :=
 OpenClaim.holds_of_wide 5 Tryz.f5 rfl rfl rfl rfl rfl rfl rfl ⟨rfl,rfl,rfl,rfl,rfl⟩ rfl rfl rfl rfl rfl zzb func5 zry
  (of_decide_eq_true zzc) (by unfold Func.isWrapper;rw[if_neg (of_decide_eq_false qfi)];exact⟨rfl,rfl⟩)
  (fun os started H enc _=>lifted os started H enc)
theorem card_holds:Rows.TreatyWritesCardSaid:=qgj row_holds
#print axioms card_holds
end Go.Proofs.YtjlfllhedceigaaGreatDoor
