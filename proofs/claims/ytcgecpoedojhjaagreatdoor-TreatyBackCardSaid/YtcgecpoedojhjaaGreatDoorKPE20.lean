/- TreatyBack: at all lines, whatever they are, what is written of a treaty is read again as it was: the law answers true and leaves its argument as it was (the card, with the listed variables as the program's text makes them). -/
import Derived.Test.YtcgecpoedojhjaaGreatDoorKPBG
namespace Go.Proofs.YtcgecpoedojhjaaGreatDoor
open Go.Proofs.Tryz
open Go.ChangeShapes Go.WideShapes Go.ChangeAt Go.RowKit Go.Joins
set_option maxRecDepth 100000
set_option linter.unusedVariables false
theorem qja:prog.cellsOf 92 = 3:=by kernel_rfl
theorem qti:prog.cellsOf 4 = 1:=by kernel_rfl
theorem qiz:prog.cellsOf 93 = 15:=by kernel_rfl
theorem qfw:prog.globalNamed "tontine/treaty.forms" = some 0:=by kernel_rfl
theorem qow:(prog.globals[0]?).map (·.type)=some 93:=by kernel_rfl
theorem zgg {H:Type} {enc:TypeId × Value→H} {W:World} {sp:Nat→Bool} {hd:Bool} {c0 c1 c2:Value} {k:Int} {b:Bool} {s:List UInt8} {ps:List MemPlace} {n:Nat} (hf:DataW.trod enc prog W 0 sp hd n 92 [c0,c1,c2]=some (.agg [.lit (.int .i64 k),.lit (.bool b),.lit (.string s)],ps)) :
  c0=.int .i64 k∧c1=.bool b∧c2=.string ⟨s.toArray⟩:=by
 obtain⟨y0,y1,y2,m,hx,-,g0,g1,g2⟩:=Deep.trod_struct3 underlying92 hf
 simp[zwl,qti,zue] at g0 g1 g2
 obtain⟨z0,e0,rfl,-⟩:=DataW.trod_int underlying3 g0
 obtain⟨z1,e1,rfl⟩:=DataW.trod_bool underlying4 g1
 obtain⟨z2,e2,rfl,-⟩:=DataW.trod_string underlying9 g2
 simp only[Prod.mk.injEq,DataW.agg.injEq,List.cons.injEq,DataW.lit.injEq,Lit.int.injEq,Lit.bool.injEq,Lit.string.injEq,and_true,true_and] at hx e0 e1 e2
 obtain⟨⟨rfl,rfl,rfl⟩,-⟩:=hx
 exact⟨e0,e1,e2⟩
theorem qfy {H:Type} {enc:TypeId × Value→H} {W:World} {sp:Nat→Bool} {hd:Bool} {cs:List Value} {ps:List MemPlace} {n:Nat} (hf:DataW.trod enc prog W 0 sp hd n 93 cs=some (Rows.laid_tontine_treaty_forms,ps)):cs=fmL:=by
 obtain⟨xs,m,-,hx,hl,hxl,hg⟩:=DataW.trod_array underlying93 hf
 rw[qiz] at hl
 rw[qja] at hg
 match xs,hxl,cs,hl with
 | [y0,y1,y2,y3,y4],_,[c0,c1,c2,c3,c4,c5,c6,c7,c8,c9,c10,c11,c12,c13,c14],_ =>
  have g0:=hg 0 (by omega)
  have g1:=hg 1 (by omega)
  have g2:=hg 2 (by omega)
  have g3:=hg 3 (by omega)
  have g4:=hg 4 (by omega)
  simp at g0 g1 g2 g3 g4
  obtain⟨d0,p0⟩:=y0
  obtain⟨d1,p1⟩:=y1
  obtain⟨d2,p2⟩:=y2
  obtain⟨d3,p3⟩:=y3
  obtain⟨d4,p4⟩:=y4
  have hx1:=congrArg Prod.fst hx
  unfold Rows.laid_tontine_treaty_forms at hx1
  simp only[List.map_cons,List.map_nil,DataW.agg.injEq,List.cons.injEq,and_true] at hx1
  obtain⟨rfl,rfl,rfl,rfl,rfl⟩:=hx1
  obtain⟨rfl,rfl,rfl⟩:=zgg g0
  obtain⟨rfl,rfl,rfl⟩:=zgg g1
  obtain⟨rfl,rfl,rfl⟩:=zgg g2
  obtain⟨rfl,rfl,rfl⟩:=zgg g3
  obtain⟨rfl,rfl,rfl⟩:=zgg g4
  rfl
theorem qex {W:World} (h:laidMetH prog Rows.treatyBackRow.laid W):Lib.TabIs prog W "internal/strconv.uint64pow10" .u64 Lib.pow10Tab∧xw W:=by
 have h':laidMet prog [("math/bits.deBruijn32tab",Rows.laid_math_bits_deBruijn32tab),("math/bits.deBruijn64tab",Rows.laid_math_bits_deBruijn64tab),("internal/strconv.uint64pow10",Rows.laid_internal_strconv_uint64pow10),("unicode/utf8.acceptRanges",Rows.laid_unicode_utf8_acceptRanges),("strconv.ErrRange",Rows.laid_strconv_ErrRange),("strconv.ErrSyntax",Rows.laid_strconv_ErrSyntax),("tontine/treaty.forms",Rows.laid_tontine_treaty_forms),("unicode/utf8.first",Rows.laid_unicode_utf8_first)] W∧handlesMet prog [("errors.errorType",Rows.laid_errors_errorType)] W:=h
 obtain⟨ps,⟨g0,t0,cs0,f0,p0,q0,-,-,-,-,⟨g1,t1,cs1,f1,p1,q1,-,-,-,-,⟨g2,t2,cs2,f2,p2,q2,hg2,ht2,hv2,hd2,⟨g3,t3,cs3,f3,p3,q3,-,-,-,-,⟨g4,t4,cs4,f4,p4,q4,-,-,-,-,⟨g5,t5,cs5,f5,p5,q5,-,-,-,-,⟨g6,t6,cs6,f6,p6,q6,hg6,ht6,hv6,hd6,-,-⟩,-⟩,-⟩,-⟩,-⟩,-⟩,-⟩,-⟩:=h'.1
 refine⟨?_,fun k v hk=>?_⟩
 ·obtain rfl:=Option.some.inj (qul.symm.trans hg2)
  obtain rfl:=Option.some.inj (que.symm.trans ht2)
  rw[qik] at hd2
  unfold Lib.TabIs
  rw[hv2,← Lib.cells_of_tab underlying237 underlying32 qtj qjc hd2]
 ·obtain rfl:=Option.some.inj (qow.symm.trans (by rw[← hg6.symm.trans qfw |> Option.some.inj];exact ht6))
  have e:=qfy hd6
  rw[World.var?_cell qfw hv6 k,← Array.getElem?_toList,e]
  exact hk
noncomputable def wH (os:Os):World:={ World.holding prog os ⟨#[],#[],[]⟩ with heap:=(World.holding prog os ⟨#[],#[],[]⟩).heap.set! 1 (.cells #[.iface 178 (.agg #[.pointer (some ⟨12,26,none⟩)])] 138) }
def qcb (laid:List (String × DataW Unit)):List (String × DataW Unit):=laid.filter fun x=>x.2.handleName?.isNone
theorem qah {P:Program} {w0:World} {laid:List (String × DataW Unit)} (args:Array Value) (hf:w0.layFits P laid []=true) (hi:w0.layIfaces P laid (w0.layVars P laid)=true):laidMet P laid ((w0.layVars P laid).forCall (fun _ _=>0) ⟨#[],args,[]⟩).memory:=by
 have e1:(laid.filter fun x=>(laid.map (·.1)).contains x.1)=laid:=by
  rw[List.filter_eq_self]
  intro x hx
  rw[List.contains_iff_mem]
  exact List.mem_map_of_mem hx
 have e2:(laid.filter fun x=>!(laid.map (·.1)).contains x.1)=[]:=by
  rw[List.filter_eq_nil_iff]
  intro x hx
  rw[List.contains_iff_mem.2 (List.mem_map_of_mem hx)]
  exact Bool.false_ne_true
 have h:laidMet P laid (w0.layVars P laid):=laidMet_layVars (w0:=w0) (laid.map (·.1)) [] (by rw[e1]) (by rw[e1];exact hf) (by rw[e1];exact hi) (by rw[e2];exact LaidIn.none)
 exact h.of_heap (by simp[World.memory,World.forCall,Input.heap])
theorem quk (os:Os) (args:Array Value):laidMetH prog Rows.treatyBackRow.laid (((wH os).layVars prog (qcb Rows.treatyBackRow.laid)).forCall (fun _ _=>0) ⟨#[],args,[]⟩).memory :=
 laidMetH_of_parts (qah args (by kernel_rfl) (by kernel_rfl)) (by kernel_rfl)
theorem lifted (os:Os) (started:os.Started) (H:Type) (enc:TypeId × Value→H) :
  ReturnsInHanded {} Tryz.checked os 3 .any (fun w args=>(Rows.treatyBackSpec.pre enc prog Tryz.f3 [] false w args∧laidMetH prog Rows.treatyBackRow.laid w)∧sizedMet enc prog Tryz.f3 (OpenSpec.ofChange Rows.treatyBackSpec) false w args)
   (Rows.treatyBackSpec.post enc prog Tryz.f3 false true false false):=by
 refine znq (C:=Tryz.checked) own (X:=fun w _=>laidMetH prog Rows.treatyBackRow.laid w) (fun _ _ _ hh h=>h.of_heap hh) started (by kernel_rfl) func3
  (ChangeSpec.witness_shaped (enc:=enc) (C:=Tryz.checked) (os:=os) (X:=fun w _=>laidMetH prog Rows.treatyBackRow.laid w) false ((wH os).layVars prog (qcb Rows.treatyBackRow.laid)) #[.slice none 0 0] 8 ((World.layVars_os _ _ _).trans rfl) (World.shaped_of_ZipB (by kernel_rfl) (by kernel_rfl)) (by kernel_rfl) (by kernel_rfl) (by kernel_rfl)
   (quk os _)) ?_
 intro W base args ds gs before hval0 hW hL hsh
 have hval:∀ (j:Nat) t v,Tryz.f3.params[j]? = some t→args[j]? = some v→Value.okWide prog W .any base t v:=hval0
 have hW':=hW
 obtain⟨p,q,hA0,hV,rfl,hfz,hnd⟩:=hW
 have hA:DataW.TrodAll enc prog W 0 (fun _=>true) true Tryz.f3.params.toList args.toList ds p:=hA0
 rw[params3] at hA hval
 obtain⟨v0,d0,rfl,rfl,h0⟩:=trodAll_one hA
 obtain⟨rfl,rfl⟩:=trodVars_none hV
 obtain⟨htab,hF⟩:=qex hL
 obtain⟨mx,hmx⟩:=qfe hsh
 obtain⟨ls,hls,hfit,hbig,hlt0⟩:=zyz (hval 0 22 v0 rfl rfl) h0
 clear hA0 hval0 hval hA
 simp only[List.append_nil] at hW'
 have key:Calls prog 3 #[v0] W fun e w'=>e=.returned (.bool true)∧But [] W w':=zkh v0 ls mx W hls hfit hbig htab hF hmx
 refine key.mono fun e W' ⟨he,hb⟩=>?_
 subst he
 have hbl:=hb.below
 have e1:Rows.treatyBackSpec.fn H ([d0]++[])={ results:=[.lit (.bool true)],args:=[d0] }:=rfl
 refine⟨_,rfl,_,_,_,[],p,[],hW',?_,?_,?_,hbl.frame _,fun h=>by cases h⟩
 ·rw[e1];exact trodAll_mk1 (shut_bool underlying4 true)
 ·rw[e1];exact trodAll_mk1 (Below.trod qfm (by kernel_rfl) (of_decide_eq_true (by kernel_rfl)) h0 hbl hlt0)
 ·rw[e1];rfl
theorem row_holds:Rows.TreatyBackSaid :=
 OpenClaim.holds_of_wide 3 Tryz.f3 rfl rfl rfl rfl rfl rfl rfl ⟨rfl,rfl,rfl,rfl,rfl⟩ rfl rfl rfl rfl rfl (by kernel_rfl) func3 (by kernel_rfl)
  (of_decide_eq_true (by kernel_rfl)) (by unfold Func.isWrapper;rw[if_neg (of_decide_eq_false (by kernel_rfl))];exact⟨rfl,rfl⟩)
  (fun os started H enc _=>lifted os started H enc)
theorem card_holds:Rows.TreatyBackCardSaid :=
 Claim7.holds_tied_plain_at .later [] [.data,.data,.data,.data,.handle,.sentinel,.sentinel,.data,.pinned] true (true,"9ee13b96eb9f624f0e8138cb81e84a43e14ba296b5fea36e5a4faf3a30c67045") true
  row_holds (fun _ h=>by cases h) (by kernel_rfl) (fun _ h=>by cases h) treatyBack_row_tie rfl ⟨rfl,rfl⟩ (by kernel_rfl) rfl
  (fun f fn hf hfn=>by
   obtain rfl:f = 3:=Option.some.inj ((show prog.funcNamed "tontine/tontinekeep.TreatyBack" = some 3 by kernel_rfl).symm.trans hf) |>.symm
   obtain rfl:fn=Tryz.f3:=(Option.some.inj (func3.symm.trans hfn)).symm
   exact⟨by kernel_rfl,fun j t ht=>by
    rw[params3] at ht
    rcases j with _ | j
    ·obtain rfl : 22 = t:=by simpa using ht
     exact (show prog.wantsStandIn 22 = false by kernel_rfl)
    ·simp at ht⟩)
  (by kernel_rfl)
#print axioms card_holds
end Go.Proofs.YtcgecpoedojhjaaGreatDoor
