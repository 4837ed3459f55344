/- TableBack: at every age, row of rates (pairs of whole numbers; more than 60 it leaves) and three numbers the law (read of text is the table again; to live so many years and then so many more is to live them all) answers true and leaves its arguments as they were: the row, and the card that ties the listed variables to the program's text. -/
import Derived.Lay
import Derived.Test.YtndcigdphgojpaaGreatDoorKTCO
import Derived.Test.YtndcigdphgojpaaGreatDoorKTEK
namespace Go.Proofs.YtndcigdphgojpaaGreatDoor
open Go.ChangeShapes Go.WideShapes Go.ChangeAt Go.RowKit Go.Joins
set_option linter.unusedVariables false

theorem tableBack_any (z age nn mm : Int) (v : Value) (qs : List (Int × Int)) (w : World) (hq : QsAt w v qs) (hf : ∀ q ∈ qs,Fits q) (ha : -9223372036854775808 ≤ age∧age < 9223372036854775808) (hn : -9223372036854775808 ≤ nn∧nn < 9223372036854775808) (hm : -9223372036854775808 ≤ mm∧mm < 9223372036854775808)
  (htab : Lib.TabIs Tryz.prog w "internal/strconv.uint64pow10" .u64 Lib.pow10Tab) (hg : ErrVar w) :
  Calls Tryz.prog 3 #[.int .i64 z,v,.int .i64 age,.int .i64 nn,.int .i64 mm] w fun e w' => e = .returned (.bool true)∧But [] w w':=by
 obtain ⟨a,c,rfl⟩ : ∃ a c,v = .slice a qs.length c:=by obtain ⟨a,cap,e,-⟩:=id hq; exact ⟨a,cap,e⟩
 by_cases h : qs.length ≤ 60
 ·exact tableBack_few z age nn mm a _ c qs w hq hf rfl h ha.1 ha.2 hn.1 hn.2 hm.1 hm.2 htab hg
 ·exact tableBack_many z age nn mm a _ c w h
theorem trodAll_five {H : Type} {enc : TypeId × Value→H} {P : Program} {w : World} {base : Nat} {spare : Nat→Bool} {held : Bool} {t0 t1 t2 t3 t4 : TypeId} {args : Array Value} {ds : List (DataW H)} {ps : List MemPlace} (h : DataW.TrodAll enc P w base spare held [t0,t1,t2,t3,t4] args.toList ds ps) :
  ∃ v0 v1 v2 v3 v4 d0 d1 d2 d3 d4 p0 p1 p2 p3 p4,args = #[v0,v1,v2,v3,v4]∧ds = [d0,d1,d2,d3,d4]∧ps = p0 ++ (p1 ++ (p2 ++ (p3 ++ p4)))∧DataW.Trod enc P w base spare held t0 v0 d0 p0∧DataW.Trod enc P w base spare held t1 v1 d1 p1∧DataW.Trod enc P w base spare held t2 v2 d2 p2∧DataW.Trod enc P w base spare held t3 v3 d3 p3∧DataW.Trod enc P w base spare held t4 v4 d4 p4:=by
 obtain ⟨v0,vs0,d0,ds0,p0,q0,hargs,rfl,rfl,h0,r0⟩:=trodAll_cons h
 obtain ⟨v1,vs1,d1,ds1,p1,q1,rfl,rfl,rfl,h1,r1⟩:=trodAll_cons r0
 obtain ⟨v2,vs2,d2,ds2,p2,q2,rfl,rfl,rfl,h2,r2⟩:=trodAll_cons r1
 obtain ⟨v3,vs3,d3,ds3,p3,q3,rfl,rfl,rfl,h3,r3⟩:=trodAll_cons r2
 obtain ⟨v4,vs4,d4,ds4,p4,q4,rfl,rfl,rfl,h4,r4⟩:=trodAll_cons r3
 obtain ⟨rfl,rfl,rfl⟩:=trodAll_nil r4
 exact ⟨v0,v1,v2,v3,v4,d0,d1,d2,d3,d4,p0,p1,p2,p3,p4,by cases args; simp_all,rfl,by simp,h0,h1,h2,h3,h4⟩
/-- what the listed variables give the walk: the table of powers of ten, and the type's handle -/
theorem of_laidT {W : World} (h : laidMetH Tryz.prog Rows.tableBackRow.laid W) : Lib.TabIs Tryz.prog W "internal/strconv.uint64pow10" .u64 Lib.pow10Tab∧W.cell? ⟨0,0,none⟩ = some (.iface 156 (.agg #[.pointer (some ⟨9,28,none⟩)])):=by
 have h' : laidMet Tryz.prog [("math/bits.deBruijn32tab",Rows.laid_math_bits_deBruijn32tab),("math/bits.deBruijn64tab",Rows.laid_math_bits_deBruijn64tab),("internal/strconv.uint64pow10",Rows.laid_internal_strconv_uint64pow10),("strconv.ErrRange",Rows.laid_strconv_ErrRange),("strconv.ErrSyntax",Rows.laid_strconv_ErrSyntax)] W∧handlesMet Tryz.prog [("errors.errorType",Rows.laid_errors_errorType)] W:=h
 refine ⟨?_,?_⟩
 ·obtain ⟨ps,⟨g0,t0,cs0,f0,p0,q0,-,-,-,-,⟨g1,t1,cs1,f1,p1,q1,-,-,-,-,⟨g2,t2,cs2,f2,p2,q2,hg2,ht2,hv2,hd2,-,-⟩,-⟩,-⟩,-⟩:=h'.1
  obtain rfl:=Option.some.inj (gPow.symm.trans hg2)
  obtain rfl:=Option.some.inj (tPow.symm.trans ht2)
  rw [powData] at hd2
  unfold Lib.TabIs
  rw [hv2,← Lib.cells_of_tab Tryz.underlying199 Tryz.underlying33 cells1 cells20 hd2]
 ·obtain ⟨name,u,ty,e1,e2,e3,e4,e5⟩:=h'.2 _ (List.mem_singleton.2 rfl)
  have en : name = [101,114,114,111,114]:=(Option.some.inj e1).symm
  subst en
  obtain rfl:=Option.some.inj (rtErr.symm.trans e2)
  have hm : ty ∈ (List.range 241).filter fun t => Tryz.prog.rowNamed t [101,114,114,111,114]:=List.mem_filter.2 ⟨List.mem_range.2 (by rw [← tsize]; exact e3),e4⟩
  rw [oneRow] at hm
  obtain rfl:=List.mem_singleton.1 hm
  have hh : typeHandle Tryz.prog 28 = .pointer (some ⟨9,28,none⟩):=by kernel_rfl
  rw [hh] at e5
  simpa using World.var?_cell gErr e5 0

/-- a world in which the one handle lies, and nothing else yet -/
noncomputable def wH (os : Os) : World:={ World.holding Tryz.prog os ⟨#[],#[],[]⟩ with heap:=(World.holding Tryz.prog os ⟨#[],#[],[]⟩).heap.set! 0 (.cells #[.iface 156 (.agg #[.pointer (some ⟨9,28,none⟩)])] 120) }
/-- what is laid without the handle -/
def plainL (laid : List (String × DataW Unit)) : List (String × DataW Unit):=laid.filter fun x => x.2.handleName?.isNone
theorem laid_over {P : Program} {w0 : World} {laid : List (String × DataW Unit)} (args : Array Value) (hf : w0.layFits P laid [] = true) (hi : w0.layIfaces P laid (w0.layVars P laid) = true) : laidMet P laid ((w0.layVars P laid).forCall (fun _ _ => 0) ⟨#[],args,[]⟩).memory:=by
 have e1 : (laid.filter fun x => (laid.map (·.1)).contains x.1) = laid:=by
  rw [List.filter_eq_self]
  intro x hx
  rw [List.contains_iff_mem]
  exact List.mem_map_of_mem hx
 have e2 : (laid.filter fun x => !(laid.map (·.1)).contains x.1) = []:=by
  rw [List.filter_eq_nil_iff]
  intro x hx
  rw [List.contains_iff_mem.2 (List.mem_map_of_mem hx)]
  exact Bool.false_ne_true
 have h : laidMet P laid (w0.layVars P laid):=laidMet_layVars (w0:=w0) (laid.map (·.1)) [] (by rw [e1]) (by rw [e1]; exact hf) (by rw [e1]; exact hi) (by rw [e2]; exact LaidIn.none)
 exact h.of_heap (by simp [World.memory,World.forCall,Input.heap])
theorem metT (os : Os) (args : Array Value) : laidMetH Tryz.prog Rows.tableBackRow.laid (((wH os).layVars Tryz.prog (plainL Rows.tableBackRow.laid)).forCall (fun _ _ => 0) ⟨#[],args,[]⟩).memory :=
 laidMetH_of_parts (laid_over args (by kernel_rfl) (by kernel_rfl)) (by kernel_rfl)
set_option maxRecDepth 100000 in
theorem lifted (os : Os) (started : os.Started) (H : Type) (enc : TypeId × Value→H) :
  ReturnsInHanded {} Tryz.checked os 3 .any (fun w args => (Rows.tableBackSpec.pre enc Tryz.prog Tryz.f3 [] false w args∧laidMetH Tryz.prog Rows.tableBackRow.laid w)∧sizedMet enc Tryz.prog Tryz.f3 (OpenSpec.ofChange Rows.tableBackSpec) false w args)
   (Rows.tableBackSpec.post enc Tryz.prog Tryz.f3 false true false false):=by
 refine returns_shape (C:=Tryz.checked) own (X:=fun w _ => laidMetH Tryz.prog Rows.tableBackRow.laid w) (fun _ _ _ hh h => h.of_heap hh) started (by kernel_rfl) Tryz.func3
  (ChangeSpec.witness_shaped (enc:=enc) (C:=Tryz.checked) (os:=os) (X:=fun w _ => laidMetH Tryz.prog Rows.tableBackRow.laid w) false ((wH os).layVars Tryz.prog (plainL Rows.tableBackRow.laid)) #[.int .i64 0,.slice none 0 0,.int .i64 0,.int .i64 0,.int .i64 0] 8 ((World.layVars_os _ _ _).trans rfl) (World.shaped_of_ZipB (by kernel_rfl) (by kernel_rfl)) (by kernel_rfl) (by kernel_rfl) (by kernel_rfl)
   (metT os _)) ?_
 intro W base args ds gs before hval0 hW hL hsh
 have hval : ∀ (j : Nat) t v,Tryz.f3.params[j]? = some t→args[j]? = some v→Value.okWide Tryz.prog W .any base t v:=hval0
 have hW':=hW
 obtain ⟨p,q,hA0,hV,rfl,hfz,hnd⟩:=hW
 have hA : DataW.TrodAll enc Tryz.prog W 0 (fun _ => true) true Tryz.f3.params.toList args.toList ds p:=hA0
 rw [Tryz.params3] at hA hval
 obtain ⟨v0,v1,v2,v3,v4,d0,d1,d2,d3,d4,p0,p1,p2,p3,p4,rfl,rfl,rfl,h0,h1,h2,h3,h4⟩:=trodAll_five hA
 obtain ⟨rfl,rfl⟩:=trodVars_none hV
 obtain ⟨zx,rfl,rfl,rfl,wz⟩:=open_int Tryz.underlying3 (hval 0 3 v0 rfl rfl) h0
 obtain ⟨ax,rfl,rfl,rfl,wa⟩:=open_int Tryz.underlying3 (hval 2 3 v2 rfl rfl) h2
 obtain ⟨nx,rfl,rfl,rfl,wn⟩:=open_int Tryz.underlying3 (hval 3 3 v3 rfl rfl) h3
 obtain ⟨mx,rfl,rfl,rfl,wm⟩:=open_int Tryz.underlying3 (hval 4 3 v4 rfl rfl) h4
 obtain ⟨htab,herr⟩:=of_laidT hL
 obtain ⟨qs,hqs,hfit,hlt⟩:=pairs_in (hval 1 22 v1 rfl rfl) h1
 clear hA0 hval0 hval h0 h2 h3 h4 hA
 simp only [List.append_nil,List.nil_append] at hW'
 have Ba : -9223372036854775808 ≤ ax∧ax < 9223372036854775808:=by have:=bounds_i64 wa; omega
 have Bn : -9223372036854775808 ≤ nx∧nx < 9223372036854775808:=by have:=bounds_i64 wn; omega
 have Bm : -9223372036854775808 ≤ mx∧mx < 9223372036854775808:=by have:=bounds_i64 wm; omega
 have rint : ∀ (x : Int),(Lit.int .i64 x).wf = true→∀ (W' : World) (b : Nat) (sp : Nat→Bool) (hd : Bool),DataW.Trod enc Tryz.prog W' b sp hd 3 (.int .i64 x) (.lit (.int .i64 x)) []:=fun x wx W' b sp hd => shut_int Tryz.underlying3 wx
 have key : Calls Tryz.prog 3 #[.int .i64 zx,v1,.int .i64 ax,.int .i64 nx,.int .i64 mx] W fun e w' => e = .returned (.bool true)∧But [] W w':=tableBack_any zx ax nx mx v1 qs W hqs hfit Ba Bn Bm htab herr
 refine key.mono fun e W' ⟨he,hb⟩ => ?_
 subst he
 have hbl:=hb.below
 have e1 : Rows.tableBackSpec.fn H ([.lit (.int .i64 zx),d1,.lit (.int .i64 ax),.lit (.int .i64 nx),.lit (.int .i64 mx)] ++ []) = { results:=[.lit (.bool true)],args:=[.lit (.int .i64 zx),d1,.lit (.int .i64 ax),.lit (.int .i64 nx),.lit (.int .i64 mx)] }:=by simp [Rows.tableBackSpec]
 refine ⟨_,rfl,_,_,_,[],[] ++ (p1 ++ ([] ++ ([] ++ []))),[],hW',?_,?_,?_,hbl.frame _,fun h => by cases h⟩
 ·rw [e1]; exact trodAll_mk1 (shut_bool Tryz.underlying4 true)
 ·rw [e1]; exact trodAll_cons_mk (rint zx wz _ _ _ _) (trodAll_cons_mk (Below.trod laid_out (by kernel_rfl) (of_decide_eq_true (by kernel_rfl)) h1 hbl hlt) (trodAll_cons_mk (rint ax wa _ _ _ _) (trodAll_mk2 (rint nx wn _ _ _ _) (rint mx wm _ _ _ _))))
 ·rw [e1]; rfl

theorem row_holds : Rows.TableBackSaid :=
 OpenClaim.holds_of_wide 3 Tryz.f3 rfl rfl rfl rfl rfl rfl rfl ⟨rfl,rfl,rfl,rfl,rfl⟩ rfl rfl rfl rfl rfl (by kernel_rfl) Tryz.func3 (by kernel_rfl)
  (of_decide_eq_true (by kernel_rfl)) (by unfold Func.isWrapper; rw [if_neg (of_decide_eq_false (by kernel_rfl))]; exact ⟨rfl,rfl⟩)
  (fun os started H enc _ => lifted os started H enc)

theorem card_holds : Rows.TableBackCardSaid :=
 Claim7.holds_tied_plain_at .later [] [.data,.data,.data,.handle,.sentinel,.sentinel] true (true,"c6147f469280af690e564f34fc19343b55cc8f0ec354a3fbf2a5788eaf5c1e41") true
  row_holds (fun _ h => by cases h) (by kernel_rfl) (fun _ h => by cases h) tableBack_row_tie rfl ⟨rfl,rfl⟩ (by kernel_rfl) rfl
  (fun f fn hf hfn => by
   obtain rfl : f = 3:=Option.some.inj ((show Tryz.prog.funcNamed "tontine/tontinekeep.TableBack" = some 3 by kernel_rfl).symm.trans hf) |>.symm
   obtain rfl : fn = Tryz.f3:=(Option.some.inj (Tryz.func3.symm.trans hfn)).symm
   exact ⟨by kernel_rfl,fun j t ht => by
    rw [Tryz.params3] at ht
    rcases j with _ | _ | _ | _ | _ | j
    ·obtain rfl : 3 = t:=by simpa using ht
     exact (show Tryz.prog.wantsStandIn 3 = false by kernel_rfl)
    ·obtain rfl : 22 = t:=by simpa using ht
     exact (show Tryz.prog.wantsStandIn 22 = false by kernel_rfl)
    ·obtain rfl : 3 = t:=by simpa using ht
     exact (show Tryz.prog.wantsStandIn 3 = false by kernel_rfl)
    ·obtain rfl : 3 = t:=by simpa using ht
     exact (show Tryz.prog.wantsStandIn 3 = false by kernel_rfl)
    ·obtain rfl : 3 = t:=by simpa using ht
     exact (show Tryz.prog.wantsStandIn 3 = false by kernel_rfl)
    ·simp at ht⟩)
  (by kernel_rfl)
#print axioms card_holds
end Go.Proofs.YtndcigdphgojpaaGreatDoor
