/- CreditBest, where what it reads is of the bulk that the second statement bears: at every three rows of pairs (chances, means, spreads of kinds), every number of years, every line, every rows of pairs the law (no line is less amiss than Linear's; premiums are as much as the mean says) answers true and leaves its arguments as they were: the row, and the card that ties the listed variables to the program's text. -/
import Derived.Deep.DeepWitnessRowRef
import Derived.Test.YtloojmaamaambaaGreatDoorKBJS
namespace Go.Proofs.YtloojmaamaambaaGreatDoor
open Go.ChangeShapes Go.WideShapes Go.ChangeAt Go.RowKit Go.Joins
set_option linter.unusedVariables false

theorem trodAll_seven {H : Type} {enc : TypeId × Value→H} {P : Program} {w : World} {base : Nat} {spare : Nat→Bool} {held : Bool} {t0 t1 t2 t3 t4 t5 t6 : TypeId} {args : Array Value} {ds : List (DataW H)} {ps : List MemPlace} (h : DataW.TrodAll enc P w base spare held [t0,t1,t2,t3,t4,t5,t6] args.toList ds ps) :
  ∃ v0 v1 v2 v3 v4 v5 v6 d0 d1 d2 d3 d4 d5 d6 p0 p1 p2 p3 p4 p5 p6,args = #[v0,v1,v2,v3,v4,v5,v6]∧ds = [d0,d1,d2,d3,d4,d5,d6]∧ps = p0 ++ (p1 ++ (p2 ++ (p3 ++ (p4 ++ (p5 ++ p6)))))∧DataW.Trod enc P w base spare held t0 v0 d0 p0∧DataW.Trod enc P w base spare held t1 v1 d1 p1∧DataW.Trod enc P w base spare held t2 v2 d2 p2∧DataW.Trod enc P w base spare held t3 v3 d3 p3∧DataW.Trod enc P w base spare held t4 v4 d4 p4∧DataW.Trod enc P w base spare held t5 v5 d5 p5∧DataW.Trod enc P w base spare held t6 v6 d6 p6:=by
 obtain ⟨v0,vs0,d0,ds0,p0,q0,hargs,rfl,rfl,h0,r0⟩:=trodAll_cons h
 obtain ⟨v1,vs1,d1,ds1,p1,q1,rfl,rfl,rfl,h1,r1⟩:=trodAll_cons r0
 obtain ⟨v2,vs2,d2,ds2,p2,q2,rfl,rfl,rfl,h2,r2⟩:=trodAll_cons r1
 obtain ⟨v3,vs3,d3,ds3,p3,q3,rfl,rfl,rfl,h3,r3⟩:=trodAll_cons r2
 obtain ⟨v4,vs4,d4,ds4,p4,q4,rfl,rfl,rfl,h4,r4⟩:=trodAll_cons r3
 obtain ⟨v5,vs5,d5,ds5,p5,q5,rfl,rfl,rfl,h5,r5⟩:=trodAll_cons r4
 obtain ⟨v6,vs6,d6,ds6,p6,q6,rfl,rfl,rfl,h6,r6⟩:=trodAll_cons r5
 obtain ⟨rfl,rfl,rfl⟩:=trodAll_nil r6
 exact ⟨v0,v1,v2,v3,v4,v5,v6,d0,d1,d2,d3,d4,d5,d6,p0,p1,p2,p3,p4,p5,p6,by cases args; simp_all,rfl,by simp,h0,h1,h2,h3,h4,h5,h6⟩
set_option maxRecDepth 100000 in
theorem of_laid3 {W : World} (h : laidMetH Tryz.prog [("math/bits.deBruijn32tab",Rows.laid_math_bits_deBruijn32tab),("math/bits.deBruijn64tab",Rows.laid_math_bits_deBruijn64tab),("internal/strconv.uint64pow10",Rows.laid_internal_strconv_uint64pow10)] W) : Lib.TabIs Tryz.prog W "internal/strconv.uint64pow10" .u64 Lib.pow10Tab:=by
 have h' : laidMet Tryz.prog [("math/bits.deBruijn32tab",Rows.laid_math_bits_deBruijn32tab),("math/bits.deBruijn64tab",Rows.laid_math_bits_deBruijn64tab),("internal/strconv.uint64pow10",Rows.laid_internal_strconv_uint64pow10)] W:=h
 obtain ⟨ps,⟨g0,t0,cs0,f0,p0,q0,-,-,-,-,⟨g1,t1,cs1,f1,p1,q1,-,-,-,-,⟨g2,t2,cs2,f2,p2,q2,hg2,ht2,hv2,hd2,-,-⟩,-⟩,-⟩,-⟩:=h'
 obtain rfl:=Option.some.inj (gPow.symm.trans hg2)
 obtain rfl:=Option.some.inj (tPow.symm.trans ht2)
 rw [powData] at hd2
 unfold Lib.TabIs
 rw [hv2,← Lib.cells_of_tab Tryz.underlying267 Tryz.underlying26 cells1 cells20 hd2]
set_option maxRecDepth 100000 in
theorem door_met (os : Os) (args : Array Value) : laidMetH Tryz.prog Rows.creditBestUptoRow.laid ((World.doorLaid Tryz.prog 400 os).forCall (fun _ _ => 0) ⟨#[],args,[]⟩).memory :=
 laidMetH_of_parts3 (fuel:=8) (laidMet_of_run' 8 (by kernel_rfl) (by kernel_rfl)) (by kernel_rfl) (by kernel_rfl)
set_option maxRecDepth 100000 in
theorem pairs_in2 {H : Type} {enc : TypeId × Value→H} {W : World} {v : Value} {d : DataW H} {ps : List MemPlace} (hval : Value.okWide Tryz.prog W .any 0 24 v) (h : DataW.Trod enc Tryz.prog W 0 (fun _ => true) true 24 v d ps) :
  ∃ qs : List (Int × Int),QsAt W v qs∧(∀ q ∈ qs,Fits q)∧(∀ x ∈ ps,x.block < W.heap.size)∧qs.length + 1 ≤ Rows.uptoBulk d:=by
 obtain ⟨a,len,cap,rfl⟩:=okWide_slice Tryz.underlying24 hval
 obtain ⟨fuel,hf⟩:=h
 exact pairs_inT hf

set_option maxRecDepth 100000 in
theorem contract (H : Type) (enc : TypeId × Value→H) (W : World) (base : Nat) (args : Array Value) (ds gs : List (DataW H)) (before : List MemPlace)
  (hval0 : ∀ (j : Nat) t v,Tryz.f8.params[j]? = some t→args[j]? = some v→Value.okWide Tryz.prog W .any base t v)
  (hW : DataW.Whole enc Tryz.prog Tryz.f8.params.toList Rows.creditBestSpec.vars false W args.toList ds gs before) (hk : Rows.uptoSmall H (ds ++ gs) = true) (hL : laidMetH Tryz.prog Rows.creditBestUptoRow.laid W) :
  Calls Tryz.prog 8 args W fun e W' => ∃ v,e = .returned v∧Rows.creditBestSpec.post enc Tryz.prog Tryz.f8 false true false false W args v W':=by
 have hval : ∀ (j : Nat) t v,Tryz.f8.params[j]? = some t→args[j]? = some v→Value.okWide Tryz.prog W .any base t v:=hval0
 have hW':=hW
 obtain ⟨p,q,hA0,hV,rfl,hfz,hnd⟩:=hW
 have hA : DataW.TrodAll enc Tryz.prog W 0 (fun _ => true) true Tryz.f8.params.toList args.toList ds p:=hA0
 rw [Tryz.params8] at hA hval
 obtain ⟨v0,v1,v2,v3,v4,v5,v6,d0,d1,d2,d3,d4,d5,d6,p0,p1,p2,p3,p4,p5,p6,rfl,rfl,rfl,h0,h1,h2,h3,h4,h5,h6⟩:=trodAll_seven hA
 obtain ⟨rfl,rfl⟩:=trodVars_none hV
 obtain ⟨yy,rfl,rfl,rfl,wy⟩:=open_int Tryz.underlying3 (hval 3 3 v3 rfl rfl) h3
 obtain ⟨s4,t4,y4,z4,m4,rfl,rfl,rfl,hy4,hz4⟩:=open_agg2 Tryz.underlying23 (by kernel_rfl) cellsQ (hval 4 23 v4 rfl rfl) h4
 obtain ⟨a4,ea4,rfl,wa4⟩:=DataW.trod_int Tryz.underlying3 hy4
 obtain ⟨b4,eb4,rfl,wb4⟩:=DataW.trod_int Tryz.underlying3 hz4
 obtain ⟨s5,t5,y5,z5,m5,rfl,rfl,rfl,hy5,hz5⟩:=open_agg2 Tryz.underlying23 (by kernel_rfl) cellsQ (hval 5 23 v5 rfl rfl) h5
 obtain ⟨a5,ea5,rfl,wa5⟩:=DataW.trod_int Tryz.underlying3 hy5
 obtain ⟨b5,eb5,rfl,wb5⟩:=DataW.trod_int Tryz.underlying3 hz5
 simp at ea4 eb4 ea5 eb5
 subst ea4 eb4 ea5 eb5
 have htab:=of_laid3 hL
 obtain ⟨qs0,hqs0,hf0,hl0,hb0⟩:=pairs_in2 (hval 0 24 v0 rfl rfl) h0
 obtain ⟨qs1,hqs1,hf1,hl1,hb1⟩:=pairs_in2 (hval 1 24 v1 rfl rfl) h1
 obtain ⟨qs2,hqs2,hf2,hl2,hb2⟩:=pairs_in2 (hval 2 24 v2 rfl rfl) h2
 obtain ⟨rs,hrs,hf6,hl6,hb6⟩:=rows_in (hval 6 74 v6 rfl rfl) h6
 clear hA0 hval0 hval h3 h4 h5 hA
 have hB:=of_decide_eq_true (show decide _ = true from hk)
 simp only [List.cons_append,List.nil_append,Rows.uptoBulkAll] at hB
 simp only [List.append_nil,List.nil_append] at hW'
 have By : -9223372036854775808 ≤ yy∧yy < 9223372036854775808:=by have:=bounds_i64 wy; omega
 have Ba4 : -9223372036854775808 ≤ a4∧a4 < 9223372036854775808:=by have:=bounds_i64 wa4; omega
 have Bb4 : -9223372036854775808 ≤ b4∧b4 < 9223372036854775808:=by have:=bounds_i64 wb4; omega
 have Ba5 : -9223372036854775808 ≤ a5∧a5 < 9223372036854775808:=by have:=bounds_i64 wa5; omega
 have Bb5 : -9223372036854775808 ≤ b5∧b5 < 9223372036854775808:=by have:=bounds_i64 wb5; omega
 have rint : ∀ (x : Int),(Lit.int .i64 x).wf = true→∀ (W' : World) (b : Nat) (sp : Nat→Bool) (hd : Bool),DataW.Trod enc Tryz.prog W' b sp hd 3 (.int .i64 x) (.lit (.int .i64 x)) []:=fun x wx W' b sp hd => shut_int Tryz.underlying3 wx
 have reads : ∀ (x y : Int),(Lit.int .i64 x).wf = true→(Lit.int .i64 y).wf = true→∀ (W' : World) (b : Nat) (sp : Nat→Bool) (hd : Bool),DataW.Trod enc Tryz.prog W' b sp hd 23 (.agg #[.int .i64 x,.int .i64 y]) (.agg [.lit (.int .i64 x),.lit (.int .i64 y)]) []:=fun x y wx wy W' b sp hd =>
  shut_agg2 (y0:=(.lit (.int .i64 x),[])) (y1:=(.lit (.int .i64 y),[])) Tryz.underlying23 (by kernel_rfl) cellsQ ⟨1,by simp [DataW.trod,Tryz.underlying3,wx]⟩ ⟨1,by simp [DataW.trod,Tryz.underlying3,wy]⟩
 have key : Calls Tryz.prog 8 #[v0,v1,v2,.int .i64 yy,.agg #[.int .i64 a4,.int .i64 b4],.agg #[.int .i64 a5,.int .i64 b5],v6] W fun e w' => e = .returned (.bool true)∧But [] W w':=creditBest_any v0 v1 v2 v6 yy a4 b4 a5 b5 qs0 qs1 qs2 rs W hqs0 hqs1 hqs2 hrs hf0 hf1 hf2 ⟨Ba4.1,Ba4.2,Bb4.1,Bb4.2⟩ ⟨Ba5.1,Ba5.2,Bb5.1,Bb5.2⟩ hf6 By.1 By.2 (by omega) (by omega) (by omega) htab
 refine key.mono fun e W' ⟨he,hb⟩ => ?_
 subst he
 have hbl:=hb.below
 have e1 : Rows.creditBestSpec.fn H ([d0,d1,d2,.lit (.int .i64 yy),.agg [.lit (.int .i64 a4),.lit (.int .i64 b4)],.agg [.lit (.int .i64 a5),.lit (.int .i64 b5)],d6] ++ []) = { results:=[.lit (.bool true)],args:=[d0,d1,d2,.lit (.int .i64 yy),.agg [.lit (.int .i64 a4),.lit (.int .i64 b4)],.agg [.lit (.int .i64 a5),.lit (.int .i64 b5)],d6] }:=by simp [Rows.creditBestSpec]
 refine ⟨_,rfl,_,_,_,[],p0 ++ (p1 ++ (p2 ++ ([] ++ ([] ++ ([] ++ p6))))),[],hW',?_,?_,?_,hbl.frame _,fun h => by cases h⟩
 ·rw [e1]; exact trodAll_mk1 (shut_bool Tryz.underlying4 true)
 ·rw [e1]; exact trodAll_cons_mk (Below.trod laid_out (by kernel_rfl) (of_decide_eq_true (by kernel_rfl)) h0 hbl hl0) (trodAll_cons_mk (Below.trod laid_out (by kernel_rfl) (of_decide_eq_true (by kernel_rfl)) h1 hbl hl1) (trodAll_cons_mk (Below.trod laid_out (by kernel_rfl) (of_decide_eq_true (by kernel_rfl)) h2 hbl hl2) (trodAll_cons_mk (rint yy wy _ _ _ _) (trodAll_cons_mk (reads a4 b4 wa4 wb4 _ _ _ _) (trodAll_mk2 (reads a5 b5 wa5 wb5 _ _ _ _) (Below.trod laid_out (by kernel_rfl) (of_decide_eq_true (by kernel_rfl)) h6 hbl hl6))))))
 ·rw [e1]; rfl

set_option maxRecDepth 100000 in
theorem reads_door (os : Os) {H : Type} (enc : TypeId × Value→H) : ∃ places,DataW.whole enc Tryz.prog ((World.doorLaid Tryz.prog 400 os).forCall (fun _ _ => 0) ⟨#[],#[.slice none 0 0,.slice none 0 0,.slice none 0 0,.int .i64 0,.agg #[.int .i64 0,.int .i64 0],.agg #[.int .i64 0,.int .i64 0],.slice none 0 0],[]⟩).memory Tryz.f8.params.toList Rows.creditBestSpec.vars false (#[.slice none 0 0,.slice none 0 0,.slice none 0 0,.int .i64 0,.agg #[.int .i64 0,.int .i64 0],.agg #[.int .i64 0,.int .i64 0],.slice none 0 0] : Array Value).toList 8 = some ([.nil,.nil,.nil,.lit (.int .i64 0),.agg [.lit (.int .i64 0),.lit (.int .i64 0)],.agg [.lit (.int .i64 0),.lit (.int .i64 0)],.nil],[],places) :=
 ⟨[],by kernel_rfl⟩

set_option maxRecDepth 100000 in
theorem liftedUpto (os : Os) (started : os.Started) (H : Type) (enc : TypeId × Value→H) (F : Stop.Interp) :
  ReturnsInHanded {} Tryz.checked os 8 .any ((Rows.OpenSpec.upto Rows.creditBestSpec).preRow enc Tryz.prog Tryz.f8 Rows.creditBestUptoRow.domain false Rows.creditBestUptoRow.laid) (((Rows.OpenSpec.upto Rows.creditBestSpec).at F).post enc Tryz.prog Tryz.f8 false true false false):=by
 obtain ⟨places,hx⟩:=reads_door os enc
 refine returnsInHanded_of_row (C:=Tryz.checked) (s:=Rows.OpenSpec.upto Rows.creditBestSpec) own started (by kernel_rfl) Tryz.func8
  (witness_row_atRef (enc:=enc) (C:=Tryz.checked) false (World.doorLaid Tryz.prog 400 os) #[.slice none 0 0,.slice none 0 0,.slice none 0 0,.int .i64 0,.agg #[.int .i64 0,.int .i64 0],.agg #[.int .i64 0,.int .i64 0],.slice none 0 0] rfl (by kernel_rfl) (by kernel_rfl) (by kernel_rfl)
   (OpenSpec.preRow_of_cond 8 hx (by kernel_rfl) (fun k hk => by cases hk; kernel_rfl) (by kernel_rfl) (door_met os _))) ?_
 intro W base args ds gs before hval hW _ hcond _ hL _ _
 exact contract H enc W base args ds gs before hval hW (hcond _ rfl) hL

theorem row_holds : Rows.CreditBestUptoSaid :=
 OpenClaim.holds_of_cond 8 Tryz.f8 rfl rfl rfl rfl rfl rfl rfl ⟨rfl,rfl,rfl,rfl,rfl⟩ rfl rfl rfl rfl rfl (by kernel_rfl) Tryz.func8 (by kernel_rfl)
  (of_decide_eq_true (by kernel_rfl)) (by unfold Func.isWrapper; rw [if_neg (of_decide_eq_false (by kernel_rfl))]; exact ⟨rfl,rfl⟩)
  (fun os started H enc _ F => by rw [OpenClaim.pre_eq_preRow]; exact liftedUpto os started H enc F)

theorem card_holds : Rows.CreditBestUptoCardSaid :=
 Claim7.holds_tied_plain_at .later [] [.data,.data,.data] true (true,"4d3c00088ceb963bd83af4490b4efff3751756a27bf0e4ff69c560e29abee221") true
  row_holds (fun _ h => by cases h) (by kernel_rfl) (fun _ h => by cases h) creditBestUpto_row_tie rfl ⟨rfl,rfl⟩ (by kernel_rfl) rfl
  (fun f fn hf hfn => by
   obtain rfl : f = 8:=Option.some.inj ((show Tryz.prog.funcNamed "tontine/tontinekeep.CreditBest" = some 8 by kernel_rfl).symm.trans hf) |>.symm
   obtain rfl : fn = Tryz.f8:=(Option.some.inj (Tryz.func8.symm.trans hfn)).symm
   exact ⟨by kernel_rfl,fun j t ht => by
    rw [Tryz.params8] at ht
    rcases j with _ | _ | _ | _ | _ | _ | _ | j
    ·obtain rfl : 24 = t:=by simpa using ht
     exact (show Tryz.prog.wantsStandIn 24 = false by kernel_rfl)
    ·obtain rfl : 24 = t:=by simpa using ht
     exact (show Tryz.prog.wantsStandIn 24 = false by kernel_rfl)
    ·obtain rfl : 24 = t:=by simpa using ht
     exact (show Tryz.prog.wantsStandIn 24 = false by kernel_rfl)
    ·obtain rfl : 3 = t:=by simpa using ht
     exact (show Tryz.prog.wantsStandIn 3 = false by kernel_rfl)
    ·obtain rfl : 23 = t:=by simpa using ht
     exact (show Tryz.prog.wantsStandIn 23 = false by kernel_rfl)
    ·obtain rfl : 23 = t:=by simpa using ht
     exact (show Tryz.prog.wantsStandIn 23 = false by kernel_rfl)
    ·obtain rfl : 74 = t:=by simpa using ht
     exact (show Tryz.prog.wantsStandIn 74 = false by kernel_rfl)
    ·simp at ht⟩)
  (by kernel_rfl)
#print axioms card_holds
end Go.Proofs.YtloojmaamaambaaGreatDoor
