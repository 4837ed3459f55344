/- ClaimsLayers: at every law (a row of pairs of whole numbers), every two bounds and every chance the law (layers, one upon the other, bear all together, in the mean; the worst part is no better than the mean, and than its least) answers true and leaves its arguments as they were: the row, and the card that ties the listed variables to the program's text. -/
import Derived.Test.YtikgmhpbdcdogaaGreatDoorZEK
import Derived.Test.YtikgmhpbdcdogaaGreatDoorZKX
namespace Go.Proofs.YtikgmhpbdcdogaaGreatDoor
open Go.ChangeShapes Go.WideShapes Go.ChangeAt Go.RowKit Go.Joins
set_option linter.unusedVariables false

theorem door_met (os : Os) (args : Array Value) : laidMetH Tryz.prog Rows.claimsLayersRow.laid ((World.doorLaid Tryz.prog 400 os).forCall (fun _ _ => 0) ⟨#[],args,[]⟩).memory :=
 laidMetH_of_parts3 (fuel:=8) (laidMet_of_run' 8 (by kernel_rfl) (by kernel_rfl)) (by kernel_rfl) (by kernel_rfl)

set_option maxRecDepth 100000 in
theorem lifted (os : Os) (started : os.Started) (H : Type) (enc : TypeId × Value→H) :
  ReturnsInHanded {} Tryz.checked os 4 .any (fun w args => (Rows.claimsLayersSpec.pre enc Tryz.prog Tryz.f4 [] false w args∧laidMetH Tryz.prog Rows.claimsLayersRow.laid w)∧sizedMet enc Tryz.prog Tryz.f4 (OpenSpec.ofChange Rows.claimsLayersSpec) false w args)
   (Rows.claimsLayersSpec.post enc Tryz.prog Tryz.f4 false true false false):=by
 refine returns_shape (C:=Tryz.checked) own (X:=fun w _ => laidMetH Tryz.prog Rows.claimsLayersRow.laid w) (fun _ _ _ hh h => h.of_heap hh) started (by kernel_rfl) Tryz.func4
  (ChangeSpec.witness_shaped (enc:=enc) (C:=Tryz.checked) (os:=os) (X:=fun w _ => laidMetH Tryz.prog Rows.claimsLayersRow.laid w) false (World.doorLaid Tryz.prog 400 os) #[.slice none 0 0,.int .i64 0,.int .i64 0,.agg #[.int .i64 0,.int .i64 0]] 8 rfl (World.shaped_of_RefB (by kernel_rfl) (by kernel_rfl)) (by kernel_rfl) (by kernel_rfl) (by kernel_rfl) (door_met os _)) ?_
 intro W base args ds gs before hval0 hW hL hsh
 have hval : ∀ (j : Nat) t v,Tryz.f4.params[j]? = some t→args[j]? = some v→Value.okWide Tryz.prog W .any base t v:=hval0
 have hW':=hW
 obtain ⟨p,q,hA0,hV,rfl,hfz,hnd⟩:=hW
 have hA : DataW.TrodAll enc Tryz.prog W 0 (fun _ => true) true Tryz.f4.params.toList args.toList ds p:=hA0
 rw [Tryz.params4] at hA hval
 obtain ⟨v0,v1,v2,v3,d0,d1,d2,d3,p0,p1,p2,p3,rfl,rfl,rfl,h0,h1,h2,h3⟩:=trodAll_four hA
 obtain ⟨rfl,rfl⟩:=trodVars_none hV
 obtain ⟨y,rfl,rfl,rfl,wy⟩:=open_int Tryz.underlying3 (hval 1 3 v1 rfl rfl) h1
 obtain ⟨z,rfl,rfl,rfl,wz⟩:=open_int Tryz.underlying3 (hval 2 3 v2 rfl rfl) h2
 obtain ⟨s0,t0,y0,z0,m0,rfl,rfl,rfl,hy0,hz0⟩:=open_agg2 Tryz.underlying23 (by kernel_rfl) cellsQ (hval 3 23 v3 rfl rfl) h3
 obtain ⟨a1,ea1,rfl,wa1⟩:=DataW.trod_int Tryz.underlying3 hy0
 obtain ⟨a2,ea2,rfl,wa2⟩:=DataW.trod_int Tryz.underlying3 hz0
 simp at ea1 ea2
 subst ea1 ea2
 obtain ⟨htab,herr⟩:=of_laid hL
 obtain ⟨mx,hmx⟩:=max_some hsh
 obtain ⟨qs,hqs,hfit,hlt⟩:=pairs_in (hval 0 24 v0 rfl rfl) h0
 clear hA0 hval0 hval h3 h1 h2 hA
 simp only [List.append_nil] at hW'
 have Ba1 : -9223372036854775808 ≤ a1∧a1 < 9223372036854775808:=by have:=bounds_i64 wa1; omega
 have Ba2 : -9223372036854775808 ≤ a2∧a2 < 9223372036854775808:=by have:=bounds_i64 wa2; omega
 have By : -9223372036854775808 ≤ y∧y < 9223372036854775808:=by have:=bounds_i64 wy; omega
 have Bz : -9223372036854775808 ≤ z∧z < 9223372036854775808:=by have:=bounds_i64 wz; omega
 have rint : ∀ (x : Int),(Lit.int .i64 x).wf = true→∀ (W' : World) (b : Nat) (sp : Nat→Bool) (hd : Bool),DataW.Trod enc Tryz.prog W' b sp hd 3 (.int .i64 x) (.lit (.int .i64 x)) []:=fun x wx W' b sp hd => shut_int Tryz.underlying3 wx
 have reads : ∀ (x y : Int),(Lit.int .i64 x).wf = true→(Lit.int .i64 y).wf = true→∀ (W' : World) (b : Nat) (sp : Nat→Bool) (hd : Bool),DataW.Trod enc Tryz.prog W' b sp hd 23 (.agg #[.int .i64 x,.int .i64 y]) (.agg [.lit (.int .i64 x),.lit (.int .i64 y)]) []:=fun x y wx wy W' b sp hd =>
  shut_agg2 (y0:=(.lit (.int .i64 x),[])) (y1:=(.lit (.int .i64 y),[])) Tryz.underlying23 (by kernel_rfl) cellsQ ⟨1,by simp [DataW.trod,Tryz.underlying3,wx]⟩ ⟨1,by simp [DataW.trod,Tryz.underlying3,wy]⟩
 have key : Calls Tryz.prog 4 #[v0,.int .i64 y,.int .i64 z,.agg #[.int .i64 a1,.int .i64 a2]] W fun e w' => e = .returned (.bool true)∧But [] W w':=layers_any v0 qs y z By Bz (a1,a2) ⟨Ba1.1,Ba1.2,Ba2.1,Ba2.2⟩ mx W hqs hfit htab hmx herr
 refine key.mono fun e W' ⟨he,hb⟩ => ?_
 subst he
 have hbl:=hb.below
 have e1 : Rows.claimsLayersSpec.fn H ([d0,.lit (.int .i64 y),.lit (.int .i64 z),.agg [.lit (.int .i64 a1),.lit (.int .i64 a2)]] ++ []) = { results:=[.lit (.bool true)],args:=[d0,.lit (.int .i64 y),.lit (.int .i64 z),.agg [.lit (.int .i64 a1),.lit (.int .i64 a2)]] }:=by simp [Rows.claimsLayersSpec]
 refine ⟨_,rfl,_,_,_,[],p0 ++ ([] ++ ([] ++ [])),[],hW',?_,?_,?_,hbl.frame _,fun h => by cases h⟩
 ·rw [e1]; exact trodAll_mk1 (shut_bool Tryz.underlying4 true)
 ·rw [e1]; exact trodAll_mk4 (Below.trod laid_out (by kernel_rfl) (of_decide_eq_true (by kernel_rfl)) h0 hbl hlt) (rint y wy _ _ _ _) (rint z wz _ _ _ _) (reads a1 a2 wa1 wa2 _ _ _ _)
 ·rw [e1]; rfl

theorem row_holds : Rows.ClaimsLayersSaid :=
 OpenClaim.holds_of_wide 4 Tryz.f4 rfl rfl rfl rfl rfl rfl rfl ⟨rfl,rfl,rfl,rfl,rfl⟩ rfl rfl rfl rfl rfl (by kernel_rfl) Tryz.func4 (by kernel_rfl)
  (of_decide_eq_true (by kernel_rfl)) (by unfold Func.isWrapper; rw [if_neg (of_decide_eq_false (by kernel_rfl))]; exact ⟨rfl,rfl⟩)
  (fun os started H enc _ => lifted os started H enc)

theorem card_holds : Rows.ClaimsLayersCardSaid :=
 Claim7.holds_tied_plain_at .later [] [.data,.data,.data,.handle] true (true,"448ba204ee2c904979bfa1480c3fd9194e1fc24840c2f8a19ad04d7a7f6b6257") true
  row_holds (fun _ h => by cases h) (by kernel_rfl) (fun _ h => by cases h) claimsLayers_row_tie rfl ⟨rfl,rfl⟩ (by kernel_rfl) rfl
  (fun f fn hf hfn => by
   obtain rfl : f = 4:=Option.some.inj ((show Tryz.prog.funcNamed "tontine/tontinekeep.ClaimsLayers" = some 4 by kernel_rfl).symm.trans hf) |>.symm
   obtain rfl : fn = Tryz.f4:=(Option.some.inj (Tryz.func4.symm.trans hfn)).symm
   exact ⟨by kernel_rfl,fun j t ht => by
    rw [Tryz.params4] at ht
    rcases j with _ | _ | _ | _ | j
    ·obtain rfl : 24 = t:=by simpa using ht
     exact (show Tryz.prog.wantsStandIn 24 = false by kernel_rfl)
    ·obtain rfl : 3 = t:=by simpa using ht
     exact (show Tryz.prog.wantsStandIn 3 = false by kernel_rfl)
    ·obtain rfl : 3 = t:=by simpa using ht
     exact (show Tryz.prog.wantsStandIn 3 = false by kernel_rfl)
    ·obtain rfl : 23 = t:=by simpa using ht
     exact (show Tryz.prog.wantsStandIn 23 = false by kernel_rfl)
    ·simp at ht⟩)
  (by kernel_rfl)
#print axioms card_holds
end Go.Proofs.YtikgmhpbdcdogaaGreatDoor
