/- RuinBest: at every income, law (a row of pairs of whole numbers) and number of bits the law (the greatest r of so many bits with which the bound holds is what the reference finds) answers true and leaves its arguments as they were: the row, and the card that ties the listed variables to the program's text. -/
import Derived.Test.YtagmkkiagjmimaaGreatDoorSRBd
namespace Go.Proofs.YtagmkkiagjmimaaGreatDoor
open Go.Proofs.Tryz
open Go.ChangeShapes Go.WideShapes Go.ChangeAt Go.RowKit Go.Joins
set_option maxRecDepth 100000
set_option linter.unusedVariables false
theorem qdk (os:Os) (args:Array Value):laidMetH prog Rows.ruinBestRow.laid ((World.doorLaid prog 400 os).forCall (fun _ _=>0) ⟨#[],args,[]⟩).memory :=
 laidMetH_of_parts3 (fuel:=8) (laidMet_of_run' 8 (by kernel_rfl) (by kernel_rfl)) (by kernel_rfl) (by kernel_rfl)
theorem lifted (os:Os) (started:os.Started) (H:Type) (enc:TypeId × Value→H) :
   ReturnsInHanded {} Tryz.checked os 5 .any (fun w args=>(Rows.ruinBestSpec.pre enc prog Tryz.f5 [] false w args∧laidMetH prog Rows.ruinBestRow.laid w)∧sizedMet enc prog Tryz.f5 (OpenSpec.ofChange Rows.ruinBestSpec) false w args)
    (Rows.ruinBestSpec.post enc prog Tryz.f5 false true false false):=by(
 refine zlw (C:=Tryz.checked) own (X:=fun w _=>laidMetH prog Rows.ruinBestRow.laid w) (fun _ _ _ hh h=>h.of_heap hh) started (by kernel_rfl) func5
  (ChangeSpec.witness_shaped (enc:=enc) (C:=Tryz.checked) (os:=os) (X:=fun w _=>laidMetH prog Rows.ruinBestRow.laid w) false (World.doorLaid prog 400 os) #[.int .i64 0,.slice none 0 0,.int .i64 0] 8 rfl (World.shaped_of_RefB (by kernel_rfl) (by kernel_rfl)) (by kernel_rfl) (by kernel_rfl) (by kernel_rfl) (qdk os _)) ?_
 intro W base args ds gs before hval0 hW hL hsh
 have hval:∀ (j:Nat) t v,Tryz.f5.params[j]? = some t→args[j]? = some v→Value.okWide prog W .any base t v:=hval0
 have hW':=hW
 obtain⟨p,q,hA0,hV,rfl,hfz,hnd⟩:=hW
 have hA:DataW.TrodAll enc prog W 0 (fun _=>true) true Tryz.f5.params.toList args.toList ds p:=hA0
 rw[params5] at hA hval
 obtain⟨v0,v1,v2,d0,d1,d2,p0,p1,p2,rfl,rfl,rfl,h0,h1,h2⟩:=trodAll_three hA
 obtain⟨rfl,rfl⟩:=trodVars_none hV
 obtain⟨htab,herr⟩:=qfz hL
 obtain⟨mx,hmx⟩:=qcs hsh
 obtain⟨k0,rfl,rfl,rfl,wk0⟩:=open_int underlying3 (hval 0 3 v0 rfl rfl) h0
 obtain⟨qs1,hqs1,hfit1,hlt1⟩:=qbo (hval 1 41 v1 rfl rfl) h1
 obtain⟨k2,rfl,rfl,rfl,wk2⟩:=open_int underlying3 (hval 2 3 v2 rfl rfl) h2
 clear hA0 hval0 hval hA h0 h2
 simp only[List.append_nil,List.nil_append] at hW'
 have K0:-9223372036854775808≤k0∧k0<9223372036854775808:=by have:=bounds_i64 wk0;omega
 have K2:-9223372036854775808≤k2∧k2<9223372036854775808:=by have:=bounds_i64 wk2;omega
 have key:Calls prog 5 #[.int .i64 k0,v1,.int .i64 k2] W fun e w'=>e=.returned (.bool true)∧But [] W w':=zoi v1 qs1 k0 k2 mx W hqs1 hfit1 htab herr hmx
 refine key.mono fun e W' ⟨he,hb⟩=>?_
 subst he
 have hbl:=hb.below
 have e1:Rows.ruinBestSpec.fn H ([.lit (.int .i64 k0),d1,.lit (.int .i64 k2)]++[])={ results:=[.lit (.bool true)],args:=[.lit (.int .i64 k0),d1,.lit (.int .i64 k2)] }:=by simp[Rows.ruinBestSpec]
 refine⟨_,rfl,_,_,_,[],[]++(p1++([])),[],hW',?_,?_,?_,hbl.frame _,fun h=>by cases h⟩
 ·rw[e1];exact trodAll_mk1 (shut_bool underlying4 true)
 ·rw[e1];exact trodAll_cons_mk (shut_int underlying3 wk0) (trodAll_mk2 (Below.trod qcx (by kernel_rfl) (of_decide_eq_true (by kernel_rfl)) h1 hbl hlt1) (shut_int underlying3 wk2))
 ·rw[e1];rfl)
theorem row_holds:Rows.RuinBestSaid :=
 OpenClaim.holds_of_wide 5 Tryz.f5 rfl rfl rfl rfl rfl rfl rfl ⟨rfl,rfl,rfl,rfl,rfl⟩ rfl rfl rfl rfl rfl (by kernel_rfl) func5 (by kernel_rfl)
  (of_decide_eq_true (by kernel_rfl)) (by unfold Func.isWrapper;rw[if_neg (of_decide_eq_false (by kernel_rfl))];exact⟨rfl,rfl⟩)
  (fun os started H enc _=>lifted os started H enc)
theorem card_holds:Rows.RuinBestCardSaid :=
 Claim7.holds_tied_plain_at .later [] [.data,.data,.data,.handle] true (true,"2221625d58b73759a792136dd4801e66192dd0f08233eec995e92b97aa677481") true
  row_holds (fun _ h=>by cases h) (by kernel_rfl) (fun _ h=>by cases h) ruinBest_row_tie rfl ⟨rfl,rfl⟩ (by kernel_rfl) rfl
  (fun f fn hf hfn=>by
   obtain rfl:f = 5:=Option.some.inj ((show prog.funcNamed "tontine/tontinelaw.RuinBest" = some 5 by kernel_rfl).symm.trans hf) |>.symm
   obtain rfl:fn=Tryz.f5:=(Option.some.inj (func5.symm.trans hfn)).symm
   exact⟨by kernel_rfl,fun j t ht=>by
    rw[params5] at ht
    rcases j with _ | _ | _ | j
    ·obtain rfl : 3 = t:=by simpa using ht
     exact (show prog.wantsStandIn 3 = false by kernel_rfl)
    ·obtain rfl : 41 = t:=by simpa using ht
     exact (show prog.wantsStandIn 41 = false by kernel_rfl)
    ·obtain rfl : 3 = t:=by simpa using ht
     exact (show prog.wantsStandIn 3 = false by kernel_rfl)
    ·simp at ht⟩)
  (by kernel_rfl)
#print axioms card_holds
end Go.Proofs.YtagmkkiagjmimaaGreatDoor
