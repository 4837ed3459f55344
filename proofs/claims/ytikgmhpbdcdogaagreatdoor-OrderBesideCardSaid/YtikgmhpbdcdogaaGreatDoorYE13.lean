/- OrderBeside: at every two laws (rows of pairs of whole numbers) the law (a law is nowhere more likely above just if both stand beside each other, the first never above the second) answers true and leaves its arguments as they were: the row, and the card that ties the listed variables to the program's text. -/
import Derived.Test.YtikgmhpbdcdogaaGreatDoorYEK
import Derived.Test.YtikgmhpbdcdogaaGreatDoorYOK
namespace Go.Proofs.YtikgmhpbdcdogaaGreatDoor
open Go.ChangeShapes Go.WideShapes Go.ChangeAt Go.RowKit Go.Joins
set_option linter.unusedVariables false

theorem door_met (os : Os) (args : Array Value) : laidMetH Tryz.prog Rows.orderBesideRow.laid ((World.doorLaid Tryz.prog 400 os).forCall (fun _ _ => 0) ⟨#[],args,[]⟩).memory :=
 laidMetH_of_parts3 (fuel:=8) (laidMet_of_run' 8 (by kernel_rfl) (by kernel_rfl)) (by kernel_rfl) (by kernel_rfl)

set_option maxRecDepth 100000 in
theorem lifted (os : Os) (started : os.Started) (H : Type) (enc : TypeId × Value→H) :
  ReturnsInHanded {} Tryz.checked os 5 .any (fun w args => (Rows.orderBesideSpec.pre enc Tryz.prog Tryz.f5 [] false w args∧laidMetH Tryz.prog Rows.orderBesideRow.laid w)∧sizedMet enc Tryz.prog Tryz.f5 (OpenSpec.ofChange Rows.orderBesideSpec) false w args)
   (Rows.orderBesideSpec.post enc Tryz.prog Tryz.f5 false true false false):=by
 refine returns_shape (C:=Tryz.checked) own (X:=fun w _ => laidMetH Tryz.prog Rows.orderBesideRow.laid w) (fun _ _ _ hh h => h.of_heap hh) started (by kernel_rfl) Tryz.func5
  (ChangeSpec.witness_shaped (enc:=enc) (C:=Tryz.checked) (os:=os) (X:=fun w _ => laidMetH Tryz.prog Rows.orderBesideRow.laid w) false (World.doorLaid Tryz.prog 400 os) #[.slice none 0 0,.slice none 0 0] 8 rfl (World.shaped_of_RefB (by kernel_rfl) (by kernel_rfl)) (by kernel_rfl) (by kernel_rfl) (by kernel_rfl) (door_met os _)) ?_
 intro W base args ds gs before hval0 hW hL hsh
 have hval : ∀ (j : Nat) t v,Tryz.f5.params[j]? = some t→args[j]? = some v→Value.okWide Tryz.prog W .any base t v:=hval0
 have hW':=hW
 obtain ⟨p,q,hA0,hV,rfl,hfz,hnd⟩:=hW
 have hA : DataW.TrodAll enc Tryz.prog W 0 (fun _ => true) true Tryz.f5.params.toList args.toList ds p:=hA0
 rw [Tryz.params5] at hA hval
 obtain ⟨v0,v1,d0,d1,p0,p1,rfl,rfl,rfl,h0,h1⟩:=trodAll_two hA
 obtain ⟨rfl,rfl⟩:=trodVars_none hV
 obtain ⟨htab,herr⟩:=of_laid hL
 obtain ⟨mx,hmx⟩:=max_some hsh
 obtain ⟨ps,hps,hfit,hlt⟩:=pairs_in (hval 0 24 v0 rfl rfl) h0
 obtain ⟨qs,hqs,hfit2,hlt2⟩:=pairs_in (hval 1 24 v1 rfl rfl) h1
 clear hA0 hval0 hval hA
 simp only [List.append_nil] at hW'
 have key : Calls Tryz.prog 5 #[v0,v1] W fun e w' => e = .returned (.bool true)∧But [] W w':=besideLaw_any v0 v1 ps qs mx W hps hqs hfit hfit2 htab hmx herr
 refine key.mono fun e W' ⟨he,hb⟩ => ?_
 subst he
 have hbl:=hb.below
 have e1 : Rows.orderBesideSpec.fn H ([d0,d1] ++ []) = { results:=[.lit (.bool true)],args:=[d0,d1] }:=by simp [Rows.orderBesideSpec]
 refine ⟨_,rfl,_,_,_,[],p0 ++ p1,[],hW',?_,?_,?_,hbl.frame _,fun h => by cases h⟩
 ·rw [e1]; exact trodAll_mk1 (shut_bool Tryz.underlying4 true)
 ·rw [e1]; exact trodAll_mk2 (Below.trod laid_out (by kernel_rfl) (of_decide_eq_true (by kernel_rfl)) h0 hbl hlt) (Below.trod laid_out (by kernel_rfl) (of_decide_eq_true (by kernel_rfl)) h1 hbl hlt2)
 ·rw [e1]; rfl

theorem row_holds : Rows.OrderBesideSaid :=
 OpenClaim.holds_of_wide 5 Tryz.f5 rfl rfl rfl rfl rfl rfl rfl ⟨rfl,rfl,rfl,rfl,rfl⟩ rfl rfl rfl rfl rfl (by kernel_rfl) Tryz.func5 (by kernel_rfl)
  (of_decide_eq_true (by kernel_rfl)) (by unfold Func.isWrapper; rw [if_neg (of_decide_eq_false (by kernel_rfl))]; exact ⟨rfl,rfl⟩)
  (fun os started H enc _ => lifted os started H enc)

theorem card_holds : Rows.OrderBesideCardSaid :=
 Claim7.holds_tied_plain_at .later [] [.data,.data,.data,.handle] true (true,"448ba204ee2c904979bfa1480c3fd9194e1fc24840c2f8a19ad04d7a7f6b6257") true
  row_holds (fun _ h => by cases h) (by kernel_rfl) (fun _ h => by cases h) orderBeside_row_tie rfl ⟨rfl,rfl⟩ (by kernel_rfl) rfl
  (fun f fn hf hfn => by
   obtain rfl : f = 5:=Option.some.inj ((show Tryz.prog.funcNamed "tontine/tontinekeep.OrderBeside" = some 5 by kernel_rfl).symm.trans hf) |>.symm
   obtain rfl : fn = Tryz.f5:=(Option.some.inj (Tryz.func5.symm.trans hfn)).symm
   exact ⟨by kernel_rfl,fun j t ht => by
    rw [Tryz.params5] at ht
    rcases j with _ | _ | j
    ·obtain rfl : 24 = t:=by simpa using ht
     exact (show Tryz.prog.wantsStandIn 24 = false by kernel_rfl)
    ·obtain rfl : 24 = t:=by simpa using ht
     exact (show Tryz.prog.wantsStandIn 24 = false by kernel_rfl)
    ·simp at ht⟩)
  (by kernel_rfl)
#print axioms card_holds
end Go.Proofs.YtikgmhpbdcdogaaGreatDoor
