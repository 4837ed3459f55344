/- The greatest r, where an income, a law o -/
import Derived.Test.YtagmkkiagjmimaaGreatDoorSHPd
namespace Go.Proofs.YtagmkkiagjmimaaGreatDoor
open Go.Proofs.Tryz
open Go.RowKit
set_option maxHeartbeats 16000000
set_option maxRecDepth 100000
set_option linter.unusedVariables false
theorem qec (v:Value) (fs:List Rat) (inc bits:Int) (w:World) (c:Nat) (hv:aq w v fs) (hl:fs.length≤1000) (lf:∀ f ∈ fs,Len f c) (hc:c≤100) (z y:Int) (hy:y=ckR fs (decide (0≤inc∧inc≤20))) (hz:z=if y≠0 then y else 2) (hb:y=0→¬ (0≤bits∧bits≤12)) :
   Calls prog 25 #[.int .i64 inc,v,.int .i64 bits] w fun e w'=>e=.returned (.tuple #[.agg #[.bool false,.int .u64 0,.int .u64 0,.pointer none],.iface 33 (.int .i64 z)])∧But [] w w':=by(
 have F0:=af (fun W=>znh inc 20 _ rfl W)
 have F1:=af (fun W=>znh bits 12 _ rfl W)
 generalize decide (0≤inc∧inc≤20)=rng at *
 have CK:Hid (∀ W,But [] w W→Calls prog 74 #[v,.bool rng] W fun e w'=>e=.returned (zht y)∧But [] W w'):=fun W hb=>by
  rw[hy];exact zlv v fs c rng W (hv.but hb) hl lf hc
 obtain⟨q,cap,rfl,hcap,-⟩:=id hv
 have x2:=az.new w false 0 0 none 0 27 (zaj _)
 have bA:But [] w (w.alloc (.cells #[.bool false,.int .u64 0,.int .u64 0,.pointer none] 27)):=(But.refl _ _).alloc _
 have X2:=af x2
 have BA:=af bA
 generalize fs.length=n at *
 have Q2:Hid (w.heap.size≤w.heap.size):=Nat.le_refl _
 clear x2 bA hv lf hcap hy
 by_cases h0:y=0
 case' pos =>(
 have hnb:=hb h0
 obtain rfl:z=2:=by rw[hz,if_neg (fun h=>h h0)]
 subst h0
 rw[decide_eq_false hnb] at F1
 clear hz hb hnb)
 case' neg =>(
 obtain rfl:z=y:=by rw[hz,if_pos h0]
 have CK2:=ae CK
 unfold zht at CK2
 rw[if_neg h0] at CK2
 have CKn:=af CK2
 clear CK CK2 hz hb h0
 have CK:=CKn
 clear CKn)
 all_goals(
 go_enter func25,ntmps25
 go_wp2_with fail
 refine (ae F0 _).mono ?_
 rintro e w1 ⟨rfl,hb1⟩
 have B1:=af ((ae BA).trans' hb1)
 have X21:=af ((ae X2).but hb1)
 clear hb1 X2 BA F0
 go_wp2_with fail
 refine (ae CK _ (ae B1)).mono ?_
 rintro e w2 ⟨rfl,hb2⟩
 have B2:=af ((ae B1).trans' hb2)
 have X22:=af ((ae X21).but hb2)
 clear hb2 X21 B1 CK)
 focus
  generalize hg2:w.heap.size=g6 at *
  have B3:=af (ae B2)
  have X23:=af (ae X22)
  clear X22 B2 F1
  generalize w2=w3 at *
 rotate_left
 focus
  rw[show zht 0=.nilIface from rfl]
  generalize hg2:w.heap.size=g6 at *
  go_wp2_with fail
  refine (ae F1 _).mono ?_
  rintro e w3 ⟨rfl,hb3⟩
  have B3:=af ((ae B2).trans' hb3)
  have X23:=af ((ae X22).but hb3)
  clear hb3 X22 B2 F1
 all_goals(
 obtain⟨⟨t2,a2,b2,q2,⟨c0,c1,c2,c3⟩,-⟩,z2⟩:=ae X23
 have P2:Hid (P4 w3 g6 t2 a2 b2 q2):=⟨c0,c1,c2,c3⟩
 go_wp2
 have hP:=aw w3 g6 false 0 0 none
 obtain⟨m0,m1,m2,m3⟩:=zeu w3 g6 false 0 0 none (ae P2)
 have hF:But [] w (gm w3 g6 false 0 0 none):=(ae B3).trans hP (fun x hx=>by simp at hx;subst hx;exact .inr (by omega))
 change bodyPost _ _ _ _ _ (gm w3 g6 false 0 0 none)
 generalize gm w3 g6 false 0 0 none=F at *
 exact bodyPost_ret (v:=.tuple #[.agg #[.bool false,.int .u64 0,.int .u64 0,.pointer none],.iface 33 (.int .i64 _)]) (by simp[results,results25,go_sem,m0,m1,m2,m3]) rfl ⟨rfl,hF⟩))
end Go.Proofs.YtagmkkiagjmimaaGreatDoor
