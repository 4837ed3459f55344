/- Whether a line may be, as the reference  -/
import Derived.Test.YtjlfllhedceigaaGreatDoorRTWi
namespace Go.Proofs.YtjlfllhedceigaaGreatDoor
open Go.Proofs.Tryz
open Go.RowKit
set_option maxHeartbeats 16000000
set_option maxRecDepth 100000
set_option linter.unusedVariables false
theorem zdg (f:Rat) (sg:Int) (h:sg=f.num.sign):(sg<0→¬ 0≤f)∧(¬ sg<0→0≤f)∧(sg=0→f.num=0)∧(¬ sg=0→¬ f.num=0):=by(
 have e:0≤f.num↔0≤f:=Rat.num_nonneg
 rcases Int.lt_trichotomy f.num 0 with k | k | k
 ·have hs:sg=-1:=by rw[h,Int.sign_eq_neg_one_of_neg k]
  exact⟨fun _ x=>absurd (e.2 x) (by omega),fun x=>absurd (by omega) x,fun x=>absurd x (by omega),fun _=>by omega⟩
 ·have hs:sg=0:=by rw[h,k];rfl
  exact⟨fun x=>absurd x (by omega),fun _=>e.1 (by omega),fun _=>k,fun x=>absurd hs x⟩
 ·have hs:sg=1:=by rw[h,Int.sign_eq_one_of_pos k]
  exact⟨fun x=>absurd x (by omega),fun _=>e.1 (by omega),fun x=>absurd x (by omega),fun _=>by omega⟩)
theorem ziz (W:World):Calls prog 56 #[.int .i64 1] W fun e w'=>∃ v,e=.returned v∧(∃ y,v=.pointer (some ⟨y,0,none⟩)∧zx w' y 1)∧But [] W w' :=
 (qfj 1 W (by omega) (by omega)).mono fun e w' ⟨y,he,hr,hb⟩=>⟨_,he,⟨y,rfl,hr⟩,hb⟩
theorem zjc (zb y:Nat) (f:Rat) (W:World) (h1:zx W zb f) (h2:zx W y 1) (lf:zbn f 2000000):Calls prog 62 #[.pointer (some ⟨zb,0,none⟩),.pointer (some ⟨y,0,none⟩)] W fun e w'=>∃ v,e=.returned v∧(∃ c:Int,v=.int .i64 c∧(0<c↔1<f))∧But [] W w' :=
 (qfk zb y f 1 W h1 h2 lf ((zbn.int (z:=1) (by decide)).mono (by omega))).mono fun e w' ⟨c,he,_,k2,_,hb⟩=>⟨_,he,⟨c,rfl,k2⟩,hb⟩
theorem zoa (zb:Nat) (f:Rat) (fr li ti pr:Int) (nm:ByteArray) (w:World) (hf:zx w zb f) (lf:zbn f 2000000) (hname:qd nm) (hr:qg fr li ti pr) (z:Int) (hok:f.num=0∧ti=0∧pr=0→z=0) (hbad:¬ (f.num=0∧ti=0∧pr=0)→z=1) :
   Calls prog 73 #[rlV 4 zb fr li ti pr nm] w fun e w'=>e=.returned (.int .i64 z)∧But [] w w':=by(
 unfold rlV
 have NM:=af (fun W=>oo nm W hname)
 have HR:=af hr
 have HF:=af hf
 obtain⟨sg,hsg⟩:∃ sg,sg=f.num.sign:=⟨_,rfl⟩
 have SG:=af (fun W (h:zx W zb f)=>zez zb f W h sg hsg lf)
 obtain⟨s1,s2,s3,s4⟩:=zdg f sg hsg
 have HS1:=af s1
 have HS0:=af s2
 have HS2:=af s3
 have HS3:=af s4
 have IN:=af ziz
 have CM:=af (fun W y (h1:zx W zb f) (h2:zx W y 1)=>zjc zb y f W h1 h2 lf)
 have HOK:=af hok
 have HBAD:=af hbad
 clear hok hbad hsg s1 s2 s3 s4 lf
 clear hr hf
 go_enter func73,ntmps73
 go_wp2_with fail
 refine (ae NM _).mono ?_
 rintro e w1 ⟨rfl,hb1⟩
 have B1:=af (((But.refl [] w).alloc (.cells #[.int .i64 4,.pointer (some ⟨zb,0,none⟩),.int .i64 fr,.int .i64 li,.int .i64 ti,.int .i64 pr,.string nm] 135)).trans' hb1)
 have c0:w1.cell? ⟨w.heap.size,0,none⟩=some (.int .i64 4):=hb1.ag (by simp) (by simp)
 have c1:w1.cell? ⟨w.heap.size,1,none⟩=some (.pointer (some ⟨zb,0,none⟩)):=hb1.ag (by simp) (by simp)
 have c2:w1.cell? ⟨w.heap.size,2,none⟩=some (.int .i64 fr):=hb1.ag (by simp) (by simp)
 have c3:w1.cell? ⟨w.heap.size,3,none⟩=some (.int .i64 li):=hb1.ag (by simp) (by simp)
 have c4:w1.cell? ⟨w.heap.size,4,none⟩=some (.int .i64 ti):=hb1.ag (by simp) (by simp)
 have c5:w1.cell? ⟨w.heap.size,5,none⟩=some (.int .i64 pr):=hb1.ag (by simp) (by simp)
 generalize w.heap.size=g1 at c0 c1 c2 c3 c4 c5 ⊢
 obtain⟨V,hV⟩:∃ V,V=w1.alloc (.cells #[.int .i64 fr,.int .i64 li,.int .i64 pr] 3):=⟨_,rfl⟩
 have hbv:But [] w1 V:=by rw[hV];exact (But.refl _ _).alloc _
 have B2:=af ((ae B1).trans' hbv)
 have v0:V.cell? ⟨w1.heap.size,0,none⟩=some (.int .i64 fr):=by rw[hV];simp
 have v1:V.cell? ⟨w1.heap.size,1,none⟩=some (.int .i64 li):=by rw[hV];simp
 have v2:V.cell? ⟨w1.heap.size,2,none⟩=some (.int .i64 pr):=by rw[hV];simp
 have x0:=af (hbv.ag c0 (by simp))
 have x1:=af (hbv.ag c1 (by simp))
 have x2:=af (hbv.ag c2 (by simp))
 have x3:=af (hbv.ag c3 (by simp))
 have x4:=af (hbv.ag c4 (by simp))
 have x5:=af (hbv.ag c5 (by simp))
 have HV:=af hV
 clear hb1 hbv B1 hV c0 c1 c4
 go_wp2
 rw[← ae HV]
 clear HV c2 c3 c5
 generalize w1.heap.size=g2 at v0 v1 v2 ⊢
 have HC:Hid (∀ k:Nat,k<3→V.cell? ⟨g2,k,none⟩=some (.int .i64 ([fr,li,pr].getD k 0))∧0≤[fr,li,pr].getD k 0∧[fr,li,pr].getD k 0≤1000000000000):=fun k hk=>by
  obtain⟨r1,r2,r3,r4⟩:=ae HR
  match k,hk with
  | 0,_=>exact⟨v0,r1⟩
  | 1,_=>exact⟨v1,r2⟩
  | 2,_=>exact⟨v2,r3⟩
 clear v0 v1 v2
 go_loopw [27] (fun i wr=>∃ k:Nat,k≤3∧i=.int .i64 (k:Int)∧wr=V) (fun i _=>3-(intOf i).toNat)
 case atStart=>exact⟨0,Nat.zero_le _,rfl,rfl⟩
 case round =>(
 obtain⟨k,hk,rfl,rfl⟩:=hrel
 rename World=>V
 by_cases hlt:k<3
 ·(
 obtain⟨c0,z0,z1⟩:=ae HC k hlt
 generalize [fr,li,pr].getD k 0=z at *
 have z0':¬ z<0:=by omega
 have z1':¬ 1000000000000<z:=by omega
 clear z0 z1
 go_wp2
 all_goals exact⟨⟨k+1,by omega,by go_num,by first | trivial|rfl⟩,by simp[intOf];omega⟩)
 ·(
 obtain rfl:k=3:=by omega
 obtain⟨-,-,-,t0,t1⟩:=ae HR
 have t0':¬ ti<0:=by omega
 have t1':¬ 100<ti:=by omega
 clear t0 t1 HC
 have bS:But [] V (V.alloc (.cells #[.string ⟨#[]⟩,.string ⟨#[115]⟩,.string ⟨#[108,116]⟩,.string ⟨#[102,108,116,99]⟩,.string ⟨#[102,108]⟩] 9)):=(But.refl _ _).alloc _
 have d4:=ae x4
 have e0:=bS.ag (ae x0) (by simp)
 have e1:=bS.ag (ae x1) (by simp)
 have e2:=bS.ag (ae x2) (by simp)
 have e3:=bS.ag (ae x3) (by simp)
 have e4:=bS.ag (ae x4) (by simp)
 have e5:=bS.ag (ae x5) (by simp)
 have B3:=af ((ae B2).trans' bS)
 have hx:V.heap.size=V.heap.size:=rfl
 have R0:=af ((ae HF).but (ae B3))
 clear bS hx
 have Cs:Hid (∀ W,Calls prog 155 #[.string ⟨#[102,108]⟩,.string ⟨#[115]⟩] W fun e w'=>e=.returned (.bool false)∧w'=W):=fun W=>contains_one ⟨#[102,108]⟩ 115 W
 have Cf:Hid (∀ W,Calls prog 155 #[.string ⟨#[102,108]⟩,.string ⟨#[102]⟩] W fun e w'=>e=.returned (.bool true)∧w'=W):=fun W=>contains_one ⟨#[102,108]⟩ 102 W
 have Cl:Hid (∀ W,Calls prog 155 #[.string ⟨#[102,108]⟩,.string ⟨#[108]⟩] W fun e w'=>e=.returned (.bool true)∧w'=W):=fun W=>contains_one ⟨#[102,108]⟩ 108 W
 have Ct:Hid (∀ W,Calls prog 155 #[.string ⟨#[102,108]⟩,.string ⟨#[116]⟩] W fun e w'=>e=.returned (.bool false)∧w'=W):=fun W=>contains_one ⟨#[102,108]⟩ 116 W
 have Cc:Hid (∀ W,Calls prog 155 #[.string ⟨#[102,108]⟩,.string ⟨#[99]⟩] W fun e w'=>e=.returned (.bool false)∧w'=W):=fun W=>contains_one ⟨#[102,108]⟩ 99 W
 go_wp2_with fail
 refine (ae Cs _).mono ?_
 rintro e wx ⟨rfl,rfl⟩
 go_wp2_with fail
 refine (ae SG _ (ae R0)).mono ?_
 rintro e w3 ⟨rfl,hb3⟩
 have B4:=af ((ae B3).trans' hb3)
 have R1:=af ((ae R0).but hb3)
 have q0:=hb3.ag e0 (by simp)
 have q1:=hb3.ag e1 (by simp)
 have q2:=hb3.ag e2 (by simp)
 have q3:=hb3.ag e3 (by simp)
 have q4:=hb3.ag e4 (by simp)
 have q5:=hb3.ag e5 (by simp)
 clear hb3 e0 e1 e2 e3 e4 e5 B3 R0
 by_cases hs0:sg=0
 ·(
 have ns:=ae HS2 hs0
 have bs:(sg != 0)=false:=by rw[hs0];rfl
 clear hs0
 go_wp2_with fail
 refine (ae Cf _).mono ?_
 rintro e wx ⟨rfl,rfl⟩
 go_wp2_with fail
 refine (ae Cl _).mono ?_
 rintro e wx ⟨rfl,rfl⟩
 go_wp2_with fail
 refine (ae Ct _).mono ?_
 rintro e wx ⟨rfl,rfl⟩
 by_cases nt:ti=0
 ·(
 have bt:(ti != 0)=false:=by rw[nt];rfl
 go_wp2_with fail
 refine (ae Cc _).mono ?_
 rintro e wx ⟨rfl,rfl⟩
 by_cases nc:pr=0
 ·(
 have bc:(pr != 0)=false:=by rw[nc];rfl
 obtain rfl:z=0:=ae HOK (⟨ns,nt,nc⟩)
 go_wp2_with fail
 refine zdm 15 _ _ _ g1 zb f sg li false (by simp) (by simp[Act.eval]) (by simp[Act.eval]) q0 ?_
 intro w9 hb9
 have HB9:=af ((ae B4).trans' hb9)
 simp only[bi,List.foldl_cons,List.foldl_nil,Act.put,List.setIfInBounds_toArray,List.set_cons_zero,List.set_cons_succ]
 clear hb9 q0 q1 q2 q3 q4 q5
 go_wp2
 go_ret
 exact⟨rfl,ae HB9⟩)
 ·(
 have bc:(pr != 0)=true:=by simpa using nc
 obtain rfl:z=1:=ae HBAD (fun h=>nc h.2.2)
 go_wp2_with fail
 refine zdm 15 _ _ _ g1 zb f sg li true (by simp) (by simp[Act.eval]) (by simp[Act.eval]) q0 ?_
 intro w9 hb9
 have HB9:=af ((ae B4).trans' hb9)
 simp only[bi,List.foldl_cons,List.foldl_nil,Act.put,List.setIfInBounds_toArray,List.set_cons_zero,List.set_cons_succ]
 clear hb9 q0 q1 q2 q3 q4 q5
 go_wp2
 go_ret
 exact⟨rfl,ae HB9⟩))
 ·(
 have bt:(ti != 0)=true:=by simpa using nt
 obtain rfl:z=1:=ae HBAD (fun h=>nt h.2.1)
 go_wp2_with fail
 refine zdm 15 _ _ _ g1 zb f sg li true (by simp) (by simp[Act.eval]) (by simp[Act.eval]) q0 ?_
 intro w9 hb9
 have HB9:=af ((ae B4).trans' hb9)
 simp only[bi,List.foldl_cons,List.foldl_nil,Act.put,List.setIfInBounds_toArray,List.set_cons_zero,List.set_cons_succ]
 clear hb9 q0 q1 q2 q3 q4 q5
 go_wp2
 go_ret
 exact⟨rfl,ae HB9⟩))
 ·(
 have ns:=ae HS3 hs0
 have bs:(sg != 0)=true:=by simpa using hs0
 obtain rfl:z=1:=ae HBAD (fun h=>ns h.1)
 go_wp2_with fail
 refine zdm 15 _ _ _ g1 zb f sg li true (by simp) (by simp[Act.eval]) (by simp[Act.eval]) q0 ?_
 intro w9 hb9
 have HB9:=af ((ae B4).trans' hb9)
 simp only[bi,List.foldl_cons,List.foldl_nil,Act.put,List.setIfInBounds_toArray,List.set_cons_zero,List.set_cons_succ]
 clear hb9 q0 q1 q2 q3 q4 q5
 go_wp2
 go_ret
 exact⟨rfl,ae HB9⟩))))
theorem zlv (zb:Nat) (f:Rat) (fr li ti pr:Int) (nm:ByteArray) (w:World) (hf:zx w zb f) (lf:zbn f 2000000) (hname:qd nm) (hr:qg fr li ti pr) (z:Int) (hok:1≤li∧f.num=0→z=0) (hbad:¬ (1≤li∧f.num=0)→z=1) :
   Calls prog 73 #[rlV 3 zb fr li ti pr nm] w fun e w'=>e=.returned (.int .i64 z)∧But [] w w':=by(
 unfold rlV
 have NM:=af (fun W=>oo nm W hname)
 have HR:=af hr
 have HF:=af hf
 obtain⟨sg,hsg⟩:∃ sg,sg=f.num.sign:=⟨_,rfl⟩
 have SG:=af (fun W (h:zx W zb f)=>zez zb f W h sg hsg lf)
 obtain⟨s1,s2,s3,s4⟩:=zdg f sg hsg
 have HS1:=af s1
 have HS0:=af s2
 have HS2:=af s3
 have HS3:=af s4
 have IN:=af ziz
 have CM:=af (fun W y (h1:zx W zb f) (h2:zx W y 1)=>zjc zb y f W h1 h2 lf)
 have HOK:=af hok
 have HBAD:=af hbad
 clear hok hbad hsg s1 s2 s3 s4 lf
 clear hr hf
 go_enter func73,ntmps73
 go_wp2_with fail
 refine (ae NM _).mono ?_
 rintro e w1 ⟨rfl,hb1⟩
 have B1:=af (((But.refl [] w).alloc (.cells #[.int .i64 3,.pointer (some ⟨zb,0,none⟩),.int .i64 fr,.int .i64 li,.int .i64 ti,.int .i64 pr,.string nm] 135)).trans' hb1)
 have c0:w1.cell? ⟨w.heap.size,0,none⟩=some (.int .i64 3):=hb1.ag (by simp) (by simp)
 have c1:w1.cell? ⟨w.heap.size,1,none⟩=some (.pointer (some ⟨zb,0,none⟩)):=hb1.ag (by simp) (by simp)
 have c2:w1.cell? ⟨w.heap.size,2,none⟩=some (.int .i64 fr):=hb1.ag (by simp) (by simp)
 have c3:w1.cell? ⟨w.heap.size,3,none⟩=some (.int .i64 li):=hb1.ag (by simp) (by simp)
 have c4:w1.cell? ⟨w.heap.size,4,none⟩=some (.int .i64 ti):=hb1.ag (by simp) (by simp)
 have c5:w1.cell? ⟨w.heap.size,5,none⟩=some (.int .i64 pr):=hb1.ag (by simp) (by simp)
 generalize w.heap.size=g1 at c0 c1 c2 c3 c4 c5 ⊢
 obtain⟨V,hV⟩:∃ V,V=w1.alloc (.cells #[.int .i64 fr,.int .i64 li,.int .i64 pr] 3):=⟨_,rfl⟩
 have hbv:But [] w1 V:=by rw[hV];exact (But.refl _ _).alloc _
 have B2:=af ((ae B1).trans' hbv)
 have v0:V.cell? ⟨w1.heap.size,0,none⟩=some (.int .i64 fr):=by rw[hV];simp
 have v1:V.cell? ⟨w1.heap.size,1,none⟩=some (.int .i64 li):=by rw[hV];simp
 have v2:V.cell? ⟨w1.heap.size,2,none⟩=some (.int .i64 pr):=by rw[hV];simp
 have x0:=af (hbv.ag c0 (by simp))
 have x1:=af (hbv.ag c1 (by simp))
 have x2:=af (hbv.ag c2 (by simp))
 have x3:=af (hbv.ag c3 (by simp))
 have x4:=af (hbv.ag c4 (by simp))
 have x5:=af (hbv.ag c5 (by simp))
 have HV:=af hV
 clear hb1 hbv B1 hV c0 c1 c4
 go_wp2
 rw[← ae HV]
 clear HV c2 c3 c5
 generalize w1.heap.size=g2 at v0 v1 v2 ⊢
 have HC:Hid (∀ k:Nat,k<3→V.cell? ⟨g2,k,none⟩=some (.int .i64 ([fr,li,pr].getD k 0))∧0≤[fr,li,pr].getD k 0∧[fr,li,pr].getD k 0≤1000000000000):=fun k hk=>by
  obtain⟨r1,r2,r3,r4⟩:=ae HR
  match k,hk with
  | 0,_=>exact⟨v0,r1⟩
  | 1,_=>exact⟨v1,r2⟩
  | 2,_=>exact⟨v2,r3⟩
 clear v0 v1 v2
 go_loopw [27] (fun i wr=>∃ k:Nat,k≤3∧i=.int .i64 (k:Int)∧wr=V) (fun i _=>3-(intOf i).toNat)
 case atStart=>exact⟨0,Nat.zero_le _,rfl,rfl⟩
 case round =>(
 obtain⟨k,hk,rfl,rfl⟩:=hrel
 rename World=>V
 by_cases hlt:k<3
 ·(
 obtain⟨c0,z0,z1⟩:=ae HC k hlt
 generalize [fr,li,pr].getD k 0=z at *
 have z0':¬ z<0:=by omega
 have z1':¬ 1000000000000<z:=by omega
 clear z0 z1
 go_wp2
 all_goals exact⟨⟨k+1,by omega,by go_num,by first | trivial|rfl⟩,by simp[intOf];omega⟩)
 ·(
 obtain rfl:k=3:=by omega
 obtain⟨-,-,-,t0,t1⟩:=ae HR
 have t0':¬ ti<0:=by omega
 have t1':¬ 100<ti:=by omega
 clear t0 t1 HC
 have bS:But [] V (V.alloc (.cells #[.string ⟨#[]⟩,.string ⟨#[115]⟩,.string ⟨#[108,116]⟩,.string ⟨#[102,108,116,99]⟩,.string ⟨#[102,108]⟩] 9)):=(But.refl _ _).alloc _
 have d4:=ae x4
 have e0:=bS.ag (ae x0) (by simp)
 have e1:=bS.ag (ae x1) (by simp)
 have e2:=bS.ag (ae x2) (by simp)
 have e3:=bS.ag (ae x3) (by simp)
 have e4:=bS.ag (ae x4) (by simp)
 have e5:=bS.ag (ae x5) (by simp)
 have B3:=af ((ae B2).trans' bS)
 have hx:V.heap.size=V.heap.size:=rfl
 have R0:=af ((ae HF).but (ae B3))
 clear bS hx
 have Cs:Hid (∀ W,Calls prog 155 #[.string ⟨#[102,108,116,99]⟩,.string ⟨#[115]⟩] W fun e w'=>e=.returned (.bool false)∧w'=W):=fun W=>contains_one ⟨#[102,108,116,99]⟩ 115 W
 have Cf:Hid (∀ W,Calls prog 155 #[.string ⟨#[102,108,116,99]⟩,.string ⟨#[102]⟩] W fun e w'=>e=.returned (.bool true)∧w'=W):=fun W=>contains_one ⟨#[102,108,116,99]⟩ 102 W
 have Cl:Hid (∀ W,Calls prog 155 #[.string ⟨#[102,108,116,99]⟩,.string ⟨#[108]⟩] W fun e w'=>e=.returned (.bool true)∧w'=W):=fun W=>contains_one ⟨#[102,108,116,99]⟩ 108 W
 have Ct:Hid (∀ W,Calls prog 155 #[.string ⟨#[102,108,116,99]⟩,.string ⟨#[116]⟩] W fun e w'=>e=.returned (.bool true)∧w'=W):=fun W=>contains_one ⟨#[102,108,116,99]⟩ 116 W
 have Cc:Hid (∀ W,Calls prog 155 #[.string ⟨#[102,108,116,99]⟩,.string ⟨#[99]⟩] W fun e w'=>e=.returned (.bool true)∧w'=W):=fun W=>contains_one ⟨#[102,108,116,99]⟩ 99 W
 go_wp2_with fail
 refine (ae Cs _).mono ?_
 rintro e wx ⟨rfl,rfl⟩
 go_wp2_with fail
 refine (ae SG _ (ae R0)).mono ?_
 rintro e w3 ⟨rfl,hb3⟩
 have B4:=af ((ae B3).trans' hb3)
 have R1:=af ((ae R0).but hb3)
 have q0:=hb3.ag e0 (by simp)
 have q1:=hb3.ag e1 (by simp)
 have q2:=hb3.ag e2 (by simp)
 have q3:=hb3.ag e3 (by simp)
 have q4:=hb3.ag e4 (by simp)
 have q5:=hb3.ag e5 (by simp)
 clear hb3 e0 e1 e2 e3 e4 e5 B3 R0
 by_cases hs0:sg=0
 ·(
 have ns:=ae HS2 hs0
 have bs:(sg != 0)=false:=by rw[hs0];rfl
 clear hs0
 go_wp2_with fail
 refine (ae Cf _).mono ?_
 rintro e wx ⟨rfl,rfl⟩
 go_wp2_with fail
 refine (ae Cl _).mono ?_
 rintro e wx ⟨rfl,rfl⟩
 go_wp2_with fail
 refine (ae Ct _).mono ?_
 rintro e wx ⟨rfl,rfl⟩
 go_wp2_with fail
 refine (ae Cc _).mono ?_
 rintro e wx ⟨rfl,rfl⟩
 by_cases hli:li<1
 ·(
 obtain rfl:z=1:=ae HBAD (fun h=>absurd h.1 (by omega))
 go_wp2_with fail
 refine zhw 15 _ _ _ g1 zb f sg li false (by simp) (by simp[Act.eval]) (by simp[Act.eval]) q0 q3 hli ?_
 intro w9 hb9
 have HB9:=af ((ae B4).trans' hb9)
 simp only[bi,List.foldl_cons,List.foldl_nil,Act.put,List.setIfInBounds_toArray,List.set_cons_zero,List.set_cons_succ]
 clear hb9 q0 q1 q2 q3 q4 q5
 go_wp2
 go_ret
 exact⟨rfl,ae HB9⟩)
 ·(
 obtain rfl:z=0:=ae HOK (⟨by omega,ns⟩)
 go_wp2_with fail
 refine zkp 15 _ _ _ g1 zb f sg li false (by simp) (by simp[Act.eval]) (by simp[Act.eval]) q0 q3 (by omega) ?_
 intro w9 hb9
 have HB9:=af ((ae B4).trans' hb9)
 simp only[bi,List.foldl_cons,List.foldl_nil,Act.put,List.setIfInBounds_toArray,List.set_cons_zero,List.set_cons_succ]
 clear hb9 q0 q1 q2 q3 q4 q5
 go_wp2
 go_ret
 exact⟨rfl,ae HB9⟩))
 ·(
 have ns:=ae HS3 hs0
 have bs:(sg != 0)=true:=by simpa using hs0
 by_cases hli:li<1
 ·(
 obtain rfl:z=1:=ae HBAD (fun h=>absurd h.1 (by omega))
 go_wp2_with fail
 refine zhw 15 _ _ _ g1 zb f sg li true (by simp) (by simp[Act.eval]) (by simp[Act.eval]) q0 q3 hli ?_
 intro w9 hb9
 have HB9:=af ((ae B4).trans' hb9)
 simp only[bi,List.foldl_cons,List.foldl_nil,Act.put,List.setIfInBounds_toArray,List.set_cons_zero,List.set_cons_succ]
 clear hb9 q0 q1 q2 q3 q4 q5
 go_wp2
 go_ret
 exact⟨rfl,ae HB9⟩)
 ·(
 obtain rfl:z=1:=ae HBAD (fun h=>ns h.2)
 go_wp2_with fail
 refine zkp 15 _ _ _ g1 zb f sg li true (by simp) (by simp[Act.eval]) (by simp[Act.eval]) q0 q3 (by omega) ?_
 intro w9 hb9
 have HB9:=af ((ae B4).trans' hb9)
 simp only[bi,List.foldl_cons,List.foldl_nil,Act.put,List.setIfInBounds_toArray,List.set_cons_zero,List.set_cons_succ]
 clear hb9 q0 q1 q2 q3 q4 q5
 go_wp2
 go_ret
 exact⟨rfl,ae HB9⟩)))))
theorem zpz (zb:Nat) (f:Rat) (fr li ti pr:Int) (nm:ByteArray) (w:World) (hf:zx w zb f) (lf:zbn f 2000000) (hname:qd nm) (hr:qg fr li ti pr) (z:Int) (hok:1≤li∧f.num=0∧fr=0∧pr=0→z=0) (hbad:¬ (1≤li∧f.num=0∧fr=0∧pr=0)→z=1) :
   Calls prog 73 #[rlV 2 zb fr li ti pr nm] w fun e w'=>e=.returned (.int .i64 z)∧But [] w w':=by(
 unfold rlV
 have NM:=af (fun W=>oo nm W hname)
 have HR:=af hr
 have HF:=af hf
 obtain⟨sg,hsg⟩:∃ sg,sg=f.num.sign:=⟨_,rfl⟩
 have SG:=af (fun W (h:zx W zb f)=>zez zb f W h sg hsg lf)
 obtain⟨s1,s2,s3,s4⟩:=zdg f sg hsg
 have HS1:=af s1
 have HS0:=af s2
 have HS2:=af s3
 have HS3:=af s4
 have IN:=af ziz
 have CM:=af (fun W y (h1:zx W zb f) (h2:zx W y 1)=>zjc zb y f W h1 h2 lf)
 have HOK:=af hok
 have HBAD:=af hbad
 clear hok hbad hsg s1 s2 s3 s4 lf
 clear hr hf
 go_enter func73,ntmps73
 go_wp2_with fail
 refine (ae NM _).mono ?_
 rintro e w1 ⟨rfl,hb1⟩
 have B1:=af (((But.refl [] w).alloc (.cells #[.int .i64 2,.pointer (some ⟨zb,0,none⟩),.int .i64 fr,.int .i64 li,.int .i64 ti,.int .i64 pr,.string nm] 135)).trans' hb1)
 have c0:w1.cell? ⟨w.heap.size,0,none⟩=some (.int .i64 2):=hb1.ag (by simp) (by simp)
 have c1:w1.cell? ⟨w.heap.size,1,none⟩=some (.pointer (some ⟨zb,0,none⟩)):=hb1.ag (by simp) (by simp)
 have c2:w1.cell? ⟨w.heap.size,2,none⟩=some (.int .i64 fr):=hb1.ag (by simp) (by simp)
 have c3:w1.cell? ⟨w.heap.size,3,none⟩=some (.int .i64 li):=hb1.ag (by simp) (by simp)
 have c4:w1.cell? ⟨w.heap.size,4,none⟩=some (.int .i64 ti):=hb1.ag (by simp) (by simp)
 have c5:w1.cell? ⟨w.heap.size,5,none⟩=some (.int .i64 pr):=hb1.ag (by simp) (by simp)
 generalize w.heap.size=g1 at c0 c1 c2 c3 c4 c5 ⊢
 obtain⟨V,hV⟩:∃ V,V=w1.alloc (.cells #[.int .i64 fr,.int .i64 li,.int .i64 pr] 3):=⟨_,rfl⟩
 have hbv:But [] w1 V:=by rw[hV];exact (But.refl _ _).alloc _
 have B2:=af ((ae B1).trans' hbv)
 have v0:V.cell? ⟨w1.heap.size,0,none⟩=some (.int .i64 fr):=by rw[hV];simp
 have v1:V.cell? ⟨w1.heap.size,1,none⟩=some (.int .i64 li):=by rw[hV];simp
 have v2:V.cell? ⟨w1.heap.size,2,none⟩=some (.int .i64 pr):=by rw[hV];simp
 have x0:=af (hbv.ag c0 (by simp))
 have x1:=af (hbv.ag c1 (by simp))
 have x2:=af (hbv.ag c2 (by simp))
 have x3:=af (hbv.ag c3 (by simp))
 have x4:=af (hbv.ag c4 (by simp))
 have x5:=af (hbv.ag c5 (by simp))
 have HV:=af hV
 clear hb1 hbv B1 hV c0 c1 c4
 go_wp2
 rw[← ae HV]
 clear HV c2 c3 c5
 generalize w1.heap.size=g2 at v0 v1 v2 ⊢
 have HC:Hid (∀ k:Nat,k<3→V.cell? ⟨g2,k,none⟩=some (.int .i64 ([fr,li,pr].getD k 0))∧0≤[fr,li,pr].getD k 0∧[fr,li,pr].getD k 0≤1000000000000):=fun k hk=>by
  obtain⟨r1,r2,r3,r4⟩:=ae HR
  match k,hk with
  | 0,_=>exact⟨v0,r1⟩
  | 1,_=>exact⟨v1,r2⟩
  | 2,_=>exact⟨v2,r3⟩
 clear v0 v1 v2
 go_loopw [27] (fun i wr=>∃ k:Nat,k≤3∧i=.int .i64 (k:Int)∧wr=V) (fun i _=>3-(intOf i).toNat)
 case atStart=>exact⟨0,Nat.zero_le _,rfl,rfl⟩
 case round =>(
 obtain⟨k,hk,rfl,rfl⟩:=hrel
 rename World=>V
 by_cases hlt:k<3
 ·(
 obtain⟨c0,z0,z1⟩:=ae HC k hlt
 generalize [fr,li,pr].getD k 0=z at *
 have z0':¬ z<0:=by omega
 have z1':¬ 1000000000000<z:=by omega
 clear z0 z1
 go_wp2
 all_goals exact⟨⟨k+1,by omega,by go_num,by first | trivial|rfl⟩,by simp[intOf];omega⟩)
 ·(
 obtain rfl:k=3:=by omega
 obtain⟨-,-,-,t0,t1⟩:=ae HR
 have t0':¬ ti<0:=by omega
 have t1':¬ 100<ti:=by omega
 clear t0 t1 HC
 have bS:But [] V (V.alloc (.cells #[.string ⟨#[]⟩,.string ⟨#[115]⟩,.string ⟨#[108,116]⟩,.string ⟨#[102,108,116,99]⟩,.string ⟨#[102,108]⟩] 9)):=(But.refl _ _).alloc _
 have d4:=ae x4
 have e0:=bS.ag (ae x0) (by simp)
 have e1:=bS.ag (ae x1) (by simp)
 have e2:=bS.ag (ae x2) (by simp)
 have e3:=bS.ag (ae x3) (by simp)
 have e4:=bS.ag (ae x4) (by simp)
 have e5:=bS.ag (ae x5) (by simp)
 have B3:=af ((ae B2).trans' bS)
 have hx:V.heap.size=V.heap.size:=rfl
 have R0:=af ((ae HF).but (ae B3))
 clear bS hx
 have Cs:Hid (∀ W,Calls prog 155 #[.string ⟨#[108,116]⟩,.string ⟨#[115]⟩] W fun e w'=>e=.returned (.bool false)∧w'=W):=fun W=>contains_one ⟨#[108,116]⟩ 115 W
 have Cf:Hid (∀ W,Calls prog 155 #[.string ⟨#[108,116]⟩,.string ⟨#[102]⟩] W fun e w'=>e=.returned (.bool false)∧w'=W):=fun W=>contains_one ⟨#[108,116]⟩ 102 W
 have Cl:Hid (∀ W,Calls prog 155 #[.string ⟨#[108,116]⟩,.string ⟨#[108]⟩] W fun e w'=>e=.returned (.bool true)∧w'=W):=fun W=>contains_one ⟨#[108,116]⟩ 108 W
 have Ct:Hid (∀ W,Calls prog 155 #[.string ⟨#[108,116]⟩,.string ⟨#[116]⟩] W fun e w'=>e=.returned (.bool true)∧w'=W):=fun W=>contains_one ⟨#[108,116]⟩ 116 W
 have Cc:Hid (∀ W,Calls prog 155 #[.string ⟨#[108,116]⟩,.string ⟨#[99]⟩] W fun e w'=>e=.returned (.bool false)∧w'=W):=fun W=>contains_one ⟨#[108,116]⟩ 99 W
 go_wp2_with fail
 refine (ae Cs _).mono ?_
 rintro e wx ⟨rfl,rfl⟩
 go_wp2_with fail
 refine (ae SG _ (ae R0)).mono ?_
 rintro e w3 ⟨rfl,hb3⟩
 have B4:=af ((ae B3).trans' hb3)
 have R1:=af ((ae R0).but hb3)
 have q0:=hb3.ag e0 (by simp)
 have q1:=hb3.ag e1 (by simp)
 have q2:=hb3.ag e2 (by simp)
 have q3:=hb3.ag e3 (by simp)
 have q4:=hb3.ag e4 (by simp)
 have q5:=hb3.ag e5 (by simp)
 clear hb3 e0 e1 e2 e3 e4 e5 B3 R0
 by_cases hs0:sg=0
 ·(
 have ns:=ae HS2 hs0
 have bs:(sg != 0)=false:=by rw[hs0];rfl
 clear hs0
 go_wp2_with fail
 refine (ae Cf _).mono ?_
 rintro e wx ⟨rfl,rfl⟩
 by_cases nf:fr=0
 ·(
 have bf:(fr != 0)=false:=by rw[nf];rfl
 go_wp2_with fail
 refine (ae Cl _).mono ?_
 rintro e wx ⟨rfl,rfl⟩
 go_wp2_with fail
 refine (ae Ct _).mono ?_
 rintro e wx ⟨rfl,rfl⟩
 go_wp2_with fail
 refine (ae Cc _).mono ?_
 rintro e wx ⟨rfl,rfl⟩
 by_cases nc:pr=0
 ·(
 have bc:(pr != 0)=false:=by rw[nc];rfl
 by_cases hli:li<1
 ·(
 obtain rfl:z=1:=ae HBAD (fun h=>absurd h.1 (by omega))
 go_wp2_with fail
 refine zdl 15 _ _ _ g1 zb f sg li false (by simp) (by simp[Act.eval]) (by simp[Act.eval]) q0 q3 hli ?_
 intro w9 hb9
 have HB9:=af ((ae B4).trans' hb9)
 simp only[bi,List.foldl_cons,List.foldl_nil,Act.put,List.setIfInBounds_toArray,List.set_cons_zero,List.set_cons_succ]
 clear hb9 q0 q1 q2 q3 q4 q5
 go_wp2
 go_ret
 exact⟨rfl,ae HB9⟩)
 ·(
 obtain rfl:z=0:=ae HOK (⟨by omega,ns,nf,nc⟩)
 go_wp2_with fail
 refine zfh 15 _ _ _ g1 zb f sg li false (by simp) (by simp[Act.eval]) (by simp[Act.eval]) q0 q3 (by omega) ?_
 intro w9 hb9
 have HB9:=af ((ae B4).trans' hb9)
 simp only[bi,List.foldl_cons,List.foldl_nil,Act.put,List.setIfInBounds_toArray,List.set_cons_zero,List.set_cons_succ]
 clear hb9 q0 q1 q2 q3 q4 q5
 go_wp2
 go_ret
 exact⟨rfl,ae HB9⟩))
 ·(
 have bc:(pr != 0)=true:=by simpa using nc
 by_cases hli:li<1
 ·(
 obtain rfl:z=1:=ae HBAD (fun h=>absurd h.1 (by omega))
 go_wp2_with fail
 refine zdl 15 _ _ _ g1 zb f sg li true (by simp) (by simp[Act.eval]) (by simp[Act.eval]) q0 q3 hli ?_
 intro w9 hb9
 have HB9:=af ((ae B4).trans' hb9)
 simp only[bi,List.foldl_cons,List.foldl_nil,Act.put,List.setIfInBounds_toArray,List.set_cons_zero,List.set_cons_succ]
 clear hb9 q0 q1 q2 q3 q4 q5
 go_wp2
 go_ret
 exact⟨rfl,ae HB9⟩)
 ·(
 obtain rfl:z=1:=ae HBAD (fun h=>nc h.2.2.2)
 go_wp2_with fail
 refine zfh 15 _ _ _ g1 zb f sg li true (by simp) (by simp[Act.eval]) (by simp[Act.eval]) q0 q3 (by omega) ?_
 intro w9 hb9
 have HB9:=af ((ae B4).trans' hb9)
 simp only[bi,List.foldl_cons,List.foldl_nil,Act.put,List.setIfInBounds_toArray,List.set_cons_zero,List.set_cons_succ]
 clear hb9 q0 q1 q2 q3 q4 q5
 go_wp2
 go_ret
 exact⟨rfl,ae HB9⟩)))
 ·(
 have bf:(fr != 0)=true:=by simpa using nf
 by_cases hli:li<1
 ·(
 obtain rfl:z=1:=ae HBAD (fun h=>absurd h.1 (by omega))
 go_wp2_with fail
 refine zdl 15 _ _ _ g1 zb f sg li true (by simp) (by simp[Act.eval]) (by simp[Act.eval]) q0 q3 hli ?_
 intro w9 hb9
 have HB9:=af ((ae B4).trans' hb9)
 simp only[bi,List.foldl_cons,List.foldl_nil,Act.put,List.setIfInBounds_toArray,List.set_cons_zero,List.set_cons_succ]
 clear hb9 q0 q1 q2 q3 q4 q5
 go_wp2
 go_ret
 exact⟨rfl,ae HB9⟩)
 ·(
 obtain rfl:z=1:=ae HBAD (fun h=>nf h.2.2.1)
 go_wp2_with fail
 refine zfh 15 _ _ _ g1 zb f sg li true (by simp) (by simp[Act.eval]) (by simp[Act.eval]) q0 q3 (by omega) ?_
 intro w9 hb9
 have HB9:=af ((ae B4).trans' hb9)
 simp only[bi,List.foldl_cons,List.foldl_nil,Act.put,List.setIfInBounds_toArray,List.set_cons_zero,List.set_cons_succ]
 clear hb9 q0 q1 q2 q3 q4 q5
 go_wp2
 go_ret
 exact⟨rfl,ae HB9⟩)))
 ·(
 have ns:=ae HS3 hs0
 have bs:(sg != 0)=true:=by simpa using hs0
 by_cases hli:li<1
 ·(
 obtain rfl:z=1:=ae HBAD (fun h=>absurd h.1 (by omega))
 go_wp2_with fail
 refine zdl 15 _ _ _ g1 zb f sg li true (by simp) (by simp[Act.eval]) (by simp[Act.eval]) q0 q3 hli ?_
 intro w9 hb9
 have HB9:=af ((ae B4).trans' hb9)
 simp only[bi,List.foldl_cons,List.foldl_nil,Act.put,List.setIfInBounds_toArray,List.set_cons_zero,List.set_cons_succ]
 clear hb9 q0 q1 q2 q3 q4 q5
 go_wp2
 go_ret
 exact⟨rfl,ae HB9⟩)
 ·(
 obtain rfl:z=1:=ae HBAD (fun h=>ns h.2.1)
 go_wp2_with fail
 refine zfh 15 _ _ _ g1 zb f sg li true (by simp) (by simp[Act.eval]) (by simp[Act.eval]) q0 q3 (by omega) ?_
 intro w9 hb9
 have HB9:=af ((ae B4).trans' hb9)
 simp only[bi,List.foldl_cons,List.foldl_nil,Act.put,List.setIfInBounds_toArray,List.set_cons_zero,List.set_cons_succ]
 clear hb9 q0 q1 q2 q3 q4 q5
 go_wp2
 go_ret
 exact⟨rfl,ae HB9⟩)))))
theorem zqa (zb:Nat) (f:Rat) (fr li ti pr:Int) (nm:ByteArray) (w:World) (hf:zx w zb f) (lf:zbn f 2000000) (hname:qd nm) (hr:qg fr li ti pr) (z:Int) (hok:(0≤f∧f≤1)∧fr=0∧li=0∧ti=0∧pr=0→z=0) (hbad:¬ ((0≤f∧f≤1)∧fr=0∧li=0∧ti=0∧pr=0)→z=1) :
   Calls prog 73 #[rlV 1 zb fr li ti pr nm] w fun e w'=>e=.returned (.int .i64 z)∧But [] w w':=by(
 unfold rlV
 have NM:=af (fun W=>oo nm W hname)
 have HR:=af hr
 have HF:=af hf
 obtain⟨sg,hsg⟩:∃ sg,sg=f.num.sign:=⟨_,rfl⟩
 have SG:=af (fun W (h:zx W zb f)=>zez zb f W h sg hsg lf)
 obtain⟨s1,s2,s3,s4⟩:=zdg f sg hsg
 have HS1:=af s1
 have HS0:=af s2
 have HS2:=af s3
 have HS3:=af s4
 have IN:=af ziz
 have CM:=af (fun W y (h1:zx W zb f) (h2:zx W y 1)=>zjc zb y f W h1 h2 lf)
 have HOK:=af hok
 have HBAD:=af hbad
 clear hok hbad hsg s1 s2 s3 s4 lf
 clear hr hf
 go_enter func73,ntmps73
 go_wp2_with fail
 refine (ae NM _).mono ?_
 rintro e w1 ⟨rfl,hb1⟩
 have B1:=af (((But.refl [] w).alloc (.cells #[.int .i64 1,.pointer (some ⟨zb,0,none⟩),.int .i64 fr,.int .i64 li,.int .i64 ti,.int .i64 pr,.string nm] 135)).trans' hb1)
 have c0:w1.cell? ⟨w.heap.size,0,none⟩=some (.int .i64 1):=hb1.ag (by simp) (by simp)
 have c1:w1.cell? ⟨w.heap.size,1,none⟩=some (.pointer (some ⟨zb,0,none⟩)):=hb1.ag (by simp) (by simp)
 have c2:w1.cell? ⟨w.heap.size,2,none⟩=some (.int .i64 fr):=hb1.ag (by simp) (by simp)
 have c3:w1.cell? ⟨w.heap.size,3,none⟩=some (.int .i64 li):=hb1.ag (by simp) (by simp)
 have c4:w1.cell? ⟨w.heap.size,4,none⟩=some (.int .i64 ti):=hb1.ag (by simp) (by simp)
 have c5:w1.cell? ⟨w.heap.size,5,none⟩=some (.int .i64 pr):=hb1.ag (by simp) (by simp)
 generalize w.heap.size=g1 at c0 c1 c2 c3 c4 c5 ⊢
 obtain⟨V,hV⟩:∃ V,V=w1.alloc (.cells #[.int .i64 fr,.int .i64 li,.int .i64 pr] 3):=⟨_,rfl⟩
 have hbv:But [] w1 V:=by rw[hV];exact (But.refl _ _).alloc _
 have B2:=af ((ae B1).trans' hbv)
 have v0:V.cell? ⟨w1.heap.size,0,none⟩=some (.int .i64 fr):=by rw[hV];simp
 have v1:V.cell? ⟨w1.heap.size,1,none⟩=some (.int .i64 li):=by rw[hV];simp
 have v2:V.cell? ⟨w1.heap.size,2,none⟩=some (.int .i64 pr):=by rw[hV];simp
 have x0:=af (hbv.ag c0 (by simp))
 have x1:=af (hbv.ag c1 (by simp))
 have x2:=af (hbv.ag c2 (by simp))
 have x3:=af (hbv.ag c3 (by simp))
 have x4:=af (hbv.ag c4 (by simp))
 have x5:=af (hbv.ag c5 (by simp))
 have HV:=af hV
 clear hb1 hbv B1 hV c0 c1 c4
 go_wp2
 rw[← ae HV]
 clear HV c2 c3 c5
 generalize w1.heap.size=g2 at v0 v1 v2 ⊢
 have HC:Hid (∀ k:Nat,k<3→V.cell? ⟨g2,k,none⟩=some (.int .i64 ([fr,li,pr].getD k 0))∧0≤[fr,li,pr].getD k 0∧[fr,li,pr].getD k 0≤1000000000000):=fun k hk=>by
  obtain⟨r1,r2,r3,r4⟩:=ae HR
  match k,hk with
  | 0,_=>exact⟨v0,r1⟩
  | 1,_=>exact⟨v1,r2⟩
  | 2,_=>exact⟨v2,r3⟩
 clear v0 v1 v2
 go_loopw [27] (fun i wr=>∃ k:Nat,k≤3∧i=.int .i64 (k:Int)∧wr=V) (fun i _=>3-(intOf i).toNat)
 case atStart=>exact⟨0,Nat.zero_le _,rfl,rfl⟩
 case round =>(
 obtain⟨k,hk,rfl,rfl⟩:=hrel
 rename World=>V
 by_cases hlt:k<3
 ·(
 obtain⟨c0,z0,z1⟩:=ae HC k hlt
 generalize [fr,li,pr].getD k 0=z at *
 have z0':¬ z<0:=by omega
 have z1':¬ 1000000000000<z:=by omega
 clear z0 z1
 go_wp2
 all_goals exact⟨⟨k+1,by omega,by go_num,by first | trivial|rfl⟩,by simp[intOf];omega⟩)
 ·(
 obtain rfl:k=3:=by omega
 obtain⟨-,-,-,t0,t1⟩:=ae HR
 have t0':¬ ti<0:=by omega
 have t1':¬ 100<ti:=by omega
 clear t0 t1 HC
 have bS:But [] V (V.alloc (.cells #[.string ⟨#[]⟩,.string ⟨#[115]⟩,.string ⟨#[108,116]⟩,.string ⟨#[102,108,116,99]⟩,.string ⟨#[102,108]⟩] 9)):=(But.refl _ _).alloc _
 have d4:=ae x4
 have e0:=bS.ag (ae x0) (by simp)
 have e1:=bS.ag (ae x1) (by simp)
 have e2:=bS.ag (ae x2) (by simp)
 have e3:=bS.ag (ae x3) (by simp)
 have e4:=bS.ag (ae x4) (by simp)
 have e5:=bS.ag (ae x5) (by simp)
 have B3:=af ((ae B2).trans' bS)
 have hx:V.heap.size=V.heap.size:=rfl
 have R0:=af ((ae HF).but (ae B3))
 clear bS hx
 have Cs:Hid (∀ W,Calls prog 155 #[.string ⟨#[115]⟩,.string ⟨#[115]⟩] W fun e w'=>e=.returned (.bool true)∧w'=W):=fun W=>contains_one ⟨#[115]⟩ 115 W
 have Cf:Hid (∀ W,Calls prog 155 #[.string ⟨#[115]⟩,.string ⟨#[102]⟩] W fun e w'=>e=.returned (.bool false)∧w'=W):=fun W=>contains_one ⟨#[115]⟩ 102 W
 have Cl:Hid (∀ W,Calls prog 155 #[.string ⟨#[115]⟩,.string ⟨#[108]⟩] W fun e w'=>e=.returned (.bool false)∧w'=W):=fun W=>contains_one ⟨#[115]⟩ 108 W
 have Ct:Hid (∀ W,Calls prog 155 #[.string ⟨#[115]⟩,.string ⟨#[116]⟩] W fun e w'=>e=.returned (.bool false)∧w'=W):=fun W=>contains_one ⟨#[115]⟩ 116 W
 have Cc:Hid (∀ W,Calls prog 155 #[.string ⟨#[115]⟩,.string ⟨#[99]⟩] W fun e w'=>e=.returned (.bool false)∧w'=W):=fun W=>contains_one ⟨#[115]⟩ 99 W
 go_wp2_with fail
 refine (ae Cs _).mono ?_
 rintro e wx ⟨rfl,rfl⟩
 go_wp2_with fail
 refine (ae Cf _).mono ?_
 rintro e wx ⟨rfl,rfl⟩
 by_cases nf:fr=0
 ·(
 have bf:(fr != 0)=false:=by rw[nf];rfl
 go_wp2_with fail
 refine (ae Cl _).mono ?_
 rintro e wx ⟨rfl,rfl⟩
 by_cases nl:li=0
 ·(
 have bl:(li != 0)=false:=by rw[nl];rfl
 go_wp2_with fail
 refine (ae Ct _).mono ?_
 rintro e wx ⟨rfl,rfl⟩
 by_cases nt:ti=0
 ·(
 have bt:(ti != 0)=false:=by rw[nt];rfl
 go_wp2_with fail
 refine (ae Cc _).mono ?_
 rintro e wx ⟨rfl,rfl⟩
 by_cases nc:pr=0
 ·(
 have bc:(pr != 0)=false:=by rw[nc];rfl
 by_cases hneg:sg<0
 ·(
 obtain rfl:z=1:=ae HBAD (fun h=>absurd h.1.1 (ae HS1 (by omega)))
 go_wp2_with fail
 refine zcv 15 _ _ _ g1 zb f sg li false (by simp) (by simp[Act.eval]) (by simp[Act.eval]) e0 e1 (by omega) (fun W hb=>ae SG W ((ae R0).but hb)) ?_
 intro w9 hb9
 have HB9:=af ((ae B3).trans' hb9)
 simp only[bi,List.foldl_cons,List.foldl_nil,Act.put,List.setIfInBounds_toArray,List.set_cons_zero,List.set_cons_succ]
 clear hb9 e0 e1 e2 e3 e4 e5
 go_wp2
 go_ret
 exact⟨rfl,ae HB9⟩)
 ·(
 by_cases hgt:1<f
 ·(
 obtain rfl:z=1:=ae HBAD (fun h=>absurd h.1.2 (fun x=>absurd hgt (Rat.not_lt.2 x)))
 go_wp2_with fail
 refine zfi 15 _ _ _ g1 zb f sg li false (by simp) (by simp[Act.eval]) (by simp[Act.eval]) e0 e1 (by omega) (fun W hb=>ae SG W ((ae R0).but hb)) (by first | exact hgt | exact Rat.not_lt.2 hgt) (fun W hb=>ae IN W) (fun W y hb hy=>ae CM W y ((ae R0).but hb) hy) ?_
 intro w9 v11 v12 hb9
 have HB9:=af ((ae B3).trans' hb9)
 simp only[bi,List.foldl_cons,List.foldl_nil,Act.put,List.setIfInBounds_toArray,List.set_cons_zero,List.set_cons_succ]
 clear hb9 e0 e1 e2 e3 e4 e5
 go_wp2
 go_ret
 exact⟨rfl,ae HB9⟩)
 ·(
 obtain rfl:z=0:=ae HOK (⟨⟨ae HS0 (by omega),by first | exact hgt | exact Rat.not_lt.1 hgt⟩,nf,nl,nt,nc⟩)
 go_wp2_with fail
 refine zcu 15 _ _ _ g1 zb f sg li false (by simp) (by simp[Act.eval]) (by simp[Act.eval]) e0 e1 (by omega) (fun W hb=>ae SG W ((ae R0).but hb)) (by first | exact hgt | exact Rat.not_lt.2 hgt) (fun W hb=>ae IN W) (fun W y hb hy=>ae CM W y ((ae R0).but hb) hy) ?_
 intro w9 v11 v12 hb9
 have HB9:=af ((ae B3).trans' hb9)
 simp only[bi,List.foldl_cons,List.foldl_nil,Act.put,List.setIfInBounds_toArray,List.set_cons_zero,List.set_cons_succ]
 clear hb9 e0 e1 e2 e3 e4 e5
 go_wp2
 go_ret
 exact⟨rfl,ae HB9⟩)))
 ·(
 have bc:(pr != 0)=true:=by simpa using nc
 by_cases hneg:sg<0
 ·(
 obtain rfl:z=1:=ae HBAD (fun h=>absurd h.1.1 (ae HS1 (by omega)))
 go_wp2_with fail
 refine zcv 15 _ _ _ g1 zb f sg li true (by simp) (by simp[Act.eval]) (by simp[Act.eval]) e0 e1 (by omega) (fun W hb=>ae SG W ((ae R0).but hb)) ?_
 intro w9 hb9
 have HB9:=af ((ae B3).trans' hb9)
 simp only[bi,List.foldl_cons,List.foldl_nil,Act.put,List.setIfInBounds_toArray,List.set_cons_zero,List.set_cons_succ]
 clear hb9 e0 e1 e2 e3 e4 e5
 go_wp2
 go_ret
 exact⟨rfl,ae HB9⟩)
 ·(
 by_cases hgt:1<f
 ·(
 obtain rfl:z=1:=ae HBAD (fun h=>absurd h.1.2 (fun x=>absurd hgt (Rat.not_lt.2 x)))
 go_wp2_with fail
 refine zfi 15 _ _ _ g1 zb f sg li true (by simp) (by simp[Act.eval]) (by simp[Act.eval]) e0 e1 (by omega) (fun W hb=>ae SG W ((ae R0).but hb)) (by first | exact hgt | exact Rat.not_lt.2 hgt) (fun W hb=>ae IN W) (fun W y hb hy=>ae CM W y ((ae R0).but hb) hy) ?_
 intro w9 v11 v12 hb9
 have HB9:=af ((ae B3).trans' hb9)
 simp only[bi,List.foldl_cons,List.foldl_nil,Act.put,List.setIfInBounds_toArray,List.set_cons_zero,List.set_cons_succ]
 clear hb9 e0 e1 e2 e3 e4 e5
 go_wp2
 go_ret
 exact⟨rfl,ae HB9⟩)
 ·(
 obtain rfl:z=1:=ae HBAD (fun h=>nc h.2.2.2.2)
 go_wp2_with fail
 refine zcu 15 _ _ _ g1 zb f sg li true (by simp) (by simp[Act.eval]) (by simp[Act.eval]) e0 e1 (by omega) (fun W hb=>ae SG W ((ae R0).but hb)) (by first | exact hgt | exact Rat.not_lt.2 hgt) (fun W hb=>ae IN W) (fun W y hb hy=>ae CM W y ((ae R0).but hb) hy) ?_
 intro w9 v11 v12 hb9
 have HB9:=af ((ae B3).trans' hb9)
 simp only[bi,List.foldl_cons,List.foldl_nil,Act.put,List.setIfInBounds_toArray,List.set_cons_zero,List.set_cons_succ]
 clear hb9 e0 e1 e2 e3 e4 e5
 go_wp2
 go_ret
 exact⟨rfl,ae HB9⟩))))
 ·(
 have bt:(ti != 0)=true:=by simpa using nt
 by_cases hneg:sg<0
 ·(
 obtain rfl:z=1:=ae HBAD (fun h=>absurd h.1.1 (ae HS1 (by omega)))
 go_wp2_with fail
 refine zcv 15 _ _ _ g1 zb f sg li true (by simp) (by simp[Act.eval]) (by simp[Act.eval]) e0 e1 (by omega) (fun W hb=>ae SG W ((ae R0).but hb)) ?_
 intro w9 hb9
 have HB9:=af ((ae B3).trans' hb9)
 simp only[bi,List.foldl_cons,List.foldl_nil,Act.put,List.setIfInBounds_toArray,List.set_cons_zero,List.set_cons_succ]
 clear hb9 e0 e1 e2 e3 e4 e5
 go_wp2
 go_ret
 exact⟨rfl,ae HB9⟩)
 ·(
 by_cases hgt:1<f
 ·(
 obtain rfl:z=1:=ae HBAD (fun h=>absurd h.1.2 (fun x=>absurd hgt (Rat.not_lt.2 x)))
 go_wp2_with fail
 refine zfi 15 _ _ _ g1 zb f sg li true (by simp) (by simp[Act.eval]) (by simp[Act.eval]) e0 e1 (by omega) (fun W hb=>ae SG W ((ae R0).but hb)) (by first | exact hgt | exact Rat.not_lt.2 hgt) (fun W hb=>ae IN W) (fun W y hb hy=>ae CM W y ((ae R0).but hb) hy) ?_
 intro w9 v11 v12 hb9
 have HB9:=af ((ae B3).trans' hb9)
 simp only[bi,List.foldl_cons,List.foldl_nil,Act.put,List.setIfInBounds_toArray,List.set_cons_zero,List.set_cons_succ]
 clear hb9 e0 e1 e2 e3 e4 e5
 go_wp2
 go_ret
 exact⟨rfl,ae HB9⟩)
 ·(
 obtain rfl:z=1:=ae HBAD (fun h=>nt h.2.2.2.1)
 go_wp2_with fail
 refine zcu 15 _ _ _ g1 zb f sg li true (by simp) (by simp[Act.eval]) (by simp[Act.eval]) e0 e1 (by omega) (fun W hb=>ae SG W ((ae R0).but hb)) (by first | exact hgt | exact Rat.not_lt.2 hgt) (fun W hb=>ae IN W) (fun W y hb hy=>ae CM W y ((ae R0).but hb) hy) ?_
 intro w9 v11 v12 hb9
 have HB9:=af ((ae B3).trans' hb9)
 simp only[bi,List.foldl_cons,List.foldl_nil,Act.put,List.setIfInBounds_toArray,List.set_cons_zero,List.set_cons_succ]
 clear hb9 e0 e1 e2 e3 e4 e5
 go_wp2
 go_ret
 exact⟨rfl,ae HB9⟩))))
 ·(
 have bl:(li != 0)=true:=by simpa using nl
 by_cases hneg:sg<0
 ·(
 obtain rfl:z=1:=ae HBAD (fun h=>absurd h.1.1 (ae HS1 (by omega)))
 go_wp2_with fail
 refine zcv 15 _ _ _ g1 zb f sg li true (by simp) (by simp[Act.eval]) (by simp[Act.eval]) e0 e1 (by omega) (fun W hb=>ae SG W ((ae R0).but hb)) ?_
 intro w9 hb9
 have HB9:=af ((ae B3).trans' hb9)
 simp only[bi,List.foldl_cons,List.foldl_nil,Act.put,List.setIfInBounds_toArray,List.set_cons_zero,List.set_cons_succ]
 clear hb9 e0 e1 e2 e3 e4 e5
 go_wp2
 go_ret
 exact⟨rfl,ae HB9⟩)
 ·(
 by_cases hgt:1<f
 ·(
 obtain rfl:z=1:=ae HBAD (fun h=>absurd h.1.2 (fun x=>absurd hgt (Rat.not_lt.2 x)))
 go_wp2_with fail
 refine zfi 15 _ _ _ g1 zb f sg li true (by simp) (by simp[Act.eval]) (by simp[Act.eval]) e0 e1 (by omega) (fun W hb=>ae SG W ((ae R0).but hb)) (by first | exact hgt | exact Rat.not_lt.2 hgt) (fun W hb=>ae IN W) (fun W y hb hy=>ae CM W y ((ae R0).but hb) hy) ?_
 intro w9 v11 v12 hb9
 have HB9:=af ((ae B3).trans' hb9)
 simp only[bi,List.foldl_cons,List.foldl_nil,Act.put,List.setIfInBounds_toArray,List.set_cons_zero,List.set_cons_succ]
 clear hb9 e0 e1 e2 e3 e4 e5
 go_wp2
 go_ret
 exact⟨rfl,ae HB9⟩)
 ·(
 obtain rfl:z=1:=ae HBAD (fun h=>nl h.2.2.1)
 go_wp2_with fail
 refine zcu 15 _ _ _ g1 zb f sg li true (by simp) (by simp[Act.eval]) (by simp[Act.eval]) e0 e1 (by omega) (fun W hb=>ae SG W ((ae R0).but hb)) (by first | exact hgt | exact Rat.not_lt.2 hgt) (fun W hb=>ae IN W) (fun W y hb hy=>ae CM W y ((ae R0).but hb) hy) ?_
 intro w9 v11 v12 hb9
 have HB9:=af ((ae B3).trans' hb9)
 simp only[bi,List.foldl_cons,List.foldl_nil,Act.put,List.setIfInBounds_toArray,List.set_cons_zero,List.set_cons_succ]
 clear hb9 e0 e1 e2 e3 e4 e5
 go_wp2
 go_ret
 exact⟨rfl,ae HB9⟩))))
 ·(
 have bf:(fr != 0)=true:=by simpa using nf
 by_cases hneg:sg<0
 ·(
 obtain rfl:z=1:=ae HBAD (fun h=>absurd h.1.1 (ae HS1 (by omega)))
 go_wp2_with fail
 refine zcv 15 _ _ _ g1 zb f sg li true (by simp) (by simp[Act.eval]) (by simp[Act.eval]) e0 e1 (by omega) (fun W hb=>ae SG W ((ae R0).but hb)) ?_
 intro w9 hb9
 have HB9:=af ((ae B3).trans' hb9)
 simp only[bi,List.foldl_cons,List.foldl_nil,Act.put,List.setIfInBounds_toArray,List.set_cons_zero,List.set_cons_succ]
 clear hb9 e0 e1 e2 e3 e4 e5
 go_wp2
 go_ret
 exact⟨rfl,ae HB9⟩)
 ·(
 by_cases hgt:1<f
 ·(
 obtain rfl:z=1:=ae HBAD (fun h=>absurd h.1.2 (fun x=>absurd hgt (Rat.not_lt.2 x)))
 go_wp2_with fail
 refine zfi 15 _ _ _ g1 zb f sg li true (by simp) (by simp[Act.eval]) (by simp[Act.eval]) e0 e1 (by omega) (fun W hb=>ae SG W ((ae R0).but hb)) (by first | exact hgt | exact Rat.not_lt.2 hgt) (fun W hb=>ae IN W) (fun W y hb hy=>ae CM W y ((ae R0).but hb) hy) ?_
 intro w9 v11 v12 hb9
 have HB9:=af ((ae B3).trans' hb9)
 simp only[bi,List.foldl_cons,List.foldl_nil,Act.put,List.setIfInBounds_toArray,List.set_cons_zero,List.set_cons_succ]
 clear hb9 e0 e1 e2 e3 e4 e5
 go_wp2
 go_ret
 exact⟨rfl,ae HB9⟩)
 ·(
 obtain rfl:z=1:=ae HBAD (fun h=>nf h.2.1)
 go_wp2_with fail
 refine zcu 15 _ _ _ g1 zb f sg li true (by simp) (by simp[Act.eval]) (by simp[Act.eval]) e0 e1 (by omega) (fun W hb=>ae SG W ((ae R0).but hb)) (by first | exact hgt | exact Rat.not_lt.2 hgt) (fun W hb=>ae IN W) (fun W y hb hy=>ae CM W y ((ae R0).but hb) hy) ?_
 intro w9 v11 v12 hb9
 have HB9:=af ((ae B3).trans' hb9)
 simp only[bi,List.foldl_cons,List.foldl_nil,Act.put,List.setIfInBounds_toArray,List.set_cons_zero,List.set_cons_succ]
 clear hb9 e0 e1 e2 e3 e4 e5
 go_wp2
 go_ret
 exact⟨rfl,ae HB9⟩))))))
end Go.Proofs.YtjlfllhedceigaaGreatDoor
