/- A number's decimal digits, with noughts  -/
import Derived.Lib.AppendIntMem
import Derived.Test.YtagmkkiagjmimaaGreatDoorXF2
import Derived.Test.YtagmkkiagjmimaaGreatDoorXN38
namespace Go.Proofs.YtagmkkiagjmimaaGreatDoor
set_option linter.unusedVariables false
open Go.Proofs.Tryz
open Go.RowKit
set_option maxHeartbeats 8000000
set_option maxRecDepth 100000
structure qfb (w:World) (n m:Nat) (ds:List UInt8) (vb vx:Value) (wr:World):Prop where
 words:Sl .u64 wr vx (wd 18446744073709551616 m)
 own:wr.ownsRow w.heap.size 5 1 vb ds.length (ds.map u8v)
 but:But [] w wr
 dig:vv n=ds++vv m
 pos:0<n→0<m
 len:(wd 18446744073709551616 m).length<1048576
theorem zka (base:Nat) (vo:Value) (ods:List UInt8) (v:Value) (X Wd:Nat) (w:World) (hv:Sl .u64 w v (wd 18446744073709551616 X)) (hX:0<X∨0<Wd) (hl:(wd 18446744073709551616 X).length<1048576) (hd:ods.length+(vv X).length+Wd<1073741000) (ho:w.ownsRow base 5 1 vo ods.length (ods.map u8v)) (hn:vo=.slice none 0 0∨0<ods.length) (hbase:base≤w.heap.size) :
   Calls prog 188 #[vo,v,.int .i64 (Wd:Int)] w fun e w'=>∃ v',e=.returned v'∧w'.ownsRow base 5 1 v' (ods++(jo Wd X).reverse).length ((ods++(jo Wd X).reverse).map u8v)∧Below base w w'∧yt w w':=by(
 have HO:=af ho
 have HN:=af hn
 have HBS:=af hbase
 obtain⟨oa,oc,rfl⟩:=iw ho
 clear ho hn hbase
 have HV:=af hv
 clear hv
 obtain⟨xa,xc,rfl,-,-⟩:=ae HV
 have HX:=af hX
 have HD:=af hd
 clear hX hd
 generalize hno:ods.length=no at *
 have HNO:=af hno
 clear hno
 go_enter func188,ntmps188
 go_wp2
 go_loopg [7,1] X (fun m vb vx wr=>∃ ds:List UInt8,qfb w X m ds vb vx wr)
 case atStart=>exact⟨[],⟨ae HV,World.ownsRow_nil _ _ _ _,But.refl _ _,rfl,fun h=>h,hl⟩⟩
 case round =>(
 obtain⟨ds,hI⟩:=hrel
 rename World=>wr
 obtain⟨hsl,hown,hbut,hdig,hpos,hlen⟩:=hI
 have hdl:ds.length<1073741000:=by have:=congrArg List.length hdig;have h2:=ae HD;rw[List.length_append] at this;omega
 have HSL:=af hsl
 obtain⟨aa,ca,rfl,-,-⟩:=hsl
 have HDG:=af hdig
 have HOWN:=af hown
 have HBUT:=af hbut
 clear hdig hown hbut
 by_cases hm:1<(wd 18446744073709551616 gk).length
 ·(
 have h19:=zzx hm
 obtain⟨m',hm'⟩:∃ m',m'=gk/10000000000000000000:=⟨_,rfl⟩
 obtain⟨r0,hr0⟩:∃ r0,r0=gk%10000000000000000000:=⟨_,rfl⟩
 have hmp:0<m':=by omega
 have hml:(wd 18446744073709551616 m').length≤(wd 18446744073709551616 gk).length:=aw (by omega)
 have BW:=af (zpz _ gk 10000000000000000000 wr (ae HSL) (by omega) (by omega) (by omega))
 rw[← hm',← hr0] at BW
 have hDP:Hid (vv gk=ig 19 r0++vv m'):=by
  show _=_
  have h:=zie 19 gk (by exact h19)
  rw[← zhc 19 gk] at h
  rw[hm',hr0]
  exact h
 have hr0l:r0<10000000000000000000:=by omega
 have hlt':m' < gk:=by rw[hm'];exact Nat.div_lt_self (by omega) (by omega)
 have HML:=af hml
 clear hm' hr0 hml h19
 generalize hla:(wd 18446744073709551616 gk).length=la at *
 clear hla
 have hwl:Hid (0<(wd 18446744073709551616 m').length):=by show _<_;rw[Nat.pos_iff_ne_zero];intro e;rw[zo (by omega)] at e;omega
 go_wp2_with fail
 refine (ae BW).mono ?_
 rintro e w2 ⟨v2,rfl,hv2,hb2,hf2⟩
 have HV2:=af hv2
 have HOWN2:=af (zah (ae HOWN) hb2)
 have HBUT2:Hid (But [] w w2):=(ae HBUT).trans' hb2
 have HOFF:Hid (qdl u7 v2):=fun k hk b off n c e=>by
  have h1:=((ae HOWN).lt k hk).2
  have h2:=hf2 b off n c e
  omega
 clear hv2 hb2 hf2
 go_wp2_with fail
 go_loopw [7,8,18] (fun vb rest c wq=>∃ j q:Nat,j≤19∧c=.int .i64 j∧rest=.int .u64 q∧q<10000000000000000000∧Hid (q=r0/10^j∧wq.ownsRow w.heap.size 5 1 vb (ds++ig j r0).length ((ds++ig j r0).map u8v)∧But [] w wq∧Sl .u64 wq v2 (wd 18446744073709551616 m')∧qdl vb v2)) (fun _ _ c _=>19-(intOf c).toNat)
 case atStart=>exact⟨0,r0,by omega,rfl,rfl,hr0l,by simp,by simpa [ig] using ae HOWN2,ae HBUT2,ae HV2,ae HOFF⟩
 case round =>(
 obtain⟨j,q,hj,rfl,rfl,hq,HI⟩:=hrel
 rename World=>wq
 by_cases hj19:j=19
 ·(
 subst hj19
 have HIK:=af (ae HI).2
 clear HI
 go_wp2
 go_roundg m'
 case measure=>exact hlt'
 case rel =>(
 obtain⟨k1,k2,k3,-⟩:=ae HIK
 refine⟨ds++ig 19 r0,k3,k1,k2,?_,fun _=>hmp,by have:=ae HML;omega⟩
 rw[ae HDG,ae hDP,List.append_assoc]))
 ·(
 have hj2:j<19:=by omega
 obtain⟨dg,hdg⟩:∃ dg,dg=q%10:=⟨_,rfl⟩
 obtain⟨q',hq'⟩:∃ q',q'=q/10:=⟨_,rfl⟩
 have hd10:dg<10:=by omega
 have hq2:q' < 10000000000000000000:=by omega
 have e1:(q:Int)%10=(dg:Int):=by omega
 have e2:(q:Int)/10=(q':Int):=by omega
 have e3:(q:Int).tmod 10=(dg:Int):=by rw[Int.tmod_eq_emod_of_nonneg (by omega)];exact e1
 have e4:(q:Int).tdiv 10=(q':Int):=by rw[Int.tdiv_eq_ediv_of_nonneg (by omega)];exact e2
 have hqj:Hid (q'=r0/10^(j+1)∧ig (j+1) r0=ig j r0++[UInt8.ofNat (48+dg)]):=by
  constructor
  ·rw[hq',(ae HI).1,Nat.div_div_eq_div_mul,Nat.pow_succ]
  ·rw[znn,← (ae HI).1,← hdg]
 have hld:(ds++ig j r0).length<1073741824:=by rw[List.length_append,zjd];omega
 have hAB:=zcm (wq.alloc (.cells #[.int .u8 (48+(dg:Int))] 5)) w.heap.size u7 (ds++ig j r0) ((ae HI).2.1.alloc _) ⟨wq.heap.size,0,none⟩ (UInt8.ofNat (48+dg)) (by rw[← zhz dg hd10];simp) hld (by have:=(ae HI).2.2.1.size;simp;omega)
 obtain⟨v3,w3,hr3,ho3,hg3,hb3⟩:=hAB
 have hB3:But [] w w3:=((ae HI).2.2.1.alloc _).grown hg3 (fun k hk=>((ae HI).2.1.lt k hk).1)
 obtain⟨hS3,hO3⟩:=(ae HI).2.2.2.2.grow (ae HI).2.2.2.1 (ae hwl) hg3 hb3
 have ALL:=af (And.intro ho3 (And.intro hB3 (And.intro hS3 hO3)))
 have HR3:=af hr3
 clear ho3 hB3 hS3 hO3 hg3 hb3 hr3 hld hdg hq'
 go_wp2_with (at_builtin;refine zw rfl _ _ 185 185 rfl _ _ v3 w3 rfl rfl (ae HR3) ?_)
 refine⟨⟨j+1,q',by omega,by go_num,rfl,hq2,(ae hqj).1,?_,(ae ALL).2.1,(ae ALL).2.2.1,(ae ALL).2.2.2⟩,?_⟩
 ·rw[(ae hqj).2,← List.append_assoc];exact (ae ALL).1
 ·simp[intOf];omega)))
 ·(
 by_cases hg0:gk=0
 ·(
 subst hg0
 have HOWNt:=HOWN
 have HBUTt:=HBUT
 rw[zq,List.length_nil]
 have hdg:=ae HDG
 rw[om,List.append_nil] at hdg
 clear HSL hlen hpos hm HDG
 have hE:vv X=ds:=hdg
 clear hdg
 have PAD0:Hid (wr.ownsRow w.heap.size 5 1 u7 (ds++List.replicate 0 48).length ((ds++List.replicate 0 48).map u8v)∧But [] w wr):=by
  rw[List.replicate_zero,List.append_nil];exact⟨ae HOWN,ae HBUT⟩
 have HEX:=af hE
 have hel2:ds.length+Wd<1073741000:=by have:=ae HD;rw[hE] at this;omega
 clear hE
 go_wp2_with fail
 go_loopg [7] (Wd-ds.length) (fun k vb wp=>∃ j:Nat,j+k=Wd-ds.length∧Hid (wp.ownsRow w.heap.size 5 1 vb (ds++List.replicate j 48).length ((ds++List.replicate j 48).map u8v)∧But [] w wp))
 case atStart=>exact⟨0,by omega,PAD0⟩
 case round =>(
 clear PAD0
 obtain⟨j,hjk,HP⟩:=hrel
 rename World=>wp
 obtain⟨pa,pc,hpe⟩:=iw (ae HP).1
 have hpl:(ds++List.replicate j 48).length=ds.length+j:=by rw[List.length_append,List.length_replicate]
 by_cases hk0:gk=0
 ·(
 subst hk0
 have hfs:ds++List.replicate j (48:UInt8)=jo Wd X:=by rw[jo,ae HEX,show j=Wd-ds.length from by omega]
 have hfl:0<(jo Wd X).length:=zki Wd X (ae HX)
 have hown:=(ae HP).1
 rw[hfs] at hown hpl
 obtain⟨g,cg,hg7,hgb,hcg,hrow⟩:=zdf hown hfl
 rw[hg7] at hpe
 subst hg7
 have HGB:=af hgb
 have RV:=af (ziz g cg ((jo Wd X).map UInt8.toNat) wp hrow (by simpa using hfl) (by rw[List.length_map];omega))
 rw[List.length_map] at RV
 have BUT:=af (ae HP).2
 have hlw:(jo Wd X).length<1073741000:=by omega
 have hwle:(Wd:Int)≤((jo Wd X).length:Int):=by omega
 have HLW:Hid (no+(jo Wd X).length<1073741000):=by
  have h1:=ae HD
  have h2:=zca Wd X
  show _<_
  omega
 clear hown hrow hgb hcg HP hfs hfl hpe hpl hjk
 generalize hne:(jo Wd X).length=ne at *
 go_wp2_with fail
 refine (ae RV).mono ?_
 rintro e w4 ⟨rfl,hr4,hb4⟩
 rw[← List.map_reverse] at hr4
 obtain⟨i0,hi,hz0,hz1,hz2⟩:=zkg
 have hB4:But [] w w4:=(ae BUT).trans hb4 (fun x hx=>by simp at hx;subst hx;exact .inr (ae HGB))
 have hO4:=zah (ae HO) hB4
 have hbs:=ae HBS
 have hlw2:=ae HLW
 obtain⟨v5,w5,hr5,ho5,hg5,-⟩:=run_append_own (P:=prog) w4 base 185 185 5 i0 (.int .u8 0) 1 1 underlying185 hi hz0 hz1 hz2 rfl (by decide) (.slice oa no oc) no (ods.map u8v) hO4 ⟨g,0,none⟩ ne cg ((jo Wd X).reverse.map u8v) (by rw[List.length_map,List.length_reverse,hne,Nat.mul_one]) (zky hr4) (fun u hu=>by obtain⟨x,-,rfl⟩:=List.mem_map.1 hu;rfl) (by unfold maxLen;omega) (by omega) (Nat.le_trans hbs hB4.size)
 have hK:yt w w5:=(yt.zij hB4).trans (zlr (ods:=ods) (by rw[ae HNO];exact hO4) (by rw[ae HNO];exact ae HN) hg5)
 have hBe:Below base w w5:=xh (hB4.zdl hbs) (below_grown hO4 (Nat.le_trans hbs hB4.size) hg5)
 have ALL:=af (And.intro ho5 (And.intro hBe hK))
 have HR5:=af hr5
 clear ho5 hBe hK hr5 hg5 hr4 hb4 hB4 hO4 hi hz0 hz1 hz2 hbs hlw2
 go_wp2_with (at_builtin;refine zw rfl _ _ 185 185 rfl _ _ v5 w5 rfl rfl (ae HR5) ?_)
 go_ret
 refine⟨v5,rfl,?_,(ae ALL).2.1,(ae ALL).2.2⟩
 rw[List.length_append,List.length_reverse,hne,ae HNO,List.map_append]
 exact (ae ALL).1)
 ·(
 have hAB:=zcm (wp.alloc (.cells #[.int .u8 48] 5)) w.heap.size u7 (ds++List.replicate j 48) ((ae HP).1.alloc _) ⟨wp.heap.size,0,none⟩ 48 (by simp[u8v]) (by omega) (by have:=(ae HP).2.size;simp;omega)
 obtain⟨v3,w3,hr3,ho3,hg3,-⟩:=hAB
 have hB3:But [] w w3:=((ae HP).2.alloc _).grown hg3 (fun k hk=>((ae HP).1.lt k hk).1)
 rw[List.append_assoc,← List.replicate_succ'] at ho3
 have ALL:=af (And.intro ho3 hB3)
 rw[hpe] at hr3
 have HR3:=af hr3
 subst hpe
 have hlt:((ds++List.replicate j (48:UInt8)).length:Int)<(Wd:Int):=by omega
 have hrl:j+1+(gk-1)=Wd-ds.length:=by omega
 have HRL:=af hrl
 clear ho3 hB3 hg3 hr3 hjk hpl HP hrl
 generalize (ds++List.replicate j (48:UInt8)).length=np at *
 go_wp2_with (at_builtin;refine zw rfl _ _ 185 185 rfl _ _ v3 w3 rfl rfl (ae HR3) ?_)
 go_roundg (gk-1)
 case measure=>omega
 case rel=>exact⟨j+1,ae HRL,ae ALL⟩)))
 have hpos:0<gk:=by omega
 have hl1:(wd 18446744073709551616 gk).length=1:=by
  have:(wd 18446744073709551616 gk).length≠0:=by intro e;rw[zo (by omega)] at e;omega
  omega
 have hgB:gk < 18446744073709551616:=by
  have:=am (B:=18446744073709551616) (by omega) gk 1 (by omega)
  rw[Nat.pow_one] at this;exact this
 have hcell:∃ b off,aa=some ⟨b,off,none⟩∧wr.cell? ⟨b,off,none⟩=some (.int .u64 (gk:Int)):=by
  rcases (ae HSL).open with ⟨e,-⟩|⟨-,b,off,c,e,-,-,hc⟩
  ·rw[e] at hl1;simp at hl1
  ·simp only[Value.slice.injEq] at e
   have h:=hc 0 (by omega)
   rw[Nat.add_zero,zdm gk hpos hgB] at h
   exact⟨b,off,e.1,h⟩
 obtain⟨b,off,rfl,hc0⟩:=hcell
 have HCUR:=af hpos
 rw[hl1]
 clear hm hl1 hlen HSL
 go_wp2
 go_loopg [7,9] gk (fun m vb rest wq=>∃ es:List UInt8,rest=.int .u64 (m:Int)∧m < 18446744073709551616∧Hid (vv X=es++vv m∧wq.ownsRow w.heap.size 5 1 vb es.length (es.map u8v)∧But [] w wq))
 case atStart=>exact⟨ds,rfl,hgB,ae HDG,ae HOWN,ae HBUT⟩
 case round =>(
 obtain⟨es,rfl,hmB,HI⟩:=hrel
 rename World=>wq
 clear hc0
 have hel:es.length<1073741000:=by have:=congrArg List.length (ae HI).1;have h2:=ae HD;rw[List.length_append] at this;omega
 by_cases h0:gk=0
 ·(
 subst h0
 have hE0:vv X=es:=by have:=(ae HI).1;rw[om,List.append_nil] at this;exact this
 have hE:vv X=es:=hE0
 clear hE0
 have PAD0:Hid (wq.ownsRow w.heap.size 5 1 u7 (es++List.replicate 0 48).length ((es++List.replicate 0 48).map u8v)∧But [] w wq):=by
  rw[List.replicate_zero,List.append_nil];exact⟨(ae HI).2.1,(ae HI).2.2⟩
 have HEX:=af hE
 have hel2:es.length+Wd<1073741000:=by have:=ae HD;rw[hE] at this;omega
 clear hE
 go_wp2_with fail
 go_loopg [7] (Wd-es.length) (fun k vb wp=>∃ j:Nat,j+k=Wd-es.length∧Hid (wp.ownsRow w.heap.size 5 1 vb (es++List.replicate j 48).length ((es++List.replicate j 48).map u8v)∧But [] w wp))
 case atStart=>exact⟨0,by omega,PAD0⟩
 case round =>(
 clear PAD0
 obtain⟨j,hjk,HP⟩:=hrel
 rename World=>wp
 obtain⟨pa,pc,hpe⟩:=iw (ae HP).1
 have hpl:(es++List.replicate j 48).length=es.length+j:=by rw[List.length_append,List.length_replicate]
 by_cases hk0:gk=0
 ·(
 subst hk0
 have hfs:es++List.replicate j (48:UInt8)=jo Wd X:=by rw[jo,ae HEX,show j=Wd-es.length from by omega]
 have hfl:0<(jo Wd X).length:=zki Wd X (ae HX)
 have hown:=(ae HP).1
 rw[hfs] at hown hpl
 obtain⟨g,cg,hg7,hgb,hcg,hrow⟩:=zdf hown hfl
 rw[hg7] at hpe
 subst hg7
 have HGB:=af hgb
 have RV:=af (ziz g cg ((jo Wd X).map UInt8.toNat) wp hrow (by simpa using hfl) (by rw[List.length_map];omega))
 rw[List.length_map] at RV
 have BUT:=af (ae HP).2
 have hlw:(jo Wd X).length<1073741000:=by omega
 have hwle:(Wd:Int)≤((jo Wd X).length:Int):=by omega
 have HLW:Hid (no+(jo Wd X).length<1073741000):=by
  have h1:=ae HD
  have h2:=zca Wd X
  show _<_
  omega
 clear hown hrow hgb hcg HP hfs hfl hpe hpl hjk
 generalize hne:(jo Wd X).length=ne at *
 go_wp2_with fail
 refine (ae RV).mono ?_
 rintro e w4 ⟨rfl,hr4,hb4⟩
 rw[← List.map_reverse] at hr4
 obtain⟨i0,hi,hz0,hz1,hz2⟩:=zkg
 have hB4:But [] w w4:=(ae BUT).trans hb4 (fun x hx=>by simp at hx;subst hx;exact .inr (ae HGB))
 have hO4:=zah (ae HO) hB4
 have hbs:=ae HBS
 have hlw2:=ae HLW
 obtain⟨v5,w5,hr5,ho5,hg5,-⟩:=run_append_own (P:=prog) w4 base 185 185 5 i0 (.int .u8 0) 1 1 underlying185 hi hz0 hz1 hz2 rfl (by decide) (.slice oa no oc) no (ods.map u8v) hO4 ⟨g,0,none⟩ ne cg ((jo Wd X).reverse.map u8v) (by rw[List.length_map,List.length_reverse,hne,Nat.mul_one]) (zky hr4) (fun u hu=>by obtain⟨x,-,rfl⟩:=List.mem_map.1 hu;rfl) (by unfold maxLen;omega) (by omega) (Nat.le_trans hbs hB4.size)
 have hK:yt w w5:=(yt.zij hB4).trans (zlr (ods:=ods) (by rw[ae HNO];exact hO4) (by rw[ae HNO];exact ae HN) hg5)
 have hBe:Below base w w5:=xh (hB4.zdl hbs) (below_grown hO4 (Nat.le_trans hbs hB4.size) hg5)
 have ALL:=af (And.intro ho5 (And.intro hBe hK))
 have HR5:=af hr5
 clear ho5 hBe hK hr5 hg5 hr4 hb4 hB4 hO4 hi hz0 hz1 hz2 hbs hlw2
 go_wp2_with (at_builtin;refine zw rfl _ _ 185 185 rfl _ _ v5 w5 rfl rfl (ae HR5) ?_)
 go_ret
 refine⟨v5,rfl,?_,(ae ALL).2.1,(ae ALL).2.2⟩
 rw[List.length_append,List.length_reverse,hne,ae HNO,List.map_append]
 exact (ae ALL).1)
 ·(
 have hAB:=zcm (wp.alloc (.cells #[.int .u8 48] 5)) w.heap.size u7 (es++List.replicate j 48) ((ae HP).1.alloc _) ⟨wp.heap.size,0,none⟩ 48 (by simp[u8v]) (by omega) (by have:=(ae HP).2.size;simp;omega)
 obtain⟨v3,w3,hr3,ho3,hg3,-⟩:=hAB
 have hB3:But [] w w3:=((ae HP).2.alloc _).grown hg3 (fun k hk=>((ae HP).1.lt k hk).1)
 rw[List.append_assoc,← List.replicate_succ'] at ho3
 have ALL:=af (And.intro ho3 hB3)
 rw[hpe] at hr3
 have HR3:=af hr3
 subst hpe
 have hlt:((es++List.replicate j (48:UInt8)).length:Int)<(Wd:Int):=by omega
 have hrl:j+1+(gk-1)=Wd-es.length:=by omega
 have HRL:=af hrl
 clear ho3 hB3 hg3 hr3 hjk hpl HP hrl
 generalize (es++List.replicate j (48:UInt8)).length=np at *
 go_wp2_with (at_builtin;refine zw rfl _ _ 185 185 rfl _ _ v3 w3 rfl rfl (ae HR3) ?_)
 go_roundg (gk-1)
 case measure=>omega
 case rel=>exact⟨j+1,ae HRL,ae ALL⟩)))
 ·(
 have hp:0<gk:=by omega
 obtain⟨dg,hdg⟩:∃ dg,dg=gk%10:=⟨_,rfl⟩
 obtain⟨q',hq'⟩:∃ q',q'=gk/10:=⟨_,rfl⟩
 have hd10:dg<10:=by omega
 have hq2:q' < 18446744073709551616:=by omega
 have hlt':q' < gk:=by omega
 have e0:((gk:Int) != 0)=true:=by simp;omega
 have e1:(gk:Int)%10=(dg:Int):=by omega
 have e2:(gk:Int)/10=(q':Int):=by omega
 have e3:(gk:Int).tmod 10=(dg:Int):=by rw[Int.tmod_eq_emod_of_nonneg (by omega)];exact e1
 have e4:(gk:Int).tdiv 10=(q':Int):=by rw[Int.tdiv_eq_ediv_of_nonneg (by omega)];exact e2
 have hqj:Hid (vv X=(es++[UInt8.ofNat (48+dg)])++vv q'):=by
  show _=_
  rw[(ae HI).1,rf hp,← hdg,← hq',List.append_assoc];rfl
 have hAB:=zcm (wq.alloc (.cells #[.int .u8 (48+(dg:Int))] 5)) w.heap.size u7 es ((ae HI).2.1.alloc _) ⟨wq.heap.size,0,none⟩ (UInt8.ofNat (48+dg)) (by rw[← zhz dg hd10];simp) (by omega) (by have:=(ae HI).2.2.size;simp;omega)
 obtain⟨v3,w3,hr3,ho3,hg3,-⟩:=hAB
 have hB3:But [] w w3:=((ae HI).2.2.alloc _).grown hg3 (fun k hk=>((ae HI).2.1.lt k hk).1)
 have ALL:=af (And.intro ho3 hB3)
 have HR3:=af hr3
 clear ho3 hB3 hg3 hr3 hdg hq'
 go_wp2_with (at_builtin;refine zw rfl _ _ 185 185 rfl _ _ v3 w3 rfl rfl (ae HR3) ?_)
 go_roundg q'
 case measure=>exact hlt'
 case rel=>exact⟨_,rfl,hq2,ae hqj,(ae ALL).1,(ae ALL).2⟩)))))
theorem TabIs.but {w w':World} (h:Lib.TabIs prog w "internal/strconv.uint64pow10" .u64 Lib.pow10Tab) (hb:But [] w w'):Lib.TabIs prog w' "internal/strconv.uint64pow10" .u64 Lib.pow10Tab :=
 Go.Lib.tabBelow_of_tabIs h w' hb.below
structure Powers (w:World) (vp:Value) (us:List Value):Prop where
 form:∃ a c,vp=.slice a us.length c∧us.length≤c∧∀ j u,us[j]? = some u→∃ g o,a=some ⟨g,o,none⟩∧g<w.heap.size∧w.cell? ⟨g,o+j,none⟩=some u
 all:∀ j u,us[j]? = some u→Sl .u64 w u (wd 18446744073709551616 (qi j))
theorem zyc {w:World} {base:Nat} {vp:Value} {us:List Value} (h:w.ownsRow base 103 1 vp us.length us) (ha:∀ j u,us[j]? = some u→Sl .u64 w u (wd 18446744073709551616 (qi j))):Powers w vp us:=by(
 refine⟨?_,ha⟩
 rcases h.2 with ⟨rfl,h0⟩|⟨g,cap,cur,rfl,h2,h3,h4,-⟩
 ·exact⟨none,0,by rw[h0],by omega,fun j u hj=>by have:=(List.getElem?_eq_some_iff.1 hj).1;omega⟩
 ·refine⟨_,cap,rfl,h4,fun j u hj=>⟨g,0,rfl,(h.lt g rfl).2,?_⟩⟩
  have:=h.cells (g:=g) rfl j u hj
  rw[addr_add] at this
  exact this)
def zqh (L:Nat):Prop:=∀ (base:Nat) (w0:World) (vp:Value) (us:List Value) (vo:Value) (ods:List UInt8) (v:Value) (X Wd:Nat) (w:World),base=w0.heap.size→Powers w0 vp us→us.length=L→Below base w0 w →
 Sl .u64 w v (wd 18446744073709551616 X)→X<qi L→(Wd=0∧0<X∨Wd=608*2^L)→(wd 18446744073709551616 X).length≤1000000→ods.length+(vv X).length+2*(608*2^L)<1073741000→w.ownsRow base 5 1 vo ods.length (ods.map u8v)→(vo=.slice none 0 0∨0<ods.length)→(∀ j u,us[j]? = some u→Sl .u64 w u (wd 18446744073709551616 (qi j))) →
 Calls prog 143 #[vo,v,.int .i64 (Wd:Int),vp] w fun e w'=>∃ v',e=.returned v'∧w'.ownsRow base 5 1 v' (ods++(jo Wd X).reverse).length ((ods++(jo Wd X).reverse).map u8v)∧Below base w w'∧yt w w'
theorem zkb:zqh 0:=by(
 intro base w0 vp us vo ods v X Wd w hbase hP hL hB hv hX hW hl hd ho hn _
 have hbs:base≤w.heap.size:=by rw[hbase];exact hB.size
 have h608:608*2^0=608:=by decide
 rw[h608] at hW hd
 have AS:=af (zka base vo ods v X Wd w hv (by rcases hW with h | h <;> omega) (by omega) (by rcases hW with h | h <;> omega) ho hn hbs)
 obtain⟨a,c,e,-,-⟩:=hP.form
 rw[hL] at e
 subst e
 obtain⟨xa,xc,rfl,-,-⟩:=hv
 obtain⟨oa,oc,rfl⟩:=iw ho
 clear hX hW hP hL ho hn hB
 generalize (wd 18446744073709551616 X).length=n at *
 generalize ods.length=no at *
 go_enter func143,ntmps143
 go_wp2_with fail
 refine (ae AS).mono ?_
 rintro e w1 ⟨v1,rfl,ho,hb,hk⟩
 have HO:=af (And.intro ho (And.intro hb hk))
 clear ho hb hk
 go_wp2
 go_ret
 exact⟨v1,rfl,(ae HO).1,(ae HO).2.1,(ae HO).2.2⟩)
theorem zzv (L:Nat):(wd 18446744073709551616 (qi L)).length≤38*2^L:=by(
 refine aj (by omega) _ _ ?_
 have e:(18446744073709551616:Nat)^(38*2^L)=16^(608*2^L):=by
  rw[show (18446744073709551616:Nat)=16^16 from by decide,← Nat.pow_mul,← Nat.mul_assoc]
 rw[e]
 exact Nat.pow_lt_pow_left (by omega) (by have:0<2^L:=Nat.pow_pos (by omega);omega))
theorem zvq {n:Nat} {w w':World} (h:Below n w w') {g i:Nat} {u:Value} (hg:g<n) (hc:w.cell? ⟨g,i,none⟩=some u):w'.cell? ⟨g,i,none⟩=some u:=(World.cell?_of_block (w:=w) (h.block g hg)).trans hc
theorem Powers.take {w:World} {g o c L:Nat} {us:List Value} (h:Powers w (.slice (some ⟨g,o,none⟩) us.length c) us) (hL:L≤us.length):Powers w (.slice (some ⟨g,o,none⟩) L c) (us.take L):=by(
 have hl:(us.take L).length=L:=by rw[List.length_take];omega
 have hsub:∀ j u,(us.take L)[j]? = some u→us[j]? = some u:=fun j u hj=>by
  have hlt:j<L:=by have:=(List.getElem?_eq_some_iff.1 hj).1;omega
  rw[List.getElem?_take_of_lt hlt] at hj
  exact hj
 obtain⟨a,c',e,h1,h2⟩:=h.form
 simp only[Value.slice.injEq] at e
 obtain⟨rfl,-,rfl⟩:=e
 exact⟨⟨_,c,by rw[hl],by omega,fun j u hj=>h2 j u (hsub j u hj)⟩,fun j u hj=>h.all j u (hsub j u hj)⟩)
theorem zql (L X Wd:Nat) (hX:X<qi (L+1)) (hW:(Wd=0∧0<X)∨Wd=608*2^(L+1)) (hne:¬ (X/qi L=0∧Wd=0)) :
   (jo Wd X).reverse=(jo (Wd-608*2^L) (X/qi L)).reverse++(jo (608*2^L) (X%qi L)).reverse∧((Wd-608*2^L=0∧0<X/qi L)∨Wd-608*2^L=608*2^L):=by(
 have hp:=zkn L
 have e2:608*2^(L+1)=608*2^L+608*2^L:=by rw[Nat.pow_succ];omega
 rcases hW with ⟨rfl,h0⟩ | h
 ·(
 have h1:0<X/qi L:=by
  rcases Nat.eq_zero_or_pos (X/qi L) with h | h
  ·exact absurd ⟨h,rfl⟩ hne
  ·exact h
 have h2:qi L≤X:=by
  rcases Nat.lt_or_ge X (qi L) with h | h
  ·rw[Nat.div_eq_of_lt h] at h1;omega
  ·exact h
 rw[Nat.zero_sub]
 refine⟨?_,.inl ⟨rfl,h1⟩⟩
 rw[zxk (608*2^L) X h2,List.reverse_append];rfl)
 ·rw[h,e2,Nat.add_sub_cancel]
  refine⟨?_,.inr rfl⟩
  rw[zxj (608*2^L) X (by rw[← e2];exact hX),List.reverse_append];rfl)
theorem zkc (L:Nat) (IH:zqh L) (hL20:L<20):zqh (L+1):=by(
 intro base w0 vp us vo ods v X Wd w hbase hP hL hB hv hX hW hl hd ho hn hall
 have hp:=zkn L
 have e2:608*2^(L+1)=608*2^L+608*2^L:=by rw[Nat.pow_succ];omega
 have hh:X/qi L<qi L:=by rw[Nat.div_lt_iff_lt_mul hp,← zff];exact hX
 have hlo:X%qi L<qi L:=Nat.mod_lt _ hp
 obtain⟨u,hu⟩:∃ u,us[L]? = some u:=⟨us[L],List.getElem?_eq_getElem (by omega)⟩
 obtain⟨a,c,rfl,hc1,hcell⟩:=hP.form
 obtain⟨g,o,rfl,hg,hcu⟩:=hcell L u hu
 rw[hbase.symm] at hg
 have cu:=zvq hB hg hcu
 have hPT:Powers w0 (.slice (some ⟨g,o,none⟩) L c) (us.take L):=hP.take (by omega)
 have hTL:(us.take L).length=L:=by rw[List.length_take];omega
 have hsub:∀ j u,(us.take L)[j]? = some u→us[j]? = some u:=fun j u hj=>by
  have hlt:j<L:=by have:=(List.getElem?_eq_some_iff.1 hj).1;omega
  rw[List.getElem?_take_of_lt hlt] at hj
  exact hj
 obtain⟨D,hD⟩:∃ D,D=608*2^L:=⟨_,rfl⟩
 have rh:(vv (X/qi L)).length≤D:=zcb _ _ (by rw[hD];exact hh)
 have rl:(vv (X%qi L)).length≤D:=zcb _ _ (by rw[hD];exact hlo)
 have lh:(wd 18446744073709551616 (X/qi L)).length≤1000000:=Nat.le_trans (aw (Nat.div_le_self _ _)) hl
 have ll:(wd 18446744073709551616 (X%qi L)).length≤1000000:=Nat.le_trans (aw (Nat.mod_le _ _)) hl
 have lu:=hall L u hu
 have QR:=af (zct v u X (qi L) w hv lu hp (by omega) (by
  have:=zzv L
  have h19:2^L≤2^19:=Nat.pow_le_pow_right (by omega) (by omega)
  omega) (Short.of _ _ hl))
 have hDB:D<1073741000:=by rw[hD];omega
 have hbs:base≤w.heap.size:=by rw[hbase];exact hB.size
 have HDW:Hid (wrap64 (608*2^L)=(D:Int)):=by
  have e:(608:Int)*2^L=(D:Int):=by rw[hD];simp
  show _=_
  rw[e];unfold wrap64;omega
 have hLc:L<c:=by omega
 have i1:(0:Int)≤(L:Int):=by omega
 have i2:(L:Int)≤(c:Int):=by omega
 have i3:(L:Int)≤(L:Int)+1:=by omega
 have HALL:=af hall
 have HO:=af (And.intro ho hn)
 have HB:=af hB
 have IHA:=af (fun ods' vo' v' X' W' W (h1:Below base w0 W) (h2:Sl .u64 W v' (wd 18446744073709551616 X')) (h3:X' < qi L) (h4:W'=0∧0<X'∨W'=608*2^L) (h5:(wd 18446744073709551616 X').length≤1000000) h6 h7 h8 (h9:∀ j u,us[j]? = some u→Sl .u64 W u (wd 18446744073709551616 (qi j)))=>IH base w0 _ _ vo' ods' v' X' W' W hbase hPT hTL h1 h2 h3 h4 h5 h6 h7 h8 (fun j u hj=>h9 j u (hsub j u hj)))
 have HX:=af hX
 have HW:=af hW
 have HD2:=af (And.intro hD (And.intro rh (And.intro rl (And.intro lh (And.intro ll (And.intro hh hlo))))))
 clear hDB
 have HDD:Hid (ods.length+4*D<1073741000):=by show _<_;rw[hD];omega
 obtain⟨xa,xc,rfl,-,-⟩:=hv
 obtain⟨oa,oc,rfl⟩:=iw ho
 rw[hL]
 clear hX hW hP hL ho hn hB IH hPT hTL hsub hall hcell hcu hu hp hc1 hbase hd rh rl lh ll hh hlo e2 hD
 generalize (wd 18446744073709551616 X).length=n at *
 generalize hno:ods.length=no at *
 go_enter func143,ntmps143
 go_wp2_with fail
 refine (ae QR).mono ?_
 rw[ae HDW]
 rintro e1 w1 ⟨v1,v2,rfl,hv1,hv2,hb1,-⟩
 have HV1:=af hv1
 have HV2:=af hv2
 have B1:=af hb1
 have HB1:=af (xh (ae HB) (hb1.zdl hbs))
 obtain⟨ha,hc,rfl,-,-⟩:=hv1
 clear hv2 hb1 QR
 by_cases h0:X/qi L=0∧Wd=0
 ·(
 obtain⟨hq0,hw0⟩:=h0
 have hXL:X%qi L=X:=by
  have:=Nat.div_add_mod X (qi L)
  rw[hq0,Nat.mul_zero,Nat.zero_add] at this
  exact this
 have hX0:0<X:=by
  have hDp:0<608*2^(L+1):=Nat.mul_pos (by omega) (Nat.pow_pos (by omega))
  rcases ae HW with h | h
  ·exact h.2
  ·omega
 have HXL:=af hXL
 have A:=af (ae IHA ods (.slice oa no oc) v2 (X%qi L) 0 w1 (ae HB1) (ae HV2) (ae HD2).2.2.2.2.2.2 (.inl ⟨rfl,by rw[hXL];exact hX0⟩) (ae HD2).2.2.2.2.1 (by have h1:=(ae HD2).2.2.1;have h2:=(ae HD2).1;have h3:=ae HDD;omega) (by rw[hno];exact zah (ae HO).1 (ae B1)) (by rw[hno];exact (ae HO).2) (fun j u hj=>(ae HALL j u hj).ah (ae B1)))
 rw[hq0,zq,List.length_nil]
 subst hw0
 clear hq0 hXL hX0 IHA HV1 HD2 HX HW HALL HO
 go_wp2_with fail
 refine (ae A).mono ?_
 rintro e2 w2 ⟨v3,rfl,ho2,hb2,hk2⟩
 have FIN:=af (And.intro ho2 (And.intro (xh ((ae B1).zdl hbs) hb2) ((yt.zij (ae B1)).trans hk2)))
 rw[ae HXL] at FIN
 clear ho2 hb2 hk2 A
 go_wp2
 go_ret
 exact⟨v3,rfl,(ae FIN).1,(ae FIN).2.1,(ae FIN).2.2⟩)
 ·(
 obtain⟨f1,f2⟩:=zql L X Wd (ae HX) (ae HW) h0
 rw[← (ae HD2).1] at f1 f2
 obtain⟨W',hW'⟩:∃ W',W'=Wd-D:=⟨_,rfl⟩
 rw[← hW'] at f1 f2
 have hmax:max ((Wd:Int)-(D:Int)) 0=(W':Int):=by omega
 have hWl:W'≤D:=by omega
 have hWdl:Wd≤2*D:=by
  have e2:608*2^(L+1)=608*2^L+608*2^L:=by rw[Nat.pow_succ];omega
  have:=(ae HD2).1
  rcases ae HW with h | h <;> omega
 have A:=af (ae IHA ods (.slice oa no oc) (.slice ha (wd 18446744073709551616 (X/qi L)).length hc) (X/qi L) W' w1 (ae HB1) (ae HV1) (ae HD2).2.2.2.2.2.1 (by rw[← (ae HD2).1];exact f2) (ae HD2).2.2.2.1 (by have h1:=(ae HD2).2.1;have h2:=(ae HD2).1;have h3:=ae HDD;omega) (by rw[hno];exact zah (ae HO).1 (ae B1)) (by rw[hno];exact (ae HO).2) (fun j u hj=>(ae HALL j u hj).ah (ae B1)))
 have F1:=af f1
 have WL:Hid (0<(jo W' (X/qi L)).length∧(jo W' (X/qi L)).length≤D):=by
  refine⟨zki _ _ (by have hDp:0<608*2^L:=Nat.mul_pos (by omega) (Nat.pow_pos (by omega));have:=(ae HD2).1;rcases f2 with h | h <;> omega),?_⟩
  rw[zca]
  have:=(ae HD2).2.1
  omega
 have hh0:((((wd 18446744073709551616 (X/qi L)).length:Int)==0)=true→((Wd:Int)==0)=false):=fun h=>by
  have h1:(wd 18446744073709551616 (X/qi L)).length=0:=by have:=beq_iff_eq.1 h;omega
  rw[zo (by omega)] at h1
  rw[beq_eq_false_iff_ne]
  intro h2
  exact h0 ⟨h1,by omega⟩
 clear f1 f2 h0 hW'
 generalize (wd 18446744073709551616 (X/qi L)).length=nh at *
 have hsub64:wrap64 ((Wd:Int)-(D:Int))=(Wd:Int)-(D:Int):=by have:=ae HDD;unfold wrap64;omega
 by_cases hn0:nh=0
 ·(
 have hne:((Wd:Int)==0)=false:=hh0 (by simp[hn0])
 subst hn0
 clear hh0
 go_wp2_with fail
 refine (ae A).mono ?_
 rintro e2 w2 ⟨v3,rfl,ho2,hb2,hk2⟩
 have HB2:=af (xh (ae HB1) hb2)
 have HV22:=af (hk2 _ _ (ae HV2))
 obtain⟨oa2,oc2,rfl⟩:=iw ho2
 have hol:(ods++(jo W' (X/qi L)).reverse).length=no+(jo W' (X/qi L)).length:=by rw[List.length_append,List.length_reverse,hno]
 have A2:=af (ae IHA (ods++(jo W' (X/qi L)).reverse) (.slice oa2 (ods++(jo W' (X/qi L)).reverse).length oc2) v2 (X%qi L) D w2 (ae HB2) (ae HV22) (ae HD2).2.2.2.2.2.2 (.inr (ae HD2).1) (ae HD2).2.2.2.2.1 (by have h1:=(ae HD2).2.2.1;have h2:=(ae HD2).1;have h3:=ae HDD;have h4:=(ae WL).2;omega) ho2 (.inr (by have h4:=(ae WL).1;omega)) (fun j u hj=>hk2 _ _ ((ae HALL j u hj).ah (ae B1))))
 have K2:=af (And.intro hb2 hk2)
 clear ho2 hb2 hk2 A hol IHA HALL HV22 HB2
 generalize (ods++(jo W' (X/qi L)).reverse).length=no2 at *
 go_wp2_with fail
 refine (ae A2).mono ?_
 rintro e3 w3 ⟨v4,rfl,ho3,hb3,hk3⟩
 have FIN:=af (And.intro ho3 (And.intro (xh ((ae B1).zdl hbs) (xh (ae K2).1 hb3)) (((yt.zij (ae B1)).trans (ae K2).2).trans hk3)))
 rw[List.append_assoc,← ae F1] at FIN
 clear ho3 hb3 hk3 A2
 go_wp2
 go_ret
 exact⟨v4,rfl,(ae FIN).1,(ae FIN).2.1,(ae FIN).2.2⟩)
 ·(
 have hne:((nh:Int)==0)=false:=beq_eq_false_iff_ne.2 (by omega)
 clear hh0
 go_wp2_with fail
 refine (ae A).mono ?_
 rintro e2 w2 ⟨v3,rfl,ho2,hb2,hk2⟩
 have HB2:=af (xh (ae HB1) hb2)
 have HV22:=af (hk2 _ _ (ae HV2))
 obtain⟨oa2,oc2,rfl⟩:=iw ho2
 have hol:(ods++(jo W' (X/qi L)).reverse).length=no+(jo W' (X/qi L)).length:=by rw[List.length_append,List.length_reverse,hno]
 have A2:=af (ae IHA (ods++(jo W' (X/qi L)).reverse) (.slice oa2 (ods++(jo W' (X/qi L)).reverse).length oc2) v2 (X%qi L) D w2 (ae HB2) (ae HV22) (ae HD2).2.2.2.2.2.2 (.inr (ae HD2).1) (ae HD2).2.2.2.2.1 (by have h1:=(ae HD2).2.2.1;have h2:=(ae HD2).1;have h3:=ae HDD;have h4:=(ae WL).2;omega) ho2 (.inr (by have h4:=(ae WL).1;omega)) (fun j u hj=>hk2 _ _ ((ae HALL j u hj).ah (ae B1))))
 have K2:=af (And.intro hb2 hk2)
 clear ho2 hb2 hk2 A hol IHA HALL HV22 HB2
 generalize (ods++(jo W' (X/qi L)).reverse).length=no2 at *
 go_wp2_with fail
 refine (ae A2).mono ?_
 rintro e3 w3 ⟨v4,rfl,ho3,hb3,hk3⟩
 have FIN:=af (And.intro ho3 (And.intro (xh ((ae B1).zdl hbs) (xh (ae K2).1 hb3)) (((yt.zij (ae B1)).trans (ae K2).2).trans hk3)))
 rw[List.append_assoc,← ae F1] at FIN
 clear ho3 hb3 hk3 A2
 go_wp2
 go_ret
 exact⟨v4,rfl,(ae FIN).1,(ae FIN).2.1,(ae FIN).2.2⟩)))
theorem zmc (L:Nat) (h:L≤20):zqh L:=by(
 induction L with
 | zero=>exact zkb
 | succ L ih=>exact zkc L (ih (by omega)) (by omega))
theorem zwy (X n:Nat) (h:(wd 18446744073709551616 X).length≤n):(vv X).length≤20*n:=by(
 refine zcb X _ (Nat.lt_of_lt_of_le (am (B:=18446744073709551616) (by omega) X n h) ?_)
 rw[Nat.pow_mul]
 exact Nat.pow_le_pow_left (by decide) _)
theorem zjh (v:Value) (X:Nat) (w:World) (hv:Sl .u64 w v (wd 18446744073709551616 X)) (hl:(wd 18446744073709551616 X).length≤1000000) (htab:Lib.TabIs prog w "internal/strconv.uint64pow10" .u64 Lib.pow10Tab) (t:ByteArray) (ht:Hid (t=⟨(Lib.decDigits X).toArray⟩)) :
   Calls prog 63 #[v] w fun e w'=>e=.returned (.string t)∧But [] w w':=by(
 by_cases hu:X < 18446744073709551616
 ·(
 have H:=af htab
 have HW:=af (zaj v X hu w hv)
 obtain⟨xa,xc,rfl,-,-⟩:=hv
 clear htab
 generalize (wd 18446744073709551616 X).length=n at *
 go_enter func63,ntmps63
 go_wp2_with fail
 refine (ae HW).mono ?_
 rintro e w1 ⟨rfl,hw⟩
 obtain rfl:=hw.symm
 clear hw
 go_wp2_with fail
 refine (zeh X hu _ (ae H) t ht).mono ?_
 rintro e w1 ⟨rfl,hb⟩
 go_wp2
 go_ret
 exact⟨rfl,hb⟩)
 ·(
 have hp:0<X:=by omega
 have HW:=af (rz v X (by omega) w hv (by omega))
 have PF:=af (zms v X w hv hl)
 have HV:=af hv
 have hdl:=zwy X _ (Nat.le_refl _)
 have AL:Hid (∀ vo us W,W.ownsRow w.heap.size 103 1 vo us.length us→(∀ j u,us[j]? = some u→Sl .u64 W u (wd 18446744073709551616 (qi j)))→But [] w W→(∀ j,j<us.length→qi j≤X)→X<qi us.length →
  Calls prog 143 #[.slice none 0 0,v,.int .i64 0,vo] W fun e w'=>∃ v',e=.returned v'∧w'.ownsRow W.heap.size 5 1 v' (vv X).reverse.length ((vv X).reverse.map u8v)∧But [] W w'):=fun vo us W h1 h2 h3 h4 h5=>by
  have hL:1824*2^us.length<128*1000000+3648:=by
   rcases Nat.eq_zero_or_pos us.length with h0 | h0
   ·rw[h0];omega
   ·obtain⟨j,hj⟩:∃ j,us.length=j+1:=⟨us.length-1,by omega⟩
    have:=zko X j 1000000 hl (h4 j (by omega))
    rw[hj,Nat.pow_succ]
    omega
  have hL20:us.length≤20:=by
   rcases Nat.lt_or_ge 20 us.length with h | h
   ·have:2^21≤2^us.length:=Nat.pow_le_pow_right (by omega) h
    omega
   ·exact h
  have:=zmc us.length hL20 W.heap.size W vo us (.slice none 0 0) [] v X 0 W rfl (zyc h1 h2) rfl (But.refl [] W).below (hv.ah h3) h5 (.inl ⟨rfl,hp⟩) hl (by simp only[List.length_nil];omega) (World.ownsRow_nil _ _ _ _) (.inl rfl) h2
  rw[zhy] at this
  refine this.mono fun e w' ⟨v',e1,e2,e3,_⟩=>⟨v',e1,by simpa using e2,But.of_below e3⟩
 have hrl:0<(vv X).reverse.length:=by rw[List.length_reverse,rf hp];simp
 have HRR:=af (zgy X hp)
 have hrb:(vv X).reverse.length≤20000000:=by rw[List.length_reverse];omega
 obtain⟨xa,xc,rfl,-,-⟩:=hv
 clear htab hu hl hdl
 generalize (wd 18446744073709551616 X).length=n at *
 go_enter func63,ntmps63
 go_wp2_with fail
 refine (ae HW).mono ?_
 rintro e w1 ⟨rfl,hw⟩
 obtain rfl:=hw.symm
 clear hw
 go_wp2_with fail
 refine (ae PF).mono ?_
 rintro e w1 ⟨vo,us,rfl,h1,h2,h3,h4,h5⟩
 have B1:=af h3
 have A1:=af (ae AL vo us w1 h1 h2 h3 h4 h5)
 clear h1 h2 h3 h4 h5 AL PF
 go_wp2_with fail
 refine (ae A1).mono ?_
 rintro e w2 ⟨v2,rfl,ho2,hb2⟩
 have hB2:But [] w w2:=(ae B1).trans' hb2
 obtain⟨g,cg,rfl,hg,hcg,hrow⟩:=zdf ho2 hrl
 have hcv:=run_convert_bytes_back (P:=prog) w2 185 9 5 ⟨g,0,none⟩ cg (vv X).reverse underlying185 underlying5 underlying9 (fun j hj=>zky hrow j _ (by rw[List.getElem?_map,List.getElem?_eq_getElem hj];rfl))
 rw[ae HRR,← ae ht] at hcv
 rw[ae HRR]
 have HB2:=af hB2
 clear ho2 hb2 hrow hB2 hrl
 generalize (Lib.decDigits X).length=m at *
 go_wp2
 go_ret
 exact⟨rfl,ae HB2⟩))
def zho (s:Bool) (p q:Nat):ByteArray:=(if s then ⟨#[45]⟩++⟨(Lib.decDigits p).toArray⟩ else ⟨(Lib.decDigits p).toArray⟩)++(if q=1 then ⟨#[]⟩ else ⟨#[47]⟩++⟨(Lib.decDigits q).toArray⟩)
theorem zny (u:Nat) (h:(wd 18446744073709551616 u).length≤1000000):(Lib.decDigits u).length≤20000000:=by(
 rcases Nat.eq_zero_or_pos u with rfl | h0
 ·rw[Lib.decDigits_length,Lib.nDigits_small (by omega)];omega
 ·rw[← zgy u h0,List.length_reverse];exact zwy u 1000000 h)
theorem qhq (t:ByteArray):t++⟨#[]⟩=t:=by
 cases t;simp[ByteArray.ext_iff]
theorem zpr (v:Value) (f:Rat) (w:World) (hf:au w v f) (hL:Len f 1000000) (htab:Lib.TabIs prog w "internal/strconv.uint64pow10" .u64 Lib.pow10Tab) (t:ByteArray) (ht:Hid (t=zho (decide (f.num<0)) f.num.natAbs f.den)) :
   Calls prog 11 #[v] w fun e w'=>e=.returned (.string t)∧But [] w w':=by(
 have hq0:=den_pos f
 obtain⟨hN,hD⟩:=hL
 obtain⟨tp,htp⟩:∃ tp:ByteArray,tp=⟨(Lib.decDigits f.num.natAbs).toArray⟩:=⟨_,rfl⟩
 obtain⟨tq,htq⟩:∃ tq:ByteArray,tq=⟨(Lib.decDigits f.den).toArray⟩:=⟨_,rfl⟩
 have sp:tp.size≤20000000:=by rw[htp];exact zny _ hN
 have sq:tq.size≤20000000:=by rw[htq];exact zny _ hD
 have HNU:Hid (∀ W,But [] w W→Calls prog 62 #[v] W fun e w'=>∃ v1 v2,e=.returned (.tuple #[v1,v2])∧Sl .u64 w' v1 (wd 18446744073709551616 f.num.natAbs)∧Sl .u64 w' v2 (wd 18446744073709551616 f.den)∧But [] W w'):=fun W hb=>iy v f W (hf.but hb)
 have T1:Hid (∀ W v1,But [] w W→Sl .u64 W v1 (wd 18446744073709551616 f.num.natAbs)→Calls prog 63 #[v1] W fun e w'=>e=.returned (.string tp)∧But [] W w'):=fun W v1 hb h=>zjh v1 _ W h hN (TabIs.but htab hb) tp htp
 have T2:Hid (∀ W v1,But [] w W→Sl .u64 W v1 (wd 18446744073709551616 f.den)→Calls prog 63 #[v1] W fun e w'=>e=.returned (.string tq)∧But [] W w'):=fun W v1 hb h=>zjh v1 _ W h hD (TabIs.but htab hb) tq htq
 have HT:Hid (t=(if decide (f.num<0) then ⟨#[45]⟩++tp else tp)++(if f.den=1 then ⟨#[]⟩ else ⟨#[47]⟩++tq)):=by show _=_;rw[ae ht,zho,htp,htq]
 have ONE:Hid (∀ W v1 (r:Bool),Hid (r=decide (f.den=1))→Sl .u64 W v1 (wd 18446744073709551616 f.den)→Calls prog 64 #[v1] W fun e w'=>e=.returned (.bool r)∧w'=W):=fun W v1 r hr h=>nu v1 _ W h (by omega) r hr
 obtain⟨x,y,p,rfl,-⟩:=hf.agg
 have hbw:But [] w (w.alloc (.cells #[.bool (decide (f.num<0)),.int .u64 x,.int .u64 y,.pointer p] 27)):=(But.refl _ _).alloc _
 clear htp htq ht htab hN hD hf
 generalize hs:decide (f.num<0)=s at *
 clear hs
 go_enter func11,ntmps11
 go_wp2_with fail
 refine (ae HNU _ hbw).mono ?_
 rintro e w1 ⟨v1,v2,rfl,hv1,hv2,hb1⟩
 have B1:=af (hbw.trans' hb1)
 have HV1:=af hv1
 have HV2:=af hv2
 have c0:=hb1.ag (show (w.alloc (.cells #[.bool s,.int .u64 x,.int .u64 y,.pointer p] 27)).cell? ⟨w.heap.size,0,none⟩=some (.bool s) by simp) (by simp)
 clear hv1 hv2 hb1
 go_wp2_with fail
 refine (ae T1 _ v1 (ae B1) (ae HV1)).mono ?_
 rintro e w2 ⟨rfl,hb2⟩
 have d0:=hb2.ag c0 (by simp)
 have B2:Hid (But [] w w2):=(ae B1).trans' hb2
 have HV3:=af ((ae HV2).ah hb2)
 clear hb2 c0 HV2 hbw
 cases s
 all_goals(
 go_wp2_with fail
 by_cases hq1:f.den=1
 ·(
 refine (ae ONE _ v2 true (by show true=_;simp[hq1]) (ae HV3)).mono ?_
 rintro e w3 ⟨rfl,hw⟩
 obtain rfl:=hw.symm
 clear hw
 go_wp2
 go_ret
 exact⟨by rw[ae HT,if_pos hq1,qhq];rfl,ae B2⟩)
 ·(
 refine (ae ONE _ v2 false (by show false=_;simp[hq1]) (ae HV3)).mono ?_
 rintro e w3 ⟨rfl,hw⟩
 obtain rfl:=hw.symm
 clear hw
 go_wp2_with fail
 refine (ae T2 _ v2 (ae B2) (ae HV3)).mono ?_
 rintro e w3 ⟨rfl,hb3⟩
 go_wp2
 go_ret
 exact⟨by rw[ae HT,if_neg hq1];rfl,(ae B2).trans' hb3⟩)))
end Go.Proofs.YtagmkkiagjmimaaGreatDoor
