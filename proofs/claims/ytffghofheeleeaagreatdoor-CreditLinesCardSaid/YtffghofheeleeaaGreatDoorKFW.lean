/- A number's decimal digits, with noughts  -/
import Derived.Lib.AppendIntMem
import Derived.Test.YtffghofheeleeaaGreatDoorKBX
import Derived.Test.YtffghofheeleeaaGreatDoorKF13
import Derived.Test.YtffghofheeleeaaGreatDoorKN12f
namespace Go.Proofs.YtffghofheeleeaaGreatDoor
open Go.Proofs.Tryz
open Go.RowKit
set_option maxHeartbeats 8000000
set_option maxRecDepth 100000
structure ShortAt (w:World) (n m:Nat) (ds:List UInt8) (vb vx:Value) (wr:World):Prop where
 words:Sl .u64 wr vx (wd 18446744073709551616 m)
 own:wr.ownsRow w.heap.size 5 1 vb ds.length (ds.map u8v)
 but:But [] w wr
 dig:yg n=ds++yg m
 pos:0<n→0<m
 len:(wd 18446744073709551616 m).length<1048576
theorem appendShort_any (base:Nat) (vo:Value) (ods:List UInt8) (v:Value) (X Wd:Nat) (w:World) (hv:Sl .u64 w v (wd 18446744073709551616 X)) (hX:0<X∨0<Wd) (hl:(wd 18446744073709551616 X).length<1048576) (hd:ods.length+(yg X).length+Wd<1073741000) (ho:w.ownsRow base 5 1 vo ods.length (ods.map u8v)) (hn:vo=.slice none 0 0∨0<ods.length) (hbase:base≤w.heap.size) :
  Calls prog 141 #[vo,v,.int .i64 (Wd:Int)] w fun e w'=>∃ v',e=.returned v'∧w'.ownsRow base 5 1 v' (ods++(jq Wd X).reverse).length ((ods++(jq Wd X).reverse).map u8v)∧Below base w w'∧yu w w':=by
 have HO:=af ho
 have HN:=af hn
 have HBS:=af hbase
 obtain⟨oa,oc,rfl⟩:=ig ho
 clear ho hn hbase
 have HV:=af hv
 clear hv
 obtain⟨xa,xc,rfl,-,-⟩:=ae HV
 have HX:=af hX
 have HD:=af hd
 clear hX hd
 generalize hno:ods.length=no at *
 have HNO:=af hno
 clear hno
 go_enter func141,ntmps141
 go_wp2
 go_loopg [7,1] X (fun m vb vx wr=>∃ ds:List UInt8,ShortAt w X m ds vb vx wr)
 case atStart=>exact⟨[],⟨ae HV,World.ownsRow_nil _ _ _ _,But.refl _ _,rfl,fun h=>h,hl⟩⟩
 case round =>
  obtain⟨ds,hI⟩:=hrel
  rename World=>wr
  obtain⟨hsl,hown,hbut,hdig,hpos,hlen⟩:=hI
  have hdl:ds.length<1073741000:=by have:=congrArg List.length hdig;have h2:=ae HD;rw[List.length_append] at this;omega
  have HSL:=af hsl
  obtain⟨aa,ca,rfl,-,-⟩:=hsl
  have HDG:=af hdig
  have HOWN:=af hown
  have HBUT:=af hbut
  clear hdig hown hbut
  by_cases hm:1<(wd 18446744073709551616 gk).length
  ·have h19:=ten19_lt hm
   obtain⟨m',hm'⟩:∃ m',m'=gk/10000000000000000000:=⟨_,rfl⟩
   obtain⟨r0,hr0⟩:∃ r0,r0=gk%10000000000000000000:=⟨_,rfl⟩
   have hmp:0<m':=by omega
   have hml:(wd 18446744073709551616 m').length≤(wd 18446744073709551616 gk).length:=aq (by omega)
   have BW:=af (byWord_fresh _ gk 10000000000000000000 wr (ae HSL) (by omega) (by omega) (by omega))
   rw[← hm',← hr0] at BW
   have hDP:Hid (yg gk=fw 19 r0++yg m'):=by
    show _=_
    have h:=rdig_part 19 gk (by exact h19)
    rw[← pdig_mod 19 gk] at h
    rw[hm',hr0]
    exact h
   have hr0l:r0<10000000000000000000:=by omega
   have hlt':m' < gk:=by rw[hm'];exact Nat.div_lt_self (by omega) (by omega)
   have HML:=af hml
   clear hm' hr0 hml h19
   generalize hla:(wd 18446744073709551616 gk).length=la at *
   clear hla
   have hwl:Hid (0<(wd 18446744073709551616 m').length):=by show _<_;rw[Nat.pos_iff_ne_zero];intro e;rw[zo (by omega)] at e;omega
   go_wp2_with fail
   refine (ae BW).mono ?_
   rintro e w2 ⟨v2,rfl,hv2,hb2,hf2⟩
   have HV2:=af hv2
   have HOWN2:=af (zau (ae HOWN) hb2)
   have HBUT2:Hid (But [] w w2):=(ae HBUT).trans' hb2
   have HOFF:Hid (OffB u7 v2):=fun k hk b off n c e=>by
    have h1:=((ae HOWN).lt k hk).2
    have h2:=hf2 b off n c e
    omega
   clear hv2 hb2 hf2
   go_wp2_with fail
   go_loopw [7,8,18] (fun vb rest c wq=>∃ j q:Nat,j≤19∧c=.int .i64 j∧rest=.int .u64 q∧q<10000000000000000000∧Hid (q=r0/10^j∧wq.ownsRow w.heap.size 5 1 vb (ds++fw j r0).length ((ds++fw j r0).map u8v)∧But [] w wq∧Sl .u64 wq v2 (wd 18446744073709551616 m')∧OffB vb v2)) (fun _ _ c _=>19-(intOf c).toNat)
   case atStart=>exact⟨0,r0,by omega,rfl,rfl,hr0l,by simp,by simpa [fw] using ae HOWN2,ae HBUT2,ae HV2,ae HOFF⟩
   case round =>
    obtain⟨j,q,hj,rfl,rfl,hq,HI⟩:=hrel
    rename World=>wq
    by_cases hj19:j=19
    ·subst hj19
     have HIK:=af (ae HI).2
     clear HI
     go_wp2
     go_roundg m'
     case measure=>exact hlt'
     case rel =>
      obtain⟨k1,k2,k3,-⟩:=ae HIK
      refine⟨ds++fw 19 r0,k3,k1,k2,?_,fun _=>hmp,by have:=ae HML;omega⟩
      rw[ae HDG,ae hDP,List.append_assoc]
    ·have hj2:j<19:=by omega
     obtain⟨dg,hdg⟩:∃ dg,dg=q%10:=⟨_,rfl⟩
     obtain⟨q',hq'⟩:∃ q',q'=q/10:=⟨_,rfl⟩
     have hd10:dg<10:=by omega
     have hq2:q' < 10000000000000000000:=by omega
     have e1:(q:Int)%10=(dg:Int):=by omega
     have e2:(q:Int)/10=(q':Int):=by omega
     have e3:(q:Int).tmod 10=(dg:Int):=by rw[Int.tmod_eq_emod_of_nonneg (by omega)];exact e1
     have e4:(q:Int).tdiv 10=(q':Int):=by rw[Int.tdiv_eq_ediv_of_nonneg (by omega)];exact e2
     have hqj:Hid (q'=r0/10^(j+1)∧fw (j+1) r0=fw j r0++[UInt8.ofNat (48+dg)]):=by
      constructor
      ·rw[hq',(ae HI).1,Nat.div_div_eq_div_mul,Nat.pow_succ]
      ·rw[pdig_snoc,← (ae HI).1,← hdg]
     have hld:(ds++fw j r0).length<1073741824:=by rw[List.length_append,pdig_length];omega
     have hAB:=zcw (wq.alloc (.cells #[.int .u8 (48+(dg:Int))] 5)) w.heap.size u7 (ds++fw j r0) ((ae HI).2.1.alloc _) ⟨wq.heap.size,0,none⟩ (UInt8.ofNat (48+dg)) (by rw[← u8v_digit dg hd10];simp) hld (by have:=(ae HI).2.2.1.size;simp;omega)
     obtain⟨v3,w3,hr3,ho3,hg3,hb3⟩:=hAB
     have hB3:But [] w w3:=((ae HI).2.2.1.alloc _).grown hg3 (fun k hk=>((ae HI).2.1.lt k hk).1)
     obtain⟨hS3,hO3⟩:=(ae HI).2.2.2.2.grow (ae HI).2.2.2.1 (ae hwl) hg3 hb3
     have ALL:=af (And.intro ho3 (And.intro hB3 (And.intro hS3 hO3)))
     have HR3:=af hr3
     clear ho3 hB3 hS3 hO3 hg3 hb3 hr3 hld hdg hq'
     go_wp2_with (at_builtin;refine xg rfl _ _ 152 152 rfl _ _ v3 w3 rfl rfl (ae HR3) ?_)
     refine⟨⟨j+1,q',by omega,by go_num,rfl,hq2,(ae hqj).1,?_,(ae ALL).2.1,(ae ALL).2.2.1,(ae ALL).2.2.2⟩,?_⟩
     ·rw[(ae hqj).2,← List.append_assoc];exact (ae ALL).1
     ·simp[intOf];omega
  ·by_cases hg0:gk=0
   ·subst hg0
    have HOWNt:=HOWN
    have HBUTt:=HBUT
    rw[zn,List.length_nil]
    have hdg:=ae HDG
    rw[o9,List.append_nil] at hdg
    clear HSL hlen hpos hm HDG
    have hE:yg X=ds:=hdg
    clear hdg
    have PAD0:Hid (wr.ownsRow w.heap.size 5 1 u7 (ds++List.replicate 0 48).length ((ds++List.replicate 0 48).map u8v)∧But [] w wr):=by
     rw[List.replicate_zero,List.append_nil];exact⟨ae HOWN,ae HBUT⟩
    have HEX:=af hE
    have hel2:ds.length+Wd<1073741000:=by have:=ae HD;rw[hE] at this;omega
    clear hE
    go_wp2_with fail
    go_loopg [7] (Wd-ds.length) (fun k vb wp=>∃ j:Nat,j+k=Wd-ds.length∧Hid (wp.ownsRow w.heap.size 5 1 vb (ds++List.replicate j 48).length ((ds++List.replicate j 48).map u8v)∧But [] w wp))
    case atStart=>exact⟨0,by omega,PAD0⟩
    case round =>
     clear PAD0
     obtain⟨j,hjk,HP⟩:=hrel
     rename World=>wp
     obtain⟨pa,pc,hpe⟩:=ig (ae HP).1
     have hpl:(ds++List.replicate j 48).length=ds.length+j:=by rw[List.length_append,List.length_replicate]
     by_cases hk0:gk=0
     ·subst hk0
      have hfs:ds++List.replicate j (48:UInt8)=jq Wd X:=by rw[jq,ae HEX,show j=Wd-ds.length from by omega]
      have hfl:0<(jq Wd X).length:=wdig_pos Wd X (ae HX)
      have hown:=(ae HP).1
      rw[hfs] at hown hpl
      obtain⟨g,cg,hg7,hgb,hcg,hrow⟩:=zdg hown hfl
      rw[hg7] at hpe
      subst hg7
      have HGB:=af hgb
      have RV:=af (reverse_any g cg ((jq Wd X).map UInt8.toNat) wp hrow (by simpa using hfl) (by rw[List.length_map];omega))
      rw[List.length_map] at RV
      have BUT:=af (ae HP).2
      have hlw:(jq Wd X).length<1073741000:=by omega
      have hwle:(Wd:Int)≤((jq Wd X).length:Int):=by omega
      have HLW:Hid (no+(jq Wd X).length<1073741000):=by
       have h1:=ae HD
       have h2:=zch Wd X
       show _<_
       omega
      clear hown hrow hgb hcg HP hfs hfl hpe hpl hjk
      generalize hne:(jq Wd X).length=ne at *
      go_wp2_with fail
      refine (ae RV).mono ?_
      rintro e w4 ⟨rfl,hr4,hb4⟩
      rw[← List.map_reverse] at hr4
      obtain⟨i0,hi,hz0,hz1,hz2⟩:=info_u8
      have hB4:But [] w w4:=(ae BUT).trans hb4 (fun x hx=>by simp at hx;subst hx;exact .inr (ae HGB))
      have hO4:=zau (ae HO) hB4
      have hbs:=ae HBS
      have hlw2:=ae HLW
      obtain⟨v5,w5,hr5,ho5,hg5,-⟩:=run_append_own (P:=prog) w4 base 152 152 5 i0 (.int .u8 0) 1 1 underlying152 hi hz0 hz1 hz2 rfl (by decide) (.slice oa no oc) no (ods.map u8v) hO4 ⟨g,0,none⟩ ne cg ((jq Wd X).reverse.map u8v) (by rw[List.length_map,List.length_reverse,hne,Nat.mul_one]) (row_news hr4) (fun u hu=>by obtain⟨x,-,rfl⟩:=List.mem_map.1 hu;rfl) (by unfold maxLen;omega) (by omega) (Nat.le_trans hbs hB4.size)
      have hK:yu w w5:=(yu.of_but hB4).trans (keep_grown (ods:=ods) (by rw[ae HNO];exact hO4) (by rw[ae HNO];exact ae HN) hg5)
      have hBe:Below base w w5:=j6 (hB4.zds hbs) (below_grown hO4 (Nat.le_trans hbs hB4.size) hg5)
      have ALL:=af (And.intro ho5 (And.intro hBe hK))
      have HR5:=af hr5
      clear ho5 hBe hK hr5 hg5 hr4 hb4 hB4 hO4 hi hz0 hz1 hz2 hbs hlw2
      go_wp2_with (at_builtin;refine xg rfl _ _ 152 152 rfl _ _ v5 w5 rfl rfl (ae HR5) ?_)
      go_ret
      refine⟨v5,rfl,?_,(ae ALL).2.1,(ae ALL).2.2⟩
      rw[List.length_append,List.length_reverse,hne,ae HNO,List.map_append]
      exact (ae ALL).1
     ·have hAB:=zcw (wp.alloc (.cells #[.int .u8 48] 5)) w.heap.size u7 (ds++List.replicate j 48) ((ae HP).1.alloc _) ⟨wp.heap.size,0,none⟩ 48 (by simp[u8v]) (by omega) (by have:=(ae HP).2.size;simp;omega)
      obtain⟨v3,w3,hr3,ho3,hg3,-⟩:=hAB
      have hB3:But [] w w3:=((ae HP).2.alloc _).grown hg3 (fun k hk=>((ae HP).1.lt k hk).1)
      rw[List.append_assoc,← List.replicate_succ'] at ho3
      have ALL:=af (And.intro ho3 hB3)
      rw[hpe] at hr3
      have HR3:=af hr3
      subst hpe
      have hlt:((ds++List.replicate j (48:UInt8)).length:Int)<(Wd:Int):=by omega
      have hrl:j+1+(gk-1)=Wd-ds.length:=by omega
      have HRL:=af hrl
      clear ho3 hB3 hg3 hr3 hjk hpl HP hrl
      generalize (ds++List.replicate j (48:UInt8)).length=np at *
      go_wp2_with (at_builtin;refine xg rfl _ _ 152 152 rfl _ _ v3 w3 rfl rfl (ae HR3) ?_)
      go_roundg (gk-1)
      case measure=>omega
      case rel=>exact⟨j+1,ae HRL,ae ALL⟩
   have hpos:0<gk:=by omega
   have hl1:(wd 18446744073709551616 gk).length=1:=by
    have:(wd 18446744073709551616 gk).length≠0:=by intro e;rw[zo (by omega)] at e;omega
    omega
   have hgB:gk < 18446744073709551616:=by
    have:=ak (B:=18446744073709551616) (by omega) gk 1 (by omega)
    rw[Nat.pow_one] at this;exact this
   have hcell:∃ b off,aa=some ⟨b,off,none⟩∧wr.cell? ⟨b,off,none⟩=some (.int .u64 (gk:Int)):=by
    rcases (ae HSL).open with ⟨e,-⟩|⟨-,b,off,c,e,-,-,hc⟩
    ·rw[e] at hl1;simp at hl1
    ·simp only[Value.slice.injEq] at e
     have h:=hc 0 (by omega)
     rw[Nat.add_zero,zdu gk hpos hgB] at h
     exact⟨b,off,e.1,h⟩
   obtain⟨b,off,rfl,hc0⟩:=hcell
   have HCUR:=af hpos
   rw[hl1]
   clear hm hl1 hlen HSL
   go_wp2
   go_loopg [7,9] gk (fun m vb rest wq=>∃ es:List UInt8,rest=.int .u64 (m:Int)∧m < 18446744073709551616∧Hid (yg X=es++yg m∧wq.ownsRow w.heap.size 5 1 vb es.length (es.map u8v)∧But [] w wq))
   case atStart=>exact⟨ds,rfl,hgB,ae HDG,ae HOWN,ae HBUT⟩
   case round =>
    obtain⟨es,rfl,hmB,HI⟩:=hrel
    rename World=>wq
    clear hc0
    have hel:es.length<1073741000:=by have:=congrArg List.length (ae HI).1;have h2:=ae HD;rw[List.length_append] at this;omega
    by_cases h0:gk=0
    ·subst h0
     have hE0:yg X=es:=by have:=(ae HI).1;rw[o9,List.append_nil] at this;exact this
     have hE:yg X=es:=hE0
     clear hE0
     have PAD0:Hid (wq.ownsRow w.heap.size 5 1 u7 (es++List.replicate 0 48).length ((es++List.replicate 0 48).map u8v)∧But [] w wq):=by
      rw[List.replicate_zero,List.append_nil];exact⟨(ae HI).2.1,(ae HI).2.2⟩
     have HEX:=af hE
     have hel2:es.length+Wd<1073741000:=by have:=ae HD;rw[hE] at this;omega
     clear hE
     go_wp2_with fail
     go_loopg [7] (Wd-es.length) (fun k vb wp=>∃ j:Nat,j+k=Wd-es.length∧Hid (wp.ownsRow w.heap.size 5 1 vb (es++List.replicate j 48).length ((es++List.replicate j 48).map u8v)∧But [] w wp))
     case atStart=>exact⟨0,by omega,PAD0⟩
     case round =>
      clear PAD0
      obtain⟨j,hjk,HP⟩:=hrel
      rename World=>wp
      obtain⟨pa,pc,hpe⟩:=ig (ae HP).1
      have hpl:(es++List.replicate j 48).length=es.length+j:=by rw[List.length_append,List.length_replicate]
      by_cases hk0:gk=0
      ·subst hk0
       have hfs:es++List.replicate j (48:UInt8)=jq Wd X:=by rw[jq,ae HEX,show j=Wd-es.length from by omega]
       have hfl:0<(jq Wd X).length:=wdig_pos Wd X (ae HX)
       have hown:=(ae HP).1
       rw[hfs] at hown hpl
       obtain⟨g,cg,hg7,hgb,hcg,hrow⟩:=zdg hown hfl
       rw[hg7] at hpe
       subst hg7
       have HGB:=af hgb
       have RV:=af (reverse_any g cg ((jq Wd X).map UInt8.toNat) wp hrow (by simpa using hfl) (by rw[List.length_map];omega))
       rw[List.length_map] at RV
       have BUT:=af (ae HP).2
       have hlw:(jq Wd X).length<1073741000:=by omega
       have hwle:(Wd:Int)≤((jq Wd X).length:Int):=by omega
       have HLW:Hid (no+(jq Wd X).length<1073741000):=by
        have h1:=ae HD
        have h2:=zch Wd X
        show _<_
        omega
       clear hown hrow hgb hcg HP hfs hfl hpe hpl hjk
       generalize hne:(jq Wd X).length=ne at *
       go_wp2_with fail
       refine (ae RV).mono ?_
       rintro e w4 ⟨rfl,hr4,hb4⟩
       rw[← List.map_reverse] at hr4
       obtain⟨i0,hi,hz0,hz1,hz2⟩:=info_u8
       have hB4:But [] w w4:=(ae BUT).trans hb4 (fun x hx=>by simp at hx;subst hx;exact .inr (ae HGB))
       have hO4:=zau (ae HO) hB4
       have hbs:=ae HBS
       have hlw2:=ae HLW
       obtain⟨v5,w5,hr5,ho5,hg5,-⟩:=run_append_own (P:=prog) w4 base 152 152 5 i0 (.int .u8 0) 1 1 underlying152 hi hz0 hz1 hz2 rfl (by decide) (.slice oa no oc) no (ods.map u8v) hO4 ⟨g,0,none⟩ ne cg ((jq Wd X).reverse.map u8v) (by rw[List.length_map,List.length_reverse,hne,Nat.mul_one]) (row_news hr4) (fun u hu=>by obtain⟨x,-,rfl⟩:=List.mem_map.1 hu;rfl) (by unfold maxLen;omega) (by omega) (Nat.le_trans hbs hB4.size)
       have hK:yu w w5:=(yu.of_but hB4).trans (keep_grown (ods:=ods) (by rw[ae HNO];exact hO4) (by rw[ae HNO];exact ae HN) hg5)
       have hBe:Below base w w5:=j6 (hB4.zds hbs) (below_grown hO4 (Nat.le_trans hbs hB4.size) hg5)
       have ALL:=af (And.intro ho5 (And.intro hBe hK))
       have HR5:=af hr5
       clear ho5 hBe hK hr5 hg5 hr4 hb4 hB4 hO4 hi hz0 hz1 hz2 hbs hlw2
       go_wp2_with (at_builtin;refine xg rfl _ _ 152 152 rfl _ _ v5 w5 rfl rfl (ae HR5) ?_)
       go_ret
       refine⟨v5,rfl,?_,(ae ALL).2.1,(ae ALL).2.2⟩
       rw[List.length_append,List.length_reverse,hne,ae HNO,List.map_append]
       exact (ae ALL).1
      ·have hAB:=zcw (wp.alloc (.cells #[.int .u8 48] 5)) w.heap.size u7 (es++List.replicate j 48) ((ae HP).1.alloc _) ⟨wp.heap.size,0,none⟩ 48 (by simp[u8v]) (by omega) (by have:=(ae HP).2.size;simp;omega)
       obtain⟨v3,w3,hr3,ho3,hg3,-⟩:=hAB
       have hB3:But [] w w3:=((ae HP).2.alloc _).grown hg3 (fun k hk=>((ae HP).1.lt k hk).1)
       rw[List.append_assoc,← List.replicate_succ'] at ho3
       have ALL:=af (And.intro ho3 hB3)
       rw[hpe] at hr3
       have HR3:=af hr3
       subst hpe
       have hlt:((es++List.replicate j (48:UInt8)).length:Int)<(Wd:Int):=by omega
       have hrl:j+1+(gk-1)=Wd-es.length:=by omega
       have HRL:=af hrl
       clear ho3 hB3 hg3 hr3 hjk hpl HP hrl
       generalize (es++List.replicate j (48:UInt8)).length=np at *
       go_wp2_with (at_builtin;refine xg rfl _ _ 152 152 rfl _ _ v3 w3 rfl rfl (ae HR3) ?_)
       go_roundg (gk-1)
       case measure=>omega
       case rel=>exact⟨j+1,ae HRL,ae ALL⟩
    ·have hp:0<gk:=by omega
     obtain⟨dg,hdg⟩:∃ dg,dg=gk%10:=⟨_,rfl⟩
     obtain⟨q',hq'⟩:∃ q',q'=gk/10:=⟨_,rfl⟩
     have hd10:dg<10:=by omega
     have hq2:q' < 18446744073709551616:=by omega
     have hlt':q' < gk:=by omega
     have e0:((gk:Int) != 0)=true:=by simp;omega
     have e1:(gk:Int)%10=(dg:Int):=by omega
     have e2:(gk:Int)/10=(q':Int):=by omega
     have e3:(gk:Int).tmod 10=(dg:Int):=by rw[Int.tmod_eq_emod_of_nonneg (by omega)];exact e1
     have e4:(gk:Int).tdiv 10=(q':Int):=by rw[Int.tdiv_eq_ediv_of_nonneg (by omega)];exact e2
     have hqj:Hid (yg X=(es++[UInt8.ofNat (48+dg)])++yg q'):=by
      show _=_
      rw[(ae HI).1,ug hp,← hdg,← hq',List.append_assoc];rfl
     have hAB:=zcw (wq.alloc (.cells #[.int .u8 (48+(dg:Int))] 5)) w.heap.size u7 es ((ae HI).2.1.alloc _) ⟨wq.heap.size,0,none⟩ (UInt8.ofNat (48+dg)) (by rw[← u8v_digit dg hd10];simp) (by omega) (by have:=(ae HI).2.2.size;simp;omega)
     obtain⟨v3,w3,hr3,ho3,hg3,-⟩:=hAB
     have hB3:But [] w w3:=((ae HI).2.2.alloc _).grown hg3 (fun k hk=>((ae HI).2.1.lt k hk).1)
     have ALL:=af (And.intro ho3 hB3)
     have HR3:=af hr3
     clear ho3 hB3 hg3 hr3 hdg hq'
     go_wp2_with (at_builtin;refine xg rfl _ _ 152 152 rfl _ _ v3 w3 rfl rfl (ae HR3) ?_)
     go_roundg q'
     case measure=>exact hlt'
     case rel=>exact⟨_,rfl,hq2,ae hqj,(ae ALL).1,(ae ALL).2⟩
theorem TabIs.but {w w':World} (h:Lib.TabIs prog w "internal/strconv.uint64pow10" .u64 Lib.pow10Tab) (hb:But [] w w'):Lib.TabIs prog w' "internal/strconv.uint64pow10" .u64 Lib.pow10Tab :=
 Go.Lib.tabBelow_of_tabIs h w' hb.below
structure Powers (w:World) (vp:Value) (us:List Value):Prop where
 form:∃ a c,vp=.slice a us.length c∧us.length≤c∧∀ j u,us[j]? = some u→∃ g o,a=some ⟨g,o,none⟩∧g<w.heap.size∧w.cell? ⟨g,o+j,none⟩=some u
 all:∀ j u,us[j]? = some u→Sl .u64 w u (wd 18446744073709551616 (zy j))
theorem powers_of {w:World} {base:Nat} {vp:Value} {us:List Value} (h:w.ownsRow base 92 1 vp us.length us) (ha:∀ j u,us[j]? = some u→Sl .u64 w u (wd 18446744073709551616 (zy j))):Powers w vp us:=by
 refine⟨?_,ha⟩
 rcases h.2 with ⟨rfl,h0⟩|⟨g,cap,cur,rfl,h2,h3,h4,-⟩
 ·exact⟨none,0,by rw[h0],by omega,fun j u hj=>by have:=(List.getElem?_eq_some_iff.1 hj).1;omega⟩
 ·refine⟨_,cap,rfl,h4,fun j u hj=>⟨g,0,rfl,(h.lt g rfl).2,?_⟩⟩
  have:=h.cells (g:=g) rfl j u hj
  rw[addr_add] at this
  exact this
def LongOK (L:Nat):Prop:=∀ (base:Nat) (w0:World) (vp:Value) (us:List Value) (vo:Value) (ods:List UInt8) (v:Value) (X Wd:Nat) (w:World),base=w0.heap.size→Powers w0 vp us→us.length=L→Below base w0 w →
 Sl .u64 w v (wd 18446744073709551616 X)→X<zy L→(Wd=0∧0<X∨Wd=608*2^L)→(wd 18446744073709551616 X).length≤1000000→ods.length+(yg X).length+2*(608*2^L)<1073741000→w.ownsRow base 5 1 vo ods.length (ods.map u8v)→(vo=.slice none 0 0∨0<ods.length)→(∀ j u,us[j]? = some u→Sl .u64 w u (wd 18446744073709551616 (zy j))) →
 Calls prog 91 #[vo,v,.int .i64 (Wd:Int),vp] w fun e w'=>∃ v',e=.returned v'∧w'.ownsRow base 5 1 v' (ods++(jq Wd X).reverse).length ((ods++(jq Wd X).reverse).map u8v)∧Below base w w'∧yu w w'
theorem appendLong_zero:LongOK 0:=by
 intro base w0 vp us vo ods v X Wd w hbase hP hL hB hv hX hW hl hd ho hn _
 have hbs:base≤w.heap.size:=by rw[hbase];exact hB.size
 have h608:608*2^0=608:=by decide
 rw[h608] at hW hd
 have AS:=af (appendShort_any base vo ods v X Wd w hv (by rcases hW with h | h <;> omega) (by omega) (by rcases hW with h | h <;> omega) ho hn hbs)
 obtain⟨a,c,e,-,-⟩:=hP.form
 rw[hL] at e
 subst e
 obtain⟨xa,xc,rfl,-,-⟩:=hv
 obtain⟨oa,oc,rfl⟩:=ig ho
 clear hX hW hP hL ho hn hB
 generalize (wd 18446744073709551616 X).length=n at *
 generalize ods.length=no at *
 go_enter func91,ntmps91
 go_wp2_with fail
 refine (ae AS).mono ?_
 rintro e w1 ⟨v1,rfl,ho,hb,hk⟩
 have HO:=af (And.intro ho (And.intro hb hk))
 clear ho hb hk
 go_wp2
 go_ret
 exact⟨v1,rfl,(ae HO).1,(ae HO).2.1,(ae HO).2.2⟩
theorem tenP_len (L:Nat):(wd 18446744073709551616 (zy L)).length≤38*2^L:=by
 refine aj (by omega) _ _ ?_
 have e:(18446744073709551616:Nat)^(38*2^L)=16^(608*2^L):=by
  rw[show (18446744073709551616:Nat)=16^16 from by decide,← Nat.pow_mul,← Nat.mul_assoc]
 rw[e]
 exact Nat.pow_lt_pow_left (by omega) (by have:0<2^L:=Nat.pow_pos (by omega);omega)
theorem below_cell {n:Nat} {w w':World} (h:Below n w w') {g i:Nat} {u:Value} (hg:g<n) (hc:w.cell? ⟨g,i,none⟩=some u):w'.cell? ⟨g,i,none⟩=some u:=(World.cell?_of_block (w:=w) (h.block g hg)).trans hc
theorem Powers.take {w:World} {g o c L:Nat} {us:List Value} (h:Powers w (.slice (some ⟨g,o,none⟩) us.length c) us) (hL:L≤us.length):Powers w (.slice (some ⟨g,o,none⟩) L c) (us.take L):=by
 have hl:(us.take L).length=L:=by rw[List.length_take];omega
 have hsub:∀ j u,(us.take L)[j]? = some u→us[j]? = some u:=fun j u hj=>by
  have hlt:j<L:=by have:=(List.getElem?_eq_some_iff.1 hj).1;omega
  rw[List.getElem?_take_of_lt hlt] at hj
  exact hj
 obtain⟨a,c',e,h1,h2⟩:=h.form
 simp only[Value.slice.injEq] at e
 obtain⟨rfl,-,rfl⟩:=e
 exact⟨⟨_,c,by rw[hl],by omega,fun j u hj=>h2 j u (hsub j u hj)⟩,fun j u hj=>h.all j u (hsub j u hj)⟩
theorem wdig_halves (L X Wd:Nat) (hX:X<zy (L+1)) (hW:(Wd=0∧0<X)∨Wd=608*2^(L+1)) (hne:¬ (X/zy L=0∧Wd=0)) :
  (jq Wd X).reverse=(jq (Wd-608*2^L) (X/zy L)).reverse++(jq (608*2^L) (X%zy L)).reverse∧((Wd-608*2^L=0∧0<X/zy L)∨Wd-608*2^L=608*2^L):=by
 have hp:=tenP_pos L
 have e2:608*2^(L+1)=608*2^L+608*2^L:=by rw[Nat.pow_succ];omega
 rcases hW with ⟨rfl,h0⟩ | h
 ·have h1:0<X/zy L:=by
   rcases Nat.eq_zero_or_pos (X/zy L) with h | h
   ·exact absurd ⟨h,rfl⟩ hne
   ·exact h
  have h2:zy L≤X:=by
   rcases Nat.lt_or_ge X (zy L) with h | h
   ·rw[Nat.div_eq_of_lt h] at h1;omega
   ·exact h
  rw[Nat.zero_sub]
  refine⟨?_,.inl ⟨rfl,h1⟩⟩
  rw[wdig_long (608*2^L) X h2,List.reverse_append];rfl
 ·rw[h,e2,Nat.add_sub_cancel]
  refine⟨?_,.inr rfl⟩
  rw[wdig_wide (608*2^L) X (by rw[← e2];exact hX),List.reverse_append];rfl
theorem appendLong_succ (L:Nat) (IH:LongOK L) (hL20:L<20):LongOK (L+1):=by
 intro base w0 vp us vo ods v X Wd w hbase hP hL hB hv hX hW hl hd ho hn hall
 have hp:=tenP_pos L
 have e2:608*2^(L+1)=608*2^L+608*2^L:=by rw[Nat.pow_succ];omega
 have hh:X/zy L<zy L:=by rw[Nat.div_lt_iff_lt_mul hp,← zgb];exact hX
 have hlo:X%zy L<zy L:=Nat.mod_lt _ hp
 obtain⟨u,hu⟩:∃ u,us[L]? = some u:=⟨us[L],List.getElem?_eq_getElem (by omega)⟩
 obtain⟨a,c,rfl,hc1,hcell⟩:=hP.form
 obtain⟨g,o,rfl,hg,hcu⟩:=hcell L u hu
 rw[hbase.symm] at hg
 have cu:=below_cell hB hg hcu
 have hPT:Powers w0 (.slice (some ⟨g,o,none⟩) L c) (us.take L):=hP.take (by omega)
 have hTL:(us.take L).length=L:=by rw[List.length_take];omega
 have hsub:∀ j u,(us.take L)[j]? = some u→us[j]? = some u:=fun j u hj=>by
  have hlt:j<L:=by have:=(List.getElem?_eq_some_iff.1 hj).1;omega
  rw[List.getElem?_take_of_lt hlt] at hj
  exact hj
 obtain⟨D,hD⟩:∃ D,D=608*2^L:=⟨_,rfl⟩
 have rh:(yg (X/zy L)).length≤D:=zcn _ _ (by rw[hD];exact hh)
 have rl:(yg (X%zy L)).length≤D:=zcn _ _ (by rw[hD];exact hlo)
 have lh:(wd 18446744073709551616 (X/zy L)).length≤1000000:=Nat.le_trans (aq (Nat.div_le_self _ _)) hl
 have ll:(wd 18446744073709551616 (X%zy L)).length≤1000000:=Nat.le_trans (aq (Nat.mod_le _ _)) hl
 have lu:=hall L u hu
 have QR:=af (zdc v u X (zy L) w hv lu hp (by omega) (by
  have:=tenP_len L
  have h19:2^L≤2^19:=Nat.pow_le_pow_right (by omega) (by omega)
  omega) (Short.of _ _ hl))
 have hDB:D<1073741000:=by rw[hD];omega
 have hbs:base≤w.heap.size:=by rw[hbase];exact hB.size
 have HDW:Hid (wrap64 (608*2^L)=(D:Int)):=by
  have e:(608:Int)*2^L=(D:Int):=by rw[hD];simp
  show _=_
  rw[e];unfold wrap64;omega
 have hLc:L<c:=by omega
 have i1:(0:Int)≤(L:Int):=by omega
 have i2:(L:Int)≤(c:Int):=by omega
 have i3:(L:Int)≤(L:Int)+1:=by omega
 have HALL:=af hall
 have HO:=af (And.intro ho hn)
 have HB:=af hB
 have IHA:=af (fun ods' vo' v' X' W' W (h1:Below base w0 W) (h2:Sl .u64 W v' (wd 18446744073709551616 X')) (h3:X' < zy L) (h4:W'=0∧0<X'∨W'=608*2^L) (h5:(wd 18446744073709551616 X').length≤1000000) h6 h7 h8 (h9:∀ j u,us[j]? = some u→Sl .u64 W u (wd 18446744073709551616 (zy j)))=>IH base w0 _ _ vo' ods' v' X' W' W hbase hPT hTL h1 h2 h3 h4 h5 h6 h7 h8 (fun j u hj=>h9 j u (hsub j u hj)))
 have HX:=af hX
 have HW:=af hW
 have HD2:=af (And.intro hD (And.intro rh (And.intro rl (And.intro lh (And.intro ll (And.intro hh hlo))))))
 clear hDB
 have HDD:Hid (ods.length+4*D<1073741000):=by show _<_;rw[hD];omega
 obtain⟨xa,xc,rfl,-,-⟩:=hv
 obtain⟨oa,oc,rfl⟩:=ig ho
 rw[hL]
 clear hX hW hP hL ho hn hB IH hPT hTL hsub hall hcell hcu hu hp hc1 hbase hd rh rl lh ll hh hlo e2 hD
 generalize (wd 18446744073709551616 X).length=n at *
 generalize hno:ods.length=no at *
 go_enter func91,ntmps91
 go_wp2_with fail
 refine (ae QR).mono ?_
 rw[ae HDW]
 rintro e1 w1 ⟨v1,v2,rfl,hv1,hv2,hb1,-⟩
 have HV1:=af hv1
 have HV2:=af hv2
 have B1:=af hb1
 have HB1:=af (j6 (ae HB) (hb1.zds hbs))
 obtain⟨ha,hc,rfl,-,-⟩:=hv1
 clear hv2 hb1 QR
 by_cases h0:X/zy L=0∧Wd=0
 ·obtain⟨hq0,hw0⟩:=h0
  have hXL:X%zy L=X:=by
   have:=Nat.div_add_mod X (zy L)
   rw[hq0,Nat.mul_zero,Nat.zero_add] at this
   exact this
  have hX0:0<X:=by
   have hDp:0<608*2^(L+1):=Nat.mul_pos (by omega) (Nat.pow_pos (by omega))
   rcases ae HW with h | h
   ·exact h.2
   ·omega
  have HXL:=af hXL
  have A:=af (ae IHA ods (.slice oa no oc) v2 (X%zy L) 0 w1 (ae HB1) (ae HV2) (ae HD2).2.2.2.2.2.2 (.inl ⟨rfl,by rw[hXL];exact hX0⟩) (ae HD2).2.2.2.2.1 (by have h1:=(ae HD2).2.2.1;have h2:=(ae HD2).1;have h3:=ae HDD;omega) (by rw[hno];exact zau (ae HO).1 (ae B1)) (by rw[hno];exact (ae HO).2) (fun j u hj=>(ae HALL j u hj).ah (ae B1)))
  rw[hq0,zn,List.length_nil]
  subst hw0
  clear hq0 hXL hX0 IHA HV1 HD2 HX HW HALL HO
  go_wp2_with fail
  refine (ae A).mono ?_
  rintro e2 w2 ⟨v3,rfl,ho2,hb2,hk2⟩
  have FIN:=af (And.intro ho2 (And.intro (j6 ((ae B1).zds hbs) hb2) ((yu.of_but (ae B1)).trans hk2)))
  rw[ae HXL] at FIN
  clear ho2 hb2 hk2 A
  go_wp2
  go_ret
  exact⟨v3,rfl,(ae FIN).1,(ae FIN).2.1,(ae FIN).2.2⟩
 ·obtain⟨f1,f2⟩:=wdig_halves L X Wd (ae HX) (ae HW) h0
  rw[← (ae HD2).1] at f1 f2
  obtain⟨W',hW'⟩:∃ W',W'=Wd-D:=⟨_,rfl⟩
  rw[← hW'] at f1 f2
  have hmax:max ((Wd:Int)-(D:Int)) 0=(W':Int):=by omega
  have hWl:W'≤D:=by omega
  have hWdl:Wd≤2*D:=by
   have e2:608*2^(L+1)=608*2^L+608*2^L:=by rw[Nat.pow_succ];omega
   have:=(ae HD2).1
   rcases ae HW with h | h <;> omega
  have A:=af (ae IHA ods (.slice oa no oc) (.slice ha (wd 18446744073709551616 (X/zy L)).length hc) (X/zy L) W' w1 (ae HB1) (ae HV1) (ae HD2).2.2.2.2.2.1 (by rw[← (ae HD2).1];exact f2) (ae HD2).2.2.2.1 (by have h1:=(ae HD2).2.1;have h2:=(ae HD2).1;have h3:=ae HDD;omega) (by rw[hno];exact zau (ae HO).1 (ae B1)) (by rw[hno];exact (ae HO).2) (fun j u hj=>(ae HALL j u hj).ah (ae B1)))
  have F1:=af f1
  have WL:Hid (0<(jq W' (X/zy L)).length∧(jq W' (X/zy L)).length≤D):=by
   refine⟨wdig_pos _ _ (by have hDp:0<608*2^L:=Nat.mul_pos (by omega) (Nat.pow_pos (by omega));have:=(ae HD2).1;rcases f2 with h | h <;> omega),?_⟩
   rw[zch]
   have:=(ae HD2).2.1
   omega
  have hh0:((((wd 18446744073709551616 (X/zy L)).length:Int)==0)=true→((Wd:Int)==0)=false):=fun h=>by
   have h1:(wd 18446744073709551616 (X/zy L)).length=0:=by have:=beq_iff_eq.1 h;omega
   rw[zo (by omega)] at h1
   rw[beq_eq_false_iff_ne]
   intro h2
   exact h0 ⟨h1,by omega⟩
  clear f1 f2 h0 hW'
  generalize (wd 18446744073709551616 (X/zy L)).length=nh at *
  have hsub64:wrap64 ((Wd:Int)-(D:Int))=(Wd:Int)-(D:Int):=by have:=ae HDD;unfold wrap64;omega
  by_cases hn0:nh=0
  ·have hne:((Wd:Int)==0)=false:=hh0 (by simp[hn0])
   subst hn0
   clear hh0
   go_wp2_with fail
   refine (ae A).mono ?_
   rintro e2 w2 ⟨v3,rfl,ho2,hb2,hk2⟩
   have HB2:=af (j6 (ae HB1) hb2)
   have HV22:=af (hk2 _ _ (ae HV2))
   obtain⟨oa2,oc2,rfl⟩:=ig ho2
   have hol:(ods++(jq W' (X/zy L)).reverse).length=no+(jq W' (X/zy L)).length:=by rw[List.length_append,List.length_reverse,hno]
   have A2:=af (ae IHA (ods++(jq W' (X/zy L)).reverse) (.slice oa2 (ods++(jq W' (X/zy L)).reverse).length oc2) v2 (X%zy L) D w2 (ae HB2) (ae HV22) (ae HD2).2.2.2.2.2.2 (.inr (ae HD2).1) (ae HD2).2.2.2.2.1 (by have h1:=(ae HD2).2.2.1;have h2:=(ae HD2).1;have h3:=ae HDD;have h4:=(ae WL).2;omega) ho2 (.inr (by have h4:=(ae WL).1;omega)) (fun j u hj=>hk2 _ _ ((ae HALL j u hj).ah (ae B1))))
   have K2:=af (And.intro hb2 hk2)
   clear ho2 hb2 hk2 A hol IHA HALL HV22 HB2
   generalize (ods++(jq W' (X/zy L)).reverse).length=no2 at *
   go_wp2_with fail
   refine (ae A2).mono ?_
   rintro e3 w3 ⟨v4,rfl,ho3,hb3,hk3⟩
   have FIN:=af (And.intro ho3 (And.intro (j6 ((ae B1).zds hbs) (j6 (ae K2).1 hb3)) (((yu.of_but (ae B1)).trans (ae K2).2).trans hk3)))
   rw[List.append_assoc,← ae F1] at FIN
   clear ho3 hb3 hk3 A2
   go_wp2
   go_ret
   exact⟨v4,rfl,(ae FIN).1,(ae FIN).2.1,(ae FIN).2.2⟩
  ·have hne:((nh:Int)==0)=false:=beq_eq_false_iff_ne.2 (by omega)
   clear hh0
   go_wp2_with fail
   refine (ae A).mono ?_
   rintro e2 w2 ⟨v3,rfl,ho2,hb2,hk2⟩
   have HB2:=af (j6 (ae HB1) hb2)
   have HV22:=af (hk2 _ _ (ae HV2))
   obtain⟨oa2,oc2,rfl⟩:=ig ho2
   have hol:(ods++(jq W' (X/zy L)).reverse).length=no+(jq W' (X/zy L)).length:=by rw[List.length_append,List.length_reverse,hno]
   have A2:=af (ae IHA (ods++(jq W' (X/zy L)).reverse) (.slice oa2 (ods++(jq W' (X/zy L)).reverse).length oc2) v2 (X%zy L) D w2 (ae HB2) (ae HV22) (ae HD2).2.2.2.2.2.2 (.inr (ae HD2).1) (ae HD2).2.2.2.2.1 (by have h1:=(ae HD2).2.2.1;have h2:=(ae HD2).1;have h3:=ae HDD;have h4:=(ae WL).2;omega) ho2 (.inr (by have h4:=(ae WL).1;omega)) (fun j u hj=>hk2 _ _ ((ae HALL j u hj).ah (ae B1))))
   have K2:=af (And.intro hb2 hk2)
   clear ho2 hb2 hk2 A hol IHA HALL HV22 HB2
   generalize (ods++(jq W' (X/zy L)).reverse).length=no2 at *
   go_wp2_with fail
   refine (ae A2).mono ?_
   rintro e3 w3 ⟨v4,rfl,ho3,hb3,hk3⟩
   have FIN:=af (And.intro ho3 (And.intro (j6 ((ae B1).zds hbs) (j6 (ae K2).1 hb3)) (((yu.of_but (ae B1)).trans (ae K2).2).trans hk3)))
   rw[List.append_assoc,← ae F1] at FIN
   clear ho3 hb3 hk3 A2
   go_wp2
   go_ret
   exact⟨v4,rfl,(ae FIN).1,(ae FIN).2.1,(ae FIN).2.2⟩
theorem appendLong_all (L:Nat) (h:L≤20):LongOK L:=by
 induction L with
 | zero=>exact appendLong_zero
 | succ L ih=>exact appendLong_succ L (ih (by omega)) (by omega)
theorem dig_len (X n:Nat) (h:(wd 18446744073709551616 X).length≤n):(yg X).length≤20*n:=by
 refine zcn X _ (Nat.lt_of_lt_of_le (ak (B:=18446744073709551616) (by omega) X n h) ?_)
 rw[Nat.pow_mul]
 exact Nat.pow_le_pow_left (by decide) _
theorem natText_all (v:Value) (X:Nat) (w:World) (hv:Sl .u64 w v (wd 18446744073709551616 X)) (hl:(wd 18446744073709551616 X).length≤1000000) (htab:Lib.TabIs prog w "internal/strconv.uint64pow10" .u64 Lib.pow10Tab) (t:ByteArray) (ht:Hid (t=⟨(Lib.decDigits X).toArray⟩)) :
  Calls prog 38 #[v] w fun e w'=>e=.returned (.string t)∧But [] w w':=by
 by_cases hu:X < 18446744073709551616
 ·have H:=af htab
  have HW:=af (zav v X hu w hv)
  obtain⟨xa,xc,rfl,-,-⟩:=hv
  clear htab
  generalize (wd 18446744073709551616 X).length=n at *
  go_enter func38,ntmps38
  go_wp2_with fail
  refine (ae HW).mono ?_
  rintro e w1 ⟨rfl,hw⟩
  obtain rfl:=hw.symm
  clear hw
  go_wp2_with fail
  refine (zey X hu _ (ae H) t ht).mono ?_
  rintro e w1 ⟨rfl,hb⟩
  go_wp2
  go_ret
  exact⟨rfl,hb⟩
 ·have hp:0<X:=by omega
  have HW:=af (uh v X (by omega) w hv (by omega))
  have PF:=af (powersFor_any v X w hv hl)
  have HV:=af hv
  have hdl:=dig_len X _ (Nat.le_refl _)
  have AL:Hid (∀ vo us W,W.ownsRow w.heap.size 92 1 vo us.length us→(∀ j u,us[j]? = some u→Sl .u64 W u (wd 18446744073709551616 (zy j)))→But [] w W→(∀ j,j<us.length→zy j≤X)→X<zy us.length →
   Calls prog 91 #[.slice none 0 0,v,.int .i64 0,vo] W fun e w'=>∃ v',e=.returned v'∧w'.ownsRow W.heap.size 5 1 v' (yg X).reverse.length ((yg X).reverse.map u8v)∧But [] W w'):=fun vo us W h1 h2 h3 h4 h5=>by
   have hL:1824*2^us.length<128*1000000+3648:=by
    rcases Nat.eq_zero_or_pos us.length with h0 | h0
    ·rw[h0];omega
    ·obtain⟨j,hj⟩:∃ j,us.length=j+1:=⟨us.length-1,by omega⟩
     have:=tenP_below X j 1000000 hl (h4 j (by omega))
     rw[hj,Nat.pow_succ]
     omega
   have hL20:us.length≤20:=by
    rcases Nat.lt_or_ge 20 us.length with h | h
    ·have:2^21≤2^us.length:=Nat.pow_le_pow_right (by omega) h
     omega
    ·exact h
   have:=appendLong_all us.length hL20 W.heap.size W vo us (.slice none 0 0) [] v X 0 W rfl (powers_of h1 h2) rfl (But.refl [] W).below (hv.ah h3) h5 (.inl ⟨rfl,hp⟩) hl (by simp only[List.length_nil];omega) (World.ownsRow_nil _ _ _ _) (.inl rfl) h2
   rw[wdig_zero] at this
   refine this.mono fun e w' ⟨v',e1,e2,e3,_⟩=>⟨v',e1,by simpa using e2,But.of_below e3⟩
  have hrl:0<(yg X).reverse.length:=by rw[List.length_reverse,ug hp];simp
  have HRR:=af (rdig_rev X hp)
  have hrb:(yg X).reverse.length≤20000000:=by rw[List.length_reverse];omega
  obtain⟨xa,xc,rfl,-,-⟩:=hv
  clear htab hu hl hdl
  generalize (wd 18446744073709551616 X).length=n at *
  go_enter func38,ntmps38
  go_wp2_with fail
  refine (ae HW).mono ?_
  rintro e w1 ⟨rfl,hw⟩
  obtain rfl:=hw.symm
  clear hw
  go_wp2_with fail
  refine (ae PF).mono ?_
  rintro e w1 ⟨vo,us,rfl,h1,h2,h3,h4,h5⟩
  have B1:=af h3
  have A1:=af (ae AL vo us w1 h1 h2 h3 h4 h5)
  clear h1 h2 h3 h4 h5 AL PF
  go_wp2_with fail
  refine (ae A1).mono ?_
  rintro e w2 ⟨v2,rfl,ho2,hb2⟩
  have hB2:But [] w w2:=(ae B1).trans' hb2
  obtain⟨g,cg,rfl,hg,hcg,hrow⟩:=zdg ho2 hrl
  have hcv:=run_convert_bytes_back (P:=prog) w2 152 9 5 ⟨g,0,none⟩ cg (yg X).reverse underlying152 underlying5 underlying9 (fun j hj=>row_news hrow j _ (by rw[List.getElem?_map,List.getElem?_eq_getElem hj];rfl))
  rw[ae HRR,← ae ht] at hcv
  rw[ae HRR]
  have HB2:=af hB2
  clear ho2 hb2 hrow hB2 hrl
  generalize (Lib.decDigits X).length=m at *
  go_wp2
  go_ret
  exact⟨rfl,ae HB2⟩
def zei (s:Bool) (p q:Nat):ByteArray:=(if s then ⟨#[45]⟩++⟨(Lib.decDigits p).toArray⟩ else ⟨(Lib.decDigits p).toArray⟩)++(if q=1 then ⟨#[]⟩ else ⟨#[47]⟩++⟨(Lib.decDigits q).toArray⟩)
theorem dec_short (u:Nat) (h:(wd 18446744073709551616 u).length≤1000000):(Lib.decDigits u).length≤20000000:=by
 rcases Nat.eq_zero_or_pos u with rfl | h0
 ·rw[Lib.decDigits_length,Lib.nDigits_small (by omega)];omega
 ·rw[← rdig_rev u h0,List.length_reverse];exact dig_len u 1000000 h
theorem ba_nil (t:ByteArray):t++⟨#[]⟩=t:=by
 cases t;simp[ByteArray.ext_iff]
theorem zej (v:Value) (f:Rat) (w:World) (hf:am w v f) (hL:Len f 1000000) (htab:Lib.TabIs prog w "internal/strconv.uint64pow10" .u64 Lib.pow10Tab) (t:ByteArray) (ht:Hid (t=zei (decide (f.num<0)) f.num.natAbs f.den)) :
  Calls prog 9 #[v] w fun e w'=>e=.returned (.string t)∧But [] w w':=by
 have hq0:=den_pos f
 obtain⟨hN,hD⟩:=hL
 obtain⟨tp,htp⟩:∃ tp:ByteArray,tp=⟨(Lib.decDigits f.num.natAbs).toArray⟩:=⟨_,rfl⟩
 obtain⟨tq,htq⟩:∃ tq:ByteArray,tq=⟨(Lib.decDigits f.den).toArray⟩:=⟨_,rfl⟩
 have sp:tp.size≤20000000:=by rw[htp];exact dec_short _ hN
 have sq:tq.size≤20000000:=by rw[htq];exact dec_short _ hD
 have HNU:Hid (∀ W,But [] w W→Calls prog 37 #[v] W fun e w'=>∃ v1 v2,e=.returned (.tuple #[v1,v2])∧Sl .u64 w' v1 (wd 18446744073709551616 f.num.natAbs)∧Sl .u64 w' v2 (wd 18446744073709551616 f.den)∧But [] W w'):=fun W hb=>iy v f W (hf.but hb)
 have T1:Hid (∀ W v1,But [] w W→Sl .u64 W v1 (wd 18446744073709551616 f.num.natAbs)→Calls prog 38 #[v1] W fun e w'=>e=.returned (.string tp)∧But [] W w'):=fun W v1 hb h=>natText_all v1 _ W h hN (TabIs.but htab hb) tp htp
 have T2:Hid (∀ W v1,But [] w W→Sl .u64 W v1 (wd 18446744073709551616 f.den)→Calls prog 38 #[v1] W fun e w'=>e=.returned (.string tq)∧But [] W w'):=fun W v1 hb h=>natText_all v1 _ W h hD (TabIs.but htab hb) tq htq
 have HT:Hid (t=(if decide (f.num<0) then ⟨#[45]⟩++tp else tp)++(if f.den=1 then ⟨#[]⟩ else ⟨#[47]⟩++tq)):=by show _=_;rw[ae ht,zei,htp,htq]
 have ONE:Hid (∀ W v1 (r:Bool),Hid (r=decide (f.den=1))→Sl .u64 W v1 (wd 18446744073709551616 f.den)→Calls prog 39 #[v1] W fun e w'=>e=.returned (.bool r)∧w'=W):=fun W v1 r hr h=>o5 v1 _ W h (by omega) r hr
 obtain⟨x,y,p,rfl,-⟩:=hf.agg
 have hbw:But [] w (w.alloc (.cells #[.bool (decide (f.num<0)),.int .u64 x,.int .u64 y,.pointer p] 27)):=(But.refl _ _).alloc _
 clear htp htq ht htab hN hD hf
 generalize hs:decide (f.num<0)=s at *
 clear hs
 go_enter func9,ntmps9
 go_wp2_with fail
 refine (ae HNU _ hbw).mono ?_
 rintro e w1 ⟨v1,v2,rfl,hv1,hv2,hb1⟩
 have B1:=af (hbw.trans' hb1)
 have HV1:=af hv1
 have HV2:=af hv2
 have c0:=hb1.ag (show (w.alloc (.cells #[.bool s,.int .u64 x,.int .u64 y,.pointer p] 27)).cell? ⟨w.heap.size,0,none⟩=some (.bool s) by simp) (by simp)
 clear hv1 hv2 hb1
 go_wp2_with fail
 refine (ae T1 _ v1 (ae B1) (ae HV1)).mono ?_
 rintro e w2 ⟨rfl,hb2⟩
 have d0:=hb2.ag c0 (by simp)
 have B2:Hid (But [] w w2):=(ae B1).trans' hb2
 have HV3:=af ((ae HV2).ah hb2)
 clear hb2 c0 HV2 hbw
 cases s
 all_goals
  go_wp2_with fail
  by_cases hq1:f.den=1
  ·refine (ae ONE _ v2 true (by show true=_;simp[hq1]) (ae HV3)).mono ?_
   rintro e w3 ⟨rfl,hw⟩
   obtain rfl:=hw.symm
   clear hw
   go_wp2
   go_ret
   exact⟨by rw[ae HT,if_pos hq1,ba_nil];rfl,ae B2⟩
  ·refine (ae ONE _ v2 false (by show false=_;simp[hq1]) (ae HV3)).mono ?_
   rintro e w3 ⟨rfl,hw⟩
   obtain rfl:=hw.symm
   clear hw
   go_wp2_with fail
   refine (ae T2 _ v2 (ae B2) (ae HV3)).mono ?_
   rintro e w3 ⟨rfl,hb3⟩
   go_wp2
   go_ret
   exact⟨by rw[ae HT,if_neg hq1];rfl,(ae B2).trans' hb3⟩
theorem rat_ex (s:Bool) (p q:Nat) (hq:0<q) (hc:Nat.Coprime p q):∃ f:Rat,f.num=sgn s p∧f.den=q :=
 ⟨⟨sgn s p,q,by omega,by rw[xq];exact hc⟩,rfl,rfl⟩
theorem gcd_cop (x y:Nat) (hy:0<y):Nat.Coprime (x/Nat.gcd x y) (y/Nat.gcd x y):=Nat.coprime_div_gcd_div_gcd (Nat.gcd_pos_of_pos_right _ hy)
theorem len_of {f:Rat} {m n:Nat} (h1:f.num.natAbs < 18446744073709551616^m) (h2:f.den < 18446744073709551616^n) (k:Nat) (hm:m≤k) (hn:n≤k):Len f k :=
 ⟨Nat.le_trans (aj (by omega) _ _ h1) hm,Nat.le_trans (aj (by omega) _ _ h2) hn⟩
theorem Len.mono {f:Rat} {m n:Nat} (h:Len f m) (hn:m≤n):Len f n:=⟨Nat.le_trans h.1 hn,Nat.le_trans h.2 hn⟩
theorem Len.lt {f:Rat} {m:Nat} (h:Len f m):f.num.natAbs < 18446744073709551616^m∧f.den < 18446744073709551616^m:=⟨ak (by omega) _ _ h.1,ak (by omega) _ _ h.2⟩
theorem jo {f g:Rat} {m n:Nat} (h1:Len f m) (h2:Len g n) (k:Nat) (hk:m+n≤k):Len (f*g) k:=by
 obtain⟨a1,a2⟩:=h1.lt
 obtain⟨c1,c2⟩:=h2.lt
 obtain⟨e1,e2⟩:=mul_low f g _ _ rfl rfl
 refine len_of (m:=m+n) (n:=m+n) ?_ ?_ k hk hk
 ·rw[e1,xq,Nat.pow_add]
  exact Nat.mul_lt_mul'' (Nat.lt_of_le_of_lt (Nat.div_le_self _ _) a1) (Nat.lt_of_le_of_lt (Nat.div_le_self _ _) c1)
 ·rw[e2,Nat.pow_add]
  exact Nat.mul_lt_mul'' (Nat.lt_of_le_of_lt (Nat.div_le_self _ _) a2) (Nat.lt_of_le_of_lt (Nat.div_le_self _ _) c2)
theorem zee {f g:Rat} {m n:Nat} (h1:Len f m) (h2:Len g n) (k:Nat) (hk:m+n+1≤k):Len (f+g) k:=by
 obtain⟨a1,a2⟩:=h1.lt
 obtain⟨c1,c2⟩:=h2.lt
 obtain⟨M,s,hM⟩:∃ (M:Nat) (s:Bool),f.num*(g.den/Nat.gcd f.den g.den:Nat)+g.num*(f.den/Nat.gcd f.den g.den:Nat)=sgn s M:=by
  generalize f.num*(g.den/Nat.gcd f.den g.den:Nat)+g.num*(f.den/Nat.gcd f.den g.den:Nat)=z
  by_cases hz:z<0
  ·exact⟨z.natAbs,true,by simp[sgn];omega⟩
  ·exact⟨z.natAbs,false,by simp[sgn];omega⟩
 obtain⟨e1,e2⟩:=add_low f g s M _ _ rfl rfl hM
 have hMl:M < 18446744073709551616^(m+n+1):=by
  have h3:M≤f.num.natAbs*(g.den/Nat.gcd f.den g.den)+g.num.natAbs*(f.den/Nat.gcd f.den g.den):=by
   rw[← xq s M,← hM]
   refine Nat.le_trans (Int.natAbs_add_le _ _) ?_
   rw[Int.natAbs_mul,Int.natAbs_mul,Int.natAbs_natCast,Int.natAbs_natCast]
   exact Nat.le_refl _
  have h4:f.num.natAbs*(g.den/Nat.gcd f.den g.den) < 18446744073709551616^m * 18446744073709551616^n:=Nat.mul_lt_mul'' a1 (Nat.lt_of_le_of_lt (Nat.div_le_self _ _) c2)
  have h5:g.num.natAbs*(f.den/Nat.gcd f.den g.den) < 18446744073709551616^n * 18446744073709551616^m:=Nat.mul_lt_mul'' c1 (Nat.lt_of_le_of_lt (Nat.div_le_self _ _) a2)
  rw[Nat.mul_comm (18446744073709551616^n)] at h5
  rw[Nat.pow_succ,Nat.pow_add]
  generalize 18446744073709551616^m * 18446744073709551616^n=P at *
  omega
 refine len_of (m:=m+n+1) (n:=m+n) ?_ ?_ k hk (by omega)
 ·rw[e1,xq];exact Nat.lt_of_le_of_lt (Nat.div_le_self _ _) hMl
 ·rw[e2,Nat.pow_add]
  exact Nat.mul_lt_mul'' (Nat.lt_of_le_of_lt (Nat.div_le_self _ _) a2) (Nat.lt_of_le_of_lt (Nat.div_le_self _ _) c2)
theorem len_neg {f:Rat} {m:Nat} (h:Len f m):Len (-f) m:=by
 unfold Len
 rw[Rat.neg_num,Rat.neg_den,Int.natAbs_neg]
 exact h
theorem zed {f g:Rat} {m n:Nat} (h1:Len f m) (h2:Len g n) (k:Nat) (hk:m+n+1≤k):Len (f-g) k:=by
 rw[Rat.sub_eq_add_neg];exact zee h1 (len_neg h2) k hk
theorem len_inv {f:Rat} {m:Nat} (h:Len f m) (h0:f.num≠0):Len f⁻¹ m:=by
 obtain⟨i1,i2,-⟩:=zgn f h0
 unfold Len
 rw[i1,i2]
 exact⟨h.2,h.1⟩
theorem len_div {f g:Rat} {m n:Nat} (h1:Len f m) (h2:Len g n) (h0:g.num≠0) (k:Nat) (hk:m+n≤k):Len (f/g) k:=by
 rw[Rat.div_def];exact jo h1 (len_inv h2 h0) k hk
theorem of_rel (x y:Int) (p q k:Nat) (hx:x.natAbs=p*k) (hy:y.natAbs=q*k):sgn (decide (x<0) != decide (y<0)) p*y=x*q:=by
 have ex:x=sgn (decide (x<0)) (p*k):=by
  by_cases h:x<0
  ·simp[sgn,h];omega
  ·simp[sgn,h];omega
 have ey:y=sgn (decide (y<0)) (q*k):=by
  by_cases h:y<0
  ·simp[sgn,h];omega
  ·simp[sgn,h];omega
 generalize decide (x<0)=a at *
 generalize decide (y<0)=b at *
 rw[ex,ey]
 cases a <;> cases b <;> simp[sgn,Int.natCast_mul] <;> grind
theorem fracOf_at (x y:Int) (hx1:-9223372036854775808≤x) (hx2:x<9223372036854775808) (hy1:-9223372036854775808≤y) (hy2:y<9223372036854775808) (hy0:y≠0) :
  ∃ (f:Rat) (r:Bool) (p q:Int),Len f 1∧f.num*y=x*f.den∧(∀ W,am W (.agg #[.bool r,.int .u64 p,.int .u64 q,.pointer none]) f)∧∀ W,Calls prog 35 #[.int .i64 x,.int .i64 y] W fun e w'=>e=.returned (.tuple #[.agg #[.bool r,.int .u64 p,.int .u64 q,.pointer none],.nilIface])∧But [] W w':=by
 have hyp:0<y.natAbs:=by omega
 have hg:0<Nat.gcd x.natAbs y.natAbs:=Nat.gcd_pos_of_pos_right _ hyp
 have hd1:=Nat.div_mul_cancel (Nat.gcd_dvd_left x.natAbs y.natAbs)
 have hd2:=Nat.div_mul_cancel (Nat.gcd_dvd_right x.natAbs y.natAbs)
 have hq0:0<y.natAbs/Nat.gcd x.natAbs y.natAbs:=Nat.div_pos (Nat.le_of_dvd hyp (Nat.gcd_dvd_right _ _)) hg
 have hpB:x.natAbs/Nat.gcd x.natAbs y.natAbs < 18446744073709551616:=Nat.lt_of_le_of_lt (Nat.div_le_self _ _) (by omega)
 have hqB:y.natAbs/Nat.gcd x.natAbs y.natAbs < 18446744073709551616:=Nat.lt_of_le_of_lt (Nat.div_le_self _ _) (by omega)
 obtain⟨f,hn,hd⟩:=rat_ex (decide (x<0) != decide (y<0)) _ _ hq0 (gcd_cop x.natAbs y.natAbs hyp)
 have habs:f.num.natAbs=x.natAbs/Nat.gcd x.natAbs y.natAbs:=by rw[hn,xq]
 refine⟨f,decide (f.num<0),(f.num.natAbs:Int),(f.den:Int)-1,?_,?_,fun W=>.inl ⟨by rw[habs];exact hpB,by rw[hd];exact hqB,rfl⟩,fun W=>?_⟩
 ·exact len_of (m:=1) (n:=1) (by rw[habs,Nat.pow_one];exact hpB) (by rw[hd,Nat.pow_one];exact hqB) 1 (Nat.le_refl _) (Nat.le_refl _)
 ·rw[hn,hd]
  exact of_rel x y _ _ _ hd1.symm hd2.symm
 ·rw[habs,hd]
  exact fracOf_any x y hx1 hx2 hy1 hy2 hy0 W _ _ _ (by show _=_;rw[hn,zgd]) rfl rfl
theorem plainF_any (x y:Int) (hx1:-9223372036854775808≤x) (hx2:x<9223372036854775808) (hy1:-9223372036854775808≤y) (hy2:y<9223372036854775808) :
  ∃ (f:Rat) (r:Bool) (p q:Int),Len f 1∧f.num*(if y=0 then 1 else y)=x*f.den∧(∀ W,am W (.agg #[.bool r,.int .u64 p,.int .u64 q,.pointer none]) f)∧∀ W,Calls prog 7 #[.agg #[.int .i64 x,.int .i64 y]] W fun e w'=>e=.returned (.agg #[.bool r,.int .u64 p,.int .u64 q,.pointer none])∧But [] W w':=by
 by_cases hy0:y=0
 ·subst hy0
  obtain⟨f,r,p,q,h1,h2,h3,h4⟩:=fracOf_at x 1 hx1 hx2 (by omega) (by omega) (by omega)
  refine⟨f,r,p,q,h1,by rw[if_pos rfl];exact h2,h3,fun w=>?_⟩
  have OF:=af h4
  clear h1 h2 h3 h4
  go_enter func7,ntmps7
  go_wp2_with fail
  obtain⟨W,hW⟩:∃ W,W=(w.alloc (.cells #[.int .i64 x,.int .i64 1] 23)).alloc (.cells #[.bool false,.int .u64 0,.int .u64 0,.pointer none] 27):=⟨_,rfl⟩
  have r0:W.cell? ⟨w.heap.size+1,0,none⟩=some (.bool false):=by rw[hW];simp
  have r1:W.cell? ⟨w.heap.size+1,1,none⟩=some (.int .u64 0):=by rw[hW];simp
  have r2:W.cell? ⟨w.heap.size+1,2,none⟩=some (.int .u64 0):=by rw[hW];simp
  have r3:W.cell? ⟨w.heap.size+1,3,none⟩=some (.pointer none):=by rw[hW];simp
  have fz:∀ j,W.frozen? ⟨w.heap.size+1,j,none⟩=false:=fun j=>by rw[hW];simp
  have hB:But [] w W:=by rw[hW];exact ((But.refl _ _).alloc _).alloc _
  rw[← hW]
  clear hW
  obtain⟨gr,hgr⟩:∃ gr,gr=w.heap.size+1:=⟨_,rfl⟩
  rw[← hgr] at r0 r1 r2 r3 fz
  rw[← hgr]
  have HGR:Hid (w.heap.size≤gr):=by show _≤_;omega
  clear hgr
  have grl:gr<W.heap.size:=ai r0
  refine (ae OF _).mono ?_
  rintro e w1 ⟨rfl,hb1⟩
  have u0:=hb1.ag r0 (by simp)
  have u1:=hb1.ag r1 (by simp)
  have u2:=hb1.ag r2 (by simp)
  have u3:=hb1.ag r3 (by simp)
  have uf:∀ j,w1.frozen? ⟨gr,j,none⟩=false:=fun j=>(hb1.frozen (p:=⟨gr,j,none⟩) grl (by simp)).trans (fz j)
  have HB1:Hid (But [] w w1):=hB.trans' hb1
  have gl1:gr<w1.heap.size:=ai u0
  clear hb1 hB r0 r1 r2 r3 fz grl
  go_wp2
  have hBf:=(((((ae HB1).setCell (p:=⟨gr,0,none⟩) (.inr (ae HGR)) (.bool r)).setCell (p:=⟨gr,1,none⟩) (.inr (ae HGR)) (.int .u64 p)).setCell (p:=⟨gr,2,none⟩) (.inr (ae HGR)) (.int .u64 q)).setCell (p:=⟨gr,3,none⟩) (.inr (ae HGR)) (.pointer none)).alloc (.cells #[.bool r,.int .u64 p,.int .u64 q,.pointer none] 27)
  exact bodyPost_ret (v:=.agg #[.bool r,.int .u64 p,.int .u64 q,.pointer none]) (by simp[results,results7,go_sem,u0,u1,u2,u3,gl1]) rfl ⟨rfl,hBf⟩
 ·obtain⟨f,r,p,q,h1,h2,h3,h4⟩:=fracOf_at x y hx1 hx2 hy1 hy2 hy0
  refine⟨f,r,p,q,h1,by rw[if_neg hy0];exact h2,h3,fun w=>?_⟩
  have n0:(y==0)=false:=by simp[hy0]
  have OF:=af h4
  clear h1 h2 h3 h4
  go_enter func7,ntmps7
  go_wp2_with fail
  obtain⟨W,hW⟩:∃ W,W=(w.alloc (.cells #[.int .i64 x,.int .i64 y] 23)).alloc (.cells #[.bool false,.int .u64 0,.int .u64 0,.pointer none] 27):=⟨_,rfl⟩
  have r0:W.cell? ⟨w.heap.size+1,0,none⟩=some (.bool false):=by rw[hW];simp
  have r1:W.cell? ⟨w.heap.size+1,1,none⟩=some (.int .u64 0):=by rw[hW];simp
  have r2:W.cell? ⟨w.heap.size+1,2,none⟩=some (.int .u64 0):=by rw[hW];simp
  have r3:W.cell? ⟨w.heap.size+1,3,none⟩=some (.pointer none):=by rw[hW];simp
  have fz:∀ j,W.frozen? ⟨w.heap.size+1,j,none⟩=false:=fun j=>by rw[hW];simp
  have hB:But [] w W:=by rw[hW];exact ((But.refl _ _).alloc _).alloc _
  rw[← hW]
  clear hW
  obtain⟨gr,hgr⟩:∃ gr,gr=w.heap.size+1:=⟨_,rfl⟩
  rw[← hgr] at r0 r1 r2 r3 fz
  rw[← hgr]
  have HGR:Hid (w.heap.size≤gr):=by show _≤_;omega
  clear hgr
  have grl:gr<W.heap.size:=ai r0
  refine (ae OF _).mono ?_
  rintro e w1 ⟨rfl,hb1⟩
  have u0:=hb1.ag r0 (by simp)
  have u1:=hb1.ag r1 (by simp)
  have u2:=hb1.ag r2 (by simp)
  have u3:=hb1.ag r3 (by simp)
  have uf:∀ j,w1.frozen? ⟨gr,j,none⟩=false:=fun j=>(hb1.frozen (p:=⟨gr,j,none⟩) grl (by simp)).trans (fz j)
  have HB1:Hid (But [] w w1):=hB.trans' hb1
  have gl1:gr<w1.heap.size:=ai u0
  clear hb1 hB r0 r1 r2 r3 fz grl
  go_wp2
  have hBf:=(((((ae HB1).setCell (p:=⟨gr,0,none⟩) (.inr (ae HGR)) (.bool r)).setCell (p:=⟨gr,1,none⟩) (.inr (ae HGR)) (.int .u64 p)).setCell (p:=⟨gr,2,none⟩) (.inr (ae HGR)) (.int .u64 q)).setCell (p:=⟨gr,3,none⟩) (.inr (ae HGR)) (.pointer none)).alloc (.cells #[.bool r,.int .u64 p,.int .u64 q,.pointer none] 27)
  exact bodyPost_ret (v:=.agg #[.bool r,.int .u64 p,.int .u64 q,.pointer none]) (by simp[results,results7,go_sem,u0,u1,u2,u3,gl1]) rfl ⟨rfl,hBf⟩
theorem whole_any (x:Int) (h1:-9223372036854775808≤x) (h2:x<9223372036854775808) (w:World) :
  Calls prog 71 #[.int .i64 x] w fun e w'=>e=.returned (.agg #[.bool (decide (x<0)),.int .u64 ((x.natAbs:Nat):Int),.int .u64 (((1:Nat):Int)-1),.pointer none])∧But [] w w':=by
 obtain⟨s,hs⟩:∃ s,s=decide (x<0):=⟨_,rfl⟩
 obtain⟨n,hn⟩:∃ n,n=x.natAbs:=⟨_,rfl⟩
 rw[← hs,← hn]
 have HS:=af hs
 have HN:=af hn
 go_enter func71,ntmps71
 go_wp2_with fail
 refine (size_any x h1 h2 _).mono ?_
 rintro e w1 ⟨rfl,hw⟩
 obtain rfl:=hw.symm
 go_wp2
 exact bodyPost_ret (v:=.agg #[.bool (decide (x<0)),.int .u64 ((x.natAbs:Nat):Int),.int .u64 0,.pointer none]) (by simp[results,results71,go_sem]) rfl ⟨by rw[ae HS,ae HN];rfl,(But.refl _ _).alloc _⟩
theorem bj (n:Int):((n:Int):Rat).num=n∧((n:Int):Rat).den=1:=⟨by simp,by simp⟩
theorem oo (n:Int) (h:n.natAbs < 18446744073709551616):Len ((n:Int):Rat) 1:=by
 obtain⟨h1,h2⟩:=bj n
 exact len_of (m:=1) (n:=1) (by rw[h1,Nat.pow_one];exact h) (by rw[h2];decide) 1 (Nat.le_refl _) (Nat.le_refl _)
theorem zfa (x:Int) (h1:-9223372036854775808≤x) (h2:x<9223372036854775808) :
  ∃ (r:Bool) (p:Int),(∀ W,am W (.agg #[.bool r,.int .u64 p,.int .u64 0,.pointer none]) ((x:Int):Rat))∧∀ W,Calls prog 71 #[.int .i64 x] W fun e w'=>e=.returned (.agg #[.bool r,.int .u64 p,.int .u64 0,.pointer none])∧But [] W w':=by
 obtain⟨e1,e2⟩:=bj x
 refine⟨decide (x<0),((x.natAbs:Nat):Int),fun W=>.inl ⟨by rw[e1];omega,by rw[e2];decide,by rw[e1,e2];rfl⟩,fun W=>?_⟩
 have h:=whole_any x h1 h2 W
 rw[show (((1:Nat):Int)-1)=0 from rfl] at h
 exact h
structure dm (w:World) (g:Nat) (vs:List Value):Prop where
 cells:∀ k v,vs[k]? = some v→w.cell? ⟨g,k,none⟩=some v
 loose:∀ j,w.frozen? ⟨g,j,none⟩=false
theorem dm.new (w:World) (vs:List Value) (t:TypeId):dm (w.alloc (.cells vs.toArray t)) w.heap.size vs :=
 ⟨fun k v h=>by rw[World.cell?_alloc_new];simpa using h,fun j=>by simp⟩
theorem dm.but {w w':World} {g:Nat} {vs:List Value} {l:List Nat} (h:dm w g vs) (hb:But l w w') (hn:g ∉ l) (h0:0<vs.length):dm w' g vs:=by
 have hl:g<w.heap.size:=by
  have:=h.cells 0 vs[0] (List.getElem?_eq_getElem h0)
  exact ai this
 exact⟨fun k v hv=>hb.ag (h.cells k v hv) hn,fun j=>(hb.frozen (p:=⟨g,j,none⟩) hl hn).trans (h.loose j)⟩
theorem dm.lt {w:World} {g:Nat} {vs:List Value} (h:dm w g vs) (h0:0<vs.length):g<w.heap.size:=ai (h.cells 0 vs[0] (List.getElem?_eq_getElem h0))
theorem dm.some {w:World} {g:Nat} {vs:List Value} (h:dm w g vs) (k:Nat) (hk:k<vs.length):∃ v,w.cell? ⟨g,k,none⟩=some v:=⟨_,h.cells k vs[k] (List.getElem?_eq_getElem hk)⟩
theorem dm.put {w:World} {g:Nat} {vs us:List Value} (h:dm w g vs) (hl:us.length=vs.length):dm (w.setCells g 0 us) g us:=by
 refine⟨fun k v hv=>?_,fun j=>by rw[World.frozen?_setCells];exact h.loose j⟩
 have hk:k<us.length:=(List.getElem?_eq_some_iff.1 hv).1
 have e:=World.cell?_setCells_in g us 0 w (fun j hj=>by
  obtain⟨v,hc⟩:=h.some j (by omega)
  rw[Nat.zero_add,hc];rfl) k hk
 rw[Nat.zero_add] at e
 rw[e,← (List.getElem?_eq_some_iff.1 hv).2]
def K12 (w:World) (b o:Nat) (s1:Bool) (x1 y1:Int) (p1:Option Addr) (s2:Bool) (x2 y2:Int) (p2:Option Addr) (s3:Bool) (x3 y3:Int) (p3:Option Addr):Prop:=P4o w b o s1 x1 y1 p1∧P4o w b (o+4) s2 x2 y2 p2∧P4o w b (o+8) s3 x3 y3 p3
theorem K12.but {w w':World} {b o:Nat} {s1:Bool} {x1 y1:Int} {p1:Option Addr} {s2:Bool} {x2 y2:Int} {p2:Option Addr} {s3:Bool} {x3 y3:Int} {p3:Option Addr} {l:List Nat} (h:K12 w b o s1 x1 y1 p1 s2 x2 y2 p2 s3 x3 y3 p3) (hb:But l w w') (hn:b ∉ l):K12 w' b o s1 x1 y1 p1 s2 x2 y2 p2 s3 x3 y3 p3:=⟨h.1.but hb hn,h.2.1.but hb hn,h.2.2.but hb hn⟩
structure Kd where
 ch:Rat
 me:Rat
 sp:Rat
def kz (w:World) (v:Value) (ks:List Kd):Prop:=∃ a cap,v=.slice a ks.length cap∧ks.length≤cap∧∀ i k,ks[i]? = some k→∃ b off,a=some ⟨b,off,none⟩∧∃ s1 x1 y1 p1 s2 x2 y2 p2 s3 x3 y3 p3,K12 w b (off+i*12) s1 x1 y1 p1 s2 x2 y2 p2 s3 x3 y3 p3∧(∀ W,am W (.agg #[.bool s1,.int .u64 x1,.int .u64 y1,.pointer p1]) k.ch)∧(∀ W,am W (.agg #[.bool s2,.int .u64 x2,.int .u64 y2,.pointer p2]) k.me)∧∀ W,am W (.agg #[.bool s3,.int .u64 x3,.int .u64 y3,.pointer p3]) k.sp
theorem kz.but {w w':World} {v:Value} {ks:List Kd} (h:kz w v ks) (hb:But [] w w'):kz w' v ks:=by
 obtain⟨a,cap,e,hc,h⟩:=h
 refine⟨a,cap,e,hc,fun i k hk=>?_⟩
 obtain⟨b,off,e1,s1,x1,y1,p1,s2,x2,y2,p2,s3,x3,y3,p3,h1,h2⟩:=h i k hk
 exact⟨b,off,e1,s1,x1,y1,p1,s2,x2,y2,p2,s3,x3,y3,p3,h1.but hb (by simp),h2⟩
theorem kz.get {w:World} {q:Option Addr} {n cap:Nat} {ks:List Kd} (h:kz w (.slice q n cap) ks) (i:Nat) (hi:i<n) (k:Kd) (hk:ks[i]? = some k):∃ b off s1 x1 y1 p1 s2 x2 y2 p2 s3 x3 y3 p3,q=some ⟨b,off,none⟩∧K12 w b (off+i*12) s1 x1 y1 p1 s2 x2 y2 p2 s3 x3 y3 p3∧(∀ W,am W (.agg #[.bool s1,.int .u64 x1,.int .u64 y1,.pointer p1]) k.ch)∧(∀ W,am W (.agg #[.bool s2,.int .u64 x2,.int .u64 y2,.pointer p2]) k.me)∧∀ W,am W (.agg #[.bool s3,.int .u64 x3,.int .u64 y3,.pointer p3]) k.sp:=by
 obtain⟨a,cap',e,-,h⟩:=h
 simp only[Value.slice.injEq] at e
 obtain⟨rfl,rfl,-⟩:=e
 obtain⟨b,off,e1,s1,x1,y1,p1,s2,x2,y2,p2,s3,x3,y3,p3,h1,h2⟩:=h i k hk
 exact⟨b,off,s1,x1,y1,p1,s2,x2,y2,p2,s3,x3,y3,p3,e1,h1,h2⟩
theorem run_fK0 (a:Act) (w:World) (d t:Nat) (u:TypeId) (ps:String) (ed:Array Edge) (gd:Option (Nat × Bool)) (b:Nat) (h1:a.eval (.tmp t)=.pointer (some ⟨b,0,none⟩)) :
  (execOp a.eval { dst:=some d,op:=Op.fieldAddr 45 (.tmp t) 0,type:=u,pos:=ps,after:=ed,guard:=gd }).run prog w=.ok (.value (.pointer (some ⟨b,0,none⟩))) w:=by
 unfold execOp
 simp only[h1]
 go_simp
theorem run_fM0 (a:Act) (w:World) (d t:Nat) (u:TypeId) (ps:String) (ed:Array Edge) (gd:Option (Nat × Bool)) (b:Nat) (h1:a.eval (.tmp t)=.pointer (some ⟨b,0,none⟩)) :
  (execOp a.eval { dst:=some d,op:=Op.fieldAddr 112 (.tmp t) 0,type:=u,pos:=ps,after:=ed,guard:=gd }).run prog w=.ok (.value (.pointer (some ⟨b,0,none⟩))) w:=by
 unfold execOp
 simp only[h1]
 go_simp
theorem run_fM1 (a:Act) (w:World) (d t:Nat) (u:TypeId) (ps:String) (ed:Array Edge) (gd:Option (Nat × Bool)) (b:Nat) (h1:a.eval (.tmp t)=.pointer (some ⟨b,0,none⟩)) :
  (execOp a.eval { dst:=some d,op:=Op.fieldAddr 112 (.tmp t) 1,type:=u,pos:=ps,after:=ed,guard:=gd }).run prog w=.ok (.value (.pointer (some ⟨b,4,none⟩))) w:=by
 unfold execOp
 simp only[h1]
 go_simp
theorem run_fM2 (a:Act) (w:World) (d t:Nat) (u:TypeId) (ps:String) (ed:Array Edge) (gd:Option (Nat × Bool)) (b:Nat) (h1:a.eval (.tmp t)=.pointer (some ⟨b,0,none⟩)) :
  (execOp a.eval { dst:=some d,op:=Op.fieldAddr 112 (.tmp t) 2,type:=u,pos:=ps,after:=ed,guard:=gd }).run prog w=.ok (.value (.pointer (some ⟨b,8,none⟩))) w:=by
 unfold execOp
 simp only[h1]
 go_simp
theorem run_fL0 (a:Act) (w:World) (d t:Nat) (u:TypeId) (ps:String) (ed:Array Edge) (gd:Option (Nat × Bool)) (b:Nat) (h1:a.eval (.tmp t)=.pointer (some ⟨b,0,none⟩)) :
  (execOp a.eval { dst:=some d,op:=Op.fieldAddr 50 (.tmp t) 0,type:=u,pos:=ps,after:=ed,guard:=gd }).run prog w=.ok (.value (.pointer (some ⟨b,0,none⟩))) w:=by
 unfold execOp
 simp only[h1]
 go_simp
theorem run_fL1 (a:Act) (w:World) (d t:Nat) (u:TypeId) (ps:String) (ed:Array Edge) (gd:Option (Nat × Bool)) (b:Nat) (h1:a.eval (.tmp t)=.pointer (some ⟨b,0,none⟩)) :
  (execOp a.eval { dst:=some d,op:=Op.fieldAddr 50 (.tmp t) 1,type:=u,pos:=ps,after:=ed,guard:=gd }).run prog w=.ok (.value (.pointer (some ⟨b,4,none⟩))) w:=by
 unfold execOp
 simp only[h1]
 go_simp
theorem run_ldKd (a:Act) (w:World) (d t:Nat) (u:TypeId) (ps:String) (ed:Array Edge) (gd:Option (Nat × Bool)) (b:Nat) (s1:Bool) (x1 y1:Int) (p1:Option Addr) (s2:Bool) (x2 y2:Int) (p2:Option Addr) (s3:Bool) (x3 y3:Int) (p3:Option Addr) (h1:a.eval (.tmp t)=.pointer (some ⟨b,0,none⟩)) (hc:K12 w b 0 s1 x1 y1 p1 s2 x2 y2 p2 s3 x3 y3 p3) :
  (execOp a.eval { dst:=some d,op:=Op.load 45 (.tmp t),type:=u,pos:=ps,after:=ed,guard:=gd }).run prog w=.ok (.value (.agg #[.bool s1,.int .u64 x1,.int .u64 y1,.pointer p1,.bool s2,.int .u64 x2,.int .u64 y2,.pointer p2,.bool s3,.int .u64 x3,.int .u64 y3,.pointer p3])) w:=by
 obtain⟨⟨c0,c1,c2,c3⟩,⟨c4,c5,c6,c7⟩,⟨c8,c9,c10,c11⟩⟩:=hc
 simp only[Nat.zero_add,Nat.reduceAdd] at c0 c1 c2 c3 c4 c5 c6 c7 c8 c9 c10 c11
 unfold execOp
 simp only[h1]
 go_simp
theorem run_ldLn (a:Act) (w:World) (d t:Nat) (u:TypeId) (ps:String) (ed:Array Edge) (gd:Option (Nat × Bool)) (b:Nat) (s1:Bool) (x1 y1:Int) (p1:Option Addr) (s2:Bool) (x2 y2:Int) (p2:Option Addr) (h1:a.eval (.tmp t)=.pointer (some ⟨b,0,none⟩)) (hc:dm w b [.bool s1,.int .u64 x1,.int .u64 y1,.pointer p1,.bool s2,.int .u64 x2,.int .u64 y2,.pointer p2]) :
  (execOp a.eval { dst:=some d,op:=Op.load 50 (.tmp t),type:=u,pos:=ps,after:=ed,guard:=gd }).run prog w=.ok (.value (.agg #[.bool s1,.int .u64 x1,.int .u64 y1,.pointer p1,.bool s2,.int .u64 x2,.int .u64 y2,.pointer p2])) w:=by
 have c0:=hc.cells 0 _ rfl
 have c1:=hc.cells 1 _ rfl
 have c2:=hc.cells 2 _ rfl
 have c3:=hc.cells 3 _ rfl
 have c4:=hc.cells 4 _ rfl
 have c5:=hc.cells 5 _ rfl
 have c6:=hc.cells 6 _ rfl
 have c7:=hc.cells 7 _ rfl
 unfold execOp
 simp only[h1]
 go_simp
theorem run_ofKd (a:Act) (w:World) (d t1 t2:Nat) (u:TypeId) (ps:String) (ed:Array Edge) (gd:Option (Nat × Bool)) (f:FuncId) (x2:Value) (h1:a.eval (.tmp t1)=.func (.func f) #[] #[]) (h2:a.eval (.tmp t2)=x2) (he:∀ args W,(callFunc f args).run prog W=.ok (.enter f args) W) :
  (execOp a.eval { dst:=some d,op:=Op.call { callee:=Callee.value (Operand.tmp t1),args:=#[Operand.tmp t2],argTypes:=#[45] },type:=u,pos:=ps,after:=ed,guard:=gd }).run prog w=.ok (.enter f #[x2]) w:=by
 have h1':a.tmps[t1]?.getD undef=.func (.func f) #[] #[]:=by rw[← Array.getD_eq_getD_getElem?];exact h1
 have h2':a.tmps[t2]?.getD undef=x2:=by rw[← Array.getD_eq_getD_getElem?];exact h2
 simp[execOp,resolve,Deferred.ofValue,invoke,Act.eval,h1',h2',he,go_sem]
theorem run_mixJ (a:Act) (w:World) (d t0 t1:Nat) (u:TypeId) (ps:String) (ed:Array Edge) (gd:Option (Nat × Bool)) (z0 z1:Value) (h0:a.eval (.tmp t0)=z0) (h1:a.eval (.tmp t1)=z1) :
  (execOp a.eval { dst:=some d,op:=Op.call { callee:=Callee.value (Operand.func 53),args:=#[Operand.tmp t0,Operand.tmp t1],argTypes:=#[42,3] },type:=u,pos:=ps,after:=ed,guard:=gd }).run prog w=.ok (.enter 53 #[z0,z1]) w:=by
 unfold execOp
 go_simp
 rw[← h0,← h1]
 simp[Act.eval]
theorem run_amissJ (a:Act) (w:World) (d t0 t1:Nat) (u:TypeId) (ps:String) (ed:Array Edge) (gd:Option (Nat × Bool)) (z0 z1:Value) (h0:a.eval (.tmp t0)=z0) (h1:a.eval (.tmp t1)=z1) :
  (execOp a.eval { dst:=some d,op:=Op.call { callee:=Callee.value (Operand.func 57),args:=#[Operand.tmp t0,Operand.tmp t1],argTypes:=#[112,50] },type:=u,pos:=ps,after:=ed,guard:=gd }).run prog w=.ok (.enter 57 #[z0,z1]) w:=by
 unfold execOp
 go_simp
 rw[← h0,← h1]
 simp[Act.eval]
def zac (f1 f2 f3:Rat) (w:World) (v:Value):Prop:=∃ s1 x1 y1 p1 s2 x2 y2 p2 s3 x3 y3 p3,v=.agg #[.bool s1,.int .u64 x1,.int .u64 y1,.pointer p1,.bool s2,.int .u64 x2,.int .u64 y2,.pointer p2,.bool s3,.int .u64 x3,.int .u64 y3,.pointer p3]∧am w (.agg #[.bool s1,.int .u64 x1,.int .u64 y1,.pointer p1]) f1∧am w (.agg #[.bool s2,.int .u64 x2,.int .u64 y2,.pointer p2]) f2∧am w (.agg #[.bool s3,.int .u64 x3,.int .u64 y3,.pointer p3]) f3
theorem zac.but {f1 f2 f3:Rat} {w w':World} {v:Value} (h:zac f1 f2 f3 w v) (hb:But [] w w'):zac f1 f2 f3 w' v:=by
 obtain⟨s1,x1,y1,p1,s2,x2,y2,p2,s3,x3,y3,p3,e,h1,h2,h3⟩:=h
 exact⟨s1,x1,y1,p1,s2,x2,y2,p2,s3,x3,y3,p3,e,h1.but hb,h2.but hb,h3.but hb⟩
theorem run_bdMixAt (a:Act) (w:World) (d t1 t2 t3:Nat) (u:TypeId) (ps:String) (ed:Array Edge) (gd:Option (Nat × Bool)) (s1:Bool) (x1 y1:Int) (p1:Option Addr) (s2:Bool) (x2 y2:Int) (p2:Option Addr) (s3:Bool) (x3 y3:Int) (p3:Option Addr) (h1:a.eval (.tmp t1)=.agg #[.bool s1,.int .u64 x1,.int .u64 y1,.pointer p1]) (h2:a.eval (.tmp t2)=.agg #[.bool s2,.int .u64 x2,.int .u64 y2,.pointer p2]) (h3:a.eval (.tmp t3)=.agg #[.bool s3,.int .u64 x3,.int .u64 y3,.pointer p3]) :
  (execOp a.eval { dst:=some d,op:=Op.build 112 #[(0,Operand.tmp t1),(1,Operand.tmp t2),(2,Operand.tmp t3)],type:=u,pos:=ps,after:=ed,guard:=gd }).run prog w=.ok (.value (.agg #[.bool s1,.int .u64 x1,.int .u64 y1,.pointer p1,.bool s2,.int .u64 x2,.int .u64 y2,.pointer p2,.bool s3,.int .u64 x3,.int .u64 y3,.pointer p3])) w:=by
 unfold execOp
 simp only[List.map_toArray,List.map_cons,List.map_nil,h1,h2,h3]
 go_simp
theorem run_stMixAt (a:Act) (w:World) (t1 t2:Nat) (u:TypeId) (ps:String) (ed:Array Edge) (gb:Nat) (s1:Bool) (x1 y1:Int) (p1:Option Addr) (s2:Bool) (x2 y2:Int) (p2:Option Addr) (s3:Bool) (x3 y3:Int) (p3:Option Addr) {vb:List Value} (h1:a.eval (.tmp t1)=.pointer (some ⟨gb,0,none⟩)) (h2:a.eval (.tmp t2)=.agg #[.bool s1,.int .u64 x1,.int .u64 y1,.pointer p1,.bool s2,.int .u64 x2,.int .u64 y2,.pointer p2,.bool s3,.int .u64 x3,.int .u64 y3,.pointer p3]) (hc:dm w gb vb) (hl:vb.length=12) :
  (execOp a.eval { dst:=none,op:=Op.store 112 (.tmp t1) (.tmp t2),type:=u,pos:=ps,after:=ed,guard:=none }).run prog w=.ok .skip (w.setCells gb 0 [.bool s1,.int .u64 x1,.int .u64 y1,.pointer p1,.bool s2,.int .u64 x2,.int .u64 y2,.pointer p2,.bool s3,.int .u64 x3,.int .u64 y3,.pointer p3]):=by
 obtain⟨u0,c0⟩:=hc.some 0 (by omega)
 obtain⟨u1,c1⟩:=hc.some 1 (by omega)
 obtain⟨u2,c2⟩:=hc.some 2 (by omega)
 obtain⟨u3,c3⟩:=hc.some 3 (by omega)
 obtain⟨u4,c4⟩:=hc.some 4 (by omega)
 obtain⟨u5,c5⟩:=hc.some 5 (by omega)
 obtain⟨u6,c6⟩:=hc.some 6 (by omega)
 obtain⟨u7,c7⟩:=hc.some 7 (by omega)
 obtain⟨u8,c8⟩:=hc.some 8 (by omega)
 obtain⟨u9,c9⟩:=hc.some 9 (by omega)
 obtain⟨u10,c10⟩:=hc.some 10 (by omega)
 obtain⟨u11,c11⟩:=hc.some 11 (by omega)
 have fz:=hc.loose
 unfold execOp
 simp only[h1,h2]
 go_simp
 rfl
def zep (f1 f2:Rat) (w:World) (v:Value):Prop:=∃ s1 x1 y1 p1 s2 x2 y2 p2,v=.agg #[.bool s1,.int .u64 x1,.int .u64 y1,.pointer p1,.bool s2,.int .u64 x2,.int .u64 y2,.pointer p2]∧am w (.agg #[.bool s1,.int .u64 x1,.int .u64 y1,.pointer p1]) f1∧am w (.agg #[.bool s2,.int .u64 x2,.int .u64 y2,.pointer p2]) f2
theorem zep.but {f1 f2:Rat} {w w':World} {v:Value} (h:zep f1 f2 w v) (hb:But [] w w'):zep f1 f2 w' v:=by
 obtain⟨s1,x1,y1,p1,s2,x2,y2,p2,e,h1,h2⟩:=h
 exact⟨s1,x1,y1,p1,s2,x2,y2,p2,e,h1.but hb,h2.but hb⟩
theorem run_bdLineAt (a:Act) (w:World) (d t1 t2:Nat) (u:TypeId) (ps:String) (ed:Array Edge) (gd:Option (Nat × Bool)) (s1:Bool) (x1 y1:Int) (p1:Option Addr) (s2:Bool) (x2 y2:Int) (p2:Option Addr) (h1:a.eval (.tmp t1)=.agg #[.bool s1,.int .u64 x1,.int .u64 y1,.pointer p1]) (h2:a.eval (.tmp t2)=.agg #[.bool s2,.int .u64 x2,.int .u64 y2,.pointer p2]) :
  (execOp a.eval { dst:=some d,op:=Op.build 50 #[(0,Operand.tmp t1),(1,Operand.tmp t2)],type:=u,pos:=ps,after:=ed,guard:=gd }).run prog w=.ok (.value (.agg #[.bool s1,.int .u64 x1,.int .u64 y1,.pointer p1,.bool s2,.int .u64 x2,.int .u64 y2,.pointer p2])) w:=by
 unfold execOp
 simp only[List.map_toArray,List.map_cons,List.map_nil,h1,h2]
 go_simp
theorem run_stLineAt (a:Act) (w:World) (t1 t2:Nat) (u:TypeId) (ps:String) (ed:Array Edge) (gb:Nat) (s1:Bool) (x1 y1:Int) (p1:Option Addr) (s2:Bool) (x2 y2:Int) (p2:Option Addr) {vb:List Value} (h1:a.eval (.tmp t1)=.pointer (some ⟨gb,0,none⟩)) (h2:a.eval (.tmp t2)=.agg #[.bool s1,.int .u64 x1,.int .u64 y1,.pointer p1,.bool s2,.int .u64 x2,.int .u64 y2,.pointer p2]) (hc:dm w gb vb) (hl:vb.length=8) :
  (execOp a.eval { dst:=none,op:=Op.store 50 (.tmp t1) (.tmp t2),type:=u,pos:=ps,after:=ed,guard:=none }).run prog w=.ok .skip (w.setCells gb 0 [.bool s1,.int .u64 x1,.int .u64 y1,.pointer p1,.bool s2,.int .u64 x2,.int .u64 y2,.pointer p2]):=by
 obtain⟨u0,c0⟩:=hc.some 0 (by omega)
 obtain⟨u1,c1⟩:=hc.some 1 (by omega)
 obtain⟨u2,c2⟩:=hc.some 2 (by omega)
 obtain⟨u3,c3⟩:=hc.some 3 (by omega)
 obtain⟨u4,c4⟩:=hc.some 4 (by omega)
 obtain⟨u5,c5⟩:=hc.some 5 (by omega)
 obtain⟨u6,c6⟩:=hc.some 6 (by omega)
 obtain⟨u7,c7⟩:=hc.some 7 (by omega)
 have fz:=hc.loose
 unfold execOp
 simp only[h1,h2]
 go_simp
 rfl
def opJf0:Oper:=⟨some 14,.load 27 (.tmp 5),27, "line.go:66",#[],none⟩
def opJf1:Oper:=⟨some 15,.fieldAddr 45 (.tmp 7) 0,0, "line.go:66",#[],none⟩
def opJf2:Oper:=⟨some 16,.load 27 (.tmp 15),27, "line.go:66",#[⟨1,.data⟩],none⟩
def opJf3:Oper:=⟨some 17,.move (.tmp 1),166, "line.go:66",#[],none⟩
def opJf4:Oper:=⟨some 18,.load 45 (.tmp 7),45, "line.go:66",#[],none⟩
def opJf5:Oper:=⟨some 19,.call { callee:=.value (.tmp 17),args:=#[.tmp 18],argTypes:=#[45] },27, "line.go:66",#[⟨3,.data⟩,⟨4,.data⟩],none⟩
def opJf6:Oper:=⟨some 20,.call { callee:=.value (.func 56),args:=#[.tmp 16,.tmp 19],argTypes:=#[27,27] },27, "line.go:66",#[⟨2,.data⟩,⟨5,.data⟩,⟨5,.chain⟩],none⟩
def opJf7:Oper:=⟨some 21,.call { callee:=.value (.func 73),args:=#[.tmp 14,.tmp 20],argTypes:=#[27,27] },27, "line.go:66",#[⟨0,.data⟩,⟨6,.data⟩,⟨6,.chain⟩],none⟩
def opJf8:Oper:=⟨none,.store 27 (.tmp 5) (.tmp 21),0, "line.go:66",#[⟨7,.data⟩,⟨7,.chain⟩,⟨0,.phase⟩,⟨1,.phase⟩,⟨2,.phase⟩,⟨3,.phase⟩,⟨4,.phase⟩,⟨5,.phase⟩,⟨6,.phase⟩,⟨7,.phase⟩],none⟩
def zev:Array Oper:=#[opJf0,opJf1,opJf2,opJf3,opJf4,opJf5,opJf6,opJf7,opJf8]
def opJfT (i:Nat):Nat:=match i with
 | 0=>14
 | 1=>15
 | 2=>16
 | 3=>17
 | 4=>18
 | 5=>19
 | 6=>20
 | _=>21
def opJfC (g7:Nat) (s1:Bool) (x1:Int) (y1:Int) (p1:Option Addr) (s2:Bool) (x2:Int) (y2:Int) (p2:Option Addr) (s3:Bool) (x3:Int) (y3:Int) (p3:Option Addr) (s4:Bool) (x4:Int) (y4:Int) (p4:Option Addr) (fo:FuncId) (f1:Rat) (f2:Rat) (f3:Rat) (i:Nat) (w:World) (v:Value):Prop:=match i with
 | 0=>v=.agg #[.bool s1,.int .u64 x1,.int .u64 y1,.pointer p1]
 | 1=>v=.pointer (some ⟨g7,0,none⟩)
 | 2=>v=.agg #[.bool s2,.int .u64 x2,.int .u64 y2,.pointer p2]
 | 3=>v=.func (.func fo) #[] #[]
 | 4=>v=.agg #[.bool s2,.int .u64 x2,.int .u64 y2,.pointer p2,.bool s3,.int .u64 x3,.int .u64 y3,.pointer p3,.bool s4,.int .u64 x4,.int .u64 y4,.pointer p4]
 | 5=>am w v f3
 | 6=>am w v (f2*f3)
 | _=>am w v (f1+f2*f3)
theorem opJfC_but {g7:Nat} {s1:Bool} {x1:Int} {y1:Int} {p1:Option Addr} {s2:Bool} {x2:Int} {y2:Int} {p2:Option Addr} {s3:Bool} {x3:Int} {y3:Int} {p3:Option Addr} {s4:Bool} {x4:Int} {y4:Int} {p4:Option Addr} {fo:FuncId} {f1:Rat} {f2:Rat} {f3:Rat} {i:Nat} {w w':World} {v:Value} (h:opJfC g7 s1 x1 y1 p1 s2 x2 y2 p2 s3 x3 y3 p3 s4 x4 y4 p4 fo f1 f2 f3 i w v) (hi:i<8) (hb:But [] w w'):opJfC g7 s1 x1 y1 p1 s2 x2 y2 p2 s3 x3 y3 p3 s4 x4 y4 p4 fo f1 f2 f3 i w' v:=by
 have:i=0∨i=1∨i=2∨i=3∨i=4∨i=5∨i=6∨i=7:=by omega
 rcases this with rfl|rfl|rfl|rfl|rfl|rfl|rfl|rfl
 all_goals first | exact h | exact am.but h hb | exact an.but h hb
theorem opJfT_inj:∀ i j,i<8→j<8→opJfT i=opJfT j→i=j:=fun i j hi hj=>(by decide:∀ i,i<8→∀ j,j<8→opJfT i=opJfT j→i=j) i hi j hj
theorem meanOf_region (id:Nat) (Q:Exit→Act→World→Prop) (base:Act) (W0:World) (g7:Nat) (s1:Bool) (x1:Int) (y1:Int) (p1:Option Addr) (s2:Bool) (x2:Int) (y2:Int) (p2:Option Addr) (s3:Bool) (x3:Int) (y3:Int) (p3:Option Addr) (s4:Bool) (x4:Int) (y4:Int) (p4:Option Addr) (fo:FuncId) (f1:Rat) (f2:Rat) (f3:Rat) (gb:Nat) {sb:Bool} {xb yb:Int} {pb:Option Addr} (hs:21<base.tmps.size) (eb:base.eval (.tmp 5)=.pointer (some ⟨gb,0,none⟩)) (cb:P4 W0 gb sb xb yb pb) (fzb:∀ j,W0.frozen? ⟨gb,j,none⟩=false) (e7:base.eval (.tmp 7)=.pointer (some ⟨g7,0,none⟩)) (e1:base.eval (.tmp 1)=.func (.func fo) #[] #[])
  (c1:P4 W0 gb s1 x1 y1 p1) (kd:K12 W0 g7 0 s2 x2 y2 p2 s3 x3 y3 p3 s4 x4 y4 p4) (EN:∀ args W,(callFunc fo args).run prog W=.ok (.enter fo args) W)
  (OF:∀ w,But [] W0 w→Calls prog fo #[.agg #[.bool s2,.int .u64 x2,.int .u64 y2,.pointer p2,.bool s3,.int .u64 x3,.int .u64 y3,.pointer p3,.bool s4,.int .u64 x4,.int .u64 y4,.pointer p4]] w fun e w'=>∃ v,e=.returned v∧am w' v f3∧But [] w w')
  (MU:∀ w,But [] W0 w→∀ v,am w v f3→Calls prog 56 #[.agg #[.bool s2,.int .u64 x2,.int .u64 y2,.pointer p2],v] w fun e w'=>∃ v,e=.returned v∧am w' v (f2*f3)∧But [] w w')
  (AD:∀ w,But [] W0 w→∀ v,am w v (f2*f3)→Calls prog 73 #[.agg #[.bool s1,.int .u64 x1,.int .u64 y1,.pointer p1],v] w fun e w'=>∃ v,e=.returned v∧am w' v (f1+f2*f3)∧But [] w w')
  (hQ:∀ w1 v5 v6 s' x' y' p',But [] W0 w1→am w1 (.agg #[.bool s',.int .u64 x',.int .u64 y',.pointer p']) (f1+f2*f3)→Q .normal (bi base [(14,.agg #[.bool s1,.int .u64 x1,.int .u64 y1,.pointer p1]),(15,.pointer (some ⟨g7,0,none⟩)),(16,.agg #[.bool s2,.int .u64 x2,.int .u64 y2,.pointer p2]),(17,.func (.func fo) #[] #[]),(18,.agg #[.bool s2,.int .u64 x2,.int .u64 y2,.pointer p2,.bool s3,.int .u64 x3,.int .u64 y3,.pointer p3,.bool s4,.int .u64 x4,.int .u64 y4,.pointer p4]),(19,v5),(20,v6),(21,(.agg #[.bool s',.int .u64 x',.int .u64 y',.pointer p']))]) (jk w1 gb s' x' y' p')) :
  (Code.region id zev true).wp prog Q base W0:=by
 have hdr:∀ {w},But [] W0.drew w→But [] W0 w:=fun h=>(But.refl _ _).drew.trans' h
 have lgb:gb<W0.heap.size:=ai cb.1
 have hT:∀ i,i<8→opJfT i<base.tmps.size:=fun i hi=>by
  have h:opJfT i≤21:=by revert i;decide
  omega
 refine zas (by kernel_rfl) (ay (by kernel_rfl)) (fun i o ho=>(zbj (ops:=zev) (by kernel_rfl) i o ho).1)
  (fun _ w=>But [] W0.drew w) (opJfC g7 s1 x1 y1 p1 s2 x2 y2 p2 s3 x3 y3 p3 s4 x4 y4 p4 fo f1 f2 f3) opJfT 8 rfl opJfT_inj hT (But.refl _ _)
  (fun i hi=>?_) ?_ (fun a w=>∃ w1 v5 v6 s' x' y' p',a=bi base [(14,.agg #[.bool s1,.int .u64 x1,.int .u64 y1,.pointer p1]),(15,.pointer (some ⟨g7,0,none⟩)),(16,.agg #[.bool s2,.int .u64 x2,.int .u64 y2,.pointer p2]),(17,.func (.func fo) #[] #[]),(18,.agg #[.bool s2,.int .u64 x2,.int .u64 y2,.pointer p2,.bool s3,.int .u64 x3,.int .u64 y3,.pointer p3,.bool s4,.int .u64 x4,.int .u64 y4,.pointer p4]),(19,v5),(20,v6),(21,(.agg #[.bool s',.int .u64 x',.int .u64 y',.pointer p']))]∧w=jk w1 gb s' x' y' p'∧But [] W0 w1∧am w1 (.agg #[.bool s',.int .u64 x',.int .u64 y',.pointer p']) (f1+f2*f3)) ?_ ?_
 ·exact nk (ops:=zev) (ps:=[(8,0),(8,1),(8,2),(8,3),(8,4),(8,5),(8,6),(8,7)]) (by kernel_rfl) 8 i (by
   have:i=0∨i=1∨i=2∨i=3∨i=4∨i=5∨i=6∨i=7:=by omega
   rcases this with rfl|rfl|rfl|rfl|rfl|rfl|rfl|rfl <;> simp)
 ·intro dn i o a w K hi ho hdi hH he hdep hK
  have hD:=fun j hj=>(l9 (ps:=[(2,1),(5,3),(5,4),(6,2),(6,5),(7,0),(7,6)]) (by kernel_rfl) ho (fun j=>dn j=true∧opJfC g7 s1 x1 y1 p1 s2 x2 y2 p2 s3 x3 y3 p3 s4 x4 y4 p4 fo f1 f2 f3 j w (a.eval (.tmp (opJfT j)))) hdep j hj).2
  have hk:∀ v w',But [] w w'→opJfC g7 s1 x1 y1 p1 s2 x2 y2 p2 s3 x3 y3 p3 s4 x4 y4 p4 fo f1 f2 f3 i w' v→K (a.put (some (opJfT i)) v) w':=fun v w' hb hv=>hK v w' (hH.trans' hb) (fun j hj _ u hu=>opJfC_but hu hj hb) hv
  have eb':=(he 5 (fun j hj e=>absurd e.symm (by revert j;decide))).trans eb
  have e7':=(he 7 (fun j hj e=>absurd e.symm (by revert j;decide))).trans e7
  have e1':=(he 1 (fun j hj e=>absurd e.symm (by revert j;decide))).trans e1
  have:i=0∨i=1∨i=2∨i=3∨i=4∨i=5∨i=6∨i=7:=by omega
  rcases this with rfl|rfl|rfl|rfl|rfl|rfl|rfl|rfl
  ·obtain rfl:=so (show zev[0]? =some opJf0 from rfl) ho
   exact al (au a w _ _ _ _ _ _ gb 0 _ _ _ _ eb' (c1.but (hdr hH) (by simp))) (hk _ _ (But.refl _ _) rfl)
  ·obtain rfl:=so (show zev[1]? =some opJf1 from rfl) ho
   exact al (run_fK0 a w _ _ _ _ _ _ g7 e7') (hk _ _ (But.refl _ _) rfl)
  ·obtain rfl:=so (show zev[2]? =some opJf2 from rfl) ho
   exact al (au a w _ _ _ _ _ _ g7 0 _ _ _ _ (hD 1 (by simp)) (kd.1.but (hdr hH) (by simp))) (hk _ _ (But.refl _ _) rfl)
  ·obtain rfl:=so (show zev[3]? =some opJf3 from rfl) ho
   exact al (bp a w _ _ _ _ _ _ _ e1') (hk _ _ (But.refl _ _) rfl)
  ·obtain rfl:=so (show zev[4]? =some opJf4 from rfl) ho
   exact al (run_ldKd a w _ _ _ _ _ _ g7 _ _ _ _ _ _ _ _ _ _ _ _ e7' (kd.but (hdr hH) (by simp))) (hk _ _ (But.refl _ _) rfl)
  ·obtain rfl:=so (show zev[5]? =some opJf5 from rfl) ho
   exact ax (run_ofKd a w _ _ _ _ _ _ _ fo _ (hD 3 (by simp)) (hD 4 (by simp)) EN) (R:=fun w' v=>am w' v (f3)∧But [] w w') (OF w (hdr hH)) (fun v w' hv=>hk v w' hv.2 hv.1)
  ·obtain rfl:=so (show zev[6]? =some opJf6 from rfl) ho
   exact ax (zfc a w _ _ _ _ _ _ _ _ _ (hD 2 (by simp)) rfl) (R:=fun w' v=>am w' v (f2*f3)∧But [] w w') (MU w (hdr hH) _ (hD 5 (by simp))) (fun v w' hv=>hk v w' hv.2 hv.1)
  ·obtain rfl:=so (show zev[7]? =some opJf7 from rfl) ho
   exact ax (run_addK a w _ _ _ _ _ _ _ _ _ (hD 0 (by simp)) rfl) (R:=fun w' v=>am w' v (f1+f2*f3)∧But [] w w') (AD w (hdr hH) _ (hD 6 (by simp))) (fun v w' hv=>hk v w' hv.2 hv.1)
 ·intro dn o a w K ho hall h hK
  obtain rfl:=so (show zev[8]? =some opJf8 from rfl) ho
  have eb':=(h.eval 5 (fun j hj e=>absurd e.symm (by revert j;decide))).trans eb
  have cl:am w (a.eval (.tmp 21)) (f1+f2*f3):=h.has 7 (by omega) (hall 7 (by omega))
  have cl':=cl
  obtain⟨x',y',p',ev,-⟩:=cl.agg
  rw[ev] at cl'
  have ea:=h.puts hT (fun i=>match i with
   | 0=>.agg #[.bool s1,.int .u64 x1,.int .u64 y1,.pointer p1]
   | 1=>.pointer (some ⟨g7,0,none⟩)
   | 2=>.agg #[.bool s2,.int .u64 x2,.int .u64 y2,.pointer p2]
   | 3=>.func (.func fo) #[] #[]
   | 4=>.agg #[.bool s2,.int .u64 x2,.int .u64 y2,.pointer p2,.bool s3,.int .u64 x3,.int .u64 y3,.pointer p3,.bool s4,.int .u64 x4,.int .u64 y4,.pointer p4]
   | 5=>a.eval (.tmp 19)
   | 6=>a.eval (.tmp 20)
   | _=>.agg #[.bool (decide ((f1+f2*f3).num<0)),.int .u64 x',.int .u64 y',.pointer p']) (fun i hi=>by
   have hc:=h.has i hi (hall i hi)
   have:i=0∨i=1∨i=2∨i=3∨i=4∨i=5∨i=6∨i=7:=by omega
   rcases this with rfl|rfl|rfl|rfl|rfl|rfl|rfl|rfl
   all_goals first | exact ev | exact hc|rfl)
  exact ve (oq a w _ _ _ _ _ gb _ x' y' p' eb' ev (cb.but (hdr h.mem) (by simp)) (fun j=>((hdr h.mem).frozen (p:=⟨gb,j,none⟩) lgb (by simp)).trans (fzb j))) (hK _ _ ⟨w,a.eval (.tmp 19),a.eval (.tmp 20),_,x',y',p',ea,rfl,hdr h.mem,cl'⟩)
 ·rintro a w ⟨w1,v5,v6,s',x',y',p',rfl,rfl,h1,h2⟩
  exact hQ  w1 v5 v6 s' x' y' p' h1 h2
def opJg0:Oper:=⟨some 14,.load 27 (.tmp 5),27, "line.go:59",#[],none⟩
def opJg1:Oper:=⟨some 15,.load 27 (.tmp 6),27, "line.go:59",#[],none⟩
def opJg2:Oper:=⟨some 16,.load 27 (.tmp 5),27, "line.go:59",#[],none⟩
def opJg3:Oper:=⟨some 17,.call { callee:=.value (.func 117),args:=#[.tmp 16],argTypes:=#[27] },27, "line.go:59",#[⟨2,.data⟩],none⟩
def opJg4:Oper:=⟨some 18,.call { callee:=.value (.func 31),args:=#[.tmp 15,.tmp 17],argTypes:=#[27,27] },27, "line.go:59",#[⟨1,.data⟩,⟨3,.data⟩,⟨3,.chain⟩],none⟩
def opJg5:Oper:=⟨some 19,.load 27 (.tmp 7),27, "line.go:59",#[],none⟩
def opJg6:Oper:=⟨some 20,.move (.tmp 1),3, "line.go:59",#[],none⟩
def opJg7:Oper:=⟨some 21,.call { callee:=.value (.func 63),args:=#[.tmp 19,.tmp 20],argTypes:=#[27,3] },27, "line.go:59",#[⟨5,.data⟩,⟨6,.data⟩,⟨4,.chain⟩],none⟩
def opJg8:Oper:=⟨some 22,.build 112 #[(0,.tmp 14),(1,.tmp 18),(2,.tmp 21)],112, "line.go:59",#[⟨0,.data⟩,⟨4,.data⟩,⟨7,.data⟩],none⟩
def opJg9:Oper:=⟨none,.store 112 (.tmp 4) (.tmp 22),0, "line.go:59",#[⟨8,.data⟩,⟨7,.chain⟩,⟨0,.phase⟩,⟨1,.phase⟩,⟨2,.phase⟩,⟨3,.phase⟩,⟨4,.phase⟩,⟨5,.phase⟩,⟨6,.phase⟩,⟨7,.phase⟩,⟨8,.phase⟩],none⟩
def zdn:Array Oper:=#[opJg0,opJg1,opJg2,opJg3,opJg4,opJg5,opJg6,opJg7,opJg8,opJg9]
def opJgT (i:Nat):Nat:=match i with
 | 0=>14
 | 1=>15
 | 2=>16
 | 3=>17
 | 4=>18
 | 5=>19
 | 6=>20
 | 7=>21
 | _=>22
def opJgC (n:Int) (s1:Bool) (x1:Int) (y1:Int) (p1:Option Addr) (s2:Bool) (x2:Int) (y2:Int) (p2:Option Addr) (s3:Bool) (x3:Int) (y3:Int) (p3:Option Addr) (f1:Rat) (f2:Rat) (f3:Rat) (i:Nat) (w:World) (v:Value):Prop:=match i with
 | 0=>am w v f1
 | 1=>v=.agg #[.bool s2,.int .u64 x2,.int .u64 y2,.pointer p2]
 | 2=>v=.agg #[.bool s1,.int .u64 x1,.int .u64 y1,.pointer p1]
 | 3=>am w v (f1*f1)
 | 4=>am w v (f2-f1*f1)
 | 5=>v=.agg #[.bool s3,.int .u64 x3,.int .u64 y3,.pointer p3]
 | 6=>v=.int .i64 n
 | 7=>am w v (f3/((n:Int):Rat))
 | _=>zac (f1) (f2-f1*f1) (f3/((n:Int):Rat)) w v
theorem opJgC_but {n:Int} {s1:Bool} {x1:Int} {y1:Int} {p1:Option Addr} {s2:Bool} {x2:Int} {y2:Int} {p2:Option Addr} {s3:Bool} {x3:Int} {y3:Int} {p3:Option Addr} {f1:Rat} {f2:Rat} {f3:Rat} {i:Nat} {w w':World} {v:Value} (h:opJgC n s1 x1 y1 p1 s2 x2 y2 p2 s3 x3 y3 p3 f1 f2 f3 i w v) (hi:i<9) (hb:But [] w w'):opJgC n s1 x1 y1 p1 s2 x2 y2 p2 s3 x3 y3 p3 f1 f2 f3 i w' v:=by
 have:i=0∨i=1∨i=2∨i=3∨i=4∨i=5∨i=6∨i=7∨i=8:=by omega
 rcases this with rfl|rfl|rfl|rfl|rfl|rfl|rfl|rfl|rfl
 ·exact am.but (show am w v f1 from h) hb
 ·exact (show v=.agg #[.bool s2,.int .u64 x2,.int .u64 y2,.pointer p2] from h)
 ·exact (show v=.agg #[.bool s1,.int .u64 x1,.int .u64 y1,.pointer p1] from h)
 ·exact am.but (show am w v (f1*f1) from h) hb
 ·exact am.but (show am w v (f2-f1*f1) from h) hb
 ·exact (show v=.agg #[.bool s3,.int .u64 x3,.int .u64 y3,.pointer p3] from h)
 ·exact (show v=.int .i64 n from h)
 ·exact am.but (show am w v (f3/((n:Int):Rat)) from h) hb
 ·exact zac.but (show zac (f1) (f2-f1*f1) (f3/((n:Int):Rat)) w v from h) hb
theorem opJgT_inj:∀ i j,i<9→j<9→opJgT i=opJgT j→i=j:=fun i j hi hj=>(by decide:∀ i,i<9→∀ j,j<9→opJgT i=opJgT j→i=j) i hi j hj
theorem mixOf_region (id:Nat) (Q:Exit→Act→World→Prop) (base:Act) (W0:World) (n:Int) (s1:Bool) (x1:Int) (y1:Int) (p1:Option Addr) (s2:Bool) (x2:Int) (y2:Int) (p2:Option Addr) (s3:Bool) (x3:Int) (y3:Int) (p3:Option Addr) (f1:Rat) (f2:Rat) (f3:Rat) (gb g5 g6 g7:Nat) {vb:List Value} (hs:22<base.tmps.size) (eb:base.eval (.tmp 4)=.pointer (some ⟨gb,0,none⟩)) (cb:dm W0 gb vb) (hvb:vb.length=12) (e5:base.eval (.tmp 5)=.pointer (some ⟨g5,0,none⟩)) (e6:base.eval (.tmp 6)=.pointer (some ⟨g6,0,none⟩)) (e7:base.eval (.tmp 7)=.pointer (some ⟨g7,0,none⟩)) (e1:base.eval (.tmp 1)=.int .i64 n)
  (c1:P4 W0 g5 s1 x1 y1 p1) (c2:P4 W0 g6 s2 x2 y2 p2) (c3:P4 W0 g7 s3 x3 y3 p3) (F1:am W0 (.agg #[.bool s1,.int .u64 x1,.int .u64 y1,.pointer p1]) f1)
  (SQ:∀ w,But [] W0 w→Calls prog 117 #[.agg #[.bool s1,.int .u64 x1,.int .u64 y1,.pointer p1]] w fun e w'=>∃ v,e=.returned v∧am w' v (f1*f1)∧But [] w w')
  (SU:∀ w,But [] W0 w→∀ v,am w v (f1*f1)→Calls prog 31 #[.agg #[.bool s2,.int .u64 x2,.int .u64 y2,.pointer p2],v] w fun e w'=>∃ v,e=.returned v∧am w' v (f2-f1*f1)∧But [] w w')
  (QU:∀ w,But [] W0 w→Calls prog 63 #[.agg #[.bool s3,.int .u64 x3,.int .u64 y3,.pointer p3],.int .i64 n] w fun e w'=>∃ v,e=.returned v∧am w' v (f3/((n:Int):Rat))∧But [] w w')
  (hQ:∀ w1 v0 v3 v4 v7 a1 b1 c1 d1 a2 b2 c2 d2 a3 b3 c3 d3,But [] W0 w1→am w1 (.agg #[.bool a1,.int .u64 b1,.int .u64 c1,.pointer d1]) (f1)→am w1 (.agg #[.bool a2,.int .u64 b2,.int .u64 c2,.pointer d2]) (f2-f1*f1)→am w1 (.agg #[.bool a3,.int .u64 b3,.int .u64 c3,.pointer d3]) (f3/((n:Int):Rat))→Q .normal (bi base [(14,v0),(15,.agg #[.bool s2,.int .u64 x2,.int .u64 y2,.pointer p2]),(16,.agg #[.bool s1,.int .u64 x1,.int .u64 y1,.pointer p1]),(17,v3),(18,v4),(19,.agg #[.bool s3,.int .u64 x3,.int .u64 y3,.pointer p3]),(20,.int .i64 n),(21,v7),(22,.agg #[.bool a1,.int .u64 b1,.int .u64 c1,.pointer d1,.bool a2,.int .u64 b2,.int .u64 c2,.pointer d2,.bool a3,.int .u64 b3,.int .u64 c3,.pointer d3])]) (w1.setCells gb 0 [.bool a1,.int .u64 b1,.int .u64 c1,.pointer d1,.bool a2,.int .u64 b2,.int .u64 c2,.pointer d2,.bool a3,.int .u64 b3,.int .u64 c3,.pointer d3])) :
  (Code.region id zdn true).wp prog Q base W0:=by
 have hdr:∀ {w},But [] W0.drew w→But [] W0 w:=fun h=>(But.refl _ _).drew.trans' h
 have hT:∀ i,i<9→opJgT i<base.tmps.size:=fun i hi=>by
  have h:opJgT i≤22:=by revert i;decide
  omega
 refine zas (by kernel_rfl) (ay (by kernel_rfl)) (fun i o ho=>(zbj (ops:=zdn) (by kernel_rfl) i o ho).1)
  (fun _ w=>But [] W0.drew w) (opJgC n s1 x1 y1 p1 s2 x2 y2 p2 s3 x3 y3 p3 f1 f2 f3) opJgT 9 rfl opJgT_inj hT (But.refl _ _)
  (fun i hi=>?_) ?_ (fun a w=>∃ w1 v0 v3 v4 v7 a1 b1 c1 d1 a2 b2 c2 d2 a3 b3 c3 d3,a=bi base [(14,v0),(15,.agg #[.bool s2,.int .u64 x2,.int .u64 y2,.pointer p2]),(16,.agg #[.bool s1,.int .u64 x1,.int .u64 y1,.pointer p1]),(17,v3),(18,v4),(19,.agg #[.bool s3,.int .u64 x3,.int .u64 y3,.pointer p3]),(20,.int .i64 n),(21,v7),(22,.agg #[.bool a1,.int .u64 b1,.int .u64 c1,.pointer d1,.bool a2,.int .u64 b2,.int .u64 c2,.pointer d2,.bool a3,.int .u64 b3,.int .u64 c3,.pointer d3])]∧w=w1.setCells gb 0 [.bool a1,.int .u64 b1,.int .u64 c1,.pointer d1,.bool a2,.int .u64 b2,.int .u64 c2,.pointer d2,.bool a3,.int .u64 b3,.int .u64 c3,.pointer d3]∧But [] W0 w1∧am w1 (.agg #[.bool a1,.int .u64 b1,.int .u64 c1,.pointer d1]) (f1)∧am w1 (.agg #[.bool a2,.int .u64 b2,.int .u64 c2,.pointer d2]) (f2-f1*f1)∧am w1 (.agg #[.bool a3,.int .u64 b3,.int .u64 c3,.pointer d3]) (f3/((n:Int):Rat))) ?_ ?_
 ·exact nk (ops:=zdn) (ps:=[(9,0),(9,1),(9,2),(9,3),(9,4),(9,5),(9,6),(9,7),(9,8)]) (by kernel_rfl) 9 i (by
   have:i=0∨i=1∨i=2∨i=3∨i=4∨i=5∨i=6∨i=7∨i=8:=by omega
   rcases this with rfl|rfl|rfl|rfl|rfl|rfl|rfl|rfl|rfl <;> simp)
 ·intro dn i o a w K hi ho hdi hH he hdep hK
  have hD:=fun j hj=>(l9 (ps:=[(3,2),(4,1),(4,3),(7,4),(7,5),(7,6),(8,0),(8,4),(8,7)]) (by kernel_rfl) ho (fun j=>dn j=true∧opJgC n s1 x1 y1 p1 s2 x2 y2 p2 s3 x3 y3 p3 f1 f2 f3 j w (a.eval (.tmp (opJgT j)))) hdep j hj).2
  have hk:∀ v w',But [] w w'→opJgC n s1 x1 y1 p1 s2 x2 y2 p2 s3 x3 y3 p3 f1 f2 f3 i w' v→K (a.put (some (opJgT i)) v) w':=fun v w' hb hv=>hK v w' (hH.trans' hb) (fun j hj _ u hu=>opJgC_but hu hj hb) hv
  have e5':=(he 5 (fun j hj e=>absurd e.symm (by revert j;decide))).trans e5
  have e6':=(he 6 (fun j hj e=>absurd e.symm (by revert j;decide))).trans e6
  have e7':=(he 7 (fun j hj e=>absurd e.symm (by revert j;decide))).trans e7
  have e1':=(he 1 (fun j hj e=>absurd e.symm (by revert j;decide))).trans e1
  have:i=0∨i=1∨i=2∨i=3∨i=4∨i=5∨i=6∨i=7∨i=8:=by omega
  rcases this with rfl|rfl|rfl|rfl|rfl|rfl|rfl|rfl|rfl
  ·obtain rfl:=so (show zdn[0]? =some opJg0 from rfl) ho
   exact al (au a w _ _ _ _ _ _ g5 0 _ _ _ _ e5' (c1.but (hdr hH) (by simp))) (hk _ _ (But.refl _ _) (F1.but (hdr hH)))
  ·obtain rfl:=so (show zdn[1]? =some opJg1 from rfl) ho
   exact al (au a w _ _ _ _ _ _ g6 0 _ _ _ _ e6' (c2.but (hdr hH) (by simp))) (hk _ _ (But.refl _ _) rfl)
  ·obtain rfl:=so (show zdn[2]? =some opJg2 from rfl) ho
   exact al (au a w _ _ _ _ _ _ g5 0 _ _ _ _ e5' (c1.but (hdr hH) (by simp))) (hk _ _ (But.refl _ _) rfl)
  ·obtain rfl:=so (show zdn[3]? =some opJg3 from rfl) ho
   exact ax (zcj a w _ _ _ _ _ _ _ (hD 2 (by simp))) (R:=fun w' v=>am w' v (f1*f1)∧But [] w w') (SQ w (hdr hH)) (fun v w' hv=>hk v w' hv.2 hv.1)
  ·obtain rfl:=so (show zdn[4]? =some opJg4 from rfl) ho
   exact ax (run_subJ a w _ _ _ _ _ _ _ _ _ (hD 1 (by simp)) rfl) (R:=fun w' v=>am w' v (f2-f1*f1)∧But [] w w') (SU w (hdr hH) _ (hD 3 (by simp))) (fun v w' hv=>hk v w' hv.2 hv.1)
  ·obtain rfl:=so (show zdn[5]? =some opJg5 from rfl) ho
   exact al (au a w _ _ _ _ _ _ g7 0 _ _ _ _ e7' (c3.but (hdr hH) (by simp))) (hk _ _ (But.refl _ _) rfl)
  ·obtain rfl:=so (show zdn[6]? =some opJg6 from rfl) ho
   exact al (bp a w _ _ _ _ _ _ _ e1') (hk _ _ (But.refl _ _) rfl)
  ·obtain rfl:=so (show zdn[7]? =some opJg7 from rfl) ho
   exact ax (run_quotJ a w _ _ _ _ _ _ _ _ _ (hD 5 (by simp)) (hD 6 (by simp))) (R:=fun w' v=>am w' v (f3/((n:Int):Rat))∧But [] w w') (QU w (hdr hH)) (fun v w' hv=>hk v w' hv.2 hv.1)
  ·obtain rfl:=so (show zdn[8]? =some opJg8 from rfl) ho
   have q1:am w (a.eval (.tmp 14)) (f1):=hD 0 (by simp)
   obtain⟨b1,c1,d1,e1,-⟩:=q1.agg
   rw[e1] at q1
   have q2:am w (a.eval (.tmp 18)) (f2-f1*f1):=hD 4 (by simp)
   obtain⟨b2,c2,d2,e2,-⟩:=q2.agg
   rw[e2] at q2
   have q3:am w (a.eval (.tmp 21)) (f3/((n:Int):Rat)):=hD 7 (by simp)
   obtain⟨b3,c3,d3,e3,-⟩:=q3.agg
   rw[e3] at q3
   exact al (run_bdMixAt a w _ _ _ _ _ _ _ _ _ b1 c1 d1 _ b2 c2 d2 _ b3 c3 d3 e1 e2 e3) (hk _ _ (But.refl _ _) ⟨_,b1,c1,d1,_,b2,c2,d2,_,b3,c3,d3,rfl,q1,q2,q3⟩)
 ·intro dn o a w K ho hall h hK
  obtain rfl:=so (show zdn[9]? =some opJg9 from rfl) ho
  have eb':=(h.eval 4 (fun j hj e=>absurd e.symm (by revert j;decide))).trans eb
  obtain⟨a1,b1,c1,d1,a2,b2,c2,d2,a3,b3,c3,d3,ev,h1,h2,h3⟩:zac (f1) (f2-f1*f1) (f3/((n:Int):Rat)) w (a.eval (.tmp 22)):=h.has 8 (by omega) (hall 8 (by omega))
  have ea:=h.puts hT (fun i=>match i with
   | 0=>a.eval (.tmp 14)
   | 1=>.agg #[.bool s2,.int .u64 x2,.int .u64 y2,.pointer p2]
   | 2=>.agg #[.bool s1,.int .u64 x1,.int .u64 y1,.pointer p1]
   | 3=>a.eval (.tmp 17)
   | 4=>a.eval (.tmp 18)
   | 5=>.agg #[.bool s3,.int .u64 x3,.int .u64 y3,.pointer p3]
   | 6=>.int .i64 n
   | 7=>a.eval (.tmp 21)
   | _=>.agg #[.bool a1,.int .u64 b1,.int .u64 c1,.pointer d1,.bool a2,.int .u64 b2,.int .u64 c2,.pointer d2,.bool a3,.int .u64 b3,.int .u64 c3,.pointer d3]) (fun i hi=>by
   have hc:=h.has i hi (hall i hi)
   have:i=0∨i=1∨i=2∨i=3∨i=4∨i=5∨i=6∨i=7∨i=8:=by omega
   rcases this with rfl|rfl|rfl|rfl|rfl|rfl|rfl|rfl|rfl
   ·rfl
   ·exact hc
   ·exact hc
   ·rfl
   ·rfl
   ·exact hc
   ·exact hc
   ·rfl
   ·exact ev)
  exact ve (run_stMixAt a w _ _ _ _ _ gb a1 b1 c1 d1 a2 b2 c2 d2 a3 b3 c3 d3 eb' ev (cb.but (hdr h.mem) (by simp) (by omega)) hvb) (hK _ _ ⟨w,a.eval (.tmp 14),a.eval (.tmp 17),a.eval (.tmp 18),a.eval (.tmp 21),a1,b1,c1,d1,a2,b2,c2,d2,a3,b3,c3,d3,ea,rfl,hdr h.mem,h1,h2,h3⟩)
 ·rintro a w ⟨w1,v0,v3,v4,v7,a1,b1,c1,d1,a2,b2,c2,d2,a3,b3,c3,d3,rfl,rfl,hb1,h1,h2,h3⟩
  exact hQ w1 v0 v3 v4 v7 a1 b1 c1 d1 a2 b2 c2 d2 a3 b3 c3 d3 hb1 h1 h2 h3
def LaidJ (B:Nat) (w:World) (v:Value):Prop:=∃ b,v=.pointer (some ⟨b,0,none⟩)∧B≤b∧P4 w b false 0 0 none∧∀ j,w.frozen? ⟨b,j,none⟩=false
theorem LaidJ.but {B:Nat} {w w':World} {v:Value} (h:LaidJ B w v) (hb:But [] w w'):LaidJ B w' v:=by
 obtain⟨b,h1,h2,h3,h4⟩:=h
 have hl:b<w.heap.size:=ai h3.1
 exact⟨b,h1,h2,h3.but hb (by simp),fun j=>(hb.frozen (p:=⟨b,j,none⟩) hl (by simp)).trans (h4 j)⟩
def opJh0:Oper:=⟨some 10,.fieldAddr 50 (.tmp 3) 0,0, "line.go:74",#[],none⟩
def opJh1:Oper:=⟨some 11,.load 27 (.tmp 10),27, "line.go:74",#[⟨0,.data⟩],none⟩
def opJh2:Oper:=⟨some 12,.load 27 (.tmp 5),27, "line.go:74",#[],none⟩
def opJh3:Oper:=⟨some 13,.fieldAddr 112 (.tmp 2) 0,0, "line.go:74",#[],none⟩
def opJh4:Oper:=⟨some 14,.load 27 (.tmp 13),27, "line.go:74",#[⟨3,.data⟩],none⟩
def opJh5:Oper:=⟨some 15,.call { callee:=.value (.func 56),args:=#[.tmp 12,.tmp 14],argTypes:=#[27,27] },27, "line.go:74",#[⟨2,.data⟩,⟨4,.data⟩],none⟩
def opJh6:Oper:=⟨some 16,.call { callee:=.value (.func 31),args:=#[.tmp 11,.tmp 15],argTypes:=#[27,27] },27, "line.go:74",#[⟨1,.data⟩,⟨5,.data⟩,⟨5,.chain⟩],none⟩
def opJh7:Oper:=⟨some 17,.call { callee:=.value (.func 117),args:=#[.tmp 16],argTypes:=#[27] },27, "line.go:74",#[⟨6,.data⟩,⟨6,.chain⟩],none⟩
def opJh8:Oper:=⟨some 6,.alloc 27,0, "line.go:74",#[],none⟩
def opJh9:Oper:=⟨none,.store 27 (.tmp 6) (.tmp 17),0, "line.go:74",#[⟨8,.data⟩,⟨7,.data⟩,⟨7,.chain⟩,⟨0,.phase⟩,⟨1,.phase⟩,⟨2,.phase⟩,⟨3,.phase⟩,⟨4,.phase⟩,⟨5,.phase⟩,⟨6,.phase⟩,⟨7,.phase⟩,⟨8,.phase⟩],none⟩
def zdm:Array Oper:=#[opJh0,opJh1,opJh2,opJh3,opJh4,opJh5,opJh6,opJh7,opJh8,opJh9]
def opJhT (i:Nat):Nat:=match i with
 | 0=>10
 | 1=>11
 | 2=>12
 | 3=>13
 | 4=>14
 | 5=>15
 | 6=>16
 | 7=>17
 | _=>6
def opJhC (B:Nat) (g2:Nat) (g3:Nat) (s1:Bool) (x1:Int) (y1:Int) (p1:Option Addr) (s2:Bool) (x2:Int) (y2:Int) (p2:Option Addr) (s3:Bool) (x3:Int) (y3:Int) (p3:Option Addr) (f1:Rat) (f2:Rat) (f3:Rat) (i:Nat) (w:World) (v:Value):Prop:=match i with
 | 0=>v=.pointer (some ⟨g3,0,none⟩)
 | 1=>v=.agg #[.bool s1,.int .u64 x1,.int .u64 y1,.pointer p1]
 | 2=>v=.agg #[.bool s2,.int .u64 x2,.int .u64 y2,.pointer p2]
 | 3=>v=.pointer (some ⟨g2,0,none⟩)
 | 4=>v=.agg #[.bool s3,.int .u64 x3,.int .u64 y3,.pointer p3]
 | 5=>am w v (f2*f3)
 | 6=>am w v (f1-f2*f3)
 | 7=>am w v ((f1-f2*f3)*(f1-f2*f3))
 | _=>LaidJ B w v
theorem opJhC_but {B:Nat} {g2:Nat} {g3:Nat} {s1:Bool} {x1:Int} {y1:Int} {p1:Option Addr} {s2:Bool} {x2:Int} {y2:Int} {p2:Option Addr} {s3:Bool} {x3:Int} {y3:Int} {p3:Option Addr} {f1:Rat} {f2:Rat} {f3:Rat} {i:Nat} {w w':World} {v:Value} (h:opJhC B g2 g3 s1 x1 y1 p1 s2 x2 y2 p2 s3 x3 y3 p3 f1 f2 f3 i w v) (hi:i<9) (hb:But [] w w'):opJhC B g2 g3 s1 x1 y1 p1 s2 x2 y2 p2 s3 x3 y3 p3 f1 f2 f3 i w' v:=by
 have:i=0∨i=1∨i=2∨i=3∨i=4∨i=5∨i=6∨i=7∨i=8:=by omega
 rcases this with rfl|rfl|rfl|rfl|rfl|rfl|rfl|rfl|rfl
 all_goals first | exact h | exact am.but h hb | exact an.but h hb | exact LaidJ.but h hb | exact am.but h hb
theorem opJhT_inj:∀ i j,i<9→j<9→opJhT i=opJhT j→i=j:=fun i j hi hj=>(by decide:∀ i,i<9→∀ j,j<9→opJhT i=opJhT j→i=j) i hi j hj
theorem amiss_region2 (id:Nat) (Q:Exit→Act→World→Prop) (base:Act) (W0:World) (B:Nat) (g2:Nat) (g3:Nat) (s1:Bool) (x1:Int) (y1:Int) (p1:Option Addr) (s2:Bool) (x2:Int) (y2:Int) (p2:Option Addr) (s3:Bool) (x3:Int) (y3:Int) (p3:Option Addr) (f1:Rat) (f2:Rat) (f3:Rat) (hs:17<base.tmps.size) (g5:Nat) (hBW:B≤W0.heap.size) (e3:base.eval (.tmp 3)=.pointer (some ⟨g3,0,none⟩)) (e5:base.eval (.tmp 5)=.pointer (some ⟨g5,0,none⟩)) (e2:base.eval (.tmp 2)=.pointer (some ⟨g2,0,none⟩))
  (c1:P4o W0 g3 0 s1 x1 y1 p1) (c2:P4 W0 g5 s2 x2 y2 p2) (c3:P4o W0 g2 0 s3 x3 y3 p3)
  (MU:∀ w,But [] W0 w→Calls prog 56 #[.agg #[.bool s2,.int .u64 x2,.int .u64 y2,.pointer p2],.agg #[.bool s3,.int .u64 x3,.int .u64 y3,.pointer p3]] w fun e w'=>∃ v,e=.returned v∧am w' v (f2*f3)∧But [] w w')
  (SU:∀ w,But [] W0 w→∀ v,am w v (f2*f3)→Calls prog 31 #[.agg #[.bool s1,.int .u64 x1,.int .u64 y1,.pointer p1],v] w fun e w'=>∃ v,e=.returned v∧am w' v (f1-f2*f3)∧But [] w w')
  (SQ:∀ w,But [] W0 w→∀ v,am w v (f1-f2*f3)→Calls prog 117 #[v] w fun e w'=>∃ v,e=.returned v∧am w' v ((f1-f2*f3)*(f1-f2*f3))∧But [] w w')
  (hQ:∀ w1 bn v5 v6 s' x' y' p',But [] W0 w1→B≤bn→P4 w1 bn false 0 0 none→(∀ j,w1.frozen? ⟨bn,j,none⟩=false)→am w1 (.agg #[.bool s',.int .u64 x',.int .u64 y',.pointer p']) ((f1-f2*f3)*(f1-f2*f3))→Q .normal (bi base [(10,.pointer (some ⟨g3,0,none⟩)),(11,.agg #[.bool s1,.int .u64 x1,.int .u64 y1,.pointer p1]),(12,.agg #[.bool s2,.int .u64 x2,.int .u64 y2,.pointer p2]),(13,.pointer (some ⟨g2,0,none⟩)),(14,.agg #[.bool s3,.int .u64 x3,.int .u64 y3,.pointer p3]),(15,v5),(16,v6),(17,(.agg #[.bool s',.int .u64 x',.int .u64 y',.pointer p'])),(6,.pointer (some ⟨bn,0,none⟩))]) (jk w1 bn s' x' y' p')) :
  (Code.region id zdm true).wp prog Q base W0:=by
 have hdr:∀ {w},But [] W0.drew w→But [] W0 w:=fun h=>(But.refl _ _).drew.trans' h
 have hT:∀ i,i<9→opJhT i<base.tmps.size:=fun i hi=>by
  have h:opJhT i≤17:=by revert i;decide
  omega
 refine zas (by kernel_rfl) (ay (by kernel_rfl)) (fun i o ho=>(zbj (ops:=zdm) (by kernel_rfl) i o ho).1)
  (fun _ w=>But [] W0.drew w) (opJhC B g2 g3 s1 x1 y1 p1 s2 x2 y2 p2 s3 x3 y3 p3 f1 f2 f3) opJhT 9 rfl opJhT_inj hT (But.refl _ _)
  (fun i hi=>?_) ?_ (fun a w=>∃ w1 bn v5 v6 s' x' y' p',a=bi base [(10,.pointer (some ⟨g3,0,none⟩)),(11,.agg #[.bool s1,.int .u64 x1,.int .u64 y1,.pointer p1]),(12,.agg #[.bool s2,.int .u64 x2,.int .u64 y2,.pointer p2]),(13,.pointer (some ⟨g2,0,none⟩)),(14,.agg #[.bool s3,.int .u64 x3,.int .u64 y3,.pointer p3]),(15,v5),(16,v6),(17,(.agg #[.bool s',.int .u64 x',.int .u64 y',.pointer p'])),(6,.pointer (some ⟨bn,0,none⟩))]∧w=jk w1 bn s' x' y' p'∧But [] W0 w1∧B≤bn∧P4 w1 bn false 0 0 none∧(∀ j,w1.frozen? ⟨bn,j,none⟩=false)∧am w1 (.agg #[.bool s',.int .u64 x',.int .u64 y',.pointer p']) ((f1-f2*f3)*(f1-f2*f3))) ?_ ?_
 ·exact nk (ops:=zdm) (ps:=[(9,0),(9,1),(9,2),(9,3),(9,4),(9,5),(9,6),(9,7),(9,8)]) (by kernel_rfl) 9 i (by
   have:i=0∨i=1∨i=2∨i=3∨i=4∨i=5∨i=6∨i=7∨i=8:=by omega
   rcases this with rfl|rfl|rfl|rfl|rfl|rfl|rfl|rfl|rfl <;> simp)
 ·intro dn i o a w K hi ho hdi hH he hdep hK
  have hD:=fun j hj=>(l9 (ps:=[(1,0),(4,3),(5,2),(5,4),(6,1),(6,5),(7,6)]) (by kernel_rfl) ho (fun j=>dn j=true∧opJhC B g2 g3 s1 x1 y1 p1 s2 x2 y2 p2 s3 x3 y3 p3 f1 f2 f3 j w (a.eval (.tmp (opJhT j)))) hdep j hj).2
  have hk:∀ v w',But [] w w'→opJhC B g2 g3 s1 x1 y1 p1 s2 x2 y2 p2 s3 x3 y3 p3 f1 f2 f3 i w' v→K (a.put (some (opJhT i)) v) w':=fun v w' hb hv=>hK v w' (hH.trans' hb) (fun j hj _ u hu=>opJhC_but hu hj hb) hv
  have e3':=(he 3 (fun j hj e=>absurd e.symm (by revert j;decide))).trans e3
  have e5':=(he 5 (fun j hj e=>absurd e.symm (by revert j;decide))).trans e5
  have e2':=(he 2 (fun j hj e=>absurd e.symm (by revert j;decide))).trans e2
  have:i=0∨i=1∨i=2∨i=3∨i=4∨i=5∨i=6∨i=7∨i=8:=by omega
  rcases this with rfl|rfl|rfl|rfl|rfl|rfl|rfl|rfl|rfl
  ·obtain rfl:=so (show zdm[0]? =some opJh0 from rfl) ho
   exact al (run_fL0 a w _ _ _ _ _ _ g3 e3') (hk _ _ (But.refl _ _) rfl)
  ·obtain rfl:=so (show zdm[1]? =some opJh1 from rfl) ho
   exact al (au a w _ _ _ _ _ _ g3 0 _ _ _ _ (hD 0 (by simp)) (c1.but (hdr hH) (by simp))) (hk _ _ (But.refl _ _) rfl)
  ·obtain rfl:=so (show zdm[2]? =some opJh2 from rfl) ho
   exact al (au a w _ _ _ _ _ _ g5 0 _ _ _ _ e5' (c2.but (hdr hH) (by simp))) (hk _ _ (But.refl _ _) rfl)
  ·obtain rfl:=so (show zdm[3]? =some opJh3 from rfl) ho
   exact al (run_fM0 a w _ _ _ _ _ _ g2 e2') (hk _ _ (But.refl _ _) rfl)
  ·obtain rfl:=so (show zdm[4]? =some opJh4 from rfl) ho
   exact al (au a w _ _ _ _ _ _ g2 0 _ _ _ _ (hD 3 (by simp)) (c3.but (hdr hH) (by simp))) (hk _ _ (But.refl _ _) rfl)
  ·obtain rfl:=so (show zdm[5]? =some opJh5 from rfl) ho
   exact ax (zfc a w _ _ _ _ _ _ _ _ _ (hD 2 (by simp)) (hD 4 (by simp))) (R:=fun w' v=>am w' v (f2*f3)∧But [] w w') (MU w (hdr hH)) (fun v w' hv=>hk v w' hv.2 hv.1)
  ·obtain rfl:=so (show zdm[6]? =some opJh6 from rfl) ho
   exact ax (run_subJ a w _ _ _ _ _ _ _ _ _ (hD 1 (by simp)) rfl) (R:=fun w' v=>am w' v (f1-f2*f3)∧But [] w w') (SU w (hdr hH) _ (hD 5 (by simp))) (fun v w' hv=>hk v w' hv.2 hv.1)
  ·obtain rfl:=so (show zdm[7]? =some opJh7 from rfl) ho
   exact ax (zcj a w _ _ _ _ _ _ _ rfl) (R:=fun w' v=>am w' v ((f1-f2*f3)*(f1-f2*f3))∧But [] w w') (SQ w (hdr hH) _ (hD 6 (by simp))) (fun v w' hv=>hk v w' hv.2 hv.1)
  ·obtain rfl:=so (show zdm[8]? =some opJh8 from rfl) ho
   exact al (run_alloc4 a w _ _ _ _ _) (hk _ _ ((But.refl _ _).alloc _) ⟨w.heap.size,rfl,Nat.le_trans hBW (hdr hH).size,⟨by simp,by simp,by simp,by simp⟩,fun j=>by simp⟩)
 ·intro dn o a w K ho hall h hK
  obtain rfl:=so (show zdm[9]? =some opJh9 from rfl) ho
  have cl:am w (a.eval (.tmp 17)) ((f1-f2*f3)*(f1-f2*f3)):=h.has 7 (by omega) (hall 7 (by omega))
  obtain⟨bn,eb,hb1,hb2,hb3⟩:LaidJ B w (a.eval (.tmp 6)):=h.has 8 (by omega) (hall 8 (by omega))
  have cl':=cl
  obtain⟨x',y',p',ev,-⟩:=cl.agg
  rw[ev] at cl'
  have ea:=h.puts hT (fun i=>match i with
   | 0=>.pointer (some ⟨g3,0,none⟩)
   | 1=>.agg #[.bool s1,.int .u64 x1,.int .u64 y1,.pointer p1]
   | 2=>.agg #[.bool s2,.int .u64 x2,.int .u64 y2,.pointer p2]
   | 3=>.pointer (some ⟨g2,0,none⟩)
   | 4=>.agg #[.bool s3,.int .u64 x3,.int .u64 y3,.pointer p3]
   | 5=>a.eval (.tmp 15)
   | 6=>a.eval (.tmp 16)
   | 7=>.agg #[.bool (decide (((f1-f2*f3)*(f1-f2*f3)).num<0)),.int .u64 x',.int .u64 y',.pointer p']
   | _=>.pointer (some ⟨bn,0,none⟩)) (fun i hi=>by
   have hc:=h.has i hi (hall i hi)
   have:i=0∨i=1∨i=2∨i=3∨i=4∨i=5∨i=6∨i=7∨i=8:=by omega
   rcases this with rfl|rfl|rfl|rfl|rfl|rfl|rfl|rfl|rfl
   all_goals first | exact ev | exact eb | exact hc|rfl)
  exact ve (oq a w _ _ _ _ _ bn _ x' y' p' eb ev hb2 hb3) (hK _ _ ⟨w,bn,a.eval (.tmp 15),a.eval (.tmp 16),_,x',y',p',ea,rfl,hdr h.mem,hb1,hb2,hb3,cl'⟩)
 ·rintro a w ⟨w1,bn,v5,v6,s',x',y',p',rfl,rfl,h1,h2,h3,h4,h5⟩
  exact hQ  w1 bn v5 v6 s' x' y' p' h1 h2 h3 h4 h5
def opJi0:Oper:=⟨some 18,.load 27 (.tmp 6),27, "line.go:75",#[],none⟩
def opJi1:Oper:=⟨some 19,.load 27 (.tmp 5),27, "line.go:75",#[],none⟩
def opJi2:Oper:=⟨some 20,.call { callee:=.value (.func 117),args:=#[.tmp 19],argTypes:=#[27] },27, "line.go:75",#[⟨1,.data⟩],none⟩
def opJi3:Oper:=⟨some 21,.fieldAddr 112 (.tmp 2) 1,0, "line.go:75",#[],none⟩
def opJi4:Oper:=⟨some 22,.load 27 (.tmp 21),27, "line.go:75",#[⟨3,.data⟩],none⟩
def opJi5:Oper:=⟨some 23,.call { callee:=.value (.func 56),args:=#[.tmp 20,.tmp 22],argTypes:=#[27,27] },27, "line.go:75",#[⟨2,.data⟩,⟨4,.data⟩,⟨2,.chain⟩],none⟩
def opJi6:Oper:=⟨some 24,.call { callee:=.value (.func 73),args:=#[.tmp 18,.tmp 23],argTypes:=#[27,27] },27, "line.go:75",#[⟨0,.data⟩,⟨5,.data⟩,⟨5,.chain⟩],none⟩
def opJi7:Oper:=⟨some 25,.fieldAddr 50 (.tmp 3) 1,0, "line.go:75",#[],none⟩
def opJi8:Oper:=⟨some 26,.load 27 (.tmp 25),27, "line.go:75",#[⟨7,.data⟩],none⟩
def opJi9:Oper:=⟨some 27,.call { callee:=.value (.func 117),args:=#[.tmp 26],argTypes:=#[27] },27, "line.go:75",#[⟨8,.data⟩,⟨6,.chain⟩],none⟩
def opJi10:Oper:=⟨some 28,.fieldAddr 112 (.tmp 2) 2,0, "line.go:75",#[],none⟩
def opJi11:Oper:=⟨some 29,.load 27 (.tmp 28),27, "line.go:75",#[⟨10,.data⟩],none⟩
def opJi12:Oper:=⟨some 30,.call { callee:=.value (.func 56),args:=#[.tmp 27,.tmp 29],argTypes:=#[27,27] },27, "line.go:75",#[⟨9,.data⟩,⟨11,.data⟩,⟨9,.chain⟩],none⟩
def opJi13:Oper:=⟨some 31,.call { callee:=.value (.func 73),args:=#[.tmp 24,.tmp 30],argTypes:=#[27,27] },27, "line.go:75",#[⟨6,.data⟩,⟨12,.data⟩,⟨12,.chain⟩],none⟩
def opJi14:Oper:=⟨none,.store 27 (.tmp 4) (.tmp 31),0, "line.go:75",#[⟨13,.data⟩,⟨13,.chain⟩,⟨0,.phase⟩,⟨1,.phase⟩,⟨2,.phase⟩,⟨3,.phase⟩,⟨4,.phase⟩,⟨5,.phase⟩,⟨6,.phase⟩,⟨7,.phase⟩,⟨8,.phase⟩,⟨9,.phase⟩,⟨10,.phase⟩,⟨11,.phase⟩,⟨12,.phase⟩,⟨13,.phase⟩],none⟩
def zaa:Array Oper:=#[opJi0,opJi1,opJi2,opJi3,opJi4,opJi5,opJi6,opJi7,opJi8,opJi9,opJi10,opJi11,opJi12,opJi13,opJi14]
def opJiT (i:Nat):Nat:=match i with
 | 0=>18
 | 1=>19
 | 2=>20
 | 3=>21
 | 4=>22
 | 5=>23
 | 6=>24
 | 7=>25
 | 8=>26
 | 9=>27
 | 10=>28
 | 11=>29
 | 12=>30
 | _=>31
def opJiC (g2:Nat) (g3:Nat) (s1:Bool) (x1:Int) (y1:Int) (p1:Option Addr) (s2:Bool) (x2:Int) (y2:Int) (p2:Option Addr) (s3:Bool) (x3:Int) (y3:Int) (p3:Option Addr) (s4:Bool) (x4:Int) (y4:Int) (p4:Option Addr) (s5:Bool) (x5:Int) (y5:Int) (p5:Option Addr) (f1:Rat) (f2:Rat) (f3:Rat) (f4:Rat) (f5:Rat) (i:Nat) (w:World) (v:Value):Prop:=match i with
 | 0=>v=.agg #[.bool s1,.int .u64 x1,.int .u64 y1,.pointer p1]
 | 1=>v=.agg #[.bool s2,.int .u64 x2,.int .u64 y2,.pointer p2]
 | 2=>am w v (f2*f2)
 | 3=>v=.pointer (some ⟨g2,4,none⟩)
 | 4=>v=.agg #[.bool s3,.int .u64 x3,.int .u64 y3,.pointer p3]
 | 5=>am w v (f2*f2*f3)
 | 6=>am w v (f1+f2*f2*f3)
 | 7=>v=.pointer (some ⟨g3,4,none⟩)
 | 8=>v=.agg #[.bool s4,.int .u64 x4,.int .u64 y4,.pointer p4]
 | 9=>am w v (f4*f4)
 | 10=>v=.pointer (some ⟨g2,8,none⟩)
 | 11=>v=.agg #[.bool s5,.int .u64 x5,.int .u64 y5,.pointer p5]
 | 12=>am w v (f4*f4*f5)
 | _=>am w v (f1+f2*f2*f3+f4*f4*f5)
theorem opJiC_but {g2:Nat} {g3:Nat} {s1:Bool} {x1:Int} {y1:Int} {p1:Option Addr} {s2:Bool} {x2:Int} {y2:Int} {p2:Option Addr} {s3:Bool} {x3:Int} {y3:Int} {p3:Option Addr} {s4:Bool} {x4:Int} {y4:Int} {p4:Option Addr} {s5:Bool} {x5:Int} {y5:Int} {p5:Option Addr} {f1:Rat} {f2:Rat} {f3:Rat} {f4:Rat} {f5:Rat} {i:Nat} {w w':World} {v:Value} (h:opJiC g2 g3 s1 x1 y1 p1 s2 x2 y2 p2 s3 x3 y3 p3 s4 x4 y4 p4 s5 x5 y5 p5 f1 f2 f3 f4 f5 i w v) (hi:i<14) (hb:But [] w w'):opJiC g2 g3 s1 x1 y1 p1 s2 x2 y2 p2 s3 x3 y3 p3 s4 x4 y4 p4 s5 x5 y5 p5 f1 f2 f3 f4 f5 i w' v:=by
 have:i=0∨i=1∨i=2∨i=3∨i=4∨i=5∨i=6∨i=7∨i=8∨i=9∨i=10∨i=11∨i=12∨i=13:=by omega
 rcases this with rfl|rfl|rfl|rfl|rfl|rfl|rfl|rfl|rfl|rfl|rfl|rfl|rfl|rfl
 all_goals first | exact h | exact am.but h hb | exact an.but h hb
theorem opJiT_inj:∀ i j,i<14→j<14→opJiT i=opJiT j→i=j:=fun i j hi hj=>(by decide:∀ i,i<14→∀ j,j<14→opJiT i=opJiT j→i=j) i hi j hj
theorem amiss_region3 (id:Nat) (Q:Exit→Act→World→Prop) (base:Act) (W0:World) (g2:Nat) (g3:Nat) (s1:Bool) (x1:Int) (y1:Int) (p1:Option Addr) (s2:Bool) (x2:Int) (y2:Int) (p2:Option Addr) (s3:Bool) (x3:Int) (y3:Int) (p3:Option Addr) (s4:Bool) (x4:Int) (y4:Int) (p4:Option Addr) (s5:Bool) (x5:Int) (y5:Int) (p5:Option Addr) (f1:Rat) (f2:Rat) (f3:Rat) (f4:Rat) (f5:Rat) (gb g5 g6:Nat) {sb:Bool} {xb yb:Int} {pb:Option Addr} (hs:31<base.tmps.size) (eb:base.eval (.tmp 4)=.pointer (some ⟨gb,0,none⟩)) (cb:P4 W0 gb sb xb yb pb) (fzb:∀ j,W0.frozen? ⟨gb,j,none⟩=false) (e6:base.eval (.tmp 6)=.pointer (some ⟨g6,0,none⟩)) (e5:base.eval (.tmp 5)=.pointer (some ⟨g5,0,none⟩)) (e2:base.eval (.tmp 2)=.pointer (some ⟨g2,0,none⟩)) (e3:base.eval (.tmp 3)=.pointer (some ⟨g3,0,none⟩))
  (c1:P4 W0 g6 s1 x1 y1 p1) (c2:P4 W0 g5 s2 x2 y2 p2) (c3:P4o W0 g2 4 s3 x3 y3 p3) (c4:P4o W0 g3 4 s4 x4 y4 p4) (c5:P4o W0 g2 8 s5 x5 y5 p5)
  (SQ:∀ w,But [] W0 w→Calls prog 117 #[.agg #[.bool s2,.int .u64 x2,.int .u64 y2,.pointer p2]] w fun e w'=>∃ v,e=.returned v∧am w' v (f2*f2)∧But [] w w')
  (MU:∀ w,But [] W0 w→∀ v,am w v (f2*f2)→Calls prog 56 #[v,.agg #[.bool s3,.int .u64 x3,.int .u64 y3,.pointer p3]] w fun e w'=>∃ v,e=.returned v∧am w' v (f2*f2*f3)∧But [] w w')
  (AD:∀ w,But [] W0 w→∀ v,am w v (f2*f2*f3)→Calls prog 73 #[.agg #[.bool s1,.int .u64 x1,.int .u64 y1,.pointer p1],v] w fun e w'=>∃ v,e=.returned v∧am w' v (f1+f2*f2*f3)∧But [] w w')
  (SQ2:∀ w,But [] W0 w→Calls prog 117 #[.agg #[.bool s4,.int .u64 x4,.int .u64 y4,.pointer p4]] w fun e w'=>∃ v,e=.returned v∧am w' v (f4*f4)∧But [] w w')
  (MU2:∀ w,But [] W0 w→∀ v,am w v (f4*f4)→Calls prog 56 #[v,.agg #[.bool s5,.int .u64 x5,.int .u64 y5,.pointer p5]] w fun e w'=>∃ v,e=.returned v∧am w' v (f4*f4*f5)∧But [] w w')
  (AD2:∀ w,But [] W0 w→∀ v u,am w v (f1+f2*f2*f3)→am w u (f4*f4*f5)→Calls prog 73 #[v,u] w fun e w'=>∃ v,e=.returned v∧am w' v (f1+f2*f2*f3+f4*f4*f5)∧But [] w w')
  (hQ:∀ w1 v2 v5 v6 v9 v12 s' x' y' p',But [] W0 w1→am w1 (.agg #[.bool s',.int .u64 x',.int .u64 y',.pointer p']) (f1+f2*f2*f3+f4*f4*f5)→Q .normal (bi base [(18,.agg #[.bool s1,.int .u64 x1,.int .u64 y1,.pointer p1]),(19,.agg #[.bool s2,.int .u64 x2,.int .u64 y2,.pointer p2]),(20,v2),(21,.pointer (some ⟨g2,4,none⟩)),(22,.agg #[.bool s3,.int .u64 x3,.int .u64 y3,.pointer p3]),(23,v5),(24,v6),(25,.pointer (some ⟨g3,4,none⟩)),(26,.agg #[.bool s4,.int .u64 x4,.int .u64 y4,.pointer p4]),(27,v9),(28,.pointer (some ⟨g2,8,none⟩)),(29,.agg #[.bool s5,.int .u64 x5,.int .u64 y5,.pointer p5]),(30,v12),(31,(.agg #[.bool s',.int .u64 x',.int .u64 y',.pointer p']))]) (jk w1 gb s' x' y' p')) :
  (Code.region id zaa true).wp prog Q base W0:=by
 have hdr:∀ {w},But [] W0.drew w→But [] W0 w:=fun h=>(But.refl _ _).drew.trans' h
 have lgb:gb<W0.heap.size:=ai cb.1
 have hT:∀ i,i<14→opJiT i<base.tmps.size:=fun i hi=>by
  have h:opJiT i≤31:=by revert i;decide
  omega
 refine zas (by kernel_rfl) (ay (by kernel_rfl)) (fun i o ho=>(zbj (ops:=zaa) (by kernel_rfl) i o ho).1)
  (fun _ w=>But [] W0.drew w) (opJiC g2 g3 s1 x1 y1 p1 s2 x2 y2 p2 s3 x3 y3 p3 s4 x4 y4 p4 s5 x5 y5 p5 f1 f2 f3 f4 f5) opJiT 14 rfl opJiT_inj hT (But.refl _ _)
  (fun i hi=>?_) ?_ (fun a w=>∃ w1 v2 v5 v6 v9 v12 s' x' y' p',a=bi base [(18,.agg #[.bool s1,.int .u64 x1,.int .u64 y1,.pointer p1]),(19,.agg #[.bool s2,.int .u64 x2,.int .u64 y2,.pointer p2]),(20,v2),(21,.pointer (some ⟨g2,4,none⟩)),(22,.agg #[.bool s3,.int .u64 x3,.int .u64 y3,.pointer p3]),(23,v5),(24,v6),(25,.pointer (some ⟨g3,4,none⟩)),(26,.agg #[.bool s4,.int .u64 x4,.int .u64 y4,.pointer p4]),(27,v9),(28,.pointer (some ⟨g2,8,none⟩)),(29,.agg #[.bool s5,.int .u64 x5,.int .u64 y5,.pointer p5]),(30,v12),(31,(.agg #[.bool s',.int .u64 x',.int .u64 y',.pointer p']))]∧w=jk w1 gb s' x' y' p'∧But [] W0 w1∧am w1 (.agg #[.bool s',.int .u64 x',.int .u64 y',.pointer p']) (f1+f2*f2*f3+f4*f4*f5)) ?_ ?_
 ·exact nk (ops:=zaa) (ps:=[(14,0),(14,1),(14,2),(14,3),(14,4),(14,5),(14,6),(14,7),(14,8),(14,9),(14,10),(14,11),(14,12),(14,13)]) (by kernel_rfl) 14 i (by
   have:i=0∨i=1∨i=2∨i=3∨i=4∨i=5∨i=6∨i=7∨i=8∨i=9∨i=10∨i=11∨i=12∨i=13:=by omega
   rcases this with rfl|rfl|rfl|rfl|rfl|rfl|rfl|rfl|rfl|rfl|rfl|rfl|rfl|rfl <;> simp)
 ·intro dn i o a w K hi ho hdi hH he hdep hK
  have hD:=fun j hj=>(l9 (ps:=[(2,1),(4,3),(5,2),(5,4),(6,0),(6,5),(8,7),(9,6),(9,8),(11,10),(12,9),(12,11),(13,6),(13,12)]) (by kernel_rfl) ho (fun j=>dn j=true∧opJiC g2 g3 s1 x1 y1 p1 s2 x2 y2 p2 s3 x3 y3 p3 s4 x4 y4 p4 s5 x5 y5 p5 f1 f2 f3 f4 f5 j w (a.eval (.tmp (opJiT j)))) hdep j hj).2
  have hk:∀ v w',But [] w w'→opJiC g2 g3 s1 x1 y1 p1 s2 x2 y2 p2 s3 x3 y3 p3 s4 x4 y4 p4 s5 x5 y5 p5 f1 f2 f3 f4 f5 i w' v→K (a.put (some (opJiT i)) v) w':=fun v w' hb hv=>hK v w' (hH.trans' hb) (fun j hj _ u hu=>opJiC_but hu hj hb) hv
  have eb':=(he 4 (fun j hj e=>absurd e.symm (by revert j;decide))).trans eb
  have e6':=(he 6 (fun j hj e=>absurd e.symm (by revert j;decide))).trans e6
  have e5':=(he 5 (fun j hj e=>absurd e.symm (by revert j;decide))).trans e5
  have e2':=(he 2 (fun j hj e=>absurd e.symm (by revert j;decide))).trans e2
  have e3':=(he 3 (fun j hj e=>absurd e.symm (by revert j;decide))).trans e3
  have:i=0∨i=1∨i=2∨i=3∨i=4∨i=5∨i=6∨i=7∨i=8∨i=9∨i=10∨i=11∨i=12∨i=13:=by omega
  rcases this with rfl|rfl|rfl|rfl|rfl|rfl|rfl|rfl|rfl|rfl|rfl|rfl|rfl|rfl
  ·obtain rfl:=so (show zaa[0]? =some opJi0 from rfl) ho
   exact al (au a w _ _ _ _ _ _ g6 0 _ _ _ _ e6' (c1.but (hdr hH) (by simp))) (hk _ _ (But.refl _ _) rfl)
  ·obtain rfl:=so (show zaa[1]? =some opJi1 from rfl) ho
   exact al (au a w _ _ _ _ _ _ g5 0 _ _ _ _ e5' (c2.but (hdr hH) (by simp))) (hk _ _ (But.refl _ _) rfl)
  ·obtain rfl:=so (show zaa[2]? =some opJi2 from rfl) ho
   exact ax (zcj a w _ _ _ _ _ _ _ (hD 1 (by simp))) (R:=fun w' v=>am w' v (f2*f2)∧But [] w w') (SQ w (hdr hH)) (fun v w' hv=>hk v w' hv.2 hv.1)
  ·obtain rfl:=so (show zaa[3]? =some opJi3 from rfl) ho
   exact al (run_fM1 a w _ _ _ _ _ _ g2 e2') (hk _ _ (But.refl _ _) rfl)
  ·obtain rfl:=so (show zaa[4]? =some opJi4 from rfl) ho
   exact al (au a w _ _ _ _ _ _ g2 4 _ _ _ _ (hD 3 (by simp)) (c3.but (hdr hH) (by simp))) (hk _ _ (But.refl _ _) rfl)
  ·obtain rfl:=so (show zaa[5]? =some opJi5 from rfl) ho
   exact ax (zfc a w _ _ _ _ _ _ _ _ _ rfl (hD 4 (by simp))) (R:=fun w' v=>am w' v (f2*f2*f3)∧But [] w w') (MU w (hdr hH) _ (hD 2 (by simp))) (fun v w' hv=>hk v w' hv.2 hv.1)
  ·obtain rfl:=so (show zaa[6]? =some opJi6 from rfl) ho
   exact ax (run_addK a w _ _ _ _ _ _ _ _ _ (hD 0 (by simp)) rfl) (R:=fun w' v=>am w' v (f1+f2*f2*f3)∧But [] w w') (AD w (hdr hH) _ (hD 5 (by simp))) (fun v w' hv=>hk v w' hv.2 hv.1)
  ·obtain rfl:=so (show zaa[7]? =some opJi7 from rfl) ho
   exact al (run_fL1 a w _ _ _ _ _ _ g3 e3') (hk _ _ (But.refl _ _) rfl)
  ·obtain rfl:=so (show zaa[8]? =some opJi8 from rfl) ho
   exact al (au a w _ _ _ _ _ _ g3 4 _ _ _ _ (hD 7 (by simp)) (c4.but (hdr hH) (by simp))) (hk _ _ (But.refl _ _) rfl)
  ·obtain rfl:=so (show zaa[9]? =some opJi9 from rfl) ho
   exact ax (zcj a w _ _ _ _ _ _ _ (hD 8 (by simp))) (R:=fun w' v=>am w' v (f4*f4)∧But [] w w') (SQ2 w (hdr hH)) (fun v w' hv=>hk v w' hv.2 hv.1)
  ·obtain rfl:=so (show zaa[10]? =some opJi10 from rfl) ho
   exact al (run_fM2 a w _ _ _ _ _ _ g2 e2') (hk _ _ (But.refl _ _) rfl)
  ·obtain rfl:=so (show zaa[11]? =some opJi11 from rfl) ho
   exact al (au a w _ _ _ _ _ _ g2 8 _ _ _ _ (hD 10 (by simp)) (c5.but (hdr hH) (by simp))) (hk _ _ (But.refl _ _) rfl)
  ·obtain rfl:=so (show zaa[12]? =some opJi12 from rfl) ho
   exact ax (zfc a w _ _ _ _ _ _ _ _ _ rfl (hD 11 (by simp))) (R:=fun w' v=>am w' v (f4*f4*f5)∧But [] w w') (MU2 w (hdr hH) _ (hD 9 (by simp))) (fun v w' hv=>hk v w' hv.2 hv.1)
  ·obtain rfl:=so (show zaa[13]? =some opJi13 from rfl) ho
   exact ax (run_addK a w _ _ _ _ _ _ _ _ _ rfl rfl) (R:=fun w' v=>am w' v (f1+f2*f2*f3+f4*f4*f5)∧But [] w w') (AD2 w (hdr hH) _ _ (hD 6 (by simp)) (hD 12 (by simp))) (fun v w' hv=>hk v w' hv.2 hv.1)
 ·intro dn o a w K ho hall h hK
  obtain rfl:=so (show zaa[14]? =some opJi14 from rfl) ho
  have eb':=(h.eval 4 (fun j hj e=>absurd e.symm (by revert j;decide))).trans eb
  have cl:am w (a.eval (.tmp 31)) (f1+f2*f2*f3+f4*f4*f5):=h.has 13 (by omega) (hall 13 (by omega))
  have cl':=cl
  obtain⟨x',y',p',ev,-⟩:=cl.agg
  rw[ev] at cl'
  have ea:=h.puts hT (fun i=>match i with
   | 0=>.agg #[.bool s1,.int .u64 x1,.int .u64 y1,.pointer p1]
   | 1=>.agg #[.bool s2,.int .u64 x2,.int .u64 y2,.pointer p2]
   | 2=>a.eval (.tmp 20)
   | 3=>.pointer (some ⟨g2,4,none⟩)
   | 4=>.agg #[.bool s3,.int .u64 x3,.int .u64 y3,.pointer p3]
   | 5=>a.eval (.tmp 23)
   | 6=>a.eval (.tmp 24)
   | 7=>.pointer (some ⟨g3,4,none⟩)
   | 8=>.agg #[.bool s4,.int .u64 x4,.int .u64 y4,.pointer p4]
   | 9=>a.eval (.tmp 27)
   | 10=>.pointer (some ⟨g2,8,none⟩)
   | 11=>.agg #[.bool s5,.int .u64 x5,.int .u64 y5,.pointer p5]
   | 12=>a.eval (.tmp 30)
   | _=>.agg #[.bool (decide ((f1+f2*f2*f3+f4*f4*f5).num<0)),.int .u64 x',.int .u64 y',.pointer p']) (fun i hi=>by
   have hc:=h.has i hi (hall i hi)
   have:i=0∨i=1∨i=2∨i=3∨i=4∨i=5∨i=6∨i=7∨i=8∨i=9∨i=10∨i=11∨i=12∨i=13:=by omega
   rcases this with rfl|rfl|rfl|rfl|rfl|rfl|rfl|rfl|rfl|rfl|rfl|rfl|rfl|rfl
   all_goals first | exact ev | exact hc|rfl)
  exact ve (oq a w _ _ _ _ _ gb _ x' y' p' eb' ev (cb.but (hdr h.mem) (by simp)) (fun j=>((hdr h.mem).frozen (p:=⟨gb,j,none⟩) lgb (by simp)).trans (fzb j))) (hK _ _ ⟨w,a.eval (.tmp 20),a.eval (.tmp 23),a.eval (.tmp 24),a.eval (.tmp 27),a.eval (.tmp 30),_,x',y',p',ea,rfl,hdr h.mem,cl'⟩)
 ·rintro a w ⟨w1,v2,v5,v6,v9,v12,s',x',y',p',rfl,rfl,h1,h2⟩
  exact hQ  w1 v2 v5 v6 v9 v12 s' x' y' p' h1 h2
def opJj0:Oper:=⟨some 24,.load 27 (.tmp 8),27, "line.go:21",#[],none⟩
def opJj1:Oper:=⟨some 25,.call { callee:=.value (.func 55),args:=#[.tmp 24],argTypes:=#[27] },27, "line.go:21",#[⟨0,.data⟩],none⟩
def opJj2:Oper:=⟨some 26,.fieldAddr 112 (.tmp 7) 0,0, "line.go:21",#[],none⟩
def opJj3:Oper:=⟨some 27,.load 27 (.tmp 26),27, "line.go:21",#[⟨2,.data⟩],none⟩
def opJj4:Oper:=⟨some 28,.call { callee:=.value (.func 56),args:=#[.tmp 25,.tmp 27],argTypes:=#[27,27] },27, "line.go:21",#[⟨1,.data⟩,⟨3,.data⟩,⟨1,.chain⟩],none⟩
def opJj5:Oper:=⟨some 29,.load 27 (.tmp 8),27, "line.go:21",#[],none⟩
def opJj6:Oper:=⟨some 30,.build 50 #[(0,.tmp 28),(1,.tmp 29)],50, "line.go:21",#[⟨4,.data⟩,⟨5,.data⟩],none⟩
def opJj7:Oper:=⟨none,.store 50 (.tmp 4) (.tmp 30),0, "line.go:21",#[⟨6,.data⟩,⟨4,.chain⟩,⟨0,.phase⟩,⟨1,.phase⟩,⟨2,.phase⟩,⟨3,.phase⟩,⟨4,.phase⟩,⟨5,.phase⟩,⟨6,.phase⟩],none⟩
def opJj8:Oper:=⟨some 5,.assign (.const .nilIface),29, "line.go:21",#[⟨7,.chain⟩,⟨0,.phase⟩,⟨1,.phase⟩,⟨2,.phase⟩,⟨3,.phase⟩,⟨4,.phase⟩,⟨5,.phase⟩,⟨6,.phase⟩,⟨7,.phase⟩],none⟩
def zdl:Array Oper:=#[opJj0,opJj1,opJj2,opJj3,opJj4,opJj5,opJj6,opJj7,opJj8]
def opJjT (i:Nat):Nat:=match i with
 | 0=>24
 | 1=>25
 | 2=>26
 | 3=>27
 | 4=>28
 | 5=>29
 | _=>30
def opJjC (g7:Nat) (s1:Bool) (x1:Int) (y1:Int) (p1:Option Addr) (s2:Bool) (x2:Int) (y2:Int) (p2:Option Addr) (f1:Rat) (f2:Rat) (i:Nat) (w:World) (v:Value):Prop:=match i with
 | 0=>v=.agg #[.bool s1,.int .u64 x1,.int .u64 y1,.pointer p1]
 | 1=>am w v (((1:Int):Rat)-f1)
 | 2=>v=.pointer (some ⟨g7,0,none⟩)
 | 3=>v=.agg #[.bool s2,.int .u64 x2,.int .u64 y2,.pointer p2]
 | 4=>am w v ((((1:Int):Rat)-f1)*f2)
 | 5=>am w v f1
 | _=>zep ((((1:Int):Rat)-f1)*f2) (f1) w v
theorem opJjC_but {g7:Nat} {s1:Bool} {x1:Int} {y1:Int} {p1:Option Addr} {s2:Bool} {x2:Int} {y2:Int} {p2:Option Addr} {f1:Rat} {f2:Rat} {i:Nat} {w w':World} {v:Value} (h:opJjC g7 s1 x1 y1 p1 s2 x2 y2 p2 f1 f2 i w v) (hi:i<7) (hb:But [] w w'):opJjC g7 s1 x1 y1 p1 s2 x2 y2 p2 f1 f2 i w' v:=by
 have:i=0∨i=1∨i=2∨i=3∨i=4∨i=5∨i=6:=by omega
 rcases this with rfl|rfl|rfl|rfl|rfl|rfl|rfl
 ·exact (show v=.agg #[.bool s1,.int .u64 x1,.int .u64 y1,.pointer p1] from h)
 ·exact am.but (show am w v (((1:Int):Rat)-f1) from h) hb
 ·exact (show v=.pointer (some ⟨g7,0,none⟩) from h)
 ·exact (show v=.agg #[.bool s2,.int .u64 x2,.int .u64 y2,.pointer p2] from h)
 ·exact am.but (show am w v ((((1:Int):Rat)-f1)*f2) from h) hb
 ·exact am.but (show am w v f1 from h) hb
 ·exact zep.but (show zep ((((1:Int):Rat)-f1)*f2) (f1) w v from h) hb
theorem opJjT_inj:∀ i j,i<7→j<7→opJjT i=opJjT j→i=j:=fun i j hi hj=>(by decide:∀ i,i<7→∀ j,j<7→opJjT i=opJjT j→i=j) i hi j hj
theorem linear_region (id:Nat) (Q:Exit→Act→World→Prop) (base:Act) (W0:World) (g7:Nat) (s1:Bool) (x1:Int) (y1:Int) (p1:Option Addr) (s2:Bool) (x2:Int) (y2:Int) (p2:Option Addr) (f1:Rat) (f2:Rat) (gb g8:Nat) {vb:List Value} (hs:30<base.tmps.size) (eb:base.eval (.tmp 4)=.pointer (some ⟨gb,0,none⟩)) (cb:dm W0 gb vb) (hvb:vb.length=8) (e8:base.eval (.tmp 8)=.pointer (some ⟨g8,0,none⟩)) (e7:base.eval (.tmp 7)=.pointer (some ⟨g7,0,none⟩))
  (c1:P4 W0 g8 s1 x1 y1 p1) (c2:P4o W0 g7 0 s2 x2 y2 p2) (F1:am W0 (.agg #[.bool s1,.int .u64 x1,.int .u64 y1,.pointer p1]) f1)
  (RE:∀ w,But [] W0 w→Calls prog 55 #[.agg #[.bool s1,.int .u64 x1,.int .u64 y1,.pointer p1]] w fun e w'=>∃ v,e=.returned v∧am w' v (((1:Int):Rat)-f1)∧But [] w w')
  (MU:∀ w,But [] W0 w→∀ v,am w v (((1:Int):Rat)-f1)→Calls prog 56 #[v,.agg #[.bool s2,.int .u64 x2,.int .u64 y2,.pointer p2]] w fun e w'=>∃ v,e=.returned v∧am w' v ((((1:Int):Rat)-f1)*f2)∧But [] w w')
  (hQ:∀ w1 v1 v4 v5 a1 b1 c1 d1 a2 b2 c2 d2,But [] W0 w1→am w1 (.agg #[.bool a1,.int .u64 b1,.int .u64 c1,.pointer d1]) ((((1:Int):Rat)-f1)*f2)→am w1 (.agg #[.bool a2,.int .u64 b2,.int .u64 c2,.pointer d2]) (f1)→Q .normal (bi base [(24,.agg #[.bool s1,.int .u64 x1,.int .u64 y1,.pointer p1]),(25,v1),(26,.pointer (some ⟨g7,0,none⟩)),(27,.agg #[.bool s2,.int .u64 x2,.int .u64 y2,.pointer p2]),(28,v4),(29,v5),(30,.agg #[.bool a1,.int .u64 b1,.int .u64 c1,.pointer d1,.bool a2,.int .u64 b2,.int .u64 c2,.pointer d2]),(5,.nilIface)]) (w1.setCells gb 0 [.bool a1,.int .u64 b1,.int .u64 c1,.pointer d1,.bool a2,.int .u64 b2,.int .u64 c2,.pointer d2])) :
  (Code.region id zdl true).wp prog Q base W0:=by
 have hdr:∀ {w},But [] W0.drew w→But [] W0 w:=fun h=>(But.refl _ _).drew.trans' h
 have hT:∀ i,i<7→opJjT i<base.tmps.size:=fun i hi=>by
  have h:opJjT i≤30:=by revert i;decide
  omega
 refine region_flow2 (by kernel_rfl) (ay (by kernel_rfl)) (fun i o ho=>(zbj (ops:=zdl) (by kernel_rfl) i o ho).1)
  (fun _ w=>But [] W0.drew w) (opJjC g7 s1 x1 y1 p1 s2 x2 y2 p2 f1 f2) opJjT 7 rfl opJjT_inj hT (But.refl _ _)
  (fun i hi=>?_) (nk (ops:=zdl) (ps:=[(8,7)]) (by kernel_rfl) 8 7 (by simp)) ?_ (fun a w=>∃ w1 v1 v4 v5 a1 b1 c1 d1 a2 b2 c2 d2,a=bi base [(24,.agg #[.bool s1,.int .u64 x1,.int .u64 y1,.pointer p1]),(25,v1),(26,.pointer (some ⟨g7,0,none⟩)),(27,.agg #[.bool s2,.int .u64 x2,.int .u64 y2,.pointer p2]),(28,v4),(29,v5),(30,.agg #[.bool a1,.int .u64 b1,.int .u64 c1,.pointer d1,.bool a2,.int .u64 b2,.int .u64 c2,.pointer d2])]∧w=w1.setCells gb 0 [.bool a1,.int .u64 b1,.int .u64 c1,.pointer d1,.bool a2,.int .u64 b2,.int .u64 c2,.pointer d2]∧But [] W0 w1∧am w1 (.agg #[.bool a1,.int .u64 b1,.int .u64 c1,.pointer d1]) ((((1:Int):Rat)-f1)*f2)∧am w1 (.agg #[.bool a2,.int .u64 b2,.int .u64 c2,.pointer d2]) (f1)) (fun a w=>∃ w1 v1 v4 v5 a1 b1 c1 d1 a2 b2 c2 d2,a=bi base [(24,.agg #[.bool s1,.int .u64 x1,.int .u64 y1,.pointer p1]),(25,v1),(26,.pointer (some ⟨g7,0,none⟩)),(27,.agg #[.bool s2,.int .u64 x2,.int .u64 y2,.pointer p2]),(28,v4),(29,v5),(30,.agg #[.bool a1,.int .u64 b1,.int .u64 c1,.pointer d1,.bool a2,.int .u64 b2,.int .u64 c2,.pointer d2]),(5,.nilIface)]∧w=w1.setCells gb 0 [.bool a1,.int .u64 b1,.int .u64 c1,.pointer d1,.bool a2,.int .u64 b2,.int .u64 c2,.pointer d2]∧But [] W0 w1∧am w1 (.agg #[.bool a1,.int .u64 b1,.int .u64 c1,.pointer d1]) ((((1:Int):Rat)-f1)*f2)∧am w1 (.agg #[.bool a2,.int .u64 b2,.int .u64 c2,.pointer d2]) (f1)) ?_ ?_ ?_
 ·exact nk (ops:=zdl) (ps:=[(7,0),(7,1),(7,2),(7,3),(7,4),(7,5),(7,6)]) (by kernel_rfl) 7 i (by
   have:i=0∨i=1∨i=2∨i=3∨i=4∨i=5∨i=6:=by omega
   rcases this with rfl|rfl|rfl|rfl|rfl|rfl|rfl <;> simp)
 ·intro dn i o a w K hi ho hdi hH he hdep hK
  have hD:=fun j hj=>(l9 (ps:=[(1,0),(3,2),(4,1),(4,3),(6,4),(6,5)]) (by kernel_rfl) ho (fun j=>dn j=true∧opJjC g7 s1 x1 y1 p1 s2 x2 y2 p2 f1 f2 j w (a.eval (.tmp (opJjT j)))) hdep j hj).2
  have hk:∀ v w',But [] w w'→opJjC g7 s1 x1 y1 p1 s2 x2 y2 p2 f1 f2 i w' v→K (a.put (some (opJjT i)) v) w':=fun v w' hb hv=>hK v w' (hH.trans' hb) (fun j hj _ u hu=>opJjC_but hu hj hb) hv
  have e8':=(he 8 (fun j hj e=>absurd e.symm (by revert j;decide))).trans e8
  have e7':=(he 7 (fun j hj e=>absurd e.symm (by revert j;decide))).trans e7
  have:i=0∨i=1∨i=2∨i=3∨i=4∨i=5∨i=6:=by omega
  rcases this with rfl|rfl|rfl|rfl|rfl|rfl|rfl
  ·obtain rfl:=so (show zdl[0]? =some opJj0 from rfl) ho
   exact al (au a w _ _ _ _ _ _ g8 0 _ _ _ _ e8' (c1.but (hdr hH) (by simp))) (hk _ _ (But.refl _ _) rfl)
  ·obtain rfl:=so (show zdl[1]? =some opJj1 from rfl) ho
   exact ax (run_restJ a w _ _ _ _ _ _ _ (hD 0 (by simp))) (R:=fun w' v=>am w' v (((1:Int):Rat)-f1)∧But [] w w') (RE w (hdr hH)) (fun v w' hv=>hk v w' hv.2 hv.1)
  ·obtain rfl:=so (show zdl[2]? =some opJj2 from rfl) ho
   exact al (run_fM0 a w _ _ _ _ _ _ g7 e7') (hk _ _ (But.refl _ _) rfl)
  ·obtain rfl:=so (show zdl[3]? =some opJj3 from rfl) ho
   exact al (au a w _ _ _ _ _ _ g7 0 _ _ _ _ (hD 2 (by simp)) (c2.but (hdr hH) (by simp))) (hk _ _ (But.refl _ _) rfl)
  ·obtain rfl:=so (show zdl[4]? =some opJj4 from rfl) ho
   exact ax (zfc a w _ _ _ _ _ _ _ _ _ rfl (hD 3 (by simp))) (R:=fun w' v=>am w' v ((((1:Int):Rat)-f1)*f2)∧But [] w w') (MU w (hdr hH) _ (hD 1 (by simp))) (fun v w' hv=>hk v w' hv.2 hv.1)
  ·obtain rfl:=so (show zdl[5]? =some opJj5 from rfl) ho
   exact al (au a w _ _ _ _ _ _ g8 0 _ _ _ _ e8' (c1.but (hdr hH) (by simp))) (hk _ _ (But.refl _ _) (F1.but (hdr hH)))
  ·obtain rfl:=so (show zdl[6]? =some opJj6 from rfl) ho
   have q1:am w (a.eval (.tmp 28)) ((((1:Int):Rat)-f1)*f2):=hD 4 (by simp)
   obtain⟨b1,c1,d1,e1,-⟩:=q1.agg
   rw[e1] at q1
   have q2:am w (a.eval (.tmp 29)) (f1):=hD 5 (by simp)
   obtain⟨b2,c2,d2,e2,-⟩:=q2.agg
   rw[e2] at q2
   exact al (run_bdLineAt a w _ _ _ _ _ _ _ _ b1 c1 d1 _ b2 c2 d2 e1 e2) (hk _ _ (But.refl _ _) ⟨_,b1,c1,d1,_,b2,c2,d2,rfl,q1,q2⟩)
 ·intro dn o a w K ho hall h hK
  obtain rfl:=so (show zdl[7]? =some opJj7 from rfl) ho
  have eb':=(h.eval 4 (fun j hj e=>absurd e.symm (by revert j;decide))).trans eb
  obtain⟨a1,b1,c1,d1,a2,b2,c2,d2,ev,h1,h2⟩:zep ((((1:Int):Rat)-f1)*f2) (f1) w (a.eval (.tmp 30)):=h.has 6 (by omega) (hall 6 (by omega))
  have ea:=h.puts hT (fun i=>match i with
   | 0=>.agg #[.bool s1,.int .u64 x1,.int .u64 y1,.pointer p1]
   | 1=>a.eval (.tmp 25)
   | 2=>.pointer (some ⟨g7,0,none⟩)
   | 3=>.agg #[.bool s2,.int .u64 x2,.int .u64 y2,.pointer p2]
   | 4=>a.eval (.tmp 28)
   | 5=>a.eval (.tmp 29)
   | _=>.agg #[.bool a1,.int .u64 b1,.int .u64 c1,.pointer d1,.bool a2,.int .u64 b2,.int .u64 c2,.pointer d2]) (fun i hi=>by
   have hc:=h.has i hi (hall i hi)
   have:i=0∨i=1∨i=2∨i=3∨i=4∨i=5∨i=6:=by omega
   rcases this with rfl|rfl|rfl|rfl|rfl|rfl|rfl
   ·exact hc
   ·rfl
   ·exact hc
   ·exact hc
   ·rfl
   ·rfl
   ·exact ev)
  exact ve (run_stLineAt a w _ _ _ _ _ gb a1 b1 c1 d1 a2 b2 c2 d2 eb' ev (cb.but (hdr h.mem) (by simp) (by omega)) hvb) (hK _ _ ⟨w,a.eval (.tmp 25),a.eval (.tmp 28),a.eval (.tmp 29),a1,b1,c1,d1,a2,b2,c2,d2,ea,rfl,hdr h.mem,h1,h2⟩)
 ·rintro o a w K ho ⟨w1,v1,v4,v5,a1,b1,c1,d1,a2,b2,c2,d2,ha,hw,hb1,h1,h2⟩ hK
  obtain rfl:=so (show zdl[8]? =some opJj8 from rfl) ho
  exact al (run_nilJ _ _ _ _ _ _ _) (hK _ _ ⟨w1,v1,v4,v5,a1,b1,c1,d1,a2,b2,c2,d2,by rw[ha];exact zco _ _ _ _,hw,hb1,h1,h2⟩)
 ·rintro a w ⟨w1,v1,v4,v5,a1,b1,c1,d1,a2,b2,c2,d2,rfl,rfl,hb1,h1,h2⟩
  exact hQ w1 v1 v4 v5 a1 b1 c1 d1 a2 b2 c2 d2 hb1 h1 h2
def opJk0:Oper:=⟨some 16,.move (.tmp 0),42, "line.go:29",#[],none⟩
def opJk1:Oper:=⟨some 17,.move (.tmp 1),3, "line.go:29",#[],none⟩
def opJk2:Oper:=⟨some 18,.call { callee:=.value (.func 53),args:=#[.tmp 16,.tmp 17],argTypes:=#[42,3] },112, "line.go:29",#[⟨0,.data⟩,⟨1,.data⟩],none⟩
def opJk3:Oper:=⟨some 19,.load 50 (.tmp 5),50, "line.go:29",#[],none⟩
def opJk4:Oper:=⟨some 20,.call { callee:=.value (.func 57),args:=#[.tmp 18,.tmp 19],argTypes:=#[112,50] },27, "line.go:29",#[⟨2,.data⟩,⟨3,.data⟩,⟨2,.chain⟩],none⟩
def opJk5:Oper:=⟨none,.store 27 (.tmp 6) (.tmp 20),0, "line.go:29",#[⟨4,.data⟩,⟨4,.chain⟩,⟨0,.phase⟩,⟨1,.phase⟩,⟨2,.phase⟩,⟨3,.phase⟩,⟨4,.phase⟩],none⟩
def opJk6:Oper:=⟨some 7,.assign (.const .nilIface),29, "line.go:29",#[⟨5,.chain⟩,⟨0,.phase⟩,⟨1,.phase⟩,⟨2,.phase⟩,⟨3,.phase⟩,⟨4,.phase⟩,⟨5,.phase⟩],none⟩
def zfk:Array Oper:=#[opJk0,opJk1,opJk2,opJk3,opJk4,opJk5,opJk6]
def opJkT (i:Nat):Nat:=match i with
 | 0=>16
 | 1=>17
 | 2=>18
 | 3=>19
 | _=>20
def opJkC (n:Int) (vk:Value) (s1:Bool) (x1:Int) (y1:Int) (p1:Option Addr) (s2:Bool) (x2:Int) (y2:Int) (p2:Option Addr) (m1:Rat) (m2:Rat) (m3:Rat) (f:Rat) (i:Nat) (w:World) (v:Value):Prop:=match i with
 | 0=>v=vk
 | 1=>v=.int .i64 n
 | 2=>zac m1 m2 m3 w v
 | 3=>v=.agg #[.bool s1,.int .u64 x1,.int .u64 y1,.pointer p1,.bool s2,.int .u64 x2,.int .u64 y2,.pointer p2]
 | _=>am w v f
theorem opJkC_but {n:Int} {vk:Value} {s1:Bool} {x1:Int} {y1:Int} {p1:Option Addr} {s2:Bool} {x2:Int} {y2:Int} {p2:Option Addr} {m1:Rat} {m2:Rat} {m3:Rat} {f:Rat} {i:Nat} {w w':World} {v:Value} (h:opJkC n vk s1 x1 y1 p1 s2 x2 y2 p2 m1 m2 m3 f i w v) (hi:i<5) (hb:But [] w w'):opJkC n vk s1 x1 y1 p1 s2 x2 y2 p2 m1 m2 m3 f i w' v:=by
 have:i=0∨i=1∨i=2∨i=3∨i=4:=by omega
 rcases this with rfl|rfl|rfl|rfl|rfl
 ·exact (show v=vk from h)
 ·exact (show v=.int .i64 n from h)
 ·exact zac.but (show zac m1 m2 m3 w v from h) hb
 ·exact (show v=.agg #[.bool s1,.int .u64 x1,.int .u64 y1,.pointer p1,.bool s2,.int .u64 x2,.int .u64 y2,.pointer p2] from h)
 ·exact am.but (show am w v f from h) hb
theorem opJkT_inj:∀ i j,i<5→j<5→opJkT i=opJkT j→i=j:=fun i j hi hj=>(by decide:∀ i,i<5→∀ j,j<5→opJkT i=opJkT j→i=j) i hi j hj
theorem amissTop_region (id:Nat) (Q:Exit→Act→World→Prop) (base:Act) (W0:World) (n:Int) (vk:Value) (s1:Bool) (x1:Int) (y1:Int) (p1:Option Addr) (s2:Bool) (x2:Int) (y2:Int) (p2:Option Addr) (m1:Rat) (m2:Rat) (m3:Rat) (f:Rat) (gb g5:Nat) {sb:Bool} {xb yb:Int} {pb:Option Addr} (hs:20<base.tmps.size) (eb:base.eval (.tmp 6)=.pointer (some ⟨gb,0,none⟩)) (cb:P4 W0 gb sb xb yb pb) (fzb:∀ j,W0.frozen? ⟨gb,j,none⟩=false) (e0:base.eval (.tmp 0)=vk) (e1:base.eval (.tmp 1)=.int .i64 n) (e5:base.eval (.tmp 5)=.pointer (some ⟨g5,0,none⟩)) (c1:dm W0 g5 [.bool s1,.int .u64 x1,.int .u64 y1,.pointer p1,.bool s2,.int .u64 x2,.int .u64 y2,.pointer p2])
  (MI:∀ w,But [] W0 w→Calls prog 53 #[vk,.int .i64 n] w fun e w'=>∃ v,e=.returned v∧zac m1 m2 m3 w' v∧But [] w w')
  (AM:∀ w,But [] W0 w→∀ v,zac m1 m2 m3 w v→Calls prog 57 #[v,.agg #[.bool s1,.int .u64 x1,.int .u64 y1,.pointer p1,.bool s2,.int .u64 x2,.int .u64 y2,.pointer p2]] w fun e w'=>∃ v,e=.returned v∧am w' v f∧But [] w w')
  (hQ:∀ w1 v2 s' x' y' p',But [] W0 w1→am w1 (.agg #[.bool s',.int .u64 x',.int .u64 y',.pointer p']) f→Q .normal (bi base [(16,vk),(17,.int .i64 n),(18,v2),(19,.agg #[.bool s1,.int .u64 x1,.int .u64 y1,.pointer p1,.bool s2,.int .u64 x2,.int .u64 y2,.pointer p2]),(20,.agg #[.bool s',.int .u64 x',.int .u64 y',.pointer p']),(7,.nilIface)]) (jk w1 gb s' x' y' p')) :
  (Code.region id zfk true).wp prog Q base W0:=by
 have hdr:∀ {w},But [] W0.drew w→But [] W0 w:=fun h=>(But.refl _ _).drew.trans' h
 have lgb:gb<W0.heap.size:=ai cb.1
 have hT:∀ i,i<5→opJkT i<base.tmps.size:=fun i hi=>by
  have h:opJkT i≤20:=by revert i;decide
  omega
 refine region_flow2 (by kernel_rfl) (ay (by kernel_rfl)) (fun i o ho=>(zbj (ops:=zfk) (by kernel_rfl) i o ho).1)
  (fun _ w=>But [] W0.drew w) (opJkC n vk s1 x1 y1 p1 s2 x2 y2 p2 m1 m2 m3 f) opJkT 5 rfl opJkT_inj hT (But.refl _ _)
  (fun i hi=>?_) (nk (ops:=zfk) (ps:=[(6,5)]) (by kernel_rfl) 6 5 (by simp)) ?_ (fun a w=>∃ w1 v2 s' x' y' p',a=bi base [(16,vk),(17,.int .i64 n),(18,v2),(19,.agg #[.bool s1,.int .u64 x1,.int .u64 y1,.pointer p1,.bool s2,.int .u64 x2,.int .u64 y2,.pointer p2]),(20,.agg #[.bool s',.int .u64 x',.int .u64 y',.pointer p'])]∧w=jk w1 gb s' x' y' p'∧But [] W0 w1∧am w1 (.agg #[.bool s',.int .u64 x',.int .u64 y',.pointer p']) f) (fun a w=>∃ w1 v2 s' x' y' p',a=bi base [(16,vk),(17,.int .i64 n),(18,v2),(19,.agg #[.bool s1,.int .u64 x1,.int .u64 y1,.pointer p1,.bool s2,.int .u64 x2,.int .u64 y2,.pointer p2]),(20,.agg #[.bool s',.int .u64 x',.int .u64 y',.pointer p']),(7,.nilIface)]∧w=jk w1 gb s' x' y' p'∧But [] W0 w1∧am w1 (.agg #[.bool s',.int .u64 x',.int .u64 y',.pointer p']) f) ?_ ?_ ?_
 ·exact nk (ops:=zfk) (ps:=[(5,0),(5,1),(5,2),(5,3),(5,4)]) (by kernel_rfl) 5 i (by
   have:i=0∨i=1∨i=2∨i=3∨i=4:=by omega
   rcases this with rfl|rfl|rfl|rfl|rfl <;> simp)
 ·intro dn i o a w K hi ho hdi hH he hdep hK
  have hD:=fun j hj=>(l9 (ps:=[(2,0),(2,1),(4,2),(4,3)]) (by kernel_rfl) ho (fun j=>dn j=true∧opJkC n vk s1 x1 y1 p1 s2 x2 y2 p2 m1 m2 m3 f j w (a.eval (.tmp (opJkT j)))) hdep j hj).2
  have hk:∀ v w',But [] w w'→opJkC n vk s1 x1 y1 p1 s2 x2 y2 p2 m1 m2 m3 f i w' v→K (a.put (some (opJkT i)) v) w':=fun v w' hb hv=>hK v w' (hH.trans' hb) (fun j hj _ u hu=>opJkC_but hu hj hb) hv
  have e0':=(he 0 (fun j hj e=>absurd e.symm (by revert j;decide))).trans e0
  have e1':=(he 1 (fun j hj e=>absurd e.symm (by revert j;decide))).trans e1
  have e5':=(he 5 (fun j hj e=>absurd e.symm (by revert j;decide))).trans e5
  have:i=0∨i=1∨i=2∨i=3∨i=4:=by omega
  rcases this with rfl|rfl|rfl|rfl|rfl
  ·obtain rfl:=so (show zfk[0]? =some opJk0 from rfl) ho
   exact al (bp a w _ _ _ _ _ _ _ e0') (hk _ _ (But.refl _ _) rfl)
  ·obtain rfl:=so (show zfk[1]? =some opJk1 from rfl) ho
   exact al (bp a w _ _ _ _ _ _ _ e1') (hk _ _ (But.refl _ _) rfl)
  ·obtain rfl:=so (show zfk[2]? =some opJk2 from rfl) ho
   exact ax (run_mixJ a w _ _ _ _ _ _ _ _ _ (hD 0 (by simp)) (hD 1 (by simp))) (R:=fun w' v=>zac m1 m2 m3 w' v∧But [] w w') (MI w (hdr hH)) (fun v w' hv=>hk v w' hv.2 hv.1)
  ·obtain rfl:=so (show zfk[3]? =some opJk3 from rfl) ho
   exact al (run_ldLn a w _ _ _ _ _ _ g5 _ _ _ _ _ _ _ _ e5' (c1.but (hdr hH) (by simp) (by simp))) (hk _ _ (But.refl _ _) rfl)
  ·obtain rfl:=so (show zfk[4]? =some opJk4 from rfl) ho
   exact ax (run_amissJ a w _ _ _ _ _ _ _ _ _ rfl (hD 3 (by simp))) (R:=fun w' v=>am w' v (f)∧But [] w w') (AM w (hdr hH) _ (hD 2 (by simp))) (fun v w' hv=>hk v w' hv.2 hv.1)
 ·intro dn o a w K ho hall h hK
  obtain rfl:=so (show zfk[5]? =some opJk5 from rfl) ho
  have eb':=(h.eval 6 (fun j hj e=>absurd e.symm (by revert j;decide))).trans eb
  have cl:am w (a.eval (.tmp 20)) f:=h.has 4 (by omega) (hall 4 (by omega))
  have cl':=cl
  obtain⟨x',y',p',ev,-⟩:=cl.agg
  rw[ev] at cl'
  have ea:=h.puts hT (fun i=>match i with
   | 0=>vk
   | 1=>.int .i64 n
   | 2=>a.eval (.tmp 18)
   | 3=>.agg #[.bool s1,.int .u64 x1,.int .u64 y1,.pointer p1,.bool s2,.int .u64 x2,.int .u64 y2,.pointer p2]
   | _=>.agg #[.bool (decide (f.num<0)),.int .u64 x',.int .u64 y',.pointer p']) (fun i hi=>by
   have hc:=h.has i hi (hall i hi)
   have:i=0∨i=1∨i=2∨i=3∨i=4:=by omega
   rcases this with rfl|rfl|rfl|rfl|rfl
   all_goals first | exact ev | exact hc|rfl)
  exact ve (oq a w _ _ _ _ _ gb _ x' y' p' eb' ev (cb.but (hdr h.mem) (by simp)) (fun j=>((hdr h.mem).frozen (p:=⟨gb,j,none⟩) lgb (by simp)).trans (fzb j))) (hK _ _ ⟨w,a.eval (.tmp 18),_,x',y',p',ea,rfl,hdr h.mem,cl'⟩)
 ·rintro o a w K ho ⟨w1,v2,s',x',y',p',ha,hw,h1,h2⟩ hK
  obtain rfl:=so (show zfk[6]? =some opJk6 from rfl) ho
  exact al (run_nilJ _ _ _ _ _ _ _) (hK _ _ ⟨w1,v2,s',x',y',p',by rw[ha];exact zco _ _ _ _,hw,h1,h2⟩)
 ·rintro a w ⟨w1,v2,s',x',y',p',rfl,rfl,h1,h2⟩
  exact hQ w1 v2 s' x' y' p' h1 h2
end Go.Proofs.YtffghofheeleeaaGreatDoor
