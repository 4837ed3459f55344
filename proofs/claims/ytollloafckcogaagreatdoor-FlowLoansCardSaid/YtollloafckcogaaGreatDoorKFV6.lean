/- What is paid each year for a debt, and e -/
import Derived.Test.YtollloafckcogaaGreatDoorKFU4
namespace Go.Proofs.YtollloafckcogaaGreatDoor
open Go.RowKit
set_option maxHeartbeats 16000000
set_option maxRecDepth 100000
def leftR (c:Rat) (rs:List Rat) (i:Nat):Rat:=c*unitW (rs.drop i)
def intR (c:Rat) (rs:List Rat) (i:Nat):Rat:=rs[i]?.getD 0*leftR c rs i
def backR (c:Rat) (rs:List Rat) (i:Nat):Rat:=c-intR c rs i
theorem left_next (c:Rat) (rs:List Rat) (i:Nat) (hi:i<rs.length) (hg:∀ r ∈ rs,0<1+r):leftR c rs i-backR c rs i=leftR c rs (i+1):=by
 unfold backR intR leftR
 rw [unitW_step rs i hi,Rat.div_def]
 have hp:=hg _ (List.getElem_mem hi)
 rw [List.getElem?_eq_getElem hi,Option.getD_some]
 have h0:1+rs[i]≠0:=fun e=>by rw [e] at hp;exact Rat.lt_irrefl hp
 generalize unitW (rs.drop (i+1))=u
 generalize rs[i]=r at *
 have h1:(1+r)*(1+r)⁻¹=1:=Rat.mul_inv_cancel _ h0
 generalize (1+r)⁻¹=z at *
 grind
structure LoanI (w wr:World) (g4 g8 g10 gp:Nat) (vr:Value) (rs:List Rat) (c:Rat) (i:Nat):Prop where
 but:But [] w wr
 res:BoxAt wr g4 0
 pay:BoxAt wr g8 c
 left:BoxAt wr g10 (leftR c rs i)
 parts:Parts wr gp rs.length i (intR c rs) (backR c rs) (fun i=>leftR c rs (i+1))
 rates:FracsAt wr vr rs
 lt:gp<wr.heap.size
theorem LoanI.next {w wr w5:World} {g4 g8 g10 gp:Nat} {vr:Value} {rs:List Rat} {c:Rat} {k:Nat} (h:LoanI w wr g4 g8 g10 gp vr rs c k) (hr:FracsAt w vr rs) (hb:But [] wr w5) (hk:k<rs.length) (o4:w.heap.size≤g4) (o8:g4<g8) (oP:g8<gp) (o10:gp<g10) {s3 s4 s5:Bool} {x3 y3 x4 y4 x5 y5:Int} {p3 p4 p5:Option Addr} (f3:FracAt w5 (.agg #[.bool s3,.int .u64 x3,.int .u64 y3,.pointer p3]) (intR c rs k)) (f4:FracAt w5 (.agg #[.bool s4,.int .u64 x4,.int .u64 y4,.pointer p4]) (backR c rs k)) (f5:FracAt w5 (.agg #[.bool s5,.int .u64 x5,.int .u64 y5,.pointer p5]) (leftR c rs (k+1))) :
  LoanI w ((put4 w5 g10 s5 x5 y5 p5).setCells gp (k*12) [.bool s3,.int .u64 x3,.int .u64 y3,.pointer p3,.bool s4,.int .u64 x4,.int .u64 y4,.pointer p4,.bool s5,.int .u64 x5,.int .u64 y5,.pointer p5]) g4 g8 g10 gp vr rs c (k+1):=by
 have hl:=h.left.but hb
 obtain ⟨c10,hc10⟩:=hl.bool
 have hP:=put4_but w5 g10 s5 x5 y5 p5
 have hc:∀ g ∈ [g10],∃ s,w5.cell? ⟨g,0,none⟩=some (.bool s):=fun g hg=>by simp at hg;subst hg;exact ⟨_,hc10⟩
 have lgp:gp<w5.heap.size:=Nat.lt_of_lt_of_le h.lt hb.size
 have hp5:=(h.parts.but hb h.lt).beside hP lgp (by simp;omega) hc
 have lgp2:gp<(put4 w5 g10 s5 x5 y5 p5).heap.size:=Nat.lt_of_lt_of_le lgp hP.size
 have hn:=hp5.next hk s3 s4 s5 x3 y3 x4 y4 x5 y5 p3 p4 p5 (f3.over hc10 hP) (f4.over hc10 hP) (f5.over hc10 hP)
 have hS:=but_setCells (put4 w5 g10 s5 x5 y5 p5) gp [.bool s3,.int .u64 x3,.int .u64 y3,.pointer p3,.bool s4,.int .u64 x4,.int .u64 y4,.pointer p4,.bool s5,.int .u64 x5,.int .u64 y5,.pointer p5] (k*12)
 obtain ⟨cp,hcp⟩:=hp5.bool (by omega)
 have hc2:∀ g ∈ [gp],∃ s,(put4 w5 g10 s5 x5 y5 p5).cell? ⟨g,0,none⟩=some (.bool s):=fun g hg=>by simp at hg;subst hg;exact ⟨_,hcp⟩
 exact {
  but:=((h.but.trans' hb).trans hP (fun x hx=>by simp at hx;subst hx;exact .inr (by omega))).trans hS (fun x hx=>by simp at hx;subst hx;exact .inr (by omega))
  res:=((h.res.but hb).beside hP (by simp;omega) hc).beside hS (by simp;omega) hc2
  pay:=((h.pay.but hb).beside hP (by simp;omega) hc).beside hS (by simp;omega) hc2
  left:=(hl.put f5).beside hS (by simp;omega) hc2
  parts:=hn
  rates:=hr.behind (hr.behind (h.rates.but hb) hP (by omega) ⟨_,hc10⟩) hS (by omega) ⟨_,hcp⟩
  lt:=Nat.lt_of_lt_of_le lgp2 hS.size }
def LoanBad (rs:List Rat):Prop:=rs.length=0∨∃ t,t<rs.length∧¬ 0<(1+rs[t]?.getD 0).num
theorem loan_any (vd vr:Value) (d:Rat) (rs:List Rat) (w:World) (hd:FracAt w vd d) (hr:FracsAt w vr rs) (ld:Len d 1) (lr:∀ r ∈ rs,Len r 1) (hn:rs.length≤60) :
  Calls Tryz.prog 24 #[vd,vr] w fun e w'=>But [] w w'∧((LoanBad rs∧e=.returned (.tuple #[.agg #[.bool false,.int .u64 0,.int .u64 0,.pointer none],.slice none 0 0,.iface 33 (.int .i64 1)]))∨(0<rs.length∧(∀ r ∈ rs,0<1+r)∧∃ s x y p g,e=.returned (.tuple #[.agg #[.bool s,.int .u64 x,.int .u64 y,.pointer p],.slice (some ⟨g,0,none⟩) rs.length rs.length,.nilIface])∧FracAt w' (.agg #[.bool s,.int .u64 x,.int .u64 y,.pointer p]) (d/unitW rs)∧Parts w' g rs.length rs.length (intR (d/unitW rs) rs) (backR (d/unitW rs) rs) (fun i=>leftR (d/unitW rs) rs (i+1)))):=by
 have CK:=hide (fun W (h:But [] w W)=>check_any vr rs W (hr.but h) (by omega) (fun t ht=>by rw [List.getElem?_eq_getElem ht];exact lr _ (List.getElem_mem ht)))
 have HD:=hide hd
 have HR:=hide hr
 obtain ⟨x1,y1,p1,rfl,-⟩:=hd.agg
 obtain ⟨q,cap,rfl,hcap,-⟩:=hr
 clear hd
 generalize hsf:decide (d.num<0)=s1 at *
 clear hsf
 obtain ⟨W,hW⟩:∃ W,W=(w.alloc (.cells #[.bool s1,.int .u64 x1,.int .u64 y1,.pointer p1] 27)).alloc (.cells #[.bool false,.int .u64 0,.int .u64 0,.pointer none] 27):=⟨_,rfl⟩
 obtain ⟨tA,tC,fz,hB⟩:=two_new w W _ _ _ hW
 have c2:P4 W w.heap.size s1 x1 y1 p1:=⟨tA 0,tA 1,tA 2,tA 3⟩
 have c4:BoxAt W (w.heap.size+1) 0:=⟨⟨false,0,0,none,⟨tC 0,tC 1,tC 2,tC 3⟩,zero_at _⟩,fz⟩
 have C2:=hide c2
 have C4:=hide c4
 have HB:=hide hB
 have HW:=hide hW
 obtain ⟨n,hnn⟩:∃ n,n=rs.length:=⟨_,rfl⟩
 have HN:=hide hnn
 clear tA tC hW hB c2 c4 fz
 rw [← hnn] at CK HR hcap hn
 rw [← hnn]
 clear hnn
 go_enter Tryz.func24,Tryz.ntmps24
 go_wp2_with fail
 rw [← unhide HW]
 obtain ⟨g2,hg2⟩:∃ g2,g2=w.heap.size:=⟨_,rfl⟩
 obtain ⟨g4,hg4⟩:∃ g4,g4=w.heap.size+1:=⟨_,rfl⟩
 rw [← hg2] at C2
 rw [← hg4] at C4
 rw [← hg4,← hg2]
 have o4:Hid (w.heap.size≤g4):=by show _≤_;omega
 clear hg2 hg4 HW
 refine (unhide CK _ (unhide HB)).mono ?_
 rintro e w1 ⟨u,rfl,hu,hb1⟩
 have B1:Hid (But [] w w1):=(unhide HB).trans' hb1
 replace C2:Hid (P4 w1 g2 s1 x1 y1 p1):=(unhide C2).but hb1 (by simp)
 replace C4:Hid (BoxAt w1 g4 0):=(unhide C4).but hb1
 clear hb1 CK HB
 rcases hu with ⟨rfl,hpos⟩ | ⟨rfl,hbad⟩
 ·have HPOS:=hide hpos
  clear hpos
  by_cases h0:n=0
  ·subst h0
   obtain ⟨⟨s4,x4,y4,p4,c4,-⟩,z4⟩:=unhide C4
   obtain ⟨r0,r1,r2,r3⟩:=id c4
   go_wp2
   have hP:=put4_but w1 g4 false 0 0 none
   have h4:=put4_p4 w1 g4 false 0 0 none c4
   obtain ⟨t0,t1,t2,t3⟩:=h4
   have hF:But [] w (put4 w1 g4 false 0 0 none):=(unhide B1).trans hP (fun x hx=>by simp at hx;subst hx;exact .inr (unhide o4))
   change bodyPost _ _ _ _ _ (put4 w1 g4 false 0 0 none)
   generalize put4 w1 g4 false 0 0 none=V at *
   exact bodyPost_ret (v:=.tuple #[.agg #[.bool false,.int .u64 0,.int .u64 0,.pointer none],.slice none 0 0,.iface 33 (.int .i64 1)]) (by simp [results,Tryz.results24,go_sem,t0,t1,t2,t3]) rfl ⟨hF,.inl ⟨.inl (unhide HN).symm,rfl⟩⟩
  ·have n0:((n:Int)==0)=false:=by simp [h0]
   go_wp2
   have hg:∀ r ∈ rs,0<1+r:=fun r hr=>by
    obtain ⟨t,ht,rfl⟩:=List.mem_iff_getElem.1 hr
    have:=unhide HPOS t (by rw [unhide HN];exact ht)
    rw [List.getElem?_eq_getElem ht,Option.getD_some] at this
    exact (pos_num _).1 this
   have HG:=hide hg
   refine loan_region 6 _ _ w1 g2 s1 x1 y1 p1 q n cap d rs (by simp) (by simp [Act.eval]) (by simp [Act.eval]) (unhide C2) ((unhide HD).but (unhide B1)) ((unhide HR).but (unhide B1)) (unhide HN) hn (by omega) ld lr hg ?_
   intro w2 g8 v3 v5 s8 x8 y8 p8 hb2 hge8 hp8 hz8 hf8
   obtain ⟨V,hV⟩:∃ V,V=put4 w2 g8 s8 x8 y8 p8:=⟨_,rfl⟩
   have hlt4:g4<w1.heap.size:=(unhide C4).lt
   have hlt2:g2<w1.heap.size:=lt_of_cell (unhide C2).1
   have bx8:BoxAt w2 g8 0:=⟨⟨false,0,0,none,hp8,zero_at _⟩,hz8⟩
   have bV:But [g8] w2 V:=by rw [hV];exact put4_but _ _ _ _ _ _
   have K8:Hid (BoxAt V g8 (d/unitW rs)):=by show BoxAt _ _ _;rw [hV];exact bx8.put hf8
   have K4:Hid (BoxAt V g4 0):=((unhide C4).but hb2).beside bV (by simp;omega) (fun g hg=>by simp at hg;subst hg;exact bx8.bool)
   have KR:Hid (FracsAt V (.slice q n cap) rs):=(unhide HR).behind (((unhide HR).but (unhide B1)).but hb2) bV (Nat.le_trans (unhide B1).size hge8) bx8.bool
   have KD:Hid (FracAt V (.agg #[.bool s1,.int .u64 x1,.int .u64 y1,.pointer p1]) d):=(((unhide HD).but (unhide B1)).but hb2).over hp8.1 bV
   have KB:Hid (But [] w V):=((unhide B1).trans' hb2).trans bV (fun x hx=>by simp at hx;subst hx;exact .inr (Nat.le_trans (unhide B1).size hge8))
   obtain ⟨a0,a1,a2,a3⟩:=((unhide C2).but hb2 (by simp)).but bV (by simp;omega)
   have o8:g4<g8:=by omega
   have l8:g8<V.heap.size:=(unhide K8).lt
   have l2:g2<V.heap.size:=lt_of_cell a0
   have hmk:=fun wx=>run_makeP wx n (by omega)
   rw [← hV]
   clear hV bx8 bV hb2 hge8 hp8 hz8 hf8 C2 C4 hlt4 hlt2 HD HPOS hg
   simp only [putted,List.foldl_cons,List.foldl_nil,Act.put,List.setIfInBounds_toArray,List.set_cons_zero,List.set_cons_succ]
   go_wp2
   obtain ⟨U,hU⟩:∃ U,U=(V.alloc (.cells (madeCells #[.bool false,.int .u64 0,.int .u64 0,.pointer none,.bool false,.int .u64 0,.int .u64 0,.pointer none,.bool false,.int .u64 0,.int .u64 0,.pointer none] (n*12)) 66)).alloc (.cells #[.bool s1,.int .u64 x1,.int .u64 y1,.pointer p1] 27):=⟨_,rfl⟩
   have hz:V.heap.size+1=(V.alloc (.cells (madeCells #[.bool false,.int .u64 0,.int .u64 0,.pointer none,.bool false,.int .u64 0,.int .u64 0,.pointer none,.bool false,.int .u64 0,.int .u64 0,.pointer none] (n*12)) 66)).heap.size:=by simp
   have bP:But [] V (V.alloc (.cells (madeCells #[.bool false,.int .u64 0,.int .u64 0,.pointer none,.bool false,.int .u64 0,.int .u64 0,.pointer none,.bool false,.int .u64 0,.int .u64 0,.pointer none] (n*12)) 66)):=(But.refl _ _).alloc _
   have bU:But [] (V.alloc (.cells (madeCells #[.bool false,.int .u64 0,.int .u64 0,.pointer none,.bool false,.int .u64 0,.int .u64 0,.pointer none,.bool false,.int .u64 0,.int .u64 0,.pointer none] (n*12)) 66)) U:=by rw [hU];exact (But.refl _ _).alloc _
   have hc0:leftR (d/unitW rs) rs 0=d:=by
    unfold leftR
    have hp:=unitW_pos rs (unhide HG) (by have:=unhide HN;omega)
    have hne:unitW rs≠0:=fun e=>by rw [e] at hp;exact Rat.lt_irrefl hp
    rw [List.drop_zero,Rat.div_def,Rat.mul_assoc,Rat.inv_mul_cancel _ hne,Rat.mul_one]
   have HI0:Hid (LoanI w U g4 g8 (V.heap.size+1) V.heap.size (.slice q n cap) rs (d/unitW rs) 0) :=
    ⟨((unhide KB).trans' bP).trans' bU,((unhide K4).but bP).but bU,((unhide K8).but bP).but bU,by
     rw [hc0,hU,hz]
     exact BoxAt.new _ _ _ _ _ _ _ ((unhide KD).but bP),by
     rw [← unhide HN]
     exact (Parts.made V n _ _ _).but bU (by simp),((unhide KR).but bP).but bU,Nat.lt_of_lt_of_le (by omega) bU.size⟩
   have LC:Hid (Len (d/unitW rs) 62):=len_div ld (unitW_len rs (unhide HG) lr (by have:=unhide HN;omega)) (by have:=(pos_num (unitW rs)).2 (unitW_pos rs (unhide HG) (by have:=unhide HN;omega));omega) 62 (by omega)
   have LL:Hid (∀ i,Len (leftR (d/unitW rs) rs i) 123):=fun i=>len_mul (unhide LC) (unitW_len (rs.drop i) (fun r hr=>unhide HG r (List.mem_of_mem_drop hr)) (fun r hr=>lr r (List.mem_of_mem_drop hr)) (by rw [List.length_drop];have:=unhide HN;omega)) 123 (by omega)
   rw [← hU]
   obtain ⟨gp,hgp⟩:∃ gp,gp=V.heap.size:=⟨_,rfl⟩
   obtain ⟨g10,hg10⟩:∃ g10,g10=V.heap.size+1:=⟨_,rfl⟩
   rw [← hg10,← hgp] at HI0
   rw [← hg10,← hgp]
   have oP:g8<gp:=by omega
   have o10:gp<g10:=by omega
   have o4':w.heap.size≤g4:=unhide o4
   clear hU hz bP bU hc0 hgp hg10 K4 K8 KR KD KB a0 a1 a2 a3 l8 l2 hmk B1
   generalize hpay:d/unitW rs=pay at *
   have HPAY:=hide hpay
   clear hpay
   go_loopw [39] (fun i wr=>∃ k:Nat,k≤n∧i=.int .i64 (k:Int)∧Hid (LoanI w wr g4 g8 g10 gp (.slice q n cap) rs pay k)) (fun i _=>n-(intOf i).toNat)
   case atStart=>exact ⟨0,Nat.zero_le _,rfl,unhide HI0⟩
   case round =>
    obtain ⟨k,hk,rfl,HI⟩:=hrel
    rename World=>wr
    by_cases hlt:k<n
    ·have hkr:k<rs.length:=by have:=unhide HN;omega
     obtain ⟨⟨t8,e8,f8,q8,⟨a0,a1,a2,a3⟩,hp8⟩,-⟩:=(unhide HI).pay
     obtain ⟨⟨t10,e10,f10,q10,c10,hl10⟩,z10⟩:=(unhide HI).left
     obtain ⟨l0,l1,l2,l3⟩:=id c10
     rcases (unhide HI).rates.open with ⟨er,-⟩ | ⟨-,rb,roff,rcap2,er,-,-⟩
     ·rw [er] at hkr
      simp at hkr
     simp only [Value.slice.injEq] at er
     obtain ⟨rfl,-,rfl⟩:=er
     obtain ⟨sr,xr,yr,pr,⟨r0,r1,r2,r3⟩,hfr⟩:=(unhide HI).rates.get k hlt
     have lrk:Len (rs[k]?.getD 0) 1:=by rw [List.getElem?_eq_getElem hkr];exact lr _ (List.getElem_mem hkr)
     have MU:=hide (fun W (h:But [] wr W)=>in_parts (fracMul_any _ _ _ _ W (hfr.but h) (hl10.but h) (lrk.mono (by omega)) ((unhide LL k).mono (by omega))))
     have LI:Hid (Len (intR pay rs k) 124):=len_mul lrk (unhide LL k) 124 (by omega)
     have LB:Hid (Len (backR pay rs k) 187):=len_sub (unhide LC) (unhide LI) 187 (by omega)
     have HP8:=hide hp8
     have HL10:=hide hl10
     have Z10:=hide z10
     have C10:=hide c10
     have l10:g10<wr.heap.size:=lt_of_cell l0
     clear hfr lrk hp8 hl10 z10 c10
     have BA:Hid (But [] wr (wr.alloc (.cells #[.bool sr,.int .u64 xr,.int .u64 yr,.pointer pr] 27))):=(But.refl _ _).alloc _
     go_wp2_with fail
     refine (unhide MU _ (unhide BA)).mono ?_
     rintro e w3 ⟨s3,x3,y3,p3,rfl,hv3,hb3⟩
     have B3:Hid (But [] wr w3):=(unhide BA).trans' hb3
     have HV3:Hid (FracAt w3 (.agg #[.bool s3,.int .u64 x3,.int .u64 y3,.pointer p3]) (intR pay rs k)):=hv3
     have ho3:wr.heap.size≤w3.heap.size:=(unhide B3).size
     clear hv3 hb3 MU BA r0 r1 r2 r3
     replace a0:=(unhide B3).cell_some a0 (by simp)
     replace a1:=(unhide B3).cell_some a1 (by simp)
     replace a2:=(unhide B3).cell_some a2 (by simp)
     replace a3:=(unhide B3).cell_some a3 (by simp)
     replace l0:=(unhide B3).cell_some l0 (by simp)
     replace l1:=(unhide B3).cell_some l1 (by simp)
     replace l2:=(unhide B3).cell_some l2 (by simp)
     replace l3:=(unhide B3).cell_some l3 (by simp)
     have SU1:Hid (∀ W,But [] w3 W→Calls Tryz.prog 30 #[.agg #[.bool t8,.int .u64 e8,.int .u64 f8,.pointer q8],.agg #[.bool s3,.int .u64 x3,.int .u64 y3,.pointer p3]] W fun e w'=>∃ s x y p,e=.returned (.agg #[.bool s,.int .u64 x,.int .u64 y,.pointer p])∧FracAt w' (.agg #[.bool s,.int .u64 x,.int .u64 y,.pointer p]) (backR pay rs k)∧But [] W w'):=fun W h=>in_parts (fracSub_gen 62 124 (by omega) _ _ _ _ W (((unhide HP8).but (unhide B3)).but h) ((unhide HV3).but h) (unhide LC) (unhide LI))
     have BA4:Hid (But [] w3 (w3.alloc (.cells #[.bool s3,.int .u64 x3,.int .u64 y3,.pointer p3] 27))):=(But.refl _ _).alloc _
     have b13:P4 (w3.alloc (.cells #[.bool s3,.int .u64 x3,.int .u64 y3,.pointer p3] 27)) w3.heap.size s3 x3 y3 p3:=⟨by simp,by simp,by simp,by simp⟩
     have HB13:=hide b13
     have lg8:g8<w3.heap.size:=lt_of_cell a0
     have lg10:g10<w3.heap.size:=lt_of_cell l0
     clear b13
     go_wp2_with fail
     refine (unhide SU1 _ (unhide BA4)).mono ?_
     rintro e w4 ⟨s4,x4,y4,p4,rfl,hv4,hb4⟩
     have B34:Hid (But [] w3 w4):=(unhide BA4).trans' hb4
     have HV4:=hide hv4
     obtain ⟨b0,b1,b2,b3⟩:=(unhide HB13).but hb4 (by simp)
     have ho4:w3.heap.size≤w4.heap.size:=(unhide B34).size
     have n13:w3.heap.size≠g10:=by omega
     have l13:w3.heap.size<w4.heap.size:=lt_of_cell b0
     replace l0:=(unhide B34).cell_some l0 (by simp)
     replace l1:=(unhide B34).cell_some l1 (by simp)
     replace l2:=(unhide B34).cell_some l2 (by simp)
     replace l3:=(unhide B34).cell_some l3 (by simp)
     clear hv4 hb4 SU1 BA4 HB13 a0 a1 a2 a3
     have SU2:Hid (∀ W,But [] w4 W→Calls Tryz.prog 30 #[.agg #[.bool t10,.int .u64 e10,.int .u64 f10,.pointer q10],.agg #[.bool s4,.int .u64 x4,.int .u64 y4,.pointer p4]] W fun e w'=>∃ s x y p,e=.returned (.agg #[.bool s,.int .u64 x,.int .u64 y,.pointer p])∧FracAt w' (.agg #[.bool s,.int .u64 x,.int .u64 y,.pointer p]) (leftR pay rs (k+1))∧But [] W w'):=fun W h=>by
      rw [← left_next pay rs k hkr (unhide HG)]
      exact in_parts (fracSub_gen 123 187 (by omega) _ _ _ _ W ((((unhide HL10).but (unhide B3)).but (unhide B34)).but h) ((unhide HV4).but h) (unhide LL k) (unhide LB))
     have BA5:Hid (But [] w4 (w4.alloc (.cells #[.bool s4,.int .u64 x4,.int .u64 y4,.pointer p4] 27))):=(But.refl _ _).alloc _
     have b14:P4 (w4.alloc (.cells #[.bool s4,.int .u64 x4,.int .u64 y4,.pointer p4] 27)) w4.heap.size s4 x4 y4 p4:=⟨by simp,by simp,by simp,by simp⟩
     have HB14:=hide b14
     have lh10:g10<w4.heap.size:=lt_of_cell l0
     clear b14
     go_wp2_with fail
     refine (unhide SU2 _ (unhide BA5)).mono ?_
     rintro e w5 ⟨s5,x5,y5,p5,rfl,hv5,hb5⟩
     have B45:Hid (But [] w4 w5):=(unhide BA5).trans' hb5
     have HV5:=hide hv5
     obtain ⟨d0,d1,d2,d3⟩:=(unhide HB14).but hb5 (by simp)
     have n14:w4.heap.size≠g10:=by omega
     replace b0:=(unhide B45).cell_some b0 (by simp)
     replace b1:=(unhide B45).cell_some b1 (by simp)
     replace b2:=(unhide B45).cell_some b2 (by simp)
     replace b3:=(unhide B45).cell_some b3 (by simp)
     replace l0:=(unhide B45).cell_some l0 (by simp)
     replace l1:=(unhide B45).cell_some l1 (by simp)
     replace l2:=(unhide B45).cell_some l2 (by simp)
     replace l3:=(unhide B45).cell_some l3 (by simp)
     have BR5:Hid (But [] wr w5):=((unhide B3).trans' (unhide B34)).trans' (unhide B45)
     have zf:∀ j,w5.frozen? ⟨g10,j,none⟩=false:=fun j=>((unhide BR5).frozen (p:=⟨g10,j,none⟩) l10 (by simp)).trans (unhide Z10 j)
     have P5:=hide ((unhide HI).parts.but (unhide BR5) (unhide HI).lt)
     obtain ⟨⟨k0,k1,k2,k3⟩,⟨k4,k5,k6,k7⟩,⟨k8,k9,k10,k11⟩⟩:=(unhide P5).blank k (Nat.le_refl _) hkr
     have pf:=(unhide P5).loose
     have npp:gp≠g10:=by omega
     generalize w3.heap.size=g13 at *
     generalize w4.heap.size=g14 at *
     clear hv5 hb5 SU2 BA5 HB14
     go_wp2
     exact ⟨⟨k+1,by omega,by go_num,(unhide HI).next (unhide HR) (unhide BR5) hkr o4' o8 oP o10 (((unhide HV3).but (unhide B34)).but (unhide B45)) ((unhide HV4).but (unhide B45)) (unhide HV5)⟩,by simp [intOf];omega⟩
    ·obtain rfl:k=n:=by omega
     obtain ⟨⟨t8,e8,f8,q8,c8,hp8⟩,-⟩:=(unhide HI).pay
     obtain ⟨⟨t4,e4,f4,q4,c4,hp4⟩,z4⟩:=(unhide HI).res
     obtain ⟨a0,a1,a2,a3⟩:=id c8
     obtain ⟨r0,r1,r2,r3⟩:=id c4
     have HP8:=hide hp8
     clear hp8 hp4
     go_wp2
     have hP:=put4_but wr g4 t8 e8 f8 q8
     obtain ⟨m0,m1,m2,m3⟩:=put4_p4 wr g4 t8 e8 f8 q8 c4
     have hF:But [] w (put4 wr g4 t8 e8 f8 q8):=(unhide HI).but.trans hP (fun x hx=>by simp at hx;subst hx;exact .inr o4')
     have hff:=(unhide HP8).over r0 hP
     have hpp:=(unhide HI).parts.beside hP (unhide HI).lt (by simp;omega) (fun g hg=>by simp at hg;subst hg;exact ⟨_,r0⟩)
     rw [← unhide HN] at hpp
     rw [← unhide HPAY] at hff hpp
     change bodyPost _ _ _ _ _ (put4 wr g4 t8 e8 f8 q8)
     generalize put4 wr g4 t8 e8 f8 q8=F at *
     exact bodyPost_ret (v:=.tuple #[.agg #[.bool t8,.int .u64 e8,.int .u64 f8,.pointer q8],.slice (some ⟨gp,0,none⟩) k k,.nilIface]) (by simp [results,Tryz.results24,go_sem,m0,m1,m2,m3]) rfl ⟨hF,.inr ⟨by omega,unhide HG,_,_,_,_,_,rfl,hff,hpp⟩⟩
 ·have HBAD:=hide hbad
  clear hbad
  obtain ⟨⟨s4,x4,y4,p4,c4,-⟩,z4⟩:=unhide C4
  obtain ⟨r0,r1,r2,r3⟩:=id c4
  go_wp2
  have hP:=put4_but w1 g4 false 0 0 none
  have h4:=put4_p4 w1 g4 false 0 0 none c4
  obtain ⟨t0,t1,t2,t3⟩:=h4
  have hF:But [] w (put4 w1 g4 false 0 0 none):=(unhide B1).trans hP (fun x hx=>by simp at hx;subst hx;exact .inr (unhide o4))
  change bodyPost _ _ _ _ _ (put4 w1 g4 false 0 0 none)
  generalize put4 w1 g4 false 0 0 none=V at *
  exact bodyPost_ret (v:=.tuple #[.agg #[.bool false,.int .u64 0,.int .u64 0,.pointer none],.slice none 0 0,.iface 33 (.int .i64 1)]) (by simp [results,Tryz.results24,go_sem,t0,t1,t2,t3]) rfl ⟨hF,.inl ⟨.inr (by obtain ⟨t,h1,h2⟩:=unhide HBAD;exact ⟨t,by rw [← unhide HN];exact h1,Int.not_lt.2 h2⟩),rfl⟩⟩
end Go.Proofs.YtollloafckcogaaGreatDoor
