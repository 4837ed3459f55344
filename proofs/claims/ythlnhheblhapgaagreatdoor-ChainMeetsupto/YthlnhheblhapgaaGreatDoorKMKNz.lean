/- What a comparison tells.  -/
import Derived.Test.YthlnhheblhapgaaGreatDoorKMGE
namespace Go.Proofs.YthlnhheblhapgaaGreatDoor
open Go.RowKit
theorem cmpZ_tells (x y:Rat) (r:Int) (hr:r=cmpZ (x.num*(y.den:Int)) (y.num*(x.den:Int))):(r<0↔x<y)∧(0<r↔y<x)∧(r=0↔x=y):=by
 have h1:x<y↔x.num*(y.den:Int)<y.num*(x.den:Int):=Rat.lt_iff x y
 have h2:y<x↔y.num*(x.den:Int)<x.num*(y.den:Int):=Rat.lt_iff y x
 have h3:x=y↔x.num*(y.den:Int)=y.num*(x.den:Int):=by
  constructor
  ·intro h;rw [h]
  ·intro h
   exact Rat.le_antisymm ((Rat.le_iff _ _).2 (by omega)) ((Rat.le_iff _ _).2 (by omega))
 rw [h1,h2,h3,hr]
 unfold cmpZ
 split
 ·omega
 ·split <;> omega
end Go.Proofs.YthlnhheblhapgaaGreatDoor

namespace Go.Proofs.YthlnhheblhapgaaGreatDoor
open Go.RowKit
set_option maxHeartbeats 16000000
set_option maxRecDepth 100000
theorem chainDiv_any (vf vg:Value) (f g:Rat) (w:World) (hf:FracAt w vf f) (hg:FracAt w vg g) (lf:Len f 1000000) (lg:Len g 1000000) (h0:g.num≠0) :
  Calls Tryz.prog 27 #[vf,vg] w fun e w'=>∃ v,e=.returned v∧FracAt w' v (f/g)∧But [] w w':=by
 have DV:Hid (∀ (W:World),FracAt W vf f→FracAt W vg g→Calls Tryz.prog 47 #[vf,vg] W fun e w'=>∃ v,e=.returned (.tuple #[v,.nilIface])∧FracAt w' v (f/g)∧But [] W w'):=fun W h1 h2=>fracDiv_any vf vg f g W h1 h2 lf lg h0
 have HFA:=hide hf
 have HGA:=hide hg
 obtain ⟨x1,y1,p1,rfl,-⟩:=hf.agg
 obtain ⟨x2,y2,p2,rfl,-⟩:=hg.agg
 clear hf hg lf lg h0
 generalize hsf:decide (f.num<0)=s1 at *
 generalize hsg:decide (g.num<0)=s2 at *
 clear hsf hsg
 obtain ⟨W,hW⟩:∃ W,W=(((w.alloc (.cells #[.bool s1,.int .u64 x1,.int .u64 y1,.pointer p1] 41)).alloc (.cells #[.bool s2,.int .u64 x2,.int .u64 y2,.pointer p2] 41)).alloc (.cells #[.bool false,.int .u64 0,.int .u64 0,.pointer none] 41)):=⟨_,rfl⟩
 obtain ⟨tA,tB,tC,fz,hB⟩:=three_new w W _ _ _ _ hW
 have a0:=tA 0
 have a1:=tA 1
 have a2:=tA 2
 have a3:=tA 3
 have b0:=tB 0
 have b1:=tB 1
 have b2:=tB 2
 have b3:=tB 3
 have r0:=tC 0
 have r1:=tC 1
 have r2:=tC 2
 have r3:=tC 3
 simp only [List.getElem?_toArray,List.getElem?_cons_zero,List.getElem?_cons_succ] at a0 a1 a2 a3 b0 b1 b2 b3 r0 r1 r2 r3
 have BL:Hid (Blank W (w.heap.size+2)):=⟨r0,r1,r2,r3,fun j hj=>by rw [tC j];simp;omega⟩
 clear tA tB tC
 have HW:=hide hW
 have HB:=hide hB
 clear hW hB
 go_enter Tryz.func27,Tryz.ntmps27
 go_wp2_with fail
 rw [← unhide HW]
 obtain ⟨ga,hga⟩:∃ ga,ga=w.heap.size:=⟨_,rfl⟩
 obtain ⟨gb,hgb⟩:∃ gb,gb=w.heap.size+1:=⟨_,rfl⟩
 obtain ⟨gr,hgr⟩:∃ gr,gr=w.heap.size+2:=⟨_,rfl⟩
 rw [← hga] at a0 a1 a2 a3
 rw [← hgb] at b0 b1 b2 b3
 rw [← hgr] at r0 r1 r2 r3 fz BL
 rw [show w.heap.size+1+1=w.heap.size+2 from rfl,← hgr,← hgb,← hga]
 have HGR:Hid (w.heap.size≤gr):=by show _≤_;omega
 clear hga hgb hgr HW
 have grl:gr<W.heap.size:=lt_of_cell r0
 refine (unhide DV _ ((unhide HFA).but (unhide HB)) ((unhide HGA).but (unhide HB))).mono ?_
 rintro e w2 ⟨v2,rfl,hn2,hc2⟩
 have HN2:=hide hn2
 obtain ⟨x8,y8,p8,rfl,-⟩:=hn2.agg
 clear hn2
 generalize decide ((f/g).num<0)=r8 at *
 have u0:=hc2.cell_some r0 (by simp)
 have u1:=hc2.cell_some r1 (by simp)
 have u2:=hc2.cell_some r2 (by simp)
 have u3:=hc2.cell_some r3 (by simp)
 have uf:∀ j,w2.frozen? ⟨gr,j,none⟩=false:=fun j=>(hc2.frozen (p:=⟨gr,j,none⟩) grl (by simp)).trans (fz j)
 have B2:=hide hc2
 have gl2:gr<w2.heap.size:=lt_of_cell u0
 clear hc2 a0 a1 a2 a3 b0 b1 b2 b3 r0 r1 r2 r3 fz grl
 go_wp2
 have hBg:But [gr] w2 ((((w2.setCell ⟨gr,0,none⟩ (.bool r8)).setCell ⟨gr,1,none⟩ (.int .u64 x8)).setCell ⟨gr,2,none⟩ (.int .u64 y8)).setCell ⟨gr,3,none⟩ (.pointer p8)):=(((((But.refl [gr] w2).setCell (.inl (by simp)) _).setCell (.inl (by simp)) _).setCell (.inl (by simp)) _).setCell (.inl (by simp)) _)
 have hBf:=(((((unhide HB).trans' (unhide B2)).trans hBg (fun x hx=>by simp at hx;subst hx;exact .inr (unhide HGR)))).alloc (.cells #[.bool r8,.int .u64 x8,.int .u64 y8,.pointer p8] 41))
 exact bodyPost_ret (v:=.agg #[.bool r8,.int .u64 x8,.int .u64 y8,.pointer p8]) (by simp [results,Tryz.results27,go_sem,u0,u1,u2,u3,gl2]) rfl ⟨_,rfl,(((unhide BL).but (unhide B2)).frac (unhide HN2) hBg).but ((But.refl _ _).alloc _),hBf⟩
def RowOkP (fs:List Rat) (n:Nat):Prop:=fs.length=n∧(∀ f ∈ fs,0≤f)∧sgR (atR fs) fs.length=1
def ErrOr (P:Prop) (w:World) (e:Ending) (w':World):Prop:=∃ r,e=.returned r∧But [] w w'∧((P∧r=.nilIface)∨(¬ P∧∃ c:Int,0<c∧c<16∧r=.iface 26 (.int .i64 c)))
theorem checkRow_any (v:Value) (fs:List Rat) (n c:Nat) (w:World) (hv:FracsAt w v fs) (hn:n≤8) (hl:fs.length<1000000) (lf:∀ f ∈ fs,Len f c) (hc1:1≤c) (hc:c≤40000) :
  Calls Tryz.prog 24 #[v,.int .i64 (n:Int)] w (ErrOr (RowOkP fs n) w):=by
 obtain ⟨q,cap,rfl,hcap,-⟩:=id hv
 obtain ⟨m,hM⟩:∃ m,m=fs.length:=⟨_,rfl⟩
 have HPP:Hid (fs.length=n→(∀ f ∈ fs,0≤f)→sgR (atR fs) fs.length=1→RowOkP fs n):=fun h1 h2 h3=>⟨h1,h2,h3⟩
 have HPN:Hid (RowOkP fs n→fs.length=n∧(∀ f ∈ fs,0≤f)∧sgR (atR fs) fs.length=1):=fun h=>h
 generalize RowOkP fs n=PP at *
 rw [← hM] at hcap hl ⊢
 rw [← hM] at hv HPP HPN
 have HV:=hide hv
 have HM:=hide hM
 by_cases hmn:m=n
 ·subst hmn
  have SU:=hide (fun W (hb:But [] w W)=>chainSum_any _ fs W (hM ▸ hv.but hb) (by omega) (fun k=>(len_at lf hc1 k).mono (by omega)) (fun k hk=>(len_sgR c (atR fs) (fun k=>len_at lf hc1 k) k).mono (by
   have:k*(c+1)≤8*40001:=Nat.mul_le_mul (by omega) (by omega)
   omega)))
  rw [← hM] at SU
  have LS:Hid (Len (sgR (atR fs) m) 400000):=(len_sgR c (atR fs) (fun k=>len_at lf hc1 k) m).mono (by
   have:m*(c+1)≤8*40001:=Nat.mul_le_mul (by omega) (by omega)
   omega)
  clear hv hM
  go_enter Tryz.func24,Tryz.ntmps24
  go_wp2
  go_loopw [14] (fun iv wr=>∃ k:Nat,k≤m∧iv=.int .i64 (k:Int)∧Hid ((∀ f ∈ fs.take k,0≤f)∧But [] w wr)) (fun iv _=>m-(intOf iv).toNat)
  case atStart=>exact ⟨0,Nat.zero_le _,rfl,fun f hf=>by simp at hf,But.refl _ _⟩
  case round =>
   obtain ⟨k,hk,rfl,HI⟩:=hrel
   rename World=>wr
   by_cases hlt:k<m
   ·have hkl:k<fs.length:=by have:=unhide HM;omega
    have hfx:=(unhide HV).but (unhide HI).2
    rcases hfx.open with ⟨er,-⟩ | ⟨-,rb,roff,rcap2,er,-,-⟩
    ·rw [er] at hkl
     simp at hkl
    simp only [Value.slice.injEq] at er
    obtain ⟨rfl,-,rfl⟩:=er
    obtain ⟨sr,xr,yr,pr,⟨r0,r1,r2,r3⟩,hfr⟩:=hfx.get k hlt
    obtain ⟨f,hff⟩:∃ f,f=fs[k]?.getD 0:=⟨_,rfl⟩
    rw [← hff] at hfr
    have hmem:f ∈ fs:=by rw [hff,List.getElem?_eq_getElem hkl];exact List.getElem_mem hkl
    have bA:But [] wr (wr.alloc (.cells #[.bool sr,.int .u64 xr,.int .u64 yr,.pointer pr] 41)):=(But.refl _ _).alloc _
    have BA:=hide bA
    have SG:=hide (fracSign_any _ f _ (hfr.but bA))
    have HFF:=hide hff
    clear hfx hfr bA hff
    by_cases hneg:f.num<0
    ·have NP:Hid (¬ PP):=fun h=>by
      have h0:=(unhide HPN h).2.1 f hmem
      have:=Rat.num_nonneg.2 h0
      omega
     rw [Int.sign_eq_neg_one_of_neg hneg] at SG
     clear hneg
     go_wp2_with fail
     refine (unhide SG).mono ?_
     rintro e w1 ⟨rfl,hb1⟩
     have B1:Hid (But [] w w1):=((unhide HI).2.trans' (unhide BA)).trans' hb1
     clear hb1 SU
     go_wp2
     go_ret
     exact ⟨_,rfl,unhide B1,.inr ⟨unhide NP,1,by omega,by omega,rfl⟩⟩
    ·have hsg:0≤f.num.sign:=by
      rcases Int.lt_trichotomy f.num 0 with h | h | h
      ·omega
      ·rw [h];decide
      ·rw [Int.sign_eq_one_of_pos h];decide
     have P0:Hid (0≤f):=Rat.num_nonneg.1 (by omega)
     obtain ⟨sg,hsgn⟩:∃ sg,sg=f.num.sign:=⟨_,rfl⟩
     rw [← hsgn] at SG hsg
     clear hsgn hneg
     go_wp2_with fail
     refine (unhide SG).mono ?_
     rintro e w1 ⟨rfl,hb1⟩
     have B1:Hid (But [] w w1):=((unhide HI).2.trans' (unhide BA)).trans' hb1
     have T1:Hid (∀ f ∈ fs.take (k+1),0≤f):=fun f' hf'=>by
      rw [List.take_add_one,List.getElem?_eq_getElem hkl] at hf'
      rcases List.mem_append.1 hf' with h1 | h1
      ·exact (unhide HI).1 f' h1
      ·simp at h1
       rw [h1]
       have:=unhide HFF
       rw [List.getElem?_eq_getElem hkl,Option.getD_some] at this
       rw [← this]
       exact unhide P0
     clear hb1 SG r0 r1 r2 r3 SU HI
     go_wp2
     exact ⟨⟨k+1,by omega,by go_num,unhide T1,unhide B1⟩,by simp [intOf];omega⟩
   ·obtain rfl:k=m:=by omega
    have hall:fs.take k=fs:=by rw [unhide HM,List.take_length]
    obtain ⟨hpos,hbw⟩:=unhide HI
    rw [hall] at hpos
    have HPOS:=hide hpos
    have HBW:=hide hbw
    obtain ⟨ws,wx,FW,CW⟩:=whole_is 1 (by omega) (by omega)
    have HFW:=hide FW
    have HCW:=hide CW
    clear hall hpos hbw HI FW CW
    go_wp2_with fail
    refine (unhide SU _ (unhide HBW)).mono ?_
    rintro e w1 ⟨s1,x1,y1,p1,rfl,hf1,hb1⟩
    have HF1:=hide hf1
    have B1:=hide ((unhide HBW).trans' hb1)
    clear hf1 hb1 SU HBW
    go_wp2_with fail
    refine (unhide HCW _).mono ?_
    rintro e w2 ⟨rfl,hb2⟩
    obtain ⟨r,hr⟩:∃ r,r=cmpZ ((sgR (atR fs) k).num*((((1:Int):Rat)).den:Int)) ((((1:Int):Rat)).num*((sgR (atR fs) k).den:Int)):=⟨_,rfl⟩
    have CM:=hide (fracCmp_any _ _ (sgR (atR fs) k) ((1:Int):Rat) w2 ((unhide HF1).but hb2) (unhide HFW w2) ((unhide LS).mono (by omega)) ((len_int 1 (by decide)).mono (by omega)) r hr)
    have HR0:Hid ((r != 0)=!decide (sgR (atR fs) k=1)):=cmp_same _ _ r hr
    have B2:=hide ((unhide B1).trans' hb2)
    clear hr hb2 B1 HF1 HFW HCW
    go_wp2_with fail
    refine (unhide CM).mono ?_
    rintro e w3 ⟨rfl,hb3⟩
    have B3:=hide ((unhide B2).trans' hb3)
    clear hb3 CM B2
    by_cases hone:sgR (atR fs) k=1
    ·have PQ:Hid PP:=unhide HPP (by trivial) (unhide HPOS) hone
     have hr1:(r != 0)=false:=by rw [unhide HR0,decide_eq_true hone];rfl
     clear HR0 hone LS
     go_wp2
     go_ret
     exact ⟨_,rfl,unhide B3,.inl ⟨unhide PQ,rfl⟩⟩
    ·have PQ:Hid (¬ PP):=fun h=>hone (unhide HPN h).2.2
     have hr1:(r != 0)=true:=by rw [unhide HR0,decide_eq_false hone];rfl
     clear HR0 hone LS
     go_wp2
     go_ret
     exact ⟨_,rfl,unhide B3,.inr ⟨unhide PQ,10,by omega,by omega,rfl⟩⟩
 ·have NP:Hid (¬ PP):=fun h=>hmn (unhide HPN h).1
  have hne:((m:Int) != (n:Int))=true:=by
   rw [bne_iff_ne];omega
  clear hv hM HPP HPN
  go_enter Tryz.func24,Tryz.ntmps24
  go_wp2
  go_ret
  exact ⟨_,rfl,But.refl _ _,.inr ⟨unhide NP,3,by omega,by omega,rfl⟩⟩
def MatOk (ls:List (List Rat)):Prop:=1≤ls.length∧ls.length≤8∧∀ l ∈ ls,RowOkP l ls.length
theorem chainCheck_any (v:Value) (ls:List (List Rat)) (c:Nat) (w:World) (hv:ListsAt w v ls) (hl:ls.length<1000000) (hll:∀ l ∈ ls,l.length<1000000) (lf:∀ l ∈ ls,∀ f ∈ l,Len f c) (hc1:1≤c) (hc:c≤40000) :
  Calls Tryz.prog 39 #[v] w (ErrOr (MatOk ls) w):=by
 obtain ⟨q,cap,rfl,hcap,-⟩:=id hv
 obtain ⟨m,hM⟩:∃ m,m=ls.length:=⟨_,rfl⟩
 have HPP:Hid (MatOk ls↔1≤m∧m≤8∧∀ l ∈ ls,RowOkP l m):=by rw [hM];exact Iff.rfl
 generalize MatOk ls=PP at *
 rw [← hM] at hcap hl ⊢
 rw [← hM] at hv
 have HV:=hide hv
 have HM:=hide hM
 by_cases h0:m<1
 ·obtain rfl:m=0:=by omega
  have NP:Hid (¬ PP):=fun h=>by have:=((unhide HPP).1 h).1;omega
  clear hv hM HPP
  go_enter Tryz.func39,Tryz.ntmps39
  go_wp2
  go_ret
  exact ⟨_,rfl,But.refl _ _,.inr ⟨unhide NP,4,by omega,by omega,rfl⟩⟩
 ·by_cases h1:8<m
  ·have NP:Hid (¬ PP):=fun h=>by have:=((unhide HPP).1 h).2.1;omega
   clear hv hM HPP
   go_enter Tryz.func39,Tryz.ntmps39
   go_wp2
   go_ret
   exact ⟨_,rfl,But.refl _ _,.inr ⟨unhide NP,4,by omega,by omega,rfl⟩⟩
  ·have CR:=hide (fun (W:World) v l (hl:l ∈ ls) (hv:FracsAt W v l)=>checkRow_any v l m c W hv (by omega) (hll l hl) (lf l hl) hc1 hc)
   clear hv hM
   go_enter Tryz.func39,Tryz.ntmps39
   go_wp2
   go_loopw [17] (fun iv wr=>∃ k:Nat,k≤m∧iv=.int .i64 (k:Int)∧Hid ((∀ l ∈ ls.take k,RowOkP l m)∧But [] w wr)) (fun iv _=>m-(intOf iv).toNat)
   case atStart=>exact ⟨0,Nat.zero_le _,rfl,fun f hf=>by simp at hf,But.refl _ _⟩
   case round =>
    obtain ⟨k,hk,rfl,HI⟩:=hrel
    rename World=>wr
    by_cases hlt:k<m
    ·have hkl:k<ls.length:=by have:=unhide HM;omega
     obtain ⟨b,off,u,rfl,hcu,hfu⟩:=((unhide HV).but (unhide HI).2).get k hkl
     obtain ⟨l,hll'⟩:∃ l,l=ls[k]?.getD []:=⟨_,rfl⟩
     rw [← hll'] at hfu
     have hlk:ls[k]? = some l:=by rw [hll',List.getElem?_eq_getElem hkl];rfl
     have hmem:l ∈ ls:=List.mem_of_getElem? hlk
     obtain ⟨ua,uc,rfl,-,-⟩:=id hfu
     have CK:=hide (unhide CR wr _ l hmem hfu)
     have HLK:=hide hlk
     obtain ⟨ln,hln⟩:∃ ln,ln=l.length:=⟨_,rfl⟩
     rw [← hln] at hcu CK
     clear hfu hll' hlk hln
     go_wp2_with fail
     refine (unhide CK).mono ?_
     rintro e w1 ⟨r,rfl,hb1,hr⟩
     have B1:=hide ((unhide HI).2.trans' hb1)
     clear hb1 CK hcu
     rcases hr with ⟨hp,rfl⟩ | ⟨hp,cc,hc1',hc2',rfl⟩
     ·have T1:Hid (∀ l ∈ ls.take (k+1),RowOkP l m):=fun l' hl'=>by
       rw [List.take_add_one,unhide HLK] at hl'
       rcases List.mem_append.1 hl' with h1 | h1
       ·exact (unhide HI).1 l' h1
       ·simp at h1
        rw [h1]
        exact hp
      clear hp HI
      go_wp2
      exact ⟨⟨k+1,by omega,by go_num,unhide T1,unhide B1⟩,by simp [intOf];omega⟩
     ·have NP:Hid (¬ PP):=fun h=>hp (((unhide HPP).1 h).2.2 l hmem)
      clear hp HI
      go_wp2
      go_ret
      exact ⟨_,rfl,unhide B1,.inr ⟨unhide NP,cc,hc1',hc2',rfl⟩⟩
    ·obtain rfl:k=m:=by omega
     have hall:ls.take k=ls:=by rw [unhide HM,List.take_length]
     obtain ⟨hpos,hbw⟩:=unhide HI
     rw [hall] at hpos
     have PQ:Hid PP:=(unhide HPP).2 ⟨by omega,by omega,hpos⟩
     have HBW:=hide hbw
     clear hall hpos hbw HI
     go_wp2
     go_ret
     exact ⟨_,rfl,unhide HBW,.inl ⟨unhide PQ,rfl⟩⟩
end Go.Proofs.YthlnhheblhapgaaGreatDoor

namespace Go.Proofs.YthlnhheblhapgaaGreatDoor
open Go.RowKit
set_option maxHeartbeats 8000000
set_option maxRecDepth 100000
theorem times_any (v vu:Value) (fs:List Rat) (u:Rat) (w:World) (hv:FracsAt w v fs) (hu:FracAt w vu u) (hn:fs.length≤100000) (lf:∀ f ∈ fs,Len f 1000000) (lu:Len u 1000000) :
  Calls Tryz.prog 46 #[v,vu] w fun e w'=>∃ g,e=.returned (.slice (some ⟨g,0,none⟩) fs.length fs.length)∧Row4 w' g fs.length fs.length (fun i=>fs[i]?.getD 0*u)∧w.heap.size≤g∧g<w'.heap.size∧But [] w w':=by
 obtain ⟨x1,y1,p1,rfl,-⟩:=id hu.agg
 generalize hsf:decide (u.num<0)=s1 at *
 clear hsf
 obtain ⟨q,cap,rfl,hcap,-⟩:=id hv
 obtain ⟨n,hN⟩:∃ n,n=fs.length:=⟨_,rfl⟩
 rw [← hN] at hn hcap ⊢
 rw [← hN] at hv
 have HV:=hide hv
 have HU:=hide hu
 have HN:=hide hN
 have hmk:=fun wx=>run_makeF wx n (by omega)
 clear hv hu hN
 obtain ⟨A,hA⟩:∃ A,A=w.alloc (.cells #[.bool s1,.int .u64 x1,.int .u64 y1,.pointer p1] 41):=⟨_,rfl⟩
 have bA:But [] w A:=by rw [hA];exact (But.refl _ _).alloc _
 have sA:A.heap.size=w.heap.size+1:=by rw [hA];simp
 have cA:P4 A w.heap.size s1 x1 y1 p1:=by rw [hA];exact ⟨by simp,by simp,by simp,by simp⟩
 obtain ⟨U,hU⟩:∃ U,U=(w.alloc (.cells #[.bool s1,.int .u64 x1,.int .u64 y1,.pointer p1] 41)).alloc (.cells (madeCells #[.bool false,.int .u64 0,.int .u64 0,.pointer none] (n*4)) 41):=⟨_,rfl⟩
 have bU:But [] A U:=by rw [hU,← hA];exact (But.refl _ _).alloc _
 have rU:Row4 U A.heap.size n 0 (fun i=>fs[i]?.getD 0*u):=by rw [hU,← hA];exact Row4.made A n _
 have lU:A.heap.size<U.heap.size:=by rw [hU,← hA];simp
 obtain ⟨G,hG⟩:∃ G,G=w.heap.size+1:=⟨_,rfl⟩
 obtain ⟨B,hB⟩:∃ B,B=w.heap.size:=⟨_,rfl⟩
 have hGA:G=A.heap.size:=by omega
 have I0:Hid (Row4 U G n 0 (fun i=>fs[i]?.getD 0*u)∧P4 U B s1 x1 y1 p1∧FracsAt U (.slice q n cap) fs∧FracAt U (.agg #[.bool s1,.int .u64 x1,.int .u64 y1,.pointer p1]) u∧G<U.heap.size∧But [] w U) :=
  ⟨by rw [hGA];exact rU,by rw [hB];exact cA.but bU (by simp),((unhide HV).but bA).but bU,((unhide HU).but bA).but bU,by rw [hGA];exact lU,bA.trans' bU⟩
 have hGB:B<G:=by omega
 have hwB:w.heap.size≤B:=by omega
 clear bU rU lU bA sA cA hGA hA
 go_enter Tryz.func46,Tryz.ntmps46
 go_wp2
 rw [← hU]
 try rw [← hG]
 rw [← hB]
 clear hU hmk HU
 have HB:=hide hB
 have HW:=hide hwB
 clear hB hG hwB
 go_loopw [13] (fun i wr=>∃ k:Nat,k≤n∧i=.int .i64 (k:Int)∧Hid (Row4 wr G n k (fun i=>fs[i]?.getD 0*u)∧P4 wr B s1 x1 y1 p1∧FracsAt wr (.slice q n cap) fs∧FracAt wr (.agg #[.bool s1,.int .u64 x1,.int .u64 y1,.pointer p1]) u∧G<wr.heap.size∧But [] w wr)) (fun i _=>n-(intOf i).toNat)
 case atStart=>exact ⟨0,Nat.zero_le _,rfl,unhide I0⟩
 case round =>
  obtain ⟨k,hk,rfl,HI⟩:=hrel
  rename World=>wr
  clear I0
  by_cases hlt:k<n
  ·obtain ⟨hrow,hbx,hfs,hfu,hG2,hb⟩:=unhide HI
   have hkr:k<fs.length:=by have:=unhide HN;omega
   rcases hfs.open with ⟨er,-⟩ | ⟨-,rb,roff,rcap2,er,-,-⟩
   ·rw [er] at hkr
    simp at hkr
   simp only [Value.slice.injEq] at er
   obtain ⟨rfl,-,rfl⟩:=er
   obtain ⟨sr,xr,yr,pr,⟨r0,r1,r2,r3⟩,hfr⟩:=hfs.get k hlt
   have lrk:Len (fs[k]?.getD 0) 1000000:=by rw [List.getElem?_eq_getElem hkr];exact lf _ (List.getElem_mem hkr)
   obtain ⟨b0,b1,b2,b3⟩:=hbx
   have MU:=hide (fun W (h:But [] wr W)=>in_parts (fracMul_any _ _ _ _ W (hfr.but h) (hfu.but h) lrk lu))
   have BA:Hid (But [] wr (wr.alloc (.cells #[.bool sr,.int .u64 xr,.int .u64 yr,.pointer pr] 41))):=(But.refl _ _).alloc _
   have lB:B<wr.heap.size:=lt_of_cell b0
   clear hfr lrk hrow hfs hfu hb
   go_wp2_with fail
   refine (unhide MU _ (unhide BA)).mono ?_
   rintro e w3 ⟨s3,x3,y3,p3,rfl,hv3,hb3⟩
   have B3:Hid (But [] wr w3):=(unhide BA).trans' hb3
   have HV3:=hide hv3
   have hrow3:=(unhide HI).1.but (unhide B3) hG2
   have R3:=hide hrow3
   have pf:=hrow3.loose
   obtain ⟨k0,k1,k2,k3⟩:=hrow3.blank k (Nat.le_refl _) hlt
   clear hv3 hb3 MU BA r0 r1 r2 r3 b0 b1 b2 b3 hrow3
   go_wp2
   have hS:=but_setCells w3 G [.bool s3,.int .u64 x3,.int .u64 y3,.pointer p3] (k*4)
   obtain ⟨cb,hcb⟩:=(unhide R3).bool (by omega)
   have hc2:∀ g ∈ [G],∃ s,w3.cell? ⟨g,0,none⟩=some (.bool s):=fun g hg=>by simp at hg;subst hg;exact ⟨_,hcb⟩
   have lw:w.heap.size≤G:=by have:=unhide HW;omega
   refine ⟨⟨k+1,by omega,by go_num,(unhide R3).next hlt s3 x3 y3 p3 (unhide HV3),((unhide HI).2.1.but (unhide B3) (by simp)).but hS (by simp;omega),(unhide HV).behind ((unhide HI).2.2.1.but (unhide B3)) hS lw ⟨_,hcb⟩,((unhide HI).2.2.2.1.but (unhide B3)).beside hS hc2,Nat.lt_of_lt_of_le (Nat.lt_of_lt_of_le hG2 (unhide B3).size) hS.size,((unhide HI).2.2.2.2.2.trans' (unhide B3)).trans hS (fun x hx=>by simp at hx;subst hx;exact .inr lw)⟩,by simp [intOf];omega⟩
  ·obtain rfl:k=n:=by omega
   go_wp2
   go_ret
   exact ⟨G,rfl,(unhide HI).1,by have:=unhide HW;omega,(unhide HI).2.2.2.2.1,(unhide HI).2.2.2.2.2⟩
end Go.Proofs.YthlnhheblhapgaaGreatDoor

namespace Go.Proofs.YthlnhheblhapgaaGreatDoor
open Go.RowKit
set_option maxHeartbeats 16000000
set_option maxRecDepth 100000
def yrN (ls:List (List Rat)):Nat:=comN 1 ls.flatten
def yrU (ls:List (List Rat)):Rat:=(((yrN ls:Nat):Int):Rat)
def yrM (ls:List (List Rat)) (i k:Nat):Rat:=(ls[i]?.getD [])[k]?.getD 0*yrU ls
theorem NewM.beside {B:Nat} {w w':World} {g n:Nat} {l:List Nat} (h:NewM B w g n) (hb:But l w w') (hn:g ∉ l):NewM B w' g n:=by
 have e:∀ j,w'.cell? ⟨g,j,none⟩=w.cell? ⟨g,j,none⟩:=fun j=>hb.cell (p:=⟨g,j,none⟩) h.lt hn
 exact ⟨fun k hk=>(e k).trans (h.cells k hk),fun i v hv=>h.slcs i v ((e i).symm.trans hv),fun j v hj hv=>h.top j v hj ((e j).symm.trans hv),fun j=>(hb.frozen (p:=⟨g,j,none⟩) h.lt hn).trans (h.loose j),h.new,Nat.lt_of_lt_of_le h.lt hb.size⟩
theorem flatten_le (ls:List (List Rat)) (n:Nat):(∀ l ∈ ls,l.length=n)→ls.flatten.length=ls.length*n:=by
 induction ls with
 | nil=>intro _;simp
 | cons a ls ih =>
  intro h
  rw [List.flatten_cons,List.length_append,ih (fun l hl=>h l (by simp [hl])),h a (by simp),List.length_cons,Nat.succ_mul]
  omega
theorem yearOf_any (q:Option Addr) (n cap:Nat) (ls:List (List Rat)) (m:Int) (w:World) (hv:ListsAt w (.slice q n cap) ls) (hN:n=ls.length) (h1:1≤n) (h8:n≤8) (hr:∀ l ∈ ls,l.length=n) (lf:∀ l ∈ ls,∀ f ∈ l,Len f 1) (htab:Lib.TabIs Tryz.prog w "internal/strconv.uint64pow10" .u64 Lib.pow10Tab) (hm:w.cell? ⟨4,0,none⟩=some (.int .i64 m)) :
  Calls Tryz.prog 40 #[.slice q n cap] w fun e w'=>∃ z:Nat × FZ,e=.returned (.agg #[.slice (some ⟨z.1,0,none⟩) n n,.bool z.2.1,.int .u64 z.2.2.1,.int .u64 z.2.2.2.1,.pointer z.2.2.2.2])∧YrNew w.heap.size n (yrM ls) (yrU ls) w' z∧But [] w w':=by
 have hfl:=flatten_le ls n hr
 have hfl2:ls.flatten.length≤64:=by rw [hfl,← hN];exact Nat.le_trans (Nat.mul_le_mul h8 h8) (by omega)
 have CO:=hide (fun W (hb:But [] w W)=>in_prod (common_any (.slice q n cap) ls W m 1 (hv.but hb) (by omega) (fun l hl=>by rw [hr l hl];omega) lf (by omega) (by omega) (TabIs.but htab hb) (hb.cell_some hm (by simp))))
 have LU:Len (yrU ls) 66:=by
  have:=comN_len 1 ls.flatten 1 (fun f hf=>by
   obtain ⟨l,hl,hf'⟩:=List.mem_flatten.1 hf
   exact lf l hl f hf')
  have h1':(wd 18446744073709551616 1).length≤1:=wd_length_le (by omega) _ 1 (by omega)
  obtain ⟨e1,e2⟩:=int_parts (((comN 1 ls.flatten:Nat):Int))
  refine ⟨?_,?_⟩
  ·unfold yrU yrN;rw [e1,Int.natAbs_natCast];omega
  ·unfold yrU yrN;rw [e2];exact Nat.le_trans h1' (by omega)
 have TI:=hide (fun (W0 W:World) (hb0:But [] w W0) (hb:But [] W0 W) (i:Nat) (hi:i<n) (vu v:Value) (hU:FracAt W vu (yrU ls)) (hf:FracsAt W v (ls[i]?.getD []))=>show Calls Tryz.prog 46 #[v,vu] W fun e w'=>∃ g,e=.returned (.slice (some ⟨g,0,none⟩) n n)∧NewR W0.heap.size w' g n (yrM ls i)∧But [] W w' from by
  have hmem:(ls[i]?.getD []) ∈ ls:=by rw [List.getElem?_eq_getElem (by omega),Option.getD_some];exact List.getElem_mem _
  refine (times_any v vu _ _ W hf hU (by rw [hr _ hmem];omega) (fun f hf'=>(lf _ hmem f hf').mono (by omega)) (LU.mono (by omega))).mono ?_
  rintro e w' ⟨g,he,hrow,hg1,hg2,hb'⟩
  rw [hr _ hmem] at he hrow
  exact ⟨g,he,⟨⟨hrow.told,hrow.loose⟩,Nat.le_trans hb.size hg1,hg2⟩,hb'⟩)
 have HV:=hide hv
 have HN:=hide hN
 have hn:n<1000000:=by omega
 obtain ⟨W1,hW1⟩:∃ W1,W1=w.alloc (.cells #[.slice none 0 0,.bool false,.int .u64 0,.int .u64 0,.pointer none] 76):=⟨_,rfl⟩
 have x2:NewB w.heap.size W1 w.heap.size [.slice none 0 0,.bool false,.int .u64 0,.int .u64 0,.pointer none]:=by rw [hW1];exact NewB.made _ w [.slice none 0 0,.bool false,.int .u64 0,.int .u64 0,.pointer none] _ (Nat.le_refl _)
 have b1:But [] w W1:=by rw [hW1];exact (But.refl _ _).alloc _
 have X2:=hide x2
 have B1:=hide b1
 have HW1:=hide hW1
 have l2:w.heap.size<W1.heap.size:=x2.lt
 clear hv hN hr lf htab hm hfl hfl2 LU x2 b1 hW1
 go_enter Tryz.func40,Tryz.ntmps40
 go_wp2_with fail
 rw [← unhide HW1]
 generalize hg2:w.heap.size=g2 at *
 have Q2:Hid (w.heap.size≤g2):=by show _≤_;omega
 clear HW1
 refine year_region1 1 _ _ W1 q n cap (yrU ls) (by simp) (by simp [Act.eval]) hn (fun W hb=>unhide CO W ((unhide B1).trans' hb)) ?_
 intro go z g3 w1 hP
 simp only [putted,List.foldl_cons,List.foldl_nil,Act.put,List.setIfInBounds_toArray,List.set_cons_zero,List.set_cons_succ]
 obtain ⟨V,hV⟩:∃ V,V=w1.setCells g3 0 [.slice (some ⟨go,0,none⟩) n n,.bool z.1,.int .u64 z.2.1,.int .u64 z.2.2.1,.pointer z.2.2.2]:=⟨_,rfl⟩
 have hP6:=hP.f6 rfl
 have hP2:=hP.f2 rfl
 have bV:But [g3] w1 V:=by rw [hV];exact but_setCells w1 g3 _ 0
 have x3:NewB g2 V g3 [.slice (some ⟨go,0,none⟩) n n,.bool z.1,.int .u64 z.2.1,.int .u64 z.2.2.1,.pointer z.2.2.2]:=by
  have:=hP6.put (us:=[.slice (some ⟨go,0,none⟩) n n,.bool z.1,.int .u64 z.2.1,.int .u64 z.2.2.1,.pointer z.2.2.2]) rfl
  rw [← hV] at this
  exact ⟨this.cells,this.loose,by have:=this.new;omega,this.lt⟩
 have hgo3:go≠g3:=hP.x2_6 rfl rfl
 have g3g:g2<g3:=by have:=hP6.new;omega
 have gog:g2<go:=by have:=hP2.new;omega
 have mI:MatI V go n 0 (yrM ls):=MatI.start (hP2.beside bV (by simpa using hgo3)) _
 have fU:FracAt V (.agg #[.bool z.1,.int .u64 z.2.1,.int .u64 z.2.2.1,.pointer z.2.2.2]) (yrU ls):=(hP.f4 rfl).besideY bV (fun g hg=>by simp at hg;subst hg;exact ⟨false,hP6.cells 1 _ rfl⟩)
 have x2V:NewB w.heap.size V g2 [.slice none 0 0,.bool false,.int .u64 0,.int .u64 0,.pointer none]:=by
  have:=((unhide X2).but hP.mem).beside bV (by simp;omega)
  exact ⟨this.cells,this.loose,unhide Q2,this.lt⟩
 have bw:But [] w V:=((unhide B1).trans' hP.mem).trans bV (fun x hx=>by simp at hx;subst hx;exact .inr (by have:=unhide Q2;omega))
 have II:=hide (And.intro mI (And.intro x3 (And.intro fU (And.intro x2V bw))))
 rw [← hV]
 clear hP hP6 hP2 bV x3 mI fU x2V bw hV X2 B1 CO w1
 obtain ⟨s1,x1,y1,p1⟩:=z
 simp only at II ⊢
 go_wp2
 go_loopw [13] (fun iv wr=>∃ i:Nat,i≤n∧iv=.int .i64 (i:Int)∧Hid (MatI wr go n i (yrM ls)∧NewB g2 wr g3 [.slice (some ⟨go,0,none⟩) n n,.bool s1,.int .u64 x1,.int .u64 y1,.pointer p1]∧FracAt wr (.agg #[.bool s1,.int .u64 x1,.int .u64 y1,.pointer p1]) (yrU ls)∧NewB w.heap.size wr g2 [.slice none 0 0,.bool false,.int .u64 0,.int .u64 0,.pointer none]∧But [] w wr)) (fun iv _=>n-(intOf iv).toNat)
 case atStart=>exact ⟨0,Nat.zero_le _,rfl,unhide II⟩
 case round =>
  obtain ⟨i,hi,rfl,HI⟩:=hrel
  rename World=>wr
  clear II
  by_cases hlt:i<n
  ·obtain ⟨mI,x3,fU,x2,bw⟩:=unhide HI
   obtain ⟨b,off,u,rfl,hcu,hfu⟩:=((unhide HV).but bw).get i (by have:=unhide HN;omega)
   obtain ⟨ua,uc,rfl,-,-⟩:=id hfu
   obtain ⟨ln,hln⟩:∃ ln,ln=(ls[i]?.getD []).length:=⟨_,rfl⟩
   rw [← hln] at hcu hfu
   go_wp2
   refine year_region5 5 _ _ wr g3 go b off n cap i ln uc ua (yrM ls i) s1 x1 y1 p1 (by simp) (by simp [Act.eval]) (by simp [Act.eval]) (by simp [Act.eval]) hlt hn (x3.cells 0 _ rfl) hcu ⟨x3.cells 1 _ rfl,x3.cells 2 _ rfl,x3.cells 3 _ rfl,x3.cells 4 _ rfl⟩ (mI.blank i (Nat.le_refl _) hlt) (mI.loose i) (fun W hb=>unhide TI wr W bw hb i hlt _ _ (fU.but hb) (hfu.but hb)) ?_
   intro gr w2 hP
   simp only [putted,List.foldl_cons,List.foldl_nil,Act.put,List.setIfInBounds_toArray,List.set_cons_zero,List.set_cons_succ]
   obtain ⟨n1,n2,n3⟩:=(mI.but hP.mem).next hlt (hP.f9 rfl).row.rowR
   have JJ:=hide (And.intro n1 (And.intro ((x3.but hP.mem).beside n2 (by simpa using hgo3.symm)) (And.intro (n3 _ _ (fU.but hP.mem)) (And.intro ((x2.but hP.mem).beside n2 (by simp;omega)) ((bw.trans' hP.mem).trans n2 (fun x hx=>by simp at hx;subst hx;exact .inr (by have:=unhide Q2;omega)))))))
   generalize w2.setCell ⟨go,i,none⟩ (.slice (some ⟨gr,0,none⟩) n n)=V2 at *
   clear n1 n2 n3 hP mI x3 fU x2 bw hcu hfu hln HI
   go_wp2
   exact ⟨⟨i+1,by omega,by go_num,unhide JJ⟩,by simp [intOf];omega⟩
  ·obtain rfl:i=n:=by omega
   obtain ⟨mI,x3,fU,x2,bw⟩:=unhide HI
   have a0:=x3.cells 0 _ rfl
   have a1:=x3.cells 1 _ rfl
   have a2:=x3.cells 2 _ rfl
   have a3:=x3.cells 3 _ rfl
   have a4:=x3.cells 4 _ rfl
   have r0:=x2.cells 0 _ rfl
   have r1:=x2.cells 1 _ rfl
   have r2:=x2.cells 2 _ rfl
   have r3:=x2.cells 3 _ rfl
   have r4:=x2.cells 4 _ rfl
   have rf:=x2.loose
   have HX2:=hide x2
   have K:=hide (And.intro mI (And.intro fU bw))
   clear mI x3 fU x2 bw HI
   go_wp2
   have hb:=but_setCells wr g2 [.slice (some ⟨go,0,none⟩) i i,.bool s1,.int .u64 x1,.int .u64 y1,.pointer p1] 0
   have y2:=(unhide HX2).put (us:=[.slice (some ⟨go,0,none⟩) i i,.bool s1,.int .u64 x1,.int .u64 y1,.pointer p1]) rfl
   change bodyPost _ _ _ _ _ (wr.setCells g2 0 [.slice (some ⟨go,0,none⟩) i i,.bool s1,.int .u64 x1,.int .u64 y1,.pointer p1])
   obtain ⟨mI,fU,bw⟩:=unhide K
   have hc1:∀ g ∈ [g2],∃ s,wr.cell? ⟨g,1,none⟩=some (.bool s):=fun g hg=>by simp at hg;subst hg;exact ⟨_,r1⟩
   have mF:=mI.mat.besideY hb hc1
   have fF:=fU.besideY hb hc1
   have hF:But [] w (wr.setCells g2 0 [.slice (some ⟨go,0,none⟩) i i,.bool s1,.int .u64 x1,.int .u64 y1,.pointer p1]):=bw.trans hb (fun x hx=>by simp at hx;subst hx;exact .inr (unhide Q2))
   have m0:=y2.cells 0 _ rfl
   have m1:=y2.cells 1 _ rfl
   have m2:=y2.cells 2 _ rfl
   have m3:=y2.cells 3 _ rfl
   have m4:=y2.cells 4 _ rfl
   generalize wr.setCells g2 0 [.slice (some ⟨go,0,none⟩) i i,.bool s1,.int .u64 x1,.int .u64 y1,.pointer p1]=F at *
   exact bodyPost_ret (v:=.agg #[.slice (some ⟨go,0,none⟩) i i,.bool s1,.int .u64 x1,.int .u64 y1,.pointer p1]) (by simp [results,Tryz.results40,go_sem,m0,m1,m2,m3,m4]) rfl ⟨(go,s1,x1,y1,p1),rfl,⟨mF,fF,by show _≤go;omega⟩,hF⟩
end Go.Proofs.YthlnhheblhapgaaGreatDoor

namespace Go.Proofs.YthlnhheblhapgaaGreatDoor
open Go.RowKit
set_option maxHeartbeats 32000000
set_option maxRecDepth 100000
theorem info_year:∃ i,Tryz.prog.info? 76 = some i∧i.zero=some (.agg #[.slice none 0 0,.bool false,.int .u64 0,.int .u64 0,.pointer none])∧i.size=5∧i.bytes=56:=by
 have h:(Tryz.prog.info? 76).map (fun i=>(i.zero,i.size,i.bytes))=some (some (.agg #[.slice none 0 0,.bool false,.int .u64 0,.int .u64 0,.pointer none]),5,56):=by kernel_rfl
 cases e:Tryz.prog.info? 76 with
 | none=>rw [e] at h;simp at h
 | some i =>
  rw [e] at h
  simp only [Option.map_some,Option.some.injEq,Prod.mk.injEq] at h
  exact ⟨i,rfl,h.1,h.2.1,h.2.2⟩
def yc (n:Nat) (z:Nat × FZ):List Value:=[.slice (some ⟨z.1,0,none⟩) n n,.bool z.2.1,.int .u64 z.2.2.1,.int .u64 z.2.2.2.1,.pointer z.2.2.2.2]
def ycs (n:Nat) (Z:Nat→Nat × FZ) (k:Nat):List Value:=(List.range k).flatMap fun j=>yc n (Z j)
theorem ycs_len (n:Nat) (Z:Nat→Nat × FZ):∀ k,(ycs n Z k).length=k*5
 | 0=>rfl
 | k+1=>by
  have:=ycs_len n Z k
  unfold ycs at *
  rw [List.range_succ,List.flatMap_append,List.length_append,this,List.flatMap_singleton,Nat.succ_mul];rfl
theorem ycs_succ (n:Nat) (Z:Nat→Nat × FZ) (k:Nat):ycs n Z (k+1)=ycs n Z k++yc n (Z k):=by
 unfold ycs
 rw [List.range_succ,List.flatMap_append,List.flatMap_singleton]
theorem ycs_get (n:Nat) (Z:Nat→Nat × FZ):∀ k i r,i<k→r<5→(ycs n Z k)[i*5+r]? = (yc n (Z i))[r]?
 | 0,i,r,h,_=>absurd h (by omega)
 | k+1,i,r,h,hr=>by
  have hl:=ycs_len n Z k
  rw [ycs_succ]
  by_cases hi:i<k
  ·rw [List.getElem?_append_left (by omega)]
   exact ycs_get n Z k i r hi hr
  ·obtain rfl:i=k:=by omega
   rw [List.getElem?_append_right (by omega),hl,show i*5+r-i*5=r by omega]
theorem ycs_congr (n:Nat) (Z Z':Nat→Nat × FZ):∀ k,(∀ j,j<k→Z j=Z' j)→ycs n Z k=ycs n Z' k
 | 0,_=>rfl
 | k+1,h=>by rw [ycs_succ,ycs_succ,ycs_congr n Z Z' k (fun j hj=>h j (by omega)),h k (by omega)]
theorem append_year (w:World) (base:Nat) (v:Value) (k n:Nat) (us:List Value) (hown:w.ownsRow base 76 5 v k us) (g:Nat) (z:Nat × FZ) (hc:∀ j u,(yc n z)[j]? = some u→w.cell? ⟨g,j,none⟩=some u) (hk:k<1000000) (hb:base≤w.heap.size) :
  ∃ v' w',(Builtin.append_ #[61,61] 61 #[v,.slice (some ⟨g,0,none⟩) 1 1]).run Tryz.prog w=.ok v' w'∧w'.ownsRow base 76 5 v' (k+1) (us++yc n z)∧w.grownBy w' v.ownBlock:=by
 obtain ⟨i0,hi,hz0,hz1,hz2⟩:=info_year
 obtain ⟨v',w',hr,ho,hg,-⟩:=run_append_own (P:=Tryz.prog) w base 61 61 76 i0 _ 5 56 Tryz.underlying61 hi hz0 hz1 hz2 rfl (by decide) v k us hown ⟨g,0,none⟩ 1 1 (yc n z) rfl (fun j u hj=>by
   rw [addr_add,Nat.zero_add]
   exact hc j u hj) (fun u hu=>by
   simp only [yc,List.mem_cons,List.not_mem_nil,or_false] at hu
   rcases hu with rfl | rfl | rfl | rfl | rfl <;> rfl) (by unfold maxLen;omega) (by omega) hb
 exact ⟨v',w',hr,ho,hg⟩
theorem but_grown' {w w':World} {row:Option Nat} (h:w.grownBy w' row):But row.toList w w':=⟨h.os,h.tape,h.output,h.size,fun k hk hn=>h.block k hk (fun e=>hn (by rw [← e];simp))⟩
structure Years (w:World) (base n k:Nat) (v:Value) (yss:List (List (List Rat))) (Z:Nat→Nat × FZ):Prop where
 own:w.ownsRow base 76 5 v k (ycs n Z k)
 nil:k=0→v=.slice none 0 0
 val:∀ j,j<k→YrNew base n (yrM (yss[j]?.getD [])) (yrU (yss[j]?.getD [])) w (Z j)
theorem Years.but {w w':World} {base n k:Nat} {v:Value} {yss:List (List (List Rat))} {Z:Nat→Nat × FZ} (h:Years w base n k v yss Z) (hb:But [] w w'):Years w' base n k v yss Z:=⟨ownsRow_but h.own hb,h.nil,fun j hj=>(h.val j hj).but hb⟩
theorem Years.block {w:World} {base n k:Nat} {v:Value} {yss:List (List (List Rat))} {Z:Nat→Nat × FZ} (h:Years w base n k v yss Z) (h0:0<k):∃ g cap,v=.slice (some ⟨g,0,none⟩) k cap∧base≤g∧k≤cap∧∀ j r,j<k→r<5→w.cell? ⟨g,j*5+r,none⟩=(yc n (Z j))[r]?:=by
 rcases h.own.2 with ⟨-,h1⟩ | ⟨g,cap,cur,rfl,h2,-,h4,-⟩
 ·omega
 ·refine ⟨g,cap,rfl,h2,h4,fun j r hj hr=>?_⟩
  rw [h.own.cellAt (j*5+r) (by have:j*5≤(k-1)*5:=Nat.mul_le_mul (by omega) (Nat.le_refl _);omega),ycs_get n Z k j r hj hr]
theorem Years.kept {w w':World} {base n k:Nat} {v:Value} {yss:List (List (List Rat))} {Z:Nat→Nat × FZ} (h:Years w base n k v yss Z) (hg:w.grownBy w' v.ownBlock) (B:Nat) (m:Nat) (M:Nat→Nat→Rat) (U:Rat) (z:Nat × FZ) (hz:YrNew B m M U w z):YrNew B m M U w' z:=by
 have hb:=but_grown' hg
 rcases Nat.eq_zero_or_pos k with e | e
 ·rw [h.nil e] at hb
  exact hz.but hb
 ·obtain ⟨g,cap,rfl,-,-,hc⟩:=h.block e
  have hb':But [g] w w':=hb
  have hc1:∀ g' ∈ [g],∃ s,w.cell? ⟨g',1,none⟩=some (.bool s):=fun g' hg'=>by
   simp at hg'
   subst hg'
   exact ⟨_,hc 0 1 e (by omega)⟩
  exact ⟨hz.mat.besideY hb' hc1,hz.low.besideY hb' hc1,hz.new⟩
def MatsAt (w:World) (v:Value) (yss:List (List (List Rat))):Prop:=∃ a cap,v=.slice a yss.length cap∧∀ i ls,yss[i]? = some ls→∃ b off u,a=some ⟨b,off,none⟩∧w.cell? ⟨b,off+i,none⟩=some u∧ListsAt w u ls
theorem MatsAt.but {w w':World} {v:Value} {yss:List (List (List Rat))} (h:MatsAt w v yss) (hb:But [] w w'):MatsAt w' v yss:=by
 obtain ⟨a,cap,e,h⟩:=h
 refine ⟨a,cap,e,fun i ls hl=>?_⟩
 obtain ⟨b,off,u,e1,h1,h2⟩:=h i ls hl
 exact ⟨b,off,u,e1,hb.cell_some h1 (by simp),h2.but hb⟩
theorem MatsAt.get {w:World} {q:Option Addr} {n cap:Nat} {yss:List (List (List Rat))} (h:MatsAt w (.slice q n cap) yss) (i:Nat) (hi:i<n):∃ b off a c ls,q=some ⟨b,off,none⟩∧yss[i]? = some ls∧w.cell? ⟨b,off+i,none⟩=some (.slice a ls.length c)∧ListsAt w (.slice a ls.length c) ls:=by
 obtain ⟨a,cap',e,h⟩:=h
 simp only [Value.slice.injEq] at e
 obtain ⟨rfl,rfl,-⟩:=e
 obtain ⟨b,off,u,e1,h1,h2⟩:=h i yss[i] (List.getElem?_eq_getElem hi)
 obtain ⟨a',c',rfl,-⟩:=id h2
 exact ⟨b,off,a',c',yss[i],e1,List.getElem?_eq_getElem hi,h1,h2⟩
def ChainOk (yss:List (List (List Rat))):Prop:=1≤yss.length∧yss.length≤120∧∀ ls ∈ yss,MatOk ls∧ls.length=(yss[0]?.getD []).length
def NewPost (yss:List (List (List Rat))) (w:World) (e:Ending) (w':World):Prop:=But [] w w' ∧
 ((ChainOk yss∧∃ g,e=.returned (.tuple #[.pointer (some ⟨g,0,none⟩),.nilIface])∧ChainAt w' g yss.length (yss[0]?.getD []).length (fun j=>yrM (yss[j]?.getD [])) (fun j=>yrU (yss[j]?.getD []))) ∨
 (¬ ChainOk yss∧∃ c:Int,0<c∧c<16∧e=.returned (.tuple #[.pointer none,.iface 26 (.int .i64 c)])))
theorem chainNew_any (v:Value) (yss:List (List (List Rat))) (m:Int) (w:World) (hv:MatsAt w v yss) (hl:yss.length<1000000) (hll:∀ ls ∈ yss,ls.length<1000000∧∀ l ∈ ls,l.length<1000000) (lf:∀ ls ∈ yss,∀ l ∈ ls,∀ f ∈ l,Len f 1) (htab:Lib.TabIs Tryz.prog w "internal/strconv.uint64pow10" .u64 Lib.pow10Tab) (hm:w.cell? ⟨4,0,none⟩=some (.int .i64 m)) :
  Calls Tryz.prog 20 #[v] w (NewPost yss w):=by
 obtain ⟨q,cap,rfl,-⟩:=id hv
 obtain ⟨ny,hNY⟩:∃ ny,ny=yss.length:=⟨_,rfl⟩
 have POK:Hid (ChainOk yss→∀ g e w',e=.returned (.tuple #[.pointer (some ⟨g,0,none⟩),.nilIface])→But [] w w'→ChainAt w' g ny (yss[0]?.getD []).length (fun j=>yrM (yss[j]?.getD [])) (fun j=>yrU (yss[j]?.getD []))→NewPost yss w e w'):=fun h g e w' he hb hc=>⟨hb,.inl ⟨h,g,he,by rw [← hNY];exact hc⟩⟩
 have PNO:Hid (¬ ChainOk yss→∀ (c:Int) e w',0<c→c<16→e=.returned (.tuple #[.pointer none,.iface 26 (.int .i64 c)])→But [] w w'→NewPost yss w e w'):=fun h c e w' h1 h2 he hb=>⟨hb,.inr ⟨h,c,h1,h2,he⟩⟩
 have HCK:Hid (ChainOk yss↔1≤ny∧ny≤120∧∀ ls ∈ yss,MatOk ls∧ls.length=(yss[0]?.getD []).length):=by rw [hNY];exact Iff.rfl
 generalize ChainOk yss=OK at *
 rw [← hNY] at hl ⊢
 rw [← hNY] at hv
 have HV:=hide hv
 have HNY:=hide hNY
 by_cases h0:ny<1
 ·obtain rfl:ny=0:=by omega
  have NP:Hid (¬ OK):=fun h=>by have:=((unhide HCK).1 h).1;omega
  clear hv hNY
  go_enter Tryz.func20,Tryz.ntmps20
  go_wp2
  exact bodyPost_ret (v:=.tuple #[.pointer none,.iface 26 (.int .i64 4)]) (by simp [results,Tryz.results20,go_sem]) rfl (unhide PNO (unhide NP) 4 _ _ (by omega) (by omega) rfl (But.refl _ _))
 ·by_cases h1:120<ny
  ·have NP:Hid (¬ OK):=fun h=>by have:=((unhide HCK).1 h).2.1;omega
   clear hv hNY
   go_enter Tryz.func20,Tryz.ntmps20
   go_wp2
   exact bodyPost_ret (v:=.tuple #[.pointer none,.iface 26 (.int .i64 4)]) (by simp [results,Tryz.results20,go_sem]) rfl (unhide PNO (unhide NP) 4 _ _ (by omega) (by omega) rfl (But.refl _ _))
  ·obtain ⟨b,off,a0,c0,ls0,rfl,hls0,hc0,hl0⟩:=hv.get 0 (by omega)
   have hE0:yss[0]?.getD []=ls0:=by rw [hls0];rfl
   rw [hE0] at HCK POK
   obtain ⟨n,hn⟩:∃ n,n=ls0.length:=⟨_,rfl⟩
   rw [← hn] at hc0 HCK POK
   rw [Nat.add_zero] at hc0
   have CK:=hide (fun W v ls (hls:ls ∈ yss) (hv:ListsAt W v ls)=>chainCheck_any v ls 1 W hv (hll ls hls).1 (hll ls hls).2 (lf ls hls) (by omega) (by omega))
   have YO:=hide (fun W0 W (hb0:But [] w W0) (hb:But [] W0 W) qq cc ls (hls:ls ∈ yss) (hok:MatOk ls) (hv:ListsAt W (.slice qq ls.length cc) ls)=>show Calls Tryz.prog 40 #[.slice qq ls.length cc] W fun e w'=>∃ z:Nat × FZ,e=.returned (.agg #[.slice (some ⟨z.1,0,none⟩) ls.length ls.length,.bool z.2.1,.int .u64 z.2.2.1,.int .u64 z.2.2.2.1,.pointer z.2.2.2.2])∧YrNew W0.heap.size ls.length (yrM ls) (yrU ls) w' z∧But [] W w' from
    (yearOf_any qq ls.length cc ls m W hv rfl hok.1 hok.2.1 (fun l hl=>(hok.2.2 l hl).1) (lf ls hls) (TabIs.but htab (hb0.trans' hb)) ((hb0.trans' hb).cell_some hm (by simp))).mono fun e w' ⟨z,h1,h2,h3⟩=>⟨z,h1,⟨h2.mat,h2.low,Nat.le_trans hb.size h2.new⟩,h3⟩)
   obtain ⟨V,hV⟩:∃ V,V=w.alloc (.cells #[.int .i64 (n:Int),.slice none 0 0] 63):=⟨_,rfl⟩
   have x4:NewB w.heap.size V w.heap.size [.int .i64 (n:Int),.slice none 0 0]:=by rw [hV];exact NewB.made _ w [.int .i64 (n:Int),.slice none 0 0] _ (Nat.le_refl _)
   have bV:But [] w V:=by rw [hV];exact (But.refl _ _).alloc _
   have X4:=hide x4
   have BV:=hide bV
   have HN:=hide hn
   have y0:Years V w.heap.size n 0 (.slice none 0 0) yss (fun _=>(0,false,0,0,none)):=⟨World.ownsRow_nil _ _ _ _,fun _=>rfl,fun j hj=>absurd hj (by omega)⟩
   have Y0:=hide y0
   have HE0:=hide hls0
   have HW:=hide hV
   clear hv hNY hl0 hls0 hE0 htab hm lf hll x4 bV hn y0 hV
   go_enter Tryz.func20,Tryz.ntmps20
   go_wp2
   rw [← unhide HW]
   generalize hg4:w.heap.size=g4 at *
   have Q4:Hid (w.heap.size≤g4):=by show _≤_;omega
   clear HW hc0
   have hg4l:w.heap.size=g4:=hg4
   clear hg4
   have HG4:=hide hg4l
   clear hg4l
   go_loopw [25] (fun iv wr=>∃ k:Nat,k≤ny∧iv=.int .i64 (k:Int)∧Hid ((∃ qy cy Z,NewB g4 wr g4 [.int .i64 (n:Int),.slice qy k cy]∧Years wr g4 n k (.slice qy k cy) yss Z)∧(∀ ls ∈ yss.take k,MatOk ls∧ls.length=n)∧But [] w wr)) (fun iv _=>ny-(intOf iv).toNat)
   case atStart=>exact ⟨0,Nat.zero_le _,rfl,⟨none,0,_,unhide X4,unhide Y0⟩,fun ls hls=>by simp at hls,unhide BV⟩
   case round =>
    obtain ⟨k,hk,rfl,HI⟩:=hrel
    rename World=>wr
    clear X4 Y0 BV
    by_cases hlt:k<ny
    ·obtain ⟨b',off',ak,ck,ls,e',hls,hcl,hLs⟩:=((unhide HV).but (unhide HI).2.2).get k hlt
     simp only [Option.some.injEq,Addr.mk.injEq,and_true] at e'
     obtain ⟨rfl,rfl⟩:=e'
     have hmem:ls ∈ yss:=List.mem_of_getElem? hls
     have CC:=hide (unhide CK wr _ ls hmem hLs)
     obtain ⟨ln,hln⟩:∃ ln,ln=ls.length:=⟨_,rfl⟩
     rw [← hln] at hcl CC hLs
     have HLN:=hide hln
     have HLS:=hide hls
     have HLL:=hide hLs
     clear hln hls hLs
     obtain ⟨⟨qy,cy,Z,x4,yy⟩,hall,bw⟩:=unhide HI
     have XX:=hide x4
     have YY:=hide yy
     have HALL:=hide hall
     have BW:=hide bw
     have cc0:=x4.cells 0 _ rfl
     clear x4 yy hall bw HI
     go_wp2_with fail
     refine (unhide CC).mono ?_
     rintro e w1 ⟨r,rfl,hb1,hr⟩
     have B1:=hide hb1
     replace cc0:=hb1.cell_some cc0 (by simp)
     clear hb1 CC hcl
     rcases hr with ⟨hp,rfl⟩ | ⟨hp,cc,hcc1,hcc2,rfl⟩
     ·by_cases hne:ln=n
      ·subst hne
       have OKL:Hid (MatOk ls∧ls.length=ln):=⟨hp,(unhide HLN).symm⟩
       clear hp
       have b01:=unhide B1
       have x1:=(unhide XX).but b01
       have y1:=(unhide YY).but b01
       have bw1:=(unhide BW).trans' b01
       have l1:=(unhide HLL).but b01
       go_wp2
       refine new_region12 12 _ _ w1 g4 k cy ln ck ln qy ak (yrM ls) (yrU ls) (fun a W=>∃ Z',a.2.1=k+1∧NewB g4 W g4 [.int .i64 (ln:Int),.slice qy k cy]∧Years W g4 ln (k+1) (.slice a.1 a.2.1 a.2.2) yss Z'∧But [] w W) (fun a W=>∃ Z',a.2.1=k+1∧NewB g4 W g4 [.int .i64 (ln:Int),.slice a.1 (k+1) a.2.2]∧Years W g4 ln (k+1) (.slice a.1 (k+1) a.2.2) yss Z'∧But [] w W) (by simp) (by simp [Act.eval]) (by simp [Act.eval]) (x1.cells 1 _ rfl) ?_ ?_ ?_ ?_
       ·intro W hb
        have:=unhide YO w1 W bw1 hb ak ck ls hmem (unhide OKL).1 (by rw [(unhide OKL).2];exact l1.but hb)
        rw [(unhide OKL).2] at this
        exact this
       ·intro z gb W hb hz hgb
        have yW:=y1.but hb
        obtain ⟨v',w',hr,ho,hg⟩:=append_year W g4 (.slice qy k cy) k ln (ycs ln Z k) yW.own gb z hgb.cells (by omega) (by have:=(bw1.trans' hb).size;have:=unhide HG4;omega)
        obtain ⟨a',c',rfl⟩:=ownsRow_form ho
        refine ⟨(a',k+1,c'),w',hr,fun j=>if j=k then z else Z j,rfl,?_,⟨?_,fun h=>by omega,fun j hj=>?_⟩,?_⟩
        ·have xW:=x1.but hb
         have hbg:=but_grown' hg
         refine xW.beside hbg (fun hm=>?_)
         rcases Nat.eq_zero_or_pos k with e | e
         ·have:=yW.nil e
          simp only [Value.slice.injEq] at this
          obtain ⟨rfl,-,-⟩:=this
          simp [Value.ownBlock] at hm
         ·obtain ⟨g,cap',e2,-,-,hc⟩:=yW.block e
          simp only [Value.slice.injEq] at e2
          obtain ⟨rfl,-,-⟩:=e2
          simp [Value.ownBlock] at hm
          subst hm
          have h1:=hc 0 0 e (by omega)
          rw [Nat.zero_mul,xW.cells 0 _ rfl] at h1
          simp [yc] at h1
        ·have e1:ycs ln (fun j=>if j=k then z else Z j) (k+1)=ycs ln Z k++yc ln z:=by
          rw [ycs_succ,ycs_congr ln _ Z k (fun j hj=>if_neg (by omega))]
          simp
         rw [e1]
         exact ho
        ·by_cases ej:j=k
         ·subst ej
          rw [if_pos rfl,unhide HLS]
          have:=yW.kept hg _ _ _ _ z hz
          exact ⟨this.mat,this.low,by have h1:=this.new;have h2:=bw1.size;have:=unhide HG4;omega⟩
         ·rw [if_neg ej]
          exact yW.kept hg _ _ _ _ (Z j) (yW.val j (by omega))
        ·exact but_of_grown (bw1.trans' hb) yW.own (Nat.le_of_eq (unhide HG4)) hg
       ·rintro a W ⟨Z',ha,xW,yW,bW⟩
        refine ⟨⟨_,xW.cells 1 _ rfl⟩,xW.loose 1,Z',ha,?_,?_,?_⟩
        ·have:=xW.putAt 1 [.slice a.1 a.2.1 a.2.2] (by simp)
         rw [ha] at this ⊢
         exact this
        ·rw [ha] at yW ⊢
         have hb4:But [g4] W (W.setCell ⟨g4,1,none⟩ (.slice a.1 (k+1) a.2.2)):=by rw [setCell_is];exact but_setCells W g4 _ 1
         obtain ⟨gq,cq,eq,-,-,hcq⟩:=yW.block (by omega)
         have hne4:gq≠g4:=by
          rintro rfl
          have h1:=hcq 0 0 (by omega) (by omega)
          rw [Nat.zero_mul,xW.cells 0 _ rfl] at h1
          simp [yc] at h1
         have hfr:∀ v f,FracAt W v f→FracAt (W.setCell ⟨g4,1,none⟩ (.slice a.1 (k+1) a.2.2)) v f:=fun v f hf=>hf.overN (xW.cells 0 _ rfl) hb4
         have hrow:∀ g' F,RowR W g' ln F→RowR (W.setCell ⟨g4,1,none⟩ (.slice a.1 (k+1) a.2.2)) g' ln F:=fun g' F hr t ht=>by
          obtain ⟨s,x,y,p,h1,h2⟩:=hr t ht
          have hne':g' ∉ [g4]:=fun hm=>by
           simp at hm
           subst hm
           obtain ⟨s0,x0,y0,p0,⟨a0,-⟩,-⟩:=hr 0 (by omega)
           rw [Nat.zero_mul,xW.cells 0 _ rfl] at a0
           simp at a0
          exact ⟨s,x,y,p,h1.but hb4 hne',hfr _ _ h2⟩
         refine ⟨?_,fun h=>by omega,fun j hj=>?_⟩
         ·have hgb:W.grownBy (W.setCell ⟨g4,1,none⟩ (.slice a.1 (k+1) a.2.2)) (some g4):=⟨hb4.os,hb4.tape,hb4.output,hb4.size,fun i hi hne=>hb4.block i hi (by simpa using hne)⟩
          refine yW.own.kept hgb (.inr ?_)
          rw [eq]
          simpa [Value.ownBlock] using hne4
         ·have hz:=yW.val j hj
          have hgo:(Z' j).1 ∉ [g4]:=fun hm=>by
           simp at hm
           obtain ⟨aa,mm,cc,ee⟩:=hz.mat.slcs 0 (.int .i64 (ln:Int)) (by rw [hm];exact xW.cells 0 _ rfl)
           cases ee
          have eg:∀ i,(W.setCell ⟨g4,1,none⟩ (.slice a.1 (k+1) a.2.2)).cell? ⟨(Z' j).1,i,none⟩=W.cell? ⟨(Z' j).1,i,none⟩:=fun i=>hb4.cell (p:=⟨(Z' j).1,i,none⟩) hz.mat.lt hgo
          exact ⟨⟨Nat.lt_of_lt_of_le hz.mat.lt hb4.size,fun i v hv=>hz.mat.slcs i v ((eg i).symm.trans hv),fun i hi=>by
           obtain ⟨g,h1,h2⟩:=hz.mat.row i hi
           exact ⟨g,(eg i).trans h1,hrow _ _ h2⟩⟩,hfr _ _ hz.low,hz.new⟩
        ·exact bW.trans (l':=[g4]) (by rw [setCell_is];exact but_setCells W g4 _ 1) (fun x hx=>by simp at hx;subst hx;exact .inr (unhide Q4))
       ·rintro z gb a W ⟨Z',ha,xW,yW,bW⟩
        simp only [putted,List.foldl_cons,List.foldl_nil,Act.put,List.setIfInBounds_toArray,List.set_cons_zero,List.set_cons_succ]
        have T1:Hid (∀ ls ∈ yss.take (k+1),MatOk ls∧ls.length=ln):=fun l' hl'=>by
         rw [List.take_add_one,unhide HLS] at hl'
         rcases List.mem_append.1 hl' with h1 | h1
         ·exact unhide HALL l' h1
         ·simp at h1
          rw [h1]
          exact unhide OKL
        have JJ:Hid ((∃ qy cy Z,NewB g4 W g4 [.int .i64 (ln:Int),.slice qy (k+1) cy]∧Years W g4 ln (k+1) (.slice qy (k+1) cy) yss Z)∧(∀ ls ∈ yss.take (k+1),MatOk ls∧ls.length=ln)∧But [] w W):=⟨⟨a.1,a.2.2,Z',xW,yW⟩,unhide T1,bW⟩
        clear xW yW bW x1 y1 bw1 l1 b01 cc0 XX YY HALL BW ha
        go_wp2
        exact ⟨⟨k+1,by omega,by go_num,unhide JJ⟩,by simp [intOf];omega⟩
      ·have NP:Hid (¬ OK):=fun h=>hne ((unhide HLN).trans (((unhide HCK).1 h).2.2 ls hmem).2)
       have hne':((ln:Int) != (n:Int))=true:=by rw [bne_iff_ne];omega
       have B2:=hide ((unhide BW).trans' (unhide B1))
       clear hp
       go_wp2
       exact bodyPost_ret (v:=.tuple #[.pointer none,.iface 26 (.int .i64 3)]) (by simp [results,Tryz.results20,go_sem]) rfl (unhide PNO (unhide NP) 3 _ _ (by omega) (by omega) rfl (unhide B2))
     ·have NP:Hid (¬ OK):=fun h=>hp (((unhide HCK).1 h).2.2 ls hmem).1
      have B2:=hide ((unhide BW).trans' (unhide B1))
      clear hp
      go_wp2
      exact bodyPost_ret (v:=.tuple #[.pointer none,.iface 26 (.int .i64 cc)]) (by simp [results,Tryz.results20,go_sem]) rfl (unhide PNO (unhide NP) cc _ _ hcc1 hcc2 rfl (unhide B2))
    ·obtain rfl:k=ny:=by omega
     obtain ⟨⟨qy,cy,Z,x4,yy⟩,hall,bw⟩:=unhide HI
     have htk:yss.take k=yss:=by rw [unhide HNY,List.take_length]
     rw [htk] at hall
     have GOOD:Hid OK:=(unhide HCK).2 ⟨by omega,by omega,hall⟩
     have CH:Hid (ChainAt wr g4 k n (fun j=>yrM (yss[j]?.getD [])) (fun j=>yrU (yss[j]?.getD []))):=by
      obtain ⟨g,cap',e2,-,hcap,hc⟩:=yy.block (by omega)
      simp only [Value.slice.injEq] at e2
      obtain ⟨rfl,-,rfl⟩:=e2
      refine ⟨x4.cells 0 _ rfl,g,0,cy,x4.cells 1 _ rfl,hcap,fun j hj=>?_⟩
      have hz:=yy.val j hj
      rw [Nat.zero_add]
      have d0:=hc j 0 hj (by omega)
      have d1:=hc j 1 hj (by omega)
      have d2:=hc j 2 hj (by omega)
      have d3:=hc j 3 hj (by omega)
      have d4:=hc j 4 hj (by omega)
      exact ⟨(Z j).1,d0,hz.mat,_,_,_,_,⟨d1,d2,d3,d4⟩,hz.low⟩
     have BW:=hide bw
     clear x4 yy hall bw HI htk
     go_wp2
     exact bodyPost_ret (v:=.tuple #[.pointer (some ⟨g4,0,none⟩),.nilIface]) (by simp [results,Tryz.results20,go_sem]) rfl (unhide POK (unhide GOOD) g4 _ _ rfl (unhide BW) (unhide CH))
end Go.Proofs.YthlnhheblhapgaaGreatDoor
