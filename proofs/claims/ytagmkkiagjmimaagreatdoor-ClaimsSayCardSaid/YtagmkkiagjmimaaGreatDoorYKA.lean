/- A law without the noughts at its end; a  -/
import Derived.Test.YtagmkkiagjmimaaGreatDoorYF10
import Derived.Test.YtagmkkiagjmimaaGreatDoorYKK
namespace Go.Proofs.YtagmkkiagjmimaaGreatDoor
set_option linter.unusedVariables false
open Go.Proofs.Tryz
open Go.RowKit
set_option maxHeartbeats 16000000
set_option maxRecDepth 100000
theorem zqb (vf vg:Value) (f g:Rat) (w:World) (hf:aq w vf f) (hg:aq w vg g) (lf:Len f 1000000) (lg:Len g 1000000) (h0:g.num≠0) :
   Calls prog 117 #[vf,vg] w fun e w'=>∃ v,e=.returned v∧aq w' v (f/g)∧But [] w w':=by(
 have DV:Hid (∀ (W:World),aq W vf f→aq W vg g→Calls prog 77 #[vf,vg] W fun e w'=>∃ v,e=.returned (.tuple #[v,.nilIface])∧aq w' v (f/g)∧But [] W w'):=fun W h1 h2=>ztz vf vg f g W h1 h2 lf lg h0
 have HFA:=af hf
 have HGA:=af hg
 obtain⟨x1,y1,p1,rfl,-⟩:=hf.agg
 obtain⟨x2,y2,p2,rfl,-⟩:=hg.agg
 clear hf hg lf lg h0
 generalize hsf:decide (f.num<0)=s1 at *
 generalize hsg:decide (g.num<0)=s2 at *
 clear hsf hsg
 obtain⟨W,hW⟩:∃ W,W=(((w.alloc (.cells #[.bool s1,.int .u64 x1,.int .u64 y1,.pointer p1] 27)).alloc (.cells #[.bool s2,.int .u64 x2,.int .u64 y2,.pointer p2] 27)).alloc (.cells #[.bool false,.int .u64 0,.int .u64 0,.pointer none] 27)):=⟨_,rfl⟩
 obtain⟨tA,tB,tC,fz,hB⟩:=zah w W _ _ _ _ hW
 have a0:=tA 0
 have a1:=tA 1
 have a2:=tA 2
 have a3:=tA 3
 have b0:=tB 0
 have b1:=tB 1
 have b2:=tB 2
 have b3:=tB 3
 have r0:=tC 0
 have r1:=tC 1
 have r2:=tC 2
 have r3:=tC 3
 simp only[List.getElem?_toArray,List.getElem?_cons_zero,List.getElem?_cons_succ] at a0 a1 a2 a3 b0 b1 b2 b3 r0 r1 r2 r3
 have BL:Hid (Blank W (w.heap.size+2)):=⟨r0,r1,r2,r3,fun j hj=>by rw[tC j];simp;omega⟩
 clear tA tB tC
 have HW:=af hW
 have HB:=af hB
 clear hW hB
 go_enter func117,ntmps117
 go_wp2_with fail
 rw[← ae HW]
 obtain⟨ga,hga⟩:∃ ga,ga=w.heap.size:=⟨_,rfl⟩
 obtain⟨gb,hgb⟩:∃ gb,gb=w.heap.size+1:=⟨_,rfl⟩
 obtain⟨gr,hgr⟩:∃ gr,gr=w.heap.size+2:=⟨_,rfl⟩
 rw[← hga] at a0 a1 a2 a3
 rw[← hgb] at b0 b1 b2 b3
 rw[← hgr] at r0 r1 r2 r3 fz BL
 rw[show w.heap.size+1+1=w.heap.size+2 from rfl,← hgr,← hgb,← hga]
 have HGR:Hid (w.heap.size≤gr):=by show _≤_;omega
 clear hga hgb hgr HW
 have grl:gr<W.heap.size:=ai r0
 refine (ae DV _ ((ae HFA).but (ae HB)) ((ae HGA).but (ae HB))).mono ?_
 rintro e w2 ⟨v2,rfl,hn2,hc2⟩
 have HN2:=af hn2
 obtain⟨x8,y8,p8,rfl,-⟩:=hn2.agg
 clear hn2
 generalize decide ((f/g).num<0)=r8 at *
 have u0:=hc2.ag r0 (by simp)
 have u1:=hc2.ag r1 (by simp)
 have u2:=hc2.ag r2 (by simp)
 have u3:=hc2.ag r3 (by simp)
 have uf:∀ j,w2.frozen? ⟨gr,j,none⟩=false:=fun j=>(hc2.frozen (p:=⟨gr,j,none⟩) grl (by simp)).trans (fz j)
 have B2:=af hc2
 have gl2:gr<w2.heap.size:=ai u0
 clear hc2 a0 a1 a2 a3 b0 b1 b2 b3 r0 r1 r2 r3 fz grl
 go_wp2
 have hBg:But [gr] w2 ((((w2.setCell ⟨gr,0,none⟩ (.bool r8)).setCell ⟨gr,1,none⟩ (.int .u64 x8)).setCell ⟨gr,2,none⟩ (.int .u64 y8)).setCell ⟨gr,3,none⟩ (.pointer p8)):=(((((But.refl [gr] w2).setCell (.inl (by simp)) _).setCell (.inl (by simp)) _).setCell (.inl (by simp)) _).setCell (.inl (by simp)) _)
 have hBf:=(((((ae HB).trans' (ae B2)).trans hBg (fun x hx=>by simp at hx;subst hx;exact .inr (ae HGR)))).alloc (.cells #[.bool r8,.int .u64 x8,.int .u64 y8,.pointer p8] 27))
 exact bodyPost_ret (v:=.agg #[.bool r8,.int .u64 x8,.int .u64 y8,.pointer p8]) (by simp[results,results117,go_sem,u0,u1,u2,u3,gl2]) rfl ⟨_,rfl,(((ae BL).but (ae B2)).zwg (ae HN2) hBg).but ((But.refl _ _).alloc _),hBf⟩)
theorem zzc (b off cap n:Nat) (fs:List Rat) (m:Nat) (w:World) (hv:au w (.slice (some ⟨b,off,none⟩) n cap) fs) (hN:n=fs.length) (hcap:n≤cap) (hn:fs.length≤1000) (hm:m<fs.length) (h1:(fs[m]?.getD 0).num≠0) (h2:∀ j,m<j→j<fs.length→(fs[j]?.getD 0).num=0) :
   Calls prog 122 #[.slice (some ⟨b,off,none⟩) n cap] w fun e w'=>e=.returned (.slice (some ⟨b,off,none⟩) (m+1) cap)∧au w' (.slice (some ⟨b,off,none⟩) (m+1) cap) (fs.take (m+1))∧But [] w w':=by(
 have GR:=af (zia _ fs m w hv hn hm h1 h2)
 have HV:=af hv
 have HN:=af hN
 have hmn:m<n:=by omega
 have hm3:m<1000:=by omega
 clear hv h1 h2 hN hm
 go_enter func122,ntmps122
 go_wp2_with fail
 refine (ae GR).mono ?_
 rintro e w1 ⟨rfl,hb1⟩
 have B1:=af hb1
 clear hb1 GR
 have a1:(0:Int)≤(m:Int)+1:=by omega
 have a2:(m:Int)+1≤(cap:Int):=by omega
 have a3:((m:Int)+1).toNat=m+1:=by omega
 go_wp2
 go_ret
 refine⟨rfl,?_,ae B1⟩
 have h:=(ae HV).but (ae B1)
 rw[ae HN] at h
 exact au.take (n:=m+1) (fs:=fs) h cap (by have:=ae HN;omega) (by omega))
def wi (a b i:Nat):Nat:=min (i-a) b
def zqp (fs:List Rat) (a b:Nat):Nat→Nat→Rat
 | 0=>fun _=>0
 | i+1=>zvf (zqp fs a b i) (wi a b i) (zqp fs a b i (wi a b i)+fs[i]?.getD 0)
theorem ztg (c:Nat) (fs:List Rat) (a b:Nat) (h:∀ f ∈ fs,Len f c):∀ i,i≤fs.length→∀ t,Len (zqp fs a b i t) (i*(c+1)+1)
 | 0,_,_=>zfh _ (by omega)
 | i+1,hi,t=>by
  have ih:=ztg c fs a b h i (by omega)
  have e:=Nat.add_mul i 1 (c+1)
  show Len (zvf _ _ _ t) _
  unfold zvf
  split
  ·rw[List.getElem?_eq_getElem (by omega)]
   exact zhx (ih _) (h _ (List.getElem_mem (by omega))) _ (by omega)
  ·exact (ih t).mono (by omega)
theorem zze (wx:World) (n:Nat) (h:n<1000000):(Instr.makeSlice 47 (.int .i64 (n:Int)) (.int .i64 (n:Int))).run prog wx=.ok (.slice (some ⟨wx.heap.size,0,none⟩) n n) (wx.alloc (.cells (madeCells #[.bool false,.int .u64 0,.int .u64 0,.pointer none] (n*4)) 27)):=by(
 obtain⟨ti,hi,hz,hs,hbt⟩:=zoz
 have hmk:=run_make (P:=prog) wx 47 27 ti _ underlying47 hi hz .i64 .i64 (n:Int) (n:Int) (by omega) (by omega) (by rw[hbt];omega) (by omega)
 rw[hs,Int.toNat_natCast] at hmk
 exact hmk)
theorem ztm (bb off cap l:Nat) (fs:List Rat) (m a b c:Nat) (w:World) (hv:au w (.slice (some ⟨bb,off,none⟩) l cap) fs) (hN:l=fs.length) (hcap:l≤cap) (hln:fs.length≤201) (hm:m<fs.length) (h1:(fs[m]?.getD 0).num≠0) (h2:∀ j,m<j→j<fs.length→(fs[j]?.getD 0).num=0)
   (hck:yc fs=0) (ha:a≤200) (hb:b≤200) (lf:∀ f ∈ fs,Len f c) (hc:c≤100) :
   Calls prog 51 #[.slice (some ⟨bb,off,none⟩) l cap,.int .i64 (a:Int),.int .i64 (b:Int)] w fun e w'=>∃ g,e=.returned (.tuple #[.slice (some ⟨g,0,none⟩) (wi a b m+1) (wi a b m+1),.nilIface])∧zac w' g (wi a b m+1) (zqp fs a b (m+1))∧But [] w w':=by(
 have CH:=af (fun W (h:But [] w W)=>jm _ fs c W (hv.but h) (by omega) lf hc)
 rw[hck] at CH
 have GR:=af (fun W (h:But [] w W)=>zia _ fs m W (hv.but h) (by omega) hm h1 h2)
 have SH:=af (fun W (h:But [] w W)=>zzc bb off cap l fs m W (hv.but h) hN hcap (by omega) hm h1 h2)
 have CS1:=af (ol (a:Int))
 have CS2:=af (ol (b:Int))
 rw[if_neg (by omega)] at CS1 CS2
 have WI:Hid (∀ (g g':Nat) (W:World) (k:Nat),k≤201→W.cell? ⟨g,0,none⟩=some (.int .i64 (a:Int))→W.cell? ⟨g',0,none⟩=some (.int .i64 (b:Int))→Calls prog 120 #[.int .i64 (k:Int),.pointer (some ⟨g,0,none⟩),.pointer (some ⟨g',0,none⟩)] W fun e w'=>e=.returned (.int .i64 ((wi a b k:Nat):Int))∧w'=W):=fun g g' W k hk e1 e2=>by
  have h:=zut g g' (a:Int) (b:Int) (k:Int) W e1 e2 ⟨by omega,by omega⟩ ⟨by omega,by omega⟩ ⟨by omega,by omega⟩
  have e:((wi a b k:Nat):Int)=min (max ((k:Int)-(a:Int)) 0) (b:Int):=by unfold wi;omega
  rw[e]
  exact h
 have HV:=af hv
 obtain⟨t,ht⟩:∃ t,t=wi a b m+1:=⟨_,rfl⟩
 have ht1:((wi a b m:Nat):Int)+1=(t:Int):=by omega
 have ht2:t<1000000:=by rw[ht];unfold wi;omega
 have HT:=af ht
 rw[← ht]
 clear ht
 have hmk:=fun wx=>zze wx t ht2
 have hmf:∀ (fn:Fn) (first cap:Array Value) (w:World),(Instr.makeFunc fn first cap).run prog w=.ok (.func fn first cap) w:=fun _ _ _ _=>rfl
 have HLL:=af hN
 clear hv h1 h2 hck hN
 obtain⟨W,hW⟩:∃ W,W=(w.alloc (.cells #[.int .i64 (a:Int)] 3)).alloc (.cells #[.int .i64 (b:Int)] 3):=⟨_,rfl⟩
 have c4:W.cell? ⟨w.heap.size,0,none⟩=some (.int .i64 (a:Int)):=by rw[hW];exact ((But.refl [] _).alloc _).ag (by simp) (by simp)
 have c5:W.cell? ⟨w.heap.size+1,0,none⟩=some (.int .i64 (b:Int)):=by
  rw[hW]
  have z:(w.alloc (.cells #[.int .i64 (a:Int)] 3)).heap.size=w.heap.size+1:=by simp
  rw[← z];simp
 have bW:But [] w W:=by rw[hW];exact ((But.refl _ _).alloc _).alloc _
 have BW:=af bW
 clear bW
 go_enter func51,ntmps51
 go_wp2_with fail
 rw[← hW]
 clear hW
 refine (ae CH _ (ae BW)).mono ?_
 rintro e w1 ⟨rfl,hb1⟩
 have B1:=af ((ae BW).trans' hb1)
 replace c4:=hb1.ag c4 (by simp)
 replace c5:=hb1.ag c5 (by simp)
 clear hb1 CH BW
 generalize hg5:w.heap.size+1=g5 at *
 generalize hg4:w.heap.size=g4 at *
 rw[show zcm 0=.nilIface from rfl]
 go_wp2_with fail
 refine (ae CS1 _).mono ?_
 rintro e w1' ⟨rfl,hw⟩
 obtain rfl:=hw.symm
 clear hw CS1
 go_wp2_with fail
 refine (ae CS2 _).mono ?_
 rintro e w1' ⟨rfl,hw⟩
 obtain rfl:=hw.symm
 clear hw CS2
 go_wp2_with fail
 refine (ae GR _ (ae B1)).mono ?_
 rintro e w2 ⟨rfl,hb2⟩
 have B2:=af ((ae B1).trans' hb2)
 replace c4:=hb2.ag c4 (by simp)
 replace c5:=hb2.ag c5 (by simp)
 clear hb2 GR B1
 have WM:=af (ae WI g4 g5 w2 m (by omega) c4 c5)
 go_wp2_with fail
 refine (ae WM).mono ?_
 rintro e w2' ⟨rfl,hw⟩
 obtain rfl:=hw.symm
 clear hw WM
 go_wp2_with fail
 have rV:=zac.made w2 t
 have bV:But [] w2 (w2.alloc (.cells (madeCells #[.bool false,.int .u64 0,.int .u64 0,.pointer none] (t*4)) 27)):=(But.refl _ _).alloc _
 have lV:w2.heap.size<(w2.alloc (.cells (madeCells #[.bool false,.int .u64 0,.int .u64 0,.pointer none] (t*4)) 27)).heap.size:=by simp
 have BV:=af ((ae B2).trans' bV)
 have o5:w.heap.size≤w2.heap.size:=(ae B2).size
 have l5:g5<w2.heap.size:=ai c5
 replace c4:=bV.ag c4 (by simp)
 replace c5:=bV.ag c5 (by simp)
 have RV:=af rV
 clear rV bV B2 hmk
 generalize w2.heap.size=g at *
 generalize w2.alloc (.cells (madeCells #[.bool false,.int .u64 0,.int .u64 0,.pointer none] (t*4)) 27)=V at *
 refine (ae SH _ (ae BV)).mono ?_
 rintro e w3 ⟨rfl,hfs,hb3⟩
 have B3:=af ((ae BV).trans' hb3)
 have R3:=af ((ae RV).but hb3 lV)
 have G3:g<w3.heap.size:=Nat.lt_of_lt_of_le lV hb3.size
 replace c4:=hb3.ag c4 (by simp)
 replace c5:=hb3.ag c5 (by simp)
 have I45:Hid (w3.cell? ⟨g4,0,none⟩=some (.int .i64 (a:Int))∧w3.cell? ⟨g5,0,none⟩=some (.int .i64 (b:Int))):=⟨c4,c5⟩
 clear hb3 hfs SH BV RV lV c4 c5
 go_wp2
 obtain⟨n,hn⟩:∃ n,n=m+1:=⟨_,rfl⟩
 have hnm:((m:Int)+1)=(n:Int):=by omega
 have HNM:=af hn
 try rw[← hn]
 clear hn
 go_loopw [40] (fun iv wr=>∃ i:Nat,i≤n∧iv=.int .i64 (i:Int)∧Hid (zac wr g t (zqp fs a b i)∧g<wr.heap.size∧But [] w wr∧wr.cell? ⟨g4,0,none⟩=some (.int .i64 (a:Int))∧wr.cell? ⟨g5,0,none⟩=some (.int .i64 (b:Int)))) (fun iv _=>n-(intOf iv).toNat)
 case atStart=>exact⟨0,Nat.zero_le _,rfl,ae R3,G3,ae B3,(ae I45).1,(ae I45).2⟩
 case round =>(
 obtain⟨i,hi,rfl,HI⟩:=hrel
 rename World=>wr
 clear R3 G3 B3 I45
 by_cases hlt:i<n
 ·(
 have him:i≤m:=by have:=ae HNM;omega
 have hil:i<fs.length:=by omega
 have hwt:wi a b i<t:=by have:=ae HT;unfold wi at *;omega
 obtain⟨hrow,hg,hbw,d4,d5⟩:=ae HI
 obtain⟨sr,xr,yr,pr,⟨r0,r1,r2,r3⟩,hfr⟩:=((ae HV).but hbw).get i (by have:=ae HLL;omega)
 obtain⟨f,hff⟩:∃ f,f=fs[i]?.getD 0:=⟨_,rfl⟩
 rw[← hff] at hfr
 have hmem:f ∈ fs:=by rw[hff,List.getElem?_eq_getElem hil];exact List.getElem_mem hil
 have HFF:=af hff
 have bA:But [] wr (wr.alloc (.cells #[.bool sr,.int .u64 xr,.int .u64 yr,.pointer pr] 27)):=(But.refl _ _).alloc _
 have X14:=af (bf.new wr sr xr yr pr _ 27 hfr)
 have DR:=af (hrow.but bA hg)
 have DG:g<(wr.alloc (.cells #[.bool sr,.int .u64 xr,.int .u64 yr,.pointer pr] 27)).heap.size:=Nat.lt_of_lt_of_le hg bA.size
 have DW:=af (hbw.trans' bA)
 have D45:=af (And.intro (bA.ag d4 (by simp)) (bA.ag d5 (by simp)))
 clear hrow hbw bA hfr hff HI d4 d5
 go_wp2
 generalize wr.heap.size=g14 at *
 generalize wr.alloc (.cells #[.bool sr,.int .u64 xr,.int .u64 yr,.pointer pr] 27)=U at *
 obtain⟨s0,x0,y0,p0,e0,hf0⟩:=(ae DR).told (wi a b i) hwt
 obtain⟨⟨t7,a7,c7,q7,e7,hf7⟩,-⟩:=ae X14
 have lo:Len (zqp fs a b i (wi a b i)) 400000:=by
  refine (ztg c fs a b lf i (by omega) _).mono ?_
  have:i*(c+1)≤201*101:=Nat.mul_le_mul (by omega) (by omega)
  omega
 refine zqo 15 _ _ U g (wi a b i*4) t i (wi a b i) 120 #[.pointer (some ⟨g4,0,none⟩),.pointer (some ⟨g5,0,none⟩)] s0 x0 y0 p0 t7 a7 c7 q7 _ _ g14 (by simp) e0 (ae DR).loose (by simp[Act.eval]) (by simp[Act.eval]) (by simp[Act.eval]) (by simp[Act.eval]) rfl hwt ht2 e0 e7 zob (fun w' hb'=>(ae WI g4 g5 w' i (by omega) (hb'.ag (ae D45).1 (by simp)) (hb'.ag (ae D45).2 (by simp))).mono (fun e w'' h=>⟨h.1,by rw[h.2];exact But.refl _ _⟩)) (fun w' hb'=>mg 400000 1000 (by omega) _ _ _ _ w' (hf0.but hb') (hf7.but hb') lo ((lf f hmem).mono (by omega))) ?_
 intro w7 s7 x7 y7 p7 hb7 hfz
 simp only[bj,List.foldl_cons,List.foldl_nil,Act.put,List.setIfInBounds_toArray,List.set_cons_zero,List.set_cons_succ]
 have hrow:=(ae DR).but hb7 DG
 have J1:=af (hrow.set hwt s7 x7 y7 p7 _ hfz)
 have hP:=bl w7 g [.bool s7,.int .u64 x7,.int .u64 y7,.pointer p7] (wi a b i*4)
 have JB:=af (((ae DW).trans' hb7).trans hP (fun x hx=>by simp at hx;subst hx;exact .inr (by omega)))
 have JG:g<(w7.setCells g (wi a b i*4) [.bool s7,.int .u64 x7,.int .u64 y7,.pointer p7]).heap.size:=Nat.lt_of_lt_of_le (Nat.lt_of_lt_of_le DG hb7.size) hP.size
 have J45:=af (And.intro (hP.ag (hb7.ag (ae D45).1 (by simp)) (by simp;omega)) (hP.ag (hb7.ag (ae D45).2 (by simp)) (by simp;omega)))
 generalize w7.setCells g (wi a b i*4) [.bool s7,.int .u64 x7,.int .u64 y7,.pointer p7]=V7 at *
 clear hP hfz hb7 DR DW X14 D45 e0 e7 hf0 hf7 lo hrow
 go_wp2
 refine⟨⟨i+1,by omega,by go_num,?_,JG,ae JB,(ae J45).1,(ae J45).2⟩,by simp[intOf];omega⟩
 show zac V7 g t (zvf _ _ _)
 rw[← ae HFF]
 exact ae J1)
 ·(
 obtain rfl:i=n:=by omega
 go_wp2
 have hr:=(ae HI).1
 rw[ae HNM] at hr
 exact bodyPost_ret (v:=.tuple #[.slice (some ⟨g,0,none⟩) t t,.nilIface]) (by simp[results,results51,go_sem]) rfl ⟨g,rfl,hr,(ae HI).2.2.1⟩)))
end Go.Proofs.YtagmkkiagjmimaaGreatDoor
