/- How likely a state has been there, as th -/
import Derived.Test.YthlnhheblhapgaaGreatDoorKMGL
namespace Go.Proofs.YthlnhheblhapgaaGreatDoor
open Go.RowKit
set_option maxHeartbeats 32000000
set_option maxRecDepth 100000
theorem sgR_range (F:Nat→Rat) (n:Nat):sgR (atR ((List.range n).map F)) n=sgR F n :=
 sgR_congr _ _ n (fun k hk=>by
  unfold atR
  rw [List.getElem?_map,List.getElem?_range hk];rfl)
theorem NewR.nought {B:Nat} {w:World} {g n:Nat} {F:Nat→Rat} (h:NewR B w g n F) {k:Nat} (hk:k<n):NewR B (w.setCells g (k*4) [.bool false,.int .u64 0,.int .u64 0,.pointer none]) g n (fun t=>if t=k then 0 else F t):=by
 have:=h.put hk false 0 0 none 0 (zero_at _)
 exact ⟨this.row.congr (fun t _=>rfl),this.new,this.lt⟩
theorem hits_any (g ny n:Nat) (Y:Nat→Nat→Nat→Rat) (V:Nat→Rat) (si kk o t:Nat) (w:World) (hC:ChainAt w g ny n Y V) (hN:ChainN ny n Y V) (pV:∀ j,j<ny→0<V j) (hsi:si<n) (hk:kk<n) (hot:o≤t) (htn:t≤ny) :
  Calls Tryz.prog 13 #[.pointer (some ⟨g,0,none⟩),.int .i64 (si:Int),.int .i64 (kk:Int),.int .i64 (o:Int),.int .i64 (t:Int)] w fun e w'=>∃ s x y p,e=.returned (.tuple #[.agg #[.bool s,.int .u64 x,.int .u64 y,.pointer p],.nilIface])∧FracAt w' (.agg #[.bool s,.int .u64 x,.int .u64 y,.pointer p]) (((1:Int):Rat)-sgR (missR Y n (unitR si) kk o (t-o)) n/prV V o (t-o))∧But [] w w':=by
 have n8:=hN.n8
 have n1:=hN.n1
 have y120:=hN.y120
 have hn:n<1000000:=by omega
 have LA:=hide (fun W (hb:But [] w W)=>chLasts_any g ny n o t Y V W (hC.but hb) hot htn)
 have H1:=hide (fun W (hb:But [] w W)=>chHas_any g ny n si Y V W (hC.but hb) hsi)
 have H2:=hide (fun W (hb:But [] w W)=>chHas_any g ny n kk Y V W (hC.but hb) hk)
 have AL:=hide (fun W (hb:But [] w W)=>alone_any g ny n si Y V W (hC.but hb) hn hsi)
 obtain ⟨hC0,b,off,cap,hC1,hcap,hYs⟩:=hC
 obtain ⟨m,hm⟩:∃ m,m=t-o:=⟨_,rfl⟩
 rw [← hm]
 have BE:=hide (fun (W:World) (j:Nat) (hj:j<m) (gR:Nat) (s1:Bool) (x1 y1:Int) (p1:Option Addr) (gY:Nat) (s2:Bool) (x2 y2:Int) (p2:Option Addr) (h1:RowR W gR n (missR Y n (unitR si) kk o j)) (h2:FracAt W (.agg #[.bool s1,.int .u64 x1,.int .u64 y1,.pointer p1]) (prV V o j)) (h3:MatR W gY n (Y (o+j))) (h4:FracAt W (.agg #[.bool s2,.int .u64 x2,.int .u64 y2,.pointer p2]) (V (o+j))) =>
  behind_any gR n s1 x1 y1 p1 gY s2 x2 y2 p2 (missR Y n (unitR si) kk o j) (prV V o j) (Y (o+j)) (V (o+j)) (1+67*j) 66 W h1 h2 h3 h4 n1 n8 ((isN_len (isN_prV j (fun i hi=>hN.nV (o+i) (by omega)))).mono (by omega)) ((isN_len (hN.nV (o+j) (by omega))).mono (by omega)) (isN_miss n8 (fun k _=>isN_unit si k) j (fun i hi=>hN.nY (o+i) (by omega))) (hN.nY (o+j) (by omega)) (by omega))
 have nM:∀ k,k<n→isN (missR Y n (unitR si) kk o m k) (18446744073709551616^(1+67*m)):=isN_miss n8 (fun k _=>isN_unit si k) m (fun i hi=>hN.nY (o+i) (by omega))
 have LM:Hid (∀ j,j≤n→Len (sgR (missR Y n (unitR si) kk o m) j) 160000):=fun j hj=>by
  have h:=isN_sg (missR Y n (unitR si) kk o m) (18446744073709551616^(1+67*m)) j (fun k hk=>nM k (by omega))
  have h2:isN (sgR (missR Y n (unitR si) kk o m) j) (18446744073709551616^(1+67*m+1)):=h.mono (by
   rw [Nat.pow_succ,Nat.mul_comm]
   exact Nat.mul_le_mul_left _ (by omega))
  exact (isN_len h2).mono (by omega)
 have LE:Hid (∀ k,k<n→Len (missR Y n (unitR si) kk o m k) 160000):=fun k hk=>(isN_len (nM k hk)).mono (by omega)
 have LU:Hid (Len (prV V o m) 160000):=(isN_len (isN_prV m (fun i hi=>hN.nV (o+i) (by omega)))).mono (by omega)
 have NU:Hid ((prV V o m).num≠0):=num_ne (prV_pos _ (fun j hj=>pV (o+j) (by omega)))
 obtain ⟨ws,wx,FW,CW⟩:=whole_is 1 (by omega) (by omega)
 have HFW:=hide FW
 have HCW:=hide CW
 have hgl:g<w.heap.size:=lt_of_cell hC1
 obtain ⟨qs,hsl,hq⟩:=run_sliceY b off cap ny o t hot (by omega)
 rw [← hm] at hsl
 have HQ:=hide hq
 have HY:=hide hYs
 have HC1:=hide hC1
 have x10:=BoxAt.new w false 0 0 none 0 41 (zero_at _)
 have bA:But [] w (w.alloc (.cells #[.bool false,.int .u64 0,.int .u64 0,.pointer none] 41)):=(But.refl _ _).alloc _
 have X10:=hide x10
 have BA:=hide bA
 clear hC0 hYs hN pV x10 bA nM FW CW hq hC1 hcap
 go_enter Tryz.func13,Tryz.ntmps13
 go_wp2_with fail
 generalize w.alloc (.cells #[.bool false,.int .u64 0,.int .u64 0,.pointer none] 41)=V0 at *
 obtain ⟨g10,hg10⟩:∃ g10,g10=w.heap.size:=⟨_,rfl⟩
 rw [← hg10] at X10 ⊢
 have Q10:Hid (w.heap.size≤g10):=by show _≤_;omega
 clear hg10 hgl
 refine (unhide H1 _ (unhide BA)).mono ?_
 rintro e w1 ⟨rfl,hb1⟩
 have B1:=hide ((unhide BA).trans' hb1)
 have X1:=hide ((unhide X10).but hb1)
 clear hb1 BA X10 H1
 go_wp2_with fail
 refine (unhide H2 _ (unhide B1)).mono ?_
 rintro e w2 ⟨rfl,hb2⟩
 have B2:=hide ((unhide B1).trans' hb2)
 have X2:=hide ((unhide X1).but hb2)
 clear hb2 B1 X1 H2
 go_wp2_with fail
 refine (unhide LA _ (unhide B2)).mono ?_
 rintro e w3 ⟨rfl,hb3⟩
 have B3:=hide ((unhide B2).trans' hb3)
 have X3:=hide ((unhide X2).but hb3)
 clear hb3 B2 X2 LA
 go_wp2_with fail
 refine (unhide AL _ (unhide B3)).mono ?_
 rintro e w4 ⟨u,rfl,⟨gR,s1,x1,y1,p1,rfl,hrn,hfn⟩,hb4⟩
 have lg10:g10<w3.heap.size:=(unhide X3).lt
 have lgR:g10<gR:=Nat.lt_of_lt_of_le lg10 hrn.new
 obtain ⟨sz,xz,yz,pz,⟨d0,d1,d2,d3⟩,-⟩:=hrn.row.told kk hk
 have fz:=hrn.row.loose
 have lR4:gR<w4.heap.size:=hrn.lt
 obtain ⟨A,hA⟩:∃ A,A=w4.setCells gR (kk*4) [.bool false,.int .u64 0,.int .u64 0,.pointer none]:=⟨_,rfl⟩
 have hbz:But [gR] w4 A:=by rw [hA];exact but_setCells w4 gR [.bool false,.int .u64 0,.int .u64 0,.pointer none] (kk*4)
 have sA:A.heap.size=w4.heap.size:=by rw [hA];simp [World.setCells,World.setCell]
 obtain ⟨V2,hV2⟩:∃ V2,V2=A.alloc (.cells #[.slice (some ⟨gR,0,none⟩) n n,.bool s1,.int .u64 x1,.int .u64 y1,.pointer p1] 68):=⟨_,rfl⟩
 have b2:But [] A V2:=by rw [hV2];exact (But.refl _ _).alloc _
 obtain ⟨tb,htb⟩:=hrn.row.bool (by omega)
 have r6:NewR w3.heap.size V2 gR n (missR Y n (unitR si) kk o 0):=by
  have:=hrn.nought hk
  rw [← hA] at this
  exact this.but b2
 have f6:FracAt V2 (.agg #[.bool s1,.int .u64 x1,.int .u64 y1,.pointer p1]) (prV V o 0):=(hfn.over htb hbz).but b2
 have x6:=(((unhide X3).but hb4).beside hbz (by simp;omega) (fun g hg=>by simp at hg;subst hg;exact ⟨_,htb⟩)).but b2
 have z6:NewB w4.heap.size V2 w4.heap.size [.slice (some ⟨gR,0,none⟩) n n,.bool s1,.int .u64 x1,.int .u64 y1,.pointer p1]:=by
  have h:NewB w4.heap.size V2 A.heap.size [.slice (some ⟨gR,0,none⟩) n n,.bool s1,.int .u64 x1,.int .u64 y1,.pointer p1]:=by rw [hV2];exact NewB.made _ A [.slice (some ⟨gR,0,none⟩) n n,.bool s1,.int .u64 x1,.int .u64 y1,.pointer p1] _ (by omega)
  rw [sA] at h
  exact h
 have bw4:=(unhide B3).trans' hb4
 have bw6:But [] w V2:=(bw4.trans hbz (fun x hx=>by simp at hx;subst hx;exact .inr (by have:=unhide Q10;omega))).trans' b2
 have K6:=hide (And.intro r6 (And.intro f6 (And.intro x6 (And.intro z6 bw6))))
 have HW:Hid (V2=((((w4.setCell ⟨gR,kk*4,none⟩ (.bool false)).setCell ⟨gR,kk*4+1,none⟩ (.int .u64 0)).setCell ⟨gR,kk*4+2,none⟩ (.int .u64 0)).setCell ⟨gR,kk*4+3,none⟩ (.pointer none)).alloc (.cells #[.slice (some ⟨gR,0,none⟩) n n,.bool s1,.int .u64 x1,.int .u64 y1,.pointer p1] 68)):=by rw [hV2,hA];rfl
 have hC4:=bw4.cell_some (unhide HC1) (by simp)
 have lC4:g<w4.heap.size:=lt_of_cell hC4
 have hkn:(kk:Int)<(n:Int):=by omega
 have ngR:g≠gR:=by
  have h1:=lt_of_cell (unhide HC1)
  have h2:=unhide Q10
  simp only at h1
  omega
 have lw3:w3.heap.size≤w4.heap.size:=hb4.size
 clear hb4 B3 X3 AL hrn hfn hbz htb r6 f6 x6 z6 bw6 bw4 hA hV2 A b2 sA
 go_wp2
 rw [← unhide HW]
 obtain ⟨g12,hg12⟩:∃ g12,g12=w4.heap.size:=⟨_,rfl⟩
 rw [← hg12] at K6 ⊢
 have l12:g10<g12:=by omega
 have II:Hid ((∃ gR s1 x1 y1 p1,g10<gR∧NewR g10 V2 gR n (missR Y n (unitR si) kk o 0)∧FracAt V2 (.agg #[.bool s1,.int .u64 x1,.int .u64 y1,.pointer p1]) (prV V o 0)∧NewB g12 V2 g12 [.slice (some ⟨gR,0,none⟩) n n,.bool s1,.int .u64 x1,.int .u64 y1,.pointer p1])∧BoxAt V2 g10 0∧But [] w V2):=by
  obtain ⟨a1,a2,a3,a4,a5⟩:=unhide K6
  exact ⟨⟨gR,s1,x1,y1,p1,lgR,⟨a1.row,by omega,a1.lt⟩,a2,a4⟩,a3,a5⟩
 clear K6 HW hg12 hC4 lC4 ngR lw3 d0 d1 d2 d3 fz lR4 lg10
 go_loopw [50] (fun iv wr=>∃ j:Nat,j≤m∧iv=.int .i64 (j:Int)∧Hid ((∃ gR s1 x1 y1 p1,g10<gR∧NewR g10 wr gR n (missR Y n (unitR si) kk o j)∧FracAt wr (.agg #[.bool s1,.int .u64 x1,.int .u64 y1,.pointer p1]) (prV V o j)∧NewB g12 wr g12 [.slice (some ⟨gR,0,none⟩) n n,.bool s1,.int .u64 x1,.int .u64 y1,.pointer p1])∧BoxAt wr g10 0∧But [] w wr)) (fun iv _=>m-(intOf iv).toNat)
 case atStart=>exact ⟨0,Nat.zero_le _,rfl,unhide II⟩
 case round =>
  obtain ⟨j,hj,rfl,HI⟩:=hrel
  rename World=>wr
  clear II lgR
  by_cases hlt:j<m
  ·obtain rfl:=unhide HQ (by omega)
   obtain ⟨⟨gR,s1,x1,y1,p1,lgR,hr,hu,z12⟩,x10,bw⟩:=unhide HI
   obtain ⟨gY,hy0,hyM,s2,x2,y2,p2,⟨d1,d2,d3,d4⟩,hyV⟩:=(unhide HY (o+j) (by omega)).but bw
   have eo:off+(o+j)*5=off+o*5+j*5:=by rw [Nat.add_mul];omega
   rw [eo] at hy0 d1 d2 d3 d4
   have e5:off+o*5+j*5+1+1=off+o*5+j*5+2:=rfl
   have e6:off+o*5+j*5+1+2=off+o*5+j*5+3:=rfl
   have e7:off+o*5+j*5+1+3=off+o*5+j*5+4:=rfl
   rw [e5] at d2
   rw [e6] at d3
   rw [e7] at d4
   obtain ⟨A,hA⟩:∃ A,A=wr.alloc (.cells #[.slice (some ⟨gY,0,none⟩) n n,.bool s2,.int .u64 x2,.int .u64 y2,.pointer p2] 76):=⟨_,rfl⟩
   have bA:But [] wr A:=by rw [hA];exact (But.refl _ _).alloc _
   have BB:=hide (unhide BE A j hlt gR s1 x1 y1 p1 gY s2 x2 y2 p2 (hr.row.rowR.but bA) (hu.but bA) (hyM.but bA) (hyV.but bA))
   rw [hA] at BB
   have a0:=z12.cells 0 _ rfl
   have a1:=z12.cells 1 _ rfl
   have a2:=z12.cells 2 _ rfl
   have a3:=z12.cells 3 _ rfl
   have a4:=z12.cells 4 _ rfl
   have lg12:g12<wr.heap.size:=z12.lt
   have KK:=hide (And.intro (z12.but bA) (And.intro (x10.but bA) (bw.trans' bA)))
   have HA:=hide hA
   have lA:wr.heap.size≤A.heap.size:=bA.size
   clear hr hu z12 x10 bw hyM hyV bA hA eo e5 e6 e7 HI
   go_wp2_with fail
   refine (unhide BB).mono ?_
   rintro e w2 ⟨u,rfl,⟨gn,s3,x3,y3,p3,rfl,hrn,hfn⟩,hb2⟩
   rw [← unhide HA] at hb2 hrn
   have z12:=(unhide KK).1.but hb2
   have x10:=(unhide KK).2.1.but hb2
   have bw:=(unhide KK).2.2.trans' hb2
   obtain ⟨W5,hW5⟩:∃ W5,W5=w2.setCells g12 0 [.slice (some ⟨gn,0,none⟩) n n,.bool s3,.int .u64 x3,.int .u64 y3,.pointer p3]:=⟨_,rfl⟩
   have hb5:But [g12] w2 W5:=by rw [hW5];exact but_setCells w2 g12 _ 0
   have hc1:∀ g ∈ [g12],∃ s,w2.cell? ⟨g,1,none⟩=some (.bool s):=fun g hg=>by simp at hg;subst hg;exact ⟨_,z12.cells 1 _ rfl⟩
   have gn12:g12<gn:=by have:=hrn.new;omega
   have r5:NewR g10 W5 gn n (mvR (missR Y n (unitR si) kk o j) (Y (o+j)) n):=⟨⟨hrn.row.rowR.besideY hb5 hc1,fun i=>(hb5.frozen (p:=⟨gn,i,none⟩) hrn.lt (by simp;omega)).trans (hrn.row.loose i)⟩,by omega,Nat.lt_of_lt_of_le hrn.lt hb5.size⟩
   have f5:FracAt W5 (.agg #[.bool s3,.int .u64 x3,.int .u64 y3,.pointer p3]) (prV V o (j+1)):=hfn.besideY hb5 hc1
   have z5:NewB g12 W5 g12 [.slice (some ⟨gn,0,none⟩) n n,.bool s3,.int .u64 x3,.int .u64 y3,.pointer p3]:=by rw [hW5];exact z12.put rfl
   have x5:BoxAt W5 g10 0:=by
    obtain ⟨⟨s,x,y,p,⟨k0,k1,k2,k3⟩,hf⟩,hz⟩:=x10
    have hne:g10 ∉ [g12]:=by simp;omega
    exact ⟨⟨s,x,y,p,⟨hb5.cell_some k0 hne,hb5.cell_some k1 hne,hb5.cell_some k2 hne,hb5.cell_some k3 hne⟩,hf.besideY hb5 hc1⟩,fun i=>(hb5.frozen (p:=⟨g10,i,none⟩) (show g10<_ from lt_of_cell k0) hne).trans (hz i)⟩
   have bw5:But [] w W5:=bw.trans hb5 (fun x hx=>by simp at hx;subst hx;exact .inr (by have:=unhide Q10;omega))
   have hbz:=but_setCells W5 gn [.bool false,.int .u64 0,.int .u64 0,.pointer none] (kk*4)
   obtain ⟨tb,htb⟩:=r5.row.bool (by omega)
   have JJ:Hid ((∃ gR s1 x1 y1 p1,g10<gR∧NewR g10 (W5.setCells gn (kk*4) [.bool false,.int .u64 0,.int .u64 0,.pointer none]) gR n (missR Y n (unitR si) kk o (j+1))∧FracAt (W5.setCells gn (kk*4) [.bool false,.int .u64 0,.int .u64 0,.pointer none]) (.agg #[.bool s1,.int .u64 x1,.int .u64 y1,.pointer p1]) (prV V o (j+1))∧NewB g12 (W5.setCells gn (kk*4) [.bool false,.int .u64 0,.int .u64 0,.pointer none]) g12 [.slice (some ⟨gR,0,none⟩) n n,.bool s1,.int .u64 x1,.int .u64 y1,.pointer p1])∧BoxAt (W5.setCells gn (kk*4) [.bool false,.int .u64 0,.int .u64 0,.pointer none]) g10 0∧But [] w (W5.setCells gn (kk*4) [.bool false,.int .u64 0,.int .u64 0,.pointer none])) :=
    ⟨⟨gn,s3,x3,y3,p3,by omega,r5.nought hk,f5.over htb hbz,z5.beside hbz (by simp;omega)⟩,x5.beside hbz (by simp;omega) (fun g hg=>by simp at hg;subst hg;exact ⟨_,htb⟩),bw5.trans hbz (fun x hx=>by simp at hx;subst hx;exact .inr (by have:=unhide Q10;omega))⟩
   have a0:=z12.cells 0 _ rfl
   have a1:=z12.cells 1 _ rfl
   have a2:=z12.cells 2 _ rfl
   have a3:=z12.cells 3 _ rfl
   have a4:=z12.cells 4 _ rfl
   have af:=z12.loose
   obtain ⟨t0,t1,t2,t3,⟨n0,n1',n2,n3⟩,-⟩:=hrn.row.told kk hk
   have nf:=hrn.row.loose
   have lgn:gn<w2.heap.size:=hrn.lt
   rw [hW5] at JJ
   clear hb5 hc1 z12 x10 bw hb2 hrn hfn BB KK HA hy0 d1 d2 d3 d4 r5 f5 z5 x5 bw5 hbz htb hW5 W5
   go_wp2
   exact ⟨⟨j+1,by omega,by go_num,unhide JJ⟩,by simp [intOf];omega⟩
  ·obtain rfl:j=m:=by omega
   obtain ⟨⟨gR,s1,x1,y1,p1,lgR,hr,hu,z12⟩,x10,bw⟩:=unhide HI
   obtain ⟨⟨s0,x0,y0,p0,c0,-⟩,z0⟩:=id x10
   have hfr:=hr.row.rowR.fracs n (Nat.le_refl _)
   have SU:=hide (fun W (hb:But [] wr W)=>in_zip (chainSum_any _ _ W (hfr.but hb) (by simp;omega) (fun k=>by
    rw [List.getElem?_map]
    by_cases hkn:k<n
    ·rw [List.getElem?_range hkn]
     exact (unhide LE k hkn).mono (by omega)
    ·rw [List.getElem?_eq_none (by simpa using hkn)]
     exact len_zero _ (by omega)) (fun k hk'=>by
    simp at hk'
    have e:sgR (atR ((List.range n).map (missR Y n (unitR si) kk o j))) k=sgR (missR Y n (unitR si) kk o j) k:=sgR_congr _ _ k (fun i hi=>by
     unfold atR
     rw [List.getElem?_map,List.getElem?_range (by omega)];rfl)
    rw [e]
    exact (unhide LM k hk').mono (by omega))))
   simp only [List.length_map,List.length_range,sgR_range] at SU
   have DI:=hide (fun W (y:FZ) (hb:But [] wr W) (hy:FracAt W (.agg #[.bool y.1,.int .u64 y.2.1,.int .u64 y.2.2.1,.pointer y.2.2.2]) (sgR (missR Y n (unitR si) kk o j) n))=>in_prod (chainDiv_any _ _ _ _ W hy (hu.but hb) ((unhide LM n (Nat.le_refl _)).mono (by omega)) ((unhide LU).mono (by omega)) (unhide NU)))
   have lD:Len (sgR (missR Y n (unitR si) kk o j) n/prV V o j) 320000:=len_div (unhide LM n (Nat.le_refl _)) (unhide LU) (unhide NU) _ (by omega)
   have SB:=hide (fun W (y:FZ) (hb:But [] wr W) (hy:FracAt W (.agg #[.bool y.1,.int .u64 y.2.1,.int .u64 y.2.2.1,.pointer y.2.2.2]) (sgR (missR Y n (unitR si) kk o j) n/prV V o j))=>in_prod (fracSub_any _ _ ((1:Int):Rat) _ W (unhide HFW W) hy ((len_int 1 (by decide)).mono (by omega)) (lD.mono (by omega))))
   have HX10:=hide x10
   have BW:=hide bw
   clear hfr lD
   go_wp2_with fail
   refine hits_region11 11 _ _ wr g12 g10 gR n _ _ _ ws wx 0 none s1 x1 y1 p1 s0 x0 y0 p0 (by simp) (by simp [Act.eval]) (by simp [Act.eval]) (z12.cells 0 _ rfl) ⟨z12.cells 1 _ rfl,z12.cells 2 _ rfl,z12.cells 3 _ rfl,z12.cells 4 _ rfl⟩ c0 z0 (unhide HCW) (unhide SU) (unhide DI) (unhide SB) ?_
   intro za zb z w7 hP
   simp only [putted,List.foldl_cons,List.foldl_nil,Act.put,List.setIfInBounds_toArray,List.set_cons_zero,List.set_cons_succ]
   have x7:=x10.but hP.mem
   have hb7:=but_setCells w7 g10 [.bool z.1,.int .u64 z.2.1,.int .u64 z.2.2.1,.pointer z.2.2.2] 0
   have ff:=(hP.f7 rfl).over (Exists.choose_spec x7.bool) hb7
   have BF:But [] w (w7.setCells g10 0 [.bool z.1,.int .u64 z.2.1,.int .u64 z.2.2.1,.pointer z.2.2.2]):=(bw.trans' hP.mem).trans hb7 (fun x hx=>by simp at hx;subst hx;exact .inr (unhide Q10))
   obtain ⟨⟨s7,x7',y7,p7,⟨k0,k1,k2,k3⟩,-⟩,-⟩:=x7
   have hin:∀ j (hj:j<4),(w7.setCells g10 0 [.bool z.1,.int .u64 z.2.1,.int .u64 z.2.2.1,.pointer z.2.2.2]).cell? ⟨g10,0+j,none⟩=some ([Value.bool z.1,.int .u64 z.2.1,.int .u64 z.2.2.1,.pointer z.2.2.2][j]'hj):=fun j hj=>World.cell?_setCells_in g10 [.bool z.1,.int .u64 z.2.1,.int .u64 z.2.2.1,.pointer z.2.2.2] 0 w7 (fun i hi=>by
    have:i=0∨i=1∨i=2∨i=3:=by simp at hi;omega
    rcases this with rfl | rfl | rfl | rfl
    ·rw [k0];rfl
    ·rw [k1];rfl
    ·rw [k2];rfl
    ·rw [k3];rfl) j hj
   have m0:=hin 0 (by omega)
   have m1:=hin 1 (by omega)
   have m2:=hin 2 (by omega)
   have m3:=hin 3 (by omega)
   simp only [Nat.zero_add,List.getElem_cons_zero,List.getElem_cons_succ] at m0 m1 m2 m3
   have FF:=hide (And.intro ff BF)
   clear hP hb7 ff BF hin k0 k1 k2 k3 x10 hr hu z12 c0 z0 bw HI SU DI SB HX10 BW
   generalize w7.setCells g10 0 [.bool z.1,.int .u64 z.2.1,.int .u64 z.2.2.1,.pointer z.2.2.2]=F at *
   go_wp2
   exact bodyPost_ret (v:=.tuple #[.agg #[.bool z.1,.int .u64 z.2.1,.int .u64 z.2.2.1,.pointer z.2.2.2],.nilIface]) (by simp [results,Tryz.results13,go_sem,m0,m1,m2,m3]) rfl ⟨_,_,_,_,rfl,(unhide FF).1,(unhide FF).2⟩
end Go.Proofs.YthlnhheblhapgaaGreatDoor
