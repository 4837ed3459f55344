/- Who bears what of all claims, as the Go  -/
import Derived.Test.YtcgecpoedojhjaaGreatDoorKPAM
import Derived.Test.YtcgecpoedojhjaaGreatDoorKPAQw
namespace Go.Proofs.YtcgecpoedojhjaaGreatDoor
open Go.Proofs.Tryz
open Go.RowKit
set_option maxHeartbeats 32000000
set_option maxRecDepth 100000
structure qun (ls:List Ln) (cs:List (Int × Int)) (n nc:Nat) (w:World) (gC gS gP:Nat):Prop where
 paid:∀ j,j<nc→∃ sh,w.cell? ⟨gC,j*2,none⟩=some (.slice (some ⟨sh,0,none⟩) n n)∧w.cell? ⟨gC,j*2+1,none⟩=some (.int .i64 (LJ ls cs n j))∧∀ i,i<n→w.cell? ⟨sh,i,none⟩=some (.int .i64 (SJ ls cs j i))
 stops:∀ i,i<n→w.cell? ⟨gS,i,none⟩=some (.int .i64 (spK ls (ntJ ls cs n nc) i))
 prem:∀ i,i<n→∃ z:Int,0≤z∧w.cell? ⟨gP,i,none⟩=some (.int .i64 z)
theorem qgq (q:Option Addr) (n c:Nat) (ls:List Ln) (qc:Option Addr) (nc cc:Nat) (cs:List (Int × Int)) (w:World) (hv:bn w (.slice q n c) ls) (hc:qgv w (.slice qc nc cc) cs) (hn:n≤40) (hnc:nc≤100) (lf:∀ l ∈ ls,Len l.f 1) (hbig:∀ l ∈ ls,l.to.size<9223372036854775808) (hTr:zfo ls n) (hcs:∀ p ∈ cs,zrm p) :
  Calls prog 15 #[.slice q n c,.slice qc nc cc] w fun e w'=>∃ gC gS gP,e=.returned (.tuple #[.agg #[.slice (some ⟨gC,0,none⟩) nc nc,.slice (some ⟨gS,0,none⟩) n n,.slice (some ⟨gP,0,none⟩) n n,.int .i64 (ntK ls (ntJ ls cs n nc) n)],.nilIface])∧qun ls cs n nc w' gC gS gP∧But [] w w':=by
 have hnl:n=ls.length:=by
  obtain⟨a,cap,e,-⟩:=hv
  simp only[Value.slice.injEq] at e
  exact e.2.1
 have hcl:nc=cs.length:=by
  obtain⟨a,cap,e,-⟩:=hc
  simp only[Value.slice.injEq] at e
  exact e.2.1
 have hok:∀ l ∈ ls,di l:=fun l hl=>by
  obtain⟨i,hi,rfl⟩:=List.getElem_of_mem hl
  exact (hTr i _ (by omega) (List.getElem?_eq_getElem hi)).1
 have hqlt:∀ b off,q=some ⟨b,off,none⟩→0<n→b<w.heap.size:=fun b off e h0=>by
  obtain⟨a,cap,e1,-,h⟩:=hv
  simp only[Value.slice.injEq] at e1
  obtain⟨b',off',e2,s,x,y,p,⟨c0,-⟩,-⟩:=h 0 _ (List.getElem?_eq_getElem (by omega))
  rw[← e1.1,e] at e2
  simp only[Option.some.injEq,Addr.mk.injEq,and_true] at e2
  rw[e2.1]
  exact lt_of_cell c0
 have CK:=hide (fun W (h:But [] w W)=>zcs _ ls W (hv.but h) (by omega) lf hbig)
 have CC:=hide (fun W (h:But [] w W)=>zjc _ cs W (hc.but h) (by omega) .nilIface (fun _=>rfl) (fun h=>absurd hcs h))
 have HT:Hid (zfo ls ls.length):=by show zfo ls ls.length;rw[← hnl];exact hTr
 have BOK:=hide (zwp ls cs n hnl hok hcs)
 have LJR:=hide (zuk ls cs n hnl hok hcs)
 have NJR:=hide (zgv ls cs n hnl hok hcs)
 have NKR:=hide (zoy ls (ntJ ls cs n nc) n hnl hok (zgv ls cs n hnl hok hcs nc (by omega)).1)
 have HV:=hide hv
 have HC:=hide hc
 have HL:=hide lf
 have HOK:=hide hok
 have HCS:=hide hcs
 have HNL:=hide hnl
 have HCL:=hide hcl
 have HQL:=hide hqlt
 have hmk:=fun wx=>zot wx n (by omega)
 obtain⟨NF,hNF⟩:∃ NF,NF=ntK ls (ntJ ls cs n nc):=⟨_,rfl⟩
 rw[← hNF] at NKR ⊢
 have HNF:=hide hNF
 obtain⟨NJ,hNJ⟩:∃ NJ,NJ=ntJ ls cs n:=⟨_,rfl⟩
 rw[← hNJ] at NJR
 have HNJ:=hide hNJ
 clear hv hc lf hbig hTr hcs hnl hcl hok hqlt hNF hNJ
 have bA:=hide ((But.refl [] w).alloc (.cells #[.slice none 0 0,.slice none 0 0,.slice none 0 0,.int .i64 0] 58))
 have D4:=hide (jy.made w.heap.size w [.slice none 0 0,.slice none 0 0,.slice none 0 0,.int .i64 0] 58 (Nat.le_refl _))
 go_enter func15,ntmps15
 go_wp2_with fail
 refine (za CK _ (za bA)).mono ?_
 rintro e w1 ⟨r,rfl,hr1,-,hb1⟩
 obtain rfl:=hr1 (za HT)
 have B1:=hide ((za bA).trans' hb1)
 have D1:=hide ((za D4).but hb1)
 clear hb1 hr1 bA D4 CK HT
 go_wp2_with fail
 refine (za CC _ (za B1)).mono ?_
 rintro e w2 ⟨rfl,hb2⟩
 have B2:=hide ((za B1).trans' hb2)
 have D2:=hide ((za D1).but hb2)
 clear hb2 B1 D1 CC
 go_wp2
 refine zoh 7 _ _ w2 q n c qc nc cc (by simp) (by simp[Act.eval]) (by simp[Act.eval]) (by omega) (by omega) ?_
 intro gC gS gP g8 w7 hP
 simp only[qx,List.foldl_cons,List.foldl_nil,Act.put,List.setIfInBounds_toArray,List.set_cons_zero,List.set_cons_succ]
 obtain⟨g4,hg4⟩:∃ g4,g4=w.heap.size:=⟨_,rfl⟩
 have A0:Hid (AG w (w7.setCells g8 0 [.slice (some ⟨gC,0,none⟩) nc nc,.slice (some ⟨gS,0,none⟩) n n,.slice (some ⟨gP,0,none⟩) n n,.int .i64 0]).heap.size.succ gC gS gP g8 (w7.setCells g8 0 [.slice (some ⟨gC,0,none⟩) nc nc,.slice (some ⟨gS,0,none⟩) n n,.slice (some ⟨gP,0,none⟩) n n,.int .i64 0]).heap.size g4 n nc 0 (SJ ls cs) (fun _=>.slice none 0 0) (fun _=>0) (fun _=>0) (fun _=>0) (bsJ ls cs 0) 0 ((w7.setCells g8 0 [.slice (some ⟨gC,0,none⟩) nc nc,.slice (some ⟨gS,0,none⟩) n n,.slice (some ⟨gP,0,none⟩) n n,.int .i64 0]).alloc (.cells (madeCells #[.int .i64 0] n) 3))):=by
  have hput:=(hP.f10 rfl).put (us:=[.slice (some ⟨gC,0,none⟩) nc nc,.slice (some ⟨gS,0,none⟩) n n,.slice (some ⟨gP,0,none⟩) n n,.int .i64 0]) rfl
  have hb7:=zy w7 g8 [.slice (some ⟨gC,0,none⟩) nc nc,.slice (some ⟨gS,0,none⟩) n n,.slice (some ⟨gP,0,none⟩) n n,.int .i64 0] 0
  generalize hU:w7.setCells g8 0 [.slice (some ⟨gC,0,none⟩) nc nc,.slice (some ⟨gS,0,none⟩) n n,.slice (some ⟨gP,0,none⟩) n n,.int .i64 0]=U at *
  have b8:But [] U (U.alloc (.cells (madeCells #[.int .i64 0] n) 3)):=(But.refl _ _).alloc _
  have hbw:=(za B2).trans' hP.mem
  have s0:=(za B2).size
  have s1:=hP.mem.size
  have s2:=hb7.size
  have k1:=(hP.f2 rfl).new
  have k2:=(hP.f5 rfl).new
  have k3:=(hP.f8 rfl).new
  have k4:=(hP.f10 rfl).new
  have j1:=(hP.f2 rfl).lt
  have j2:=(hP.f5 rfl).lt
  have j3:=(hP.f8 rfl).lt
  have j4:=(hP.f10 rfl).lt
  have x1:=hP.x2_5 rfl rfl
  have x2:=hP.x2_8 rfl rfl
  have x3:=hP.x2_10 rfl rfl
  have x4:=hP.x5_8 rfl rfl
  have x5:=hP.x5_10 rfl rfl
  have x6:=hP.x8_10 rfl rfl
  have d2:=za D2
  have l4:=d2.lt
  rw[← hg4] at d2 l4
  have n48:g4 ∉ [g8]:=by simp;omega
  have dd:=fun k v hv=>b8.zb (hb7.zb (hP.mem.zb (d2.cells k v hv) (by simp)) n48) (by simp)
  have sA:(U.alloc (.cells (madeCells #[.int .i64 0] n) 3)).heap.size=U.heap.size+1:=by simp
  exact { fr:=((hbw.of_nil (l:=[])).trans hb7 (fun x hx=>by simp at hx;subst hx;exact .inr (by omega))).trans' b8,pc:=((hP.f2 rfl).row.but hb7 (by simpa using x3)).but b8 (by simp),sr:=fun j hj=>absurd hj (by omega),st:=((hP.f5 rfl).row.but hb7 (by simpa using x5)).but b8 (by simp),pm:=((hP.f8 rfl).row.but hb7 (by simpa using x6)).but b8 (by simp),bo:=ah.made U n _,c0:=b8.zb (hput.cells 0 _ rfl) (by simp),c1:=b8.zb (hput.cells 1 _ rfl) (by simp),c2:=b8.zb (hput.cells 2 _ rfl) (by simp),c3:=b8.zb (hput.cells 3 _ rfl) (by simp),f8:=fun j=>(b8.frozen (p:=⟨g8,j,none⟩) hput.lt (by simp)).trans (hput.loose j),d0:=dd 0 _ rfl,d1:=dd 1 _ rfl,d2:=dd 2 _ rfl,d3:=dd 3 _ rfl,f4:=fun j=>(b8.frozen (p:=⟨g4,j,none⟩) (show g4<U.heap.size by omega) (by simp)).trans ((hb7.frozen (p:=⟨g4,j,none⟩) (show g4<w7.heap.size by omega) n48).trans ((hP.mem.frozen (p:=⟨g4,j,none⟩) l4 (by simp)).trans (d2.loose j))),nd:=by refine⟨x1,x2,x3,?_,?_,x4,x5,?_,?_,x6,?_,?_,?_,?_,?_⟩ <;> omega,hil:=by omega,old:=by omega }
 generalize w7.setCells g8 0 [.slice (some ⟨gC,0,none⟩) nc nc,.slice (some ⟨gS,0,none⟩) n n,.slice (some ⟨gP,0,none⟩) n n,.int .i64 0]=U at *
 rw[← hg4]
 have HG4:=hide hg4
 clear hP D2 B2 hg4
 go_wp2
 have hsU:(U.alloc (.cells (madeCells #[.int .i64 0] n) 3)).heap.size=U.heap.size.succ:=by simp
 have HSU:Hid (U.heap.size.succ≤(U.alloc (.cells (madeCells #[.int .i64 0] n) 3)).heap.size):=by show _≤_;omega
 generalize U.alloc (.cells (madeCells #[.int .i64 0] n) 3)=U8 at *
 generalize U.heap.size.succ=hi at *
 generalize U.heap.size=gb at *
 clear hsU hmk
 go_loopw [41] (fun i wr=>∃ k:Nat,k≤nc∧i=.int .i64 (k:Int)∧Hid (∃ V F,AG w hi gC gS gP g8 gb g4 n nc k (SJ ls cs) V F (fun _=>0) (fun _=>0) (bsJ ls cs k) (NJ k) wr∧(∀ i,i<k→F i=LJ ls cs n i)∧hi≤wr.heap.size)) (fun i _=>nc-(intOf i).toNat)
 case atStart=>exact⟨0,Nat.zero_le _,rfl,_,_,by rw[show NJ 0=0 by rw[za HNJ];rfl];exact za A0,fun i hi=>absurd hi (by omega),za HSU⟩
 case round =>
  obtain⟨k,hk,rfl,HI⟩:=hrel
  rename World=>wr
  clear A0 HSU
  by_cases hlt:k<nc
  ·obtain⟨V,F,hA,hF,hhi⟩:=za HI
   have hkl:k<cs.length:=by have:=za HCL;omega
   obtain⟨hge,hmem⟩:=zrd hkl
   obtain⟨a',cap',ea,-,hcc⟩:=(za HC).but hA.fr
   simp only[Value.slice.injEq] at ea
   obtain⟨rfl,-,rfl⟩:=ea
   obtain⟨b,off,rfl,c0,c1⟩:=hcc k _ hge
   obtain⟨q1,q2,q3,q4⟩:=za HCS _ hmem
   have hbok:=za BOK k (by omega)
   have hlj:=za LJR k hkl
   have hnj:=za NJR k (by omega)
   have hnj2:=za NJR (k+1) (by omega)
   have eNJ:NJ (k+1)=NJ k+LJ ls cs n k:=by rw[za HNJ];rfl
   have eB:(fun i=>bsJ ls cs k i+ssF ls (clA cs k).1 (clA cs k).2 (bsJ ls cs k) i)=bsJ ls cs (k+1):=rfl
   have eS:ssF ls (clA cs k).1 (clA cs k).2 (bsJ ls cs k)=SJ ls cs k:=rfl
   have eL:lfF ls (clA cs k).1 (clA cs k).2 (bsJ ls cs k) n=LJ ls cs n k:=rfl
   have PTA:=fun (W:World) (hWl:bn W (.slice q n c) ls) (hr:ah W gb n (bsJ ls cs k))=>zvf q n c ls (clA cs k).1 (clA cs k).2 gb (bsJ ls cs k) W hWl hn (za HL) (za HOK) ⟨q1,q2⟩ ⟨q3,q4⟩ hr (fun i hi=>⟨(hbok i hi).1,by have:=(hbok i hi).2.1;omega,(hbok i hi).2.2⟩) (fun h0 b' off' e=>by
    have:=za HQL b' off' e h0
    have:=hA.old
    omega)
   rw[eB,eS,eL] at PTA
   obtain⟨sm,hsm⟩:∃ sm,sm=(clA cs k).1:=⟨_,rfl⟩
   obtain⟨am,ham⟩:∃ am,am=(clA cs k).2:=⟨_,rfl⟩
   rw[← hsm] at c0 PTA
   rw[← ham] at c1 PTA
   have bB:But [] wr (wr.alloc (.cells #[.int .i64 sm,.int .i64 am] 62)):=(But.refl [] wr).alloc _
   have e0:(wr.alloc (.cells #[.int .i64 sm,.int .i64 am] 62)).cell? ⟨wr.heap.size,0,none⟩=some (.int .i64 sm):=by simp
   have e1:(wr.alloc (.cells #[.int .i64 sm,.int .i64 am] 62)).cell? ⟨wr.heap.size,1,none⟩=some (.int .i64 am):=by simp
   have HJ:=hide (hA.but bB)
   have HPT:=hide PTA
   have HFF:=hide hF
   have HHI:=hide (Nat.le_trans hhi bB.size)
   have HLJ:=hide hlj
   have HNJ1:=hide hnj
   have HNJ2:=hide hnj2
   have HENJ:=hide eNJ
   have HG:=hide (show hi≤wr.heap.size from hhi)
   have E01:=hide (And.intro e0 e1)
   clear PTA hcc hge hmem hbok hlj hnj hnj2 eNJ eB eS eL hA hF hhi hsm ham q1 q2 q3 q4 bB e0 e1 HI
   go_wp2
   generalize wr.alloc (.cells #[.int .i64 sm,.int .i64 am] 62)=V1 at *
   generalize wr.heap.size=g11 at HG E01 ⊢
   have hJ:=za HJ
   refine znb 12 _ _ V1 q n c g8 g11 gC nc gb k sm am (LJ ls cs n k) (SJ ls cs k) (bsJ ls cs (k+1)) (by simp) (by simp[Act.eval]) (by simp[Act.eval]) (by simp[Act.eval]) (by simp[Act.eval]) (by simp[Act.eval]) hlt (by omega) hJ.c0 (za E01).1 (za E01).2 ⟨_,hJ.pc.one k hlt⟩ ⟨_,hJ.pc.two k hlt⟩ hJ.pc.loose hJ.nd.2.2.2.2.2.2.2.2.2.2.2.2.1 (by have:=za HG;have:=hJ.hil;omega) hJ.nd.2.2.2.1 (fun W hb=>by
    refine (za HPT W ((za HV).but (hJ.fr.trans' hb)) (hJ.bo.but hb (by simp))).mono ?_
    rintro e w' ⟨sh,he,hp,hb'⟩
    exact⟨sh,he,⟨hp.share,Nat.le_trans hb.size hp.new,hp.borne⟩,hb'⟩) ?_
   intro sh w3 hP
   simp only[qx,List.foldl_cons,List.foldl_nil,Act.put,List.setIfInBounds_toArray,List.set_cons_zero,List.set_cons_succ]
   have hA2:=hJ.claim hlt (za HHI) hP.mem sh (bsJ ls cs (k+1)) (hP.f6 rfl) (LJ ls cs n k)
   have hs2:hi≤(w3.setCells gC (k*2) [.slice (some ⟨sh,0,none⟩) n n,.int .i64 (LJ ls cs n k)]).heap.size:=Nat.le_trans (za HHI) (Nat.le_trans hP.mem.size (zy w3 gC _ _).size)
   have HA2:=hide hA2
   have HS2:=hide hs2
   generalize w3.setCells gC (k*2) [.slice (some ⟨sh,0,none⟩) n n,.int .i64 (LJ ls cs n k)]=V2 at *
   clear hA2 hs2 hP hJ HJ HPT E01 HHI HG c0 c1
   go_wp2
   have hA2:=za HA2
   have cy:V2.cell? ⟨gC,k*2+1,none⟩=some (.int .i64 (LJ ls cs n k)):=by have:=hA2.pc.two k hlt;rw[zec] at this;exact this
   refine zna 13 _ _ V2 g8 gC nc k (NJ k) (LJ ls cs n k) (NJ (k+1)) (by simp) (by simp[Act.eval]) (by simp[Act.eval]) hlt (by omega) (za HENJ).symm (by have:=za HNJ2;omega) hA2.c3 hA2.c0 cy (hA2.f8 3) ?_
   intro w4 hP
   simp only[qx,List.foldl_cons,List.foldl_nil,Act.put,List.setIfInBounds_toArray,List.set_cons_zero,List.set_cons_succ]
   have hA3:=(hA2.but hP.mem).qhc (NJ (k+1))
   have hs3:hi≤(w4.setCell ⟨g8,3,none⟩ (.int .i64 (NJ (k+1)))).heap.size:=Nat.le_trans (za HS2) (Nat.le_trans hP.mem.size (ah.zch w4 g8 3 _).size)
   have HA3:=hide hA3
   have HS3:=hide hs3
   generalize w4.setCell ⟨g8,3,none⟩ (.int .i64 (NJ (k+1)))=V3 at *
   clear hA3 hs3 hP hA2 HA2 HS2 cy
   go_wp2
   exact⟨⟨k+1,by omega,by go_num,_,_,za HA3,fun i hi=>by
    by_cases e:i=k
    ·subst e;exact zec _ _ _
    ·rw[zpr _ _ e];exact za HFF i (by omega),za HS3⟩,by simp[intOf];omega⟩
  ·obtain rfl:k=nc:=by omega
   obtain⟨V,F,hA,hF,hhi⟩:=za HI
   obtain⟨SP,hSP⟩:∃ SP,SP=spK ls (ntJ ls cs n k):=⟨_,rfl⟩
   have A1:Hid (AG w hi gC gS gP g8 gb g4 n k k (SJ ls cs) V F (SR SP 0) (fun _=>0) (bsJ ls cs k) (NF 0) wr):=by
    have e1:SR SP 0=fun _=>0:=by funext i;simp[SR]
    have e2:NF 0=NJ k:=by rw[za HNF,za HNJ];rfl
    rw[e1,e2]
    exact hA
   have HSP:Hid (∀ i,SP i=stI (lnA ls i) (NF i)):=fun i=>by rw[hSP,za HNF];rfl
   have HNS:Hid (∀ i,NF (i+1)=NF i-SP i):=fun i=>by rw[za HNF,hSP];rfl
   have HBK:=hide (za BOK k (by have:=za HCL;omega))
   have HMX:Hid (ntJ ls cs n k≤100000000000000):=by
    have:=(za NJR k (by have:=za HCL;omega)).2
    rw[za HNJ] at this
    show _≤_
    omega
   have HFF:=hide hF
   have HSPE:=hide hSP
   clear hA hF hhi hSP HI BOK LJR NJR
   go_wp2
   go_loopw [67] (fun i wr=>∃ m:Nat,m≤n∧i=.int .i64 (m:Int)∧Hid (∃ Pm:Nat→Int,AG w hi gC gS gP g8 gb g4 n k k (SJ ls cs) V F (SR SP m) Pm (bsJ ls cs k) (NF m) wr∧∀ i,0≤Pm i)) (fun i _=>n-(intOf i).toNat)
   case atStart=>exact⟨0,Nat.zero_le _,rfl,_,za A1,fun _=>Int.le_refl _⟩
   case round =>
    obtain⟨m,hm,rfl,HI⟩:=hrel
    rename World=>wm
    clear A1
    by_cases hml:m<n
    ·obtain⟨Pm,hA,hPm⟩:=za HI
     have hkl:m<ls.length:=by have:=za HNL;omega
     obtain⟨hge,hmem⟩:=zei hkl
     obtain⟨a',cap',ea,-,hc⟩:=(za HV).but hA.fr
     simp only[Value.slice.injEq] at ea
     obtain⟨rfl,-,rfl⟩:=ea
     obtain⟨b,off,rfl,s,x,y,p,⟨c0,c1,c2,c3,c4,c5,c6,c7,c8,c9⟩,hf⟩:=hc m _ hge
     have ho1:=za HOK _ hmem
     have hn1:=za NKR m (by omega)
     have hn2:=za NKR (m+1) (by omega)
     have hbk:=za HBK m hml
     have hSm:=za HSP m
     have hNm:=za HNS m
     obtain⟨l,hl⟩:∃ l,l=lnA ls m:=⟨_,rfl⟩
     rw[← hl] at c0 c5 c6 c7 c8 c9 ho1 hSm
     obtain⟨⟨ka,kb⟩,-,⟨r1,r2,r3,r4⟩,-,-,k3,-⟩:=ho1
     have bB:But [] wm (wm.alloc (.cells #[.int .i64 l.kd,.bool s,.int .u64 x,.int .u64 y,.pointer p,.int .i64 l.fr,.int .i64 l.li,.int .i64 l.ti,.int .i64 l.pr,.string l.to] 37)):=(But.refl [] wm).alloc _
     have X9:=hide (bf.new wm l.kd s x y p l.fr l.li l.ti l.pr l.to)
     have HJ:=hide (hA.but bB)
     have HPM:=hide hPm
     have HSM:=hide hSm
     have HNM:=hide hNm
     have HN1:=hide hn1
     have HN2:=hide hn2
     have HBM:=hide hbk
     have R1:=hide r1
     have R2:=hide r2
     have R3:=hide r3
     have R4:=hide r4
     have K3:=hide k3
     have same:SP m=0→SR SP (m+1)=SR SP m:=fun e=>by
      funext i
      unfold SR
      by_cases e1:i=m
      ·subst e1;simp[e]
      ·by_cases e2:i<m
       ·rw[if_pos e2,if_pos (by omega)]
       ·rw[if_neg e2,if_neg (by omega)]
     have HSAME:=hide same
     clear hA hPm hge hmem hc hn1 hn2 hbk hSm hNm hl r1 r2 r3 r4 k3 bB hf same HI
     by_cases h3:l.kd=3
     ·have h3b:(l.kd==3)=true:=by rw[h3];rfl
      have e0:SP m=0:=by rw[za HSM];unfold stI;rw[if_neg (by omega)]
      have E0:=hide e0
      have H3:=hide h3
      clear e0 h3
      go_wp2
      generalize wm.alloc (.cells #[.int .i64 l.kd,.bool s,.int .u64 x,.int .u64 y,.pointer p,.int .i64 l.fr,.int .i64 l.li,.int .i64 l.ti,.int .i64 l.pr,.string l.to] 37)=V1 at *
      generalize wm.heap.size=g9 at X9 ⊢
      have hJ:=za HJ
      obtain⟨z,hz,hpr⟩:=zso l.kd s x y p l.fr l.li l.ti l.pr l.to (bsJ ls cs k m) V1 ⟨(za K3 (za H3)).1,(za R2).2⟩ (za R4) (za R3) (by have:=za HBM;omega)
      refine zmz 20 _ _ V1 g8 g9 gP gb n m l.kd s x y p l.fr l.li l.ti l.pr l.to (bsJ ls cs k m) (z:Int) _ (by simp) (by simp[Act.eval]) (by simp[Act.eval]) (by simp[Act.eval]) (by simp[Act.eval]) hml (by omega) hJ.c2 (hJ.bo.cells m hml) (za X9) (hJ.pm.cells m hml) (hJ.pm.loose m) (fun W hb=>hpr W hb) ?_
      intro w3 hP
      simp only[qx,List.foldl_cons,List.foldl_nil,Act.put,List.setIfInBounds_toArray,List.set_cons_zero,List.set_cons_succ]
      have hA2:=(hJ.but hP.mem).quf m hml (z:Int)
      rw[← za HSAME (za E0),show NF m=NF (m+1) by rw[za HNM,za E0];omega] at hA2
      have HA2:=hide hA2
      generalize w3.setCell ⟨gP,m,none⟩ (.int .i64 (z:Int))=V2 at *
      clear hA2 hP hJ HJ X9 hpr c0 c1 c2 c3 c4 c5 c6 c7 c8 c9
      go_wp2
      exact⟨⟨m+1,by omega,by go_num,_,za HA2,fun i=>by
       by_cases e:i=m
       ·subst e;rw[zec];omega
       ·rw[zpr _ _ e];exact za HPM i⟩,by simp[intOf];omega⟩
     ·have h3b:(l.kd==3)=false:=beq_eq_false_iff_ne.2 h3
      by_cases h4:l.kd=4
      ·have h4b:(l.kd==4)=true:=by rw[h4];rfl
       have e0:SP m=abI l.fr l.li (NF m):=by rw[za HSM];unfold stI;rw[if_pos h4]
       have E0:=hide e0
       clear e0 h4
       go_wp2
       generalize wm.alloc (.cells #[.int .i64 l.kd,.bool s,.int .u64 x,.int .u64 y,.pointer p,.int .i64 l.fr,.int .i64 l.li,.int .i64 l.ti,.int .i64 l.pr,.string l.to] 37)=V1 at *
       generalize wm.heap.size=g9 at X9 ⊢
       have hJ:=za HJ
       refine zmy 22 _ _ V1 g8 g9 gS n m l.kd s x y p l.fr l.li l.ti l.pr l.to (NF m) (SP m) _ (by simp) (by simp[Act.eval]) (by simp[Act.eval]) (by simp[Act.eval]) hml (by omega) hJ.c3 hJ.c1 (za X9) (hJ.st.cells m hml) (hJ.st.loose m) (fun W _=>by
        have h:=zpo l.kd s x y p l.fr l.li l.ti l.pr l.to (NF m) W (by have:=za HN1;have:=za HMX;omega) (za R1)
        rw[← za E0] at h
        exact h) ?_
       intro w3 hP
       simp only[qx,List.foldl_cons,List.foldl_nil,Act.put,List.setIfInBounds_toArray,List.set_cons_zero,List.set_cons_succ]
       have hA2:=(hJ.but hP.mem).qpb m hml (SP m)
       rw[zxz] at hA2
       have HA2:=hide hA2
       generalize w3.setCell ⟨gS,m,none⟩ (.int .i64 (SP m))=V2 at *
       clear hA2 hP hJ HJ X9 c0 c1 c2 c3 c4 c5 c6 c7 c8 c9
       go_wp2
       have hA2:=za HA2
       have cy:V2.cell? ⟨gS,m,none⟩=some (.int .i64 (SP m)):=by have:=hA2.st.cells m hml;rw[show SR SP (m+1) m=SP m by simp[SR]] at this;exact this
       refine zmx 23 _ _ V2 g8 gS n m (NF m) (SP m) (NF (m+1)) (by simp) (by simp[Act.eval]) (by simp[Act.eval]) hml (by omega) (za HNM).symm (by have:=za HN2;have:=za HMX;omega) hA2.c3 hA2.c1 cy (hA2.f8 3) ?_
       intro w4 hP
       simp only[qx,List.foldl_cons,List.foldl_nil,Act.put,List.setIfInBounds_toArray,List.set_cons_zero,List.set_cons_succ]
       have HA3:=hide ((hA2.but hP.mem).qhc (NF (m+1)))
       generalize w4.setCell ⟨g8,3,none⟩ (.int .i64 (NF (m+1)))=V3 at *
       clear hP hA2 HA2 cy
       go_wp2
       exact⟨⟨m+1,by omega,by go_num,_,za HA3,za HPM⟩,by simp[intOf];omega⟩
      ·have h4b:(l.kd==4)=false:=beq_eq_false_iff_ne.2 h4
       have e0:SP m=0:=by rw[za HSM];unfold stI;rw[if_neg h4]
       have hA2:=za HJ
       rw[← za HSAME e0,show NF m=NF (m+1) by rw[za HNM,e0];omega] at hA2
       have HA2:=hide hA2
       clear hA2 HJ X9 e0
       go_wp2
       exact⟨⟨m+1,by omega,by go_num,_,za HA2,za HPM⟩,by simp[intOf];omega⟩
    ·obtain rfl:m=n:=by omega
     obtain⟨Pm,hA,hPm⟩:=za HI
     have c0:=hA.c0
     have c1:=hA.c1
     have c2:=hA.c2
     have c3:=hA.c3
     have d0:=hA.d0
     have d1:=hA.d1
     have d2:=hA.d2
     have d3:=hA.d3
     have f4:=hA.f4
     have HA:=hide hA
     have HPM:=hide hPm
     clear hA hPm HI
     go_wp2
     have hA:=za HA
     have hb:=zy wm g4 [.slice (some ⟨gC,0,none⟩) k k,.slice (some ⟨gS,0,none⟩) m m,.slice (some ⟨gP,0,none⟩) m m,.int .i64 (NF m)] 0
     obtain⟨n1,n2,n3,n4,n5,n6,n7,n8,n9,m1,m2,m3,m4,m5,m6⟩:=hA.nd
     have hF:But [] w (wm.setCells g4 0 [.slice (some ⟨gC,0,none⟩) k k,.slice (some ⟨gS,0,none⟩) m m,.slice (some ⟨gP,0,none⟩) m m,.int .i64 (NF m)]):=hA.fr.trans hb (fun x hx=>by simp at hx;subst hx;exact .inr hA.old.2.2.2.2.2)
     refine bodyPost_ret (v:=.tuple #[.agg #[.slice (some ⟨gC,0,none⟩) k k,.slice (some ⟨gS,0,none⟩) m m,.slice (some ⟨gP,0,none⟩) m m,.int .i64 (NF m)],.nilIface]) (by simp[results,results15,go_sem,d0,d1,d2,d3]) rfl ⟨gC,gS,gP,rfl,⟨fun j hj=>?_,fun i hi=>?_,fun i hi=>?_⟩,hF⟩
     ·obtain⟨sh,e1,e2,e3⟩:=hA.sr j hj
      have o:=hA.pc.one j hj
      have t:=hA.pc.two j hj
      rw[e1] at o
      rw[za HFF j hj] at t
      exact⟨sh,hb.zb o (by simpa using n5),hb.zb t (by simpa using n5),fun i hi=>hb.zb (e2.cells i hi) (by simp;have:=hA.hil;omega)⟩
     ·have h:=hb.zb (hA.st.cells i hi) (by simpa using n9)
      rw[show SR SP m i=SP i by simp[SR,hi],za HSPE] at h
      exact h
     ·exact⟨Pm i,za HPM i,hb.zb (hA.pm.cells i hi) (by simpa using m3)⟩
theorem zgo (q:Option Addr) (n c:Nat) (w:World) (hn:40<n) :
  Calls prog 10 #[.slice q n c] w fun e w'=>e=.returned (.iface 50 (.int .i64 4))∧But [] w w':=by
 go_enter func10,ntmps10
 go_wp2
 go_ret
 exact⟨rfl,But.refl _ _⟩
theorem zct (q:Option Addr) (n c:Nat) (ls:List Ln) (w:World) (hv:bn w (.slice q n c) ls) (lf:∀ l ∈ ls,Len l.f 1) (hbig:∀ l ∈ ls,l.to.size<9223372036854775808) :
  Calls prog 10 #[.slice q n c] w fun e w'=>∃ r,e=.returned r∧(n≤40∧zfo ls n→r=.nilIface)∧(¬ (n≤40∧zfo ls n)→∃ z,r=.iface 50 (.int .i64 z))∧But [] w w':=by
 have hnl:n=ls.length:=by
  obtain⟨a,cap,e,-⟩:=hv
  simp only[Value.slice.injEq] at e
  exact e.2.1
 by_cases h:n≤40
 ·refine (zcs _ ls w hv (by omega) lf hbig).mono ?_
  rintro e w' ⟨r,he,h1,h2,hb⟩
  rw[← hnl] at h1 h2
  exact⟨r,he,fun k=>h1 k.2,fun k=>h2 (fun t=>k ⟨h,t⟩),hb⟩
 ·refine (zgo q n c w (by omega)).mono ?_
  rintro e w' ⟨he,hb⟩
  exact⟨_,he,fun k=>absurd k.1 h,fun _=>⟨_,rfl⟩,hb⟩
end Go.Proofs.YtcgecpoedojhjaaGreatDoor
