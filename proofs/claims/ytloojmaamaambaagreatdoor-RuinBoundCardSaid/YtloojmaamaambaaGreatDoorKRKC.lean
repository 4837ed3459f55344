/- Products of ways, as the Go text of pack -/
import Derived.Test.YtloojmaamaambaaGreatDoorKRF8
namespace Go.Proofs.YtloojmaamaambaaGreatDoor
open Go.RowKit
set_option maxHeartbeats 16000000
set_option maxRecDepth 100000
structure RowOf (w:World) (g n:Nat) (F:Nat→Rat):Prop where
 told:∀ j,j<n→LiesAt w g (j*4) (F j)
 loose:∀ o,w.frozen? ⟨g,o,none⟩=false
theorem RowOf.made (w:World) (n:Nat):RowOf (w.alloc (.cells (madeCells #[Value.bool false,.int .u64 0,.int .u64 0,.pointer none] (n*4)) 29)) w.heap.size n (fun _=>0) :=
 ⟨fun j hj=>⟨false,0,0,none,(Row4.made w n (fun _=>0)).blank j (Nat.zero_le _) hj,zero_at _⟩,(Row4.made w n (fun _=>0)).loose⟩
theorem RowOf.but {w w':World} {g n:Nat} {F:Nat→Rat} (h:RowOf w g n F) (hb:But [] w w') (hg:g<w.heap.size):RowOf w' g n F :=
 ⟨fun j hj=>(h.told j hj).but hb,fun o=>(hb.frozen (p:=⟨g,o,none⟩) hg (by simp)).trans (h.loose o)⟩
theorem RowOf.bool {w:World} {g n:Nat} {F:Nat→Rat} (h:RowOf w g n F) (h0:0<n):∃ s,w.cell? ⟨g,0,none⟩=some (.bool s):=by
 obtain ⟨s,x,y,p,a,-⟩:=h.told 0 h0
 rw [Nat.zero_mul] at a
 exact ⟨_,a.1⟩
def setF (F:Nat→Rat) (t:Nat) (v:Rat):Nat→Rat:=fun j=>if j=t then v else F j
theorem RowOf.set {w:World} {g n i:Nat} {F:Nat→Rat} (h:RowOf w g n F) (hi:i<n) (s1:Bool) (x1 y1:Int) (p1:Option Addr) (v:Rat) (h1:FracAt w (.agg #[.bool s1,.int .u64 x1,.int .u64 y1,.pointer p1]) v) :
  RowOf (w.setCells g (i*4) [.bool s1,.int .u64 x1,.int .u64 y1,.pointer p1]) g n (setF F i v):=by
 obtain ⟨c,hc⟩:=h.bool (by omega)
 obtain ⟨s0,x0,y0,p0,a1,-⟩:=h.told i hi
 have hb:=but_setCells w g [.bool s1,.int .u64 x1,.int .u64 y1,.pointer p1] (i*4)
 have some4:∀ k,k<4→(w.cell? ⟨g,i*4+k,none⟩).isSome=true:=fun k hk=>by
  have:k=0∨k=1∨k=2∨k=3:=by omega
  rcases this with rfl | rfl | rfl | rfl
  ·rw [show i*4+0=i*4 from rfl,a1.1];rfl
  ·rw [a1.2.1];rfl
  ·rw [a1.2.2.1];rfl
  ·rw [a1.2.2.2];rfl
 have hin:∀ k (hk:k<4),(w.setCells g (i*4) [.bool s1,.int .u64 x1,.int .u64 y1,.pointer p1]).cell? ⟨g,i*4+k,none⟩=some ([Value.bool s1,.int .u64 x1,.int .u64 y1,.pointer p1][k]'hk):=fun k hk =>
  World.cell?_setCells_in g [.bool s1,.int .u64 x1,.int .u64 y1,.pointer p1] (i*4) w (fun j hj=>some4 j hj) k hk
 have hout:∀ o,o<i*4∨i*4+4≤o→(w.setCells g (i*4) [.bool s1,.int .u64 x1,.int .u64 y1,.pointer p1]).cell? ⟨g,o,none⟩=w.cell? ⟨g,o,none⟩:=fun o ho=>World.cell?_setCells_out g _ (i*4) w _ (fun _ _=>by simp;omega)
 have keep:∀ o s x y p,o+4≤i*4∨i*4+4≤o→P4o w g o s x y p→P4o (w.setCells g (i*4) [.bool s1,.int .u64 x1,.int .u64 y1,.pointer p1]) g o s x y p:=fun o s x y p ho hp=>⟨(hout o (by omega)).trans hp.1,(hout (o+1) (by omega)).trans hp.2.1,(hout (o+2) (by omega)).trans hp.2.2.1,(hout (o+3) (by omega)).trans hp.2.2.2⟩
 have hfr:∀ {v f},FracAt w v f→FracAt (w.setCells g (i*4) [.bool s1,.int .u64 x1,.int .u64 y1,.pointer p1]) v f:=fun hf=>hf.over hc hb
 refine ⟨fun j hj=>?_,fun o=>by rw [World.frozen?_setCells];exact h.loose o⟩
 unfold setF
 by_cases e:j=i
 ·subst e
  rw [if_pos rfl]
  exact ⟨s1,x1,y1,p1,⟨hin 0 (by omega),hin 1 (by omega),hin 2 (by omega),hin 3 (by omega)⟩,hfr h1⟩
 ·rw [if_neg e]
  obtain ⟨t1,u1,v1,q1,b1,f1⟩:=h.told j hj
  exact ⟨t1,u1,v1,q1,keep _ _ _ _ _ (by omega) b1,hfr f1⟩
theorem RowOf.fracs {w:World} {g n:Nat} {F:Nat→Rat} (h:RowOf w g n F):FracsAt w (.slice (some ⟨g,0,none⟩) n n) ((List.range n).map F) :=
 Row4.fracs ⟨fun j h1 h2=>by omega,h.told,h.loose⟩
def convK (F:Nat→Rat) (x:Rat) (bs:List Rat) (i:Nat):Nat→Nat→Rat
 | 0=>F
 | k+1=>setF (convK F x bs i k) (i+k) (convK F x bs i k (i+k)+x*bs[k]?.getD 0)
def convI (xs bs:List Rat):Nat→Nat→Rat
 | 0=>fun _=>0
 | i+1=>if (xs[i]?.getD 0).num=0 then convI xs bs i else convK (convI xs bs i) (xs[i]?.getD 0) bs i bs.length
theorem convK_far (F:Nat→Rat) (x:Rat) (bs:List Rat) (i:Nat):∀ k t,i+k≤t→convK F x bs i k t=F t
 | 0,_,_=>rfl
 | k+1,t,h=>by
  show setF _ _ _ t=_
  unfold setF
  rw [if_neg (by omega)]
  exact convK_far F x bs i k t (by omega)
theorem len_convK (c n:Nat) (F:Nat→Rat) (x:Rat) (bs:List Rat) (i:Nat) (hF:∀ t,Len (F t) n) (hx:∀ k,k<bs.length→Len (x*bs[k]?.getD 0) c):∀ k,k≤bs.length→∀ t,Len (convK F x bs i k t) (n+c+1)
 | 0,_,t=>(hF t).mono (by omega)
 | k+1,hk,t=>by
  show Len (setF _ _ _ t) _
  unfold setF
  by_cases e:t=i+k
  ·rw [if_pos e,convK_far F x bs i k (i+k) (Nat.le_refl _)]
   exact len_add (hF _) (hx k (by omega)) _ (Nat.le_refl _)
  ·rw [if_neg e]
   exact len_convK c n F x bs i hF hx k (by omega) t
theorem len_convI (c:Nat) (xs bs:List Rat) (ha:∀ f ∈ xs,Len f c) (hb:∀ f ∈ bs,Len f c):∀ i,i≤xs.length→∀ t,Len (convI xs bs i t) (i*(2*c+1)+1)
 | 0,_,_=>len_zero _ (by omega)
 | i+1,hi,t=>by
  have ih:=len_convI c xs bs ha hb i (by omega)
  show Len ((if (xs[i]?.getD 0).num=0 then convI xs bs i else convK (convI xs bs i) (xs[i]?.getD 0) bs i bs.length) t) _
  split
  ·exact (ih t).mono (by have:=Nat.add_mul i 1 (2*c+1);omega)
  ·refine (len_convK (2*c) _ _ _ bs i ih (fun k hk=>?_) bs.length (Nat.le_refl _) t).mono (by have:=Nat.add_mul i 1 (2*c+1);omega)
   rw [List.getElem?_eq_getElem (by omega),List.getElem?_eq_getElem hk]
   exact len_mul (ha _ (List.getElem_mem (by omega))) (hb _ (List.getElem_mem hk)) _ (by omega)
theorem product_any (va vb:Value) (xs bs:List Rat) (c:Nat) (w:World) (ha:FracsAt w va xs) (hb:FracsAt w vb bs) (na:xs.length≤300) (nb:bs.length≤300) (na1:1≤xs.length) (nb1:1≤bs.length) (la:∀ f ∈ xs,Len f c) (lb:∀ f ∈ bs,Len f c) (hc:c≤500) :
  Calls Tryz.prog 119 #[va,vb] w fun e w'=>∃ g,e=.returned (.slice (some ⟨g,0,none⟩) (xs.length+bs.length-1) (xs.length+bs.length-1))∧RowOf w' g (xs.length+bs.length-1) (convI xs bs xs.length)∧w.heap.size≤g∧g<w'.heap.size∧But [] w w':=by
 rcases ha.open with ⟨rfl,-⟩ | ⟨-,b1,o1,cap1,rfl,-,-⟩
 ·simp at na1
 rcases hb.open with ⟨rfl,-⟩ | ⟨-,b2,o2,cap2,rfl,-,-⟩
 ·simp at nb1
 obtain ⟨m,hM⟩:∃ m,m=xs.length:=⟨_,rfl⟩
 obtain ⟨n,hN⟩:∃ n,n=bs.length:=⟨_,rfl⟩
 rw [← hM] at na na1
 rw [← hN] at nb nb1
 rw [← hM,← hN]
 rw [← hM] at ha
 rw [← hN] at hb
 obtain ⟨t,ht⟩:∃ t,t=m+n-1:=⟨_,rfl⟩
 rw [← ht]
 have HA:=hide ha
 have HB:=hide hb
 have HM:=hide hM
 have HN:=hide hN
 have ht1:(m:Int)+(n:Int)-1=(t:Int):=by omega
 have ht2:t<1000000:=by omega
 have HT:=hide ht
 clear ha hb hM hN ht
 have hmk:=fun wx=>run_makeF wx t ht2
 have rV:=RowOf.made w t
 have bV:But [] w (w.alloc (.cells (madeCells #[.bool false,.int .u64 0,.int .u64 0,.pointer none] (t*4)) 29)):=(But.refl _ _).alloc _
 have RV:=hide rV
 have BV:=hide bV
 clear rV bV
 have lV:w.heap.size<(w.alloc (.cells (madeCells #[.bool false,.int .u64 0,.int .u64 0,.pointer none] (t*4)) 29)).heap.size:=by simp
 go_enter Tryz.func119,Tryz.ntmps119
 go_wp2
 clear hmk
 generalize hg:w.heap.size=g at *
 generalize w.alloc (.cells (madeCells #[.bool false,.int .u64 0,.int .u64 0,.pointer none] (t*4)) 29)=V at *
 go_loopw [19] (fun iv wr=>∃ i:Nat,i≤m∧iv=.int .i64 (i:Int)∧Hid (RowOf wr g t (convI xs bs i)∧g<wr.heap.size∧But [] w wr)) (fun iv _=>m-(intOf iv).toNat)
 case atStart=>exact ⟨0,Nat.zero_le _,rfl,unhide RV,lV,unhide BV⟩
 case round =>
  obtain ⟨i,hi,rfl,HI⟩:=hrel
  rename World=>wr
  clear RV BV lV
  by_cases hlt:i<m
  ·have hil:i<xs.length:=by have:=unhide HM;omega
   obtain ⟨sr,xr,yr,pr,⟨r0,r1,r2,r3⟩,hfr⟩:=((unhide HA).but (unhide HI).2.2).get i hlt
   obtain ⟨f,hff⟩:∃ f,f=xs[i]?.getD 0:=⟨_,rfl⟩
   rw [← hff] at hfr
   have hmem:f ∈ xs:=by rw [hff,List.getElem?_eq_getElem hil];exact List.getElem_mem hil
   have BA:Hid (But [] wr (wr.alloc (.cells #[.bool sr,.int .u64 xr,.int .u64 yr,.pointer pr] 29))):=(But.refl _ _).alloc _
   have X7:=hide (BoxAt.new wr sr xr yr pr _ 29 hfr)
   have SG:=hide (fun W (h:But [] wr W)=>fracSign_any _ f W (hfr.but h))
   have HFF:=hide hff
   clear hfr hff
   by_cases hz:f.num=0
   ·rw [hz,Int.sign_zero] at SG
    go_wp2_with fail
    refine (unhide SG _ (unhide BA)).mono ?_
    rintro e w1 ⟨rfl,hb1⟩
    have B1:=hide ((unhide BA).trans' hb1)
    clear hb1
    go_wp2
    refine ⟨⟨i+1,by omega,by go_num,?_,Nat.lt_of_lt_of_le (unhide HI).2.1 (unhide B1).size,(unhide HI).2.2.trans' (unhide B1)⟩,by simp [intOf];omega⟩
    have e:convI xs bs (i+1)=convI xs bs i:=by
     show (if (xs[i]?.getD 0).num=0 then _ else _)=_
     rw [← unhide HFF,if_pos hz]
    rw [e]
    exact (unhide HI).1.but (unhide B1) (unhide HI).2.1
   ·have hs:f.num.sign≠0:=fun e=>hz (Int.sign_eq_zero_iff_zero.1 e)
    generalize f.num.sign=sg at *
    go_wp2_with fail
    refine (unhide SG _ (unhide BA)).mono ?_
    rintro e w1 ⟨rfl,hb1⟩
    have B1:=hide ((unhide BA).trans' hb1)
    have Y7:=hide ((unhide X7).but hb1)
    have R1:=hide ((unhide HI).1.but (unhide B1) (unhide HI).2.1)
    have G1:g<w1.heap.size:=Nat.lt_of_lt_of_le (unhide HI).2.1 (unhide B1).size
    have BW1:=hide ((unhide HI).2.2.trans' (unhide B1))
    have l7:g<wr.heap.size:=(unhide HI).2.1
    clear hb1 X7 SG BA B1 HI r0 r1 r2 r3
    go_wp2
    generalize wr.heap.size=g7 at *
    go_loopw [29] (fun kv wx=>∃ k:Nat,k≤n∧kv=.int .i64 (k:Int)∧Hid (RowOf wx g t (convK (convI xs bs i) f bs i k)∧g<wx.heap.size∧But [] w wx∧BoxAt wx g7 f)) (fun kv _=>n-(intOf kv).toNat)
    case atStart=>exact ⟨0,Nat.zero_le _,rfl,unhide R1,G1,unhide BW1,unhide Y7⟩
    case round =>
     obtain ⟨k,hk,rfl,HJ⟩:=hrel
     rename World=>wx
     clear R1 G1 BW1 Y7
     by_cases hkt:k<n
     ·have hkl:k<bs.length:=by have:=unhide HN;omega
      obtain ⟨sy,xy,yy,py,⟨r0,r1,r2,r3⟩,hfy⟩:=((unhide HB).but (unhide HJ).2.2.1).get k hkt
      obtain ⟨y,hyy⟩:∃ y,y=bs[k]?.getD 0:=⟨_,rfl⟩
      rw [← hyy] at hfy
      have hmy:y ∈ bs:=by rw [hyy,List.getElem?_eq_getElem hkl];exact List.getElem_mem hkl
      have HFY:=hide hfy
      have HYY:=hide hyy
      clear hfy hyy
      go_wp2
      have bA:But [] wx (wx.alloc (.cells #[.bool sy,.int .u64 xy,.int .u64 yy,.pointer py] 29)):=(But.refl _ _).alloc _
      have X9:=hide (BoxAt.new wx sy xy yy py _ 29 (unhide HFY))
      have D7:=hide ((unhide HJ).2.2.2.but bA)
      have DR:=hide ((unhide HJ).1.but bA (unhide HJ).2.1)
      have DG:g<(wx.alloc (.cells #[.bool sy,.int .u64 xy,.int .u64 yy,.pointer py] 29)).heap.size:=Nat.lt_of_lt_of_le (unhide HJ).2.1 bA.size
      have DB:=hide ((unhide HJ).2.2.1.trans' bA)
      clear bA HFY r0 r1 r2 r3 HJ
      generalize wx.heap.size=g9 at *
      generalize wx.alloc (.cells #[.bool sy,.int .u64 xy,.int .u64 yy,.pointer py] 29)=U at *
      obtain ⟨⟨t7,a7,c7,q7,e7,hf7⟩,-⟩:=unhide D7
      obtain ⟨⟨t9,a9,c9,q9,e9,hf9⟩,-⟩:=unhide X9
      have hik:i+k<t:=by have:=unhide HT;omega
      obtain ⟨s0,x0,y0,p0,e0,hf0⟩:=(unhide DR).told (i+k) hik
      have lfy:Len (f*y) 1000:=len_mul (la f hmem) (lb y hmy) _ (by omega)
      have lold:Len (convK (convI xs bs i) f bs i k (i+k)) 400000:=by
       rw [convK_far _ _ _ _ _ _ (Nat.le_refl _)]
       refine (len_convI c xs bs la lb i (by omega) (i+k)).mono ?_
       have:i*(2*c+1)≤300*1001:=Nat.mul_le_mul (by omega) (by omega)
       omega
      refine product_region 9 _ _ U g ((i+k)*4) t i k s0 x0 y0 p0 t7 a7 c7 q7 t9 a9 c9 q9 _ _ _ g7 g9 (by simp) e0 (unhide DR).loose (by simp [Act.eval]) (by simp [Act.eval]) (by simp [Act.eval]) (by simp [Act.eval]) (by simp [Act.eval]) rfl hik ht2 (by omega) (by omega) e0 e7 e9 (fun w' hb=>fracMul_any _ _ _ _ w' (hf7.but hb) (hf9.but hb) ((la f hmem).mono (by omega)) ((lb y hmy).mono (by omega))) (fun w' hb v' hv'=>fracAdd_gen 400000 1000 (by omega) _ _ _ _ w' (hf0.but hb) hv' lold lfy) ?_
      intro w7 v12' s7 x7 y7' p7 hb7 hfz
      simp only [putted,List.foldl_cons,List.foldl_nil,Act.put,List.setIfInBounds_toArray,List.set_cons_zero,List.set_cons_succ]
      have hrow:=(unhide DR).but hb7 DG
      have J1:=hide (hrow.set hik s7 x7 y7' p7 _ hfz)
      have hP:=but_setCells w7 g [.bool s7,.int .u64 x7,.int .u64 y7',.pointer p7] ((i+k)*4)
      obtain ⟨cb,hcb⟩:=hrow.bool (by omega)
      have J7:=hide (((unhide D7).but hb7).beside hP (by simp;omega) (fun g hg=>by simp at hg;subst hg;exact ⟨_,hcb⟩))
      have JB:=hide (((unhide DB).trans' hb7).trans hP (fun x hx=>by simp at hx;subst hx;exact .inr (by omega)))
      have JG:g<(w7.setCells g ((i+k)*4) [.bool s7,.int .u64 x7,.int .u64 y7',.pointer p7]).heap.size:=Nat.lt_of_lt_of_le (Nat.lt_of_lt_of_le DG hb7.size) hP.size
      generalize w7.setCells g ((i+k)*4) [.bool s7,.int .u64 x7,.int .u64 y7',.pointer p7]=V7 at *
      clear hP hfz hb7 D7 DR DB X9 e0 e7 e9 hf0 hf7 hf9 lold lfy hrow hcb
      go_wp2
      refine ⟨⟨k+1,by omega,by go_num,?_,JG,unhide JB,unhide J7⟩,by simp [intOf];omega⟩
      show RowOf V7 g t (setF _ _ _)
      rw [← unhide HYY]
      exact unhide J1
     ·obtain rfl:k=n:=by omega
      go_wp2
      refine ⟨⟨i+1,by omega,by go_num,?_,(unhide HJ).2.1,(unhide HJ).2.2.1⟩,by simp [intOf];omega⟩
      have e:convI xs bs (i+1)=convK (convI xs bs i) f bs i bs.length:=by
       show (if (xs[i]?.getD 0).num=0 then _ else _)=_
       rw [← unhide HFF,if_neg hz]
      rw [e,← unhide HN]
      exact (unhide HJ).1
  ·obtain rfl:i=m:=by omega
   go_wp2
   go_ret
   refine ⟨g,rfl,?_,by omega,(unhide HI).2.1,(unhide HI).2.2⟩
   exact (unhide HI).1
end Go.Proofs.YtloojmaamaambaaGreatDoor
