/- Products of ways, as the Go text of pack -/
import Derived.Test.YtlckjpelcmjimaaGreatDoorKPF8
namespace Go.Proofs.YtlckjpelcmjimaaGreatDoor
open Go.RowKit
set_option maxHeartbeats 16000000
set_option maxRecDepth 100000
structure RowOf (w:World) (g n:Nat) (F:Nat→Rat):Prop where
 told:∀ j,j<n→LiesAt w g (j*4) (F j)
 loose:∀ o,w.frozen? ⟨g,o,none⟩=false
theorem RowOf.made (w:World) (n:Nat):RowOf (w.alloc (.cells (madeCells #[Value.bool false,.int .u64 0,.int .u64 0,.pointer none] (n*4)) 29)) w.heap.size n (fun _=>0) :=
 ⟨fun j hj=>⟨false,0,0,none,(Row4.made w n (fun _=>0)).blank j (Nat.zero_le _) hj,zero_at _⟩,(Row4.made w n (fun _=>0)).loose⟩
theorem RowOf.but {w w':World} {g n:Nat} {F:Nat→Rat} (h:RowOf w g n F) (hb:But [] w w') (hg:g<w.heap.size):RowOf w' g n F :=
 ⟨fun j hj=>(h.told j hj).but hb,fun o=>(hb.frozen (p:=⟨g,o,none⟩) hg (by simp)).trans (h.loose o)⟩
theorem RowOf.bool {w:World} {g n:Nat} {F:Nat→Rat} (h:RowOf w g n F) (h0:0<n):∃ s,w.cell? ⟨g,0,none⟩=some (.bool s):=by
 obtain ⟨s,x,y,p,a,-⟩:=h.told 0 h0
 rw [Nat.zero_mul] at a
 exact ⟨_,a.1⟩
def setF (F:Nat→Rat) (t:Nat) (v:Rat):Nat→Rat:=fun j=>if j=t then v else F j
theorem RowOf.set {w:World} {g n i:Nat} {F:Nat→Rat} (h:RowOf w g n F) (hi:i<n) (s1:Bool) (x1 y1:Int) (p1:Option Addr) (v:Rat) (h1:am w (.agg #[.bool s1,.int .u64 x1,.int .u64 y1,.pointer p1]) v) :
  RowOf (w.setCells g (i*4) [.bool s1,.int .u64 x1,.int .u64 y1,.pointer p1]) g n (setF F i v):=by
 obtain ⟨c,hc⟩:=h.bool (by omega)
 obtain ⟨s0,x0,y0,p0,a1,-⟩:=h.told i hi
 have hb:=bf w g [.bool s1,.int .u64 x1,.int .u64 y1,.pointer p1] (i*4)
 have some4:∀ k,k<4→(w.cell? ⟨g,i*4+k,none⟩).isSome=true:=fun k hk=>by
  have:k=0∨k=1∨k=2∨k=3:=by omega
  rcases this with rfl | rfl | rfl | rfl
  ·rw [show i*4+0=i*4 from rfl,a1.1];rfl
  ·rw [a1.2.1];rfl
  ·rw [a1.2.2.1];rfl
  ·rw [a1.2.2.2];rfl
 have hin:∀ k (hk:k<4),(w.setCells g (i*4) [.bool s1,.int .u64 x1,.int .u64 y1,.pointer p1]).cell? ⟨g,i*4+k,none⟩=some ([Value.bool s1,.int .u64 x1,.int .u64 y1,.pointer p1][k]'hk):=fun k hk =>
  World.cell?_setCells_in g [.bool s1,.int .u64 x1,.int .u64 y1,.pointer p1] (i*4) w (fun j hj=>some4 j hj) k hk
 have hout:∀ o,o<i*4∨i*4+4≤o→(w.setCells g (i*4) [.bool s1,.int .u64 x1,.int .u64 y1,.pointer p1]).cell? ⟨g,o,none⟩=w.cell? ⟨g,o,none⟩:=fun o ho=>World.cell?_setCells_out g _ (i*4) w _ (fun _ _=>by simp;omega)
 have keep:∀ o s x y p,o+4≤i*4∨i*4+4≤o→P4o w g o s x y p→P4o (w.setCells g (i*4) [.bool s1,.int .u64 x1,.int .u64 y1,.pointer p1]) g o s x y p:=fun o s x y p ho hp=>⟨(hout o (by omega)).trans hp.1,(hout (o+1) (by omega)).trans hp.2.1,(hout (o+2) (by omega)).trans hp.2.2.1,(hout (o+3) (by omega)).trans hp.2.2.2⟩
 have hfr:∀ {v f},am w v f→am (w.setCells g (i*4) [.bool s1,.int .u64 x1,.int .u64 y1,.pointer p1]) v f:=fun hf=>hf.over hc hb
 refine ⟨fun j hj=>?_,fun o=>by rw [World.frozen?_setCells];exact h.loose o⟩
 unfold setF
 by_cases e:j=i
 ·subst e
  rw [if_pos rfl]
  exact ⟨s1,x1,y1,p1,⟨hin 0 (by omega),hin 1 (by omega),hin 2 (by omega),hin 3 (by omega)⟩,hfr h1⟩
 ·rw [if_neg e]
  obtain ⟨t1,u1,v1,q1,b1,f1⟩:=h.told j hj
  exact ⟨t1,u1,v1,q1,keep _ _ _ _ _ (by omega) b1,hfr f1⟩
theorem RowOf.fracs {w:World} {g n:Nat} {F:Nat→Rat} (h:RowOf w g n F):an w (.slice (some ⟨g,0,none⟩) n n) ((List.range n).map F) :=
 Row4.fracs ⟨fun j h1 h2=>by omega,h.told,h.loose⟩
def convK (F:Nat→Rat) (x:Rat) (bs:List Rat) (i:Nat):Nat→Nat→Rat
 | 0=>F
 | k+1=>setF (convK F x bs i k) (i+k) (convK F x bs i k (i+k)+x*bs[k]?.getD 0)
def convI (xs bs:List Rat):Nat→Nat→Rat
 | 0=>fun _=>0
 | i+1=>if (xs[i]?.getD 0).num=0 then convI xs bs i else convK (convI xs bs i) (xs[i]?.getD 0) bs i bs.length
theorem convK_far (F:Nat→Rat) (x:Rat) (bs:List Rat) (i:Nat):∀ k t,i+k≤t→convK F x bs i k t=F t
 | 0,_,_=>rfl
 | k+1,t,h=>by
  show setF _ _ _ t=_
  unfold setF
  rw [if_neg (by omega)]
  exact convK_far F x bs i k t (by omega)
theorem len_convK (c n:Nat) (F:Nat→Rat) (x:Rat) (bs:List Rat) (i:Nat) (hF:∀ t,Len (F t) n) (hx:∀ k,k<bs.length→Len (x*bs[k]?.getD 0) c):∀ k,k≤bs.length→∀ t,Len (convK F x bs i k t) (n+c+1)
 | 0,_,t=>(hF t).mono (by omega)
 | k+1,hk,t=>by
  show Len (setF _ _ _ t) _
  unfold setF
  by_cases e:t=i+k
  ·rw [if_pos e,convK_far F x bs i k (i+k) (Nat.le_refl _)]
   exact len_add (hF _) (hx k (by omega)) _ (Nat.le_refl _)
  ·rw [if_neg e]
   exact len_convK c n F x bs i hF hx k (by omega) t
theorem len_convI (c:Nat) (xs bs:List Rat) (ha:∀ f ∈ xs,Len f c) (hb:∀ f ∈ bs,Len f c):∀ i,i≤xs.length→∀ t,Len (convI xs bs i t) (i*(2*c+1)+1)
 | 0,_,_=>len_zero _ (by omega)
 | i+1,hi,t=>by
  have ih:=len_convI c xs bs ha hb i (by omega)
  show Len ((if (xs[i]?.getD 0).num=0 then convI xs bs i else convK (convI xs bs i) (xs[i]?.getD 0) bs i bs.length) t) _
  split
  ·exact (ih t).mono (by have:=Nat.add_mul i 1 (2*c+1);omega)
  ·refine (len_convK (2*c) _ _ _ bs i ih (fun k hk=>?_) bs.length (Nat.le_refl _) t).mono (by have:=Nat.add_mul i 1 (2*c+1);omega)
   rw [List.getElem?_eq_getElem (by omega),List.getElem?_eq_getElem hk]
   exact len_mul (ha _ (List.getElem_mem (by omega))) (hb _ (List.getElem_mem hk)) _ (by omega)
theorem product_any (va vb:Value) (xs bs:List Rat) (c:Nat) (w:World) (ha:an w va xs) (hb:an w vb bs) (na:xs.length≤300) (nb:bs.length≤300) (na1:1≤xs.length) (nb1:1≤bs.length) (la:∀ f ∈ xs,Len f c) (lb:∀ f ∈ bs,Len f c) (hc:c≤500) :
  Calls Tryz.prog 119 #[va,vb] w fun e w'=>∃ g,e=.returned (.slice (some ⟨g,0,none⟩) (xs.length+bs.length-1) (xs.length+bs.length-1))∧RowOf w' g (xs.length+bs.length-1) (convI xs bs xs.length)∧w.heap.size≤g∧g<w'.heap.size∧But [] w w':=by
 rcases ha.open with ⟨rfl,-⟩ | ⟨-,b1,o1,cap1,rfl,-,-⟩
 ·simp at na1
 rcases hb.open with ⟨rfl,-⟩ | ⟨-,b2,o2,cap2,rfl,-,-⟩
 ·simp at nb1
 obtain ⟨m,hM⟩:∃ m,m=xs.length:=⟨_,rfl⟩
 obtain ⟨n,hN⟩:∃ n,n=bs.length:=⟨_,rfl⟩
 rw [← hM] at na na1
 rw [← hN] at nb nb1
 rw [← hM,← hN]
 rw [← hM] at ha
 rw [← hN] at hb
 obtain ⟨t,ht⟩:∃ t,t=m+n-1:=⟨_,rfl⟩
 rw [← ht]
 have HA:=af ha
 have HB:=af hb
 have HM:=af hM
 have HN:=af hN
 have ht1:(m:Int)+(n:Int)-1=(t:Int):=by omega
 have ht2:t<1000000:=by omega
 have HT:=af ht
 clear ha hb hM hN ht
 have hmk:=fun wx=>run_makeF wx t ht2
 have rV:=RowOf.made w t
 have bV:But [] w (w.alloc (.cells (madeCells #[.bool false,.int .u64 0,.int .u64 0,.pointer none] (t*4)) 29)):=(But.refl _ _).alloc _
 have RV:=af rV
 have BV:=af bV
 clear rV bV
 have lV:w.heap.size<(w.alloc (.cells (madeCells #[.bool false,.int .u64 0,.int .u64 0,.pointer none] (t*4)) 29)).heap.size:=by simp
 go_enter Tryz.func119,Tryz.ntmps119
 go_wp2
 clear hmk
 generalize hg:w.heap.size=g at *
 generalize w.alloc (.cells (madeCells #[.bool false,.int .u64 0,.int .u64 0,.pointer none] (t*4)) 29)=V at *
 go_loopw [19] (fun iv wr=>∃ i:Nat,i≤m∧iv=.int .i64 (i:Int)∧Hid (RowOf wr g t (convI xs bs i)∧g<wr.heap.size∧But [] w wr)) (fun iv _=>m-(intOf iv).toNat)
 case atStart=>exact ⟨0,Nat.zero_le _,rfl,ae RV,lV,ae BV⟩
 case round =>
  obtain ⟨i,hi,rfl,HI⟩:=hrel
  rename World=>wr
  clear RV BV lV
  by_cases hlt:i<m
  ·have hil:i<xs.length:=by have:=ae HM;omega
   obtain ⟨sr,xr,yr,pr,⟨r0,r1,r2,r3⟩,hfr⟩:=((ae HA).but (ae HI).2.2).get i hlt
   obtain ⟨f,hff⟩:∃ f,f=xs[i]?.getD 0:=⟨_,rfl⟩
   rw [← hff] at hfr
   have hmem:f ∈ xs:=by rw [hff,List.getElem?_eq_getElem hil];exact List.getElem_mem hil
   have BA:Hid (But [] wr (wr.alloc (.cells #[.bool sr,.int .u64 xr,.int .u64 yr,.pointer pr] 29))):=(But.refl _ _).alloc _
   have X7:=af (ax.new wr sr xr yr pr _ 29 hfr)
   have SG:=af (fun W (h:But [] wr W)=>fracSign_any _ f W (hfr.but h))
   have HFF:=af hff
   clear hfr hff
   by_cases hz:f.num=0
   ·rw [hz,Int.sign_zero] at SG
    go_wp2_with fail
    refine (ae SG _ (ae BA)).mono ?_
    rintro e w1 ⟨rfl,hb1⟩
    have B1:=af ((ae BA).trans' hb1)
    clear hb1
    go_wp2
    refine ⟨⟨i+1,by omega,by go_num,?_,Nat.lt_of_lt_of_le (ae HI).2.1 (ae B1).size,(ae HI).2.2.trans' (ae B1)⟩,by simp [intOf];omega⟩
    have e:convI xs bs (i+1)=convI xs bs i:=by
     show (if (xs[i]?.getD 0).num=0 then _ else _)=_
     rw [← ae HFF,if_pos hz]
    rw [e]
    exact (ae HI).1.but (ae B1) (ae HI).2.1
   ·have hs:f.num.sign≠0:=fun e=>hz (Int.sign_eq_zero_iff_zero.1 e)
    generalize f.num.sign=sg at *
    go_wp2_with fail
    refine (ae SG _ (ae BA)).mono ?_
    rintro e w1 ⟨rfl,hb1⟩
    have B1:=af ((ae BA).trans' hb1)
    have Y7:=af ((ae X7).but hb1)
    have R1:=af ((ae HI).1.but (ae B1) (ae HI).2.1)
    have G1:g<w1.heap.size:=Nat.lt_of_lt_of_le (ae HI).2.1 (ae B1).size
    have BW1:=af ((ae HI).2.2.trans' (ae B1))
    have l7:g<wr.heap.size:=(ae HI).2.1
    clear hb1 X7 SG BA B1 HI r0 r1 r2 r3
    go_wp2
    generalize wr.heap.size=g7 at *
    go_loopw [29] (fun kv wx=>∃ k:Nat,k≤n∧kv=.int .i64 (k:Int)∧Hid (RowOf wx g t (convK (convI xs bs i) f bs i k)∧g<wx.heap.size∧But [] w wx∧ax wx g7 f)) (fun kv _=>n-(intOf kv).toNat)
    case atStart=>exact ⟨0,Nat.zero_le _,rfl,ae R1,G1,ae BW1,ae Y7⟩
    case round =>
     obtain ⟨k,hk,rfl,HJ⟩:=hrel
     rename World=>wx
     clear R1 G1 BW1 Y7
     by_cases hkt:k<n
     ·have hkl:k<bs.length:=by have:=ae HN;omega
      obtain ⟨sy,xy,yy,py,⟨r0,r1,r2,r3⟩,hfy⟩:=((ae HB).but (ae HJ).2.2.1).get k hkt
      obtain ⟨y,hyy⟩:∃ y,y=bs[k]?.getD 0:=⟨_,rfl⟩
      rw [← hyy] at hfy
      have hmy:y ∈ bs:=by rw [hyy,List.getElem?_eq_getElem hkl];exact List.getElem_mem hkl
      have HFY:=af hfy
      have HYY:=af hyy
      clear hfy hyy
      go_wp2
      have bA:But [] wx (wx.alloc (.cells #[.bool sy,.int .u64 xy,.int .u64 yy,.pointer py] 29)):=(But.refl _ _).alloc _
      have X9:=af (ax.new wx sy xy yy py _ 29 (ae HFY))
      have D7:=af ((ae HJ).2.2.2.but bA)
      have DR:=af ((ae HJ).1.but bA (ae HJ).2.1)
      have DG:g<(wx.alloc (.cells #[.bool sy,.int .u64 xy,.int .u64 yy,.pointer py] 29)).heap.size:=Nat.lt_of_lt_of_le (ae HJ).2.1 bA.size
      have DB:=af ((ae HJ).2.2.1.trans' bA)
      clear bA HFY r0 r1 r2 r3 HJ
      generalize wx.heap.size=g9 at *
      generalize wx.alloc (.cells #[.bool sy,.int .u64 xy,.int .u64 yy,.pointer py] 29)=U at *
      obtain ⟨⟨t7,a7,c7,q7,e7,hf7⟩,-⟩:=ae D7
      obtain ⟨⟨t9,a9,c9,q9,e9,hf9⟩,-⟩:=ae X9
      have hik:i+k<t:=by have:=ae HT;omega
      obtain ⟨s0,x0,y0,p0,e0,hf0⟩:=(ae DR).told (i+k) hik
      have lfy:Len (f*y) 1000:=len_mul (la f hmem) (lb y hmy) _ (by omega)
      have lold:Len (convK (convI xs bs i) f bs i k (i+k)) 400000:=by
       rw [convK_far _ _ _ _ _ _ (Nat.le_refl _)]
       refine (len_convI c xs bs la lb i (by omega) (i+k)).mono ?_
       have:i*(2*c+1)≤300*1001:=Nat.mul_le_mul (by omega) (by omega)
       omega
      refine product_region 9 _ _ U g ((i+k)*4) t i k s0 x0 y0 p0 t7 a7 c7 q7 t9 a9 c9 q9 _ _ _ g7 g9 (by simp) e0 (ae DR).loose (by simp [Act.eval]) (by simp [Act.eval]) (by simp [Act.eval]) (by simp [Act.eval]) (by simp [Act.eval]) rfl hik ht2 (by omega) (by omega) e0 e7 e9 (fun w' hb=>fracMul_any _ _ _ _ w' (hf7.but hb) (hf9.but hb) ((la f hmem).mono (by omega)) ((lb y hmy).mono (by omega))) (fun w' hb v' hv'=>fracAdd_gen 400000 1000 (by omega) _ _ _ _ w' (hf0.but hb) hv' lold lfy) ?_
      intro w7 v12' s7 x7 y7' p7 hb7 hfz
      simp only [bb,List.foldl_cons,List.foldl_nil,Act.put,List.setIfInBounds_toArray,List.set_cons_zero,List.set_cons_succ]
      have hrow:=(ae DR).but hb7 DG
      have J1:=af (hrow.set hik s7 x7 y7' p7 _ hfz)
      have hP:=bf w7 g [.bool s7,.int .u64 x7,.int .u64 y7',.pointer p7] ((i+k)*4)
      obtain ⟨cb,hcb⟩:=hrow.bool (by omega)
      have J7:=af (((ae D7).but hb7).beside hP (by simp;omega) (fun g hg=>by simp at hg;subst hg;exact ⟨_,hcb⟩))
      have JB:=af (((ae DB).trans' hb7).trans hP (fun x hx=>by simp at hx;subst hx;exact .inr (by omega)))
      have JG:g<(w7.setCells g ((i+k)*4) [.bool s7,.int .u64 x7,.int .u64 y7',.pointer p7]).heap.size:=Nat.lt_of_lt_of_le (Nat.lt_of_lt_of_le DG hb7.size) hP.size
      generalize w7.setCells g ((i+k)*4) [.bool s7,.int .u64 x7,.int .u64 y7',.pointer p7]=V7 at *
      clear hP hfz hb7 D7 DR DB X9 e0 e7 e9 hf0 hf7 hf9 lold lfy hrow hcb
      go_wp2
      refine ⟨⟨k+1,by omega,by go_num,?_,JG,ae JB,ae J7⟩,by simp [intOf];omega⟩
      show RowOf V7 g t (setF _ _ _)
      rw [← ae HYY]
      exact ae J1
     ·obtain rfl:k=n:=by omega
      go_wp2
      refine ⟨⟨i+1,by omega,by go_num,?_,(ae HJ).2.1,(ae HJ).2.2.1⟩,by simp [intOf];omega⟩
      have e:convI xs bs (i+1)=convK (convI xs bs i) f bs i bs.length:=by
       show (if (xs[i]?.getD 0).num=0 then _ else _)=_
       rw [← ae HFF,if_neg hz]
      rw [e,← ae HN]
      exact (ae HJ).1
  ·obtain rfl:i=m:=by omega
   go_wp2
   go_ret
   refine ⟨g,rfl,?_,by omega,(ae HI).2.1,(ae HI).2.2⟩
   exact (ae HI).1
structure SBox (w:World) (g:Nat) (vs:List Value):Prop where
 cells:∀ k v,vs[k]? = some v→w.cell? ⟨g,k,none⟩=some v
 loose:∀ j,w.frozen? ⟨g,j,none⟩=false
theorem SBox.new (w:World) (vs:List Value) (t:TypeId):SBox (w.alloc (.cells vs.toArray t)) w.heap.size vs :=
 ⟨fun k v h=>by rw [World.cell?_alloc_new];simpa using h,fun j=>by simp⟩
theorem SBox.but {w w':World} {g:Nat} {vs:List Value} {l:List Nat} (h:SBox w g vs) (hb:But l w w') (hn:g ∉ l) (h0:0<vs.length):SBox w' g vs:=by
 have hl:g<w.heap.size:=by
  have:=h.cells 0 vs[0] (List.getElem?_eq_getElem h0)
  exact ai this
 exact ⟨fun k v hv=>hb.ag (h.cells k v hv) hn,fun j=>(hb.frozen (p:=⟨g,j,none⟩) hl hn).trans (h.loose j)⟩
theorem SBox.lt {w:World} {g:Nat} {vs:List Value} (h:SBox w g vs) (h0:0<vs.length):g<w.heap.size:=ai (h.cells 0 vs[0] (List.getElem?_eq_getElem h0))
theorem SBox.some {w:World} {g:Nat} {vs:List Value} (h:SBox w g vs) (k:Nat) (hk:k<vs.length):∃ v,w.cell? ⟨g,k,none⟩=some v:=⟨_,h.cells k vs[k] (List.getElem?_eq_getElem hk)⟩
theorem SBox.put {w:World} {g:Nat} {vs us:List Value} (h:SBox w g vs) (hl:us.length=vs.length):SBox (w.setCells g 0 us) g us:=by
 refine ⟨fun k v hv=>?_,fun j=>by rw [World.frozen?_setCells];exact h.loose j⟩
 have hk:k<us.length:=(List.getElem?_eq_some_iff.1 hv).1
 have e:=World.cell?_setCells_in g us 0 w (fun j hj=>by
  obtain ⟨v,hc⟩:=h.some j (by omega)
  rw [Nat.zero_add,hc];rfl) k hk
 rw [Nat.zero_add] at e
 rw [e,← (List.getElem?_eq_some_iff.1 hv).2]
def RowB (B n:Nat) (F:Nat→Rat) (w:World) (v:Value):Prop:=∃ g,v=.slice (some ⟨g,0,none⟩) n n∧RowOf w g n F∧B≤g∧g<w.heap.size
theorem RowB.but {B n:Nat} {F:Nat→Rat} {w w':World} {v:Value} (h:RowB B n F w v) (hb:But [] w w'):RowB B n F w' v:=by
 obtain ⟨g,e,h1,h2,h3⟩:=h
 exact ⟨g,e,h1.but hb h3,h2,Nat.lt_of_lt_of_le h3 hb.size⟩
def ShutUp (ops:Array Oper) (d:Nat→Bool):Prop:=∀ i o,ops[i]? = some o→d i=true→∀ e ∈ o.after,Region.binds .any e=true→d e.on=true
theorem shut_of {ops:Array Oper} {ps:List (Nat × Nat)} (h:depOps ops ps=true) {d:Nat→Bool} (hs:ShutUp ops d) (i j:Nat) (hij:(i,j) ∈ ps) (hd:d i=true):d j=true:=by
 obtain ⟨o,ho,ed,hed,hbi,rfl⟩:=dep_of h i j hij
 exact hs i o ho hd ed hed hbi
def bareOps (ops:Array Oper):Bool:=(List.range ops.size).all fun i=>match ops[i]? with
 | some o=>o.guard.isNone
 | none=>true
theorem bare_of {ops:Array Oper} (h:bareOps ops=true):∀ (i:Nat) (o:Oper),ops[i]? = some o→o.guard=none:=fun i o ho=>by
 have hi:i<ops.size:=(Array.getElem?_eq_some_iff.1 ho).1
 unfold bareOps at h
 rw [List.all_eq_true] at h
 have h1:=h i (List.mem_range.2 hi)
 simp only [ho] at h1
 simpa using h1
structure aw (w:World) (base:Nat) (v:Value) (fs:List Rat) (vs:List Value):Prop where
 pos:0<fs.length
 size:base≤w.heap.size
 held:Holds4 w base 29 v fs vs
theorem aw.form {w:World} {base:Nat} {v:Value} {fs:List Rat} {vs:List Value} (h:aw w base v fs vs):∃ g cap,v=.slice (some ⟨g,0,none⟩) fs.length cap∧base≤g∧g<w.heap.size∧fs.length≤cap∧v.ownBlock=some g∧∃ s,w.cell? ⟨g,0,none⟩=some (.bool s):=by
 have ho:=h.held.own
 rcases ho.2 with ⟨-,e⟩ | ⟨g,cap,cur,e,h1,h2,h3,-⟩
 ·have:=h.pos
  omega
 ·refine ⟨g,cap,e,h1,(Array.getElem?_eq_some_iff.1 h2).1,h3,by rw [e];rfl,?_⟩
  obtain ⟨s,x,y,p,e1,-⟩:=h.held.val 0 _ (List.getElem?_eq_getElem h.pos)
  refine ⟨s,?_⟩
  have hv:∀ u ∈ vs,u.cells.size=4:=fun u hu=>by
   obtain ⟨i,hi,rfl⟩:=List.getElem_of_mem hu
   have hi':i<fs.length:=by rw [← h.held.len];exact hi
   obtain ⟨s,x,y,p,e2,-⟩:=h.held.val i _ (List.getElem?_eq_getElem hi')
   rw [List.getElem?_eq_getElem hi] at e2
   rw [Option.some.inj e2]
   rfl
  have h0:=ho.cells (g:=g) (by rw [e];rfl) 0 (.bool s) (by
   have:=parts4_get vs hv 0 0 _ e1 (by omega)
   rw [Nat.mul_zero,Nat.zero_add] at this
   rw [this]
   rfl)
  simpa [Addr.add] using h0
theorem aw.but {w w':World} {base:Nat} {v:Value} {fs:List Rat} {vs:List Value} (h:aw w base v fs vs) (hb:But [] w w'):aw w' base v fs vs :=
 ⟨h.pos,Nat.le_trans h.size hb.size,⟨ownsRow_but h.held.own hb,h.held.len,fun i f hi=>by
  obtain ⟨s,x,y,p,e,hf⟩:=h.held.val i f hi
  exact ⟨s,x,y,p,e,hf.but hb⟩⟩⟩
theorem aw.beside {w w':World} {base:Nat} {v:Value} {fs:List Rat} {vs:List Value} {g:Nat} (h:aw w base v fs vs) (hb:But [g] w w') (hn:v.ownBlock≠some g) (hc:∀ u f,am w u f→am w' u f):aw w' base v fs vs :=
 ⟨h.pos,Nat.le_trans h.size hb.size,⟨h.held.own.kept (row:=some g) ⟨hb.os,hb.tape,hb.output,hb.size,fun j hj hn=>hb.block j hj (by simpa using hn)⟩ (.inr hn),h.held.len,fun i f hi=>by
  obtain ⟨s,x,y,p,e,hf⟩:=h.held.val i f hi
  exact ⟨s,x,y,p,e,hc _ _ hf⟩⟩⟩
theorem aw.new (w:World) (s:Bool) (x y:Int) (p:Option Addr) (f:Rat) (hf:am w (.agg #[.bool s,.int .u64 x,.int .u64 y,.pointer p]) f) :
  aw (w.alloc (.cells #[.bool s,.int .u64 x,.int .u64 y,.pointer p] 29)) w.heap.size (.slice (some ⟨w.heap.size,0,none⟩) 1 1) [f] [.agg #[.bool s,.int .u64 x,.int .u64 y,.pointer p]] :=
 ⟨by simp,by simp,⟨World.ownsRow_lit w #[.bool s,.int .u64 x,.int .u64 y,.pointer p] 1 (Nat.le_refl _) (by unfold maxLen;omega) rfl,rfl,fun i g hi=>by
  cases i with
  | zero =>
   simp only [List.getElem?_cons_zero,Option.some.injEq] at hi
   subst hi
   exact ⟨s,x,y,p,rfl,hf.but ((But.refl [] w).alloc _)⟩
  | succ i=>simp at hi⟩⟩
theorem aw.base {w:World} {base b2:Nat} {v:Value} {fs:List Rat} {vs:List Value} (h:aw w base v fs vs) (hb:b2≤base):aw w b2 v fs vs:=by
 refine ⟨h.pos,Nat.le_trans hb h.size,⟨⟨h.held.own.1,?_⟩,h.held.len,h.held.val⟩⟩
 rcases h.held.own.2 with e | ⟨g,cap,cur,e,h1,h2⟩
 ·exact .inl e
 ·exact .inr ⟨g,cap,cur,e,Nat.le_trans hb h1,h2⟩
theorem aw.push {w:World} {base:Nat} {v:Value} {fs:List Rat} {vs:List Value} (h:aw w base v fs vs) (hl:fs.length<1000000) (g:Nat) (s:Bool) (x y:Int) (p:Option Addr) (c:P4 w g s x y p) (f:Rat) (hf:am w (.agg #[.bool s,.int .u64 x,.int .u64 y,.pointer p]) f) :
  ∃ v' w',(Builtin.append_ #[33,33] 33 #[v,.slice (some ⟨g,0,none⟩) 1 1]).run Tryz.prog w=.ok v' w'∧aw w' base v' (fs++[f]) (vs++[.agg #[.bool s,.int .u64 x,.int .u64 y,.pointer p]])∧∃ b,base≤b∧v.ownBlock=some b∧But [b] w w'∧(∃ s,w.cell? ⟨b,0,none⟩=some (.bool s)):=by
 obtain ⟨v',w',hr,ho,hg⟩:=append_frac w base v fs.length vs h.held.own g s x y p c hl h.size
 obtain ⟨b,cap,e,hb1,-,-,hb2,sb,hsb⟩:=h.form
 have hb:But [b] w w':=⟨hg.os,hg.tape,hg.output,hg.size,fun j hj hn=>hg.block j hj (by rw [hb2];simpa using hn)⟩
 refine ⟨v',w',hr,⟨by simp,Nat.le_trans h.size hb.size,⟨by rw [List.length_append];exact ho,by simp [h.held.len],fun i q hi=>?_⟩⟩,b,hb1,hb2,hb,sb,hsb⟩
 rcases Nat.lt_or_ge i fs.length with hlt | hge
 ·rw [List.getElem?_append_left hlt] at hi
  obtain ⟨s1,x1,y1,p1,e1,hf1⟩:=h.held.val i q hi
  exact ⟨s1,x1,y1,p1,by rw [List.getElem?_append_left (by rw [h.held.len];exact hlt)];exact e1,hf1.over hsb hb⟩
 ·have hi0:i=fs.length:=by
   have:=(List.getElem?_eq_some_iff.1 hi).1
   simp at this
   omega
  subst hi0
  rw [List.getElem?_append_right (Nat.le_refl _),Nat.sub_self] at hi
  simp only [List.getElem?_cons_zero,Option.some.injEq] at hi
  subst hi
  refine ⟨s,x,y,p,?_,hf.over hsb hb⟩
  rw [List.getElem?_append_right (by rw [h.held.len];exact Nat.le_refl _),h.held.len,Nat.sub_self]
  rfl
theorem aw.fracs {w:World} {base:Nat} {v:Value} {fs:List Rat} {vs:List Value} (h:aw w base v fs vs):an w v fs:=h.held.fracs
theorem region_flowS {P:Program} {id:Nat} {ops:Array Oper} {Q:Exit→Act→World→Prop} {base:Act} {W0:World} (hm:P.follows .mixedOrders=true)
  (hlow:∀ i o,ops[i]? = some o→∀ e ∈ o.after,Region.binds .any e=true→e.on<i)
  (hg:∀ (i:Nat) (o:Oper),ops[i]? = some o→o.guard=none)
  (H:(Nat→Bool)→World→Prop) (C:Nat→World→Value→Prop) (T:Nat→Nat) (m:Nat) (hsz:ops.size=m+1)
  (hinj:∀ i j,i<m→j<m→T i=T j→i=j) (hT:∀ i,i<m→T i<base.tmps.size) (h0:H (fun _=>false) W0.drew)
  (hall:∀ d,ShutUp ops d→(∀ o,ops[m]? = some o→∀ e ∈ o.after,Region.binds .any e=true→d e.on=true)→∀ i,i<m→d i=true)
  (hstep:∀ (d:Nat→Bool) (i:Nat) (o:Oper) (a:Act) (w:World) (K:Act→World→Prop),i<m→ops[i]? = some o→d i=false→ShutUp ops d→H d w→(∀ t,(∀ j,j<m→t≠T j)→a.eval (.tmp t)=base.eval (.tmp t))→(∀ e ∈ o.after,Region.binds .any e=true→d e.on=true∧C e.on w (a.eval (.tmp (T e.on))))→(∀ v w',H (came d i) w'→(∀ j,j<m→d j=true→∀ u,C j w u→C j w' u)→C i w' v→K (a.put (some (T i)) v) w')→o.wp P a w K Q)
  (Fin:Act→World→Prop)
  (hlast:∀ (d:Nat→Bool) (o:Oper) (a:Act) (w:World) (K:Act→World→Prop),ops[m]? = some o→(∀ i,i<m→d i=true)→Flow2 base H C T m d a w→(∀ a' w',Fin a' w'→K a' w')→o.wp P a w K Q)
  (hend:∀ a w,Fin a w→Q .normal a w) :
  (Code.region id ops true).wp P Q base W0:=by
 have wpo:∀ i o a w (K:Act→World→Prop),ops[i]? = some o→o.wp P a w K Q→wpOp P ops Q i K a w:=fun i o a w K ho h=>by
  unfold wpOp
  simp only [ho,Region.wanted,hg i o ho,if_true]
  exact .inl h
 refine region_inv hm hlow (fun d a w=>if d m=true then (Fin a w∧∀ i,i<m→d i=true) else (Flow2 base H C T m d a w∧ShutUp ops d)) ?_ ?_ ?_
 ·simp only [Bool.false_eq_true,if_false]
  exact ⟨⟨h0,rfl,rfl,fun _ _=>rfl,fun _ _ h=>by simp at h⟩,fun _ _ _ h=>by simp at h⟩
 ·intro d a w hd h
  rw [if_pos (hd m (by omega))] at h
  exact hend a w h.1
 ·intro d i o a w ho hdi hdep h
  refine wpo i o a w _ ho ?_
  have hi:i<m+1:=by rw [← hsz];exact (Array.getElem?_eq_some_iff.1 ho).1
  by_cases e:i=m
  ·subst e
   rw [if_neg (by rw [hdi];simp)] at h
   have hd:∀ j,j<i→d j=true:=hall d h.2 (fun o' ho'=>by
    rw [ho] at ho'
    obtain rfl:=Option.some.inj ho'
    exact hdep)
   refine hlast d o a w _ ho hd h.1 (fun a' w' hf=>?_)
   rw [if_pos (came_self d i)]
   exact ⟨hf,fun j hj=>by rw [came_ne d (by omega)];exact hd j hj⟩
  ·have him:i<m:=by omega
   by_cases hdm:d m=true
   ·exfalso
    rw [if_pos hdm] at h
    rw [h.2 i him] at hdi
    simp at hdi
   ·rw [if_neg hdm] at h
    refine hstep d i o a w _ him ho hdi h.2 h.1.mem (fun t ht=>h.1.eval t ht) (fun ed he hb=>⟨hdep ed he hb,h.1.has _ (by have:=hlow i o ho ed he hb;omega) (hdep ed he hb)⟩) (fun v w' hH hC hv=>?_)
    rw [if_neg (by rw [came_ne d (Ne.symm e)];exact hdm)]
    refine ⟨h.1.next hinj hT i him v w' hH hC hv,fun j oj hoj hdj ed he hb=>?_⟩
    by_cases ej:j=i
    ·subst ej
     rw [ho] at hoj
     obtain rfl:=Option.some.inj hoj
     have hk:=hdep ed he hb
     rw [came_ne d (fun e2=>by rw [e2,hdi] at hk;simp at hk)]
     exact hk
    ·rw [came_ne d ej] at hdj
     have hk:=h.2 j oj hoj hdj ed he hb
     rw [came_ne d (fun e2=>by rw [e2,hdi] at hk;simp at hk)]
     exact hk
def OneAt (B:Nat) (f:Rat) (w:World) (v:Value):Prop:=∃ g s x y p,v=.slice (some ⟨g,0,none⟩) 1 1∧B≤g∧P4 w g s x y p∧am w (.agg #[.bool s,.int .u64 x,.int .u64 y,.pointer p]) f
theorem OneAt.but {B:Nat} {f:Rat} {w w':World} {v:Value} (h:OneAt B f w v) (hb:But [] w w'):OneAt B f w' v:=by
 obtain ⟨g,s,x,y,p,e,h1,h2,h3⟩:=h
 exact ⟨g,s,x,y,p,e,h1,h2.but hb (by simp),h3.but hb⟩
theorem OneAt.over {B:Nat} {f:Rat} {w w':World} {v:Value} {b:Nat} {sb:Bool} (h:OneAt B f w v) (c0:w.cell? ⟨b,0,none⟩=some (.bool sb)) (hb:But [b] w w') (hl:b<B):OneAt B f w' v:=by
 obtain ⟨g,s,x,y,p,e,h1,h2,h3⟩:=h
 exact ⟨g,s,x,y,p,e,h1,h2.but hb (by simp;omega),h3.over c0 hb⟩
theorem run_bs1Z (a:Act) (w:World) (d t:Nat) (u:TypeId) (ps:String) (ed:Array Edge) (gd:Option (Nat × Bool)) (s:Bool) (x y:Int) (p:Option Addr) (h1:a.eval (.tmp t)=.agg #[.bool s,.int .u64 x,.int .u64 y,.pointer p]) :
  (execOp a.eval { dst:=some d,op:=Op.buildSlice 33 1 #[(0,Operand.tmp t)],type:=u,pos:=ps,after:=ed,guard:=gd }).run Tryz.prog w=.ok (.value (.slice (some ⟨w.heap.size,0,none⟩) 1 1)) (w.alloc (.cells #[.bool s,.int .u64 x,.int .u64 y,.pointer p] 29)):=by
 unfold execOp
 simp only [List.map_toArray,List.map_cons,List.map_nil,h1]
 go_simp
theorem run_ap1Z (a:Act) (w:World) (d t1 t2:Nat) (ps:String) (ed:Array Edge) (gd:Option (Nat × Bool)) (v0 v1 v':Value) (w':World) (h1:a.eval (.tmp t1)=v0) (h2:a.eval (.tmp t2)=v1) (hr:(Builtin.append_ #[33,33] 33 #[v0,v1]).run Tryz.prog w=.ok v' w') :
  (execOp a.eval { dst:=some d,op:=Op.call { callee:=Callee.builtin Builtin.append,args:=#[Operand.tmp t1,Operand.tmp t2],argTypes:=#[33,33] },type:=33,pos:=ps,after:=ed,guard:=gd }).run Tryz.prog w=.ok (.value v') w':=by
 unfold execOp
 simp only [resolve,invoke,builtin,Sem.run_bind,Sem.run_pure,Result.andThen_ok,List.map_toArray,List.map_cons,List.map_nil,h1,h2,hr]
theorem run_stSZ (a:Act) (w:World) (t1 t2:Nat) (u:TypeId) (ps:String) (ed:Array Edge) (b:Nat) (v:Value) (hv:∃ q n c,v=.slice q n c) (u0:Value) (h1:a.eval (.tmp t1)=.pointer (some ⟨b,0,none⟩)) (h2:a.eval (.tmp t2)=v) (hc:w.cell? ⟨b,0,none⟩=some u0) (fz:w.frozen? ⟨b,0,none⟩=false) :
  (execOp a.eval { dst:=none,op:=Op.store 33 (.tmp t1) (.tmp t2),type:=u,pos:=ps,after:=ed,guard:=none }).run Tryz.prog w=.ok .skip (w.setCell ⟨b,0,none⟩ v):=by
 obtain ⟨q,n,c,rfl⟩:=hv
 unfold execOp
 simp only [h1,h2]
 go_simp
end Go.Proofs.YtlckjpelcmjimaaGreatDoor
