/- A row of fractions that is being told.  -/
import Derived.Shelf.Abstract
import Derived.Test.YtffghofheeleeaaGreatDoorKL2qS
namespace Go.Proofs.YtffghofheeleeaaGreatDoor
open Go.Proofs.Tryz
open Go.RowKit
set_option maxHeartbeats 16000000
set_option maxRecDepth 100000
set_option linter.unusedVariables false
structure zhx (w:World) (g n i:Nat) (F:Nat→Rat):Prop where
 blank:∀ j,i≤j→j<n→P4o w g (j*4) false 0 0 none
 told:∀ j,j<i→zfz w g (j*4) (F j)
 loose:∀ o,w.frozen? ⟨g,o,none⟩=false
theorem zhx.made (w:World) (n:Nat) (F:Nat→Rat):zhx (w.alloc (.cells (madeCells #[Value.bool false,.int .u64 0,.int .u64 0,.pointer none] (n*4)) 27)) w.heap.size n 0 F:=by
 have hc:∀ j k,j<n→k<4→(w.alloc (.cells (madeCells #[Value.bool false,.int .u64 0,.int .u64 0,.pointer none] (n*4)) 27)).cell? ⟨w.heap.size,j*4+k,none⟩=(#[Value.bool false,.int .u64 0,.int .u64 0,.pointer none]:Array Value)[k]?:=fun j k hj hk=>by
  rw[World.cell?_alloc_new,qij n _ (by omega),show (j*4+k)%4=k from by omega]
 exact⟨fun j _ hj=>⟨hc j 0 hj (by omega),hc j 1 hj (by omega),hc j 2 hj (by omega),hc j 3 hj (by omega)⟩,fun j hj=>by omega,fun o=>by simp⟩
theorem zhx.but {w w':World} {g n i:Nat} {F:Nat→Rat} (h:zhx w g n i F) (hb:But [] w w') (hg:g<w.heap.size):zhx w' g n i F :=
 ⟨fun j h1 h2=>(h.blank j h1 h2).but hb (by simp),fun j hj=>(h.told j hj).but hb,fun o=>(hb.frozen (p:=⟨g,o,none⟩) hg (by simp)).trans (h.loose o)⟩
theorem zhx.bool {w:World} {g n i:Nat} {F:Nat→Rat} (h:zhx w g n i F) (h0:0<n):∃ s,w.cell? ⟨g,0,none⟩=some (.bool s):=by
 rcases Nat.eq_zero_or_pos i with e | e
 ·subst e
  have a:=h.blank 0 (Nat.le_refl _) h0
  rw[Nat.zero_mul] at a
  exact⟨_,a.1⟩
 ·obtain⟨s,x,y,p,a,-⟩:=h.told 0 e
  rw[Nat.zero_mul] at a
  exact⟨_,a.1⟩
theorem zhx.next {w:World} {g n i:Nat} {F:Nat→Rat} (h:zhx w g n i F) (hi:i<n) (s1:Bool) (x1 y1:Int) (p1:Option Addr) (h1:aq w (.agg #[.bool s1,.int .u64 x1,.int .u64 y1,.pointer p1]) (F i)) :
  zhx (w.setCells g (i*4) [.bool s1,.int .u64 x1,.int .u64 y1,.pointer p1]) g n (i+1) F:=by
 obtain⟨c,hc⟩:=h.bool (by omega)
 have a1:=h.blank i (Nat.le_refl _) hi
 have hb:=br w g [.bool s1,.int .u64 x1,.int .u64 y1,.pointer p1] (i*4)
 have some4:∀ k,k<4→(w.cell? ⟨g,i*4+k,none⟩).isSome=true:=fun k hk=>by
  have:k=0∨k=1∨k=2∨k=3:=by omega
  rcases this with rfl|rfl|rfl|rfl
  ·rw[show i*4+0=i*4 from rfl,a1.1];rfl
  ·rw[a1.2.1];rfl
  ·rw[a1.2.2.1];rfl
  ·rw[a1.2.2.2];rfl
 have hin:∀ k (hk:k<4),(w.setCells g (i*4) [.bool s1,.int .u64 x1,.int .u64 y1,.pointer p1]).cell? ⟨g,i*4+k,none⟩=some ([Value.bool s1,.int .u64 x1,.int .u64 y1,.pointer p1][k]'hk):=fun k hk =>
  World.cell?_setCells_in g [.bool s1,.int .u64 x1,.int .u64 y1,.pointer p1] (i*4) w (fun j hj=>some4 j hj) k hk
 have hout:∀ o,o<i*4∨i*4+4≤o→(w.setCells g (i*4) [.bool s1,.int .u64 x1,.int .u64 y1,.pointer p1]).cell? ⟨g,o,none⟩=w.cell? ⟨g,o,none⟩:=fun o ho=>World.cell?_setCells_out g _ (i*4) w _ (fun _ _=>by simp;omega)
 have keep:∀ o s x y p,o+4≤i*4∨i*4+4≤o→P4o w g o s x y p→P4o (w.setCells g (i*4) [.bool s1,.int .u64 x1,.int .u64 y1,.pointer p1]) g o s x y p:=fun o s x y p ho hp=>⟨(hout o (by omega)).trans hp.1,(hout (o+1) (by omega)).trans hp.2.1,(hout (o+2) (by omega)).trans hp.2.2.1,(hout (o+3) (by omega)).trans hp.2.2.2⟩
 have hfr:∀ {v f},aq w v f→aq (w.setCells g (i*4) [.bool s1,.int .u64 x1,.int .u64 y1,.pointer p1]) v f:=fun hf=>hf.over hc hb
 refine⟨fun j h1 h2=>keep _ _ _ _ _ (by omega) (h.blank j (by omega) h2),fun j hj=>?_,fun o=>by rw[World.frozen?_setCells];exact h.loose o⟩
 by_cases e:j=i
 ·subst e
  exact⟨s1,x1,y1,p1,⟨hin 0 (by omega),hin 1 (by omega),hin 2 (by omega),hin 3 (by omega)⟩,hfr h1⟩
 ·obtain⟨t1,u1,v1,q1,b1,f1⟩:=h.told j (by omega)
  exact⟨t1,u1,v1,q1,keep _ _ _ _ _ (by omega) b1,hfr f1⟩
theorem zhx.zme {w:World} {g n:Nat} {F:Nat→Rat} (h:zhx w g n n F):au w (.slice (some ⟨g,0,none⟩) n n) ((List.range n).map F) :=
 ⟨some ⟨g,0,none⟩,n,by simp,by simp,fun i f hf=>by
  rw[List.getElem?_map] at hf
  by_cases hi:i<n
  ·rw[List.getElem?_range hi] at hf
   simp only[Option.map_some,Option.some.injEq] at hf
   subst hf
   exact⟨g,0,rfl,by rw[Nat.zero_add];exact h.told i hi⟩
  ·rw[List.getElem?_eq_none (by simp;omega)] at hf
   simp at hf⟩
structure je (w:World) (g n:Nat) (F:Nat→Rat):Prop where
 told:∀ j,j<n→zfz w g (j*4) (F j)
 loose:∀ o,w.frozen? ⟨g,o,none⟩=false
theorem je.made (w:World) (n:Nat):je (w.alloc (.cells (madeCells #[Value.bool false,.int .u64 0,.int .u64 0,.pointer none] (n*4)) 27)) w.heap.size n (fun _=>0) :=
 ⟨fun j hj=>⟨false,0,0,none,(zhx.made w n (fun _=>0)).blank j (Nat.zero_le _) hj,jb _⟩,(zhx.made w n (fun _=>0)).loose⟩
theorem je.but {w w':World} {g n:Nat} {F:Nat→Rat} (h:je w g n F) (hb:But [] w w') (hg:g<w.heap.size):je w' g n F :=
 ⟨fun j hj=>(h.told j hj).but hb,fun o=>(hb.frozen (p:=⟨g,o,none⟩) hg (by simp)).trans (h.loose o)⟩
theorem je.bool {w:World} {g n:Nat} {F:Nat→Rat} (h:je w g n F) (h0:0<n):∃ s,w.cell? ⟨g,0,none⟩=some (.bool s):=by
 obtain⟨s,x,y,p,a,-⟩:=h.told 0 h0
 rw[Nat.zero_mul] at a
 exact⟨_,a.1⟩
def qgi (F:Nat→Rat) (t:Nat) (v:Rat):Nat→Rat:=fun j=>if j=t then v else F j
theorem je.set {w:World} {g n i:Nat} {F:Nat→Rat} (h:je w g n F) (hi:i<n) (s1:Bool) (x1 y1:Int) (p1:Option Addr) (v:Rat) (h1:aq w (.agg #[.bool s1,.int .u64 x1,.int .u64 y1,.pointer p1]) v) :
  je (w.setCells g (i*4) [.bool s1,.int .u64 x1,.int .u64 y1,.pointer p1]) g n (qgi F i v):=by
 obtain⟨c,hc⟩:=h.bool (by omega)
 obtain⟨s0,x0,y0,p0,a1,-⟩:=h.told i hi
 have hb:=br w g [.bool s1,.int .u64 x1,.int .u64 y1,.pointer p1] (i*4)
 have some4:∀ k,k<4→(w.cell? ⟨g,i*4+k,none⟩).isSome=true:=fun k hk=>by
  have:k=0∨k=1∨k=2∨k=3:=by omega
  rcases this with rfl|rfl|rfl|rfl
  ·rw[show i*4+0=i*4 from rfl,a1.1];rfl
  ·rw[a1.2.1];rfl
  ·rw[a1.2.2.1];rfl
  ·rw[a1.2.2.2];rfl
 have hin:∀ k (hk:k<4),(w.setCells g (i*4) [.bool s1,.int .u64 x1,.int .u64 y1,.pointer p1]).cell? ⟨g,i*4+k,none⟩=some ([Value.bool s1,.int .u64 x1,.int .u64 y1,.pointer p1][k]'hk):=fun k hk =>
  World.cell?_setCells_in g [.bool s1,.int .u64 x1,.int .u64 y1,.pointer p1] (i*4) w (fun j hj=>some4 j hj) k hk
 have hout:∀ o,o<i*4∨i*4+4≤o→(w.setCells g (i*4) [.bool s1,.int .u64 x1,.int .u64 y1,.pointer p1]).cell? ⟨g,o,none⟩=w.cell? ⟨g,o,none⟩:=fun o ho=>World.cell?_setCells_out g _ (i*4) w _ (fun _ _=>by simp;omega)
 have keep:∀ o s x y p,o+4≤i*4∨i*4+4≤o→P4o w g o s x y p→P4o (w.setCells g (i*4) [.bool s1,.int .u64 x1,.int .u64 y1,.pointer p1]) g o s x y p:=fun o s x y p ho hp=>⟨(hout o (by omega)).trans hp.1,(hout (o+1) (by omega)).trans hp.2.1,(hout (o+2) (by omega)).trans hp.2.2.1,(hout (o+3) (by omega)).trans hp.2.2.2⟩
 have hfr:∀ {v f},aq w v f→aq (w.setCells g (i*4) [.bool s1,.int .u64 x1,.int .u64 y1,.pointer p1]) v f:=fun hf=>hf.over hc hb
 refine⟨fun j hj=>?_,fun o=>by rw[World.frozen?_setCells];exact h.loose o⟩
 unfold qgi
 by_cases e:j=i
 ·subst e
  rw[if_pos rfl]
  exact⟨s1,x1,y1,p1,⟨hin 0 (by omega),hin 1 (by omega),hin 2 (by omega),hin 3 (by omega)⟩,hfr h1⟩
 ·rw[if_neg e]
  obtain⟨t1,u1,v1,q1,b1,f1⟩:=h.told j hj
  exact⟨t1,u1,v1,q1,keep _ _ _ _ _ (by omega) b1,hfr f1⟩
theorem je.zme {w:World} {g n:Nat} {F:Nat→Rat} (h:je w g n F):au w (.slice (some ⟨g,0,none⟩) n n) ((List.range n).map F) :=
 zhx.zme ⟨fun j h1 h2=>by omega,h.told,h.loose⟩
theorem je.congr {w:World} {g n:Nat} {F G:Nat→Rat} (h:je w g n F) (e:∀ j,j<n→F j=G j):je w g n G :=
 ⟨fun j hj=>by rw[← e j hj];exact h.told j hj,h.loose⟩
def spR (f:Nat→Rat) (n:Nat):Rat:=(sgR (fun j=>f j*f j) n-sgR f n/(((n:Nat):Int):Rat)*sgR f n)/(((n-1:Nat):Int):Rat)
theorem zed (F:Nat→Rat) (n k:Nat) (hk:k<n):atR ((List.range n).map F) k=F k:=by
 unfold atR
 rw[List.getElem?_map,List.getElem?_range hk];rfl
theorem zqf (b off cap n:Nat) (fs:List Rat) (w:World) (hv:au w (.slice (some ⟨b,off,none⟩) n cap) fs) (hn0:2≤n) (hn:n≤100) (lf:∀ k,k<n→Len (atR fs k) 100000) (ls:∀ k,k≤n→Len (sgR (atR fs) k) 100000) (lq:∀ k,k≤n→Len (sgR (fun j=>atR fs j*atR fs j) k) 200000) :
  Calls prog 62 #[.slice (some ⟨b,off,none⟩) n cap] w fun e w'=>∃ v,e=.returned v∧aq w' v (spR (atR fs) n)∧But [] w w':=by
 have SQ:=af (fun W k v (hk:k<n) (h:aq W v (fs[k]?.getD 0))=>qny (zax v (fs[k]?.getD 0) W h ((lf k hk).mono (by omega))))
 have TO:=af (fun W (h:But [] w W)=>zmq b off cap n fs W (hv.but h) (by omega) (fun k hk=>(lf k hk).mono (by omega)) (fun k hk=>(ls k hk).mono (by omega)))
 have ME:=af (fun W (h:But [] w W)=>zfc b off cap n fs W (hv.but h) (by omega) (by omega) (fun k hk=>(lf k hk).mono (by omega)) (fun k hk=>(ls k hk).mono (by omega)))
 have hsq:∀ k,k≤n→sgR (atR ((List.range n).map (fun j=>atR fs j*atR fs j))) k=sgR (fun j=>atR fs j*atR fs j) k:=fun k hk=>yo _ _ k (fun j hj=>zed _ n j (by omega))
 have TQ:Hid (∀ W g,je W g n (fun j=>atR fs j*atR fs j)→Calls prog 127 #[.slice (some ⟨g,0,none⟩) n n] W fun e w'=>∃ v,e=.returned v∧aq w' v (sgR (fun j=>atR fs j*atR fs j) n)∧But [] W w'):=fun W g h=>by
  have:=zmq g 0 n n ((List.range n).map (fun j=>atR fs j*atR fs j)) W h.zme (by omega) (fun k hk=>by
   rw[zed _ n k hk]
   exact jd (lf k hk) (lf k hk) 400000 (by omega)) (fun k hk=>by
   rw[hsq k hk]
   exact (lq k hk).mono (by omega))
  rw[hsq n (Nat.le_refl _)] at this
  exact this
 have lS:=ls n (Nat.le_refl _)
 have lM:Len (sgR (atR fs) n/(((n:Nat):Int):Rat)) 100001:=ru lS (kr (n:Int) (by omega)) (by rw[(bp (n:Int)).1];omega) 100001 (by omega)
 have lQ:=lq n (Nat.le_refl _)
 have lP:=jd lM lS 200001 (by omega)
 have lD:=fe lQ lP 400002 (by omega)
 have MU:Hid (∀ W va vb,aq W va (sgR (atR fs) n/(((n:Nat):Int):Rat))→aq W vb (sgR (atR fs) n)→Calls prog 56 #[va,vb] W fun e w'=>∃ v,e=.returned v∧aq w' v (sgR (atR fs) n/(((n:Nat):Int):Rat)*sgR (atR fs) n)∧But [] W w'):=fun W va vb h1 h2=>dh va vb _ _ W h1 h2 (lM.mono (by omega)) (lS.mono (by omega))
 have SU:Hid (∀ W va vb,aq W va (sgR (fun j=>atR fs j*atR fs j) n)→aq W vb (sgR (atR fs) n/(((n:Nat):Int):Rat)*sgR (atR fs) n)→Calls prog 31 #[va,vb] W fun e w'=>∃ v,e=.returned v∧aq w' v (sgR (fun j=>atR fs j*atR fs j) n-sgR (atR fs) n/(((n:Nat):Int):Rat)*sgR (atR fs) n)∧But [] W w'):=fun W va vb h1 h2=>zbh va vb _ _ W h1 h2 (lQ.mono (by omega)) (lP.mono (by omega))
 have QU:Hid (∀ W v,aq W v (sgR (fun j=>atR fs j*atR fs j) n-sgR (atR fs) n/(((n:Nat):Int):Rat)*sgR (atR fs) n)→Calls prog 63 #[v,.int .i64 ((n-1:Nat):Int)] W fun e w'=>∃ v',e=.returned v'∧aq w' v' (spR (atR fs) n)∧But [] W w'):=fun W v h=>zac v _ ((n-1:Nat):Int) W h (lD.mono (by omega)) (by omega) (by omega)
 generalize hS:sgR (atR fs) n=S at *
 generalize hM:S/(((n:Nat):Int):Rat)=M at *
 generalize hQ:sgR (fun j=>atR fs j*atR fs j) n=Q at *
 generalize hPP:M*S=PP at *
 generalize hDD:Q-PP=DD at *
 generalize spR (atR fs) n=R at *
 have HV:=af hv
 have hmk:=fun wx=>zmt wx n (by omega)
 clear hv lf ls lq hsq lS lM lQ lP lD hS hM hQ hPP hDD
 obtain⟨A,hA⟩:∃ A,A=w.alloc (.cells #[.bool false,.int .u64 0,.int .u64 0,.pointer none] 27):=⟨_,rfl⟩
 obtain⟨W,hW⟩:∃ W,W=A.alloc (.cells (madeCells #[.bool false,.int .u64 0,.int .u64 0,.pointer none] (n*4)) 27):=⟨_,rfl⟩
 have sA:A.heap.size=w.heap.size+1:=by rw[hA];simp
 have bA:But [] w A:=by rw[hA];exact (But.refl _ _).alloc _
 have bW:But [] A W:=by rw[hW];exact (But.refl _ _).alloc _
 have x2:bh W w.heap.size 0:=by
  have h:=bh.new w false 0 0 none 0 27 (jb _)
  rw[← hA] at h
  exact h.but bW
 have rW:zhx W (w.heap.size+1) n 0 (fun j=>atR fs j*atR fs j):=by rw[hW,← sA];exact zhx.made A n _
 have lW:w.heap.size+1<W.heap.size:=by rw[hW,← sA];simp
 have X2:=af x2
 have RW:=af rW
 have BW:=af (bA.trans' bW)
 clear x2 rW bA bW
 go_enter func62,ntmps62
 go_wp2
 rw[← hA,← hW]
 clear hA hW sA hmk
 generalize hg3:w.heap.size+1=G at *
 generalize hg2:w.heap.size=g2 at *
 go_loopw [10] (fun iv wr=>∃ k:Nat,k≤n∧iv=.int .i64 (k:Int)∧Hid (zhx wr G n k (fun j=>atR fs j*atR fs j)∧bh wr g2 0∧G<wr.heap.size∧But [] w wr)) (fun iv _=>n-(intOf iv).toNat)
 case atStart=>exact⟨0,Nat.zero_le _,rfl,ae RW,ae X2,lW,ae BW⟩
 case round =>
  obtain⟨k,hk,rfl,HI⟩:=hrel
  rename World=>wr
  clear RW X2 BW lW
  by_cases hlt:k<n
  ·obtain⟨hrow,h2,hG2,hb⟩:=ae HI
   obtain⟨sr,xr,yr,pr,⟨r0,r1,r2,r3⟩,hfr⟩:=((ae HV).but hb).get k hlt
   have SK:=af (ae SQ wr k _ hlt hfr)
   clear hfr hrow h2 hb
   go_wp2_with fail
   refine (ae SK).mono ?_
   rintro e w3 ⟨s3,x3,y3,p3,rfl,hv3,hb3⟩
   have HV3:Hid (aq w3 (.agg #[.bool s3,.int .u64 x3,.int .u64 y3,.pointer p3]) (atR fs k*atR fs k)):=hv3
   have B3:=af hb3
   have hrow3:=(ae HI).1.but hb3 hG2
   have R3:=af hrow3
   have pf:=hrow3.loose
   obtain⟨k0,k1,k2,k3⟩:=hrow3.blank k (Nat.le_refl _) hlt
   clear hv3 hb3 SK r0 r1 r2 r3 hrow3
   go_wp2
   have hS:=br w3 G [.bool s3,.int .u64 x3,.int .u64 y3,.pointer p3] (k*4)
   obtain⟨cb,hcb⟩:=(ae R3).bool (by omega)
   refine⟨⟨k+1,by omega,by go_num,(ae R3).next hlt s3 x3 y3 p3 (ae HV3),((ae HI).2.1.but (ae B3)).beside hS (by simp;omega) (fun g hg=>by simp at hg;subst hg;exact⟨_,hcb⟩),Nat.lt_of_lt_of_le (Nat.lt_of_lt_of_le hG2 (ae B3).size) hS.size,((ae HI).2.2.2.trans' (ae B3)).trans hS (fun x hx=>by simp at hx;subst hx;exact .inr (by omega))⟩,by simp[intOf];omega⟩
  ·obtain rfl:k=n:=by omega
   obtain⟨hrow,h2,hG2,hbw⟩:=ae HI
   have R1:Hid (je wr G k (fun j=>atR fs j*atR fs j)):=⟨hrow.told,hrow.loose⟩
   have TQ1:=af (ae TQ wr G (ae R1))
   have X1:=af h2
   have B1:=af hbw
   clear hrow h2 hbw HI TQ SQ hG2
   go_wp2_with fail
   refine (ae TQ1).mono ?_
   rintro e w2 ⟨v2,rfl,hf2,hb2⟩
   have B2:=af ((ae B1).trans' hb2)
   have X2:=af ((ae X1).but hb2)
   obtain⟨x2,y2,p2,rfl,-⟩:=id hf2.agg
   generalize decide (Q.num<0)=s2 at *
   have F2:=af hf2
   clear hb2 hf2 B1 X1 TQ1 R1
   go_wp2_with fail
   refine (ae ME _ (ae B2)).mono ?_
   rintro e w3 ⟨v3,rfl,hf3,hb3⟩
   have B3:=af ((ae B2).trans' hb3)
   have X3:=af ((ae X2).but hb3)
   have F23:=af ((ae F2).but hb3)
   obtain⟨x3,y3,p3,rfl,-⟩:=id hf3.agg
   generalize decide (M.num<0)=s3 at *
   have F3:=af hf3
   clear hb3 hf3 B2 X2 F2 ME
   go_wp2_with fail
   refine (ae TO _ (ae B3)).mono ?_
   rintro e w4 ⟨v4,rfl,hf4,hb4⟩
   have B4:=af ((ae B3).trans' hb4)
   have X4:=af ((ae X3).but hb4)
   have F24:=af ((ae F23).but hb4)
   have F34:=af ((ae F3).but hb4)
   obtain⟨x4,y4,p4,rfl,-⟩:=id hf4.agg
   generalize decide (S.num<0)=s4 at *
   have MU4:=af (ae MU _ _ _ (ae F34) hf4)
   clear hb4 hf4 B3 X3 F23 F3 TO MU
   go_wp2_with fail
   refine (ae MU4).mono ?_
   rintro e w5 ⟨v5,rfl,hf5,hb5⟩
   have B5:=af ((ae B4).trans' hb5)
   have X5:=af ((ae X4).but hb5)
   have F25:=af ((ae F24).but hb5)
   obtain⟨x5,y5,p5,rfl,-⟩:=id hf5.agg
   generalize decide (PP.num<0)=s5 at *
   have SU5:=af (ae SU _ _ _ (ae F25) hf5)
   clear hb5 hf5 B4 X4 F24 F34 MU4 SU
   go_wp2_with fail
   refine (ae SU5).mono ?_
   rintro e w6 ⟨v6,rfl,hf6,hb6⟩
   have B6:=af ((ae B5).trans' hb6)
   have X6:=af ((ae X5).but hb6)
   obtain⟨x6,y6,p6,rfl,-⟩:=id hf6.agg
   generalize decide (DD.num<0)=s6 at *
   have QU6:=af (ae QU _ _ hf6)
   clear hb6 hf6 B5 X5 F25 SU5 QU
   go_wp2_with fail
   rw[show (k:Int)-1=((k-1:Nat):Int) from by omega]
   refine (ae QU6).mono ?_
   rintro e w7 ⟨v7,rfl,hf7,hb7⟩
   have B7:=af ((ae B6).trans' hb7)
   have X7:=af ((ae X6).but hb7)
   obtain⟨x7,y7,p7,rfl,-⟩:=id hf7.agg
   generalize decide (R.num<0)=s7 at *
   have F7:=af hf7
   clear hb7 hf7 B6 X6 QU6
   obtain⟨⟨t3,a3,b3,q3,⟨c0,c1,c2,c3⟩,-⟩,z3⟩:=ae X7
   have P2:Hid (P4 w7 g2 t3 a3 b3 q3):=⟨c0,c1,c2,c3⟩
   go_wp2
   have hP:=ay w7 g2 s7 x7 y7 p7
   obtain⟨m0,m1,m2,m3⟩:=jl w7 g2 s7 x7 y7 p7 (ae P2)
   have hF:But [] w (zy w7 g2 s7 x7 y7 p7):=(ae B7).trans hP (fun x hx=>by simp at hx;subst hx;exact .inr (by omega))
   have hff:=(ae F7).over ((ae P2)).1 hP
   change bodyPost _ _ _ _ _ (zy w7 g2 s7 x7 y7 p7)
   generalize zy w7 g2 s7 x7 y7 p7=F at *
   exact bodyPost_ret (v:=.agg #[.bool s7,.int .u64 x7,.int .u64 y7,.pointer p7]) (by simp[results,results62,go_sem,m0,m1,m2,m3]) rfl ⟨_,rfl,hff,hF⟩
theorem zwc (b off cap n:Nat) (fs:List Rat) (va vo:Value) (al ow:Rat) (w:World) (hv:au w (.slice (some ⟨b,off,none⟩) n cap) fs) (ha:aq w va al) (ho:aq w vo ow) (hn0:0<n) (hn:n≤100) (lf:∀ k,k<n→Len (atR fs k) 50000) (la:Len al 50000) (lo:Len ow 200000) :
  Calls prog 65 #[.slice (some ⟨b,off,none⟩) n cap,va,vo] w fun e w'=>∃ g,e=.returned (.slice (some ⟨g,0,none⟩) n n)∧je w' g n (fun j=>al+ow*(atR fs j-al))∧w.heap.size≤g∧g<w'.heap.size∧But [] w w':=by
 have HV:=af hv
 have HA:=af ha
 have HO:=af ho
 have LF:=af lf
 have hmk:=fun wx=>zmt wx n (by omega)
 obtain⟨x1,y1,p1,rfl,-⟩:=id ha.agg
 generalize decide (al.num<0)=s1 at *
 obtain⟨x2,y2,p2,rfl,-⟩:=id ho.agg
 generalize decide (ow.num<0)=s2 at *
 clear hv ha ho lf
 obtain⟨A0,hA0⟩:∃ A0,A0=w.alloc (.cells #[.bool s1,.int .u64 x1,.int .u64 y1,.pointer p1] 27):=⟨_,rfl⟩
 obtain⟨A1,hA1⟩:∃ A1,A1=A0.alloc (.cells #[.bool s2,.int .u64 x2,.int .u64 y2,.pointer p2] 27):=⟨_,rfl⟩
 obtain⟨W,hW⟩:∃ W,W=A1.alloc (.cells (madeCells #[.bool false,.int .u64 0,.int .u64 0,.pointer none] (n*4)) 27):=⟨_,rfl⟩
 have sA0:A0.heap.size=w.heap.size+1:=by rw[hA0];simp
 have sA1:A1.heap.size=w.heap.size+1+1:=by rw[hA1,← sA0];simp
 have bA0:But [] w A0:=by rw[hA0];exact (But.refl _ _).alloc _
 have bA1:But [] A0 A1:=by rw[hA1];exact (But.refl _ _).alloc _
 have bW:But [] A1 W:=by rw[hW];exact (But.refl _ _).alloc _
 have x4:bh W w.heap.size al:=by
  have h:=bh.new w s1 x1 y1 p1 al 27 (ae HA)
  rw[← hA0] at h
  exact (h.but bA1).but bW
 have x5:bh W (w.heap.size+1) ow:=by
  have h:bh A1 (w.heap.size+1) ow:=by
   rw[hA1,← sA0]
   exact bh.new A0 s2 x2 y2 p2 ow 27 ((ae HO).but bA0)
  exact h.but bW
 have rW:je W (w.heap.size+1+1) n (fun _=>0):=by rw[hW,← sA1];exact je.made A1 n
 have lW:w.heap.size+1+1<W.heap.size:=by rw[hW,← sA1];simp
 have X4:=af x4
 have X5:=af x5
 have RW:=af rW
 have BW:=af ((bA0.trans' bA1).trans' bW)
 clear x4 x5 rW bA0 bA1 bW
 go_enter func65,ntmps65
 go_wp2
 rw[← hA0,← hA1,← hW]
 clear hA0 hA1 hW sA0 sA1 hmk HA HO
 generalize hgG:w.heap.size+1+1=G at *
 generalize hg5:w.heap.size+1=g5 at *
 generalize hg4:w.heap.size=g4 at *
 go_loopw [15] (fun iv wr=>∃ k:Nat,k≤n∧iv=.int .i64 (k:Int)∧Hid ((∃ F,je wr G n F∧∀ j,j<k→F j=al+ow*(atR fs j-al))∧bh wr g4 al∧bh wr g5 ow∧G<wr.heap.size∧But [] w wr)) (fun iv _=>n-(intOf iv).toNat)
 case atStart=>exact⟨0,Nat.zero_le _,rfl,⟨_,ae RW,fun j hj=>absurd hj (by omega)⟩,ae X4,ae X5,lW,ae BW⟩
 case round =>
  obtain⟨k,hk,rfl,HI⟩:=hrel
  rename World=>wr
  clear RW X4 X5 BW lW
  by_cases hlt:k<n
  ·obtain⟨sr,xr,yr,pr,⟨r0,r1,r2,r3⟩,hfr⟩:=((ae HV).but (ae HI).2.2.2.2).get k hlt
   have HFR:=af hfr
   clear hfr
   go_wp2
   have bA:But [] wr (wr.alloc (.cells #[.bool sr,.int .u64 xr,.int .u64 yr,.pointer pr] 27)):=(But.refl _ _).alloc _
   have x7:=bh.new wr sr xr yr pr _ 27 (ae HFR)
   obtain⟨⟨F,hF,hT⟩,h4,h5,hG,hbw⟩:=ae HI
   have DF:=af (hF.but bA hG)
   have DT:=af hT
   have D4:=af (h4.but bA)
   have D5:=af (h5.but bA)
   have DB:=af (hbw.trans' bA)
   have DG:G<(wr.alloc (.cells #[.bool sr,.int .u64 xr,.int .u64 yr,.pointer pr] 27)).heap.size:=Nat.lt_of_lt_of_le hG bA.size
   have X7:=af x7
   clear bA x7 HFR r0 r1 r2 r3 HI hF hT h4 h5 hG hbw
   generalize wr.heap.size=g9 at *
   generalize wr.alloc (.cells #[.bool sr,.int .u64 xr,.int .u64 yr,.pointer pr] 27)=U at *
   obtain⟨⟨t1,a1,b1,q1,c1,f1⟩,-⟩:=ae D4
   obtain⟨⟨t2,a2,b2,q2,c2,f2⟩,-⟩:=ae D5
   obtain⟨⟨t3,a3,b3,q3,c3,f3⟩,-⟩:=ae X7
   obtain⟨tb,ab,bb,qb,cb,-⟩:=(ae DF).told k hlt
   have l3:Len (fs[k]?.getD 0) 50000:=ae LF k hlt
   have ls:=fe l3 la 100001 (by omega)
   have lp:=jd lo ls 300001 (by omega)
   refine zpb 5 _ _ U G (k*4) n k t1 a1 b1 q1 t2 a2 b2 q2 t3 a3 b3 q3 al ow _ g4 g5 g9 (by simp) cb (fun o=>(ae DF).loose o) (by simp[Act.eval]) (by simp[Act.eval]) (by simp[Act.eval]) (by simp[Act.eval]) (by simp[Act.eval]) (by omega) hlt (by omega) c1 c2 c3 (fun w' hb=>zbh _ _ _ _ w' (f3.but hb) (f1.but hb) (l3.mono (by omega)) (la.mono (by omega))) (fun w' hb v hv=>dh _ _ _ _ w' (f2.but hb) hv (lo.mono (by omega)) (ls.mono (by omega))) (fun w' hb v hv=>zaa _ _ _ _ w' (f1.but hb) hv (la.mono (by omega)) (lp.mono (by omega))) ?_
   intro w5 v6 v7 s' x' y' p' hb5 hf5
   simp only[bk,List.foldl_cons,List.foldl_nil,Act.put,List.setIfInBounds_toArray,List.set_cons_zero,List.set_cons_succ]
   have hS:=br w5 G [.bool s',.int .u64 x',.int .u64 y',.pointer p'] (k*4)
   have r5:=(ae DF).but hb5 DG
   have hbo:=r5.bool (show 0<n by omega)
   have JJ:Hid ((∃ F,je (w5.setCells G (k*4) [.bool s',.int .u64 x',.int .u64 y',.pointer p']) G n F∧∀ j,j<k+1→F j=al+ow*(atR fs j-al))∧bh (w5.setCells G (k*4) [.bool s',.int .u64 x',.int .u64 y',.pointer p']) g4 al∧bh (w5.setCells G (k*4) [.bool s',.int .u64 x',.int .u64 y',.pointer p']) g5 ow∧G<(w5.setCells G (k*4) [.bool s',.int .u64 x',.int .u64 y',.pointer p']).heap.size∧But [] w (w5.setCells G (k*4) [.bool s',.int .u64 x',.int .u64 y',.pointer p'])) :=
    ⟨⟨_,r5.set hlt s' x' y' p' _ hf5,fun j hj=>by
     unfold qgi
     by_cases e:j=k
     ·rw[if_pos e,e];rfl
     ·rw[if_neg e];exact ae DT j (by omega)⟩,((ae D4).but hb5).beside hS (by simp;omega) (fun g hg=>by simp at hg;subst hg;exact hbo),((ae D5).but hb5).beside hS (by simp;omega) (fun g hg=>by simp at hg;subst hg;exact hbo),Nat.lt_of_lt_of_le (Nat.lt_of_lt_of_le DG hb5.size) hS.size,((ae DB).trans' hb5).trans hS (fun x hx=>by simp at hx;subst hx;exact .inr (by omega))⟩
   generalize w5.setCells G (k*4) [.bool s',.int .u64 x',.int .u64 y',.pointer p']=V5 at *
   clear hS r5 hbo hb5 hf5 DF DT D4 D5 DB X7 c1 c2 c3 f1 f2 f3 cb l3 ls lp
   go_wp2
   exact⟨⟨k+1,by omega,by go_num,ae JJ⟩,by simp[intOf];omega⟩
  ·obtain rfl:k=n:=by omega
   obtain⟨⟨F,hF,hT⟩,-,-,hG,hbw⟩:=ae HI
   have JJ:Hid (je wr G k (fun j=>al+ow*(atR fs j-al))):=hF.congr (fun j hj=>hT j hj)
   have JB:=af hbw
   clear hF hT hbw HI
   go_wp2
   go_ret
   exact⟨G,rfl,ae JJ,by omega,hG,ae JB⟩
structure xg (w:World) (g:Nat) (vs:List Value):Prop where
 cells:∀ k v,vs[k]? = some v→w.cell? ⟨g,k,none⟩=some v
 loose:∀ j,w.frozen? ⟨g,j,none⟩=false
theorem xg.new (w:World) (vs:List Value) (t:TypeId):xg (w.alloc (.cells vs.toArray t)) w.heap.size vs :=
 ⟨fun k v h=>by rw[World.cell?_alloc_new];simpa using h,fun j=>by simp⟩
theorem xg.but {w w':World} {g:Nat} {vs:List Value} {l:List Nat} (h:xg w g vs) (hb:But l w w') (hn:g ∉ l) (h0:0<vs.length):xg w' g vs:=by
 have hl:g<w.heap.size:=by
  have:=h.cells 0 vs[0] (List.getElem?_eq_getElem h0)
  exact ai this
 exact⟨fun k v hv=>hb.ag (h.cells k v hv) hn,fun j=>(hb.frozen (p:=⟨g,j,none⟩) hl hn).trans (h.loose j)⟩
theorem xg.lt {w:World} {g:Nat} {vs:List Value} (h:xg w g vs) (h0:0<vs.length):g<w.heap.size:=ai (h.cells 0 vs[0] (List.getElem?_eq_getElem h0))
theorem xg.some {w:World} {g:Nat} {vs:List Value} (h:xg w g vs) (k:Nat) (hk:k<vs.length):∃ v,w.cell? ⟨g,k,none⟩=some v:=⟨_,h.cells k vs[k] (List.getElem?_eq_getElem hk)⟩
theorem xg.put {w:World} {g:Nat} {vs us:List Value} (h:xg w g vs) (hl:us.length=vs.length):xg (w.setCells g 0 us) g us:=by
 refine⟨fun k v hv=>?_,fun j=>by rw[World.frozen?_setCells];exact h.loose j⟩
 have hk:k<us.length:=(List.getElem?_eq_some_iff.1 hv).1
 have e:=World.cell?_setCells_in g us 0 w (fun j hj=>by
  obtain⟨v,hc⟩:=h.some j (by omega)
  rw[Nat.zero_add,hc];rfl) k hk
 rw[Nat.zero_add] at e
 rw[e,← (List.getElem?_eq_some_iff.1 hv).2]
def zxr (B n:Nat) (F:Nat→Rat) (w:World) (v:Value):Prop:=∃ g,v=.slice (some ⟨g,0,none⟩) n n∧je w g n F∧B≤g∧g<w.heap.size
theorem zxr.but {B n:Nat} {F:Nat→Rat} {w w':World} {v:Value} (h:zxr B n F w v) (hb:But [] w w'):zxr B n F w' v:=by
 obtain⟨g,e,h1,h2,h3⟩:=h
 exact⟨g,e,h1.but hb h3,h2,Nat.lt_of_lt_of_le h3 hb.size⟩
def zdv (B:Nat) (w:World) (v:Value):Prop:=∃ b,v=.pointer (some ⟨b,0,none⟩)∧B≤b∧P4 w b false 0 0 none∧∀ j,w.frozen? ⟨b,j,none⟩=false
theorem zdv.but {B:Nat} {w w':World} {v:Value} (h:zdv B w v) (hb:But [] w w'):zdv B w' v:=by
 obtain⟨b,h1,h2,h3,h4⟩:=h
 have hl:b<w.heap.size:=ai h3.1
 exact⟨b,h1,h2,h3.but hb (by simp),fun j=>(hb.frozen (p:=⟨b,j,none⟩) hl (by simp)).trans (h4 j)⟩
def zmf (q:Int):Value:=if q=0 then .nilIface else .iface 33 (.int .i64 q)
theorem zpo {b d:Rat} {m n:Nat} (lb:Len b m) (ld:Len d n) (hne:b.num≠0→(b+d).num≠0) (k:Nat) (hk:2*m+n+1≤k):Len (zaz b d) k:=by
 unfold zaz
 by_cases h:b.num=0
 ·rw[if_pos h];exact zbw _ (by omega)
 ·rw[if_neg h]
  exact ru lb (mi lb ld (m+n+1) (by omega)) (hne h) k (by omega)
end Go.Proofs.YtffghofheeleeaaGreatDoor
