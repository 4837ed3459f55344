/- The next factor of a power from those be -/
import Derived.Test.YtlckjpelcmjimaaGreatDoorKPKI
import Derived.Test.YtlckjpelcmjimaaGreatDoorKPZD
namespace Go.Proofs.YtlckjpelcmjimaaGreatDoor
open Go.RowKit
set_option maxHeartbeats 16000000
set_option maxRecDepth 100000
def nxF (bs os:List Rat) (ab:Int) (n k:Nat):Rat:=bs[k]?.getD 0*((((k:Int)*ab-(n:Int)):Int):Rat)*os[n-k]?.getD 0
theorem len_nxF (bs os:List Rat) (ab:Int) (n k c e:Nat) (hb:∀ f ∈ bs,Len f c) (ho:∀ f ∈ os,Len f e) (hk:k<bs.length) (hn:n-k<os.length) (ha:-9000000000000000000≤(k:Int)*ab-(n:Int)∧(k:Int)*ab-(n:Int)≤9000000000000000000):Len (nxF bs os ab n k) (c+1+e):=by
 unfold nxF
 rw [List.getElem?_eq_getElem hk,List.getElem?_eq_getElem hn]
 exact len_mul (len_mul (hb _ (List.getElem_mem hk)) (len_int _ (by omega)) (c+1) (by omega)) (ho _ (List.getElem_mem hn)) _ (by omega)
theorem len_dS (F:Nat→Rat) (K c:Nat) (hF:∀ k,1≤k→k≤K→Len (F k) c):∀ t,t≤K→Len (dS F K t) (t*(c+2)+1)
 | 0,_=>len_zero _ (by omega)
 | t+1,h=>by
  have ih:=len_dS F K c hF t (by omega)
  have l1:Len (((1:Int):Rat)) 1:=len_int 1 (by decide)
  refine len_add (len_mul ih l1 (t*(c+2)+2) (by omega)) (hF (K-t) (by omega) (by omega)) _ ?_
  rw [Nat.succ_mul]
  omega
def TBox (w:World) (g:Nat) (t:TypeId):Prop:=∃ cur fz,w.heap[g]? = some (.cells cur t fz)
theorem TBox.new (w:World) (vs:Array Value) (t:TypeId):TBox (w.alloc (.cells vs t)) w.heap.size t:=⟨vs,(0,0),by show (w.heap.push (.cells vs t))[w.heap.size]? = _;rw [Array.getElem?_push_size]⟩
theorem TBox.but {w w':World} {g:Nat} {t:TypeId} {l:List Nat} (h:TBox w g t) (hb:But l w w') (hn:g ∉ l):TBox w' g t:=by
 obtain ⟨cur,fz,e⟩:=h
 exact ⟨cur,fz,(hb.block g (Array.getElem?_eq_some_iff.1 e).1 hn).trans e⟩
theorem TBox.set {w:World} {g:Nat} {t:TypeId} (h:TBox w g t) (v:Value):TBox (w.setCell ⟨g,0,none⟩ v) g t:=by
 obtain ⟨cur,fz,e⟩:=h
 refine ⟨cur.setIfInBounds 0 v,fz,?_⟩
 have hg:=(Array.getElem?_eq_some_iff.1 e).1
 show (w.heap.modify g _)[g]? = _
 rw [Array.getElem?_modify,if_pos rfl,e]
 rfl
theorem TBox.apart {w:World} {g:Nat} {t:TypeId} (h:TBox w g t) {base:Nat} {v:Value} {fs:List Rat} {vs:List Value} (hg:aw w base v fs vs) (hne:t≠29):v.ownBlock≠some g:=by
 obtain ⟨cur,fz,e⟩:=h
 intro ev
 rcases hg.held.own.2 with ⟨rfl,-⟩ | ⟨b,cap,cur',rfl,-,e',-⟩
 ·simp [Value.ownBlock] at ev
 ·simp only [Value.ownBlock,Option.some.injEq] at ev
  subst ev
  rw [e] at e'
  simp only [Option.some.injEq,Obj.cells.injEq] at e'
  exact hne e'.2.1
theorem SBox.head {w:World} {g:Nat} {v0:Value} {vs:List Value} (h:SBox w g (v0::vs)) (v1:Value):SBox (w.setCell ⟨g,0,none⟩ v1) g (v1::vs):=by
 have h0:=h.cells 0 v0 rfl
 refine ⟨fun k v hv=>?_,fun j=>by simp;exact h.loose j⟩
 cases k with
 | zero =>
  obtain rfl:=Option.some.inj (show Option.some v1=Option.some v from hv)
  simp [go_sem,h0]
 | succ k =>
  have hk:=h.cells (k+1) v hv
  simp [go_sem,hk]
theorem next_any (g0 gq cap n base b off nn cc m:Nat) (t1:Bool) (t2 t3:Int) (t4:Option Addr) (u1:Bool) (u2 u3:Int) (u4:Option Addr) (v1:Bool) (v2 v3:Int) (v4:Option Addr) (bs os:List Rat) (b0:Rat) (vs:List Value) (w:World)
  (hx:SBox w g0 [.slice (some ⟨gq,0,none⟩) n cap,.bool t1,.int .u64 t2,.int .u64 t3,.pointer t4,.bool u1,.int .u64 u2,.int .u64 u3,.pointer u4,.bool v1,.int .u64 v2,.int .u64 v3,.pointer v4]) (hgr:aw w base (.slice (some ⟨gq,0,none⟩) n cap) os vs) (hno:n=os.length) (hT:TBox w g0 169) (hn:n≤60)
  (hgs:am w (.agg #[.bool u1,.int .u64 u2,.int .u64 u3,.pointer u4]) ((1:Int):Rat)) (hby:am w (.agg #[.bool v1,.int .u64 v2,.int .u64 v3,.pointer v4]) b0) (hb0:b0.num≠0) (hbs:an w (.slice (some ⟨b,off,none⟩) nn cc) bs) (hnn:nn=bs.length) (hn1:1≤nn) (hn2:nn≤60) (hm:m≤60) (lb0:Len b0 100) (lb:∀ f ∈ bs,Len f 100) (lo:∀ f ∈ os,Len f 1000) :
  Calls Tryz.prog 125 #[.pointer (some ⟨g0,0,none⟩),.slice (some ⟨b,off,none⟩) nn cc,.int .i64 (m:Int)] w fun e w'=>e=.returned (.tuple #[])∧∃ gq' cap' vs',SBox w' g0 [.slice (some ⟨gq',0,none⟩) (n+1) cap',.bool t1,.int .u64 t2,.int .u64 t3,.pointer t4,.bool u1,.int .u64 u2,.int .u64 u3,.pointer u4,.bool v1,.int .u64 v2,.int .u64 v3,.pointer v4]∧aw w' base (.slice (some ⟨gq',0,none⟩) (n+1) cap') (os++[dS (nxF bs os (m:Int) n) (min n (nn-1)) (min n (nn-1))/(b0*((n:Int):Rat))]) vs'∧TBox w' g0 169∧∃ wm,But [gq] w wm∧But [g0] wm w':=by
 obtain ⟨K,hK⟩:∃ K,K=min n (nn-1):=⟨_,rfl⟩
 rw [← hK]
 have hKn:K≤n:=by omega
 have hKb:K<nn:=by omega
 have hmin:min (n:Int) ((nn:Int)-1)=(K:Int):=by omega
 have hn0:1≤n:=by have:=hgr.pos;omega
 have HX:=af hx
 have HT:=af hT
 have hl0:g0<w.heap.size:=hx.lt (by simp)
 have n0q:g0≠gq:=fun e=>hT.apart hgr (by decide) (by rw [e];rfl)
 clear hT
 have HGR:=af hgr
 have HGS:=af hgs
 have HBY:=af hby
 have HBS:=af hbs
 have HNO:=af hno
 have HNN:=af hnn
 have x0:=hx.cells 0 _ rfl
 have lF:Hid (∀ k,1≤k→k≤K→Len (nxF bs os (m:Int) n k) 1101):=fun k h1 h2=>by
  have hp:(k:Int)*(m:Int)≤3600:=by
   have:=Nat.mul_le_mul (show k≤60 by omega) hm
   have h3:((k*m:Nat):Int)≤3600:=by omega
   rw [Int.natCast_mul] at h3
   exact h3
  have hp0:0≤(k:Int)*(m:Int):=Int.mul_nonneg (by omega) (by omega)
  exact (len_nxF bs os (m:Int) n k 100 1000 lb lo (by omega) (by omega) (by omega)).mono (by omega)
 have LB:=af lb
 have LO:=af lo
 have bA:Hid (But [] w (w.alloc (.cells #[.bool false,.int .u64 0,.int .u64 0,.pointer none] 29))):=(But.refl _ _).alloc _
 have XA:Hid (ax (w.alloc (.cells #[.bool false,.int .u64 0,.int .u64 0,.pointer none] 29)) w.heap.size 0):=ax.new w false 0 0 none 0 29 (zero_at _)
 clear hx hgr hgs hby hbs hno hnn lb lo
 have HK:=af hK
 clear hK
 go_enter Tryz.func125,Tryz.ntmps125
 go_wp2
 generalize hg7:w.heap.size=g7 at *
 generalize w.alloc (.cells #[.bool false,.int .u64 0,.int .u64 0,.pointer none] 29)=W at *
 try rw [hmin]
 clear x0 hmin
 go_loopw [8] (fun i wr=>∃ k:Nat,k≤K∧i=.int .i64 (k:Int)∧Hid (ax wr g7 (dS (nxF bs os (m:Int) n) K (K-k))∧But [] w wr)) (fun i _=>(intOf i).toNat)
 case atStart=>exact ⟨K,Nat.le_refl _,rfl,by rw [Nat.sub_self];exact ⟨ae XA,ae bA⟩⟩
 case round =>
  obtain ⟨k,hk,rfl,HI⟩:=hrel
  rename World=>wr
  clear bA XA
  by_cases hlt:0<k
  ·have hki:(0:Int)<(k:Int):=by omega
   have hp:(k:Int)*(m:Int)≤3600:=by
    have:=Nat.mul_le_mul (show k≤60 by omega) hm
    have h3:((k*m:Nat):Int)≤3600:=by omega
    rw [Int.natCast_mul] at h3
    exact h3
   have hp0:0≤(k:Int)*(m:Int):=Int.mul_nonneg (by omega) (by omega)
   obtain ⟨pr,hpr⟩:∃ pr,(k:Int)*(m:Int)=pr:=⟨_,rfl⟩
   rw [hpr] at hp hp0
   obtain ⟨ws,wx,FW,CW⟩:=whole_is (pr-(n:Int)) (by omega) (by omega)
   have hbw:=(ae HI).2
   have hfs:=(ae HBS).but hbw
   have hkb:k<bs.length:=by have:=ae HNN;omega
   obtain ⟨sr,xr,yr,pq,cr,hfr⟩:=hfs.get k (by omega)
   have lrk:Len (bs[k]?.getD 0) 100:=by rw [List.getElem?_eq_getElem hkb];exact ae LB _ (List.getElem_mem hkb)
   go_wp2
   refine next_region5 5 _ _ wr wr.heap.size sr xr yr pq b off nn cc k (m:Int) (n:Int) pr ws wx (bs[k]?.getD 0) (by simp) (Nat.le_refl _) (by simp [Act.eval]) (by simp [Act.eval]) (by simp [Act.eval]) (by simp [Act.eval]) (by omega) (by omega) hpr (by omega) (by omega) cr CW (fun w' hb=>fracMul_any _ _ (bs[k]?.getD 0) (((pr-(n:Int):Int)):Rat) w' (hfr.but hb) (FW w') (lrk.mono (by omega)) ((len_int _ (by omega)).mono (by omega))) ?_
   intro w2 g9 s9 x9 y9 p9 hb2 hg9 hP9 hz9 hf9
   simp only [bb,List.foldl_cons,List.foldl_nil,Act.put,List.setIfInBounds_toArray,List.set_cons_zero,List.set_cons_succ]
   have hP:=au w2 g9 s9 x9 y9 p9
   have bN:But [] wr (put4 w2 g9 s9 x9 y9 p9):=hb2.trans hP (fun x hx=>by simp at hx;subst hx;exact .inr (by omega))
   have m9:P4 (put4 w2 g9 s9 x9 y9 p9) g9 s9 x9 y9 p9:=put4_p4 w2 g9 s9 x9 y9 p9 hP9
   have f9:=hf9.over hP9.1 hP
   generalize put4 w2 g9 s9 x9 y9 p9=V at *
   have M9:=af m9
   have F9:=af f9
   have BN:=af bN
   have BWV:=af (hbw.trans' bN)
   clear hP hb2 hg9 hP9 hz9 hf9 m9 f9 bN cr hfr FW CW hfs hbw
   go_wp2
   have hbv:=ae BWV
   have xv:=(ae HX).but hbv (by simp) (by simp)
   have gv:=(ae HGR).but hbv
   have hol:n-k<os.length:=by have:=ae HNO;omega
   obtain ⟨s4,x4,y4,p4,c4,f4⟩:=gv.fracs.get (n-k) (by omega)
   have lok:Len (os[n-k]?.getD 0) 1000:=by rw [List.getElem?_eq_getElem hol];exact ae LO _ (List.getElem_mem hol)
   have hbx:=(ae HI).1.but (ae BN)
   obtain ⟨⟨s7,x7,y7,p7,c7,f7⟩,z7⟩:=id hbx
   have lS:=len_dS (nxF bs os (m:Int) n) K 1101 (ae lF) (K-k) (by omega)
   have lS':Len (dS (nxF bs os (m:Int) n) K (K-k)) 70000:=lS.mono (by
    have:=Nat.mul_le_mul_right 1103 (show K-k≤60 by omega)
    omega)
   have l1:Len (((1:Int):Rat)) 1:=len_int 1 (by decide)
   have lw:Len (bs[k]?.getD 0*(((pr-(n:Int):Int)):Rat)) 101:=len_mul lrk (len_int _ (by omega)) _ (by omega)
   refine next_region6 6 _ _ V g0 s7 x7 y7 p7 u1 u2 u3 u4 s9 x9 y9 p9 s4 x4 y4 p4 gq 0 n cap (n:Int) (k:Int) (n-k) (dS (nxF bs os (m:Int) n) K (K-k)) ((1:Int):Rat) (bs[k]?.getD 0*(((pr-(n:Int):Int)):Rat)) (os[n-k]?.getD 0) g7 g9 (by simp) (by simp [Act.eval]) c7 z7 (by simp [Act.eval]) (by simp [Act.eval]) (by simp [Act.eval]) (by simp [Act.eval]) (by omega) (by omega) (by omega) (by omega) c7 ⟨xv.cells 5 _ rfl,xv.cells 6 _ rfl,xv.cells 7 _ rfl,xv.cells 8 _ rfl⟩ (ae M9) (xv.cells 0 _ rfl) c4 (fun w' hb=>fracMul_any _ _ _ _ w' (f7.but hb) ((ae HGS).but (hbv.trans' hb)) (lS'.mono (by omega)) (l1.mono (by omega))) (fun w' hb=>fracMul_any _ _ _ _ w' ((ae F9).but hb) (f4.but hb) (lw.mono (by omega)) (lok.mono (by omega))) (fun w' hb u v hu hv=>fracAdd_any _ _ _ _ w' hu hv (len_mul lS' l1 _ (by omega)) (len_mul lw lok _ (by omega))) ?_
   intro w3 v5 v16 s3 x3 y3 p3 hb3 hf3
   simp only [bb,List.foldl_cons,List.foldl_nil,Act.put,List.setIfInBounds_toArray,List.set_cons_zero,List.set_cons_succ]
   have hP:=au w3 g7 s3 x3 y3 p3
   have xN:=(hbx.but hb3).put hf3
   have bF:=(hbv.trans' hb3).trans hP (fun x hx=>by simp at hx;subst hx;exact .inr (by omega))
   have eD:dS (nxF bs os (m:Int) n) K (K-k)*((1:Int):Rat)+bs[k]?.getD 0*(((pr-(n:Int):Int)):Rat)*os[n-k]?.getD 0=dS (nxF bs os (m:Int) n) K (K-(k-1)):=by
    rw [show K-(k-1)=K-k+1 from by omega]
    show _=dS _ K (K-k)*((1:Int):Rat)+nxF bs os (m:Int) n (K-(K-k))
    rw [show K-(K-k)=k from by omega]
    unfold nxF
    rw [hpr]
   rw [eD] at xN
   have I5:Hid (ax (put4 w3 g7 s3 x3 y3 p3) g7 (dS (nxF bs os (m:Int) n) K (K-(k-1)))∧But [] w (put4 w3 g7 s3 x3 y3 p3)):=⟨xN,bF⟩
   generalize put4 w3 g7 s3 x3 y3 p3=V3 at *
   have hk1:(k:Int)-1=((k-1:Nat):Int):=by omega
   clear hP xN bF hb3 hf3 hbx c7 f7 z7 lS lS' lw lok c4 f4 gv xv hbv M9 F9 BN BWV HI eD hpr hp hp0 lrk
   go_wp2
   exact ⟨⟨k-1,by omega,by go_num,ae I5⟩,by simp [intOf];omega⟩
  ·obtain rfl:k=0:=by omega
   obtain ⟨ws,wx,FW,CW⟩:=whole_is (n:Int) (by omega) (by omega)
   obtain ⟨hbx,hbw⟩:=ae HI
   rw [Nat.sub_zero] at hbx
   have xv:=(ae HX).but hbw (by simp) (by simp)
   have gv:=(ae HGR).but hbw
   have lS:=len_dS (nxF bs os (m:Int) n) K 1101 (ae lF) K (by omega)
   have lS':Len (dS (nxF bs os (m:Int) n) K K) 70000:=lS.mono (by
    have:=Nat.mul_le_mul_right 1103 (show K≤60 by omega)
    omega)
   obtain ⟨⟨s7,x7,y7,p7,c7,f7⟩,z7⟩:=id hbx
   obtain ⟨gq',cap',eq,hB1,hl1,hcap,hown,sq,hsq⟩:=gv.form
   simp only [Value.slice.injEq,Option.some.injEq,Addr.mk.injEq,and_true] at eq
   obtain ⟨rfl,-,rfl⟩:=eq
   have lq:Len (b0*((n:Int):Rat)) 101:=len_mul lb0 (len_int _ (by omega)) _ (by omega)
   have hq0:(b0*((n:Int):Rat)).num≠0:=fun h=>by
    have h1:=Rat.num_eq_zero.1 h
    rcases Rat.mul_eq_zero.1 h1 with h2 | h2
    ·rw [h2] at hb0
     exact hb0 rfl
    ·have:=Rat.intCast_eq_zero_iff.1 h2
     omega
   go_wp2
   refine next_region7 7 _ _ wr wr.heap.size (fun v w'=>(∃ vs',aw w' base v (os++[dS (nxF bs os (m:Int) n) K K/(b0*((n:Int):Rat))]) vs')∧∃ wm,But [] wr wm∧But [gq] wm w') g0 s7 x7 y7 p7 v1 v2 v3 v4 gq n cap (n:Int) ws wx (dS (nxF bs os (m:Int) n) K K) b0 gq g7 sq (by simp) rfl hl1 hsq (by simp [Act.eval]) (by simp [Act.eval]) (by simp [Act.eval]) (xv.cells 0 _ rfl) c7 ⟨xv.cells 9 _ rfl,xv.cells 10 _ rfl,xv.cells 11 _ rfl,xv.cells 12 _ rfl⟩ CW (fun w' hb=>fracMul_any _ _ _ _ w' ((ae HBY).but (hbw.trans' hb)) (FW w') (lb0.mono (by omega)) ((len_int _ (by omega)).mono (by omega))) (fun w' hb v hv=>quotient_any _ _ _ _ w' (f7.but hb) hv (lS'.mono (by omega)) (lq.mono (by omega)) hq0) (fun w' g s x y p hb hg hP hF=>by
    obtain ⟨v',w'',hr,hg',b,hb1,hb2,hb3,-⟩:=(gv.but hb).push (by have:=ae HNO;omega) g s x y p hP _ hF
    obtain rfl:gq=b:=by simpa [Value.ownBlock] using hb2
    exact ⟨v',w'',hr,hb3,⟨_,hg'⟩,w',hb,hb3⟩) ?_ ?_
   ·rintro v w' ⟨⟨vs',hg'⟩,wm,hm1,hm2⟩
    obtain ⟨gq5,cap5,e5,-⟩:=hg'.form
    have xm:=(xv.but hm1 (by simp) (by simp)).but hm2 (by simpa using n0q) (by simp)
    exact ⟨⟨_,_,_,e5⟩,⟨_,xm.cells 0 _ rfl⟩,xm.loose 0⟩
   ·rintro w5 v12 v13 v14 v15 ⟨⟨vs',hg5⟩,wm,hm1,hm2⟩
    simp only [bb,List.foldl_cons,List.foldl_nil,Act.put,List.setIfInBounds_toArray,List.set_cons_zero,List.set_cons_succ]
    obtain ⟨gq5,cap5,e5,hB5,-⟩:=hg5.form
    have hlen:(os++[dS (nxF bs os (m:Int) n) K K/(b0*((n:Int):Rat))]).length=n+1:=by rw [List.length_append,List.length_singleton];have:=ae HNO;omega
    rw [hlen] at e5
    subst e5
    have xm:=(xv.but hm1 (by simp) (by simp)).but hm2 (by simpa using n0q) (by simp)
    have hS:But [g0] w5 (w5.setCell ⟨g0,0,none⟩ (.slice (some ⟨gq5,0,none⟩) (n+1) cap5)):=(But.refl [g0] w5).setCell (.inl (by simp)) _
    have c01:=xm.cells 1 _ rfl
    have T5:TBox w5 g0 169:=(((ae HT).but hbw (by simp)).but hm1 (by simp)).but hm2 (by simpa using n0q)
    have hG:=hg5.beside hS (T5.apart hg5 (by decide)) (fun u f h=>h.overW c01 hS)
    have T6:=T5.set (.slice (some ⟨gq5,0,none⟩) (n+1) cap5)
    have xF:SBox (w5.setCell ⟨g0,0,none⟩ (.slice (some ⟨gq5,0,none⟩) (n+1) cap5)) g0 [.slice (some ⟨gq5,0,none⟩) (n+1) cap5,.bool t1,.int .u64 t2,.int .u64 t3,.pointer t4,.bool u1,.int .u64 u2,.int .u64 u3,.pointer u4,.bool v1,.int .u64 v2,.int .u64 v3,.pointer v4]:=xm.head _
    have hwm:But [gq] w w5:=((hbw.trans' hm1).mono (by simp)).trans hm2 (fun x hx=>.inl hx)
    generalize w5.setCell ⟨g0,0,none⟩ (.slice (some ⟨gq5,0,none⟩) (n+1) cap5)=FF at *
    clear hm1 hm2 xm c01 hg5 T5
    go_wp2
    exact bodyPost_end (v:=.tuple #[]) (by simp [results,Tryz.results125,go_sem]) rfl ⟨rfl,gq5,cap5,vs',xF,hG,T6,w5,hwm,hS⟩
theorem dS_congr (f g:Nat→Rat) (K:Nat) (h:∀ k,1≤k→k≤K→f k=g k):∀ t,t≤K→dS f K t=dS g K t
 | 0,_=>rfl
 | t+1,ht=>by
  show dS f K t*((1:Int):Rat)+f (K-t)=dS g K t*((1:Int):Rat)+g (K-t)
  rw [dS_congr f g K h t (by omega),h (K-t) (by omega) (by omega)]
theorem pw_zero (b:Nat→Rat):∀ m,pw b m 0=rpow (b 0) m
 | 0=>rfl
 | m+1=>by
  show b 0*pw b m 0=rpow (b 0) m*b 0
  rw [pw_zero b m,Rat.mul_comm]
theorem next_is (wl:List Rat) (m n:Nat) (hn:0<n) (h0:lf wl 0≠0) (hw:1≤wl.length) :
  dS (nxF wl ((List.range n).map (pw (lf wl) m)) (((m+1:Nat)):Int) n) (min n (wl.length-1)) (min n (wl.length-1))/(lf wl 0*((n:Int):Rat))=pw (lf wl) m n:=by
 rw [← panjer_step (lf wl) m n (min n (wl.length-1)) (wl.length-1) hn (fun k hk=>lf_far wl k (by omega)) rfl h0]
 congr 1
 refine dS_congr _ _ _ (fun k h1 h2=>?_) _ (Nat.le_refl _)
 unfold nxF
 have hk:k≤n:=by omega
 rw [List.getElem?_map,List.getElem?_range (by omega)]
 show lf wl k*_*pw (lf wl) m (n-k)=_
 rw [show (((m+1:Nat)):Int)=(m:Int)+1 from by omega]
theorem an.besideB {w w':World} {v:Value} {fs:List Rat} {g:Nat} {s:Bool} (h:an w v fs) (hb:But [g] w w') (c0:w.cell? ⟨g,0,none⟩=some (.bool s)) (hn:∀ b off n c,v=.slice (some ⟨b,off,none⟩) n c→b≠g):an w' v fs:=by
 obtain ⟨a,cap,e,hc,h⟩:=h
 refine ⟨a,cap,e,hc,fun i f hf=>?_⟩
 obtain ⟨b,off,e1,s',x,y,p,h1,h2⟩:=h i f hf
 have hbg:b≠g:=hn b off _ _ (by rw [e,e1])
 exact ⟨b,off,e1,s',x,y,p,h1.but hb (by simpa using hbg),h2.over c0 hb⟩
theorem an.cut {w:World} {b off n c:Nat} {fs:List Rat} (h:an w (.slice (some ⟨b,off,none⟩) n c) fs) (k:Nat) (hk:k≤fs.length):an w (.slice (some ⟨b,off,none⟩) k c) (fs.take k):=by
 obtain ⟨a,cap,e,hc,h⟩:=h
 simp only [Value.slice.injEq] at e
 obtain ⟨rfl,rfl,rfl⟩:=e
 have hl:(fs.take k).length=k:=by rw [List.length_take];omega
 refine ⟨some ⟨b,off,none⟩,c,by rw [hl],by omega,fun i f hf=>?_⟩
 have hi:=(List.getElem?_eq_some_iff.1 hf).1
 rw [List.getElem?_take_of_lt (by omega)] at hf
 exact h i f hf
def baF (fs:List Rat) (r:Rat) (mm:Nat):Nat→Rat:=setF (fun i=>(fs.take mm)[i]?.getD 0*r) 0 ((fs.take mm)[0]?.getD 0*r+((1:Int):Rat))
def baL (fs:List Rat) (r:Rat) (mm:Nat):List Rat:=(List.range mm).map (baF fs r mm)
structure TogI (w wr:World) (g3 g8 g9 B9 gw mm n:Nat) (cf cw:List Value) (t1:Bool) (t2 t3:Int) (t4:Option Addr) (u1:Bool) (u2 u3:Int) (u4:Option Addr) (v1:Bool) (v2 v3:Int) (v4:Option Addr) (a1:Bool) (a2 a3:Int) (a4:Option Addr) (wl:List Rat) (u f0:Rat) (t:Nat):Prop where
 but:But [] w wr
 xf:SBox wr g3 cf
 xw:SBox wr g8 cw
 tb:TBox wr g9 169
 fb:an wr (.slice (some ⟨gw,0,none⟩) mm mm) wl
 sc:am wr (.agg #[.bool t1,.int .u64 t2,.int .u64 t3,.pointer t4]) (rpow u⁻¹ n)
 gs:am wr (.agg #[.bool u1,.int .u64 u2,.int .u64 u3,.pointer u4]) ((1:Int):Rat)
 by_:am wr (.agg #[.bool v1,.int .u64 v2,.int .u64 v3,.pointer v4]) (lf wl 0)
 no:am wr (.agg #[.bool a1,.int .u64 a2,.int .u64 a3,.pointer a4]) f0
 xs:∃ gq cap vs,SBox wr g9 [.slice (some ⟨gq,0,none⟩) (t+1) cap,.bool t1,.int .u64 t2,.int .u64 t3,.pointer t4,.bool u1,.int .u64 u2,.int .u64 u3,.pointer u4,.bool v1,.int .u64 v2,.int .u64 v3,.pointer v4]∧aw wr B9 (.slice (some ⟨gq,0,none⟩) (t+1) cap) ((List.range (t+1)).map (pw (lf wl) n)) vs
theorem TogI.next {w wr wm w':World} {g3 g8 g9 B9 gw mm n:Nat} {cf cw:List Value} {t1:Bool} {t2 t3:Int} {t4:Option Addr} {u1:Bool} {u2 u3:Int} {u4:Option Addr} {v1:Bool} {v2 v3:Int} {v4:Option Addr} {a1:Bool} {a2 a3:Int} {a4:Option Addr} {wl:List Rat} {u f0:Rat} {t gq cap gq' cap':Nat} {vs vs':List Value}
  (h:TogI w wr g3 g8 g9 B9 gw mm n cf cw t1 t2 t3 t4 u1 u2 u3 u4 v1 v2 v3 v4 a1 a2 a3 a4 wl u f0 t) (hx:SBox wr g9 [.slice (some ⟨gq,0,none⟩) (t+1) cap,.bool t1,.int .u64 t2,.int .u64 t3,.pointer t4,.bool u1,.int .u64 u2,.int .u64 u3,.pointer u4,.bool v1,.int .u64 v2,.int .u64 v3,.pointer v4]) (hg:aw wr B9 (.slice (some ⟨gq,0,none⟩) (t+1) cap) ((List.range (t+1)).map (pw (lf wl) n)) vs)
  (hb1:But [gq] wr wm) (hb2:But [g9] wm w') (hx':SBox w' g9 [.slice (some ⟨gq',0,none⟩) (t+1+1) cap',.bool t1,.int .u64 t2,.int .u64 t3,.pointer t4,.bool u1,.int .u64 u2,.int .u64 u3,.pointer u4,.bool v1,.int .u64 v2,.int .u64 v3,.pointer v4]) (hg':aw w' B9 (.slice (some ⟨gq',0,none⟩) (t+1+1) cap') ((List.range (t+1)).map (pw (lf wl) n)++[pw (lf wl) n (t+1)]) vs') (ht:TBox w' g9 169)
  (o3:g3<B9) (o8:g8<B9) (o9:B9≤g9) (ow:gw<B9) (oB:w.heap.size≤B9) (lf0:0<cf.length) (lw0:0<cw.length) :
  TogI w w' g3 g8 g9 B9 gw mm n cf cw t1 t2 t3 t4 u1 u2 u3 u4 v1 v2 v3 v4 a1 a2 a3 a4 wl u f0 (t+1):=by
 obtain ⟨gx,cx,ex,hB,-,-,-,sq,hsq⟩:=hg.form
 simp only [Value.slice.injEq,Option.some.injEq,Addr.mk.injEq,and_true] at ex
 obtain ⟨rfl,-,-⟩:=ex
 have n9:g9≠gq:=fun e=>h.tb.apart hg (by decide) (by rw [e];rfl)
 have c91:wm.cell? ⟨g9,1,none⟩=some (.bool t1):=hb1.ag (hx.cells 1 _ rfl) (by simpa using n9)
 have fr:∀ {v f},am wr v f→am w' v f:=fun h=>(h.over hsq hb1).overW c91 hb2
 refine ⟨(h.but.trans hb1 (fun x hx=>by simp at hx;subst hx;exact .inr (by omega))).trans hb2 (fun x hx=>by simp at hx;subst hx;exact .inr (by omega)),(h.xf.but hb1 (by simp;omega) lf0).but hb2 (by simp;omega) lf0,(h.xw.but hb1 (by simp;omega) lw0).but hb2 (by simp;omega) lw0,ht,(h.fb.besideB hb1 hsq (fun b off n c e=>?_)).besideW hb2 c91 (fun b off n c e=>?_),fr h.sc,fr h.gs,fr h.by_,fr h.no,gq',cap',vs',hx',?_⟩
 ·simp only [Value.slice.injEq,Option.some.injEq,Addr.mk.injEq] at e
  omega
 ·simp only [Value.slice.injEq,Option.some.injEq,Addr.mk.injEq] at e
  omega
 ·rw [List.range_succ,List.map_append]
  exact hg'
end Go.Proofs.YtlckjpelcmjimaaGreatDoor
