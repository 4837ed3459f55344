/- What a year brings, all ways that years  -/
import Derived.Test.YtloojmaamaambaaGreatDoorKRIM
import Derived.Test.YtloojmaamaambaaGreatDoorKRODr
namespace Go.Proofs.YtloojmaamaambaaGreatDoor
open Go.RowKit
set_option maxHeartbeats 16000000
set_option maxRecDepth 100000
theorem yearOf_any (inc:Nat) (v:Value) (fs:List Rat) (w:World) (m:Int) (c:Nat) (hv:FracsAt w v fs) (hl:fs.length≤1000) (lf:∀ f ∈ fs,Len f c) (hc:c≤100) (htab:Lib.TabIs Tryz.prog w "internal/strconv.uint64pow10" .u64 Lib.pow10Tab) (hm:w.cell? ⟨4,0,none⟩=some (.int .i64 m)) :
  Calls Tryz.prog 99 #[.int .i64 (inc:Int),v] w fun e w'=>∃ g s x y p,e=.returned (.agg #[.int .i64 (inc:Int),.bool s,.int .u64 x,.int .u64 y,.pointer p,.slice (some ⟨g,0,none⟩) fs.length fs.length])∧FracAt w' (.agg #[.bool s,.int .u64 x,.int .u64 y,.pointer p]) (((comN 1 fs:Nat):Int):Rat)∧RowOf w' g fs.length (fun i=>fs[i]?.getD 0*(((comN 1 fs:Nat):Int):Rat))∧w.heap.size≤g∧g<w'.heap.size∧But [] w w':=by
 have hfc:fs.length*c≤1000*100:=Nat.mul_le_mul hl hc
 obtain ⟨U,hUU⟩:∃ U,U=comN 1 fs:=⟨_,rfl⟩
 have lU:Len (((U:Nat):Int):Rat) 200000:=by
  rw [hUU]
  refine nat_len _ _ (Nat.le_refl _) (Nat.le_trans (comN_len c fs 1 lf) ?_) (by omega)
  have h1:(wd 18446744073709551616 1).length≤1:=wd_length_le (by omega) _ 1 (by omega)
  omega
 have CO:=hide (fun W v' (h:But [] w W) (hv':ListsAt W v' [fs])=>common_any v' [fs] W m c hv' (by simp) (fun l hl'=>by simp at hl';rw [hl'];omega) (fun l hl'=>by simp at hl';rw [hl'];exact lf) (by simp;omega) (by omega) (TabIs.but htab h) (h.cell_some hm (by simp)))
 have TI:=hide (fun W vu (h:But [] w W) (hu:FracAt W vu (((U:Nat):Int):Rat))=>times_any v vu fs _ W (hv.but h) hu (by omega) (fun f hf=>(lf f hf).mono (by omega)) (lU.mono (by omega)))
 simp only [List.flatten_cons,List.flatten_nil,List.append_nil,← hUU] at CO
 rw [← hUU]
 have HV:=hide hv
 obtain ⟨q,cap,rfl,hcap,-⟩:=id hv
 obtain ⟨n,hN⟩:∃ n,n=fs.length:=⟨_,rfl⟩
 rw [← hN] at TI HV ⊢
 have HN:=hide hN
 clear hv lU hUU htab hm hN hcap hfc
 obtain ⟨A,hA⟩:∃ A,A=w.alloc (.cells #[.int .i64 0,.bool false,.int .u64 0,.int .u64 0,.pointer none,.slice none 0 0] 149):=⟨_,rfl⟩
 have xA:YBox A w.heap.size 0 false 0 0 none (.slice none 0 0):=by rw [hA];exact YBox.new _ _ _ _ _ _ _ _
 have bA:But [] w A:=by rw [hA];exact (But.refl _ _).alloc _
 have sA:A.heap.size=w.heap.size+1:=by rw [hA];simp
 have XA:=hide xA
 have BA:=hide bA
 clear xA bA
 go_enter Tryz.func99,Tryz.ntmps99
 go_wp2_with fail
 rw [← hA]
 have bL:But [] A (A.alloc (.cells #[.slice q n cap] 33)):=(But.refl _ _).alloc _
 have hL:ListsAt (A.alloc (.cells #[.slice q n cap] 33)) (.slice (some ⟨w.heap.size+1,0,none⟩) 1 1) [fs]:=by
  refine ⟨some ⟨w.heap.size+1,0,none⟩,1,rfl,Nat.le_refl _,fun i l hil=>?_⟩
  obtain rfl:i=0:=by
   have:=(List.getElem?_eq_some_iff.1 hil).1
   simpa using this
  obtain rfl:fs=l:=by simpa using hil
  exact ⟨_,_,.slice q n cap,rfl,by rw [← sA];simp,((unhide HV).but (unhide BA)).but bL⟩
 have BL:=hide ((unhide BA).trans' bL)
 have XL:=hide ((unhide XA).but bL (by simp))
 refine (unhide CO _ _ (unhide BL) hL).mono ?_
 rintro e w1 ⟨v1,rfl,hf1,hb1⟩
 have B1:=hide ((unhide BL).trans' hb1)
 have X1:=hide ((unhide XL).but hb1 (by simp))
 obtain ⟨x1,y1,p1,rfl,-⟩:=id hf1.agg
 generalize hs1:decide ((((U:Nat):Int):Rat).num<0)=s1 at *
 have HF1:=hide hf1
 have b3:w.heap.size<w1.heap.size:=(unhide X1).lt
 clear hb1 hf1 hs1 hL bL BL XL BA XA CO hA sA
 go_wp2
 have bA:But [] w1 (w1.alloc (.cells #[.bool s1,.int .u64 x1,.int .u64 y1,.pointer p1] 29)):=(But.refl _ _).alloc _
 have c3:P4 (w1.alloc (.cells #[.bool s1,.int .u64 x1,.int .u64 y1,.pointer p1] 29)) w1.heap.size s1 x1 y1 p1:=⟨by simp,by simp,by simp,by simp⟩
 have C3:=hide c3
 have B2:=hide ((unhide B1).trans' bA)
 have X2:=hide ((unhide X1).but bA (by simp))
 have F2:=hide ((unhide HF1).but bA)
 clear bA c3 B1 X1 HF1
 generalize w1.heap.size=g3 at *
 generalize hgb:w.heap.size=gb at *
 generalize w1.alloc (.cells #[.bool s1,.int .u64 x1,.int .u64 y1,.pointer p1] 29)=V at *
 refine year_region 2 _ _ V V.heap.size (inc:Int) n (fun i=>fs[i]?.getD 0*(((U:Nat):Int):Rat)) s1 x1 y1 p1 (.slice q n cap) gb g3 (by simp) (by simp [Act.eval]) (by simp [Act.eval]) (by simp [Act.eval]) (by simp [Act.eval]) (unhide X2) (unhide C3) (fun w' hb=>(unhide TI w' _ ((unhide B2).trans' hb) ((unhide F2).but hb)).mono (fun e w'' h=>by
  obtain ⟨g,e1,h1,h2,h3,h4⟩:=h
  exact ⟨_,e1,⟨g,rfl,h1,Nat.le_trans hb.size h2,h3⟩,h4⟩)) ?_
 intro w3 v4 g hb3 hr hg1 hg2
 simp only [putted,List.foldl_cons,List.foldl_nil,Act.put,List.setIfInBounds_toArray,List.set_cons_zero,List.set_cons_succ]
 have X3:=(unhide X2).but hb3 (by simp)
 have hS:=but_setCells w3 gb [.int .i64 (inc:Int),.bool s1,.int .u64 x1,.int .u64 y1,.pointer p1,.slice (some ⟨g,0,none⟩) n n] 0
 obtain ⟨m0,m1,m2,m3,m4,m5,-⟩:=X3.put (inc:Int) s1 x1 y1 p1 (.slice (some ⟨g,0,none⟩) n n)
 have hF:But [] w (w3.setCells gb 0 [.int .i64 (inc:Int),.bool s1,.int .u64 x1,.int .u64 y1,.pointer p1,.slice (some ⟨g,0,none⟩) n n]):=((unhide B2).trans' hb3).trans hS (fun x hx=>by simp at hx;subst hx;exact .inr (by omega))
 have hff:=((unhide F2).but hb3).overW X3.c1 hS
 have lgb:gb<V.heap.size:=(unhide X2).lt
 have hR:RowOf (w3.setCells gb 0 [.int .i64 (inc:Int),.bool s1,.int .u64 x1,.int .u64 y1,.pointer p1,.slice (some ⟨g,0,none⟩) n n]) g n (fun i=>fs[i]?.getD 0*(((U:Nat):Int):Rat)):=by
  refine ⟨fun j hj=>?_,fun o=>by rw [World.frozen?_setCells];exact hr.loose o⟩
  obtain ⟨s5,x5,y5,p5,e5,f5⟩:=hr.told j hj
  exact ⟨s5,x5,y5,p5,e5.but hS (by simp;omega),f5.overW X3.c1 hS⟩
 have hG:g<(w3.setCells gb 0 [.int .i64 (inc:Int),.bool s1,.int .u64 x1,.int .u64 y1,.pointer p1,.slice (some ⟨g,0,none⟩) n n]).heap.size:=Nat.lt_of_lt_of_le hg2 hS.size
 generalize w3.setCells gb 0 [.int .i64 (inc:Int),.bool s1,.int .u64 x1,.int .u64 y1,.pointer p1,.slice (some ⟨g,0,none⟩) n n]=F at *
 have hVw:w.heap.size≤V.heap.size:=(unhide B2).size
 clear hS hb3 hr X3
 go_wp2
 exact bodyPost_ret (v:=.agg #[.int .i64 (inc:Int),.bool s1,.int .u64 x1,.int .u64 y1,.pointer p1,.slice (some ⟨g,0,none⟩) n n]) (by simp [results,Tryz.results99,go_sem,m0,m1,m2,m3,m4,m5]) rfl ⟨g,s1,x1,y1,p1,rfl,hff,hR,by omega,hG,hF⟩
theorem rpow_powR (f:Rat):∀ n,rpow f n=powR f n
 | 0=>rfl
 | n+1=>by
  show rpow f n*f=powR f n*f
  rw [rpow_powR f n]
theorem wd_pow_gen (X k m:Nat) (hX:(wd 18446744073709551616 X).length≤m):(wd 18446744073709551616 (X^k)).length≤m*k+1:=by
 have h1:=lt_of_wd_length (B:=18446744073709551616) (by omega) X m hX
 rcases Nat.eq_zero_or_pos k with rfl | hk0
 ·rw [Nat.pow_zero]
  exact Nat.le_trans (wd_length_le (B:=18446744073709551616) (by omega) 1 1 (by omega)) (by omega)
 ·refine Nat.le_trans (wd_length_le (B:=18446744073709551616) (by omega) _ (m*k) ?_) (by omega)
  rw [Nat.pow_mul]
  exact Nat.pow_lt_pow_left h1 (by omega)
theorem yways_any (yi:Int) (s1:Bool) (x1 y1:Int) (p1 yq:Option Addr) (yn yc U t:Nat) (w:World) (hU:FracAt w (.agg #[.bool s1,.int .u64 x1,.int .u64 y1,.pointer p1]) (((U:Nat):Int):Rat)) (ht:t≤20) (hl:(wd 18446744073709551616 U).length≤20) :
  Calls Tryz.prog 101 #[.agg #[.int .i64 yi,.bool s1,.int .u64 x1,.int .u64 y1,.pointer p1,.slice yq yn yc],.int .i64 (t:Int)] w fun e w'=>∃ v,e=.returned v∧FracAt w' v (powR (((U:Nat):Int):Rat) t)∧But [] w w':=by
 obtain ⟨e1,e2⟩:=int_parts (U:Int)
 have hm:20*t≤20*20:=Nat.mul_le_mul_left _ ht
 have PO:=hide (fun W (h:But [] w W)=>fracPow_gen _ _ t W (hU.but h) (by omega) (nat_len U U (Nat.le_refl _) (Nat.le_trans hl (by omega)) (by omega)) (by
  rw [e1,Int.natAbs_natCast]
  have:=wd_pow_gen U t 20 hl
  omega) (by
  rw [e2,Nat.one_pow]
  exact Nat.le_trans (wd_length_le (by omega) 1 1 (by omega)) (by omega)))
 rw [rpow_powR] at PO
 generalize powR (((U:Nat):Int):Rat) t=G at *
 obtain ⟨A,hA⟩:∃ A,A=w.alloc (.cells #[.int .i64 yi,.bool s1,.int .u64 x1,.int .u64 y1,.pointer p1,.slice yq yn yc] 149):=⟨_,rfl⟩
 obtain ⟨W,hW⟩:∃ W,W=A.alloc (.cells #[.bool false,.int .u64 0,.int .u64 0,.pointer none] 29):=⟨_,rfl⟩
 have sA:A.heap.size=w.heap.size+1:=by rw [hA];simp
 have bA:But [] w A:=by rw [hA];exact (But.refl _ _).alloc _
 have bW:But [] A W:=by rw [hW];exact (But.refl _ _).alloc _
 have xR:BoxAt W (w.heap.size+1) 0:=by
  rw [hW,← sA]
  exact BoxAt.new A false 0 0 none 0 29 (zero_at _)
 have BW:=hide (bA.trans' bW)
 have XR:=hide xR
 clear hU e1 e2 hm hl bA bW xR
 go_enter Tryz.func101,Tryz.ntmps101
 go_wp2_with fail
 rw [← hA,← hW]
 refine (unhide PO _ (unhide BW)).mono ?_
 rintro e w1 ⟨v1,rfl,hf1,hb1⟩
 have B1:=hide ((unhide BW).trans' hb1)
 have X1:=hide ((unhide XR).but hb1)
 obtain ⟨x2,y2,p2,rfl,-⟩:=id hf1.agg
 generalize decide (G.num<0)=s2 at *
 have HF1:=hide hf1
 clear hb1 hf1 hA hW sA BW XR PO
 generalize hg4:w.heap.size+1=g4 at *
 have g4l:g4<w1.heap.size:=(unhide X1).lt
 obtain ⟨⟨t3,a3,b3,q3,⟨c0,c1,c2,c3⟩,-⟩,z3⟩:=unhide X1
 have P2:Hid (P4 w1 g4 t3 a3 b3 q3):=⟨c0,c1,c2,c3⟩
 go_wp2
 have hP:=put4_but w1 g4 s2 x2 y2 p2
 have hp4:=put4_p4 w1 g4 s2 x2 y2 p2 (unhide P2)
 have hF1:But [] w (put4 w1 g4 s2 x2 y2 p2):=(unhide B1).trans hP (fun x hx=>by simp at hx;subst hx;exact .inr (by omega))
 have hf1:=(unhide HF1).over (unhide P2).1 hP
 have bV:But [] (put4 w1 g4 s2 x2 y2 p2) ((put4 w1 g4 s2 x2 y2 p2).alloc (.cells #[.bool s2,.int .u64 x2,.int .u64 y2,.pointer p2] 29)):=(But.refl _ _).alloc _
 change bodyPost _ _ _ _ _ ((put4 w1 g4 s2 x2 y2 p2).alloc (.cells #[.bool s2,.int .u64 x2,.int .u64 y2,.pointer p2] 29))
 have hF:=hF1.trans' bV
 have hff:=hf1.but bV
 obtain ⟨m0,m1,m2,m3⟩:=hp4.but bV (by simp)
 generalize (put4 w1 g4 s2 x2 y2 p2).alloc (.cells #[.bool s2,.int .u64 x2,.int .u64 y2,.pointer p2] 29)=F at *
 exact bodyPost_ret (v:=.agg #[.bool s2,.int .u64 x2,.int .u64 y2,.pointer p2]) (by simp [results,Tryz.results101,go_sem,m0,m1,m2,m3]) rfl ⟨_,rfl,hff,hF⟩
def ahR (cs bs:List Rat) (m:Nat):Nat→Rat:=sgR (fun x=>cs[x]?.getD 0*bs[m-x]?.getD 0)
theorem ahead_any (inc th n cb co cc bb bo bn bc m mn:Nat) (s1:Bool) (x1 y1:Int) (p1:Option Addr) (cs bs:List Rat) (w:World) (hc:FracsAt w (.slice (some ⟨cb,co,none⟩) n cc) cs) (hb:FracsAt w (.slice (some ⟨bb,bo,none⟩) bn bc) bs)
  (hmI:m=th+inc) (hmn:mn=min n (m+1)) (hmb:m<bn) (hbn:bn≤300) (_hn1:n≤300) (hcc:n≤cc) (_hcc2:cc<1000000)
  (lc:∀ k,k<n→Len (cs[k]?.getD 0) 1000) (lb:∀ k,k≤m→Len (bs[k]?.getD 0) 1000) (ls:∀ k,k≤mn→Len (ahR cs bs m k) 1000) :
  Calls Tryz.prog 155 #[.agg #[.int .i64 (inc:Int),.bool s1,.int .u64 x1,.int .u64 y1,.pointer p1,.slice (some ⟨cb,co,none⟩) n cc],.slice (some ⟨bb,bo,none⟩) bn bc,.int .i64 (th:Int)] w fun e w'=>∃ v,e=.returned v∧FracAt w' v (ahR cs bs m mn)∧But [] w w':=by
 have HC:=hide hc
 have HB:=hide hb
 have LC:=hide lc
 have LB:=hide lb
 have LS:=hide ls
 have hm1:(th:Int)+(inc:Int)=(m:Int):=by omega
 have hmin:min (n:Int) ((m:Int)+1)=(mn:Int):=by omega
 have hmn1:mn≤n:=by omega
 have hmn2:mn≤m+1:=by omega
 have hmn3:mn≤cc:=by omega
 obtain ⟨A,hA⟩:∃ A,A=w.alloc (.cells #[.int .i64 (inc:Int),.bool s1,.int .u64 x1,.int .u64 y1,.pointer p1,.slice (some ⟨cb,co,none⟩) n cc] 149):=⟨_,rfl⟩
 obtain ⟨W1,hW1⟩:∃ W1,W1=A.alloc (.cells #[.bool false,.int .u64 0,.int .u64 0,.pointer none] 29):=⟨_,rfl⟩
 obtain ⟨W,hW⟩:∃ W,W=W1.alloc (.cells #[.bool false,.int .u64 0,.int .u64 0,.pointer none] 29):=⟨_,rfl⟩
 have sA:A.heap.size=w.heap.size+1:=by rw [hA];simp
 have sW1:W1.heap.size=w.heap.size+1+1:=by rw [hW1,← sA];simp
 have bA:But [] w A:=by rw [hA];exact (But.refl _ _).alloc _
 have bW1:But [] A W1:=by rw [hW1];exact (But.refl _ _).alloc _
 have bW:But [] W1 W:=by rw [hW];exact (But.refl _ _).alloc _
 have x6:BoxAt W (w.heap.size+1) 0:=by
  have h:BoxAt W1 (w.heap.size+1) 0:=by
   rw [hW1,← sA]
   exact BoxAt.new A false 0 0 none 0 29 (zero_at _)
  exact h.but bW
 have x8:BoxAt W (w.heap.size+1+1) 0:=by
  rw [hW,← sW1]
  exact BoxAt.new W1 false 0 0 none 0 29 (zero_at _)
 have BW:=hide ((bA.trans' bW1).trans' bW)
 have X6:=hide x6
 have X8:=hide x8
 clear hc hb lc lb ls hmI hmn x6 x8 bA bW1 bW
 go_enter Tryz.func155,Tryz.ntmps155
 go_wp2
 rw [← hA,← hW1,← hW]
 clear hA hW1 hW sA sW1 hm1 hmin
 generalize hg8:w.heap.size+1+1=g8 at *
 generalize hg6:w.heap.size+1=g6 at *
 go_loopw [25] (fun iv wr=>∃ k:Nat,k≤mn∧iv=.int .i64 (k:Int)∧Hid (BoxAt wr g8 (ahR cs bs m k)∧BoxAt wr g6 0∧But [] w wr)) (fun iv _=>mn-(intOf iv).toNat)
 case atStart=>exact ⟨0,Nat.zero_le _,rfl,unhide X8,unhide X6,unhide BW⟩
 case round =>
  obtain ⟨k,hk,rfl,HI⟩:=hrel
  rename World=>wr
  clear X6 X8 BW
  by_cases hlt:k<mn
  ·obtain ⟨sr,xr,yr,pr,⟨r0,r1,r2,r3⟩,hfr⟩:=((unhide HC).but (unhide HI).2.2).get k (by omega)
   have HFR:=hide hfr
   clear hfr
   go_wp2
   have bA:But [] wr (wr.alloc (.cells #[.bool sr,.int .u64 xr,.int .u64 yr,.pointer pr] 29)):=(But.refl _ _).alloc _
   have x7:=BoxAt.new wr sr xr yr pr _ 29 (unhide HFR)
   have D8:=hide ((unhide HI).1.but bA)
   have D6:=hide ((unhide HI).2.1.but bA)
   have DB:=hide ((unhide HI).2.2.trans' bA)
   have X7:=hide x7
   clear bA x7 HFR r0 r1 r2 r3 HI
   generalize wr.heap.size=g10 at *
   generalize wr.alloc (.cells #[.bool sr,.int .u64 xr,.int .u64 yr,.pointer pr] 29)=U at *
   obtain ⟨⟨t5,a5,b5,q5,c5,hf5⟩,z5⟩:=unhide D8
   obtain ⟨⟨t7,a7,b7,q7,c7,hf7⟩,-⟩:=unhide X7
   obtain ⟨t9,a9,b9,q9,c9,hf9⟩:=((unhide HB).but (unhide DB)).get (m-k) (by omega)
   have l7:=unhide LC k (by omega)
   have l9:=unhide LB (m-k) (by omega)
   have lm:=unhide LS k (by omega)
   refine ahead_region 6 _ _ U t5 a5 b5 q5 t7 a7 b7 q7 t9 a9 b9 q9 bb bo bn bc m k _ _ _ g8 g10 (by simp) (by simp [Act.eval]) c5 z5 (by simp [Act.eval]) (by simp [Act.eval]) (by simp [Act.eval]) (by simp [Act.eval]) (by omega) (by omega) (by omega) (by omega) c5 c7 c9 (fun w' hb=>fracMul_any _ _ _ _ w' (hf7.but hb) (hf9.but hb) (l7.mono (by omega)) (l9.mono (by omega))) (fun w' hb v' hv'=>fracAdd_any _ _ _ _ w' (hf5.but hb) hv' (lm.mono (by omega)) (len_mul l7 l9 499999 (by omega))) ?_
   intro w7 v8 s7 x7 y7 p7 hb7 hfz
   simp only [putted,List.foldl_cons,List.foldl_nil,Act.put,List.setIfInBounds_toArray,List.set_cons_zero,List.set_cons_succ]
   have ez:ahR cs bs m k+cs[k]?.getD 0*bs[m-k]?.getD 0=ahR cs bs m (k+1):=rfl
   rw [ez] at hfz
   have hP:=put4_but w7 g8 s7 x7 y7 p7
   have J8:=hide (((unhide D8).but hb7).put hfz)
   have J6:=hide (((unhide D6).but hb7).beside hP (by simp;omega) (fun g hg=>by simp at hg;subst hg;exact ((unhide D8).but hb7).bool))
   have JB:=hide (((unhide DB).trans' hb7).trans hP (fun x hx=>by simp at hx;subst hx;exact .inr (by omega)))
   generalize put4 w7 g8 s7 x7 y7 p7=V7 at *
   clear hP hfz hb7 D8 D6 DB X7 c5 c7 c9 hf5 hf7 hf9 z5 ez lm l7 l9
   go_wp2
   exact ⟨⟨k+1,by omega,by go_num,unhide J8,unhide J6,unhide JB⟩,by simp [intOf];omega⟩
  ·obtain rfl:k=mn:=by omega
   obtain ⟨⟨⟨t6,a6,b6,q6',⟨d0,d1,d2,d3⟩,hf6⟩,z6⟩,⟨⟨t2,a2,b2,q2,⟨c0,c1,c2,c3⟩,-⟩,z2⟩,hbw⟩:=unhide HI
   have HF6:=hide hf6
   have HBW:=hide hbw
   have P2:Hid (P4 wr g6 t2 a2 b2 q2):=⟨c0,c1,c2,c3⟩
   clear HI hf6 hbw
   go_wp2
   have hP:=put4_but wr g6 t6 a6 b6 q6'
   obtain ⟨m0,m1,m2,m3⟩:=put4_p4 wr g6 t6 a6 b6 q6' (unhide P2)
   have hF:But [] w (put4 wr g6 t6 a6 b6 q6'):=(unhide HBW).trans hP (fun x hx=>by simp at hx;subst hx;exact .inr (by omega))
   have hff:=(unhide HF6).over (unhide P2).1 hP
   change bodyPost _ _ _ _ _ (put4 wr g6 t6 a6 b6 q6')
   generalize put4 wr g6 t6 a6 b6 q6'=F at *
   exact bodyPost_ret (v:=.agg #[.bool t6,.int .u64 a6,.int .u64 b6,.pointer q6']) (by simp [results,Tryz.results155,go_sem,m0,m1,m2,m3]) rfl ⟨_,rfl,hff,hF⟩
end Go.Proofs.YtloojmaamaambaaGreatDoor

namespace Go.Proofs.YtloojmaamaambaaGreatDoor
open Go.RowKit
set_option maxHeartbeats 32000000
set_option maxRecDepth 100000
def lsR (a:Nat→Nat) (n c t s:Nat):Rat:=(((lsN a n c t s:Nat):Int):Rat)
theorem sgN_one (a:Nat→Nat) (k:Nat):∀ n,k<n→a k≤sgN a n
 | 0,h=>absurd h (by omega)
 | n+1,h=>by
  by_cases e:k=n
  ·subst e
   exact Nat.le_add_left _ _
  ·exact Nat.le_trans (sgN_one a k n (by omega)) (Nat.le_add_right _ _)
theorem ahead_is (a:Nat→Nat) (n c U t s mn:Nat) (cs bs:List Rat) (hcs:∀ k,k<n→cs[k]?.getD 0=(((a k:Nat):Int):Rat)) (hbs:∀ k,k≤s+c→bs[k]?.getD 0=lsR a n c t k) (hsum:sgN a n=U) (hmn:mn=min n (s+c+1)) (hl:(wd 18446744073709551616 U).length≤20) (ht:t<20) :
  ahR cs bs (s+c) mn=lsR a n c (t+1) s∧∀ k,k≤mn→Len (ahR cs bs (s+c) k) 1000:=by
 have e:∀ k,k≤mn→ahR cs bs (s+c) k=(((sgN (fun x=>a x*lsN a n c t (s+c-x)) k:Nat):Int):Rat):=fun k hk=>by
  unfold ahR
  refine (sgN_rat _ _ k (fun x hx=>?_)).symm
  rw [hcs x (by omega),hbs (s+c-x) (by omega)]
  unfold lsR
  rw [Int.natCast_mul,Rat.intCast_mul]
 refine ⟨?_,fun k hk=>?_⟩
 ·rw [e mn (Nat.le_refl _),hmn]
  rfl
 ·rw [e k hk]
  have h1:=lsN_part a n c U t s hsum (fun s=>lsN_le a n c U hsum t s) k (by omega)
  have h2:=wd_pow_gen U (t+1) 20 hl
  have h3:20*(t+1)≤20*20:=Nat.mul_le_mul_left _ (by omega)
  exact nat_len _ _ h1 (Nat.le_trans h2 (by omega)) (by omega)
theorem lasting_any (inc st ys n cb co cc U:Nat) (s1:Bool) (x1 y1:Int) (p1:Option Addr) (a:Nat→Nat) (p:Nat→Rat) (cs:List Rat) (w:World) (hU:FracAt w (.agg #[.bool s1,.int .u64 x1,.int .u64 y1,.pointer p1]) (((U:Nat):Int):Rat)) (hc:FracsAt w (.slice (some ⟨cb,co,none⟩) n cc) cs)
  (hcs:∀ k,k<n→cs[k]?.getD 0=(((a k:Nat):Int):Rat)) (hn0:0<n) (hn1:n≤41) (hcc:n≤cc) (hcc2:cc<1000000) (hst:st≤60) (hinc:inc≤20) (hys:ys≤6)
  (hpa:∀ x,(((a x:Nat):Int):Rat)=p x*(((U:Nat):Int):Rat)) (h1:sgR p n=1) (hsum:sgN a n=U) (hl:(wd 18446744073709551616 U).length≤20) :
  Calls Tryz.prog 100 #[.agg #[.int .i64 (inc:Int),.bool s1,.int .u64 x1,.int .u64 y1,.pointer p1,.slice (some ⟨cb,co,none⟩) n cc],.int .i64 (st:Int),.int .i64 (ys:Int)] w fun e w'=>∃ v,e=.returned v∧FracAt w' v (lsR a n inc ys st)∧But [] w w':=by
 obtain ⟨yi,hyi⟩:∃ yi,yi=ys*inc:=⟨_,rfl⟩
 have hyi1:yi≤120:=by rw [hyi];exact Nat.mul_le_mul hys hinc
 have hyI:(ys:Int)*(inc:Int)=(yi:Int):=by rw [hyi,Int.natCast_mul]
 obtain ⟨m,hm⟩:∃ m,m=st+yi+1:=⟨_,rfl⟩
 have hmI:(st:Int)+(yi:Int)+1=(m:Int):=by omega
 obtain ⟨N,hN⟩:∃ N,N=ys+1:=⟨_,rfl⟩
 have hNI:(ys:Int)+1=(N:Int):=by omega
 have hm0:0<m:=by omega
 have hm1:m≤181:=by omega
 have hN1:N≤7:=by omega
 have hNm:0<N*m:=Nat.mul_pos (by omega) hm0
 have RN:=hide (rowsNew_any N m (by omega) (by omega) hm0)
 have WA:=hide (fun W t (ht:t≤20) (h:But [] w W)=>yways_any (inc:Int) s1 x1 y1 p1 (some ⟨cb,co,none⟩) n cc U t W (hU.but h) ht hl)
 have LCS:Hid (∀ k,k<n→Len (cs[k]?.getD 0) 1000):=fun k hk=>by
  rw [hcs k hk]
  exact nat_len _ _ (by rw [← hsum];exact sgN_one a k n hk) (Nat.le_trans hl (by omega)) (by omega)
 have LBS:Hid (∀ t s,t≤20→Len (lsR a n inc t s) 1000):=fun t s ht=>by
  have h3:20*t≤20*20:=Nat.mul_le_mul_left _ ht
  exact nat_len _ _ (lsN_le a n inc U hsum t s) (Nat.le_trans (wd_pow_gen U t 20 hl) (by omega)) (by omega)
 have SURE:Hid (∀ t s:Nat,(t:Int)*((n:Int)-1-(inc:Int))≤(s:Int)→lsR a n inc t s=powR (((U:Nat):Int):Rat) t):=fun t s h=>by
  unfold lsR
  rw [lsN_sure p a n inc U hpa h1 t s h,powR_nat]
 have AIS:Hid (∀ t s mn bs,(∀ k,k≤s+inc→(bs:List Rat)[k]?.getD 0=lsR a n inc t k)→mn=min n (s+inc+1)→t<20→ahR cs bs (s+inc) mn=lsR a n inc (t+1) s∧∀ k,k≤mn→Len (ahR cs bs (s+inc) k) 1000):=fun t s mn bs hbs hmn ht=>ahead_is a n inc U t s mn cs bs hcs hbs hsum hmn hl ht
 have HC:=hide hc
 have HYI:=hide hyi
 have hN2:N≤ys+1:=by omega
 have hN3:ys+1≤N:=by omega
 have hm2:m≤st+yi+1:=by omega
 have hm3:st+yi+1≤m:=by omega
 clear hN hm
 obtain ⟨A,hA⟩:∃ A,A=w.alloc (.cells #[.int .i64 (inc:Int),.bool s1,.int .u64 x1,.int .u64 y1,.pointer p1,.slice (some ⟨cb,co,none⟩) n cc] 149):=⟨_,rfl⟩
 obtain ⟨W,hW⟩:∃ W,W=A.alloc (.cells #[.bool false,.int .u64 0,.int .u64 0,.pointer none] 29):=⟨_,rfl⟩
 have sA:A.heap.size=w.heap.size+1:=by rw [hA];simp
 have bA:But [] w A:=by rw [hA];exact (But.refl _ _).alloc _
 have bW:But [] A W:=by rw [hW];exact (But.refl _ _).alloc _
 have x3:YBox W w.heap.size (inc:Int) s1 x1 y1 p1 (.slice (some ⟨cb,co,none⟩) n cc):=by
  have h:YBox A w.heap.size (inc:Int) s1 x1 y1 p1 (.slice (some ⟨cb,co,none⟩) n cc):=by rw [hA];exact YBox.new _ _ _ _ _ _ _ _
  exact h.but bW (by simp)
 have x6:BoxAt W (w.heap.size+1) 0:=by
  rw [hW,← sA]
  exact BoxAt.new A false 0 0 none 0 29 (zero_at _)
 have X3:=hide x3
 have X6:=hide x6
 have BW:=hide (bA.trans' bW)
 clear hU hc hcs hpa h1 hsum hl hyi x3 x6 bA bW
 go_enter Tryz.func100,Tryz.ntmps100
 go_wp2_with fail
 rw [← hA,← hW]
 refine (unhide RN _).mono ?_
 rintro e w1 ⟨go,ga,rfl,hmat,hga,hgo,hgos,hb1⟩
 have B1:=hide ((unhide BW).trans' hb1)
 have X31:=hide ((unhide X3).but hb1 (by simp))
 have X61:=hide ((unhide X6).but hb1)
 have MT:=hide hmat
 have g3l:=(unhide X3).lt
 have g6l:=(unhide X6).lt
 have nGA:w.heap.size+1<ga:=by omega
 have sz1:ga<w1.heap.size∧go<w1.heap.size:=by omega
 clear hb1 hmat RN BW X3 X6 hA hW sA hga
 generalize hg6:w.heap.size+1=g6 at *
 generalize hg3:w.heap.size=g3 at *
 go_wp2
 clear hyI hmI
 go_loopw [24] (fun iv wr=>∃ k:Nat,k≤N∧iv=.int .i64 (k:Int)∧Hid ((∃ F,MatAt wr go ga N m F∧∀ l,l<k→∀ s,s<st+(ys-l)*inc+1→F (l*m+s)=lsR a n inc l s)∧YBox wr g3 (inc:Int) s1 x1 y1 p1 (.slice (some ⟨cb,co,none⟩) n cc)∧BoxAt wr g6 0∧(ga<wr.heap.size∧go<wr.heap.size)∧But [] w wr)) (fun iv _=>N-(intOf iv).toNat)
 case atStart=>exact ⟨0,Nat.zero_le _,rfl,⟨_,unhide MT,fun l hl=>absurd hl (by omega)⟩,unhide X31,unhide X61,sz1,unhide B1⟩
 case round =>
  obtain ⟨k,hk,rfl,HI⟩:=hrel
  rename World=>wr
  clear MT X31 X61 sz1 B1
  by_cases hlt:k<N
  ·obtain ⟨lm,hlm⟩:∃ lm,lm=(ys-k)*inc:=⟨_,rfl⟩
   have hlmI:((ys:Int)-(k:Int))*(inc:Int)=(lm:Int):=by
    rw [hlm,Int.natCast_mul,Int.natCast_sub (by omega)]
   have hlm1:lm≤yi:=by rw [hlm,unhide HYI];exact Nat.mul_le_mul_right _ (by omega)
   obtain ⟨lim,hlim⟩:∃ lim,lim=st+lm+1:=⟨_,rfl⟩
   have hlimI:(st:Int)+(lm:Int)+1=(lim:Int):=by omega
   have hlim2:lim≤st+lm+1:=by omega
   have hlim3:st+lm+1≤lim:=by omega
   clear hlim
   obtain ⟨en,hen⟩:∃ en:Int,en=(k:Int)*((n:Int)-1-(inc:Int)):=⟨_,rfl⟩
   have hen2:(k:Int)*((n:Int)-1-(inc:Int))=en:=hen.symm
   have hen3:-200≤en∧en≤400:=by
    have:k=0∨k=1∨k=2∨k=3∨k=4∨k=5∨k=6:=by omega
    rw [hen]
    rcases this with rfl | rfl | rfl | rfl | rfl | rfl | rfl <;> omega
   obtain ⟨hen4,hen5⟩:=hen3
   have HLM:=hide hlm
   have HEN:=hide hen
   have hen0:k=0→en≤0:=fun h=>by rw [hen,h];simp
   have HEN0:=hide hen0
   obtain ⟨y0,y1',y2,y3,y4,y5,-⟩:=(unhide HI).2.1
   have WK:=hide (unhide WA wr k (by omega) (unhide HI).2.2.2.2)
   clear hlm hen hen0
   go_wp2_with fail
   refine (unhide WK).mono ?_
   rintro e w2 ⟨v2,rfl,hf2,hb2⟩
   obtain ⟨x2,y2',p2,rfl,-⟩:=id hf2.agg
   generalize decide ((powR (((U:Nat):Int):Rat) k).num<0)=s2 at *
   obtain ⟨V,hV⟩:∃ V,V=w2.alloc (.cells #[.bool s2,.int .u64 x2,.int .u64 y2',.pointer p2] 29):=⟨_,rfl⟩
   have bV:But [] w2 V:=by rw [hV];exact (But.refl _ _).alloc _
   have hbV:=hb2.trans' bV
   obtain ⟨⟨F0,hm0F,ht0⟩,hyb,hb6,⟨hsa,hso⟩,hbw⟩:=unhide HI
   have X9:Hid (BoxAt V w2.heap.size (powR (((U:Nat):Int):Rat) k)):=by rw [hV];exact BoxAt.new w2 s2 x2 y2' p2 _ 29 hf2
   have VM:=hide (hm0F.but hbV hsa)
   have VT:=hide ht0
   have VY:=hide (hyb.but hbV (by simp))
   have V6:=hide (hb6.but hbV)
   have VB:=hide (hbw.trans' hbV)
   have VS:ga<V.heap.size∧go<V.heap.size:=by have:=hbV.size;omega
   have g9n:ga<w2.heap.size∧g6<w2.heap.size∧g3<w2.heap.size:=by
    have:=hb2.size
    have:=hb6.lt
    have:=hyb.lt
    omega
   have y0':=hb2.cell_some y0 (by simp)
   have y5':=hb2.cell_some y5 (by simp)
   clear hm0F ht0 hyb hb6 hbw hf2 hb2 hbV bV HI WK y0 y1' y2 y3 y4 y5 hsa hso
   obtain ⟨g9n1,g9n2,g9n3⟩:=g9n
   go_wp2
   rw [← hV]
   clear hV y0' y5' hlmI hlimI hen2
   generalize w2.heap.size=g9 at *
   go_loopw [48] (fun iv wr=>∃ j:Nat,j≤lim∧iv=.int .i64 (j:Int)∧Hid ((∃ F,MatAt wr go ga N m F∧(∀ l,l<k→∀ s,s<st+(ys-l)*inc+1→F (l*m+s)=lsR a n inc l s)∧∀ s,s<j→F (k*m+s)=lsR a n inc k s)∧YBox wr g3 (inc:Int) s1 x1 y1 p1 (.slice (some ⟨cb,co,none⟩) n cc)∧BoxAt wr g6 0∧BoxAt wr g9 (powR (((U:Nat):Int):Rat) k)∧(ga<wr.heap.size∧go<wr.heap.size)∧But [] w wr)) (fun iv _=>lim-(intOf iv).toNat)
   case atStart=>exact ⟨0,Nat.zero_le _,rfl,⟨_,unhide VM,unhide VT,fun s hs=>absurd hs (by omega)⟩,unhide VY,unhide V6,unhide X9,VS,unhide VB⟩
   case round =>
    obtain ⟨j,hj,rfl,HJ⟩:=hrel
    rename World=>wj
    clear VM VT VY V6 X9 VS VB
    by_cases hjl:j<lim
    ·have hjm:j<m:=by omega
     have hkm:k*m+m≤N*m:=by
      have:=Nat.mul_le_mul_right m (show k+1≤N by omega)
      rw [Nat.succ_mul] at this
      exact this
     have hkj:k*m+j<N*m:=by omega
     obtain ⟨⟨F,hM,hT1,hT2⟩,hY,h6,h9,⟨hsa,hso⟩,hbw⟩:=unhide HJ
     have HM:=hide hM
     have HT1:=hide hT1
     have HT2:=hide hT2
     have HY:=hide hY
     have H6:=hide h6
     have H9:=hide h9
     have HBW:=hide hbw
     obtain ⟨sb,xb,yb,pb,cb',-⟩:=hM.all.told (k*m+j) hkj
     have CB:=hide cb'
     have e4:(k*m+j)*4=k*m*4+j*4:=by rw [Nat.add_mul]
     have FIN:Hid (∀ (f:Rat) (w5:World) (s':Bool) (x' y':Int) (p':Option Addr),f=lsR a n inc k j→But [] wj w5→FracAt w5 (.agg #[.bool s',.int .u64 x',.int .u64 y',.pointer p']) f→((∃ F,MatAt (w5.setCells ga ((k*m+j)*4) [.bool s',.int .u64 x',.int .u64 y',.pointer p']) go ga N m F∧(∀ l,l<k→∀ s,s<st+(ys-l)*inc+1→F (l*m+s)=lsR a n inc l s)∧∀ s,s<j+1→F (k*m+s)=lsR a n inc k s)∧YBox (w5.setCells ga ((k*m+j)*4) [.bool s',.int .u64 x',.int .u64 y',.pointer p']) g3 (inc:Int) s1 x1 y1 p1 (.slice (some ⟨cb,co,none⟩) n cc)∧BoxAt (w5.setCells ga ((k*m+j)*4) [.bool s',.int .u64 x',.int .u64 y',.pointer p']) g6 0∧BoxAt (w5.setCells ga ((k*m+j)*4) [.bool s',.int .u64 x',.int .u64 y',.pointer p']) g9 (powR (((U:Nat):Int):Rat) k)∧(ga<(w5.setCells ga ((k*m+j)*4) [.bool s',.int .u64 x',.int .u64 y',.pointer p']).heap.size∧go<(w5.setCells ga ((k*m+j)*4) [.bool s',.int .u64 x',.int .u64 y',.pointer p']).heap.size)∧But [] w (w5.setCells ga ((k*m+j)*4) [.bool s',.int .u64 x',.int .u64 y',.pointer p']))):=fun f w5 s' x' y' p' hf hb5 hfa=>by
      have hS:=but_setCells w5 ga [.bool s',.int .u64 x',.int .u64 y',.pointer p'] ((k*m+j)*4)
      have hM5:=hM.but hb5 hsa
      have hbo:=hM5.all.bool hNm
      refine ⟨⟨setF F (k*m+j) f,⟨hM5.all.set hkj s' x' y' p' f hfa,fun i hi=>hS.cell_some (hM5.rows i hi) (by simp;omega)⟩,fun l hl s hs=>?_,fun s hs=>?_⟩,(hY.but hb5 (by simp)).but hS (by simp;omega),(h6.but hb5).beside hS (by simp;omega) (fun g hg=>by simp at hg;subst hg;exact hbo),(h9.but hb5).beside hS (by simp;omega) (fun g hg=>by simp at hg;subst hg;exact hbo),?_,(hbw.trans' hb5).trans hS (fun x hx=>by simp at hx;subst hx;exact .inr (by omega))⟩
      ·have hlm2:l*m+m≤k*m:=by
        have:=Nat.mul_le_mul_right m (show l+1≤k by omega)
        rw [Nat.succ_mul] at this
        exact this
       have hsm:s<m:=by
        have:(ys-l)*inc≤yi:=by rw [unhide HYI];exact Nat.mul_le_mul_right _ (by omega)
        omega
       unfold setF
       rw [if_neg (by omega)]
       exact hT1 l hl s hs
      ·unfold setF
       by_cases e:s=j
       ·rw [if_pos (by omega),hf,e]
       ·rw [if_neg (by omega)]
        exact hT2 s (by omega)
      ·have:=hb5.size
       have:=hS.size
       omega
     obtain ⟨⟨t9,a9,b9,q9,c9,hf9⟩,z9⟩:=h9
     have hNN:N<1000000:=by omega
     have hmm:m<1000000:=by omega
     by_cases hge:en≤(j:Int)
     ·have hval:=unhide SURE k j (by rw [← unhide HEN];exact hge)
      clear hM hT1 hT2 hY h6 hbw HJ
      go_wp2
      refine lasting_region11 11 _ _ wj ga (k*m*4+j*4) go N (k*m*4) m m k j t9 a9 b9 q9 _ g9 (by simp) (by rw [← e4];exact cb') (fun o=>(unhide HM).all.loose o) (by simp [Act.eval]) (by simp [Act.eval]) (by simp [Act.eval]) (by simp [Act.eval]) rfl hlt hNN hjm hmm (by rw [Nat.zero_add];exact (unhide HM).rows k hlt) c9 hf9 ?_
      intro w5 s' x' y' p' hb5 hf5
      simp only [putted,List.foldl_cons,List.foldl_nil,Act.put,List.setIfInBounds_toArray,List.set_cons_zero,List.set_cons_succ]
      have JJ:=hide (unhide FIN _ w5 s' x' y' p' hval.symm hb5 hf5)
      rw [e4] at JJ
      generalize w5.setCells ga (k*m*4+j*4) [.bool s',.int .u64 x',.int .u64 y',.pointer p']=V5 at *
      clear hb5 hf5 FIN HM HT1 HT2 HY H6 H9 HBW CB cb' c9 hf9 z9 hval e4
      go_wp2
      exact ⟨⟨j+1,by omega,by go_num,unhide JJ⟩,by simp [intOf];omega⟩
     ·obtain ⟨kb,hkb⟩:∃ kb,k=kb+1:=⟨k-1,by
       have:k≠0:=fun h=>by
        have:=unhide HEN0 h
        omega
       omega⟩
      have hmx:((ys-kb)*inc)=lm+inc:=by
       rw [unhide HLM,show ys-kb=(ys-k)+1 from by omega,Nat.succ_mul]
      have hji:j+inc<m:=by
       have:(ys-kb)*inc≤yi:=by rw [unhide HYI];exact Nat.mul_le_mul_right _ (by omega)
       omega
      have hbs:∀ s,s≤j+inc→((List.range m).map fun s=>F (kb*m+s))[s]?.getD 0=lsR a n inc kb s:=fun s hs=>by
       rw [List.getElem?_map,List.getElem?_range (by omega)]
       exact hT1 kb (by omega) s (by omega)
      obtain ⟨mn,hmn⟩:∃ mn,mn=min n (j+inc+1):=⟨_,rfl⟩
      obtain ⟨hval,hlen⟩:=unhide AIS kb j mn _ hbs hmn (by omega)
      have AH:=hide (fun W (hb:But [] wj W)=>ahead_any inc j n cb co cc ga (kb*m*4) m m (j+inc) mn s1 x1 y1 p1 cs _ W ((unhide HC).but (hbw.trans' hb)) ((hM.but hb hsa).row kb (by omega)) rfl hmn hji (by omega) (by omega) hcc hcc2 (unhide LCS) (fun s hs=>by rw [hbs s hs];exact unhide LBS kb s (by omega)) hlen)
      rw [hval,← hkb] at AH
      have HKB:=hide hkb
      have hkb1:kb<k:=by omega
      clear hkb
      clear hM hT1 hT2 h6 hbw HJ hbs hlen hmn hval
      go_wp2
      refine lasting_region12 12 _ _ wj ga (k*m*4+j*4) go N (k*m*4) (kb*m*4) m m k kb j (inc:Int) s1 x1 y1 p1 (some ⟨cb,co,none⟩) n cc _ g3 (by simp) (by rw [← e4];exact cb') (fun o=>(unhide HM).all.loose o) (by simp [Act.eval]) (by simp [Act.eval]) (by simp [Act.eval]) (by simp [Act.eval]) rfl (unhide HKB) hlt hNN hjm hmm (by rw [Nat.zero_add];exact (unhide HM).rows k hlt) (by rw [Nat.zero_add];exact (unhide HM).rows kb (by omega)) hY (fun W hb=>unhide AH W hb) ?_
      intro w5 s' x' y' p' hb5 hf5
      simp only [putted,List.foldl_cons,List.foldl_nil,Act.put,List.setIfInBounds_toArray,List.set_cons_zero,List.set_cons_succ]
      have JJ:=hide (unhide FIN _ w5 s' x' y' p' rfl hb5 hf5)
      rw [e4] at JJ
      generalize w5.setCells ga (k*m*4+j*4) [.bool s',.int .u64 x',.int .u64 y',.pointer p']=V5 at *
      clear hb5 hf5 FIN HM HT1 HT2 HY H6 H9 HBW CB cb' c9 hf9 z9 hY e4 AH
      go_wp2
      exact ⟨⟨j+1,by omega,by go_num,unhide JJ⟩,by simp [intOf];omega⟩
    ·obtain rfl:j=lim:=by omega
     obtain ⟨⟨F,hM,hT1,hT2⟩,hY,h6,h9,hsz,hbw⟩:=unhide HJ
     have JJ:Hid ((∃ F,MatAt wj go ga N m F∧∀ l,l<k+1→∀ s,s<st+(ys-l)*inc+1→F (l*m+s)=lsR a n inc l s)∧YBox wj g3 (inc:Int) s1 x1 y1 p1 (.slice (some ⟨cb,co,none⟩) n cc)∧BoxAt wj g6 0∧(ga<wj.heap.size∧go<wj.heap.size)∧But [] w wj):=⟨⟨F,hM,fun l hl s hs=>by
      by_cases e:l=k
      ·subst e
       exact hT2 s (by rw [← unhide HLM] at hs;omega)
      ·exact hT1 l (by omega) s hs⟩,hY,h6,hsz,hbw⟩
     clear hM hT1 hT2 hY h6 h9 hsz hbw HJ
     go_wp2
     exact ⟨⟨k+1,by omega,by go_num,unhide JJ⟩,by simp [intOf];omega⟩
  ·obtain rfl:k=N:=by omega
   obtain ⟨⟨F,hM,hT⟩,hY,⟨⟨t2,a2,b2,q2,⟨c0,c1,c2,c3⟩,-⟩,z2⟩,⟨hsa,hso⟩,hbw⟩:=unhide HI
   have hys1:ys<k:=by omega
   have hys2:ys*m+st<k*m:=by
    have:=Nat.mul_le_mul_right m (show ys+1≤k by omega)
    rw [Nat.succ_mul] at this
    omega
   have hrow:=hM.rows ys hys1
   have hval:=hT ys hys1 st (by omega)
   obtain ⟨t6,a6,b6,q6',cc6,hf6⟩:=hM.all.told (ys*m+st) hys2
   rw [hval] at hf6
   have e4:(ys*m+st)*4=ys*m*4+st*4:=by rw [Nat.add_mul]
   rw [e4] at cc6
   obtain ⟨d0,d1,d2,d3⟩:=cc6
   have HF6:=hide hf6
   have HBW:=hide hbw
   have P2:Hid (P4 wr g6 t2 a2 b2 q2):=⟨c0,c1,c2,c3⟩
   have hsm:st<m:=by omega
   clear HI hf6 hbw hM hT hY hval hys2 e4
   go_wp2
   have hP:=put4_but wr g6 t6 a6 b6 q6'
   obtain ⟨m0,m1,m2,m3⟩:=put4_p4 wr g6 t6 a6 b6 q6' (unhide P2)
   have hF:But [] w (put4 wr g6 t6 a6 b6 q6'):=(unhide HBW).trans hP (fun x hx=>by simp at hx;subst hx;exact .inr (by omega))
   have hff:=(unhide HF6).over (unhide P2).1 hP
   change bodyPost _ _ _ _ _ (put4 wr g6 t6 a6 b6 q6')
   generalize put4 wr g6 t6 a6 b6 q6'=F' at *
   exact bodyPost_ret (v:=.agg #[.bool t6,.int .u64 a6,.int .u64 b6,.pointer q6']) (by simp [results,Tryz.results100,go_sem,m0,m1,m2,m3]) rfl ⟨_,rfl,hff,hF⟩
end Go.Proofs.YtloojmaamaambaaGreatDoor
