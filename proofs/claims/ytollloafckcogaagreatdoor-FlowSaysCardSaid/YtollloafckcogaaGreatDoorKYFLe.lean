/- Discounts, as the Go text of package flo -/
import Derived.Laws.IdiomCopy
import Derived.Test.YtollloafckcogaaGreatDoorKYFLd
import Derived.Test.YtollloafckcogaaGreatDoorKYRLq
import Derived.Test.YtollloafckcogaaGreatDoorKYU2
namespace Go.Proofs.YtollloafckcogaaGreatDoor
open Go.RowKit
set_option maxHeartbeats 16000000
set_option maxRecDepth 100000
set_option linter.unusedVariables false
theorem flowCheck_limit (a:Option Addr) (n c:Nat) (w:World) (hn:120<n) :
  Calls Tryz.prog 49 #[.slice a n c] w fun e w'=>e=.returned (.iface 33 (.int .i64 4))∧But [] w w':=by
 go_enter Tryz.func49,Tryz.ntmps49
 go_wp2
 go_ret
 exact ⟨rfl,But.refl _ _⟩
theorem flowCheck_ok (v:Value) (rs:List Rat) (R:Nat→Rat) (w:World) (hr:FracsAt w v rs) (hR:∀ i,i<rs.length→rs[i]?.getD 0=R i) (hn:rs.length≤120) (lr:∀ i,i<rs.length→Len (R i) 1) (hg:∀ i,i<rs.length→0<1+R i) :
  Calls Tryz.prog 49 #[v] w fun e w'=>e=.returned .nilIface∧But [] w w':=by
 refine (check_any v rs w hr hn (fun t ht=>by rw [hR t ht];exact lr t ht)).mono ?_
 rintro e w' ⟨u,he,hu,hb⟩
 rcases hu with ⟨rfl,-⟩ | ⟨-,t,ht,hnot⟩
 ·exact ⟨he,hb⟩
 ·exact absurd (numPosL.2 (hg t ht)) (by rw [hR t ht] at hnot;exact hnot)
theorem flowCheck_bad (v:Value) (rs:List Rat) (R:Nat→Rat) (w:World) (hr:FracsAt w v rs) (hR:∀ i,i<rs.length→rs[i]?.getD 0=R i) (hn:rs.length≤120) (lr:∀ i,i<rs.length→Len (R i) 1) (hb:∃ t,t<rs.length∧¬ 0<1+R t) :
  Calls Tryz.prog 49 #[v] w fun e w'=>e=.returned (.iface 33 (.int .i64 1))∧But [] w w':=by
 refine (check_any v rs w hr hn (fun t ht=>by rw [hR t ht];exact lr t ht)).mono ?_
 rintro e w' ⟨u,he,hu,hb'⟩
 rcases hu with ⟨-,hall⟩ | ⟨rfl,-⟩
 ·obtain ⟨t,ht,hnt⟩:=hb
  have:=hall t ht
  rw [hR t ht] at this
  exact absurd (numPosL.1 this) hnt
 ·exact ⟨he,hb'⟩
theorem fracs_cells {w:World} {v:Value} {rs:List Rat} {R:Nat→Rat} (hr:FracsAt w v rs) (hR:∀ i,i<rs.length→rs[i]?.getD 0=R i):∃ a cap,v=.slice a rs.length cap∧rs.length≤cap∧∀ W,But [] w W→∀ i,i<rs.length→∃ b off s x y p,a=some ⟨b,off,none⟩∧b<w.heap.size∧P4o W b (off+i*4) s x y p∧FracAt W (.agg #[.bool s,.int .u64 x,.int .u64 y,.pointer p]) (R i):=by
 obtain ⟨a,cap,e,h1,h2⟩:=hr
 refine ⟨a,cap,e,h1,fun W hb i hi=>?_⟩
 obtain ⟨b,off,ea,s,x,y,p,h3,h4⟩:=h2 i rs[i] (List.getElem?_eq_getElem hi)
 have:=hR i hi
 rw [List.getElem?_eq_getElem hi,Option.getD_some] at this
 rw [this] at h4
 exact ⟨b,off,s,x,y,p,ea,h3.lt,h3.but hb (by simp),h4.but hb⟩
theorem flowDisc_ok (vr:Value) (rs:List Rat) (R:Nat→Rat) (w:World) (hr:FracsAt w vr rs) (hR:∀ i,i<rs.length→rs[i]?.getD 0=R i) (hn:rs.length≤120) (lr:∀ i,i<rs.length→Len (R i) 1) (hg:∀ i,i<rs.length→0<1+R i) :
  Calls Tryz.prog 13 #[vr] w fun e w'=>∃ v',e=.returned (.tuple #[v',.nilIface])∧FracsAt w' v' ((List.range (rs.length+1)).map (discR R))∧But [] w w':=by
 have CK:=hide (flowCheck_ok vr rs R w hr hR hn lr hg)
 obtain ⟨a,cap,rfl,hcap,hc⟩:=fracs_cells hr hR
 obtain ⟨sw,xw,FW,CW⟩:=whole_is 1 (by omega) (by omega)
 have HC:=hide hc
 have HG:=hide (And.intro lr hg)
 have WH:=hide CW
 have WF:Hid (∀ W,FracAt W (.agg #[.bool sw,.int .u64 xw,.int .u64 0,.pointer none]) (discR R 0)):=FW
 clear hr hR lr hg hc FW CW
 obtain ⟨n,hnn⟩:∃ n,n=rs.length:=⟨_,rfl⟩
 rw [← hnn] at hn hcap CK HC HG
 rw [← hnn]
 clear hnn
 obtain ⟨N,hN⟩:∃ N,N=n+1:=⟨_,rfl⟩
 have hNI:(n:Int)+1=(N:Int):=by omega
 have hmk:=fun wx=>run_makeF wx N (by omega)
 have hN0:0<N:=by omega
 have HN:=hide hN
 rw [← hN]
 clear hN
 go_enter Tryz.func13,Tryz.ntmps13
 go_wp2_with fail
 refine (unhide CK).mono ?_
 rintro e w1 ⟨rfl,hb1⟩
 obtain ⟨U,hU⟩:∃ U,U=w1.alloc (.cells (madeCells #[.bool false,.int .u64 0,.int .u64 0,.pointer none] (N*4)) 27):=⟨_,rfl⟩
 have bU:But [] w1 U:=by rw [hU];exact (But.refl _ _).alloc _
 have rU:Row4 U w1.heap.size N 0 (discR R):=by rw [hU];exact Row4.made w1 N _
 have lU:w1.heap.size<U.heap.size:=by rw [hU];simp
 obtain ⟨G,hG⟩:∃ G,G=w1.heap.size:=⟨_,rfl⟩
 rw [← hG] at rU lU
 have HZ:Hid (w.heap.size≤G):=by show _≤_;rw [hG];exact hb1.size
 have I0:Hid (Row4 U G N 0 (discR R)∧G<U.heap.size∧But [] w U):=⟨rU,lU,hb1.trans' bU⟩
 have HU:=hide hU
 clear hU bU rU lU hb1 CK
 go_wp2_with fail
 rw [← unhide HU,← hG]
 clear HU hG
 refine (unhide WH U).mono ?_
 rintro e w2 ⟨rfl,hb2⟩
 have r2:=(unhide I0).1.but hb2 (unhide I0).2.1
 have g2:G<w2.heap.size:=Nat.lt_of_lt_of_le (unhide I0).2.1 hb2.size
 have b2:=(unhide I0).2.2.trans' hb2
 obtain ⟨k0,k1,k2,k3⟩:=r2.blank 0 (Nat.le_refl _) hN0
 have pf:=r2.loose
 have rT:=r2.next hN0 sw xw 0 none (unhide WF w2)
 have bT:=but_setCells w2 G [.bool sw,.int .u64 xw,.int .u64 0,.pointer none] (0*4)
 have I1:Hid (Row4 (w2.setCells G (0*4) [.bool sw,.int .u64 xw,.int .u64 0,.pointer none]) G N (0+1) (discR R)∧G<(w2.setCells G (0*4) [.bool sw,.int .u64 xw,.int .u64 0,.pointer none]).heap.size∧But [] w (w2.setCells G (0*4) [.bool sw,.int .u64 xw,.int .u64 0,.pointer none])):=⟨rT,Nat.lt_of_lt_of_le g2 bT.size,b2.trans bT (fun x hx=>by simp at hx;subst hx;exact .inr (unhide HZ))⟩
 simp only [Nat.zero_mul,Nat.zero_add] at k0 k1 k2 k3
 clear rT bT b2 r2 hb2 I0 WH hmk
 go_wp2
 go_loopw [22] (fun i wr=>∃ k:Nat,k≤n∧i=.int .i64 (k:Int)∧Hid (Row4 wr G N (k+1) (discR R)∧G<wr.heap.size∧But [] w wr)) (fun i _=>n-(intOf i).toNat)
 case atStart =>
  have I2:=unhide I1
  simp only [Nat.zero_mul,Nat.zero_add] at I2
  exact ⟨0,Nat.zero_le _,rfl,I2⟩
 case round =>
  obtain ⟨k,hk,rfl,HI⟩:=hrel
  rename World=>wr
  clear I1
  by_cases hlt:k<n
  ·obtain ⟨hrow,hG2,hb⟩:=unhide HI
   obtain ⟨b,off,sq,xq,yq,pq,rfl,hbl,cq,hfq⟩:=unhide HC wr hb k hlt
   obtain ⟨q0,q1,q2,q3⟩:=id cq
   obtain ⟨st,xt,yt,pt,ct,hft⟩:=hrow.told k (by omega)
   obtain ⟨X,hX⟩:∃ X,X=wr.alloc (.cells #[.bool sq,.int .u64 xq,.int .u64 yq,.pointer pq] 27):=⟨_,rfl⟩
   have bX:But [] wr X:=by rw [hX];exact (But.refl _ _).alloc _
   obtain ⟨D,hD⟩:∃ D,D=wr.heap.size:=⟨_,rfl⟩
   have cX:P4o X D 0 sq xq yq pq:=by rw [hX,hD];exact ⟨by simp,by simp,by simp,by simp⟩
   obtain ⟨lr,hg⟩:=unhide HG
   have lD:=len_disc (r:=R) k (fun i hi=>hg i (by omega)) (fun i hi=>lr i (by omega))
   have GR:=hide (fun W (hb:But [] X W)=>in_prod (growth_any _ (R k) W ((hfq.but bX).but hb) (lr k hlt)))
   have DV:=hide (fun W (z:FZ) (hb:But [] X W) (h:FracAt W (.agg #[.bool z.1,.int .u64 z.2.1,.int .u64 z.2.2.1,.pointer z.2.2.2]) (1+R k))=>in_prod (r:=discR R (k+1)) (divided_any _ _ (discR R k) (1+R k) W ((hft.but bX).but hb) h (lD.mono (by omega)) ((len_add (len_int 1 (by decide)) (lr k hlt) 3 (by omega)).mono (by omega)) (Int.ne_of_gt (numPosL.2 (hg k hlt)))))
   have XI:=hide (And.intro (hrow.but bX hG2) (And.intro (Nat.lt_of_lt_of_le hG2 bX.size) (hb.trans' bX)))
   have CX:=hide cX
   have CT:=hide (ct.but bX (by simp))
   have HX:=hide hX
   have hkN:k<N:=by have:=unhide HN;omega
   have hkN1:k+1<N:=by have:=unhide HN;omega
   clear hrow hG2 hb cq hfq ct hft bX cX hX lD lr hg
   go_wp2_with fail
   rw [← unhide HX,← hD]
   clear HX hD
   have xi:=unhide XI
   have blk:=xi.1.blank (k+1) (Nat.le_refl _) hkN1
   refine disc_region9 9 _ _ X G D N k (k+1) (1+R k) (discR R (k+1)) st xt yt pt sq xq yq pq false 0 0 none (by simp) (by simp [Act.eval]) (by simp [Act.eval]) (by simp [Act.eval]) hkN hkN1 rfl (by omega) (unhide CT) (unhide CX) blk xi.1.loose (unhide GR) (unhide DV) ?_
   intro za zb w3 hP2
   simp only [putted,List.foldl_cons,List.foldl_nil,Act.put,List.setIfInBounds_toArray,List.set_cons_zero,List.set_cons_succ]
   have m2:=hP2.mem
   have r2:=xi.1.but m2 xi.2.1
   have bT:=but_setCells w3 G [.bool zb.1,.int .u64 zb.2.1,.int .u64 zb.2.2.1,.pointer zb.2.2.2] ((k+1)*4)
   have rT:=r2.next hkN1 zb.1 zb.2.1 zb.2.2.1 zb.2.2.2 (hP2.f9 rfl)
   have NS:=hide (And.intro rT (And.intro (Nat.lt_of_lt_of_le xi.2.1 (Nat.le_trans m2.size bT.size)) ((xi.2.2.trans' m2).trans bT (fun x hx=>by simp at hx;subst hx;exact .inr (unhide HZ)))))
   clear bT rT r2 m2 hP2 xi XI CX CT GR DV q0 q1 q2 q3 blk
   generalize w3.setCells G ((k+1)*4) [.bool zb.1,.int .u64 zb.2.1,.int .u64 zb.2.2.1,.pointer zb.2.2.2]=T at *
   go_wp2
   exact ⟨⟨k+1,by omega,by go_num,unhide NS⟩,by simp [intOf];omega⟩
  ·obtain rfl:k=n:=by omega
   go_wp2
   obtain ⟨r1,-,r6⟩:=unhide HI
   have hrow:Row4 wr G N N (discR R):=by rw [← unhide HN] at r1;exact r1
   exact bodyPost_ret (v:=.tuple #[.slice (some ⟨G,0,none⟩) N N,.nilIface]) (by simp [results,Tryz.results13,go_sem]) rfl ⟨_,rfl,hrow.fracs,r6⟩
theorem flowDisc_err (vr:Value) (z:Int) (w:World) (CK:Calls Tryz.prog 49 #[vr] w fun e w'=>e=.returned (.iface 33 (.int .i64 z))∧But [] w w') :
  Calls Tryz.prog 13 #[vr] w fun e w'=>e=.returned (.tuple #[.slice none 0 0,.iface 33 (.int .i64 z)])∧But [] w w':=by
 have C1:=hide CK
 clear CK
 go_enter Tryz.func13,Tryz.ntmps13
 go_wp2_with fail
 refine (unhide C1).mono ?_
 rintro e w1 ⟨rfl,hb⟩
 have B1:=hide hb
 clear hb C1
 go_wp2
 exact bodyPost_ret (v:=.tuple #[.slice none 0 0,.iface 33 (.int .i64 z)]) (by simp [results,Tryz.results13,go_sem]) rfl ⟨rfl,unhide B1⟩
end Go.Proofs.YtollloafckcogaaGreatDoor
