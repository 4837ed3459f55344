/- Words are added to words, and taken from -/
import Derived.Test.YtagmkkiagjmimaaGreatDoorXN1
import Derived.Test.YtagmkkiagjmimaaGreatDoorXPc
import Derived.Test.YtagmkkiagjmimaaGreatDoorXSB
namespace Go.Proofs.YtagmkkiagjmimaaGreatDoor
set_option linter.unusedVariables false
open Go.Proofs.Tryz
open Go.RowKit
set_option maxHeartbeats 2000000
set_option maxRecDepth 100000
theorem l7 (x y c:Nat) (hx:x < 18446744073709551616) (hy:y < 18446744073709551616) (hc:c≤1):∃ s k,s < 18446744073709551616∧k≤1∧x+y+c=s + 18446744073709551616*k :=
 ⟨(x+y+c) % 18446744073709551616,(x+y+c) / 18446744073709551616,by omega,by omega,by omega⟩
theorem ko (x y c:Nat) (hx:x < 18446744073709551616) (hy:y < 18446744073709551616) (hc:c≤1):∃ s k,s < 18446744073709551616∧k≤1∧s+y+c=x + 18446744073709551616*k :=
 if h:y+c≤x then ⟨x-y-c,0,by omega,by omega,by omega⟩ else ⟨x + 18446744073709551616-y-c,1,by omega,by omega,by omega⟩
theorem ziu (g o cap:Nat) (rs ys:List Nat) (vy:Value) (w:World) (hs:Seg w g o rs) (_hc:rs.length≤cap) (hy:Sl .u64 w vy ys) (hoff:0<ys.length→Off g vy) (hm:∀ x ∈ rs,x < 18446744073709551616) (hmy:∀ x ∈ ys,x < 18446744073709551616) (hle:ys.length≤rs.length) (hl:rs.length<2147483648) :
   Calls prog 216 #[.slice (some ⟨g,o,none⟩) rs.length cap,vy] w fun e w'=>∃ c rs',e=.returned (.int .u64 (c:Nat))∧c≤1∧rs'.length=rs.length∧(∀ x ∈ rs',x < 18446744073709551616)∧vl 18446744073709551616 rs' + c * 18446744073709551616^rs.length=vl 18446744073709551616 rs+vl 18446744073709551616 ys∧Seg w' g o rs'∧Part g o rs.length w w':=by(
 obtain⟨a,capy,rfl,hcy,hcell,-⟩:=hy
 have I0:Hid (zat rs rs 0 0 0∧Seg w g o rs∧Part g o rs.length w w):=⟨zat.start rs hm,hs,Part.refl _ _ _ _⟩
 have HC:=af hcell
 have HM:=af hmy
 have HO:=af hoff
 clear hcell hmy hs hm hoff
 go_enter func216,ntmps216
 go_wp2
 go_loopw [5,11] (fun c i wr=>∃ (k cN:Nat) (rq:List Nat),k≤ys.length∧i=.int .i64 k∧c=.int .u64 cN∧cN≤1∧rq.length=rs.length∧Hid (zat rs rq k cN (vl 18446744073709551616 (ys.take k))∧Seg wr g o rq∧Part g o rs.length w wr)) (fun _ i _=>ys.length-(intOf i).toNat)
 case atStart=>exact⟨0,0,rs,Nat.zero_le _,rfl,rfl,by omega,rfl,I0⟩
 case round =>(
 obtain⟨k,cN,rq,hk,rfl,rfl,hcN,hrq,HI⟩:=hrel
 rename World=>wr
 by_cases hlt:k<ys.length
 ·(
 obtain⟨b,off,rfl,hcy1⟩:=ae HC k hlt
 have hne:b≠g:=ae HO (by omega) b off _ _ rfl
 have cy:=(ae HI).2.2.but.ag hcy1 (by simp[hne])
 have hyB:ys[k]?.getD 0 < 18446744073709551616:=cf (ae HM) (by omega) k
 have hrB:rq[k]?.getD 0 < 18446744073709551616:=cf (ae HI).1.mem (by omega) k
 obtain⟨cr,fr⟩:=(ae HI).2.1 k (by omega)
 have hrs:k<rs.length:=by omega
 have TS:Hid (vl 18446744073709551616 (ys.take (k+1))=vl 18446744073709551616 (ys.take k)+ys[k]?.getD 0 * 18446744073709551616^k):=jc 18446744073709551616 ys k hlt
 obtain⟨s,c',hs,hc',he⟩:=l7 _ _ _ hrB hyB hcN
 have ST:=af ((ae HI).1.step (by omega) s c' _ hs he)
 have AD:=fun w=>qdk _ _ _ hrB hyB hcN s c' he hs w
 have HE:=af he
 clear he hcy1
 generalize rq[k]?.getD 0=r at *
 generalize ys[k]?.getD 0=y at *
 go_wp2
 refine⟨⟨k+1,c',rq.set k s,by omega,by go_num,rfl,hc',by rw[List.length_set];exact hrq,?_⟩,?_⟩
 ·refine⟨?_,(ae HI).2.1.set k (by omega) s,(ae HI).2.2.setCell k (by omega) _⟩
  rw[ae TS];exact ae ST
 ·simp[intOf];omega)
 ·(
 have hke:k=ys.length:=by omega
 subst hke
 clear HC
 go_wp2
 go_loopw [5,8] (fun c i wr=>∃ (k cN:Nat) (rq:List Nat),k≤rs.length∧i=.int .i64 k∧c=.int .u64 cN∧cN≤1∧rq.length=rs.length∧Hid (zat rs rq k cN (vl 18446744073709551616 ys)∧Seg wr g o rq∧Part g o rs.length w wr)) (fun _ i _=>rs.length-(intOf i).toNat)
 case atStart=>exact⟨ys.length,cN,rq,hle,rfl,rfl,hcN,hrq,by have:=ae HI;rw[List.take_length] at this;exact this⟩
 case round =>(
 clear HI hk hcN hrq
 obtain⟨k,cN,rq,hk,rfl,rfl,hcN,hrq,HI⟩:=hrel
 rename World=>wr
 by_cases hlt:k<rs.length
 ·(
 by_cases hz:cN=0
 ·(
 subst hz
 go_wp2
 go_ret
 refine⟨0,rq,rfl,by omega,hrq,(ae HI).1.mem,?_,(ae HI).2.1,(ae HI).2.2⟩
 have:=(ae HI).1.val
 omega)
 ·(
 have hz1:((cN:Int) != 0)=true:=by simp;exact hz
 have hrB:rq[k]?.getD 0 < 18446744073709551616:=cf (ae HI).1.mem (by omega) k
 obtain⟨cr,fr⟩:=(ae HI).2.1 k (by omega)
 obtain⟨s,c',hs,hc',he⟩:=l7 _ 0 _ hrB (by omega) hcN
 have ST:=af ((ae HI).1.step (by omega) s c' 0 hs he)
 have AD:=fun w=>qhr _ _ hrB hcN s c' he hs w
 have HE:=af he
 clear he
 generalize rq[k]?.getD 0=r at *
 go_wp2
 refine⟨⟨k+1,c',rq.set k s,by omega,by go_num,rfl,hc',by rw[List.length_set];exact hrq,?_⟩,?_⟩
 ·refine⟨?_,(ae HI).2.1.set k (by omega) s,(ae HI).2.2.setCell k (by omega) _⟩
  have:=ae ST
  simpa using this
 ·simp[intOf];omega))
 ·(
 have hke:k=rs.length:=by omega
 subst hke
 go_wp2
 go_ret
 exact⟨cN,rq,rfl,hcN,hrq,(ae HI).1.mem,(ae HI).1.val,(ae HI).2.1,(ae HI).2.2⟩)))))
theorem zix (g o cap:Nat) (rs ys:List Nat) (vy:Value) (w:World) (hs:Seg w g o rs) (_hc:rs.length≤cap) (hy:Sl .u64 w vy ys) (hoff:0<ys.length→Off g vy) (hm:∀ x ∈ rs,x < 18446744073709551616) (hmy:∀ x ∈ ys,x < 18446744073709551616) (hle:ys.length≤rs.length) (hl:rs.length<2147483648) :
   Calls prog 245 #[.slice (some ⟨g,o,none⟩) rs.length cap,vy] w fun e w'=>∃ c rs',e=.returned (.int .u64 (c:Nat))∧c≤1∧rs'.length=rs.length∧(∀ x ∈ rs',x < 18446744073709551616)∧vl 18446744073709551616 rs' + vl 18446744073709551616 ys=vl 18446744073709551616 rs+c * 18446744073709551616^rs.length∧Seg w' g o rs'∧Part g o rs.length w w':=by(
 obtain⟨a,capy,rfl,hcy,hcell,-⟩:=hy
 have I0:Hid (zao rs rs 0 0 0∧Seg w g o rs∧Part g o rs.length w w):=⟨zao.start rs hm,hs,Part.refl _ _ _ _⟩
 have HC:=af hcell
 have HM:=af hmy
 have HO:=af hoff
 clear hcell hmy hs hm hoff
 go_enter func245,ntmps245
 go_wp2
 go_loopw [5,11] (fun c i wr=>∃ (k cN:Nat) (rq:List Nat),k≤ys.length∧i=.int .i64 k∧c=.int .u64 cN∧cN≤1∧rq.length=rs.length∧Hid (zao rs rq k cN (vl 18446744073709551616 (ys.take k))∧Seg wr g o rq∧Part g o rs.length w wr)) (fun _ i _=>ys.length-(intOf i).toNat)
 case atStart=>exact⟨0,0,rs,Nat.zero_le _,rfl,rfl,by omega,rfl,I0⟩
 case round =>(
 obtain⟨k,cN,rq,hk,rfl,rfl,hcN,hrq,HI⟩:=hrel
 rename World=>wr
 by_cases hlt:k<ys.length
 ·(
 obtain⟨b,off,rfl,hcy1⟩:=ae HC k hlt
 have hne:b≠g:=ae HO (by omega) b off _ _ rfl
 have cy:=(ae HI).2.2.but.ag hcy1 (by simp[hne])
 have hyB:ys[k]?.getD 0 < 18446744073709551616:=cf (ae HM) (by omega) k
 have hrB:rq[k]?.getD 0 < 18446744073709551616:=cf (ae HI).1.mem (by omega) k
 obtain⟨cr,fr⟩:=(ae HI).2.1 k (by omega)
 have hrs:k<rs.length:=by omega
 have TS:Hid (vl 18446744073709551616 (ys.take (k+1))=vl 18446744073709551616 (ys.take k)+ys[k]?.getD 0 * 18446744073709551616^k):=jc 18446744073709551616 ys k hlt
 obtain⟨s,c',hs,hc',he⟩:=ko _ _ _ hrB hyB hcN
 have ST:=af ((ae HI).1.step (by omega) s c' _ hs he)
 have AD:=fun w=>zkq _ _ _ hcN s c' he hs hrB hyB w
 have HE:=af he
 clear he hcy1
 generalize rq[k]?.getD 0=r at *
 generalize ys[k]?.getD 0=y at *
 go_wp2
 refine⟨⟨k+1,c',rq.set k s,by omega,by go_num,rfl,hc',by rw[List.length_set];exact hrq,?_⟩,?_⟩
 ·refine⟨?_,(ae HI).2.1.set k (by omega) s,(ae HI).2.2.setCell k (by omega) _⟩
  rw[ae TS];exact ae ST
 ·simp[intOf];omega)
 ·(
 have hke:k=ys.length:=by omega
 subst hke
 clear HC
 go_wp2
 go_loopw [5,8] (fun c i wr=>∃ (k cN:Nat) (rq:List Nat),k≤rs.length∧i=.int .i64 k∧c=.int .u64 cN∧cN≤1∧rq.length=rs.length∧Hid (zao rs rq k cN (vl 18446744073709551616 ys)∧Seg wr g o rq∧Part g o rs.length w wr)) (fun _ i _=>rs.length-(intOf i).toNat)
 case atStart=>exact⟨ys.length,cN,rq,hle,rfl,rfl,hcN,hrq,by have:=ae HI;rw[List.take_length] at this;exact this⟩
 case round =>(
 clear HI hk hcN hrq
 obtain⟨k,cN,rq,hk,rfl,rfl,hcN,hrq,HI⟩:=hrel
 rename World=>wr
 by_cases hlt:k<rs.length
 ·(
 by_cases hz:cN=0
 ·(
 subst hz
 go_wp2
 go_ret
 refine⟨0,rq,rfl,by omega,hrq,(ae HI).1.mem,?_,(ae HI).2.1,(ae HI).2.2⟩
 have:=(ae HI).1.val
 omega)
 ·(
 have hz1:((cN:Int) != 0)=true:=by simp;exact hz
 have hrB:rq[k]?.getD 0 < 18446744073709551616:=cf (ae HI).1.mem (by omega) k
 obtain⟨cr,fr⟩:=(ae HI).2.1 k (by omega)
 obtain⟨s,c',hs,hc',he⟩:=ko _ 0 _ hrB (by omega) hcN
 have ST:=af ((ae HI).1.step (by omega) s c' 0 hs he)
 have AD:=fun w=>qhb _ _ hcN s c' he hs hrB w
 have HE:=af he
 clear he
 generalize rq[k]?.getD 0=r at *
 go_wp2
 refine⟨⟨k+1,c',rq.set k s,by omega,by go_num,rfl,hc',by rw[List.length_set];exact hrq,?_⟩,?_⟩
 ·refine⟨?_,(ae HI).2.1.set k (by omega) s,(ae HI).2.2.setCell k (by omega) _⟩
  have:=ae ST
  simpa using this
 ·simp[intOf];omega))
 ·(
 have hke:k=rs.length:=by omega
 subst hke
 go_wp2
 go_ret
 exact⟨cN,rq,rfl,hcN,hrq,(ae HI).1.mem,(ae HI).1.val,(ae HI).2.1,(ae HI).2.2⟩)))))
theorem zso:∃ i,prog.info? 24 = some i∧i.zero=some (.int .u64 0)∧i.size=1∧i.bytes=8:=by(
 have h:(prog.info? 24).map (fun i=>(i.zero,i.size,i.bytes))=some (some (.int .u64 0),1,8):=by kernel_rfl
 obtain⟨i,hi,he⟩:=Option.map_eq_some_iff.1 h
 simp only[Prod.mk.injEq] at he
 exact⟨i,hi,he.1,he.2.1,he.2.2⟩)
theorem mo:(prog.info? 24).map (·.size)=some 1:=by kernel_rfl
theorem ky (wx:World) (n:Nat) (h:n<2147483648):(Instr.makeSlice 102 (.int .i64 (n:Int)) (.int .i64 (n:Int))).run prog wx=.ok (.slice (some ⟨wx.heap.size,0,none⟩) n n) (wx.alloc (.cells (madeCells #[.int .u64 0] n) 24)):=by(
 obtain⟨ti,hi,hz,hs,hbt⟩:=zso
 have hmk:=run_make (P:=prog) wx 102 24 ti (.int .u64 0) underlying102 hi hz .i64 .i64 (n:Int) (n:Int) (by omega) (by omega) (by rw[hbt];omega) (by omega)
 rw[hs,Int.toNat_natCast,Nat.mul_one] at hmk
 exact hmk)
theorem zek (wx:World) (n:Nat) (h:n<1073741824):(Instr.makeSlice 102 (.int .i64 ((n:Int)+1)) (.int .i64 ((n:Int)+1))).run prog wx=.ok (.slice (some ⟨wx.heap.size,0,none⟩) (n+1) (n+1)) (wx.alloc (.cells (madeCells #[.int .u64 0] (n+1)) 24)) :=
 ky wx (n+1) (by omega)
theorem kv (w:World) (n:Nat) (t:TypeId):But [] w (w.alloc (.cells (madeCells #[.int .u64 0] n) t)):=(But.refl _ _).alloc _
theorem ztj (xs ys rs':List Nat) (c:Nat) (hc:c≤1) (hx:∀ x ∈ xs,x < 18446744073709551616) (hy:∀ x ∈ ys,x < 18446744073709551616) (hlen:ys.length≤xs.length) (_hl:rs'.length=xs.length+1) (h:vl 18446744073709551616 rs' + c * 18446744073709551616^(xs.length+1)=vl 18446744073709551616 (xs++[0])+vl 18446744073709551616 ys):vl 18446744073709551616 rs'=vl 18446744073709551616 xs+vl 18446744073709551616 ys:=by(
 have h1:=mg (by omega:0 < 18446744073709551616) xs hx
 have h2:=mg (by omega:0 < 18446744073709551616) ys hy
 have h3:18446744073709551616^ys.length≤18446744073709551616^xs.length:=Nat.pow_le_pow_right (by omega) hlen
 rw[pg,Nat.pow_succ] at h
 rcases Nat.eq_zero_or_pos c with rfl | hc0
 ·omega
 ·have:c=1:=by omega
  subst this
  omega)
theorem oo {w:World} {k:IntKind} {v:Value} {xs:List Nat} (h:Sl k w v xs) (h0:0<xs.length) (g:Nat) (hg:w.heap.size≤g):Off g v:=fun b off n c e=>by
 have:=h.lt h0 b off n c e
 omega
theorem zjk (va vb:Value) (xs ys:List Nat) (w:World) (ha:Sl .u64 w va xs) (hb:Sl .u64 w vb ys) (mx:∀ x ∈ xs,x < 18446744073709551616) (my:∀ x ∈ ys,x < 18446744073709551616) (hle:ys.length≤xs.length) (h0:0<ys.length) (hl:xs.length<1073741824) (u v:Value) (huv:(u=va∧v=vb)∨(ys.length<xs.length∧u=vb∧v=va)) :
   Calls prog 183 #[u,v] w fun e w'=>∃ v',e=.returned v'∧Sl .u64 w' v' (wd 18446744073709551616 (vl 18446744073709551616 xs+vl 18446744073709551616 ys))∧But [] w w':=by(
 obtain⟨b1,o1,c1,rfl,hc1⟩:∃ b o c,va=.slice (some ⟨b,o,none⟩) xs.length c∧xs.length≤c:=by
  rcases ha.open with ⟨rfl,-⟩|⟨-,b,o,c,e,h,-⟩
  ·simp only[List.length_nil] at hle;omega
  ·exact⟨b,o,c,e,h⟩
 obtain⟨b2,o2,c2,rfl,hc2⟩:∃ b o c,vb=.slice (some ⟨b,o,none⟩) ys.length c∧ys.length≤c:=by
  rcases hb.open with ⟨rfl,-⟩|⟨-,b,o,c,e,h,-⟩
  ·simp at h0
  ·exact⟨b,o,c,e,h⟩
 have n0:((ys.length:Int)==0)=false:=beq_eq_false_iff_ne.2 (by omega)
 have hmk:=fun wx=>zek wx xs.length hl
 have hof:Off w.heap.size (.slice (some ⟨b2,o2,none⟩) ys.length c2):=oo hb h0 _ (Nat.le_refl _)
 obtain⟨w2,hcp,HC⟩:=jm (P:=prog) (w.alloc (.cells (madeCells #[.int .u64 0] (xs.length+1)) 24)) 102 103 24 underlying102 mo w.heap.size 0 (xs.length+1) (xs.length+1) _ (List.replicate (xs.length+1) 0) xs (Seg.made _ _ _) (by simp) (ha.ah (kv _ _ _)) (by simp)
 have e1:xs++(List.replicate (xs.length+1) 0).drop xs.length=xs++[0]:=by rw[List.drop_replicate,show xs.length+1-xs.length=1 from by omega];rfl
 rw[e1] at HC
 have l1:(xs++[0]).length=xs.length+1:=by simp
 have hB2:Hid (But [] w w2):=((kv w (xs.length+1) 24).trans (ae HC).2.but (fun x hx=>by simp at hx;subst hx;exact .inr (Nat.le_refl _)))
 have m1:∀ x ∈ xs++[0],x < 18446744073709551616:=fun x hx=>by
  rcases List.mem_append.1 hx with h | h
  ·exact mx x h
  ·simp at h;omega
 have hadd:=ziu w.heap.size 0 (xs.length+1) (xs++[0]) ys (.slice (some ⟨b2,o2,none⟩) ys.length c2) w2 (ae HC).1 (by omega) (hb.ah (ae hB2)) (fun _=>hof) m1 my (by omega) (by omega)
 rw[l1] at hadd
 have HADD:=af hadd
 have MX:=af mx
 have MY:=af my
 clear ha hb mx my hof hadd HC m1 e1 l1
 rcases huv with ⟨rfl,rfl⟩|⟨hlt,rfl,rfl⟩
 all_goals(
 go_enter func183,ntmps183
 go_wp2_with fail
 refine (ae HADD).mono ?_
 rintro e w3 ⟨c,rs',rfl,hc,hlr,hmr,hv,hsg,hpt⟩
 have hV:=ztj xs ys rs' c hc (ae MX) (ae MY) hle hlr hv
 have HV:=af hV
 clear hV hv
 have hB3:Hid (But [] w w3):=(ae hB2).trans hpt.but (fun x hx=>by simp at hx;subst hx;exact .inr (Nat.le_refl _))
 have hsl:=hsg.sl (xs.length+1) (by omega)
 rw[hlr] at hsl
 have HS:=af hsl
 clear hsl hsg hpt HADD
 go_wp2_with fail
 refine (qo _ rs' _ (ae HS) hmr (by omega)).mono ?_
 rintro e w4 ⟨v',rfl,hs4,hw4,-⟩
 obtain rfl:=hw4.symm
 clear hw4
 have H4:=af hs4
 clear hs4
 go_wp2
 go_ret
 exact⟨v',rfl,by rw[← ae HV];exact ae H4,ae hB3⟩))
theorem zbp (va vb:Value) (m n:Nat) (w:World) (ha:Sl .u64 w va (wd 18446744073709551616 m)) (hb:Sl .u64 w vb (wd 18446744073709551616 n)) (hla:(wd 18446744073709551616 m).length<1073741824) (hlb:(wd 18446744073709551616 n).length<1073741824) :
   Calls prog 183 #[va,vb] w fun e w'=>∃ v',e=.returned v'∧Sl .u64 w' v' (wd 18446744073709551616 (m+n))∧But [] w w':=by(
 have mm:=zt (B:=18446744073709551616) (by omega) m
 have mn:=zt (B:=18446744073709551616) (by omega) n
 have em:=ja (B:=18446744073709551616) (by omega) m
 have en:=ja (B:=18446744073709551616) (by omega) n
 have wm:wd 18446744073709551616 (vl 18446744073709551616 (wd 18446744073709551616 m))=wd 18446744073709551616 m:=by rw[em]
 have wn:wd 18446744073709551616 (vl 18446744073709551616 (wd 18446744073709551616 n))=wd 18446744073709551616 n:=by rw[en]
 generalize wd 18446744073709551616 m=xs at *
 generalize wd 18446744073709551616 n=ys at *
 subst em en
 have WM:=af wm
 have WN:=af wn
 clear wm wn
 rcases Nat.lt_or_ge xs.length ys.length with hlt | hge
 ·(
 rcases Nat.eq_zero_or_pos xs.length with h0 | h0
 ·(
 have e:xs=[]:=List.length_eq_zero_iff.1 h0
 subst e
 have hres:Hid (Sl .u64 w vb (wd 18446744073709551616 (vl 18446744073709551616 [] + vl 18446744073709551616 ys))):=by
  show Sl _ _ _ _
  simp only[vl,Nat.zero_add];rw[ae WN];exact hb
 obtain⟨a1,c1,rfl,-,-⟩:=ha
 obtain⟨a2,c2,rfl,-,-⟩:=hb
 have hl0:0<ys.length:=hlt
 clear mm mn
 go_enter func183,ntmps183
 go_wp2
 go_ret
 exact⟨_,rfl,ae hres,But.refl _ _⟩)
 ·have:=zjk vb va ys xs w hb ha mn mm (by omega) h0 hlb va vb (.inr ⟨hlt,rfl,rfl⟩)
  rw[Nat.add_comm] at this
  exact this)
 ·(
 rcases Nat.eq_zero_or_pos ys.length with h0 | h0
 ·(
 have e:ys=[]:=List.length_eq_zero_iff.1 h0
 subst e
 have hres:Hid (Sl .u64 w va (wd 18446744073709551616 (vl 18446744073709551616 xs+vl 18446744073709551616 []))):=by
  show Sl _ _ _ _
  simp only[vl,Nat.add_zero];rw[ae WM];exact ha
 obtain⟨a1,c1,rfl,-,-⟩:=ha
 obtain⟨a2,c2,rfl,-,-⟩:=hb
 clear mm mn
 go_enter func183,ntmps183
 go_wp2
 go_ret
 exact⟨_,rfl,ae hres,But.refl _ _⟩)
 ·exact zjk va vb xs ys w ha hb mm mn hge h0 hla va vb (.inl ⟨rfl,rfl⟩)))
theorem zkk (xs ys rs':List Nat) (c:Nat) (hr:∀ x ∈ rs',x < 18446744073709551616) (hle:vl 18446744073709551616 ys≤vl 18446744073709551616 xs) (hl:rs'.length=xs.length) (h:vl 18446744073709551616 rs' + vl 18446744073709551616 ys=vl 18446744073709551616 xs+c * 18446744073709551616^xs.length):vl 18446744073709551616 rs'=vl 18446744073709551616 xs-vl 18446744073709551616 ys:=by(
 have h1:=mg (by omega:0 < 18446744073709551616) rs' hr
 rw[hl] at h1
 rcases Nat.eq_zero_or_pos c with rfl | hc0
 ·omega
 ·have:18446744073709551616^xs.length≤c * 18446744073709551616^xs.length:=Nat.le_mul_of_pos_left _ hc0
  omega)
theorem zse (va vb:Value) (xs ys:List Nat) (w:World) (ha:Sl .u64 w va xs) (hb:Sl .u64 w vb ys) (mx:∀ x ∈ xs,x < 18446744073709551616) (my:∀ x ∈ ys,x < 18446744073709551616) (hle:ys.length≤xs.length) (h0:0<ys.length) (hl:xs.length<1073741824) (hv:vl 18446744073709551616 ys≤vl 18446744073709551616 xs) :
   Calls prog 213 #[va,vb] w fun e w'=>∃ v',e=.returned v'∧Sl .u64 w' v' (wd 18446744073709551616 (vl 18446744073709551616 xs-vl 18446744073709551616 ys))∧But [] w w':=by(
 obtain⟨b1,o1,c1,rfl,hc1⟩:∃ b o c,va=.slice (some ⟨b,o,none⟩) xs.length c∧xs.length≤c:=by
  rcases ha.open with ⟨rfl,-⟩|⟨-,b,o,c,e,h,-⟩
  ·simp only[List.length_nil] at hle;omega
  ·exact⟨b,o,c,e,h⟩
 obtain⟨b2,o2,c2,rfl,hc2⟩:∃ b o c,vb=.slice (some ⟨b,o,none⟩) ys.length c∧ys.length≤c:=by
  rcases hb.open with ⟨rfl,-⟩|⟨-,b,o,c,e,h,-⟩
  ·simp at h0
  ·exact⟨b,o,c,e,h⟩
 have n0:((ys.length:Int)==0)=false:=beq_eq_false_iff_ne.2 (by omega)
 have hmk:=fun wx=>ky wx xs.length (by omega)
 have hof:Off w.heap.size (.slice (some ⟨b2,o2,none⟩) ys.length c2):=oo hb h0 _ (Nat.le_refl _)
 obtain⟨w2,hcp,HC⟩:=jm (P:=prog) (w.alloc (.cells (madeCells #[.int .u64 0] xs.length) 24)) 102 103 24 underlying102 mo w.heap.size 0 xs.length xs.length _ (List.replicate xs.length 0) xs (Seg.made _ _ _) (by simp) (ha.ah (kv _ _ _)) (by simp)
 have e1:xs++(List.replicate xs.length 0).drop xs.length=xs:=by simp
 rw[e1] at HC
 have hB2:Hid (But [] w w2):=((kv w xs.length 24).trans (ae HC).2.but (fun x hx=>by simp at hx;subst hx;exact .inr (Nat.le_refl _)))
 have hsub:=zix w.heap.size 0 xs.length xs ys (.slice (some ⟨b2,o2,none⟩) ys.length c2) w2 (ae HC).1 (by omega) (hb.ah (ae hB2)) (fun _=>hof) mx my (by omega) (by omega)
 have HSUB:=af hsub
 have HV:=af hv
 clear ha hb mx my hof hsub HC e1 hv
 go_enter func213,ntmps213
 go_wp2_with fail
 refine (ae HSUB).mono ?_
 rintro e w3 ⟨c,rs',rfl,hc,hlr,hmr,hv,hsg,hpt⟩
 have hV:=zkk xs ys rs' c hmr (ae HV) hlr hv
 have HV:=af hV
 clear hV hv
 have hB3:Hid (But [] w w3):=(ae hB2).trans hpt.but (fun x hx=>by simp at hx;subst hx;exact .inr (Nat.le_refl _))
 have hsl:=hsg.sl xs.length (by omega)
 rw[hlr] at hsl
 have HS:=af hsl
 clear hsl hsg hpt HSUB
 go_wp2_with fail
 refine (qo _ rs' _ (ae HS) hmr (by omega)).mono ?_
 rintro e w4 ⟨v',rfl,hs4,hw4,-⟩
 obtain rfl:=hw4.symm
 clear hw4
 have H4:=af hs4
 clear hs4
 go_wp2
 go_ret
 exact⟨v',rfl,by rw[← ae HV];exact ae H4,ae hB3⟩)
theorem zbo (va vb:Value) (m n:Nat) (w:World) (ha:Sl .u64 w va (wd 18446744073709551616 m)) (hb:Sl .u64 w vb (wd 18446744073709551616 n)) (hla:(wd 18446744073709551616 m).length<1073741824) (hmn:n≤m) :
   Calls prog 213 #[va,vb] w fun e w'=>∃ v',e=.returned v'∧Sl .u64 w' v' (wd 18446744073709551616 (m-n))∧But [] w w':=by(
 rcases Nat.eq_zero_or_pos n with h0 | h0
 ·(
 subst h0
 rw[zq] at hb
 have HR:=af ha
 obtain⟨a1,c1,rfl,-,-⟩:=ha
 obtain⟨a2,c2,rfl,-,-⟩:=hb
 go_enter func213,ntmps213
 go_wp2
 go_ret
 exact⟨_,rfl,ae HR,But.refl _ _⟩)
 ·(
 have em:=ja (B:=18446744073709551616) (by omega) m
 have en:=ja (B:=18446744073709551616) (by omega) n
 have hl:(wd 18446744073709551616 n).length≤(wd 18446744073709551616 m).length:=aj (by omega) n _ (Nat.lt_of_le_of_lt hmn (am (by omega) m _ (Nat.le_refl _)))
 have hp:0<(wd 18446744073709551616 n).length:=by
  rw[Nat.pos_iff_ne_zero];intro h;rw[zo (by omega)] at h;omega
 have:=zse va vb _ _ w ha hb (zt (by omega) m) (zt (by omega) n) hl hp hla (by rw[em,en];exact hmn)
 rw[em,en] at this
 exact this))
theorem yo (x y hi lo:Nat) (hx:x < 18446744073709551616) (hy:y < 18446744073709551616) (hlo:lo < 18446744073709551616) (h:Hid (x*y=lo + 18446744073709551616*hi)) (w:World) :
   Calls prog 178 #[.int .u64 x,.int .u64 y] w fun e w'=>e=.returned (.tuple #[.int .u64 (hi:Int),.int .u64 (lo:Int)])∧w'=w:=by(
 have h1:=Tryz.bits_Mul64 x y hx hy w
 have e1:x*y / 18446744073709551616=hi:=by rw[ae h];omega
 have e2:x*y % 18446744073709551616=lo:=by rw[ae h];omega
 rw[e1,e2] at h1
 exact h1)
theorem bt (x y c:Nat) (hx:x < 18446744073709551616) (hy:y < 18446744073709551616) (hc:c < 18446744073709551616):∃ lo hi,lo < 18446744073709551616∧hi < 18446744073709551616∧x*y+c=lo + 18446744073709551616*hi:=by
 have h1:x*y≤18446744073709551615*18446744073709551615:=Nat.mul_le_mul (by omega) (by omega)
 exact⟨(x*y+c) % 18446744073709551616,(x*y+c) / 18446744073709551616,by omega,by omega,by omega⟩
theorem je (x y c lo hi:Nat) (hx:x < 18446744073709551616) (hy:y < 18446744073709551616) (hc:c < 18446744073709551616) (hlo:lo < 18446744073709551616) (hhi:hi < 18446744073709551616) (h:Hid (x*y+c=lo + 18446744073709551616*hi)) (w:World) :
   Calls prog 260 #[.int .u64 (x:Int),.int .u64 (y:Int),.int .u64 (c:Int)] w fun e w'=>e=.returned (.tuple #[.int .u64 (lo:Int),.int .u64 (hi:Int)])∧w'=w:=by(
 obtain⟨l0,h0,hl0,hh0,e0⟩:=bt x y 0 hx hy (by omega)
 rw[Nat.add_zero] at e0
 have M:=yo x y h0 l0 hx hy hl0 e0 w
 have HM:=af M
 obtain⟨s,k,hs,hk,e1⟩:=l7 l0 c 0 hl0 hc (by omega)
 rw[Nat.add_zero] at e1
 have A:=fun w=>zmf l0 c hl0 hc s k e1 hs w
 have es:s=lo∧h0+k=hi:=by have:=ae h;omega
 obtain⟨rfl,rfl⟩:=es
 clear M e0 e1 h
 go_enter func260,ntmps260
 go_wp2_with fail
 refine (ae HM).mono ?_
 rintro e w1 ⟨rfl,hw⟩
 obtain rfl:=hw.symm
 clear hw
 go_wp2
 go_ret2
 exact⟨by simp,rfl⟩)
theorem qcu (r x y c lo hi s k:Nat) (hr:r < 18446744073709551616) (hx:x < 18446744073709551616) (hy:y < 18446744073709551616) (hc:c < 18446744073709551616) (e:x*y+c=lo + 18446744073709551616*hi) (e1:r+lo=s + 18446744073709551616*k):hi+k < 18446744073709551616:=by
 have h1:x*y≤18446744073709551615*18446744073709551615:=Nat.mul_le_mul (by omega) (by omega)
 omega
theorem zzn (r x y c lo hi s k:Nat) (hs:s < 18446744073709551616) (hx:x < 18446744073709551616) (hy:y < 18446744073709551616) (hc:c < 18446744073709551616) (e:x*y+c=lo + 18446744073709551616*hi) (e1:s+lo=r + 18446744073709551616*k):hi+k < 18446744073709551616:=by
 have h1:x*y≤18446744073709551615*18446744073709551615:=Nat.mul_le_mul (by omega) (by omega)
 omega
theorem zkp (xs:List Nat) (k y:Nat) (h:k<xs.length):y*vl 18446744073709551616 (xs.take (k+1))=y*vl 18446744073709551616 (xs.take k)+xs[k]?.getD 0*y * 18446744073709551616^k:=by
 rw[jc 18446744073709551616 xs k h,Nat.mul_add,← Nat.mul_assoc,Nat.mul_comm y (xs[k]?.getD 0)]
theorem zqe (g o cap:Nat) (rs xs:List Nat) (vx:Value) (y:Nat) (w:World) (hs:Seg w g o rs) (_hc:rs.length≤cap) (hx:Sl .u64 w vx xs) (hoff:0<xs.length→Off g vx) (hm:∀ x ∈ rs,x < 18446744073709551616) (hmx:∀ x ∈ xs,x < 18446744073709551616) (hy:y < 18446744073709551616) (hle:rs.length=xs.length) (hl:rs.length<2147483648) :
   Calls prog 242 #[.slice (some ⟨g,o,none⟩) rs.length cap,vx,.int .u64 (y:Int)] w fun e w'=>∃ c rs',e=.returned (.int .u64 (c:Nat))∧c < 18446744073709551616∧rs'.length=rs.length∧(∀ x ∈ rs',x < 18446744073709551616)∧vl 18446744073709551616 rs' + c * 18446744073709551616^rs.length=vl 18446744073709551616 rs+y*vl 18446744073709551616 xs∧Seg w' g o rs'∧Part g o rs.length w w':=by(
 obtain⟨a,capx,rfl,hcx,hcell,-⟩:=hx
 have I0:Hid (zat rs rs 0 0 0∧Seg w g o rs∧Part g o rs.length w w):=⟨zat.start rs hm,hs,Part.refl _ _ _ _⟩
 have HC:=af hcell
 have HM:=af hmx
 have HO:=af hoff
 have HL:=af hle
 have hle1:xs.length≤rs.length:=by omega
 have hle2:rs.length≤xs.length:=by omega
 clear hcell hmx hs hm hoff hle
 go_enter func242,ntmps242
 go_wp2
 go_loopw [7,16] (fun c i wr=>∃ (k cN:Nat) (rq:List Nat),k≤xs.length∧i=.int .i64 k∧c=.int .u64 cN∧cN < 18446744073709551616∧rq.length=rs.length∧Hid (zat rs rq k cN (y*vl 18446744073709551616 (xs.take k))∧Seg wr g o rq∧Part g o rs.length w wr)) (fun _ i _=>xs.length-(intOf i).toNat)
 case atStart=>exact⟨0,0,rs,Nat.zero_le _,rfl,rfl,by omega,rfl,by simpa [vl] using I0⟩
 case round =>(
 obtain⟨k,cN,rq,hk,rfl,rfl,hcN,hrq,HI⟩:=hrel
 rename World=>wr
 by_cases hlt:k<xs.length
 ·(
 obtain⟨b,off,rfl,hcx1⟩:=ae HC k hlt
 have hne:b≠g:=ae HO (by omega) b off _ _ rfl
 have cx:=(ae HI).2.2.but.ag hcx1 (by simp[hne])
 have hxB:xs[k]?.getD 0 < 18446744073709551616:=cf (ae HM) (by omega) k
 have hrB:rq[k]?.getD 0 < 18446744073709551616:=cf (ae HI).1.mem (by omega) k
 obtain⟨cr,fr⟩:=(ae HI).2.1 k (by omega)
 have hrs:k<rs.length:=by omega
 have TS:Hid _:=zkp xs k y hlt
 obtain⟨lo,hi,hlo,hhi,e0⟩:=bt _ y cN hxB hy hcN
 have TP:=je _ y cN lo hi hxB hy hcN hlo hhi e0 wr
 obtain⟨s,c',hs,hc',he⟩:=l7 _ lo 0 hrB hlo (by omega)
 rw[Nat.add_zero] at he
 have hcar:=qcu _ _ _ _ _ _ _ _ hrB hxB hy hcN e0 he
 have ST:=af ((ae HI).1.step (by omega) s (hi+c') (xs[k]?.getD 0*y) hs (by rw[Nat.add_assoc,e0,← Nat.add_assoc,he,Nat.mul_add];omega))
 have AD:=fun w=>zmf _ lo hrB hlo s c' he hs w
 have HTP:=af TP
 clear he hcx1 e0 TP
 generalize rq[k]?.getD 0=r at *
 generalize xs[k]?.getD 0=x at *
 go_wp2_with fail
 refine (ae HTP).mono ?_
 rintro e w1 ⟨rfl,hw⟩
 obtain rfl:=hw.symm
 clear hw
 go_wp2
 refine⟨⟨k+1,hi+c',rq.set k s,by omega,by go_num,by go_num,hcar,by rw[List.length_set];exact hrq,?_⟩,?_⟩
 ·refine⟨?_,(ae HI).2.1.set k (by omega) s,(ae HI).2.2.setCell k (by omega) _⟩
  rw[ae TS];exact ae ST
 ·simp[intOf];omega)
 ·(
 have hke:k=xs.length:=by omega
 subst hke
 clear HC
 go_wp2
 go_ret
 refine⟨cN,rq,rfl,hcN,hrq,(ae HI).1.mem,?_,(ae HI).2.1,(ae HI).2.2⟩
 have:=(ae HI).1.val
 rw[List.take_length] at this
 rw[ae HL];exact this)))
theorem zon (g o cap:Nat) (rs xs:List Nat) (vx:Value) (y:Nat) (w:World) (hs:Seg w g o rs) (_hc:rs.length≤cap) (hx:Sl .u64 w vx xs) (hoff:0<xs.length→Off g vx) (hm:∀ x ∈ rs,x < 18446744073709551616) (hmx:∀ x ∈ xs,x < 18446744073709551616) (hy:y < 18446744073709551616) (hle:rs.length=xs.length) (hl:rs.length<2147483648) :
   Calls prog 265 #[.slice (some ⟨g,o,none⟩) rs.length cap,vx,.int .u64 (y:Int)] w fun e w'=>∃ c rs',e=.returned (.int .u64 (c:Nat))∧c < 18446744073709551616∧rs'.length=rs.length∧(∀ x ∈ rs',x < 18446744073709551616)∧vl 18446744073709551616 rs' + y*vl 18446744073709551616 xs=vl 18446744073709551616 rs+c * 18446744073709551616^rs.length∧Seg w' g o rs'∧Part g o rs.length w w':=by(
 obtain⟨a,capx,rfl,hcx,hcell,-⟩:=hx
 have I0:Hid (zao rs rs 0 0 0∧Seg w g o rs∧Part g o rs.length w w):=⟨zao.start rs hm,hs,Part.refl _ _ _ _⟩
 have HC:=af hcell
 have HM:=af hmx
 have HO:=af hoff
 have HL:=af hle
 have hle1:xs.length≤rs.length:=by omega
 have hle2:rs.length≤xs.length:=by omega
 clear hcell hmx hs hm hoff hle
 go_enter func265,ntmps265
 go_wp2
 go_loopw [7,16] (fun c i wr=>∃ (k cN:Nat) (rq:List Nat),k≤xs.length∧i=.int .i64 k∧c=.int .u64 cN∧cN < 18446744073709551616∧rq.length=rs.length∧Hid (zao rs rq k cN (y*vl 18446744073709551616 (xs.take k))∧Seg wr g o rq∧Part g o rs.length w wr)) (fun _ i _=>xs.length-(intOf i).toNat)
 case atStart=>exact⟨0,0,rs,Nat.zero_le _,rfl,rfl,by omega,rfl,by simpa [vl] using I0⟩
 case round =>(
 obtain⟨k,cN,rq,hk,rfl,rfl,hcN,hrq,HI⟩:=hrel
 rename World=>wr
 by_cases hlt:k<xs.length
 ·(
 obtain⟨b,off,rfl,hcx1⟩:=ae HC k hlt
 have hne:b≠g:=ae HO (by omega) b off _ _ rfl
 have cx:=(ae HI).2.2.but.ag hcx1 (by simp[hne])
 have hxB:xs[k]?.getD 0 < 18446744073709551616:=cf (ae HM) (by omega) k
 have hrB:rq[k]?.getD 0 < 18446744073709551616:=cf (ae HI).1.mem (by omega) k
 obtain⟨cr,fr⟩:=(ae HI).2.1 k (by omega)
 have hrs:k<rs.length:=by omega
 have TS:Hid _:=zkp xs k y hlt
 obtain⟨lo,hi,hlo,hhi,e0⟩:=bt _ y cN hxB hy hcN
 have TP:=je _ y cN lo hi hxB hy hcN hlo hhi e0 wr
 obtain⟨s,c',hs,hc',he⟩:=ko _ lo 0 hrB hlo (by omega)
 rw[Nat.add_zero] at he
 have hcar:=zzn _ _ _ _ _ _ _ _ hs hxB hy hcN e0 he
 have ST:=af ((ae HI).1.step (by omega) s (hi+c') (xs[k]?.getD 0*y) hs (by rw[Nat.add_assoc,e0,← Nat.add_assoc,he,Nat.mul_add];omega))
 have AD:=fun w=>ztz _ lo s c' he hs hrB hlo w
 have HTP:=af TP
 clear he hcx1 e0 TP
 generalize rq[k]?.getD 0=r at *
 generalize xs[k]?.getD 0=x at *
 go_wp2_with fail
 refine (ae HTP).mono ?_
 rintro e w1 ⟨rfl,hw⟩
 obtain rfl:=hw.symm
 clear hw
 go_wp2
 refine⟨⟨k+1,hi+c',rq.set k s,by omega,by go_num,by go_num,hcar,by rw[List.length_set];exact hrq,?_⟩,?_⟩
 ·refine⟨?_,(ae HI).2.1.set k (by omega) s,(ae HI).2.2.setCell k (by omega) _⟩
  rw[ae TS];exact ae ST
 ·simp[intOf];omega)
 ·(
 have hke:k=xs.length:=by omega
 subst hke
 clear HC
 go_wp2
 go_ret
 refine⟨cN,rq,rfl,hcN,hrq,(ae HI).1.mem,?_,(ae HI).2.1,(ae HI).2.2⟩
 have:=(ae HI).1.val
 rw[List.take_length] at this
 rw[ae HL];exact this)))
end Go.Proofs.YtagmkkiagjmimaaGreatDoor
