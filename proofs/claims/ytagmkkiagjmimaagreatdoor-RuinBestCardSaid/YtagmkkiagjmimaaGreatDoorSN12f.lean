/- Decimal digits and rows of bytes, plain. -/
import Derived.Test.YtagmkkiagjmimaaGreatDoorProg
import Derived.Deep.LoopGhost
import Derived.Lib.ItoaNum
import Derived.Laws.IdiomStrings
import Derived.OwnWalk
import Derived.WalkSpells
import Derived.Deep.RegionHeld
import Derived.Test.YtagmkkiagjmimaaGreatDoorSShelf
namespace Go.Proofs.YtagmkkiagjmimaaGreatDoor
set_option linter.unusedVariables false
open Go.Proofs.Tryz
open Go.RowKit
set_option maxHeartbeats 2000000
set_option maxRecDepth 100000
theorem But.grown {a w w':World} {row:Option Nat} (h:But [] a w) (hg:w.grownBy w' row) (hr:∀ k,row=some k→a.heap.size≤k):But [] a w' :=
 ⟨hg.os.trans h.os,hg.tape.trans h.tape,hg.output.trans h.output,Nat.le_trans h.size hg.size,fun k hk hn=>by
  rw[hg.block k (Nat.lt_of_lt_of_le hk h.size) (fun e=>by have:=hr k e.symm;omega)]
  exact h.block k hk hn⟩
theorem zew {w w':World} {g:Nat} (hg:w.grownBy w' (some g)):But [g] w w' :=
 ⟨hg.os,hg.tape,hg.output,hg.size,fun k hk hn=>hg.block k hk (fun e=>hn (by simp only[Option.some.injEq] at e;simp[e]))⟩
theorem ou {w w':World} (hg:w.grownBy w' none):But [] w w' :=
 ⟨hg.os,hg.tape,hg.output,hg.size,fun k hk _=>hg.block k hk (by simp)⟩
theorem uw {w w':World} {base:Nat} {e:TypeId} {size:Nat} {v:Value} {n:Nat} {xs:List Value} (h:w.ownsRow base e size v n xs) (hb:But [] w w'):w'.ownsRow base e size v n xs:=by(
 obtain⟨h1,h2⟩:=h
 refine⟨h1,?_⟩
 rcases h2 with h2|⟨g,cap,cur,e1,e2,e3,e4⟩
 ·exact .inl h2
 ·(
 refine .inr ⟨g,cap,cur,e1,e2,?_,e4⟩
 have hlt:g<w.heap.size:=by
  rcases Nat.lt_or_ge g w.heap.size with h | h
  ·exact h
  ·rw[Array.getElem?_eq_none h] at e3;cases e3
 rw[hb.block g hlt (by simp)];exact e3))
def u8v (b:UInt8):Value:=.int .u8 (b.toNat:Int)
def ko (n:Nat):List UInt8:=if h:0<n then UInt8.ofNat (48+n%10)::ko (n/10) else []
 termination_by n
 decreasing_by exact Nat.div_lt_self h (by omega)
theorem l6:ko 0=[]:=by rw[ko];simp
theorem om {n:Nat} (h:0<n):ko n=UInt8.ofNat (48+n%10)::ko (n/10):=by rw[ko,dif_pos h]
theorem zfz (n:Nat) (h:0<n):(ko n).reverse=Lib.decDigits n:=by(
 induction n using Nat.strongRecOn with
 | _ n ih =>
  rw[om h,List.reverse_cons,Lib.decDigits]
  by_cases h10:n<10
  ·rw[dif_pos h10,Nat.div_eq_of_lt h10,l6,Nat.mod_eq_of_lt h10];rfl
  ·rw[dif_neg h10,ih (n/10) (Nat.div_lt_self h (by omega)) (by omega)])
theorem zbl (n k:Nat) (h:n<10^k):(ko n).length≤k:=by(
 induction k generalizing n with
 | zero =>
  have:n=0:=by simp at h;omega
  subst this;simp[l6]
 | succ k ih =>
  by_cases hn:0<n
  ·rw[om hn,List.length_cons]
   have:=ih (n/10) (by rw[Nat.div_lt_iff_lt_mul (by omega)];rw[Nat.pow_succ] at h;exact h)
   omega
  ·have:n=0:=by omega
   subst this;simp[l6])
theorem zjl:∃ i,prog.info? 5 = some i∧i.zero=some (.int .u8 0)∧i.size=1∧i.bytes=1:=by(
 have h:(prog.info? 5).map (fun i=>(i.zero,i.size,i.bytes))=some (some (.int .u8 0),1,1):=by kernel_rfl
 obtain⟨i,hi,he⟩:=Option.map_eq_some_iff.1 h
 simp only[Prod.mk.injEq] at he
 exact⟨i,hi,he.1,he.2.1,he.2.2⟩)
structure sw (bs cs:List Nat) (i:Nat):Prop where
 len:cs.length=bs.length
 at':∀ k,k<bs.length→cs[k]?.getD 0=if k<i∨bs.length-i≤k then bs[bs.length-1-k]?.getD 0 else bs[k]?.getD 0
theorem sw.start (bs:List Nat):sw bs bs 0:=⟨rfl,fun k hk=>by rw[if_neg (by omega)]⟩
theorem zry (l:List Nat) (i k x:Nat) (hi:i<l.length):(l.set i x)[k]?.getD 0=if k=i then x else l[k]?.getD 0:=by(
 by_cases h:k=i
 ·subst h;rw[List.getElem?_set_self hi,if_pos rfl];rfl
 ·rw[List.getElem?_set_ne (Ne.symm h),if_neg h])
theorem sw.step {bs cs:List Nat} {i:Nat} (h:sw bs cs i) (hij:i<bs.length-1-i):sw bs ((cs.set i (cs[bs.length-1-i]?.getD 0)).set (bs.length-1-i) (cs[i]?.getD 0)) (i+1):=by(
 have hl:=h.len
 refine⟨by simp[hl],fun k hk=>?_⟩
 have e1:cs[i]?.getD 0=bs[i]?.getD 0:=by rw[h.at' i (by omega),if_neg (by omega)]
 have e2:cs[bs.length-1-i]?.getD 0=bs[bs.length-1-i]?.getD 0:=by rw[h.at' (bs.length-1-i) (by omega),if_neg (by omega)]
 rw[zry _ _ _ _ (by simp[hl];omega),zry _ _ _ _ (by omega),e1,e2]
 by_cases h1:k=bs.length-1-i
 ·subst h1
  rw[if_pos rfl,if_pos (by omega),show bs.length-1-(bs.length-1-i)=i from by omega]
 ·(
 rw[if_neg h1]
 by_cases h2:k=i
 ·subst h2
  rw[if_pos rfl,if_pos (by omega)]
 ·rw[if_neg h2,h.at' k hk]
  by_cases h3:k<i∨bs.length-i≤k
  ·rw[if_pos h3,if_pos (by omega)]
  ·rw[if_neg h3,if_neg (by omega)]))
theorem sw.fin {bs cs:List Nat} {i:Nat} (h:sw bs cs i) (hij:bs.length≤2*i+1):cs=bs.reverse:=by(
 refine List.ext_getElem (by simp[h.len]) fun k h1 h2=>?_
 have hk:k<bs.length:=by rw[← h.len];exact h1
 have e:=h.at' k hk
 rw[List.getElem?_eq_getElem h1,Option.getD_some] at e
 rw[e,List.getElem_reverse]
 by_cases h3:k<i∨bs.length-i≤k
 ·rw[if_pos h3,List.getElem?_eq_getElem (by omega)];rfl
 ·rw[if_neg h3,List.getElem?_eq_getElem hk,Option.getD_some]
  have:bs.length-1-k=k:=by omega
  simp only[this])
theorem zcl {w:World} {base:Nat} {e:TypeId} {v:Value} {bs:List UInt8} (h:w.ownsRow base e 1 v bs.length (bs.map u8v)) (h0:0<bs.length) :
   ∃ g cap,v=.slice (some ⟨g,0,none⟩) bs.length cap∧base≤g∧bs.length≤cap∧Row .u8 w g (bs.map UInt8.toNat):=by(
 obtain⟨h1,h2⟩:=h
 rcases h2 with ⟨-,h2⟩|⟨g,cap,cur,e1,e2,e3,e4,e5,e6,e7⟩
 ·omega
 ·(
 refine⟨g,cap,e1,e2,e4,fun i hi=>?_⟩
 rw[List.length_map] at hi
 have hc:cur[i]? = some (u8v bs[i]):=by
  have:(cur.toList.take (bs.length*1))[i]? = some (u8v bs[i]):=by rw[e7,List.getElem?_map,List.getElem?_eq_getElem hi];rfl
  rw[List.getElem?_take_of_lt (by omega)] at this
  simpa using this
 refine⟨?_,by simp[World.frozen?,e3]⟩
 simp only[World.cell?,e3,hc]
 simp[u8v,hi]))
theorem qao {k:IntKind} {w2 w3:World} {v:Value} {xs:List Nat} {o:Obj} {row:Option Nat} {B:Nat} (h:Sl k w2 v xs) (hg:(w2.alloc o).grownBy w3 row) (hr:∀ k,row=some k→k<B) (hf:mi B v):Sl k w3 v xs:=by(
 have h1:=h.ah ((But.refl [] w2).alloc o)
 cases row with
 | none=>exact h1.ah (ou hg)
 | some g=>exact h1.but (zew hg) (fun b off cap n e=>by have:=hf b off n cap e;have:=hr g rfl;simp;omega))
theorem zhc (r:Nat) (h:r<10):Value.int .u8 (48+(r:Int))=u8v (UInt8.ofNat (48+r)):=by(
 unfold u8v
 rw[UInt8.toNat_ofNat_of_lt' (by simp[UInt8.size];omega)]
 simp)
def bf:Nat→Nat→List UInt8
 | 0,_=>[]
 | k+1,r=>UInt8.ofNat (48+r%10)::bf k (r/10)
theorem zie:∀ k r,(bf k r).length=k
 | 0,_=>rfl
 | k+1,r=>by rw[bf,List.length_cons,zie k]
theorem zmz:∀ k r,bf (k+1) r=bf k r++[UInt8.ofNat (48+r/10^k%10)]
 | 0,r=>by simp[bf]
 | k+1,r=>by
  rw[bf,zmz k (r/10),bf,List.cons_append,Nat.div_div_eq_div_mul,Nat.pow_succ,Nat.mul_comm 10]
theorem zga:∀ k r,bf k (r%10^k)=bf k r
 | 0,r=>rfl
 | k+1,r=>by
  have h1:r%10^(k+1)%10=r%10:=Nat.mod_mod_of_dvd _ ⟨10^k,by rw[Nat.pow_succ,Nat.mul_comm]⟩
  have h2:r%10^(k+1)/10=r/10%10^k:=by rw[Nat.pow_succ,Nat.mul_comm,Nat.mod_mul_right_div_self]
  rw[bf,bf,h1,h2,zga k]
theorem zhh:∀ k n,10^k≤n→ko n=bf k n++ko (n/10^k)
 | 0,n,_=>by simp[bf]
 | k+1,n,h=>by
  have hp:0<10^k:=Nat.pow_pos (by omega)
  have h0:0<n:=by have:=Nat.pow_pos (n:=k+1) (show 0<10 from by omega);omega
  rw[om h0,zhh k (n/10) (by rw[Nat.le_div_iff_mul_le (by omega),← Nat.pow_succ];exact h),bf,List.cons_append,Nat.div_div_eq_div_mul,Nat.pow_succ,Nat.mul_comm 10]
theorem Row.but {k:IntKind} {w w':World} {g:Nat} {rs:List Nat} {l:List Nat} (h:Row k w g rs) (hb:But l w w') (hn:g ∉ l):Row k w' g rs:=fun i hi=>by
 obtain⟨h1,h2⟩:=h i hi
 have hl:=ai h1
 exact⟨hb.ag h1 hn,(hb.frozen hl hn).trans h2⟩
theorem zic (g cap:Nat) (bs:List Nat) (w:World) (hr:Row .u8 w g bs) (h0:0<bs.length) (hl:bs.length<1073741824) :
   Calls prog 222 #[.slice (some ⟨g,0,none⟩) bs.length cap] w fun e w'=>e=.returned (.tuple #[])∧Row .u8 w' g bs.reverse∧But [g] w w':=by(
 have mixed:prog.follows .mixedOrders=true:=by kernel_rfl
 have HR:=af hr
 clear hr
 obtain⟨n,hn⟩:∃ n,n=bs.length:=⟨_,rfl⟩
 rw[← hn] at h0 hl ⊢
 have HN:=af hn
 clear hn
 go_enter func222,ntmps222
 go_wp2
 go_loopw [2,3] (fun i j wq=>∃ (k q:Nat) (cs:List Nat),i=.int .i64 k∧j=.int .i64 q∧k≤q+1∧Hid (k+q+1=n∧sw bs cs k∧Row .u8 wq g cs∧But [g] w wq)) (fun i _ _=>n-(intOf i).toNat)
 case atStart=>exact⟨0,n-1,bs,rfl,by congr 1;omega,by omega,by omega,sw.start _,ae HR,But.refl _ _⟩
 case round =>(
 obtain⟨k,q,cs,rfl,rfl,hkq,HJ⟩:=hrel
 rename World=>wq
 have hcl:cs.length=n:=by rw[(ae HJ).2.1.len,ae HN]
 have hsum:=(ae HJ).1
 by_cases hlt:k<q
 ·(
 obtain⟨ck,fk⟩:=(ae HJ).2.2.1 k (by omega)
 obtain⟨cq,fq⟩:=(ae HJ).2.2.1 q (by omega)
 have ST:=af ((ae HJ).2.1.step (by rw[← ae HN];omega))
 have hq:q=n-1-k:=by omega
 rw[← ae HN,← hq] at ST
 have HC:=af hcl
 have HS:=af hsum
 have ne1:k≠q:=by omega
 have hk1:k<n:=by omega
 have hq1:q<n:=by omega
 clear hcl hsum hq
 generalize hx:cs[k]?.getD 0=x at *
 generalize hy:cs[q]?.getD 0=y at *
 clear hx hy
 go_wp2_with fail
 go_region_o
 go_wp2
 refine⟨⟨k+1,q-1,(cs.set k y).set q x,by go_num,by rw[Int.ofNat_sub (by omega)];rfl,by omega,by have:=ae HS;omega,ae ST,?_,?_⟩,?_⟩
 ·exact (((ae HJ).2.2.1.set k (by rw[ae HC];have:=ae HS;omega) y).set q (by rw[List.length_set,ae HC];have:=ae HS;omega) x).but ((But.refl [] _).drew) (by simp)
 ·exact (((ae HJ).2.2.2.setCell (p:=⟨g,k,none⟩) (.inl (by simp)) (.int .u8 (y:Int))).setCell (p:=⟨g,q,none⟩) (.inl (by simp)) (.int .u8 (x:Int))).drew
 ·have:=ae HS
  simp[intOf];omega)
 ·(
 have hfin:cs=bs.reverse:=(ae HJ).2.1.fin (by rw[← ae HN];omega)
 have HF:=af hfin
 clear hfin hcl hsum
 go_wp2
 go_end0
 exact⟨rfl,by rw[← ae HF];exact (ae HJ).2.2.1,(ae HJ).2.2.2⟩)))
theorem qai:(10:Nat)^608 < 18446744073709551616^33:=by decide +kernel
theorem zpj (v:Value) (X d:Nat) (w:World) (hv:Sl .u64 w v (wd 18446744073709551616 X)) (hl:(wd 18446744073709551616 X).length<1073741824) (hd:0<d) (hdB:d < 18446744073709551616) :
   Calls prog 208 #[v,.int .u64 (d:Int)] w fun e w'=>∃ v',e=.returned (.tuple #[v',.int .u64 ((X%d:Nat):Int)])∧Sl .u64 w' v' (wd 18446744073709551616 (X/d))∧But [] w w'∧mi w.heap.size v':=by(
 have mm:=zo (B:=18446744073709551616) (by omega) X
 have em:=qg (B:=18446744073709551616) (by omega) X
 obtain⟨a,c,rfl,hc,hcell,-⟩:=hv
 generalize wd 18446744073709551616 X=xs at *
 subst em
 obtain⟨R,hR⟩:∃ R,R=vl 18446744073709551616 xs%d:=⟨_,rfl⟩
 rw[← hR]
 have HR:=af hR
 have hmk:=fun wx=>xq wx xs.length (by omega)
 have HC:=af hcell
 have MM:=af mm
 clear hcell mm hR
 go_enter func208,ntmps208
 go_wp2
 go_loopw [7,8] (fun r i wr=>∃ (k rN:Nat) (rs:List Nat),k≤xs.length∧i=.int .i64 ((k:Int)-1)∧r=.int .u64 rN∧rN<d∧rs.length=xs.length∧Hid (zel xs rs d k rN∧But [] w wr∧Seg wr w.heap.size 0 rs)) (fun _ i _=>(intOf i+1).toNat)
 case atStart=>exact⟨xs.length,0,List.replicate xs.length 0,Nat.le_refl _,rfl,rfl,hd,by simp,zel.start xs d hd,(But.refl _ _).alloc _,Seg.made _ _ _⟩
 case round =>(
 obtain⟨k,rN,rs,hk,rfl,rfl,hrN,hrl,HI⟩:=hrel
 rename World=>wr
 by_cases hk0:k=0
 ·(
 subst hk0
 have hsl:=(ae HI).2.2.sl xs.length (by omega)
 rw[hrl] at hsl
 have HSL:=af hsl
 have HF:=af (ae HI).1.fin
 have hln:rs.length<2147483648:=by omega
 clear hsl HC
 go_wp2_with fail
 refine (zz _ rs _ (ae HSL) (ae HI).1.mem hln).mono ?_
 rintro e w1 ⟨v1,rfl,hv1,hw,hsb⟩
 obtain rfl:=hw.symm
 clear hw
 rw[(ae HF).1] at hv1
 have HV1:=af hv1
 have HSB:=af hsb
 clear hsb
 have er:Hid (rN=R):=by show _=_;rw[ae HR];exact (ae HF).2
 clear hv1
 go_wp2
 go_ret2
 exact⟨v1,by rw[← ae er];rfl,ae HV1,(ae HI).2.1,yh (ae HSB) (Nat.le_refl _)⟩)
 ·(
 obtain⟨i,rfl⟩:∃ i,k=i+1:=⟨k-1,by omega⟩
 obtain⟨b,off,rfl,hci⟩:=ae HC i (by omega)
 have cx:=(ae HI).2.1.ag hci (by simp)
 have hxB:xs[i]?.getD 0 < 18446744073709551616:=bt (ae MM) (by omega) i
 obtain⟨cr,fr⟩:=(ae HI).2.2 i (by omega)
 rw[Nat.zero_add] at cr fr
 obtain⟨q,hq⟩:∃ q,(rN * 18446744073709551616+xs[i]?.getD 0)/d=q:=⟨_,rfl⟩
 obtain⟨r',hr'⟩:∃ r',(rN * 18446744073709551616+xs[i]?.getD 0)%d=r':=⟨_,rfl⟩
 obtain⟨hqB,hst⟩:=(ae HI).1.step (by omega) hxB q r' hq hr'
 have hr'd:r' < d:=hst.lt
 have ST:=af hst
 have DV:=af (zhv rN (xs[i]?.getD 0) d hdB hxB hrN wr q r' hq hr')
 have hset:=(ae HI).2.2.set i (by omega) q
 rw[Nat.zero_add] at hset
 have HSET:=af hset
 clear hset hst hci hq hr'
 generalize xs[i]?.getD 0=x at *
 generalize rs[i]?.getD 0=r0 at cr
 rw[show (((i+1:Nat):Int)-1)=(i:Int) from by omega]
 go_wp2_with fail
 refine (ae DV).mono ?_
 rintro e w1 ⟨rfl,n,rfl⟩
 go_wp2
 refine⟨⟨i,r',rs.set i q,by omega,rfl,rfl,hr'd,by rw[List.length_set];exact hrl,ae ST,((ae HI).2.1.drewN n).setCell (.inr (Nat.le_refl _)) _,?_⟩,?_⟩
 ·exact ae HSET
 ·simp[intOf])))
theorem zbu (w:World) (base:Nat) (v:Value) (ds:List UInt8) (hown:w.ownsRow base 5 1 v ds.length (ds.map u8v)) (a:Addr) (d:UInt8) (hc:w.cell? a=some (u8v d)) (hl:ds.length<1073741824) (hb:base≤w.heap.size) :
   ∃ v' w',(Builtin.append_ #[185,185] 185 #[v,.slice (some a) 1 1]).run prog w=.ok v' w'∧w'.ownsRow base 5 1 v' (ds++[d]).length ((ds++[d]).map u8v)∧w.grownBy w' v.ownBlock∧(v'.ownBlock=v.ownBlock∨∀ k,v'.ownBlock=some k→w.heap.size≤k):=by(
 obtain⟨i0,hi,hz0,hz1,hz2⟩:=zjl
 have hnews:∀ j u,[u8v d][j]? = some u→w.cell? (a.add j)=some u:=fun j u hj=>by
  cases j with
  | zero=>simp at hj;subst hj;rw[show a.add 0=a from by simp[Addr.add]];exact hc
  | succ j=>simp at hj
 have h1:∀ u ∈ [u8v d],u.oneCell'=true:=fun u hu=>by simp at hu;subst hu;rfl
 have hrun:=fun (base:Nat) (ho:w.ownsRow base 5 1 v ds.length (ds.map u8v)) (hb:base≤w.heap.size)=>run_append_own (P:=prog) w base 185 185 5 i0 (.int .u8 0) 1 1 underlying185 hi hz0 hz1 hz2 rfl (by decide) v ds.length (ds.map u8v) ho a 1 1 [u8v d] rfl hnews h1 (by unfold maxLen;omega) (by omega) hb
 obtain⟨v',w',hr,ho',hg',-⟩:=hrun base hown hb
 refine⟨v',w',hr,by rw[List.length_append,List.map_append];exact ho',hg',?_⟩
 rcases hown.2 with ⟨rfl,-⟩|⟨g,cap,cur,rfl,-,hgc,hnc,hcm,hcs,htake⟩
 ·(
 have hd:ds=[]:=by
  obtain⟨hx,hy|⟨g,cap,cur,e,-⟩⟩:=hown
  ·exact List.eq_nil_of_length_eq_zero hy.2
  ·simp at e
 subst hd
 obtain⟨v2,w2,hr2,ho2,-,-⟩:=hrun w.heap.size (World.ownsRow_nil _ _ _ _) (Nat.le_refl _)
 rw[hr] at hr2
 simp only[Result.ok.injEq] at hr2
 obtain⟨rfl,rfl⟩:=hr2
 exact .inr fun k hk=>(ho2.lt k hk).1)
 ·(
 by_cases hroom:ds.length+1≤cap
 ·(
 have h2:=run_append_room (P:=prog) w 185 185 5 i0 underlying185 hi g ds.length cap cur hgc a 1 1 [u8v d] (by rw[hz1];rfl) hnews h1 hroom (by rw[hz1,hcs];simp;omega)
 rw[hr] at h2
 simp only[Result.ok.injEq] at h2
 rw[h2.1]
 exact .inl rfl)
 ·(
 have h2:=run_append_grow (P:=prog) w 185 185 5 i0 (.int .u8 0) underlying185 hi hz0 ⟨g,0,none⟩ ds.length cap (ds.map u8v) (by rw[hz1];simp) (hown.cells rfl) a 1 1 [u8v d] (by rw[hz1];rfl) hnews (by omega) (by omega) (growslice_fits (by omega) (by rw[hz2];omega))
 rw[hr] at h2
 simp only[Result.ok.injEq] at h2
 rw[h2.1]
 refine .inr fun k hk=>?_
 simp only[Value.ownBlock,Option.some.injEq] at hk
 omega)))
def qev (vb vx:Value):Prop:=∀ k,vb.ownBlock=some k→∀ b off n c,vx=.slice (some ⟨b,off,none⟩) n c→b≠k
theorem qev.grow {w w':World} {vb vb' vx:Value} {xs:List Nat} {o:Obj} (h:qev vb vx) (hs:Sl .u64 w vx xs) (h0:0<xs.length) (hg:(w.alloc o).grownBy w' vb.ownBlock) (hb:vb'.ownBlock=vb.ownBlock∨∀ k,vb'.ownBlock=some k→(w.alloc o).heap.size≤k):Sl .u64 w' vx xs∧qev vb' vx:=by(
 constructor
 ·have h1:=hs.ah ((But.refl [] w).alloc o)
  cases hr:vb.ownBlock with
  | none=>rw[hr] at hg;exact h1.ah (ou hg)
  | some g=>rw[hr] at hg;exact h1.but (zew hg) (fun b off cap n e=>by have:=h g hr b off n cap e;simp;omega)
 ·(
 intro k hk b off n c e
 rcases hb with hb | hb
 ·rw[hb] at hk;exact h k hk b off n c e
 ·have h1:=hb k hk
  have h2:=hs.lt h0 b off n c e
  simp at h1
  omega))
theorem zkf {w:World} {g:Nat} {es:List UInt8} (h:Row .u8 w g (es.map UInt8.toNat)):∀ j u,(es.map u8v)[j]? = some u→w.cell? ((⟨g,0,none⟩:Addr).add j)=some u:=fun j u hj=>by
 rw[List.getElem?_map] at hj
 rcases Nat.lt_or_ge j es.length with hl | hl
 ·rw[List.getElem?_eq_getElem hl] at hj
  simp only[Option.map_some,Option.some.injEq] at hj
  have h1:=(h j (by rw[List.length_map];exact hl)).1
  rw[List.getElem?_map,List.getElem?_eq_getElem hl] at h1
  have e:(⟨g,0,none⟩:Addr).add j=⟨g,j,none⟩:=by by_cases h:j=0 <;> simp[Addr.add,h]
  rw[e,h1,← hj]
  rfl
 ·rw[List.getElem?_eq_none hl] at hj
  simp at hj
theorem qaj {q:Nat} (h:1<(wd 18446744073709551616 q).length):10000000000000000000≤q:=by(
 rcases Nat.lt_or_ge q 18446744073709551616 with h1 | h1
 ·have:=aj (B:=18446744073709551616) (by omega) q 1 (by rw[Nat.pow_one];exact h1)
  omega
 ·omega)
def jf (W X:Nat):List UInt8:=ko X++List.replicate (W-(ko X).length) 48
theorem zhb (X:Nat):jf 0 X=ko X:=by simp[jf]
theorem zid:∀ k,bf k 0=List.replicate k 48
 | 0=>rfl
 | k+1=>by rw[bf,Nat.zero_div,zid k,List.replicate_succ];rfl
theorem zck:∀ k n,n<10^k→bf k n=jf k n
 | 0,n,h=>by
  have:n=0:=by simp at h;omega
  subst this;simp[bf,jf,l6]
 | k+1,n,h=>by
  by_cases h0:0<n
  ·rw[bf,zck k (n/10) (by rw[Nat.div_lt_iff_lt_mul (by omega)];rw[Nat.pow_succ] at h;exact h),jf,jf,om h0,List.cons_append,List.length_cons,Nat.add_sub_add_right]
  ·have:n=0:=by omega
   subst this;rw[zid,jf,l6];simp
theorem zre:∀ a b n,bf (a+b) n=bf a n++bf b (n/10^a)
 | 0,b,n=>by simp[bf]
 | a+1,b,n=>by
  rw[Nat.succ_add,bf,zre a b,bf,List.cons_append,Nat.div_div_eq_div_mul,Nat.pow_succ,Nat.mul_comm 10]
theorem zxb (D X:Nat) (h:10^D≤X):jf 0 X=jf D (X%10^D)++jf 0 (X/10^D):=by
 rw[zhb,zhb,zhh D X h,← zga D X,zck D _ (Nat.mod_lt _ (Nat.pow_pos (by omega)))]
theorem zxa (D X:Nat) (h:X<10^(D+D)):jf (D+D) X=jf D (X%10^D)++jf D (X/10^D):=by
 have hp:0<10^D:=Nat.pow_pos (by omega)
 rw[← zck _ _ h,zre,← zga D X,zck D _ (Nat.mod_lt _ hp),zck D (X/10^D) (by rw[Nat.div_lt_iff_lt_mul hp,← Nat.pow_add];exact h)]
theorem zbh (W X:Nat):(jf W X).length=max W (ko X).length:=by
 rw[jf,List.length_append,List.length_replicate];omega
theorem zjn (W X:Nat) (h:0<X∨0<W):0<(jf W X).length:=by(
 rw[zbh]
 rcases h with h | h
 ·rw[om h];simp;omega
 ·omega)
def ky (w w':World):Prop:=∀ v xs,Sl .u64 w v xs→Sl .u64 w' v xs
theorem ky.zhl {w w':World} (h:But [] w w'):ky w w':=fun _ _ hs=>hs.ah h
theorem ky.trans {a b c:World} (h:ky a b) (k:ky b c):ky a c:=fun v xs hs=>k v xs (h v xs hs)
theorem zku {w w':World} {base:Nat} {vo:Value} {ods:List UInt8} (ho:w.ownsRow base 5 1 vo ods.length (ods.map u8v)) (hn:vo=.slice none 0 0∨0<ods.length) (hg:w.grownBy w' vo.ownBlock):ky w w':=by(
 intro v xs hs
 rcases hn with rfl | h0
 ·exact hs.ah (ou hg)
 ·obtain⟨g,cap,rfl,-,-,hr⟩:=zcl ho h0
  exact hs.over (zew hg) (hr 0 (by simpa using h0)).1 (by simp))
theorem below_grown {w w':World} {base:Nat} {vo:Value} {n:Nat} {xs:List Value} (ho:w.ownsRow base 5 1 vo n xs) (hb:base≤w.heap.size) (hg:w.grownBy w' vo.ownBlock):Below base w w' :=
 ⟨hg.os,hg.tape,hg.output,hg.size,fun k hk=>hg.block k (by omega) (fun e=>by have:=(ho.lt k e.symm).1;omega)⟩
theorem But.zcs {w w':World} {base:Nat} (h:But [] w w') (hb:base≤w.heap.size):Below base w w':=⟨h.os,h.tape,h.output,h.size,fun k hk=>h.block k (by omega) (by simp)⟩
theorem jr {a b c:World} {n:Nat} (h:Below n a b) (k:Below n b c):Below n a c :=
 ⟨k.os.trans h.os,k.tape.trans h.tape,k.output.trans h.output,Nat.le_trans h.size k.size,fun i hi=>(k.block i hi).trans (h.block i hi)⟩
theorem dh {w:World} {base:Nat} {e:TypeId} {v:Value} {n:Nat} {xs:List Value} (h:w.ownsRow base e 1 v n xs):∃ a c,v=.slice a n c:=by(
 obtain⟨-,h2⟩:=h
 rcases h2 with ⟨rfl,rfl⟩|⟨g,cap,cur,e1,-⟩
 ·exact⟨_,_,rfl⟩
 ·exact⟨_,_,e1⟩)
end Go.Proofs.YtagmkkiagjmimaaGreatDoor
