/- Decimal digits and rows of bytes, plain. -/
import Derived.Test.YtpmjeclpkahkmaaGreatDoorProg
import Derived.Deep.LoopGhost
import Derived.Lib.ItoaNum
import Derived.Laws.IdiomStrings
import Derived.OwnWalk
import Derived.WalkSpells
import Derived.Deep.RegionHeld
import Derived.Test.YtpmjeclpkahkmaaGreatDoorVN12
namespace Go.Proofs.YtpmjeclpkahkmaaGreatDoor
set_option linter.unusedVariables false
open Go.Proofs.Tryz
open Go.RowKit
set_option maxHeartbeats 4000000
set_option maxRecDepth 100000
theorem But.grown {a w w':World} {row:Option Nat} (h:But [] a w) (hg:w.grownBy w' row) (hr:∀ k,row=some k→a.heap.size≤k):But [] a w' :=
 ⟨hg.os.trans h.os,hg.tape.trans h.tape,hg.output.trans h.output,Nat.le_trans h.size hg.size,fun k hk hn=>by
  rw[hg.block k (Nat.lt_of_lt_of_le hk h.size) (fun e=>by have:=hr k e.symm;omega)]
  exact h.block k hk hn⟩
theorem zgt {w w':World} {g:Nat} (hg:w.grownBy w' (some g)):But [g] w w' :=
 ⟨hg.os,hg.tape,hg.output,hg.size,fun k hk hn=>hg.block k hk (fun e=>hn (by simp only[Option.some.injEq] at e;simp[e]))⟩
theorem zai {w w':World} (hg:w.grownBy w' none):But [] w w' :=
 ⟨hg.os,hg.tape,hg.output,hg.size,fun k hk _=>hg.block k hk (by simp)⟩
theorem zbc {w w':World} {base:Nat} {e:TypeId} {size:Nat} {v:Value} {n:Nat} {xs:List Value} (h:w.ownsRow base e size v n xs) (hb:But [] w w'):w'.ownsRow base e size v n xs:=by(
obtain⟨h1,h2⟩:=h
refine⟨h1,?_⟩
rcases h2 with h2|⟨g,cap,cur,e1,e2,e3,e4⟩
·exact .inl h2
·(
refine .inr ⟨g,cap,cur,e1,e2,?_,e4⟩
have hlt:g<w.heap.size:=by
 rcases Nat.lt_or_ge g w.heap.size with h | h
 ·exact h
 ·rw[Array.getElem?_eq_none h] at e3;cases e3
rw[hb.block g hlt (by simp)];exact e3))
def u8v (b:UInt8):Value:=.int .u8 (b.toNat:Int)
def yh (n:Nat):List UInt8:=if h:0<n then UInt8.ofNat (48+n%10)::yh (n/10) else []
 termination_by n
 decreasing_by exact Nat.div_lt_self h (by omega)
theorem sj:yh 0=[]:=by rw[yh];simp
theorem zab {n:Nat} (h:0<n):yh n=UInt8.ofNat (48+n%10)::yh (n/10):=by rw[yh,dif_pos h]
theorem zib (n:Nat) (h:0<n):(yh n).reverse=Lib.decDigits n:=by(
induction n using Nat.strongRecOn with
| _ n ih =>
 rw[zab h,List.reverse_cons,Lib.decDigits]
 by_cases h10:n<10
 ·rw[dif_pos h10,Nat.div_eq_of_lt h10,sj,Nat.mod_eq_of_lt h10];rfl
 ·rw[dif_neg h10,ih (n/10) (Nat.div_lt_self h (by omega)) (by omega)])
theorem zde (n k:Nat) (h:n<10^k):(yh n).length≤k:=by(
induction k generalizing n with
| zero =>
 have:n=0:=by simp at h;omega
 subst this;simp[sj]
| succ k ih =>
 by_cases hn:0<n
 ·rw[zab hn,List.length_cons]
  have:=ih (n/10) (by rw[Nat.div_lt_iff_lt_mul (by omega)];rw[Nat.pow_succ] at h;exact h)
  omega
 ·have:n=0:=by omega
  subst this;simp[sj])
theorem zly:∃ i,prog.info? 5 = some i∧i.zero=some (.int .u8 0)∧i.size=1∧i.bytes=1:=by(
have h:(prog.info? 5).map (fun i=>(i.zero,i.size,i.bytes))=some (some (.int .u8 0),1,1):=by kernel_rfl
obtain⟨i,hi,he⟩:=Option.map_eq_some_iff.1 h
simp only[Prod.mk.injEq] at he
exact⟨i,hi,he.1,he.2.1,he.2.2⟩)
structure zas (bs cs:List Nat) (i:Nat):Prop where
 len:cs.length=bs.length
 at':∀ k,k<bs.length→cs[k]?.getD 0=if k<i∨bs.length-i≤k then bs[bs.length-1-k]?.getD 0 else bs[k]?.getD 0
theorem zas.start (bs:List Nat):zas bs bs 0:=⟨rfl,fun k hk=>by rw[if_neg (by omega)]⟩
theorem zun (l:List Nat) (i k x:Nat) (hi:i<l.length):(l.set i x)[k]?.getD 0=if k=i then x else l[k]?.getD 0:=by(
by_cases h:k=i
·subst h;rw[List.getElem?_set_self hi,if_pos rfl];rfl
·rw[List.getElem?_set_ne (Ne.symm h),if_neg h])
theorem zas.step {bs cs:List Nat} {i:Nat} (h:zas bs cs i) (hij:i<bs.length-1-i):zas bs ((cs.set i (cs[bs.length-1-i]?.getD 0)).set (bs.length-1-i) (cs[i]?.getD 0)) (i+1):=by(
have hl:=h.len
refine⟨by simp[hl],fun k hk=>?_⟩
have e1:cs[i]?.getD 0=bs[i]?.getD 0:=by rw[h.at' i (by omega),if_neg (by omega)]
have e2:cs[bs.length-1-i]?.getD 0=bs[bs.length-1-i]?.getD 0:=by rw[h.at' (bs.length-1-i) (by omega),if_neg (by omega)]
rw[zun _ _ _ _ (by simp[hl];omega),zun _ _ _ _ (by omega),e1,e2]
by_cases h1:k=bs.length-1-i
·subst h1
 rw[if_pos rfl,if_pos (by omega),show bs.length-1-(bs.length-1-i)=i from by omega]
·(
rw[if_neg h1]
by_cases h2:k=i
·subst h2
 rw[if_pos rfl,if_pos (by omega)]
·rw[if_neg h2,h.at' k hk]
 by_cases h3:k<i∨bs.length-i≤k
 ·rw[if_pos h3,if_pos (by omega)]
 ·rw[if_neg h3,if_neg (by omega)]))
theorem zas.fin {bs cs:List Nat} {i:Nat} (h:zas bs cs i) (hij:bs.length≤2*i+1):cs=bs.reverse:=by(
refine List.ext_getElem (by simp[h.len]) fun k h1 h2=>?_
have hk:k<bs.length:=by rw[← h.len];exact h1
have e:=h.at' k hk
rw[List.getElem?_eq_getElem h1,Option.getD_some] at e
rw[e,List.getElem_reverse]
by_cases h3:k<i∨bs.length-i≤k
·rw[if_pos h3,List.getElem?_eq_getElem (by omega)];rfl
·rw[if_neg h3,List.getElem?_eq_getElem hk,Option.getD_some]
 have:bs.length-1-k=k:=by omega
 simp only[this])
theorem zdz {w:World} {base:Nat} {e:TypeId} {v:Value} {bs:List UInt8} (h:w.ownsRow base e 1 v bs.length (bs.map u8v)) (h0:0<bs.length) :
  ∃ g cap,v=.slice (some ⟨g,0,none⟩) bs.length cap∧base≤g∧bs.length≤cap∧Row .u8 w g (bs.map UInt8.toNat):=by(
obtain⟨h1,h2⟩:=h
rcases h2 with ⟨-,h2⟩|⟨g,cap,cur,e1,e2,e3,e4,e5,e6,e7⟩
·omega
·(
refine⟨g,cap,e1,e2,e4,fun i hi=>?_⟩
rw[List.length_map] at hi
have hc:cur[i]? = some (u8v bs[i]):=by
 have:(cur.toList.take (bs.length*1))[i]? = some (u8v bs[i]):=by rw[e7,List.getElem?_map,List.getElem?_eq_getElem hi];rfl
 rw[List.getElem?_take_of_lt (by omega)] at this
 simpa using this
refine⟨?_,by simp[World.frozen?,e3]⟩
simp only[World.cell?,e3,hc]
simp[u8v,hi]))
theorem qdk {k:IntKind} {w2 w3:World} {v:Value} {xs:List Nat} {o:Obj} {row:Option Nat} {B:Nat} (h:Sl k w2 v xs) (hg:(w2.alloc o).grownBy w3 row) (hr:∀ k,row=some k→k<B) (hf:ui B v):Sl k w3 v xs:=by(
have h1:=h.ah ((But.refl [] w2).alloc o)
cases row with
| none=>exact h1.ah (zai hg)
| some g=>exact h1.but (zgt hg) (fun b off cap n e=>by have:=hf b off n cap e;have:=hr g rfl;simp;omega))
theorem zjm (r:Nat) (h:r<10):Value.int .u8 (48+(r:Int))=u8v (UInt8.ofNat (48+r)):=by(
unfold u8v
rw[UInt8.toNat_ofNat_of_lt' (by simp[UInt8.size];omega)]
simp)
def mh:Nat→Nat→List UInt8
 | 0,_=>[]
 | k+1,r=>UInt8.ofNat (48+r%10)::mh k (r/10)
theorem zku:∀ k r,(mh k r).length=k
 | 0,_=>rfl
 | k+1,r=>by rw[mh,List.length_cons,zku k]
theorem zpn:∀ k r,mh (k+1) r=mh k r++[UInt8.ofNat (48+r/10^k%10)]
 | 0,r=>by simp[mh]
 | k+1,r=>by
  rw[mh,zpn k (r/10),mh,List.cons_append,Nat.div_div_eq_div_mul,Nat.pow_succ,Nat.mul_comm 10]
theorem zid:∀ k r,mh k (r%10^k)=mh k r
 | 0,r=>rfl
 | k+1,r=>by
  have h1:r%10^(k+1)%10=r%10:=Nat.mod_mod_of_dvd _ ⟨10^k,by rw[Nat.pow_succ,Nat.mul_comm]⟩
  have h2:r%10^(k+1)/10=r/10%10^k:=by rw[Nat.pow_succ,Nat.mul_comm,Nat.mod_mul_right_div_self]
  rw[mh,mh,h1,h2,zid k]
theorem zjr:∀ k n,10^k≤n→yh n=mh k n++yh (n/10^k)
 | 0,n,_=>by simp[mh]
 | k+1,n,h=>by
  have hp:0<10^k:=Nat.pow_pos (by omega)
  have h0:0<n:=by have:=Nat.pow_pos (n:=k+1) (show 0<10 from by omega);omega
  rw[zab h0,zjr k (n/10) (by rw[Nat.le_div_iff_mul_le (by omega),← Nat.pow_succ];exact h),mh,List.cons_append,Nat.div_div_eq_div_mul,Nat.pow_succ,Nat.mul_comm 10]
theorem Row.but {k:IntKind} {w w':World} {g:Nat} {rs:List Nat} {l:List Nat} (h:Row k w g rs) (hb:But l w w') (hn:g ∉ l):Row k w' g rs:=fun i hi=>by
 obtain⟨h1,h2⟩:=h i hi
 have hl:=ai h1
 exact⟨hb.ag h1 hn,(hb.frozen hl hn).trans h2⟩
theorem zkq (g cap:Nat) (bs:List Nat) (w:World) (hr:Row .u8 w g bs) (h0:0<bs.length) (hl:bs.length<1073741824) :
  Calls prog 272 #[.slice (some ⟨g,0,none⟩) bs.length cap] w fun e w'=>e=.returned (.tuple #[])∧Row .u8 w' g bs.reverse∧But [g] w w':=by(
have mixed:prog.follows .mixedOrders=true:=by kernel_rfl
have HR:=af hr
clear hr
obtain⟨n,hn⟩:∃ n,n=bs.length:=⟨_,rfl⟩
rw[← hn] at h0 hl ⊢
have HN:=af hn
clear hn
go_enter func272,ntmps272
go_wp2
go_loopw [2,3] (fun i j wq=>∃ (k q:Nat) (cs:List Nat),i=.int .i64 k∧j=.int .i64 q∧k≤q+1∧Hid (k+q+1=n∧zas bs cs k∧Row .u8 wq g cs∧But [g] w wq)) (fun i _ _=>n-(intOf i).toNat)
case atStart=>exact⟨0,n-1,bs,rfl,by congr 1;omega,by omega,by omega,zas.start _,ae HR,But.refl _ _⟩
case round =>(
obtain⟨k,q,cs,rfl,rfl,hkq,HJ⟩:=hrel
rename World=>wq
have hcl:cs.length=n:=by rw[(ae HJ).2.1.len,ae HN]
have hsum:=(ae HJ).1
by_cases hlt:k<q
·(
obtain⟨ck,fk⟩:=(ae HJ).2.2.1 k (by omega)
obtain⟨cq,fq⟩:=(ae HJ).2.2.1 q (by omega)
have ST:=af ((ae HJ).2.1.step (by rw[← ae HN];omega))
have hq:q=n-1-k:=by omega
rw[← ae HN,← hq] at ST
have HC:=af hcl
have HS:=af hsum
have ne1:k≠q:=by omega
have hk1:k<n:=by omega
have hq1:q<n:=by omega
clear hcl hsum hq
generalize hx:cs[k]?.getD 0=x at *
generalize hy:cs[q]?.getD 0=y at *
clear hx hy
go_wp2_with fail
go_region_o
go_wp2
refine⟨⟨k+1,q-1,(cs.set k y).set q x,by go_num,by rw[Int.ofNat_sub (by omega)];rfl,by omega,by have:=ae HS;omega,ae ST,?_,?_⟩,?_⟩
·exact (((ae HJ).2.2.1.set k (by rw[ae HC];have:=ae HS;omega) y).set q (by rw[List.length_set,ae HC];have:=ae HS;omega) x).but ((But.refl [] _).drew) (by simp)
·exact (((ae HJ).2.2.2.setCell (p:=⟨g,k,none⟩) (.inl (by simp)) (.int .u8 (y:Int))).setCell (p:=⟨g,q,none⟩) (.inl (by simp)) (.int .u8 (x:Int))).drew
·have:=ae HS
 simp[intOf];omega)
·(
have hfin:cs=bs.reverse:=(ae HJ).2.1.fin (by rw[← ae HN];omega)
have HF:=af hfin
clear hfin hcl hsum
go_wp2
go_end0
exact⟨rfl,by rw[← ae HF];exact (ae HJ).2.2.1,(ae HJ).2.2.2⟩)))
theorem qcy:(10:Nat)^608 < 18446744073709551616^33:=by decide +kernel
theorem zrz (v:Value) (X d:Nat) (w:World) (hv:Sl .u64 w v (wd 18446744073709551616 X)) (hl:(wd 18446744073709551616 X).length<1073741824) (hd:0<d) (hdB:d < 18446744073709551616) :
  Calls prog 246 #[v,.int .u64 (d:Int)] w fun e w'=>∃ v',e=.returned (.tuple #[v',.int .u64 ((X%d:Nat):Int)])∧Sl .u64 w' v' (wd 18446744073709551616 (X/d))∧But [] w w'∧ui w.heap.size v':=by(
have mm:=zn (B:=18446744073709551616) (by omega) X
have em:=qg (B:=18446744073709551616) (by omega) X
obtain⟨a,c,rfl,hc,hcell,-⟩:=hv
generalize wd 18446744073709551616 X=xs at *
subst em
obtain⟨R,hR⟩:∃ R,R=vl 18446744073709551616 xs%d:=⟨_,rfl⟩
rw[← hR]
have HR:=af hR
have hmk:=fun wx=>ve wx xs.length (by omega)
have HC:=af hcell
have MM:=af mm
clear hcell mm hR
go_enter func246,ntmps246
go_wp2
go_loopw [7,8] (fun r i wr=>∃ (k rN:Nat) (rs:List Nat),k≤xs.length∧i=.int .i64 ((k:Int)-1)∧r=.int .u64 rN∧rN<d∧rs.length=xs.length∧Hid (zgh xs rs d k rN∧But [] w wr∧Seg wr w.heap.size 0 rs)) (fun _ i _=>(intOf i+1).toNat)
case atStart=>exact⟨xs.length,0,List.replicate xs.length 0,Nat.le_refl _,rfl,rfl,hd,by simp,zgh.start xs d hd,(But.refl _ _).alloc _,Seg.made _ _ _⟩
case round =>(
obtain⟨k,rN,rs,hk,rfl,rfl,hrN,hrl,HI⟩:=hrel
rename World=>wr
by_cases hk0:k=0
·(
subst hk0
have hsl:=(ae HI).2.2.sl xs.length (by omega)
rw[hrl] at hsl
have HSL:=af hsl
have HF:=af (ae HI).1.fin
have hln:rs.length<2147483648:=by omega
clear hsl HC
go_wp2_with fail
refine (z8 _ rs _ (ae HSL) (ae HI).1.mem hln).mono ?_
rintro e w1 ⟨v1,rfl,hv1,hw,hsb⟩
obtain rfl:=hw.symm
clear hw
rw[(ae HF).1] at hv1
have HV1:=af hv1
have HSB:=af hsb
clear hsb
have er:Hid (rN=R):=by show _=_;rw[ae HR];exact (ae HF).2
clear hv1
go_wp2
go_ret2
exact⟨v1,by rw[← ae er];rfl,ae HV1,(ae HI).2.1,eu (ae HSB) (Nat.le_refl _)⟩)
·(
obtain⟨i,rfl⟩:∃ i,k=i+1:=⟨k-1,by omega⟩
obtain⟨b,off,rfl,hci⟩:=ae HC i (by omega)
have cx:=(ae HI).2.1.ag hci (by simp)
have hxB:xs[i]?.getD 0 < 18446744073709551616:=cf (ae MM) (by omega) i
obtain⟨cr,fr⟩:=(ae HI).2.2 i (by omega)
rw[Nat.zero_add] at cr fr
obtain⟨q,hq⟩:∃ q,(rN * 18446744073709551616+xs[i]?.getD 0)/d=q:=⟨_,rfl⟩
obtain⟨r',hr'⟩:∃ r',(rN * 18446744073709551616+xs[i]?.getD 0)%d=r':=⟨_,rfl⟩
obtain⟨hqB,hst⟩:=(ae HI).1.step (by omega) hxB q r' hq hr'
have hr'd:r' < d:=hst.lt
have ST:=af hst
have DV:=af (zkg rN (xs[i]?.getD 0) d hdB hxB hrN wr q r' hq hr')
have hset:=(ae HI).2.2.set i (by omega) q
rw[Nat.zero_add] at hset
have HSET:=af hset
clear hset hst hci hq hr'
generalize xs[i]?.getD 0=x at *
generalize rs[i]?.getD 0=r0 at cr
rw[show (((i+1:Nat):Int)-1)=(i:Int) from by omega]
go_wp2_with fail
refine (ae DV).mono ?_
rintro e w1 ⟨rfl,n,rfl⟩
go_wp2
refine⟨⟨i,r',rs.set i q,by omega,rfl,rfl,hr'd,by rw[List.length_set];exact hrl,ae ST,((ae HI).2.1.drewN n).setCell (.inr (Nat.le_refl _)) _,?_⟩,?_⟩
·exact ae HSET
·simp[intOf])))
theorem zdo (w:World) (base:Nat) (v:Value) (ds:List UInt8) (hown:w.ownsRow base 5 1 v ds.length (ds.map u8v)) (a:Addr) (d:UInt8) (hc:w.cell? a=some (u8v d)) (hl:ds.length<1073741824) (hb:base≤w.heap.size) :
  ∃ v' w',(Builtin.append_ #[164,164] 164 #[v,.slice (some a) 1 1]).run prog w=.ok v' w'∧w'.ownsRow base 5 1 v' (ds++[d]).length ((ds++[d]).map u8v)∧w.grownBy w' v.ownBlock∧(v'.ownBlock=v.ownBlock∨∀ k,v'.ownBlock=some k→w.heap.size≤k):=by(
obtain⟨i0,hi,hz0,hz1,hz2⟩:=zly
have hnews:∀ j u,[u8v d][j]? = some u→w.cell? (a.add j)=some u:=fun j u hj=>by
 cases j with
 | zero=>simp at hj;subst hj;rw[show a.add 0=a from by simp[Addr.add]];exact hc
 | succ j=>simp at hj
have h1:∀ u ∈ [u8v d],u.oneCell'=true:=fun u hu=>by simp at hu;subst hu;rfl
have hrun:=fun (base:Nat) (ho:w.ownsRow base 5 1 v ds.length (ds.map u8v)) (hb:base≤w.heap.size)=>run_append_own (P:=prog) w base 164 164 5 i0 (.int .u8 0) 1 1 underlying164 hi hz0 hz1 hz2 rfl (by decide) v ds.length (ds.map u8v) ho a 1 1 [u8v d] rfl hnews h1 (by unfold maxLen;omega) (by omega) hb
obtain⟨v',w',hr,ho',hg',-⟩:=hrun base hown hb
refine⟨v',w',hr,by rw[List.length_append,List.map_append];exact ho',hg',?_⟩
rcases hown.2 with ⟨rfl,-⟩|⟨g,cap,cur,rfl,-,hgc,hnc,hcm,hcs,htake⟩
·(
have hd:ds=[]:=by
 obtain⟨hx,hy|⟨g,cap,cur,e,-⟩⟩:=hown
 ·exact List.eq_nil_of_length_eq_zero hy.2
 ·simp at e
subst hd
obtain⟨v2,w2,hr2,ho2,-,-⟩:=hrun w.heap.size (World.ownsRow_nil _ _ _ _) (Nat.le_refl _)
rw[hr] at hr2
simp only[Result.ok.injEq] at hr2
obtain⟨rfl,rfl⟩:=hr2
exact .inr fun k hk=>(ho2.lt k hk).1)
·(
by_cases hroom:ds.length+1≤cap
·(
have h2:=run_append_room (P:=prog) w 164 164 5 i0 underlying164 hi g ds.length cap cur hgc a 1 1 [u8v d] (by rw[hz1];rfl) hnews h1 hroom (by rw[hz1,hcs];simp;omega)
rw[hr] at h2
simp only[Result.ok.injEq] at h2
rw[h2.1]
exact .inl rfl)
·(
have h2:=run_append_grow (P:=prog) w 164 164 5 i0 (.int .u8 0) underlying164 hi hz0 ⟨g,0,none⟩ ds.length cap (ds.map u8v) (by rw[hz1];simp) (hown.cells rfl) a 1 1 [u8v d] (by rw[hz1];rfl) hnews (by omega) (by omega) (growslice_fits (by omega) (by rw[hz2];omega))
rw[hr] at h2
simp only[Result.ok.injEq] at h2
rw[h2.1]
refine .inr fun k hk=>?_
simp only[Value.ownBlock,Option.some.injEq] at hk
omega)))
def qht (vb vx:Value):Prop:=∀ k,vb.ownBlock=some k→∀ b off n c,vx=.slice (some ⟨b,off,none⟩) n c→b≠k
theorem qht.grow {w w':World} {vb vb' vx:Value} {xs:List Nat} {o:Obj} (h:qht vb vx) (hs:Sl .u64 w vx xs) (h0:0<xs.length) (hg:(w.alloc o).grownBy w' vb.ownBlock) (hb:vb'.ownBlock=vb.ownBlock∨∀ k,vb'.ownBlock=some k→(w.alloc o).heap.size≤k):Sl .u64 w' vx xs∧qht vb' vx:=by(
constructor
·have h1:=hs.ah ((But.refl [] w).alloc o)
 cases hr:vb.ownBlock with
 | none=>rw[hr] at hg;exact h1.ah (zai hg)
 | some g=>rw[hr] at hg;exact h1.but (zgt hg) (fun b off cap n e=>by have:=h g hr b off n cap e;simp;omega)
·(
intro k hk b off n c e
rcases hb with hb | hb
·rw[hb] at hk;exact h k hk b off n c e
·have h1:=hb k hk
 have h2:=hs.lt h0 b off n c e
 simp at h1
 omega))
theorem zmt {w:World} {g:Nat} {es:List UInt8} (h:Row .u8 w g (es.map UInt8.toNat)):∀ j u,(es.map u8v)[j]? = some u→w.cell? ((⟨g,0,none⟩:Addr).add j)=some u:=fun j u hj=>by
 rw[List.getElem?_map] at hj
 rcases Nat.lt_or_ge j es.length with hl | hl
 ·rw[List.getElem?_eq_getElem hl] at hj
  simp only[Option.map_some,Option.some.injEq] at hj
  have h1:=(h j (by rw[List.length_map];exact hl)).1
  rw[List.getElem?_map,List.getElem?_eq_getElem hl] at h1
  have e:(⟨g,0,none⟩:Addr).add j=⟨g,j,none⟩:=by by_cases h:j=0 <;> simp[Addr.add,h]
  rw[e,h1,← hj]
  rfl
 ·rw[List.getElem?_eq_none hl] at hj
  simp at hj
theorem qcz {q:Nat} (h:1<(wd 18446744073709551616 q).length):10000000000000000000≤q:=by(
rcases Nat.lt_or_ge q 18446744073709551616 with h1 | h1
·have:=aj (B:=18446744073709551616) (by omega) q 1 (by rw[Nat.pow_one];exact h1)
 omega
·omega)
def jm (W X:Nat):List UInt8:=yh X++List.replicate (W-(yh X).length) 48
theorem zjl (X:Nat):jm 0 X=yh X:=by simp[jm]
theorem zkt:∀ k,mh k 0=List.replicate k 48
 | 0=>rfl
 | k+1=>by rw[mh,Nat.zero_div,zkt k,List.replicate_succ];rfl
theorem zdy:∀ k n,n<10^k→mh k n=jm k n
 | 0,n,h=>by
  have:n=0:=by simp at h;omega
  subst this;simp[mh,jm,sj]
 | k+1,n,h=>by
  by_cases h0:0<n
  ·rw[mh,zdy k (n/10) (by rw[Nat.div_lt_iff_lt_mul (by omega)];rw[Nat.pow_succ] at h;exact h),jm,jm,zab h0,List.cons_append,List.length_cons,Nat.add_sub_add_right]
  ·have:n=0:=by omega
   subst this;rw[zkt,jm,sj];simp
theorem ztj:∀ a b n,mh (a+b) n=mh a n++mh b (n/10^a)
 | 0,b,n=>by simp[mh]
 | a+1,b,n=>by
  rw[Nat.succ_add,mh,ztj a b,mh,List.cons_append,Nat.div_div_eq_div_mul,Nat.pow_succ,Nat.mul_comm 10]
theorem zzn (D X:Nat) (h:10^D≤X):jm 0 X=jm D (X%10^D)++jm 0 (X/10^D):=by
 rw[zjl,zjl,zjr D X h,← zid D X,zdy D _ (Nat.mod_lt _ (Nat.pow_pos (by omega)))]
theorem zzm (D X:Nat) (h:X<10^(D+D)):jm (D+D) X=jm D (X%10^D)++jm D (X/10^D):=by
 have hp:0<10^D:=Nat.pow_pos (by omega)
 rw[← zdy _ _ h,ztj,← zid D X,zdy D _ (Nat.mod_lt _ hp),zdy D (X/10^D) (by rw[Nat.div_lt_iff_lt_mul hp,← Nat.pow_add];exact h)]
theorem zdc (W X:Nat):(jm W X).length=max W (yh X).length:=by
 rw[jm,List.length_append,List.length_replicate];omega
theorem zmc (W X:Nat) (h:0<X∨0<W):0<(jm W X).length:=by(
rw[zdc]
rcases h with h | h
·rw[zab h];simp;omega
·omega)
def wo (w w':World):Prop:=∀ v xs,Sl .u64 w v xs→Sl .u64 w' v xs
theorem wo.zjv {w w':World} (h:But [] w w'):wo w w':=fun _ _ hs=>hs.ah h
theorem wo.trans {a b c:World} (h:wo a b) (k:wo b c):wo a c:=fun v xs hs=>k v xs (h v xs hs)
theorem zno {w w':World} {base:Nat} {vo:Value} {ods:List UInt8} (ho:w.ownsRow base 5 1 vo ods.length (ods.map u8v)) (hn:vo=.slice none 0 0∨0<ods.length) (hg:w.grownBy w' vo.ownBlock):wo w w':=by(
intro v xs hs
rcases hn with rfl | h0
·exact hs.ah (zai hg)
·obtain⟨g,cap,rfl,-,-,hr⟩:=zdz ho h0
 exact hs.over (zgt hg) (hr 0 (by simpa using h0)).1 (by simp))
theorem below_grown {w w':World} {base:Nat} {vo:Value} {n:Nat} {xs:List Value} (ho:w.ownsRow base 5 1 vo n xs) (hb:base≤w.heap.size) (hg:w.grownBy w' vo.ownBlock):Below base w w' :=
 ⟨hg.os,hg.tape,hg.output,hg.size,fun k hk=>hg.block k (by omega) (fun e=>by have:=(ho.lt k e.symm).1;omega)⟩
theorem But.zeg {w w':World} {base:Nat} (h:But [] w w') (hb:base≤w.heap.size):Below base w w':=⟨h.os,h.tape,h.output,h.size,fun k hk=>h.block k (by omega) (by simp)⟩
theorem xg {a b c:World} {n:Nat} (h:Below n a b) (k:Below n b c):Below n a c :=
 ⟨k.os.trans h.os,k.tape.trans h.tape,k.output.trans h.output,Nat.le_trans h.size k.size,fun i hi=>(k.block i hi).trans (h.block i hi)⟩
theorem mi {w:World} {base:Nat} {e:TypeId} {v:Value} {n:Nat} {xs:List Value} (h:w.ownsRow base e 1 v n xs):∃ a c,v=.slice a n c:=by(
obtain⟨-,h2⟩:=h
rcases h2 with ⟨rfl,rfl⟩|⟨g,cap,cur,e1,-⟩
·exact⟨_,_,rfl⟩
·exact⟨_,_,e1⟩)
structure qjn (w:World) (n m:Nat) (ds:List UInt8) (vb vx:Value) (wr:World):Prop where
 words:Sl .u64 wr vx (wd 18446744073709551616 m)
 own:wr.ownsRow w.heap.size 5 1 vb ds.length (ds.map u8v)
 but:But [] w wr
 dig:yh n=ds++yh m
 pos:0<n→0<m
 len:(wd 18446744073709551616 m).length<1048576
theorem zln (base:Nat) (vo:Value) (ods:List UInt8) (v:Value) (X Wd:Nat) (w:World) (hv:Sl .u64 w v (wd 18446744073709551616 X)) (hX:0<X∨0<Wd) (hl:(wd 18446744073709551616 X).length<1048576) (hd:ods.length+(yh X).length+Wd<1073741000) (ho:w.ownsRow base 5 1 vo ods.length (ods.map u8v)) (hn:vo=.slice none 0 0∨0<ods.length) (hbase:base≤w.heap.size) :
  Calls prog 228 #[vo,v,.int .i64 (Wd:Int)] w fun e w'=>∃ v',e=.returned v'∧w'.ownsRow base 5 1 v' (ods++(jm Wd X).reverse).length ((ods++(jm Wd X).reverse).map u8v)∧Below base w w'∧wo w w':=by(
have HO:=af ho
have HN:=af hn
have HBS:=af hbase
obtain⟨oa,oc,rfl⟩:=mi ho
clear ho hn hbase
have HV:=af hv
clear hv
obtain⟨xa,xc,rfl,-,-⟩:=ae HV
have HX:=af hX
have HD:=af hd
clear hX hd
generalize hno:ods.length=no at *
have HNO:=af hno
clear hno
go_enter func228,ntmps228
go_wp2
go_loopg [7,1] X (fun m vb vx wr=>∃ ds:List UInt8,qjn w X m ds vb vx wr)
case atStart=>exact⟨[],⟨ae HV,World.ownsRow_nil _ _ _ _,But.refl _ _,rfl,fun h=>h,hl⟩⟩
case round =>(
obtain⟨ds,hI⟩:=hrel
rename World=>wr
obtain⟨hsl,hown,hbut,hdig,hpos,hlen⟩:=hI
have hdl:ds.length<1073741000:=by have:=congrArg List.length hdig;have h2:=ae HD;rw[List.length_append] at this;omega
have HSL:=af hsl
obtain⟨aa,ca,rfl,-,-⟩:=hsl
have HDG:=af hdig
have HOWN:=af hown
have HBUT:=af hbut
clear hdig hown hbut
by_cases hm:1<(wd 18446744073709551616 gk).length
·(
have h19:=qcz hm
obtain⟨m',hm'⟩:∃ m',m'=gk/10000000000000000000:=⟨_,rfl⟩
obtain⟨r0,hr0⟩:∃ r0,r0=gk%10000000000000000000:=⟨_,rfl⟩
have hmp:0<m':=by omega
have hml:(wd 18446744073709551616 m').length≤(wd 18446744073709551616 gk).length:=av (by omega)
have BW:=af (zrz _ gk 10000000000000000000 wr (ae HSL) (by omega) (by omega) (by omega))
rw[← hm',← hr0] at BW
have hDP:Hid (yh gk=mh 19 r0++yh m'):=by
 show _=_
 have h:=zjr 19 gk (by exact h19)
 rw[← zid 19 gk] at h
 rw[hm',hr0]
 exact h
have hr0l:r0<10000000000000000000:=by omega
have hlt':m' < gk:=by rw[hm'];exact Nat.div_lt_self (by omega) (by omega)
have HML:=af hml
clear hm' hr0 hml h19
generalize hla:(wd 18446744073709551616 gk).length=la at *
clear hla
have hwl:Hid (0<(wd 18446744073709551616 m').length):=by show _<_;rw[Nat.pos_iff_ne_zero];intro e;rw[zh (by omega)] at e;omega
go_wp2_with fail
refine (ae BW).mono ?_
rintro e w2 ⟨v2,rfl,hv2,hb2,hf2⟩
have HV2:=af hv2
have HOWN2:=af (zbc (ae HOWN) hb2)
have HBUT2:Hid (But [] w w2):=(ae HBUT).trans' hb2
have HOFF:Hid (qht u7 v2):=fun k hk b off n c e=>by
 have h1:=((ae HOWN).lt k hk).2
 have h2:=hf2 b off n c e
 omega
clear hv2 hb2 hf2
go_wp2_with fail
go_loopw [7,8,18] (fun vb rest c wq=>∃ j q:Nat,j≤19∧c=.int .i64 j∧rest=.int .u64 q∧q<10000000000000000000∧Hid (q=r0/10^j∧wq.ownsRow w.heap.size 5 1 vb (ds++mh j r0).length ((ds++mh j r0).map u8v)∧But [] w wq∧Sl .u64 wq v2 (wd 18446744073709551616 m')∧qht vb v2)) (fun _ _ c _=>19-(intOf c).toNat)
case atStart=>exact⟨0,r0,by omega,rfl,rfl,hr0l,by simp,by simpa [mh] using ae HOWN2,ae HBUT2,ae HV2,ae HOFF⟩
case round =>(
obtain⟨j,q,hj,rfl,rfl,hq,HI⟩:=hrel
rename World=>wq
by_cases hj19:j=19
·(
subst hj19
have HIK:=af (ae HI).2
clear HI
go_wp2
go_roundg m'
case measure=>exact hlt'
case rel =>(
obtain⟨k1,k2,k3,-⟩:=ae HIK
refine⟨ds++mh 19 r0,k3,k1,k2,?_,fun _=>hmp,by have:=ae HML;omega⟩
rw[ae HDG,ae hDP,List.append_assoc]))
·(
have hj2:j<19:=by omega
obtain⟨dg,hdg⟩:∃ dg,dg=q%10:=⟨_,rfl⟩
obtain⟨q',hq'⟩:∃ q',q'=q/10:=⟨_,rfl⟩
have hd10:dg<10:=by omega
have hq2:q' < 10000000000000000000:=by omega
have e1:(q:Int)%10=(dg:Int):=by omega
have e2:(q:Int)/10=(q':Int):=by omega
have e3:(q:Int).tmod 10=(dg:Int):=by rw[Int.tmod_eq_emod_of_nonneg (by omega)];exact e1
have e4:(q:Int).tdiv 10=(q':Int):=by rw[Int.tdiv_eq_ediv_of_nonneg (by omega)];exact e2
have hqj:Hid (q'=r0/10^(j+1)∧mh (j+1) r0=mh j r0++[UInt8.ofNat (48+dg)]):=by
 constructor
 ·rw[hq',(ae HI).1,Nat.div_div_eq_div_mul,Nat.pow_succ]
 ·rw[zpn,← (ae HI).1,← hdg]
have hld:(ds++mh j r0).length<1073741824:=by rw[List.length_append,zku];omega
have hAB:=zdo (wq.alloc (.cells #[.int .u8 (48+(dg:Int))] 5)) w.heap.size u7 (ds++mh j r0) ((ae HI).2.1.alloc _) ⟨wq.heap.size,0,none⟩ (UInt8.ofNat (48+dg)) (by rw[← zjm dg hd10];simp) hld (by have:=(ae HI).2.2.1.size;simp;omega)
obtain⟨v3,w3,hr3,ho3,hg3,hb3⟩:=hAB
have hB3:But [] w w3:=((ae HI).2.2.1.alloc _).grown hg3 (fun k hk=>((ae HI).2.1.lt k hk).1)
obtain⟨hS3,hO3⟩:=(ae HI).2.2.2.2.grow (ae HI).2.2.2.1 (ae hwl) hg3 hb3
have ALL:=af (And.intro ho3 (And.intro hB3 (And.intro hS3 hO3)))
have HR3:=af hr3
clear ho3 hB3 hS3 hO3 hg3 hb3 hr3 hld hdg hq'
go_wp2_with (at_builtin;refine qp rfl _ _ 164 164 rfl _ _ v3 w3 rfl rfl (ae HR3) ?_)
refine⟨⟨j+1,q',by omega,by go_num,rfl,hq2,(ae hqj).1,?_,(ae ALL).2.1,(ae ALL).2.2.1,(ae ALL).2.2.2⟩,?_⟩
·rw[(ae hqj).2,← List.append_assoc];exact (ae ALL).1
·simp[intOf];omega)))
·(
by_cases hg0:gk=0
·(
subst hg0
have HOWNt:=HOWN
have HBUTt:=HBUT
rw[zi,List.length_nil]
have hdg:=ae HDG
rw[sj,List.append_nil] at hdg
clear HSL hlen hpos hm HDG
have hE:yh X=ds:=hdg
clear hdg
have PAD0:Hid (wr.ownsRow w.heap.size 5 1 u7 (ds++List.replicate 0 48).length ((ds++List.replicate 0 48).map u8v)∧But [] w wr):=by
 rw[List.replicate_zero,List.append_nil];exact⟨ae HOWN,ae HBUT⟩
have HEX:=af hE
have hel2:ds.length+Wd<1073741000:=by have:=ae HD;rw[hE] at this;omega
clear hE
go_wp2_with fail
go_loopg [7] (Wd-ds.length) (fun k vb wp=>∃ j:Nat,j+k=Wd-ds.length∧Hid (wp.ownsRow w.heap.size 5 1 vb (ds++List.replicate j 48).length ((ds++List.replicate j 48).map u8v)∧But [] w wp))
case atStart=>exact⟨0,by omega,PAD0⟩
case round =>(
clear PAD0
obtain⟨j,hjk,HP⟩:=hrel
rename World=>wp
obtain⟨pa,pc,hpe⟩:=mi (ae HP).1
have hpl:(ds++List.replicate j 48).length=ds.length+j:=by rw[List.length_append,List.length_replicate]
by_cases hk0:gk=0
·(
subst hk0
have hfs:ds++List.replicate j (48:UInt8)=jm Wd X:=by rw[jm,ae HEX,show j=Wd-ds.length from by omega]
have hfl:0<(jm Wd X).length:=zmc Wd X (ae HX)
have hown:=(ae HP).1
rw[hfs] at hown hpl
obtain⟨g,cg,hg7,hgb,hcg,hrow⟩:=zdz hown hfl
rw[hg7] at hpe
subst hg7
have HGB:=af hgb
have RV:=af (zkq g cg ((jm Wd X).map UInt8.toNat) wp hrow (by simpa using hfl) (by rw[List.length_map];omega))
rw[List.length_map] at RV
have BUT:=af (ae HP).2
have hlw:(jm Wd X).length<1073741000:=by omega
have hwle:(Wd:Int)≤((jm Wd X).length:Int):=by omega
have HLW:Hid (no+(jm Wd X).length<1073741000):=by
 have h1:=ae HD
 have h2:=zdc Wd X
 show _<_
 omega
clear hown hrow hgb hcg HP hfs hfl hpe hpl hjk
generalize hne:(jm Wd X).length=ne at *
go_wp2_with fail
refine (ae RV).mono ?_
rintro e w4 ⟨rfl,hr4,hb4⟩
rw[← List.map_reverse] at hr4
obtain⟨i0,hi,hz0,hz1,hz2⟩:=zly
have hB4:But [] w w4:=(ae BUT).trans hb4 (fun x hx=>by simp at hx;subst hx;exact .inr (ae HGB))
have hO4:=zbc (ae HO) hB4
have hbs:=ae HBS
have hlw2:=ae HLW
obtain⟨v5,w5,hr5,ho5,hg5,-⟩:=run_append_own (P:=prog) w4 base 164 164 5 i0 (.int .u8 0) 1 1 underlying164 hi hz0 hz1 hz2 rfl (by decide) (.slice oa no oc) no (ods.map u8v) hO4 ⟨g,0,none⟩ ne cg ((jm Wd X).reverse.map u8v) (by rw[List.length_map,List.length_reverse,hne,Nat.mul_one]) (zmt hr4) (fun u hu=>by obtain⟨x,-,rfl⟩:=List.mem_map.1 hu;rfl) (by unfold maxLen;omega) (by omega) (Nat.le_trans hbs hB4.size)
have hK:wo w w5:=(wo.zjv hB4).trans (zno (ods:=ods) (by rw[ae HNO];exact hO4) (by rw[ae HNO];exact ae HN) hg5)
have hBe:Below base w w5:=xg (hB4.zeg hbs) (below_grown hO4 (Nat.le_trans hbs hB4.size) hg5)
have ALL:=af (And.intro ho5 (And.intro hBe hK))
have HR5:=af hr5
clear ho5 hBe hK hr5 hg5 hr4 hb4 hB4 hO4 hi hz0 hz1 hz2 hbs hlw2
go_wp2_with (at_builtin;refine qp rfl _ _ 164 164 rfl _ _ v5 w5 rfl rfl (ae HR5) ?_)
go_ret
refine⟨v5,rfl,?_,(ae ALL).2.1,(ae ALL).2.2⟩
rw[List.length_append,List.length_reverse,hne,ae HNO,List.map_append]
exact (ae ALL).1)
·(
have hAB:=zdo (wp.alloc (.cells #[.int .u8 48] 5)) w.heap.size u7 (ds++List.replicate j 48) ((ae HP).1.alloc _) ⟨wp.heap.size,0,none⟩ 48 (by simp[u8v]) (by omega) (by have:=(ae HP).2.size;simp;omega)
obtain⟨v3,w3,hr3,ho3,hg3,-⟩:=hAB
have hB3:But [] w w3:=((ae HP).2.alloc _).grown hg3 (fun k hk=>((ae HP).1.lt k hk).1)
rw[List.append_assoc,← List.replicate_succ'] at ho3
have ALL:=af (And.intro ho3 hB3)
rw[hpe] at hr3
have HR3:=af hr3
subst hpe
have hlt:((ds++List.replicate j (48:UInt8)).length:Int)<(Wd:Int):=by omega
have hrl:j+1+(gk-1)=Wd-ds.length:=by omega
have HRL:=af hrl
clear ho3 hB3 hg3 hr3 hjk hpl HP hrl
generalize (ds++List.replicate j (48:UInt8)).length=np at *
go_wp2_with (at_builtin;refine qp rfl _ _ 164 164 rfl _ _ v3 w3 rfl rfl (ae HR3) ?_)
go_roundg (gk-1)
case measure=>omega
case rel=>exact⟨j+1,ae HRL,ae ALL⟩)))
have hpos:0<gk:=by omega
have hl1:(wd 18446744073709551616 gk).length=1:=by
 have:(wd 18446744073709551616 gk).length≠0:=by intro e;rw[zh (by omega)] at e;omega
 omega
have hgB:gk < 18446744073709551616:=by
 have:=ak (B:=18446744073709551616) (by omega) gk 1 (by omega)
 rw[Nat.pow_one] at this;exact this
have hcell:∃ b off,aa=some ⟨b,off,none⟩∧wr.cell? ⟨b,off,none⟩=some (.int .u64 (gk:Int)):=by
 rcases (ae HSL).open with ⟨e,-⟩|⟨-,b,off,c,e,-,-,hc⟩
 ·rw[e] at hl1;simp at hl1
 ·simp only[Value.slice.injEq] at e
  have h:=hc 0 (by omega)
  rw[Nat.add_zero,zei gk hpos hgB] at h
  exact⟨b,off,e.1,h⟩
obtain⟨b,off,rfl,hc0⟩:=hcell
have HCUR:=af hpos
rw[hl1]
clear hm hl1 hlen HSL
go_wp2
go_loopg [7,9] gk (fun m vb rest wq=>∃ es:List UInt8,rest=.int .u64 (m:Int)∧m < 18446744073709551616∧Hid (yh X=es++yh m∧wq.ownsRow w.heap.size 5 1 vb es.length (es.map u8v)∧But [] w wq))
case atStart=>exact⟨ds,rfl,hgB,ae HDG,ae HOWN,ae HBUT⟩
case round =>(
obtain⟨es,rfl,hmB,HI⟩:=hrel
rename World=>wq
clear hc0
have hel:es.length<1073741000:=by have:=congrArg List.length (ae HI).1;have h2:=ae HD;rw[List.length_append] at this;omega
by_cases h0:gk=0
·(
subst h0
have hE0:yh X=es:=by have:=(ae HI).1;rw[sj,List.append_nil] at this;exact this
have hE:yh X=es:=hE0
clear hE0
have PAD0:Hid (wq.ownsRow w.heap.size 5 1 u7 (es++List.replicate 0 48).length ((es++List.replicate 0 48).map u8v)∧But [] w wq):=by
 rw[List.replicate_zero,List.append_nil];exact⟨(ae HI).2.1,(ae HI).2.2⟩
have HEX:=af hE
have hel2:es.length+Wd<1073741000:=by have:=ae HD;rw[hE] at this;omega
clear hE
go_wp2_with fail
go_loopg [7] (Wd-es.length) (fun k vb wp=>∃ j:Nat,j+k=Wd-es.length∧Hid (wp.ownsRow w.heap.size 5 1 vb (es++List.replicate j 48).length ((es++List.replicate j 48).map u8v)∧But [] w wp))
case atStart=>exact⟨0,by omega,PAD0⟩
case round =>(
clear PAD0
obtain⟨j,hjk,HP⟩:=hrel
rename World=>wp
obtain⟨pa,pc,hpe⟩:=mi (ae HP).1
have hpl:(es++List.replicate j 48).length=es.length+j:=by rw[List.length_append,List.length_replicate]
by_cases hk0:gk=0
·(
subst hk0
have hfs:es++List.replicate j (48:UInt8)=jm Wd X:=by rw[jm,ae HEX,show j=Wd-es.length from by omega]
have hfl:0<(jm Wd X).length:=zmc Wd X (ae HX)
have hown:=(ae HP).1
rw[hfs] at hown hpl
obtain⟨g,cg,hg7,hgb,hcg,hrow⟩:=zdz hown hfl
rw[hg7] at hpe
subst hg7
have HGB:=af hgb
have RV:=af (zkq g cg ((jm Wd X).map UInt8.toNat) wp hrow (by simpa using hfl) (by rw[List.length_map];omega))
rw[List.length_map] at RV
have BUT:=af (ae HP).2
have hlw:(jm Wd X).length<1073741000:=by omega
have hwle:(Wd:Int)≤((jm Wd X).length:Int):=by omega
have HLW:Hid (no+(jm Wd X).length<1073741000):=by
 have h1:=ae HD
 have h2:=zdc Wd X
 show _<_
 omega
clear hown hrow hgb hcg HP hfs hfl hpe hpl hjk
generalize hne:(jm Wd X).length=ne at *
go_wp2_with fail
refine (ae RV).mono ?_
rintro e w4 ⟨rfl,hr4,hb4⟩
rw[← List.map_reverse] at hr4
obtain⟨i0,hi,hz0,hz1,hz2⟩:=zly
have hB4:But [] w w4:=(ae BUT).trans hb4 (fun x hx=>by simp at hx;subst hx;exact .inr (ae HGB))
have hO4:=zbc (ae HO) hB4
have hbs:=ae HBS
have hlw2:=ae HLW
obtain⟨v5,w5,hr5,ho5,hg5,-⟩:=run_append_own (P:=prog) w4 base 164 164 5 i0 (.int .u8 0) 1 1 underlying164 hi hz0 hz1 hz2 rfl (by decide) (.slice oa no oc) no (ods.map u8v) hO4 ⟨g,0,none⟩ ne cg ((jm Wd X).reverse.map u8v) (by rw[List.length_map,List.length_reverse,hne,Nat.mul_one]) (zmt hr4) (fun u hu=>by obtain⟨x,-,rfl⟩:=List.mem_map.1 hu;rfl) (by unfold maxLen;omega) (by omega) (Nat.le_trans hbs hB4.size)
have hK:wo w w5:=(wo.zjv hB4).trans (zno (ods:=ods) (by rw[ae HNO];exact hO4) (by rw[ae HNO];exact ae HN) hg5)
have hBe:Below base w w5:=xg (hB4.zeg hbs) (below_grown hO4 (Nat.le_trans hbs hB4.size) hg5)
have ALL:=af (And.intro ho5 (And.intro hBe hK))
have HR5:=af hr5
clear ho5 hBe hK hr5 hg5 hr4 hb4 hB4 hO4 hi hz0 hz1 hz2 hbs hlw2
go_wp2_with (at_builtin;refine qp rfl _ _ 164 164 rfl _ _ v5 w5 rfl rfl (ae HR5) ?_)
go_ret
refine⟨v5,rfl,?_,(ae ALL).2.1,(ae ALL).2.2⟩
rw[List.length_append,List.length_reverse,hne,ae HNO,List.map_append]
exact (ae ALL).1)
·(
have hAB:=zdo (wp.alloc (.cells #[.int .u8 48] 5)) w.heap.size u7 (es++List.replicate j 48) ((ae HP).1.alloc _) ⟨wp.heap.size,0,none⟩ 48 (by simp[u8v]) (by omega) (by have:=(ae HP).2.size;simp;omega)
obtain⟨v3,w3,hr3,ho3,hg3,-⟩:=hAB
have hB3:But [] w w3:=((ae HP).2.alloc _).grown hg3 (fun k hk=>((ae HP).1.lt k hk).1)
rw[List.append_assoc,← List.replicate_succ'] at ho3
have ALL:=af (And.intro ho3 hB3)
rw[hpe] at hr3
have HR3:=af hr3
subst hpe
have hlt:((es++List.replicate j (48:UInt8)).length:Int)<(Wd:Int):=by omega
have hrl:j+1+(gk-1)=Wd-es.length:=by omega
have HRL:=af hrl
clear ho3 hB3 hg3 hr3 hjk hpl HP hrl
generalize (es++List.replicate j (48:UInt8)).length=np at *
go_wp2_with (at_builtin;refine qp rfl _ _ 164 164 rfl _ _ v3 w3 rfl rfl (ae HR3) ?_)
go_roundg (gk-1)
case measure=>omega
case rel=>exact⟨j+1,ae HRL,ae ALL⟩)))
·(
have hp:0<gk:=by omega
obtain⟨dg,hdg⟩:∃ dg,dg=gk%10:=⟨_,rfl⟩
obtain⟨q',hq'⟩:∃ q',q'=gk/10:=⟨_,rfl⟩
have hd10:dg<10:=by omega
have hq2:q' < 18446744073709551616:=by omega
have hlt':q' < gk:=by omega
have e0:((gk:Int) != 0)=true:=by simp;omega
have e1:(gk:Int)%10=(dg:Int):=by omega
have e2:(gk:Int)/10=(q':Int):=by omega
have e3:(gk:Int).tmod 10=(dg:Int):=by rw[Int.tmod_eq_emod_of_nonneg (by omega)];exact e1
have e4:(gk:Int).tdiv 10=(q':Int):=by rw[Int.tdiv_eq_ediv_of_nonneg (by omega)];exact e2
have hqj:Hid (yh X=(es++[UInt8.ofNat (48+dg)])++yh q'):=by
 show _=_
 rw[(ae HI).1,zab hp,← hdg,← hq',List.append_assoc];rfl
have hAB:=zdo (wq.alloc (.cells #[.int .u8 (48+(dg:Int))] 5)) w.heap.size u7 es ((ae HI).2.1.alloc _) ⟨wq.heap.size,0,none⟩ (UInt8.ofNat (48+dg)) (by rw[← zjm dg hd10];simp) (by omega) (by have:=(ae HI).2.2.size;simp;omega)
obtain⟨v3,w3,hr3,ho3,hg3,-⟩:=hAB
have hB3:But [] w w3:=((ae HI).2.2.alloc _).grown hg3 (fun k hk=>((ae HI).2.1.lt k hk).1)
have ALL:=af (And.intro ho3 hB3)
have HR3:=af hr3
clear ho3 hB3 hg3 hr3 hdg hq'
go_wp2_with (at_builtin;refine qp rfl _ _ 164 164 rfl _ _ v3 w3 rfl rfl (ae HR3) ?_)
go_roundg q'
case measure=>exact hlt'
case rel=>exact⟨_,rfl,hq2,ae hqj,(ae ALL).1,(ae ALL).2⟩)))))
theorem dw (B:Nat) (xs:List Nat) (k:Nat):vl B (xs.take (k+1))=vl B (xs.take k)+xs[k]?.getD 0*B^k:=by(
rcases Nat.lt_or_ge k xs.length with h | h
·exact qw B xs k h
·rw[List.take_of_length_le h,List.take_of_length_le (by omega),List.getElem?_eq_none h];simp)
theorem zlq (B:Nat) (rs:List Nat) (k s:Nat) (hk:k<rs.length) (hz:rs[k]?.getD 0=0):vl B (rs.set k s)=vl B rs+s*B^k:=by(
have:=l5 B rs k s hk
rw[hz,Nat.zero_mul,Nat.add_zero] at this
exact this)
structure xu (k:IntKind) (w:World) (g:Nat) (rs:List Nat):Prop where
 row:Row k w g rs
 ints:0<rs.length→Ints k w g
theorem zwv (k:IntKind) (w:World) (n:Nat) (t:TypeId):Ints k (w.alloc (.cells (madeCells #[.int k 0] n) t)) w.heap.size:=fun i v hv=>by
 rw[World.cell?_alloc_new] at hv
 unfold madeCells at hv
 rw[Array.getElem?_map] at hv
 obtain⟨x,-,rfl⟩:=Option.map_eq_some_iff.1 hv
 exact⟨0,by simp[Nat.mod_one]⟩
theorem xu.made (k:IntKind) (w:World) (n:Nat) (t:TypeId):xu k (w.alloc (.cells (madeCells #[.int k 0] n) t)) w.heap.size (List.replicate n 0):=⟨Row.made k w n t,fun _=>zwv k w n t⟩
theorem xu.set {k:IntKind} {w:World} {g:Nat} {rs:List Nat} (h:xu k w g rs) (i:Nat) (hi:i<rs.length) (t:Nat):xu k (w.setCell ⟨g,i,none⟩ (.int k t)) g (rs.set i t):=⟨h.row.set i hi t,fun h0=>(h.ints (by rw[List.length_set] at h0;exact h0)).set i t⟩
theorem xu.sl {k:IntKind} {w:World} {g:Nat} {rs:List Nat} (h:xu k w g rs) (cap:Nat) (hc:rs.length≤cap):Sl k w (.slice (some ⟨g,0,none⟩) rs.length cap) rs:=Sl.mk g 0 cap hc (fun i hi=>by rw[Nat.zero_add];exact (h.row i hi).1) h.ints
theorem xu.lt {k:IntKind} {w:World} {g:Nat} {rs:List Nat} (h:xu k w g rs) (h0:0<rs.length):g<w.heap.size:=ai (h.row 0 h0).1
theorem xu.but {k:IntKind} {w w':World} {g:Nat} {rs:List Nat} {l:List Nat} (h:xu k w g rs) (hb:But l w w') (hn:g ∉ l):xu k w' g rs:=⟨fun i hi=>by
 have hl:=ai (h.row i hi).1
 exact⟨hb.ag (h.row i hi).1 hn,(hb.frozen (p:=⟨g,i,none⟩) hl hn).trans (h.row i hi).2⟩,fun h0=>(h.ints h0).but hb (h.lt h0) hn⟩
theorem xu.drewN {k:IntKind} {w:World} {g:Nat} {rs:List Nat} (h:xu k w g rs) (q:Nat):xu k (w.drewN q) g rs:=h.but ((But.refl [] _).drewN q) (by simp)
/-! ### sums -/
structure zsg (xs ys rs:List Nat) (k c:Nat):Prop where
 len:rs.length=xs.length+1
 mem:∀ x ∈ rs,x<4294967296
 car:c≤1
 val:vl 4294967296 rs+c*4294967296^k=vl 4294967296 (xs.take k)+vl 4294967296 (ys.take k)
 zero:∀ j,k≤j→rs[j]?.getD 0=0
theorem zsg.start (xs ys:List Nat):zsg xs ys (List.replicate (xs.length+1) 0) 0 0 :=
 ⟨by simp,fun x hx=>by rw[List.mem_replicate] at hx;omega,by omega,by simp[ja,vl],fun j _=>by rw[List.getElem?_replicate];split <;> rfl⟩
theorem zsg.step {xs ys rs:List Nat} {k c:Nat} (h:zsg xs ys rs k c) (hk:k<xs.length) (hx:xs[k]?.getD 0<4294967296) (hy:ys[k]?.getD 0<4294967296) (t:Nat) (ht:t=c+xs[k]?.getD 0+ys[k]?.getD 0):zsg xs ys (rs.set k (t%4294967296)) (k+1) (t/4294967296):=by(
have hl:=h.len
refine⟨by rw[List.length_set];exact hl,mem_set h.mem _ _ (Nat.mod_lt _ (by omega)),by have:=h.car;omega,?_,fun j hj=>by rw[List.getElem?_set_ne (by omega)];exact h.zero j (by omega)⟩
rw[zlq _ rs k _ (by omega) (h.zero k (Nat.le_refl _)),dw,dw,Nat.pow_succ]
have hv:=h.val
have he:=Nat.div_add_mod t 4294967296
have h3:c+xs[k]?.getD 0+ys[k]?.getD 0=4294967296*(t/4294967296)+t%4294967296:=by omega
have h2:(c+xs[k]?.getD 0+ys[k]?.getD 0)*4294967296^k=(4294967296*(t/4294967296)+t%4294967296)*4294967296^k:=by rw[h3]
generalize (4294967296:Nat)^k=P at *
generalize t/4294967296=q at *
generalize t%4294967296=s at *
generalize vl 4294967296 rs=R at *
generalize vl 4294967296 (xs.take k)=V1 at *
generalize vl 4294967296 (ys.take k)=V2 at *
grind)
theorem zsg.fin {xs ys rs:List Nat} {c:Nat} (h:zsg xs ys rs xs.length c) (hy:ys.length≤xs.length):vl 4294967296 (rs.set xs.length c)=vl 4294967296 xs+vl 4294967296 ys∧(∀ x ∈ rs.set xs.length c,x<4294967296):=by(
refine⟨?_,mem_set h.mem _ _ (by have:=h.car;omega)⟩
have hv:=h.val
rw[List.take_length,List.take_of_length_le hy] at hv
rw[zlq _ rs _ _ (by have:=h.len;omega) (h.zero _ (Nat.le_refl _)),hv])
/-! ### differences -/
structure zsc (xs ys rs:List Nat) (k c:Nat):Prop where
 len:rs.length=xs.length
 mem:∀ x ∈ rs,x<4294967296
 car:c≤1
 val:vl 4294967296 rs+vl 4294967296 (ys.take k)=vl 4294967296 (xs.take k)+c*4294967296^k
 zero:∀ j,k≤j→rs[j]?.getD 0=0
theorem zsc.start (xs ys:List Nat):zsc xs ys (List.replicate xs.length 0) 0 0 :=
 ⟨by simp,fun x hx=>by rw[List.mem_replicate] at hx;omega,by omega,by simp[ja,vl],fun j _=>by rw[List.getElem?_replicate];split <;> rfl⟩
theorem zsc.step {xs ys rs:List Nat} {k c:Nat} (h:zsc xs ys rs k c) (hk:k<xs.length) (s c':Nat) (hs:s<4294967296) (hc:c'≤1) (e:s+c+ys[k]?.getD 0=xs[k]?.getD 0+4294967296*c'):zsc xs ys (rs.set k s) (k+1) c':=by(
have hl:=h.len
refine⟨by rw[List.length_set];exact hl,mem_set h.mem _ _ hs,hc,?_,fun j hj=>by rw[List.getElem?_set_ne (by omega)];exact h.zero j (by omega)⟩
rw[zlq _ rs k _ (by omega) (h.zero k (Nat.le_refl _)),dw,dw,Nat.pow_succ]
have hv:=h.val
have h2:(s+c+ys[k]?.getD 0)*4294967296^k=(xs[k]?.getD 0+4294967296*c')*4294967296^k:=by rw[e]
generalize (4294967296:Nat)^k=P at *
generalize vl 4294967296 rs=R at *
generalize vl 4294967296 (xs.take k)=V1 at *
generalize vl 4294967296 (ys.take k)=V2 at *
grind)
theorem zsc.fin {xs ys rs:List Nat} {c:Nat} (h:zsc xs ys rs xs.length c) (hy:ys.length≤xs.length) (hle:vl 4294967296 ys≤vl 4294967296 xs):vl 4294967296 rs=vl 4294967296 xs-vl 4294967296 ys:=by(
have hv:=h.val
rw[List.take_length,List.take_of_length_le hy] at hv
have h1:=oz (by omega:0<4294967296) rs h.mem
rw[h.len] at h1
rcases Nat.eq_zero_or_pos c with h0 | h0
·rw[h0] at hv;omega
·have:4294967296^xs.length≤c*4294967296^xs.length:=Nat.le_mul_of_pos_left _ h0
 omega)
/-! ### shifts -/
theorem zzp (B Y:Nat):∀ (n:Nat) (rs:List Nat),rs.length=n→(∀ j,j<n→rs[j]?.getD 0=Y/B^j%B)→vl B rs=Y%B^n:=by(
intro n
induction n with
| zero =>
 intro rs h _
 have:rs=[]:=List.length_eq_zero_iff.1 h
 subst this;simp[vl,Nat.mod_one]
| succ n ih =>
 intro rs h hd
 have e:=qw B rs n (by omega)
 rw[List.take_of_length_le (by omega)] at e
 rw[e,ih (rs.take n) (by rw[List.length_take];omega) (fun j hj=>by rw[List.getElem?_take_of_lt hj];exact hd j (by omega)),hd n (by omega),Nat.pow_succ,Nat.mod_mul,Nat.mul_comm (Y/B^n%B)])
structure zji (S W P u0 u1 u2 v1 v2:Nat):Prop where
 s:∃ Sr,S=((u0*4294967296+u1)*4294967296+u2)*P+Sr∧Sr<P
 w:∃ Wr,W=(v1*4294967296+v2)*P+Wr∧Wr<P
 lt:S<W*4294967296
 hi:2147483648≤v1
 hv1:v1<4294967296
 hv2:v2<4294967296
 hu1:u1<4294967296
 hu2:u2<4294967296
theorem zji.pos {S W P u0 u1 u2 v1 v2:Nat} (h:zji S W P u0 u1 u2 v1 v2):0<P∧0<W:=by(
obtain⟨Wr,h1,h2⟩:=h.w
have:=h.hi
refine⟨by omega,?_⟩
rw[h1]
have h3:1*P≤(v1*4294967296+v2)*P:=Nat.mul_le_mul_right _ (by omega)
omega)
theorem zji.top {S W P u0 u1 u2 v1 v2:Nat} (h:zji S W P u0 u1 u2 v1 v2):u0≤v1:=by(
obtain⟨Sr,hs,-⟩:=h.s
obtain⟨Wr,hw,hwr⟩:=h.w
have hP:=h.pos.1
have hlt:=h.lt
have h2:=h.hv2
rcases Nat.lt_or_ge v1 u0 with hc | hc
·(
exfalso
have h3:(v1+1)*4294967296*4294967296*P≤((u0*4294967296+u1)*4294967296+u2)*P:=Nat.mul_le_mul_right _ (by omega)
have h4:W<(v1+1)*4294967296*P:=by
 have:(v1*4294967296+v2+1)*P≤(v1+1)*4294967296*P:=Nat.mul_le_mul_right _ (by omega)
 rw[Nat.succ_mul] at this
 omega
have h5:W*4294967296<(v1+1)*4294967296*P*4294967296:=by omega
have h6:(v1+1)*4294967296*P*4294967296=(v1+1)*4294967296*4294967296*P:=by grind
omega)
·exact hc)
theorem zji.qmp {S W P u0 u1 u2 v1 v2:Nat} (h:zji S W P u0 u1 u2 v1 v2):S/W<4294967296:=Nat.div_lt_of_lt_mul h.lt
theorem zji.qmd {S W P u0 u1 u2 v1 v2:Nat} (h:zji S W P u0 u1 u2 v1 v2) (g:Nat) (hg:g≤S/W):g*(v1*4294967296+v2)≤(u0*4294967296+u1)*4294967296+u2:=by(
obtain⟨Sr,hs,hsr⟩:=h.s
obtain⟨Wr,hw,hwr⟩:=h.w
have h1:g*W≤S:=Nat.le_trans (Nat.mul_le_mul_right _ hg) (Nat.div_mul_le_self S W)
have h2:g*(v1*4294967296+v2)*P≤g*W:=by
 have e:g*W=g*(v1*4294967296+v2)*P+g*Wr:=by rw[hw];grind
 omega
rcases Nat.lt_or_ge ((u0*4294967296+u1)*4294967296+u2) (g*(v1*4294967296+v2)) with hc | hc
·exfalso
 have h3:((u0*4294967296+u1)*4294967296+u2+1)*P≤g*(v1*4294967296+v2)*P:=Nat.mul_le_mul_right _ hc
 rw[Nat.succ_mul] at h3
 omega
·exact hc)
structure zbj (S W u0 u1 v1 g r:Nat):Prop where
 eq:u0*4294967296+u1=g*v1+r
 ge:S/W≤g
 le:g≤4294967297
theorem zbj.start {S W P u0 u1 u2 v1 v2:Nat} (h:zji S W P u0 u1 u2 v1 v2):zbj S W u0 u1 v1 ((u0*4294967296+u1)/v1) ((u0*4294967296+u1)%v1):=by(
have hv:=h.hi
refine⟨(Nat.div_add_mod' _ _).symm,?_,?_⟩
·(
rw[Nat.le_div_iff_mul_le (by omega)]
have h1:=h.qmd (S/W) (Nat.le_refl _)
have h2:=h.hu2
rw[Nat.mul_add,← Nat.mul_assoc] at h1
omega)
·(
have h1:=h.top
have h2:=h.hu1
have h3:(u0*4294967296+u1)/v1<4294967298:=by
 rw[Nat.div_lt_iff_lt_mul (by omega)]
 omega
omega))
theorem zbj.next {S W P u0 u1 u2 v1 v2 g r:Nat} (h:zji S W P u0 u1 u2 v1 v2) (k:zbj S W u0 u1 v1 g r) (hc:4294967295<g∨r*4294967296+u2<g*v2):0<g∧zbj S W u0 u1 v1 (g-1) (r+v1):=by(
have hq:S/W<g:=by
 rcases hc with hc | hc
 ·exact Nat.lt_of_lt_of_le h.qmp hc
 ·rcases Nat.lt_or_ge (S/W) g with h1 | h1
  ·exact h1
  ·exfalso
   have h2:=h.qmd g h1
   rw[k.eq,Nat.mul_add,← Nat.mul_assoc] at h2
   omega
have h0:0<g:=Nat.lt_of_le_of_lt (Nat.zero_le _) hq
refine⟨h0,?_,Nat.le_sub_one_of_lt hq,Nat.le_trans (Nat.sub_le _ _) k.le⟩
have e:=k.eq
obtain⟨p,rfl⟩:∃ p,g=p+1:=⟨g-1,by omega⟩
rw[Nat.succ_mul] at e
rw[Nat.add_sub_cancel]
omega)
theorem zbj.small {S W P u0 u1 u2 v1 v2 g r:Nat} (h:zji S W P u0 u1 u2 v1 v2) (k:zbj S W u0 u1 v1 g r) (hr:4294967296≤r):g≤4294967295∧g*v2≤r*4294967296+u2:=by(
have h1:=h.top
have h2:=h.hu1
have e:=k.eq
have hg:g≤4294967295:=by
 rcases Nat.lt_or_ge 4294967295 g with hc | hc
 ·exfalso
  have h3:4294967296*v1≤g*v1:=Nat.mul_le_mul_right _ hc
  omega
 ·exact hc
refine⟨hg,?_⟩
have h4:g*v2≤4294967295*4294967295:=Nat.mul_le_mul hg (by have:=h.hv2;omega)
omega)
theorem zbj.fin {S W P u0 u1 u2 v1 v2 g r:Nat} (h:zji S W P u0 u1 u2 v1 v2) (k:zbj S W u0 u1 v1 g r) (hg:g≤4294967295) (ht:g*v2≤r*4294967296+u2):g=S/W∨(g=S/W+1):=by(
obtain⟨Sr,hs,hsr⟩:=h.s
obtain⟨Wr,hw,hwr⟩:=h.w
have hW:=h.pos.2
have h1:g*(v1*4294967296+v2)≤(u0*4294967296+u1)*4294967296+u2:=by
 rw[k.eq,Nat.mul_add,← Nat.mul_assoc];omega
have h2:g*(v1*4294967296+v2)*P≤((u0*4294967296+u1)*4294967296+u2)*P:=Nat.mul_le_mul_right _ h1
have h3:g*Wr≤g*P:=Nat.mul_le_mul_left _ (by omega)
have h4:g*P≤W:=by
 rw[hw]
 have:g*P≤(v1*4294967296+v2)*P:=Nat.mul_le_mul_right _ (by have:=h.hi;omega)
 omega
have h5:g*W≤S+W:=by
 have:g*W=g*(v1*4294967296+v2)*P+g*Wr:=by rw[hw];grind
 omega
have h6:g≤S/W+1:=by
 rcases Nat.eq_zero_or_pos g with h0 | h0
 ·rw[h0];exact Nat.zero_le _
 ·obtain⟨p,rfl⟩:∃ p,g=p+1:=⟨g-1,by omega⟩
  rw[Nat.succ_mul] at h5
  have:p≤S/W:=by rw[Nat.le_div_iff_mul_le hW];omega
  exact Nat.succ_le_succ this
have h7:=k.ge
generalize S/W=Q at *
omega)
/-! ### taking away -/
structure Taken (us0 us vs:List Nat) (j k c d g:Nat):Prop where
 len:us.length=us0.length
 mem:∀ x ∈ us,x<4294967296
 car:c<4294967296
 bor:d≤1
 val:vl 4294967296 us+4294967296^j*(g*vl 4294967296 (vs.take k))=vl 4294967296 us0+4294967296^(j+k)*(c+d)
 same:∀ i,j+k≤i→us[i]?.getD 0=us0[i]?.getD 0
theorem Taken.start (us vs:List Nat) (j g:Nat) (hm:∀ x ∈ us,x<4294967296):Taken us us vs j 0 0 0 g :=
 ⟨rfl,hm,by omega,by omega,by simp[vl],fun _ _=>rfl⟩
theorem Taken.step {us0 us vs:List Nat} {j k c d g:Nat} (h:Taken us0 us vs j k c d g) (hk:j+k<us0.length) (hv:vs[k]?.getD 0<4294967296) (hg:g≤4294967295) (c1 s d':Nat) (hc1:c1=c+g*vs[k]?.getD 0) (hs:s<4294967296) (hd:d'≤1) (e:s+c1%4294967296+d=us[j+k]?.getD 0+4294967296*d'):Taken us0 (us.set (j+k) s) vs j (k+1) (c1/4294967296) d' g:=by(
have hl:=h.len
have hcc:c1<4294967296*4294967296:=by
 have:g*vs[k]?.getD 0≤4294967295*4294967295:=Nat.mul_le_mul hg (by omega)
 have:=h.car
 omega
refine⟨by rw[List.length_set];exact hl,mem_set h.mem _ _ hs,Nat.div_lt_of_lt_mul hcc,hd,?_,fun i hi=>by rw[List.getElem?_set_ne (by omega)];exact h.same i (by omega)⟩
have h1:=l5 4294967296 us (j+k) s (by omega)
have h2:=h.val
have h3:=Nat.div_add_mod c1 4294967296
rw[dw,show j+(k+1)=j+k+1 from by omega,Nat.pow_succ,Nat.pow_add] at *
generalize us[j+k]?.getD 0=u at *
generalize vs[k]?.getD 0=v at *
generalize vl 4294967296 (us.set (j+k) s)=A at *
generalize vl 4294967296 us=B at *
generalize vl 4294967296 us0=D at *
generalize vl 4294967296 (vs.take k)=E at *
generalize c1/4294967296=hi at *
generalize c1%4294967296=lo at *
generalize (4294967296:Nat)^j=P at *
generalize (4294967296:Nat)^k=Q at *
have e2:(s+lo+d)*(P*Q)=(u+4294967296*d')*(P*Q):=by rw[e]
have e3:(4294967296*hi+lo)*(P*Q)=(c+g*v)*(P*Q):=by rw[h3,hc1]
grind)
/-! ### adding back -/
structure zsf (us0 us vs:List Nat) (j k c:Nat):Prop where
 len:us.length=us0.length
 mem:∀ x ∈ us,x<4294967296
 car:c≤1
 val:vl 4294967296 us+4294967296^(j+k)*c=vl 4294967296 us0+4294967296^j*vl 4294967296 (vs.take k)
 same:∀ i,j+k≤i→us[i]?.getD 0=us0[i]?.getD 0
theorem zsf.start (us vs:List Nat) (j:Nat) (hm:∀ x ∈ us,x<4294967296):zsf us us vs j 0 0 :=
 ⟨rfl,hm,by omega,by simp[vl],fun _ _=>rfl⟩
theorem zsf.step {us0 us vs:List Nat} {j k c:Nat} (h:zsf us0 us vs j k c) (hk:j+k<us0.length) (hv:vs[k]?.getD 0<4294967296) (hu:us[j+k]?.getD 0<4294967296) (c1:Nat) (hc1:c1=c+(us[j+k]?.getD 0+vs[k]?.getD 0)):zsf us0 (us.set (j+k) (c1%4294967296)) vs j (k+1) (c1/4294967296):=by(
have hl:=h.len
refine⟨by rw[List.length_set];exact hl,mem_set h.mem _ _ (Nat.mod_lt _ (by omega)),by have:=h.car;omega,?_,fun i hi=>by rw[List.getElem?_set_ne (by omega)];exact h.same i (by omega)⟩
have h1:=l5 4294967296 us (j+k) (c1%4294967296) (by omega)
have h2:=h.val
have h3:=Nat.div_add_mod c1 4294967296
rw[dw,show j+(k+1)=j+k+1 from by omega,Nat.pow_succ,Nat.pow_add] at *
generalize us[j+k]?.getD 0=u at *
generalize vs[k]?.getD 0=v at *
generalize vl 4294967296 (us.set (j+k) (c1%4294967296))=A at *
generalize vl 4294967296 us=B at *
generalize vl 4294967296 us0=D at *
generalize vl 4294967296 (vs.take k)=E at *
generalize c1/4294967296=hi at *
generalize c1%4294967296=lo at *
generalize (4294967296:Nat)^j=P at *
generalize (4294967296:Nat)^k=Q at *
have e3:(4294967296*hi+lo)*(P*Q)=(c+(u+v))*(P*Q):=by rw[h3,hc1]
grind)
theorem zho (us:List Nat) (m:Nat) (h:vl 4294967296 us<4294967296^m):∀ i,m≤i→us[i]?.getD 0=0:=fun i hi=>by
 rcases Nat.lt_or_ge i us.length with hl | hl
 ·have e:=zay 4294967296 us i hl
  rcases Nat.eq_zero_or_pos (us[i]?.getD 0) with h0 | h0
  ·exact h0
  ·exfalso
   have h1:4294967296^i*1≤4294967296^i*(us[i]?.getD 0+4294967296*vl 4294967296 (us.drop (i+1))):=Nat.mul_le_mul_left _ (by omega)
   have h2:4294967296^m≤4294967296^i:=Nat.pow_le_pow_right (by omega) hi
   omega
 ·rw[List.getElem?_eq_none hl];rfl
theorem ut (us:List Nat) (m:Nat) (hz:∀ i,m≤i→us[i]?.getD 0=0):vl 4294967296 (us.drop m)=0:=zci _ _ (fun j _=>by rw[List.getElem?_drop];exact hz _ (by omega))
theorem uo (us:List Nat) (m:Nat) (hm:m≤us.length):vl 4294967296 us=vl 4294967296 (us.take m)+4294967296^m*vl 4294967296 (us.drop m):=by(
have:=congrArg (vl 4294967296) (List.take_append_drop m us)
rw[zt,List.length_take,Nat.min_eq_left hm] at this
exact this.symm)
theorem j5 (us:List Nat) (m:Nat) (hm:m≤us.length) (hx:∀ x ∈ us,x<4294967296):vl 4294967296 (us.take m)<4294967296^m:=by(
have:=oz (by omega:0<4294967296) (us.take m) (fun x h=>hx x (List.mem_of_mem_take h))
rw[List.length_take,Nat.min_eq_left hm] at this
exact this)
theorem zzo (us:List Nat) (m:Nat) (hm:m≤us.length) (hx:∀ x ∈ us,x<4294967296) (hz:∀ i,m≤i→us[i]?.getD 0=0):vl 4294967296 us<4294967296^m:=by
 rw[uo us m hm,ut us m hz,Nat.mul_zero,Nat.add_zero]
 exact j5 us m hm hx
theorem zsm (us:List Nat) (m:Nat) (hm:m<us.length) (hz:∀ i,m+1≤i→us[i]?.getD 0=0):vl 4294967296 us=vl 4294967296 (us.take m)+4294967296^m*us[m]?.getD 0:=by
 rw[uo us m (by omega),ko 4294967296 us m hm,ut us (m+1) hz,Nat.mul_zero,Nat.add_zero]
theorem qhy (us vs:List Nat) (j n:Nat) (hn:vs.length=n+2) (hj:j+(n+2)<us.length) (hu:∀ x ∈ us,x<4294967296) (hv:∀ x ∈ vs,x<4294967296) (hlt:vl 4294967296 us<vl 4294967296 vs*4294967296^j*4294967296) (hhi:2147483648≤vs[n+1]?.getD 0) :
  zji (vl 4294967296 us) (vl 4294967296 vs*4294967296^j) (4294967296^(j+n)) (us[j+(n+2)]?.getD 0) (us[j+(n+2)-1]?.getD 0) (us[j+(n+2)-2]?.getD 0) (vs[n+1]?.getD 0) (vs[n]?.getD 0):=by(
have bu:=fun i=>cf hu (by omega:0<4294967296) i
have bv:=fun i=>cf hv (by omega:0<4294967296) i
have hV:=oz (by omega:0<4294967296) vs hv
have hS:vl 4294967296 us<4294967296^(j+(n+2)+1):=by
 refine Nat.lt_of_lt_of_le hlt ?_
 rw[show 4294967296^(j+(n+2)+1)=4294967296^(n+2)*4294967296^j*4294967296 from by rw[← Nat.pow_add,← Nat.pow_succ];congr 1;omega]
 rw[hn] at hV
 exact Nat.mul_le_mul_right _ (Nat.mul_le_mul_right _ (Nat.le_of_lt hV))
have hz:=zho us _ hS
refine⟨⟨vl 4294967296 (us.take (j+n)),?_,j5 us _ (by omega) hu⟩,⟨vl 4294967296 (vs.take n)*4294967296^j,?_,?_⟩,hlt,hhi,bv _,bv _,bu _,bu _⟩
·rw[uo us (j+n) (by omega),ko _ us (j+n) (by omega),ko _ us (j+n+1) (by omega),ko _ us (j+n+1+1) (by omega),ut us (j+n+1+1+1) (fun i hi=>hz i (by omega))]
 rw[show j+(n+2)=j+n+1+1 from by omega,show j+n+1+1-1=j+n+1 from by omega,show j+n+1+1-2=j+n from by omega]
 grind
·rw[uo vs n (by omega),ko _ vs n (by omega),ko _ vs (n+1) (by omega),ut vs (n+1+1) (fun i hi=>by rw[List.getElem?_eq_none (by omega)];rfl),Nat.pow_add]
 grind
·rw[Nat.pow_add,Nat.mul_comm (4294967296^j)]
 exact Nat.mul_lt_mul_of_pos_right (j5 vs n (by omega) hv) (Nat.pow_pos (by omega)))
theorem zvq {us0 us vs:List Nat} {j n c d g u:Nat} (h:Taken us0 us vs j n c d g) (hn:vs.length=n) (hj:j+n<us0.length) (hu:us[j+n]?.getD 0=u) (hge:c+d≤u) (hg:vl 4294967296 us0/(vl 4294967296 vs*4294967296^j)≤g) (hW:0<vl 4294967296 vs*4294967296^j) :
  g=vl 4294967296 us0/(vl 4294967296 vs*4294967296^j)∧vl 4294967296 (us.set (j+n) (u-c-d))=vl 4294967296 us0%(vl 4294967296 vs*4294967296^j):=by(
have h1:=l5 4294967296 us (j+n) (u-c-d) (by rw[h.len];exact hj)
have h2:=h.val
rw[hu] at h1
rw[List.take_of_length_le (by omega)] at h2
have e:vl 4294967296 (us.set (j+n) (u-c-d))+g*(vl 4294967296 vs*4294967296^j)=vl 4294967296 us0:=by
 obtain⟨z,hz⟩:∃ z,u=c+d+z:=⟨u-(c+d),by omega⟩
 rw[show u-c-d=z from by omega] at h1 ⊢
 subst hz
 generalize vl 4294967296 (us.set (j+n) z)=X at *
 generalize vl 4294967296 us=Y at *
 generalize vl 4294967296 us0=S at *
 generalize (4294967296:Nat)^(j+n)=Q at *
 generalize (4294967296:Nat)^j=P at *
 grind
generalize vl 4294967296 vs*4294967296^j=W at *
generalize vl 4294967296 us0=S at *
have hq:g≤S/W:=by rw[Nat.le_div_iff_mul_le hW];omega
have hqe:g=S/W:=Nat.le_antisymm hq hg
refine⟨hqe,?_⟩
have h3:=Nat.div_add_mod S W
rw[← hqe,Nat.mul_comm] at h3
omega)
theorem zvp {us0 us vs:List Nat} {j n c d g u:Nat} (h:Taken us0 us vs j n c d g) (hn:vs.length=n) (hj:j+n<us0.length) (hu:us[j+n]?.getD 0=u) (hlt:u<c+d) (hg:g=vl 4294967296 us0/(vl 4294967296 vs*4294967296^j)∨g=vl 4294967296 us0/(vl 4294967296 vs*4294967296^j)+1) (hS:vl 4294967296 us0<4294967296^(j+n+1)) :
  g=vl 4294967296 us0/(vl 4294967296 vs*4294967296^j)+1∧vl 4294967296 (us.set (j+n) (u+4294967296-(c+d)))+vl 4294967296 vs*4294967296^j=vl 4294967296 us0%(vl 4294967296 vs*4294967296^j)+4294967296^(j+n+1)∧(∀ x ∈ us.set (j+n) (u+4294967296-(c+d)),x<4294967296)∧(∀ i,j+n+1≤i→(us.set (j+n) (u+4294967296-(c+d)))[i]?.getD 0=0):=by(
have hc:=h.car
have hd:=h.bor
have hl:=h.len
have hz:=zho us0 _ hS
have hm':∀ x ∈ us.set (j+n) (u+4294967296-(c+d)),x<4294967296:=mem_set h.mem _ _ (by omega)
have hz':∀ i,j+n+1≤i→(us.set (j+n) (u+4294967296-(c+d)))[i]?.getD 0=0:=fun i hi=>by
 rw[List.getElem?_set_ne (by omega),h.same i (by omega)];exact hz i hi
have hlt':=zzo (us.set (j+n) (u+4294967296-(c+d))) (j+n+1) (by rw[List.length_set,hl];omega) hm' hz'
have h1:=l5 4294967296 us (j+n) (u+4294967296-(c+d)) (by rw[h.len];exact hj)
have h2:=h.val
rw[hu] at h1
rw[List.take_of_length_le (by omega)] at h2
have e:vl 4294967296 (us.set (j+n) (u+4294967296-(c+d)))+g*(vl 4294967296 vs*4294967296^j)=vl 4294967296 us0+4294967296^(j+n+1):=by
 obtain⟨z,hz⟩:∃ z,z+(c+d)=u+4294967296:=⟨u+4294967296-(c+d),by omega⟩
 rw[show u+4294967296-(c+d)=z from by omega] at h1 ⊢
 rw[Nat.pow_succ]
 generalize vl 4294967296 (us.set (j+n) z)=X at *
 generalize vl 4294967296 us=Y at *
 generalize vl 4294967296 us0=S at *
 generalize (4294967296:Nat)^(j+n)=Q at *
 generalize (4294967296:Nat)^j=P at *
 have e2:(z+(c+d))*Q=(u+4294967296)*Q:=by rw[hz]
 grind
refine⟨?_,?_,hm',hz'⟩
·(
rcases hg with hg | hg
·exfalso
 have h3:=Nat.div_mul_le_self (vl 4294967296 us0) (vl 4294967296 vs*4294967296^j)
 rw[← hg] at h3
 omega
·exact hg)
·(
have hg':g=vl 4294967296 us0/(vl 4294967296 vs*4294967296^j)+1:=by
 rcases hg with hg | hg
 ·exfalso
  have h3:=Nat.div_mul_le_self (vl 4294967296 us0) (vl 4294967296 vs*4294967296^j)
  rw[← hg] at h3
  omega
 ·exact hg
have h3:=Nat.div_add_mod (vl 4294967296 us0) (vl 4294967296 vs*4294967296^j)
rw[hg',Nat.succ_mul] at e
rw[Nat.mul_comm] at h3
omega))
theorem qhd {us0 us vs:List Nat} {j n c R W:Nat} (h:zsf us0 us vs j n c) (hn:vs.length=n) (hj:j+n<us0.length) (hz:∀ i,j+n+1≤i→us0[i]?.getD 0=0) (hW:W=vl 4294967296 vs*4294967296^j) (hWl:W≤4294967296^(j+n)) (hR:R<W) (e:vl 4294967296 us0+W=R+4294967296^(j+n+1)) :
  us[j+n]?.getD 0+c=4294967296∧vl 4294967296 (us.set (j+n) 0)=R:=by(
have h2:=h.val
have hl:=h.len
rw[List.take_of_length_le (by omega)] at h2
have hz':∀ i,j+n+1≤i→us[i]?.getD 0=0:=fun i hi=>by rw[h.same i (by omega)];exact hz i hi
have ht:=zsm us (j+n) (by omega) hz'
have hlo:=j5 us (j+n) (by omega) h.mem
have h1:=l5 4294967296 us (j+n) 0 (by omega)
rw[Nat.zero_mul,Nat.add_zero] at h1
generalize us[j+n]?.getD 0=t at *
rw[Nat.pow_succ] at e
rw[Nat.mul_comm (4294967296^j),← hW] at h2
generalize vl 4294967296 (us.take (j+n))=L at *
generalize vl 4294967296 (us.set (j+n) 0)=X at *
generalize vl 4294967296 us=Y at *
generalize vl 4294967296 us0=S at *
generalize (4294967296:Nat)^(j+n)=Q at *
have e2:L+Q*(t+c)=R+Q*4294967296:=by grind
have htc:t+c=4294967296:=by
 rcases Nat.lt_trichotomy (t+c) 4294967296 with hc | hc | hc
 ·exfalso
  have:Q*(t+c+1)≤Q*4294967296:=Nat.mul_le_mul_left _ hc
  rw[Nat.mul_succ] at this
  omega
 ·exact hc
 ·exfalso
  have:Q*(4294967296+1)≤Q*(t+c):=Nat.mul_le_mul_left _ hc
  rw[Nat.mul_succ] at this
  omega
refine⟨htc,?_⟩
rw[htc] at e2
have:t*Q=Q*t:=Nat.mul_comm _ _
omega)
structure zvi (A V:Nat) (us qs:List Nat) (t:Nat):Prop where
 um:∀ x ∈ us,x<4294967296
 qm:∀ x ∈ qs,x<4294967296
 lt:vl 4294967296 us<V*4294967296^t
 zero:∀ j,j<t→qs[j]?.getD 0=0
 val:vl 4294967296 us+V*vl 4294967296 qs=A
theorem zvi.step {A V:Nat} {us us' qs:List Nat} {j q:Nat} (h:zvi A V us qs (j+1)) (hq:j<qs.length) (hq1:q=vl 4294967296 us/(V*4294967296^j)) (hV:0<V) (hm:∀ x ∈ us',x<4294967296) (hu:vl 4294967296 us'=vl 4294967296 us%(V*4294967296^j)):zvi A V us' (qs.set j q) j:=by(
have hW:0<V*4294967296^j:=Nat.mul_pos hV (Nat.pow_pos (by omega))
have hqB:q<4294967296:=by
 rw[hq1]
 refine Nat.div_lt_of_lt_mul ?_
 have:=h.lt
 rw[Nat.pow_succ,← Nat.mul_assoc] at this
 exact this
refine⟨hm,mem_set h.qm _ _ hqB,by rw[hu];exact Nat.mod_lt _ hW,fun i hi=>by rw[List.getElem?_set_ne (by omega)];exact h.zero i (by omega),?_⟩
rw[zlq _ qs j q hq (h.zero j (by omega)),hu]
have h1:=Nat.div_add_mod (vl 4294967296 us) (V*4294967296^j)
rw[← hq1] at h1
have h2:=h.val
generalize vl 4294967296 us%(V*4294967296^j)=R at *
generalize vl 4294967296 us=S at *
generalize vl 4294967296 qs=Z at *
generalize (4294967296:Nat)^j=P at *
grind)
theorem zvi.fin {A V:Nat} {us qs:List Nat} (h:zvi A V us qs 0):vl 4294967296 qs=A/V∧vl 4294967296 us=A%V:=by(
have h1:=h.lt
rw[Nat.pow_zero,Nat.mul_one] at h1
have h2:=h.val
have hV:0<V:=by omega
constructor
·rw[← h2,Nat.add_mul_div_left _ _ hV,Nat.div_eq_of_lt h1,Nat.zero_add]
·rw[← h2,Nat.add_mul_mod_self_left,Nat.mod_eq_of_lt h1])
def zat (ds:List UInt8):Prop:=∀ d ∈ ds,48≤d.toNat∧d.toNat≤57
def jy (ds:List UInt8):Nat:=ds.foldl (fun n d=>n*10+(d.toNat-48)) 0
theorem qbv (ds:List UInt8):∀ n:Nat,ds.foldl (fun n d=>n*10+(d.toNat-48)) n=n*10^ds.length+jy ds:=by(
induction ds with
| nil=>intro n;simp[jy]
| cons d ds ih =>
 intro n
 unfold jy
 rw[List.foldl_cons,List.foldl_cons,ih,ih (0*10+(d.toNat-48)),List.length_cons,Nat.pow_succ]
 generalize 10^ds.length=P
 generalize jy ds=D
 grind)
theorem zbh (xs ys:List UInt8):jy (xs++ys)=jy xs*10^ys.length+jy ys:=by(
show (xs++ys).foldl (fun n d=>n*10+(d.toNat-48)) 0=_
rw[List.foldl_append,qbv]
rfl)
theorem zqb (xs:List UInt8) (d:UInt8):jy (xs++[d])=jy xs*10+(d.toNat-48):=by
 rw[zbh]
 simp[jy]
theorem qbw (d:UInt8) (ds:List UInt8):jy (d::ds)=(d.toNat-48)*10^ds.length+jy ds:=by(
have h:=zbh [d] ds
rw[List.singleton_append] at h
rw[h]
simp[jy])
theorem zlz:∀ {ds:List UInt8},zat ds→jy ds<10^ds.length
 | [],_=>by simp[jy]
 | d::ds,h=>by
  have h1:=zlz (ds:=ds) (fun x hx=>h x (by simp[hx]))
  have h2:=h d (by simp)
  have h3:(d.toNat-48)*10^ds.length≤9*10^ds.length:=Nat.mul_le_mul_right _ (by omega)
  rw[qbw,List.length_cons,Nat.pow_succ]
  omega
theorem zus (k:Nat) (h:k<10):(UInt8.ofNat (48+k)).toNat=48+k:=UInt8.toNat_ofNat_of_lt' (by simp[UInt8.size];omega)
theorem znu (n:Nat):zat (Lib.decDigits n)∧jy (Lib.decDigits n)=n∧0<(Lib.decDigits n).length:=by(
induction n using Nat.strongRecOn with
| _ n ih =>
 rw[Lib.decDigits]
 by_cases h10:n<10
 ·rw[dif_pos h10]
  have e:=zus n h10
  refine⟨fun d hd=>?_,?_,by simp⟩
  ·rw[List.mem_singleton] at hd
   rw[hd,e]
   omega
  ·show 0*10+((UInt8.ofNat (48+n)).toNat-48)=n
   rw[e]
   omega
 ·rw[dif_neg h10]
  obtain⟨h1,h2,h3⟩:=ih (n/10) (Nat.div_lt_self (by omega) (by omega))
  have e:=zus (n%10) (Nat.mod_lt _ (by omega))
  refine⟨fun d hd=>?_,?_,by simp⟩
  ·rcases List.mem_append.1 hd with hd | hd
   ·exact h1 d hd
   ·rw[List.mem_singleton] at hd
    rw[hd,e]
    omega
  ·rw[zqb,h2,e]
   omega)
theorem zzx {es:List UInt8} {j:Nat} (hd:zat es) (hj:j<es.length):jy (es.take (j+1))=jy (es.take j)*10+((es[j]?.getD 0).toNat-48)∧jy (es.take j)<10^j∧48≤(es[j]?.getD 0).toNat∧(es[j]?.getD 0).toNat≤57:=by(
have h1:es.take (j+1)=es.take j++[es[j]?.getD 0]:=by
 rw[List.getElem?_eq_getElem hj,Option.getD_some,List.take_succ_eq_append_getElem hj]
have h2:=zlz (ds:=es.take j) (fun x hx=>hd x (List.mem_of_mem_take hx))
rw[List.length_take,Nat.min_eq_left (by omega)] at h2
have h3:=hd (es[j]?.getD 0) (by rw[List.getElem?_eq_getElem hj,Option.getD_some];exact List.getElem_mem hj)
exact⟨by rw[h1,zqb],h2,h3.1,h3.2⟩)
theorem byte_at {t:ByteArray} {es:List UInt8} (ht:t.data.toList=es) (j:Nat) (hj:j<es.length) (T:TypeId) (hT:prog.underlying T=some .string) (w:World):(Instr.index T (.string t) (.int .i64 (j:Int))).run prog w=.ok (.int .u8 (((es[j]?.getD 0).toNat:Nat):Int)) w:=by(
subst ht
have hs:j<t.size:=by simpa using hj
rw[run_index_string w T t .i64 (j:Int) hT,dif_pos ⟨by omega,by omega⟩]
have e:(t[((j:Int)).toNat]'(by simpa using hs))=t.data.toList[j]?.getD 0:=by
 rw[List.getElem?_eq_getElem hj,Option.getD_some]
 simp
 rfl
simp only[e])
theorem extract_drop (t:ByteArray) (j:Nat):(t.extract j t.size).data.toList=t.data.toList.drop j:=by(
rw[ByteArray.data_extract,Array.toList_extract,List.extract_eq_take_drop,List.take_of_length_le]
rw[List.length_drop]
simp)
structure qjo (w:World) (ds:List UInt8) (k:Nat) (t:ByteArray) (vo:Value) (wr:World):Prop where
 left:t.data.toList=ds.drop k
 le:k≤ds.length
 num:Sl .u64 wr vo (wd 18446744073709551616 (jy (ds.take k)))
 but:But [] w wr
theorem ztu (t:ByteArray) (ds:List UInt8) (w:World) (ht:t.data.toList=ds) (hd:zat ds) (hl:ds.length<1000000) :
  Calls prog 330 #[.string t] w fun e w'=>∃ v',e=.returned v'∧Sl .u64 w' v' (wd 18446744073709551616 (jy ds))∧But [] w w':=by(
have HD:=af hd
have HT:=af ht
clear hd ht
go_enter func330,ntmps330
go_wp2
go_loopg [0,3] ds.length (fun m s o wr=>∃ (t:ByteArray),s=.string t∧Hid (qjo w ds (ds.length-m) t o wr)∧m≤ds.length∧t.size=m)
case atStart=>exact⟨t,rfl,⟨by rw[Nat.sub_self,List.drop_zero];exact ae HT,by omega,by rw[Nat.sub_self,List.take_zero];exact zi 18446744073709551616 ▸ Sl.nil _ _,But.refl _ _⟩,Nat.le_refl _,by rw[← ae HT];simp⟩
case round =>(
obtain⟨t,rfl,HI,hm,hsz⟩:=hrel
rename World=>wr
have hs:((t.size:Nat):Int)=(gk:Int):=by omega
by_cases hm0:gk=0
·(
subst hm0
have hfin:Hid (Sl .u64 wr u3 (wd 18446744073709551616 (jy ds))∧But [] w wr):=by
 have h:=ae HI
 have h1:=h.num
 rw[Nat.sub_zero,List.take_length] at h1
 exact⟨h1,h.but⟩
clear HI
go_wp2
go_ret
exact⟨_,rfl,(ae hfin).1,(ae hfin).2⟩)
·(
obtain⟨c,hc⟩:∃ c,c=min gk 19:=⟨_,rfl⟩
have hc1:0<c:=by omega
have hc2:c≤19:=by omega
have hc3:c≤gk:=by omega
have hmin:min (gk:Int) 19=(c:Int):=by omega
clear hc
have hes:Hid (t.data.toList=ds.drop (ds.length-gk)):=(ae HI).left
have hel:(ds.drop (ds.length-gk)).length=gk:=by rw[List.length_drop];omega
have hed:zat (ds.drop (ds.length-gk)):=fun d h=>ae HD d (List.mem_of_mem_drop h)
obtain⟨es,hese⟩:∃ es,es=ds.drop (ds.length-gk):=⟨_,rfl⟩
rw[← hese] at hes hel hed
have HEE:=af hese
have HED:=af hed
clear hese hed
go_wp2_with fail
go_loopw [5,6,15] (fun a b i wq=>∃ j x P:Nat,j≤c∧i=.int .i64 j∧a=.int .u64 x∧b=.int .u64 P∧x<10000000000000000000∧P≤10000000000000000000∧Hid (x=jy (es.take j)∧P=10^j)∧wq=wr) (fun _ _ i _=>c-(intOf i).toNat)
case atStart=>exact⟨0,0,1,by omega,rfl,rfl,rfl,by omega,by omega,⟨by simp[jy],by simp⟩,rfl⟩
case round =>(
obtain⟨j,x,P,hj,rfl,rfl,rfl,hx,hP,HJ,rfl⟩:=hrel
by_cases hjc:j<c
·(
obtain⟨d1,d2,d3,d4⟩:=zzx (ae HED) (by omega:j<es.length)
have hb:=fun W=>byte_at (ae hes) j (by omega) 9 underlying9 W
rw[← (ae HJ).1] at d1 d2
have hp18:10^j≤10^18:=Nat.pow_le_pow_right (by omega) (by omega)
have hpp:Hid (P*10=10^(j+1)):=by show _=_;rw[(ae HJ).2,Nat.pow_succ]
have hP2:P≤1000000000000000000:=by rw[(ae HJ).2];exact hp18
have hx2:x<1000000000000000000:=Nat.lt_of_lt_of_le d2 hp18
generalize (es[j]?.getD 0).toNat=d at *
obtain⟨d',rfl⟩:∃ d',d=48+d':=⟨d-48,by omega⟩
have HD1:Hid (jy (es.take (j+1))=x*10+d'):=by show _=_;rw[d1];omega
have hd9:d'≤9:=by omega
have e1:IntKind.u8.wrap (((48+d':Nat):Int)-48)=(d':Int):=by rw[IntKind.wrap_u8];omega
have e2:IntKind.u64.wrap ((x:Int)*10)=((x*10:Nat):Int):=by rw[IntKind.wrap_u64];omega
have e3:IntKind.u64.wrap (((x*10:Nat):Int)+(d':Int))=((x*10+d':Nat):Int):=by rw[IntKind.wrap_u64];omega
have e4:IntKind.u64.wrap ((P:Int)*10)=((P*10:Nat):Int):=by rw[IntKind.wrap_u64];omega
clear d1 d2 d3 d4 hp18
go_wp2
refine⟨⟨j+1,x*10+d',P*10,by omega,by go_num,by go_num,by go_num,by omega,by omega,⟨(ae HD1).symm,ae hpp⟩,trivial⟩,?_⟩
simp[intOf];omega)
·(
have hjc':j=c:=by omega
subst hjc'
have hI:=ae HI
have hnew:jy (ds.take (ds.length-gk))*P+x=jy (ds.take (ds.length-(gk-j))):=by
 have e:ds.take (ds.length-(gk-j))=ds.take (ds.length-gk)++es.take j:=by
  rw[ae HEE,show ds.length-(gk-j)=(ds.length-gk)+j from by omega,List.take_add]
 rw[e,zbh,List.length_take,Nat.min_eq_left (by omega),← (ae HJ).1,← (ae HJ).2]
have hlen:(wd 18446744073709551616 (jy (ds.take (ds.length-gk)))).length<1000000:=by
 have h1:=zlz (ds:=ds.take (ds.length-gk)) (fun x hx=>ae HD x (List.mem_of_mem_take hx))
 refine Nat.lt_of_le_of_lt (aj (B:=18446744073709551616) (by omega) _ (ds.take (ds.length-gk)).length (Nat.lt_of_lt_of_le h1 (Nat.pow_le_pow_left (by omega) _))) ?_
 rw[List.length_take]
 omega
have hwl:∀ n,n < 18446744073709551616→(wd 18446744073709551616 n).length≤1:=fun n hn=>aj (by omega) _ _ (by rw[Nat.pow_one];exact hn)
have hl1:=hwl P (by omega)
have hl2:=hwl x (by omega)
have hl3:=qz (jy (ds.take (ds.length-gk))) P
have MU:=af (fun (W:World) (v:Value) (hb:But [] wr W) (h:Sl .u64 W v (wd 18446744073709551616 P))=>je u3 v _ _ W (hI.num.ah hb) h (by omega))
have AD:=af (fun (W:World) (v v2:Value) (h:Sl .u64 W v (wd 18446744073709551616 (jy (ds.take (ds.length-gk))*P))) (h2:Sl .u64 W v2 (wd 18446744073709551616 x))=>rf v v2 _ _ W h h2 (by omega) (by omega))
rw[hnew] at AD
have HBW:=af hI.but
have hex:t.extract j t.size=t.extract j t.size:=rfl
have hleft:Hid ((t.extract j t.size).data.toList=ds.drop (ds.length-(gk-j))):=by
 show _=_
 have h1:=ae hes
 rw[show ds.length-(gk-j)=(ds.length-gk)+j from by omega,← List.drop_drop,← ae HEE,← h1]
 exact extract_drop t j
have hsz2:(t.extract j t.size).size=gk-j:=by simp[hsz]
rw[hsz] at hleft hsz2
clear hI hnew hlen hwl hl1 hl2 hl3 hex
obtain⟨oa,oc,hoe⟩:∃ a c,u3=.slice a (wd 18446744073709551616 (jy (ds.take (ds.length-gk)))).length c:=by obtain⟨a,c,e,-,-⟩:=(ae HI).num;exact⟨a,c,e⟩
clear HI
subst hoe
generalize (wd 18446744073709551616 (jy (ds.take (ds.length-gk)))).length=on at *
go_wp2_with fail
refine (jh P (by omega) _).mono ?_
rintro e w1 ⟨v1,rfl,hv1,hb1,-⟩
have H1:=af hv1
have B1:=af hb1
clear hv1 hb1
go_wp2_with fail
refine (ae MU _ v1 (ae B1) (ae H1)).mono ?_
rintro e w2 ⟨v2,rfl,hv2,hb2,-⟩
have H2:=af hv2
have B2:Hid (But [] w w2):=((ae HBW).trans' (ae B1)).trans' hb2
clear hv2 hb2
go_wp2_with fail
refine (jh x (by omega) _).mono ?_
rintro e w3 ⟨v3,rfl,hv3,hb3,-⟩
have H3:=af hv3
have H2':=af ((ae H2).ah hb3)
have B3:Hid (But [] w w3):=(ae B2).trans' hb3
clear hv3 hb3
go_wp2_with fail
refine (ae AD _ v2 v3 (ae H2') (ae H3)).mono ?_
rintro e w4 ⟨v4,rfl,hv4,hb4⟩
have H4:=af hv4
have B4:Hid (But [] w w4):=(ae B3).trans' hb4
clear hv4 hb4
go_wp2
go_roundg (gk-j)
case measure=>omega
case rel=>exact⟨_,rfl,⟨ae hleft,by omega,ae H4,ae B4⟩,by omega,hsz2⟩)))))
theorem zhb (t:ByteArray) (bs ds es:List UInt8) (k:Nat) (w:World) (ht:t.data.toList=bs) (hk:bs.drop k=ds++es) (hkl:k≤bs.length) (hd:zat ds) (he:∀ e,es.head? = some e→e.toNat<48∨57<e.toNat) (hl:bs.length<1000000) (r:Int) (hr:Hid (r=((k+ds.length:Nat):Int))) :
  Calls prog 329 #[.string t,.int .i64 (k:Int)] w fun e w'=>e=.returned (.int .i64 r)∧w'=w:=by(
have hlen:bs.length=k+ds.length+es.length:=by
 have:=congrArg List.length hk
 rw[List.length_drop,List.length_append] at this
 omega
have hsz:t.size=k+ds.length+es.length:=by rw[← hlen,← ht];simp
have hs:((t.size:Nat):Int)=((k+ds.length+es.length:Nat):Int):=by rw[hsz]
have hat:∀ j,(bs[k+j]?.getD 0)=((ds++es)[j]?.getD 0):=fun j=>by rw[← hk,List.getElem?_drop]
have HAT:=af hat
have HT:=af ht
have HD:=af hd
have HE:=af he
clear hat hk hd he ht hkl
go_enter func329,ntmps329
go_wp2
obtain⟨m,hm⟩:∃ m,m=k+ds.length:=⟨_,rfl⟩
have hsm:t.size=m+es.length:=by omega
rw[← hm] at hr
have hkm:k≤m:=by omega
have hbl:bs.length=m+es.length:=by omega
have hdl:ds.length=m-k:=by omega
clear hsz hs hlen
go_loopw [1] (fun a wq=>∃ i:Nat,k≤i∧i≤m∧a=.int .i64 (i:Int)∧wq=w) (fun a _=>m-(intOf a).toNat)
case atStart=>exact⟨k,by omega,by omega,rfl,rfl⟩
case round =>(
obtain⟨i,hki,him,rfl,rfl⟩:=hrel
have hA:(bs[i]?.getD 0)=((ds++es)[i-k]?.getD 0):=by have:=ae HAT (i-k);rw[show k+(i-k)=i from by omega] at this;exact this
by_cases hjd:i<m
·(
have hb:=fun W=>byte_at (ae HT) i (by omega) 9 underlying9 W
rw[hA,List.getElem?_append_left (by omega)] at hb
have hdd:=ae HD (ds[i-k]?.getD 0) (by rw[List.getElem?_eq_getElem (by omega),Option.getD_some];exact List.getElem_mem _)
generalize (ds[i-k]?.getD 0).toNat=d at *
have l1:(i:Int)<(t.size:Int):=by omega
have c1:decide (48≤(d:Int))=true:=decide_eq_true (by omega)
have c2:decide ((d:Int)≤57)=true:=decide_eq_true (by omega)
have l2:decide ((i:Int)<(t.size:Int))=true:=decide_eq_true l1
have i0:(0:Int)≤(i:Int):=by omega
clear hA hdl hm
go_wp2
refine⟨⟨i+1,by omega,by omega,by go_num,trivial⟩,?_⟩
simp[intOf];omega)
·(
have hje:i=m:=by omega
subst hje
have hE:Hid ((i:Int)=r):=(ae hr).symm
by_cases hes:es.length=0
·(
have l1:(t.size:Int)≤(i:Int):=by omega
have l2:decide ((i:Int)<(t.size:Int))=false:=decide_eq_false (by omega)
clear hA hdl hm hsm hbl hes hjd him hkm hki
go_wp2
go_ret
exact⟨by rw[ae hE];rfl,rfl⟩)
·(
have hb:=fun W=>byte_at (ae HT) i (by omega) 9 underlying9 W
rw[hA,List.getElem?_append_right (by omega),show i-k-ds.length=0 from by omega] at hb
have hee:=ae HE (es[0]?.getD 0) (by rw[List.head?_eq_getElem?,List.getElem?_eq_getElem (by omega)];rfl)
have l1:(i:Int)<(t.size:Int):=by omega
have l2:decide ((i:Int)<(t.size:Int))=true:=decide_eq_true l1
have i0:(0:Int)≤(i:Int):=by omega
generalize (es[0]?.getD 0).toNat=d at *
clear hA hdl hm hsm hbl hes hjd him hkm hki
rcases hee with hee | hee
·have c1:decide (48≤(d:Int))=false:=decide_eq_false (by omega)
 go_wp2
 go_ret
 exact⟨by rw[ae hE];rfl,rfl⟩
·(
have c1:decide (48≤(d:Int))=true:=decide_eq_true (by omega)
have c2:decide ((d:Int)≤57)=false:=decide_eq_false (by omega)
go_wp2
go_ret
exact⟨by rw[ae hE];rfl,rfl⟩)))))
end Go.Proofs.YtpmjeclpkahkmaaGreatDoor
