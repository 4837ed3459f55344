/- Decimal digits and rows of bytes, plain. -/
import Derived.Test.YtffghofheeleeaaGreatDoorProg
import Derived.Deep.LoopGhost
import Derived.Lib.ItoaNum
import Derived.Laws.IdiomStrings
import Derived.OwnWalk
import Derived.WalkSpells
import Derived.Deep.RegionHeld
import Derived.Laws.OwnMore
import Derived.Test.YtffghofheeleeaaGreatDoorKG0
namespace Go.Proofs.YtffghofheeleeaaGreatDoor
open Go.Proofs.Tryz
open Go.RowKit
set_option maxHeartbeats 4000000
set_option maxRecDepth 100000
theorem But.grown {a w w':World} {row:Option Nat} (h:But [] a w) (hg:w.grownBy w' row) (hr:∀ k,row=some k→a.heap.size≤k):But [] a w' :=
 ⟨hg.os.trans h.os,hg.tape.trans h.tape,hg.output.trans h.output,Nat.le_trans h.size hg.size,fun k hk hn=>by
  rw[hg.block k (Nat.lt_of_lt_of_le hk h.size) (fun e=>by have:=hr k e.symm;omega)]
  exact h.block k hk hn⟩
theorem zgo {w w':World} {g:Nat} (hg:w.grownBy w' (some g)):But [g] w w' :=
 ⟨hg.os,hg.tape,hg.output,hg.size,fun k hk hn=>hg.block k hk (fun e=>hn (by simp only[Option.some.injEq] at e;simp[e]))⟩
theorem ui {w w':World} (hg:w.grownBy w' none):But [] w w' :=
 ⟨hg.os,hg.tape,hg.output,hg.size,fun k hk _=>hg.block k hk (by simp)⟩
theorem zau {w w':World} {base:Nat} {e:TypeId} {size:Nat} {v:Value} {n:Nat} {xs:List Value} (h:w.ownsRow base e size v n xs) (hb:But [] w w'):w'.ownsRow base e size v n xs:=by
 obtain⟨h1,h2⟩:=h
 refine⟨h1,?_⟩
 rcases h2 with h2|⟨g,cap,cur,e1,e2,e3,e4⟩
 ·exact .inl h2
 ·refine .inr ⟨g,cap,cur,e1,e2,?_,e4⟩
  have hlt:g<w.heap.size:=by
   rcases Nat.lt_or_ge g w.heap.size with h | h
   ·exact h
   ·rw[Array.getElem?_eq_none h] at e3;cases e3
  rw[hb.block g hlt (by simp)];exact e3
def u8v (b:UInt8):Value:=.int .u8 (b.toNat:Int)
def yg (n:Nat):List UInt8:=if h:0<n then UInt8.ofNat (48+n%10)::yg (n/10) else []
 termination_by n
 decreasing_by exact Nat.div_lt_self h (by omega)
theorem o9:yg 0=[]:=by rw[yg];simp
theorem ug {n:Nat} (h:0<n):yg n=UInt8.ofNat (48+n%10)::yg (n/10):=by rw[yg,dif_pos h]
theorem rdig_rev (n:Nat) (h:0<n):(yg n).reverse=Lib.decDigits n:=by
 induction n using Nat.strongRecOn with
 | _ n ih =>
  rw[ug h,List.reverse_cons,Lib.decDigits]
  by_cases h10:n<10
  ·rw[dif_pos h10,Nat.div_eq_of_lt h10,o9,Nat.mod_eq_of_lt h10];rfl
  ·rw[dif_neg h10,ih (n/10) (Nat.div_lt_self h (by omega)) (by omega)]
theorem zcn (n k:Nat) (h:n<10^k):(yg n).length≤k:=by
 induction k generalizing n with
 | zero =>
  have:n=0:=by simp at h;omega
  subst this;simp[o9]
 | succ k ih =>
  by_cases hn:0<n
  ·rw[ug hn,List.length_cons]
   have:=ih (n/10) (by rw[Nat.div_lt_iff_lt_mul (by omega)];rw[Nat.pow_succ] at h;exact h)
   omega
  ·have:n=0:=by omega
   subst this;simp[o9]
theorem info_u8:∃ i,prog.info? 5 = some i∧i.zero=some (.int .u8 0)∧i.size=1∧i.bytes=1:=by
 have h:(prog.info? 5).map (fun i=>(i.zero,i.size,i.bytes))=some (some (.int .u8 0),1,1):=by kernel_rfl
 obtain⟨i,hi,he⟩:=Option.map_eq_some_iff.1 h
 simp only[Prod.mk.injEq] at he
 exact⟨i,hi,he.1,he.2.1,he.2.2⟩
structure zah (bs cs:List Nat) (i:Nat):Prop where
 len:cs.length=bs.length
 at':∀ k,k<bs.length→cs[k]?.getD 0=if k<i∨bs.length-i≤k then bs[bs.length-1-k]?.getD 0 else bs[k]?.getD 0
theorem zah.start (bs:List Nat):zah bs bs 0:=⟨rfl,fun k hk=>by rw[if_neg (by omega)]⟩
theorem getD_set (l:List Nat) (i k x:Nat) (hi:i<l.length):(l.set i x)[k]?.getD 0=if k=i then x else l[k]?.getD 0:=by
 by_cases h:k=i
 ·subst h;rw[List.getElem?_set_self hi,if_pos rfl];rfl
 ·rw[List.getElem?_set_ne (Ne.symm h),if_neg h]
theorem zah.step {bs cs:List Nat} {i:Nat} (h:zah bs cs i) (hij:i<bs.length-1-i):zah bs ((cs.set i (cs[bs.length-1-i]?.getD 0)).set (bs.length-1-i) (cs[i]?.getD 0)) (i+1):=by
 have hl:=h.len
 refine⟨by simp[hl],fun k hk=>?_⟩
 have e1:cs[i]?.getD 0=bs[i]?.getD 0:=by rw[h.at' i (by omega),if_neg (by omega)]
 have e2:cs[bs.length-1-i]?.getD 0=bs[bs.length-1-i]?.getD 0:=by rw[h.at' (bs.length-1-i) (by omega),if_neg (by omega)]
 rw[getD_set _ _ _ _ (by simp[hl];omega),getD_set _ _ _ _ (by omega),e1,e2]
 by_cases h1:k=bs.length-1-i
 ·subst h1
  rw[if_pos rfl,if_pos (by omega),show bs.length-1-(bs.length-1-i)=i from by omega]
 ·rw[if_neg h1]
  by_cases h2:k=i
  ·subst h2
   rw[if_pos rfl,if_pos (by omega)]
  ·rw[if_neg h2,h.at' k hk]
   by_cases h3:k<i∨bs.length-i≤k
   ·rw[if_pos h3,if_pos (by omega)]
   ·rw[if_neg h3,if_neg (by omega)]
theorem zah.fin {bs cs:List Nat} {i:Nat} (h:zah bs cs i) (hij:bs.length≤2*i+1):cs=bs.reverse:=by
 refine List.ext_getElem (by simp[h.len]) fun k h1 h2=>?_
 have hk:k<bs.length:=by rw[← h.len];exact h1
 have e:=h.at' k hk
 rw[List.getElem?_eq_getElem h1,Option.getD_some] at e
 rw[e,List.getElem_reverse]
 by_cases h3:k<i∨bs.length-i≤k
 ·rw[if_pos h3,List.getElem?_eq_getElem (by omega)];rfl
 ·rw[if_neg h3,List.getElem?_eq_getElem hk,Option.getD_some]
  have:bs.length-1-k=k:=by omega
  simp only[this]
theorem zdg {w:World} {base:Nat} {e:TypeId} {v:Value} {bs:List UInt8} (h:w.ownsRow base e 1 v bs.length (bs.map u8v)) (h0:0<bs.length) :
  ∃ g cap,v=.slice (some ⟨g,0,none⟩) bs.length cap∧base≤g∧bs.length≤cap∧Row .u8 w g (bs.map UInt8.toNat):=by
 obtain⟨h1,h2⟩:=h
 rcases h2 with ⟨-,h2⟩|⟨g,cap,cur,e1,e2,e3,e4,e5,e6,e7⟩
 ·omega
 ·refine⟨g,cap,e1,e2,e4,fun i hi=>?_⟩
  rw[List.length_map] at hi
  have hc:cur[i]? = some (u8v bs[i]):=by
   have:(cur.toList.take (bs.length*1))[i]? = some (u8v bs[i]):=by rw[e7,List.getElem?_map,List.getElem?_eq_getElem hi];rfl
   rw[List.getElem?_take_of_lt (by omega)] at this
   simpa using this
  refine⟨?_,by simp[World.frozen?,e3]⟩
  simp only[World.cell?,e3,hc]
  simp[u8v,hi]
theorem sl_grown {k:IntKind} {w2 w3:World} {v:Value} {xs:List Nat} {o:Obj} {row:Option Nat} {B:Nat} (h:Sl k w2 v xs) (hg:(w2.alloc o).grownBy w3 row) (hr:∀ k,row=some k→k<B) (hf:rf B v):Sl k w3 v xs:=by
 have h1:=h.ah ((But.refl [] w2).alloc o)
 cases row with
 | none=>exact h1.ah (ui hg)
 | some g=>exact h1.but (zgo hg) (fun b off cap n e=>by have:=hf b off n cap e;have:=hr g rfl;simp;omega)
theorem u8v_digit (r:Nat) (h:r<10):Value.int .u8 (48+(r:Int))=u8v (UInt8.ofNat (48+r)):=by
 unfold u8v
 rw[UInt8.toNat_ofNat_of_lt' (by simp[UInt8.size];omega)]
 simp
def fw:Nat→Nat→List UInt8
 | 0,_=>[]
 | k+1,r=>UInt8.ofNat (48+r%10)::fw k (r/10)
theorem pdig_length:∀ k r,(fw k r).length=k
 | 0,_=>rfl
 | k+1,r=>by rw[fw,List.length_cons,pdig_length k]
theorem pdig_snoc:∀ k r,fw (k+1) r=fw k r++[UInt8.ofNat (48+r/10^k%10)]
 | 0,r=>by simp[fw]
 | k+1,r=>by
  rw[fw,pdig_snoc k (r/10),fw,List.cons_append,Nat.div_div_eq_div_mul,Nat.pow_succ,Nat.mul_comm 10]
theorem pdig_mod:∀ k r,fw k (r%10^k)=fw k r
 | 0,r=>rfl
 | k+1,r=>by
  have h1:r%10^(k+1)%10=r%10:=Nat.mod_mod_of_dvd _ ⟨10^k,by rw[Nat.pow_succ,Nat.mul_comm]⟩
  have h2:r%10^(k+1)/10=r/10%10^k:=by rw[Nat.pow_succ,Nat.mul_comm,Nat.mod_mul_right_div_self]
  rw[fw,fw,h1,h2,pdig_mod k]
theorem rdig_part:∀ k n,10^k≤n→yg n=fw k n++yg (n/10^k)
 | 0,n,_=>by simp[fw]
 | k+1,n,h=>by
  have hp:0<10^k:=Nat.pow_pos (by omega)
  have h0:0<n:=by have:=Nat.pow_pos (n:=k+1) (show 0<10 from by omega);omega
  rw[ug h0,rdig_part k (n/10) (by rw[Nat.le_div_iff_mul_le (by omega),← Nat.pow_succ];exact h),fw,List.cons_append,Nat.div_div_eq_div_mul,Nat.pow_succ,Nat.mul_comm 10]
theorem Row.but {k:IntKind} {w w':World} {g:Nat} {rs:List Nat} {l:List Nat} (h:Row k w g rs) (hb:But l w w') (hn:g ∉ l):Row k w' g rs:=fun i hi=>by
 obtain⟨h1,h2⟩:=h i hi
 have hl:=ai h1
 exact⟨hb.ag h1 hn,(hb.frozen hl hn).trans h2⟩
theorem reverse_any (g cap:Nat) (bs:List Nat) (w:World) (hr:Row .u8 w g bs) (h0:0<bs.length) (hl:bs.length<1073741824) :
  Calls prog 173 #[.slice (some ⟨g,0,none⟩) bs.length cap] w fun e w'=>e=.returned (.tuple #[])∧Row .u8 w' g bs.reverse∧But [g] w w':=by
 have mixed:prog.follows .mixedOrders=true:=by kernel_rfl
 have HR:=af hr
 clear hr
 obtain⟨n,hn⟩:∃ n,n=bs.length:=⟨_,rfl⟩
 rw[← hn] at h0 hl ⊢
 have HN:=af hn
 clear hn
 go_enter func173,ntmps173
 go_wp2
 go_loopw [2,3] (fun i j wq=>∃ (k q:Nat) (cs:List Nat),i=.int .i64 k∧j=.int .i64 q∧k≤q+1∧Hid (k+q+1=n∧zah bs cs k∧Row .u8 wq g cs∧But [g] w wq)) (fun i _ _=>n-(intOf i).toNat)
 case atStart=>exact⟨0,n-1,bs,rfl,by congr 1;omega,by omega,by omega,zah.start _,ae HR,But.refl _ _⟩
 case round =>
  obtain⟨k,q,cs,rfl,rfl,hkq,HJ⟩:=hrel
  rename World=>wq
  have hcl:cs.length=n:=by rw[(ae HJ).2.1.len,ae HN]
  have hsum:=(ae HJ).1
  by_cases hlt:k<q
  ·obtain⟨ck,fk⟩:=(ae HJ).2.2.1 k (by omega)
   obtain⟨cq,fq⟩:=(ae HJ).2.2.1 q (by omega)
   have ST:=af ((ae HJ).2.1.step (by rw[← ae HN];omega))
   have hq:q=n-1-k:=by omega
   rw[← ae HN,← hq] at ST
   have HC:=af hcl
   have HS:=af hsum
   have ne1:k≠q:=by omega
   have hk1:k<n:=by omega
   have hq1:q<n:=by omega
   clear hcl hsum hq
   generalize hx:cs[k]?.getD 0=x at *
   generalize hy:cs[q]?.getD 0=y at *
   clear hx hy
   go_wp2_with fail
   go_region_o
   go_wp2
   refine⟨⟨k+1,q-1,(cs.set k y).set q x,by go_num,by rw[Int.ofNat_sub (by omega)];rfl,by omega,by have:=ae HS;omega,ae ST,?_,?_⟩,?_⟩
   ·exact (((ae HJ).2.2.1.set k (by rw[ae HC];have:=ae HS;omega) y).set q (by rw[List.length_set,ae HC];have:=ae HS;omega) x).but ((But.refl [] _).drew) (by simp)
   ·exact (((ae HJ).2.2.2.setCell (p:=⟨g,k,none⟩) (.inl (by simp)) (.int .u8 (y:Int))).setCell (p:=⟨g,q,none⟩) (.inl (by simp)) (.int .u8 (x:Int))).drew
   ·have:=ae HS
    simp[intOf];omega
  ·have hfin:cs=bs.reverse:=(ae HJ).2.1.fin (by rw[← ae HN];omega)
   have HF:=af hfin
   clear hfin hcl hsum
   go_wp2
   go_end0
   exact⟨rfl,by rw[← ae HF];exact (ae HJ).2.2.1,(ae HJ).2.2.2⟩
theorem ten608:(10:Nat)^608 < 18446744073709551616^33:=by decide +kernel
theorem byWord_fresh (v:Value) (X d:Nat) (w:World) (hv:Sl .u64 w v (wd 18446744073709551616 X)) (hl:(wd 18446744073709551616 X).length<1073741824) (hd:0<d) (hdB:d < 18446744073709551616) :
  Calls prog 159 #[v,.int .u64 (d:Int)] w fun e w'=>∃ v',e=.returned (.tuple #[v',.int .u64 ((X%d:Nat):Int)])∧Sl .u64 w' v' (wd 18446744073709551616 (X/d))∧But [] w w'∧rf w.heap.size v':=by
 have mm:=zq (B:=18446744073709551616) (by omega) X
 have em:=qo (B:=18446744073709551616) (by omega) X
 obtain⟨a,c,rfl,hc,hcell,-⟩:=hv
 generalize wd 18446744073709551616 X=xs at *
 subst em
 obtain⟨R,hR⟩:∃ R,R=vl 18446744073709551616 xs%d:=⟨_,rfl⟩
 rw[← hR]
 have HR:=af hR
 have hmk:=fun wx=>vv wx xs.length (by omega)
 have HC:=af hcell
 have MM:=af mm
 clear hcell mm hR
 go_enter func159,ntmps159
 go_wp2
 go_loopw [7,8] (fun r i wr=>∃ (k rN:Nat) (rs:List Nat),k≤xs.length∧i=.int .i64 ((k:Int)-1)∧r=.int .u64 rN∧rN<d∧rs.length=xs.length∧Hid (zfx xs rs d k rN∧But [] w wr∧Seg wr w.heap.size 0 rs)) (fun _ i _=>(intOf i+1).toNat)
 case atStart=>exact⟨xs.length,0,List.replicate xs.length 0,Nat.le_refl _,rfl,rfl,hd,by simp,zfx.start xs d hd,(But.refl _ _).alloc _,Seg.made _ _ _⟩
 case round =>
  obtain⟨k,rN,rs,hk,rfl,rfl,hrN,hrl,HI⟩:=hrel
  rename World=>wr
  by_cases hk0:k=0
  ·subst hk0
   have hsl:=(ae HI).2.2.sl xs.length (by omega)
   rw[hrl] at hsl
   have HSL:=af hsl
   have HF:=af (ae HI).1.fin
   have hln:rs.length<2147483648:=by omega
   clear hsl HC
   go_wp2_with fail
   refine (zz _ rs _ (ae HSL) (ae HI).1.mem hln).mono ?_
   rintro e w1 ⟨v1,rfl,hv1,hw,hsb⟩
   obtain rfl:=hw.symm
   clear hw
   rw[(ae HF).1] at hv1
   have HV1:=af hv1
   have HSB:=af hsb
   clear hsb
   have er:Hid (rN=R):=by show _=_;rw[ae HR];exact (ae HF).2
   clear hv1
   go_wp2
   go_ret2
   exact⟨v1,by rw[← ae er];rfl,ae HV1,(ae HI).2.1,bf (ae HSB) (Nat.le_refl _)⟩
  ·obtain⟨i,rfl⟩:∃ i,k=i+1:=⟨k-1,by omega⟩
   obtain⟨b,off,rfl,hci⟩:=ae HC i (by omega)
   have cx:=(ae HI).2.1.ag hci (by simp)
   have hxB:xs[i]?.getD 0 < 18446744073709551616:=br (ae MM) (by omega) i
   obtain⟨cr,fr⟩:=(ae HI).2.2 i (by omega)
   rw[Nat.zero_add] at cr fr
   obtain⟨q,hq⟩:∃ q,(rN * 18446744073709551616+xs[i]?.getD 0)/d=q:=⟨_,rfl⟩
   obtain⟨r',hr'⟩:∃ r',(rN * 18446744073709551616+xs[i]?.getD 0)%d=r':=⟨_,rfl⟩
   obtain⟨hqB,hst⟩:=(ae HI).1.step (by omega) hxB q r' hq hr'
   have hr'd:r' < d:=hst.lt
   have ST:=af hst
   have DV:=af (div64_any rN (xs[i]?.getD 0) d hdB hxB hrN wr q r' hq hr')
   have hset:=(ae HI).2.2.set i (by omega) q
   rw[Nat.zero_add] at hset
   have HSET:=af hset
   clear hset hst hci hq hr'
   generalize xs[i]?.getD 0=x at *
   generalize rs[i]?.getD 0=r0 at cr
   rw[show (((i+1:Nat):Int)-1)=(i:Int) from by omega]
   go_wp2_with fail
   refine (ae DV).mono ?_
   rintro e w1 ⟨rfl,n,rfl⟩
   go_wp2
   refine⟨⟨i,r',rs.set i q,by omega,rfl,rfl,hr'd,by rw[List.length_set];exact hrl,ae ST,((ae HI).2.1.drewN n).setCell (.inr (Nat.le_refl _)) _,?_⟩,?_⟩
   ·exact ae HSET
   ·simp[intOf]
theorem zcw (w:World) (base:Nat) (v:Value) (ds:List UInt8) (hown:w.ownsRow base 5 1 v ds.length (ds.map u8v)) (a:Addr) (d:UInt8) (hc:w.cell? a=some (u8v d)) (hl:ds.length<1073741824) (hb:base≤w.heap.size) :
  ∃ v' w',(Builtin.append_ #[152,152] 152 #[v,.slice (some a) 1 1]).run prog w=.ok v' w'∧w'.ownsRow base 5 1 v' (ds++[d]).length ((ds++[d]).map u8v)∧w.grownBy w' v.ownBlock∧(v'.ownBlock=v.ownBlock∨∀ k,v'.ownBlock=some k→w.heap.size≤k):=by
 obtain⟨i0,hi,hz0,hz1,hz2⟩:=info_u8
 have hnews:∀ j u,[u8v d][j]? = some u→w.cell? (a.add j)=some u:=fun j u hj=>by
  cases j with
  | zero=>simp at hj;subst hj;rw[show a.add 0=a from by simp[Addr.add]];exact hc
  | succ j=>simp at hj
 have h1:∀ u ∈ [u8v d],u.oneCell'=true:=fun u hu=>by simp at hu;subst hu;rfl
 have hrun:=fun (base:Nat) (ho:w.ownsRow base 5 1 v ds.length (ds.map u8v)) (hb:base≤w.heap.size)=>run_append_own (P:=prog) w base 152 152 5 i0 (.int .u8 0) 1 1 underlying152 hi hz0 hz1 hz2 rfl (by decide) v ds.length (ds.map u8v) ho a 1 1 [u8v d] rfl hnews h1 (by unfold maxLen;omega) (by omega) hb
 obtain⟨v',w',hr,ho',hg',-⟩:=hrun base hown hb
 refine⟨v',w',hr,by rw[List.length_append,List.map_append];exact ho',hg',?_⟩
 rcases hown.2 with ⟨rfl,-⟩|⟨g,cap,cur,rfl,-,hgc,hnc,hcm,hcs,htake⟩
 ·have hd:ds=[]:=by
   obtain⟨hx,hy|⟨g,cap,cur,e,-⟩⟩:=hown
   ·exact List.eq_nil_of_length_eq_zero hy.2
   ·simp at e
  subst hd
  obtain⟨v2,w2,hr2,ho2,-,-⟩:=hrun w.heap.size (World.ownsRow_nil _ _ _ _) (Nat.le_refl _)
  rw[hr] at hr2
  simp only[Result.ok.injEq] at hr2
  obtain⟨rfl,rfl⟩:=hr2
  exact .inr fun k hk=>(ho2.lt k hk).1
 ·by_cases hroom:ds.length+1≤cap
  ·have h2:=run_append_room (P:=prog) w 152 152 5 i0 underlying152 hi g ds.length cap cur hgc a 1 1 [u8v d] (by rw[hz1];rfl) hnews h1 hroom (by rw[hz1,hcs];simp;omega)
   rw[hr] at h2
   simp only[Result.ok.injEq] at h2
   rw[h2.1]
   exact .inl rfl
  ·have h2:=run_append_grow (P:=prog) w 152 152 5 i0 (.int .u8 0) underlying152 hi hz0 ⟨g,0,none⟩ ds.length cap (ds.map u8v) (by rw[hz1];simp) (hown.cells rfl) a 1 1 [u8v d] (by rw[hz1];rfl) hnews (by omega) (by omega) (growslice_fits (by omega) (by rw[hz2];omega))
   rw[hr] at h2
   simp only[Result.ok.injEq] at h2
   rw[h2.1]
   refine .inr fun k hk=>?_
   simp only[Value.ownBlock,Option.some.injEq] at hk
   omega
def OffB (vb vx:Value):Prop:=∀ k,vb.ownBlock=some k→∀ b off n c,vx=.slice (some ⟨b,off,none⟩) n c→b≠k
theorem OffB.grow {w w':World} {vb vb' vx:Value} {xs:List Nat} {o:Obj} (h:OffB vb vx) (hs:Sl .u64 w vx xs) (h0:0<xs.length) (hg:(w.alloc o).grownBy w' vb.ownBlock) (hb:vb'.ownBlock=vb.ownBlock∨∀ k,vb'.ownBlock=some k→(w.alloc o).heap.size≤k):Sl .u64 w' vx xs∧OffB vb' vx:=by
 constructor
 ·have h1:=hs.ah ((But.refl [] w).alloc o)
  cases hr:vb.ownBlock with
  | none=>rw[hr] at hg;exact h1.ah (ui hg)
  | some g=>rw[hr] at hg;exact h1.but (zgo hg) (fun b off cap n e=>by have:=h g hr b off n cap e;simp;omega)
 ·intro k hk b off n c e
  rcases hb with hb | hb
  ·rw[hb] at hk;exact h k hk b off n c e
  ·have h1:=hb k hk
   have h2:=hs.lt h0 b off n c e
   simp at h1
   omega
theorem row_news {w:World} {g:Nat} {es:List UInt8} (h:Row .u8 w g (es.map UInt8.toNat)):∀ j u,(es.map u8v)[j]? = some u→w.cell? ((⟨g,0,none⟩:Addr).add j)=some u:=fun j u hj=>by
 rw[List.getElem?_map] at hj
 rcases Nat.lt_or_ge j es.length with hl | hl
 ·rw[List.getElem?_eq_getElem hl] at hj
  simp only[Option.map_some,Option.some.injEq] at hj
  have h1:=(h j (by rw[List.length_map];exact hl)).1
  rw[List.getElem?_map,List.getElem?_eq_getElem hl] at h1
  have e:(⟨g,0,none⟩:Addr).add j=⟨g,j,none⟩:=by by_cases h:j=0 <;> simp[Addr.add,h]
  rw[e,h1,← hj]
  rfl
 ·rw[List.getElem?_eq_none hl] at hj
  simp at hj
theorem ten19_lt {q:Nat} (h:1<(wd 18446744073709551616 q).length):10000000000000000000≤q:=by
 rcases Nat.lt_or_ge q 18446744073709551616 with h1 | h1
 ·have:=aj (B:=18446744073709551616) (by omega) q 1 (by rw[Nat.pow_one];exact h1)
  omega
 ·omega
def jq (W X:Nat):List UInt8:=yg X++List.replicate (W-(yg X).length) 48
theorem wdig_zero (X:Nat):jq 0 X=yg X:=by simp[jq]
theorem pdig_nought:∀ k,fw k 0=List.replicate k 48
 | 0=>rfl
 | k+1=>by rw[fw,Nat.zero_div,pdig_nought k,List.replicate_succ];rfl
theorem zdf:∀ k n,n<10^k→fw k n=jq k n
 | 0,n,h=>by
  have:n=0:=by simp at h;omega
  subst this;simp[fw,jq,o9]
 | k+1,n,h=>by
  by_cases h0:0<n
  ·rw[fw,zdf k (n/10) (by rw[Nat.div_lt_iff_lt_mul (by omega)];rw[Nat.pow_succ] at h;exact h),jq,jq,ug h0,List.cons_append,List.length_cons,Nat.add_sub_add_right]
  ·have:n=0:=by omega
   subst this;rw[pdig_nought,jq,o9];simp
theorem pdig_add:∀ a b n,fw (a+b) n=fw a n++fw b (n/10^a)
 | 0,b,n=>by simp[fw]
 | a+1,b,n=>by
  rw[Nat.succ_add,fw,pdig_add a b,fw,List.cons_append,Nat.div_div_eq_div_mul,Nat.pow_succ,Nat.mul_comm 10]
theorem wdig_long (D X:Nat) (h:10^D≤X):jq 0 X=jq D (X%10^D)++jq 0 (X/10^D):=by
 rw[wdig_zero,wdig_zero,rdig_part D X h,← pdig_mod D X,zdf D _ (Nat.mod_lt _ (Nat.pow_pos (by omega)))]
theorem wdig_wide (D X:Nat) (h:X<10^(D+D)):jq (D+D) X=jq D (X%10^D)++jq D (X/10^D):=by
 have hp:0<10^D:=Nat.pow_pos (by omega)
 rw[← zdf _ _ h,pdig_add,← pdig_mod D X,zdf D _ (Nat.mod_lt _ hp),zdf D (X/10^D) (by rw[Nat.div_lt_iff_lt_mul hp,← Nat.pow_add];exact h)]
theorem zch (W X:Nat):(jq W X).length=max W (yg X).length:=by
 rw[jq,List.length_append,List.length_replicate];omega
theorem wdig_pos (W X:Nat) (h:0<X∨0<W):0<(jq W X).length:=by
 rw[zch]
 rcases h with h | h
 ·rw[ug h];simp;omega
 ·omega
def yu (w w':World):Prop:=∀ v xs,Sl .u64 w v xs→Sl .u64 w' v xs
theorem yu.of_but {w w':World} (h:But [] w w'):yu w w':=fun _ _ hs=>hs.ah h
theorem yu.trans {a b c:World} (h:yu a b) (k:yu b c):yu a c:=fun v xs hs=>k v xs (h v xs hs)
theorem keep_grown {w w':World} {base:Nat} {vo:Value} {ods:List UInt8} (ho:w.ownsRow base 5 1 vo ods.length (ods.map u8v)) (hn:vo=.slice none 0 0∨0<ods.length) (hg:w.grownBy w' vo.ownBlock):yu w w':=by
 intro v xs hs
 rcases hn with rfl | h0
 ·exact hs.ah (ui hg)
 ·obtain⟨g,cap,rfl,-,-,hr⟩:=zdg ho h0
  exact hs.over (zgo hg) (hr 0 (by simpa using h0)).1 (by simp)
theorem below_grown {w w':World} {base:Nat} {vo:Value} {n:Nat} {xs:List Value} (ho:w.ownsRow base 5 1 vo n xs) (hb:base≤w.heap.size) (hg:w.grownBy w' vo.ownBlock):Below base w w' :=
 ⟨hg.os,hg.tape,hg.output,hg.size,fun k hk=>hg.block k (by omega) (fun e=>by have:=(ho.lt k e.symm).1;omega)⟩
theorem But.zds {w w':World} {base:Nat} (h:But [] w w') (hb:base≤w.heap.size):Below base w w':=⟨h.os,h.tape,h.output,h.size,fun k hk=>h.block k (by omega) (by simp)⟩
theorem j6 {a b c:World} {n:Nat} (h:Below n a b) (k:Below n b c):Below n a c :=
 ⟨k.os.trans h.os,k.tape.trans h.tape,k.output.trans h.output,Nat.le_trans h.size k.size,fun i hi=>(k.block i hi).trans (h.block i hi)⟩
theorem ig {w:World} {base:Nat} {e:TypeId} {v:Value} {n:Nat} {xs:List Value} (h:w.ownsRow base e 1 v n xs):∃ a c,v=.slice a n c:=by
 obtain⟨-,h2⟩:=h
 rcases h2 with ⟨rfl,rfl⟩|⟨g,cap,cur,e1,-⟩
 ·exact⟨_,_,rfl⟩
 ·exact⟨_,_,e1⟩
def zy (j:Nat):Nat:=10^(608*2^j)
theorem tenP_zero:zy 0=10^608:=by unfold zy;rw[Nat.pow_zero,Nat.mul_one]
theorem zgb (j:Nat):zy (j+1)=zy j*zy j:=by
 unfold zy
 rw[← Nat.pow_add,Nat.pow_succ,← Nat.mul_two,Nat.mul_assoc]
theorem tenP_pos (j:Nat):0<zy j:=Nat.pow_pos (by omega)
theorem tenP_gt (j:Nat):j<zy j:=by
 unfold zy
 have h1:j<2^j:=Nat.lt_two_pow_self
 have h2:608*2^j<10^(608*2^j):=Nat.lt_pow_self (by omega)
 omega
theorem tenP_below (X j n:Nat) (hl:(wd 18446744073709551616 X).length≤n) (h:zy j≤X):1824*2^j<64*n:=by
 have h1:X < 18446744073709551616^n:=ak (by omega) X _ hl
 have h2:(2:Nat)^(1824*2^j)≤zy j:=by
  unfold zy
  have e:(2:Nat)^(1824*2^j)=(2^3)^(608*2^j):=by rw[← Nat.pow_mul,← Nat.mul_assoc]
  rw[e]
  exact Nat.pow_le_pow_left (by omega) _
 have h3:(18446744073709551616:Nat)^n=2^(64*n):=by rw[Nat.pow_mul]
 rw[h3] at h1
 have h4:(2:Nat)^(1824*2^j)<2^(64*n):=Nat.lt_of_le_of_lt h2 (Nat.lt_of_le_of_lt h h1)
 exact (Nat.pow_lt_pow_iff_right (by omega:1<2)).1 h4
theorem info_nat:∃ i,prog.info? 92 = some i∧i.zero=some (.slice none 0 0)∧i.size=1∧i.bytes=24:=by
 have h:(prog.info? 92).map (fun i=>(i.zero,i.size,i.bytes))=some (some (.slice none 0 0),1,24):=by kernel_rfl
 obtain⟨i,hi,he⟩:=Option.map_eq_some_iff.1 h
 simp only[Prod.mk.injEq] at he
 exact⟨i,hi,he.1,he.2.1,he.2.2⟩
theorem keep_grown_of {w w':World} {base:Nat} {e:TypeId} {vo:Value} {n:Nat} {xs:List Value} (ho:w.ownsRow base e 1 vo n xs) (hn:vo=.slice none 0 0∨∃ u,xs[0]? = some u∧∀ m:Int,u≠.int .u64 m) (hg:w.grownBy w' vo.ownBlock):yu w w':=by
 intro v ws hs
 cases hb:vo.ownBlock with
 | none=>rw[hb] at hg;exact hs.ah (ui hg)
 | some g =>
  rw[hb] at hg
  rcases hn with rfl|⟨u,hu,hne⟩
  ·simp[Value.ownBlock] at hb
  ·have hc:=ho.cells hb 0 u hu
   rw[show (⟨g,0,none⟩:Addr).add 0=⟨g,0,none⟩ from by simp[Addr.add]] at hc
   exact hs.over (zgo hg) hc hne
structure zcx (w:World) (X:Nat) (us:List Value) (vo vp:Value) (wr:World):Prop where
 own:wr.ownsRow w.heap.size 92 1 vo us.length us
 all:∀ j u,us[j]? = some u→Sl .u64 wr u (wd 18446744073709551616 (zy j))
 pow:Sl .u64 wr vp (wd 18446744073709551616 (zy us.length))
 but:But [] w wr
 low:∀ j,j<us.length→zy j≤X
 nil:vo=.slice none 0 0∨0<us.length
theorem zcx.le {w:World} {X:Nat} {us:List Value} {vo vp:Value} {wr:World} (h:zcx w X us vo vp wr):us.length≤X:=by
 rcases Nat.eq_zero_or_pos us.length with h0 | h0
 ·omega
 ·have h1:=h.low (us.length-1) (by omega)
  have h2:=tenP_gt (us.length-1)
  omega
theorem zcx.first {w:World} {X:Nat} {us:List Value} {vo vp:Value} {wr:World} (h:zcx w X us vo vp wr):vo=.slice none 0 0∨∃ u,us[0]? = some u∧∀ m:Int,u≠.int .u64 m:=by
 rcases h.nil with h0 | h0
 ·exact .inl h0
 ·refine .inr ⟨us[0],List.getElem?_eq_getElem h0,fun m e=>?_⟩
  have:=h.all 0 us[0] (List.getElem?_eq_getElem h0)
  rw[e] at this
  obtain⟨a,c,h1,-⟩:=this
  simp at h1
theorem zcx.drewN {w:World} {X:Nat} {us:List Value} {vo vp:Value} {wr:World} (h:zcx w X us vo vp wr) (q:Nat):zcx w X us vo vp (wr.drewN q) :=
 ⟨zau h.own ((But.refl [] _).drewN q),fun j u hj=>(h.all j u hj).ah ((But.refl [] _).drewN q),h.pow.ah ((But.refl [] _).drewN q),h.but.drewN q,h.low,h.nil⟩
theorem zcx.plen {w:World} {X:Nat} {us:List Value} {vo vp:Value} {wr:World} (h:zcx w X us vo vp wr):(wd 18446744073709551616 (zy us.length)).length≤(wd 18446744073709551616 X).length+(wd 18446744073709551616 X).length+33:=by
 rcases Nat.eq_zero_or_pos us.length with h0 | h0
 ·rw[h0,tenP_zero]
  have:=aj (B:=18446744073709551616) (by omega) _ _ ten608
  omega
 ·obtain⟨j,hj⟩:∃ j,us.length=j+1:=⟨us.length-1,by omega⟩
  have h1:=aq (h.low j (by omega))
  have h2:=qz (zy j) (zy j)
  rw[hj,zgb]
  omega
theorem zcx.more {w:World} {X:Nat} {us:List Value} {vo vp:Value} {wr:World} (h:zcx w X us vo vp wr) (hle:zy us.length≤X) (hul:us.length<35088) (W:World) (hW:W=wr.alloc (.cells #[vp] 92)) :
  ∃ v3 w3,(Builtin.append_ #[154,154] 154 #[vo,.slice (some ⟨wr.heap.size,0,none⟩) 1 1]).run prog W=.ok v3 w3∧w3.ownsRow w.heap.size 92 1 v3 (us++[vp]).length (us++[vp])∧(∀ j u,(us++[vp])[j]? = some u→Sl .u64 w3 u (wd 18446744073709551616 (zy j)))∧Sl .u64 w3 vp (wd 18446744073709551616 (zy us.length))∧But [] w w3∧(∀ j,j<(us++[vp]).length→zy j≤X)∧yu wr w3:=by
 obtain⟨i0,hi,hz0,hz1,hz2⟩:=info_nat
 subst hW
 have hp1:vp.oneCell'=true:=by
  obtain⟨a,c,rfl,-⟩:=h.pow
  rfl
 have hc:(wr.alloc (.cells #[vp] 92)).cell? ⟨wr.heap.size,0,none⟩=some vp:=by simp
 have hbs:=h.but.size
 obtain⟨v3,w3,hr,ho,hg,-⟩:=run_append_own (P:=prog) (wr.alloc (.cells #[vp] 92)) w.heap.size 154 154 92 i0 (.slice none 0 0) 1 24 underlying154 hi hz0 hz1 hz2 rfl (by decide) vo us.length us (h.own.alloc _) ⟨wr.heap.size,0,none⟩ 1 1 [vp] rfl (fun j u hj=>by
  cases j with
  | zero=>simp at hj;subst hj;rw[show (⟨wr.heap.size,0,none⟩:Addr).add 0=⟨wr.heap.size,0,none⟩ from by simp[Addr.add]];exact hc
  | succ j=>simp at hj) (fun u hu=>by simp at hu;subst hu;exact hp1) (by unfold maxLen;omega) (by omega) (by simp;omega)
 have hK:yu wr w3:=(yu.of_but ((But.refl [] wr).alloc _)).trans (keep_grown_of (h.own.alloc _) h.first hg)
 refine⟨v3,w3,hr,by rw[List.length_append];exact ho,fun j u hj=>?_,hK _ _ h.pow,(h.but.alloc _).grown hg (fun k hk=>(h.own.lt k hk).1),fun j hj=>?_,hK⟩
 ·rcases Nat.lt_or_ge j us.length with hl | hl
  ·rw[List.getElem?_append_left hl] at hj
   exact hK _ _ (h.all j u hj)
  ·have he:j=us.length:=by
    have:=(List.getElem?_eq_some_iff.1 hj).1
    simp at this
    omega
   subst he
   simp at hj
   subst hj
   exact hK _ _ h.pow
 ·simp at hj
  rcases Nat.lt_or_ge j us.length with hl | hl
  ·exact h.low j hl
  ·rw[show j=us.length from by omega];exact hle
theorem powersFor_any (v:Value) (X:Nat) (w:World) (hv:Sl .u64 w v (wd 18446744073709551616 X)) (hl:(wd 18446744073709551616 X).length≤1000000) :
  Calls prog 92 #[v] w fun e w'=>∃ vo us,e=.returned vo∧w'.ownsRow w.heap.size 92 1 vo us.length us∧(∀ j u,us[j]? = some u→Sl .u64 w' u (wd 18446744073709551616 (zy j)))∧But [] w w'∧(∀ j,j<us.length→zy j≤X)∧X<zy us.length:=by
 have h10:(wd 18446744073709551616 (10^608)).length≤33:=aj (by omega) _ _ ten608
 have h1:(wd 18446744073709551616 10).length≤1:=aj (by omega) _ _ (by omega)
 have PW:Hid (∀ (v1:Value) (W:World),Sl .u64 W v1 (wd 18446744073709551616 10)→Calls prog 143 #[v1,.int .i64 608] W fun e w'=>∃ v',e=.returned v'∧Sl .u64 w' v' (wd 18446744073709551616 (zy 0))∧But [] W w'):=fun v1 W h=>by
  rw[tenP_zero]
  exact natPow_any v1 10 608 W h (by omega) (by omega) (Nat.lt_of_le_of_lt (Nat.add_le_add h1 h10) (by omega))
 have HV:=af hv
 have HLX:=af hl
 clear hv h10 h1 hl
 obtain⟨xa,xc,rfl,-,-⟩:=ae HV
 generalize hnx:(wd 18446744073709551616 X).length=nx at *
 have NX:=af hnx
 clear hnx
 go_enter func92,ntmps92
 go_wp2_with fail
 refine (pq 10 (by omega) _).mono ?_
 rintro e w1 ⟨v1,rfl,hv1,hb1,-⟩
 have H1:=af hv1
 have B1:=af hb1
 clear hv1 hb1
 go_wp2_with fail
 refine (ae PW v1 _ (ae H1)).mono ?_
 rintro e w2 ⟨v2,rfl,hv2,hb2⟩
 have A0:Hid (∃ us,zcx w X us (.slice none 0 0) v2 w2∧X+1+us.length=X+1 ):=⟨[],⟨World.ownsRow_nil _ _ _ _,fun j u h=>by simp at h,hv2,(ae B1).trans' hb2,fun j h=>by simp at h,.inl rfl⟩,by simp⟩
 clear hv2 hb2 B1 H1 PW
 go_wp2_with fail
 go_loopg [3,4] (X+1) (fun k vo vp wr=>Hid (∃ us,zcx w X us vo vp wr∧k+us.length=X+1))
 case atStart=>exact A0
 case round =>
  clear A0
  obtain⟨us,hI,hk⟩:=ae hrel
  clear hrel
  rename World=>wr
  obtain⟨oa,oc,hoe⟩:=ig hI.own
  have hpl:=hI.plen
  rw[ae NX] at hpl
  have hlx:=ae HLX
  have CM:=af (vw _ _ (zy us.length) X wr hI.pow ((ae HV).ah hI.but) (by omega) (by rw[ae NX];omega))
  obtain⟨pa,pc,hpe,-,-⟩:=id hI.pow
  rcases Nat.lt_or_ge X (zy us.length) with hlt | hge
  ·have hc:zu (zy us.length) X=1:=by
    rcases zcc (zy us.length) X with ⟨h,-⟩|⟨h,-⟩|⟨-,h⟩
    ·omega
    ·omega
    ·exact h
   rw[hc] at CM
   have FIN:=af (And.intro hI (And.intro hlt hoe))
   subst hoe hpe
   clear hI hpl hlt hc hk
   generalize (wd 18446744073709551616 (zy us.length)).length=np at *
   go_wp2_with fail
   refine (ae CM).mono ?_
   rintro e w3 ⟨rfl,q,rfl⟩
   go_wp2
   go_ret
   exact⟨_,us,rfl,(ae FIN).1.own,(ae FIN).1.all,(ae FIN).1.but.drewN q,(ae FIN).1.low,(ae FIN).2.1⟩
  ·have hc:zu (zy us.length) X≤0:=by
    rcases zcc (zy us.length) X with ⟨-,h⟩|⟨-,h⟩|⟨h,-⟩
    ·omega
    ·omega
    ·omega
   generalize zu (zy us.length) X=r at *
   have hr:decide (r≤0)=true:=by simp;omega
   have hL:us.length≤X:=hI.le
   have h35:=tenP_below X us.length nx (by rw[ae NX];exact Nat.le_refl _) hge
   have hul:us.length<35088:=Nat.lt_trans Nat.lt_two_pow_self (by omega)
   have HI:=af hI
   have HR:=af (And.intro hk (And.intro hL hge))
   obtain⟨np,hnp⟩:∃ np,np=(wd 18446744073709551616 (zy us.length)).length:=⟨_,rfl⟩
   have NP:=af hnp
   rw[← hnp] at hpe hpl
   have hnp0:0<np:=by
    rw[hnp,Nat.pos_iff_ne_zero];intro e;rw[zo (by omega)] at e
    have:=tenP_pos us.length
    omega
   have MO:=af (fun q=>(hI.drewN q).more hge hul _ rfl)
   have MU:=af (fun W (h:Sl .u64 W u4 (wd 18446744073709551616 (zy us.length)))=>jl u4 u4 _ _ W h h (by rw[← hnp];omega))
   rw[← zgb] at MU
   clear hI hk hL hge h35 hnp hc
   have SH:=af hoe
   generalize us.length=L at hoe hul
   subst hoe hpe
   have hmul:wrap64 (2*(np:Int))=2*(np:Int):=by unfold wrap64;omega
   go_wp2_with fail
   refine (ae CM).mono ?_
   rintro e w3 ⟨rfl,q,rfl⟩
   obtain⟨v3,w3,hr3,ho3,ha3,hs3,hb3,hl3,hk3⟩:=ae MO q
   have HR3:=af hr3
   have AL:=af (And.intro ho3 (And.intro ha3 (And.intro hs3 (And.intro hb3 hl3))))
   clear hr3 ho3 ha3 hs3 hb3 hl3 hk3 MO
   by_cases hbr:nx<2*np-1
   ·have hbi:(nx:Int)<2*(np:Int)-1:=by omega
    have FIN:Hid (X<zy (us++[Value.slice pa np pc]).length):=by
     have h1:X < 18446744073709551616^nx:=ak (by omega) X _ (Nat.le_of_eq (ae NX))
     have h2:18446744073709551616^(np-1)≤zy us.length:=by
      rcases Nat.lt_or_ge (zy us.length) (18446744073709551616^(np-1)) with h | h
      ·have:=aj (B:=18446744073709551616) (by omega) _ _ h
       rw[← ae NP] at this
       omega
      ·exact h
     show _<_
     rw[List.length_append,List.length_singleton,zgb]
     refine Nat.lt_of_lt_of_le h1 (Nat.le_trans ?_ (Nat.mul_le_mul h2 h2))
     rw[← Nat.pow_add]
     exact Nat.pow_le_pow_right (by omega) (by omega)
    clear HI MU CM HR NP SH
    go_wp2_with (at_builtin;refine xg rfl _ _ 154 154 rfl _ _ v3 w3 rfl rfl (ae HR3) ?_)
    go_ret
    exact⟨v3,_,rfl,(ae AL).1,(ae AL).2.1,(ae AL).2.2.2.1,(ae AL).2.2.2.2,ae FIN⟩
   ·have hbi:¬ ((nx:Int)<2*(np:Int)-1):=by omega
    clear CM
    go_wp2_with (at_builtin;refine xg rfl _ _ 154 154 rfl _ _ v3 w3 rfl rfl (ae HR3) ?_)
    go_wp2_with fail
    refine (ae MU _ (ae AL).2.2.1).mono ?_
    rintro e w4 ⟨v4,rfl,hv4,hb4,-⟩
    have R:Hid (∃ us',zcx w X us' v3 v4 w4∧gk-1+us'.length=X+1):=by
     refine⟨_,⟨zau (ae AL).1 hb4,fun j u hj=>((ae AL).2.1 j u hj).ah hb4,?_,(ae AL).2.2.2.1.trans' hb4,(ae AL).2.2.2.2,.inr (by simp)⟩,?_⟩
     ·rw[List.length_append,List.length_singleton];exact hv4
     ·have:=ae HR
      rw[List.length_append,List.length_singleton]
      omega
    have GK:Hid (0<gk):=by have:=ae HR;show _<_;omega
    clear hv4 hb4 AL HI HR MU NP
    go_wp2
    go_roundg (gk-1)
    case measure=>have:=ae GK;omega
    case rel=>exact ae R
end Go.Proofs.YtffghofheeleeaaGreatDoor
