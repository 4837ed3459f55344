/- Decimal digits and rows of bytes, plain. -/
import Derived.Test.YtollloafckcogaaGreatDoorProg
import Derived.Deep.LoopGhost
import Derived.Lib.ItoaNum
import Derived.Laws.IdiomStrings
import Derived.OwnWalk
import Derived.WalkSpells
import Derived.WalkKit
import Derived.Deep.QuietTactic
import Derived.BigQuiet
import Derived.Shelf.Strconv.Itoa1
import Derived.Shelf.LaysM
import Derived.Shelf.Strconv.Itoa2
import Derived.Shelf.Small.Bits
import Derived.Laws.Bits64b
import Derived.Deep.RegionHeld
import Derived.Laws.OwnMore
import Derived.Test.YtollloafckcogaaGreatDoorKYN17a
import Derived.Test.YtollloafckcogaaGreatDoorKYN17b
import Derived.Test.YtollloafckcogaaGreatDoorKYN31
namespace Go.Proofs.YtollloafckcogaaGreatDoor
open Go.RowKit
theorem But.grown {a w w':World} {row:Option Nat} (h:But [] a w) (hg:w.grownBy w' row) (hr:∀ k,row=some k→a.heap.size≤k):But [] a w' :=
 ⟨hg.os.trans h.os,hg.tape.trans h.tape,hg.output.trans h.output,Nat.le_trans h.size hg.size,fun k hk hn=>by
  rw [hg.block k (Nat.lt_of_lt_of_le hk h.size) (fun e=>by have:=hr k e.symm;omega)]
  exact h.block k hk hn⟩
theorem grown_but {w w':World} {g:Nat} (hg:w.grownBy w' (some g)):But [g] w w' :=
 ⟨hg.os,hg.tape,hg.output,hg.size,fun k hk hn=>hg.block k hk (fun e=>hn (by simp only [Option.some.injEq] at e;simp [e]))⟩
theorem grown_but_none {w w':World} (hg:w.grownBy w' none):But [] w w' :=
 ⟨hg.os,hg.tape,hg.output,hg.size,fun k hk _=>hg.block k hk (by simp)⟩
theorem owns_but {w w':World} {base:Nat} {e:TypeId} {size:Nat} {v:Value} {n:Nat} {xs:List Value} (h:w.ownsRow base e size v n xs) (hb:But [] w w'):w'.ownsRow base e size v n xs:=by
 obtain ⟨h1,h2⟩:=h
 refine ⟨h1,?_⟩
 rcases h2 with h2 | ⟨g,cap,cur,e1,e2,e3,e4⟩
 ·exact .inl h2
 ·refine .inr ⟨g,cap,cur,e1,e2,?_,e4⟩
  have hlt:g<w.heap.size:=by
   rcases Nat.lt_or_ge g w.heap.size with h | h
   ·exact h
   ·rw [Array.getElem?_eq_none h] at e3;cases e3
  rw [hb.block g hlt (by simp)];exact e3
def u8v (b:UInt8):Value:=.int .u8 (b.toNat:Int)
def rdig (n:Nat):List UInt8:=if h:0<n then UInt8.ofNat (48+n%10)::rdig (n/10) else []
 termination_by n
 decreasing_by exact Nat.div_lt_self h (by omega)
theorem rdig_zero:rdig 0=[]:=by rw [rdig];simp
theorem rdig_pos {n:Nat} (h:0<n):rdig n=UInt8.ofNat (48+n%10)::rdig (n/10):=by rw [rdig,dif_pos h]
theorem rdig_rev (n:Nat) (h:0<n):(rdig n).reverse=Lib.decDigits n:=by
 induction n using Nat.strongRecOn with
 | _ n ih =>
  rw [rdig_pos h,List.reverse_cons,Lib.decDigits]
  by_cases h10:n<10
  ·rw [dif_pos h10,Nat.div_eq_of_lt h10,rdig_zero,Nat.mod_eq_of_lt h10];rfl
  ·rw [dif_neg h10,ih (n/10) (Nat.div_lt_self h (by omega)) (by omega)]
theorem rdig_length (n k:Nat) (h:n<10^k):(rdig n).length≤k:=by
 induction k generalizing n with
 | zero =>
  have:n=0:=by simp at h;omega
  subst this;simp [rdig_zero]
 | succ k ih =>
  by_cases hn:0<n
  ·rw [rdig_pos hn,List.length_cons]
   have:=ih (n/10) (by rw [Nat.div_lt_iff_lt_mul (by omega)];rw [Nat.pow_succ] at h;exact h)
   omega
  ·have:n=0:=by omega
   subst this;simp [rdig_zero]
theorem info_u8:∃ i,Tryz.prog.info? 5 = some i∧i.zero=some (.int .u8 0)∧i.size=1∧i.bytes=1:=by
 have h:(Tryz.prog.info? 5).map (fun i=>(i.zero,i.size,i.bytes))=some (some (.int .u8 0),1,1):=by kernel_rfl
 obtain ⟨i,hi,he⟩:=Option.map_eq_some_iff.1 h
 simp only [Prod.mk.injEq] at he
 exact ⟨i,hi,he.1,he.2.1,he.2.2⟩
structure RevInv (bs cs:List Nat) (i:Nat):Prop where
 len:cs.length=bs.length
 at':∀ k,k<bs.length→cs[k]?.getD 0=if k<i∨bs.length-i≤k then bs[bs.length-1-k]?.getD 0 else bs[k]?.getD 0
theorem RevInv.start (bs:List Nat):RevInv bs bs 0:=⟨rfl,fun k hk=>by rw [if_neg (by omega)]⟩
theorem getD_set (l:List Nat) (i k x:Nat) (hi:i<l.length):(l.set i x)[k]?.getD 0=if k=i then x else l[k]?.getD 0:=by
 by_cases h:k=i
 ·subst h;rw [List.getElem?_set_self hi,if_pos rfl];rfl
 ·rw [List.getElem?_set_ne (Ne.symm h),if_neg h]
theorem RevInv.step {bs cs:List Nat} {i:Nat} (h:RevInv bs cs i) (hij:i<bs.length-1-i):RevInv bs ((cs.set i (cs[bs.length-1-i]?.getD 0)).set (bs.length-1-i) (cs[i]?.getD 0)) (i+1):=by
 have hl:=h.len
 refine ⟨by simp [hl],fun k hk=>?_⟩
 have e1:cs[i]?.getD 0=bs[i]?.getD 0:=by rw [h.at' i (by omega),if_neg (by omega)]
 have e2:cs[bs.length-1-i]?.getD 0=bs[bs.length-1-i]?.getD 0:=by rw [h.at' (bs.length-1-i) (by omega),if_neg (by omega)]
 rw [getD_set _ _ _ _ (by simp [hl];omega),getD_set _ _ _ _ (by omega),e1,e2]
 by_cases h1:k=bs.length-1-i
 ·subst h1
  rw [if_pos rfl,if_pos (by omega),show bs.length-1-(bs.length-1-i)=i from by omega]
 ·rw [if_neg h1]
  by_cases h2:k=i
  ·subst h2
   rw [if_pos rfl,if_pos (by omega)]
  ·rw [if_neg h2,h.at' k hk]
   by_cases h3:k<i∨bs.length-i≤k
   ·rw [if_pos h3,if_pos (by omega)]
   ·rw [if_neg h3,if_neg (by omega)]
theorem RevInv.fin {bs cs:List Nat} {i:Nat} (h:RevInv bs cs i) (hij:bs.length≤2*i+1):cs=bs.reverse:=by
 refine List.ext_getElem (by simp [h.len]) fun k h1 h2=>?_
 have hk:k<bs.length:=by rw [← h.len];exact h1
 have e:=h.at' k hk
 rw [List.getElem?_eq_getElem h1,Option.getD_some] at e
 rw [e,List.getElem_reverse]
 by_cases h3:k<i∨bs.length-i≤k
 ·rw [if_pos h3,List.getElem?_eq_getElem (by omega)];rfl
 ·rw [if_neg h3,List.getElem?_eq_getElem hk,Option.getD_some]
  have:bs.length-1-k=k:=by omega
  simp only [this]
theorem owns_row {w:World} {base:Nat} {e:TypeId} {v:Value} {bs:List UInt8} (h:w.ownsRow base e 1 v bs.length (bs.map u8v)) (h0:0<bs.length) :
  ∃ g cap,v=.slice (some ⟨g,0,none⟩) bs.length cap∧base≤g∧bs.length≤cap∧Row .u8 w g (bs.map UInt8.toNat):=by
 obtain ⟨h1,h2⟩:=h
 rcases h2 with ⟨-,h2⟩ | ⟨g,cap,cur,e1,e2,e3,e4,e5,e6,e7⟩
 ·omega
 ·refine ⟨g,cap,e1,e2,e4,fun i hi=>?_⟩
  rw [List.length_map] at hi
  have hc:cur[i]? = some (u8v bs[i]):=by
   have:(cur.toList.take (bs.length*1))[i]? = some (u8v bs[i]):=by rw [e7,List.getElem?_map,List.getElem?_eq_getElem hi];rfl
   rw [List.getElem?_take_of_lt (by omega)] at this
   simpa using this
  refine ⟨?_,by simp [World.frozen?,e3]⟩
  simp only [World.cell?,e3,hc]
  simp [u8v,hi]
theorem sl_grown {k:IntKind} {w2 w3:World} {v:Value} {xs:List Nat} {o:Obj} {row:Option Nat} {B:Nat} (h:Sl k w2 v xs) (hg:(w2.alloc o).grownBy w3 row) (hr:∀ k,row=some k→k<B) (hf:Fresh B v):Sl k w3 v xs:=by
 have h1:=h.but_nil ((But.refl [] w2).alloc o)
 cases row with
 | none=>exact h1.but_nil (grown_but_none hg)
 | some g=>exact h1.but (grown_but hg) (fun b off cap n e=>by have:=hf b off n cap e;have:=hr g rfl;simp;omega)
theorem u8v_digit (r:Nat) (h:r<10):Value.int .u8 (48+(r:Int))=u8v (UInt8.ofNat (48+r)):=by
 unfold u8v
 rw [UInt8.toNat_ofNat_of_lt' (by simp [UInt8.size];omega)]
 simp
def pdig:Nat→Nat→List UInt8
 | 0,_=>[]
 | k+1,r=>UInt8.ofNat (48+r%10)::pdig k (r/10)
theorem pdig_length:∀ k r,(pdig k r).length=k
 | 0,_=>rfl
 | k+1,r=>by rw [pdig,List.length_cons,pdig_length k]
theorem pdig_snoc:∀ k r,pdig (k+1) r=pdig k r++[UInt8.ofNat (48+r/10^k%10)]
 | 0,r=>by simp [pdig]
 | k+1,r=>by
  rw [pdig,pdig_snoc k (r/10),pdig,List.cons_append,Nat.div_div_eq_div_mul,Nat.pow_succ,Nat.mul_comm 10]
theorem pdig_mod:∀ k r,pdig k (r%10^k)=pdig k r
 | 0,r=>rfl
 | k+1,r=>by
  have h1:r%10^(k+1)%10=r%10:=Nat.mod_mod_of_dvd _ ⟨10^k,by rw [Nat.pow_succ,Nat.mul_comm]⟩
  have h2:r%10^(k+1)/10=r/10%10^k:=by rw [Nat.pow_succ,Nat.mul_comm,Nat.mod_mul_right_div_self]
  rw [pdig,pdig,h1,h2,pdig_mod k]
theorem rdig_part:∀ k n,10^k≤n→rdig n=pdig k n++rdig (n/10^k)
 | 0,n,_=>by simp [pdig]
 | k+1,n,h=>by
  have hp:0<10^k:=Nat.pow_pos (by omega)
  have h0:0<n:=by have:=Nat.pow_pos (n:=k+1) (show 0<10 from by omega);omega
  rw [rdig_pos h0,rdig_part k (n/10) (by rw [Nat.le_div_iff_mul_le (by omega),← Nat.pow_succ];exact h),pdig,List.cons_append,Nat.div_div_eq_div_mul,Nat.pow_succ,Nat.mul_comm 10]
end Go.Proofs.YtollloafckcogaaGreatDoor

namespace Go.Proofs.YtollloafckcogaaGreatDoor
open Go.RowKit
set_option maxHeartbeats 400000
theorem gcdWords_any (x y:Nat) (w:World) (hx:x<18446744073709551616) (hy:y<18446744073709551616) :
  Calls Tryz.prog 73 #[.int .u64 x,.int .u64 y] w fun e w'=>e=.returned (.int .u64 (Nat.gcd x y:Nat))∧∃ n,w'=w.drewN n:=by
 go_enter Tryz.func73,Tryz.ntmps73
 go_wp2
 go_loopw [0,1] (fun a b w'=>∃ p q:Nat,a=.int .u64 p∧b=.int .u64 q∧p<18446744073709551616∧q<18446744073709551616∧Hid (Nat.gcd p q=Nat.gcd x y)∧∃ n,w'=w.drewN n) (fun _ b _=>(intOf b).toNat)
 case atStart=>exact ⟨x,y,rfl,rfl,hx,hy,(rfl:Nat.gcd x y=Nat.gcd x y),0,rfl⟩
 case round =>
  obtain ⟨p,q,rfl,rfl,hp,hq,hg,n,rfl⟩:=hrel
  by_cases h0:q=0
  ·subst h0
   go_wp2
   go_ret
   exact ⟨by rw [← hg.out];simp,n,rfl⟩
  ·have hb:((q:Int)==0)=false:=by simp;exact h0
   have hn:((q:Int) != 0)=true:=by simp;exact h0
   go_wp2
   go_quiet (fail)
   go_roundw
   case rel =>
    refine ⟨_,_,_,_,_,_,_,_,⟨q,p%q,rfl,?_,hq,?_,?_,n+nq,?_⟩,rfl⟩
    ·rw [Int.natCast_emod]
    ·exact Nat.lt_trans (Nat.mod_lt _ (Nat.pos_of_ne_zero h0)) hq
    ·show Nat.gcd q (p%q)=Nat.gcd x y
     rw [← hg.out,Nat.gcd_comm p q,Nat.gcd_rec q p,Nat.gcd_comm]
    ·exact World.drewN_drewN _ _ _
   case measure =>
    simp [intOf]
    have:=Nat.mod_lt p (Nat.pos_of_ne_zero h0)
    omega
end Go.Proofs.YtollloafckcogaaGreatDoor

namespace Go.Proofs.YtollloafckcogaaGreatDoor
open Go.RowKit
set_option maxHeartbeats 4000000
set_option maxRecDepth 100000
theorem two_top (X m:Nat) (h:(wd 18446744073709551616 X).length=m+2):X=vl 18446744073709551616 ((wd 18446744073709551616 X).take m) + 18446744073709551616^m*((wd 18446744073709551616 X)[m]?.getD 0 + 18446744073709551616*(wd 18446744073709551616 X)[m+1]?.getD 0):=by
 have e:=vl_split 18446744073709551616 (wd 18446744073709551616 X) m (by omega)
 rw [drop_one _ (m+1) (by omega),vl_one,vl_wd (by omega)] at e
 exact e
theorem one_top (X m:Nat) (h:(wd 18446744073709551616 X).length=m+1):X=vl 18446744073709551616 ((wd 18446744073709551616 X).take m) + 18446744073709551616^m*((wd 18446744073709551616 X)[m]?.getD 0 + 18446744073709551616*0):=by
 have e:=vl_split 18446744073709551616 (wd 18446744073709551616 X) m (by omega)
 rw [List.drop_eq_nil_of_le (by omega),vl,vl_wd (by omega)] at e
 exact e
theorem top_sum (x1 x0 n:Nat) (hn:n≤63) (hx0:x0 < 18446744073709551616) (h:x1*2^n < 18446744073709551616):x1*2^n+x0/2^(64-n) < 18446744073709551616:=by
 have hp:18446744073709551616=2^(64-n)*2^n:=by rw [← Nat.pow_add,show (64-n)+n=64 from by omega]
 have h5:(x1+1)*2^n≤18446744073709551616:=by
  rw [hp] at h ⊢
  exact Nat.mul_le_mul_right _ (Nat.lt_of_mul_lt_mul_right h)
 rw [Nat.add_mul,Nat.one_mul] at h5
 have:=(sh_or x1 x0 n hn hx0).2
 generalize x0/2^(64-n)=z at *
 generalize x1*2^n=y at *
 generalize 2^n=P at *
 omega
theorem TakeInv.fin' {ps qs ps' qs':List Nat} {c1 c2 c3 c4 n up dn lf rt bo ow:Nat} (h:TakeInv ps qs ps' qs' c1 c2 c3 c4 n up dn lf rt bo ow) (hn:ps.length=n) (hl:ps.length=qs.length) (P' Q' X Y hp hq:Nat)
  (eP:P'=vl 18446744073709551616 ps + 18446744073709551616^n*hp) (eQ:Q'=vl 18446744073709551616 qs + 18446744073709551616^n*hq) (eX:X+c2*Q'=c1*P') (eY:Y+c3*P'=c4*Q') (hX:X < 18446744073709551616^n) (hY:Y < 18446744073709551616^n):vl 18446744073709551616 ps'=X∧vl 18446744073709551616 qs'=Y:=by
 subst hn
 exact h.fin hl P' Q' X Y hp hq eP eQ eX eY hX hY
theorem stepsOf_any (vx vy:Value) (X Y:Nat) (w:World) (hx:Sl .u64 w vx (wd 18446744073709551616 X)) (hy:Sl .u64 w vy (wd 18446744073709551616 Y)) (h2:2≤(wd 18446744073709551616 Y).length) (hn:(wd 18446744073709551616 X).length<(wd 18446744073709551616 Y).length+2) (hle:Y≤X) (hl:(wd 18446744073709551616 X).length<268435456) :
  Calls Tryz.prog 172 #[vx,vy] w fun e w'=>∃ (xx xy yx yy:Nat) (back:Bool),e=.returned (.agg #[.int .u64 (xx:Int),.int .u64 (xy:Int),.int .u64 (yx:Int),.int .u64 (yy:Int),.bool back])∧xx < 18446744073709551616∧xy < 18446744073709551616∧yx < 18446744073709551616∧yy < 18446744073709551616∧StepsOK X Y xx xy yx yy back∧But [] w w':=by
 have hlen:=wd_len_mono hle
 rcases hx.open with ⟨e,-⟩ | ⟨-,b1,o1,c1,rfl,hc1,-,hcx⟩
 ·rw [e,List.length_nil] at hlen;omega
 rcases hy.open with ⟨e,-⟩ | ⟨-,b2,o2,c2,rfl,hc2,-,hcy⟩
 ·rw [e] at h2;simp at h2
 obtain ⟨m,hm⟩:∃ m,(wd 18446744073709551616 X).length=m+2:=⟨(wd 18446744073709551616 X).length-2,by omega⟩
 have hXp:0<X:=by
  rcases Nat.eq_zero_or_pos X with h | h
  ·subst h;rw [wd_zero] at hm;simp at hm
  ·exact h
 obtain ⟨t1,t2,-,-⟩:=top_pos X hXp
 have ht:topW X=(wd 18446744073709551616 X)[m+1]?.getD 0:=by unfold topW;rw [hm];rfl
 obtain ⟨z1,z2,-,-⟩:=lz_facts (topW X) t1 t2
 have eX:=two_top X m hm
 have lX:=vl_take_lt (wd 18446744073709551616 X) m (by omega) (wd_mem (by omega) X)
 have mX:=wd_mem (B:=18446744073709551616) (by omega) X
 have mY:=wd_mem (B:=18446744073709551616) (by omega) Y
 have k1:=hcx (m+1) (by omega)
 have k0:=hcx m (by omega)
 have bx0:=mem_getD mX (by omega:0 < 18446744073709551616) m
 rw [ht] at t1 t2 z1 z2
 obtain ⟨ε,e1,e2⟩:=lead_split ((wd 18446744073709551616 X)[m+1]?.getD 0) ((wd 18446744073709551616 X)[m]?.getD 0) m (lz ((wd 18446744073709551616 X)[m+1]?.getD 0)) _ z1 lX
 rw [← eX] at e1
 have haB:=top_sum _ _ _ z1 bx0 z2
 rcases Nat.lt_or_ge (wd 18446744073709551616 Y).length (m+2) with hsh | hsh
 ·have hny:(wd 18446744073709551616 Y).length=m+1:=by omega
  have eY:=one_top Y m hny
  have lY:=vl_take_lt (wd 18446744073709551616 Y) m (by omega) mY
  obtain ⟨δ,f1,f2⟩:=lead_split 0 ((wd 18446744073709551616 Y)[m]?.getD 0) m (lz ((wd 18446744073709551616 X)[m+1]?.getD 0)) _ z1 lY
  rw [← eY] at f1
  rw [Nat.zero_mul] at f1
  have hda:=lead_le _ _ _ _ _ X Y e1 f1 e2 hle
  exact stepsOf_less b1 o1 c1 b2 o2 c2 _ _ w ((wd 18446744073709551616 X)[m+1]?.getD 0) ((wd 18446744073709551616 X)[m]?.getD 0) 0 ((wd 18446744073709551616 Y)[m]?.getD 0) _ (0+(wd 18446744073709551616 Y)[m]?.getD 0/2^(64-lz ((wd 18446744073709551616 X)[m+1]?.getD 0))) (lz ((wd 18446744073709551616 X)[m+1]?.getD 0)) m X Y hm hny (by omega) k1 k0 (fun h=>by omega) (hcy m (by omega)) t1 t2 bx0 (by omega) (mem_getD mY (by omega) m) z1 (by show _=_;rfl) (by show _=_;rfl) (by show _=_;rw [if_neg (by omega)]) z2 (fun h=>by omega) haB (Nat.lt_of_le_of_lt hda haB) hda (fun a b xx xy yx yy back h=>StepsOK.of h X Y _ ε δ e1 f1 e2 f2) hc1 hc2
 ·have hny:(wd 18446744073709551616 Y).length=m+2:=by omega
  have eY:=two_top Y m hny
  have lY:=vl_take_lt (wd 18446744073709551616 Y) m (by omega) mY
  obtain ⟨δ,f1,f2⟩:=lead_split ((wd 18446744073709551616 Y)[m+1]?.getD 0) ((wd 18446744073709551616 Y)[m]?.getD 0) m (lz ((wd 18446744073709551616 X)[m+1]?.getD 0)) _ z1 lY
  rw [← eY] at f1
  have hda:=lead_le _ _ _ _ _ X Y e1 f1 e2 hle
  exact stepsOf_same b1 o1 c1 b2 o2 c2 _ _ w ((wd 18446744073709551616 X)[m+1]?.getD 0) ((wd 18446744073709551616 X)[m]?.getD 0) ((wd 18446744073709551616 Y)[m+1]?.getD 0) ((wd 18446744073709551616 Y)[m]?.getD 0) _ _ (lz ((wd 18446744073709551616 X)[m+1]?.getD 0)) m X Y hm hny (by omega) k1 k0 (fun _=>hcy (m+1) (by omega)) (hcy m (by omega)) t1 t2 bx0 (mem_getD mY (by omega) _) (mem_getD mY (by omega) m) z1 (by show _=_;rfl) (by show _=_;rfl) (by show _=_;rw [if_pos hny]) z2 (fun _=>Nat.lt_of_le_of_lt (Nat.le_trans (Nat.le_add_right _ _) hda) haB) haB (Nat.lt_of_le_of_lt hda haB) hda (fun a b xx xy yx yy back h=>StepsOK.of h X Y _ ε δ e1 f1 e2 f2) hc1 hc2
def Less (lo:Nat) (w:World) (X Y:Nat) (e:Ending) (w':World):Prop:=∃ v1 v2 X' Y',e=.returned (.tuple #[v1,v2])∧Pair lo w' v1 v2 X' Y'∧Y'≤X'∧Y' < Y∧X'≤X∧Nat.gcd X' Y'=Nat.gcd X Y∧∃ l:List Nat,(∀ x ∈ l,lo≤x)∧But l w w'
theorem gcd_mod (X Y:Nat):Nat.gcd Y (X%Y)=Nat.gcd X Y:=by rw [Nat.gcd_comm X Y,Nat.gcd_rec Y X,Nat.gcd_comm]
theorem taken_any (lo:Nat) (vx vy:Value) (X Y xx xy yx yy:Nat) (back:Bool) (w:World) (hp:Pair lo w vx vy X Y) (h2:2≤(wd 18446744073709551616 Y).length) (hle:Y≤X) (hl:(wd 18446744073709551616 X).length<1073741824) (hxx:xx < 18446744073709551616) (hxy:xy < 18446744073709551616) (hyx:yx < 18446744073709551616) (hyy:yy < 18446744073709551616) (hs:StepsOK X Y xx xy yx yy back) (hne:xy≠0) :
  Calls Tryz.prog 173 #[.agg #[.int .u64 (xx:Int),.int .u64 (xy:Int),.int .u64 (yx:Int),.int .u64 (yy:Int),.bool back],vx,vy] w fun e w'=>Less lo w X Y e w':=by
 have hlen:=wd_len_mono hle
 rcases hs with h0 | ⟨X',Y',hrel,hlt,hXY,hg⟩
 ·exact absurd h0 hne
 have mX:=wd_mem (B:=18446744073709551616) (by omega) X
 have mY:=wd_mem (B:=18446744073709551616) (by omega) Y
 rcases hp.s1.open with ⟨e,-⟩ | ⟨-,g1,o1,c1,rfl,hc1,-,-⟩
 ·rw [e,List.length_nil] at hlen;omega
 rcases hp.s2.open with ⟨e,-⟩ | ⟨-,g2,o2,c2,rfl,hc2,-,-⟩
 ·rw [e] at h2;simp at h2
 have hap:g1≠g2:=hp.ap _ _ _ _ _ _ _ _ rfl rfl
 obtain ⟨l1,f1⟩:=hp.o1 _ _ _ _ rfl
 obtain ⟨l2,f2⟩:=hp.o2 _ _ _ _ rfl
 have s1:=hp.s1.seg f1
 have s2:=hp.s2.seg f2
 have sP:=s1.sub 0 (wd 18446744073709551616 Y).length (by omega)
 rw [List.drop_zero,Nat.add_zero] at sP
 have lP:((wd 18446744073709551616 X).take (wd 18446744073709551616 Y).length).length=(wd 18446744073709551616 Y).length:=by rw [List.length_take];omega
 have eP:=vl_drop_div (wd 18446744073709551616 X) (wd 18446744073709551616 Y).length hlen
 rw [vl_wd (by omega)] at eP
 have eQ:Y=vl 18446744073709551616 (wd 18446744073709551616 Y) + 18446744073709551616^(wd 18446744073709551616 Y).length*0:=by rw [vl_wd (by omega)];omega
 have hYl:=lt_wd Y
 have mP:∀ x ∈ (wd 18446744073709551616 X).take (wd 18446744073709551616 Y).length,x < 18446744073709551616:=fun x hx=>mX x (List.mem_of_mem_take hx)
 cases back
 ·simp only [Bool.false_eq_true,if_false] at hrel
  refine (taken_fwd g1 o1 c1 g2 o2 c2 _ _ ((wd 18446744073709551616 X).take (wd 18446744073709551616 Y).length) (wd 18446744073709551616 Y) w xx xy yx yy hxx hxy hyx hyy hap sP s2 lP rfl (by omega) hlen hc1 hc2 hl mP mY X' Y' (fun ps' qs' u d l r b o h=>?_)).mono ?_
  ·exact h.fin' lP lP X Y X' Y' _ 0 eP eQ hrel.1 hrel.2 (by omega) (by omega)
  ·rintro e w' ⟨v1,v2,rfl,h1,h2',hb,ho1,ho2⟩
   exact ⟨v1,v2,X',Y',rfl,⟨h1,h2',ho1.own l1,ho2.own l2,fun b off n c b' off' n' c' e1 e2=>by rw [(ho1 _ _ _ _ e1).1,(ho2 _ _ _ _ e2).1];exact hap⟩,by omega,by omega,by omega,hg,[g1,g2],fun x hx=>by simp at hx;rcases hx with rfl | rfl <;> assumption,hb⟩
 ·simp only [if_true] at hrel
  refine (taken_back g1 o1 c1 g2 o2 c2 _ _ (wd 18446744073709551616 Y) ((wd 18446744073709551616 X).take (wd 18446744073709551616 Y).length) w xx xy yx yy hxx hxy hyx hyy hap sP s2 rfl lP (by omega) hlen hc1 hc2 hl mY mP X' Y' (fun ps' qs' u d l r b o h=>?_)).mono ?_
  ·exact h.fin' rfl lP.symm Y X X' Y' 0 _ eQ eP hrel.1 hrel.2 (by omega) (by omega)
  ·rintro e w' ⟨v1,v2,rfl,h1,h2',hb,ho1,ho2⟩
   exact ⟨v1,v2,X',Y',rfl,⟨h1,h2',ho1.own l2,ho2.own l1,fun b off n c b' off' n' c' e1 e2=>by rw [(ho1 _ _ _ _ e1).1,(ho2 _ _ _ _ e2).1];exact hap.symm⟩,by omega,by omega,by omega,hg,[g1,g2],fun x hx=>by simp at hx;rcases hx with rfl | rfl <;> assumption,hb⟩
end Go.Proofs.YtollloafckcogaaGreatDoor

namespace Go.Proofs.YtollloafckcogaaGreatDoor
open Go.RowKit
set_option maxHeartbeats 4000000
set_option maxRecDepth 100000
theorem natQuoRem_of (vx vy:Value) (X Y:Nat) (w:World) (hx:Sl .u64 w vx (wd 18446744073709551616 X)) (hy:Sl .u64 w vy (wd 18446744073709551616 Y)) (hY:0<Y) (hl:(wd 18446744073709551616 X).length<134217728) (hly:(wd 18446744073709551616 Y).length<134217728)
  (hD:2≤(wd 18446744073709551616 Y).length→Y≤X→DivideW (X*2^lz (topW Y)) (Y*2^lz (topW Y))) :
  Calls Tryz.prog 127 #[vx,vy] w fun e w'=>∃ v1 v2,e=.returned (.tuple #[v1,v2])∧Sl .u64 w' v1 (wd 18446744073709551616 (X/Y))∧Sl .u64 w' v2 (wd 18446744073709551616 (X%Y))∧But [] w w'∧Heir w vx w' v2:=by
 have hcmp:=natCmp_any vx vy X Y w hx hy (by omega) (by omega)
 rcases Nat.lt_or_ge X Y with hlt | hge
 ·rw [cmpN_lt hlt] at hcmp
  rw [Nat.div_eq_of_lt hlt,Nat.mod_eq_of_lt hlt,wd_zero]
  have HC:=hide hcmp
  have HX:=hide hx
  obtain ⟨a1,c1,rfl,-,-⟩:=hx
  obtain ⟨a2,c2,rfl,-,-⟩:=hy
  clear hcmp hD
  generalize (wd 18446744073709551616 X).length=nx at *
  generalize (wd 18446744073709551616 Y).length=ny at *
  go_enter Tryz.func127,Tryz.ntmps127
  go_wp2_with fail
  refine (unhide HC).mono ?_
  rintro e w1 ⟨rfl,q,rfl⟩
  go_wp2
  go_ret2
  exact ⟨_,_,rfl,Sl.nil _ _,unhide HX,(But.refl _ _).drewN q,Heir.self _ _ _⟩
 ·have hc0:=cmpN_ge hge
  generalize cmpN X Y=r at *
  have hr:decide (r<0)=false:=by simp;omega
  have HC:=hide hcmp
  have HX:=hide hx
  have HY:=hide hy
  rcases hy.open with ⟨e,-⟩ | ⟨hp,b2,o2,c2,rfl,hc2,-,hcell⟩
  ·rw [wd_nil_iff (by omega)] at e;omega
  obtain ⟨a1,c1,rfl,-,-⟩:=hx
  by_cases h1:(wd 18446744073709551616 Y).length=1
  ·have hYB:Y < 18446744073709551616:=by
    have:=lt_of_wd_length (B:=18446744073709551616) (by omega) Y 1 (by omega)
    rw [Nat.pow_one] at this
    exact this
   have hc:=hcell 0 (by omega)
   rw [Nat.add_zero,wd_word Y hY hYB] at hc
   simp only [List.getElem?_cons_zero,Option.getD_some] at hc
   have HB:=hide (fun (W:World) (h:Sl .u64 W (.slice a1 (wd 18446744073709551616 X).length c1) (wd 18446744073709551616 X))=>byWord_any _ X Y W h (by omega) hY hYB)
   have hmod:X%Y < 18446744073709551616:=Nat.lt_trans (Nat.mod_lt _ hY) hYB
   clear hcmp hD hcell hy
   generalize hnx:(wd 18446744073709551616 X).length=nx at *
   generalize hny:(wd 18446744073709551616 Y).length=ny at *
   clear hnx hny
   have e1:((ny:Int)==1)=true:=beq_iff_eq.2 (by omega)
   have hp1:(0:Int)<(ny:Int):=by omega
   have HE:=hide h1
   clear h1
   go_enter Tryz.func127,Tryz.ntmps127
   go_wp2_with fail
   refine (unhide HC).mono ?_
   rintro e w1 ⟨rfl,q,rfl⟩
   go_wp2_with fail
   refine (unhide HB _ (by exact unhide HX)).mono ?_
   rintro e w2 ⟨v1,rfl,hv1,hb2⟩
   have B2:Hid (But [] w w2):=((But.refl [] _).drewN q).trans' hb2
   have HV1:=hide hv1
   clear hb2 hv1
   go_wp2_with fail
   refine (natOf_any (X%Y) hmod _).mono ?_
   rintro e w3 ⟨v2,rfl,hv2,hb3,ho3⟩
   have ALL:=hide (And.intro ((unhide HV1).but_nil hb3) (And.intro hv2 (And.intro ((unhide B2).trans' hb3) (ho3.mono (unhide B2).size))))
   clear hv2 hb3 ho3
   go_wp2
   go_ret2
   exact ⟨v1,v2,rfl,(unhide ALL).1,(unhide ALL).2.1,(unhide ALL).2.2.1,Heir.of_own (unhide ALL).2.2.2⟩
  ·obtain ⟨t1,t2,-,-⟩:=top_pos Y hY
   have hs:=(lz_facts (topW Y) t1 t2).1
   have hDO:=hD (by omega) hge
   have hct:=hcell ((wd 18446744073709551616 Y).length-1) (by omega)
   have LZ:=hide (fun W=>lead_any (topW Y) t1 t2 W)
   have hnl:=norm_len Y hY
   have hsl:=shl_len X (lz (topW Y)) hs
   rw [show (wd 18446744073709551616 Y)[(wd 18446744073709551616 Y).length-1]?.getD 0=topW Y from rfl] at hct
   have HL1:=hide (fun (W:World) (h:Sl .u64 W (.slice a1 (wd 18446744073709551616 X).length c1) (wd 18446744073709551616 X))=>natLeft_any _ X (lz (topW Y)) W h (by omega) hs)
   have HL2:=hide (fun (W:World) (h:Sl .u64 W (.slice (some ⟨b2,o2,none⟩) (wd 18446744073709551616 Y).length c2) (wd 18446744073709551616 Y))=>natLeft_any _ Y (lz (topW Y)) W h (by omega) hs)
   have hz:0<2^lz (topW Y):=Nat.pow_pos (by omega)
   have HDO:=hide hDO
   unfold DivideW at HDO
   rw [Nat.mul_div_mul_right _ _ hz,Nat.mul_mod_mul_right] at HDO
   have hrl:(wd 18446744073709551616 (X%Y*2^lz (topW Y))).length<1073741824:=by
    have:=shl_len (X%Y) (lz (topW Y)) hs
    have h3:=wd_len_mono (Nat.mod_le X Y)
    omega
   have HRR:=hide (fun (v:Value) (W:World) (h:Sl .u64 W v (wd 18446744073709551616 (X%Y*2^lz (topW Y))))=>natRight_any v (X%Y*2^lz (topW Y)) (lz (topW Y)) W h hrl hs)
   rw [Nat.mul_div_cancel _ hz] at HRR
   clear hcmp hD hDO hcell hy hnl hsl hz
   generalize lz (topW Y)=s at *
   generalize topW Y=t at *
   generalize hnx:(wd 18446744073709551616 X).length=nx at *
   generalize hny:(wd 18446744073709551616 Y).length=ny at *
   clear hnx hny
   have e1:((ny:Int)==1)=false:=beq_eq_false_iff_ne.2 (by omega)
   go_enter Tryz.func127,Tryz.ntmps127
   go_wp2_with fail
   refine (unhide HC).mono ?_
   rintro e w1 ⟨rfl,q,rfl⟩
   go_wp2_with fail
   refine (unhide LZ _).mono ?_
   rintro e w1 ⟨rfl,hw⟩
   obtain rfl:=hw.symm
   clear hw
   go_wp2_with fail
   refine (unhide HL1 _ (by exact unhide HX)).mono ?_
   rintro e w2 ⟨v1,rfl,hv1,hb2,hp2⟩
   have B2:Hid (But [] w w2):=((But.refl [] _).drewN q).trans' hb2
   have HE1:Hid (Heir w (.slice a1 nx c1) w2 v1):=by
    rcases hp2 with rfl | ho
    ·exact Heir.self _ _ _
    ·exact (Heir.of_own ho).pre (Nat.le_refl _)
   have HV1:=hide hv1
   clear hb2 hv1 hp2
   go_wp2_with fail
   refine (unhide HL2 _ ((unhide HY).but_nil (unhide B2))).mono ?_
   rintro e w3 ⟨v2,rfl,hv2,hb3,-⟩
   have B3:Hid (But [] w w3):=(unhide B2).trans' hb3
   have HV2:=hide hv2
   have HV1':=hide ((unhide HV1).but_nil hb3)
   have HE1':=hide ((unhide HE1).but (unhide HV1) hb3)
   clear hv2 hb3 HV1 HE1
   go_wp2_with fail
   refine (unhide HDO v1 v2 _ (unhide HV1') (unhide HV2)).mono ?_
   rintro e w4 ⟨v3,v4,rfl,hv3,hv4,hb4,he4⟩
   have B4:Hid (But [] w w4):=(unhide B3).trans' hb4
   have H3:=hide hv3
   have H4:=hide hv4
   have HE4:=hide ((unhide HE1').trans (unhide HV1') hb4 (unhide B3).size he4)
   clear hv3 hv4 hb4 he4 HE1'
   go_wp2_with fail
   refine (unhide HRR v4 _ (unhide H4)).mono ?_
   rintro e w5 ⟨v5,rfl,hv5,hb5,hp5⟩
   have HE5:Heir w (.slice a1 nx c1) w5 v5:=by
    rcases hp5 with rfl | ho
    ·exact (unhide HE4).but (unhide H4) hb5
    ·exact (Heir.of_own ho).pre (unhide B4).size
   have ALL:=hide (And.intro ((unhide H3).but_nil hb5) (And.intro hv5 (And.intro ((unhide B4).trans' hb5) HE5)))
   clear hv5 hb5 hp5 HE5 HE4
   go_wp2
   go_ret2
   exact ⟨v3,v5,rfl,(unhide ALL).1,(unhide ALL).2.1,(unhide ALL).2.2.1,(unhide ALL).2.2.2⟩
def Short (X _Y:Nat):Prop:=(wd 18446744073709551616 X).length≤1000000
theorem Short.of (X Y:Nat) (h:(wd 18446744073709551616 X).length≤1000000):Short X Y:=h
theorem natQuoRem_any (vx vy:Value) (X Y:Nat) (w:World) (hx:Sl .u64 w vx (wd 18446744073709551616 X)) (hy:Sl .u64 w vy (wd 18446744073709551616 Y)) (hY:0<Y) (hl:(wd 18446744073709551616 X).length<134217728) (hly:(wd 18446744073709551616 Y).length<134217728) (hs:Short X Y) :
  Calls Tryz.prog 127 #[vx,vy] w fun e w'=>∃ v1 v2,e=.returned (.tuple #[v1,v2])∧Sl .u64 w' v1 (wd 18446744073709551616 (X/Y))∧Sl .u64 w' v2 (wd 18446744073709551616 (X%Y))∧But [] w w'∧Heir w vx w' v2 :=
 natQuoRem_of vx vy X Y w hx hy hY hl hly (fun h2 hle=>by
  obtain ⟨t1,t2,-,-⟩:=top_pos Y hY
  have hz:=(lz_facts (topW Y) t1 t2).1
  have h3:=norm_len Y hY
  have h4:=shl_len X (lz (topW Y)) hz
  have h5:=wd_len_mono hle
  unfold Short at hs
  exact divideW_all (wd 18446744073709551616 (X*2^lz (topW Y))).length _ _ (Nat.le_refl _) (by omega) (by omega))
theorem natQuo_any (vx vy:Value) (X Y:Nat) (w:World) (hx:Sl .u64 w vx (wd 18446744073709551616 X)) (hy:Sl .u64 w vy (wd 18446744073709551616 Y)) (hY:0<Y) (hl:(wd 18446744073709551616 X).length<134217728) (hly:(wd 18446744073709551616 Y).length<134217728) (hs:Short X Y) :
  Calls Tryz.prog 110 #[vx,vy] w fun e w'=>∃ v1,e=.returned v1∧Sl .u64 w' v1 (wd 18446744073709551616 (X/Y))∧But [] w w':=by
 have HX:=hide hx
 have HQ:=hide (natQuoRem_any vx vy X Y w hx hy hY hl hly hs)
 have HO:=hide (fun r hr=>natOne_any vy Y w hy (by omega) r hr)
 obtain ⟨a1,c1,rfl,-,-⟩:=hx
 obtain ⟨a2,c2,rfl,-,-⟩:=hy
 clear hs
 generalize (wd 18446744073709551616 X).length=nx at *
 generalize (wd 18446744073709551616 Y).length=ny at *
 by_cases h1:Y=1
 ·subst h1
  rw [Nat.div_one]
  go_enter Tryz.func110,Tryz.ntmps110
  go_wp2_with fail
  refine (unhide HO true (by show true=_;simp)).mono ?_
  rintro e w1 ⟨rfl,hw⟩
  obtain rfl:=hw.symm
  clear hw
  go_wp2
  go_ret
  exact ⟨_,rfl,unhide HX,But.refl _ _⟩
 ·go_enter Tryz.func110,Tryz.ntmps110
  go_wp2_with fail
  refine (unhide HO false (by show false=_;simp [h1])).mono ?_
  rintro e w1 ⟨rfl,hw⟩
  obtain rfl:=hw.symm
  clear hw
  go_wp2_with fail
  refine (unhide HQ).mono ?_
  rintro e w2 ⟨v1,v2,rfl,hv1,-,hb2,-⟩
  have ALL:=hide (And.intro hv1 hb2)
  clear hv1 hb2
  go_wp2
  go_ret
  exact ⟨v1,rfl,(unhide ALL).1,(unhide ALL).2⟩
end Go.Proofs.YtollloafckcogaaGreatDoor

namespace Go.Proofs.YtollloafckcogaaGreatDoor
open Go.RowKit
set_option maxHeartbeats 4000000
set_option maxRecDepth 100000
theorem quo_less {lo:Nat} {W w':World} {vx vy v2:Value} {X Y:Nat} (hp:Pair lo W vx vy X Y) (hY:0<Y) (hle:Y≤X) (hlo:lo≤W.heap.size) (h2:Sl .u64 w' v2 (wd 18446744073709551616 (X%Y))) (hb:But [] W w') (he:Heir W vx w' v2):Less lo W X Y (.returned (.tuple #[vy,v2])) w' :=
 ⟨vy,v2,Y,X%Y,rfl,⟨hp.s2.but_nil hb,h2,hp.o2.but hp.s2 hb,he.own hp.o1 hlo hp.s1 hb,fun b off n c b' off' n' c' e1 e2=>by
  have hpos:0<(wd 18446744073709551616 Y).length:=by rw [Nat.pos_iff_ne_zero];intro e;rw [wd_len_zero (by omega)] at e;omega
  have h4:=hp.s2.lt hpos b off n c e1
  rcases he _ _ _ _ e2 with ⟨h3,-⟩ | ⟨o0,n0,c0,e0,-,-⟩
  ·omega
  ·exact fun e=>hp.ap _ _ _ _ _ _ _ _ e0 e1 e.symm⟩,Nat.le_of_lt (Nat.mod_lt _ hY),Nat.mod_lt _ hY,hle,gcd_mod X Y,[],by simp,hb⟩
theorem Less.pre {lo:Nat} {w W:World} {X Y:Nat} {e:Ending} {w':World} (h:Less lo W X Y e w') (hb:But [] w W):Less lo w X Y e w':=by
 obtain ⟨v1,v2,X',Y',h1,h2,h3,h4,h5,h6,l,h7,h8⟩:=h
 exact ⟨v1,v2,X',Y',h1,h2,h3,h4,h5,h6,l,h7,(But.of_nil hb).trans h8 (fun x hx=>.inl hx)⟩
theorem lessened_any (lo:Nat) (vx vy:Value) (X Y:Nat) (w:World) (hp:Pair lo w vx vy X Y) (h2:2≤(wd 18446744073709551616 Y).length) (hle:Y≤X) (hl:(wd 18446744073709551616 X).length≤1000000) (hlo:lo≤w.heap.size) :
  Calls Tryz.prog 144 #[vx,vy] w fun e w'=>Less lo w X Y e w':=by
 have hlen:=wd_len_mono hle
 have hY:0<Y:=by
  rcases Nat.eq_zero_or_pos Y with h | h
  ·subst h;rw [wd_zero] at h2;simp at h2
  ·exact h
 have HQ:=hide (fun (W:World) (h:Pair lo W vx vy X Y)=>natQuoRem_any vx vy X Y W h.s1 h.s2 hY (by omega) (by omega) (Short.of X Y hl))
 have HT:=hide (fun (W:World) (h:Pair lo W vx vy X Y) xx xy yx yy back=>taken_any lo vx vy X Y xx xy yx yy back W h h2 hle (by omega))
 have HS:=hide (fun (h:(wd 18446744073709551616 X).length<(wd 18446744073709551616 Y).length+2)=>stepsOf_any vx vy X Y w hp.s1 hp.s2 h2 h hle (by omega))
 have HP:=hide hp
 obtain ⟨a1,c1,rfl,-,-⟩:=hp.s1
 obtain ⟨a2,c2,rfl,-,-⟩:=hp.s2
 clear hp
 have HLO:=hide hlo
 clear hlo
 generalize (wd 18446744073709551616 X).length=nx at *
 generalize (wd 18446744073709551616 Y).length=ny at *
 by_cases hn:nx<ny+2
 ·go_enter Tryz.func144,Tryz.ntmps144
  go_wp2_with fail
  refine (unhide HS hn).mono ?_
  rintro e w1 ⟨xx,xy,yx,yy,back,rfl,hxx,hxy,hyx,hyy,hok,hb1⟩
  have HOK:=hide hok
  have HB1:=hide hb1
  clear hok hb1 HS
  have BW:Hid (But [] w (w1.alloc (.cells #[.int .u64 (xx:Int),.int .u64 (xy:Int),.int .u64 (yx:Int),.int .u64 (yy:Int),.bool back] 222))):=(unhide HB1).alloc _
  by_cases h0:xy=0
  ·subst h0
   go_wp2_with fail
   refine (unhide HQ _ ((unhide HP).but (unhide BW))).mono ?_
   rintro e w2 ⟨v1,v2,rfl,-,hv2,hb2,ho2⟩
   have R:=hide ((quo_less ((unhide HP).but (unhide BW)) hY hle (Nat.le_trans (unhide HLO) (unhide BW).size) hv2 hb2 ho2).pre (unhide BW))
   clear hv2 hb2 ho2
   go_wp2
   go_ret2
   exact unhide R
  ·have hz:((xy:Int) != 0)=true:=by simp;exact h0
   go_wp2_with fail
   refine (unhide HT _ ((unhide HP).but (unhide BW)) xx xy yx yy back hxx hxy hyx hyy (unhide HOK) h0).mono ?_
   intro e w2 hless
   obtain ⟨v1,v2,X',Y',rfl,hrest⟩:=hless
   have R:=hide ((show Less lo _ X Y (.returned (.tuple #[v1,v2])) w2 from ⟨v1,v2,X',Y',rfl,hrest⟩).pre (unhide BW))
   clear hrest
   go_wp2
   go_ret2
   exact unhide R
 ·go_enter Tryz.func144,Tryz.ntmps144
  go_wp2_with fail
  refine (unhide HQ _ (unhide HP)).mono ?_
  rintro e w2 ⟨v1,v2,rfl,-,hv2,hb2,ho2⟩
  have R:=hide (quo_less (unhide HP) hY hle (unhide HLO) hv2 hb2 ho2)
  clear hv2 hb2 ho2
  go_wp2
  go_ret2
  exact unhide R
end Go.Proofs.YtollloafckcogaaGreatDoor

namespace Go.Proofs
open Go.Shelf
def Tryz.lays283_ren : Go.Shelf.Ren := ⟨fun | 283 => 156 | n => n, fun | 3 => 3 | 4 => 4 | 9 => 9 | n => n, fun | n => n⟩
theorem Tryz.lays283 : Go.Proofs.Lays.n283 Tryz.prog Tryz.lays283_ren := {
  mixed := by kernel_rfl
  f283 := Tryz.func156.trans (congrArg some (by kernel_rfl))
  t3 := Tryz.underlying3
  a3 := Tryz.isAgg3
  z3 := Tryz.sizeOf3
  v3 := Tryz.zeroValue3
  t4 := Tryz.underlying4
  a4 := Tryz.isAgg4
  z4 := Tryz.sizeOf4
  v4 := Tryz.zeroValue4
  t9 := Tryz.underlying9
  a9 := Tryz.isAgg9
  z9 := Tryz.sizeOf9
  v9 := Tryz.zeroValue9 }
open Go.Lib in
theorem Tryz.internal_strconv_small (i:Nat) (h:i<100) (w:World) :
  Calls Tryz.prog 156 #[.int .i64 i] w fun e w'=>e=.returned (.string ⟨(Lib.decDigits i).toArray⟩)∧w'=w:=Any.internal_strconv_small Tryz.lays283 i h w
def Tryz.laysM284_ren : Go.Shelf.Ren := ⟨fun | 129 => 182 | 284 => 157 | 317 => 181 | 318 => 183 | n => n, fun | 0 => 0 | 3 => 3 | 4 => 4 | 5 => 5 | 9 => 9 | 46 => 200 | 53 => 24 | 212 => 230 | n => n, fun | 17 => 1 | n => n⟩
theorem Tryz.laysM284 : Go.Proofs.LaysM.n284 Tryz.prog Tryz.laysM284_ren := {
  mixed := by kernel_rfl
  f129 := Tryz.func182.trans (congrArg some (by kernel_rfl))
  f284 := Tryz.func157.trans (congrArg some (by kernel_rfl))
  f317 := Tryz.func181.trans (congrArg some (by kernel_rfl))
  f318 := Tryz.func183.trans (congrArg some (by kernel_rfl))
  t0 := Tryz.underlying0
  a0 := Tryz.isAgg0
  z0 := Tryz.sizeOf0
  v0 := Tryz.zeroValue0
  t3 := Tryz.underlying3
  a3 := Tryz.isAgg3
  z3 := Tryz.sizeOf3
  v3 := Tryz.zeroValue3
  t4 := Tryz.underlying4
  a4 := Tryz.isAgg4
  z4 := Tryz.sizeOf4
  v4 := Tryz.zeroValue4
  t5 := Tryz.underlying5
  a5 := Tryz.isAgg5
  z5 := Tryz.sizeOf5
  v5 := Tryz.zeroValue5
  t9 := Tryz.underlying9
  a9 := Tryz.isAgg9
  z9 := Tryz.sizeOf9
  v9 := Tryz.zeroValue9
  t46 := Tryz.underlying200
  a46 := Tryz.isAgg200
  z46 := Tryz.sizeOf200
  v46 := Tryz.zeroValue200
  t53 := Tryz.underlying24
  a53 := Tryz.isAgg24
  z53 := Tryz.sizeOf24
  v53 := Tryz.zeroValue24
  t212 := Tryz.underlying230
  a212 := Tryz.isAgg230
  z212 := Tryz.sizeOf230
  v212 := Tryz.zeroValue230
  g17 := by kernel_rfl
  m17 := by kernel_rfl
  i0 := by kernel_rfl
  i3 := by kernel_rfl
  i4 := by kernel_rfl
  i5 := by kernel_rfl
  i9 := by kernel_rfl
  i46 := by kernel_rfl
  i53 := by kernel_rfl
  i212 := by kernel_rfl }
open Go.Lib in
theorem Tryz.internal_strconv_numDigits (u:Nat) (h1:1≤u) (h2:u<18446744073709551616) (w:World) (htab:Lib.TabIs Tryz.prog w "internal/strconv.uint64pow10" .u64 Lib.pow10Tab) :
  Calls Tryz.prog 157 #[.int .u64 u] w fun e w'=>e=.returned (.int .i64 (Lib.nDigits u))∧w'=w:=Any.internal_strconv_numDigits Tryz.laysM284 u h1 h2 w htab
def Tryz.lays285_ren : Go.Shelf.Ren := ⟨fun | 285 => 158 | n => n, fun | 0 => 0 | 3 => 3 | 4 => 4 | 5 => 5 | 9 => 9 | 37 => 136 | 51 => 188 | 53 => 24 | n => n, fun | n => n⟩
theorem Tryz.lays285 : Go.Proofs.Lays.n285 Tryz.prog Tryz.lays285_ren := {
  mixed := by kernel_rfl
  f285 := Tryz.func158.trans (congrArg some (by kernel_rfl))
  t0 := Tryz.underlying0
  a0 := Tryz.isAgg0
  z0 := Tryz.sizeOf0
  v0 := Tryz.zeroValue0
  t3 := Tryz.underlying3
  a3 := Tryz.isAgg3
  z3 := Tryz.sizeOf3
  v3 := Tryz.zeroValue3
  t4 := Tryz.underlying4
  a4 := Tryz.isAgg4
  z4 := Tryz.sizeOf4
  v4 := Tryz.zeroValue4
  t5 := Tryz.underlying5
  a5 := Tryz.isAgg5
  z5 := Tryz.sizeOf5
  v5 := Tryz.zeroValue5
  t9 := Tryz.underlying9
  a9 := Tryz.isAgg9
  z9 := Tryz.sizeOf9
  v9 := Tryz.zeroValue9
  t37 := Tryz.underlying136
  a37 := Tryz.isAgg136
  z37 := Tryz.sizeOf136
  v37 := Tryz.zeroValue136
  t51 := Tryz.underlying188
  a51 := Tryz.isAgg188
  z51 := Tryz.sizeOf188
  v51 := Tryz.zeroValue188
  t53 := Tryz.underlying24
  a53 := Tryz.isAgg24
  z53 := Tryz.sizeOf24
  v53 := Tryz.zeroValue24 }
open Go.RowKit Go.Sort Go.Lib in
theorem Tryz.internal_strconv_formatBase10 (blk off cap:Nat) (u:Nat) (d:Array UInt8) (w:World) (hH:Holds (fun (b:UInt8)=>Value.int .u8 (b.toNat:Int)) w blk off d) (hu:u<10^d.size) (hu64:u<18446744073709551616) (hsz:d.size<4611686018427387904) :
  Calls Tryz.prog 158 #[.slice (some ⟨blk,off,none⟩) d.size cap,.int .u64 u] w fun e w' =>
   e=.returned (.tuple #[])∧∃ (n v':Nat) (dk:Array UInt8),w'=(putRow (fun (b:UInt8)=>Value.int .u8 (b.toNat:Int)) w blk off dk).drewN n∧FmtInv d.size u 0 v' dk:=Any.internal_strconv_formatBase10 Tryz.lays285 blk off cap u d w hH hu hu64 hsz
def Tryz.lays125_ren : Go.Shelf.Ren := ⟨fun | 125 => 165 | 128 => 189 | 129 => 182 | n => n, fun | 3 => 3 | 4 => 4 | 5 => 5 | 9 => 9 | 46 => 200 | 51 => 188 | 53 => 24 | n => n, fun | n => n⟩
theorem Tryz.lays125 : Go.Proofs.Lays.n125 Tryz.prog Tryz.lays125_ren := {
  mixed := by kernel_rfl
  f125 := Tryz.func165.trans (congrArg some (by kernel_rfl))
  f128 := Tryz.func189.trans (congrArg some (by kernel_rfl))
  f129 := Tryz.func182.trans (congrArg some (by kernel_rfl))
  t3 := Tryz.underlying3
  a3 := Tryz.isAgg3
  z3 := Tryz.sizeOf3
  v3 := Tryz.zeroValue3
  t4 := Tryz.underlying4
  a4 := Tryz.isAgg4
  z4 := Tryz.sizeOf4
  v4 := Tryz.zeroValue4
  t5 := Tryz.underlying5
  a5 := Tryz.isAgg5
  z5 := Tryz.sizeOf5
  v5 := Tryz.zeroValue5
  t9 := Tryz.underlying9
  a9 := Tryz.isAgg9
  z9 := Tryz.sizeOf9
  v9 := Tryz.zeroValue9
  t46 := Tryz.underlying200
  a46 := Tryz.isAgg200
  z46 := Tryz.sizeOf200
  v46 := Tryz.zeroValue200
  t51 := Tryz.underlying188
  a51 := Tryz.isAgg188
  z51 := Tryz.sizeOf188
  v51 := Tryz.zeroValue188
  t53 := Tryz.underlying24
  a53 := Tryz.isAgg24
  z53 := Tryz.sizeOf24
  v53 := Tryz.zeroValue24 }
theorem Tryz.bits_Len (x:Int) (w:World) (h0:0≤x) (h1:x≤18446744073709551615) :
  Calls Tryz.prog 165 #[.int .u64 x] w fun e w'=>e=.returned (.int .i64 (Lib.bitLen x.toNat))∧w'=w:=Any.bits_Len Tryz.lays125 x w h0 h1
end Go.Proofs

namespace Go.Proofs.YtollloafckcogaaGreatDoor
open Go.RowKit
set_option maxHeartbeats 4000000
set_option maxRecDepth 100000
theorem i64_and1 (a:Nat) (ha:a<9223372036854775808):bits .and .i64 (a:Int) 1=((a%2:Nat):Int):=by
 have h1:(BitVec.ofInt 64 (a:Int)).toNat=a:=by
  rw [BitVec.ofInt_natCast,BitVec.toNat_ofNat];exact Nat.mod_eq_of_lt (by omega)
 have h2:(BitVec.ofInt 64 (1:Int)).toNat=1:=rfl
 show IntKind.i64.wrap ((BitVec.ofInt 64 (a:Int) &&& BitVec.ofInt 64 (1:Int)).toNat:Int)=_
 rw [BitVec.toNat_and,h1,h2,Nat.and_one_is_mod,IntKind.wrap_i64]
 omega
theorem half_step (n i:Nat):n/2^i=2*(n/2^(i+1))+n/2^i%2:=by
 rw [Nat.pow_succ,← Nat.div_div_eq_div_mul];omega
theorem pow_even (X n i:Nat) (h:n/2^i%2=0):X^(n/2^(i+1))*X^(n/2^(i+1))=X^(n/2^i):=by
 rw [half_step n i,h,← Nat.pow_add];congr 1;omega
theorem pow_odd (X n i:Nat) (h:n/2^i%2=1):X^(n/2^(i+1))*X^(n/2^(i+1))*X=X^(n/2^i):=by
 rw [half_step n i,h,← Nat.pow_add,← Nat.pow_succ];congr 1;omega
theorem lt_bitLen (n:Nat) (h:n < 18446744073709551616):n<2^Lib.bitLen n∧Lib.bitLen n≤64:=by
 by_cases h0:n=0
 ·subst h0;exact ⟨by decide,by decide⟩
 ·exact ⟨(Lib.bitLenAux_bounds 64 n h h0).2.2,Lib.bitLen_le n 64 (by omega) h⟩
theorem natPow_any (v:Value) (X n:Nat) (w:World) (hv:Sl .u64 w v (wd 18446744073709551616 X)) (hX:0<X) (hn:n<2147483648) (hl:(wd 18446744073709551616 X).length+(wd 18446744073709551616 (X^n)).length<67108864) :
  Calls Tryz.prog 128 #[v,.int .i64 (n:Int)] w fun e w'=>∃ v',e=.returned v'∧Sl .u64 w' v' (wd 18446744073709551616 (X^n))∧But [] w w':=by
 obtain ⟨L,hL⟩:∃ L,L=Lib.bitLen n:=⟨_,rfl⟩
 have hb:=lt_bitLen n (by omega)
 have BL:=hide (fun W=>Tryz.bits_Len (n:Int) W (by omega) (by omega))
 rw [Int.toNat_natCast,← hL] at BL
 rw [← hL] at hb
 obtain ⟨hb1,hb2⟩:=hb
 have hlen:Hid (∀ i,(wd 18446744073709551616 (X^(n/2^i))).length<67108864∧(wd 18446744073709551616 X).length+(wd 18446744073709551616 (X^(n/2^i))).length<67108864):=fun i=>by
  have:=wd_len_mono (Nat.pow_le_pow_right hX (Nat.div_le_self n (2^i)))
  omega
 have hlen2:Hid (∀ i,(wd 18446744073709551616 (X^(n/2^(i+1))*X^(n/2^(i+1)))).length+(wd 18446744073709551616 X).length<67108864):=fun i=>by
  rw [← Nat.pow_add]
  have h3:=half_step n i
  have h4:=Nat.div_le_self n (2^i)
  have:=wd_len_mono (Nat.pow_le_pow_right hX (show n/2^(i+1)+n/2^(i+1)≤n from by omega))
  omega
 have HV:=hide hv
 have hdiv:n/2^L=0:=Nat.div_eq_of_lt hb1
 have hst:Hid ((1:Nat)=X^(n/2^L)):=by show _=_;rw [hdiv,Nat.pow_zero]
 clear hv hl hdiv hb1 hL
 obtain ⟨xa,xc,rfl,-,-⟩:=unhide HV
 generalize hnx:(wd 18446744073709551616 X).length=nx at *
 have HNX:=hide hnx
 clear hnx
 go_enter Tryz.func128,Tryz.ntmps128
 go_wp2_with fail
 refine (natOf_any 1 (by omega) _).mono ?_
 rintro e w1 ⟨v1,rfl,hv1,hb1,-⟩
 have H1:=hide hv1
 have B1:=hide hb1
 clear hv1 hb1
 go_wp2_with fail
 refine (unhide BL _).mono ?_
 rintro e w2 ⟨rfl,hw⟩
 obtain rfl:=hw.symm
 clear hw
 go_wp2
 go_loopw [5,6] (fun o i wr=>∃ k:Nat,k≤L∧i=.int .i64 ((k:Int)-1)∧Hid (Sl .u64 wr o (wd 18446744073709551616 (X^(n/2^k)))∧But [] w wr)) (fun _ i _=>(intOf i+1).toNat)
 case atStart=>exact ⟨L,Nat.le_refl _,rfl,by rw [← unhide hst];exact unhide H1,unhide B1⟩
 case round =>
  obtain ⟨k,hk,rfl,HI⟩:=hrel
  rename World=>wr
  by_cases hk0:k=0
  ·subst hk0
   go_wp2
   go_ret
   have h:=(unhide HI).1
   rw [Nat.pow_zero,Nat.div_one] at h
   exact ⟨_,rfl,h,(unhide HI).2⟩
  ·obtain ⟨i,rfl⟩:∃ i,k=i+1:=⟨k-1,by omega⟩
   rw [show (((i+1:Nat):Int)-1)=(i:Int) from by omega]
   have hq:n/2^i<9223372036854775808:=by have:=Nat.div_le_self n (2^i);omega
   have E1:bits .and .i64 ((n:Int)/2^i) 1=((n/2^i%2:Nat):Int):=by
    have e:(n:Int)/2^i=((n/2^i:Nat):Int):=by simp
    rw [e,i64_and1 _ hq]
   obtain ⟨a,c,ho⟩:∃ a c,u5=.slice a (wd 18446744073709551616 (X^(n/2^(i+1)))).length c:=by obtain ⟨a,c,e,-,-⟩:=(unhide HI).1;exact ⟨a,c,e⟩
   have MU:=hide (natMul_any u5 u5 _ _ wr (unhide HI).1 (unhide HI).1 (by have:=(unhide hlen (i+1)).1;omega))
   have L2:=hide (unhide hlen2 i)
   subst ho
   generalize hm:(wd 18446744073709551616 (X^(n/2^(i+1)))).length=m at *
   clear hm
   rcases Nat.mod_two_eq_zero_or_one (n/2^i) with hpar | hpar
   ·have e1:(((n/2^i%2:Nat):Int)==1)=false:=by rw [hpar];rfl
    have EV:=hide (pow_even X n i hpar)
    generalize n/2^i%2=b at *
    go_wp2_with fail
    refine (unhide MU).mono ?_
    rintro e w3 ⟨v3,rfl,hv3,hb3,-⟩
    rw [unhide EV] at hv3
    have H3:=hide hv3
    have B3:Hid (But [] w w3):=(unhide HI).2.trans' hb3
    clear hv3 hb3
    go_wp2
    refine ⟨⟨i,by omega,rfl,unhide H3,unhide B3⟩,?_⟩
    simp [intOf]
   ·have e1:(((n/2^i%2:Nat):Int)==1)=true:=by rw [hpar];rfl
    have EV:=hide (pow_odd X n i hpar)
    generalize n/2^i%2=b at *
    go_wp2_with fail
    refine (unhide MU).mono ?_
    rintro e w3 ⟨v3,rfl,hv3,hb3,-⟩
    have B3:Hid (But [] w w3):=(unhide HI).2.trans' hb3
    have MX:=hide (natMul_any v3 (.slice xa nx xc) _ X w3 hv3 ((unhide HV).but_nil (unhide B3)) (by rw [unhide HNX];have:=unhide L2;omega))
    obtain ⟨a3,c3,e3,-,-⟩:=hv3
    subst e3
    clear hb3
    rw [unhide EV] at MX
    generalize (wd 18446744073709551616 (X^(n/2^(i+1))*X^(n/2^(i+1)))).length=m3 at *
    go_wp2_with fail
    refine (unhide MX).mono ?_
    rintro e w4 ⟨v4,rfl,hv4,hb4,-⟩
    have H4:=hide hv4
    have B4:Hid (But [] w w4):=(unhide B3).trans' hb4
    clear hv4 hb4
    go_wp2
    refine ⟨⟨i,by omega,rfl,unhide H4,unhide B4⟩,?_⟩
    simp [intOf]
end Go.Proofs.YtollloafckcogaaGreatDoor

namespace Go.Proofs.YtollloafckcogaaGreatDoor
open Go.RowKit
set_option maxHeartbeats 2000000
set_option maxRecDepth 100000
theorem Row.but {k:IntKind} {w w':World} {g:Nat} {rs:List Nat} {l:List Nat} (h:Row k w g rs) (hb:But l w w') (hn:g ∉ l):Row k w' g rs:=fun i hi=>by
 obtain ⟨h1,h2⟩:=h i hi
 have hl:=lt_of_cell h1
 exact ⟨hb.cell_some h1 hn,(hb.frozen hl hn).trans h2⟩
theorem reverse_any (g cap:Nat) (bs:List Nat) (w:World) (hr:Row .u8 w g bs) (h0:0<bs.length) (hl:bs.length<1073741824) :
  Calls Tryz.prog 160 #[.slice (some ⟨g,0,none⟩) bs.length cap] w fun e w'=>e=.returned (.tuple #[])∧Row .u8 w' g bs.reverse∧But [g] w w':=by
 have mixed:Tryz.prog.follows .mixedOrders=true:=by kernel_rfl
 have HR:=hide hr
 clear hr
 obtain ⟨n,hn⟩:∃ n,n=bs.length:=⟨_,rfl⟩
 rw [← hn] at h0 hl ⊢
 have HN:=hide hn
 clear hn
 go_enter Tryz.func160,Tryz.ntmps160
 go_wp2
 go_loopw [2,3] (fun i j wq=>∃ (k q:Nat) (cs:List Nat),i=.int .i64 k∧j=.int .i64 q∧k≤q+1∧Hid (k+q+1=n∧RevInv bs cs k∧Row .u8 wq g cs∧But [g] w wq)) (fun i _ _=>n-(intOf i).toNat)
 case atStart=>exact ⟨0,n-1,bs,rfl,by congr 1;omega,by omega,by omega,RevInv.start _,unhide HR,But.refl _ _⟩
 case round =>
  obtain ⟨k,q,cs,rfl,rfl,hkq,HJ⟩:=hrel
  rename World=>wq
  have hcl:cs.length=n:=by rw [(unhide HJ).2.1.len,unhide HN]
  have hsum:=(unhide HJ).1
  by_cases hlt:k<q
  ·obtain ⟨ck,fk⟩:=(unhide HJ).2.2.1 k (by omega)
   obtain ⟨cq,fq⟩:=(unhide HJ).2.2.1 q (by omega)
   have ST:=hide ((unhide HJ).2.1.step (by rw [← unhide HN];omega))
   have hq:q=n-1-k:=by omega
   rw [← unhide HN,← hq] at ST
   have HC:=hide hcl
   have HS:=hide hsum
   have ne1:k≠q:=by omega
   have hk1:k<n:=by omega
   have hq1:q<n:=by omega
   clear hcl hsum hq
   generalize hx:cs[k]?.getD 0=x at *
   generalize hy:cs[q]?.getD 0=y at *
   clear hx hy
   go_wp2_with fail
   go_region_o
   go_wp2
   refine ⟨⟨k+1,q-1,(cs.set k y).set q x,by go_num,by rw [Int.ofNat_sub (by omega)];rfl,by omega,by have:=unhide HS;omega,unhide ST,?_,?_⟩,?_⟩
   ·exact (((unhide HJ).2.2.1.set k (by rw [unhide HC];have:=unhide HS;omega) y).set q (by rw [List.length_set,unhide HC];have:=unhide HS;omega) x).but ((But.refl [] _).drew) (by simp)
   ·exact (((unhide HJ).2.2.2.setCell (p:=⟨g,k,none⟩) (.inl (by simp)) (.int .u8 (y:Int))).setCell (p:=⟨g,q,none⟩) (.inl (by simp)) (.int .u8 (x:Int))).drew
   ·have:=unhide HS
    simp [intOf];omega
  ·have hfin:cs=bs.reverse:=(unhide HJ).2.1.fin (by rw [← unhide HN];omega)
   have HF:=hide hfin
   clear hfin hcl hsum
   go_wp2
   go_end0
   exact ⟨rfl,by rw [← unhide HF];exact (unhide HJ).2.2.1,(unhide HJ).2.2.2⟩
end Go.Proofs.YtollloafckcogaaGreatDoor

namespace Go.Proofs.YtollloafckcogaaGreatDoor
open Go.RowKit
theorem ten608:(10:Nat)^608 < 18446744073709551616^33:=by decide +kernel
end Go.Proofs.YtollloafckcogaaGreatDoor

namespace Go.Proofs.YtollloafckcogaaGreatDoor
open Go.RowKit
theorem append_byte (w:World) (base:Nat) (v:Value) (ds:List UInt8) (hown:w.ownsRow base 5 1 v ds.length (ds.map u8v)) (a:Addr) (d:UInt8) (hc:w.cell? a=some (u8v d)) (hl:ds.length<1073741824) (hb:base≤w.heap.size) :
  ∃ v' w',(Builtin.append_ #[136,136] 136 #[v,.slice (some a) 1 1]).run Tryz.prog w=.ok v' w'∧w'.ownsRow base 5 1 v' (ds++[d]).length ((ds++[d]).map u8v)∧w.grownBy w' v.ownBlock∧(v'.ownBlock=v.ownBlock∨∀ k,v'.ownBlock=some k→w.heap.size≤k):=by
 obtain ⟨i0,hi,hz0,hz1,hz2⟩:=info_u8
 have hnews:∀ j u,[u8v d][j]? = some u→w.cell? (a.add j)=some u:=fun j u hj=>by
  cases j with
  | zero=>simp at hj;subst hj;rw [show a.add 0=a from by simp [Addr.add]];exact hc
  | succ j=>simp at hj
 have h1:∀ u ∈ [u8v d],u.oneCell'=true:=fun u hu=>by simp at hu;subst hu;rfl
 have hrun:=fun (base:Nat) (ho:w.ownsRow base 5 1 v ds.length (ds.map u8v)) (hb:base≤w.heap.size)=>run_append_own (P:=Tryz.prog) w base 136 136 5 i0 (.int .u8 0) 1 1 Tryz.underlying136 hi hz0 hz1 hz2 rfl (by decide) v ds.length (ds.map u8v) ho a 1 1 [u8v d] rfl hnews h1 (by unfold maxLen;omega) (by omega) hb
 obtain ⟨v',w',hr,ho',hg',-⟩:=hrun base hown hb
 refine ⟨v',w',hr,by rw [List.length_append,List.map_append];exact ho',hg',?_⟩
 rcases hown.2 with ⟨rfl,-⟩ | ⟨g,cap,cur,rfl,-,hgc,hnc,hcm,hcs,htake⟩
 ·have hd:ds=[]:=by
   obtain ⟨hx,hy | ⟨g,cap,cur,e,-⟩⟩:=hown
   ·exact List.eq_nil_of_length_eq_zero hy.2
   ·simp at e
  subst hd
  obtain ⟨v2,w2,hr2,ho2,-,-⟩:=hrun w.heap.size (World.ownsRow_nil _ _ _ _) (Nat.le_refl _)
  rw [hr] at hr2
  simp only [Result.ok.injEq] at hr2
  obtain ⟨rfl,rfl⟩:=hr2
  exact .inr fun k hk=>(ho2.lt k hk).1
 ·by_cases hroom:ds.length+1≤cap
  ·have h2:=run_append_room (P:=Tryz.prog) w 136 136 5 i0 Tryz.underlying136 hi g ds.length cap cur hgc a 1 1 [u8v d] (by rw [hz1];rfl) hnews h1 hroom (by rw [hz1,hcs];simp;omega)
   rw [hr] at h2
   simp only [Result.ok.injEq] at h2
   rw [h2.1]
   exact .inl rfl
  ·have h2:=run_append_grow (P:=Tryz.prog) w 136 136 5 i0 (.int .u8 0) Tryz.underlying136 hi hz0 ⟨g,0,none⟩ ds.length cap (ds.map u8v) (by rw [hz1];simp) (hown.cells rfl) a 1 1 [u8v d] (by rw [hz1];rfl) hnews (by omega) (by omega) (growslice_fits (by omega) (by rw [hz2];omega))
   rw [hr] at h2
   simp only [Result.ok.injEq] at h2
   rw [h2.1]
   refine .inr fun k hk=>?_
   simp only [Value.ownBlock,Option.some.injEq] at hk
   omega
end Go.Proofs.YtollloafckcogaaGreatDoor

namespace Go.Proofs.YtollloafckcogaaGreatDoor
open Go.RowKit
def wdig (W X:Nat):List UInt8:=rdig X++List.replicate (W-(rdig X).length) 48
theorem wdig_zero (X:Nat):wdig 0 X=rdig X:=by simp [wdig]
theorem pdig_nought:∀ k,pdig k 0=List.replicate k 48
 | 0=>rfl
 | k+1=>by rw [pdig,Nat.zero_div,pdig_nought k,List.replicate_succ];rfl
theorem pdig_wdig:∀ k n,n<10^k→pdig k n=wdig k n
 | 0,n,h=>by
  have:n=0:=by simp at h;omega
  subst this;simp [pdig,wdig,rdig_zero]
 | k+1,n,h=>by
  by_cases h0:0<n
  ·rw [pdig,pdig_wdig k (n/10) (by rw [Nat.div_lt_iff_lt_mul (by omega)];rw [Nat.pow_succ] at h;exact h),wdig,wdig,rdig_pos h0,List.cons_append,List.length_cons,Nat.add_sub_add_right]
  ·have:n=0:=by omega
   subst this;rw [pdig_nought,wdig,rdig_zero];simp
theorem pdig_add:∀ a b n,pdig (a+b) n=pdig a n++pdig b (n/10^a)
 | 0,b,n=>by simp [pdig]
 | a+1,b,n=>by
  rw [Nat.succ_add,pdig,pdig_add a b,pdig,List.cons_append,Nat.div_div_eq_div_mul,Nat.pow_succ,Nat.mul_comm 10]
theorem wdig_long (D X:Nat) (h:10^D≤X):wdig 0 X=wdig D (X%10^D)++wdig 0 (X/10^D):=by
 rw [wdig_zero,wdig_zero,rdig_part D X h,← pdig_mod D X,pdig_wdig D _ (Nat.mod_lt _ (Nat.pow_pos (by omega)))]
theorem wdig_wide (D X:Nat) (h:X<10^(D+D)):wdig (D+D) X=wdig D (X%10^D)++wdig D (X/10^D):=by
 have hp:0<10^D:=Nat.pow_pos (by omega)
 rw [← pdig_wdig _ _ h,pdig_add,← pdig_mod D X,pdig_wdig D _ (Nat.mod_lt _ hp),pdig_wdig D (X/10^D) (by rw [Nat.div_lt_iff_lt_mul hp,← Nat.pow_add];exact h)]
theorem wdig_length (W X:Nat):(wdig W X).length=max W (rdig X).length:=by
 rw [wdig,List.length_append,List.length_replicate];omega
theorem wdig_pos (W X:Nat) (h:0<X∨0<W):0<(wdig W X).length:=by
 rw [wdig_length]
 rcases h with h | h
 ·rw [rdig_pos h];simp;omega
 ·omega
def Keep64 (w w':World):Prop:=∀ v xs,Sl .u64 w v xs→Sl .u64 w' v xs
theorem Keep64.of_but {w w':World} (h:But [] w w'):Keep64 w w':=fun _ _ hs=>hs.but_nil h
theorem Keep64.trans {a b c:World} (h:Keep64 a b) (k:Keep64 b c):Keep64 a c:=fun v xs hs=>k v xs (h v xs hs)
theorem keep_grown {w w':World} {base:Nat} {vo:Value} {ods:List UInt8} (ho:w.ownsRow base 5 1 vo ods.length (ods.map u8v)) (hn:vo=.slice none 0 0∨0<ods.length) (hg:w.grownBy w' vo.ownBlock):Keep64 w w':=by
 intro v xs hs
 rcases hn with rfl | h0
 ·exact hs.but_nil (grown_but_none hg)
 ·obtain ⟨g,cap,rfl,-,-,hr⟩:=owns_row ho h0
  exact hs.over (grown_but hg) (hr 0 (by simpa using h0)).1 (by simp)
theorem below_grown {w w':World} {base:Nat} {vo:Value} {n:Nat} {xs:List Value} (ho:w.ownsRow base 5 1 vo n xs) (hb:base≤w.heap.size) (hg:w.grownBy w' vo.ownBlock):Below base w w' :=
 ⟨hg.os,hg.tape,hg.output,hg.size,fun k hk=>hg.block k (by omega) (fun e=>by have:=(ho.lt k e.symm).1;omega)⟩
theorem But.below_of {w w':World} {base:Nat} (h:But [] w w') (hb:base≤w.heap.size):Below base w w':=⟨h.os,h.tape,h.output,h.size,fun k hk=>h.block k (by omega) (by simp)⟩
theorem below_trans {a b c:World} {n:Nat} (h:Below n a b) (k:Below n b c):Below n a c :=
 ⟨k.os.trans h.os,k.tape.trans h.tape,k.output.trans h.output,Nat.le_trans h.size k.size,fun i hi=>(k.block i hi).trans (h.block i hi)⟩
theorem owns_shape {w:World} {base:Nat} {e:TypeId} {v:Value} {n:Nat} {xs:List Value} (h:w.ownsRow base e 1 v n xs):∃ a c,v=.slice a n c:=by
 obtain ⟨-,h2⟩:=h
 rcases h2 with ⟨rfl,rfl⟩ | ⟨g,cap,cur,e1,-⟩
 ·exact ⟨_,_,rfl⟩
 ·exact ⟨_,_,e1⟩
end Go.Proofs.YtollloafckcogaaGreatDoor

namespace Go.Proofs.YtollloafckcogaaGreatDoor
open Go.RowKit
set_option maxHeartbeats 4000000
set_option maxRecDepth 100000
def tenP (j:Nat):Nat:=10^(608*2^j)
theorem tenP_zero:tenP 0=10^608:=by unfold tenP;rw [Nat.pow_zero,Nat.mul_one]
theorem tenP_succ (j:Nat):tenP (j+1)=tenP j*tenP j:=by
 unfold tenP
 rw [← Nat.pow_add,Nat.pow_succ,← Nat.mul_two,Nat.mul_assoc]
theorem tenP_pos (j:Nat):0<tenP j:=Nat.pow_pos (by omega)
theorem tenP_gt (j:Nat):j<tenP j:=by
 unfold tenP
 have h1:j<2^j:=Nat.lt_two_pow_self
 have h2:608*2^j<10^(608*2^j):=Nat.lt_pow_self (by omega)
 omega
theorem tenP_below (X j n:Nat) (hl:(wd 18446744073709551616 X).length≤n) (h:tenP j≤X):1824*2^j<64*n:=by
 have h1:X < 18446744073709551616^n:=lt_of_wd_length (by omega) X _ hl
 have h2:(2:Nat)^(1824*2^j)≤tenP j:=by
  unfold tenP
  have e:(2:Nat)^(1824*2^j)=(2^3)^(608*2^j):=by rw [← Nat.pow_mul,← Nat.mul_assoc]
  rw [e]
  exact Nat.pow_le_pow_left (by omega) _
 have h3:(18446744073709551616:Nat)^n=2^(64*n):=by rw [Nat.pow_mul]
 rw [h3] at h1
 have h4:(2:Nat)^(1824*2^j)<2^(64*n):=Nat.lt_of_le_of_lt h2 (Nat.lt_of_le_of_lt h h1)
 exact (Nat.pow_lt_pow_iff_right (by omega:1<2)).1 h4
theorem info_nat:∃ i,Tryz.prog.info? 82 = some i∧i.zero=some (.slice none 0 0)∧i.size=1∧i.bytes=24:=by
 have h:(Tryz.prog.info? 82).map (fun i=>(i.zero,i.size,i.bytes))=some (some (.slice none 0 0),1,24):=by kernel_rfl
 obtain ⟨i,hi,he⟩:=Option.map_eq_some_iff.1 h
 simp only [Prod.mk.injEq] at he
 exact ⟨i,hi,he.1,he.2.1,he.2.2⟩
theorem keep_grown_of {w w':World} {base:Nat} {e:TypeId} {vo:Value} {n:Nat} {xs:List Value} (ho:w.ownsRow base e 1 vo n xs) (hn:vo=.slice none 0 0∨∃ u,xs[0]? = some u∧∀ m:Int,u≠.int .u64 m) (hg:w.grownBy w' vo.ownBlock):Keep64 w w':=by
 intro v ws hs
 cases hb:vo.ownBlock with
 | none=>rw [hb] at hg;exact hs.but_nil (grown_but_none hg)
 | some g =>
  rw [hb] at hg
  rcases hn with rfl | ⟨u,hu,hne⟩
  ·simp [Value.ownBlock] at hb
  ·have hc:=ho.cells hb 0 u hu
   rw [show (⟨g,0,none⟩:Addr).add 0=⟨g,0,none⟩ from by simp [Addr.add]] at hc
   exact hs.over (grown_but hg) hc hne
structure PowAt (w:World) (X:Nat) (us:List Value) (vo vp:Value) (wr:World):Prop where
 own:wr.ownsRow w.heap.size 82 1 vo us.length us
 all:∀ j u,us[j]? = some u→Sl .u64 wr u (wd 18446744073709551616 (tenP j))
 pow:Sl .u64 wr vp (wd 18446744073709551616 (tenP us.length))
 but:But [] w wr
 low:∀ j,j<us.length→tenP j≤X
 nil:vo=.slice none 0 0∨0<us.length
theorem PowAt.le {w:World} {X:Nat} {us:List Value} {vo vp:Value} {wr:World} (h:PowAt w X us vo vp wr):us.length≤X:=by
 rcases Nat.eq_zero_or_pos us.length with h0 | h0
 ·omega
 ·have h1:=h.low (us.length-1) (by omega)
  have h2:=tenP_gt (us.length-1)
  omega
theorem PowAt.first {w:World} {X:Nat} {us:List Value} {vo vp:Value} {wr:World} (h:PowAt w X us vo vp wr):vo=.slice none 0 0∨∃ u,us[0]? = some u∧∀ m:Int,u≠.int .u64 m:=by
 rcases h.nil with h0 | h0
 ·exact .inl h0
 ·refine .inr ⟨us[0],List.getElem?_eq_getElem h0,fun m e=>?_⟩
  have:=h.all 0 us[0] (List.getElem?_eq_getElem h0)
  rw [e] at this
  obtain ⟨a,c,h1,-⟩:=this
  simp at h1
theorem PowAt.drewN {w:World} {X:Nat} {us:List Value} {vo vp:Value} {wr:World} (h:PowAt w X us vo vp wr) (q:Nat):PowAt w X us vo vp (wr.drewN q) :=
 ⟨owns_but h.own ((But.refl [] _).drewN q),fun j u hj=>(h.all j u hj).but_nil ((But.refl [] _).drewN q),h.pow.but_nil ((But.refl [] _).drewN q),h.but.drewN q,h.low,h.nil⟩
theorem PowAt.plen {w:World} {X:Nat} {us:List Value} {vo vp:Value} {wr:World} (h:PowAt w X us vo vp wr):(wd 18446744073709551616 (tenP us.length)).length≤(wd 18446744073709551616 X).length+(wd 18446744073709551616 X).length+33:=by
 rcases Nat.eq_zero_or_pos us.length with h0 | h0
 ·rw [h0,tenP_zero]
  have:=wd_length_le (B:=18446744073709551616) (by omega) _ _ ten608
  omega
 ·obtain ⟨j,hj⟩:∃ j,us.length=j+1:=⟨us.length-1,by omega⟩
  have h1:=wd_len_mono (h.low j (by omega))
  have h2:=wd_len_mul (tenP j) (tenP j)
  rw [hj,tenP_succ]
  omega
theorem PowAt.more {w:World} {X:Nat} {us:List Value} {vo vp:Value} {wr:World} (h:PowAt w X us vo vp wr) (hle:tenP us.length≤X) (hul:us.length<35088) (W:World) (hW:W=wr.alloc (.cells #[vp] 82)) :
  ∃ v3 w3,(Builtin.append_ #[138,138] 138 #[vo,.slice (some ⟨wr.heap.size,0,none⟩) 1 1]).run Tryz.prog W=.ok v3 w3∧w3.ownsRow w.heap.size 82 1 v3 (us++[vp]).length (us++[vp])∧(∀ j u,(us++[vp])[j]? = some u→Sl .u64 w3 u (wd 18446744073709551616 (tenP j)))∧Sl .u64 w3 vp (wd 18446744073709551616 (tenP us.length))∧But [] w w3∧(∀ j,j<(us++[vp]).length→tenP j≤X)∧Keep64 wr w3:=by
 obtain ⟨i0,hi,hz0,hz1,hz2⟩:=info_nat
 subst hW
 have hp1:vp.oneCell'=true:=by
  obtain ⟨a,c,rfl,-⟩:=h.pow
  rfl
 have hc:(wr.alloc (.cells #[vp] 82)).cell? ⟨wr.heap.size,0,none⟩=some vp:=by simp
 have hbs:=h.but.size
 obtain ⟨v3,w3,hr,ho,hg,-⟩:=run_append_own (P:=Tryz.prog) (wr.alloc (.cells #[vp] 82)) w.heap.size 138 138 82 i0 (.slice none 0 0) 1 24 Tryz.underlying138 hi hz0 hz1 hz2 rfl (by decide) vo us.length us (h.own.alloc _) ⟨wr.heap.size,0,none⟩ 1 1 [vp] rfl (fun j u hj=>by
  cases j with
  | zero=>simp at hj;subst hj;rw [show (⟨wr.heap.size,0,none⟩:Addr).add 0=⟨wr.heap.size,0,none⟩ from by simp [Addr.add]];exact hc
  | succ j=>simp at hj) (fun u hu=>by simp at hu;subst hu;exact hp1) (by unfold maxLen;omega) (by omega) (by simp;omega)
 have hK:Keep64 wr w3:=(Keep64.of_but ((But.refl [] wr).alloc _)).trans (keep_grown_of (h.own.alloc _) h.first hg)
 refine ⟨v3,w3,hr,by rw [List.length_append];exact ho,fun j u hj=>?_,hK _ _ h.pow,(h.but.alloc _).grown hg (fun k hk=>(h.own.lt k hk).1),fun j hj=>?_,hK⟩
 ·rcases Nat.lt_or_ge j us.length with hl | hl
  ·rw [List.getElem?_append_left hl] at hj
   exact hK _ _ (h.all j u hj)
  ·have he:j=us.length:=by
    have:=(List.getElem?_eq_some_iff.1 hj).1
    simp at this
    omega
   subst he
   simp at hj
   subst hj
   exact hK _ _ h.pow
 ·simp at hj
  rcases Nat.lt_or_ge j us.length with hl | hl
  ·exact h.low j hl
  ·rw [show j=us.length from by omega];exact hle
theorem powersFor_any (v:Value) (X:Nat) (w:World) (hv:Sl .u64 w v (wd 18446744073709551616 X)) (hl:(wd 18446744073709551616 X).length≤1000000) :
  Calls Tryz.prog 84 #[v] w fun e w'=>∃ vo us,e=.returned vo∧w'.ownsRow w.heap.size 82 1 vo us.length us∧(∀ j u,us[j]? = some u→Sl .u64 w' u (wd 18446744073709551616 (tenP j)))∧But [] w w'∧(∀ j,j<us.length→tenP j≤X)∧X<tenP us.length:=by
 have h10:(wd 18446744073709551616 (10^608)).length≤33:=wd_length_le (by omega) _ _ ten608
 have h1:(wd 18446744073709551616 10).length≤1:=wd_length_le (by omega) _ _ (by omega)
 have PW:Hid (∀ (v1:Value) (W:World),Sl .u64 W v1 (wd 18446744073709551616 10)→Calls Tryz.prog 128 #[v1,.int .i64 608] W fun e w'=>∃ v',e=.returned v'∧Sl .u64 w' v' (wd 18446744073709551616 (tenP 0))∧But [] W w'):=fun v1 W h=>by
  rw [tenP_zero]
  exact natPow_any v1 10 608 W h (by omega) (by omega) (Nat.lt_of_le_of_lt (Nat.add_le_add h1 h10) (by omega))
 have HV:=hide hv
 have HLX:=hide hl
 clear hv h10 h1 hl
 obtain ⟨xa,xc,rfl,-,-⟩:=unhide HV
 generalize hnx:(wd 18446744073709551616 X).length=nx at *
 have NX:=hide hnx
 clear hnx
 go_enter Tryz.func84,Tryz.ntmps84
 go_wp2_with fail
 refine (natOf_any 10 (by omega) _).mono ?_
 rintro e w1 ⟨v1,rfl,hv1,hb1,-⟩
 have H1:=hide hv1
 have B1:=hide hb1
 clear hv1 hb1
 go_wp2_with fail
 refine (unhide PW v1 _ (unhide H1)).mono ?_
 rintro e w2 ⟨v2,rfl,hv2,hb2⟩
 have A0:Hid (∃ us,PowAt w X us (.slice none 0 0) v2 w2∧X+1+us.length=X+1 ):=⟨[],⟨World.ownsRow_nil _ _ _ _,fun j u h=>by simp at h,hv2,(unhide B1).trans' hb2,fun j h=>by simp at h,.inl rfl⟩,by simp⟩
 clear hv2 hb2 B1 H1 PW
 go_wp2_with fail
 go_loopg [3,4] (X+1) (fun k vo vp wr=>Hid (∃ us,PowAt w X us vo vp wr∧k+us.length=X+1))
 case atStart=>exact A0
 case round =>
  clear A0
  obtain ⟨us,hI,hk⟩:=unhide hrel
  clear hrel
  rename World=>wr
  obtain ⟨oa,oc,hoe⟩:=owns_shape hI.own
  have hpl:=hI.plen
  rw [unhide NX] at hpl
  have hlx:=unhide HLX
  have CM:=hide (natCmp_any _ _ (tenP us.length) X wr hI.pow ((unhide HV).but_nil hI.but) (by omega) (by rw [unhide NX];omega))
  obtain ⟨pa,pc,hpe,-,-⟩:=id hI.pow
  rcases Nat.lt_or_ge X (tenP us.length) with hlt | hge
  ·have hc:cmpN (tenP us.length) X=1:=by
    rcases cmpN_cases (tenP us.length) X with ⟨h,-⟩ | ⟨h,-⟩ | ⟨-,h⟩
    ·omega
    ·omega
    ·exact h
   rw [hc] at CM
   have FIN:=hide (And.intro hI (And.intro hlt hoe))
   subst hoe hpe
   clear hI hpl hlt hc hk
   generalize (wd 18446744073709551616 (tenP us.length)).length=np at *
   go_wp2_with fail
   refine (unhide CM).mono ?_
   rintro e w3 ⟨rfl,q,rfl⟩
   go_wp2
   go_ret
   exact ⟨_,us,rfl,(unhide FIN).1.own,(unhide FIN).1.all,(unhide FIN).1.but.drewN q,(unhide FIN).1.low,(unhide FIN).2.1⟩
  ·have hc:cmpN (tenP us.length) X≤0:=by
    rcases cmpN_cases (tenP us.length) X with ⟨-,h⟩ | ⟨-,h⟩ | ⟨h,-⟩
    ·omega
    ·omega
    ·omega
   generalize cmpN (tenP us.length) X=r at *
   have hr:decide (r≤0)=true:=by simp;omega
   have hL:us.length≤X:=hI.le
   have h35:=tenP_below X us.length nx (by rw [unhide NX];exact Nat.le_refl _) hge
   have hul:us.length<35088:=Nat.lt_trans Nat.lt_two_pow_self (by omega)
   have HI:=hide hI
   have HR:=hide (And.intro hk (And.intro hL hge))
   obtain ⟨np,hnp⟩:∃ np,np=(wd 18446744073709551616 (tenP us.length)).length:=⟨_,rfl⟩
   have NP:=hide hnp
   rw [← hnp] at hpe hpl
   have hnp0:0<np:=by
    rw [hnp,Nat.pos_iff_ne_zero];intro e;rw [wd_len_zero (by omega)] at e
    have:=tenP_pos us.length
    omega
   have MO:=hide (fun q=>(hI.drewN q).more hge hul _ rfl)
   have MU:=hide (fun W (h:Sl .u64 W u4 (wd 18446744073709551616 (tenP us.length)))=>natMul_any u4 u4 _ _ W h h (by rw [← hnp];omega))
   rw [← tenP_succ] at MU
   clear hI hk hL hge h35 hnp hc
   have SH:=hide hoe
   generalize us.length=L at hoe hul
   subst hoe hpe
   have hmul:wrap64 (2*(np:Int))=2*(np:Int):=by unfold wrap64;omega
   go_wp2_with fail
   refine (unhide CM).mono ?_
   rintro e w3 ⟨rfl,q,rfl⟩
   obtain ⟨v3,w3,hr3,ho3,ha3,hs3,hb3,hl3,hk3⟩:=unhide MO q
   have HR3:=hide hr3
   have AL:=hide (And.intro ho3 (And.intro ha3 (And.intro hs3 (And.intro hb3 hl3))))
   clear hr3 ho3 ha3 hs3 hb3 hl3 hk3 MO
   by_cases hbr:nx<2*np-1
   ·have hbi:(nx:Int)<2*(np:Int)-1:=by omega
    have FIN:Hid (X<tenP (us++[Value.slice pa np pc]).length):=by
     have h1:X < 18446744073709551616^nx:=lt_of_wd_length (by omega) X _ (Nat.le_of_eq (unhide NX))
     have h2:18446744073709551616^(np-1)≤tenP us.length:=by
      rcases Nat.lt_or_ge (tenP us.length) (18446744073709551616^(np-1)) with h | h
      ·have:=wd_length_le (B:=18446744073709551616) (by omega) _ _ h
       rw [← unhide NP] at this
       omega
      ·exact h
     show _<_
     rw [List.length_append,List.length_singleton,tenP_succ]
     refine Nat.lt_of_lt_of_le h1 (Nat.le_trans ?_ (Nat.mul_le_mul h2 h2))
     rw [← Nat.pow_add]
     exact Nat.pow_le_pow_right (by omega) (by omega)
    clear HI MU CM HR NP SH
    go_wp2_with (at_builtin;refine wpList_app rfl _ _ 138 138 rfl _ _ v3 w3 rfl rfl (unhide HR3) ?_)
    go_ret
    exact ⟨v3,_,rfl,(unhide AL).1,(unhide AL).2.1,(unhide AL).2.2.2.1,(unhide AL).2.2.2.2,unhide FIN⟩
   ·have hbi:¬ ((nx:Int)<2*(np:Int)-1):=by omega
    clear CM
    go_wp2_with (at_builtin;refine wpList_app rfl _ _ 138 138 rfl _ _ v3 w3 rfl rfl (unhide HR3) ?_)
    go_wp2_with fail
    refine (unhide MU _ (unhide AL).2.2.1).mono ?_
    rintro e w4 ⟨v4,rfl,hv4,hb4,-⟩
    have R:Hid (∃ us',PowAt w X us' v3 v4 w4∧gk-1+us'.length=X+1):=by
     refine ⟨_,⟨owns_but (unhide AL).1 hb4,fun j u hj=>((unhide AL).2.1 j u hj).but_nil hb4,?_,(unhide AL).2.2.2.1.trans' hb4,(unhide AL).2.2.2.2,.inr (by simp)⟩,?_⟩
     ·rw [List.length_append,List.length_singleton];exact hv4
     ·have:=unhide HR
      rw [List.length_append,List.length_singleton]
      omega
    have GK:Hid (0<gk):=by have:=unhide HR;show _<_;omega
    clear hv4 hb4 AL HI HR MU NP
    go_wp2
    go_roundg (gk-1)
    case measure=>have:=unhide GK;omega
    case rel=>exact unhide R
end Go.Proofs.YtollloafckcogaaGreatDoor
