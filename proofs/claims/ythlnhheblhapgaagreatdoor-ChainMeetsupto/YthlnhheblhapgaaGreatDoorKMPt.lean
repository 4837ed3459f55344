/- Decimal digits and rows of bytes, plain. -/
import Derived.Test.YthlnhheblhapgaaGreatDoorProg
import Derived.Deep.LoopGhost
import Derived.Lib.ItoaNum
import Derived.Laws.IdiomStrings
import Derived.OwnWalk
import Derived.WalkSpells
import Derived.Deep.RegionHeld
import Derived.Test.YthlnhheblhapgaaGreatDoorKMN15
import Derived.Test.YthlnhheblhapgaaGreatDoorKMShelf
namespace Go.Proofs.YthlnhheblhapgaaGreatDoor
open Go.RowKit
theorem But.grown {a w w':World} {row:Option Nat} (h:But [] a w) (hg:w.grownBy w' row) (hr:∀ k,row=some k→a.heap.size≤k):But [] a w' :=
 ⟨hg.os.trans h.os,hg.tape.trans h.tape,hg.output.trans h.output,Nat.le_trans h.size hg.size,fun k hk hn=>by
  rw [hg.block k (Nat.lt_of_lt_of_le hk h.size) (fun e=>by have:=hr k e.symm;omega)]
  exact h.block k hk hn⟩
theorem grown_but {w w':World} {g:Nat} (hg:w.grownBy w' (some g)):But [g] w w' :=
 ⟨hg.os,hg.tape,hg.output,hg.size,fun k hk hn=>hg.block k hk (fun e=>hn (by simp only [Option.some.injEq] at e;simp [e]))⟩
theorem grown_but_none {w w':World} (hg:w.grownBy w' none):But [] w w' :=
 ⟨hg.os,hg.tape,hg.output,hg.size,fun k hk _=>hg.block k hk (by simp)⟩
theorem owns_but {w w':World} {base:Nat} {e:TypeId} {size:Nat} {v:Value} {n:Nat} {xs:List Value} (h:w.ownsRow base e size v n xs) (hb:But [] w w'):w'.ownsRow base e size v n xs:=by
 obtain ⟨h1,h2⟩:=h
 refine ⟨h1,?_⟩
 rcases h2 with h2 | ⟨g,cap,cur,e1,e2,e3,e4⟩
 ·exact .inl h2
 ·refine .inr ⟨g,cap,cur,e1,e2,?_,e4⟩
  have hlt:g<w.heap.size:=by
   rcases Nat.lt_or_ge g w.heap.size with h | h
   ·exact h
   ·rw [Array.getElem?_eq_none h] at e3;cases e3
  rw [hb.block g hlt (by simp)];exact e3
def u8v (b:UInt8):Value:=.int .u8 (b.toNat:Int)
def rdig (n:Nat):List UInt8:=if h:0<n then UInt8.ofNat (48+n%10)::rdig (n/10) else []
 termination_by n
 decreasing_by exact Nat.div_lt_self h (by omega)
theorem rdig_zero:rdig 0=[]:=by rw [rdig];simp
theorem rdig_pos {n:Nat} (h:0<n):rdig n=UInt8.ofNat (48+n%10)::rdig (n/10):=by rw [rdig,dif_pos h]
theorem rdig_rev (n:Nat) (h:0<n):(rdig n).reverse=Lib.decDigits n:=by
 induction n using Nat.strongRecOn with
 | _ n ih =>
  rw [rdig_pos h,List.reverse_cons,Lib.decDigits]
  by_cases h10:n<10
  ·rw [dif_pos h10,Nat.div_eq_of_lt h10,rdig_zero,Nat.mod_eq_of_lt h10];rfl
  ·rw [dif_neg h10,ih (n/10) (Nat.div_lt_self h (by omega)) (by omega)]
theorem rdig_length (n k:Nat) (h:n<10^k):(rdig n).length≤k:=by
 induction k generalizing n with
 | zero =>
  have:n=0:=by simp at h;omega
  subst this;simp [rdig_zero]
 | succ k ih =>
  by_cases hn:0<n
  ·rw [rdig_pos hn,List.length_cons]
   have:=ih (n/10) (by rw [Nat.div_lt_iff_lt_mul (by omega)];rw [Nat.pow_succ] at h;exact h)
   omega
  ·have:n=0:=by omega
   subst this;simp [rdig_zero]
theorem info_u8:∃ i,Tryz.prog.info? 5 = some i∧i.zero=some (.int .u8 0)∧i.size=1∧i.bytes=1:=by
 have h:(Tryz.prog.info? 5).map (fun i=>(i.zero,i.size,i.bytes))=some (some (.int .u8 0),1,1):=by kernel_rfl
 obtain ⟨i,hi,he⟩:=Option.map_eq_some_iff.1 h
 simp only [Prod.mk.injEq] at he
 exact ⟨i,hi,he.1,he.2.1,he.2.2⟩
structure RevInv (bs cs:List Nat) (i:Nat):Prop where
 len:cs.length=bs.length
 at':∀ k,k<bs.length→cs[k]?.getD 0=if k<i∨bs.length-i≤k then bs[bs.length-1-k]?.getD 0 else bs[k]?.getD 0
theorem RevInv.start (bs:List Nat):RevInv bs bs 0:=⟨rfl,fun k hk=>by rw [if_neg (by omega)]⟩
theorem getD_set (l:List Nat) (i k x:Nat) (hi:i<l.length):(l.set i x)[k]?.getD 0=if k=i then x else l[k]?.getD 0:=by
 by_cases h:k=i
 ·subst h;rw [List.getElem?_set_self hi,if_pos rfl];rfl
 ·rw [List.getElem?_set_ne (Ne.symm h),if_neg h]
theorem RevInv.step {bs cs:List Nat} {i:Nat} (h:RevInv bs cs i) (hij:i<bs.length-1-i):RevInv bs ((cs.set i (cs[bs.length-1-i]?.getD 0)).set (bs.length-1-i) (cs[i]?.getD 0)) (i+1):=by
 have hl:=h.len
 refine ⟨by simp [hl],fun k hk=>?_⟩
 have e1:cs[i]?.getD 0=bs[i]?.getD 0:=by rw [h.at' i (by omega),if_neg (by omega)]
 have e2:cs[bs.length-1-i]?.getD 0=bs[bs.length-1-i]?.getD 0:=by rw [h.at' (bs.length-1-i) (by omega),if_neg (by omega)]
 rw [getD_set _ _ _ _ (by simp [hl];omega),getD_set _ _ _ _ (by omega),e1,e2]
 by_cases h1:k=bs.length-1-i
 ·subst h1
  rw [if_pos rfl,if_pos (by omega),show bs.length-1-(bs.length-1-i)=i from by omega]
 ·rw [if_neg h1]
  by_cases h2:k=i
  ·subst h2
   rw [if_pos rfl,if_pos (by omega)]
  ·rw [if_neg h2,h.at' k hk]
   by_cases h3:k<i∨bs.length-i≤k
   ·rw [if_pos h3,if_pos (by omega)]
   ·rw [if_neg h3,if_neg (by omega)]
theorem RevInv.fin {bs cs:List Nat} {i:Nat} (h:RevInv bs cs i) (hij:bs.length≤2*i+1):cs=bs.reverse:=by
 refine List.ext_getElem (by simp [h.len]) fun k h1 h2=>?_
 have hk:k<bs.length:=by rw [← h.len];exact h1
 have e:=h.at' k hk
 rw [List.getElem?_eq_getElem h1,Option.getD_some] at e
 rw [e,List.getElem_reverse]
 by_cases h3:k<i∨bs.length-i≤k
 ·rw [if_pos h3,List.getElem?_eq_getElem (by omega)];rfl
 ·rw [if_neg h3,List.getElem?_eq_getElem hk,Option.getD_some]
  have:bs.length-1-k=k:=by omega
  simp only [this]
theorem owns_row {w:World} {base:Nat} {e:TypeId} {v:Value} {bs:List UInt8} (h:w.ownsRow base e 1 v bs.length (bs.map u8v)) (h0:0<bs.length) :
  ∃ g cap,v=.slice (some ⟨g,0,none⟩) bs.length cap∧base≤g∧bs.length≤cap∧Row .u8 w g (bs.map UInt8.toNat):=by
 obtain ⟨h1,h2⟩:=h
 rcases h2 with ⟨-,h2⟩ | ⟨g,cap,cur,e1,e2,e3,e4,e5,e6,e7⟩
 ·omega
 ·refine ⟨g,cap,e1,e2,e4,fun i hi=>?_⟩
  rw [List.length_map] at hi
  have hc:cur[i]? = some (u8v bs[i]):=by
   have:(cur.toList.take (bs.length*1))[i]? = some (u8v bs[i]):=by rw [e7,List.getElem?_map,List.getElem?_eq_getElem hi];rfl
   rw [List.getElem?_take_of_lt (by omega)] at this
   simpa using this
  refine ⟨?_,by simp [World.frozen?,e3]⟩
  simp only [World.cell?,e3,hc]
  simp [u8v,hi]
theorem u8v_digit (r:Nat) (h:r<10):Value.int .u8 (48+(r:Int))=u8v (UInt8.ofNat (48+r)):=by
 unfold u8v
 rw [UInt8.toNat_ofNat_of_lt' (by simp [UInt8.size];omega)]
 simp
def pdig:Nat→Nat→List UInt8
 | 0,_=>[]
 | k+1,r=>UInt8.ofNat (48+r%10)::pdig k (r/10)
theorem pdig_length:∀ k r,(pdig k r).length=k
 | 0,_=>rfl
 | k+1,r=>by rw [pdig,List.length_cons,pdig_length k]
theorem pdig_snoc:∀ k r,pdig (k+1) r=pdig k r++[UInt8.ofNat (48+r/10^k%10)]
 | 0,r=>by simp [pdig]
 | k+1,r=>by
  rw [pdig,pdig_snoc k (r/10),pdig,List.cons_append,Nat.div_div_eq_div_mul,Nat.pow_succ,Nat.mul_comm 10]
theorem pdig_mod:∀ k r,pdig k (r%10^k)=pdig k r
 | 0,r=>rfl
 | k+1,r=>by
  have h1:r%10^(k+1)%10=r%10:=Nat.mod_mod_of_dvd _ ⟨10^k,by rw [Nat.pow_succ,Nat.mul_comm]⟩
  have h2:r%10^(k+1)/10=r/10%10^k:=by rw [Nat.pow_succ,Nat.mul_comm,Nat.mod_mul_right_div_self]
  rw [pdig,pdig,h1,h2,pdig_mod k]
theorem rdig_part:∀ k n,10^k≤n→rdig n=pdig k n++rdig (n/10^k)
 | 0,n,_=>by simp [pdig]
 | k+1,n,h=>by
  have hp:0<10^k:=Nat.pow_pos (by omega)
  have h0:0<n:=by have:=Nat.pow_pos (n:=k+1) (show 0<10 from by omega);omega
  rw [rdig_pos h0,rdig_part k (n/10) (by rw [Nat.le_div_iff_mul_le (by omega),← Nat.pow_succ];exact h),pdig,List.cons_append,Nat.div_div_eq_div_mul,Nat.pow_succ,Nat.mul_comm 10]
end Go.Proofs.YthlnhheblhapgaaGreatDoor

namespace Go.Proofs.YthlnhheblhapgaaGreatDoor
open Go.RowKit
set_option maxHeartbeats 2000000
set_option maxRecDepth 100000
theorem Row.but {k:IntKind} {w w':World} {g:Nat} {rs:List Nat} {l:List Nat} (h:Row k w g rs) (hb:But l w w') (hn:g ∉ l):Row k w' g rs:=fun i hi=>by
 obtain ⟨h1,h2⟩:=h i hi
 have hl:=lt_of_cell h1
 exact ⟨hb.cell_some h1 hn,(hb.frozen hl hn).trans h2⟩
theorem reverse_any (g cap:Nat) (bs:List Nat) (w:World) (hr:Row .u8 w g bs) (h0:0<bs.length) (hl:bs.length<1073741824) :
  Calls Tryz.prog 118 #[.slice (some ⟨g,0,none⟩) bs.length cap] w fun e w'=>e=.returned (.tuple #[])∧Row .u8 w' g bs.reverse∧But [g] w w':=by
 have mixed:Tryz.prog.follows .mixedOrders=true:=by kernel_rfl
 have HR:=hide hr
 clear hr
 obtain ⟨n,hn⟩:∃ n,n=bs.length:=⟨_,rfl⟩
 rw [← hn] at h0 hl ⊢
 have HN:=hide hn
 clear hn
 go_enter Tryz.func118,Tryz.ntmps118
 go_wp2
 go_loopw [2,3] (fun i j wq=>∃ (k q:Nat) (cs:List Nat),i=.int .i64 k∧j=.int .i64 q∧k≤q+1∧Hid (k+q+1=n∧RevInv bs cs k∧Row .u8 wq g cs∧But [g] w wq)) (fun i _ _=>n-(intOf i).toNat)
 case atStart=>exact ⟨0,n-1,bs,rfl,by congr 1;omega,by omega,by omega,RevInv.start _,unhide HR,But.refl _ _⟩
 case round =>
  obtain ⟨k,q,cs,rfl,rfl,hkq,HJ⟩:=hrel
  rename World=>wq
  have hcl:cs.length=n:=by rw [(unhide HJ).2.1.len,unhide HN]
  have hsum:=(unhide HJ).1
  by_cases hlt:k<q
  ·obtain ⟨ck,fk⟩:=(unhide HJ).2.2.1 k (by omega)
   obtain ⟨cq,fq⟩:=(unhide HJ).2.2.1 q (by omega)
   have ST:=hide ((unhide HJ).2.1.step (by rw [← unhide HN];omega))
   have hq:q=n-1-k:=by omega
   rw [← unhide HN,← hq] at ST
   have HC:=hide hcl
   have HS:=hide hsum
   have ne1:k≠q:=by omega
   have hk1:k<n:=by omega
   have hq1:q<n:=by omega
   clear hcl hsum hq
   generalize hx:cs[k]?.getD 0=x at *
   generalize hy:cs[q]?.getD 0=y at *
   clear hx hy
   go_wp2_with fail
   go_region_o
   go_wp2
   refine ⟨⟨k+1,q-1,(cs.set k y).set q x,by go_num,by rw [Int.ofNat_sub (by omega)];rfl,by omega,by have:=unhide HS;omega,unhide ST,?_,?_⟩,?_⟩
   ·exact (((unhide HJ).2.2.1.set k (by rw [unhide HC];have:=unhide HS;omega) y).set q (by rw [List.length_set,unhide HC];have:=unhide HS;omega) x).but ((But.refl [] _).drew) (by simp)
   ·exact (((unhide HJ).2.2.2.setCell (p:=⟨g,k,none⟩) (.inl (by simp)) (.int .u8 (y:Int))).setCell (p:=⟨g,q,none⟩) (.inl (by simp)) (.int .u8 (x:Int))).drew
   ·have:=unhide HS
    simp [intOf];omega
  ·have hfin:cs=bs.reverse:=(unhide HJ).2.1.fin (by rw [← unhide HN];omega)
   have HF:=hide hfin
   clear hfin hcl hsum
   go_wp2
   go_end0
   exact ⟨rfl,by rw [← unhide HF];exact (unhide HJ).2.2.1,(unhide HJ).2.2.2⟩
end Go.Proofs.YthlnhheblhapgaaGreatDoor

namespace Go.Proofs.YthlnhheblhapgaaGreatDoor
open Go.RowKit
theorem ten608:(10:Nat)^608 < 18446744073709551616^33:=by decide +kernel
end Go.Proofs.YthlnhheblhapgaaGreatDoor

namespace Go.Proofs.YthlnhheblhapgaaGreatDoor
open Go.RowKit
def wdig (W X:Nat):List UInt8:=rdig X++List.replicate (W-(rdig X).length) 48
theorem wdig_zero (X:Nat):wdig 0 X=rdig X:=by simp [wdig]
theorem pdig_nought:∀ k,pdig k 0=List.replicate k 48
 | 0=>rfl
 | k+1=>by rw [pdig,Nat.zero_div,pdig_nought k,List.replicate_succ];rfl
theorem pdig_wdig:∀ k n,n<10^k→pdig k n=wdig k n
 | 0,n,h=>by
  have:n=0:=by simp at h;omega
  subst this;simp [pdig,wdig,rdig_zero]
 | k+1,n,h=>by
  by_cases h0:0<n
  ·rw [pdig,pdig_wdig k (n/10) (by rw [Nat.div_lt_iff_lt_mul (by omega)];rw [Nat.pow_succ] at h;exact h),wdig,wdig,rdig_pos h0,List.cons_append,List.length_cons,Nat.add_sub_add_right]
  ·have:n=0:=by omega
   subst this;rw [pdig_nought,wdig,rdig_zero];simp
theorem pdig_add:∀ a b n,pdig (a+b) n=pdig a n++pdig b (n/10^a)
 | 0,b,n=>by simp [pdig]
 | a+1,b,n=>by
  rw [Nat.succ_add,pdig,pdig_add a b,pdig,List.cons_append,Nat.div_div_eq_div_mul,Nat.pow_succ,Nat.mul_comm 10]
theorem wdig_long (D X:Nat) (h:10^D≤X):wdig 0 X=wdig D (X%10^D)++wdig 0 (X/10^D):=by
 rw [wdig_zero,wdig_zero,rdig_part D X h,← pdig_mod D X,pdig_wdig D _ (Nat.mod_lt _ (Nat.pow_pos (by omega)))]
theorem wdig_wide (D X:Nat) (h:X<10^(D+D)):wdig (D+D) X=wdig D (X%10^D)++wdig D (X/10^D):=by
 have hp:0<10^D:=Nat.pow_pos (by omega)
 rw [← pdig_wdig _ _ h,pdig_add,← pdig_mod D X,pdig_wdig D _ (Nat.mod_lt _ hp),pdig_wdig D (X/10^D) (by rw [Nat.div_lt_iff_lt_mul hp,← Nat.pow_add];exact h)]
theorem wdig_length (W X:Nat):(wdig W X).length=max W (rdig X).length:=by
 rw [wdig,List.length_append,List.length_replicate];omega
theorem wdig_pos (W X:Nat) (h:0<X∨0<W):0<(wdig W X).length:=by
 rw [wdig_length]
 rcases h with h | h
 ·rw [rdig_pos h];simp;omega
 ·omega
def Keep64 (w w':World):Prop:=∀ v xs,Sl .u64 w v xs→Sl .u64 w' v xs
theorem Keep64.of_but {w w':World} (h:But [] w w'):Keep64 w w':=fun _ _ hs=>hs.but_nil h
theorem Keep64.trans {a b c:World} (h:Keep64 a b) (k:Keep64 b c):Keep64 a c:=fun v xs hs=>k v xs (h v xs hs)
theorem keep_grown {w w':World} {base:Nat} {vo:Value} {ods:List UInt8} (ho:w.ownsRow base 5 1 vo ods.length (ods.map u8v)) (hn:vo=.slice none 0 0∨0<ods.length) (hg:w.grownBy w' vo.ownBlock):Keep64 w w':=by
 intro v xs hs
 rcases hn with rfl | h0
 ·exact hs.but_nil (grown_but_none hg)
 ·obtain ⟨g,cap,rfl,-,-,hr⟩:=owns_row ho h0
  exact hs.over (grown_but hg) (hr 0 (by simpa using h0)).1 (by simp)
theorem below_grown {w w':World} {base:Nat} {vo:Value} {n:Nat} {xs:List Value} (ho:w.ownsRow base 5 1 vo n xs) (hb:base≤w.heap.size) (hg:w.grownBy w' vo.ownBlock):Below base w w' :=
 ⟨hg.os,hg.tape,hg.output,hg.size,fun k hk=>hg.block k (by omega) (fun e=>by have:=(ho.lt k e.symm).1;omega)⟩
theorem But.below_of {w w':World} {base:Nat} (h:But [] w w') (hb:base≤w.heap.size):Below base w w':=⟨h.os,h.tape,h.output,h.size,fun k hk=>h.block k (by omega) (by simp)⟩
theorem below_trans {a b c:World} {n:Nat} (h:Below n a b) (k:Below n b c):Below n a c :=
 ⟨k.os.trans h.os,k.tape.trans h.tape,k.output.trans h.output,Nat.le_trans h.size k.size,fun i hi=>(k.block i hi).trans (h.block i hi)⟩
theorem owns_shape {w:World} {base:Nat} {e:TypeId} {v:Value} {n:Nat} {xs:List Value} (h:w.ownsRow base e 1 v n xs):∃ a c,v=.slice a n c:=by
 obtain ⟨-,h2⟩:=h
 rcases h2 with ⟨rfl,rfl⟩ | ⟨g,cap,cur,e1,-⟩
 ·exact ⟨_,_,rfl⟩
 ·exact ⟨_,_,e1⟩
end Go.Proofs.YthlnhheblhapgaaGreatDoor
