/- Decimal digits and rows of bytes, plain. -/
import Derived.Test.YtollloafckcogaaGreatDoorProg
import Derived.Deep.LoopGhost
import Derived.Lib.ItoaNum
import Derived.Laws.IdiomStrings
import Derived.OwnWalk
import Derived.WalkSpells
import Derived.Shelf.Strconv.Itoa1
import Derived.Shelf.LaysM
import Derived.Shelf.Strconv.Itoa2
import Derived.Shelf.Small.Bits
import Derived.Laws.Bits64b
import Derived.Deep.RegionHeld
import Derived.Test.YtollloafckcogaaGreatDoorKFN18
namespace Go.Proofs.YtollloafckcogaaGreatDoor
open Go.RowKit
theorem But.grown {a w w':World} {row:Option Nat} (h:But [] a w) (hg:w.grownBy w' row) (hr:∀ k,row=some k→a.heap.size≤k):But [] a w' :=
 ⟨hg.os.trans h.os,hg.tape.trans h.tape,hg.output.trans h.output,Nat.le_trans h.size hg.size,fun k hk hn=>by
  rw [hg.block k (Nat.lt_of_lt_of_le hk h.size) (fun e=>by have:=hr k e.symm;omega)]
  exact h.block k hk hn⟩
theorem grown_but {w w':World} {g:Nat} (hg:w.grownBy w' (some g)):But [g] w w' :=
 ⟨hg.os,hg.tape,hg.output,hg.size,fun k hk hn=>hg.block k hk (fun e=>hn (by simp only [Option.some.injEq] at e;simp [e]))⟩
theorem grown_but_none {w w':World} (hg:w.grownBy w' none):But [] w w' :=
 ⟨hg.os,hg.tape,hg.output,hg.size,fun k hk _=>hg.block k hk (by simp)⟩
theorem owns_but {w w':World} {base:Nat} {e:TypeId} {size:Nat} {v:Value} {n:Nat} {xs:List Value} (h:w.ownsRow base e size v n xs) (hb:But [] w w'):w'.ownsRow base e size v n xs:=by
 obtain ⟨h1,h2⟩:=h
 refine ⟨h1,?_⟩
 rcases h2 with h2 | ⟨g,cap,cur,e1,e2,e3,e4⟩
 ·exact .inl h2
 ·refine .inr ⟨g,cap,cur,e1,e2,?_,e4⟩
  have hlt:g<w.heap.size:=by
   rcases Nat.lt_or_ge g w.heap.size with h | h
   ·exact h
   ·rw [Array.getElem?_eq_none h] at e3;cases e3
  rw [hb.block g hlt (by simp)];exact e3
def u8v (b:UInt8):Value:=.int .u8 (b.toNat:Int)
def rdig (n:Nat):List UInt8:=if h:0<n then UInt8.ofNat (48+n%10)::rdig (n/10) else []
 termination_by n
 decreasing_by exact Nat.div_lt_self h (by omega)
theorem rdig_zero:rdig 0=[]:=by rw [rdig];simp
theorem rdig_pos {n:Nat} (h:0<n):rdig n=UInt8.ofNat (48+n%10)::rdig (n/10):=by rw [rdig,dif_pos h]
theorem rdig_rev (n:Nat) (h:0<n):(rdig n).reverse=Lib.decDigits n:=by
 induction n using Nat.strongRecOn with
 | _ n ih =>
  rw [rdig_pos h,List.reverse_cons,Lib.decDigits]
  by_cases h10:n<10
  ·rw [dif_pos h10,Nat.div_eq_of_lt h10,rdig_zero,Nat.mod_eq_of_lt h10];rfl
  ·rw [dif_neg h10,ih (n/10) (Nat.div_lt_self h (by omega)) (by omega)]
theorem rdig_length (n k:Nat) (h:n<10^k):(rdig n).length≤k:=by
 induction k generalizing n with
 | zero =>
  have:n=0:=by simp at h;omega
  subst this;simp [rdig_zero]
 | succ k ih =>
  by_cases hn:0<n
  ·rw [rdig_pos hn,List.length_cons]
   have:=ih (n/10) (by rw [Nat.div_lt_iff_lt_mul (by omega)];rw [Nat.pow_succ] at h;exact h)
   omega
  ·have:n=0:=by omega
   subst this;simp [rdig_zero]
theorem info_u8:∃ i,Tryz.prog.info? 5 = some i∧i.zero=some (.int .u8 0)∧i.size=1∧i.bytes=1:=by
 have h:(Tryz.prog.info? 5).map (fun i=>(i.zero,i.size,i.bytes))=some (some (.int .u8 0),1,1):=by kernel_rfl
 obtain ⟨i,hi,he⟩:=Option.map_eq_some_iff.1 h
 simp only [Prod.mk.injEq] at he
 exact ⟨i,hi,he.1,he.2.1,he.2.2⟩
structure RevInv (bs cs:List Nat) (i:Nat):Prop where
 len:cs.length=bs.length
 at':∀ k,k<bs.length→cs[k]?.getD 0=if k<i∨bs.length-i≤k then bs[bs.length-1-k]?.getD 0 else bs[k]?.getD 0
theorem RevInv.start (bs:List Nat):RevInv bs bs 0:=⟨rfl,fun k hk=>by rw [if_neg (by omega)]⟩
theorem getD_set (l:List Nat) (i k x:Nat) (hi:i<l.length):(l.set i x)[k]?.getD 0=if k=i then x else l[k]?.getD 0:=by
 by_cases h:k=i
 ·subst h;rw [List.getElem?_set_self hi,if_pos rfl];rfl
 ·rw [List.getElem?_set_ne (Ne.symm h),if_neg h]
theorem RevInv.step {bs cs:List Nat} {i:Nat} (h:RevInv bs cs i) (hij:i<bs.length-1-i):RevInv bs ((cs.set i (cs[bs.length-1-i]?.getD 0)).set (bs.length-1-i) (cs[i]?.getD 0)) (i+1):=by
 have hl:=h.len
 refine ⟨by simp [hl],fun k hk=>?_⟩
 have e1:cs[i]?.getD 0=bs[i]?.getD 0:=by rw [h.at' i (by omega),if_neg (by omega)]
 have e2:cs[bs.length-1-i]?.getD 0=bs[bs.length-1-i]?.getD 0:=by rw [h.at' (bs.length-1-i) (by omega),if_neg (by omega)]
 rw [getD_set _ _ _ _ (by simp [hl];omega),getD_set _ _ _ _ (by omega),e1,e2]
 by_cases h1:k=bs.length-1-i
 ·subst h1
  rw [if_pos rfl,if_pos (by omega),show bs.length-1-(bs.length-1-i)=i from by omega]
 ·rw [if_neg h1]
  by_cases h2:k=i
  ·subst h2
   rw [if_pos rfl,if_pos (by omega)]
  ·rw [if_neg h2,h.at' k hk]
   by_cases h3:k<i∨bs.length-i≤k
   ·rw [if_pos h3,if_pos (by omega)]
   ·rw [if_neg h3,if_neg (by omega)]
theorem RevInv.fin {bs cs:List Nat} {i:Nat} (h:RevInv bs cs i) (hij:bs.length≤2*i+1):cs=bs.reverse:=by
 refine List.ext_getElem (by simp [h.len]) fun k h1 h2=>?_
 have hk:k<bs.length:=by rw [← h.len];exact h1
 have e:=h.at' k hk
 rw [List.getElem?_eq_getElem h1,Option.getD_some] at e
 rw [e,List.getElem_reverse]
 by_cases h3:k<i∨bs.length-i≤k
 ·rw [if_pos h3,List.getElem?_eq_getElem (by omega)];rfl
 ·rw [if_neg h3,List.getElem?_eq_getElem hk,Option.getD_some]
  have:bs.length-1-k=k:=by omega
  simp only [this]
theorem owns_row {w:World} {base:Nat} {e:TypeId} {v:Value} {bs:List UInt8} (h:w.ownsRow base e 1 v bs.length (bs.map u8v)) (h0:0<bs.length) :
  ∃ g cap,v=.slice (some ⟨g,0,none⟩) bs.length cap∧base≤g∧bs.length≤cap∧Row .u8 w g (bs.map UInt8.toNat):=by
 obtain ⟨h1,h2⟩:=h
 rcases h2 with ⟨-,h2⟩ | ⟨g,cap,cur,e1,e2,e3,e4,e5,e6,e7⟩
 ·omega
 ·refine ⟨g,cap,e1,e2,e4,fun i hi=>?_⟩
  rw [List.length_map] at hi
  have hc:cur[i]? = some (u8v bs[i]):=by
   have:(cur.toList.take (bs.length*1))[i]? = some (u8v bs[i]):=by rw [e7,List.getElem?_map,List.getElem?_eq_getElem hi];rfl
   rw [List.getElem?_take_of_lt (by omega)] at this
   simpa using this
  refine ⟨?_,by simp [World.frozen?,e3]⟩
  simp only [World.cell?,e3,hc]
  simp [u8v,hi]
theorem sl_grown {k:IntKind} {w2 w3:World} {v:Value} {xs:List Nat} {o:Obj} {row:Option Nat} {B:Nat} (h:Sl k w2 v xs) (hg:(w2.alloc o).grownBy w3 row) (hr:∀ k,row=some k→k<B) (hf:Fresh B v):Sl k w3 v xs:=by
 have h1:=h.but_nil ((But.refl [] w2).alloc o)
 cases row with
 | none=>exact h1.but_nil (grown_but_none hg)
 | some g=>exact h1.but (grown_but hg) (fun b off cap n e=>by have:=hf b off n cap e;have:=hr g rfl;simp;omega)
theorem u8v_digit (r:Nat) (h:r<10):Value.int .u8 (48+(r:Int))=u8v (UInt8.ofNat (48+r)):=by
 unfold u8v
 rw [UInt8.toNat_ofNat_of_lt' (by simp [UInt8.size];omega)]
 simp
def pdig:Nat→Nat→List UInt8
 | 0,_=>[]
 | k+1,r=>UInt8.ofNat (48+r%10)::pdig k (r/10)
theorem pdig_length:∀ k r,(pdig k r).length=k
 | 0,_=>rfl
 | k+1,r=>by rw [pdig,List.length_cons,pdig_length k]
theorem pdig_snoc:∀ k r,pdig (k+1) r=pdig k r++[UInt8.ofNat (48+r/10^k%10)]
 | 0,r=>by simp [pdig]
 | k+1,r=>by
  rw [pdig,pdig_snoc k (r/10),pdig,List.cons_append,Nat.div_div_eq_div_mul,Nat.pow_succ,Nat.mul_comm 10]
theorem pdig_mod:∀ k r,pdig k (r%10^k)=pdig k r
 | 0,r=>rfl
 | k+1,r=>by
  have h1:r%10^(k+1)%10=r%10:=Nat.mod_mod_of_dvd _ ⟨10^k,by rw [Nat.pow_succ,Nat.mul_comm]⟩
  have h2:r%10^(k+1)/10=r/10%10^k:=by rw [Nat.pow_succ,Nat.mul_comm,Nat.mod_mul_right_div_self]
  rw [pdig,pdig,h1,h2,pdig_mod k]
theorem rdig_part:∀ k n,10^k≤n→rdig n=pdig k n++rdig (n/10^k)
 | 0,n,_=>by simp [pdig]
 | k+1,n,h=>by
  have hp:0<10^k:=Nat.pow_pos (by omega)
  have h0:0<n:=by have:=Nat.pow_pos (n:=k+1) (show 0<10 from by omega);omega
  rw [rdig_pos h0,rdig_part k (n/10) (by rw [Nat.le_div_iff_mul_le (by omega),← Nat.pow_succ];exact h),pdig,List.cons_append,Nat.div_div_eq_div_mul,Nat.pow_succ,Nat.mul_comm 10]
end Go.Proofs.YtollloafckcogaaGreatDoor

namespace Go.Proofs
open Go.Shelf
def Tryz.lays283_ren : Go.Shelf.Ren := ⟨fun | 283 => 156 | n => n, fun | 3 => 3 | 4 => 4 | 9 => 9 | n => n, fun | n => n⟩
theorem Tryz.lays283 : Go.Proofs.Lays.n283 Tryz.prog Tryz.lays283_ren := {
  mixed := by kernel_rfl
  f283 := Tryz.func156.trans (congrArg some (by kernel_rfl))
  t3 := Tryz.underlying3
  a3 := Tryz.isAgg3
  z3 := Tryz.sizeOf3
  v3 := Tryz.zeroValue3
  t4 := Tryz.underlying4
  a4 := Tryz.isAgg4
  z4 := Tryz.sizeOf4
  v4 := Tryz.zeroValue4
  t9 := Tryz.underlying9
  a9 := Tryz.isAgg9
  z9 := Tryz.sizeOf9
  v9 := Tryz.zeroValue9 }
open Go.Lib in
theorem Tryz.internal_strconv_small (i:Nat) (h:i<100) (w:World) :
  Calls Tryz.prog 156 #[.int .i64 i] w fun e w'=>e=.returned (.string ⟨(Lib.decDigits i).toArray⟩)∧w'=w:=Any.internal_strconv_small Tryz.lays283 i h w
def Tryz.laysM284_ren : Go.Shelf.Ren := ⟨fun | 129 => 182 | 284 => 157 | 317 => 181 | 318 => 183 | n => n, fun | 0 => 0 | 3 => 3 | 4 => 4 | 5 => 5 | 9 => 9 | 46 => 200 | 53 => 24 | 212 => 230 | n => n, fun | 17 => 1 | n => n⟩
theorem Tryz.laysM284 : Go.Proofs.LaysM.n284 Tryz.prog Tryz.laysM284_ren := {
  mixed := by kernel_rfl
  f129 := Tryz.func182.trans (congrArg some (by kernel_rfl))
  f284 := Tryz.func157.trans (congrArg some (by kernel_rfl))
  f317 := Tryz.func181.trans (congrArg some (by kernel_rfl))
  f318 := Tryz.func183.trans (congrArg some (by kernel_rfl))
  t0 := Tryz.underlying0
  a0 := Tryz.isAgg0
  z0 := Tryz.sizeOf0
  v0 := Tryz.zeroValue0
  t3 := Tryz.underlying3
  a3 := Tryz.isAgg3
  z3 := Tryz.sizeOf3
  v3 := Tryz.zeroValue3
  t4 := Tryz.underlying4
  a4 := Tryz.isAgg4
  z4 := Tryz.sizeOf4
  v4 := Tryz.zeroValue4
  t5 := Tryz.underlying5
  a5 := Tryz.isAgg5
  z5 := Tryz.sizeOf5
  v5 := Tryz.zeroValue5
  t9 := Tryz.underlying9
  a9 := Tryz.isAgg9
  z9 := Tryz.sizeOf9
  v9 := Tryz.zeroValue9
  t46 := Tryz.underlying200
  a46 := Tryz.isAgg200
  z46 := Tryz.sizeOf200
  v46 := Tryz.zeroValue200
  t53 := Tryz.underlying24
  a53 := Tryz.isAgg24
  z53 := Tryz.sizeOf24
  v53 := Tryz.zeroValue24
  t212 := Tryz.underlying230
  a212 := Tryz.isAgg230
  z212 := Tryz.sizeOf230
  v212 := Tryz.zeroValue230
  g17 := by kernel_rfl
  m17 := by kernel_rfl
  i0 := by kernel_rfl
  i3 := by kernel_rfl
  i4 := by kernel_rfl
  i5 := by kernel_rfl
  i9 := by kernel_rfl
  i46 := by kernel_rfl
  i53 := by kernel_rfl
  i212 := by kernel_rfl }
open Go.Lib in
theorem Tryz.internal_strconv_numDigits (u:Nat) (h1:1≤u) (h2:u<18446744073709551616) (w:World) (htab:Lib.TabIs Tryz.prog w "internal/strconv.uint64pow10" .u64 Lib.pow10Tab) :
  Calls Tryz.prog 157 #[.int .u64 u] w fun e w'=>e=.returned (.int .i64 (Lib.nDigits u))∧w'=w:=Any.internal_strconv_numDigits Tryz.laysM284 u h1 h2 w htab
def Tryz.lays285_ren : Go.Shelf.Ren := ⟨fun | 285 => 158 | n => n, fun | 0 => 0 | 3 => 3 | 4 => 4 | 5 => 5 | 9 => 9 | 37 => 136 | 51 => 188 | 53 => 24 | n => n, fun | n => n⟩
theorem Tryz.lays285 : Go.Proofs.Lays.n285 Tryz.prog Tryz.lays285_ren := {
  mixed := by kernel_rfl
  f285 := Tryz.func158.trans (congrArg some (by kernel_rfl))
  t0 := Tryz.underlying0
  a0 := Tryz.isAgg0
  z0 := Tryz.sizeOf0
  v0 := Tryz.zeroValue0
  t3 := Tryz.underlying3
  a3 := Tryz.isAgg3
  z3 := Tryz.sizeOf3
  v3 := Tryz.zeroValue3
  t4 := Tryz.underlying4
  a4 := Tryz.isAgg4
  z4 := Tryz.sizeOf4
  v4 := Tryz.zeroValue4
  t5 := Tryz.underlying5
  a5 := Tryz.isAgg5
  z5 := Tryz.sizeOf5
  v5 := Tryz.zeroValue5
  t9 := Tryz.underlying9
  a9 := Tryz.isAgg9
  z9 := Tryz.sizeOf9
  v9 := Tryz.zeroValue9
  t37 := Tryz.underlying136
  a37 := Tryz.isAgg136
  z37 := Tryz.sizeOf136
  v37 := Tryz.zeroValue136
  t51 := Tryz.underlying188
  a51 := Tryz.isAgg188
  z51 := Tryz.sizeOf188
  v51 := Tryz.zeroValue188
  t53 := Tryz.underlying24
  a53 := Tryz.isAgg24
  z53 := Tryz.sizeOf24
  v53 := Tryz.zeroValue24 }
open Go.RowKit Go.Sort Go.Lib in
theorem Tryz.internal_strconv_formatBase10 (blk off cap:Nat) (u:Nat) (d:Array UInt8) (w:World) (hH:Holds (fun (b:UInt8)=>Value.int .u8 (b.toNat:Int)) w blk off d) (hu:u<10^d.size) (hu64:u<18446744073709551616) (hsz:d.size<4611686018427387904) :
  Calls Tryz.prog 158 #[.slice (some ⟨blk,off,none⟩) d.size cap,.int .u64 u] w fun e w' =>
   e=.returned (.tuple #[])∧∃ (n v':Nat) (dk:Array UInt8),w'=(putRow (fun (b:UInt8)=>Value.int .u8 (b.toNat:Int)) w blk off dk).drewN n∧FmtInv d.size u 0 v' dk:=Any.internal_strconv_formatBase10 Tryz.lays285 blk off cap u d w hH hu hu64 hsz
def Tryz.lays125_ren : Go.Shelf.Ren := ⟨fun | 125 => 165 | 128 => 189 | 129 => 182 | n => n, fun | 3 => 3 | 4 => 4 | 5 => 5 | 9 => 9 | 46 => 200 | 51 => 188 | 53 => 24 | n => n, fun | n => n⟩
theorem Tryz.lays125 : Go.Proofs.Lays.n125 Tryz.prog Tryz.lays125_ren := {
  mixed := by kernel_rfl
  f125 := Tryz.func165.trans (congrArg some (by kernel_rfl))
  f128 := Tryz.func189.trans (congrArg some (by kernel_rfl))
  f129 := Tryz.func182.trans (congrArg some (by kernel_rfl))
  t3 := Tryz.underlying3
  a3 := Tryz.isAgg3
  z3 := Tryz.sizeOf3
  v3 := Tryz.zeroValue3
  t4 := Tryz.underlying4
  a4 := Tryz.isAgg4
  z4 := Tryz.sizeOf4
  v4 := Tryz.zeroValue4
  t5 := Tryz.underlying5
  a5 := Tryz.isAgg5
  z5 := Tryz.sizeOf5
  v5 := Tryz.zeroValue5
  t9 := Tryz.underlying9
  a9 := Tryz.isAgg9
  z9 := Tryz.sizeOf9
  v9 := Tryz.zeroValue9
  t46 := Tryz.underlying200
  a46 := Tryz.isAgg200
  z46 := Tryz.sizeOf200
  v46 := Tryz.zeroValue200
  t51 := Tryz.underlying188
  a51 := Tryz.isAgg188
  z51 := Tryz.sizeOf188
  v51 := Tryz.zeroValue188
  t53 := Tryz.underlying24
  a53 := Tryz.isAgg24
  z53 := Tryz.sizeOf24
  v53 := Tryz.zeroValue24 }
theorem Tryz.bits_Len (x:Int) (w:World) (h0:0≤x) (h1:x≤18446744073709551615) :
  Calls Tryz.prog 165 #[.int .u64 x] w fun e w'=>e=.returned (.int .i64 (Lib.bitLen x.toNat))∧w'=w:=Any.bits_Len Tryz.lays125 x w h0 h1
end Go.Proofs

namespace Go.Proofs.YtollloafckcogaaGreatDoor
open Go.RowKit
set_option maxHeartbeats 4000000
set_option maxRecDepth 100000
theorem i64_and1 (a:Nat) (ha:a<9223372036854775808):bits .and .i64 (a:Int) 1=((a%2:Nat):Int):=by
 have h1:(BitVec.ofInt 64 (a:Int)).toNat=a:=by
  rw [BitVec.ofInt_natCast,BitVec.toNat_ofNat];exact Nat.mod_eq_of_lt (by omega)
 have h2:(BitVec.ofInt 64 (1:Int)).toNat=1:=rfl
 show IntKind.i64.wrap ((BitVec.ofInt 64 (a:Int) &&& BitVec.ofInt 64 (1:Int)).toNat:Int)=_
 rw [BitVec.toNat_and,h1,h2,Nat.and_one_is_mod,IntKind.wrap_i64]
 omega
theorem half_step (n i:Nat):n/2^i=2*(n/2^(i+1))+n/2^i%2:=by
 rw [Nat.pow_succ,← Nat.div_div_eq_div_mul];omega
theorem pow_even (X n i:Nat) (h:n/2^i%2=0):X^(n/2^(i+1))*X^(n/2^(i+1))=X^(n/2^i):=by
 rw [half_step n i,h,← Nat.pow_add];congr 1;omega
theorem pow_odd (X n i:Nat) (h:n/2^i%2=1):X^(n/2^(i+1))*X^(n/2^(i+1))*X=X^(n/2^i):=by
 rw [half_step n i,h,← Nat.pow_add,← Nat.pow_succ];congr 1;omega
theorem lt_bitLen (n:Nat) (h:n < 18446744073709551616):n<2^Lib.bitLen n∧Lib.bitLen n≤64:=by
 by_cases h0:n=0
 ·subst h0;exact ⟨by decide,by decide⟩
 ·exact ⟨(Lib.bitLenAux_bounds 64 n h h0).2.2,Lib.bitLen_le n 64 (by omega) h⟩
theorem natPow_any (v:Value) (X n:Nat) (w:World) (hv:Sl .u64 w v (wd 18446744073709551616 X)) (hX:0<X) (hn:n<2147483648) (hl:(wd 18446744073709551616 X).length+(wd 18446744073709551616 (X^n)).length<67108864) :
  Calls Tryz.prog 128 #[v,.int .i64 (n:Int)] w fun e w'=>∃ v',e=.returned v'∧Sl .u64 w' v' (wd 18446744073709551616 (X^n))∧But [] w w':=by
 obtain ⟨L,hL⟩:∃ L,L=Lib.bitLen n:=⟨_,rfl⟩
 have hb:=lt_bitLen n (by omega)
 have BL:=hide (fun W=>Tryz.bits_Len (n:Int) W (by omega) (by omega))
 rw [Int.toNat_natCast,← hL] at BL
 rw [← hL] at hb
 obtain ⟨hb1,hb2⟩:=hb
 have hlen:Hid (∀ i,(wd 18446744073709551616 (X^(n/2^i))).length<67108864∧(wd 18446744073709551616 X).length+(wd 18446744073709551616 (X^(n/2^i))).length<67108864):=fun i=>by
  have:=wd_len_mono (Nat.pow_le_pow_right hX (Nat.div_le_self n (2^i)))
  omega
 have hlen2:Hid (∀ i,(wd 18446744073709551616 (X^(n/2^(i+1))*X^(n/2^(i+1)))).length+(wd 18446744073709551616 X).length<67108864):=fun i=>by
  rw [← Nat.pow_add]
  have h3:=half_step n i
  have h4:=Nat.div_le_self n (2^i)
  have:=wd_len_mono (Nat.pow_le_pow_right hX (show n/2^(i+1)+n/2^(i+1)≤n from by omega))
  omega
 have HV:=hide hv
 have hdiv:n/2^L=0:=Nat.div_eq_of_lt hb1
 have hst:Hid ((1:Nat)=X^(n/2^L)):=by show _=_;rw [hdiv,Nat.pow_zero]
 clear hv hl hdiv hb1 hL
 obtain ⟨xa,xc,rfl,-,-⟩:=unhide HV
 generalize hnx:(wd 18446744073709551616 X).length=nx at *
 have HNX:=hide hnx
 clear hnx
 go_enter Tryz.func128,Tryz.ntmps128
 go_wp2_with fail
 refine (natOf_any 1 (by omega) _).mono ?_
 rintro e w1 ⟨v1,rfl,hv1,hb1,-⟩
 have H1:=hide hv1
 have B1:=hide hb1
 clear hv1 hb1
 go_wp2_with fail
 refine (unhide BL _).mono ?_
 rintro e w2 ⟨rfl,hw⟩
 obtain rfl:=hw.symm
 clear hw
 go_wp2
 go_loopw [5,6] (fun o i wr=>∃ k:Nat,k≤L∧i=.int .i64 ((k:Int)-1)∧Hid (Sl .u64 wr o (wd 18446744073709551616 (X^(n/2^k)))∧But [] w wr)) (fun _ i _=>(intOf i+1).toNat)
 case atStart=>exact ⟨L,Nat.le_refl _,rfl,by rw [← unhide hst];exact unhide H1,unhide B1⟩
 case round =>
  obtain ⟨k,hk,rfl,HI⟩:=hrel
  rename World=>wr
  by_cases hk0:k=0
  ·subst hk0
   go_wp2
   go_ret
   have h:=(unhide HI).1
   rw [Nat.pow_zero,Nat.div_one] at h
   exact ⟨_,rfl,h,(unhide HI).2⟩
  ·obtain ⟨i,rfl⟩:∃ i,k=i+1:=⟨k-1,by omega⟩
   rw [show (((i+1:Nat):Int)-1)=(i:Int) from by omega]
   have hq:n/2^i<9223372036854775808:=by have:=Nat.div_le_self n (2^i);omega
   have E1:bits .and .i64 ((n:Int)/2^i) 1=((n/2^i%2:Nat):Int):=by
    have e:(n:Int)/2^i=((n/2^i:Nat):Int):=by simp
    rw [e,i64_and1 _ hq]
   obtain ⟨a,c,ho⟩:∃ a c,u5=.slice a (wd 18446744073709551616 (X^(n/2^(i+1)))).length c:=by obtain ⟨a,c,e,-,-⟩:=(unhide HI).1;exact ⟨a,c,e⟩
   have MU:=hide (natMul_any u5 u5 _ _ wr (unhide HI).1 (unhide HI).1 (by have:=(unhide hlen (i+1)).1;omega))
   have L2:=hide (unhide hlen2 i)
   subst ho
   generalize hm:(wd 18446744073709551616 (X^(n/2^(i+1)))).length=m at *
   clear hm
   rcases Nat.mod_two_eq_zero_or_one (n/2^i) with hpar | hpar
   ·have e1:(((n/2^i%2:Nat):Int)==1)=false:=by rw [hpar];rfl
    have EV:=hide (pow_even X n i hpar)
    generalize n/2^i%2=b at *
    go_wp2_with fail
    refine (unhide MU).mono ?_
    rintro e w3 ⟨v3,rfl,hv3,hb3,-⟩
    rw [unhide EV] at hv3
    have H3:=hide hv3
    have B3:Hid (But [] w w3):=(unhide HI).2.trans' hb3
    clear hv3 hb3
    go_wp2
    refine ⟨⟨i,by omega,rfl,unhide H3,unhide B3⟩,?_⟩
    simp [intOf]
   ·have e1:(((n/2^i%2:Nat):Int)==1)=true:=by rw [hpar];rfl
    have EV:=hide (pow_odd X n i hpar)
    generalize n/2^i%2=b at *
    go_wp2_with fail
    refine (unhide MU).mono ?_
    rintro e w3 ⟨v3,rfl,hv3,hb3,-⟩
    have B3:Hid (But [] w w3):=(unhide HI).2.trans' hb3
    have MX:=hide (natMul_any v3 (.slice xa nx xc) _ X w3 hv3 ((unhide HV).but_nil (unhide B3)) (by rw [unhide HNX];have:=unhide L2;omega))
    obtain ⟨a3,c3,e3,-,-⟩:=hv3
    subst e3
    clear hb3
    rw [unhide EV] at MX
    generalize (wd 18446744073709551616 (X^(n/2^(i+1))*X^(n/2^(i+1)))).length=m3 at *
    go_wp2_with fail
    refine (unhide MX).mono ?_
    rintro e w4 ⟨v4,rfl,hv4,hb4,-⟩
    have H4:=hide hv4
    have B4:Hid (But [] w w4):=(unhide B3).trans' hb4
    clear hv4 hb4
    go_wp2
    refine ⟨⟨i,by omega,rfl,unhide H4,unhide B4⟩,?_⟩
    simp [intOf]
end Go.Proofs.YtollloafckcogaaGreatDoor

namespace Go.Proofs.YtollloafckcogaaGreatDoor
open Go.RowKit
set_option maxHeartbeats 2000000
set_option maxRecDepth 100000
theorem Row.but {k:IntKind} {w w':World} {g:Nat} {rs:List Nat} {l:List Nat} (h:Row k w g rs) (hb:But l w w') (hn:g ∉ l):Row k w' g rs:=fun i hi=>by
 obtain ⟨h1,h2⟩:=h i hi
 have hl:=lt_of_cell h1
 exact ⟨hb.cell_some h1 hn,(hb.frozen hl hn).trans h2⟩
theorem reverse_any (g cap:Nat) (bs:List Nat) (w:World) (hr:Row .u8 w g bs) (h0:0<bs.length) (hl:bs.length<1073741824) :
  Calls Tryz.prog 160 #[.slice (some ⟨g,0,none⟩) bs.length cap] w fun e w'=>e=.returned (.tuple #[])∧Row .u8 w' g bs.reverse∧But [g] w w':=by
 have mixed:Tryz.prog.follows .mixedOrders=true:=by kernel_rfl
 have HR:=hide hr
 clear hr
 obtain ⟨n,hn⟩:∃ n,n=bs.length:=⟨_,rfl⟩
 rw [← hn] at h0 hl ⊢
 have HN:=hide hn
 clear hn
 go_enter Tryz.func160,Tryz.ntmps160
 go_wp2
 go_loopw [2,3] (fun i j wq=>∃ (k q:Nat) (cs:List Nat),i=.int .i64 k∧j=.int .i64 q∧k≤q+1∧Hid (k+q+1=n∧RevInv bs cs k∧Row .u8 wq g cs∧But [g] w wq)) (fun i _ _=>n-(intOf i).toNat)
 case atStart=>exact ⟨0,n-1,bs,rfl,by congr 1;omega,by omega,by omega,RevInv.start _,unhide HR,But.refl _ _⟩
 case round =>
  obtain ⟨k,q,cs,rfl,rfl,hkq,HJ⟩:=hrel
  rename World=>wq
  have hcl:cs.length=n:=by rw [(unhide HJ).2.1.len,unhide HN]
  have hsum:=(unhide HJ).1
  by_cases hlt:k<q
  ·obtain ⟨ck,fk⟩:=(unhide HJ).2.2.1 k (by omega)
   obtain ⟨cq,fq⟩:=(unhide HJ).2.2.1 q (by omega)
   have ST:=hide ((unhide HJ).2.1.step (by rw [← unhide HN];omega))
   have hq:q=n-1-k:=by omega
   rw [← unhide HN,← hq] at ST
   have HC:=hide hcl
   have HS:=hide hsum
   have ne1:k≠q:=by omega
   have hk1:k<n:=by omega
   have hq1:q<n:=by omega
   clear hcl hsum hq
   generalize hx:cs[k]?.getD 0=x at *
   generalize hy:cs[q]?.getD 0=y at *
   clear hx hy
   go_wp2_with fail
   go_region_o
   go_wp2
   refine ⟨⟨k+1,q-1,(cs.set k y).set q x,by go_num,by rw [Int.ofNat_sub (by omega)];rfl,by omega,by have:=unhide HS;omega,unhide ST,?_,?_⟩,?_⟩
   ·exact (((unhide HJ).2.2.1.set k (by rw [unhide HC];have:=unhide HS;omega) y).set q (by rw [List.length_set,unhide HC];have:=unhide HS;omega) x).but ((But.refl [] _).drew) (by simp)
   ·exact (((unhide HJ).2.2.2.setCell (p:=⟨g,k,none⟩) (.inl (by simp)) (.int .u8 (y:Int))).setCell (p:=⟨g,q,none⟩) (.inl (by simp)) (.int .u8 (x:Int))).drew
   ·have:=unhide HS
    simp [intOf];omega
  ·have hfin:cs=bs.reverse:=(unhide HJ).2.1.fin (by rw [← unhide HN];omega)
   have HF:=hide hfin
   clear hfin hcl hsum
   go_wp2
   go_end0
   exact ⟨rfl,by rw [← unhide HF];exact (unhide HJ).2.2.1,(unhide HJ).2.2.2⟩
end Go.Proofs.YtollloafckcogaaGreatDoor

namespace Go.Proofs.YtollloafckcogaaGreatDoor
open Go.RowKit
theorem ten608:(10:Nat)^608 < 18446744073709551616^33:=by decide +kernel
end Go.Proofs.YtollloafckcogaaGreatDoor

namespace Go.Proofs.YtollloafckcogaaGreatDoor
open Go.RowKit
set_option maxHeartbeats 2000000
set_option maxRecDepth 100000
theorem byWord_fresh (v:Value) (X d:Nat) (w:World) (hv:Sl .u64 w v (wd 18446744073709551616 X)) (hl:(wd 18446744073709551616 X).length<1073741824) (hd:0<d) (hdB:d < 18446744073709551616) :
  Calls Tryz.prog 145 #[v,.int .u64 (d:Int)] w fun e w'=>∃ v',e=.returned (.tuple #[v',.int .u64 ((X%d:Nat):Int)])∧Sl .u64 w' v' (wd 18446744073709551616 (X/d))∧But [] w w'∧Fresh w.heap.size v':=by
 have mm:=wd_mem (B:=18446744073709551616) (by omega) X
 have em:=vl_wd (B:=18446744073709551616) (by omega) X
 obtain ⟨a,c,rfl,hc,hcell,-⟩:=hv
 generalize wd 18446744073709551616 X=xs at *
 subst em
 obtain ⟨R,hR⟩:∃ R,R=vl 18446744073709551616 xs%d:=⟨_,rfl⟩
 rw [← hR]
 have HR:=hide hR
 have hmk:=fun wx=>run_make64 wx xs.length (by omega)
 have HC:=hide hcell
 have MM:=hide mm
 clear hcell mm hR
 go_enter Tryz.func145,Tryz.ntmps145
 go_wp2
 go_loopw [7,8] (fun r i wr=>∃ (k rN:Nat) (rs:List Nat),k≤xs.length∧i=.int .i64 ((k:Int)-1)∧r=.int .u64 rN∧rN<d∧rs.length=xs.length∧Hid (ByInv xs rs d k rN∧But [] w wr∧Seg wr w.heap.size 0 rs)) (fun _ i _=>(intOf i+1).toNat)
 case atStart=>exact ⟨xs.length,0,List.replicate xs.length 0,Nat.le_refl _,rfl,rfl,hd,by simp,ByInv.start xs d hd,(But.refl _ _).alloc _,Seg.made _ _ _⟩
 case round =>
  obtain ⟨k,rN,rs,hk,rfl,rfl,hrN,hrl,HI⟩:=hrel
  rename World=>wr
  by_cases hk0:k=0
  ·subst hk0
   have hsl:=(unhide HI).2.2.sl xs.length (by omega)
   rw [hrl] at hsl
   have HSL:=hide hsl
   have HF:=hide (unhide HI).1.fin
   have hln:rs.length<2147483648:=by omega
   clear hsl HC
   go_wp2_with fail
   refine (trimmed_any _ rs _ (unhide HSL) (unhide HI).1.mem hln).mono ?_
   rintro e w1 ⟨v1,rfl,hv1,hw,hsb⟩
   obtain rfl:=hw.symm
   clear hw
   rw [(unhide HF).1] at hv1
   have HV1:=hide hv1
   have HSB:=hide hsb
   clear hsb
   have er:Hid (rN=R):=by show _=_;rw [unhide HR];exact (unhide HF).2
   clear hv1
   go_wp2
   go_ret2
   exact ⟨v1,by rw [← unhide er];rfl,unhide HV1,(unhide HI).2.1,fresh_of (unhide HSB) (Nat.le_refl _)⟩
  ·obtain ⟨i,rfl⟩:∃ i,k=i+1:=⟨k-1,by omega⟩
   obtain ⟨b,off,rfl,hci⟩:=unhide HC i (by omega)
   have cx:=(unhide HI).2.1.cell_some hci (by simp)
   have hxB:xs[i]?.getD 0 < 18446744073709551616:=mem_getD (unhide MM) (by omega) i
   obtain ⟨cr,fr⟩:=(unhide HI).2.2 i (by omega)
   rw [Nat.zero_add] at cr fr
   obtain ⟨q,hq⟩:∃ q,(rN * 18446744073709551616+xs[i]?.getD 0)/d=q:=⟨_,rfl⟩
   obtain ⟨r',hr'⟩:∃ r',(rN * 18446744073709551616+xs[i]?.getD 0)%d=r':=⟨_,rfl⟩
   obtain ⟨hqB,hst⟩:=(unhide HI).1.step (by omega) hxB q r' hq hr'
   have hr'd:r' < d:=hst.lt
   have ST:=hide hst
   have DV:=hide (div64_any rN (xs[i]?.getD 0) d hdB hxB hrN wr q r' hq hr')
   have hset:=(unhide HI).2.2.set i (by omega) q
   rw [Nat.zero_add] at hset
   have HSET:=hide hset
   clear hset hst hci hq hr'
   generalize xs[i]?.getD 0=x at *
   generalize rs[i]?.getD 0=r0 at cr
   rw [show (((i+1:Nat):Int)-1)=(i:Int) from by omega]
   go_wp2_with fail
   refine (unhide DV).mono ?_
   rintro e w1 ⟨rfl,n,rfl⟩
   go_wp2
   refine ⟨⟨i,r',rs.set i q,by omega,rfl,rfl,hr'd,by rw [List.length_set];exact hrl,unhide ST,((unhide HI).2.1.drewN n).setCell (.inr (Nat.le_refl _)) _,?_⟩,?_⟩
   ·exact unhide HSET
   ·simp [intOf]
end Go.Proofs.YtollloafckcogaaGreatDoor

namespace Go.Proofs.YtollloafckcogaaGreatDoor
open Go.RowKit
theorem append_byte (w:World) (base:Nat) (v:Value) (ds:List UInt8) (hown:w.ownsRow base 5 1 v ds.length (ds.map u8v)) (a:Addr) (d:UInt8) (hc:w.cell? a=some (u8v d)) (hl:ds.length<1073741824) (hb:base≤w.heap.size) :
  ∃ v' w',(Builtin.append_ #[136,136] 136 #[v,.slice (some a) 1 1]).run Tryz.prog w=.ok v' w'∧w'.ownsRow base 5 1 v' (ds++[d]).length ((ds++[d]).map u8v)∧w.grownBy w' v.ownBlock∧(v'.ownBlock=v.ownBlock∨∀ k,v'.ownBlock=some k→w.heap.size≤k):=by
 obtain ⟨i0,hi,hz0,hz1,hz2⟩:=info_u8
 have hnews:∀ j u,[u8v d][j]? = some u→w.cell? (a.add j)=some u:=fun j u hj=>by
  cases j with
  | zero=>simp at hj;subst hj;rw [show a.add 0=a from by simp [Addr.add]];exact hc
  | succ j=>simp at hj
 have h1:∀ u ∈ [u8v d],u.oneCell'=true:=fun u hu=>by simp at hu;subst hu;rfl
 have hrun:=fun (base:Nat) (ho:w.ownsRow base 5 1 v ds.length (ds.map u8v)) (hb:base≤w.heap.size)=>run_append_own (P:=Tryz.prog) w base 136 136 5 i0 (.int .u8 0) 1 1 Tryz.underlying136 hi hz0 hz1 hz2 rfl (by decide) v ds.length (ds.map u8v) ho a 1 1 [u8v d] rfl hnews h1 (by unfold maxLen;omega) (by omega) hb
 obtain ⟨v',w',hr,ho',hg',-⟩:=hrun base hown hb
 refine ⟨v',w',hr,by rw [List.length_append,List.map_append];exact ho',hg',?_⟩
 rcases hown.2 with ⟨rfl,-⟩ | ⟨g,cap,cur,rfl,-,hgc,hnc,hcm,hcs,htake⟩
 ·have hd:ds=[]:=by
   obtain ⟨hx,hy | ⟨g,cap,cur,e,-⟩⟩:=hown
   ·exact List.eq_nil_of_length_eq_zero hy.2
   ·simp at e
  subst hd
  obtain ⟨v2,w2,hr2,ho2,-,-⟩:=hrun w.heap.size (World.ownsRow_nil _ _ _ _) (Nat.le_refl _)
  rw [hr] at hr2
  simp only [Result.ok.injEq] at hr2
  obtain ⟨rfl,rfl⟩:=hr2
  exact .inr fun k hk=>(ho2.lt k hk).1
 ·by_cases hroom:ds.length+1≤cap
  ·have h2:=run_append_room (P:=Tryz.prog) w 136 136 5 i0 Tryz.underlying136 hi g ds.length cap cur hgc a 1 1 [u8v d] (by rw [hz1];rfl) hnews h1 hroom (by rw [hz1,hcs];simp;omega)
   rw [hr] at h2
   simp only [Result.ok.injEq] at h2
   rw [h2.1]
   exact .inl rfl
  ·have h2:=run_append_grow (P:=Tryz.prog) w 136 136 5 i0 (.int .u8 0) Tryz.underlying136 hi hz0 ⟨g,0,none⟩ ds.length cap (ds.map u8v) (by rw [hz1];simp) (hown.cells rfl) a 1 1 [u8v d] (by rw [hz1];rfl) hnews (by omega) (by omega) (growslice_fits (by omega) (by rw [hz2];omega))
   rw [hr] at h2
   simp only [Result.ok.injEq] at h2
   rw [h2.1]
   refine .inr fun k hk=>?_
   simp only [Value.ownBlock,Option.some.injEq] at hk
   omega
end Go.Proofs.YtollloafckcogaaGreatDoor

namespace Go.Proofs.YtollloafckcogaaGreatDoor
open Go.RowKit
def OffB (vb vx:Value):Prop:=∀ k,vb.ownBlock=some k→∀ b off n c,vx=.slice (some ⟨b,off,none⟩) n c→b≠k
theorem OffB.grow {w w':World} {vb vb' vx:Value} {xs:List Nat} {o:Obj} (h:OffB vb vx) (hs:Sl .u64 w vx xs) (h0:0<xs.length) (hg:(w.alloc o).grownBy w' vb.ownBlock) (hb:vb'.ownBlock=vb.ownBlock∨∀ k,vb'.ownBlock=some k→(w.alloc o).heap.size≤k):Sl .u64 w' vx xs∧OffB vb' vx:=by
 constructor
 ·have h1:=hs.but_nil ((But.refl [] w).alloc o)
  cases hr:vb.ownBlock with
  | none=>rw [hr] at hg;exact h1.but_nil (grown_but_none hg)
  | some g=>rw [hr] at hg;exact h1.but (grown_but hg) (fun b off cap n e=>by have:=h g hr b off n cap e;simp;omega)
 ·intro k hk b off n c e
  rcases hb with hb | hb
  ·rw [hb] at hk;exact h k hk b off n c e
  ·have h1:=hb k hk
   have h2:=hs.lt h0 b off n c e
   simp at h1
   omega
theorem row_news {w:World} {g:Nat} {es:List UInt8} (h:Row .u8 w g (es.map UInt8.toNat)):∀ j u,(es.map u8v)[j]? = some u→w.cell? ((⟨g,0,none⟩:Addr).add j)=some u:=fun j u hj=>by
 rw [List.getElem?_map] at hj
 rcases Nat.lt_or_ge j es.length with hl | hl
 ·rw [List.getElem?_eq_getElem hl] at hj
  simp only [Option.map_some,Option.some.injEq] at hj
  have h1:=(h j (by rw [List.length_map];exact hl)).1
  rw [List.getElem?_map,List.getElem?_eq_getElem hl] at h1
  have e:(⟨g,0,none⟩:Addr).add j=⟨g,j,none⟩:=by by_cases h:j=0 <;> simp [Addr.add,h]
  rw [e,h1,← hj]
  rfl
 ·rw [List.getElem?_eq_none hl] at hj
  simp at hj
theorem ten19_lt {q:Nat} (h:1<(wd 18446744073709551616 q).length):10000000000000000000≤q:=by
 rcases Nat.lt_or_ge q 18446744073709551616 with h1 | h1
 ·have:=wd_length_le (B:=18446744073709551616) (by omega) q 1 (by rw [Nat.pow_one];exact h1)
  omega
 ·omega
end Go.Proofs.YtollloafckcogaaGreatDoor

namespace Go.Proofs.YtollloafckcogaaGreatDoor
open Go.RowKit
def wdig (W X:Nat):List UInt8:=rdig X++List.replicate (W-(rdig X).length) 48
theorem wdig_zero (X:Nat):wdig 0 X=rdig X:=by simp [wdig]
theorem pdig_nought:∀ k,pdig k 0=List.replicate k 48
 | 0=>rfl
 | k+1=>by rw [pdig,Nat.zero_div,pdig_nought k,List.replicate_succ];rfl
theorem pdig_wdig:∀ k n,n<10^k→pdig k n=wdig k n
 | 0,n,h=>by
  have:n=0:=by simp at h;omega
  subst this;simp [pdig,wdig,rdig_zero]
 | k+1,n,h=>by
  by_cases h0:0<n
  ·rw [pdig,pdig_wdig k (n/10) (by rw [Nat.div_lt_iff_lt_mul (by omega)];rw [Nat.pow_succ] at h;exact h),wdig,wdig,rdig_pos h0,List.cons_append,List.length_cons,Nat.add_sub_add_right]
  ·have:n=0:=by omega
   subst this;rw [pdig_nought,wdig,rdig_zero];simp
theorem pdig_add:∀ a b n,pdig (a+b) n=pdig a n++pdig b (n/10^a)
 | 0,b,n=>by simp [pdig]
 | a+1,b,n=>by
  rw [Nat.succ_add,pdig,pdig_add a b,pdig,List.cons_append,Nat.div_div_eq_div_mul,Nat.pow_succ,Nat.mul_comm 10]
theorem wdig_long (D X:Nat) (h:10^D≤X):wdig 0 X=wdig D (X%10^D)++wdig 0 (X/10^D):=by
 rw [wdig_zero,wdig_zero,rdig_part D X h,← pdig_mod D X,pdig_wdig D _ (Nat.mod_lt _ (Nat.pow_pos (by omega)))]
theorem wdig_wide (D X:Nat) (h:X<10^(D+D)):wdig (D+D) X=wdig D (X%10^D)++wdig D (X/10^D):=by
 have hp:0<10^D:=Nat.pow_pos (by omega)
 rw [← pdig_wdig _ _ h,pdig_add,← pdig_mod D X,pdig_wdig D _ (Nat.mod_lt _ hp),pdig_wdig D (X/10^D) (by rw [Nat.div_lt_iff_lt_mul hp,← Nat.pow_add];exact h)]
theorem wdig_length (W X:Nat):(wdig W X).length=max W (rdig X).length:=by
 rw [wdig,List.length_append,List.length_replicate];omega
theorem wdig_pos (W X:Nat) (h:0<X∨0<W):0<(wdig W X).length:=by
 rw [wdig_length]
 rcases h with h | h
 ·rw [rdig_pos h];simp;omega
 ·omega
def Keep64 (w w':World):Prop:=∀ v xs,Sl .u64 w v xs→Sl .u64 w' v xs
theorem Keep64.of_but {w w':World} (h:But [] w w'):Keep64 w w':=fun _ _ hs=>hs.but_nil h
theorem Keep64.trans {a b c:World} (h:Keep64 a b) (k:Keep64 b c):Keep64 a c:=fun v xs hs=>k v xs (h v xs hs)
theorem keep_grown {w w':World} {base:Nat} {vo:Value} {ods:List UInt8} (ho:w.ownsRow base 5 1 vo ods.length (ods.map u8v)) (hn:vo=.slice none 0 0∨0<ods.length) (hg:w.grownBy w' vo.ownBlock):Keep64 w w':=by
 intro v xs hs
 rcases hn with rfl | h0
 ·exact hs.but_nil (grown_but_none hg)
 ·obtain ⟨g,cap,rfl,-,-,hr⟩:=owns_row ho h0
  exact hs.over (grown_but hg) (hr 0 (by simpa using h0)).1 (by simp)
theorem below_grown {w w':World} {base:Nat} {vo:Value} {n:Nat} {xs:List Value} (ho:w.ownsRow base 5 1 vo n xs) (hb:base≤w.heap.size) (hg:w.grownBy w' vo.ownBlock):Below base w w' :=
 ⟨hg.os,hg.tape,hg.output,hg.size,fun k hk=>hg.block k (by omega) (fun e=>by have:=(ho.lt k e.symm).1;omega)⟩
theorem But.below_of {w w':World} {base:Nat} (h:But [] w w') (hb:base≤w.heap.size):Below base w w':=⟨h.os,h.tape,h.output,h.size,fun k hk=>h.block k (by omega) (by simp)⟩
theorem below_trans {a b c:World} {n:Nat} (h:Below n a b) (k:Below n b c):Below n a c :=
 ⟨k.os.trans h.os,k.tape.trans h.tape,k.output.trans h.output,Nat.le_trans h.size k.size,fun i hi=>(k.block i hi).trans (h.block i hi)⟩
theorem owns_shape {w:World} {base:Nat} {e:TypeId} {v:Value} {n:Nat} {xs:List Value} (h:w.ownsRow base e 1 v n xs):∃ a c,v=.slice a n c:=by
 obtain ⟨-,h2⟩:=h
 rcases h2 with ⟨rfl,rfl⟩ | ⟨g,cap,cur,e1,-⟩
 ·exact ⟨_,_,rfl⟩
 ·exact ⟨_,_,e1⟩
end Go.Proofs.YtollloafckcogaaGreatDoor

namespace Go.Proofs.YtollloafckcogaaGreatDoor
open Go.RowKit
set_option maxHeartbeats 4000000
set_option maxRecDepth 100000
structure ShortAt (w:World) (n m:Nat) (ds:List UInt8) (vb vx:Value) (wr:World):Prop where
 words:Sl .u64 wr vx (wd 18446744073709551616 m)
 own:wr.ownsRow w.heap.size 5 1 vb ds.length (ds.map u8v)
 but:But [] w wr
 dig:rdig n=ds++rdig m
 pos:0<n→0<m
 len:(wd 18446744073709551616 m).length<1048576
theorem appendShort_any (base:Nat) (vo:Value) (ods:List UInt8) (v:Value) (X Wd:Nat) (w:World) (hv:Sl .u64 w v (wd 18446744073709551616 X)) (hX:0<X∨0<Wd) (hl:(wd 18446744073709551616 X).length<1048576) (hd:ods.length+(rdig X).length+Wd<1073741000) (ho:w.ownsRow base 5 1 vo ods.length (ods.map u8v)) (hn:vo=.slice none 0 0∨0<ods.length) (hbase:base≤w.heap.size) :
  Calls Tryz.prog 126 #[vo,v,.int .i64 (Wd:Int)] w fun e w'=>∃ v',e=.returned v'∧w'.ownsRow base 5 1 v' (ods++(wdig Wd X).reverse).length ((ods++(wdig Wd X).reverse).map u8v)∧Below base w w'∧Keep64 w w':=by
 have HO:=hide ho
 have HN:=hide hn
 have HBS:=hide hbase
 obtain ⟨oa,oc,rfl⟩:=owns_shape ho
 clear ho hn hbase
 have HV:=hide hv
 clear hv
 obtain ⟨xa,xc,rfl,-,-⟩:=unhide HV
 have HX:=hide hX
 have HD:=hide hd
 clear hX hd
 generalize hno:ods.length=no at *
 have HNO:=hide hno
 clear hno
 go_enter Tryz.func126,Tryz.ntmps126
 go_wp2
 go_loopg [7,1] X (fun m vb vx wr=>∃ ds:List UInt8,ShortAt w X m ds vb vx wr)
 case atStart=>exact ⟨[],⟨unhide HV,World.ownsRow_nil _ _ _ _,But.refl _ _,rfl,fun h=>h,hl⟩⟩
 case round =>
  obtain ⟨ds,hI⟩:=hrel
  rename World=>wr
  obtain ⟨hsl,hown,hbut,hdig,hpos,hlen⟩:=hI
  have hdl:ds.length<1073741000:=by have:=congrArg List.length hdig;have h2:=unhide HD;rw [List.length_append] at this;omega
  have HSL:=hide hsl
  obtain ⟨aa,ca,rfl,-,-⟩:=hsl
  have HDG:=hide hdig
  have HOWN:=hide hown
  have HBUT:=hide hbut
  clear hdig hown hbut
  by_cases hm:1<(wd 18446744073709551616 gk).length
  ·have h19:=ten19_lt hm
   obtain ⟨m',hm'⟩:∃ m',m'=gk/10000000000000000000:=⟨_,rfl⟩
   obtain ⟨r0,hr0⟩:∃ r0,r0=gk%10000000000000000000:=⟨_,rfl⟩
   have hmp:0<m':=by omega
   have hml:(wd 18446744073709551616 m').length≤(wd 18446744073709551616 gk).length:=wd_len_mono (by omega)
   have BW:=hide (byWord_fresh _ gk 10000000000000000000 wr (unhide HSL) (by omega) (by omega) (by omega))
   rw [← hm',← hr0] at BW
   have hDP:Hid (rdig gk=pdig 19 r0++rdig m'):=by
    show _=_
    have h:=rdig_part 19 gk (by exact h19)
    rw [← pdig_mod 19 gk] at h
    rw [hm',hr0]
    exact h
   have hr0l:r0<10000000000000000000:=by omega
   have hlt':m' < gk:=by rw [hm'];exact Nat.div_lt_self (by omega) (by omega)
   have HML:=hide hml
   clear hm' hr0 hml h19
   generalize hla:(wd 18446744073709551616 gk).length=la at *
   clear hla
   have hwl:Hid (0<(wd 18446744073709551616 m').length):=by show _<_;rw [Nat.pos_iff_ne_zero];intro e;rw [wd_len_zero (by omega)] at e;omega
   go_wp2_with fail
   refine (unhide BW).mono ?_
   rintro e w2 ⟨v2,rfl,hv2,hb2,hf2⟩
   have HV2:=hide hv2
   have HOWN2:=hide (owns_but (unhide HOWN) hb2)
   have HBUT2:Hid (But [] w w2):=(unhide HBUT).trans' hb2
   have HOFF:Hid (OffB u7 v2):=fun k hk b off n c e=>by
    have h1:=((unhide HOWN).lt k hk).2
    have h2:=hf2 b off n c e
    omega
   clear hv2 hb2 hf2
   go_wp2_with fail
   go_loopw [7,8,18] (fun vb rest c wq=>∃ j q:Nat,j≤19∧c=.int .i64 j∧rest=.int .u64 q∧q<10000000000000000000∧Hid (q=r0/10^j∧wq.ownsRow w.heap.size 5 1 vb (ds++pdig j r0).length ((ds++pdig j r0).map u8v)∧But [] w wq∧Sl .u64 wq v2 (wd 18446744073709551616 m')∧OffB vb v2)) (fun _ _ c _=>19-(intOf c).toNat)
   case atStart=>exact ⟨0,r0,by omega,rfl,rfl,hr0l,by simp,by simpa [pdig] using unhide HOWN2,unhide HBUT2,unhide HV2,unhide HOFF⟩
   case round =>
    obtain ⟨j,q,hj,rfl,rfl,hq,HI⟩:=hrel
    rename World=>wq
    by_cases hj19:j=19
    ·subst hj19
     have HIK:=hide (unhide HI).2
     clear HI
     go_wp2
     go_roundg m'
     case measure=>exact hlt'
     case rel =>
      obtain ⟨k1,k2,k3,-⟩:=unhide HIK
      refine ⟨ds++pdig 19 r0,k3,k1,k2,?_,fun _=>hmp,by have:=unhide HML;omega⟩
      rw [unhide HDG,unhide hDP,List.append_assoc]
    ·have hj2:j<19:=by omega
     obtain ⟨dg,hdg⟩:∃ dg,dg=q%10:=⟨_,rfl⟩
     obtain ⟨q',hq'⟩:∃ q',q'=q/10:=⟨_,rfl⟩
     have hd10:dg<10:=by omega
     have hq2:q' < 10000000000000000000:=by omega
     have e1:(q:Int)%10=(dg:Int):=by omega
     have e2:(q:Int)/10=(q':Int):=by omega
     have e3:(q:Int).tmod 10=(dg:Int):=by rw [Int.tmod_eq_emod_of_nonneg (by omega)];exact e1
     have e4:(q:Int).tdiv 10=(q':Int):=by rw [Int.tdiv_eq_ediv_of_nonneg (by omega)];exact e2
     have hqj:Hid (q'=r0/10^(j+1)∧pdig (j+1) r0=pdig j r0++[UInt8.ofNat (48+dg)]):=by
      constructor
      ·rw [hq',(unhide HI).1,Nat.div_div_eq_div_mul,Nat.pow_succ]
      ·rw [pdig_snoc,← (unhide HI).1,← hdg]
     have hld:(ds++pdig j r0).length<1073741824:=by rw [List.length_append,pdig_length];omega
     have hAB:=append_byte (wq.alloc (.cells #[.int .u8 (48+(dg:Int))] 5)) w.heap.size u7 (ds++pdig j r0) ((unhide HI).2.1.alloc _) ⟨wq.heap.size,0,none⟩ (UInt8.ofNat (48+dg)) (by rw [← u8v_digit dg hd10];simp) hld (by have:=(unhide HI).2.2.1.size;simp;omega)
     obtain ⟨v3,w3,hr3,ho3,hg3,hb3⟩:=hAB
     have hB3:But [] w w3:=((unhide HI).2.2.1.alloc _).grown hg3 (fun k hk=>((unhide HI).2.1.lt k hk).1)
     obtain ⟨hS3,hO3⟩:=(unhide HI).2.2.2.2.grow (unhide HI).2.2.2.1 (unhide hwl) hg3 hb3
     have ALL:=hide (And.intro ho3 (And.intro hB3 (And.intro hS3 hO3)))
     have HR3:=hide hr3
     clear ho3 hB3 hS3 hO3 hg3 hb3 hr3 hld hdg hq'
     go_wp2_with (at_builtin;refine wpList_app rfl _ _ 136 136 rfl _ _ v3 w3 rfl rfl (unhide HR3) ?_)
     refine ⟨⟨j+1,q',by omega,by go_num,rfl,hq2,(unhide hqj).1,?_,(unhide ALL).2.1,(unhide ALL).2.2.1,(unhide ALL).2.2.2⟩,?_⟩
     ·rw [(unhide hqj).2,← List.append_assoc];exact (unhide ALL).1
     ·simp [intOf];omega
  ·by_cases hg0:gk=0
   ·subst hg0
    have HOWNt:=HOWN
    have HBUTt:=HBUT
    rw [wd_zero,List.length_nil]
    have hdg:=unhide HDG
    rw [rdig_zero,List.append_nil] at hdg
    clear HSL hlen hpos hm HDG
    have hE:rdig X=ds:=hdg
    clear hdg
    have PAD0:Hid (wr.ownsRow w.heap.size 5 1 u7 (ds++List.replicate 0 48).length ((ds++List.replicate 0 48).map u8v)∧But [] w wr):=by
     rw [List.replicate_zero,List.append_nil];exact ⟨unhide HOWN,unhide HBUT⟩
    have HEX:=hide hE
    have hel2:ds.length+Wd<1073741000:=by have:=unhide HD;rw [hE] at this;omega
    clear hE
    go_wp2_with fail
    go_loopg [7] (Wd-ds.length) (fun k vb wp=>∃ j:Nat,j+k=Wd-ds.length∧Hid (wp.ownsRow w.heap.size 5 1 vb (ds++List.replicate j 48).length ((ds++List.replicate j 48).map u8v)∧But [] w wp))
    case atStart=>exact ⟨0,by omega,PAD0⟩
    case round =>
     clear PAD0
     obtain ⟨j,hjk,HP⟩:=hrel
     rename World=>wp
     obtain ⟨pa,pc,hpe⟩:=owns_shape (unhide HP).1
     have hpl:(ds++List.replicate j 48).length=ds.length+j:=by rw [List.length_append,List.length_replicate]
     by_cases hk0:gk=0
     ·subst hk0
      have hfs:ds++List.replicate j (48:UInt8)=wdig Wd X:=by rw [wdig,unhide HEX,show j=Wd-ds.length from by omega]
      have hfl:0<(wdig Wd X).length:=wdig_pos Wd X (unhide HX)
      have hown:=(unhide HP).1
      rw [hfs] at hown hpl
      obtain ⟨g,cg,hg7,hgb,hcg,hrow⟩:=owns_row hown hfl
      rw [hg7] at hpe
      subst hg7
      have HGB:=hide hgb
      have RV:=hide (reverse_any g cg ((wdig Wd X).map UInt8.toNat) wp hrow (by simpa using hfl) (by rw [List.length_map];omega))
      rw [List.length_map] at RV
      have BUT:=hide (unhide HP).2
      have hlw:(wdig Wd X).length<1073741000:=by omega
      have hwle:(Wd:Int)≤((wdig Wd X).length:Int):=by omega
      have HLW:Hid (no+(wdig Wd X).length<1073741000):=by
       have h1:=unhide HD
       have h2:=wdig_length Wd X
       show _<_
       omega
      clear hown hrow hgb hcg HP hfs hfl hpe hpl hjk
      generalize hne:(wdig Wd X).length=ne at *
      go_wp2_with fail
      refine (unhide RV).mono ?_
      rintro e w4 ⟨rfl,hr4,hb4⟩
      rw [← List.map_reverse] at hr4
      obtain ⟨i0,hi,hz0,hz1,hz2⟩:=info_u8
      have hB4:But [] w w4:=(unhide BUT).trans hb4 (fun x hx=>by simp at hx;subst hx;exact .inr (unhide HGB))
      have hO4:=owns_but (unhide HO) hB4
      have hbs:=unhide HBS
      have hlw2:=unhide HLW
      obtain ⟨v5,w5,hr5,ho5,hg5,-⟩:=run_append_own (P:=Tryz.prog) w4 base 136 136 5 i0 (.int .u8 0) 1 1 Tryz.underlying136 hi hz0 hz1 hz2 rfl (by decide) (.slice oa no oc) no (ods.map u8v) hO4 ⟨g,0,none⟩ ne cg ((wdig Wd X).reverse.map u8v) (by rw [List.length_map,List.length_reverse,hne,Nat.mul_one]) (row_news hr4) (fun u hu=>by obtain ⟨x,-,rfl⟩:=List.mem_map.1 hu;rfl) (by unfold maxLen;omega) (by omega) (Nat.le_trans hbs hB4.size)
      have hK:Keep64 w w5:=(Keep64.of_but hB4).trans (keep_grown (ods:=ods) (by rw [unhide HNO];exact hO4) (by rw [unhide HNO];exact unhide HN) hg5)
      have hBe:Below base w w5:=below_trans (hB4.below_of hbs) (below_grown hO4 (Nat.le_trans hbs hB4.size) hg5)
      have ALL:=hide (And.intro ho5 (And.intro hBe hK))
      have HR5:=hide hr5
      clear ho5 hBe hK hr5 hg5 hr4 hb4 hB4 hO4 hi hz0 hz1 hz2 hbs hlw2
      go_wp2_with (at_builtin;refine wpList_app rfl _ _ 136 136 rfl _ _ v5 w5 rfl rfl (unhide HR5) ?_)
      go_ret
      refine ⟨v5,rfl,?_,(unhide ALL).2.1,(unhide ALL).2.2⟩
      rw [List.length_append,List.length_reverse,hne,unhide HNO,List.map_append]
      exact (unhide ALL).1
     ·have hAB:=append_byte (wp.alloc (.cells #[.int .u8 48] 5)) w.heap.size u7 (ds++List.replicate j 48) ((unhide HP).1.alloc _) ⟨wp.heap.size,0,none⟩ 48 (by simp [u8v]) (by omega) (by have:=(unhide HP).2.size;simp;omega)
      obtain ⟨v3,w3,hr3,ho3,hg3,-⟩:=hAB
      have hB3:But [] w w3:=((unhide HP).2.alloc _).grown hg3 (fun k hk=>((unhide HP).1.lt k hk).1)
      rw [List.append_assoc,← List.replicate_succ'] at ho3
      have ALL:=hide (And.intro ho3 hB3)
      rw [hpe] at hr3
      have HR3:=hide hr3
      subst hpe
      have hlt:((ds++List.replicate j (48:UInt8)).length:Int)<(Wd:Int):=by omega
      have hrl:j+1+(gk-1)=Wd-ds.length:=by omega
      have HRL:=hide hrl
      clear ho3 hB3 hg3 hr3 hjk hpl HP hrl
      generalize (ds++List.replicate j (48:UInt8)).length=np at *
      go_wp2_with (at_builtin;refine wpList_app rfl _ _ 136 136 rfl _ _ v3 w3 rfl rfl (unhide HR3) ?_)
      go_roundg (gk-1)
      case measure=>omega
      case rel=>exact ⟨j+1,unhide HRL,unhide ALL⟩
   have hpos:0<gk:=by omega
   have hl1:(wd 18446744073709551616 gk).length=1:=by
    have:(wd 18446744073709551616 gk).length≠0:=by intro e;rw [wd_len_zero (by omega)] at e;omega
    omega
   have hgB:gk < 18446744073709551616:=by
    have:=lt_of_wd_length (B:=18446744073709551616) (by omega) gk 1 (by omega)
    rw [Nat.pow_one] at this;exact this
   have hcell:∃ b off,aa=some ⟨b,off,none⟩∧wr.cell? ⟨b,off,none⟩=some (.int .u64 (gk:Int)):=by
    rcases (unhide HSL).open with ⟨e,-⟩ | ⟨-,b,off,c,e,-,-,hc⟩
    ·rw [e] at hl1;simp at hl1
    ·simp only [Value.slice.injEq] at e
     have h:=hc 0 (by omega)
     rw [Nat.add_zero,wd_word gk hpos hgB] at h
     exact ⟨b,off,e.1,h⟩
   obtain ⟨b,off,rfl,hc0⟩:=hcell
   have HCUR:=hide hpos
   rw [hl1]
   clear hm hl1 hlen HSL
   go_wp2
   go_loopg [7,9] gk (fun m vb rest wq=>∃ es:List UInt8,rest=.int .u64 (m:Int)∧m < 18446744073709551616∧Hid (rdig X=es++rdig m∧wq.ownsRow w.heap.size 5 1 vb es.length (es.map u8v)∧But [] w wq))
   case atStart=>exact ⟨ds,rfl,hgB,unhide HDG,unhide HOWN,unhide HBUT⟩
   case round =>
    obtain ⟨es,rfl,hmB,HI⟩:=hrel
    rename World=>wq
    clear hc0
    have hel:es.length<1073741000:=by have:=congrArg List.length (unhide HI).1;have h2:=unhide HD;rw [List.length_append] at this;omega
    by_cases h0:gk=0
    ·subst h0
     have hE0:rdig X=es:=by have:=(unhide HI).1;rw [rdig_zero,List.append_nil] at this;exact this
     have hE:rdig X=es:=hE0
     clear hE0
     have PAD0:Hid (wq.ownsRow w.heap.size 5 1 u7 (es++List.replicate 0 48).length ((es++List.replicate 0 48).map u8v)∧But [] w wq):=by
      rw [List.replicate_zero,List.append_nil];exact ⟨(unhide HI).2.1,(unhide HI).2.2⟩
     have HEX:=hide hE
     have hel2:es.length+Wd<1073741000:=by have:=unhide HD;rw [hE] at this;omega
     clear hE
     go_wp2_with fail
     go_loopg [7] (Wd-es.length) (fun k vb wp=>∃ j:Nat,j+k=Wd-es.length∧Hid (wp.ownsRow w.heap.size 5 1 vb (es++List.replicate j 48).length ((es++List.replicate j 48).map u8v)∧But [] w wp))
     case atStart=>exact ⟨0,by omega,PAD0⟩
     case round =>
      clear PAD0
      obtain ⟨j,hjk,HP⟩:=hrel
      rename World=>wp
      obtain ⟨pa,pc,hpe⟩:=owns_shape (unhide HP).1
      have hpl:(es++List.replicate j 48).length=es.length+j:=by rw [List.length_append,List.length_replicate]
      by_cases hk0:gk=0
      ·subst hk0
       have hfs:es++List.replicate j (48:UInt8)=wdig Wd X:=by rw [wdig,unhide HEX,show j=Wd-es.length from by omega]
       have hfl:0<(wdig Wd X).length:=wdig_pos Wd X (unhide HX)
       have hown:=(unhide HP).1
       rw [hfs] at hown hpl
       obtain ⟨g,cg,hg7,hgb,hcg,hrow⟩:=owns_row hown hfl
       rw [hg7] at hpe
       subst hg7
       have HGB:=hide hgb
       have RV:=hide (reverse_any g cg ((wdig Wd X).map UInt8.toNat) wp hrow (by simpa using hfl) (by rw [List.length_map];omega))
       rw [List.length_map] at RV
       have BUT:=hide (unhide HP).2
       have hlw:(wdig Wd X).length<1073741000:=by omega
       have hwle:(Wd:Int)≤((wdig Wd X).length:Int):=by omega
       have HLW:Hid (no+(wdig Wd X).length<1073741000):=by
        have h1:=unhide HD
        have h2:=wdig_length Wd X
        show _<_
        omega
       clear hown hrow hgb hcg HP hfs hfl hpe hpl hjk
       generalize hne:(wdig Wd X).length=ne at *
       go_wp2_with fail
       refine (unhide RV).mono ?_
       rintro e w4 ⟨rfl,hr4,hb4⟩
       rw [← List.map_reverse] at hr4
       obtain ⟨i0,hi,hz0,hz1,hz2⟩:=info_u8
       have hB4:But [] w w4:=(unhide BUT).trans hb4 (fun x hx=>by simp at hx;subst hx;exact .inr (unhide HGB))
       have hO4:=owns_but (unhide HO) hB4
       have hbs:=unhide HBS
       have hlw2:=unhide HLW
       obtain ⟨v5,w5,hr5,ho5,hg5,-⟩:=run_append_own (P:=Tryz.prog) w4 base 136 136 5 i0 (.int .u8 0) 1 1 Tryz.underlying136 hi hz0 hz1 hz2 rfl (by decide) (.slice oa no oc) no (ods.map u8v) hO4 ⟨g,0,none⟩ ne cg ((wdig Wd X).reverse.map u8v) (by rw [List.length_map,List.length_reverse,hne,Nat.mul_one]) (row_news hr4) (fun u hu=>by obtain ⟨x,-,rfl⟩:=List.mem_map.1 hu;rfl) (by unfold maxLen;omega) (by omega) (Nat.le_trans hbs hB4.size)
       have hK:Keep64 w w5:=(Keep64.of_but hB4).trans (keep_grown (ods:=ods) (by rw [unhide HNO];exact hO4) (by rw [unhide HNO];exact unhide HN) hg5)
       have hBe:Below base w w5:=below_trans (hB4.below_of hbs) (below_grown hO4 (Nat.le_trans hbs hB4.size) hg5)
       have ALL:=hide (And.intro ho5 (And.intro hBe hK))
       have HR5:=hide hr5
       clear ho5 hBe hK hr5 hg5 hr4 hb4 hB4 hO4 hi hz0 hz1 hz2 hbs hlw2
       go_wp2_with (at_builtin;refine wpList_app rfl _ _ 136 136 rfl _ _ v5 w5 rfl rfl (unhide HR5) ?_)
       go_ret
       refine ⟨v5,rfl,?_,(unhide ALL).2.1,(unhide ALL).2.2⟩
       rw [List.length_append,List.length_reverse,hne,unhide HNO,List.map_append]
       exact (unhide ALL).1
      ·have hAB:=append_byte (wp.alloc (.cells #[.int .u8 48] 5)) w.heap.size u7 (es++List.replicate j 48) ((unhide HP).1.alloc _) ⟨wp.heap.size,0,none⟩ 48 (by simp [u8v]) (by omega) (by have:=(unhide HP).2.size;simp;omega)
       obtain ⟨v3,w3,hr3,ho3,hg3,-⟩:=hAB
       have hB3:But [] w w3:=((unhide HP).2.alloc _).grown hg3 (fun k hk=>((unhide HP).1.lt k hk).1)
       rw [List.append_assoc,← List.replicate_succ'] at ho3
       have ALL:=hide (And.intro ho3 hB3)
       rw [hpe] at hr3
       have HR3:=hide hr3
       subst hpe
       have hlt:((es++List.replicate j (48:UInt8)).length:Int)<(Wd:Int):=by omega
       have hrl:j+1+(gk-1)=Wd-es.length:=by omega
       have HRL:=hide hrl
       clear ho3 hB3 hg3 hr3 hjk hpl HP hrl
       generalize (es++List.replicate j (48:UInt8)).length=np at *
       go_wp2_with (at_builtin;refine wpList_app rfl _ _ 136 136 rfl _ _ v3 w3 rfl rfl (unhide HR3) ?_)
       go_roundg (gk-1)
       case measure=>omega
       case rel=>exact ⟨j+1,unhide HRL,unhide ALL⟩
    ·have hp:0<gk:=by omega
     obtain ⟨dg,hdg⟩:∃ dg,dg=gk%10:=⟨_,rfl⟩
     obtain ⟨q',hq'⟩:∃ q',q'=gk/10:=⟨_,rfl⟩
     have hd10:dg<10:=by omega
     have hq2:q' < 18446744073709551616:=by omega
     have hlt':q' < gk:=by omega
     have e0:((gk:Int) != 0)=true:=by simp;omega
     have e1:(gk:Int)%10=(dg:Int):=by omega
     have e2:(gk:Int)/10=(q':Int):=by omega
     have e3:(gk:Int).tmod 10=(dg:Int):=by rw [Int.tmod_eq_emod_of_nonneg (by omega)];exact e1
     have e4:(gk:Int).tdiv 10=(q':Int):=by rw [Int.tdiv_eq_ediv_of_nonneg (by omega)];exact e2
     have hqj:Hid (rdig X=(es++[UInt8.ofNat (48+dg)])++rdig q'):=by
      show _=_
      rw [(unhide HI).1,rdig_pos hp,← hdg,← hq',List.append_assoc];rfl
     have hAB:=append_byte (wq.alloc (.cells #[.int .u8 (48+(dg:Int))] 5)) w.heap.size u7 es ((unhide HI).2.1.alloc _) ⟨wq.heap.size,0,none⟩ (UInt8.ofNat (48+dg)) (by rw [← u8v_digit dg hd10];simp) (by omega) (by have:=(unhide HI).2.2.size;simp;omega)
     obtain ⟨v3,w3,hr3,ho3,hg3,-⟩:=hAB
     have hB3:But [] w w3:=((unhide HI).2.2.alloc _).grown hg3 (fun k hk=>((unhide HI).2.1.lt k hk).1)
     have ALL:=hide (And.intro ho3 hB3)
     have HR3:=hide hr3
     clear ho3 hB3 hg3 hr3 hdg hq'
     go_wp2_with (at_builtin;refine wpList_app rfl _ _ 136 136 rfl _ _ v3 w3 rfl rfl (unhide HR3) ?_)
     go_roundg q'
     case measure=>exact hlt'
     case rel=>exact ⟨_,rfl,hq2,unhide hqj,(unhide ALL).1,(unhide ALL).2⟩
end Go.Proofs.YtollloafckcogaaGreatDoor
