/- Decimal digits and rows of bytes, plain. -/
import Derived.Test.YtagmkkiagjmimaaGreatDoorProg
import Derived.Deep.LoopGhost
import Derived.Lib.ItoaNum
import Derived.Laws.IdiomStrings
import Derived.OwnWalk
import Derived.WalkSpells
import Derived.Shelf.Strconv.Itoa1
import Derived.Shelf.LaysM
import Derived.Shelf.Strconv.Itoa2
import Derived.Shelf.Small.Bits
import Derived.Laws.Bits64b
import Derived.Deep.RegionHeld
import Derived.Lib.ItoaMem
import Derived.Test.YtagmkkiagjmimaaGreatDoorYN15
namespace Go.Proofs.YtagmkkiagjmimaaGreatDoor
set_option linter.unusedVariables false
open Go.Proofs.Tryz
open Go.RowKit
theorem But.grown {a w w':World} {row:Option Nat} (h:But [] a w) (hg:w.grownBy w' row) (hr:∀ k,row=some k→a.heap.size≤k):But [] a w' :=
 ⟨hg.os.trans h.os,hg.tape.trans h.tape,hg.output.trans h.output,Nat.le_trans h.size hg.size,fun k hk hn=>by
  rw[hg.block k (Nat.lt_of_lt_of_le hk h.size) (fun e=>by have:=hr k e.symm;omega)]
  exact h.block k hk hn⟩
theorem zge {w w':World} {g:Nat} (hg:w.grownBy w' (some g)):But [g] w w' :=
 ⟨hg.os,hg.tape,hg.output,hg.size,fun k hk hn=>hg.block k hk (fun e=>hn (by simp only[Option.some.injEq] at e;simp[e]))⟩
theorem uy {w w':World} (hg:w.grownBy w' none):But [] w w' :=
 ⟨hg.os,hg.tape,hg.output,hg.size,fun k hk _=>hg.block k hk (by simp)⟩
theorem zat {w w':World} {base:Nat} {e:TypeId} {size:Nat} {v:Value} {n:Nat} {xs:List Value} (h:w.ownsRow base e size v n xs) (hb:But [] w w'):w'.ownsRow base e size v n xs:=by(
 obtain⟨h1,h2⟩:=h
 refine⟨h1,?_⟩
 rcases h2 with h2|⟨g,cap,cur,e1,e2,e3,e4⟩
 ·exact .inl h2
 ·(
 refine .inr ⟨g,cap,cur,e1,e2,?_,e4⟩
 have hlt:g<w.heap.size:=by
  rcases Nat.lt_or_ge g w.heap.size with h | h
  ·exact h
  ·rw[Array.getElem?_eq_none h] at e3;cases e3
 rw[hb.block g hlt (by simp)];exact e3))
def u8v (b:UInt8):Value:=.int .u8 (b.toNat:Int)
def vv (n:Nat):List UInt8:=if h:0<n then UInt8.ofNat (48+n%10)::vv (n/10) else []
 termination_by n
 decreasing_by exact Nat.div_lt_self h (by omega)
theorem pq:vv 0=[]:=by rw[vv];simp
theorem uj {n:Nat} (h:0<n):vv n=UInt8.ofNat (48+n%10)::vv (n/10):=by rw[vv,dif_pos h]
theorem zhh (n:Nat) (h:0<n):(vv n).reverse=Lib.decDigits n:=by(
 induction n using Nat.strongRecOn with
 | _ n ih =>
  rw[uj h,List.reverse_cons,Lib.decDigits]
  by_cases h10:n<10
  ·rw[dif_pos h10,Nat.div_eq_of_lt h10,pq,Nat.mod_eq_of_lt h10];rfl
  ·rw[dif_neg h10,ih (n/10) (Nat.div_lt_self h (by omega)) (by omega)])
theorem zco (n k:Nat) (h:n<10^k):(vv n).length≤k:=by(
 induction k generalizing n with
 | zero =>
  have:n=0:=by simp at h;omega
  subst this;simp[pq]
 | succ k ih =>
  by_cases hn:0<n
  ·rw[uj hn,List.length_cons]
   have:=ih (n/10) (by rw[Nat.div_lt_iff_lt_mul (by omega)];rw[Nat.pow_succ] at h;exact h)
   omega
  ·have:n=0:=by omega
   subst this;simp[pq])
theorem zlm:∃ i,prog.info? 5 = some i∧i.zero=some (.int .u8 0)∧i.size=1∧i.bytes=1:=by(
 have h:(prog.info? 5).map (fun i=>(i.zero,i.size,i.bytes))=some (some (.int .u8 0),1,1):=by kernel_rfl
 obtain⟨i,hi,he⟩:=Option.map_eq_some_iff.1 h
 simp only[Prod.mk.injEq] at he
 exact⟨i,hi,he.1,he.2.1,he.2.2⟩)
structure zal (bs cs:List Nat) (i:Nat):Prop where
 len:cs.length=bs.length
 at':∀ k,k<bs.length→cs[k]?.getD 0=if k<i∨bs.length-i≤k then bs[bs.length-1-k]?.getD 0 else bs[k]?.getD 0
theorem zal.start (bs:List Nat):zal bs bs 0:=⟨rfl,fun k hk=>by rw[if_neg (by omega)]⟩
theorem ztv (l:List Nat) (i k x:Nat) (hi:i<l.length):(l.set i x)[k]?.getD 0=if k=i then x else l[k]?.getD 0:=by(
 by_cases h:k=i
 ·subst h;rw[List.getElem?_set_self hi,if_pos rfl];rfl
 ·rw[List.getElem?_set_ne (Ne.symm h),if_neg h])
theorem zal.step {bs cs:List Nat} {i:Nat} (h:zal bs cs i) (hij:i<bs.length-1-i):zal bs ((cs.set i (cs[bs.length-1-i]?.getD 0)).set (bs.length-1-i) (cs[i]?.getD 0)) (i+1):=by(
 have hl:=h.len
 refine⟨by simp[hl],fun k hk=>?_⟩
 have e1:cs[i]?.getD 0=bs[i]?.getD 0:=by rw[h.at' i (by omega),if_neg (by omega)]
 have e2:cs[bs.length-1-i]?.getD 0=bs[bs.length-1-i]?.getD 0:=by rw[h.at' (bs.length-1-i) (by omega),if_neg (by omega)]
 rw[ztv _ _ _ _ (by simp[hl];omega),ztv _ _ _ _ (by omega),e1,e2]
 by_cases h1:k=bs.length-1-i
 ·subst h1
  rw[if_pos rfl,if_pos (by omega),show bs.length-1-(bs.length-1-i)=i from by omega]
 ·(
 rw[if_neg h1]
 by_cases h2:k=i
 ·subst h2
  rw[if_pos rfl,if_pos (by omega)]
 ·rw[if_neg h2,h.at' k hk]
  by_cases h3:k<i∨bs.length-i≤k
  ·rw[if_pos h3,if_pos (by omega)]
  ·rw[if_neg h3,if_neg (by omega)]))
theorem zal.fin {bs cs:List Nat} {i:Nat} (h:zal bs cs i) (hij:bs.length≤2*i+1):cs=bs.reverse:=by(
 refine List.ext_getElem (by simp[h.len]) fun k h1 h2=>?_
 have hk:k<bs.length:=by rw[← h.len];exact h1
 have e:=h.at' k hk
 rw[List.getElem?_eq_getElem h1,Option.getD_some] at e
 rw[e,List.getElem_reverse]
 by_cases h3:k<i∨bs.length-i≤k
 ·rw[if_pos h3,List.getElem?_eq_getElem (by omega)];rfl
 ·rw[if_neg h3,List.getElem?_eq_getElem hk,Option.getD_some]
  have:bs.length-1-k=k:=by omega
  simp only[this])
theorem zdk {w:World} {base:Nat} {e:TypeId} {v:Value} {bs:List UInt8} (h:w.ownsRow base e 1 v bs.length (bs.map u8v)) (h0:0<bs.length) :
   ∃ g cap,v=.slice (some ⟨g,0,none⟩) bs.length cap∧base≤g∧bs.length≤cap∧Row .u8 w g (bs.map UInt8.toNat):=by(
 obtain⟨h1,h2⟩:=h
 rcases h2 with ⟨-,h2⟩|⟨g,cap,cur,e1,e2,e3,e4,e5,e6,e7⟩
 ·omega
 ·(
 refine⟨g,cap,e1,e2,e4,fun i hi=>?_⟩
 rw[List.length_map] at hi
 have hc:cur[i]? = some (u8v bs[i]):=by
  have:(cur.toList.take (bs.length*1))[i]? = some (u8v bs[i]):=by rw[e7,List.getElem?_map,List.getElem?_eq_getElem hi];rfl
  rw[List.getElem?_take_of_lt (by omega)] at this
  simpa using this
 refine⟨?_,by simp[World.frozen?,e3]⟩
 simp only[World.cell?,e3,hc]
 simp[u8v,hi]))
theorem qch {k:IntKind} {w2 w3:World} {v:Value} {xs:List Nat} {o:Obj} {row:Option Nat} {B:Nat} (h:Sl k w2 v xs) (hg:(w2.alloc o).grownBy w3 row) (hr:∀ k,row=some k→k<B) (hf:rz B v):Sl k w3 v xs:=by(
 have h1:=h.ah ((But.refl [] w2).alloc o)
 cases row with
 | none=>exact h1.ah (uy hg)
 | some g=>exact h1.but (zge hg) (fun b off cap n e=>by have:=hf b off n cap e;have:=hr g rfl;simp;omega))
theorem zio (r:Nat) (h:r<10):Value.int .u8 (48+(r:Int))=u8v (UInt8.ofNat (48+r)):=by(
 unfold u8v
 rw[UInt8.toNat_ofNat_of_lt' (by simp[UInt8.size];omega)]
 simp)
def iy:Nat→Nat→List UInt8
 | 0,_=>[]
 | k+1,r=>UInt8.ofNat (48+r%10)::iy k (r/10)
theorem zke:∀ k r,(iy k r).length=k
 | 0,_=>rfl
 | k+1,r=>by rw[iy,List.length_cons,zke k]
theorem zoq:∀ k r,iy (k+1) r=iy k r++[UInt8.ofNat (48+r/10^k%10)]
 | 0,r=>by simp[iy]
 | k+1,r=>by
  rw[iy,zoq k (r/10),iy,List.cons_append,Nat.div_div_eq_div_mul,Nat.pow_succ,Nat.mul_comm 10]
theorem zhj:∀ k r,iy k (r%10^k)=iy k r
 | 0,r=>rfl
 | k+1,r=>by
  have h1:r%10^(k+1)%10=r%10:=Nat.mod_mod_of_dvd _ ⟨10^k,by rw[Nat.pow_succ,Nat.mul_comm]⟩
  have h2:r%10^(k+1)/10=r/10%10^k:=by rw[Nat.pow_succ,Nat.mul_comm,Nat.mod_mul_right_div_self]
  rw[iy,iy,h1,h2,zhj k]
theorem zix:∀ k n,10^k≤n→vv n=iy k n++vv (n/10^k)
 | 0,n,_=>by simp[iy]
 | k+1,n,h=>by
  have hp:0<10^k:=Nat.pow_pos (by omega)
  have h0:0<n:=by have:=Nat.pow_pos (n:=k+1) (show 0<10 from by omega);omega
  rw[uj h0,zix k (n/10) (by rw[Nat.le_div_iff_mul_le (by omega),← Nat.pow_succ];exact h),iy,List.cons_append,Nat.div_div_eq_div_mul,Nat.pow_succ,Nat.mul_comm 10]
end Go.Proofs.YtagmkkiagjmimaaGreatDoor
namespace Go.Proofs
open Go.Proofs.Tryz
open Go.Shelf
def Tryz.lays283_ren : Go.Shelf.Ren := ⟨fun | 283 => 218 | n => n, fun | 3 => 3 | 4 => 4 | 9 => 9 | n => n, fun | n => n⟩
theorem Tryz.lays283 : Go.Proofs.Lays.n283 Tryz.prog Tryz.lays283_ren := {
  mixed := by kernel_rfl
  f283 := Tryz.func218.trans (congrArg some (by kernel_rfl))
  t3 := Tryz.underlying3
  a3 := Tryz.isAgg3
  z3 := Tryz.sizeOf3
  v3 := Tryz.zeroValue3
  t4 := Tryz.underlying4
  a4 := Tryz.isAgg4
  z4 := Tryz.sizeOf4
  v4 := Tryz.zeroValue4
  t9 := Tryz.underlying9
  a9 := Tryz.isAgg9
  z9 := Tryz.sizeOf9
  v9 := Tryz.zeroValue9 }
open Go.Lib in
theorem Tryz.internal_strconv_small (i:Nat) (h:i<100) (w:World) :
  Calls prog 218 #[.int .i64 i] w fun e w'=>e=.returned (.string ⟨(Lib.decDigits i).toArray⟩)∧w'=w:=Any.internal_strconv_small Tryz.lays283 i h w
def Tryz.laysM284_ren : Go.Shelf.Ren := ⟨fun | 129 => 248 | 284 => 219 | 317 => 247 | 318 => 249 | n => n, fun | 0 => 0 | 3 => 3 | 4 => 4 | 5 => 5 | 9 => 9 | 46 => 207 | 53 => 24 | 212 => 281 | n => n, fun | 17 => 1 | n => n⟩
theorem Tryz.laysM284 : Go.Proofs.LaysM.n284 Tryz.prog Tryz.laysM284_ren := {
  mixed := by kernel_rfl
  f129 := Tryz.func248.trans (congrArg some (by kernel_rfl))
  f284 := Tryz.func219.trans (congrArg some (by kernel_rfl))
  f317 := Tryz.func247.trans (congrArg some (by kernel_rfl))
  f318 := Tryz.func249.trans (congrArg some (by kernel_rfl))
  t0 := Tryz.underlying0
  a0 := Tryz.isAgg0
  z0 := Tryz.sizeOf0
  v0 := Tryz.zeroValue0
  t3 := Tryz.underlying3
  a3 := Tryz.isAgg3
  z3 := Tryz.sizeOf3
  v3 := Tryz.zeroValue3
  t4 := Tryz.underlying4
  a4 := Tryz.isAgg4
  z4 := Tryz.sizeOf4
  v4 := Tryz.zeroValue4
  t5 := Tryz.underlying5
  a5 := Tryz.isAgg5
  z5 := Tryz.sizeOf5
  v5 := Tryz.zeroValue5
  t9 := Tryz.underlying9
  a9 := Tryz.isAgg9
  z9 := Tryz.sizeOf9
  v9 := Tryz.zeroValue9
  t46 := Tryz.underlying207
  a46 := Tryz.isAgg207
  z46 := Tryz.sizeOf207
  v46 := Tryz.zeroValue207
  t53 := Tryz.underlying24
  a53 := Tryz.isAgg24
  z53 := Tryz.sizeOf24
  v53 := Tryz.zeroValue24
  t212 := Tryz.underlying281
  a212 := Tryz.isAgg281
  z212 := Tryz.sizeOf281
  v212 := Tryz.zeroValue281
  g17 := by kernel_rfl
  m17 := by kernel_rfl
  i0 := by kernel_rfl
  i3 := by kernel_rfl
  i4 := by kernel_rfl
  i5 := by kernel_rfl
  i9 := by kernel_rfl
  i46 := by kernel_rfl
  i53 := by kernel_rfl
  i212 := by kernel_rfl }
open Go.Lib in
theorem Tryz.internal_strconv_numDigits (u:Nat) (h1:1≤u) (h2:u<18446744073709551616) (w:World) (htab:Lib.TabIs prog w "internal/strconv.uint64pow10" .u64 Lib.pow10Tab) :
  Calls prog 219 #[.int .u64 u] w fun e w'=>e=.returned (.int .i64 (Lib.nDigits u))∧w'=w:=Any.internal_strconv_numDigits Tryz.laysM284 u h1 h2 w htab
def Tryz.lays285_ren : Go.Shelf.Ren := ⟨fun | 285 => 220 | n => n, fun | 0 => 0 | 3 => 3 | 4 => 4 | 5 => 5 | 9 => 9 | 37 => 185 | 51 => 238 | 53 => 24 | n => n, fun | n => n⟩
theorem Tryz.lays285 : Go.Proofs.Lays.n285 Tryz.prog Tryz.lays285_ren := {
  mixed := by kernel_rfl
  f285 := Tryz.func220.trans (congrArg some (by kernel_rfl))
  t0 := Tryz.underlying0
  a0 := Tryz.isAgg0
  z0 := Tryz.sizeOf0
  v0 := Tryz.zeroValue0
  t3 := Tryz.underlying3
  a3 := Tryz.isAgg3
  z3 := Tryz.sizeOf3
  v3 := Tryz.zeroValue3
  t4 := Tryz.underlying4
  a4 := Tryz.isAgg4
  z4 := Tryz.sizeOf4
  v4 := Tryz.zeroValue4
  t5 := Tryz.underlying5
  a5 := Tryz.isAgg5
  z5 := Tryz.sizeOf5
  v5 := Tryz.zeroValue5
  t9 := Tryz.underlying9
  a9 := Tryz.isAgg9
  z9 := Tryz.sizeOf9
  v9 := Tryz.zeroValue9
  t37 := Tryz.underlying185
  a37 := Tryz.isAgg185
  z37 := Tryz.sizeOf185
  v37 := Tryz.zeroValue185
  t51 := Tryz.underlying238
  a51 := Tryz.isAgg238
  z51 := Tryz.sizeOf238
  v51 := Tryz.zeroValue238
  t53 := Tryz.underlying24
  a53 := Tryz.isAgg24
  z53 := Tryz.sizeOf24
  v53 := Tryz.zeroValue24 }
open Go.RowKit Go.Sort Go.Lib in
theorem Tryz.internal_strconv_formatBase10 (blk off cap:Nat) (u:Nat) (d:Array UInt8) (w:World) (hH:Holds (fun (b:UInt8)=>Value.int .u8 (b.toNat:Int)) w blk off d) (hu:u<10^d.size) (hu64:u<18446744073709551616) (hsz:d.size<4611686018427387904) :
  Calls prog 220 #[.slice (some ⟨blk,off,none⟩) d.size cap,.int .u64 u] w fun e w' =>
   e=.returned (.tuple #[])∧∃ (n v':Nat) (dk:Array UInt8),w'=(putRow (fun (b:UInt8)=>Value.int .u8 (b.toNat:Int)) w blk off dk).drewN n∧FmtInv d.size u 0 v' dk:=Any.internal_strconv_formatBase10 Tryz.lays285 blk off cap u d w hH hu hu64 hsz
def Tryz.lays125_ren : Go.Shelf.Ren := ⟨fun | 125 => 227 | 128 => 255 | 129 => 248 | n => n, fun | 3 => 3 | 4 => 4 | 5 => 5 | 9 => 9 | 46 => 207 | 51 => 238 | 53 => 24 | n => n, fun | n => n⟩
theorem Tryz.lays125 : Go.Proofs.Lays.n125 Tryz.prog Tryz.lays125_ren := {
  mixed := by kernel_rfl
  f125 := Tryz.func227.trans (congrArg some (by kernel_rfl))
  f128 := Tryz.func255.trans (congrArg some (by kernel_rfl))
  f129 := Tryz.func248.trans (congrArg some (by kernel_rfl))
  t3 := Tryz.underlying3
  a3 := Tryz.isAgg3
  z3 := Tryz.sizeOf3
  v3 := Tryz.zeroValue3
  t4 := Tryz.underlying4
  a4 := Tryz.isAgg4
  z4 := Tryz.sizeOf4
  v4 := Tryz.zeroValue4
  t5 := Tryz.underlying5
  a5 := Tryz.isAgg5
  z5 := Tryz.sizeOf5
  v5 := Tryz.zeroValue5
  t9 := Tryz.underlying9
  a9 := Tryz.isAgg9
  z9 := Tryz.sizeOf9
  v9 := Tryz.zeroValue9
  t46 := Tryz.underlying207
  a46 := Tryz.isAgg207
  z46 := Tryz.sizeOf207
  v46 := Tryz.zeroValue207
  t51 := Tryz.underlying238
  a51 := Tryz.isAgg238
  z51 := Tryz.sizeOf238
  v51 := Tryz.zeroValue238
  t53 := Tryz.underlying24
  a53 := Tryz.isAgg24
  z53 := Tryz.sizeOf24
  v53 := Tryz.zeroValue24 }
theorem Tryz.bits_Len (x:Int) (w:World) (h0:0≤x) (h1:x≤18446744073709551615) :
  Calls prog 227 #[.int .u64 x] w fun e w'=>e=.returned (.int .i64 (Lib.bitLen x.toNat))∧w'=w:=Any.bits_Len Tryz.lays125 x w h0 h1
end Go.Proofs
namespace Go.Proofs.YtagmkkiagjmimaaGreatDoor
open Go.Proofs.Tryz
open Go.RowKit
set_option maxHeartbeats 4000000
set_option maxRecDepth 100000
theorem qfp (a:Nat) (ha:a<9223372036854775808):bits .and .i64 (a:Int) 1=((a%2:Nat):Int):=by(
 have h1:(BitVec.ofInt 64 (a:Int)).toNat=a:=by
  rw[BitVec.ofInt_natCast,BitVec.toNat_ofNat];exact Nat.mod_eq_of_lt (by omega)
 have h2:(BitVec.ofInt 64 (1:Int)).toNat=1:=rfl
 show IntKind.i64.wrap ((BitVec.ofInt 64 (a:Int) &&& BitVec.ofInt 64 (1:Int)).toNat:Int)=_
 rw[BitVec.toNat_and,h1,h2,Nat.and_one_is_mod,IntKind.wrap_i64]
 omega)
theorem zjm (n i:Nat):n/2^i=2*(n/2^(i+1))+n/2^i%2:=by
 rw[Nat.pow_succ,← Nat.div_div_eq_div_mul];omega
theorem pow_even (X n i:Nat) (h:n/2^i%2=0):X^(n/2^(i+1))*X^(n/2^(i+1))=X^(n/2^i):=by
 rw[zjm n i,h,← Nat.pow_add];congr 1;omega
theorem pow_odd (X n i:Nat) (h:n/2^i%2=1):X^(n/2^(i+1))*X^(n/2^(i+1))*X=X^(n/2^i):=by
 rw[zjm n i,h,← Nat.pow_add,← Nat.pow_succ];congr 1;omega
theorem qak (n:Nat) (h:n < 18446744073709551616):n<2^Lib.bitLen n∧Lib.bitLen n≤64:=by(
 by_cases h0:n=0
 ·subst h0;exact⟨by decide,by decide⟩
 ·exact⟨(Lib.bitLenAux_bounds 64 n h h0).2.2,Lib.bitLen_le n 64 (by omega) h⟩)
theorem zvs (v:Value) (X n:Nat) (w:World) (hv:Sl .u64 w v (wd 18446744073709551616 X)) (hX:0<X) (hn:n<2147483648) (hl:(wd 18446744073709551616 X).length+(wd 18446744073709551616 (X^n)).length<67108864) :
   Calls prog 190 #[v,.int .i64 (n:Int)] w fun e w'=>∃ v',e=.returned v'∧Sl .u64 w' v' (wd 18446744073709551616 (X^n))∧But [] w w':=by(
 obtain⟨L,hL⟩:∃ L,L=Lib.bitLen n:=⟨_,rfl⟩
 have hb:=qak n (by omega)
 have BL:=af (fun W=>Tryz.bits_Len (n:Int) W (by omega) (by omega))
 rw[Int.toNat_natCast,← hL] at BL
 rw[← hL] at hb
 obtain⟨hb1,hb2⟩:=hb
 have hlen:Hid (∀ i,(wd 18446744073709551616 (X^(n/2^i))).length<67108864∧(wd 18446744073709551616 X).length+(wd 18446744073709551616 (X^(n/2^i))).length<67108864):=fun i=>by
  have:=av (Nat.pow_le_pow_right hX (Nat.div_le_self n (2^i)))
  omega
 have hlen2:Hid (∀ i,(wd 18446744073709551616 (X^(n/2^(i+1))*X^(n/2^(i+1)))).length+(wd 18446744073709551616 X).length<67108864):=fun i=>by
  rw[← Nat.pow_add]
  have h3:=zjm n i
  have h4:=Nat.div_le_self n (2^i)
  have:=av (Nat.pow_le_pow_right hX (show n/2^(i+1)+n/2^(i+1)≤n from by omega))
  omega
 have HV:=af hv
 have hdiv:n/2^L=0:=Nat.div_eq_of_lt hb1
 have hst:Hid ((1:Nat)=X^(n/2^L)):=by show _=_;rw[hdiv,Nat.pow_zero]
 clear hv hl hdiv hb1 hL
 obtain⟨xa,xc,rfl,-,-⟩:=ae HV
 generalize hnx:(wd 18446744073709551616 X).length=nx at *
 have HNX:=af hnx
 clear hnx
 go_enter func190,ntmps190
 go_wp2_with fail
 refine (rf 1 (by omega) _).mono ?_
 rintro e w1 ⟨v1,rfl,hv1,hb1,-⟩
 have H1:=af hv1
 have B1:=af hb1
 clear hv1 hb1
 go_wp2_with fail
 refine (ae BL _).mono ?_
 rintro e w2 ⟨rfl,hw⟩
 obtain rfl:=hw.symm
 clear hw
 go_wp2
 go_loopw [5,6] (fun o i wr=>∃ k:Nat,k≤L∧i=.int .i64 ((k:Int)-1)∧Hid (Sl .u64 wr o (wd 18446744073709551616 (X^(n/2^k)))∧But [] w wr)) (fun _ i _=>(intOf i+1).toNat)
 case atStart=>exact⟨L,Nat.le_refl _,rfl,by rw[← ae hst];exact ae H1,ae B1⟩
 case round =>(
 obtain⟨k,hk,rfl,HI⟩:=hrel
 rename World=>wr
 by_cases hk0:k=0
 ·(
 subst hk0
 go_wp2
 go_ret
 have h:=(ae HI).1
 rw[Nat.pow_zero,Nat.div_one] at h
 exact⟨_,rfl,h,(ae HI).2⟩)
 ·(
 obtain⟨i,rfl⟩:∃ i,k=i+1:=⟨k-1,by omega⟩
 rw[show (((i+1:Nat):Int)-1)=(i:Int) from by omega]
 have hq:n/2^i<9223372036854775808:=by have:=Nat.div_le_self n (2^i);omega
 have E1:bits .and .i64 ((n:Int)/2^i) 1=((n/2^i%2:Nat):Int):=by
  have e:(n:Int)/2^i=((n/2^i:Nat):Int):=by simp
  rw[e,qfp _ hq]
 obtain⟨a,c,ho⟩:∃ a c,u5=.slice a (wd 18446744073709551616 (X^(n/2^(i+1)))).length c:=by obtain⟨a,c,e,-,-⟩:=(ae HI).1;exact⟨a,c,e⟩
 have MU:=af (j5 u5 u5 _ _ wr (ae HI).1 (ae HI).1 (by have:=(ae hlen (i+1)).1;omega))
 have L2:=af (ae hlen2 i)
 subst ho
 generalize hm:(wd 18446744073709551616 (X^(n/2^(i+1)))).length=m at *
 clear hm
 rcases Nat.mod_two_eq_zero_or_one (n/2^i) with hpar | hpar
 ·(
 have e1:(((n/2^i%2:Nat):Int)==1)=false:=by rw[hpar];rfl
 have EV:=af (pow_even X n i hpar)
 generalize n/2^i%2=b at *
 go_wp2_with fail
 refine (ae MU).mono ?_
 rintro e w3 ⟨v3,rfl,hv3,hb3,-⟩
 rw[ae EV] at hv3
 have H3:=af hv3
 have B3:Hid (But [] w w3):=(ae HI).2.trans' hb3
 clear hv3 hb3
 go_wp2
 refine⟨⟨i,by omega,rfl,ae H3,ae B3⟩,?_⟩
 simp[intOf])
 ·(
 have e1:(((n/2^i%2:Nat):Int)==1)=true:=by rw[hpar];rfl
 have EV:=af (pow_odd X n i hpar)
 generalize n/2^i%2=b at *
 go_wp2_with fail
 refine (ae MU).mono ?_
 rintro e w3 ⟨v3,rfl,hv3,hb3,-⟩
 have B3:Hid (But [] w w3):=(ae HI).2.trans' hb3
 have MX:=af (j5 v3 (.slice xa nx xc) _ X w3 hv3 ((ae HV).ah (ae B3)) (by rw[ae HNX];have:=ae L2;omega))
 obtain⟨a3,c3,e3,-,-⟩:=hv3
 subst e3
 clear hb3
 rw[ae EV] at MX
 generalize (wd 18446744073709551616 (X^(n/2^(i+1))*X^(n/2^(i+1)))).length=m3 at *
 go_wp2_with fail
 refine (ae MX).mono ?_
 rintro e w4 ⟨v4,rfl,hv4,hb4,-⟩
 have H4:=af hv4
 have B4:Hid (But [] w w4):=(ae B3).trans' hb4
 clear hv4 hb4
 go_wp2
 refine⟨⟨i,by omega,rfl,ae H4,ae B4⟩,?_⟩
 simp[intOf]))))
theorem Row.but {k:IntKind} {w w':World} {g:Nat} {rs:List Nat} {l:List Nat} (h:Row k w g rs) (hb:But l w w') (hn:g ∉ l):Row k w' g rs:=fun i hi=>by
 obtain⟨h1,h2⟩:=h i hi
 have hl:=ai h1
 exact⟨hb.ag h1 hn,(hb.frozen hl hn).trans h2⟩
theorem zjy (g cap:Nat) (bs:List Nat) (w:World) (hr:Row .u8 w g bs) (h0:0<bs.length) (hl:bs.length<1073741824) :
   Calls prog 222 #[.slice (some ⟨g,0,none⟩) bs.length cap] w fun e w'=>e=.returned (.tuple #[])∧Row .u8 w' g bs.reverse∧But [g] w w':=by(
 have mixed:prog.follows .mixedOrders=true:=by kernel_rfl
 have HR:=af hr
 clear hr
 obtain⟨n,hn⟩:∃ n,n=bs.length:=⟨_,rfl⟩
 rw[← hn] at h0 hl ⊢
 have HN:=af hn
 clear hn
 go_enter func222,ntmps222
 go_wp2
 go_loopw [2,3] (fun i j wq=>∃ (k q:Nat) (cs:List Nat),i=.int .i64 k∧j=.int .i64 q∧k≤q+1∧Hid (k+q+1=n∧zal bs cs k∧Row .u8 wq g cs∧But [g] w wq)) (fun i _ _=>n-(intOf i).toNat)
 case atStart=>exact⟨0,n-1,bs,rfl,by congr 1;omega,by omega,by omega,zal.start _,ae HR,But.refl _ _⟩
 case round =>(
 obtain⟨k,q,cs,rfl,rfl,hkq,HJ⟩:=hrel
 rename World=>wq
 have hcl:cs.length=n:=by rw[(ae HJ).2.1.len,ae HN]
 have hsum:=(ae HJ).1
 by_cases hlt:k<q
 ·(
 obtain⟨ck,fk⟩:=(ae HJ).2.2.1 k (by omega)
 obtain⟨cq,fq⟩:=(ae HJ).2.2.1 q (by omega)
 have ST:=af ((ae HJ).2.1.step (by rw[← ae HN];omega))
 have hq:q=n-1-k:=by omega
 rw[← ae HN,← hq] at ST
 have HC:=af hcl
 have HS:=af hsum
 have ne1:k≠q:=by omega
 have hk1:k<n:=by omega
 have hq1:q<n:=by omega
 clear hcl hsum hq
 generalize hx:cs[k]?.getD 0=x at *
 generalize hy:cs[q]?.getD 0=y at *
 clear hx hy
 go_wp2_with fail
 go_region_o
 go_wp2
 refine⟨⟨k+1,q-1,(cs.set k y).set q x,by go_num,by rw[Int.ofNat_sub (by omega)];rfl,by omega,by have:=ae HS;omega,ae ST,?_,?_⟩,?_⟩
 ·exact (((ae HJ).2.2.1.set k (by rw[ae HC];have:=ae HS;omega) y).set q (by rw[List.length_set,ae HC];have:=ae HS;omega) x).but ((But.refl [] _).drew) (by simp)
 ·exact (((ae HJ).2.2.2.setCell (p:=⟨g,k,none⟩) (.inl (by simp)) (.int .u8 (y:Int))).setCell (p:=⟨g,q,none⟩) (.inl (by simp)) (.int .u8 (x:Int))).drew
 ·have:=ae HS
  simp[intOf];omega)
 ·(
 have hfin:cs=bs.reverse:=(ae HJ).2.1.fin (by rw[← ae HN];omega)
 have HF:=af hfin
 clear hfin hcl hsum
 go_wp2
 go_end0
 exact⟨rfl,by rw[← ae HF];exact (ae HJ).2.2.1,(ae HJ).2.2.2⟩)))
theorem qbw:(10:Nat)^608 < 18446744073709551616^33:=by decide +kernel
def jo (W X:Nat):List UInt8:=vv X++List.replicate (W-(vv X).length) 48
theorem zim (X:Nat):jo 0 X=vv X:=by simp[jo]
theorem zkd:∀ k,iy k 0=List.replicate k 48
 | 0=>rfl
 | k+1=>by rw[iy,Nat.zero_div,zkd k,List.replicate_succ];rfl
theorem zdj:∀ k n,n<10^k→iy k n=jo k n
 | 0,n,h=>by
  have:n=0:=by simp at h;omega
  subst this;simp[iy,jo,pq]
 | k+1,n,h=>by
  by_cases h0:0<n
  ·rw[iy,zdj k (n/10) (by rw[Nat.div_lt_iff_lt_mul (by omega)];rw[Nat.pow_succ] at h;exact h),jo,jo,uj h0,List.cons_append,List.length_cons,Nat.add_sub_add_right]
  ·have:n=0:=by omega
   subst this;rw[zkd,jo,pq];simp
theorem zsv:∀ a b n,iy (a+b) n=iy a n++iy b (n/10^a)
 | 0,b,n=>by simp[iy]
 | a+1,b,n=>by
  rw[Nat.succ_add,iy,zsv a b,iy,List.cons_append,Nat.div_div_eq_div_mul,Nat.pow_succ,Nat.mul_comm 10]
theorem zys (D X:Nat) (h:10^D≤X):jo 0 X=jo D (X%10^D)++jo 0 (X/10^D):=by
 rw[zim,zim,zix D X h,← zhj D X,zdj D _ (Nat.mod_lt _ (Nat.pow_pos (by omega)))]
theorem zyr (D X:Nat) (h:X<10^(D+D)):jo (D+D) X=jo D (X%10^D)++jo D (X/10^D):=by
 have hp:0<10^D:=Nat.pow_pos (by omega)
 rw[← zdj _ _ h,zsv,← zhj D X,zdj D _ (Nat.mod_lt _ hp),zdj D (X/10^D) (by rw[Nat.div_lt_iff_lt_mul hp,← Nat.pow_add];exact h)]
theorem zcn (W X:Nat):(jo W X).length=max W (vv X).length:=by
 rw[jo,List.length_append,List.length_replicate];omega
theorem zlo (W X:Nat) (h:0<X∨0<W):0<(jo W X).length:=by(
 rw[zcn]
 rcases h with h | h
 ·rw[uj h];simp;omega
 ·omega)
def yt (w w':World):Prop:=∀ v xs,Sl .u64 w v xs→Sl .u64 w' v xs
theorem yt.zjc {w w':World} (h:But [] w w'):yt w w':=fun _ _ hs=>hs.ah h
theorem yt.trans {a b c:World} (h:yt a b) (k:yt b c):yt a c:=fun v xs hs=>k v xs (h v xs hs)
theorem zmr {w w':World} {base:Nat} {vo:Value} {ods:List UInt8} (ho:w.ownsRow base 5 1 vo ods.length (ods.map u8v)) (hn:vo=.slice none 0 0∨0<ods.length) (hg:w.grownBy w' vo.ownBlock):yt w w':=by(
 intro v xs hs
 rcases hn with rfl | h0
 ·exact hs.ah (uy hg)
 ·obtain⟨g,cap,rfl,-,-,hr⟩:=zdk ho h0
  exact hs.over (zge hg) (hr 0 (by simpa using h0)).1 (by simp))
theorem below_grown {w w':World} {base:Nat} {vo:Value} {n:Nat} {xs:List Value} (ho:w.ownsRow base 5 1 vo n xs) (hb:base≤w.heap.size) (hg:w.grownBy w' vo.ownBlock):Below base w w' :=
 ⟨hg.os,hg.tape,hg.output,hg.size,fun k hk=>hg.block k (by omega) (fun e=>by have:=(ho.lt k e.symm).1;omega)⟩
theorem But.zdq {w w':World} {base:Nat} (h:But [] w w') (hb:base≤w.heap.size):Below base w w':=⟨h.os,h.tape,h.output,h.size,fun k hk=>h.block k (by omega) (by simp)⟩
theorem j3 {a b c:World} {n:Nat} (h:Below n a b) (k:Below n b c):Below n a c :=
 ⟨k.os.trans h.os,k.tape.trans h.tape,k.output.trans h.output,Nat.le_trans h.size k.size,fun i hi=>(k.block i hi).trans (h.block i hi)⟩
theorem lv {w:World} {base:Nat} {e:TypeId} {v:Value} {n:Nat} {xs:List Value} (h:w.ownsRow base e 1 v n xs):∃ a c,v=.slice a n c:=by(
 obtain⟨-,h2⟩:=h
 rcases h2 with ⟨rfl,rfl⟩|⟨g,cap,cur,e1,-⟩
 ·exact⟨_,_,rfl⟩
 ·exact⟨_,_,e1⟩)
open Go.RowKit Go.Sort Go.Lib
theorem holds_zero0 (w:World) (T:TypeId) (nd:Nat) (hs:nd≤24):Holds (fun (b:UInt8)=>Value.int .u8 (b.toNat:Int)) (w.alloc (.cells zeros24 T)) w.heap.size 0 (Array.replicate nd (0:UInt8)):=fun j hj=>by
 rw[Array.size_replicate] at hj
 refine⟨?_,by simp⟩
 rw[World.cell?_alloc_new,zeros24_at _ (by omega),getElem!_pos _ j (by rw[Array.size_replicate];exact hj)]
 simp
theorem zmv (u:Nat) (hu:u<18446744073709551616) (w:World) (htab:Lib.TabIs prog w "internal/strconv.uint64pow10" .u64 Lib.pow10Tab) (t:ByteArray) (ht:Hid (t=⟨(Lib.decDigits u).toArray⟩)) :
   Calls prog 187 #[.int .u64 u,.int .i64 10] w fun e w'=>e=.returned (.string t)∧But [] w w':=by(
 by_cases hs:u<100
 ·(
 have H:=af htab
 clear htab
 go_enter func187,ntmps187
 go_wp2_with fail
 refine (Tryz.internal_strconv_small u hs _).mono ?_
 rintro e w1 ⟨rfl,hw⟩
 obtain rfl:=hw.symm
 clear hw
 rw[← ae ht]
 clear ht
 go_wp2
 go_ret
 exact⟨rfl,But.refl _ _⟩)
 ·(
 have hu1:1≤u:=by omega
 have hnd20:Lib.nDigits u≤20:=by have:=Lib.numDigits_eq u hu1 hu;split at this <;> omega
 have H:=af htab
 clear htab
 go_enter func187,ntmps187
 go_wp2_with fail
 refine (Tryz.internal_strconv_numDigits u hu1 hu _ (Lib.tabIs_alloc (ae H) _)).mono ?_
 rintro e w1 ⟨rfl,hw⟩
 obtain rfl:=hw.symm
 clear hw
 have hH0:=holds_zero0 w 256 (Lib.nDigits u) (by omega)
 have hfmt:=af (Tryz.internal_strconv_formatBase10 w.heap.size 0 24 u (Array.replicate (Lib.nDigits u) 0) (w.alloc (.cells Lib.zeros24 256)) hH0 (by rw[Array.size_replicate];exact Lib.lt_pow_nDigits u) hu (by rw[Array.size_replicate];omega))
 rw[Array.size_replicate] at hfmt
 have HH:=af hH0
 clear hH0
 have hnl:=Lib.decDigits_length u
 have HND:=af hnl
 clear hnl
 generalize hndd:Lib.nDigits u=nd at *
 have HE:=af hndd
 clear hndd
 have hal:prog.arrayLen 256 = 24:=by kernel_rfl
 have hsl:∀ W,(Instr.sliceAt 256 (.pointer (some ⟨w.heap.size,0,none⟩)) none (some (.int .i64 (nd:Int))) none).run prog W=.ok (.slice (some ⟨w.heap.size,0,none⟩) nd 24) W:=fun W=>by
  rw[run_sliceAt_array_h W 256 ⟨w.heap.size,0,none⟩ (by kernel_rfl) .i64 (nd:Int) (by omega) (by rw[hal];omega)]
  go_simp
 go_wp2_with fail
 refine (ae hfmt).mono ?_
 rintro e w1 ⟨rfl,k,v',dk,hw1,hF⟩
 have hF':FmtInv (Lib.nDigits u) u 0 v' dk:=by rw[ae HE];exact hF
 have hcv:(convert 185 9 (.slice (some ⟨w.heap.size,0,none⟩) nd 24)).run prog w1=.ok (.string t) w1:=by
  have h:=run_convert_bytes_back (P:=prog) w1 185 9 5 ⟨w.heap.size,0,none⟩ 24 (Lib.decDigits u) underlying185 underlying5 underlying9 (fun j hj=>by
   rw[Lib.row_is_numeral hF' j hj,Lib.add_plain,hw1,World.cell?_drewN]
   exact cell?_putRow (fun (b:UInt8)=>Value.int .u8 (b.toNat:Int)) _ w.heap.size 0 _ dk (ae HH) (by rw[hF.size,Array.size_replicate]) j (by rw[hF.size];rw[ae HND] at hj;exact hj))
  rw[ae HND,← ae ht] at h
  exact h
 have hB:But [] w w1:=by
  rw[hw1,alloc_eq_grow]
  obtain⟨os',_,e⟩:=putRow_grow_new (fun (b:UInt8)=>Value.int .u8 (b.toNat:Int)) w #[.cells Lib.zeros24 256] w.heap.size 0 dk (Nat.le_refl _)
  rw[e]
  have hg:But [] w (grow w os'):=⟨rfl,rfl,rfl,by show w.heap.size≤(w.heap++os').size;rw[Array.size_append];omega,fun k hk _=>Array.getElem?_append_left hk⟩
  exact hg.drewN k
 clear hw1 hF hF' HH HND HE hfmt
 go_wp2
 go_ret
 exact⟨rfl,hB⟩))
theorem zeo (u:Nat) (hu:u<18446744073709551616) (w:World) (htab:Lib.TabIs prog w "internal/strconv.uint64pow10" .u64 Lib.pow10Tab) (t:ByteArray) (ht:Hid (t=⟨(Lib.decDigits u).toArray⟩)) :
   Calls prog 142 #[.int .u64 u,.int .i64 10] w fun e w'=>e=.returned (.string t)∧But [] w w':=by(
 have H:=af htab
 clear htab
 go_enter func142,ntmps142
 go_wp2_with fail
 refine (zmv u hu _ (ae H) t ht).mono ?_
 rintro e w1 ⟨rfl,hb⟩
 go_wp2
 go_ret
 exact⟨rfl,hb⟩)
end Go.Proofs.YtagmkkiagjmimaaGreatDoor
