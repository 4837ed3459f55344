/- Decimal digits and rows of bytes, plain. -/
import Derived.Test.YtjlfllhedceigaaGreatDoorProg
import Derived.Deep.LoopGhost
import Derived.Lib.ItoaNum
import Derived.Laws.IdiomStrings
import Derived.OwnWalk
import Derived.WalkSpells
import Derived.Shelf.Strconv.Itoa1
import Derived.Shelf.LaysM
import Derived.Shelf.Strconv.Itoa2
import Derived.Shelf.Small.Bits
import Derived.Laws.Bits64b
import Derived.Deep.RegionHeld
import Derived.Laws.OwnMore
import Derived.Test.YtjlfllhedceigaaGreatDoorRN34
namespace Go.Proofs.YtjlfllhedceigaaGreatDoor
set_option linter.unusedVariables false
open Go.Proofs.Tryz
open Go.RowKit
theorem But.grown {a w w':World} {row:Option Nat} (h:But [] a w) (hg:w.grownBy w' row) (hr:∀ k,row=some k→a.heap.size≤k):But [] a w' :=
 ⟨hg.os.trans h.os,hg.tape.trans h.tape,hg.output.trans h.output,Nat.le_trans h.size hg.size,fun k hk hn=>by
  rw[hg.block k (Nat.lt_of_lt_of_le hk h.size) (fun e=>by have:=hr k e.symm;omega)]
  exact h.block k hk hn⟩
theorem zdn {w w':World} {g:Nat} (hg:w.grownBy w' (some g)):But [g] w w' :=
 ⟨hg.os,hg.tape,hg.output,hg.size,fun k hk hn=>hg.block k hk (fun e=>hn (by simp only[Option.some.injEq] at e;simp[e]))⟩
theorem l6 {w w':World} (hg:w.grownBy w' none):But [] w w' :=
 ⟨hg.os,hg.tape,hg.output,hg.size,fun k hk _=>hg.block k hk (by simp)⟩
theorem oq {w w':World} {base:Nat} {e:TypeId} {size:Nat} {v:Value} {n:Nat} {xs:List Value} (h:w.ownsRow base e size v n xs) (hb:But [] w w'):w'.ownsRow base e size v n xs:=by(
 obtain⟨h1,h2⟩:=h
 refine⟨h1,?_⟩
 rcases h2 with h2|⟨g,cap,cur,e1,e2,e3,e4⟩
 ·exact .inl h2
 ·(
 refine .inr ⟨g,cap,cur,e1,e2,?_,e4⟩
 have hlt:g<w.heap.size:=by
  rcases Nat.lt_or_ge g w.heap.size with h | h
  ·exact h
  ·rw[Array.getElem?_eq_none h] at e3;cases e3
 rw[hb.block g hlt (by simp)];exact e3))
def u8v (b:UInt8):Value:=.int .u8 (b.toNat:Int)
def j4 (n:Nat):List UInt8:=if h:0<n then UInt8.ofNat (48+n%10)::j4 (n/10) else []
 termination_by n
 decreasing_by exact Nat.div_lt_self h (by omega)
theorem ek:j4 0=[]:=by rw[j4];simp
theorem lv {n:Nat} (h:0<n):j4 n=UInt8.ofNat (48+n%10)::j4 (n/10):=by rw[j4,dif_pos h]
theorem zfb (n:Nat) (h:0<n):(j4 n).reverse=Lib.decDigits n:=by(
 induction n using Nat.strongRecOn with
 | _ n ih =>
  rw[lv h,List.reverse_cons,Lib.decDigits]
  by_cases h10:n<10
  ·rw[dif_pos h10,Nat.div_eq_of_lt h10,ek,Nat.mod_eq_of_lt h10];rfl
  ·rw[dif_neg h10,ih (n/10) (Nat.div_lt_self h (by omega)) (by omega)])
theorem zau (n k:Nat) (h:n<10^k):(j4 n).length≤k:=by(
 induction k generalizing n with
 | zero =>
  have:n=0:=by simp at h;omega
  subst this;simp[ek]
 | succ k ih =>
  by_cases hn:0<n
  ·rw[lv hn,List.length_cons]
   have:=ih (n/10) (by rw[Nat.div_lt_iff_lt_mul (by omega)];rw[Nat.pow_succ] at h;exact h)
   omega
  ·have:n=0:=by omega
   subst this;simp[ek])
theorem zja:∃ i,prog.info? 5 = some i∧i.zero=some (.int .u8 0)∧i.size=1∧i.bytes=1:=by(
 have h:(prog.info? 5).map (fun i=>(i.zero,i.size,i.bytes))=some (some (.int .u8 0),1,1):=by kernel_rfl
 obtain⟨i,hi,he⟩:=Option.map_eq_some_iff.1 h
 simp only[Prod.mk.injEq] at he
 exact⟨i,hi,he.1,he.2.1,he.2.2⟩)
structure ng (bs cs:List Nat) (i:Nat):Prop where
 len:cs.length=bs.length
 at':∀ k,k<bs.length→cs[k]?.getD 0=if k<i∨bs.length-i≤k then bs[bs.length-1-k]?.getD 0 else bs[k]?.getD 0
theorem ng.start (bs:List Nat):ng bs bs 0:=⟨rfl,fun k hk=>by rw[if_neg (by omega)]⟩
theorem zqv (l:List Nat) (i k x:Nat) (hi:i<l.length):(l.set i x)[k]?.getD 0=if k=i then x else l[k]?.getD 0:=by(
 by_cases h:k=i
 ·subst h;rw[List.getElem?_set_self hi,if_pos rfl];rfl
 ·rw[List.getElem?_set_ne (Ne.symm h),if_neg h])
theorem ng.step {bs cs:List Nat} {i:Nat} (h:ng bs cs i) (hij:i<bs.length-1-i):ng bs ((cs.set i (cs[bs.length-1-i]?.getD 0)).set (bs.length-1-i) (cs[i]?.getD 0)) (i+1):=by(
 have hl:=h.len
 refine⟨by simp[hl],fun k hk=>?_⟩
 have e1:cs[i]?.getD 0=bs[i]?.getD 0:=by rw[h.at' i (by omega),if_neg (by omega)]
 have e2:cs[bs.length-1-i]?.getD 0=bs[bs.length-1-i]?.getD 0:=by rw[h.at' (bs.length-1-i) (by omega),if_neg (by omega)]
 rw[zqv _ _ _ _ (by simp[hl];omega),zqv _ _ _ _ (by omega),e1,e2]
 by_cases h1:k=bs.length-1-i
 ·subst h1
  rw[if_pos rfl,if_pos (by omega),show bs.length-1-(bs.length-1-i)=i from by omega]
 ·(
 rw[if_neg h1]
 by_cases h2:k=i
 ·subst h2
  rw[if_pos rfl,if_pos (by omega)]
 ·rw[if_neg h2,h.at' k hk]
  by_cases h3:k<i∨bs.length-i≤k
  ·rw[if_pos h3,if_pos (by omega)]
  ·rw[if_neg h3,if_neg (by omega)]))
theorem ng.fin {bs cs:List Nat} {i:Nat} (h:ng bs cs i) (hij:bs.length≤2*i+1):cs=bs.reverse:=by(
 refine List.ext_getElem (by simp[h.len]) fun k h1 h2=>?_
 have hk:k<bs.length:=by rw[← h.len];exact h1
 have e:=h.at' k hk
 rw[List.getElem?_eq_getElem h1,Option.getD_some] at e
 rw[e,List.getElem_reverse]
 by_cases h3:k<i∨bs.length-i≤k
 ·rw[if_pos h3,List.getElem?_eq_getElem (by omega)];rfl
 ·rw[if_neg h3,List.getElem?_eq_getElem hk,Option.getD_some]
  have:bs.length-1-k=k:=by omega
  simp only[this])
theorem zbg {w:World} {base:Nat} {e:TypeId} {v:Value} {bs:List UInt8} (h:w.ownsRow base e 1 v bs.length (bs.map u8v)) (h0:0<bs.length) :
   ∃ g cap,v=.slice (some ⟨g,0,none⟩) bs.length cap∧base≤g∧bs.length≤cap∧Row .u8 w g (bs.map UInt8.toNat):=by(
 obtain⟨h1,h2⟩:=h
 rcases h2 with ⟨-,h2⟩|⟨g,cap,cur,e1,e2,e3,e4,e5,e6,e7⟩
 ·omega
 ·(
 refine⟨g,cap,e1,e2,e4,fun i hi=>?_⟩
 rw[List.length_map] at hi
 have hc:cur[i]? = some (u8v bs[i]):=by
  have:(cur.toList.take (bs.length*1))[i]? = some (u8v bs[i]):=by rw[e7,List.getElem?_map,List.getElem?_eq_getElem hi];rfl
  rw[List.getElem?_take_of_lt (by omega)] at this
  simpa using this
 refine⟨?_,by simp[World.frozen?,e3]⟩
 simp only[World.cell?,e3,hc]
 simp[u8v,hi]))
theorem zys {k:IntKind} {w2 w3:World} {v:Value} {xs:List Nat} {o:Obj} {row:Option Nat} {B:Nat} (h:Sl k w2 v xs) (hg:(w2.alloc o).grownBy w3 row) (hr:∀ k,row=some k→k<B) (hf:sw B v):Sl k w3 v xs:=by(
 have h1:=h.ah ((But.refl [] w2).alloc o)
 cases row with
 | none=>exact h1.ah (l6 hg)
 | some g=>exact h1.but (zdn hg) (fun b off cap n e=>by have:=hf b off n cap e;have:=hr g rfl;simp;omega))
theorem zfz (r:Nat) (h:r<10):Value.int .u8 (48+(r:Int))=u8v (UInt8.ofNat (48+r)):=by(
 unfold u8v
 rw[UInt8.toNat_ofNat_of_lt' (by simp[UInt8.size];omega)]
 simp)
def kg:Nat→Nat→List UInt8
 | 0,_=>[]
 | k+1,r=>UInt8.ofNat (48+r%10)::kg k (r/10)
theorem zhi:∀ k r,(kg k r).length=k
 | 0,_=>rfl
 | k+1,r=>by rw[kg,List.length_cons,zhi k]
theorem zmu:∀ k r,kg (k+1) r=kg k r++[UInt8.ofNat (48+r/10^k%10)]
 | 0,r=>by simp[kg]
 | k+1,r=>by
  rw[kg,zmu k (r/10),kg,List.cons_append,Nat.div_div_eq_div_mul,Nat.pow_succ,Nat.mul_comm 10]
theorem zfc:∀ k r,kg k (r%10^k)=kg k r
 | 0,r=>rfl
 | k+1,r=>by
  have h1:r%10^(k+1)%10=r%10:=Nat.mod_mod_of_dvd _ ⟨10^k,by rw[Nat.pow_succ,Nat.mul_comm]⟩
  have h2:r%10^(k+1)/10=r/10%10^k:=by rw[Nat.pow_succ,Nat.mul_comm,Nat.mod_mul_right_div_self]
  rw[kg,kg,h1,h2,zfc k]
theorem zgh:∀ k n,10^k≤n→j4 n=kg k n++j4 (n/10^k)
 | 0,n,_=>by simp[kg]
 | k+1,n,h=>by
  have hp:0<10^k:=Nat.pow_pos (by omega)
  have h0:0<n:=by have:=Nat.pow_pos (n:=k+1) (show 0<10 from by omega);omega
  rw[lv h0,zgh k (n/10) (by rw[Nat.le_div_iff_mul_le (by omega),← Nat.pow_succ];exact h),kg,List.cons_append,Nat.div_div_eq_div_mul,Nat.pow_succ,Nat.mul_comm 10]
end Go.Proofs.YtjlfllhedceigaaGreatDoor
namespace Go.Proofs
open Go.Proofs.Tryz
open Go.Shelf
def Tryz.lays283_ren : Go.Shelf.Ren := ⟨fun | 283 => 249 | n => n, fun | 3 => 3 | 4 => 4 | 9 => 9 | n => n, fun | n => n⟩
theorem Tryz.lays283 : Go.Proofs.Lays.n283 Tryz.prog Tryz.lays283_ren := {
  mixed := by kernel_rfl
  f283 := Tryz.func249.trans (congrArg some (by kernel_rfl))
  t3 := Tryz.underlying3
  a3 := Tryz.isAgg3
  z3 := Tryz.sizeOf3
  v3 := Tryz.zeroValue3
  t4 := Tryz.underlying4
  a4 := Tryz.isAgg4
  z4 := Tryz.sizeOf4
  v4 := Tryz.zeroValue4
  t9 := Tryz.underlying9
  a9 := Tryz.isAgg9
  z9 := Tryz.sizeOf9
  v9 := Tryz.zeroValue9 }
open Go.Lib in
theorem Tryz.internal_strconv_small (i:Nat) (h:i<100) (w:World) :
  Calls prog 249 #[.int .i64 i] w fun e w'=>e=.returned (.string ⟨(Lib.decDigits i).toArray⟩)∧w'=w:=Any.internal_strconv_small Tryz.lays283 i h w
def Tryz.laysM284_ren : Go.Shelf.Ren := ⟨fun | 129 => 291 | 284 => 250 | 317 => 290 | 318 => 292 | n => n, fun | 0 => 0 | 3 => 3 | 4 => 4 | 5 => 5 | 9 => 9 | 46 => 224 | 53 => 24 | 212 => 349 | n => n, fun | 17 => 2 | n => n⟩
theorem Tryz.laysM284 : Go.Proofs.LaysM.n284 Tryz.prog Tryz.laysM284_ren := {
  mixed := by kernel_rfl
  f129 := Tryz.func291.trans (congrArg some (by kernel_rfl))
  f284 := Tryz.func250.trans (congrArg some (by kernel_rfl))
  f317 := Tryz.func290.trans (congrArg some (by kernel_rfl))
  f318 := Tryz.func292.trans (congrArg some (by kernel_rfl))
  t0 := Tryz.underlying0
  a0 := Tryz.isAgg0
  z0 := Tryz.sizeOf0
  v0 := Tryz.zeroValue0
  t3 := Tryz.underlying3
  a3 := Tryz.isAgg3
  z3 := Tryz.sizeOf3
  v3 := Tryz.zeroValue3
  t4 := Tryz.underlying4
  a4 := Tryz.isAgg4
  z4 := Tryz.sizeOf4
  v4 := Tryz.zeroValue4
  t5 := Tryz.underlying5
  a5 := Tryz.isAgg5
  z5 := Tryz.sizeOf5
  v5 := Tryz.zeroValue5
  t9 := Tryz.underlying9
  a9 := Tryz.isAgg9
  z9 := Tryz.sizeOf9
  v9 := Tryz.zeroValue9
  t46 := Tryz.underlying224
  a46 := Tryz.isAgg224
  z46 := Tryz.sizeOf224
  v46 := Tryz.zeroValue224
  t53 := Tryz.underlying24
  a53 := Tryz.isAgg24
  z53 := Tryz.sizeOf24
  v53 := Tryz.zeroValue24
  t212 := Tryz.underlying349
  a212 := Tryz.isAgg349
  z212 := Tryz.sizeOf349
  v212 := Tryz.zeroValue349
  g17 := by kernel_rfl
  m17 := by kernel_rfl
  i0 := by kernel_rfl
  i3 := by kernel_rfl
  i4 := by kernel_rfl
  i5 := by kernel_rfl
  i9 := by kernel_rfl
  i46 := by kernel_rfl
  i53 := by kernel_rfl
  i212 := by kernel_rfl }
open Go.Lib in
theorem Tryz.internal_strconv_numDigits (u:Nat) (h1:1≤u) (h2:u<18446744073709551616) (w:World) (htab:Lib.TabIs prog w "internal/strconv.uint64pow10" .u64 Lib.pow10Tab) :
  Calls prog 250 #[.int .u64 u] w fun e w'=>e=.returned (.int .i64 (Lib.nDigits u))∧w'=w:=Any.internal_strconv_numDigits Tryz.laysM284 u h1 h2 w htab
def Tryz.lays285_ren : Go.Shelf.Ren := ⟨fun | 285 => 251 | n => n, fun | 0 => 0 | 3 => 3 | 4 => 4 | 5 => 5 | 9 => 9 | 37 => 141 | 51 => 284 | 53 => 24 | n => n, fun | n => n⟩
theorem Tryz.lays285 : Go.Proofs.Lays.n285 Tryz.prog Tryz.lays285_ren := {
  mixed := by kernel_rfl
  f285 := Tryz.func251.trans (congrArg some (by kernel_rfl))
  t0 := Tryz.underlying0
  a0 := Tryz.isAgg0
  z0 := Tryz.sizeOf0
  v0 := Tryz.zeroValue0
  t3 := Tryz.underlying3
  a3 := Tryz.isAgg3
  z3 := Tryz.sizeOf3
  v3 := Tryz.zeroValue3
  t4 := Tryz.underlying4
  a4 := Tryz.isAgg4
  z4 := Tryz.sizeOf4
  v4 := Tryz.zeroValue4
  t5 := Tryz.underlying5
  a5 := Tryz.isAgg5
  z5 := Tryz.sizeOf5
  v5 := Tryz.zeroValue5
  t9 := Tryz.underlying9
  a9 := Tryz.isAgg9
  z9 := Tryz.sizeOf9
  v9 := Tryz.zeroValue9
  t37 := Tryz.underlying141
  a37 := Tryz.isAgg141
  z37 := Tryz.sizeOf141
  v37 := Tryz.zeroValue141
  t51 := Tryz.underlying284
  a51 := Tryz.isAgg284
  z51 := Tryz.sizeOf284
  v51 := Tryz.zeroValue284
  t53 := Tryz.underlying24
  a53 := Tryz.isAgg24
  z53 := Tryz.sizeOf24
  v53 := Tryz.zeroValue24 }
open Go.RowKit Go.Sort Go.Lib in
theorem Tryz.internal_strconv_formatBase10 (blk off cap:Nat) (u:Nat) (d:Array UInt8) (w:World) (hH:Holds (fun (b:UInt8)=>Value.int .u8 (b.toNat:Int)) w blk off d) (hu:u<10^d.size) (hu64:u<18446744073709551616) (hsz:d.size<4611686018427387904) :
  Calls prog 251 #[.slice (some ⟨blk,off,none⟩) d.size cap,.int .u64 u] w fun e w' =>
   e=.returned (.tuple #[])∧∃ (n v':Nat) (dk:Array UInt8),w'=(putRow (fun (b:UInt8)=>Value.int .u8 (b.toNat:Int)) w blk off dk).drewN n∧FmtInv d.size u 0 v' dk:=Any.internal_strconv_formatBase10 Tryz.lays285 blk off cap u d w hH hu hu64 hsz
def Tryz.lays125_ren : Go.Shelf.Ren := ⟨fun | 125 => 258 | 128 => 298 | 129 => 291 | n => n, fun | 3 => 3 | 4 => 4 | 5 => 5 | 9 => 9 | 46 => 224 | 51 => 284 | 53 => 24 | n => n, fun | n => n⟩
theorem Tryz.lays125 : Go.Proofs.Lays.n125 Tryz.prog Tryz.lays125_ren := {
  mixed := by kernel_rfl
  f125 := Tryz.func258.trans (congrArg some (by kernel_rfl))
  f128 := Tryz.func298.trans (congrArg some (by kernel_rfl))
  f129 := Tryz.func291.trans (congrArg some (by kernel_rfl))
  t3 := Tryz.underlying3
  a3 := Tryz.isAgg3
  z3 := Tryz.sizeOf3
  v3 := Tryz.zeroValue3
  t4 := Tryz.underlying4
  a4 := Tryz.isAgg4
  z4 := Tryz.sizeOf4
  v4 := Tryz.zeroValue4
  t5 := Tryz.underlying5
  a5 := Tryz.isAgg5
  z5 := Tryz.sizeOf5
  v5 := Tryz.zeroValue5
  t9 := Tryz.underlying9
  a9 := Tryz.isAgg9
  z9 := Tryz.sizeOf9
  v9 := Tryz.zeroValue9
  t46 := Tryz.underlying224
  a46 := Tryz.isAgg224
  z46 := Tryz.sizeOf224
  v46 := Tryz.zeroValue224
  t51 := Tryz.underlying284
  a51 := Tryz.isAgg284
  z51 := Tryz.sizeOf284
  v51 := Tryz.zeroValue284
  t53 := Tryz.underlying24
  a53 := Tryz.isAgg24
  z53 := Tryz.sizeOf24
  v53 := Tryz.zeroValue24 }
theorem Tryz.bits_Len (x:Int) (w:World) (h0:0≤x) (h1:x≤18446744073709551615) :
  Calls prog 258 #[.int .u64 x] w fun e w'=>e=.returned (.int .i64 (Lib.bitLen x.toNat))∧w'=w:=Any.bits_Len Tryz.lays125 x w h0 h1
end Go.Proofs
namespace Go.Proofs.YtjlfllhedceigaaGreatDoor
open Go.Proofs.Tryz
open Go.RowKit
set_option maxHeartbeats 8000000
set_option maxRecDepth 100000
theorem qdk (a:Nat) (ha:a<9223372036854775808):bits .and .i64 (a:Int) 1=((a%2:Nat):Int):=by(
 have h1:(BitVec.ofInt 64 (a:Int)).toNat=a:=by
  rw[BitVec.ofInt_natCast,BitVec.toNat_ofNat];exact Nat.mod_eq_of_lt (by omega)
 have h2:(BitVec.ofInt 64 (1:Int)).toNat=1:=rfl
 show IntKind.i64.wrap ((BitVec.ofInt 64 (a:Int) &&& BitVec.ofInt 64 (1:Int)).toNat:Int)=_
 rw[BitVec.toNat_and,h1,h2,Nat.and_one_is_mod,IntKind.wrap_i64]
 omega)
theorem zgw (n i:Nat):n/2^i=2*(n/2^(i+1))+n/2^i%2:=by
 rw[Nat.pow_succ,← Nat.div_div_eq_div_mul];omega
theorem pow_even (X n i:Nat) (h:n/2^i%2=0):X^(n/2^(i+1))*X^(n/2^(i+1))=X^(n/2^i):=by
 rw[zgw n i,h,← Nat.pow_add];congr 1;omega
theorem pow_odd (X n i:Nat) (h:n/2^i%2=1):X^(n/2^(i+1))*X^(n/2^(i+1))*X=X^(n/2^i):=by
 rw[zgw n i,h,← Nat.pow_add,← Nat.pow_succ];congr 1;omega
theorem zxe (n:Nat) (h:n < 18446744073709551616):n<2^Lib.bitLen n∧Lib.bitLen n≤64:=by(
 by_cases h0:n=0
 ·subst h0;exact⟨by decide,by decide⟩
 ·exact⟨(Lib.bitLenAux_bounds 64 n h h0).2.2,Lib.bitLen_le n 64 (by omega) h⟩)
theorem zsv (v:Value) (X n:Nat) (w:World) (hv:Sl .u64 w v (wd 18446744073709551616 X)) (hX:0<X) (hn:n<2147483648) (hl:(wd 18446744073709551616 X).length+(wd 18446744073709551616 (X^n)).length<67108864) :
   Calls prog 199 #[v,.int .i64 (n:Int)] w fun e w'=>∃ v',e=.returned v'∧Sl .u64 w' v' (wd 18446744073709551616 (X^n))∧But [] w w':=by(
 obtain⟨L,hL⟩:∃ L,L=Lib.bitLen n:=⟨_,rfl⟩
 have hb:=zxe n (by omega)
 have BL:=af (fun W=>Tryz.bits_Len (n:Int) W (by omega) (by omega))
 rw[Int.toNat_natCast,← hL] at BL
 rw[← hL] at hb
 obtain⟨hb1,hb2⟩:=hb
 have hlen:Hid (∀ i,(wd 18446744073709551616 (X^(n/2^i))).length<67108864∧(wd 18446744073709551616 X).length+(wd 18446744073709551616 (X^(n/2^i))).length<67108864):=fun i=>by
  have:=aq (Nat.pow_le_pow_right hX (Nat.div_le_self n (2^i)))
  omega
 have hlen2:Hid (∀ i,(wd 18446744073709551616 (X^(n/2^(i+1))*X^(n/2^(i+1)))).length+(wd 18446744073709551616 X).length<67108864):=fun i=>by
  rw[← Nat.pow_add]
  have h3:=zgw n i
  have h4:=Nat.div_le_self n (2^i)
  have:=aq (Nat.pow_le_pow_right hX (show n/2^(i+1)+n/2^(i+1)≤n from by omega))
  omega
 have HV:=af hv
 have hdiv:n/2^L=0:=Nat.div_eq_of_lt hb1
 have hst:Hid ((1:Nat)=X^(n/2^L)):=by show _=_;rw[hdiv,Nat.pow_zero]
 clear hv hl hdiv hb1 hL
 obtain⟨xa,xc,rfl,-,-⟩:=ae HV
 generalize hnx:(wd 18446744073709551616 X).length=nx at *
 have HNX:=af hnx
 clear hnx
 go_enter func199,ntmps199
 go_wp2_with fail
 refine (zaa 1 (by omega) _).mono ?_
 rintro e w1 ⟨v1,rfl,hv1,hb1,-⟩
 have H1:=af hv1
 have B1:=af hb1
 clear hv1 hb1
 go_wp2_with fail
 refine (ae BL _).mono ?_
 rintro e w2 ⟨rfl,hw⟩
 obtain rfl:=hw.symm
 clear hw
 go_wp2
 go_loopw [5,6] (fun o i wr=>∃ k:Nat,k≤L∧i=.int .i64 ((k:Int)-1)∧Hid (Sl .u64 wr o (wd 18446744073709551616 (X^(n/2^k)))∧But [] w wr)) (fun _ i _=>(intOf i+1).toNat)
 case atStart=>exact⟨L,Nat.le_refl _,rfl,by rw[← ae hst];exact ae H1,ae B1⟩
 case round =>(
 obtain⟨k,hk,rfl,HI⟩:=hrel
 rename World=>wr
 by_cases hk0:k=0
 ·(
 subst hk0
 go_wp2
 go_ret
 have h:=(ae HI).1
 rw[Nat.pow_zero,Nat.div_one] at h
 exact⟨_,rfl,h,(ae HI).2⟩)
 ·(
 obtain⟨i,rfl⟩:∃ i,k=i+1:=⟨k-1,by omega⟩
 rw[show (((i+1:Nat):Int)-1)=(i:Int) from by omega]
 have hq:n/2^i<9223372036854775808:=by have:=Nat.div_le_self n (2^i);omega
 have E1:bits .and .i64 ((n:Int)/2^i) 1=((n/2^i%2:Nat):Int):=by
  have e:(n:Int)/2^i=((n/2^i:Nat):Int):=by simp
  rw[e,qdk _ hq]
 obtain⟨a,c,ho⟩:∃ a c,u5=.slice a (wd 18446744073709551616 (X^(n/2^(i+1)))).length c:=by obtain⟨a,c,e,-,-⟩:=(ae HI).1;exact⟨a,c,e⟩
 have MU:=af (mo u5 u5 _ _ wr (ae HI).1 (ae HI).1 (by have:=(ae hlen (i+1)).1;omega))
 have L2:=af (ae hlen2 i)
 subst ho
 generalize hm:(wd 18446744073709551616 (X^(n/2^(i+1)))).length=m at *
 clear hm
 rcases Nat.mod_two_eq_zero_or_one (n/2^i) with hpar | hpar
 ·(
 have e1:(((n/2^i%2:Nat):Int)==1)=false:=by rw[hpar];rfl
 have EV:=af (pow_even X n i hpar)
 generalize n/2^i%2=b at *
 go_wp2_with fail
 refine (ae MU).mono ?_
 rintro e w3 ⟨v3,rfl,hv3,hb3,-⟩
 rw[ae EV] at hv3
 have H3:=af hv3
 have B3:Hid (But [] w w3):=(ae HI).2.trans' hb3
 clear hv3 hb3
 go_wp2
 refine⟨⟨i,by omega,rfl,ae H3,ae B3⟩,?_⟩
 simp[intOf])
 ·(
 have e1:(((n/2^i%2:Nat):Int)==1)=true:=by rw[hpar];rfl
 have EV:=af (pow_odd X n i hpar)
 generalize n/2^i%2=b at *
 go_wp2_with fail
 refine (ae MU).mono ?_
 rintro e w3 ⟨v3,rfl,hv3,hb3,-⟩
 have B3:Hid (But [] w w3):=(ae HI).2.trans' hb3
 have MX:=af (mo v3 (.slice xa nx xc) _ X w3 hv3 ((ae HV).ah (ae B3)) (by rw[ae HNX];have:=ae L2;omega))
 obtain⟨a3,c3,e3,-,-⟩:=hv3
 subst e3
 clear hb3
 rw[ae EV] at MX
 generalize (wd 18446744073709551616 (X^(n/2^(i+1))*X^(n/2^(i+1)))).length=m3 at *
 go_wp2_with fail
 refine (ae MX).mono ?_
 rintro e w4 ⟨v4,rfl,hv4,hb4,-⟩
 have H4:=af hv4
 have B4:Hid (But [] w w4):=(ae B3).trans' hb4
 clear hv4 hb4
 go_wp2
 refine⟨⟨i,by omega,rfl,ae H4,ae B4⟩,?_⟩
 simp[intOf]))))
theorem Row.but {k:IntKind} {w w':World} {g:Nat} {rs:List Nat} {l:List Nat} (h:Row k w g rs) (hb:But l w w') (hn:g ∉ l):Row k w' g rs:=fun i hi=>by
 obtain⟨h1,h2⟩:=h i hi
 have hl:=ai h1
 exact⟨hb.ag h1 hn,(hb.frozen hl hn).trans h2⟩
theorem zhg (g cap:Nat) (bs:List Nat) (w:World) (hr:Row .u8 w g bs) (h0:0<bs.length) (hl:bs.length<1073741824) :
   Calls prog 253 #[.slice (some ⟨g,0,none⟩) bs.length cap] w fun e w'=>e=.returned (.tuple #[])∧Row .u8 w' g bs.reverse∧But [g] w w':=by(
 have mixed:prog.follows .mixedOrders=true:=by kernel_rfl
 have HR:=af hr
 clear hr
 obtain⟨n,hn⟩:∃ n,n=bs.length:=⟨_,rfl⟩
 rw[← hn] at h0 hl ⊢
 have HN:=af hn
 clear hn
 go_enter func253,ntmps253
 go_wp2
 go_loopw [2,3] (fun i j wq=>∃ (k q:Nat) (cs:List Nat),i=.int .i64 k∧j=.int .i64 q∧k≤q+1∧Hid (k+q+1=n∧ng bs cs k∧Row .u8 wq g cs∧But [g] w wq)) (fun i _ _=>n-(intOf i).toNat)
 case atStart=>exact⟨0,n-1,bs,rfl,by congr 1;omega,by omega,by omega,ng.start _,ae HR,But.refl _ _⟩
 case round =>(
 obtain⟨k,q,cs,rfl,rfl,hkq,HJ⟩:=hrel
 rename World=>wq
 have hcl:cs.length=n:=by rw[(ae HJ).2.1.len,ae HN]
 have hsum:=(ae HJ).1
 by_cases hlt:k<q
 ·(
 obtain⟨ck,fk⟩:=(ae HJ).2.2.1 k (by omega)
 obtain⟨cq,fq⟩:=(ae HJ).2.2.1 q (by omega)
 have ST:=af ((ae HJ).2.1.step (by rw[← ae HN];omega))
 have hq:q=n-1-k:=by omega
 rw[← ae HN,← hq] at ST
 have HC:=af hcl
 have HS:=af hsum
 have ne1:k≠q:=by omega
 have hk1:k<n:=by omega
 have hq1:q<n:=by omega
 clear hcl hsum hq
 generalize hx:cs[k]?.getD 0=x at *
 generalize hy:cs[q]?.getD 0=y at *
 clear hx hy
 go_wp2_with fail
 go_region_o
 go_wp2
 refine⟨⟨k+1,q-1,(cs.set k y).set q x,by go_num,by rw[Int.ofNat_sub (by omega)];rfl,by omega,by have:=ae HS;omega,ae ST,?_,?_⟩,?_⟩
 ·exact (((ae HJ).2.2.1.set k (by rw[ae HC];have:=ae HS;omega) y).set q (by rw[List.length_set,ae HC];have:=ae HS;omega) x).but ((But.refl [] _).drew) (by simp)
 ·exact (((ae HJ).2.2.2.setCell (p:=⟨g,k,none⟩) (.inl (by simp)) (.int .u8 (y:Int))).setCell (p:=⟨g,q,none⟩) (.inl (by simp)) (.int .u8 (x:Int))).drew
 ·have:=ae HS
  simp[intOf];omega)
 ·(
 have hfin:cs=bs.reverse:=(ae HJ).2.1.fin (by rw[← ae HN];omega)
 have HF:=af hfin
 clear hfin hcl hsum
 go_wp2
 go_end0
 exact⟨rfl,by rw[← ae HF];exact (ae HJ).2.2.1,(ae HJ).2.2.2⟩)))
theorem zyl:(10:Nat)^608 < 18446744073709551616^33:=by decide +kernel
theorem zay (w:World) (base:Nat) (v:Value) (ds:List UInt8) (hown:w.ownsRow base 5 1 v ds.length (ds.map u8v)) (a:Addr) (d:UInt8) (hc:w.cell? a=some (u8v d)) (hl:ds.length<1073741824) (hb:base≤w.heap.size) :
   ∃ v' w',(Builtin.append_ #[141,141] 141 #[v,.slice (some a) 1 1]).run prog w=.ok v' w'∧w'.ownsRow base 5 1 v' (ds++[d]).length ((ds++[d]).map u8v)∧w.grownBy w' v.ownBlock∧(v'.ownBlock=v.ownBlock∨∀ k,v'.ownBlock=some k→w.heap.size≤k):=by(
 obtain⟨i0,hi,hz0,hz1,hz2⟩:=zja
 have hnews:∀ j u,[u8v d][j]? = some u→w.cell? (a.add j)=some u:=fun j u hj=>by
  cases j with
  | zero=>simp at hj;subst hj;rw[show a.add 0=a from by simp[Addr.add]];exact hc
  | succ j=>simp at hj
 have h1:∀ u ∈ [u8v d],u.oneCell'=true:=fun u hu=>by simp at hu;subst hu;rfl
 have hrun:=fun (base:Nat) (ho:w.ownsRow base 5 1 v ds.length (ds.map u8v)) (hb:base≤w.heap.size)=>run_append_own (P:=prog) w base 141 141 5 i0 (.int .u8 0) 1 1 underlying141 hi hz0 hz1 hz2 rfl (by decide) v ds.length (ds.map u8v) ho a 1 1 [u8v d] rfl hnews h1 (by unfold maxLen;omega) (by omega) hb
 obtain⟨v',w',hr,ho',hg',-⟩:=hrun base hown hb
 refine⟨v',w',hr,by rw[List.length_append,List.map_append];exact ho',hg',?_⟩
 rcases hown.2 with ⟨rfl,-⟩|⟨g,cap,cur,rfl,-,hgc,hnc,hcm,hcs,htake⟩
 ·(
 have hd:ds=[]:=by
  obtain⟨hx,hy|⟨g,cap,cur,e,-⟩⟩:=hown
  ·exact List.eq_nil_of_length_eq_zero hy.2
  ·simp at e
 subst hd
 obtain⟨v2,w2,hr2,ho2,-,-⟩:=hrun w.heap.size (World.ownsRow_nil _ _ _ _) (Nat.le_refl _)
 rw[hr] at hr2
 simp only[Result.ok.injEq] at hr2
 obtain⟨rfl,rfl⟩:=hr2
 exact .inr fun k hk=>(ho2.lt k hk).1)
 ·(
 by_cases hroom:ds.length+1≤cap
 ·(
 have h2:=run_append_room (P:=prog) w 141 141 5 i0 underlying141 hi g ds.length cap cur hgc a 1 1 [u8v d] (by rw[hz1];rfl) hnews h1 hroom (by rw[hz1,hcs];simp;omega)
 rw[hr] at h2
 simp only[Result.ok.injEq] at h2
 rw[h2.1]
 exact .inl rfl)
 ·(
 have h2:=run_append_grow (P:=prog) w 141 141 5 i0 (.int .u8 0) underlying141 hi hz0 ⟨g,0,none⟩ ds.length cap (ds.map u8v) (by rw[hz1];simp) (hown.cells rfl) a 1 1 [u8v d] (by rw[hz1];rfl) hnews (by omega) (by omega) (growslice_fits (by omega) (by rw[hz2];omega))
 rw[hr] at h2
 simp only[Result.ok.injEq] at h2
 rw[h2.1]
 refine .inr fun k hk=>?_
 simp only[Value.ownBlock,Option.some.injEq] at hk
 omega)))
def q8 (W X:Nat):List UInt8:=j4 X++List.replicate (W-(j4 X).length) 48
theorem zfx (X:Nat):q8 0 X=j4 X:=by simp[q8]
theorem zhh:∀ k,kg k 0=List.replicate k 48
 | 0=>rfl
 | k+1=>by rw[kg,Nat.zero_div,zhh k,List.replicate_succ];rfl
theorem zbf:∀ k n,n<10^k→kg k n=q8 k n
 | 0,n,h=>by
  have:n=0:=by simp at h;omega
  subst this;simp[kg,q8,ek]
 | k+1,n,h=>by
  by_cases h0:0<n
  ·rw[kg,zbf k (n/10) (by rw[Nat.div_lt_iff_lt_mul (by omega)];rw[Nat.pow_succ] at h;exact h),q8,q8,lv h0,List.cons_append,List.length_cons,Nat.add_sub_add_right]
  ·have:n=0:=by omega
   subst this;rw[zhh,q8,ek];simp
theorem zqg:∀ a b n,kg (a+b) n=kg a n++kg b (n/10^a)
 | 0,b,n=>by simp[kg]
 | a+1,b,n=>by
  rw[Nat.succ_add,kg,zqg a b,kg,List.cons_append,Nat.div_div_eq_div_mul,Nat.pow_succ,Nat.mul_comm 10]
theorem zvm (D X:Nat) (h:10^D≤X):q8 0 X=q8 D (X%10^D)++q8 0 (X/10^D):=by
 rw[zfx,zfx,zgh D X h,← zfc D X,zbf D _ (Nat.mod_lt _ (Nat.pow_pos (by omega)))]
theorem zvl (D X:Nat) (h:X<10^(D+D)):q8 (D+D) X=q8 D (X%10^D)++q8 D (X/10^D):=by
 have hp:0<10^D:=Nat.pow_pos (by omega)
 rw[← zbf _ _ h,zqg,← zfc D X,zbf D _ (Nat.mod_lt _ hp),zbf D (X/10^D) (by rw[Nat.div_lt_iff_lt_mul hp,← Nat.pow_add];exact h)]
theorem zar (W X:Nat):(q8 W X).length=max W (j4 X).length:=by
 rw[q8,List.length_append,List.length_replicate];omega
theorem zjd (W X:Nat) (h:0<X∨0<W):0<(q8 W X).length:=by(
 rw[zar]
 rcases h with h | h
 ·rw[lv h];simp;omega
 ·omega)
def j6 (w w':World):Prop:=∀ v xs,Sl .u64 w v xs→Sl .u64 w' v xs
theorem j6.zgl {w w':World} (h:But [] w w'):j6 w w':=fun _ _ hs=>hs.ah h
theorem j6.trans {a b c:World} (h:j6 a b) (k:j6 b c):j6 a c:=fun v xs hs=>k v xs (h v xs hs)
theorem zkz {w w':World} {base:Nat} {vo:Value} {ods:List UInt8} (ho:w.ownsRow base 5 1 vo ods.length (ods.map u8v)) (hn:vo=.slice none 0 0∨0<ods.length) (hg:w.grownBy w' vo.ownBlock):j6 w w':=by(
 intro v xs hs
 rcases hn with rfl | h0
 ·exact hs.ah (l6 hg)
 ·obtain⟨g,cap,rfl,-,-,hr⟩:=zbg ho h0
  exact hs.over (zdn hg) (hr 0 (by simpa using h0)).1 (by simp))
theorem below_grown {w w':World} {base:Nat} {vo:Value} {n:Nat} {xs:List Value} (ho:w.ownsRow base 5 1 vo n xs) (hb:base≤w.heap.size) (hg:w.grownBy w' vo.ownBlock):Below base w w' :=
 ⟨hg.os,hg.tape,hg.output,hg.size,fun k hk=>hg.block k (by omega) (fun e=>by have:=(ho.lt k e.symm).1;omega)⟩
theorem But.zbl {w w':World} {base:Nat} (h:But [] w w') (hb:base≤w.heap.size):Below base w w':=⟨h.os,h.tape,h.output,h.size,fun k hk=>h.block k (by omega) (by simp)⟩
theorem jb {a b c:World} {n:Nat} (h:Below n a b) (k:Below n b c):Below n a c :=
 ⟨k.os.trans h.os,k.tape.trans h.tape,k.output.trans h.output,Nat.le_trans h.size k.size,fun i hi=>(k.block i hi).trans (h.block i hi)⟩
theorem ko {w:World} {base:Nat} {e:TypeId} {v:Value} {n:Nat} {xs:List Value} (h:w.ownsRow base e 1 v n xs):∃ a c,v=.slice a n c:=by(
 obtain⟨-,h2⟩:=h
 rcases h2 with ⟨rfl,rfl⟩|⟨g,cap,cur,e1,-⟩
 ·exact⟨_,_,rfl⟩
 ·exact⟨_,_,e1⟩)
def zu (j:Nat):Nat:=10^(608*2^j)
theorem zmm:zu 0=10^608:=by unfold zu;rw[Nat.pow_zero,Nat.mul_one]
theorem zdf (j:Nat):zu (j+1)=zu j*zu j:=by
 unfold zu
 rw[← Nat.pow_add,Nat.pow_succ,← Nat.mul_two,Nat.mul_assoc]
theorem zjo (j:Nat):0<zu j:=Nat.pow_pos (by omega)
theorem qev (j:Nat):j<zu j:=by(
 unfold zu
 have h1:j<2^j:=Nat.lt_two_pow_self
 have h2:608*2^j<10^(608*2^j):=Nat.lt_pow_self (by omega)
 omega)
theorem zjq (X j n:Nat) (hl:(wd 18446744073709551616 X).length≤n) (h:zu j≤X):1824*2^j<64*n:=by(
 have h1:X < 18446744073709551616^n:=ak (by omega) X _ hl
 have h2:(2:Nat)^(1824*2^j)≤zu j:=by
  unfold zu
  have e:(2:Nat)^(1824*2^j)=(2^3)^(608*2^j):=by rw[← Nat.pow_mul,← Nat.mul_assoc]
  rw[e]
  exact Nat.pow_le_pow_left (by omega) _
 have h3:(18446744073709551616:Nat)^n=2^(64*n):=by rw[Nat.pow_mul]
 rw[h3] at h1
 have h4:(2:Nat)^(1824*2^j)<2^(64*n):=Nat.lt_of_le_of_lt h2 (Nat.lt_of_le_of_lt h h1)
 exact (Nat.pow_lt_pow_iff_right (by omega:1<2)).1 h4)
theorem qdi:∃ i,prog.info? 111 = some i∧i.zero=some (.slice none 0 0)∧i.size=1∧i.bytes=24:=by(
 have h:(prog.info? 111).map (fun i=>(i.zero,i.size,i.bytes))=some (some (.slice none 0 0),1,24):=by kernel_rfl
 obtain⟨i,hi,he⟩:=Option.map_eq_some_iff.1 h
 simp only[Prod.mk.injEq] at he
 exact⟨i,hi,he.1,he.2.1,he.2.2⟩)
theorem zmf {w w':World} {base:Nat} {e:TypeId} {vo:Value} {n:Nat} {xs:List Value} (ho:w.ownsRow base e 1 vo n xs) (hn:vo=.slice none 0 0∨∃ u,xs[0]? = some u∧∀ m:Int,u≠.int .u64 m) (hg:w.grownBy w' vo.ownBlock):j6 w w':=by(
 intro v ws hs
 cases hb:vo.ownBlock with
 | none=>rw[hb] at hg;exact hs.ah (l6 hg)
 | some g =>
  rw[hb] at hg
  rcases hn with rfl|⟨u,hu,hne⟩
  ·simp[Value.ownBlock] at hb
  ·have hc:=ho.cells hb 0 u hu
   rw[show (⟨g,0,none⟩:Addr).add 0=⟨g,0,none⟩ from by simp[Addr.add]] at hc
   exact hs.over (zdn hg) hc hne)
structure zaz (w:World) (X:Nat) (us:List Value) (vo vp:Value) (wr:World):Prop where
 own:wr.ownsRow w.heap.size 111 1 vo us.length us
 all:∀ j u,us[j]? = some u→Sl .u64 wr u (wd 18446744073709551616 (zu j))
 pow:Sl .u64 wr vp (wd 18446744073709551616 (zu us.length))
 but:But [] w wr
 low:∀ j,j<us.length→zu j≤X
 nil:vo=.slice none 0 0∨0<us.length
theorem zaz.le {w:World} {X:Nat} {us:List Value} {vo vp:Value} {wr:World} (h:zaz w X us vo vp wr):us.length≤X:=by(
 rcases Nat.eq_zero_or_pos us.length with h0 | h0
 ·omega
 ·have h1:=h.low (us.length-1) (by omega)
  have h2:=qev (us.length-1)
  omega)
theorem zaz.first {w:World} {X:Nat} {us:List Value} {vo vp:Value} {wr:World} (h:zaz w X us vo vp wr):vo=.slice none 0 0∨∃ u,us[0]? = some u∧∀ m:Int,u≠.int .u64 m:=by(
 rcases h.nil with h0 | h0
 ·exact .inl h0
 ·(
 refine .inr ⟨us[0],List.getElem?_eq_getElem h0,fun m e=>?_⟩
 have:=h.all 0 us[0] (List.getElem?_eq_getElem h0)
 rw[e] at this
 obtain⟨a,c,h1,-⟩:=this
 simp at h1))
theorem zaz.drewN {w:World} {X:Nat} {us:List Value} {vo vp:Value} {wr:World} (h:zaz w X us vo vp wr) (q:Nat):zaz w X us vo vp (wr.drewN q) :=
 ⟨oq h.own ((But.refl [] _).drewN q),fun j u hj=>(h.all j u hj).ah ((But.refl [] _).drewN q),h.pow.ah ((But.refl [] _).drewN q),h.but.drewN q,h.low,h.nil⟩
theorem zaz.qku {w:World} {X:Nat} {us:List Value} {vo vp:Value} {wr:World} (h:zaz w X us vo vp wr):(wd 18446744073709551616 (zu us.length)).length≤(wd 18446744073709551616 X).length+(wd 18446744073709551616 X).length+33:=by(
 rcases Nat.eq_zero_or_pos us.length with h0 | h0
 ·rw[h0,zmm]
  have:=aj (B:=18446744073709551616) (by omega) _ _ zyl
  omega
 ·(
 obtain⟨j,hj⟩:∃ j,us.length=j+1:=⟨us.length-1,by omega⟩
 have h1:=aq (h.low j (by omega))
 have h2:=xg (zu j) (zu j)
 rw[hj,zdf]
 omega))
theorem zaz.more {w:World} {X:Nat} {us:List Value} {vo vp:Value} {wr:World} (h:zaz w X us vo vp wr) (hle:zu us.length≤X) (hul:us.length<35088) (W:World) (hW:W=wr.alloc (.cells #[vp] 111)) :
   ∃ v3 w3,(Builtin.append_ #[207,207] 207 #[vo,.slice (some ⟨wr.heap.size,0,none⟩) 1 1]).run prog W=.ok v3 w3∧w3.ownsRow w.heap.size 111 1 v3 (us++[vp]).length (us++[vp])∧(∀ j u,(us++[vp])[j]? = some u→Sl .u64 w3 u (wd 18446744073709551616 (zu j)))∧Sl .u64 w3 vp (wd 18446744073709551616 (zu us.length))∧But [] w w3∧(∀ j,j<(us++[vp]).length→zu j≤X)∧j6 wr w3:=by(
 obtain⟨i0,hi,hz0,hz1,hz2⟩:=qdi
 subst hW
 have hp1:vp.oneCell'=true:=by
  obtain⟨a,c,rfl,-⟩:=h.pow
  rfl
 have hc:(wr.alloc (.cells #[vp] 111)).cell? ⟨wr.heap.size,0,none⟩=some vp:=by simp
 have hbs:=h.but.size
 obtain⟨v3,w3,hr,ho,hg,-⟩:=run_append_own (P:=prog) (wr.alloc (.cells #[vp] 111)) w.heap.size 207 207 111 i0 (.slice none 0 0) 1 24 underlying207 hi hz0 hz1 hz2 rfl (by decide) vo us.length us (h.own.alloc _) ⟨wr.heap.size,0,none⟩ 1 1 [vp] rfl (fun j u hj=>by
  cases j with
  | zero=>simp at hj;subst hj;rw[show (⟨wr.heap.size,0,none⟩:Addr).add 0=⟨wr.heap.size,0,none⟩ from by simp[Addr.add]];exact hc
  | succ j=>simp at hj) (fun u hu=>by simp at hu;subst hu;exact hp1) (by unfold maxLen;omega) (by omega) (by simp;omega)
 have hK:j6 wr w3:=(j6.zgl ((But.refl [] wr).alloc _)).trans (zmf (h.own.alloc _) h.first hg)
 refine⟨v3,w3,hr,by rw[List.length_append];exact ho,fun j u hj=>?_,hK _ _ h.pow,(h.but.alloc _).grown hg (fun k hk=>(h.own.lt k hk).1),fun j hj=>?_,hK⟩
 ·(
 rcases Nat.lt_or_ge j us.length with hl | hl
 ·rw[List.getElem?_append_left hl] at hj
  exact hK _ _ (h.all j u hj)
 ·(
 have he:j=us.length:=by
  have:=(List.getElem?_eq_some_iff.1 hj).1
  simp at this
  omega
 subst he
 simp at hj
 subst hj
 exact hK _ _ h.pow))
 ·simp at hj
  rcases Nat.lt_or_ge j us.length with hl | hl
  ·exact h.low j hl
  ·rw[show j=us.length from by omega];exact hle)
theorem zlz (v:Value) (X:Nat) (w:World) (hv:Sl .u64 w v (wd 18446744073709551616 X)) (hl:(wd 18446744073709551616 X).length≤1000000) :
   Calls prog 122 #[v] w fun e w'=>∃ vo us,e=.returned vo∧w'.ownsRow w.heap.size 111 1 vo us.length us∧(∀ j u,us[j]? = some u→Sl .u64 w' u (wd 18446744073709551616 (zu j)))∧But [] w w'∧(∀ j,j<us.length→zu j≤X)∧X<zu us.length:=by(
 have h10:(wd 18446744073709551616 (10^608)).length≤33:=aj (by omega) _ _ zyl
 have h1:(wd 18446744073709551616 10).length≤1:=aj (by omega) _ _ (by omega)
 have PW:Hid (∀ (v1:Value) (W:World),Sl .u64 W v1 (wd 18446744073709551616 10)→Calls prog 199 #[v1,.int .i64 608] W fun e w'=>∃ v',e=.returned v'∧Sl .u64 w' v' (wd 18446744073709551616 (zu 0))∧But [] W w'):=fun v1 W h=>by
  rw[zmm]
  exact zsv v1 10 608 W h (by omega) (by omega) (Nat.lt_of_le_of_lt (Nat.add_le_add h1 h10) (by omega))
 have HV:=af hv
 have HLX:=af hl
 clear hv h10 h1 hl
 obtain⟨xa,xc,rfl,-,-⟩:=ae HV
 generalize hnx:(wd 18446744073709551616 X).length=nx at *
 have NX:=af hnx
 clear hnx
 go_enter func122,ntmps122
 go_wp2_with fail
 refine (zaa 10 (by omega) _).mono ?_
 rintro e w1 ⟨v1,rfl,hv1,hb1,-⟩
 have H1:=af hv1
 have B1:=af hb1
 clear hv1 hb1
 go_wp2_with fail
 refine (ae PW v1 _ (ae H1)).mono ?_
 rintro e w2 ⟨v2,rfl,hv2,hb2⟩
 have A0:Hid (∃ us,zaz w X us (.slice none 0 0) v2 w2∧X+1+us.length=X+1 ):=⟨[],⟨World.ownsRow_nil _ _ _ _,fun j u h=>by simp at h,hv2,(ae B1).trans' hb2,fun j h=>by simp at h,.inl rfl⟩,by simp⟩
 clear hv2 hb2 B1 H1 PW
 go_wp2_with fail
 go_loopg [3,4] (X+1) (fun k vo vp wr=>Hid (∃ us,zaz w X us vo vp wr∧k+us.length=X+1))
 case atStart=>exact A0
 case round =>(
 clear A0
 obtain⟨us,hI,hk⟩:=ae hrel
 clear hrel
 rename World=>wr
 obtain⟨oa,oc,hoe⟩:=ko hI.own
 have hpl:=hI.qku
 rw[ae NX] at hpl
 have hlx:=ae HLX
 have CM:=af (wz _ _ (zu us.length) X wr hI.pow ((ae HV).ah hI.but) (by omega) (by rw[ae NX];omega))
 obtain⟨pa,pc,hpe,-,-⟩:=id hI.pow
 rcases Nat.lt_or_ge X (zu us.length) with hlt | hge
 ·(
 have hc:zn (zu us.length) X=1:=by
  rcases zcb (zu us.length) X with ⟨h,-⟩|⟨h,-⟩|⟨-,h⟩
  ·omega
  ·omega
  ·exact h
 rw[hc] at CM
 have FIN:=af (And.intro hI (And.intro hlt hoe))
 subst hoe hpe
 clear hI hpl hlt hc hk
 generalize (wd 18446744073709551616 (zu us.length)).length=np at *
 go_wp2_with fail
 refine (ae CM).mono ?_
 rintro e w3 ⟨rfl,q,rfl⟩
 go_wp2
 go_ret
 exact⟨_,us,rfl,(ae FIN).1.own,(ae FIN).1.all,(ae FIN).1.but.drewN q,(ae FIN).1.low,(ae FIN).2.1⟩)
 ·(
 have hc:zn (zu us.length) X≤0:=by
  rcases zcb (zu us.length) X with ⟨-,h⟩|⟨-,h⟩|⟨h,-⟩
  ·omega
  ·omega
  ·omega
 generalize zn (zu us.length) X=r at *
 have hr:decide (r≤0)=true:=by simp;omega
 have hL:us.length≤X:=hI.le
 have h35:=zjq X us.length nx (by rw[ae NX];exact Nat.le_refl _) hge
 have hul:us.length<35088:=Nat.lt_trans Nat.lt_two_pow_self (by omega)
 have HI:=af hI
 have HR:=af (And.intro hk (And.intro hL hge))
 obtain⟨np,hnp⟩:∃ np,np=(wd 18446744073709551616 (zu us.length)).length:=⟨_,rfl⟩
 have NP:=af hnp
 rw[← hnp] at hpe hpl
 have hnp0:0<np:=by
  rw[hnp,Nat.pos_iff_ne_zero];intro e;rw[zi (by omega)] at e
  have:=zjo us.length
  omega
 have MO:=af (fun q=>(hI.drewN q).more hge hul _ rfl)
 have MU:=af (fun W (h:Sl .u64 W u4 (wd 18446744073709551616 (zu us.length)))=>mo u4 u4 _ _ W h h (by rw[← hnp];omega))
 rw[← zdf] at MU
 clear hI hk hL hge h35 hnp hc
 have SH:=af hoe
 generalize us.length=L at hoe hul
 subst hoe hpe
 have hmul:wrap64 (2*(np:Int))=2*(np:Int):=by unfold wrap64;omega
 go_wp2_with fail
 refine (ae CM).mono ?_
 rintro e w3 ⟨rfl,q,rfl⟩
 obtain⟨v3,w3,hr3,ho3,ha3,hs3,hb3,hl3,hk3⟩:=ae MO q
 have HR3:=af hr3
 have AL:=af (And.intro ho3 (And.intro ha3 (And.intro hs3 (And.intro hb3 hl3))))
 clear hr3 ho3 ha3 hs3 hb3 hl3 hk3 MO
 by_cases hbr:nx<2*np-1
 ·(
 have hbi:(nx:Int)<2*(np:Int)-1:=by omega
 have FIN:Hid (X<zu (us++[Value.slice pa np pc]).length):=by
  have h1:X < 18446744073709551616^nx:=ak (by omega) X _ (Nat.le_of_eq (ae NX))
  have h2:18446744073709551616^(np-1)≤zu us.length:=by
   rcases Nat.lt_or_ge (zu us.length) (18446744073709551616^(np-1)) with h | h
   ·have:=aj (B:=18446744073709551616) (by omega) _ _ h
    rw[← ae NP] at this
    omega
   ·exact h
  show _<_
  rw[List.length_append,List.length_singleton,zdf]
  refine Nat.lt_of_lt_of_le h1 (Nat.le_trans ?_ (Nat.mul_le_mul h2 h2))
  rw[← Nat.pow_add]
  exact Nat.pow_le_pow_right (by omega) (by omega)
 clear HI MU CM HR NP SH
 go_wp2_with (at_builtin;refine jc rfl _ _ 207 207 rfl _ _ v3 w3 rfl rfl (ae HR3) ?_)
 go_ret
 exact⟨v3,_,rfl,(ae AL).1,(ae AL).2.1,(ae AL).2.2.2.1,(ae AL).2.2.2.2,ae FIN⟩)
 ·(
 have hbi:¬ ((nx:Int)<2*(np:Int)-1):=by omega
 clear CM
 go_wp2_with (at_builtin;refine jc rfl _ _ 207 207 rfl _ _ v3 w3 rfl rfl (ae HR3) ?_)
 go_wp2_with fail
 refine (ae MU _ (ae AL).2.2.1).mono ?_
 rintro e w4 ⟨v4,rfl,hv4,hb4,-⟩
 have R:Hid (∃ us',zaz w X us' v3 v4 w4∧gk-1+us'.length=X+1):=by
  refine⟨_,⟨oq (ae AL).1 hb4,fun j u hj=>((ae AL).2.1 j u hj).ah hb4,?_,(ae AL).2.2.2.1.trans' hb4,(ae AL).2.2.2.2,.inr (by simp)⟩,?_⟩
  ·rw[List.length_append,List.length_singleton];exact hv4
  ·have:=ae HR
   rw[List.length_append,List.length_singleton]
   omega
 have GK:Hid (0<gk):=by have:=ae HR;show _<_;omega
 clear hv4 hb4 AL HI HR MU NP
 go_wp2
 go_roundg (gk-1)
 case measure=>have:=ae GK;omega
 case rel=>exact ae R))))
theorem zbj (d:Nat) (w:World) (r:Bool) (hr:Hid (r=(decide (48≤d) && decide (d≤57)))) :
   Calls prog 217 #[.int .u8 (d:Int)] w fun e w'=>e=.returned (.bool r)∧w'=w:=by(
 by_cases h1:48≤d
 ·(
 have c1:decide ((48:Int)≤(d:Int))=true:=decide_eq_true (by omega)
 by_cases h2:d≤57
 ·(
 have c2:decide ((d:Int)≤57)=true:=decide_eq_true (by omega)
 obtain rfl:r=true:=by rw[ae hr,decide_eq_true h1,decide_eq_true h2];rfl
 clear hr h1 h2
 go_enter func217,ntmps217
 go_wp2
 go_ret
 exact⟨rfl,rfl⟩)
 ·(
 have c2:decide ((d:Int)≤57)=false:=decide_eq_false (by omega)
 obtain rfl:r=false:=by rw[ae hr,decide_eq_false h2,Bool.and_false]
 clear hr h1 h2
 go_enter func217,ntmps217
 go_wp2
 go_ret
 exact⟨rfl,rfl⟩))
 ·(
 have c1:decide ((48:Int)≤(d:Int))=false:=decide_eq_false (by omega)
 obtain rfl:r=false:=by rw[ae hr,decide_eq_false h1,Bool.false_and]
 clear hr h1
 go_enter func217,ntmps217
 go_wp2
 go_ret
 exact⟨rfl,rfl⟩))
theorem zla (s:ByteArray) (k:Nat) (hk:k<s.size) (W:World):(Instr.index 9 (.string s) (.int .i64 (k:Int))).run prog W=.ok (.int .u8 ((s.data.toList.getD k 0).toNat:Int)) W:=by(
 have hj:k<s.data.toList.length:=by simpa using hk
 rw[run_index_string W 9 s .i64 (k:Int) underlying9,dif_pos ⟨by omega,by omega⟩]
 have e:(s[((k:Int)).toNat]'(by simpa using hk))=s.data.toList.getD k 0:=by
  rw[List.getD_eq_getElem?_getD,List.getElem?_eq_getElem hj,Option.getD_some]
  simp
  rfl
 rw[e])
theorem oo (s:ByteArray) (w:World) (hs:qd s) :
   Calls prog 154 #[.string s] w fun e w'=>e=.returned (.bool true)∧But [] w w':=by(
 obtain⟨hall,h1,h2⟩:=hs
 have IX:=af (fun k W (h:k<s.size)=>zla s k h W)
 have HA:=af hall
 generalize hn:s.size=n at *
 clear hall
 have n1:¬ (n:Int)<1:=by omega
 have n2:¬ (20:Int)<(n:Int):=by omega
 have hsz:(s.size:Int)=(n:Int):=by omega
 go_enter func154,ntmps154
 go_wp2
 go_loopw [3] (fun i wr=>∃ k:Nat,k≤n∧i=.int .i64 (k:Int)∧wr=w) (fun i _=>n-(intOf i).toNat)
 case atStart=>exact⟨0,Nat.zero_le _,rfl,rfl⟩
 case round =>(
 obtain⟨k,hk,rfl,rfl⟩:=hrel
 rename World=>wr
 by_cases hlt:k<n
 ·(
 have ix:=fun W=>ae IX k W hlt
 have ho:=ae HA k hlt
 generalize (s.data.toList.getD k 0).toNat=b at *
 unfold okB at ho
 rcases ho with ⟨o1,o2⟩|⟨o1,o2⟩|rfl
 ·go_wp2
  all_goals exact⟨⟨k+1,by omega,by go_num,by first | trivial|rfl⟩,by simp[intOf];omega⟩
 ·(
 have DG:=af (fun W=>zbj b W true (af (by rw[decide_eq_true o1,decide_eq_true o2];rfl)))
 have f97:¬ (97:Int)≤(b:Int):=by omega
 go_wp2_with fail
 refine (ae DG _).mono ?_
 rintro e w1 ⟨rfl,rfl⟩
 go_wp2
 all_goals exact⟨⟨k+1,by omega,by go_num,by first | trivial|rfl⟩,by simp[intOf];omega⟩)
 ·(
 have DG:=af (fun W=>zbj 45 W false (af (by decide)))
 go_wp2_with fail
 refine (ae DG _).mono ?_
 rintro e w1 ⟨rfl,rfl⟩
 go_wp2
 all_goals exact⟨⟨k+1,by omega,by go_num,by first | trivial|rfl⟩,by simp[intOf];omega⟩))
 ·obtain rfl:k=n:=by omega
  go_wp2
  go_ret
  exact⟨rfl,But.refl _ _⟩))
theorem zsb (s:ByteArray) (w:World) (hs:¬ qd s) (hbig:s.size<9223372036854775808) :
   Calls prog 154 #[.string s] w fun e w'=>e=.returned (.bool false)∧But [] w w':=by(
 have IX:=af (fun k W (h:k<s.size)=>zla s k h W)
 have HS:=af hs
 generalize hn:s.size=n at *
 clear hs
 have hsz:(s.size:Int)=(n:Int):=by omega
 by_cases n1:(n:Int)<1
 ·(
 clear IX HS
 go_enter func154,ntmps154
 go_wp2
 go_ret
 exact⟨rfl,But.refl _ _⟩)
 by_cases n2:(20:Int)<(n:Int)
 ·(
 clear IX HS
 go_enter func154,ntmps154
 go_wp2
 go_ret
 exact⟨rfl,But.refl _ _⟩)
 go_enter func154,ntmps154
 go_wp2
 go_loopw [3] (fun i wr=>∃ k:Nat,k≤n∧i=.int .i64 (k:Int)∧Hid (∀ j,j<k→okB (s.data.toList.getD j 0).toNat)∧wr=w) (fun i _=>n-(intOf i).toNat)
 case atStart=>exact⟨0,Nat.zero_le _,rfl,fun j hj=>absurd hj (by omega),rfl⟩
 case round =>(
 obtain⟨k,hk,rfl,HO,rfl⟩:=hrel
 rename World=>wr
 by_cases hlt:k<n
 ·(
 have ix:=fun W=>ae IX k W hlt
 have HN:okB (s.data.toList.getD k 0).toNat→Hid (∀ j,j<k+1→okB (s.data.toList.getD j 0).toNat):=fun hk1 j hj=>by
  rcases Nat.lt_or_ge j k with h | h
  ·exact ae HO j h
  ·obtain rfl:j=k:=by omega
   exact hk1
 have HNN:=af HN
 clear HN
 generalize (s.data.toList.getD k 0).toNat=b at *
 by_cases ho:okB b
 ·(
 have HN:=ae HNN ho
 clear HNN
 unfold okB at ho
 rcases ho with ⟨o1,o2⟩|⟨o1,o2⟩|rfl
 ·go_wp2
  all_goals exact⟨⟨k+1,by omega,by go_num,ae HN,by first | trivial|rfl⟩,by simp[intOf];omega⟩
 ·(
 have DG:=af (fun W=>zbj b W true (af (by rw[decide_eq_true o1,decide_eq_true o2];rfl)))
 have f97:¬ (97:Int)≤(b:Int):=by omega
 go_wp2_with fail
 refine (ae DG _).mono ?_
 rintro e w1 ⟨rfl,rfl⟩
 go_wp2
 all_goals exact⟨⟨k+1,by omega,by go_num,ae HN,by first | trivial|rfl⟩,by simp[intOf];omega⟩)
 ·(
 have DG:=af (fun W=>zbj 45 W false (af (by decide)))
 go_wp2_with fail
 refine (ae DG _).mono ?_
 rintro e w1 ⟨rfl,rfl⟩
 go_wp2
 all_goals exact⟨⟨k+1,by omega,by go_num,ae HN,by first | trivial|rfl⟩,by simp[intOf];omega⟩))
 ·(
 clear HNN
 unfold okB at ho
 have hr:(decide (48≤b) && decide (b≤57))=false:=by
  by_cases h1:48≤b
  ·rw[decide_eq_false (show ¬ b≤57 by omega),Bool.and_false]
  ·rw[decide_eq_false h1,Bool.false_and]
 have DG:=af (fun W=>zbj b W false (af hr.symm))
 have h45:((b:Int)==45)=false:=beq_eq_false_iff_ne.2 (by omega)
 clear hr
 by_cases f97:(97:Int)≤(b:Int)
 ·(
 have f122:¬ (b:Int)≤122:=by omega
 clear ho
 go_wp2_with fail
 refine (ae DG _).mono ?_
 rintro e w1 ⟨rfl,rfl⟩
 go_wp2
 go_ret
 exact⟨rfl,But.refl _ _⟩)
 ·(
 clear ho
 go_wp2_with fail
 refine (ae DG _).mono ?_
 rintro e w1 ⟨rfl,rfl⟩
 go_wp2
 go_ret
 exact⟨rfl,But.refl _ _⟩)))
 ·obtain rfl:k=n:=by omega
  exact absurd ⟨by rw[hn];exact ae HO,by omega,by omega⟩ (ae HS)))
end Go.Proofs.YtjlfllhedceigaaGreatDoor
