/- Contracts of the library at this program -/
import Derived.Shelf.Strconv.Itoa1
import Derived.Shelf.LaysM
import Derived.Shelf.Strconv.Itoa2
import Derived.Shelf.Small.Bits
import Derived.Test.YtagmkkiagjmimaaGreatDoorProg
import Derived.Laws.Bits64b
import Derived.Lib.ItoaNum
import Derived.Lib.ItoaMem
import Derived.Laws.IdiomStrings
import Derived.Test.YtagmkkiagjmimaaGreatDoorSN15
namespace Go.Proofs
set_option linter.unusedVariables false
open Go.Proofs.Tryz
open Go.Shelf
def Tryz.lays283_ren : Go.Shelf.Ren := ⟨fun | 283 => 218 | n => n, fun | 3 => 3 | 4 => 4 | 9 => 9 | n => n, fun | n => n⟩
theorem Tryz.lays283 : Go.Proofs.Lays.n283 Tryz.prog Tryz.lays283_ren := {
  mixed := by kernel_rfl
  f283 := Tryz.func218.trans (congrArg some (by kernel_rfl))
  t3 := Tryz.underlying3
  a3 := Tryz.isAgg3
  z3 := Tryz.sizeOf3
  v3 := Tryz.zeroValue3
  t4 := Tryz.underlying4
  a4 := Tryz.isAgg4
  z4 := Tryz.sizeOf4
  v4 := Tryz.zeroValue4
  t9 := Tryz.underlying9
  a9 := Tryz.isAgg9
  z9 := Tryz.sizeOf9
  v9 := Tryz.zeroValue9 }
open Go.Lib in
theorem Tryz.internal_strconv_small (i:Nat) (h:i<100) (w:World) :
  Calls prog 218 #[.int .i64 i] w fun e w'=>e=.returned (.string ⟨(Lib.decDigits i).toArray⟩)∧w'=w:=Any.internal_strconv_small Tryz.lays283 i h w
def Tryz.laysM284_ren : Go.Shelf.Ren := ⟨fun | 129 => 248 | 284 => 219 | 317 => 247 | 318 => 249 | n => n, fun | 0 => 0 | 3 => 3 | 4 => 4 | 5 => 5 | 9 => 9 | 46 => 207 | 53 => 24 | 212 => 281 | n => n, fun | 17 => 1 | n => n⟩
theorem Tryz.laysM284 : Go.Proofs.LaysM.n284 Tryz.prog Tryz.laysM284_ren := {
  mixed := by kernel_rfl
  f129 := Tryz.func248.trans (congrArg some (by kernel_rfl))
  f284 := Tryz.func219.trans (congrArg some (by kernel_rfl))
  f317 := Tryz.func247.trans (congrArg some (by kernel_rfl))
  f318 := Tryz.func249.trans (congrArg some (by kernel_rfl))
  t0 := Tryz.underlying0
  a0 := Tryz.isAgg0
  z0 := Tryz.sizeOf0
  v0 := Tryz.zeroValue0
  t3 := Tryz.underlying3
  a3 := Tryz.isAgg3
  z3 := Tryz.sizeOf3
  v3 := Tryz.zeroValue3
  t4 := Tryz.underlying4
  a4 := Tryz.isAgg4
  z4 := Tryz.sizeOf4
  v4 := Tryz.zeroValue4
  t5 := Tryz.underlying5
  a5 := Tryz.isAgg5
  z5 := Tryz.sizeOf5
  v5 := Tryz.zeroValue5
  t9 := Tryz.underlying9
  a9 := Tryz.isAgg9
  z9 := Tryz.sizeOf9
  v9 := Tryz.zeroValue9
  t46 := Tryz.underlying207
  a46 := Tryz.isAgg207
  z46 := Tryz.sizeOf207
  v46 := Tryz.zeroValue207
  t53 := Tryz.underlying24
  a53 := Tryz.isAgg24
  z53 := Tryz.sizeOf24
  v53 := Tryz.zeroValue24
  t212 := Tryz.underlying281
  a212 := Tryz.isAgg281
  z212 := Tryz.sizeOf281
  v212 := Tryz.zeroValue281
  g17 := by kernel_rfl
  m17 := by kernel_rfl
  i0 := by kernel_rfl
  i3 := by kernel_rfl
  i4 := by kernel_rfl
  i5 := by kernel_rfl
  i9 := by kernel_rfl
  i46 := by kernel_rfl
  i53 := by kernel_rfl
  i212 := by kernel_rfl }
open Go.Lib in
theorem Tryz.internal_strconv_numDigits (u:Nat) (h1:1≤u) (h2:u<18446744073709551616) (w:World) (htab:Lib.TabIs prog w "internal/strconv.uint64pow10" .u64 Lib.pow10Tab) :
  Calls prog 219 #[.int .u64 u] w fun e w'=>e=.returned (.int .i64 (Lib.nDigits u))∧w'=w:=Any.internal_strconv_numDigits Tryz.laysM284 u h1 h2 w htab
def Tryz.lays285_ren : Go.Shelf.Ren := ⟨fun | 285 => 220 | n => n, fun | 0 => 0 | 3 => 3 | 4 => 4 | 5 => 5 | 9 => 9 | 37 => 185 | 51 => 238 | 53 => 24 | n => n, fun | n => n⟩
theorem Tryz.lays285 : Go.Proofs.Lays.n285 Tryz.prog Tryz.lays285_ren := {
  mixed := by kernel_rfl
  f285 := Tryz.func220.trans (congrArg some (by kernel_rfl))
  t0 := Tryz.underlying0
  a0 := Tryz.isAgg0
  z0 := Tryz.sizeOf0
  v0 := Tryz.zeroValue0
  t3 := Tryz.underlying3
  a3 := Tryz.isAgg3
  z3 := Tryz.sizeOf3
  v3 := Tryz.zeroValue3
  t4 := Tryz.underlying4
  a4 := Tryz.isAgg4
  z4 := Tryz.sizeOf4
  v4 := Tryz.zeroValue4
  t5 := Tryz.underlying5
  a5 := Tryz.isAgg5
  z5 := Tryz.sizeOf5
  v5 := Tryz.zeroValue5
  t9 := Tryz.underlying9
  a9 := Tryz.isAgg9
  z9 := Tryz.sizeOf9
  v9 := Tryz.zeroValue9
  t37 := Tryz.underlying185
  a37 := Tryz.isAgg185
  z37 := Tryz.sizeOf185
  v37 := Tryz.zeroValue185
  t51 := Tryz.underlying238
  a51 := Tryz.isAgg238
  z51 := Tryz.sizeOf238
  v51 := Tryz.zeroValue238
  t53 := Tryz.underlying24
  a53 := Tryz.isAgg24
  z53 := Tryz.sizeOf24
  v53 := Tryz.zeroValue24 }
open Go.RowKit Go.Sort Go.Lib in
theorem Tryz.internal_strconv_formatBase10 (blk off cap:Nat) (u:Nat) (d:Array UInt8) (w:World) (hH:Holds (fun (b:UInt8)=>Value.int .u8 (b.toNat:Int)) w blk off d) (hu:u<10^d.size) (hu64:u<18446744073709551616) (hsz:d.size<4611686018427387904) :
  Calls prog 220 #[.slice (some ⟨blk,off,none⟩) d.size cap,.int .u64 u] w fun e w' =>
   e=.returned (.tuple #[])∧∃ (n v':Nat) (dk:Array UInt8),w'=(putRow (fun (b:UInt8)=>Value.int .u8 (b.toNat:Int)) w blk off dk).drewN n∧FmtInv d.size u 0 v' dk:=Any.internal_strconv_formatBase10 Tryz.lays285 blk off cap u d w hH hu hu64 hsz
def Tryz.lays125_ren : Go.Shelf.Ren := ⟨fun | 125 => 227 | 128 => 255 | 129 => 248 | n => n, fun | 3 => 3 | 4 => 4 | 5 => 5 | 9 => 9 | 46 => 207 | 51 => 238 | 53 => 24 | n => n, fun | n => n⟩
theorem Tryz.lays125 : Go.Proofs.Lays.n125 Tryz.prog Tryz.lays125_ren := {
  mixed := by kernel_rfl
  f125 := Tryz.func227.trans (congrArg some (by kernel_rfl))
  f128 := Tryz.func255.trans (congrArg some (by kernel_rfl))
  f129 := Tryz.func248.trans (congrArg some (by kernel_rfl))
  t3 := Tryz.underlying3
  a3 := Tryz.isAgg3
  z3 := Tryz.sizeOf3
  v3 := Tryz.zeroValue3
  t4 := Tryz.underlying4
  a4 := Tryz.isAgg4
  z4 := Tryz.sizeOf4
  v4 := Tryz.zeroValue4
  t5 := Tryz.underlying5
  a5 := Tryz.isAgg5
  z5 := Tryz.sizeOf5
  v5 := Tryz.zeroValue5
  t9 := Tryz.underlying9
  a9 := Tryz.isAgg9
  z9 := Tryz.sizeOf9
  v9 := Tryz.zeroValue9
  t46 := Tryz.underlying207
  a46 := Tryz.isAgg207
  z46 := Tryz.sizeOf207
  v46 := Tryz.zeroValue207
  t51 := Tryz.underlying238
  a51 := Tryz.isAgg238
  z51 := Tryz.sizeOf238
  v51 := Tryz.zeroValue238
  t53 := Tryz.underlying24
  a53 := Tryz.isAgg24
  z53 := Tryz.sizeOf24
  v53 := Tryz.zeroValue24 }
theorem Tryz.bits_Len (x:Int) (w:World) (h0:0≤x) (h1:x≤18446744073709551615) :
  Calls prog 227 #[.int .u64 x] w fun e w'=>e=.returned (.int .i64 (Lib.bitLen x.toNat))∧w'=w:=Any.bits_Len Tryz.lays125 x w h0 h1
end Go.Proofs
namespace Go.Proofs.YtagmkkiagjmimaaGreatDoor
open Go.Proofs.Tryz
open Go.RowKit
set_option maxHeartbeats 4000000
set_option maxRecDepth 100000
theorem zrw (a:Nat) (ha:a<9223372036854775808):bits .and .i64 (a:Int) 1=((a%2:Nat):Int):=by(
 have h1:(BitVec.ofInt 64 (a:Int)).toNat=a:=by
  rw[BitVec.ofInt_natCast,BitVec.toNat_ofNat];exact Nat.mod_eq_of_lt (by omega)
 have h2:(BitVec.ofInt 64 (1:Int)).toNat=1:=rfl
 show IntKind.i64.wrap ((BitVec.ofInt 64 (a:Int) &&& BitVec.ofInt 64 (1:Int)).toNat:Int)=_
 rw[BitVec.toNat_and,h1,h2,Nat.and_one_is_mod,IntKind.wrap_i64]
 omega)
theorem zhr (n i:Nat):n/2^i=2*(n/2^(i+1))+n/2^i%2:=by
 rw[Nat.pow_succ,← Nat.div_div_eq_div_mul];omega
theorem pow_even (X n i:Nat) (h:n/2^i%2=0):X^(n/2^(i+1))*X^(n/2^(i+1))=X^(n/2^i):=by
 rw[zhr n i,h,← Nat.pow_add];congr 1;omega
theorem pow_odd (X n i:Nat) (h:n/2^i%2=1):X^(n/2^(i+1))*X^(n/2^(i+1))*X=X^(n/2^i):=by
 rw[zhr n i,h,← Nat.pow_add,← Nat.pow_succ];congr 1;omega
theorem znb (n:Nat) (h:n < 18446744073709551616):n<2^Lib.bitLen n∧Lib.bitLen n≤64:=by(
 by_cases h0:n=0
 ·subst h0;exact⟨by decide,by decide⟩
 ·exact⟨(Lib.bitLenAux_bounds 64 n h h0).2.2,Lib.bitLen_le n 64 (by omega) h⟩)
theorem zkp (v:Value) (X n:Nat) (w:World) (hv:Sl .u64 w v (wd 18446744073709551616 X)) (hX:0<X) (hn:n<2147483648) (hl:(wd 18446744073709551616 X).length+(wd 18446744073709551616 (X^n)).length<67108864) :
   Calls prog 190 #[v,.int .i64 (n:Int)] w fun e w'=>∃ v',e=.returned v'∧Sl .u64 w' v' (wd 18446744073709551616 (X^n))∧But [] w w':=by(
 obtain⟨L,hL⟩:∃ L,L=Lib.bitLen n:=⟨_,rfl⟩
 have hb:=znb n (by omega)
 have BL:=af (fun W=>Tryz.bits_Len (n:Int) W (by omega) (by omega))
 rw[Int.toNat_natCast,← hL] at BL
 rw[← hL] at hb
 obtain⟨hb1,hb2⟩:=hb
 have hlen:Hid (∀ i,(wd 18446744073709551616 (X^(n/2^i))).length<67108864∧(wd 18446744073709551616 X).length+(wd 18446744073709551616 (X^(n/2^i))).length<67108864):=fun i=>by
  have:=au (Nat.pow_le_pow_right hX (Nat.div_le_self n (2^i)))
  omega
 have hlen2:Hid (∀ i,(wd 18446744073709551616 (X^(n/2^(i+1))*X^(n/2^(i+1)))).length+(wd 18446744073709551616 X).length<67108864):=fun i=>by
  rw[← Nat.pow_add]
  have h3:=zhr n i
  have h4:=Nat.div_le_self n (2^i)
  have:=au (Nat.pow_le_pow_right hX (show n/2^(i+1)+n/2^(i+1)≤n from by omega))
  omega
 have HV:=af hv
 have hdiv:n/2^L=0:=Nat.div_eq_of_lt hb1
 have hst:Hid ((1:Nat)=X^(n/2^L)):=by show _=_;rw[hdiv,Nat.pow_zero]
 clear hv hl hdiv hb1 hL
 obtain⟨xa,xc,rfl,-,-⟩:=ae HV
 generalize hnx:(wd 18446744073709551616 X).length=nx at *
 have HNX:=af hnx
 clear hnx
 go_enter func190,ntmps190
 go_wp2_with fail
 refine (jc 1 (by omega) _).mono ?_
 rintro e w1 ⟨v1,rfl,hv1,hb1,-⟩
 have H1:=af hv1
 have B1:=af hb1
 clear hv1 hb1
 go_wp2_with fail
 refine (ae BL _).mono ?_
 rintro e w2 ⟨rfl,hw⟩
 obtain rfl:=hw.symm
 clear hw
 go_wp2
 go_loopw [5,6] (fun o i wr=>∃ k:Nat,k≤L∧i=.int .i64 ((k:Int)-1)∧Hid (Sl .u64 wr o (wd 18446744073709551616 (X^(n/2^k)))∧But [] w wr)) (fun _ i _=>(intOf i+1).toNat)
 case atStart=>exact⟨L,Nat.le_refl _,rfl,by rw[← ae hst];exact ae H1,ae B1⟩
 case round =>(
 obtain⟨k,hk,rfl,HI⟩:=hrel
 rename World=>wr
 by_cases hk0:k=0
 ·(
 subst hk0
 go_wp2
 go_ret
 have h:=(ae HI).1
 rw[Nat.pow_zero,Nat.div_one] at h
 exact⟨_,rfl,h,(ae HI).2⟩)
 ·(
 obtain⟨i,rfl⟩:∃ i,k=i+1:=⟨k-1,by omega⟩
 rw[show (((i+1:Nat):Int)-1)=(i:Int) from by omega]
 have hq:n/2^i<9223372036854775808:=by have:=Nat.div_le_self n (2^i);omega
 have E1:bits .and .i64 ((n:Int)/2^i) 1=((n/2^i%2:Nat):Int):=by
  have e:(n:Int)/2^i=((n/2^i:Nat):Int):=by simp
  rw[e,zrw _ hq]
 obtain⟨a,c,ho⟩:∃ a c,u5=.slice a (wd 18446744073709551616 (X^(n/2^(i+1)))).length c:=by obtain⟨a,c,e,-,-⟩:=(ae HI).1;exact⟨a,c,e⟩
 have MU:=af (qz u5 u5 _ _ wr (ae HI).1 (ae HI).1 (by have:=(ae hlen (i+1)).1;omega))
 have L2:=af (ae hlen2 i)
 subst ho
 generalize hm:(wd 18446744073709551616 (X^(n/2^(i+1)))).length=m at *
 clear hm
 rcases Nat.mod_two_eq_zero_or_one (n/2^i) with hpar | hpar
 ·(
 have e1:(((n/2^i%2:Nat):Int)==1)=false:=by rw[hpar];rfl
 have EV:=af (pow_even X n i hpar)
 generalize n/2^i%2=b at *
 go_wp2_with fail
 refine (ae MU).mono ?_
 rintro e w3 ⟨v3,rfl,hv3,hb3,-⟩
 rw[ae EV] at hv3
 have H3:=af hv3
 have B3:Hid (But [] w w3):=(ae HI).2.trans' hb3
 clear hv3 hb3
 go_wp2
 refine⟨⟨i,by omega,rfl,ae H3,ae B3⟩,?_⟩
 simp[intOf])
 ·(
 have e1:(((n/2^i%2:Nat):Int)==1)=true:=by rw[hpar];rfl
 have EV:=af (pow_odd X n i hpar)
 generalize n/2^i%2=b at *
 go_wp2_with fail
 refine (ae MU).mono ?_
 rintro e w3 ⟨v3,rfl,hv3,hb3,-⟩
 have B3:Hid (But [] w w3):=(ae HI).2.trans' hb3
 have MX:=af (qz v3 (.slice xa nx xc) _ X w3 hv3 ((ae HV).ah (ae B3)) (by rw[ae HNX];have:=ae L2;omega))
 obtain⟨a3,c3,e3,-,-⟩:=hv3
 subst e3
 clear hb3
 rw[ae EV] at MX
 generalize (wd 18446744073709551616 (X^(n/2^(i+1))*X^(n/2^(i+1)))).length=m3 at *
 go_wp2_with fail
 refine (ae MX).mono ?_
 rintro e w4 ⟨v4,rfl,hv4,hb4,-⟩
 have H4:=af hv4
 have B4:Hid (But [] w w4):=(ae B3).trans' hb4
 clear hv4 hb4
 go_wp2
 refine⟨⟨i,by omega,rfl,ae H4,ae B4⟩,?_⟩
 simp[intOf]))))
open Go.RowKit Go.Sort Go.Lib
theorem holds_zero0 (w:World) (T:TypeId) (nd:Nat) (hs:nd≤24):Holds (fun (b:UInt8)=>Value.int .u8 (b.toNat:Int)) (w.alloc (.cells zeros24 T)) w.heap.size 0 (Array.replicate nd (0:UInt8)):=fun j hj=>by
 rw[Array.size_replicate] at hj
 refine⟨?_,by simp⟩
 rw[World.cell?_alloc_new,zeros24_at _ (by omega),getElem!_pos _ j (by rw[Array.size_replicate];exact hj)]
 simp
theorem zkz (u:Nat) (hu:u<18446744073709551616) (w:World) (htab:Lib.TabIs prog w "internal/strconv.uint64pow10" .u64 Lib.pow10Tab) (t:ByteArray) (ht:Hid (t=⟨(Lib.decDigits u).toArray⟩)) :
   Calls prog 187 #[.int .u64 u,.int .i64 10] w fun e w'=>e=.returned (.string t)∧But [] w w':=by(
 by_cases hs:u<100
 ·(
 have H:=af htab
 clear htab
 go_enter func187,ntmps187
 go_wp2_with fail
 refine (Tryz.internal_strconv_small u hs _).mono ?_
 rintro e w1 ⟨rfl,hw⟩
 obtain rfl:=hw.symm
 clear hw
 rw[← ae ht]
 clear ht
 go_wp2
 go_ret
 exact⟨rfl,But.refl _ _⟩)
 ·(
 have hu1:1≤u:=by omega
 have hnd20:Lib.nDigits u≤20:=by have:=Lib.numDigits_eq u hu1 hu;split at this <;> omega
 have H:=af htab
 clear htab
 go_enter func187,ntmps187
 go_wp2_with fail
 refine (Tryz.internal_strconv_numDigits u hu1 hu _ (Lib.tabIs_alloc (ae H) _)).mono ?_
 rintro e w1 ⟨rfl,hw⟩
 obtain rfl:=hw.symm
 clear hw
 have hH0:=holds_zero0 w 256 (Lib.nDigits u) (by omega)
 have hfmt:=af (Tryz.internal_strconv_formatBase10 w.heap.size 0 24 u (Array.replicate (Lib.nDigits u) 0) (w.alloc (.cells Lib.zeros24 256)) hH0 (by rw[Array.size_replicate];exact Lib.lt_pow_nDigits u) hu (by rw[Array.size_replicate];omega))
 rw[Array.size_replicate] at hfmt
 have HH:=af hH0
 clear hH0
 have hnl:=Lib.decDigits_length u
 have HND:=af hnl
 clear hnl
 generalize hndd:Lib.nDigits u=nd at *
 have HE:=af hndd
 clear hndd
 have hal:prog.arrayLen 256 = 24:=by kernel_rfl
 have hsl:∀ W,(Instr.sliceAt 256 (.pointer (some ⟨w.heap.size,0,none⟩)) none (some (.int .i64 (nd:Int))) none).run prog W=.ok (.slice (some ⟨w.heap.size,0,none⟩) nd 24) W:=fun W=>by
  rw[run_sliceAt_array_h W 256 ⟨w.heap.size,0,none⟩ (by kernel_rfl) .i64 (nd:Int) (by omega) (by rw[hal];omega)]
  go_simp
 go_wp2_with fail
 refine (ae hfmt).mono ?_
 rintro e w1 ⟨rfl,k,v',dk,hw1,hF⟩
 have hF':FmtInv (Lib.nDigits u) u 0 v' dk:=by rw[ae HE];exact hF
 have hcv:(convert 185 9 (.slice (some ⟨w.heap.size,0,none⟩) nd 24)).run prog w1=.ok (.string t) w1:=by
  have h:=run_convert_bytes_back (P:=prog) w1 185 9 5 ⟨w.heap.size,0,none⟩ 24 (Lib.decDigits u) underlying185 underlying5 underlying9 (fun j hj=>by
   rw[Lib.row_is_numeral hF' j hj,Lib.add_plain,hw1,World.cell?_drewN]
   exact cell?_putRow (fun (b:UInt8)=>Value.int .u8 (b.toNat:Int)) _ w.heap.size 0 _ dk (ae HH) (by rw[hF.size,Array.size_replicate]) j (by rw[hF.size];rw[ae HND] at hj;exact hj))
  rw[ae HND,← ae ht] at h
  exact h
 have hB:But [] w w1:=by
  rw[hw1,alloc_eq_grow]
  obtain⟨os',_,e⟩:=putRow_grow_new (fun (b:UInt8)=>Value.int .u8 (b.toNat:Int)) w #[.cells Lib.zeros24 256] w.heap.size 0 dk (Nat.le_refl _)
  rw[e]
  have hg:But [] w (grow w os'):=⟨rfl,rfl,rfl,by show w.heap.size≤(w.heap++os').size;rw[Array.size_append];omega,fun k hk _=>Array.getElem?_append_left hk⟩
  exact hg.drewN k
 clear hw1 hF hF' HH HND HE hfmt
 go_wp2
 go_ret
 exact⟨rfl,hB⟩))
theorem zds (u:Nat) (hu:u<18446744073709551616) (w:World) (htab:Lib.TabIs prog w "internal/strconv.uint64pow10" .u64 Lib.pow10Tab) (t:ByteArray) (ht:Hid (t=⟨(Lib.decDigits u).toArray⟩)) :
   Calls prog 142 #[.int .u64 u,.int .i64 10] w fun e w'=>e=.returned (.string t)∧But [] w w':=by(
 have H:=af htab
 clear htab
 go_enter func142,ntmps142
 go_wp2_with fail
 refine (zkz u hu _ (ae H) t ht).mono ?_
 rintro e w1 ⟨rfl,hb⟩
 go_wp2
 go_ret
 exact⟨rfl,hb⟩)
theorem vv (B:Nat) (xs:List Nat) (k:Nat):vl B (xs.take (k+1))=vl B (xs.take k)+xs[k]?.getD 0*B^k:=by(
 rcases Nat.lt_or_ge k xs.length with h | h
 ·exact qh B xs k h
 ·rw[List.take_of_length_le h,List.take_of_length_le (by omega),List.getElem?_eq_none h];simp)
theorem zjf (B:Nat) (rs:List Nat) (k s:Nat) (hk:k<rs.length) (hz:rs[k]?.getD 0=0):vl B (rs.set k s)=vl B rs+s*B^k:=by(
 have:=wo B rs k s hk
 rw[hz,Nat.zero_mul,Nat.add_zero] at this
 exact this)
structure j5 (k:IntKind) (w:World) (g:Nat) (rs:List Nat):Prop where
 row:Row k w g rs
 ints:0<rs.length→Ints k w g
theorem zug (k:IntKind) (w:World) (n:Nat) (t:TypeId):Ints k (w.alloc (.cells (madeCells #[.int k 0] n) t)) w.heap.size:=fun i v hv=>by
 rw[World.cell?_alloc_new] at hv
 unfold madeCells at hv
 rw[Array.getElem?_map] at hv
 obtain⟨x,-,rfl⟩:=Option.map_eq_some_iff.1 hv
 exact⟨0,by simp[Nat.mod_one]⟩
theorem j5.made (k:IntKind) (w:World) (n:Nat) (t:TypeId):j5 k (w.alloc (.cells (madeCells #[.int k 0] n) t)) w.heap.size (List.replicate n 0):=⟨Row.made k w n t,fun _=>zug k w n t⟩
theorem j5.set {k:IntKind} {w:World} {g:Nat} {rs:List Nat} (h:j5 k w g rs) (i:Nat) (hi:i<rs.length) (t:Nat):j5 k (w.setCell ⟨g,i,none⟩ (.int k t)) g (rs.set i t):=⟨h.row.set i hi t,fun h0=>(h.ints (by rw[List.length_set] at h0;exact h0)).set i t⟩
theorem j5.sl {k:IntKind} {w:World} {g:Nat} {rs:List Nat} (h:j5 k w g rs) (cap:Nat) (hc:rs.length≤cap):Sl k w (.slice (some ⟨g,0,none⟩) rs.length cap) rs:=Sl.mk g 0 cap hc (fun i hi=>by rw[Nat.zero_add];exact (h.row i hi).1) h.ints
theorem j5.lt {k:IntKind} {w:World} {g:Nat} {rs:List Nat} (h:j5 k w g rs) (h0:0<rs.length):g<w.heap.size:=ai (h.row 0 h0).1
theorem j5.but {k:IntKind} {w w':World} {g:Nat} {rs:List Nat} {l:List Nat} (h:j5 k w g rs) (hb:But l w w') (hn:g ∉ l):j5 k w' g rs:=⟨fun i hi=>by
 have hl:=ai (h.row i hi).1
 exact⟨hb.ag (h.row i hi).1 hn,(hb.frozen (p:=⟨g,i,none⟩) hl hn).trans (h.row i hi).2⟩,fun h0=>(h.ints h0).but hb (h.lt h0) hn⟩
theorem j5.drewN {k:IntKind} {w:World} {g:Nat} {rs:List Nat} (h:j5 k w g rs) (q:Nat):j5 k (w.drewN q) g rs:=h.but ((But.refl [] _).drewN q) (by simp)
/-! ### sums -/
structure zpr (xs ys rs:List Nat) (k c:Nat):Prop where
 len:rs.length=xs.length+1
 mem:∀ x ∈ rs,x<4294967296
 car:c≤1
 val:vl 4294967296 rs+c*4294967296^k=vl 4294967296 (xs.take k)+vl 4294967296 (ys.take k)
 zero:∀ j,k≤j→rs[j]?.getD 0=0
theorem zpr.start (xs ys:List Nat):zpr xs ys (List.replicate (xs.length+1) 0) 0 0 :=
 ⟨by simp,fun x hx=>by rw[List.mem_replicate] at hx;omega,by omega,by simp[qp,vl],fun j _=>by rw[List.getElem?_replicate];split <;> rfl⟩
theorem zpr.step {xs ys rs:List Nat} {k c:Nat} (h:zpr xs ys rs k c) (hk:k<xs.length) (hx:xs[k]?.getD 0<4294967296) (hy:ys[k]?.getD 0<4294967296) (t:Nat) (ht:t=c+xs[k]?.getD 0+ys[k]?.getD 0):zpr xs ys (rs.set k (t%4294967296)) (k+1) (t/4294967296):=by(
 have hl:=h.len
 refine⟨by rw[List.length_set];exact hl,mem_set h.mem _ _ (Nat.mod_lt _ (by omega)),by have:=h.car;omega,?_,fun j hj=>by rw[List.getElem?_set_ne (by omega)];exact h.zero j (by omega)⟩
 rw[zjf _ rs k _ (by omega) (h.zero k (Nat.le_refl _)),vv,vv,Nat.pow_succ]
 have hv:=h.val
 have he:=Nat.div_add_mod t 4294967296
 have h3:c+xs[k]?.getD 0+ys[k]?.getD 0=4294967296*(t/4294967296)+t%4294967296:=by omega
 have h2:(c+xs[k]?.getD 0+ys[k]?.getD 0)*4294967296^k=(4294967296*(t/4294967296)+t%4294967296)*4294967296^k:=by rw[h3]
 generalize (4294967296:Nat)^k=P at *
 generalize t/4294967296=q at *
 generalize t%4294967296=s at *
 generalize vl 4294967296 rs=R at *
 generalize vl 4294967296 (xs.take k)=V1 at *
 generalize vl 4294967296 (ys.take k)=V2 at *
 grind)
theorem zpr.fin {xs ys rs:List Nat} {c:Nat} (h:zpr xs ys rs xs.length c) (hy:ys.length≤xs.length):vl 4294967296 (rs.set xs.length c)=vl 4294967296 xs+vl 4294967296 ys∧(∀ x ∈ rs.set xs.length c,x<4294967296):=by(
 refine⟨?_,mem_set h.mem _ _ (by have:=h.car;omega)⟩
 have hv:=h.val
 rw[List.take_length,List.take_of_length_le hy] at hv
 rw[zjf _ rs _ _ (by have:=h.len;omega) (h.zero _ (Nat.le_refl _)),hv])
/-! ### differences -/
structure zpo (xs ys rs:List Nat) (k c:Nat):Prop where
 len:rs.length=xs.length
 mem:∀ x ∈ rs,x<4294967296
 car:c≤1
 val:vl 4294967296 rs+vl 4294967296 (ys.take k)=vl 4294967296 (xs.take k)+c*4294967296^k
 zero:∀ j,k≤j→rs[j]?.getD 0=0
theorem zpo.start (xs ys:List Nat):zpo xs ys (List.replicate xs.length 0) 0 0 :=
 ⟨by simp,fun x hx=>by rw[List.mem_replicate] at hx;omega,by omega,by simp[qp,vl],fun j _=>by rw[List.getElem?_replicate];split <;> rfl⟩
theorem zpo.step {xs ys rs:List Nat} {k c:Nat} (h:zpo xs ys rs k c) (hk:k<xs.length) (s c':Nat) (hs:s<4294967296) (hc:c'≤1) (e:s+c+ys[k]?.getD 0=xs[k]?.getD 0+4294967296*c'):zpo xs ys (rs.set k s) (k+1) c':=by(
 have hl:=h.len
 refine⟨by rw[List.length_set];exact hl,mem_set h.mem _ _ hs,hc,?_,fun j hj=>by rw[List.getElem?_set_ne (by omega)];exact h.zero j (by omega)⟩
 rw[zjf _ rs k _ (by omega) (h.zero k (Nat.le_refl _)),vv,vv,Nat.pow_succ]
 have hv:=h.val
 have h2:(s+c+ys[k]?.getD 0)*4294967296^k=(xs[k]?.getD 0+4294967296*c')*4294967296^k:=by rw[e]
 generalize (4294967296:Nat)^k=P at *
 generalize vl 4294967296 rs=R at *
 generalize vl 4294967296 (xs.take k)=V1 at *
 generalize vl 4294967296 (ys.take k)=V2 at *
 grind)
theorem zpo.fin {xs ys rs:List Nat} {c:Nat} (h:zpo xs ys rs xs.length c) (hy:ys.length≤xs.length) (hle:vl 4294967296 ys≤vl 4294967296 xs):vl 4294967296 rs=vl 4294967296 xs-vl 4294967296 ys:=by(
 have hv:=h.val
 rw[List.take_length,List.take_of_length_le hy] at hv
 have h1:=fe (by omega:0<4294967296) rs h.mem
 rw[h.len] at h1
 rcases Nat.eq_zero_or_pos c with h0 | h0
 ·rw[h0] at hv;omega
 ·have:4294967296^xs.length≤c*4294967296^xs.length:=Nat.le_mul_of_pos_left _ h0
  omega)
/-! ### shifts -/
theorem zxd (B Y:Nat):∀ (n:Nat) (rs:List Nat),rs.length=n→(∀ j,j<n→rs[j]?.getD 0=Y/B^j%B)→vl B rs=Y%B^n:=by(
 intro n
 induction n with
 | zero =>
  intro rs h _
  have:rs=[]:=List.length_eq_zero_iff.1 h
  subst this;simp[vl,Nat.mod_one]
 | succ n ih =>
  intro rs h hd
  have e:=qh B rs n (by omega)
  rw[List.take_of_length_le (by omega)] at e
  rw[e,ih (rs.take n) (by rw[List.length_take];omega) (fun j hj=>by rw[List.getElem?_take_of_lt hj];exact hd j (by omega)),hd n (by omega),Nat.pow_succ,Nat.mod_mul,Nat.mul_comm (Y/B^n%B)])
structure zgz (S W P u0 u1 u2 v1 v2:Nat):Prop where
 s:∃ Sr,S=((u0*4294967296+u1)*4294967296+u2)*P+Sr∧Sr<P
 w:∃ Wr,W=(v1*4294967296+v2)*P+Wr∧Wr<P
 lt:S<W*4294967296
 hi:2147483648≤v1
 hv1:v1<4294967296
 hv2:v2<4294967296
 hu1:u1<4294967296
 hu2:u2<4294967296
theorem zgz.pos {S W P u0 u1 u2 v1 v2:Nat} (h:zgz S W P u0 u1 u2 v1 v2):0<P∧0<W:=by(
 obtain⟨Wr,h1,h2⟩:=h.w
 have:=h.hi
 refine⟨by omega,?_⟩
 rw[h1]
 have h3:1*P≤(v1*4294967296+v2)*P:=Nat.mul_le_mul_right _ (by omega)
 omega)
theorem zgz.top {S W P u0 u1 u2 v1 v2:Nat} (h:zgz S W P u0 u1 u2 v1 v2):u0≤v1:=by(
 obtain⟨Sr,hs,-⟩:=h.s
 obtain⟨Wr,hw,hwr⟩:=h.w
 have hP:=h.pos.1
 have hlt:=h.lt
 have h2:=h.hv2
 rcases Nat.lt_or_ge v1 u0 with hc | hc
 ·(
 exfalso
 have h3:(v1+1)*4294967296*4294967296*P≤((u0*4294967296+u1)*4294967296+u2)*P:=Nat.mul_le_mul_right _ (by omega)
 have h4:W<(v1+1)*4294967296*P:=by
  have:(v1*4294967296+v2+1)*P≤(v1+1)*4294967296*P:=Nat.mul_le_mul_right _ (by omega)
  rw[Nat.succ_mul] at this
  omega
 have h5:W*4294967296<(v1+1)*4294967296*P*4294967296:=by omega
 have h6:(v1+1)*4294967296*P*4294967296=(v1+1)*4294967296*4294967296*P:=by grind
 omega)
 ·exact hc)
theorem zgz.qir {S W P u0 u1 u2 v1 v2:Nat} (h:zgz S W P u0 u1 u2 v1 v2):S/W<4294967296:=Nat.div_lt_of_lt_mul h.lt
theorem zgz.qif {S W P u0 u1 u2 v1 v2:Nat} (h:zgz S W P u0 u1 u2 v1 v2) (g:Nat) (hg:g≤S/W):g*(v1*4294967296+v2)≤(u0*4294967296+u1)*4294967296+u2:=by(
 obtain⟨Sr,hs,hsr⟩:=h.s
 obtain⟨Wr,hw,hwr⟩:=h.w
 have h1:g*W≤S:=Nat.le_trans (Nat.mul_le_mul_right _ hg) (Nat.div_mul_le_self S W)
 have h2:g*(v1*4294967296+v2)*P≤g*W:=by
  have e:g*W=g*(v1*4294967296+v2)*P+g*Wr:=by rw[hw];grind
  omega
 rcases Nat.lt_or_ge ((u0*4294967296+u1)*4294967296+u2) (g*(v1*4294967296+v2)) with hc | hc
 ·exfalso
  have h3:((u0*4294967296+u1)*4294967296+u2+1)*P≤g*(v1*4294967296+v2)*P:=Nat.mul_le_mul_right _ hc
  rw[Nat.succ_mul] at h3
  omega
 ·exact hc)
structure zac (S W u0 u1 v1 g r:Nat):Prop where
 eq:u0*4294967296+u1=g*v1+r
 ge:S/W≤g
 le:g≤4294967297
theorem zac.start {S W P u0 u1 u2 v1 v2:Nat} (h:zgz S W P u0 u1 u2 v1 v2):zac S W u0 u1 v1 ((u0*4294967296+u1)/v1) ((u0*4294967296+u1)%v1):=by(
 have hv:=h.hi
 refine⟨(Nat.div_add_mod' _ _).symm,?_,?_⟩
 ·(
 rw[Nat.le_div_iff_mul_le (by omega)]
 have h1:=h.qif (S/W) (Nat.le_refl _)
 have h2:=h.hu2
 rw[Nat.mul_add,← Nat.mul_assoc] at h1
 omega)
 ·(
 have h1:=h.top
 have h2:=h.hu1
 have h3:(u0*4294967296+u1)/v1<4294967298:=by
  rw[Nat.div_lt_iff_lt_mul (by omega)]
  omega
 omega))
theorem zac.next {S W P u0 u1 u2 v1 v2 g r:Nat} (h:zgz S W P u0 u1 u2 v1 v2) (k:zac S W u0 u1 v1 g r) (hc:4294967295<g∨r*4294967296+u2<g*v2):0<g∧zac S W u0 u1 v1 (g-1) (r+v1):=by(
 have hq:S/W<g:=by
  rcases hc with hc | hc
  ·exact Nat.lt_of_lt_of_le h.qir hc
  ·rcases Nat.lt_or_ge (S/W) g with h1 | h1
   ·exact h1
   ·exfalso
    have h2:=h.qif g h1
    rw[k.eq,Nat.mul_add,← Nat.mul_assoc] at h2
    omega
 have h0:0<g:=Nat.lt_of_le_of_lt (Nat.zero_le _) hq
 refine⟨h0,?_,Nat.le_sub_one_of_lt hq,Nat.le_trans (Nat.sub_le _ _) k.le⟩
 have e:=k.eq
 obtain⟨p,rfl⟩:∃ p,g=p+1:=⟨g-1,by omega⟩
 rw[Nat.succ_mul] at e
 rw[Nat.add_sub_cancel]
 omega)
theorem zac.small {S W P u0 u1 u2 v1 v2 g r:Nat} (h:zgz S W P u0 u1 u2 v1 v2) (k:zac S W u0 u1 v1 g r) (hr:4294967296≤r):g≤4294967295∧g*v2≤r*4294967296+u2:=by(
 have h1:=h.top
 have h2:=h.hu1
 have e:=k.eq
 have hg:g≤4294967295:=by
  rcases Nat.lt_or_ge 4294967295 g with hc | hc
  ·exfalso
   have h3:4294967296*v1≤g*v1:=Nat.mul_le_mul_right _ hc
   omega
  ·exact hc
 refine⟨hg,?_⟩
 have h4:g*v2≤4294967295*4294967295:=Nat.mul_le_mul hg (by have:=h.hv2;omega)
 omega)
theorem zac.fin {S W P u0 u1 u2 v1 v2 g r:Nat} (h:zgz S W P u0 u1 u2 v1 v2) (k:zac S W u0 u1 v1 g r) (hg:g≤4294967295) (ht:g*v2≤r*4294967296+u2):g=S/W∨(g=S/W+1):=by(
 obtain⟨Sr,hs,hsr⟩:=h.s
 obtain⟨Wr,hw,hwr⟩:=h.w
 have hW:=h.pos.2
 have h1:g*(v1*4294967296+v2)≤(u0*4294967296+u1)*4294967296+u2:=by
  rw[k.eq,Nat.mul_add,← Nat.mul_assoc];omega
 have h2:g*(v1*4294967296+v2)*P≤((u0*4294967296+u1)*4294967296+u2)*P:=Nat.mul_le_mul_right _ h1
 have h3:g*Wr≤g*P:=Nat.mul_le_mul_left _ (by omega)
 have h4:g*P≤W:=by
  rw[hw]
  have:g*P≤(v1*4294967296+v2)*P:=Nat.mul_le_mul_right _ (by have:=h.hi;omega)
  omega
 have h5:g*W≤S+W:=by
  have:g*W=g*(v1*4294967296+v2)*P+g*Wr:=by rw[hw];grind
  omega
 have h6:g≤S/W+1:=by
  rcases Nat.eq_zero_or_pos g with h0 | h0
  ·rw[h0];exact Nat.zero_le _
  ·obtain⟨p,rfl⟩:∃ p,g=p+1:=⟨g-1,by omega⟩
   rw[Nat.succ_mul] at h5
   have:p≤S/W:=by rw[Nat.le_div_iff_mul_le hW];omega
   exact Nat.succ_le_succ this
 have h7:=k.ge
 generalize S/W=Q at *
 omega)
/-! ### taking away -/
structure Taken (us0 us vs:List Nat) (j k c d g:Nat):Prop where
 len:us.length=us0.length
 mem:∀ x ∈ us,x<4294967296
 car:c<4294967296
 bor:d≤1
 val:vl 4294967296 us+4294967296^j*(g*vl 4294967296 (vs.take k))=vl 4294967296 us0+4294967296^(j+k)*(c+d)
 same:∀ i,j+k≤i→us[i]?.getD 0=us0[i]?.getD 0
theorem Taken.start (us vs:List Nat) (j g:Nat) (hm:∀ x ∈ us,x<4294967296):Taken us us vs j 0 0 0 g :=
 ⟨rfl,hm,by omega,by omega,by simp[vl],fun _ _=>rfl⟩
theorem Taken.step {us0 us vs:List Nat} {j k c d g:Nat} (h:Taken us0 us vs j k c d g) (hk:j+k<us0.length) (hv:vs[k]?.getD 0<4294967296) (hg:g≤4294967295) (c1 s d':Nat) (hc1:c1=c+g*vs[k]?.getD 0) (hs:s<4294967296) (hd:d'≤1) (e:s+c1%4294967296+d=us[j+k]?.getD 0+4294967296*d'):Taken us0 (us.set (j+k) s) vs j (k+1) (c1/4294967296) d' g:=by(
 have hl:=h.len
 have hcc:c1<4294967296*4294967296:=by
  have:g*vs[k]?.getD 0≤4294967295*4294967295:=Nat.mul_le_mul hg (by omega)
  have:=h.car
  omega
 refine⟨by rw[List.length_set];exact hl,mem_set h.mem _ _ hs,Nat.div_lt_of_lt_mul hcc,hd,?_,fun i hi=>by rw[List.getElem?_set_ne (by omega)];exact h.same i (by omega)⟩
 have h1:=wo 4294967296 us (j+k) s (by omega)
 have h2:=h.val
 have h3:=Nat.div_add_mod c1 4294967296
 rw[vv,show j+(k+1)=j+k+1 from by omega,Nat.pow_succ,Nat.pow_add] at *
 generalize us[j+k]?.getD 0=u at *
 generalize vs[k]?.getD 0=v at *
 generalize vl 4294967296 (us.set (j+k) s)=A at *
 generalize vl 4294967296 us=B at *
 generalize vl 4294967296 us0=D at *
 generalize vl 4294967296 (vs.take k)=E at *
 generalize c1/4294967296=hi at *
 generalize c1%4294967296=lo at *
 generalize (4294967296:Nat)^j=P at *
 generalize (4294967296:Nat)^k=Q at *
 have e2:(s+lo+d)*(P*Q)=(u+4294967296*d')*(P*Q):=by rw[e]
 have e3:(4294967296*hi+lo)*(P*Q)=(c+g*v)*(P*Q):=by rw[h3,hc1]
 grind)
/-! ### adding back -/
structure zpq (us0 us vs:List Nat) (j k c:Nat):Prop where
 len:us.length=us0.length
 mem:∀ x ∈ us,x<4294967296
 car:c≤1
 val:vl 4294967296 us+4294967296^(j+k)*c=vl 4294967296 us0+4294967296^j*vl 4294967296 (vs.take k)
 same:∀ i,j+k≤i→us[i]?.getD 0=us0[i]?.getD 0
theorem zpq.start (us vs:List Nat) (j:Nat) (hm:∀ x ∈ us,x<4294967296):zpq us us vs j 0 0 :=
 ⟨rfl,hm,by omega,by simp[vl],fun _ _=>rfl⟩
theorem zpq.step {us0 us vs:List Nat} {j k c:Nat} (h:zpq us0 us vs j k c) (hk:j+k<us0.length) (hv:vs[k]?.getD 0<4294967296) (hu:us[j+k]?.getD 0<4294967296) (c1:Nat) (hc1:c1=c+(us[j+k]?.getD 0+vs[k]?.getD 0)):zpq us0 (us.set (j+k) (c1%4294967296)) vs j (k+1) (c1/4294967296):=by(
 have hl:=h.len
 refine⟨by rw[List.length_set];exact hl,mem_set h.mem _ _ (Nat.mod_lt _ (by omega)),by have:=h.car;omega,?_,fun i hi=>by rw[List.getElem?_set_ne (by omega)];exact h.same i (by omega)⟩
 have h1:=wo 4294967296 us (j+k) (c1%4294967296) (by omega)
 have h2:=h.val
 have h3:=Nat.div_add_mod c1 4294967296
 rw[vv,show j+(k+1)=j+k+1 from by omega,Nat.pow_succ,Nat.pow_add] at *
 generalize us[j+k]?.getD 0=u at *
 generalize vs[k]?.getD 0=v at *
 generalize vl 4294967296 (us.set (j+k) (c1%4294967296))=A at *
 generalize vl 4294967296 us=B at *
 generalize vl 4294967296 us0=D at *
 generalize vl 4294967296 (vs.take k)=E at *
 generalize c1/4294967296=hi at *
 generalize c1%4294967296=lo at *
 generalize (4294967296:Nat)^j=P at *
 generalize (4294967296:Nat)^k=Q at *
 have e3:(4294967296*hi+lo)*(P*Q)=(c+(u+v))*(P*Q):=by rw[h3,hc1]
 grind)
theorem zfq (us:List Nat) (m:Nat) (h:vl 4294967296 us<4294967296^m):∀ i,m≤i→us[i]?.getD 0=0:=fun i hi=>by
 rcases Nat.lt_or_ge i us.length with hl | hl
 ·have e:=ul 4294967296 us i hl
  rcases Nat.eq_zero_or_pos (us[i]?.getD 0) with h0 | h0
  ·exact h0
  ·exfalso
   have h1:4294967296^i*1≤4294967296^i*(us[i]?.getD 0+4294967296*vl 4294967296 (us.drop (i+1))):=Nat.mul_le_mul_left _ (by omega)
   have h2:4294967296^m≤4294967296^i:=Nat.pow_le_pow_right (by omega) hi
   omega
 ·rw[List.getElem?_eq_none hl];rfl
theorem nk (us:List Nat) (m:Nat) (hz:∀ i,m≤i→us[i]?.getD 0=0):vl 4294967296 (us.drop m)=0:=zav _ _ (fun j _=>by rw[List.getElem?_drop];exact hz _ (by omega))
theorem ni (us:List Nat) (m:Nat) (hm:m≤us.length):vl 4294967296 us=vl 4294967296 (us.take m)+4294967296^m*vl 4294967296 (us.drop m):=by(
 have:=congrArg (vl 4294967296) (List.take_append_drop m us)
 rw[zt,List.length_take,Nat.min_eq_left hm] at this
 exact this.symm)
theorem jq (us:List Nat) (m:Nat) (hm:m≤us.length) (hx:∀ x ∈ us,x<4294967296):vl 4294967296 (us.take m)<4294967296^m:=by(
 have:=fe (by omega:0<4294967296) (us.take m) (fun x h=>hx x (List.mem_of_mem_take h))
 rw[List.length_take,Nat.min_eq_left hm] at this
 exact this)
theorem zxc (us:List Nat) (m:Nat) (hm:m≤us.length) (hx:∀ x ∈ us,x<4294967296) (hz:∀ i,m≤i→us[i]?.getD 0=0):vl 4294967296 us<4294967296^m:=by
 rw[ni us m hm,nk us m hz,Nat.mul_zero,Nat.add_zero]
 exact jq us m hm hx
theorem zpy (us:List Nat) (m:Nat) (hm:m<us.length) (hz:∀ i,m+1≤i→us[i]?.getD 0=0):vl 4294967296 us=vl 4294967296 (us.take m)+4294967296^m*us[m]?.getD 0:=by
 rw[ni us m (by omega),j6 4294967296 us m hm,nk us (m+1) hz,Nat.mul_zero,Nat.add_zero]
theorem qfa (us vs:List Nat) (j n:Nat) (hn:vs.length=n+2) (hj:j+(n+2)<us.length) (hu:∀ x ∈ us,x<4294967296) (hv:∀ x ∈ vs,x<4294967296) (hlt:vl 4294967296 us<vl 4294967296 vs*4294967296^j*4294967296) (hhi:2147483648≤vs[n+1]?.getD 0) :
   zgz (vl 4294967296 us) (vl 4294967296 vs*4294967296^j) (4294967296^(j+n)) (us[j+(n+2)]?.getD 0) (us[j+(n+2)-1]?.getD 0) (us[j+(n+2)-2]?.getD 0) (vs[n+1]?.getD 0) (vs[n]?.getD 0):=by(
 have bu:=fun i=>bt hu (by omega:0<4294967296) i
 have bv:=fun i=>bt hv (by omega:0<4294967296) i
 have hV:=fe (by omega:0<4294967296) vs hv
 have hS:vl 4294967296 us<4294967296^(j+(n+2)+1):=by
  refine Nat.lt_of_lt_of_le hlt ?_
  rw[show 4294967296^(j+(n+2)+1)=4294967296^(n+2)*4294967296^j*4294967296 from by rw[← Nat.pow_add,← Nat.pow_succ];congr 1;omega]
  rw[hn] at hV
  exact Nat.mul_le_mul_right _ (Nat.mul_le_mul_right _ (Nat.le_of_lt hV))
 have hz:=zfq us _ hS
 refine⟨⟨vl 4294967296 (us.take (j+n)),?_,jq us _ (by omega) hu⟩,⟨vl 4294967296 (vs.take n)*4294967296^j,?_,?_⟩,hlt,hhi,bv _,bv _,bu _,bu _⟩
 ·rw[ni us (j+n) (by omega),j6 _ us (j+n) (by omega),j6 _ us (j+n+1) (by omega),j6 _ us (j+n+1+1) (by omega),nk us (j+n+1+1+1) (fun i hi=>hz i (by omega))]
  rw[show j+(n+2)=j+n+1+1 from by omega,show j+n+1+1-1=j+n+1 from by omega,show j+n+1+1-2=j+n from by omega]
  grind
 ·rw[ni vs n (by omega),j6 _ vs n (by omega),j6 _ vs (n+1) (by omega),nk vs (n+1+1) (fun i hi=>by rw[List.getElem?_eq_none (by omega)];rfl),Nat.pow_add]
  grind
 ·rw[Nat.pow_add,Nat.mul_comm (4294967296^j)]
  exact Nat.mul_lt_mul_of_pos_right (jq vs n (by omega) hv) (Nat.pow_pos (by omega)))
theorem ztb {us0 us vs:List Nat} {j n c d g u:Nat} (h:Taken us0 us vs j n c d g) (hn:vs.length=n) (hj:j+n<us0.length) (hu:us[j+n]?.getD 0=u) (hge:c+d≤u) (hg:vl 4294967296 us0/(vl 4294967296 vs*4294967296^j)≤g) (hW:0<vl 4294967296 vs*4294967296^j) :
   g=vl 4294967296 us0/(vl 4294967296 vs*4294967296^j)∧vl 4294967296 (us.set (j+n) (u-c-d))=vl 4294967296 us0%(vl 4294967296 vs*4294967296^j):=by(
 have h1:=wo 4294967296 us (j+n) (u-c-d) (by rw[h.len];exact hj)
 have h2:=h.val
 rw[hu] at h1
 rw[List.take_of_length_le (by omega)] at h2
 have e:vl 4294967296 (us.set (j+n) (u-c-d))+g*(vl 4294967296 vs*4294967296^j)=vl 4294967296 us0:=by
  obtain⟨z,hz⟩:∃ z,u=c+d+z:=⟨u-(c+d),by omega⟩
  rw[show u-c-d=z from by omega] at h1 ⊢
  subst hz
  generalize vl 4294967296 (us.set (j+n) z)=X at *
  generalize vl 4294967296 us=Y at *
  generalize vl 4294967296 us0=S at *
  generalize (4294967296:Nat)^(j+n)=Q at *
  generalize (4294967296:Nat)^j=P at *
  grind
 generalize vl 4294967296 vs*4294967296^j=W at *
 generalize vl 4294967296 us0=S at *
 have hq:g≤S/W:=by rw[Nat.le_div_iff_mul_le hW];omega
 have hqe:g=S/W:=Nat.le_antisymm hq hg
 refine⟨hqe,?_⟩
 have h3:=Nat.div_add_mod S W
 rw[← hqe,Nat.mul_comm] at h3
 omega)
theorem zta {us0 us vs:List Nat} {j n c d g u:Nat} (h:Taken us0 us vs j n c d g) (hn:vs.length=n) (hj:j+n<us0.length) (hu:us[j+n]?.getD 0=u) (hlt:u<c+d) (hg:g=vl 4294967296 us0/(vl 4294967296 vs*4294967296^j)∨g=vl 4294967296 us0/(vl 4294967296 vs*4294967296^j)+1) (hS:vl 4294967296 us0<4294967296^(j+n+1)) :
   g=vl 4294967296 us0/(vl 4294967296 vs*4294967296^j)+1∧vl 4294967296 (us.set (j+n) (u+4294967296-(c+d)))+vl 4294967296 vs*4294967296^j=vl 4294967296 us0%(vl 4294967296 vs*4294967296^j)+4294967296^(j+n+1)∧(∀ x ∈ us.set (j+n) (u+4294967296-(c+d)),x<4294967296)∧(∀ i,j+n+1≤i→(us.set (j+n) (u+4294967296-(c+d)))[i]?.getD 0=0):=by(
 have hc:=h.car
 have hd:=h.bor
 have hl:=h.len
 have hz:=zfq us0 _ hS
 have hm':∀ x ∈ us.set (j+n) (u+4294967296-(c+d)),x<4294967296:=mem_set h.mem _ _ (by omega)
 have hz':∀ i,j+n+1≤i→(us.set (j+n) (u+4294967296-(c+d)))[i]?.getD 0=0:=fun i hi=>by
  rw[List.getElem?_set_ne (by omega),h.same i (by omega)];exact hz i hi
 have hlt':=zxc (us.set (j+n) (u+4294967296-(c+d))) (j+n+1) (by rw[List.length_set,hl];omega) hm' hz'
 have h1:=wo 4294967296 us (j+n) (u+4294967296-(c+d)) (by rw[h.len];exact hj)
 have h2:=h.val
 rw[hu] at h1
 rw[List.take_of_length_le (by omega)] at h2
 have e:vl 4294967296 (us.set (j+n) (u+4294967296-(c+d)))+g*(vl 4294967296 vs*4294967296^j)=vl 4294967296 us0+4294967296^(j+n+1):=by
  obtain⟨z,hz⟩:∃ z,z+(c+d)=u+4294967296:=⟨u+4294967296-(c+d),by omega⟩
  rw[show u+4294967296-(c+d)=z from by omega] at h1 ⊢
  rw[Nat.pow_succ]
  generalize vl 4294967296 (us.set (j+n) z)=X at *
  generalize vl 4294967296 us=Y at *
  generalize vl 4294967296 us0=S at *
  generalize (4294967296:Nat)^(j+n)=Q at *
  generalize (4294967296:Nat)^j=P at *
  have e2:(z+(c+d))*Q=(u+4294967296)*Q:=by rw[hz]
  grind
 refine⟨?_,?_,hm',hz'⟩
 ·(
 rcases hg with hg | hg
 ·exfalso
  have h3:=Nat.div_mul_le_self (vl 4294967296 us0) (vl 4294967296 vs*4294967296^j)
  rw[← hg] at h3
  omega
 ·exact hg)
 ·(
 have hg':g=vl 4294967296 us0/(vl 4294967296 vs*4294967296^j)+1:=by
  rcases hg with hg | hg
  ·exfalso
   have h3:=Nat.div_mul_le_self (vl 4294967296 us0) (vl 4294967296 vs*4294967296^j)
   rw[← hg] at h3
   omega
  ·exact hg
 have h3:=Nat.div_add_mod (vl 4294967296 us0) (vl 4294967296 vs*4294967296^j)
 rw[hg',Nat.succ_mul] at e
 rw[Nat.mul_comm] at h3
 omega))
theorem qef {us0 us vs:List Nat} {j n c R W:Nat} (h:zpq us0 us vs j n c) (hn:vs.length=n) (hj:j+n<us0.length) (hz:∀ i,j+n+1≤i→us0[i]?.getD 0=0) (hW:W=vl 4294967296 vs*4294967296^j) (hWl:W≤4294967296^(j+n)) (hR:R<W) (e:vl 4294967296 us0+W=R+4294967296^(j+n+1)) :
   us[j+n]?.getD 0+c=4294967296∧vl 4294967296 (us.set (j+n) 0)=R:=by(
 have h2:=h.val
 have hl:=h.len
 rw[List.take_of_length_le (by omega)] at h2
 have hz':∀ i,j+n+1≤i→us[i]?.getD 0=0:=fun i hi=>by rw[h.same i (by omega)];exact hz i hi
 have ht:=zpy us (j+n) (by omega) hz'
 have hlo:=jq us (j+n) (by omega) h.mem
 have h1:=wo 4294967296 us (j+n) 0 (by omega)
 rw[Nat.zero_mul,Nat.add_zero] at h1
 generalize us[j+n]?.getD 0=t at *
 rw[Nat.pow_succ] at e
 rw[Nat.mul_comm (4294967296^j),← hW] at h2
 generalize vl 4294967296 (us.take (j+n))=L at *
 generalize vl 4294967296 (us.set (j+n) 0)=X at *
 generalize vl 4294967296 us=Y at *
 generalize vl 4294967296 us0=S at *
 generalize (4294967296:Nat)^(j+n)=Q at *
 have e2:L+Q*(t+c)=R+Q*4294967296:=by grind
 have htc:t+c=4294967296:=by
  rcases Nat.lt_trichotomy (t+c) 4294967296 with hc | hc | hc
  ·exfalso
   have:Q*(t+c+1)≤Q*4294967296:=Nat.mul_le_mul_left _ hc
   rw[Nat.mul_succ] at this
   omega
  ·exact hc
  ·exfalso
   have:Q*(4294967296+1)≤Q*(t+c):=Nat.mul_le_mul_left _ hc
   rw[Nat.mul_succ] at this
   omega
 refine⟨htc,?_⟩
 rw[htc] at e2
 have:t*Q=Q*t:=Nat.mul_comm _ _
 omega)
structure zsu (A V:Nat) (us qs:List Nat) (t:Nat):Prop where
 um:∀ x ∈ us,x<4294967296
 qm:∀ x ∈ qs,x<4294967296
 lt:vl 4294967296 us<V*4294967296^t
 zero:∀ j,j<t→qs[j]?.getD 0=0
 val:vl 4294967296 us+V*vl 4294967296 qs=A
theorem zsu.step {A V:Nat} {us us' qs:List Nat} {j q:Nat} (h:zsu A V us qs (j+1)) (hq:j<qs.length) (hq1:q=vl 4294967296 us/(V*4294967296^j)) (hV:0<V) (hm:∀ x ∈ us',x<4294967296) (hu:vl 4294967296 us'=vl 4294967296 us%(V*4294967296^j)):zsu A V us' (qs.set j q) j:=by(
 have hW:0<V*4294967296^j:=Nat.mul_pos hV (Nat.pow_pos (by omega))
 have hqB:q<4294967296:=by
  rw[hq1]
  refine Nat.div_lt_of_lt_mul ?_
  have:=h.lt
  rw[Nat.pow_succ,← Nat.mul_assoc] at this
  exact this
 refine⟨hm,mem_set h.qm _ _ hqB,by rw[hu];exact Nat.mod_lt _ hW,fun i hi=>by rw[List.getElem?_set_ne (by omega)];exact h.zero i (by omega),?_⟩
 rw[zjf _ qs j q hq (h.zero j (by omega)),hu]
 have h1:=Nat.div_add_mod (vl 4294967296 us) (V*4294967296^j)
 rw[← hq1] at h1
 have h2:=h.val
 generalize vl 4294967296 us%(V*4294967296^j)=R at *
 generalize vl 4294967296 us=S at *
 generalize vl 4294967296 qs=Z at *
 generalize (4294967296:Nat)^j=P at *
 grind)
theorem zsu.fin {A V:Nat} {us qs:List Nat} (h:zsu A V us qs 0):vl 4294967296 qs=A/V∧vl 4294967296 us=A%V:=by(
 have h1:=h.lt
 rw[Nat.pow_zero,Nat.mul_one] at h1
 have h2:=h.val
 have hV:0<V:=by omega
 constructor
 ·rw[← h2,Nat.add_mul_div_left _ _ hV,Nat.div_eq_of_lt h1,Nat.zero_add]
 ·rw[← h2,Nat.add_mul_mod_self_left,Nat.mod_eq_of_lt h1])
end Go.Proofs.YtagmkkiagjmimaaGreatDoor
