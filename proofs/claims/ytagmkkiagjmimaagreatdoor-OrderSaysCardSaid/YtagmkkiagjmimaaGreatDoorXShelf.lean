/- Contracts of the library at this program -/
import Derived.Shelf.Strconv.Itoa1
import Derived.Shelf.LaysM
import Derived.Shelf.Strconv.Itoa2
import Derived.Shelf.Small.Bits
import Derived.Test.YtagmkkiagjmimaaGreatDoorProg
import Derived.Laws.Bits64b
import Derived.Lib.ItoaNum
import Derived.Lib.ItoaMem
import Derived.Laws.IdiomStrings
import Derived.Test.YtagmkkiagjmimaaGreatDoorXNA
namespace Go.Proofs
set_option linter.unusedVariables false
open Go.Proofs.Tryz
open Go.Shelf
def Tryz.lays283_ren : Go.Shelf.Ren := ⟨fun | 283 => 218 | n => n, fun | 3 => 3 | 4 => 4 | 9 => 9 | n => n, fun | n => n⟩
theorem Tryz.lays283 : Go.Proofs.Lays.n283 Tryz.prog Tryz.lays283_ren := {
  mixed := by kernel_rfl
  f283 := Tryz.func218.trans (congrArg some (by kernel_rfl))
  t3 := Tryz.underlying3
  a3 := Tryz.isAgg3
  z3 := Tryz.sizeOf3
  v3 := Tryz.zeroValue3
  t4 := Tryz.underlying4
  a4 := Tryz.isAgg4
  z4 := Tryz.sizeOf4
  v4 := Tryz.zeroValue4
  t9 := Tryz.underlying9
  a9 := Tryz.isAgg9
  z9 := Tryz.sizeOf9
  v9 := Tryz.zeroValue9 }
open Go.Lib in
theorem Tryz.internal_strconv_small (i:Nat) (h:i<100) (w:World) :
  Calls prog 218 #[.int .i64 i] w fun e w'=>e=.returned (.string ⟨(Lib.decDigits i).toArray⟩)∧w'=w:=Any.internal_strconv_small Tryz.lays283 i h w
def Tryz.laysM284_ren : Go.Shelf.Ren := ⟨fun | 129 => 248 | 284 => 219 | 317 => 247 | 318 => 249 | n => n, fun | 0 => 0 | 3 => 3 | 4 => 4 | 5 => 5 | 9 => 9 | 46 => 207 | 53 => 24 | 212 => 281 | n => n, fun | 17 => 1 | n => n⟩
theorem Tryz.laysM284 : Go.Proofs.LaysM.n284 Tryz.prog Tryz.laysM284_ren := {
  mixed := by kernel_rfl
  f129 := Tryz.func248.trans (congrArg some (by kernel_rfl))
  f284 := Tryz.func219.trans (congrArg some (by kernel_rfl))
  f317 := Tryz.func247.trans (congrArg some (by kernel_rfl))
  f318 := Tryz.func249.trans (congrArg some (by kernel_rfl))
  t0 := Tryz.underlying0
  a0 := Tryz.isAgg0
  z0 := Tryz.sizeOf0
  v0 := Tryz.zeroValue0
  t3 := Tryz.underlying3
  a3 := Tryz.isAgg3
  z3 := Tryz.sizeOf3
  v3 := Tryz.zeroValue3
  t4 := Tryz.underlying4
  a4 := Tryz.isAgg4
  z4 := Tryz.sizeOf4
  v4 := Tryz.zeroValue4
  t5 := Tryz.underlying5
  a5 := Tryz.isAgg5
  z5 := Tryz.sizeOf5
  v5 := Tryz.zeroValue5
  t9 := Tryz.underlying9
  a9 := Tryz.isAgg9
  z9 := Tryz.sizeOf9
  v9 := Tryz.zeroValue9
  t46 := Tryz.underlying207
  a46 := Tryz.isAgg207
  z46 := Tryz.sizeOf207
  v46 := Tryz.zeroValue207
  t53 := Tryz.underlying24
  a53 := Tryz.isAgg24
  z53 := Tryz.sizeOf24
  v53 := Tryz.zeroValue24
  t212 := Tryz.underlying281
  a212 := Tryz.isAgg281
  z212 := Tryz.sizeOf281
  v212 := Tryz.zeroValue281
  g17 := by kernel_rfl
  m17 := by kernel_rfl
  i0 := by kernel_rfl
  i3 := by kernel_rfl
  i4 := by kernel_rfl
  i5 := by kernel_rfl
  i9 := by kernel_rfl
  i46 := by kernel_rfl
  i53 := by kernel_rfl
  i212 := by kernel_rfl }
open Go.Lib in
theorem Tryz.internal_strconv_numDigits (u:Nat) (h1:1≤u) (h2:u<18446744073709551616) (w:World) (htab:Lib.TabIs prog w "internal/strconv.uint64pow10" .u64 Lib.pow10Tab) :
  Calls prog 219 #[.int .u64 u] w fun e w'=>e=.returned (.int .i64 (Lib.nDigits u))∧w'=w:=Any.internal_strconv_numDigits Tryz.laysM284 u h1 h2 w htab
def Tryz.lays285_ren : Go.Shelf.Ren := ⟨fun | 285 => 220 | n => n, fun | 0 => 0 | 3 => 3 | 4 => 4 | 5 => 5 | 9 => 9 | 37 => 185 | 51 => 238 | 53 => 24 | n => n, fun | n => n⟩
theorem Tryz.lays285 : Go.Proofs.Lays.n285 Tryz.prog Tryz.lays285_ren := {
  mixed := by kernel_rfl
  f285 := Tryz.func220.trans (congrArg some (by kernel_rfl))
  t0 := Tryz.underlying0
  a0 := Tryz.isAgg0
  z0 := Tryz.sizeOf0
  v0 := Tryz.zeroValue0
  t3 := Tryz.underlying3
  a3 := Tryz.isAgg3
  z3 := Tryz.sizeOf3
  v3 := Tryz.zeroValue3
  t4 := Tryz.underlying4
  a4 := Tryz.isAgg4
  z4 := Tryz.sizeOf4
  v4 := Tryz.zeroValue4
  t5 := Tryz.underlying5
  a5 := Tryz.isAgg5
  z5 := Tryz.sizeOf5
  v5 := Tryz.zeroValue5
  t9 := Tryz.underlying9
  a9 := Tryz.isAgg9
  z9 := Tryz.sizeOf9
  v9 := Tryz.zeroValue9
  t37 := Tryz.underlying185
  a37 := Tryz.isAgg185
  z37 := Tryz.sizeOf185
  v37 := Tryz.zeroValue185
  t51 := Tryz.underlying238
  a51 := Tryz.isAgg238
  z51 := Tryz.sizeOf238
  v51 := Tryz.zeroValue238
  t53 := Tryz.underlying24
  a53 := Tryz.isAgg24
  z53 := Tryz.sizeOf24
  v53 := Tryz.zeroValue24 }
open Go.RowKit Go.Sort Go.Lib in
theorem Tryz.internal_strconv_formatBase10 (blk off cap:Nat) (u:Nat) (d:Array UInt8) (w:World) (hH:Holds (fun (b:UInt8)=>Value.int .u8 (b.toNat:Int)) w blk off d) (hu:u<10^d.size) (hu64:u<18446744073709551616) (hsz:d.size<4611686018427387904) :
  Calls prog 220 #[.slice (some ⟨blk,off,none⟩) d.size cap,.int .u64 u] w fun e w' =>
   e=.returned (.tuple #[])∧∃ (n v':Nat) (dk:Array UInt8),w'=(putRow (fun (b:UInt8)=>Value.int .u8 (b.toNat:Int)) w blk off dk).drewN n∧FmtInv d.size u 0 v' dk:=Any.internal_strconv_formatBase10 Tryz.lays285 blk off cap u d w hH hu hu64 hsz
def Tryz.lays125_ren : Go.Shelf.Ren := ⟨fun | 125 => 227 | 128 => 255 | 129 => 248 | n => n, fun | 3 => 3 | 4 => 4 | 5 => 5 | 9 => 9 | 46 => 207 | 51 => 238 | 53 => 24 | n => n, fun | n => n⟩
theorem Tryz.lays125 : Go.Proofs.Lays.n125 Tryz.prog Tryz.lays125_ren := {
  mixed := by kernel_rfl
  f125 := Tryz.func227.trans (congrArg some (by kernel_rfl))
  f128 := Tryz.func255.trans (congrArg some (by kernel_rfl))
  f129 := Tryz.func248.trans (congrArg some (by kernel_rfl))
  t3 := Tryz.underlying3
  a3 := Tryz.isAgg3
  z3 := Tryz.sizeOf3
  v3 := Tryz.zeroValue3
  t4 := Tryz.underlying4
  a4 := Tryz.isAgg4
  z4 := Tryz.sizeOf4
  v4 := Tryz.zeroValue4
  t5 := Tryz.underlying5
  a5 := Tryz.isAgg5
  z5 := Tryz.sizeOf5
  v5 := Tryz.zeroValue5
  t9 := Tryz.underlying9
  a9 := Tryz.isAgg9
  z9 := Tryz.sizeOf9
  v9 := Tryz.zeroValue9
  t46 := Tryz.underlying207
  a46 := Tryz.isAgg207
  z46 := Tryz.sizeOf207
  v46 := Tryz.zeroValue207
  t51 := Tryz.underlying238
  a51 := Tryz.isAgg238
  z51 := Tryz.sizeOf238
  v51 := Tryz.zeroValue238
  t53 := Tryz.underlying24
  a53 := Tryz.isAgg24
  z53 := Tryz.sizeOf24
  v53 := Tryz.zeroValue24 }
theorem Tryz.bits_Len (x:Int) (w:World) (h0:0≤x) (h1:x≤18446744073709551615) :
  Calls prog 227 #[.int .u64 x] w fun e w'=>e=.returned (.int .i64 (Lib.bitLen x.toNat))∧w'=w:=Any.bits_Len Tryz.lays125 x w h0 h1
end Go.Proofs
namespace Go.Proofs.YtagmkkiagjmimaaGreatDoor
open Go.Proofs.Tryz
open Go.RowKit
set_option maxHeartbeats 4000000
set_option maxRecDepth 100000
theorem qcb (a:Nat) (ha:a<9223372036854775808):bits .and .i64 (a:Int) 1=((a%2:Nat):Int):=by(
 have h1:(BitVec.ofInt 64 (a:Int)).toNat=a:=by
  rw[BitVec.ofInt_natCast,BitVec.toNat_ofNat];exact Nat.mod_eq_of_lt (by omega)
 have h2:(BitVec.ofInt 64 (1:Int)).toNat=1:=rfl
 show IntKind.i64.wrap ((BitVec.ofInt 64 (a:Int) &&& BitVec.ofInt 64 (1:Int)).toNat:Int)=_
 rw[BitVec.toNat_and,h1,h2,Nat.and_one_is_mod,IntKind.wrap_i64]
 omega)
theorem ziq (n i:Nat):n/2^i=2*(n/2^(i+1))+n/2^i%2:=by
 rw[Nat.pow_succ,← Nat.div_div_eq_div_mul];omega
theorem pow_even (X n i:Nat) (h:n/2^i%2=0):X^(n/2^(i+1))*X^(n/2^(i+1))=X^(n/2^i):=by
 rw[ziq n i,h,← Nat.pow_add];congr 1;omega
theorem pow_odd (X n i:Nat) (h:n/2^i%2=1):X^(n/2^(i+1))*X^(n/2^(i+1))*X=X^(n/2^i):=by
 rw[ziq n i,h,← Nat.pow_add,← Nat.pow_succ];congr 1;omega
theorem zyw (n:Nat) (h:n < 18446744073709551616):n<2^Lib.bitLen n∧Lib.bitLen n≤64:=by(
 by_cases h0:n=0
 ·subst h0;exact⟨by decide,by decide⟩
 ·exact⟨(Lib.bitLenAux_bounds 64 n h h0).2.2,Lib.bitLen_le n 64 (by omega) h⟩)
theorem zuy (v:Value) (X n:Nat) (w:World) (hv:Sl .u64 w v (wd 18446744073709551616 X)) (hX:0<X) (hn:n<2147483648) (hl:(wd 18446744073709551616 X).length+(wd 18446744073709551616 (X^n)).length<67108864) :
   Calls prog 190 #[v,.int .i64 (n:Int)] w fun e w'=>∃ v',e=.returned v'∧Sl .u64 w' v' (wd 18446744073709551616 (X^n))∧But [] w w':=by(
 obtain⟨L,hL⟩:∃ L,L=Lib.bitLen n:=⟨_,rfl⟩
 have hb:=zyw n (by omega)
 have BL:=af (fun W=>Tryz.bits_Len (n:Int) W (by omega) (by omega))
 rw[Int.toNat_natCast,← hL] at BL
 rw[← hL] at hb
 obtain⟨hb1,hb2⟩:=hb
 have hlen:Hid (∀ i,(wd 18446744073709551616 (X^(n/2^i))).length<67108864∧(wd 18446744073709551616 X).length+(wd 18446744073709551616 (X^(n/2^i))).length<67108864):=fun i=>by
  have:=aw (Nat.pow_le_pow_right hX (Nat.div_le_self n (2^i)))
  omega
 have hlen2:Hid (∀ i,(wd 18446744073709551616 (X^(n/2^(i+1))*X^(n/2^(i+1)))).length+(wd 18446744073709551616 X).length<67108864):=fun i=>by
  rw[← Nat.pow_add]
  have h3:=ziq n i
  have h4:=Nat.div_le_self n (2^i)
  have:=aw (Nat.pow_le_pow_right hX (show n/2^(i+1)+n/2^(i+1)≤n from by omega))
  omega
 have HV:=af hv
 have hdiv:n/2^L=0:=Nat.div_eq_of_lt hb1
 have hst:Hid ((1:Nat)=X^(n/2^L)):=by show _=_;rw[hdiv,Nat.pow_zero]
 clear hv hl hdiv hb1 hL
 obtain⟨xa,xc,rfl,-,-⟩:=ae HV
 generalize hnx:(wd 18446744073709551616 X).length=nx at *
 have HNX:=af hnx
 clear hnx
 go_enter func190,ntmps190
 go_wp2_with fail
 refine (oq 1 (by omega) _).mono ?_
 rintro e w1 ⟨v1,rfl,hv1,hb1,-⟩
 have H1:=af hv1
 have B1:=af hb1
 clear hv1 hb1
 go_wp2_with fail
 refine (ae BL _).mono ?_
 rintro e w2 ⟨rfl,hw⟩
 obtain rfl:=hw.symm
 clear hw
 go_wp2
 go_loopw [5,6] (fun o i wr=>∃ k:Nat,k≤L∧i=.int .i64 ((k:Int)-1)∧Hid (Sl .u64 wr o (wd 18446744073709551616 (X^(n/2^k)))∧But [] w wr)) (fun _ i _=>(intOf i+1).toNat)
 case atStart=>exact⟨L,Nat.le_refl _,rfl,by rw[← ae hst];exact ae H1,ae B1⟩
 case round =>(
 obtain⟨k,hk,rfl,HI⟩:=hrel
 rename World=>wr
 by_cases hk0:k=0
 ·(
 subst hk0
 go_wp2
 go_ret
 have h:=(ae HI).1
 rw[Nat.pow_zero,Nat.div_one] at h
 exact⟨_,rfl,h,(ae HI).2⟩)
 ·(
 obtain⟨i,rfl⟩:∃ i,k=i+1:=⟨k-1,by omega⟩
 rw[show (((i+1:Nat):Int)-1)=(i:Int) from by omega]
 have hq:n/2^i<9223372036854775808:=by have:=Nat.div_le_self n (2^i);omega
 have E1:bits .and .i64 ((n:Int)/2^i) 1=((n/2^i%2:Nat):Int):=by
  have e:(n:Int)/2^i=((n/2^i:Nat):Int):=by simp
  rw[e,qcb _ hq]
 obtain⟨a,c,ho⟩:∃ a c,u5=.slice a (wd 18446744073709551616 (X^(n/2^(i+1)))).length c:=by obtain⟨a,c,e,-,-⟩:=(ae HI).1;exact⟨a,c,e⟩
 have MU:=af (xq u5 u5 _ _ wr (ae HI).1 (ae HI).1 (by have:=(ae hlen (i+1)).1;omega))
 have L2:=af (ae hlen2 i)
 subst ho
 generalize hm:(wd 18446744073709551616 (X^(n/2^(i+1)))).length=m at *
 clear hm
 rcases Nat.mod_two_eq_zero_or_one (n/2^i) with hpar | hpar
 ·(
 have e1:(((n/2^i%2:Nat):Int)==1)=false:=by rw[hpar];rfl
 have EV:=af (pow_even X n i hpar)
 generalize n/2^i%2=b at *
 go_wp2_with fail
 refine (ae MU).mono ?_
 rintro e w3 ⟨v3,rfl,hv3,hb3,-⟩
 rw[ae EV] at hv3
 have H3:=af hv3
 have B3:Hid (But [] w w3):=(ae HI).2.trans' hb3
 clear hv3 hb3
 go_wp2
 refine⟨⟨i,by omega,rfl,ae H3,ae B3⟩,?_⟩
 simp[intOf])
 ·(
 have e1:(((n/2^i%2:Nat):Int)==1)=true:=by rw[hpar];rfl
 have EV:=af (pow_odd X n i hpar)
 generalize n/2^i%2=b at *
 go_wp2_with fail
 refine (ae MU).mono ?_
 rintro e w3 ⟨v3,rfl,hv3,hb3,-⟩
 have B3:Hid (But [] w w3):=(ae HI).2.trans' hb3
 have MX:=af (xq v3 (.slice xa nx xc) _ X w3 hv3 ((ae HV).ah (ae B3)) (by rw[ae HNX];have:=ae L2;omega))
 obtain⟨a3,c3,e3,-,-⟩:=hv3
 subst e3
 clear hb3
 rw[ae EV] at MX
 generalize (wd 18446744073709551616 (X^(n/2^(i+1))*X^(n/2^(i+1)))).length=m3 at *
 go_wp2_with fail
 refine (ae MX).mono ?_
 rintro e w4 ⟨v4,rfl,hv4,hb4,-⟩
 have H4:=af hv4
 have B4:Hid (But [] w w4):=(ae B3).trans' hb4
 clear hv4 hb4
 go_wp2
 refine⟨⟨i,by omega,rfl,ae H4,ae B4⟩,?_⟩
 simp[intOf]))))
open Go.RowKit Go.Sort Go.Lib
theorem holds_zero0 (w:World) (T:TypeId) (nd:Nat) (hs:nd≤24):Holds (fun (b:UInt8)=>Value.int .u8 (b.toNat:Int)) (w.alloc (.cells zeros24 T)) w.heap.size 0 (Array.replicate nd (0:UInt8)):=fun j hj=>by
 rw[Array.size_replicate] at hj
 refine⟨?_,by simp⟩
 rw[World.cell?_alloc_new,zeros24_at _ (by omega),getElem!_pos _ j (by rw[Array.size_replicate];exact hj)]
 simp
theorem zlu (u:Nat) (hu:u<18446744073709551616) (w:World) (htab:Lib.TabIs prog w "internal/strconv.uint64pow10" .u64 Lib.pow10Tab) (t:ByteArray) (ht:Hid (t=⟨(Lib.decDigits u).toArray⟩)) :
   Calls prog 187 #[.int .u64 u,.int .i64 10] w fun e w'=>e=.returned (.string t)∧But [] w w':=by(
 by_cases hs:u<100
 ·(
 have H:=af htab
 clear htab
 go_enter func187,ntmps187
 go_wp2_with fail
 refine (Tryz.internal_strconv_small u hs _).mono ?_
 rintro e w1 ⟨rfl,hw⟩
 obtain rfl:=hw.symm
 clear hw
 rw[← ae ht]
 clear ht
 go_wp2
 go_ret
 exact⟨rfl,But.refl _ _⟩)
 ·(
 have hu1:1≤u:=by omega
 have hnd20:Lib.nDigits u≤20:=by have:=Lib.numDigits_eq u hu1 hu;split at this <;> omega
 have H:=af htab
 clear htab
 go_enter func187,ntmps187
 go_wp2_with fail
 refine (Tryz.internal_strconv_numDigits u hu1 hu _ (Lib.tabIs_alloc (ae H) _)).mono ?_
 rintro e w1 ⟨rfl,hw⟩
 obtain rfl:=hw.symm
 clear hw
 have hH0:=holds_zero0 w 256 (Lib.nDigits u) (by omega)
 have hfmt:=af (Tryz.internal_strconv_formatBase10 w.heap.size 0 24 u (Array.replicate (Lib.nDigits u) 0) (w.alloc (.cells Lib.zeros24 256)) hH0 (by rw[Array.size_replicate];exact Lib.lt_pow_nDigits u) hu (by rw[Array.size_replicate];omega))
 rw[Array.size_replicate] at hfmt
 have HH:=af hH0
 clear hH0
 have hnl:=Lib.decDigits_length u
 have HND:=af hnl
 clear hnl
 generalize hndd:Lib.nDigits u=nd at *
 have HE:=af hndd
 clear hndd
 have hal:prog.arrayLen 256 = 24:=by kernel_rfl
 have hsl:∀ W,(Instr.sliceAt 256 (.pointer (some ⟨w.heap.size,0,none⟩)) none (some (.int .i64 (nd:Int))) none).run prog W=.ok (.slice (some ⟨w.heap.size,0,none⟩) nd 24) W:=fun W=>by
  rw[run_sliceAt_array_h W 256 ⟨w.heap.size,0,none⟩ (by kernel_rfl) .i64 (nd:Int) (by omega) (by rw[hal];omega)]
  go_simp
 go_wp2_with fail
 refine (ae hfmt).mono ?_
 rintro e w1 ⟨rfl,k,v',dk,hw1,hF⟩
 have hF':FmtInv (Lib.nDigits u) u 0 v' dk:=by rw[ae HE];exact hF
 have hcv:(convert 185 9 (.slice (some ⟨w.heap.size,0,none⟩) nd 24)).run prog w1=.ok (.string t) w1:=by
  have h:=run_convert_bytes_back (P:=prog) w1 185 9 5 ⟨w.heap.size,0,none⟩ 24 (Lib.decDigits u) underlying185 underlying5 underlying9 (fun j hj=>by
   rw[Lib.row_is_numeral hF' j hj,Lib.add_plain,hw1,World.cell?_drewN]
   exact cell?_putRow (fun (b:UInt8)=>Value.int .u8 (b.toNat:Int)) _ w.heap.size 0 _ dk (ae HH) (by rw[hF.size,Array.size_replicate]) j (by rw[hF.size];rw[ae HND] at hj;exact hj))
  rw[ae HND,← ae ht] at h
  exact h
 have hB:But [] w w1:=by
  rw[hw1,alloc_eq_grow]
  obtain⟨os',_,e⟩:=putRow_grow_new (fun (b:UInt8)=>Value.int .u8 (b.toNat:Int)) w #[.cells Lib.zeros24 256] w.heap.size 0 dk (Nat.le_refl _)
  rw[e]
  have hg:But [] w (grow w os'):=⟨rfl,rfl,rfl,by show w.heap.size≤(w.heap++os').size;rw[Array.size_append];omega,fun k hk _=>Array.getElem?_append_left hk⟩
  exact hg.drewN k
 clear hw1 hF hF' HH HND HE hfmt
 go_wp2
 go_ret
 exact⟨rfl,hB⟩))
theorem zeh (u:Nat) (hu:u<18446744073709551616) (w:World) (htab:Lib.TabIs prog w "internal/strconv.uint64pow10" .u64 Lib.pow10Tab) (t:ByteArray) (ht:Hid (t=⟨(Lib.decDigits u).toArray⟩)) :
   Calls prog 142 #[.int .u64 u,.int .i64 10] w fun e w'=>e=.returned (.string t)∧But [] w w':=by(
 have H:=af htab
 clear htab
 go_enter func142,ntmps142
 go_wp2_with fail
 refine (zlu u hu _ (ae H) t ht).mono ?_
 rintro e w1 ⟨rfl,hb⟩
 go_wp2
 go_ret
 exact⟨rfl,hb⟩)
end Go.Proofs.YtagmkkiagjmimaaGreatDoor
